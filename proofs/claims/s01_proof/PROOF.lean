import PyProof.Rows.All
import Wide.All
import OpenK.AllK
import Wide.FinOn
import Open.SpecLaws
import KE.OsGo
import HandS.ForSpec
import HandS.Comp
import HandS.Iter
import HandS.Evl
import HandS.Wide
import HandS.TupSets
import HandS.CallLocal
import HandS.Conv
import HandS.Words
import KE.GoesEnumKw
import PyProof.Rows.CallKw2
import PyFlatLaws
import HandS.Walk
import PySem.Challenge.RW_pointsayings_s01_answers
set_option Elab.async false
set_option linter.all false
set_option maxRecDepth 100000
set_option maxHeartbeats 4000000
/-! M0: rules and small lemmas over the hand layer, of no program. -/
namespace My
open PySem PySem.Spec PyProof.Rows L2
open Evl (Ev EvL EvU EvT EvA EvO Ex RV RU RC RCL SpV SpL)

/-! ### operators -/
def CDivG (_ j : Int) : Prop := j ≠ 0 ∧ j.natAbs.log2 < 9000
theorem op_fdivG {X : Cx} : OpR X (binaryOp .FloorDiv) (rI CDivG fun i j => .int (i.fdiv j)) := opI fun _ _ _ _ _ _ _ hc q => floordiv_int hc.1 q (.inl (PyProof.noPylong_of_log2 hc.2))
abbrev oAdd : R2 := rI0 fun i j => .int (i + j)
abbrev oSub : R2 := rI0 fun i j => .int (i - j)
abbrev oMul : R2 := rI CMulW fun i j => .int (i * j)
abbrev oMod : R2 := rI (fun _ j => j ≠ 0) fun i j => .int (i.fmod j)
abbrev oDiv : R2 := rI CDivG fun i j => .int (i.fdiv j)
abbrev oPow : R2 := rI CPow fun i j => .int (i ^ j.toNat)
abbrev oLt : R2 := rI0 fun i j => .bl (decide (i < j))
abbrev oLe : R2 := rI0 fun i j => .bl (decide (i ≤ j))
abbrev oGt : R2 := rI0 fun i j => .bl (decide (j < i))
abbrev oGe : R2 := rI0 fun i j => .bl (decide (j ≤ i))
abbrev oNeg : V → Hp → VK → Prop := rU fun i => .int (-i)
abbrev rAbs : List V → Hp → VK → Prop := fun xs H Q => ∃ i, xs = [.int i] ∧ Q (.int (if i < 0 then -i else i)) H
abbrev rMin2 : List V → Hp → VK → Prop := fun xs H Q => ∃ i j, xs = [.int i, .int j] ∧ Q (.int (if j < i then j else i)) H

/-! ### bounds by bits -/
/-- below 2 ^ a in size -/
def Bd (a : Nat) (i : Int) : Prop := i.natAbs < 2 ^ a
theorem Bd.mul {a b : Nat} {i j : Int} (ha : Bd a i) (hb : Bd b j) : Bd (a + b) (i * j) := wide_lt ha hb
theorem Bd.le {a b : Nat} {i : Int} (ha : Bd a i) (h : a ≤ b) : Bd b i := Nat.lt_of_lt_of_le ha (Nat.pow_le_pow_right (by decide) h)
theorem pow_succ2 (a : Nat) : (2 : Nat) ^ (a + 1) = 2 ^ a + 2 ^ a := by rw [Nat.pow_succ]; omega
theorem Bd.add' {a : Nat} {i j : Int} (ha : Bd a i) (hb : Bd a j) : Bd (a + 1) (i + j) := by
  have h := pow_succ2 a
  unfold Bd at *
  omega
theorem Bd.sub' {a : Nat} {i j : Int} (ha : Bd a i) (hb : Bd a j) : Bd (a + 1) (i - j) := by
  have h := pow_succ2 a
  unfold Bd at *
  omega
theorem Bd.add {a b : Nat} {i j : Int} (ha : Bd a i) (hb : Bd b j) : Bd (max a b + 1) (i + j) := (ha.le (Nat.le_max_left a b)).add' (hb.le (Nat.le_max_right a b))
theorem Bd.sub {a b : Nat} {i j : Int} (ha : Bd a i) (hb : Bd b j) : Bd (max a b + 1) (i - j) := (ha.le (Nat.le_max_left a b)).sub' (hb.le (Nat.le_max_right a b))
theorem Bd.neg {a : Nat} {i : Int} (ha : Bd a i) : Bd a (-i) := by
  unfold Bd at *
  omega
theorem Bd.cmul {a b : Nat} {i j : Int} (ha : Bd a i) (hb : Bd b j) (h : a + b < 999998) : CMulW i j := by
  have h1 := ha.le (Nat.le_succ a)
  have h2 := hb.le (Nat.le_succ b)
  exact wide_mul h1 h2 (Nat.succ_pos _) (Nat.succ_pos _) (by omega)
theorem Bd.cdiv {b : Nat} {i j : Int} (h0 : j ≠ 0) (hb : Bd b j) (h : b < 9000) : CDivG i j :=
  ⟨h0, Nat.lt_of_lt_of_le (PySem.Flt.log2_lt_of (Nat.succ_pos b) (hb.le (Nat.le_succ b))) h⟩
/-- by a plain bound -/
theorem Bd.of {a : Nat} {i : Int} (n : Nat) (h : -(n : Int) ≤ i ∧ i ≤ n) (hn : n < 2 ^ a) : Bd a i := by
  unfold Bd
  omega

/-! ### an int that evaluates, with its bound -/
structure EvB (te : TE) (σ : L2.St) (H : Hp) (a : Nat) (i : Int) : Prop where
  ev : Ev te σ H (.int i)
  bd : Bd a i
section
variable {K : PySem.W.Frag} {σ : L2.St} {H H' : Hp} {ta tb te : TE} {a b : Nat} {i j : Int}
theorem eb_var {k : Nat} (h : σ[k]? = some (some (.int i))) (hb : Bd a i) : EvB (tVar k) σ H a i := ⟨Evl.ev_var h, hb⟩
theorem eb_c (hb : Bd a i) : EvB (tC (.int i)) σ H a i := ⟨Evl.ev_c, hb⟩
theorem eb_add (ha : EvB ta σ H a i) (hb : EvB tb σ H b j) : EvB (tOp oAdd ta tb) σ H (max a b + 1) (i + j) := ⟨Evl.ev_op ha.ev hb.ev Evl.rv_I0, ha.bd.add hb.bd⟩
theorem eb_sub (ha : EvB ta σ H a i) (hb : EvB tb σ H b j) : EvB (tOp oSub ta tb) σ H (max a b + 1) (i - j) := ⟨Evl.ev_op ha.ev hb.ev Evl.rv_I0, ha.bd.sub hb.bd⟩
theorem eb_mul (ha : EvB ta σ H a i) (hb : EvB tb σ H b j) (h : a + b < 999998 := by decide) : EvB (tOp oMul ta tb) σ H (a + b) (i * j) := ⟨Evl.ev_op ha.ev hb.ev (Evl.rv_I (ha.bd.cmul hb.bd h)), ha.bd.mul hb.bd⟩
theorem eb_neg (ha : EvB ta σ H a i) : EvB (tUn oNeg ta) σ H a (-i) := ⟨Evl.ev_un ha.ev Evl.ru_neg, ha.bd.neg⟩
theorem eb_ixT {p : Addr} {xs : List V} {n : Nat} (ha : Ev ta σ H (.ref p)) (h : SqT K H p xs) (hx : xs[n]? = some (.int i)) (hb : Bd a i) : EvB (tOp (rIxT K) ta (tC (.int (n : Int)))) σ H a i :=
  ⟨Evl.ev_op ha Evl.ev_c (Evl.rv_ixT h (atI_nat hx)), hb⟩
theorem eb_ixL {p : Addr} {xs : List V} {n : Nat} (ha : Ev ta σ H (.ref p)) (h : SqL K H p xs) (hx : xs[n]? = some (.int i)) (hb : Bd a i) : EvB (tOp (rIxL K) ta (tC (.int (n : Int)))) σ H a i :=
  ⟨Evl.ev_op ha Evl.ev_c (Evl.rv_ixL h (atI_nat hx)), hb⟩
theorem ev_ixT {p : Addr} {xs : List V} {n : Nat} {v : V} (ha : Ev ta σ H (.ref p)) (h : SqT K H p xs) (hx : xs[n]? = some v) : Ev (tOp (rIxT K) ta (tC (.int (n : Int)))) σ H v :=
  Evl.ev_op ha Evl.ev_c (Evl.rv_ixT h (atI_nat hx))
theorem ev_ixL {p : Addr} {xs : List V} {n : Nat} {v : V} (ha : Ev ta σ H (.ref p)) (h : SqL K H p xs) (hx : xs[n]? = some v) : Ev (tOp (rIxL K) ta (tC (.int (n : Int)))) σ H v :=
  Evl.ev_op ha Evl.ev_c (Evl.rv_ixL h (atI_nat hx))
theorem ev_lenS {p : Addr} {xs : List V} (ha : Ev ta σ H (.ref p)) (h : SqL K H p xs ∨ SqT K H p xs) : Ev (tCB (Evl.rLenS K) (tCons ta tNil)) σ H (.int (xs.length : Int)) := fun H1 e Q q =>
  ha H1 e _ fun H2 e2 => ⟨p, xs, rfl, h.elim (fun z => .inl (Evl.ex_l (e.trans e2) z)) (fun z => .inr (Evl.ex_t (e.trans e2) z)), q H2 e2⟩
theorem ev_abs (ha : Ev ta σ H (.int i)) : Ev (tCB rAbs (tCons ta tNil)) σ H (.int (i.natAbs : Int)) := fun H1 e Q q =>
  ha H1 e _ fun H2 e2 => ⟨i, rfl, by
    have e0 : (if i < 0 then -i else i) = (i.natAbs : Int) := by split <;> omega
    rw [e0]
    exact q H2 e2⟩
theorem ev_lt (ha : Ev ta σ H (.int i)) (hb : Ev tb σ H (.int j)) : Ev (tOp oLt ta tb) σ H (.bl (decide (i < j))) := Evl.ev_op ha hb Evl.rv_I0
theorem ev_le (ha : Ev ta σ H (.int i)) (hb : Ev tb σ H (.int j)) : Ev (tOp oLe ta tb) σ H (.bl (decide (i ≤ j))) := Evl.ev_op ha hb Evl.rv_I0
theorem ev_gt (ha : Ev ta σ H (.int i)) (hb : Ev tb σ H (.int j)) : Ev (tOp oGt ta tb) σ H (.bl (decide (j < i))) := Evl.ev_op ha hb Evl.rv_I0
theorem ev_ge (ha : Ev ta σ H (.int i)) (hb : Ev tb σ H (.int j)) : Ev (tOp oGe ta tb) σ H (.bl (decide (j ≤ i))) := Evl.ev_op ha hb Evl.rv_I0
theorem decV {i j : Int} : decide (V.int i = V.int j) = decide (i = j) := by
  by_cases h : i = j
  · rw [h]; simp
  · rw [decide_eq_false h, decide_eq_false (fun e => h (V.int.inj e))]
theorem ev_eq (ha : Ev ta σ H (.int i)) (hb : Ev tb σ H (.int j)) : Ev (tOp rEq ta tb) σ H (.bl (decide (i = j))) := by
  rw [← decV]
  exact Evl.ev_op ha hb (Evl.rv_eq rfl)
theorem ev_ne (ha : Ev ta σ H (.int i)) (hb : Ev tb σ H (.int j)) : Ev (tOp rNe ta tb) σ H (.bl (!decide (i = j))) := by
  rw [← decV]
  exact Evl.ev_op ha hb (Evl.rv_ne rfl)
theorem ev_chain {tc : TE} {r r' : R2} {x y z : V} {k k' : Bool} (ha : Ev ta σ H x) (hb : Ev tb σ H y) (hc : Ev tc σ H z) (h1 : RV r x y H (.bl k)) (h2 : RV r' y z H (.bl k')) : Ev (tChain r r' ta tb tc) σ H (.bl (k && k')) := fun H1 e Q q =>
  ha H1 e _ fun H2 e2 => hb H2 (e.trans e2) _ fun H3 e3 => h1 H3 ((e.trans e2).trans e3) _ fun H4 e4 => ⟨k, rfl, by
    cases k with
    | false =>
      show Q (.bl false) H4
      exact q H4 ((e2.trans e3).trans e4)
    | true =>
      show tc σ H4 fun w' H4 => r' y w' H4 Q
      exact hc H4 (((e.trans e2).trans e3).trans e4) _ fun H5 e5 => h2 H5 ((((e.trans e2).trans e3).trans e4).trans e5) Q fun H6 e6 => q H6 ((((e2.trans e3).trans e4).trans e5).trans e6)⟩
/-- an attribute -/
theorem ev_fld {p C dx : Addr} {fs : List (Str × V)} {f : Str} {v : V} (ha : Ev ta σ H (.ref p)) (ho : H p = some (.ins C dx fs)) (hc : Cls K C) (hn : NoAttr K C f) (hl : fs.lookup f = some v) : Ev (tFld K ta f) σ H v := fun H1 e Q q =>
  ha H1 e _ fun H2 e2 => ⟨p, C, dx, fs, v, rfl, e2 _ _ (e _ _ ho), hc, hn, hl, q H2 e2⟩
end
/-! ### promises' shapes -/
def RetU (xs : List V) (H : Hp) (Q : VK) : Prop := ∀ p H2, H p = none → Ex H H2 → H2 p = some (.tup xs) → Q (.ref p) H2
def SpU (sp : Sp) (vs : List V) (H : Hp) (xs : List V) : Prop := ∀ H1, Ex H H1 → ∀ Q : VK, (∀ p H2, H1 p = none → Ex H1 H2 → H2 p = some (.tup xs) → Q (.ref p) H2) → ∀ E : XK, sp vs H1 Q E
theorem eu_call {σ : L2.St} {H : Hp} {sp : Sp} {dvs vs xs : List V} {E : XK} {ta : TA} (h : EvA ta σ H vs) (hs : SpU sp (vs ++ dvs) H xs) : EvU (tCall sp dvs E ta) σ H xs := fun H1 e Q q =>
  h H1 e _ fun H2 e2 => hs H2 (e.trans e2) Q (fun p H3 hp e3 h3 => q p H3 (Evl.fresh_back e2 hp) (e2.trans e3) h3) E
end My

set_option Elab.async false
set_option linter.all false
set_option maxRecDepth 100000
set_option maxHeartbeats 4000000
/-! M0b: comprehensions, any, all, bounds handed on. -/
namespace My
open PySem PySem.Spec PyProof.Rows L2
open Evl (Ev EvL EvU EvT EvA EvO Ex RV RU RC RCL SpV SpL)
theorem nb_t {b : Bool} (h : (!b) = true) : b = false := by cases b <;> simp_all
theorem nb_f {b : Bool} (h : (!b) = false) : b = true := by cases b <;> simp_all
section
variable {K : PySem.W.Frag} {σ : L2.St} {H H' : Hp} {ta tb te tl : TE} {D : Ends} {tz : TS}
theorem et_yes : EvT tYes σ H true := fun H1 _ _ q => q H1 (Ex.refl H1)
theorem wipe1 (j : Nat) (x : V) : wipe ((wipe σ [j]).set j (some x)) [j] = wipe σ [j] := by
  show ((σ.set j none).set j (some x)).set j none = σ.set j none
  rw [List.set_set, List.set_set]
/-- a word whose int is handed on with its bound -/
theorem q_asgB {a i : Nat} {z : Int} (h : EvB te σ H a z) (k : ∀ H1, Ex H H1 → Bd a z → tz D (σ.set i (some (.int z))) H1) : tSeq (tAsg te (gName i)) tz D σ H := Evl.q_asg h.ev fun H1 e => k H1 e h.bd
theorem s_asgB {a i : Nat} {z : Int} (h : EvB te σ H a z) (k : ∀ H1, Ex H H1 → Bd a z → D.nx (σ.set i (some (.int z))) H1) : tAsg te (gName i) D σ H := Evl.s_asg h.ev fun H1 e => k H1 e h.bd
/-- [e for x in xs] -/
theorem el_map {a : Addr} {xs : List V} {j : Nat} (f : V → V) (h : Ev tl σ H (.ref a)) (hx : SqL K H a xs) (hz : xs.length ≤ 40000)
    (he : ∀ x ∈ xs, ∀ H1, Ex H H1 → Ev te ((wipe σ [j]).set j (some x)) H1 (f x)) : EvL (tLc (iList K tl) (gName j) tYes te [j]) σ H (xs.map f) := by
  have g := Evl.el_lcL (te := te) (t := tYes) (j := j) (vs := [j]) (fun _ => true) (fun i => f (xs.getD i .non)) h hx hz (wipe1 j) (fun _ _ H1 _ _ => et_yes) (fun i x H1 e hi _ => by
    have hm : x ∈ xs := List.mem_of_getElem? hi
    have hd : xs.getD i .non = x := by simp [List.getD, hi]
    rw [hd]
    exact he x hm H1 e)
  have e : Evl.given xs.length (fun _ => true) (fun i => f (xs.getD i .non)) = xs.map f := by
    unfold Evl.given
    rw [List.filter_eq_self.mpr (fun _ _ => rfl)]
    apply List.ext_getElem
    · simp
    · intro i h1 h2
      simp at h1 h2
      simp [h1]
  rw [e] at g
  exact g
theorem ev_any {bs : List Bool} (h : EvL te σ H (bs.map V.bl)) : Ev (tCB (rAny K) (tCons te tNil)) σ H (.bl (bs.any id)) := fun H1 e Q q =>
  h H1 e _ fun p H2 _ e2 hp => ⟨p, bs, rfl, Evl.sq_of hp, q H2 e2⟩
theorem ev_all {bs : List Bool} (h : EvL te σ H (bs.map V.bl)) : Ev (tCB (rAll K) (tCons te tNil)) σ H (.bl (bs.all id)) := fun H1 e Q q =>
  h H1 e _ fun p H2 _ e2 hp => ⟨p, bs, rfl, Evl.sq_of hp, q H2 e2⟩
/-- any([test for x in xs]) -/
theorem ev_anyMap {a : Addr} {xs : List V} {j : Nat} (f : V → Bool) (h : Ev tl σ H (.ref a)) (hx : SqL K H a xs) (hz : xs.length ≤ 40000)
    (he : ∀ x ∈ xs, ∀ H1, Ex H H1 → Ev te ((wipe σ [j]).set j (some x)) H1 (.bl (f x))) : Ev (tCB (rAny K) (tCons (tLc (iList K tl) (gName j) tYes te [j]) tNil)) σ H (.bl (xs.any f)) := by
  have g := el_map (fun x => V.bl (f x)) h hx hz he
  have e : xs.map (fun x => V.bl (f x)) = (xs.map f).map V.bl := by rw [List.map_map]; rfl
  rw [e] at g
  have r := ev_any (K := K) g
  rw [List.any_map] at r
  exact r
theorem ev_allMap {a : Addr} {xs : List V} {j : Nat} (f : V → Bool) (h : Ev tl σ H (.ref a)) (hx : SqL K H a xs) (hz : xs.length ≤ 40000)
    (he : ∀ x ∈ xs, ∀ H1, Ex H H1 → Ev te ((wipe σ [j]).set j (some x)) H1 (.bl (f x))) : Ev (tCB (rAll K) (tCons (tLc (iList K tl) (gName j) tYes te [j]) tNil)) σ H (.bl (xs.all f)) := by
  have g := el_map (fun x => V.bl (f x)) h hx hz he
  have e : xs.map (fun x => V.bl (f x)) = (xs.map f).map V.bl := by rw [List.map_map]; rfl
  rw [e] at g
  have r := ev_all (K := K) g
  rw [List.all_map] at r
  exact r
/-- the same by places -/
theorem el_mapI {a : Addr} {xs : List V} {j : Nat} (f : Nat → V) (h : Ev tl σ H (.ref a)) (hx : SqL K H a xs) (hz : xs.length ≤ 40000)
    (he : ∀ i x, xs[i]? = some x → ∀ H1, Ex H H1 → Ev te ((wipe σ [j]).set j (some x)) H1 (f i)) : EvL (tLc (iList K tl) (gName j) tYes te [j]) σ H ((List.range xs.length).map f) := by
  have g := Evl.el_lcL (te := te) (t := tYes) (j := j) (vs := [j]) (fun _ => true) f h hx hz (wipe1 j) (fun _ _ H1 _ _ => et_yes) (fun i x H1 e hi _ => he i x hi H1 e)
  have e : Evl.given xs.length (fun _ => true) f = (List.range xs.length).map f := by
    unfold Evl.given
    rw [List.filter_eq_self.mpr (fun _ _ => rfl)]
  rw [e] at g
  exact g
theorem ev_anyI {a : Addr} {xs : List V} {j : Nat} (f : Nat → Bool) (h : Ev tl σ H (.ref a)) (hx : SqL K H a xs) (hz : xs.length ≤ 40000)
    (he : ∀ i x, xs[i]? = some x → ∀ H1, Ex H H1 → Ev te ((wipe σ [j]).set j (some x)) H1 (.bl (f i))) : Ev (tCB (rAny K) (tCons (tLc (iList K tl) (gName j) tYes te [j]) tNil)) σ H (.bl ((List.range xs.length).any f)) := by
  have g := el_mapI (fun i => V.bl (f i)) h hx hz he
  have e : (List.range xs.length).map (fun i => V.bl (f i)) = ((List.range xs.length).map f).map V.bl := by rw [List.map_map]; rfl
  rw [e] at g
  have r := ev_any (K := K) g
  rw [List.any_map] at r
  exact r
theorem ev_allI {a : Addr} {xs : List V} {j : Nat} (f : Nat → Bool) (h : Ev tl σ H (.ref a)) (hx : SqL K H a xs) (hz : xs.length ≤ 40000)
    (he : ∀ i x, xs[i]? = some x → ∀ H1, Ex H H1 → Ev te ((wipe σ [j]).set j (some x)) H1 (.bl (f i))) : Ev (tCB (rAll K) (tCons (tLc (iList K tl) (gName j) tYes te [j]) tNil)) σ H (.bl ((List.range xs.length).all f)) := by
  have g := el_mapI (fun i => V.bl (f i)) h hx hz he
  have e : (List.range xs.length).map (fun i => V.bl (f i)) = ((List.range xs.length).map f).map V.bl := by rw [List.map_map]; rfl
  rw [e] at g
  have r := ev_all (K := K) g
  rw [List.all_map] at r
  exact r
theorem any_range_list {α : Type} (l : List α) (f : α → Bool) (d : α) : (List.range l.length).any (fun i => f (l.getD i d)) = l.any f := by
  induction l with
  | nil => rfl
  | cons x r ih =>
    rw [List.length_cons, List.range_succ_eq_map, List.any_cons, List.any_map, List.any_cons, ← ih]
    rfl
theorem all_range_list {α : Type} (l : List α) (f : α → Bool) (d : α) : (List.range l.length).all (fun i => f (l.getD i d)) = l.all f := by
  induction l with
  | nil => rfl
  | cons x r ih =>
    rw [List.length_cons, List.range_succ_eq_map, List.all_cons, List.all_map, List.all_cons, ← ih]
    rfl
/-- a list of new tuples: what the i-th holds -/
def TupsAt (H : Hp) (ws : List V) (n : Nat) (g : Nat → List V) : Prop := ws.length = n ∧ ∀ i w, ws[i]? = some w → ∃ a, w = .ref a ∧ H a = some (.tup (g i))
theorem TupsAt.ex {ws : List V} {n : Nat} {g : Nat → List V} (e : Ex H H') (h : TupsAt H ws n g) : TupsAt H' ws n g := ⟨h.1, fun i w hw => by
  obtain ⟨a, e1, e2⟩ := h.2 i w hw
  exact ⟨a, e1, e a _ e2⟩⟩
/-- [a new tuple for x in xs] -/
def EvLU (te : TE) (σ : L2.St) (H : Hp) (n : Nat) (g : Nat → List V) : Prop := ∀ H1, Ex H H1 → ∀ Q : VK, (∀ p H2 ws, H1 p = none → Ex H1 H2 → H2 p = some (.lst ws) → TupsAt H2 ws n g → Q (.ref p) H2) → te σ H1 Q
theorem elu_map {a : Addr} {xs : List V} {j : Nat} (g : Nat → List V) (h : Ev tl σ H (.ref a)) (hx : SqL K H a xs) (hz : xs.length ≤ 40000)
    (he : ∀ i x, xs[i]? = some x → ∀ H1, Ex H H1 → EvU te ((wipe σ [j]).set j (some x)) H1 (g i)) : EvLU (tLc (iList K tl) (gName j) tYes te [j]) σ H xs.length g := fun H0 e Q q => h H0 e _ fun H1 e1 => ⟨a, rfl, ⟨xs, Evl.ex_l (e.trans e1) hx⟩, fun Dl hD =>
  lc_list (xs := xs) (fun i H' => Ex H1 H' ∧ ∃ ws, H' Dl = some (.lst ws) ∧ TupsAt H' ws i g)
    ⟨Ex.new hD, [], upd_same, rfl, fun i w hw => by simp at hw⟩ (fun i H' _ p => Evl.ex_l ((e.trans e1).trans p.1) hx) (fun i x H' hi p => by
      obtain ⟨p1, ws, p2, p3⟩ := p
      refine ⟨wipe1 j x, ?_⟩
      show te ((wipe σ [j]).set j (some x)) H' _
      refine he i x hi H' ((e.trans e1).trans p1) H' (Ex.refl _) _ fun t H3 ht e3 h3 => ?_
      have hlen : ws.length = i := p3.1
      have hi' : i < xs.length := (List.getElem?_eq_some_iff.mp hi).1
      refine ⟨ws, e3 _ _ p2, Evl.sz_lt (by omega), fun b o hb => ?_, ws ++ [.ref t], upd_same, by simp [hlen], fun k w hw => ?_⟩
      · rw [upd_ne (ne_of_none hb hD)]
        exact e3 _ _ (p1 _ _ hb)
      · by_cases hk : k < ws.length
        · rw [List.getElem?_append_left hk] at hw
          obtain ⟨c, e4, e5⟩ := p3.2 k w hw
          refine ⟨c, e4, ?_⟩
          rw [upd_ne]
          · exact e3 _ _ e5
          · intro z
            rw [z, p2] at e5
            cases e5
        · rw [List.getElem?_append_right (by omega)] at hw
          have hk2 : k - ws.length = 0 := by
            cases hq : k - ws.length with
            | zero => rfl
            | succ m =>
              rw [hq] at hw
              simp at hw
          rw [hk2] at hw
          have hw' : V.ref t = w := Option.some.inj hw
          have hki : k = i := by omega
          subst hki
          refine ⟨t, hw'.symm, ?_⟩
          rw [upd_ne]
          · exact h3
          · intro z
            rw [z, e3 _ _ p2] at h3
            cases h3)
    (fun H' p => by
      obtain ⟨p1, ws, p2, p3⟩ := p
      exact q Dl H' ws (Evl.fresh_back e1 hD) (e1.trans p1) p2 p3)⟩
theorem q_asgLU {i n : Nat} {g : Nat → List V} (h : EvLU te σ H n g) (k : ∀ p H1 ws, H p = none → Ex H H1 → H1 p = some (.lst ws) → TupsAt H1 ws n g → tz D (σ.set i (some (.ref p))) H1) : tSeq (tAsg te (gName i)) tz D σ H :=
  h H (Ex.refl H) _ fun p H1 ws hp e h1 h2 => k p H1 ws hp e h1 h2
end
end My

set_option Elab.async false
set_option linter.all false
set_option maxRecDepth 100000
set_option maxHeartbeats 4000000
/-! M0c: attributes stored, methods called, lists of an object's changed. -/
namespace My
open PySem PySem.Spec PyProof.Rows L2
open Evl (Ev EvL EvU EvT EvA EvO Ex RV RU RC RCL SpV SpL)
section
variable {K : PySem.W.Frag} {σ : L2.St} {H H' : Hp} {ta tb te tv : TE} {D : Ends} {tz : TS} {p C dx : Addr} {fs : List (Str × V)} {f : Str} {v : V} {xs : List V}
theorem s_fld (hv : Ev tv σ H v) (ha : Ev ta σ H (.ref p)) (ho : H p = some (.ins C dx fs)) (hc : Cls K C) (hn : NoAttr K C f) (hl : fs.length < 1000) (k : ∀ H1, Ex H H1 → D.nx σ (upd H1 p (.ins C dx (putF f v fs)))) : sFld K ta tv f D σ H :=
  hv H (Ex.refl H) _ fun H1 e1 => ha H1 e1 _ fun H2 e2 => ⟨p, C, dx, fs, rfl, e2 _ _ (e1 _ _ ho), hc, hn, hl, k H2 (e1.trans e2)⟩
theorem s_fldL (hv : EvL tv σ H xs) (ha : Ev ta σ H (.ref p)) (ho : H p = some (.ins C dx fs)) (hc : Cls K C) (hn : NoAttr K C f) (hl : fs.length < 1000)
    (k : ∀ q H1, H q = none → Ex H H1 → H1 q = some (.lst xs) → D.nx σ (upd H1 p (.ins C dx (putF f (.ref q) fs)))) : sFld K ta tv f D σ H :=
  hv H (Ex.refl H) _ fun q H1 hq e1 h1 => ha H1 e1 _ fun H2 e2 => ⟨p, C, dx, fs, rfl, e2 _ _ (e1 _ _ ho), hc, hn, hl, k q H2 hq (e1.trans e2) (e2 _ _ h1)⟩
theorem q_fld (hv : Ev tv σ H v) (ha : Ev ta σ H (.ref p)) (ho : H p = some (.ins C dx fs)) (hc : Cls K C) (hn : NoAttr K C f) (hl : fs.length < 1000) (k : ∀ H1, Ex H H1 → tz D σ (upd H1 p (.ins C dx (putF f v fs)))) : tSeq (sFld K ta tv f) tz D σ H :=
  s_fld (D := { D with nx := tz D }) hv ha ho hc hn hl k
theorem q_fldL (hv : EvL tv σ H xs) (ha : Ev ta σ H (.ref p)) (ho : H p = some (.ins C dx fs)) (hc : Cls K C) (hn : NoAttr K C f) (hl : fs.length < 1000)
    (k : ∀ q H1, H q = none → Ex H H1 → H1 q = some (.lst xs) → tz D σ (upd H1 p (.ins C dx (putF f (.ref q) fs)))) : tSeq (sFld K ta tv f) tz D σ H :=
  s_fldL (D := { D with nx := tz D }) hv ha ho hc hn hl k
/-- name = f(..) of a def by its promise -/
theorem q_asgCall {sp : Sp} {dvs vs : List V} {E : XK} {ta : TA} {i : Nat} (h : EvA ta σ H vs) (k : ∀ H1, Ex H H1 → sp (vs ++ dvs) H1 (fun x H2 => tz D (σ.set i (some x)) H2) E) : tSeq (tAsg (tCall sp dvs E ta) (gName i)) tz D σ H := h H (Ex.refl H) _ k
theorem s_retCall {sp : Sp} {dvs vs : List V} {E : XK} {ta : TA} (h : EvA ta σ H vs) (k : ∀ H1, Ex H H1 → sp (vs ++ dvs) H1 D.rt E) : tRet (tCall sp dvs E ta) D σ H := h H (Ex.refl H) _ k
/-- xs.append(e), up to the line -/
theorem q_appZ {l : Addr} (hl : H l = some (.lst xs)) (ha : Ev ta σ H (.ref l)) (h : Ev te σ H v) (hz : xs.length < sizeLine) (k : ∀ H1, Ex H H1 → tz D σ (upd H1 l (.lst (xs ++ [v])))) :
    tSeq (tDrop (tBM K "list" rAppend ta (tCons te tNil))) tz D σ H := ha H (Ex.refl H) _ fun H1 e1 =>
  ⟨Or.inl ⟨rfl, xs, Evl.sq_of (e1 l _ hl)⟩, h H1 e1 _ fun H2 e2 => ⟨l, xs, v, rfl, rfl, e2 l _ (e1 l _ hl), hz, k H2 (e1.trans e2)⟩⟩
/-- xs.pop(), the value dropped -/
theorem q_pop {l : Addr} {y : V} (hl : H l = some (.lst xs)) (ha : Ev ta σ H (.ref l)) (hy : xs[xs.length - 1]? = some y) (k : ∀ H1, Ex H H1 → tz D σ (upd H1 l (.lst xs.dropLast))) : tSeq (tDrop (tBM0 K "list" rPop ta)) tz D σ H :=
  ha H (Ex.refl H) _ fun H1 e1 => ⟨Or.inl ⟨rfl, xs, Evl.sq_of (e1 l _ hl)⟩, l, xs, y, rfl, rfl, e1 l _ hl, hy, k H1 e1⟩
/-- xs.extend(ys) -/
theorem s_ext {l b : Addr} {ys : List V} (hl : H l = some (.lst xs)) (hb : H b = some (.lst ys)) (ha : Ev ta σ H (.ref l)) (h : Ev te σ H (.ref b)) (hz : xs.length + ys.length ≤ sizeLine) (k : ∀ H1, Ex H H1 → D.nx σ (upd H1 l (.lst (xs ++ ys)))) :
    tDrop (tBM K "list" rExtend ta (tCons te tNil)) D σ H := ha H (Ex.refl H) _ fun H1 e1 =>
  ⟨Or.inl ⟨rfl, xs, Evl.sq_of (e1 l _ hl)⟩, h H1 e1 _ fun H2 e2 => ⟨l, b, xs, ys, rfl, rfl, e2 l _ (e1 l _ hl), e2 b _ (e1 b _ hb), hz, k H2 (e1.trans e2)⟩⟩
/-- xs[i] = a new tuple -/
theorem q_setLU {l : Addr} {ys : List V} {j : Nat} (hl : H l = some (.lst xs)) (h : EvU te σ H ys) (ho : ∀ H1, Ex H H1 → Ev ta σ H1 (.ref l)) (hi : ∀ H1, Ex H H1 → Ev tb σ H1 (.int (j : Int))) (hj : j < xs.length)
    (k : ∀ p H1, H p = none → Ex H H1 → H1 p = some (.tup ys) → tz D σ (upd H1 l (.lst (xs.set j (.ref p))))) : tSeq (tAsg te (gSub ta tb rSetL)) tz D σ H := h H (Ex.refl H) _ fun p H1 hp e1 h1 => ho H1 e1 H1 (Ex.refl _) _ fun H2 e2 => hi H2 (e1.trans e2) H2 (Ex.refl _) _ fun H3 e3 =>
  ⟨l, xs, (j : Int), j, rfl, rfl, ((e1.trans e2).trans e3) l _ hl, Evl.ixN_nat hj, k p H3 hp ((e1.trans e2).trans e3) (e3 _ _ (e2 _ _ h1))⟩
/-- a field that stands first; one that stands behind another -/
theorem putF_at (f : Str) (v x : V) (r : List (Str × V)) : putF f v ((f, x) :: r) = (f, v) :: r := by simp [putF]
theorem putF_on {f g : Str} (v x : V) (r : List (Str × V)) (other : g ≠ f) : putF f v ((g, x) :: r) = (g, x) :: putF f v r := by simp [putF, other]
theorem look_at (f : Str) (v : V) (r : List (Str × V)) : ((f, v) :: r).lookup f = some v := by simp [List.lookup]
theorem look_on {f g : Str} (v : V) (r : List (Str × V)) (other : (f == g) = false) : ((g, v) :: r).lookup f = r.lookup f := by simp [List.lookup, other]
theorem dict_ne {o o' : HO} {q r : Addr} (h1 : H q = some o) (h2 : H r = some o') (h : o ≠ o') : q ≠ r := fun z => h (Option.some.inj (h1.symm.trans (z ▸ h2)))
end
end My

set_option Elab.async false
set_option linter.all false
set_option maxRecDepth 100000
set_option maxHeartbeats 4000000
/-! R0: three rules of my own: len of a set of tuples, a call out of a table of defs, enumerate(list, start=k). -/
namespace My
open PySem PySem.Spec PyProof.Rows L2
/-! ### len of a set that cr_setOfT has made -/
def rLenTO (K : PySem.W.Frag) (P : Program) (w : World) : List V → Hp → VK → Prop := fun xs H Q => ∃ (b : Addr) (L : List (Addr × List Int)), xs = [V.ref b] ∧ H b = some (SetTO P w b L) ∧ (∀ p ∈ L, SqT K H p.1 (p.2.map V.int)) ∧ ((L.map (·.2)).Nodup → Q (.int L.length) H)
theorem cr_lenTO {X : Cx} : CallR X (.builtin "len") (rLenTO X.K X.prog X.w) := by
  rintro pins s σ H _ us Q I rv ⟨b, L, rfl, hb, hT, hQ⟩
  have bare : SetT0 X.prog X.w s.heap b L := (I.hok b _ hb).1
  obtain ⟨es, ep, t, full⟩ := bare.full fun p hp => I.isT (hT p hp)
  obtain ⟨ob, o1, o2, o3⟩ := full.ob
  have size : es.size = L.length := full.size
  have few := full.few
  rw [Vals.ref1 rv]
  exact call_len_set o1 o2 o3 full.fits (by omega) ⟨.int L.length, H, I.tok _, ⟨_, by rw [size]⟩, hQ full.nd⟩
/-! ### a call of what a table of defs holds -/
def tCallIx (R : Addr → Sp → Prop) (tf : TE) (t : TA) : TE := fun σ H Q => tf σ H fun v H1 => ∃ f sp, v = .ref f ∧ R f sp ∧ t σ H1 fun vs H2 => sp vs H2 Q (fun _ _ _ => False)
theorem pe_callIx {X : Cx} {R : Addr → Sp → Prop} {k : Nat} {fe sl e : Expr} {es : List Expr} {fpos pos : Pos} {tf : TE} {t : TA} (A : ∀ f sp, R f sp → Held X.prog X.w X.K X.mg X.base k f sp) (hr : Room k X.A) (hf : PE X (.Subscript fe sl fpos) tf) (ha : PA X (e :: es) t)
    (hc : eval (.Call (.Subscript fe sl fpos) (e :: es) [] pos) X.env = (do callWith pos (← eval (.Subscript fe sl fpos) X.env) [] (backTo pos (starEach (e :: es) X.env)) (backToKw pos (keywordEach [] X.env))) := by rfl)
    (one : starEach (e :: es) X.env = (false, eval e X.env) :: starEach es X.env := by rfl) (plain : (backTo pos (starEach es X.env)).any (·.1) = false := by rfl) : PE X (.Call (.Subscript fe sl fpos) (e :: es) [] pos) (tCallIx R tf t) where
  run := fun pins s σ H Q I reading => by
    refine Call_ (thn (hf.run pins s σ H _ I reading) ?_) hc
    rintro _ s1 ⟨_, H1, I1, rel, f, sp, rfl, hR, rest⟩
    obtain ⟨fd, ps, F, kept, binds⟩ := (A f sp hR).ex
    cases rel
    refine PySem.W.callWith_K (h₀ := X.base) I1.ok.mod.kin kept (thn (ha.run pos pins s1 σ _ _ I1 rest) ?_) one plain
    rintro us s2 ⟨vs, H2, I2, rel2, given⟩
    exact ⟨I2.kIn, run_fn F hr binds .nil (fun _ _ _ _ _ _ _ no => no.elim) I2 rel2 (by rw [List.append_nil]; exact given)⟩
/-! ### enumerate(xs, start=k) -/
/-- the i-th turn's pair: k + i and the i-th item, in a new tuple -/
def IteS (K : PySem.W.Frag) (k : Nat) (a : Addr) : It where
  go := fun i H => ∃ (xs : List V) (x : V), SqL K H a xs ∧ xs[i]? = some x
  yld := fun i H v H' => ∃ T x, v = .ref T ∧ H T = none ∧ H' = upd H T (.tup [.int ((k + i : Nat) : Int), x]) ∧ ∀ xs, SqL K H a xs → xs[i]? = some x
  stop := fun i H => ∃ xs : List V, SqL K H a xs ∧ xs.length = i
/-- objects of two classes are two objects -/
theorem cls_ne {h : Heap} {p q : Addr} {o o' : Obj} {s t : String} (ho : h.get? p = some o) (hq : h.get? q = some o') (cs : o.cls = .type s) (ct : o'.cls = .type t) (hst : s ≠ t) : p ≠ q := by
  rintro rfl
  have same : o = o' := Option.some.inj (ho.symm.trans hq)
  rw [same, ct] at cs
  exact hst (by injection cs with e; exact e.symm)
section
variable {X : Cx} {k i : Nat} {a e it : Addr} {pins : List (Addr × Obj)} {s : Shared} {σ : L2.St} {H : Hp} {its : List Value} {old : Value}
/-- what the enumerate object e, its list iterator it and the list a are, taken together -/
structure EnumAt (h : Heap) (e it a : Addr) (k i : Nat) : Prop where
  en : ∃ old, IsEnum h e it ((k : Int) + (i : Int)) old
  li : h.IsListIter it a i
  ne : e ≠ it
/-- the library's walk of pairs, for this list as it stands -/
theorem enum_walk (calm : X.A.handled = none) (st : EnumAt s.heap e it a k i) (hl : s.heap.IsList a its.toArray) : a ≠ it ∧ WalksT X.prog X.w X.A e [e, it, a] [e, it] its.toArray.size
      (fun i vals => ∃ t x, its.toArray[i]? = some x ∧ vals = #[.int ((k : Int) + (i : Int)) t, x]) (fun i h => (∃ old, IsEnum h e it ((k : Int) + (i : Int)) old) ∧ h.IsListIter it a i ∧ h.IsList a its.toArray)
      (fun i T h => (∃ x, IsEnumOut h e it ((k : Int) + (i : Int) + 1) x T) ∧ (h.IsListIter it a (i + 1) ∧ h.IsList a its.toArray) ∧ T ≠ e ∧ T ≠ it) := by
  obtain ⟨⟨old, en⟩, ⟨oi, gi, ci, _⟩, ne⟩ := st
  obtain ⟨ol, gl, cl, _⟩ := hl
  have ai : a ≠ it := cls_ne gl gi cl ci (by decide)
  have ea : e ≠ a := cls_ne en gl rfl cl (by decide)
  exact ⟨ai, WalksT.enumFrom (k : Int) (Draws.list (A := X.A.in1) calm it a ai its.toArray) e ne (by simp [ne, ea]) (by simp)⟩
end
theorem turn_enumS {P : Program} {w : World} {K : PySem.W.Frag} {elts : List Expr} {kk k : Nat} {tpos : Pos} (a e it : Addr) :
    Turn P w K (.Tuple elts kk tpos) (IteS K k a) [e, it] e (fun i h => EnumAt h e it a k i) where
  mem := List.mem_cons_self
  obj := by
    rintro i h ⟨⟨old, en⟩, ⟨oi, gi, _, di⟩, _⟩ b hb
    rcases List.mem_cons.mp hb with rfl | hb
    · exact ⟨_, en, fun v no => by cases no⟩
    · rw [List.mem_singleton.mp hb]
      exact ⟨oi, gi, fun v no => by rw [di] at no; cases no⟩
  keep := by
    rintro i h h' ⟨⟨old, en⟩, li, ne⟩ same
    exact ⟨⟨old, same e (by simp) _ en⟩, li.at fun o ho => same it (by simp) o ho, ne⟩
  item := by
    rintro X rfl rfl rfl calm i pins s σ H E I free st ⟨xs, x, hq, hx⟩
    obtain ⟨its, vals, lst, _⟩ := I.list hq
    obtain ⟨u, hu, rel⟩ := vals.get hx
    obtain ⟨ai, W⟩ := enum_walk (I.ok.hd calm) st lst.isList
    have now : i < its.toArray.size := by
      rw [List.size_toArray]
      exact (List.getElem?_eq_some_iff.mp hu).1
    have below : ∀ b ∈ [e, it], b < s.heap.objs.size := by
      obtain ⟨⟨_, en⟩, ⟨_, gi, _⟩, _⟩ := st
      intro b hb
      rcases List.mem_cons.mp hb with rfl | hb
      · exact Heap.lt_size en
      · rw [List.mem_singleton.mp hb]
        exact Heap.lt_size gi
    refine W.item i s _ E now ⟨st.en, st.li, lst.isList⟩ fun T vs h1 tk pair above tup mid kept1 => ⟨_, rfl, W.go elts kk tpos i T _ _ _ mid fun h2 st2 kept2 => ?_⟩
    obtain ⟨tok, y, hy, rfl⟩ := pair
    have yu : u = y := by
      rw [List.getElem?_toArray, hu] at hy
      exact Option.some.inj hy
    subst yu
    obtain ⟨ot, gt, ct, n, dt⟩ := tup
    have new : ObjOk X.prog X.w (upd H T (.tup [.int ((k + i : Nat) : Int), x])) h2 T (.tup [.int ((k + i : Nat) : Int), x]) :=
      ⟨by show 2 ≤ sizeLine; decide, [.int ((k : Int) + (i : Int)) tok, u], .cons ⟨tok, rfl⟩ (.cons rel .nil), ot, kept2 T ot (W.apart i T _ mid) gt, ct, n, dt⟩
    refine ⟨.ref T, _, I.turnedNew (ch := [e, it]) (t' := tk) (fun b o out ho => kept2 b o out (kept1 b o out ho)) free above new, rfl, ⟨T, x, rfl, I.hok.fresh above, rfl, fun ys hys => by rw [I.list_inj hys hq]; exact hx⟩, ⟨st2.1, st2.2.1, st.ne⟩, fun b hb => ?_⟩
    rw [upd_ne (Nat.ne_of_lt (Nat.lt_of_lt_of_le (below b hb) above))]
    exact (free b hb).1
  done := by
    rintro X rfl rfl rfl calm i pins s σ H E I free st ⟨xs, hq, rfl⟩
    obtain ⟨its, vals, lst, _⟩ := I.list hq
    obtain ⟨ai, _⟩ := enum_walk (I.ok.hd calm) st lst.isList
    obtain ⟨old, en⟩ := st.en
    have ends : its.toArray.size = xs.length := by
      rw [List.size_toArray]
      exact vals.length.symm
    have last : s.heap.IsListIter it a its.toArray.size := by
      rw [ends]
      exact st.li
    have fit := free it (by simp)
    exact wpAny_pyNext_enum_endD (Draws.list (A := X.A.in1) (I.ok.hd calm) it a ai its.toArray) en ⟨last, lst.isList⟩ fun h' but => ⟨rfl, I.turned (t' := s.toks) but fit.1 fit.2.1 fit.2.2.2.1 fit.2.2.2.2.1 fit.2.2.2.2.2⟩
  self := fun A i s Q E st more => st.en.elim fun _ en => wpAny_pyIter_enum en more
def iEnumS (K : PySem.W.Frag) (k : Nat) (ta : TA) : TI := fun σ H R => ta σ H fun vs H1 => ∃ a xs, vs = [.ref a] ∧ SqL K H1 a xs ∧ R (IteS K k a) H1
theorem pi_enumS {X : Cx} {e : Expr} {ta : TA} {p pos tpos kp cp : Pos} {elts : List Expr} {kk ck k : Nat} (hg : Gl X "enumerate") (hm : X.mg "enumerate" = none) (ha : PA X [e] ta) (hk : (k : Int) < 2 ^ 63 := by decide) (one : starEach [e] X.env = (false, eval e X.env) :: starEach [] X.env := by rfl) :
    PI X (.Tuple elts kk tpos) (.Call (.Name "enumerate" p) [e] [⟨some "start", .Constant (.int (k : Int)) ck cp, kp⟩] pos) (iEnumS X.K k ta) where
  run := fun pins s σ H R I reading => by
    refine wpAny_Call_Name_kw (ld_blt I hg hm boot_enumerate ?_)
    refine PySem.W.callWith_of (P := fun _ => True) (by rw [one]; rfl) (fun _ _ => ⟨.machine, .inr (.inl rfl), .now⟩) (evalArgs_kw2 rfl (thn (ha.run pos pins s σ H _ I reading) ?_) one)
    rintro us s1 ⟨_, H1, I1, rel, a, xs, rfl, hq, go⟩
    refine kwAll_cons (thn (pe_int.run pins s1 σ H1 (fun x H2 => x = .int (k : Int) ∧ H2 = H1) I1 ⟨rfl, rfl⟩) ?_)
    rintro v s2 ⟨x, _, I2, rel2, rfl, rfl⟩
    obtain ⟨tok, rfl⟩ := rel2
    refine kwAll_nil ⟨trivial, ?_⟩
    rw [Vals.ref1 rel]
    obtain ⟨its, vals, lst, _⟩ := I2.list hq
    refine enum_begins_start (t := tok) (begins_list a its.toArray) lst.isList (by omega) hk fun h' en li _ kept => wpAny_pyIter_enum en ?_
    have fresh : ∀ b, s2.heap.objs.size ≤ b → FpOk X pins _ b := fun b hb => I2.fpOk hb (I2.hok.fresh hb)
    refine ⟨s2.heap.objs.size + 1, [s2.heap.objs.size + 1, s2.heap.objs.size], _, _, _, rfl, I2.kept (t' := s2.toks) kept, turn_enumS (k := k) a (s2.heap.objs.size + 1) s2.heap.objs.size, ⟨⟨.none, by simpa using en⟩, ⟨_, li, rfl, rfl⟩, Nat.succ_ne_self _⟩, fun b hb => ?_, go⟩
    rcases List.mem_cons.mp hb with rfl | hb
    · exact fresh _ (by omega)
    · exact fresh _ (by rw [List.mem_singleton.mp hb] <;> exact Nat.le_refl _)
end My

set_option Elab.async false
set_option linter.all false
set_option maxRecDepth 100000
set_option maxHeartbeats 4000000
/-! P0: values by what is true of them (ints with bounds, tuples, lists of ints), for straight-line defs. -/
namespace My
open PySem PySem.Spec PyProof.Rows L2
open Evl (Ev EvL EvU EvT EvA EvO Ex RV RU RC RCL SpV SpL)
abbrev VP := V → Hp → Prop
def Mono (P : VP) : Prop := ∀ v H H', Ex H H' → P v H → P v H'
def EvP (te : TE) (σ : L2.St) (H : Hp) (P : VP) : Prop := ∀ H1, Ex H H1 → ∀ Q : VK, (∀ v H2, Ex H1 H2 → P v H2 → Q v H2) → te σ H1 Q
def EvPA (ta : TA) (σ : L2.St) (H : Hp) (R : List V → Hp → Prop) : Prop := ∀ H1, Ex H H1 → ∀ Q : List V → Hp → Prop, (∀ vs H2, Ex H1 H2 → R vs H2 → Q vs H2) → ta σ H1 Q
def SpP (sp : Sp) (vs : List V) (H : Hp) (P : VP) : Prop := ∀ Q : VK, (∀ v H2, Ex H H2 → P v H2 → Q v H2) → ∀ E : XK, sp vs H Q E
def RetP (P : VP) (H : Hp) (Q : VK) : Prop := ∀ v H2, Ex H H2 → P v H2 → Q v H2
instance {a : Nat} {i : Int} : Decidable (Bd a i) := inferInstanceAs (Decidable (i.natAbs < 2 ^ a))
abbrev De (Q : VK) : Ends := { nx := fun _ H' => Q .non H', rt := Q }
/-- an int with its bound; a truth value; a tuple, a list of ints -/
def isI (a : Nat) (i : Int) : VP := fun v _ => v = .int i ∧ Bd a i
def isB (b : Bool) : VP := fun v _ => v = .bl b
def isV (x : V) : VP := fun v _ => v = x
def isT (K : PySem.W.Frag) (a : Nat) (xs : List Int) : VP := fun v H => ∃ p, v = .ref p ∧ SqT K H p (xs.map V.int) ∧ ∀ x ∈ xs, Bd a x
def isL (K : PySem.W.Frag) (a : Nat) (xs : List Int) : VP := fun v H => ∃ p, v = .ref p ∧ SqL K H p (xs.map V.int) ∧ ∀ x ∈ xs, Bd a x
theorem mono_I {a : Nat} {i : Int} : Mono (isI a i) := fun _ _ _ _ h => h
theorem mono_B {b : Bool} : Mono (isB b) := fun _ _ _ _ h => h
theorem mono_V {x : V} : Mono (isV x) := fun _ _ _ _ h => h
theorem mono_T {K : PySem.W.Frag} {a : Nat} {xs : List Int} : Mono (isT K a xs) := fun _ _ _ e ⟨p, h1, h2, h3⟩ => ⟨p, h1, Evl.ex_t e h2, h3⟩
theorem mono_L {K : PySem.W.Frag} {a : Nat} {xs : List Int} : Mono (isL K a xs) := fun _ _ _ e ⟨p, h1, h2, h3⟩ => ⟨p, h1, Evl.ex_l e h2, h3⟩
theorem Bd.abs {a : Nat} {i : Int} (h : Bd a i) : Bd a (i.natAbs : Int) := by
  unfold Bd at *
  omega
theorem Bd.gcd {a : Nat} {i j : Int} (h : Bd a i) (h0 : i ≠ 0) : Bd a ((Int.gcd i j : Nat) : Int) := by
  have h1 : Int.gcd i j ∣ i.natAbs := Int.gcd_dvd_natAbs_left i j
  have h2 := Nat.le_of_dvd (by omega) h1
  unfold Bd at *
  omega
theorem fdiv_le (i : Int) {j : Int} (hj : j ≠ 0) : (i.fdiv j).natAbs ≤ i.natAbs := by
  have key : ∀ (x y : Int), 0 < y → (x.fdiv y).natAbs ≤ x.natAbs := by
    intro x y hy
    rw [Int.fdiv_eq_ediv_of_nonneg x (by omega)]
    have h1 := Int.ediv_mul_le x (show y ≠ 0 by omega)
    have h2 := Int.lt_ediv_add_one_mul_self x hy
    rcases Int.lt_or_le x 0 with hx | hx
    · have h3 : x / y < 0 := Int.ediv_neg_of_neg_of_pos hx hy
      have h4 : x ≤ x / y := by
        rcases Int.lt_or_le (x / y) x with z | z
        · exfalso
          have h5 : (x / y + 1) * y ≤ (x / y + 1) * 1 := Int.mul_le_mul_of_nonpos_left (by omega) (by omega)
          omega
        · exact z
      omega
    · have h3 : 0 ≤ x / y := Int.ediv_nonneg hx (by omega)
      have h4 := Int.ediv_le_self y hx
      omega
  rcases Int.lt_or_le 0 j with h | h
  · exact key i j h
  · have e : i.fdiv j = (-i).fdiv (-j) := by rw [Int.neg_fdiv_neg]
    rw [e]
    have := key (-i) (-j) (by omega)
    omega
theorem Bd.fdiv {a : Nat} {i j : Int} (h : Bd a i) (hj : j ≠ 0) : Bd a (i.fdiv j) := Nat.lt_of_le_of_lt (fdiv_le i hj) h
section
variable {K : PySem.W.Frag} {σ : L2.St} {H H' : Hp} {ta tb te : TE} {P P' : VP} {a b : Nat} {i j : Int} {D : Ends} {tz : TS}
theorem EvP.mono (e : Ex H H') (h : EvP te σ H P) : EvP te σ H' P := fun H1 e1 Q q => h H1 (e.trans e1) Q q
theorem EvP.imp (h : EvP te σ H P) (k : ∀ v H1, Ex H H1 → P v H1 → P' v H1) : EvP te σ H P' := fun H1 e1 Q q => h H1 e1 Q fun v H2 e2 p => q v H2 e2 (k v H2 (e1.trans e2) p)
theorem p_of {v : V} (h : Ev te σ H v) : EvP te σ H (isV v) := fun H1 e Q q => h H1 e Q fun H2 e2 => q v H2 e2 rfl
theorem p_ev (h : EvP te σ H (isI a i)) : Ev te σ H (.int i) := fun H1 e Q q => h H1 e Q fun v H2 e2 p => by
  rw [p.1]
  exact q H2 e2
theorem p_evB {c : Bool} (h : EvP te σ H (isB c)) : Ev te σ H (.bl c) := fun H1 e Q q => h H1 e Q fun v H2 e2 p => by
  rw [show v = .bl c from p]
  exact q H2 e2
theorem p_evV {x : V} (h : EvP te σ H (isV x)) : Ev te σ H x := fun H1 e Q q => h H1 e Q fun v H2 e2 p => by
  rw [show v = x from p]
  exact q H2 e2
theorem p_B {c : Bool} (h : Ev te σ H (.bl c)) : EvP te σ H (isB c) := fun H1 e Q q => h H1 e Q fun H2 e2 => q _ H2 e2 rfl
theorem p_I (h : Ev te σ H (.int i)) (hb : Bd a i) : EvP te σ H (isI a i) := fun H1 e Q q => h H1 e Q fun H2 e2 => q _ H2 e2 ⟨rfl, hb⟩
theorem p_iv {k : Nat} (h : σ[k]? = some (some (.int i))) (hb : Bd a i) : EvP (tVar k) σ H (isI a i) := p_I (Evl.ev_var h) hb
theorem p_bv {k : Nat} {c : Bool} (h : σ[k]? = some (some (.bl c))) : EvP (tVar k) σ H (isB c) := p_B (Evl.ev_var h)
theorem p_tv {k : Nat} {p : Addr} {xs : List Int} (h : σ[k]? = some (some (.ref p))) (hq : SqT K H p (xs.map V.int)) (hb : ∀ x ∈ xs, Bd a x) : EvP (tVar k) σ H (isT K a xs) := fun H1 e Q q => ⟨_, h, q _ H1 (Ex.refl _) ⟨p, rfl, Evl.ex_t e hq, hb⟩⟩
theorem p_lv {k : Nat} {p : Addr} {xs : List Int} (h : σ[k]? = some (some (.ref p))) (hq : SqL K H p (xs.map V.int)) (hb : ∀ x ∈ xs, Bd a x) : EvP (tVar k) σ H (isL K a xs) := fun H1 e Q q => ⟨_, h, q _ H1 (Ex.refl _) ⟨p, rfl, Evl.ex_l e hq, hb⟩⟩
theorem p_ic (hb : Bd a i) : EvP (tC (.int i)) σ H (isI a i) := p_I Evl.ev_c hb
theorem p_bc {c : Bool} : EvP (tC (.bl c)) σ H (isB c) := p_B Evl.ev_c
theorem p_add (ha : EvP ta σ H (isI a i)) (hb : EvP tb σ H (isI b j)) : EvP (tOp oAdd ta tb) σ H (isI (max a b + 1) (i + j)) := fun H1 e Q q => ha H1 e _ fun _ H2 e2 p => hb H2 (e.trans e2) _ fun _ H3 e3 p' => ⟨i, j, p.1, p'.1, q _ H3 (e2.trans e3) ⟨rfl, p.2.add p'.2⟩⟩
theorem p_sub (ha : EvP ta σ H (isI a i)) (hb : EvP tb σ H (isI b j)) : EvP (tOp oSub ta tb) σ H (isI (max a b + 1) (i - j)) := fun H1 e Q q => ha H1 e _ fun _ H2 e2 p => hb H2 (e.trans e2) _ fun _ H3 e3 p' => ⟨i, j, p.1, p'.1, q _ H3 (e2.trans e3) ⟨rfl, p.2.sub p'.2⟩⟩
theorem p_mul (ha : EvP ta σ H (isI a i)) (hb : EvP tb σ H (isI b j)) (h : a + b < 999998 := by decide) : EvP (tOp oMul ta tb) σ H (isI (a + b) (i * j)) := fun H1 e Q q => ha H1 e _ fun _ H2 e2 p => hb H2 (e.trans e2) _ fun _ H3 e3 p' => ⟨i, j, p.1, p'.1, p.2.cmul p'.2 h, q _ H3 (e2.trans e3) ⟨rfl, p.2.mul p'.2⟩⟩
theorem p_div (ha : EvP ta σ H (isI a i)) (hb : EvP tb σ H (isI b j)) (h0 : j ≠ 0) (h : b < 9000 := by decide) : EvP (tOp oDiv ta tb) σ H (isI a (i.fdiv j)) := fun H1 e Q q => ha H1 e _ fun _ H2 e2 p => hb H2 (e.trans e2) _ fun _ H3 e3 p' => ⟨i, j, p.1, p'.1, p'.2.cdiv h0 h, q _ H3 (e2.trans e3) ⟨rfl, p.2.fdiv h0⟩⟩
theorem p_neg (ha : EvP ta σ H (isI a i)) : EvP (tUn oNeg ta) σ H (isI a (-i)) := fun H1 e Q q => ha H1 e _ fun _ H2 e2 p => ⟨i, p.1, q _ H2 e2 ⟨rfl, p.2.neg⟩⟩
theorem p_abs (ha : EvP ta σ H (isI a i)) : EvP (tCB rAbs (tCons ta tNil)) σ H (isI a (i.natAbs : Int)) := fun H1 e Q q => ha H1 e _ fun v H2 e2 p => ⟨i, by rw [p.1], q _ H2 e2 ⟨by
  have e0 : (if i < 0 then -i else i) = (i.natAbs : Int) := by split <;> omega
  rw [e0], p.2.abs⟩⟩
theorem p_lt (ha : EvP ta σ H (isI a i)) (hb : EvP tb σ H (isI b j)) : EvP (tOp oLt ta tb) σ H (isB (decide (i < j))) := p_B (ev_lt (p_ev ha) (p_ev hb))
theorem p_le (ha : EvP ta σ H (isI a i)) (hb : EvP tb σ H (isI b j)) : EvP (tOp oLe ta tb) σ H (isB (decide (i ≤ j))) := p_B (ev_le (p_ev ha) (p_ev hb))
theorem p_gt (ha : EvP ta σ H (isI a i)) (hb : EvP tb σ H (isI b j)) : EvP (tOp oGt ta tb) σ H (isB (decide (j < i))) := p_B (ev_gt (p_ev ha) (p_ev hb))
theorem p_ge (ha : EvP ta σ H (isI a i)) (hb : EvP tb σ H (isI b j)) : EvP (tOp oGe ta tb) σ H (isB (decide (j ≤ i))) := p_B (ev_ge (p_ev ha) (p_ev hb))
theorem p_eq (ha : EvP ta σ H (isI a i)) (hb : EvP tb σ H (isI b j)) : EvP (tOp rEq ta tb) σ H (isB (decide (i = j))) := p_B (ev_eq (p_ev ha) (p_ev hb))
theorem p_ne (ha : EvP ta σ H (isI a i)) (hb : EvP tb σ H (isI b j)) : EvP (tOp rNe ta tb) σ H (isB (!decide (i = j))) := p_B (ev_ne (p_ev ha) (p_ev hb))
theorem p_and {c d : Bool} (ha : EvP ta σ H (isB c)) (hb : c = true → EvP tb σ H (isB d)) : EvP (tAndV ta tb) σ H (isB (c && d)) := p_B (Evl.ev_andV (p_evB ha) fun h => p_evB (hb h))
theorem p_or {c d : Bool} (ha : EvP ta σ H (isB c)) (hb : c = false → EvP tb σ H (isB d)) : EvP (tOrV ta tb) σ H (isB (c || d)) := p_B (Evl.ev_orV (p_evB ha) fun h => p_evB (hb h))
theorem p_not {c : Bool} (ha : EvP ta σ H (isB c)) : EvP (tNotV ta) σ H (isB (!c)) := p_B (Evl.ev_notV (p_evB ha))
theorem p_chain {tc : TE} {r r' : R2} {c : Nat} {k : Int} {d d' : Bool} (ha : EvP ta σ H (isI a i)) (hb : EvP tb σ H (isI b j)) (hc : EvP tc σ H (isI c k)) (h1 : RV r (.int i) (.int j) H (.bl d)) (h2 : RV r' (.int j) (.int k) H (.bl d')) : EvP (tChain r r' ta tb tc) σ H (isB (d && d')) := p_B (ev_chain (p_ev ha) (p_ev hb) (p_ev hc) h1 h2)
theorem p_ixT {xs : List Int} (n : Nat) (ha : EvP ta σ H (isT K a xs)) (hx : xs[n]? = some i) : EvP (tOp (rIxT K) ta (tC (.int (n : Int)))) σ H (isI a i) := fun H1 e Q q => ha H1 e _ fun v H2 e2 ⟨p, h1, h2, h3⟩ =>
  ⟨p, _, _, _, h1, rfl, h2, atI_nat (by rw [List.getElem?_map, hx]; rfl), q _ H2 e2 ⟨rfl, h3 _ (List.mem_of_getElem? hx)⟩⟩
theorem p_ixL {xs : List Int} (n : Nat) (ha : EvP ta σ H (isL K a xs)) (hx : xs[n]? = some i) : EvP (tOp (rIxL K) ta (tC (.int (n : Int)))) σ H (isI a i) := fun H1 e Q q => ha H1 e _ fun v H2 e2 ⟨p, h1, h2, h3⟩ =>
  ⟨p, _, _, _, h1, rfl, h2, atI_nat (by rw [List.getElem?_map, hx]; rfl), q _ H2 e2 ⟨rfl, h3 _ (List.mem_of_getElem? hx)⟩⟩
theorem p_if {t : TT} {c : Bool} (h : EvT t σ H c) (h1 : c = true → EvP ta σ H P) (h2 : c = false → EvP tb σ H P) : EvP (tIf t ta tb) σ H P := fun H1 e Q q => h H1 e _ fun H2 e2 => by
  cases c with
  | true =>
    show ta σ H2 Q
    exact h1 rfl H2 (e.trans e2) Q fun v H3 e3 => q v H3 (e2.trans e3)
  | false =>
    show tb σ H2 Q
    exact h2 rfl H2 (e.trans e2) Q fun v H3 e3 => q v H3 (e2.trans e3)
theorem p_bd (h : EvP te σ H (isI a i)) (hab : a ≤ b) : EvP te σ H (isI b i) := h.imp fun _ _ _ p => ⟨p.1, p.2.le hab⟩
theorem p_bdT {xs : List Int} (h : EvP te σ H (isT K a xs)) (hab : a ≤ b) : EvP te σ H (isT K b xs) := h.imp fun _ _ _ ⟨p, h1, h2, h3⟩ => ⟨p, h1, h2, fun x hx => (h3 x hx).le hab⟩
theorem p_bdL {xs : List Int} (h : EvP te σ H (isL K a xs)) (hab : a ≤ b) : EvP te σ H (isL K b xs) := h.imp fun _ _ _ ⟨p, h1, h2, h3⟩ => ⟨p, h1, h2, fun x hx => (h3 x hx).le hab⟩
/-- ints in a row -/
def AllI (is : List (Nat × Int)) : List V → Hp → Prop := fun vs _ => vs = is.map (fun x => .int x.2) ∧ ∀ x ∈ is, Bd x.1 x.2
theorem pa_nilI : EvPA tNil σ H (AllI []) := fun H1 _ Q q => q [] H1 (Ex.refl _) ⟨rfl, fun x hx => by cases hx⟩
theorem pa_consI {tr : TA} {is : List (Nat × Int)} (h : EvP te σ H (isI a i)) (hr : EvPA tr σ H (AllI is)) : EvPA (tCons te tr) σ H (AllI ((a, i) :: is)) := fun H1 e Q q => h H1 e _ fun v H2 e2 p => hr H2 (e.trans e2) _ fun vs H3 e3 p' => q _ H3 (e2.trans e3) ⟨by rw [p.1, p'.1]; rfl, fun x hx => by
  rcases List.mem_cons.mp hx with z | z
  · rw [z]; exact p.2
  · exact p'.2 x z⟩
theorem p_tup {tr : TA} {is : List (Nat × Int)} (m : Nat) (h : EvPA tr σ H (AllI is)) (hl : is.length ≤ 100000) (hm : ∀ x ∈ is, x.1 ≤ m) : EvP (tTup tr) σ H (isT K m (is.map (·.2))) := fun H1 e Q q => h H1 e _ fun vs H2 e2 p => by
  rw [p.1]
  refine ⟨by rw [List.length_map]; exact Evl.sz_of hl, fun t ht => q _ _ (e2.trans (Ex.new ht)) ⟨t, rfl, ?_, ?_⟩⟩
  · rw [List.map_map]
    exact SqT.of upd_same
  · intro x hx
    obtain ⟨y, hy, rfl⟩ := List.mem_map.mp hx
    exact (p.2 y hy).le (hm y hy)
theorem p_lst {tr : TA} {is : List (Nat × Int)} (m : Nat) (h : EvPA tr σ H (AllI is)) (hl : is.length ≤ 100000) (hm : ∀ x ∈ is, x.1 ≤ m) : EvP (tLst tr) σ H (isL K m (is.map (·.2))) := fun H1 e Q q => h H1 e _ fun vs H2 e2 p => by
  rw [p.1]
  refine ⟨by rw [List.length_map]; exact Evl.sz_of hl, fun t ht => q _ _ (e2.trans (Ex.new ht)) ⟨t, rfl, ?_, ?_⟩⟩
  · rw [List.map_map]
    exact SqL.of upd_same
  · intro x hx
    obtain ⟨y, hy, rfl⟩ := List.mem_map.mp hx
    exact (p.2 y hy).le (hm y hy)
/-! ### arguments by what is true of each -/
def AllP : List VP → List V → Hp → Prop
  | [], vs, _ => vs = []
  | P :: Ps, vs, H => ∃ v r, vs = v :: r ∧ P v H ∧ AllP Ps r H
theorem pa_nilP : EvPA tNil σ H (AllP []) := fun H1 _ Q q => q [] H1 (Ex.refl _) rfl
theorem pa_consP {tr : TA} {Ps : List VP} (h : EvP te σ H P) (hm : Mono P) (hr : EvPA tr σ H (AllP Ps)) : EvPA (tCons te tr) σ H (AllP (P :: Ps)) := fun H1 e Q q => h H1 e _ fun v H2 e2 p => hr H2 (e.trans e2) _ fun vs H3 e3 p' => q _ H3 (e2.trans e3) ⟨v, vs, rfl, hm _ _ _ e3 p, p'⟩
/-- a call by a promise that asks just these, and says P' of what it hands back -/
def SpA (sp : Sp) (Ps : List VP) (P' : VP) : Prop := ∀ vs H, AllP Ps vs H → SpP sp vs H P'
theorem p_call {sp : Sp} {E : XK} {ta : TA} {Ps : List VP} (h : EvPA ta σ H (AllP Ps)) (hs : SpA sp Ps P') : EvP (tCall sp [] E ta) σ H P' := fun H1 e Q q => h H1 e _ fun vs H2 e2 p => by
  show sp (vs ++ []) H2 Q E
  rw [List.append_nil]
  exact hs vs H2 p Q (fun v H3 e3 p3 => q v H3 (e2.trans e3) p3) E
/-! ### statements -/
theorem qp_asg {k : Nat} (h : EvP te σ H P) (kk : ∀ v H1, Ex H H1 → P v H1 → tz D (σ.set k (some v)) H1) : tSeq (tAsg te (gName k)) tz D σ H := h H (Ex.refl H) _ fun v H1 e p => kk v H1 e p
theorem sp_asg {k : Nat} (h : EvP te σ H P) (kk : ∀ v H1, Ex H H1 → P v H1 → D.nx (σ.set k (some v)) H1) : tAsg te (gName k) D σ H := h H (Ex.refl H) _ fun v H1 e p => kk v H1 e p
theorem sp_ret (h : EvP te σ H P) (kk : ∀ v H1, Ex H H1 → P v H1 → D.rt v H1) : tRet te D σ H := h H (Ex.refl H) _ fun v H1 e p => kk v H1 e p
theorem et_P {c : Bool} (h : EvP te σ H (isB c)) : EvT (tB te) σ H c := Evl.et_B (p_evB h)
theorem et_C {c : Bool} (h : EvP te σ H (isB c)) : EvT (tTest te) σ H c := Evl.et_test (p_evB h)
end
end My

set_option Elab.async false
set_option linter.all false
set_option maxRecDepth 100000
set_option maxHeartbeats 4000000
/-! P1: lists of tuples of ints, exact lists, rows; comprehensions that make lists of new lists. -/
namespace My
open PySem PySem.Spec PyProof.Rows L2
open Evl (Ev EvL EvU EvT EvA EvO Ex RV RU RC RCL SpV SpL)
def RowsT (K : PySem.W.Frag) (H : Hp) (ws : List V) (qs : List (List Int)) : Prop := ws.length = qs.length ∧ ∀ (i : Nat) (w : V) (q : List Int), ws[i]? = some w → qs[i]? = some q → ∃ t, w = .ref t ∧ SqT K H t (q.map V.int)
theorem RowsT.ex {K : PySem.W.Frag} {H H' : Hp} {ws : List V} {qs : List (List Int)} (e : Ex H H') (h : RowsT K H ws qs) : RowsT K H' ws qs := ⟨h.1, fun i w q hw hq => by
  obtain ⟨t, e1, e2⟩ := h.2 i w q hw hq
  exact ⟨t, e1, Evl.ex_t e e2⟩⟩
def isE (a : Nat) (xs : List Int) : VP := fun v H => ∃ p, v = .ref p ∧ H p = some (.lst (xs.map V.int)) ∧ ∀ x ∈ xs, Bd a x
def isQ (K : PySem.W.Frag) (a : Nat) (qs : List (List Int)) : VP := fun v H => ∃ p ws, v = .ref p ∧ SqL K H p ws ∧ RowsT K H ws qs ∧ ∀ q ∈ qs, ∀ x ∈ q, Bd a x
theorem mono_E {a : Nat} {xs : List Int} : Mono (isE a xs) := fun _ _ _ e ⟨p, h1, h2, h3⟩ => ⟨p, h1, e _ _ h2, h3⟩
theorem mono_Q {K : PySem.W.Frag} {a : Nat} {qs : List (List Int)} : Mono (isQ K a qs) := fun _ _ _ e ⟨p, ws, h1, h2, h3, h4⟩ => ⟨p, ws, h1, Evl.ex_l e h2, h3.ex e, h4⟩
section
variable {K : PySem.W.Frag} {σ : L2.St} {H H' : Hp} {ta tb te tl : TE} {P P' : VP} {a b : Nat} {i j : Int} {D : Ends} {tz : TS} {tt : TT}
theorem p_EL {xs : List Int} (h : EvP te σ H (isE a xs)) : EvP te σ H (isL K a xs) := h.imp fun _ _ _ ⟨p, h1, h2, h3⟩ => ⟨p, h1, Evl.sq_of h2, h3⟩
theorem p_bdE {xs : List Int} (h : EvP te σ H (isE a xs)) (hab : a ≤ b) : EvP te σ H (isE b xs) := h.imp fun _ _ _ ⟨p, h1, h2, h3⟩ => ⟨p, h1, h2, fun x hx => (h3 x hx).le hab⟩
theorem p_bdQ {qs : List (List Int)} (h : EvP te σ H (isQ K a qs)) (hab : a ≤ b) : EvP te σ H (isQ K b qs) := h.imp fun _ _ _ ⟨p, ws, h1, h2, h3, h4⟩ => ⟨p, ws, h1, h2, h3, fun q hq x hx => (h4 q hq x hx).le hab⟩
theorem p_lstE {tr : TA} {is : List (Nat × Int)} (m : Nat) (h : EvPA tr σ H (AllI is)) (hl : is.length ≤ 100000) (hm : ∀ x ∈ is, x.1 ≤ m) : EvP (tLst tr) σ H (isE m (is.map (·.2))) := fun H1 e Q q => h H1 e _ fun vs H2 e2 p => by
  rw [p.1]
  refine ⟨by rw [List.length_map]; exact Evl.sz_of hl, fun t ht => q _ _ (e2.trans (Ex.new ht)) ⟨t, rfl, ?_, ?_⟩⟩
  · rw [List.map_map]
    exact upd_same
  · intro x hx
    obtain ⟨y, hy, rfl⟩ := List.mem_map.mp hx
    exact (p.2 y hy).le (hm y hy)
theorem p_cat {xs ys : List Int} (ha : EvP ta σ H (isE a xs)) (hb : EvP tb σ H (isE a ys)) (hz : xs.length + ys.length ≤ 100000) : EvP (tOp rCat ta tb) σ H (isE a (xs ++ ys)) := fun H1 e Q q => ha H1 e _ fun v H2 e2 ⟨p, h1, h2, h3⟩ => hb H2 (e.trans e2) _ fun w H3 e3 ⟨p', g1, g2, g3⟩ =>
  ⟨p, p', xs.map V.int, ys.map V.int, h1, g1, e3 _ _ h2, g2, by rw [List.length_map, List.length_map]; exact Evl.sz_of hz, fun t ht => q _ _ ((e2.trans e3).trans (Ex.new ht)) ⟨t, rfl, by rw [List.map_append]; exact upd_same, fun x hx => by
    rcases List.mem_append.mp hx with z | z
    · exact h3 x z
    · exact g3 x z⟩⟩
theorem p_qv {k : Nat} {p : Addr} {ws : List V} {qs : List (List Int)} (h : σ[k]? = some (some (.ref p))) (hq : SqL K H p ws) (hr : RowsT K H ws qs) (hb : ∀ q ∈ qs, ∀ x ∈ q, Bd a x) : EvP (tVar k) σ H (isQ K a qs) := fun H1 e Q q => ⟨_, h, q _ H1 (Ex.refl _) ⟨p, ws, rfl, Evl.ex_l e hq, hr.ex e, hb⟩⟩
theorem p_ixQ {qs : List (List Int)} {x : List Int} (n : Nat) (ha : EvP ta σ H (isQ K a qs)) (hx : qs[n]? = some x) : EvP (tOp (rIxL K) ta (tC (.int (n : Int)))) σ H (isT K a x) := fun H1 e Q q => ha H1 e _ fun v H2 e2 ⟨p, ws, h1, h2, h3, h4⟩ => by
  have hn : n < ws.length := by
    rw [h3.1]
    exact (List.getElem?_eq_some_iff.mp hx).1
  have hw : ws[n]? = some ws[n] := List.getElem?_eq_getElem hn
  obtain ⟨t, e1, e3⟩ := h3.2 n _ _ hw hx
  rw [e1] at hw
  exact ⟨p, _, _, _, h1, rfl, h2, atI_nat hw, q _ H2 e2 ⟨t, rfl, e3, fun y hy => h4 x (List.mem_of_getElem? hx) y hy⟩⟩
theorem dp2 {t : Addr} {x y : Int} (h : SqT K H t ([x, y].map V.int)) : Dp K H (.ref t) (.tuple [.int x, .int y]) := .tup h (.cons (.int _) (.cons (.int _) .nil))
theorem p_eqT2 {x0 x1 y0 y1 : Int} (ha : EvP ta σ H (isT K a [x0, x1])) (hb : EvP tb σ H (isT K b [y0, y1])) : EvP (tOp (rEqD K) ta tb) σ H (isB (decide (x0 = y0) && decide (x1 = y1))) := fun H1 e Q q => ha H1 e _ fun v H2 e2 ⟨p, h1, h2, h3⟩ => hb H2 (e.trans e2) _ fun w H3 e3 ⟨p', g1, g2, g3⟩ => by
  subst h1 g1
  refine ⟨_, _, dp2 (Evl.ex_t e3 h2), dp2 g2, rfl, rfl, ?_⟩
  have e0 : PyData.eqv (.tuple [.int x0, .int x1]) (.tuple [.int y0, .int y1]) = (decide (x0 = y0) && decide (x1 = y1)) := by
    simp only [PyData.eqv, PyData.eqvAll, Bool.and_true]
    rfl
  rw [e0]
  exact q _ _ (e2.trans e3) rfl
end
/-! ### rows: lists of lists of numbers -/
def nl (xs : List Nat) : List V := xs.map fun (n : Nat) => V.int (n : Int)
theorem nl_len (xs : List Nat) : (nl xs).length = xs.length := List.length_map _
/-- the lists at ws, all of them new since H0 -/
def RowsN (H0 H : Hp) (ws : List V) (xss : List (List Nat)) : Prop := ws.length = xss.length ∧ ∀ (i : Nat) (w : V) (xs : List Nat), ws[i]? = some w → xss[i]? = some xs → ∃ a, w = .ref a ∧ H0 a = none ∧ H a = some (.lst (nl xs))
section
variable {K : PySem.W.Frag} {σ : L2.St} {H H' H0 : Hp} {ta tb te tl : TE} {D : Ends} {tz : TS} {tt : TT} {ws : List V} {xss : List (List Nat)}
theorem RowsN.ex (e : Ex H H') (h : RowsN H0 H ws xss) : RowsN H0 H' ws xss := ⟨h.1, fun i w xs hw hx => by
  obtain ⟨a, e1, e2, e3⟩ := h.2 i w xs hw hx
  exact ⟨a, e1, e2, e _ _ e3⟩⟩
theorem RowsN.back {H1 : Hp} (e : Ex H0 H1) (h : RowsN H1 H ws xss) : RowsN H0 H ws xss := ⟨h.1, fun i w xs hw hx => by
  obtain ⟨a, e1, e2, e3⟩ := h.2 i w xs hw hx
  exact ⟨a, e1, Evl.fresh_back e e2, e3⟩⟩
/-- another list is changed, that stood in H0 -/
theorem RowsN.upd {l : Addr} {o o' : HO} (hl : H0 l = some o) (h : RowsN H0 H ws xss) : RowsN H0 (upd H l o') ws xss := ⟨h.1, fun i w xs hw hx => by
  obtain ⟨a, e1, e2, e3⟩ := h.2 i w xs hw hx
  refine ⟨a, e1, e2, ?_⟩
  rw [upd_ne]
  · exact e3
  · intro z
    rw [z, hl] at e2
    cases e2⟩
theorem RowsN.nil : RowsN H0 H [] [] := ⟨rfl, fun i w xs hw _ => by simp at hw⟩
theorem RowsN.append {ws' : List V} {yss : List (List Nat)} (h : RowsN H0 H ws xss) (h' : RowsN H0 H ws' yss) : RowsN H0 H (ws ++ ws') (xss ++ yss) := by
  refine ⟨by rw [List.length_append, List.length_append, h.1, h'.1], fun i w xs hw hx => ?_⟩
  by_cases hi : i < ws.length
  · rw [List.getElem?_append_left hi] at hw
    rw [List.getElem?_append_left (by rw [← h.1]; exact hi)] at hx
    exact h.2 i w xs hw hx
  · rw [List.getElem?_append_right (by omega)] at hw
    rw [List.getElem?_append_right (by rw [← h.1]; omega), ← h.1] at hx
    exact h'.2 _ w xs hw hx
theorem RowsN.get {i : Nat} {xs : List Nat} (h : RowsN H0 H ws xss) (hx : xss[i]? = some xs) : ∃ a, ws[i]? = some (.ref a) ∧ H0 a = none ∧ H a = some (.lst (nl xs)) := by
  have hi : i < ws.length := by
    rw [h.1]
    exact (List.getElem?_eq_some_iff.mp hx).1
  have hw : ws[i]? = some ws[i] := List.getElem?_eq_getElem hi
  obtain ⟨a, e1, e2, e3⟩ := h.2 i _ xs hw hx
  exact ⟨a, by rw [hw, e1], e2, e3⟩
theorem RowsN.of {i : Nat} {w : V} (h : RowsN H0 H ws xss) (hw : ws[i]? = some w) : ∃ xs a, xss[i]? = some xs ∧ w = .ref a ∧ H0 a = none ∧ H a = some (.lst (nl xs)) := by
  have hi : i < xss.length := by
    rw [← h.1]
    exact (List.getElem?_eq_some_iff.mp hw).1
  have hx : xss[i]? = some xss[i] := List.getElem?_eq_getElem hi
  obtain ⟨a, e1, e2, e3⟩ := h.2 i w _ hw hx
  exact ⟨_, a, hx, e1, e2, e3⟩
/-- a new list of new lists -/
def EvR (te : TE) (σ : L2.St) (H : Hp) (xss : List (List Nat)) : Prop := ∀ H1, Ex H H1 → ∀ Q : VK, (∀ p H2 ws, H1 p = none → Ex H1 H2 → H2 p = some (.lst ws) → RowsN H1 H2 ws xss → (∀ w ∈ ws, w ≠ .ref p) → Q (.ref p) H2) → te σ H1 Q
def RetR (xss : List (List Nat)) (H : Hp) (Q : VK) : Prop := ∀ p H2 ws, H p = none → Ex H H2 → H2 p = some (.lst ws) → RowsN H H2 ws xss → Q (.ref p) H2
def SpR (sp : Sp) (vs : List V) (H : Hp) (xss : List (List Nat)) : Prop := ∀ H1, Ex H H1 → ∀ Q : VK, RetR xss H1 Q → ∀ E : XK, sp vs H1 Q E
def givenR (n : Nat) (f : Nat → Bool) (g : Nat → List Nat) : List (List Nat) := ((List.range n).filter f).map g
theorem givenR_yes {n : Nat} {f : Nat → Bool} {g : Nat → List Nat} (h : f n = true) : givenR (n + 1) f g = givenR n f g ++ [g n] := by
  unfold givenR
  rw [List.range_succ, List.filter_append, List.map_append]
  simp [h]
theorem givenR_no {n : Nat} {f : Nat → Bool} {g : Nat → List Nat} (h : f n = false) : givenR (n + 1) f g = givenR n f g := by
  unfold givenR
  rw [List.range_succ, List.filter_append, List.map_append]
  simp [h]
theorem givenR_len (n : Nat) (f : Nat → Bool) (g : Nat → List Nat) : (givenR n f g).length ≤ n := by
  unfold givenR
  rw [List.length_map]
  exact Nat.le_trans (List.length_filter_le _ _) (by simp)
/-- behind i turns: Dl holds what is made so far -/
def Cr (H : Hp) (f : Nat → Bool) (g : Nat → List Nat) (Dl : Addr) (i : Nat) (H' : Hp) : Prop := H Dl = none ∧ Ex H H' ∧ ∃ ws, H' Dl = some (.lst ws) ∧ RowsN H H' ws (givenR i f g) ∧ ∀ w ∈ ws, w ≠ .ref Dl
theorem cr_turn {f : Nat → Bool} {g : Nat → List Nat} {Dl : Addr} {i : Nat} {σ2 : L2.St} (p : Cr H f g Dl i H') (hi : i < 50000) (ht : EvT tt σ2 H (f i)) (he : f i = true → EvL te σ2 H (nl (g i))) :
    tt σ2 H' fun b H3 => if b = true then te σ2 H3 fun y H4 => ∃ acc, H4 Dl = some (.lst acc) ∧ acc.length < sizeLine ∧ Cr H f g Dl (i + 1) (upd H4 Dl (.lst (acc ++ [y]))) else Cr H f g Dl (i + 1) H3 := by
  obtain ⟨p1, p2, ws, p3, p4, p5⟩ := p
  refine ht H' p2 _ fun H3 e3 => ?_
  cases hb : f i with
  | true =>
    show te σ2 H3 _
    refine he hb H3 (p2.trans e3) _ fun y H4 hy e4 h4 => ?_
    have hlen := givenR_len i f g
    have hyD : y ≠ Dl := fun z => by
      rw [z, e3 _ _ p3] at hy
      cases hy
    refine ⟨ws, e4 _ _ (e3 _ _ p3), Evl.sz_lt (by rw [p4.1]; omega), p1, Ex.mut ((p2.trans e3).trans e4) p1, ws ++ [.ref y], upd_same, ?_, ?_⟩
    · rw [givenR_yes hb]
      refine RowsN.append ⟨p4.1, fun k w xs hw hx => ?_⟩ ⟨rfl, fun k w xs hw hx => ?_⟩
      · obtain ⟨a, e1, e2, e5⟩ := p4.2 k w xs hw hx
        refine ⟨a, e1, e2, ?_⟩
        rw [upd_ne]
        · exact e4 _ _ (e3 _ _ e5)
        · intro z
          exact p5 w (List.mem_of_getElem? hw) (by rw [e1, z])
      · cases k with
        | zero =>
          have e1 : V.ref y = w := Option.some.inj hw
          have e2 : g i = xs := Option.some.inj hx
          subst e1 e2
          refine ⟨y, rfl, Evl.fresh_back ((p2.trans e3)) hy, ?_⟩
          rw [upd_ne hyD]
          exact h4
        | succ m => simp at hw
    · intro w hw
      rcases List.mem_append.mp hw with z | z
      · exact p5 w z
      · rw [List.mem_singleton.mp z]
        intro e
        exact hyD (V.ref.inj e)
  | false =>
    show Cr H f g Dl (i + 1) H3
    refine ⟨p1, p2.trans e3, ws, e3 _ _ p3, ?_, p5⟩
    rw [givenR_no hb]
    exact p4.ex e3
theorem cr_start {f : Nat → Bool} {g : Nat → List Nat} {Dl : Addr} (h : H Dl = none) : Cr H f g Dl 0 (upd H Dl (.lst [])) := ⟨h, Ex.new h, [], upd_same, .nil, fun w hw => absurd hw (by simp)⟩
/-- [a new list for x in xs if t] -/
theorem er_lcL {a : Addr} {xs : List V} {j : Nat} (f : Nat → Bool) (g : Nat → List Nat) (h : Ev tl σ H (.ref a)) (hx : SqL K H a xs) (hz : xs.length ≤ 40000)
    (ht : ∀ i x H1, Ex H H1 → xs[i]? = some x → EvT tt ((wipe σ [j]).set j (some x)) H1 (f i)) (he : ∀ i x H1, Ex H H1 → xs[i]? = some x → f i = true → EvL te ((wipe σ [j]).set j (some x)) H1 (nl (g i))) : EvR (tLc (iList K tl) (gName j) tt te [j]) σ H (givenR xs.length f g) := fun H0 e Q q => h H0 e _ fun H1 e1 => ⟨a, rfl, ⟨xs, Evl.ex_l (e.trans e1) hx⟩, fun Dl hD =>
  lc_list (xs := xs) (fun i H' => Cr H1 f g Dl i H') (cr_start hD) (fun i H' _ p => Evl.ex_l ((e.trans e1).trans p.2.1) hx) (fun i x H' hi p => by
    have hil : i < xs.length := (List.getElem?_eq_some_iff.mp hi).1
    refine ⟨wipe1 j x, ?_⟩
    exact cr_turn p (by omega) ((ht i x H1 (e.trans e1) hi)) fun hb => he i x H1 (e.trans e1) hi hb)
    (fun H' p => by
      obtain ⟨p1, p2, ws, p3, p4, p5⟩ := p
      exact q Dl H' ws (Evl.fresh_back e1 hD) (e1.trans p2) p3 (p4.back e1) p5)⟩
/-- [a new list for x in range(lo, n)] -/
theorem er_lcR2 {ta : TA} {j : Nat} {lo n : Nat} (f : Nat → Bool) (g : Nat → List Nat) (h : EvA ta σ H [.int (lo : Int), .int (n : Int)]) (hn : lo ≤ 40000 ∧ n ≤ 40000)
    (ht : ∀ i H1, Ex H H1 → i < n - lo → EvT tt ((wipe σ [j]).set j (some (.int ((lo + i : Nat) : Int)))) H1 (f i)) (he : ∀ i H1, Ex H H1 → i < n - lo → f i = true → EvL te ((wipe σ [j]).set j (some (.int ((lo + i : Nat) : Int)))) H1 (nl (g i))) : EvR (tLc (iRng2 ta) (gName j) tt te [j]) σ H (givenR (n - lo) f g) := fun H0 e Q q => h H0 e _ fun H1 e1 => ⟨(lo : Int), (n : Int), rfl, ⟨by omega, by omega, by omega, by omega⟩, fun Dl hD => by
  have en : ((n : Int) - (lo : Int)).toNat = n - lo := by omega
  rw [en]
  refine lc_range (fun i H' => Cr H1 f g Dl i H') (cr_start hD) (fun i H' hi p => ?_) (fun H' p => ?_)
  · refine ⟨wipe1 j _, ?_⟩
    have e2 : (lo : Int) + (i : Int) = ((lo + i : Nat) : Int) := by omega
    rw [e2]
    exact cr_turn p (by omega) (ht i H1 (e.trans e1) hi) fun hb => he i H1 (e.trans e1) hi hb
  · obtain ⟨p1, p2, ws, p3, p4, p5⟩ := p
    exact q Dl H' ws (Evl.fresh_back e1 hD) (e1.trans p2) p3 (p4.back e1) p5⟩
end
end My

set_option Elab.async false
set_option linter.all false
set_option maxRecDepth 100000
set_option maxHeartbeats 4000000
namespace My
open PySem PySem.Spec PyProof.Rows L2
open Evl (Ev EvL EvU EvT EvA EvO Ex RV RU RC RCL SpV SpL)
def top (i : Nat) : Stmt := PySem.Challenge.pw_pointsayings_s01_answers.main.body.getD i (.Pass ⟨0, 0, 0, 0⟩)
abbrev s_nine_of_slant : Stmt := top 2
abbrev s_measure : Stmt := top 3
abbrev s_may_bend : Stmt := top 4
abbrev s_bent : Stmt := top 5
abbrev s_is_kind : Stmt := top 24
abbrev s_may_be_said : Stmt := top 25
abbrev s_way : Stmt := top 27
abbrev s_turn : Stmt := top 28
abbrev s_lean : Stmt := top 29
abbrev s_multiplied : Stmt := top 30
abbrev s_square : Stmt := top 31
abbrev s_is_same : Stmt := top 33
abbrev s_is_line : Stmt := top 34
abbrev s_is_parallel : Stmt := top 35
abbrev s_is_right : Stmt := top 36
abbrev s_is_times : Stmt := top 37
abbrev s_is_equal : Stmt := top 38
abbrev s_is_circle : Stmt := top 39
abbrev s_is_angles : Stmt := top 40
abbrev s_is_areas : Stmt := top 41
abbrev s_line_numbers : Stmt := top 42
abbrev s_is_through : Stmt := top 43
abbrev s_is_middle : Stmt := top 44
abbrev s_is_touches : Stmt := top 45
abbrev s_is_alike : Stmt := top 46
abbrev s_is_so : Stmt := top 48
abbrev s_rising : Stmt := top 50
abbrev s_pairs_of_ways : Stmt := top 51
abbrev s_middles : Stmt := top 52
abbrev s_rows_to_ask : Stmt := top 53
abbrev s_rows_so : Stmt := top 54
abbrev s_is_so_throughout : Stmt := top 55
abbrev s_sets_throughout : Stmt := top 56
abbrev s_largest_set : Stmt := top 57
abbrev s_greatest_common : Stmt := top 61
abbrev s_fraction : Stmt := top 62
abbrev s_three_numbers : Stmt := top 63
abbrev s_may_be_told : Stmt := top 64
abbrev s_is_too_large : Stmt := top 65
abbrev s_common_below : Stmt := top 66
abbrev s_whole_places : Stmt := top 67
abbrev s_may_be_asked : Stmt := top 69
abbrev s_keeps_shapes : Stmt := top 70
abbrev s_is_kept : Stmt := top 71
abbrev s_is_too_large_to_tell : Stmt := top 74
abbrev s_may_be_crossed : Stmt := top 75
abbrev s_cross_fraction : Stmt := top 76
abbrev s_centre_fractions : Stmt := top 77
abbrev s_split_calls : Stmt := top 94
abbrev s_answer_with : Stmt := top 104
abbrev s_Plane___init__ : Stmt := inClass (top 105) 0
abbrev s_Plane_begin : Stmt := inClass (top 105) 1
abbrev s_Plane_point : Stmt := inClass (top 105) 2
abbrev s_Plane_put : Stmt := inClass (top 105) 3
abbrev s_Plane_out : Stmt := inClass (top 105) 4
abbrev s_Plane_slant : Stmt := inClass (top 105) 5
abbrev s_Plane_bend : Stmt := inClass (top 105) 6
abbrev s_Plane_points : Stmt := inClass (top 105) 7
abbrev s_Plane_has_each : Stmt := inClass (top 105) 8
abbrev s_Plane_places_of : Stmt := inClass (top 105) 9
abbrev s_Plane_where : Stmt := inClass (top 105) 10
abbrev s_Plane_says : Stmt := inClass (top 105) 11
abbrev s_Plane_every : Stmt := inClass (top 105) 12
abbrev s_Plane_most : Stmt := inClass (top 105) 13
abbrev s_Plane_keeps : Stmt := inClass (top 105) 14
abbrev s_Plane_cross : Stmt := inClass (top 105) 15
abbrev s_Plane_centre : Stmt := inClass (top 105) 16
abbrev s_answer_of : Stmt := top 106
abbrev s_answers : Stmt := top 107
theorem sc_nine_of_slant : FnScope ["a", "b", "c", "d", "e", "f"] ["a", "b", "c", "d", "e", "f"] (defScope s_nine_of_slant) := ⟨rfl, rfl, rfl, by decide +kernel, rfl, by decide +kernel, by decide +kernel⟩
theorem sc_measure : FnScope ["m", "first", "second", "third"] ["m"] (defScope s_measure) := ⟨rfl, rfl, rfl, by decide +kernel, rfl, by decide +kernel, by decide +kernel⟩
theorem sc_may_bend : FnScope ["row", "number"] ["row"] (defScope s_may_bend) := ⟨rfl, rfl, rfl, by decide +kernel, rfl, by decide +kernel, by decide +kernel⟩
theorem sc_bent : FnScope ["place", "m", "x", "y", "w", "across", "up", "divisor"] ["place", "m"] (defScope s_bent) := ⟨rfl, rfl, rfl, by decide +kernel, rfl, by decide +kernel, by decide +kernel⟩
theorem sc_is_kind : FnScope ["kind"] ["kind"] (defScope s_is_kind) := ⟨rfl, rfl, rfl, by decide +kernel, rfl, by decide +kernel, by decide +kernel⟩
theorem sc_may_be_said : FnScope ["kind", "row"] ["kind", "row"] (defScope s_may_be_said) := ⟨rfl, rfl, rfl, by decide +kernel, rfl, by decide +kernel, by decide +kernel⟩
theorem sc_way : FnScope ["a", "b"] ["a", "b"] (defScope s_way) := ⟨rfl, rfl, rfl, by decide +kernel, rfl, by decide +kernel, by decide +kernel⟩
theorem sc_turn : FnScope ["first", "second"] ["first", "second"] (defScope s_turn) := ⟨rfl, rfl, rfl, by decide +kernel, rfl, by decide +kernel, by decide +kernel⟩
theorem sc_lean : FnScope ["first", "second"] ["first", "second"] (defScope s_lean) := ⟨rfl, rfl, rfl, by decide +kernel, rfl, by decide +kernel, by decide +kernel⟩
theorem sc_multiplied : FnScope ["first", "second", "across", "up"] ["first", "second"] (defScope s_multiplied) := ⟨rfl, rfl, rfl, by decide +kernel, rfl, by decide +kernel, by decide +kernel⟩
theorem sc_square : FnScope ["one"] ["one"] (defScope s_square) := ⟨rfl, rfl, rfl, by decide +kernel, rfl, by decide +kernel, by decide +kernel⟩
theorem sc_is_same : FnScope ["p"] ["p"] (defScope s_is_same) := ⟨rfl, rfl, rfl, by decide +kernel, rfl, by decide +kernel, by decide +kernel⟩
theorem sc_is_line : FnScope ["p"] ["p"] (defScope s_is_line) := ⟨rfl, rfl, rfl, by decide +kernel, rfl, by decide +kernel, by decide +kernel⟩
theorem sc_is_parallel : FnScope ["p"] ["p"] (defScope s_is_parallel) := ⟨rfl, rfl, rfl, by decide +kernel, rfl, by decide +kernel, by decide +kernel⟩
theorem sc_is_right : FnScope ["p"] ["p"] (defScope s_is_right) := ⟨rfl, rfl, rfl, by decide +kernel, rfl, by decide +kernel, by decide +kernel⟩
theorem sc_is_times : FnScope ["p", "m", "n"] ["p", "m", "n"] (defScope s_is_times) := ⟨rfl, rfl, rfl, by decide +kernel, rfl, by decide +kernel, by decide +kernel⟩
theorem sc_is_equal : FnScope ["p"] ["p"] (defScope s_is_equal) := ⟨rfl, rfl, rfl, by decide +kernel, rfl, by decide +kernel, by decide +kernel⟩
theorem sc_is_circle : FnScope ["p", "nine", "other", "seen"] ["p"] (defScope s_is_circle) := ⟨rfl, rfl, rfl, by decide +kernel, rfl, by decide +kernel, by decide +kernel⟩
theorem sc_is_angles : FnScope ["p", "to_a", "to_c", "to_d", "to_f"] ["p"] (defScope s_is_angles) := ⟨rfl, rfl, rfl, by decide +kernel, rfl, by decide +kernel, by decide +kernel⟩
theorem sc_is_areas : FnScope ["p"] ["p"] (defScope s_is_areas) := ⟨rfl, rfl, rfl, by decide +kernel, rfl, by decide +kernel, by decide +kernel⟩
theorem sc_line_numbers : FnScope ["a", "b"] ["a", "b"] (defScope s_line_numbers) := ⟨rfl, rfl, rfl, by decide +kernel, rfl, by decide +kernel, by decide +kernel⟩
theorem sc_is_through : FnScope ["p"] ["p"] (defScope s_is_through) := ⟨rfl, rfl, rfl, by decide +kernel, rfl, by decide +kernel, by decide +kernel⟩
theorem sc_is_middle : FnScope ["p"] ["p"] (defScope s_is_middle) := ⟨rfl, rfl, rfl, by decide +kernel, rfl, by decide +kernel, by decide +kernel⟩
theorem sc_is_touches : FnScope ["p", "along", "turned"] ["p"] (defScope s_is_touches) := ⟨rfl, rfl, rfl, by decide +kernel, rfl, by decide +kernel, by decide +kernel⟩
theorem sc_is_alike : FnScope ["p", "first", "second"] ["p"] (defScope s_is_alike) := ⟨rfl, rfl, rfl, by decide +kernel, rfl, by decide +kernel, by decide +kernel⟩
theorem sc_is_so : FnScope ["kind", "p", "others"] ["kind", "p", "others"] (defScope s_is_so) := ⟨rfl, rfl, rfl, by decide +kernel, rfl, by decide +kernel, by decide +kernel⟩
theorem sc_rising : FnScope ["count", "size", "rows", "done", "longer", "row", "start", "number"] ["count", "size"] (defScope s_rising) := ⟨rfl, rfl, rfl, by decide +kernel, rfl, by decide +kernel, by decide +kernel⟩
theorem sc_pairs_of_ways : FnScope ["count", "ways", "rows", "done", "first", "second"] ["count"] (defScope s_pairs_of_ways) := ⟨rfl, rfl, rfl, by decide +kernel, rfl, by decide +kernel, by decide +kernel⟩
theorem sc_middles : FnScope ["count", "ways", "rows", "a", "ends"] ["count"] (defScope s_middles) := ⟨rfl, rfl, rfl, by decide +kernel, rfl, by decide +kernel, by decide +kernel⟩
theorem sc_rows_to_ask : FnScope ["kind", "count"] ["kind", "count"] (defScope s_rows_to_ask) := ⟨rfl, rfl, rfl, by decide +kernel, rfl, by decide +kernel, by decide +kernel⟩
theorem sc_rows_so : FnScope ["kind", "p", "row", "k"] ["kind", "p"] (defScope s_rows_so) := ⟨rfl, rfl, rfl, by decide +kernel, rfl, by decide +kernel, by decide +kernel⟩
theorem sc_is_so_throughout : FnScope ["members", "parts", "so", "part", "k"] ["members", "parts", "so"] (defScope s_is_so_throughout) := ⟨rfl, rfl, rfl, by decide +kernel, rfl, by decide +kernel, by decide +kernel⟩
theorem sc_sets_throughout : FnScope ["count", "size", "width", "so", "parts", "members"] ["count", "size", "width", "so"] (defScope s_sets_throughout) := ⟨rfl, rfl, rfl, by decide +kernel, rfl, by decide +kernel, by decide +kernel⟩
theorem sc_largest_set : FnScope ["kind", "p", "width", "so", "row", "size", "found"] ["kind", "p"] (defScope s_largest_set) := ⟨rfl, rfl, rfl, by decide +kernel, rfl, by decide +kernel, by decide +kernel⟩
theorem sc_greatest_common : FnScope ["a", "b", "greater", "lesser", "rest"] ["a", "b"] (defScope s_greatest_common) := ⟨rfl, rfl, rfl, by decide +kernel, rfl, by decide +kernel, by decide +kernel⟩
theorem sc_fraction : FnScope ["above", "below", "common"] ["above", "below"] (defScope s_fraction) := ⟨rfl, rfl, rfl, by decide +kernel, rfl, by decide +kernel, by decide +kernel⟩
theorem sc_three_numbers : FnScope ["x", "y", "w", "common"] ["x", "y", "w"] (defScope s_three_numbers) := ⟨rfl, rfl, rfl, by decide +kernel, rfl, by decide +kernel, by decide +kernel⟩
theorem sc_may_be_told : FnScope ["x", "y", "w"] ["x", "y", "w"] (defScope s_may_be_told) := ⟨rfl, rfl, rfl, by decide +kernel, rfl, by decide +kernel, by decide +kernel⟩
theorem sc_is_too_large : FnScope ["place"] ["place"] (defScope s_is_too_large) := ⟨rfl, rfl, rfl, by decide +kernel, rfl, by decide +kernel, by decide +kernel⟩
theorem sc_common_below : FnScope ["places", "common", "place", "w"] ["places"] (defScope s_common_below) := ⟨rfl, rfl, rfl, by decide +kernel, rfl, by decide +kernel, by decide +kernel⟩
theorem sc_whole_places : FnScope ["places", "common", "place"] ["places"] (defScope s_whole_places) := ⟨rfl, rfl, rfl, by decide +kernel, rfl, by decide +kernel, by decide +kernel⟩
theorem sc_may_be_asked : FnScope ["kind", "a", "b", "c", "d", "number"] ["kind", "a", "b", "c", "d"] (defScope s_may_be_asked) := ⟨rfl, rfl, rfl, by decide +kernel, rfl, by decide +kernel, by decide +kernel⟩
theorem sc_keeps_shapes : FnScope ["a", "b", "c", "d", "across", "up"] ["a", "b", "c", "d"] (defScope s_keeps_shapes) := ⟨rfl, rfl, rfl, by decide +kernel, rfl, by decide +kernel, by decide +kernel⟩
theorem sc_is_kept : FnScope ["kind", "a", "b", "c", "d"] ["kind", "a", "b", "c", "d"] (defScope s_is_kept) := ⟨rfl, rfl, rfl, by decide +kernel, rfl, by decide +kernel, by decide +kernel⟩
theorem sc_is_too_large_to_tell : FnScope ["numbers", "number"] ["numbers"] (defScope s_is_too_large_to_tell) := ⟨rfl, rfl, rfl, by decide +kernel, rfl, by decide +kernel, by decide +kernel⟩
theorem sc_may_be_crossed : FnScope ["p"] ["p"] (defScope s_may_be_crossed) := ⟨rfl, rfl, rfl, by decide +kernel, rfl, by decide +kernel, by decide +kernel⟩
theorem sc_cross_fraction : FnScope ["p", "side", "a", "b", "c", "d"] ["p"] (defScope s_cross_fraction) := ⟨rfl, rfl, rfl, by decide +kernel, rfl, by decide +kernel, by decide +kernel⟩
theorem sc_centre_fractions : FnScope ["p", "stretched", "to_b", "to_c", "below", "across", "up", "told"] ["p", "stretched"] (defScope s_centre_fractions) := ⟨rfl, rfl, rfl, by decide +kernel, rfl, by decide +kernel, by decide +kernel⟩
theorem sc_split_calls : FnScope ["calls", "told", "start", "call", "end", "numbers", "row", "row_start"] ["calls"] (defScope s_split_calls) := ⟨rfl, rfl, rfl, by decide +kernel, rfl, by decide +kernel, by decide +kernel⟩
theorem sc_answer_with : FnScope ["numbers"] ["numbers"] (defScope s_answer_with) := ⟨rfl, rfl, rfl, by decide +kernel, rfl, by decide +kernel, by decide +kernel⟩
theorem sc_Plane___init__ : FnScope ["self"] ["self"] (defScope s_Plane___init__) := ⟨rfl, rfl, rfl, by decide +kernel, rfl, by decide +kernel, by decide +kernel⟩
theorem sc_Plane_begin : FnScope ["self"] ["self"] (defScope s_Plane_begin) := ⟨rfl, rfl, rfl, by decide +kernel, rfl, by decide +kernel, by decide +kernel⟩
theorem sc_Plane_point : FnScope ["self", "x", "y", "w"] ["self", "x", "y", "w"] (defScope s_Plane_point) := ⟨rfl, rfl, rfl, by decide +kernel, rfl, by decide +kernel, by decide +kernel⟩
theorem sc_Plane_put : FnScope ["self", "p", "x", "y", "w"] ["self", "p", "x", "y", "w"] (defScope s_Plane_put) := ⟨rfl, rfl, rfl, by decide +kernel, rfl, by decide +kernel, by decide +kernel⟩
theorem sc_Plane_out : FnScope ["self"] ["self"] (defScope s_Plane_out) := ⟨rfl, rfl, rfl, by decide +kernel, rfl, by decide +kernel, by decide +kernel⟩
theorem sc_Plane_slant : FnScope ["self", "a", "b", "c", "d", "e", "f"] ["self", "a", "b", "c", "d", "e", "f"] (defScope s_Plane_slant) := ⟨rfl, rfl, rfl, by decide +kernel, rfl, by decide +kernel, by decide +kernel⟩
theorem sc_Plane_bend : FnScope ["self", "row", "brought", "places", "place", "triple"] ["self", "row"] (defScope s_Plane_bend) := ⟨rfl, rfl, rfl, by decide +kernel, rfl, by decide +kernel, by decide +kernel⟩
theorem sc_Plane_points : FnScope ["self"] ["self"] (defScope s_Plane_points) := ⟨rfl, rfl, rfl, by decide +kernel, rfl, by decide +kernel, by decide +kernel⟩
theorem sc_Plane_has_each : FnScope ["self", "numbers", "p"] ["self", "numbers"] (defScope s_Plane_has_each) := ⟨rfl, rfl, rfl, by decide +kernel, rfl, by decide +kernel, by decide +kernel⟩
theorem sc_Plane_places_of : FnScope ["self", "numbers", "p"] ["self", "numbers"] (defScope s_Plane_places_of) := ⟨rfl, rfl, rfl, by decide +kernel, rfl, by decide +kernel, by decide +kernel⟩
theorem sc_Plane_where : FnScope ["self", "p", "place"] ["self", "p"] (defScope s_Plane_where) := ⟨rfl, rfl, rfl, by decide +kernel, rfl, by decide +kernel, by decide +kernel⟩
theorem sc_Plane_says : FnScope ["self", "kind", "row", "told", "others"] ["self", "kind", "row"] (defScope s_Plane_says) := ⟨rfl, rfl, rfl, by decide +kernel, rfl, by decide +kernel, by decide +kernel⟩
theorem sc_Plane_every : FnScope ["self", "kind", "rows", "answer", "row"] ["self", "kind"] (defScope s_Plane_every) := ⟨rfl, rfl, rfl, by decide +kernel, rfl, by decide +kernel, by decide +kernel⟩
theorem sc_Plane_most : FnScope ["self", "kind", "members"] ["self", "kind"] (defScope s_Plane_most) := ⟨rfl, rfl, rfl, by decide +kernel, rfl, by decide +kernel, by decide +kernel⟩
theorem sc_Plane_keeps : FnScope ["self", "kind", "a", "b", "c", "d"] ["self", "kind", "a", "b", "c", "d"] (defScope s_Plane_keeps) := ⟨rfl, rfl, rfl, by decide +kernel, rfl, by decide +kernel, by decide +kernel⟩
theorem sc_Plane_cross : FnScope ["self", "told", "p"] ["self", "told"] (defScope s_Plane_cross) := ⟨rfl, rfl, rfl, by decide +kernel, rfl, by decide +kernel, by decide +kernel⟩
theorem sc_Plane_centre : FnScope ["self", "told", "places", "p"] ["self", "told"] (defScope s_Plane_centre) := ⟨rfl, rfl, rfl, by decide +kernel, rfl, by decide +kernel, by decide +kernel⟩
theorem sc_answer_of : FnScope ["plane", "call", "n", "row"] ["plane", "call", "n", "row"] (defScope s_answer_of) := ⟨rfl, rfl, rfl, by decide +kernel, rfl, by decide +kernel, by decide +kernel⟩
theorem sc_answers : FnScope ["calls", "plane", "given", "told", "answer"] ["calls"] (defScope s_answers) := ⟨rfl, rfl, rfl, by decide +kernel, rfl, by decide +kernel, by decide +kernel⟩
/-- where things lie -/
structure Ad where
  c_Plane : Addr
  a_POINTS_OF_KIND : Addr
  a_KINDS_RISING : Addr
  a_KINDS_OF_WAYS : Addr
  a_KINDS_OF_ALL : Addr
  a_KINDS_OF_MOST : Addr
  a_KINDS_KEPT_BY_ANY : Addr
  a_BY_KIND : Addr
  a_PLAIN_NUMBERS : Addr
  a_CALLS_WITH_ROW : Addr
  k_LARGEST_OF_NINE : Tok
  k_SAME : Tok
  k_LINE : Tok
  k_PARALLEL : Tok
  k_RIGHT : Tok
  k_EQUAL : Tok
  k_TIMES : Tok
  k_CIRCLE : Tok
  k_AREAS : Tok
  k_THROUGH : Tok
  k_MIDDLE : Tok
  k_LARGEST_OF_TIMES : Tok
  k_LARGEST_TOLD : Tok
  k_LARGEST_KEPT : Tok
  k_LARGEST_ANSWERED : Tok
  k_BEGIN : Tok
  k_POINT : Tok
  k_PUT : Tok
  k_OUT : Tok
  k_SLANT : Tok
  k_BEND : Tok
  k_POINTS : Tok
  k_WHERE : Tok
  k_SAYS : Tok
  k_ALL : Tok
  k_MOST : Tok
  k_KEEPS : Tok
  k_CROSS : Tok
  k_NO_POINT : Tok
  k_WRONG_NUMBERS : Tok
  k_NO_ROOM : Tok
  k_GOES_AWAY : Tok
  k_NOT_SO_PLACED : Tok
  k_NOT_BEGUN : Tok
  k_TOO_LARGE : Tok
  k_MOST_POINTS : Tok
  f_nine_of_slant : Addr
  d_nine_of_slant : FuncData
  f_measure : Addr
  d_measure : FuncData
  f_may_bend : Addr
  d_may_bend : FuncData
  f_bent : Addr
  d_bent : FuncData
  f_is_kind : Addr
  d_is_kind : FuncData
  f_may_be_said : Addr
  d_may_be_said : FuncData
  f_way : Addr
  d_way : FuncData
  f_turn : Addr
  d_turn : FuncData
  f_lean : Addr
  d_lean : FuncData
  f_multiplied : Addr
  d_multiplied : FuncData
  f_square : Addr
  d_square : FuncData
  f_is_same : Addr
  d_is_same : FuncData
  f_is_line : Addr
  d_is_line : FuncData
  f_is_parallel : Addr
  d_is_parallel : FuncData
  f_is_right : Addr
  d_is_right : FuncData
  f_is_times : Addr
  d_is_times : FuncData
  f_is_equal : Addr
  d_is_equal : FuncData
  f_is_circle : Addr
  d_is_circle : FuncData
  f_is_angles : Addr
  d_is_angles : FuncData
  f_is_areas : Addr
  d_is_areas : FuncData
  f_line_numbers : Addr
  d_line_numbers : FuncData
  f_is_through : Addr
  d_is_through : FuncData
  f_is_middle : Addr
  d_is_middle : FuncData
  f_is_touches : Addr
  d_is_touches : FuncData
  f_is_alike : Addr
  d_is_alike : FuncData
  f_is_so : Addr
  d_is_so : FuncData
  f_rising : Addr
  d_rising : FuncData
  f_pairs_of_ways : Addr
  d_pairs_of_ways : FuncData
  f_middles : Addr
  d_middles : FuncData
  f_rows_to_ask : Addr
  d_rows_to_ask : FuncData
  f_rows_so : Addr
  d_rows_so : FuncData
  f_is_so_throughout : Addr
  d_is_so_throughout : FuncData
  f_sets_throughout : Addr
  d_sets_throughout : FuncData
  f_largest_set : Addr
  d_largest_set : FuncData
  f_greatest_common : Addr
  d_greatest_common : FuncData
  f_fraction : Addr
  d_fraction : FuncData
  f_three_numbers : Addr
  d_three_numbers : FuncData
  f_may_be_told : Addr
  d_may_be_told : FuncData
  f_is_too_large : Addr
  d_is_too_large : FuncData
  f_common_below : Addr
  d_common_below : FuncData
  f_whole_places : Addr
  d_whole_places : FuncData
  f_may_be_asked : Addr
  d_may_be_asked : FuncData
  f_keeps_shapes : Addr
  d_keeps_shapes : FuncData
  f_is_kept : Addr
  d_is_kept : FuncData
  f_is_too_large_to_tell : Addr
  d_is_too_large_to_tell : FuncData
  f_may_be_crossed : Addr
  d_may_be_crossed : FuncData
  f_cross_fraction : Addr
  d_cross_fraction : FuncData
  f_centre_fractions : Addr
  d_centre_fractions : FuncData
  f_split_calls : Addr
  d_split_calls : FuncData
  f_answer_with : Addr
  d_answer_with : FuncData
  f_Plane___init__ : Addr
  d_Plane___init__ : FuncData
  f_Plane_begin : Addr
  d_Plane_begin : FuncData
  f_Plane_point : Addr
  d_Plane_point : FuncData
  f_Plane_put : Addr
  d_Plane_put : FuncData
  f_Plane_out : Addr
  d_Plane_out : FuncData
  f_Plane_slant : Addr
  d_Plane_slant : FuncData
  f_Plane_bend : Addr
  d_Plane_bend : FuncData
  f_Plane_points : Addr
  d_Plane_points : FuncData
  f_Plane_has_each : Addr
  d_Plane_has_each : FuncData
  f_Plane_places_of : Addr
  d_Plane_places_of : FuncData
  f_Plane_where : Addr
  d_Plane_where : FuncData
  f_Plane_says : Addr
  d_Plane_says : FuncData
  f_Plane_every : Addr
  d_Plane_every : FuncData
  f_Plane_most : Addr
  d_Plane_most : FuncData
  f_Plane_keeps : Addr
  d_Plane_keeps : FuncData
  f_Plane_cross : Addr
  d_Plane_cross : FuncData
  f_Plane_centre : Addr
  d_Plane_centre : FuncData
  f_answer_of : Addr
  d_answer_of : FuncData
  f_answers : Addr
  d_answers : FuncData
/-- what the top has written -/
structure Txt (K : PySem.W.Frag) (mg : Str → Option Value) (A : Ad) : Prop where
  n_any : mg "any" = none
  n_len : mg "len" = none
  n_abs : mg "abs" = none
  n_range : mg "range" = none
  n_enumerate : mg "enumerate" = none
  n_tuple : mg "tuple" = none
  n_set : mg "set" = none
  n_all : mg "all" = none
  g_LARGEST_OF_NINE : mg "LARGEST_OF_NINE" = some (.int 10 A.k_LARGEST_OF_NINE)
  g_SAME : mg "SAME" = some (.int 0 A.k_SAME)
  g_LINE : mg "LINE" = some (.int 1 A.k_LINE)
  g_PARALLEL : mg "PARALLEL" = some (.int 2 A.k_PARALLEL)
  g_RIGHT : mg "RIGHT" = some (.int 3 A.k_RIGHT)
  g_EQUAL : mg "EQUAL" = some (.int 4 A.k_EQUAL)
  g_TIMES : mg "TIMES" = some (.int 5 A.k_TIMES)
  g_CIRCLE : mg "CIRCLE" = some (.int 6 A.k_CIRCLE)
  g_AREAS : mg "AREAS" = some (.int 8 A.k_AREAS)
  g_THROUGH : mg "THROUGH" = some (.int 9 A.k_THROUGH)
  g_MIDDLE : mg "MIDDLE" = some (.int 10 A.k_MIDDLE)
  g_LARGEST_OF_TIMES : mg "LARGEST_OF_TIMES" = some (.int 1000 A.k_LARGEST_OF_TIMES)
  g_LARGEST_TOLD : mg "LARGEST_TOLD" = some (.int 1000 A.k_LARGEST_TOLD)
  g_LARGEST_KEPT : mg "LARGEST_KEPT" = some (.int 1000000000 A.k_LARGEST_KEPT)
  g_LARGEST_ANSWERED : mg "LARGEST_ANSWERED" = some (.int 1000000000000000 A.k_LARGEST_ANSWERED)
  g_BEGIN : mg "BEGIN" = some (.int 0 A.k_BEGIN)
  g_POINT : mg "POINT" = some (.int 1 A.k_POINT)
  g_PUT : mg "PUT" = some (.int 2 A.k_PUT)
  g_OUT : mg "OUT" = some (.int 3 A.k_OUT)
  g_SLANT : mg "SLANT" = some (.int 4 A.k_SLANT)
  g_BEND : mg "BEND" = some (.int 5 A.k_BEND)
  g_POINTS : mg "POINTS" = some (.int 6 A.k_POINTS)
  g_WHERE : mg "WHERE" = some (.int 7 A.k_WHERE)
  g_SAYS : mg "SAYS" = some (.int 8 A.k_SAYS)
  g_ALL : mg "ALL" = some (.int 9 A.k_ALL)
  g_MOST : mg "MOST" = some (.int 10 A.k_MOST)
  g_KEEPS : mg "KEEPS" = some (.int 11 A.k_KEEPS)
  g_CROSS : mg "CROSS" = some (.int 12 A.k_CROSS)
  g_NO_POINT : mg "NO_POINT" = some (.int (-2) A.k_NO_POINT)
  g_WRONG_NUMBERS : mg "WRONG_NUMBERS" = some (.int (-22) A.k_WRONG_NUMBERS)
  g_NO_ROOM : mg "NO_ROOM" = some (.int (-28) A.k_NO_ROOM)
  g_GOES_AWAY : mg "GOES_AWAY" = some (.int (-33) A.k_GOES_AWAY)
  g_NOT_SO_PLACED : mg "NOT_SO_PLACED" = some (.int (-33) A.k_NOT_SO_PLACED)
  g_NOT_BEGUN : mg "NOT_BEGUN" = some (.int (-61) A.k_NOT_BEGUN)
  g_TOO_LARGE : mg "TOO_LARGE" = some (.int (-75) A.k_TOO_LARGE)
  g_MOST_POINTS : mg "MOST_POINTS" = some (.int 10 A.k_MOST_POINTS)
  g_POINTS_OF_KIND : mg "POINTS_OF_KIND" = some (.ref A.a_POINTS_OF_KIND)
  q_POINTS_OF_KIND : ∀ H, SqT K H A.a_POINTS_OF_KIND [.int 2, .int 3, .int 4, .int 4, .int 4, .int 4, .int 4, .int 6, .int 6, .int 6, .int 3, .int 4, .int 6]
  g_KINDS_RISING : mg "KINDS_RISING" = some (.ref A.a_KINDS_RISING)
  q_KINDS_RISING : ∀ H, SqT K H A.a_KINDS_RISING [.int 0, .int 1, .int 6]
  g_KINDS_OF_WAYS : mg "KINDS_OF_WAYS" = some (.ref A.a_KINDS_OF_WAYS)
  q_KINDS_OF_WAYS : ∀ H, SqT K H A.a_KINDS_OF_WAYS [.int 2, .int 3, .int 4]
  g_KINDS_OF_ALL : mg "KINDS_OF_ALL" = some (.ref A.a_KINDS_OF_ALL)
  q_KINDS_OF_ALL : ∀ H, SqT K H A.a_KINDS_OF_ALL [.int 0, .int 1, .int 2, .int 3, .int 4, .int 6, .int 10]
  g_KINDS_OF_MOST : mg "KINDS_OF_MOST" = some (.ref A.a_KINDS_OF_MOST)
  q_KINDS_OF_MOST : ∀ H, SqT K H A.a_KINDS_OF_MOST [.int 1, .int 6]
  g_KINDS_KEPT_BY_ANY : mg "KINDS_KEPT_BY_ANY" = some (.ref A.a_KINDS_KEPT_BY_ANY)
  q_KINDS_KEPT_BY_ANY : ∀ H, SqT K H A.a_KINDS_KEPT_BY_ANY [.int 0, .int 1, .int 2, .int 8, .int 9, .int 10]
  g_BY_KIND : mg "BY_KIND" = some (.ref A.a_BY_KIND)
  q_BY_KIND : ∀ H, SqT K H A.a_BY_KIND [.ref A.f_is_same, .ref A.f_is_line, .ref A.f_is_parallel, .ref A.f_is_right, .ref A.f_is_equal, .ref A.f_is_times, .ref A.f_is_circle, .ref A.f_is_angles, .ref A.f_is_areas, .ref A.f_is_through, .ref A.f_is_middle, .ref A.f_is_touches, .ref A.f_is_alike]
  g_PLAIN_NUMBERS : mg "PLAIN_NUMBERS" = some (.ref A.a_PLAIN_NUMBERS)
  q_PLAIN_NUMBERS : ∀ H, SqT K H A.a_PLAIN_NUMBERS [.int 0, .int 3, .int 4, .int 0, .int 6, .int 0, .int 0, .int 1, .int 1, .int 1, .int 1, .int 5, .int 4, .int 3]
  g_CALLS_WITH_ROW : mg "CALLS_WITH_ROW" = some (.ref A.a_CALLS_WITH_ROW)
  q_CALLS_WITH_ROW : ∀ H, SqT K H A.a_CALLS_WITH_ROW [.int 5, .int 8]
  cl_Plane : Cls K A.c_Plane
  g_Plane : mg "Plane" = some (.ref A.c_Plane)
  mk_Plane : Mk K A.c_Plane A.f_Plane___init__
  na_Plane_begun : NoAttr K A.c_Plane "begun"
  na_Plane_places : NoAttr K A.c_Plane "places"
  m_nine_of_slant : mg "nine_of_slant" = some (.ref A.f_nine_of_slant)
  F_nine_of_slant : Fun K "nine_of_slant" "nine_of_slant" s_nine_of_slant A.f_nine_of_slant A.d_nine_of_slant
  b_nine_of_slant : Binds K A.d_nine_of_slant ["a", "b", "c", "d", "e", "f"] []
  m_measure : mg "measure" = some (.ref A.f_measure)
  F_measure : Fun K "measure" "measure" s_measure A.f_measure A.d_measure
  b_measure : Binds K A.d_measure ["m"] []
  m_may_bend : mg "may_bend" = some (.ref A.f_may_bend)
  F_may_bend : Fun K "may_bend" "may_bend" s_may_bend A.f_may_bend A.d_may_bend
  b_may_bend : Binds K A.d_may_bend ["row"] []
  m_bent : mg "bent" = some (.ref A.f_bent)
  F_bent : Fun K "bent" "bent" s_bent A.f_bent A.d_bent
  b_bent : Binds K A.d_bent ["place", "m"] []
  m_is_kind : mg "is_kind" = some (.ref A.f_is_kind)
  F_is_kind : Fun K "is_kind" "is_kind" s_is_kind A.f_is_kind A.d_is_kind
  b_is_kind : Binds K A.d_is_kind ["kind"] []
  m_may_be_said : mg "may_be_said" = some (.ref A.f_may_be_said)
  F_may_be_said : Fun K "may_be_said" "may_be_said" s_may_be_said A.f_may_be_said A.d_may_be_said
  b_may_be_said : Binds K A.d_may_be_said ["kind", "row"] []
  m_way : mg "way" = some (.ref A.f_way)
  F_way : Fun K "way" "way" s_way A.f_way A.d_way
  b_way : Binds K A.d_way ["a", "b"] []
  m_turn : mg "turn" = some (.ref A.f_turn)
  F_turn : Fun K "turn" "turn" s_turn A.f_turn A.d_turn
  b_turn : Binds K A.d_turn ["first", "second"] []
  m_lean : mg "lean" = some (.ref A.f_lean)
  F_lean : Fun K "lean" "lean" s_lean A.f_lean A.d_lean
  b_lean : Binds K A.d_lean ["first", "second"] []
  m_multiplied : mg "multiplied" = some (.ref A.f_multiplied)
  F_multiplied : Fun K "multiplied" "multiplied" s_multiplied A.f_multiplied A.d_multiplied
  b_multiplied : Binds K A.d_multiplied ["first", "second"] []
  m_square : mg "square" = some (.ref A.f_square)
  F_square : Fun K "square" "square" s_square A.f_square A.d_square
  b_square : Binds K A.d_square ["one"] []
  m_is_same : mg "is_same" = some (.ref A.f_is_same)
  F_is_same : Fun K "is_same" "is_same" s_is_same A.f_is_same A.d_is_same
  b_is_same : Binds K A.d_is_same ["p"] []
  m_is_line : mg "is_line" = some (.ref A.f_is_line)
  F_is_line : Fun K "is_line" "is_line" s_is_line A.f_is_line A.d_is_line
  b_is_line : Binds K A.d_is_line ["p"] []
  m_is_parallel : mg "is_parallel" = some (.ref A.f_is_parallel)
  F_is_parallel : Fun K "is_parallel" "is_parallel" s_is_parallel A.f_is_parallel A.d_is_parallel
  b_is_parallel : Binds K A.d_is_parallel ["p"] []
  m_is_right : mg "is_right" = some (.ref A.f_is_right)
  F_is_right : Fun K "is_right" "is_right" s_is_right A.f_is_right A.d_is_right
  b_is_right : Binds K A.d_is_right ["p"] []
  m_is_times : mg "is_times" = some (.ref A.f_is_times)
  F_is_times : Fun K "is_times" "is_times" s_is_times A.f_is_times A.d_is_times
  b_is_times : Binds K A.d_is_times ["p", "m", "n"] []
  m_is_equal : mg "is_equal" = some (.ref A.f_is_equal)
  F_is_equal : Fun K "is_equal" "is_equal" s_is_equal A.f_is_equal A.d_is_equal
  b_is_equal : Binds K A.d_is_equal ["p"] []
  m_is_circle : mg "is_circle" = some (.ref A.f_is_circle)
  F_is_circle : Fun K "is_circle" "is_circle" s_is_circle A.f_is_circle A.d_is_circle
  b_is_circle : Binds K A.d_is_circle ["p"] []
  m_is_angles : mg "is_angles" = some (.ref A.f_is_angles)
  F_is_angles : Fun K "is_angles" "is_angles" s_is_angles A.f_is_angles A.d_is_angles
  b_is_angles : Binds K A.d_is_angles ["p"] []
  m_is_areas : mg "is_areas" = some (.ref A.f_is_areas)
  F_is_areas : Fun K "is_areas" "is_areas" s_is_areas A.f_is_areas A.d_is_areas
  b_is_areas : Binds K A.d_is_areas ["p"] []
  m_line_numbers : mg "line_numbers" = some (.ref A.f_line_numbers)
  F_line_numbers : Fun K "line_numbers" "line_numbers" s_line_numbers A.f_line_numbers A.d_line_numbers
  b_line_numbers : Binds K A.d_line_numbers ["a", "b"] []
  m_is_through : mg "is_through" = some (.ref A.f_is_through)
  F_is_through : Fun K "is_through" "is_through" s_is_through A.f_is_through A.d_is_through
  b_is_through : Binds K A.d_is_through ["p"] []
  m_is_middle : mg "is_middle" = some (.ref A.f_is_middle)
  F_is_middle : Fun K "is_middle" "is_middle" s_is_middle A.f_is_middle A.d_is_middle
  b_is_middle : Binds K A.d_is_middle ["p"] []
  m_is_touches : mg "is_touches" = some (.ref A.f_is_touches)
  F_is_touches : Fun K "is_touches" "is_touches" s_is_touches A.f_is_touches A.d_is_touches
  b_is_touches : Binds K A.d_is_touches ["p"] []
  m_is_alike : mg "is_alike" = some (.ref A.f_is_alike)
  F_is_alike : Fun K "is_alike" "is_alike" s_is_alike A.f_is_alike A.d_is_alike
  b_is_alike : Binds K A.d_is_alike ["p"] []
  m_is_so : mg "is_so" = some (.ref A.f_is_so)
  F_is_so : Fun K "is_so" "is_so" s_is_so A.f_is_so A.d_is_so
  b_is_so : Binds K A.d_is_so ["kind", "p", "others"] []
  m_rising : mg "rising" = some (.ref A.f_rising)
  F_rising : Fun K "rising" "rising" s_rising A.f_rising A.d_rising
  b_rising : Binds K A.d_rising ["count", "size"] []
  m_pairs_of_ways : mg "pairs_of_ways" = some (.ref A.f_pairs_of_ways)
  F_pairs_of_ways : Fun K "pairs_of_ways" "pairs_of_ways" s_pairs_of_ways A.f_pairs_of_ways A.d_pairs_of_ways
  b_pairs_of_ways : Binds K A.d_pairs_of_ways ["count"] []
  m_middles : mg "middles" = some (.ref A.f_middles)
  F_middles : Fun K "middles" "middles" s_middles A.f_middles A.d_middles
  b_middles : Binds K A.d_middles ["count"] []
  m_rows_to_ask : mg "rows_to_ask" = some (.ref A.f_rows_to_ask)
  F_rows_to_ask : Fun K "rows_to_ask" "rows_to_ask" s_rows_to_ask A.f_rows_to_ask A.d_rows_to_ask
  b_rows_to_ask : Binds K A.d_rows_to_ask ["kind", "count"] []
  m_rows_so : mg "rows_so" = some (.ref A.f_rows_so)
  F_rows_so : Fun K "rows_so" "rows_so" s_rows_so A.f_rows_so A.d_rows_so
  b_rows_so : Binds K A.d_rows_so ["kind", "p"] []
  m_is_so_throughout : mg "is_so_throughout" = some (.ref A.f_is_so_throughout)
  F_is_so_throughout : Fun K "is_so_throughout" "is_so_throughout" s_is_so_throughout A.f_is_so_throughout A.d_is_so_throughout
  b_is_so_throughout : Binds K A.d_is_so_throughout ["members", "parts", "so"] []
  m_sets_throughout : mg "sets_throughout" = some (.ref A.f_sets_throughout)
  F_sets_throughout : Fun K "sets_throughout" "sets_throughout" s_sets_throughout A.f_sets_throughout A.d_sets_throughout
  b_sets_throughout : Binds K A.d_sets_throughout ["count", "size", "width", "so"] []
  m_largest_set : mg "largest_set" = some (.ref A.f_largest_set)
  F_largest_set : Fun K "largest_set" "largest_set" s_largest_set A.f_largest_set A.d_largest_set
  b_largest_set : Binds K A.d_largest_set ["kind", "p"] []
  m_greatest_common : mg "greatest_common" = some (.ref A.f_greatest_common)
  F_greatest_common : Fun K "greatest_common" "greatest_common" s_greatest_common A.f_greatest_common A.d_greatest_common
  b_greatest_common : Binds K A.d_greatest_common ["a", "b"] []
  m_fraction : mg "fraction" = some (.ref A.f_fraction)
  F_fraction : Fun K "fraction" "fraction" s_fraction A.f_fraction A.d_fraction
  b_fraction : Binds K A.d_fraction ["above", "below"] []
  m_three_numbers : mg "three_numbers" = some (.ref A.f_three_numbers)
  F_three_numbers : Fun K "three_numbers" "three_numbers" s_three_numbers A.f_three_numbers A.d_three_numbers
  b_three_numbers : Binds K A.d_three_numbers ["x", "y", "w"] []
  m_may_be_told : mg "may_be_told" = some (.ref A.f_may_be_told)
  F_may_be_told : Fun K "may_be_told" "may_be_told" s_may_be_told A.f_may_be_told A.d_may_be_told
  b_may_be_told : Binds K A.d_may_be_told ["x", "y", "w"] []
  m_is_too_large : mg "is_too_large" = some (.ref A.f_is_too_large)
  F_is_too_large : Fun K "is_too_large" "is_too_large" s_is_too_large A.f_is_too_large A.d_is_too_large
  b_is_too_large : Binds K A.d_is_too_large ["place"] []
  m_common_below : mg "common_below" = some (.ref A.f_common_below)
  F_common_below : Fun K "common_below" "common_below" s_common_below A.f_common_below A.d_common_below
  b_common_below : Binds K A.d_common_below ["places"] []
  m_whole_places : mg "whole_places" = some (.ref A.f_whole_places)
  F_whole_places : Fun K "whole_places" "whole_places" s_whole_places A.f_whole_places A.d_whole_places
  b_whole_places : Binds K A.d_whole_places ["places"] []
  m_may_be_asked : mg "may_be_asked" = some (.ref A.f_may_be_asked)
  F_may_be_asked : Fun K "may_be_asked" "may_be_asked" s_may_be_asked A.f_may_be_asked A.d_may_be_asked
  b_may_be_asked : Binds K A.d_may_be_asked ["kind", "a", "b", "c", "d"] []
  m_keeps_shapes : mg "keeps_shapes" = some (.ref A.f_keeps_shapes)
  F_keeps_shapes : Fun K "keeps_shapes" "keeps_shapes" s_keeps_shapes A.f_keeps_shapes A.d_keeps_shapes
  b_keeps_shapes : Binds K A.d_keeps_shapes ["a", "b", "c", "d"] []
  m_is_kept : mg "is_kept" = some (.ref A.f_is_kept)
  F_is_kept : Fun K "is_kept" "is_kept" s_is_kept A.f_is_kept A.d_is_kept
  b_is_kept : Binds K A.d_is_kept ["kind", "a", "b", "c", "d"] []
  m_is_too_large_to_tell : mg "is_too_large_to_tell" = some (.ref A.f_is_too_large_to_tell)
  F_is_too_large_to_tell : Fun K "is_too_large_to_tell" "is_too_large_to_tell" s_is_too_large_to_tell A.f_is_too_large_to_tell A.d_is_too_large_to_tell
  b_is_too_large_to_tell : Binds K A.d_is_too_large_to_tell ["numbers"] []
  m_may_be_crossed : mg "may_be_crossed" = some (.ref A.f_may_be_crossed)
  F_may_be_crossed : Fun K "may_be_crossed" "may_be_crossed" s_may_be_crossed A.f_may_be_crossed A.d_may_be_crossed
  b_may_be_crossed : Binds K A.d_may_be_crossed ["p"] []
  m_cross_fraction : mg "cross_fraction" = some (.ref A.f_cross_fraction)
  F_cross_fraction : Fun K "cross_fraction" "cross_fraction" s_cross_fraction A.f_cross_fraction A.d_cross_fraction
  b_cross_fraction : Binds K A.d_cross_fraction ["p"] []
  m_centre_fractions : mg "centre_fractions" = some (.ref A.f_centre_fractions)
  F_centre_fractions : Fun K "centre_fractions" "centre_fractions" s_centre_fractions A.f_centre_fractions A.d_centre_fractions
  b_centre_fractions : Binds K A.d_centre_fractions ["p", "stretched"] []
  m_split_calls : mg "split_calls" = some (.ref A.f_split_calls)
  F_split_calls : Fun K "split_calls" "split_calls" s_split_calls A.f_split_calls A.d_split_calls
  b_split_calls : Binds K A.d_split_calls ["calls"] []
  m_answer_with : mg "answer_with" = some (.ref A.f_answer_with)
  F_answer_with : Fun K "answer_with" "answer_with" s_answer_with A.f_answer_with A.d_answer_with
  b_answer_with : Binds K A.d_answer_with ["numbers"] []
  F_Plane___init__ : Fun K "__init__" "Plane.__init__" s_Plane___init__ A.f_Plane___init__ A.d_Plane___init__
  b_Plane___init__ : Binds K A.d_Plane___init__ ["self"] []
  me_Plane_begin : Meth K A.c_Plane "begin" A.f_Plane_begin
  F_Plane_begin : Fun K "begin" "Plane.begin" s_Plane_begin A.f_Plane_begin A.d_Plane_begin
  b_Plane_begin : Binds K A.d_Plane_begin ["self"] []
  me_Plane_point : Meth K A.c_Plane "point" A.f_Plane_point
  F_Plane_point : Fun K "point" "Plane.point" s_Plane_point A.f_Plane_point A.d_Plane_point
  b_Plane_point : Binds K A.d_Plane_point ["self", "x", "y", "w"] []
  me_Plane_put : Meth K A.c_Plane "put" A.f_Plane_put
  F_Plane_put : Fun K "put" "Plane.put" s_Plane_put A.f_Plane_put A.d_Plane_put
  b_Plane_put : Binds K A.d_Plane_put ["self", "p", "x", "y", "w"] []
  me_Plane_out : Meth K A.c_Plane "out" A.f_Plane_out
  F_Plane_out : Fun K "out" "Plane.out" s_Plane_out A.f_Plane_out A.d_Plane_out
  b_Plane_out : Binds K A.d_Plane_out ["self"] []
  me_Plane_slant : Meth K A.c_Plane "slant" A.f_Plane_slant
  F_Plane_slant : Fun K "slant" "Plane.slant" s_Plane_slant A.f_Plane_slant A.d_Plane_slant
  b_Plane_slant : Binds K A.d_Plane_slant ["self", "a", "b", "c", "d", "e", "f"] []
  me_Plane_bend : Meth K A.c_Plane "bend" A.f_Plane_bend
  F_Plane_bend : Fun K "bend" "Plane.bend" s_Plane_bend A.f_Plane_bend A.d_Plane_bend
  b_Plane_bend : Binds K A.d_Plane_bend ["self", "row"] []
  me_Plane_points : Meth K A.c_Plane "points" A.f_Plane_points
  F_Plane_points : Fun K "points" "Plane.points" s_Plane_points A.f_Plane_points A.d_Plane_points
  b_Plane_points : Binds K A.d_Plane_points ["self"] []
  me_Plane_has_each : Meth K A.c_Plane "has_each" A.f_Plane_has_each
  F_Plane_has_each : Fun K "has_each" "Plane.has_each" s_Plane_has_each A.f_Plane_has_each A.d_Plane_has_each
  b_Plane_has_each : Binds K A.d_Plane_has_each ["self", "numbers"] []
  me_Plane_places_of : Meth K A.c_Plane "places_of" A.f_Plane_places_of
  F_Plane_places_of : Fun K "places_of" "Plane.places_of" s_Plane_places_of A.f_Plane_places_of A.d_Plane_places_of
  b_Plane_places_of : Binds K A.d_Plane_places_of ["self", "numbers"] []
  me_Plane_where : Meth K A.c_Plane "where" A.f_Plane_where
  F_Plane_where : Fun K "where" "Plane.where" s_Plane_where A.f_Plane_where A.d_Plane_where
  b_Plane_where : Binds K A.d_Plane_where ["self", "p"] []
  me_Plane_says : Meth K A.c_Plane "says" A.f_Plane_says
  F_Plane_says : Fun K "says" "Plane.says" s_Plane_says A.f_Plane_says A.d_Plane_says
  b_Plane_says : Binds K A.d_Plane_says ["self", "kind", "row"] []
  me_Plane_every : Meth K A.c_Plane "every" A.f_Plane_every
  F_Plane_every : Fun K "every" "Plane.every" s_Plane_every A.f_Plane_every A.d_Plane_every
  b_Plane_every : Binds K A.d_Plane_every ["self", "kind"] []
  me_Plane_most : Meth K A.c_Plane "most" A.f_Plane_most
  F_Plane_most : Fun K "most" "Plane.most" s_Plane_most A.f_Plane_most A.d_Plane_most
  b_Plane_most : Binds K A.d_Plane_most ["self", "kind"] []
  me_Plane_keeps : Meth K A.c_Plane "keeps" A.f_Plane_keeps
  F_Plane_keeps : Fun K "keeps" "Plane.keeps" s_Plane_keeps A.f_Plane_keeps A.d_Plane_keeps
  b_Plane_keeps : Binds K A.d_Plane_keeps ["self", "kind", "a", "b", "c", "d"] []
  me_Plane_cross : Meth K A.c_Plane "cross" A.f_Plane_cross
  F_Plane_cross : Fun K "cross" "Plane.cross" s_Plane_cross A.f_Plane_cross A.d_Plane_cross
  b_Plane_cross : Binds K A.d_Plane_cross ["self", "told"] []
  me_Plane_centre : Meth K A.c_Plane "centre" A.f_Plane_centre
  F_Plane_centre : Fun K "centre" "Plane.centre" s_Plane_centre A.f_Plane_centre A.d_Plane_centre
  b_Plane_centre : Binds K A.d_Plane_centre ["self", "told"] []
  m_answer_of : mg "answer_of" = some (.ref A.f_answer_of)
  F_answer_of : Fun K "answer_of" "answer_of" s_answer_of A.f_answer_of A.d_answer_of
  b_answer_of : Binds K A.d_answer_of ["plane", "call", "n", "row"] []
  m_answers : mg "answers" = some (.ref A.f_answers)
  F_answers : Fun K "answers" "answers" s_answers A.f_answers A.d_answers
  b_answers : Binds K A.d_answers ["calls"] []
/-! ### promises -/
abbrev Pt := Kh371.Pt
def ptV (p : Pt) : List V := [.int p.x, .int p.y, .int p.w]
/-- the values vs are points' tuples -/
def PtsAt (K : PySem.W.Frag) (H : Hp) (vs : List V) (ps : List Pt) : Prop := vs.length = ps.length ∧ ∀ (i : Nat) (v : V) (p : Pt), vs[i]? = some v → ps[i]? = some p → ∃ a, v = .ref a ∧ SqT K H a (ptV p)
def intL (l : List Int) : List V := l.map V.int
def PlF (b : Bool) (l : Addr) : List (Str × V) := [("begun", .bl b), ("places", .ref l)]
/-- a call as a tuple: its number, its whole numbers, its row; all of it new since H0 -/
def CallAt (H0 H : Hp) (v : V) (c : List (List Int)) : Prop := ∃ (t n r : Addr) (z : Int) (ns : List Int) (rs : List (List Int)), v = .ref t ∧ c = (z :: ns) :: rs ∧ H t = some (.tup [.int z, .ref n, .ref r]) ∧ H n = some (.lst (intL ns)) ∧ H r = some (.lst (intL (rs.headD []))) ∧ H0 t = none ∧ H0 n = none ∧ H0 r = none
def CallsAt (H0 H : Hp) (ws : List V) (cs : List (List (List Int))) : Prop := ws.length = cs.length ∧ ∀ (i : Nat) (w : V) (c : List (List Int)), ws[i]? = some w → cs[i]? = some c → CallAt H0 H w c
structure Good (p : Pt) : Prop where
  w1 : 1 ≤ p.w
  fit : Kh372.fits p = true
  red : Int.gcd (Int.gcd p.x p.y) p.w = 1
def GoodS (ps : List Pt) : Prop := (∀ p ∈ ps, Good p) ∧ ps.length ≤ 10
def InvS (s : Option (List Pt)) : Prop := ∀ ps, s = some ps → GoodS ps
/-- the plane at a, its points' list at l -/
def PlaneAt (K : PySem.W.Frag) (A : Ad) (H : Hp) (a l : Addr) (s : Option (List Pt)) : Prop := ∃ dx vs, H a = some (.ins A.c_Plane dx (PlF s.isSome l)) ∧ H l = some (.lst vs) ∧ PtsAt K H vs (s.getD [])
/-- behind a call: the plane is in the state s, all else stands -/
def Aft (K : PySem.W.Frag) (A : Ad) (H : Hp) (a l : Addr) (s : Option (List Pt)) (H' : Hp) : Prop := ∃ l', (l' = l ∨ H l' = none) ∧ PlaneAt K A H' a l' s ∧ ∀ b o, H b = some o → b ≠ a → b ≠ l → H' b = some o
def spPl (K : PySem.W.Frag) (A : Ad) (rel : Hp → List V → Kh372.Call → Prop) : Sp := fun vs H Q _ => ∃ (a l : Addr) (ps : List Pt) (c : Kh372.Call) (r : List V), vs = .ref a :: r ∧ rel H r c ∧ PlaneAt K A H a l (some ps) ∧ GoodS ps ∧
  ∀ H', Aft K A H a l (some (Kh372.does ps c).1) H' → Q (.int (Kh372.does ps c).2.ret) H'
def sp_nine_of_slant (K : PySem.W.Frag) (A : Ad) : Sp := fun vs H Q _ => ∃ a b c d e f : Int, vs = [.int a, .int b, .int c, .int d, .int e, .int f] ∧ Evl.RetL (intL [a, b, e, c, d, f, 0, 0, 1]) H Q
def sp_may_bend (K : PySem.W.Frag) (A : Ad) : Sp := fun vs H Q _ => ∃ (p : Addr) (m : List Int), vs = [.ref p] ∧ SqL K H p (intL m) ∧ m.length ≤ 9 ∧ Evl.RetV (.bl (decide (m.length = 9) && (Kh372.within 10 m && decide (Kh372.det3 m ≠ 0)))) H Q
def sp_bent (K : PySem.W.Frag) (A : Ad) : Sp := fun vs H Q _ => ∃ (p q : Addr) (u : Pt) (m : List Int), vs = [.ref p, .ref q] ∧ SqT K H p (ptV u) ∧ SqL K H q (intL m) ∧ m.length = 9 ∧ (∀ x ∈ m, Bd 4 x) ∧ Bd 31 u.x ∧ Bd 31 u.y ∧ Bd 31 u.w ∧ RetU (ptV (Kh372.bend m u)) H Q
def sp_greatest_common (K : PySem.W.Frag) (A : Ad) : Sp := fun vs H Q _ => ∃ a b : Int, vs = [.int a, .int b] ∧ Evl.RetV (.int (Int.gcd a b)) H Q
def sp_three_numbers (K : PySem.W.Frag) (A : Ad) : Sp := fun vs H Q _ => ∃ u : Pt, vs = ptV u ∧ u.w ≠ 0 ∧ Bd 64 u.w ∧ RetU (ptV (Kh372.cut u)) H Q
def sp_may_be_told (K : PySem.W.Frag) (A : Ad) : Sp := fun vs H Q _ => ∃ x y w : Int, vs = [.int x, .int y, .int w] ∧ Evl.RetV (.bl (Kh371.okNumber x && (Kh371.okNumber y && (decide (1 ≤ w) && decide (w ≤ 1000))))) H Q
def sp_is_too_large (K : PySem.W.Frag) (A : Ad) : Sp := fun vs H Q _ => ∃ (p : Addr) (u : Pt), vs = [.ref p] ∧ SqT K H p (ptV u) ∧ Evl.RetV (.bl (!Kh372.fits u)) H Q
def sp_split_calls (K : PySem.W.Frag) (A : Ad) : Sp := fun vs H Q _ => ∃ (p : Addr) (cs : List (List (List Int))), vs = [.ref p] ∧ SqL K H p (intL (PyFlat.put cs)) ∧ (∀ c ∈ cs, PyFlat.okCall PyKh372.shape c) ∧ cs.length ≤ 60 ∧ (PyFlat.put cs).length ≤ 700 ∧ ∀ t H2 ws, H t = none → Ex H H2 → H2 t = some (.lst ws) → CallsAt H H2 ws cs → Q (.ref t) H2
def sp_Plane___init__ (K : PySem.W.Frag) (A : Ad) : Sp := fun vs H Q _ => ∃ p dx : Addr, vs = [.ref p] ∧ H p = some (.ins A.c_Plane dx []) ∧ ∀ H' l, PlaneAt K A H' p l none → (∀ b o, H b = some o → b ≠ p → H' b = some o) → H l = none → Q .non H'
def sp_Plane_begin (K : PySem.W.Frag) (A : Ad) : Sp := fun vs H Q _ => ∃ (a l : Addr) (s : Option (List Pt)), vs = [.ref a] ∧ PlaneAt K A H a l s ∧ ∀ H', Aft K A H a l (some []) H' → Q (.int 0) H'
def sp_Plane_point (K : PySem.W.Frag) (A : Ad) : Sp := spPl K A fun _ r c => ∃ x y w : Int, r = [.int x, .int y, .int w] ∧ 0 ≤ w ∧ c = .point x y w.toNat
def sp_Plane_put (K : PySem.W.Frag) (A : Ad) : Sp := spPl K A fun _ r c => ∃ p x y w : Int, r = [.int p, .int x, .int y, .int w] ∧ 0 ≤ p ∧ 0 ≤ w ∧ c = .put p.toNat x y w.toNat
def sp_Plane_out (K : PySem.W.Frag) (A : Ad) : Sp := spPl K A fun _ r c => r = [] ∧ c = .out
def sp_Plane_slant (K : PySem.W.Frag) (A : Ad) : Sp := spPl K A fun _ r c => ∃ x y z u e f : Int, r = [.int x, .int y, .int z, .int u, .int e, .int f] ∧ c = .slant x y z u e f
def sp_Plane_bend (K : PySem.W.Frag) (A : Ad) : Sp := spPl K A fun H r c => ∃ (q : Addr) (m : List Int), r = [.ref q] ∧ SqL K H q (intL m) ∧ m.length ≤ 9 ∧ c = .bend m
def sp_Plane_points (K : PySem.W.Frag) (A : Ad) : Sp := spPl K A fun _ r c => r = [] ∧ c = .points
def sp_answer_of (K : PySem.W.Frag) (A : Ad) : Sp := fun vs H Q _ => ∃ (a l n r : Addr) (z : Int) (ns : List Int) (rs : List (List Int)) (s : Option (List Pt)), vs = [.ref a, .int z, .ref n, .ref r] ∧ H n = some (.lst (intL ns)) ∧ H r = some (.lst (intL (rs.headD []))) ∧ n ≠ l ∧ r ≠ l ∧ PyFlat.okCall PyKh372.shape ((z :: ns) :: rs) ∧ Kh372Neutral.asked1 ((z :: ns) :: rs) = true ∧ PlaneAt K A H a l s ∧ InvS s ∧
  ∀ p H', (∀ b o, H b = some o → b ≠ a → b ≠ l → b ≠ p) → H' p = some (.lst (intL (Kh372Neutral.step s ((z :: ns) :: rs)).2)) → Aft K A H a l (Kh372Neutral.step s ((z :: ns) :: rs)).1 H' → Q (.ref p) H'
def spAns (K : PySem.W.Frag) : Sp := fun vs H Q _ => ∃ (a : Addr) (ns : List Int), vs = [.ref a] ∧ SqL K H a (ns.map V.int) ∧ ns.length ≤ 700 ∧ PyKh372.answers_asked ns = true ∧ ∀ (H' : Hp) (p : Addr), H' p = some (.lst ((PyKh372.answers ns).map V.int)) → Q (.ref p) H'
def sp_answers (K : PySem.W.Frag) (A : Ad) : Sp := spAns K
def m_measure (m_0 : Int) (m_1 : Int) (m_2 : Int) (m_3 : Int) (m_4 : Int) (m_5 : Int) (m_6 : Int) (m_7 : Int) (m_8 : Int) : Int := (((m_0 * ((m_4 * m_8) - (m_5 * m_7))) - (m_1 * ((m_3 * m_8) - (m_5 * m_6)))) + (m_2 * ((m_3 * m_7) - (m_4 * m_6))))
def sp_measure (K : PySem.W.Frag) (A : Ad) : Sp := fun vs H Q _ => ∃ (m_0 : Int) (m_1 : Int) (m_2 : Int) (m_3 : Int) (m_4 : Int) (m_5 : Int) (m_6 : Int) (m_7 : Int) (m_8 : Int), AllP [isL K 703 [m_0, m_1, m_2, m_3, m_4, m_5, m_6, m_7, m_8]] vs H ∧ RetP (isI 2112 (m_measure m_0 m_1 m_2 m_3 m_4 m_5 m_6 m_7 m_8)) H Q
def m_way0 (a_0 : Int) (a_1 : Int) (b_0 : Int) (b_1 : Int) : Int := (b_0 - a_0)
def m_way1 (a_0 : Int) (a_1 : Int) (b_0 : Int) (b_1 : Int) : Int := (b_1 - a_1)
def sp_way (K : PySem.W.Frag) (A : Ad) : Sp := fun vs H Q _ => ∃ (a_0 : Int) (a_1 : Int) (b_0 : Int) (b_1 : Int), AllP [isT K 350 [a_0, a_1], isT K 350 [b_0, b_1]] vs H ∧ RetP (isT K 351 [m_way0 a_0 a_1 b_0 b_1, m_way1 a_0 a_1 b_0 b_1]) H Q
def m_turn (first_0 : Int) (first_1 : Int) (second_0 : Int) (second_1 : Int) : Int := ((first_0 * second_1) - (first_1 * second_0))
def sp_turn (K : PySem.W.Frag) (A : Ad) : Sp := fun vs H Q _ => ∃ (first_0 : Int) (first_1 : Int) (second_0 : Int) (second_1 : Int), AllP [isT K 351 [first_0, first_1], isT K 351 [second_0, second_1]] vs H ∧ RetP (isI 703 (m_turn first_0 first_1 second_0 second_1)) H Q
def m_lean (first_0 : Int) (first_1 : Int) (second_0 : Int) (second_1 : Int) : Int := ((first_0 * second_0) + (first_1 * second_1))
def sp_lean (K : PySem.W.Frag) (A : Ad) : Sp := fun vs H Q _ => ∃ (first_0 : Int) (first_1 : Int) (second_0 : Int) (second_1 : Int), AllP [isT K 351 [first_0, first_1], isT K 351 [second_0, second_1]] vs H ∧ RetP (isI 703 (m_lean first_0 first_1 second_0 second_1)) H Q
def m_multiplied0 (first_0 : Int) (first_1 : Int) (second_0 : Int) (second_1 : Int) : Int := ((first_0 * second_0) - (first_1 * second_1))
def m_multiplied1 (first_0 : Int) (first_1 : Int) (second_0 : Int) (second_1 : Int) : Int := ((first_0 * second_1) + (first_1 * second_0))
def sp_multiplied (K : PySem.W.Frag) (A : Ad) : Sp := fun vs H Q _ => ∃ (first_0 : Int) (first_1 : Int) (second_0 : Int) (second_1 : Int), AllP [isT K 351 [first_0, first_1], isT K 351 [second_0, second_1]] vs H ∧ RetP (isT K 703 [m_multiplied0 first_0 first_1 second_0 second_1, m_multiplied1 first_0 first_1 second_0 second_1]) H Q
def m_square (one_0 : Int) (one_1 : Int) : Int := (m_lean one_0 one_1 one_0 one_1)
def sp_square (K : PySem.W.Frag) (A : Ad) : Sp := fun vs H Q _ => ∃ (one_0 : Int) (one_1 : Int), AllP [isT K 351 [one_0, one_1]] vs H ∧ RetP (isI 703 (m_square one_0 one_1)) H Q
def m_is_same (p_0x : Int) (p_0y : Int) (p_1x : Int) (p_1y : Int) : Bool := (decide (p_0x = p_1x) && decide (p_0y = p_1y))
def sp_is_same (K : PySem.W.Frag) (A : Ad) : Sp := fun vs H Q _ => ∃ (p_0x : Int) (p_0y : Int) (p_1x : Int) (p_1y : Int), AllP [isQ K 350 [[p_0x, p_0y], [p_1x, p_1y]]] vs H ∧ RetP (isB (m_is_same p_0x p_0y p_1x p_1y)) H Q
def m_is_line (p_0x : Int) (p_0y : Int) (p_1x : Int) (p_1y : Int) (p_2x : Int) (p_2y : Int) : Bool := (decide ((m_turn (m_way0 p_0x p_0y p_1x p_1y) (m_way1 p_0x p_0y p_1x p_1y) (m_way0 p_0x p_0y p_2x p_2y) (m_way1 p_0x p_0y p_2x p_2y)) = 0))
def sp_is_line (K : PySem.W.Frag) (A : Ad) : Sp := fun vs H Q _ => ∃ (p_0x : Int) (p_0y : Int) (p_1x : Int) (p_1y : Int) (p_2x : Int) (p_2y : Int), AllP [isQ K 350 [[p_0x, p_0y], [p_1x, p_1y], [p_2x, p_2y]]] vs H ∧ RetP (isB (m_is_line p_0x p_0y p_1x p_1y p_2x p_2y)) H Q
def m_is_parallel (p_0x : Int) (p_0y : Int) (p_1x : Int) (p_1y : Int) (p_2x : Int) (p_2y : Int) (p_3x : Int) (p_3y : Int) : Bool := (decide ((m_turn (m_way0 p_0x p_0y p_1x p_1y) (m_way1 p_0x p_0y p_1x p_1y) (m_way0 p_2x p_2y p_3x p_3y) (m_way1 p_2x p_2y p_3x p_3y)) = 0))
def sp_is_parallel (K : PySem.W.Frag) (A : Ad) : Sp := fun vs H Q _ => ∃ (p_0x : Int) (p_0y : Int) (p_1x : Int) (p_1y : Int) (p_2x : Int) (p_2y : Int) (p_3x : Int) (p_3y : Int), AllP [isQ K 350 [[p_0x, p_0y], [p_1x, p_1y], [p_2x, p_2y], [p_3x, p_3y]]] vs H ∧ RetP (isB (m_is_parallel p_0x p_0y p_1x p_1y p_2x p_2y p_3x p_3y)) H Q
def m_is_right (p_0x : Int) (p_0y : Int) (p_1x : Int) (p_1y : Int) (p_2x : Int) (p_2y : Int) (p_3x : Int) (p_3y : Int) : Bool := (decide ((m_lean (m_way0 p_0x p_0y p_1x p_1y) (m_way1 p_0x p_0y p_1x p_1y) (m_way0 p_2x p_2y p_3x p_3y) (m_way1 p_2x p_2y p_3x p_3y)) = 0))
def sp_is_right (K : PySem.W.Frag) (A : Ad) : Sp := fun vs H Q _ => ∃ (p_0x : Int) (p_0y : Int) (p_1x : Int) (p_1y : Int) (p_2x : Int) (p_2y : Int) (p_3x : Int) (p_3y : Int), AllP [isQ K 350 [[p_0x, p_0y], [p_1x, p_1y], [p_2x, p_2y], [p_3x, p_3y]]] vs H ∧ RetP (isB (m_is_right p_0x p_0y p_1x p_1y p_2x p_2y p_3x p_3y)) H Q
def m_is_times (p_0x : Int) (p_0y : Int) (p_1x : Int) (p_1y : Int) (p_2x : Int) (p_2y : Int) (p_3x : Int) (p_3y : Int) (m_ : Int) (n_ : Int) : Bool := (decide ((((m_square (m_way0 p_0x p_0y p_1x p_1y) (m_way1 p_0x p_0y p_1x p_1y)) * n_) * n_) = (((m_square (m_way0 p_2x p_2y p_3x p_3y) (m_way1 p_2x p_2y p_3x p_3y)) * m_) * m_)))
def sp_is_times (K : PySem.W.Frag) (A : Ad) : Sp := fun vs H Q _ => ∃ (p_0x : Int) (p_0y : Int) (p_1x : Int) (p_1y : Int) (p_2x : Int) (p_2y : Int) (p_3x : Int) (p_3y : Int) (m_ : Int) (n_ : Int), AllP [isQ K 350 [[p_0x, p_0y], [p_1x, p_1y], [p_2x, p_2y], [p_3x, p_3y]], isI 10 m_, isI 10 n_] vs H ∧ RetP (isB (m_is_times p_0x p_0y p_1x p_1y p_2x p_2y p_3x p_3y m_ n_)) H Q
def m_is_equal (p_0x : Int) (p_0y : Int) (p_1x : Int) (p_1y : Int) (p_2x : Int) (p_2y : Int) (p_3x : Int) (p_3y : Int) : Bool := (m_is_times p_0x p_0y p_1x p_1y p_2x p_2y p_3x p_3y 1 1)
def sp_is_equal (K : PySem.W.Frag) (A : Ad) : Sp := fun vs H Q _ => ∃ (p_0x : Int) (p_0y : Int) (p_1x : Int) (p_1y : Int) (p_2x : Int) (p_2y : Int) (p_3x : Int) (p_3y : Int), AllP [isQ K 350 [[p_0x, p_0y], [p_1x, p_1y], [p_2x, p_2y], [p_3x, p_3y]]] vs H ∧ RetP (isB (m_is_equal p_0x p_0y p_1x p_1y p_2x p_2y p_3x p_3y)) H Q
def m_is_angles (p_0x : Int) (p_0y : Int) (p_1x : Int) (p_1y : Int) (p_2x : Int) (p_2y : Int) (p_3x : Int) (p_3y : Int) (p_4x : Int) (p_4y : Int) (p_5x : Int) (p_5y : Int) : Bool := (decide (((m_turn (m_way0 p_1x p_1y p_0x p_0y) (m_way1 p_1x p_1y p_0x p_0y) (m_way0 p_1x p_1y p_2x p_2y) (m_way1 p_1x p_1y p_2x p_2y)) * (m_lean (m_way0 p_4x p_4y p_3x p_3y) (m_way1 p_4x p_4y p_3x p_3y) (m_way0 p_4x p_4y p_5x p_5y) (m_way1 p_4x p_4y p_5x p_5y))) = ((m_turn (m_way0 p_4x p_4y p_3x p_3y) (m_way1 p_4x p_4y p_3x p_3y) (m_way0 p_4x p_4y p_5x p_5y) (m_way1 p_4x p_4y p_5x p_5y)) * (m_lean (m_way0 p_1x p_1y p_0x p_0y) (m_way1 p_1x p_1y p_0x p_0y) (m_way0 p_1x p_1y p_2x p_2y) (m_way1 p_1x p_1y p_2x p_2y)))))
def sp_is_angles (K : PySem.W.Frag) (A : Ad) : Sp := fun vs H Q _ => ∃ (p_0x : Int) (p_0y : Int) (p_1x : Int) (p_1y : Int) (p_2x : Int) (p_2y : Int) (p_3x : Int) (p_3y : Int) (p_4x : Int) (p_4y : Int) (p_5x : Int) (p_5y : Int), AllP [isQ K 350 [[p_0x, p_0y], [p_1x, p_1y], [p_2x, p_2y], [p_3x, p_3y], [p_4x, p_4y], [p_5x, p_5y]]] vs H ∧ RetP (isB (m_is_angles p_0x p_0y p_1x p_1y p_2x p_2y p_3x p_3y p_4x p_4y p_5x p_5y)) H Q
def m_is_areas (p_0x : Int) (p_0y : Int) (p_1x : Int) (p_1y : Int) (p_2x : Int) (p_2y : Int) (p_3x : Int) (p_3y : Int) (p_4x : Int) (p_4y : Int) (p_5x : Int) (p_5y : Int) : Bool := (decide ((m_turn (m_way0 p_0x p_0y p_1x p_1y) (m_way1 p_0x p_0y p_1x p_1y) (m_way0 p_0x p_0y p_2x p_2y) (m_way1 p_0x p_0y p_2x p_2y)) = (m_turn (m_way0 p_3x p_3y p_4x p_4y) (m_way1 p_3x p_3y p_4x p_4y) (m_way0 p_3x p_3y p_5x p_5y) (m_way1 p_3x p_3y p_5x p_5y))))
def sp_is_areas (K : PySem.W.Frag) (A : Ad) : Sp := fun vs H Q _ => ∃ (p_0x : Int) (p_0y : Int) (p_1x : Int) (p_1y : Int) (p_2x : Int) (p_2y : Int) (p_3x : Int) (p_3y : Int) (p_4x : Int) (p_4y : Int) (p_5x : Int) (p_5y : Int), AllP [isQ K 350 [[p_0x, p_0y], [p_1x, p_1y], [p_2x, p_2y], [p_3x, p_3y], [p_4x, p_4y], [p_5x, p_5y]]] vs H ∧ RetP (isB (m_is_areas p_0x p_0y p_1x p_1y p_2x p_2y p_3x p_3y p_4x p_4y p_5x p_5y)) H Q
def m_line_numbers0 (a_0 : Int) (a_1 : Int) (b_0 : Int) (b_1 : Int) : Int := (a_1 - b_1)
def m_line_numbers1 (a_0 : Int) (a_1 : Int) (b_0 : Int) (b_1 : Int) : Int := (b_0 - a_0)
def m_line_numbers2 (a_0 : Int) (a_1 : Int) (b_0 : Int) (b_1 : Int) : Int := (m_turn a_0 a_1 b_0 b_1)
def sp_line_numbers (K : PySem.W.Frag) (A : Ad) : Sp := fun vs H Q _ => ∃ (a_0 : Int) (a_1 : Int) (b_0 : Int) (b_1 : Int), AllP [isT K 350 [a_0, a_1], isT K 350 [b_0, b_1]] vs H ∧ RetP (isE 703 [m_line_numbers0 a_0 a_1 b_0 b_1, m_line_numbers1 a_0 a_1 b_0 b_1, m_line_numbers2 a_0 a_1 b_0 b_1]) H Q
def m_is_through (p_0x : Int) (p_0y : Int) (p_1x : Int) (p_1y : Int) (p_2x : Int) (p_2y : Int) (p_3x : Int) (p_3y : Int) (p_4x : Int) (p_4y : Int) (p_5x : Int) (p_5y : Int) : Bool := (decide ((m_measure (m_line_numbers0 p_0x p_0y p_1x p_1y) (m_line_numbers1 p_0x p_0y p_1x p_1y) (m_line_numbers2 p_0x p_0y p_1x p_1y) (m_line_numbers0 p_2x p_2y p_3x p_3y) (m_line_numbers1 p_2x p_2y p_3x p_3y) (m_line_numbers2 p_2x p_2y p_3x p_3y) (m_line_numbers0 p_4x p_4y p_5x p_5y) (m_line_numbers1 p_4x p_4y p_5x p_5y) (m_line_numbers2 p_4x p_4y p_5x p_5y)) = 0))
def sp_is_through (K : PySem.W.Frag) (A : Ad) : Sp := fun vs H Q _ => ∃ (p_0x : Int) (p_0y : Int) (p_1x : Int) (p_1y : Int) (p_2x : Int) (p_2y : Int) (p_3x : Int) (p_3y : Int) (p_4x : Int) (p_4y : Int) (p_5x : Int) (p_5y : Int), AllP [isQ K 350 [[p_0x, p_0y], [p_1x, p_1y], [p_2x, p_2y], [p_3x, p_3y], [p_4x, p_4y], [p_5x, p_5y]]] vs H ∧ RetP (isB (m_is_through p_0x p_0y p_1x p_1y p_2x p_2y p_3x p_3y p_4x p_4y p_5x p_5y)) H Q
def m_is_middle (p_0x : Int) (p_0y : Int) (p_1x : Int) (p_1y : Int) (p_2x : Int) (p_2y : Int) : Bool := (decide ((m_way0 p_1x p_1y p_0x p_0y) = (m_way0 p_0x p_0y p_2x p_2y)) && decide ((m_way1 p_1x p_1y p_0x p_0y) = (m_way1 p_0x p_0y p_2x p_2y)))
def sp_is_middle (K : PySem.W.Frag) (A : Ad) : Sp := fun vs H Q _ => ∃ (p_0x : Int) (p_0y : Int) (p_1x : Int) (p_1y : Int) (p_2x : Int) (p_2y : Int), AllP [isQ K 350 [[p_0x, p_0y], [p_1x, p_1y], [p_2x, p_2y]]] vs H ∧ RetP (isB (m_is_middle p_0x p_0y p_1x p_1y p_2x p_2y)) H Q
def m_is_touches (p_0x : Int) (p_0y : Int) (p_1x : Int) (p_1y : Int) (p_2x : Int) (p_2y : Int) (p_3x : Int) (p_3y : Int) : Bool := (decide (((m_turn (m_way0 p_0x p_0y p_1x p_1y) (m_way1 p_0x p_0y p_1x p_1y) (m_way0 p_0x p_0y p_2x p_2y) (m_way1 p_0x p_0y p_2x p_2y)) * (m_turn (m_way0 p_0x p_0y p_1x p_1y) (m_way1 p_0x p_0y p_1x p_1y) (m_way0 p_0x p_0y p_2x p_2y) (m_way1 p_0x p_0y p_2x p_2y))) = ((m_square (m_way0 p_0x p_0y p_1x p_1y) (m_way1 p_0x p_0y p_1x p_1y)) * (m_square (m_way0 p_2x p_2y p_3x p_3y) (m_way1 p_2x p_2y p_3x p_3y)))))
def sp_is_touches (K : PySem.W.Frag) (A : Ad) : Sp := fun vs H Q _ => ∃ (p_0x : Int) (p_0y : Int) (p_1x : Int) (p_1y : Int) (p_2x : Int) (p_2y : Int) (p_3x : Int) (p_3y : Int), AllP [isQ K 350 [[p_0x, p_0y], [p_1x, p_1y], [p_2x, p_2y], [p_3x, p_3y]]] vs H ∧ RetP (isB (m_is_touches p_0x p_0y p_1x p_1y p_2x p_2y p_3x p_3y)) H Q
def m_is_alike (p_0x : Int) (p_0y : Int) (p_1x : Int) (p_1y : Int) (p_2x : Int) (p_2y : Int) (p_3x : Int) (p_3y : Int) (p_4x : Int) (p_4y : Int) (p_5x : Int) (p_5y : Int) : Bool := (decide ((m_multiplied0 (m_way0 p_0x p_0y p_1x p_1y) (m_way1 p_0x p_0y p_1x p_1y) (m_way0 p_3x p_3y p_5x p_5y) (m_way1 p_3x p_3y p_5x p_5y)) = (m_multiplied0 (m_way0 p_0x p_0y p_2x p_2y) (m_way1 p_0x p_0y p_2x p_2y) (m_way0 p_3x p_3y p_4x p_4y) (m_way1 p_3x p_3y p_4x p_4y))) && decide ((m_multiplied1 (m_way0 p_0x p_0y p_1x p_1y) (m_way1 p_0x p_0y p_1x p_1y) (m_way0 p_3x p_3y p_5x p_5y) (m_way1 p_3x p_3y p_5x p_5y)) = (m_multiplied1 (m_way0 p_0x p_0y p_2x p_2y) (m_way1 p_0x p_0y p_2x p_2y) (m_way0 p_3x p_3y p_4x p_4y) (m_way1 p_3x p_3y p_4x p_4y))))
def sp_is_alike (K : PySem.W.Frag) (A : Ad) : Sp := fun vs H Q _ => ∃ (p_0x : Int) (p_0y : Int) (p_1x : Int) (p_1y : Int) (p_2x : Int) (p_2y : Int) (p_3x : Int) (p_3y : Int) (p_4x : Int) (p_4y : Int) (p_5x : Int) (p_5y : Int), AllP [isQ K 350 [[p_0x, p_0y], [p_1x, p_1y], [p_2x, p_2y], [p_3x, p_3y], [p_4x, p_4y], [p_5x, p_5y]]] vs H ∧ RetP (isB (m_is_alike p_0x p_0y p_1x p_1y p_2x p_2y p_3x p_3y p_4x p_4y p_5x p_5y)) H Q
def m_keeps_shapes (a_ : Int) (b_ : Int) (c_ : Int) (d_ : Int) : Bool := ((decide ((m_square a_ c_) = (m_square b_ d_))) && (decide ((m_lean a_ c_ b_ d_) = 0)))
def sp_keeps_shapes (K : PySem.W.Frag) (A : Ad) : Sp := fun vs H Q _ => ∃ (a_ : Int) (b_ : Int) (c_ : Int) (d_ : Int), AllP [isI 10 a_, isI 10 b_, isI 10 c_, isI 10 d_] vs H ∧ RetP (isB (m_keeps_shapes a_ b_ c_ d_)) H Q
/-! ### promises of stage 2 -/
/-- a place, stretched -/
def Pq (c : Int) (u : Pt) : List Int := [u.x * c.fdiv u.w, u.y * c.fdiv u.w]
def comW (ps : List Pt) : Int := ps.foldl (fun c u => c.fdiv (Int.gcd c u.w) * u.w) 1
def whl (ps : List Pt) : List (List Int) := ps.map (Pq (comW ps))
def RetQ (K : PySem.W.Frag) (qs : List (List Int)) (H : Hp) (Q : VK) : Prop := ∀ p H2 ws, H p = none → Ex H H2 → H2 p = some (.lst ws) → RowsT K H2 ws qs → Q (.ref p) H2
def m_is_circle (p_0x p_0y p_1x p_1y p_2x p_2y p_3x p_3y : Int) : Bool := decide (m_measure (m_square (p_1x - p_0x) (p_1y - p_0y)) (p_1x - p_0x) (p_1y - p_0y) (m_square (p_2x - p_0x) (p_2y - p_0y)) (p_2x - p_0x) (p_2y - p_0y) (m_square (p_3x - p_0x) (p_3y - p_0y)) (p_3x - p_0x) (p_3y - p_0y) = 0)
def sp_is_circle (K : PySem.W.Frag) (A : Ad) : Sp := fun vs H Q _ => ∃ p_0x p_0y p_1x p_1y p_2x p_2y p_3x p_3y : Int, AllP [isQ K 350 [[p_0x, p_0y], [p_1x, p_1y], [p_2x, p_2y], [p_3x, p_3y]]] vs H ∧ RetP (isB (m_is_circle p_0x p_0y p_1x p_1y p_2x p_2y p_3x p_3y)) H Q
def soQ (k : Nat) (qs : List (List Int)) (m n : Int) : Bool := match k, qs with
  | 0, [[a, b], [c, d]] => m_is_same a b c d
  | 1, [[a, b], [c, d], [e, f]] => m_is_line a b c d e f
  | 2, [[a, b], [c, d], [e, f], [g, h]] => m_is_parallel a b c d e f g h
  | 3, [[a, b], [c, d], [e, f], [g, h]] => m_is_right a b c d e f g h
  | 4, [[a, b], [c, d], [e, f], [g, h]] => m_is_equal a b c d e f g h
  | 5, [[a, b], [c, d], [e, f], [g, h]] => m_is_times a b c d e f g h m n
  | 6, [[a, b], [c, d], [e, f], [g, h]] => m_is_circle a b c d e f g h
  | 7, [[a, b], [c, d], [e, f], [g, h], [i, j], [x, y]] => m_is_angles a b c d e f g h i j x y
  | 8, [[a, b], [c, d], [e, f], [g, h], [i, j], [x, y]] => m_is_areas a b c d e f g h i j x y
  | 9, [[a, b], [c, d], [e, f], [g, h], [i, j], [x, y]] => m_is_through a b c d e f g h i j x y
  | 10, [[a, b], [c, d], [e, f]] => m_is_middle a b c d e f
  | 11, [[a, b], [c, d], [e, f], [g, h]] => m_is_touches a b c d e f g h
  | 12, [[a, b], [c, d], [e, f], [g, h], [i, j], [x, y]] => m_is_alike a b c d e f g h i j x y
  | _, _ => false
def sp_is_so (K : PySem.W.Frag) (A : Ad) : Sp := fun vs H Q _ => ∃ (k : Nat) (p o : Addr) (ws : List V) (qs : List (List Int)) (m n : Int), vs = [.int (k : Int), .ref p, .ref o] ∧ k < 13 ∧ SqL K H p ws ∧ RowsT K H ws qs ∧ (∀ q ∈ qs, ∀ x ∈ q, Bd 350 x) ∧ qs.length = Kh372.pointsOf k ∧ (∀ q ∈ qs, q.length = 2) ∧ (k = 5 → SqL K H o [.int m, .int n] ∧ Bd 10 m ∧ Bd 10 n) ∧ Evl.RetV (.bl (soQ k qs m n)) H Q
def R_BY_KIND (K : PySem.W.Frag) (A : Ad) (f : Addr) (sp : Sp) : Prop :=
  (f = A.f_is_same ∧ sp = sp_is_same K A) ∨ (f = A.f_is_line ∧ sp = sp_is_line K A) ∨ (f = A.f_is_parallel ∧ sp = sp_is_parallel K A) ∨ (f = A.f_is_right ∧ sp = sp_is_right K A) ∨ (f = A.f_is_equal ∧ sp = sp_is_equal K A) ∨ (f = A.f_is_circle ∧ sp = sp_is_circle K A) ∨ (f = A.f_is_angles ∧ sp = sp_is_angles K A) ∨ (f = A.f_is_areas ∧ sp = sp_is_areas K A) ∨ (f = A.f_is_through ∧ sp = sp_is_through K A) ∨ (f = A.f_is_middle ∧ sp = sp_is_middle K A) ∨ (f = A.f_is_touches ∧ sp = sp_is_touches K A) ∨ (f = A.f_is_alike ∧ sp = sp_is_alike K A)
def sp_is_kind (K : PySem.W.Frag) (A : Ad) : Sp := fun vs H Q _ => ∃ k : Nat, vs = [.int (k : Int)] ∧ Evl.RetV (.bl (decide (k < 13))) H Q
def sp_may_be_said (K : PySem.W.Frag) (A : Ad) : Sp := fun vs H Q _ => ∃ (k : Nat) (p : Addr) (row : List Nat), vs = [.int (k : Int), .ref p] ∧ SqL K H p (nl row) ∧ Evl.RetV (.bl (Kh372.okSaying k row)) H Q
/-- so many rising numbers below n, in order -/
def ris (n : Nat) : Nat → List (List Nat)
  | 0 => [[]]
  | k + 1 => (ris n k).flatMap fun row => (List.range' (if 0 < k then row.getLastD 0 + 1 else 0) (n - (if 0 < k then row.getLastD 0 + 1 else 0))).map fun x => row ++ [x]
def sp_rising (K : PySem.W.Frag) (A : Ad) : Sp := fun vs H Q _ => ∃ n k : Nat, vs = [.int (n : Int), .int (k : Int)] ∧ n ≤ 10 ∧ k ≤ 10 ∧ RetR (ris n k) H Q
def sp_pairs_of_ways (K : PySem.W.Frag) (A : Ad) : Sp := fun vs H Q _ => ∃ n : Nat, vs = [.int (n : Int)] ∧ n ≤ 10 ∧ RetR (Kh372.twoPairs n) H Q
def sp_middles (K : PySem.W.Frag) (A : Ad) : Sp := fun vs H Q _ => ∃ n : Nat, vs = [.int (n : Int)] ∧ n ≤ 10 ∧ RetR (Kh372.middles n) H Q
def sp_rows_to_ask (K : PySem.W.Frag) (A : Ad) : Sp := fun vs H Q _ => ∃ (k n : Nat) (t : List (List Nat)), vs = [.int (k : Int), .int (n : Int)] ∧ n ≤ 10 ∧ Kh372.asked k n = some t ∧ RetR t H Q
def sp_rows_so (K : PySem.W.Frag) (A : Ad) : Sp := fun vs H Q _ => ∃ (k : Nat) (p : Addr) (ws : List V) (ps : List Pt) (t : List (List Nat)), vs = [.int (k : Int), .ref p] ∧ SqL K H p ws ∧ RowsT K H ws (whl ps) ∧ GoodS ps ∧ Kh372.asked k ps.length = some t ∧ RetR (t.filter fun l => Kh372.says ps k l) H Q
def keyN (n : Nat) : L2.Key := Sum.inl (n : Int)
def DictS (kvs : List (List L2.Key × V)) (S : List (List Nat)) : Prop := ∀ t : List Nat, (valV kvs (t.map keyN)).isSome = S.contains t
def sp_is_so_throughout (K : PySem.W.Frag) (A : Ad) : Sp := fun vs H Q _ => ∃ (m p d : Addr) (mem : List Nat) (ws : List V) (parts : List (List Nat)) (kvs : List (List L2.Key × V)) (S : List (List Nat)), vs = [.ref m, .ref p, .ref d] ∧ SqL K H m (nl mem) ∧ SqL K H p ws ∧ RowsN (fun _ => none) H ws parts ∧ H d = some (.dT kvs) ∧ DictS kvs S ∧ (∀ t ∈ parts, t.length ≤ 1000 ∧ ∀ i ∈ t, i < mem.length) ∧ Evl.RetV (.bl (parts.all fun t => S.contains (t.map fun i => mem.getD i 0))) H Q
def setsT (n k w : Nat) (S : List (List Nat)) : List (List Nat) := (ris n k).filter fun mem => (ris k w).all fun t => S.contains (t.map fun i => mem.getD i 0)
def sp_sets_throughout (K : PySem.W.Frag) (A : Ad) : Sp := fun vs H Q _ => ∃ (n k w : Nat) (d : Addr) (kvs : List (List L2.Key × V)) (S : List (List Nat)), vs = [.int (n : Int), .int (k : Int), .int (w : Int), .ref d] ∧ n ≤ 10 ∧ k ≤ 10 ∧ w ≤ 10 ∧ H d = some (.dT kvs) ∧ DictS kvs S ∧ RetR (setsT n k w S) H Q
def sp_largest_set (K : PySem.W.Frag) (A : Ad) : Sp := fun vs H Q _ => ∃ (k : Nat) (p : Addr) (ws : List V) (ps : List Pt), vs = [.int (k : Int), .ref p] ∧ SqL K H p ws ∧ RowsT K H ws (whl ps) ∧ GoodS ps ∧ (k = 1 ∨ k = 6) ∧ Evl.RetL (nl (Kh372.most ps k)) H Q
def sp_fraction (K : PySem.W.Frag) (A : Ad) : Sp := fun vs H Q _ => ∃ n d : Int, vs = [.int n, .int d] ∧ d ≠ 0 ∧ Bd 3000 d ∧ Evl.RetL (intL [(Kh371.frac n d).1, (Kh371.frac n d).2]) H Q
def sp_common_below (K : PySem.W.Frag) (A : Ad) : Sp := fun vs H Q _ => ∃ (p : Addr) (ws : List V) (ps : List Pt), vs = [.ref p] ∧ SqL K H p ws ∧ PtsAt K H ws ps ∧ GoodS ps ∧ Evl.RetV (.int (comW ps)) H Q
def sp_whole_places (K : PySem.W.Frag) (A : Ad) : Sp := fun vs H Q _ => ∃ (p : Addr) (ws : List V) (ps : List Pt), vs = [.ref p] ∧ SqL K H p ws ∧ PtsAt K H ws ps ∧ GoodS ps ∧ RetQ K (whl ps) H Q
def sp_may_be_asked (K : PySem.W.Frag) (A : Ad) : Sp := fun vs H Q _ => ∃ (k : Nat) (a b c d : Int), vs = [.int (k : Int), .int a, .int b, .int c, .int d] ∧ Evl.RetV (.bl (decide (k < 13) && (Kh372.within 1000 [a, b, c, d] && decide (a * d - b * c ≠ 0)))) H Q
def sp_is_kept (K : PySem.W.Frag) (A : Ad) : Sp := fun vs H Q _ => ∃ (k : Nat) (a b c d : Int), vs = [.int (k : Int), .int a, .int b, .int c, .int d] ∧ Bd 10 a ∧ Bd 10 b ∧ Bd 10 c ∧ Bd 10 d ∧ Evl.RetV (.bl (Kh372.keeps k a b c d)) H Q
def bigT (x : Int) : Bool := decide (1000000000000000 < x.natAbs)
def sp_is_too_large_to_tell (K : PySem.W.Frag) (A : Ad) : Sp := fun vs H Q _ => ∃ (p : Addr) (xs : List Int), vs = [.ref p] ∧ SqL K H p (intL xs) ∧ xs.length ≤ 100 ∧ Evl.RetV (.bl (xs.any bigT)) H Q
def sp_answer_with (K : PySem.W.Frag) (A : Ad) : Sp := fun vs H Q _ => ∃ (p : Addr) (xs : List Int), vs = [.ref p] ∧ H p = some (.lst (intL xs)) ∧ xs.length ≤ 100 ∧ Evl.RetL (intL (if xs.any bigT = true then [-75] else 0 :: xs)) H Q
def sp_may_be_crossed (K : PySem.W.Frag) (A : Ad) : Sp := fun vs H Q _ => ∃ a b c d e f g h : Int, AllP [isQ K 350 [[a, b], [c, d], [e, f], [g, h]]] vs H ∧ Evl.RetV (.bl (decide (([[a, b], [c, d], [e, f], [g, h]] : List (List Int)).Nodup) && (m_is_line a b c d e f && m_is_line a b c d g h))) H Q
def crossN (a b c d : Int) : Int := (c - a) * (d - b)
def crossD (a b c d : Int) : Int := (c - b) * (d - a)
def sp_cross_fraction (K : PySem.W.Frag) (A : Ad) : Sp := fun vs H Q _ => ∃ a b c d e f g h x y z w : Int, AllP [isQ K 350 [[a, b], [c, d], [e, f], [g, h]]] vs H ∧ [x, y, z, w] = (if a = c then [b, d, f, h] else [a, c, e, g]) ∧ crossD x y z w ≠ 0 ∧ Evl.RetL (intL [(Kh371.frac (crossN x y z w) (crossD x y z w)).1, (Kh371.frac (crossN x y z w) (crossD x y z w)).2]) H Q
/-- seen from a: below, across, up -/
def cenW (a b c d e f : Int) : Int := 2 * m_turn (c - a) (d - b) (e - a) (f - b)
def cenX (a b c d e f : Int) : Int := (f - b) * m_square (c - a) (d - b) - (d - b) * m_square (e - a) (f - b)
def cenY (a b c d e f : Int) : Int := (c - a) * m_square (e - a) (f - b) - (e - a) * m_square (c - a) (d - b)
def fr2 (n d : Int) : List Int := [(Kh371.frac n d).1, (Kh371.frac n d).2]
def sp_centre_fractions (K : PySem.W.Frag) (A : Ad) : Sp := fun vs H Q _ => ∃ a b c d e f s : Int, AllP [isQ K 350 [[a, b], [c, d], [e, f]], isI 320 s] vs H ∧ s ≠ 0 ∧ cenW a b c d e f ≠ 0 ∧
  Evl.RetL (intL (fr2 (a * cenW a b c d e f + cenX a b c d e f) (cenW a b c d e f * s) ++ fr2 (b * cenW a b c d e f + cenY a b c d e f) (cenW a b c d e f * s) ++ fr2 (cenX a b c d e f * cenX a b c d e f + cenY a b c d e f * cenY a b c d e f) (cenW a b c d e f * s * cenW a b c d e f * s))) H Q
def sp_Plane_has_each (K : PySem.W.Frag) (A : Ad) : Sp := fun vs H Q _ => ∃ (a l q : Addr) (ps : List Pt) (ns : List Nat), vs = [.ref a, .ref q] ∧ PlaneAt K A H a l (some ps) ∧ SqL K H q (nl ns) ∧ ns.length ≤ 100 ∧ Evl.RetV (.bl (ns.all fun i => decide (i < ps.length))) H Q
def sp_Plane_places_of (K : PySem.W.Frag) (A : Ad) : Sp := fun vs H Q _ => ∃ (a l q : Addr) (ps : List Pt) (ns : List Nat), vs = [.ref a, .ref q] ∧ PlaneAt K A H a l (some ps) ∧ SqL K H q (nl ns) ∧ ns.length ≤ 100 ∧ (∀ i ∈ ns, i < ps.length) ∧ ∀ p H2 ws, H p = none → Ex H H2 → H2 p = some (.lst ws) → PtsAt K H2 ws (ns.map (Kh372.pt ps)) → Q (.ref p) H2
def spPu (K : PySem.W.Frag) (A : Ad) (rel : Hp → List V → Kh372.Call → Prop) : Sp := fun vs H Q _ => ∃ (a l : Addr) (ps : List Pt) (c : Kh372.Call) (r : List V), vs = .ref a :: r ∧ rel H r c ∧ PlaneAt K A H a l (some ps) ∧ GoodS ps ∧ Evl.RetL (intL ((Kh372.does ps c).2.ret :: (Kh372.does ps c).2.out)) H Q
def spPv (K : PySem.W.Frag) (A : Ad) (rel : Hp → List V → Kh372.Call → Prop) : Sp := fun vs H Q _ => ∃ (a l : Addr) (ps : List Pt) (c : Kh372.Call) (r : List V), vs = .ref a :: r ∧ rel H r c ∧ PlaneAt K A H a l (some ps) ∧ GoodS ps ∧ Evl.RetV (.int (Kh372.does ps c).2.ret) H Q
def sp_Plane_where (K : PySem.W.Frag) (A : Ad) : Sp := spPu K A fun _ r c => ∃ p : Nat, r = [.int (p : Int)] ∧ c = .where_ p
def sp_Plane_says (K : PySem.W.Frag) (A : Ad) : Sp := spPv K A fun H r c => ∃ (k : Nat) (q : Addr) (row : List Nat), r = [.int (k : Int), .ref q] ∧ SqL K H q (nl row) ∧ row.length ≤ 6 ∧ c = .says k row
def sp_Plane_every (K : PySem.W.Frag) (A : Ad) : Sp := spPu K A fun _ r c => ∃ k : Nat, r = [.int (k : Int)] ∧ c = .all k
def sp_Plane_most (K : PySem.W.Frag) (A : Ad) : Sp := spPu K A fun _ r c => ∃ k : Nat, r = [.int (k : Int)] ∧ c = .most k
def sp_Plane_keeps (K : PySem.W.Frag) (A : Ad) : Sp := spPv K A fun _ r c => ∃ (k : Nat) (x y z u : Int), r = [.int (k : Int), .int x, .int y, .int z, .int u] ∧ c = .keeps k x y z u
def sp_Plane_cross (K : PySem.W.Frag) (A : Ad) : Sp := spPu K A fun H r c => ∃ (q : Addr) (i j k m : Nat), r = [.ref q] ∧ SqL K H q (nl [i, j, k, m]) ∧ c = .cross i j k m
def sp_Plane_centre (K : PySem.W.Frag) (A : Ad) : Sp := spPu K A fun H r c => ∃ (q : Addr) (i j k : Nat), r = [.ref q] ∧ SqL K H q (nl [i, j, k]) ∧ c = .centre i j k
def t_nine_of_slant (K : PySem.W.Frag) (A : Ad) : TS :=
  (tRet (tLst (tCons (tVar 0) (tCons (tVar 1) (tCons (tVar 4) (tCons (tVar 2) (tCons (tVar 3) (tCons (tVar 5) (tCons (tC (.int 0)) (tCons (tC (.int 0)) (tCons (tC (.int 1)) tNil)))))))))))
def t_measure (K : PySem.W.Frag) (A : Ad) : TS :=
  (tSeq (tAsg (tOp oMul (tOp (rIxL K) (tVar 0) (tC (.int 0))) (tOp oSub (tOp oMul (tOp (rIxL K) (tVar 0) (tC (.int 4))) (tOp (rIxL K) (tVar 0) (tC (.int 8)))) (tOp oMul (tOp (rIxL K) (tVar 0) (tC (.int 5))) (tOp (rIxL K) (tVar 0) (tC (.int 7)))))) (gName 1))
    (tSeq (tAsg (tOp oMul (tOp (rIxL K) (tVar 0) (tC (.int 1))) (tOp oSub (tOp oMul (tOp (rIxL K) (tVar 0) (tC (.int 3))) (tOp (rIxL K) (tVar 0) (tC (.int 8)))) (tOp oMul (tOp (rIxL K) (tVar 0) (tC (.int 5))) (tOp (rIxL K) (tVar 0) (tC (.int 6)))))) (gName 2))
    (tSeq (tAsg (tOp oMul (tOp (rIxL K) (tVar 0) (tC (.int 2))) (tOp oSub (tOp oMul (tOp (rIxL K) (tVar 0) (tC (.int 3))) (tOp (rIxL K) (tVar 0) (tC (.int 7)))) (tOp oMul (tOp (rIxL K) (tVar 0) (tC (.int 4))) (tOp (rIxL K) (tVar 0) (tC (.int 6)))))) (gName 3))
    (tRet (tOp oAdd (tOp oSub (tVar 1) (tVar 2)) (tVar 3))))))
def t_may_bend (K : PySem.W.Frag) (A : Ad) : TS :=
  (tSeq (tIfS (tTest (tOp rNe (tCB (Evl.rLenS K) (tCons (tVar 0) tNil)) (tC (.int 9))))
    (tRet (tC (.bl false)))
    tNext)
    (tSeq (tIfS (tB (tCB (rAny K) (tCons (tLc (iList K (tVar 0)) (gName 1) tYes (tOp oGt (tCB rAbs (tCons (tVar 1) tNil)) (tC (.int 10))) [1]) tNil)))
    (tRet (tC (.bl false)))
    tNext)
    (tRet (tOp rNe (tCall (sp_measure K A) [] E0 (tCons (tVar 0) tNil)) (tC (.int 0))))))
def t_bent (K : PySem.W.Frag) (A : Ad) : TS :=
  (tSeq (tAsg (tOp (rIxT K) (tVar 0) (tC (.int 0))) (gName 2))
    (tSeq (tAsg (tOp (rIxT K) (tVar 0) (tC (.int 1))) (gName 3))
    (tSeq (tAsg (tOp (rIxT K) (tVar 0) (tC (.int 2))) (gName 4))
    (tSeq (tAsg (tOp oAdd (tOp oAdd (tOp oMul (tOp (rIxL K) (tVar 1) (tC (.int 0))) (tVar 2)) (tOp oMul (tOp (rIxL K) (tVar 1) (tC (.int 1))) (tVar 3))) (tOp oMul (tOp (rIxL K) (tVar 1) (tC (.int 2))) (tVar 4))) (gName 5))
    (tSeq (tAsg (tOp oAdd (tOp oAdd (tOp oMul (tOp (rIxL K) (tVar 1) (tC (.int 3))) (tVar 2)) (tOp oMul (tOp (rIxL K) (tVar 1) (tC (.int 4))) (tVar 3))) (tOp oMul (tOp (rIxL K) (tVar 1) (tC (.int 5))) (tVar 4))) (gName 6))
    (tSeq (tAsg (tOp oAdd (tOp oAdd (tOp oMul (tOp (rIxL K) (tVar 1) (tC (.int 6))) (tVar 2)) (tOp oMul (tOp (rIxL K) (tVar 1) (tC (.int 7))) (tVar 3))) (tOp oMul (tOp (rIxL K) (tVar 1) (tC (.int 8))) (tVar 4))) (gName 7))
    (tRet (tTup (tCons (tVar 5) (tCons (tVar 6) (tCons (tVar 7) tNil)))))))))))
def t_is_kind (K : PySem.W.Frag) (A : Ad) : TS :=
  (tRet (tOp oLt (tVar 0) (tCB (Evl.rLenS K) (tCons (tC (.ref A.a_POINTS_OF_KIND)) tNil))))
def t_may_be_said (K : PySem.W.Frag) (A : Ad) : TS :=
  (tSeq (tIfS (tNot (tB (tCall (sp_is_kind K A) [] E0 (tCons (tVar 0) tNil))))
    (tRet (tC (.bl false)))
    tNext)
    (tSeq (tIfS (tTest (tOp rNe (tVar 0) (tC (.int 5))))
    (tRet (tOp rEq (tCB (Evl.rLenS K) (tCons (tVar 1) tNil)) (tOp (rIxT K) (tC (.ref A.a_POINTS_OF_KIND)) (tVar 0))))
    tNext)
    (tSeq (tIfS (tTest (tOp rNe (tCB (Evl.rLenS K) (tCons (tVar 1) tNil)) (tOp oAdd (tOp (rIxT K) (tC (.ref A.a_POINTS_OF_KIND)) (tVar 0)) (tC (.int 2)))))
    (tRet (tC (.bl false)))
    tNext)
    (tRet (tAndV (tChain oLe oLe (tC (.int 1)) (tOp (rIxL K) (tVar 1) (tC (.int 4))) (tC (.int 1000))) (tChain oLe oLe (tC (.int 1)) (tOp (rIxL K) (tVar 1) (tC (.int 5))) (tC (.int 1000))))))))
def t_way (K : PySem.W.Frag) (A : Ad) : TS :=
  (tRet (tTup (tCons (tOp oSub (tOp (rIxT K) (tVar 1) (tC (.int 0))) (tOp (rIxT K) (tVar 0) (tC (.int 0)))) (tCons (tOp oSub (tOp (rIxT K) (tVar 1) (tC (.int 1))) (tOp (rIxT K) (tVar 0) (tC (.int 1)))) tNil))))
def t_turn (K : PySem.W.Frag) (A : Ad) : TS :=
  (tRet (tOp oSub (tOp oMul (tOp (rIxT K) (tVar 0) (tC (.int 0))) (tOp (rIxT K) (tVar 1) (tC (.int 1)))) (tOp oMul (tOp (rIxT K) (tVar 0) (tC (.int 1))) (tOp (rIxT K) (tVar 1) (tC (.int 0))))))
def t_lean (K : PySem.W.Frag) (A : Ad) : TS :=
  (tRet (tOp oAdd (tOp oMul (tOp (rIxT K) (tVar 0) (tC (.int 0))) (tOp (rIxT K) (tVar 1) (tC (.int 0)))) (tOp oMul (tOp (rIxT K) (tVar 0) (tC (.int 1))) (tOp (rIxT K) (tVar 1) (tC (.int 1))))))
def t_multiplied (K : PySem.W.Frag) (A : Ad) : TS :=
  (tSeq (tAsg (tOp oSub (tOp oMul (tOp (rIxT K) (tVar 0) (tC (.int 0))) (tOp (rIxT K) (tVar 1) (tC (.int 0)))) (tOp oMul (tOp (rIxT K) (tVar 0) (tC (.int 1))) (tOp (rIxT K) (tVar 1) (tC (.int 1))))) (gName 2))
    (tSeq (tAsg (tOp oAdd (tOp oMul (tOp (rIxT K) (tVar 0) (tC (.int 0))) (tOp (rIxT K) (tVar 1) (tC (.int 1)))) (tOp oMul (tOp (rIxT K) (tVar 0) (tC (.int 1))) (tOp (rIxT K) (tVar 1) (tC (.int 0))))) (gName 3))
    (tRet (tTup (tCons (tVar 2) (tCons (tVar 3) tNil))))))
def t_square (K : PySem.W.Frag) (A : Ad) : TS :=
  (tRet (tCall (sp_lean K A) [] E0 (tCons (tVar 0) (tCons (tVar 0) tNil))))
def t_is_same (K : PySem.W.Frag) (A : Ad) : TS :=
  (tRet (tOp (rEqD K) (tOp (rIxL K) (tVar 0) (tC (.int 0))) (tOp (rIxL K) (tVar 0) (tC (.int 1)))))
def t_is_line (K : PySem.W.Frag) (A : Ad) : TS :=
  (tRet (tOp rEq (tCall (sp_turn K A) [] E0 (tCons (tCall (sp_way K A) [] E0 (tCons (tOp (rIxL K) (tVar 0) (tC (.int 0))) (tCons (tOp (rIxL K) (tVar 0) (tC (.int 1))) tNil))) (tCons (tCall (sp_way K A) [] E0 (tCons (tOp (rIxL K) (tVar 0) (tC (.int 0))) (tCons (tOp (rIxL K) (tVar 0) (tC (.int 2))) tNil))) tNil))) (tC (.int 0))))
def t_is_parallel (K : PySem.W.Frag) (A : Ad) : TS :=
  (tRet (tOp rEq (tCall (sp_turn K A) [] E0 (tCons (tCall (sp_way K A) [] E0 (tCons (tOp (rIxL K) (tVar 0) (tC (.int 0))) (tCons (tOp (rIxL K) (tVar 0) (tC (.int 1))) tNil))) (tCons (tCall (sp_way K A) [] E0 (tCons (tOp (rIxL K) (tVar 0) (tC (.int 2))) (tCons (tOp (rIxL K) (tVar 0) (tC (.int 3))) tNil))) tNil))) (tC (.int 0))))
def t_is_right (K : PySem.W.Frag) (A : Ad) : TS :=
  (tRet (tOp rEq (tCall (sp_lean K A) [] E0 (tCons (tCall (sp_way K A) [] E0 (tCons (tOp (rIxL K) (tVar 0) (tC (.int 0))) (tCons (tOp (rIxL K) (tVar 0) (tC (.int 1))) tNil))) (tCons (tCall (sp_way K A) [] E0 (tCons (tOp (rIxL K) (tVar 0) (tC (.int 2))) (tCons (tOp (rIxL K) (tVar 0) (tC (.int 3))) tNil))) tNil))) (tC (.int 0))))
def t_is_times (K : PySem.W.Frag) (A : Ad) : TS :=
  (tRet (tOp rEq (tOp oMul (tOp oMul (tCall (sp_square K A) [] E0 (tCons (tCall (sp_way K A) [] E0 (tCons (tOp (rIxL K) (tVar 0) (tC (.int 0))) (tCons (tOp (rIxL K) (tVar 0) (tC (.int 1))) tNil))) tNil)) (tVar 2)) (tVar 2)) (tOp oMul (tOp oMul (tCall (sp_square K A) [] E0 (tCons (tCall (sp_way K A) [] E0 (tCons (tOp (rIxL K) (tVar 0) (tC (.int 2))) (tCons (tOp (rIxL K) (tVar 0) (tC (.int 3))) tNil))) tNil)) (tVar 1)) (tVar 1))))
def t_is_equal (K : PySem.W.Frag) (A : Ad) : TS :=
  (tRet (tCall (sp_is_times K A) [] E0 (tCons (tVar 0) (tCons (tC (.int 1)) (tCons (tC (.int 1)) tNil)))))
def t_is_circle (K : PySem.W.Frag) (A : Ad) : TS :=
  (tSeq (tAsg (tLst tNil) (gName 1))
    (tSeq (tFor (iList K (tSl (rSlL K) (tVar 0) (tPart (tC (.int 1))) tNoPart)) (gName 2)
    (tSeq (tAsg (tCall (sp_way K A) [] E0 (tCons (tOp (rIxL K) (tVar 0) (tC (.int 0))) (tCons (tVar 2) tNil))) (gName 3))
    (tDrop (tBM K "list" rExtend (tVar 1) (tCons (tLst (tCons (tCall (sp_square K A) [] E0 (tCons (tVar 3) tNil)) (tCons (tOp (rIxT K) (tVar 3) (tC (.int 0))) (tCons (tOp (rIxT K) (tVar 3) (tC (.int 1))) tNil)))) tNil)))))
    (tRet (tOp rEq (tCall (sp_measure K A) [] E0 (tCons (tVar 1) tNil)) (tC (.int 0))))))
def t_is_angles (K : PySem.W.Frag) (A : Ad) : TS :=
  (tSeq (tAsg (tCall (sp_way K A) [] E0 (tCons (tOp (rIxL K) (tVar 0) (tC (.int 1))) (tCons (tOp (rIxL K) (tVar 0) (tC (.int 0))) tNil))) (gName 1))
    (tSeq (tAsg (tCall (sp_way K A) [] E0 (tCons (tOp (rIxL K) (tVar 0) (tC (.int 1))) (tCons (tOp (rIxL K) (tVar 0) (tC (.int 2))) tNil))) (gName 2))
    (tSeq (tAsg (tCall (sp_way K A) [] E0 (tCons (tOp (rIxL K) (tVar 0) (tC (.int 4))) (tCons (tOp (rIxL K) (tVar 0) (tC (.int 3))) tNil))) (gName 3))
    (tSeq (tAsg (tCall (sp_way K A) [] E0 (tCons (tOp (rIxL K) (tVar 0) (tC (.int 4))) (tCons (tOp (rIxL K) (tVar 0) (tC (.int 5))) tNil))) (gName 4))
    (tRet (tOp rEq (tOp oMul (tCall (sp_turn K A) [] E0 (tCons (tVar 1) (tCons (tVar 2) tNil))) (tCall (sp_lean K A) [] E0 (tCons (tVar 3) (tCons (tVar 4) tNil)))) (tOp oMul (tCall (sp_turn K A) [] E0 (tCons (tVar 3) (tCons (tVar 4) tNil))) (tCall (sp_lean K A) [] E0 (tCons (tVar 1) (tCons (tVar 2) tNil))))))))))
def t_is_areas (K : PySem.W.Frag) (A : Ad) : TS :=
  (tRet (tOp rEq (tCall (sp_turn K A) [] E0 (tCons (tCall (sp_way K A) [] E0 (tCons (tOp (rIxL K) (tVar 0) (tC (.int 0))) (tCons (tOp (rIxL K) (tVar 0) (tC (.int 1))) tNil))) (tCons (tCall (sp_way K A) [] E0 (tCons (tOp (rIxL K) (tVar 0) (tC (.int 0))) (tCons (tOp (rIxL K) (tVar 0) (tC (.int 2))) tNil))) tNil))) (tCall (sp_turn K A) [] E0 (tCons (tCall (sp_way K A) [] E0 (tCons (tOp (rIxL K) (tVar 0) (tC (.int 3))) (tCons (tOp (rIxL K) (tVar 0) (tC (.int 4))) tNil))) (tCons (tCall (sp_way K A) [] E0 (tCons (tOp (rIxL K) (tVar 0) (tC (.int 3))) (tCons (tOp (rIxL K) (tVar 0) (tC (.int 5))) tNil))) tNil)))))
def t_line_numbers (K : PySem.W.Frag) (A : Ad) : TS :=
  (tRet (tLst (tCons (tOp oSub (tOp (rIxT K) (tVar 0) (tC (.int 1))) (tOp (rIxT K) (tVar 1) (tC (.int 1)))) (tCons (tOp oSub (tOp (rIxT K) (tVar 1) (tC (.int 0))) (tOp (rIxT K) (tVar 0) (tC (.int 0)))) (tCons (tCall (sp_turn K A) [] E0 (tCons (tVar 0) (tCons (tVar 1) tNil))) tNil)))))
def t_is_through (K : PySem.W.Frag) (A : Ad) : TS :=
  (tRet (tOp rEq (tCall (sp_measure K A) [] E0 (tCons (tOp rCat (tOp rCat (tCall (sp_line_numbers K A) [] E0 (tCons (tOp (rIxL K) (tVar 0) (tC (.int 0))) (tCons (tOp (rIxL K) (tVar 0) (tC (.int 1))) tNil))) (tCall (sp_line_numbers K A) [] E0 (tCons (tOp (rIxL K) (tVar 0) (tC (.int 2))) (tCons (tOp (rIxL K) (tVar 0) (tC (.int 3))) tNil)))) (tCall (sp_line_numbers K A) [] E0 (tCons (tOp (rIxL K) (tVar 0) (tC (.int 4))) (tCons (tOp (rIxL K) (tVar 0) (tC (.int 5))) tNil)))) tNil)) (tC (.int 0))))
def t_is_middle (K : PySem.W.Frag) (A : Ad) : TS :=
  (tRet (tOp (rEqD K) (tCall (sp_way K A) [] E0 (tCons (tOp (rIxL K) (tVar 0) (tC (.int 1))) (tCons (tOp (rIxL K) (tVar 0) (tC (.int 0))) tNil))) (tCall (sp_way K A) [] E0 (tCons (tOp (rIxL K) (tVar 0) (tC (.int 0))) (tCons (tOp (rIxL K) (tVar 0) (tC (.int 2))) tNil)))))
def t_is_touches (K : PySem.W.Frag) (A : Ad) : TS :=
  (tSeq (tAsg (tCall (sp_way K A) [] E0 (tCons (tOp (rIxL K) (tVar 0) (tC (.int 0))) (tCons (tOp (rIxL K) (tVar 0) (tC (.int 1))) tNil))) (gName 1))
    (tSeq (tAsg (tCall (sp_turn K A) [] E0 (tCons (tVar 1) (tCons (tCall (sp_way K A) [] E0 (tCons (tOp (rIxL K) (tVar 0) (tC (.int 0))) (tCons (tOp (rIxL K) (tVar 0) (tC (.int 2))) tNil))) tNil))) (gName 2))
    (tRet (tOp rEq (tOp oMul (tVar 2) (tVar 2)) (tOp oMul (tCall (sp_square K A) [] E0 (tCons (tVar 1) tNil)) (tCall (sp_square K A) [] E0 (tCons (tCall (sp_way K A) [] E0 (tCons (tOp (rIxL K) (tVar 0) (tC (.int 2))) (tCons (tOp (rIxL K) (tVar 0) (tC (.int 3))) tNil))) tNil)))))))
def t_is_alike (K : PySem.W.Frag) (A : Ad) : TS :=
  (tSeq (tAsg (tCall (sp_multiplied K A) [] E0 (tCons (tCall (sp_way K A) [] E0 (tCons (tOp (rIxL K) (tVar 0) (tC (.int 0))) (tCons (tOp (rIxL K) (tVar 0) (tC (.int 1))) tNil))) (tCons (tCall (sp_way K A) [] E0 (tCons (tOp (rIxL K) (tVar 0) (tC (.int 3))) (tCons (tOp (rIxL K) (tVar 0) (tC (.int 5))) tNil))) tNil))) (gName 1))
    (tSeq (tAsg (tCall (sp_multiplied K A) [] E0 (tCons (tCall (sp_way K A) [] E0 (tCons (tOp (rIxL K) (tVar 0) (tC (.int 0))) (tCons (tOp (rIxL K) (tVar 0) (tC (.int 2))) tNil))) (tCons (tCall (sp_way K A) [] E0 (tCons (tOp (rIxL K) (tVar 0) (tC (.int 3))) (tCons (tOp (rIxL K) (tVar 0) (tC (.int 4))) tNil))) tNil))) (gName 2))
    (tRet (tOp (rEqD K) (tVar 1) (tVar 2)))))
def t_is_so (K : PySem.W.Frag) (A : Ad) : TS :=
  (tSeq (tIfS (tTest (tOp rEq (tVar 0) (tC (.int 5))))
    (tRet (tCall (sp_is_times K A) [] E0 (tCons (tVar 1) (tCons (tOp (rIxL K) (tVar 2) (tC (.int 0))) (tCons (tOp (rIxL K) (tVar 2) (tC (.int 1))) tNil)))))
    tNext)
    (tRet (tCallIx (R_BY_KIND K A) (tOp (rIxT K) (tC (.ref A.a_BY_KIND)) (tVar 0)) (tCons (tVar 1) tNil))))
def t_rising (K : PySem.W.Frag) (A : Ad) : TS :=
  (tSeq (tAsg (tLst (tCons (tLst tNil) tNil)) (gName 2))
    (tSeq (tFor (iRng1 (tCons (tVar 1) tNil)) (gName 3)
    (tSeq (tAsg (tLst tNil) (gName 4))
    (tSeq (tFor (iList K (tVar 2)) (gName 5)
    (tSeq (tAsg (tIf (tTest (tOp oGt (tVar 3) (tC (.int 0)))) (tOp oAdd (tOp (rIxL K) (tVar 5) (tUn oNeg (tC (.int 1)))) (tC (.int 1))) (tC (.int 0))) (gName 6))
    (tDrop (tBM K "list" rExtend (tVar 4) (tCons (tLc (iRng2 (tCons (tVar 6) (tCons (tVar 0) tNil))) (gName 7) tYes (tOp rCat (tVar 5) (tLst (tCons (tVar 7) tNil))) [7]) tNil)))))
    (tAsg (tVar 4) (gName 2)))))
    (tRet (tVar 2))))
def t_pairs_of_ways (K : PySem.W.Frag) (A : Ad) : TS :=
  (tSeq (tAsg (tCall (sp_rising K A) [] E0 (tCons (tVar 0) (tCons (tC (.int 2)) tNil))) (gName 1))
    (tSeq (tAsg (tLst tNil) (gName 2))
    (tSeq (tFor (iEnumS K 1 (tCons (tVar 1) tNil)) (gTup K 2 (gCons (gName 3) (gCons (gName 4) gNil)))
    (tDrop (tBM K "list" rExtend (tVar 2) (tCons (tLc (iList K (tSl (rSlL K) (tVar 1) (tPart (tVar 3)) tNoPart)) (gName 5) tYes (tOp rCat (tVar 4) (tVar 5)) [5]) tNil))))
    (tRet (tVar 2)))))
def t_middles (K : PySem.W.Frag) (A : Ad) : TS :=
  (tSeq (tAsg (tCall (sp_rising K A) [] E0 (tCons (tVar 0) (tCons (tC (.int 2)) tNil))) (gName 1))
    (tSeq (tAsg (tLst tNil) (gName 2))
    (tSeq (tFor (iRng1 (tCons (tVar 0) tNil)) (gName 3)
    (tDrop (tBM K "list" rExtend (tVar 2) (tCons (tLc (iList K (tVar 1)) (gName 4) (tTest (tOp (rIn K true) (tVar 3) (tVar 4))) (tOp rCat (tLst (tCons (tVar 3) tNil)) (tVar 4)) [4]) tNil))))
    (tRet (tVar 2)))))
def t_rows_to_ask (K : PySem.W.Frag) (A : Ad) : TS :=
  (tSeq (tIfS (tTest (tOp (rIn K false) (tVar 0) (tC (.ref A.a_KINDS_RISING))))
    (tRet (tCall (sp_rising K A) [] E0 (tCons (tVar 1) (tCons (tOp (rIxT K) (tC (.ref A.a_POINTS_OF_KIND)) (tVar 0)) tNil))))
    tNext)
    (tSeq (tIfS (tTest (tOp (rIn K false) (tVar 0) (tC (.ref A.a_KINDS_OF_WAYS))))
    (tRet (tCall (sp_pairs_of_ways K A) [] E0 (tCons (tVar 1) tNil)))
    tNext)
    (tRet (tCall (sp_middles K A) [] E0 (tCons (tVar 1) tNil)))))
def t_rows_so (K : PySem.W.Frag) (A : Ad) : TS :=
  (tRet (tLc (iList K (tCall (sp_rows_to_ask K A) [] E0 (tCons (tVar 0) (tCons (tCB (Evl.rLenS K) (tCons (tVar 1) tNil)) tNil)))) (gName 2) (tB (tCall (sp_is_so K A) [] E0 (tCons (tVar 0) (tCons (tLc (iList K (tVar 2)) (gName 3) tYes (tOp (rIxL K) (tVar 1) (tVar 3)) [3]) (tCons (tLst tNil) tNil))))) (tVar 2) [2]))
def t_is_so_throughout (K : PySem.W.Frag) (A : Ad) : TS :=
  (tSeq (tFor (iList K (tVar 1)) (gName 3)
    (tIfS (tB (tDNotIn (tThen (tLc (iList K (tVar 3)) (gName 4) tYes (tOp (rIxL K) (tVar 0) (tVar 4)) [4]) (kTup K)) (tVar 2)))
    (tRet (tC (.bl false)))
    tNext))
    (tRet (tC (.bl true))))
def t_sets_throughout (K : PySem.W.Frag) (A : Ad) : TS :=
  (tSeq (tAsg (tCall (sp_rising K A) [] E0 (tCons (tVar 1) (tCons (tVar 2) tNil))) (gName 4))
    (tRet (tLc (iList K (tCall (sp_rising K A) [] E0 (tCons (tVar 0) (tCons (tVar 1) tNil)))) (gName 5) (tB (tCall (sp_is_so_throughout K A) [] E0 (tCons (tVar 5) (tCons (tVar 4) (tCons (tVar 3) tNil))))) (tVar 5) [5])))
def t_largest_set (K : PySem.W.Frag) (A : Ad) : TS :=
  (tSeq (tAsg (tOp (rIxT K) (tC (.ref A.a_POINTS_OF_KIND)) (tVar 0)) (gName 2))
    (tSeq (tAsg tDNewT (gName 3))
    (tSeq (tFor (iList K (tCall (sp_rows_so K A) [] E0 (tCons (tVar 0) (tCons (tVar 1) tNil)))) (gName 4)
    (sDPut (tVar 3) (tThen (tVar 4) (kTup K)) (tC (.bl true))))
    (tSeq (tAsg (tCB (Evl.rLenS K) (tCons (tVar 1) tNil)) (gName 5))
    (tSeq (tAsg (tCall (sp_sets_throughout K A) [] E0 (tCons (tCB (Evl.rLenS K) (tCons (tVar 1) tNil)) (tCons (tVar 5) (tCons (tVar 2) (tCons (tVar 3) tNil))))) (gName 6))
    (tSeq (tWhile (tTest (tOp rEq (tCB (Evl.rLenS K) (tCons (tVar 6) tNil)) (tC (.int 0))))
    (tSeq (tAsg (tOp oSub (tVar 5) (tC (.int 1))) (gName 5))
    (tAsg (tCall (sp_sets_throughout K A) [] E0 (tCons (tCB (Evl.rLenS K) (tCons (tVar 1) tNil)) (tCons (tVar 5) (tCons (tVar 2) (tCons (tVar 3) tNil))))) (gName 6))))
    (tRet (tOp (rIxL K) (tVar 6) (tC (.int 0))))))))))
def t_greatest_common (K : PySem.W.Frag) (A : Ad) : TS :=
  (tSeq (tAsg (tCB rAbs (tCons (tVar 0) tNil)) (gName 2))
    (tSeq (tAsg (tCB rAbs (tCons (tVar 1) tNil)) (gName 3))
    (tSeq (tWhile (tTest (tOp rNe (tVar 3) (tC (.int 0))))
    (tSeq (tAsg (tOp oMod (tVar 2) (tVar 3)) (gName 4))
    (tSeq (tAsg (tVar 3) (gName 2))
    (tAsg (tVar 4) (gName 3)))))
    (tRet (tVar 2)))))
def t_fraction (K : PySem.W.Frag) (A : Ad) : TS :=
  (tSeq (tAsg (tCall (sp_greatest_common K A) [] E0 (tCons (tVar 0) (tCons (tVar 1) tNil))) (gName 2))
    (tSeq (tIfS (tTest (tOp oLt (tVar 1) (tC (.int 0))))
    (tAsg (tUn oNeg (tVar 2)) (gName 2))
    tNext)
    (tRet (tLst (tCons (tOp oDiv (tVar 0) (tVar 2)) (tCons (tOp oDiv (tVar 1) (tVar 2)) tNil))))))
def t_three_numbers (K : PySem.W.Frag) (A : Ad) : TS :=
  (tSeq (tAsg (tCall (sp_greatest_common K A) [] E0 (tCons (tCall (sp_greatest_common K A) [] E0 (tCons (tVar 0) (tCons (tVar 1) tNil))) (tCons (tVar 2) tNil))) (gName 3))
    (tSeq (tIfS (tTest (tOp oLt (tVar 2) (tC (.int 0))))
    (tAsg (tUn oNeg (tVar 3)) (gName 3))
    tNext)
    (tRet (tTup (tCons (tOp oDiv (tVar 0) (tVar 3)) (tCons (tOp oDiv (tVar 1) (tVar 3)) (tCons (tOp oDiv (tVar 2) (tVar 3)) tNil)))))))
def t_may_be_told (K : PySem.W.Frag) (A : Ad) : TS :=
  (tRet (tAndV (tOp oLe (tCB rAbs (tCons (tVar 0) tNil)) (tC (.int 1000))) (tAndV (tOp oLe (tCB rAbs (tCons (tVar 1) tNil)) (tC (.int 1000))) (tChain oLe oLe (tC (.int 1)) (tVar 2) (tC (.int 1000))))))
def t_is_too_large (K : PySem.W.Frag) (A : Ad) : TS :=
  (tRet (tOrV (tOp oGt (tCB rAbs (tCons (tOp (rIxT K) (tVar 0) (tC (.int 0))) tNil)) (tC (.int 1000000000))) (tOrV (tOp oGt (tCB rAbs (tCons (tOp (rIxT K) (tVar 0) (tC (.int 1))) tNil)) (tC (.int 1000000000))) (tOp oGt (tOp (rIxT K) (tVar 0) (tC (.int 2))) (tC (.int 1000000000))))))
def t_common_below (K : PySem.W.Frag) (A : Ad) : TS :=
  (tSeq (tAsg (tC (.int 1)) (gName 1))
    (tSeq (tFor (iList K (tVar 0)) (gName 2)
    (tSeq (tAsg (tOp (rIxT K) (tVar 2) (tC (.int 2))) (gName 3))
    (tAsg (tOp oMul (tOp oDiv (tVar 1) (tCall (sp_greatest_common K A) [] E0 (tCons (tVar 1) (tCons (tVar 3) tNil)))) (tVar 3)) (gName 1))))
    (tRet (tVar 1))))
def t_whole_places (K : PySem.W.Frag) (A : Ad) : TS :=
  (tSeq (tAsg (tCall (sp_common_below K A) [] E0 (tCons (tVar 0) tNil)) (gName 1))
    (tRet (tLc (iList K (tVar 0)) (gName 2) tYes (tTup (tCons (tOp oMul (tOp (rIxT K) (tVar 2) (tC (.int 0))) (tOp oDiv (tVar 1) (tOp (rIxT K) (tVar 2) (tC (.int 2))))) (tCons (tOp oMul (tOp (rIxT K) (tVar 2) (tC (.int 1))) (tOp oDiv (tVar 1) (tOp (rIxT K) (tVar 2) (tC (.int 2))))) tNil))) [2])))
def t_may_be_asked (K : PySem.W.Frag) (A : Ad) : TS :=
  (tSeq (tIfS (tNot (tB (tCall (sp_is_kind K A) [] E0 (tCons (tVar 0) tNil))))
    (tRet (tC (.bl false)))
    tNext)
    (tSeq (tIfS (tB (tCB (rAny K) (tCons (tLc (iTup K (tTup (tCons (tVar 1) (tCons (tVar 2) (tCons (tVar 3) (tCons (tVar 4) tNil)))))) (gName 5) tYes (tOp oGt (tCB rAbs (tCons (tVar 5) tNil)) (tC (.int 1000))) [5]) tNil)))
    (tRet (tC (.bl false)))
    tNext)
    (tRet (tOp rNe (tOp oSub (tOp oMul (tVar 1) (tVar 4)) (tOp oMul (tVar 2) (tVar 3))) (tC (.int 0))))))
def t_keeps_shapes (K : PySem.W.Frag) (A : Ad) : TS :=
  (tSeq (tAsg (tTup (tCons (tVar 0) (tCons (tVar 2) tNil))) (gName 4))
    (tSeq (tAsg (tTup (tCons (tVar 1) (tCons (tVar 3) tNil))) (gName 5))
    (tRet (tAndV (tOp rEq (tCall (sp_square K A) [] E0 (tCons (tVar 4) tNil)) (tCall (sp_square K A) [] E0 (tCons (tVar 5) tNil))) (tOp rEq (tCall (sp_lean K A) [] E0 (tCons (tVar 4) (tCons (tVar 5) tNil))) (tC (.int 0)))))))
def t_is_kept (K : PySem.W.Frag) (A : Ad) : TS :=
  (tRet (tOrV (tOp (rIn K false) (tVar 0) (tC (.ref A.a_KINDS_KEPT_BY_ANY))) (tCall (sp_keeps_shapes K A) [] E0 (tCons (tVar 1) (tCons (tVar 2) (tCons (tVar 3) (tCons (tVar 4) tNil)))))))
def t_is_too_large_to_tell (K : PySem.W.Frag) (A : Ad) : TS :=
  (tRet (tCB (rAny K) (tCons (tLc (iList K (tVar 0)) (gName 1) tYes (tOp oGt (tCB rAbs (tCons (tVar 1) tNil)) (tC (.int 1000000000000000))) [1]) tNil)))
def t_may_be_crossed (P : Program) (w : World) (K : PySem.W.Frag) (A : Ad) : TS :=
  (tRet (tAndV (tOp rEq (tCB (rLenTO K P w) (tCons (tCB (rSetOfT K P w) (tCons (tVar 0) tNil)) tNil)) (tC (.int 4))) (tAndV (tCall (sp_is_line K A) [] E0 (tCons (tLst (tCons (tOp (rIxL K) (tVar 0) (tC (.int 0))) (tCons (tOp (rIxL K) (tVar 0) (tC (.int 1))) (tCons (tOp (rIxL K) (tVar 0) (tC (.int 2))) tNil)))) tNil)) (tCall (sp_is_line K A) [] E0 (tCons (tLst (tCons (tOp (rIxL K) (tVar 0) (tC (.int 0))) (tCons (tOp (rIxL K) (tVar 0) (tC (.int 1))) (tCons (tOp (rIxL K) (tVar 0) (tC (.int 3))) tNil)))) tNil)))))
def t_cross_fraction (K : PySem.W.Frag) (A : Ad) : TS :=
  (tSeq (tAsg (tIf (tTest (tOp rEq (tOp (rIxT K) (tOp (rIxL K) (tVar 0) (tC (.int 0))) (tC (.int 0))) (tOp (rIxT K) (tOp (rIxL K) (tVar 0) (tC (.int 1))) (tC (.int 0))))) (tC (.int 1)) (tC (.int 0))) (gName 1))
    (tSeq (tAsg (tOp (rIxT K) (tOp (rIxL K) (tVar 0) (tC (.int 0))) (tVar 1)) (gName 2))
    (tSeq (tAsg (tOp (rIxT K) (tOp (rIxL K) (tVar 0) (tC (.int 1))) (tVar 1)) (gName 3))
    (tSeq (tAsg (tOp (rIxT K) (tOp (rIxL K) (tVar 0) (tC (.int 2))) (tVar 1)) (gName 4))
    (tSeq (tAsg (tOp (rIxT K) (tOp (rIxL K) (tVar 0) (tC (.int 3))) (tVar 1)) (gName 5))
    (tRet (tCall (sp_fraction K A) [] E0 (tCons (tOp oMul (tOp oSub (tVar 4) (tVar 2)) (tOp oSub (tVar 5) (tVar 3))) (tCons (tOp oMul (tOp oSub (tVar 4) (tVar 3)) (tOp oSub (tVar 5) (tVar 2))) tNil)))))))))
def t_centre_fractions (K : PySem.W.Frag) (A : Ad) : TS :=
  (tSeq (tAsg (tCall (sp_way K A) [] E0 (tCons (tOp (rIxL K) (tVar 0) (tC (.int 0))) (tCons (tOp (rIxL K) (tVar 0) (tC (.int 1))) tNil))) (gName 2))
    (tSeq (tAsg (tCall (sp_way K A) [] E0 (tCons (tOp (rIxL K) (tVar 0) (tC (.int 0))) (tCons (tOp (rIxL K) (tVar 0) (tC (.int 2))) tNil))) (gName 3))
    (tSeq (tAsg (tOp oMul (tC (.int 2)) (tCall (sp_turn K A) [] E0 (tCons (tVar 2) (tCons (tVar 3) tNil)))) (gName 4))
    (tSeq (tAsg (tOp oSub (tOp oMul (tOp (rIxT K) (tVar 3) (tC (.int 1))) (tCall (sp_square K A) [] E0 (tCons (tVar 2) tNil))) (tOp oMul (tOp (rIxT K) (tVar 2) (tC (.int 1))) (tCall (sp_square K A) [] E0 (tCons (tVar 3) tNil)))) (gName 5))
    (tSeq (tAsg (tOp oSub (tOp oMul (tOp (rIxT K) (tVar 2) (tC (.int 0))) (tCall (sp_square K A) [] E0 (tCons (tVar 3) tNil))) (tOp oMul (tOp (rIxT K) (tVar 3) (tC (.int 0))) (tCall (sp_square K A) [] E0 (tCons (tVar 2) tNil)))) (gName 6))
    (tSeq (tAsg (tCall (sp_fraction K A) [] E0 (tCons (tOp oAdd (tOp oMul (tOp (rIxT K) (tOp (rIxL K) (tVar 0) (tC (.int 0))) (tC (.int 0))) (tVar 4)) (tVar 5)) (tCons (tOp oMul (tVar 4) (tVar 1)) tNil))) (gName 7))
    (tSeq (tDrop (tBM K "list" rExtend (tVar 7) (tCons (tCall (sp_fraction K A) [] E0 (tCons (tOp oAdd (tOp oMul (tOp (rIxT K) (tOp (rIxL K) (tVar 0) (tC (.int 0))) (tC (.int 1))) (tVar 4)) (tVar 6)) (tCons (tOp oMul (tVar 4) (tVar 1)) tNil))) tNil)))
    (tSeq (tDrop (tBM K "list" rExtend (tVar 7) (tCons (tCall (sp_fraction K A) [] E0 (tCons (tOp oAdd (tOp oMul (tVar 5) (tVar 5)) (tOp oMul (tVar 6) (tVar 6))) (tCons (tOp oMul (tOp oMul (tOp oMul (tVar 4) (tVar 1)) (tVar 4)) (tVar 1)) tNil))) tNil)))
    (tRet (tVar 7))))))))))
def t_split_calls (K : PySem.W.Frag) (A : Ad) : TS :=
  (tSeq (tAsg (tLst tNil) (gName 1))
    (tSeq (tAsg (tC (.int 0)) (gName 2))
    (tSeq (tWhile (tTest (tOp oLt (tVar 2) (tCB (Evl.rLenS K) (tCons (tVar 0) tNil))))
    (tSeq (tAsg (tOp (rIxL K) (tVar 0) (tVar 2)) (gName 3))
    (tSeq (tAsg (tOp oAdd (tOp oAdd (tVar 2) (tC (.int 1))) (tOp (rIxT K) (tC (.ref A.a_PLAIN_NUMBERS)) (tVar 3))) (gName 4))
    (tSeq (tAsg (tSl (rSlL K) (tVar 0) (tPart (tOp oAdd (tVar 2) (tC (.int 1)))) (tPart (tVar 4))) (gName 5))
    (tSeq (tAsg (tLst tNil) (gName 6))
    (tSeq (tIfS (tTest (tOp (rIn K false) (tVar 3) (tC (.ref A.a_CALLS_WITH_ROW))))
    (tSeq (tAsg (tOp oAdd (tVar 4) (tC (.int 1))) (gName 7))
    (tSeq (tAsg (tOp oAdd (tVar 7) (tOp (rIxL K) (tVar 0) (tVar 4))) (gName 4))
    (tAsg (tSl (rSlL K) (tVar 0) (tPart (tVar 7)) (tPart (tVar 4))) (gName 6))))
    tNext)
    (tSeq (tDrop (tBM K "list" rAppend (tVar 1) (tCons (tTup (tCons (tVar 3) (tCons (tVar 5) (tCons (tVar 6) tNil)))) tNil)))
    (tAsg (tVar 4) (gName 2)))))))))
    (tRet (tVar 1)))))
def t_answer_with (K : PySem.W.Frag) (A : Ad) : TS :=
  (tSeq (tIfS (tB (tCall (sp_is_too_large_to_tell K A) [] E0 (tCons (tVar 0) tNil)))
    (tRet (tLst (tCons (tC (.int (-75))) tNil)))
    tNext)
    (tRet (tOp rCat (tLst (tCons (tC (.int 0)) tNil)) (tVar 0))))
def t_Plane___init__ (K : PySem.W.Frag) (A : Ad) : TS :=
  (tSeq (sFld K (tVar 0) (tC (.bl false)) "begun")
    (sFld K (tVar 0) (tLst tNil) "places"))
def t_Plane_begin (K : PySem.W.Frag) (A : Ad) : TS :=
  (tSeq (sFld K (tVar 0) (tC (.bl true)) "begun")
    (tSeq (sFld K (tVar 0) (tLst tNil) "places")
    (tRet (tC (.int 0)))))
def t_Plane_point (K : PySem.W.Frag) (A : Ad) : TS :=
  (tSeq (tIfS (tNot (tB (tCall (sp_may_be_told K A) [] E0 (tCons (tVar 1) (tCons (tVar 2) (tCons (tVar 3) tNil))))))
    (tRet (tC (.int (-22))))
    tNext)
    (tSeq (tIfS (tTest (tOp oGe (tCB (Evl.rLenS K) (tCons (tFld K (tVar 0) "places") tNil)) (tC (.int 10))))
    (tRet (tC (.int (-28))))
    tNext)
    (tSeq (tDrop (tBM K "list" rAppend (tFld K (tVar 0) "places") (tCons (tCall (sp_three_numbers K A) [] E0 (tCons (tVar 1) (tCons (tVar 2) (tCons (tVar 3) tNil)))) tNil)))
    (tRet (tOp oSub (tCB (Evl.rLenS K) (tCons (tFld K (tVar 0) "places") tNil)) (tC (.int 1)))))))
def t_Plane_put (K : PySem.W.Frag) (A : Ad) : TS :=
  (tSeq (tIfS (tTest (tOp oGe (tVar 1) (tCB (Evl.rLenS K) (tCons (tFld K (tVar 0) "places") tNil))))
    (tRet (tC (.int (-2))))
    tNext)
    (tSeq (tIfS (tNot (tB (tCall (sp_may_be_told K A) [] E0 (tCons (tVar 2) (tCons (tVar 3) (tCons (tVar 4) tNil))))))
    (tRet (tC (.int (-22))))
    tNext)
    (tSeq (tAsg (tCall (sp_three_numbers K A) [] E0 (tCons (tVar 2) (tCons (tVar 3) (tCons (tVar 4) tNil)))) (gSub (tFld K (tVar 0) "places") (tVar 1) rSetL))
    (tRet (tC (.int 0))))))
def t_Plane_out (K : PySem.W.Frag) (A : Ad) : TS :=
  (tSeq (tIfS (tTest (tOp rEq (tCB (Evl.rLenS K) (tCons (tFld K (tVar 0) "places") tNil)) (tC (.int 0))))
    (tRet (tC (.int (-2))))
    tNext)
    (tSeq (tDrop (tBM0 K "list" rPop (tFld K (tVar 0) "places")))
    (tRet (tCB (Evl.rLenS K) (tCons (tFld K (tVar 0) "places") tNil)))))
def t_Plane_bend (K : PySem.W.Frag) (A : Ad) : TS :=
  (tSeq (tIfS (tNot (tB (tCall (sp_may_bend K A) [] E0 (tCons (tVar 1) tNil))))
    (tRet (tC (.int (-22))))
    tNext)
    (tSeq (tAsg (tLc (iList K (tFld K (tVar 0) "places")) (gName 4) tYes (tCall (sp_bent K A) [] E0 (tCons (tVar 4) (tCons (tVar 1) tNil))) [4]) (gName 2))
    (tSeq (tIfS (tB (tCB (rAny K) (tCons (tLc (iList K (tVar 2)) (gName 5) tYes (tOp rEq (tOp (rIxT K) (tVar 5) (tC (.int 2))) (tC (.int 0))) [5]) tNil)))
    (tRet (tC (.int (-33))))
    tNext)
    (tSeq (tAsg (tLc (iList K (tVar 2)) (gName 5) tYes (tCall (sp_three_numbers K A) [] E0 (tCons (tOp (rIxT K) (tVar 5) (tC (.int 0))) (tCons (tOp (rIxT K) (tVar 5) (tC (.int 1))) (tCons (tOp (rIxT K) (tVar 5) (tC (.int 2))) tNil)))) [5]) (gName 3))
    (tSeq (tIfS (tB (tCB (rAny K) (tCons (tLc (iList K (tVar 3)) (gName 4) tYes (tCall (sp_is_too_large K A) [] E0 (tCons (tVar 4) tNil)) [4]) tNil)))
    (tRet (tC (.int (-75))))
    tNext)
    (tSeq (sFld K (tVar 0) (tVar 3) "places")
    (tRet (tC (.int 0)))))))))
def t_Plane_slant (K : PySem.W.Frag) (A : Ad) : TS :=
  (tRet (tMeth A.c_Plane "bend" (sp_Plane_bend K A) [] E0 (tVar 0) (tCons (tCall (sp_nine_of_slant K A) [] E0 (tCons (tVar 1) (tCons (tVar 2) (tCons (tVar 3) (tCons (tVar 4) (tCons (tVar 5) (tCons (tVar 6) tNil))))))) tNil)))
def t_Plane_points (K : PySem.W.Frag) (A : Ad) : TS :=
  (tRet (tCB (Evl.rLenS K) (tCons (tFld K (tVar 0) "places") tNil)))
def t_Plane_has_each (K : PySem.W.Frag) (A : Ad) : TS :=
  (tRet (tCB (rAll K) (tCons (tLc (iList K (tVar 1)) (gName 2) tYes (tOp oLt (tVar 2) (tCB (Evl.rLenS K) (tCons (tFld K (tVar 0) "places") tNil))) [2]) tNil)))
def t_Plane_places_of (K : PySem.W.Frag) (A : Ad) : TS :=
  (tRet (tLc (iList K (tVar 1)) (gName 2) tYes (tOp (rIxL K) (tFld K (tVar 0) "places") (tVar 2)) [2]))
def t_Plane_where (K : PySem.W.Frag) (A : Ad) : TS :=
  (tSeq (tIfS (tNot (tB (tMeth A.c_Plane "has_each" (sp_Plane_has_each K A) [] E0 (tVar 0) (tCons (tLst (tCons (tVar 1) tNil)) tNil))))
    (tRet (tLst (tCons (tC (.int (-2))) tNil)))
    tNext)
    (tSeq (tAsg (tOp (rIxL K) (tFld K (tVar 0) "places") (tVar 1)) (gName 2))
    (tRet (tOp rCat (tOp rCat (tLst (tCons (tC (.int 0)) tNil)) (tCall (sp_fraction K A) [] E0 (tCons (tOp (rIxT K) (tVar 2) (tC (.int 0))) (tCons (tOp (rIxT K) (tVar 2) (tC (.int 2))) tNil)))) (tCall (sp_fraction K A) [] E0 (tCons (tOp (rIxT K) (tVar 2) (tC (.int 1))) (tCons (tOp (rIxT K) (tVar 2) (tC (.int 2))) tNil)))))))
def t_Plane_says (K : PySem.W.Frag) (A : Ad) : TS :=
  (tSeq (tIfS (tNot (tB (tCall (sp_may_be_said K A) [] E0 (tCons (tVar 1) (tCons (tVar 2) tNil)))))
    (tRet (tC (.int (-22))))
    tNext)
    (tSeq (tAsg (tSl (rSlL K) (tVar 2) tNoPart (tPart (tOp (rIxT K) (tC (.ref A.a_POINTS_OF_KIND)) (tVar 1)))) (gName 3))
    (tSeq (tIfS (tNot (tB (tMeth A.c_Plane "has_each" (sp_Plane_has_each K A) [] E0 (tVar 0) (tCons (tVar 3) tNil))))
    (tRet (tC (.int (-2))))
    tNext)
    (tSeq (tAsg (tSl (rSlL K) (tVar 2) (tPart (tOp (rIxT K) (tC (.ref A.a_POINTS_OF_KIND)) (tVar 1))) tNoPart) (gName 4))
    (tRet (tIf (tB (tCall (sp_is_so K A) [] E0 (tCons (tVar 1) (tCons (tCall (sp_whole_places K A) [] E0 (tCons (tMeth A.c_Plane "places_of" (sp_Plane_places_of K A) [] E0 (tVar 0) (tCons (tVar 3) tNil)) tNil)) (tCons (tVar 4) tNil))))) (tC (.int 1)) (tC (.int 0))))))))
def t_Plane_every (K : PySem.W.Frag) (A : Ad) : TS :=
  (tSeq (tIfS (tTest (tOp (rIn K true) (tVar 1) (tC (.ref A.a_KINDS_OF_ALL))))
    (tRet (tLst (tCons (tC (.int (-22))) tNil)))
    tNext)
    (tSeq (tAsg (tCall (sp_rows_so K A) [] E0 (tCons (tVar 1) (tCons (tCall (sp_whole_places K A) [] E0 (tCons (tFld K (tVar 0) "places") tNil)) tNil))) (gName 2))
    (tSeq (tAsg (tLst (tCons (tCB (Evl.rLenS K) (tCons (tVar 2) tNil)) tNil)) (gName 3))
    (tSeq (tFor (iList K (tVar 2)) (gName 4)
    (tDrop (tBM K "list" rExtend (tVar 3) (tCons (tVar 4) tNil))))
    (tRet (tVar 3))))))
def t_Plane_most (K : PySem.W.Frag) (A : Ad) : TS :=
  (tSeq (tIfS (tTest (tOp (rIn K true) (tVar 1) (tC (.ref A.a_KINDS_OF_MOST))))
    (tRet (tLst (tCons (tC (.int (-22))) tNil)))
    tNext)
    (tSeq (tAsg (tCall (sp_largest_set K A) [] E0 (tCons (tVar 1) (tCons (tCall (sp_whole_places K A) [] E0 (tCons (tFld K (tVar 0) "places") tNil)) tNil))) (gName 2))
    (tRet (tOp rCat (tLst (tCons (tCB (Evl.rLenS K) (tCons (tVar 2) tNil)) tNil)) (tVar 2)))))
def t_Plane_keeps (K : PySem.W.Frag) (A : Ad) : TS :=
  (tSeq (tIfS (tNot (tB (tCall (sp_may_be_asked K A) [] E0 (tCons (tVar 1) (tCons (tVar 2) (tCons (tVar 3) (tCons (tVar 4) (tCons (tVar 5) tNil))))))))
    (tRet (tC (.int (-22))))
    tNext)
    (tRet (tIf (tB (tCall (sp_is_kept K A) [] E0 (tCons (tVar 1) (tCons (tVar 2) (tCons (tVar 3) (tCons (tVar 4) (tCons (tVar 5) tNil))))))) (tC (.int 1)) (tC (.int 0)))))
def t_Plane_cross (K : PySem.W.Frag) (A : Ad) : TS :=
  (tSeq (tIfS (tNot (tB (tMeth A.c_Plane "has_each" (sp_Plane_has_each K A) [] E0 (tVar 0) (tCons (tVar 1) tNil))))
    (tRet (tLst (tCons (tC (.int (-2))) tNil)))
    tNext)
    (tSeq (tAsg (tCall (sp_whole_places K A) [] E0 (tCons (tMeth A.c_Plane "places_of" (sp_Plane_places_of K A) [] E0 (tVar 0) (tCons (tVar 1) tNil)) tNil)) (gName 2))
    (tSeq (tIfS (tNot (tB (tCall (sp_may_be_crossed K A) [] E0 (tCons (tVar 2) tNil))))
    (tRet (tLst (tCons (tC (.int (-33))) tNil)))
    tNext)
    (tRet (tCall (sp_answer_with K A) [] E0 (tCons (tCall (sp_cross_fraction K A) [] E0 (tCons (tVar 2) tNil)) tNil))))))
def t_Plane_centre (K : PySem.W.Frag) (A : Ad) : TS :=
  (tSeq (tIfS (tNot (tB (tMeth A.c_Plane "has_each" (sp_Plane_has_each K A) [] E0 (tVar 0) (tCons (tVar 1) tNil))))
    (tRet (tLst (tCons (tC (.int (-2))) tNil)))
    tNext)
    (tSeq (tAsg (tMeth A.c_Plane "places_of" (sp_Plane_places_of K A) [] E0 (tVar 0) (tCons (tVar 1) tNil)) (gName 2))
    (tSeq (tAsg (tCall (sp_whole_places K A) [] E0 (tCons (tVar 2) tNil)) (gName 3))
    (tSeq (tIfS (tB (tCall (sp_is_line K A) [] E0 (tCons (tVar 3) tNil)))
    (tRet (tLst (tCons (tC (.int (-33))) tNil)))
    tNext)
    (tRet (tCall (sp_answer_with K A) [] E0 (tCons (tCall (sp_centre_fractions K A) [] E0 (tCons (tVar 3) (tCons (tCall (sp_common_below K A) [] E0 (tCons (tVar 2) tNil)) tNil))) tNil)))))))
def t_answer_of (K : PySem.W.Frag) (A : Ad) : TS :=
  (tSeq (tIfS (tTest (tOp rEq (tVar 1) (tC (.int 0))))
    (tRet (tLst (tCons (tMeth A.c_Plane "begin" (sp_Plane_begin K A) [] E0 (tVar 0) tNil) tNil)))
    tNext)
    (tSeq (tIfS (tNot (tB (tFld K (tVar 0) "begun")))
    (tRet (tLst (tCons (tC (.int (-61))) tNil)))
    tNext)
    (tSeq (tIfS (tTest (tOp rEq (tVar 1) (tC (.int 1))))
    (tRet (tLst (tCons (tMeth A.c_Plane "point" (sp_Plane_point K A) [] E0 (tVar 0) (tCons (tOp (rIxL K) (tVar 2) (tC (.int 0))) (tCons (tOp (rIxL K) (tVar 2) (tC (.int 1))) (tCons (tOp (rIxL K) (tVar 2) (tC (.int 2))) tNil)))) tNil)))
    tNext)
    (tSeq (tIfS (tTest (tOp rEq (tVar 1) (tC (.int 2))))
    (tRet (tLst (tCons (tMeth A.c_Plane "put" (sp_Plane_put K A) [] E0 (tVar 0) (tCons (tOp (rIxL K) (tVar 2) (tC (.int 0))) (tCons (tOp (rIxL K) (tVar 2) (tC (.int 1))) (tCons (tOp (rIxL K) (tVar 2) (tC (.int 2))) (tCons (tOp (rIxL K) (tVar 2) (tC (.int 3))) tNil))))) tNil)))
    tNext)
    (tSeq (tIfS (tTest (tOp rEq (tVar 1) (tC (.int 3))))
    (tRet (tLst (tCons (tMeth A.c_Plane "out" (sp_Plane_out K A) [] E0 (tVar 0) tNil) tNil)))
    tNext)
    (tSeq (tIfS (tTest (tOp rEq (tVar 1) (tC (.int 4))))
    (tRet (tLst (tCons (tMeth A.c_Plane "slant" (sp_Plane_slant K A) [] E0 (tVar 0) (tCons (tOp (rIxL K) (tVar 2) (tC (.int 0))) (tCons (tOp (rIxL K) (tVar 2) (tC (.int 1))) (tCons (tOp (rIxL K) (tVar 2) (tC (.int 2))) (tCons (tOp (rIxL K) (tVar 2) (tC (.int 3))) (tCons (tOp (rIxL K) (tVar 2) (tC (.int 4))) (tCons (tOp (rIxL K) (tVar 2) (tC (.int 5))) tNil))))))) tNil)))
    tNext)
    (tSeq (tIfS (tTest (tOp rEq (tVar 1) (tC (.int 5))))
    (tRet (tLst (tCons (tMeth A.c_Plane "bend" (sp_Plane_bend K A) [] E0 (tVar 0) (tCons (tVar 3) tNil)) tNil)))
    tNext)
    (tSeq (tIfS (tTest (tOp rEq (tVar 1) (tC (.int 6))))
    (tRet (tLst (tCons (tMeth A.c_Plane "points" (sp_Plane_points K A) [] E0 (tVar 0) tNil) tNil)))
    tNext)
    (tSeq (tIfS (tTest (tOp rEq (tVar 1) (tC (.int 7))))
    (tRet (tMeth A.c_Plane "where" (sp_Plane_where K A) [] E0 (tVar 0) (tCons (tOp (rIxL K) (tVar 2) (tC (.int 0))) tNil)))
    tNext)
    (tSeq (tIfS (tTest (tOp rEq (tVar 1) (tC (.int 8))))
    (tRet (tLst (tCons (tMeth A.c_Plane "says" (sp_Plane_says K A) [] E0 (tVar 0) (tCons (tOp (rIxL K) (tVar 2) (tC (.int 0))) (tCons (tVar 3) tNil))) tNil)))
    tNext)
    (tSeq (tIfS (tTest (tOp rEq (tVar 1) (tC (.int 9))))
    (tRet (tMeth A.c_Plane "every" (sp_Plane_every K A) [] E0 (tVar 0) (tCons (tOp (rIxL K) (tVar 2) (tC (.int 0))) tNil)))
    tNext)
    (tSeq (tIfS (tTest (tOp rEq (tVar 1) (tC (.int 10))))
    (tRet (tMeth A.c_Plane "most" (sp_Plane_most K A) [] E0 (tVar 0) (tCons (tOp (rIxL K) (tVar 2) (tC (.int 0))) tNil)))
    tNext)
    (tSeq (tIfS (tTest (tOp rEq (tVar 1) (tC (.int 11))))
    (tRet (tLst (tCons (tMeth A.c_Plane "keeps" (sp_Plane_keeps K A) [] E0 (tVar 0) (tCons (tOp (rIxL K) (tVar 2) (tC (.int 0))) (tCons (tOp (rIxL K) (tVar 2) (tC (.int 1))) (tCons (tOp (rIxL K) (tVar 2) (tC (.int 2))) (tCons (tOp (rIxL K) (tVar 2) (tC (.int 3))) (tCons (tOp (rIxL K) (tVar 2) (tC (.int 4))) tNil)))))) tNil)))
    tNext)
    (tSeq (tIfS (tTest (tOp rEq (tVar 1) (tC (.int 12))))
    (tRet (tMeth A.c_Plane "cross" (sp_Plane_cross K A) [] E0 (tVar 0) (tCons (tVar 2) tNil)))
    tNext)
    (tRet (tMeth A.c_Plane "centre" (sp_Plane_centre K A) [] E0 (tVar 0) (tCons (tVar 2) tNil)))))))))))))))))
def t_answers (K : PySem.W.Frag) (A : Ad) : TS :=
  (tSeq (tAsg (tMake A.c_Plane (sp_Plane___init__ K A) [] E0 tNil) (gName 1))
    (tSeq (tAsg (tLst tNil) (gName 2))
    (tSeq (tFor (iList K (tCall (sp_split_calls K A) [] E0 (tCons (tVar 0) tNil))) (gName 3)
    (tSeq (tAsg (tCall (sp_answer_of K A) [] E0 (tCons (tVar 1) (tCons (tOp (rIxT K) (tVar 3) (tC (.int 0))) (tCons (tOp (rIxT K) (tVar 3) (tC (.int 1))) (tCons (tOp (rIxT K) (tVar 3) (tC (.int 2))) tNil))))) (gName 4))
    (tSeq (tDrop (tBM K "list" rAppend (tVar 2) (tCons (tCB (Evl.rLenS K) (tCons (tVar 4) tNil)) tNil)))
    (tDrop (tBM K "list" rExtend (tVar 2) (tCons (tVar 4) tNil))))))
    (tRet (tVar 2)))))
end My

set_option Elab.async false
set_option linter.all false
set_option maxRecDepth 100000
set_option maxHeartbeats 4000000
namespace My
open PySem PySem.Spec PyProof.Rows L2
open Evl (Ev EvL EvU EvT EvA EvO Ex RV RU RC RCL SpV SpL)
section
variable {P : Program} {w : World} {K : PySem.W.Frag} {mg : Str → Option Value} {base : Heap} {A : Ad}
theorem der_nine_of_slant (T : Txt K mg A) {cdv : Value} {Ar : Around} {outer : List Env} {s : Shared} {H : Hp} {E : XK}
    (hr : Room 0 (Ar.deeper (envOfC "nine_of_slant" (defScope s_nine_of_slant) s.heap.objs.size A.f_nine_of_slant cdv))) :
    PSs (cxOf CX0 P w K mg base ["a", "b", "c", "d", "e", "f"] "nine_of_slant" (defScope s_nine_of_slant) A.f_nine_of_slant cdv Ar outer s H E).nox (defBody s_nine_of_slant) (t_nine_of_slant K A) :=
  (pss_one (ps_ret (pe_lst (pa_cons (pv 0) (pa_cons (pv 1) (pa_cons (pv 4) (pa_cons (pv 2) (pa_cons (pv 3) (pa_cons (pv 5) (pa_cons pe_int (pa_cons pe_int (pa_cons pe_int pa_nil))))))))))))
theorem der_measure (T : Txt K mg A) {cdv : Value} {Ar : Around} {outer : List Env} {s : Shared} {H : Hp} {E : XK}
    (hr : Room 0 (Ar.deeper (envOfC "measure" (defScope s_measure) s.heap.objs.size A.f_measure cdv))) :
    PSs (cxOf CX0 P w K mg base ["m", "first", "second", "third"] "measure" (defScope s_measure) A.f_measure cdv Ar outer s H E).nox (defBody s_measure) (t_measure K A) :=
  (pss_cons (ps_set (i := 1) sc_measure.nd rfl (Or.inl rfl) (pe_op op_mulW (pe_ix ix_list (pv 0) pe_int (fun _ _ => rfl)) (pe_op op_sub (pe_op op_mulW (pe_ix ix_list (pv 0) pe_int (fun _ _ => rfl)) (pe_ix ix_list (pv 0) pe_int (fun _ _ => rfl))) (pe_op op_mulW (pe_ix ix_list (pv 0) pe_int (fun _ _ => rfl)) (pe_ix ix_list (pv 0) pe_int (fun _ _ => rfl))))))
    (pss_cons (ps_set (i := 2) sc_measure.nd rfl (Or.inl rfl) (pe_op op_mulW (pe_ix ix_list (pv 0) pe_int (fun _ _ => rfl)) (pe_op op_sub (pe_op op_mulW (pe_ix ix_list (pv 0) pe_int (fun _ _ => rfl)) (pe_ix ix_list (pv 0) pe_int (fun _ _ => rfl))) (pe_op op_mulW (pe_ix ix_list (pv 0) pe_int (fun _ _ => rfl)) (pe_ix ix_list (pv 0) pe_int (fun _ _ => rfl))))))
    (pss_cons (ps_set (i := 3) sc_measure.nd rfl (Or.inl rfl) (pe_op op_mulW (pe_ix ix_list (pv 0) pe_int (fun _ _ => rfl)) (pe_op op_sub (pe_op op_mulW (pe_ix ix_list (pv 0) pe_int (fun _ _ => rfl)) (pe_ix ix_list (pv 0) pe_int (fun _ _ => rfl))) (pe_op op_mulW (pe_ix ix_list (pv 0) pe_int (fun _ _ => rfl)) (pe_ix ix_list (pv 0) pe_int (fun _ _ => rfl))))))
    (pss_one (ps_ret (pe_op op_add (pe_op op_sub (pv 1) (pv 2)) (pv 3)))))))
theorem der_may_bend (T : Txt K mg A) (G_measure : FnOk P w K mg base CX0 1 A.f_measure A.d_measure ["m"] (sp_measure K A)) {cdv : Value} {Ar : Around} {outer : List Env} {s : Shared} {H : Hp} {E : XK}
    (hr : Room 1 (Ar.deeper (envOfC "may_bend" (defScope s_may_bend) s.heap.objs.size A.f_may_bend cdv))) :
    PSs (cxOf CX0 P w K mg base ["row", "number"] "may_bend" (defScope s_may_bend) A.f_may_bend cdv Ar outer s H E).nox (defBody s_may_bend) (t_may_bend K A) :=
  (pss_cons (ps_if (pt_cmpR op_ne (pe_callB call_len_seq (by rfl) T.n_len PySem.boot_len (pa_cons (pv 0) pa_nil)) pe_int (nomark _))
    (pss_one (ps_ret pe_bl))
    pss_nil)
    (pss_cons (ps_if (pt_val (pe_callB (cr_any rfl) (by rfl) T.n_any (by decide +kernel) (pa_cons (pe_lc (own := [("number", 1)]) (g := (gName 1)) (tt := tYes) (te := (tOp oGt (tCB rAbs (tCons (tVar 1) tNil)) (tC (.int 10)))) (by rfl) sc_may_bend.nd (pi_list (pv 0)) (blkOk_by (own := [("number", 1)]) (N := ["row", "number"]) (sc := defScope s_may_bend) (by decide +kernel)) (fun _ _ _ _ _ => (pg_name (i := 1) sc_may_bend.nd rfl (Or.inl rfl))) (fun _ _ _ _ _ => pts_nil) (fun _ _ _ _ _ => (pe_cmpR op_gt (pe_callB call_abs (by rfl) T.n_abs PyProof.Rows.boot_abs (pa_cons (pv 1) pa_nil)) (pe_glob (by rfl) T.g_LARGEST_OF_NINE ⟨_, rfl⟩) (nomark _)))) pa_nil)))
    (pss_one (ps_ret pe_bl))
    pss_nil)
    (pss_one (ps_ret (pe_cmpR op_ne (pe_call G_measure (hr.mono (by decide)) (by rfl) T.m_measure T.F_measure.kp T.b_measure .nil pass0 (pa_cons (pv 0) pa_nil)) pe_int (nomark _))))))
theorem der_bent (T : Txt K mg A) {cdv : Value} {Ar : Around} {outer : List Env} {s : Shared} {H : Hp} {E : XK}
    (hr : Room 0 (Ar.deeper (envOfC "bent" (defScope s_bent) s.heap.objs.size A.f_bent cdv))) :
    PSs (cxOf CX0 P w K mg base ["place", "m", "x", "y", "w", "across", "up", "divisor"] "bent" (defScope s_bent) A.f_bent cdv Ar outer s H E).nox (defBody s_bent) (t_bent K A) :=
  (pss_cons (ps_set (i := 2) sc_bent.nd rfl (Or.inl rfl) (pe_ix ix_tup (pv 0) pe_int (fun _ _ => rfl)))
    (pss_cons (ps_set (i := 3) sc_bent.nd rfl (Or.inl rfl) (pe_ix ix_tup (pv 0) pe_int (fun _ _ => rfl)))
    (pss_cons (ps_set (i := 4) sc_bent.nd rfl (Or.inl rfl) (pe_ix ix_tup (pv 0) pe_int (fun _ _ => rfl)))
    (pss_cons (ps_set (i := 5) sc_bent.nd rfl (Or.inl rfl) (pe_op op_add (pe_op op_add (pe_op op_mulW (pe_ix ix_list (pv 1) pe_int (fun _ _ => rfl)) (pv 2)) (pe_op op_mulW (pe_ix ix_list (pv 1) pe_int (fun _ _ => rfl)) (pv 3))) (pe_op op_mulW (pe_ix ix_list (pv 1) pe_int (fun _ _ => rfl)) (pv 4))))
    (pss_cons (ps_set (i := 6) sc_bent.nd rfl (Or.inl rfl) (pe_op op_add (pe_op op_add (pe_op op_mulW (pe_ix ix_list (pv 1) pe_int (fun _ _ => rfl)) (pv 2)) (pe_op op_mulW (pe_ix ix_list (pv 1) pe_int (fun _ _ => rfl)) (pv 3))) (pe_op op_mulW (pe_ix ix_list (pv 1) pe_int (fun _ _ => rfl)) (pv 4))))
    (pss_cons (ps_set (i := 7) sc_bent.nd rfl (Or.inl rfl) (pe_op op_add (pe_op op_add (pe_op op_mulW (pe_ix ix_list (pv 1) pe_int (fun _ _ => rfl)) (pv 2)) (pe_op op_mulW (pe_ix ix_list (pv 1) pe_int (fun _ _ => rfl)) (pv 3))) (pe_op op_mulW (pe_ix ix_list (pv 1) pe_int (fun _ _ => rfl)) (pv 4))))
    (pss_one (ps_ret (pe_tup (pa_cons (pv 5) (pa_cons (pv 6) (pa_cons (pv 7) pa_nil))))))))))))
theorem der_is_kind (T : Txt K mg A) {cdv : Value} {Ar : Around} {outer : List Env} {s : Shared} {H : Hp} {E : XK}
    (hr : Room 0 (Ar.deeper (envOfC "is_kind" (defScope s_is_kind) s.heap.objs.size A.f_is_kind cdv))) :
    PSs (cxOf CX0 P w K mg base ["kind"] "is_kind" (defScope s_is_kind) A.f_is_kind cdv Ar outer s H E).nox (defBody s_is_kind) (t_is_kind K A) :=
  (pss_one (ps_ret (pe_cmpR op_lt (pv 0) (pe_callB call_len_seq (by rfl) T.n_len PySem.boot_len (pa_cons (pe_glob (by rfl) T.g_POINTS_OF_KIND rfl) pa_nil)) (nomark _))))
theorem der_may_be_said (T : Txt K mg A) (G_is_kind : FnOk P w K mg base CX0 1 A.f_is_kind A.d_is_kind ["kind"] (sp_is_kind K A)) {cdv : Value} {Ar : Around} {outer : List Env} {s : Shared} {H : Hp} {E : XK}
    (hr : Room 1 (Ar.deeper (envOfC "may_be_said" (defScope s_may_be_said) s.heap.objs.size A.f_may_be_said cdv))) :
    PSs (cxOf CX0 P w K mg base ["kind", "row"] "may_be_said" (defScope s_may_be_said) A.f_may_be_said cdv Ar outer s H E).nox (defBody s_may_be_said) (t_may_be_said K A) :=
  (pss_cons (ps_if (pt_not (pt_val (pe_call G_is_kind (hr.mono (by decide)) (by rfl) T.m_is_kind T.F_is_kind.kp T.b_is_kind .nil pass0 (pa_cons (pv 0) pa_nil))))
    (pss_one (ps_ret pe_bl))
    pss_nil)
    (pss_cons (ps_if (pt_cmpR op_ne (pv 0) (pe_glob (by rfl) T.g_TIMES ⟨_, rfl⟩) (nomark _))
    (pss_one (ps_ret (pe_cmpR op_eq (pe_callB call_len_seq (by rfl) T.n_len PySem.boot_len (pa_cons (pv 1) pa_nil)) (pe_ix ix_tup (pe_glob (by rfl) T.g_POINTS_OF_KIND rfl) (pv 0) (fun _ _ => rfl)) (nomark _))))
    pss_nil)
    (pss_cons (ps_if (pt_cmpR op_ne (pe_callB call_len_seq (by rfl) T.n_len PySem.boot_len (pa_cons (pv 1) pa_nil)) (pe_op op_add (pe_ix ix_tup (pe_glob (by rfl) T.g_POINTS_OF_KIND rfl) (pv 0) (fun _ _ => rfl)) pe_int) (nomark _))
    (pss_one (ps_ret pe_bl))
    pss_nil)
    (pss_one (ps_ret (pe_and (pe_chain op_le op_le pe_int (pe_ix ix_list (pv 1) pe_int (fun _ _ => rfl)) (pe_glob (by rfl) T.g_LARGEST_OF_TIMES ⟨_, rfl⟩)) (pe_one (pe_chain op_le op_le pe_int (pe_ix ix_list (pv 1) pe_int (fun _ _ => rfl)) (pe_glob (by rfl) T.g_LARGEST_OF_TIMES ⟨_, rfl⟩)))))))))
theorem der_way (T : Txt K mg A) {cdv : Value} {Ar : Around} {outer : List Env} {s : Shared} {H : Hp} {E : XK}
    (hr : Room 0 (Ar.deeper (envOfC "way" (defScope s_way) s.heap.objs.size A.f_way cdv))) :
    PSs (cxOf CX0 P w K mg base ["a", "b"] "way" (defScope s_way) A.f_way cdv Ar outer s H E).nox (defBody s_way) (t_way K A) :=
  (pss_one (ps_ret (pe_tup (pa_cons (pe_op op_sub (pe_ix ix_tup (pv 1) pe_int (fun _ _ => rfl)) (pe_ix ix_tup (pv 0) pe_int (fun _ _ => rfl))) (pa_cons (pe_op op_sub (pe_ix ix_tup (pv 1) pe_int (fun _ _ => rfl)) (pe_ix ix_tup (pv 0) pe_int (fun _ _ => rfl))) pa_nil)))))
theorem der_turn (T : Txt K mg A) {cdv : Value} {Ar : Around} {outer : List Env} {s : Shared} {H : Hp} {E : XK}
    (hr : Room 0 (Ar.deeper (envOfC "turn" (defScope s_turn) s.heap.objs.size A.f_turn cdv))) :
    PSs (cxOf CX0 P w K mg base ["first", "second"] "turn" (defScope s_turn) A.f_turn cdv Ar outer s H E).nox (defBody s_turn) (t_turn K A) :=
  (pss_one (ps_ret (pe_op op_sub (pe_op op_mulW (pe_ix ix_tup (pv 0) pe_int (fun _ _ => rfl)) (pe_ix ix_tup (pv 1) pe_int (fun _ _ => rfl))) (pe_op op_mulW (pe_ix ix_tup (pv 0) pe_int (fun _ _ => rfl)) (pe_ix ix_tup (pv 1) pe_int (fun _ _ => rfl))))))
theorem der_lean (T : Txt K mg A) {cdv : Value} {Ar : Around} {outer : List Env} {s : Shared} {H : Hp} {E : XK}
    (hr : Room 0 (Ar.deeper (envOfC "lean" (defScope s_lean) s.heap.objs.size A.f_lean cdv))) :
    PSs (cxOf CX0 P w K mg base ["first", "second"] "lean" (defScope s_lean) A.f_lean cdv Ar outer s H E).nox (defBody s_lean) (t_lean K A) :=
  (pss_one (ps_ret (pe_op op_add (pe_op op_mulW (pe_ix ix_tup (pv 0) pe_int (fun _ _ => rfl)) (pe_ix ix_tup (pv 1) pe_int (fun _ _ => rfl))) (pe_op op_mulW (pe_ix ix_tup (pv 0) pe_int (fun _ _ => rfl)) (pe_ix ix_tup (pv 1) pe_int (fun _ _ => rfl))))))
theorem der_multiplied (T : Txt K mg A) {cdv : Value} {Ar : Around} {outer : List Env} {s : Shared} {H : Hp} {E : XK}
    (hr : Room 0 (Ar.deeper (envOfC "multiplied" (defScope s_multiplied) s.heap.objs.size A.f_multiplied cdv))) :
    PSs (cxOf CX0 P w K mg base ["first", "second", "across", "up"] "multiplied" (defScope s_multiplied) A.f_multiplied cdv Ar outer s H E).nox (defBody s_multiplied) (t_multiplied K A) :=
  (pss_cons (ps_set (i := 2) sc_multiplied.nd rfl (Or.inl rfl) (pe_op op_sub (pe_op op_mulW (pe_ix ix_tup (pv 0) pe_int (fun _ _ => rfl)) (pe_ix ix_tup (pv 1) pe_int (fun _ _ => rfl))) (pe_op op_mulW (pe_ix ix_tup (pv 0) pe_int (fun _ _ => rfl)) (pe_ix ix_tup (pv 1) pe_int (fun _ _ => rfl)))))
    (pss_cons (ps_set (i := 3) sc_multiplied.nd rfl (Or.inl rfl) (pe_op op_add (pe_op op_mulW (pe_ix ix_tup (pv 0) pe_int (fun _ _ => rfl)) (pe_ix ix_tup (pv 1) pe_int (fun _ _ => rfl))) (pe_op op_mulW (pe_ix ix_tup (pv 0) pe_int (fun _ _ => rfl)) (pe_ix ix_tup (pv 1) pe_int (fun _ _ => rfl)))))
    (pss_one (ps_ret (pe_tup (pa_cons (pv 2) (pa_cons (pv 3) pa_nil)))))))
theorem der_square (T : Txt K mg A) (G_lean : FnOk P w K mg base CX0 1 A.f_lean A.d_lean ["first", "second"] (sp_lean K A)) {cdv : Value} {Ar : Around} {outer : List Env} {s : Shared} {H : Hp} {E : XK}
    (hr : Room 1 (Ar.deeper (envOfC "square" (defScope s_square) s.heap.objs.size A.f_square cdv))) :
    PSs (cxOf CX0 P w K mg base ["one"] "square" (defScope s_square) A.f_square cdv Ar outer s H E).nox (defBody s_square) (t_square K A) :=
  (pss_one (ps_ret (pe_call G_lean (hr.mono (by decide)) (by rfl) T.m_lean T.F_lean.kp T.b_lean .nil pass0 (pa_cons (pv 0) (pa_cons (pv 0) pa_nil)))))
theorem der_is_same (T : Txt K mg A) {cdv : Value} {Ar : Around} {outer : List Env} {s : Shared} {H : Hp} {E : XK}
    (hr : Room 0 (Ar.deeper (envOfC "is_same" (defScope s_is_same) s.heap.objs.size A.f_is_same cdv))) :
    PSs (cxOf CX0 P w K mg base ["p"] "is_same" (defScope s_is_same) A.f_is_same cdv Ar outer s H E).nox (defBody s_is_same) (t_is_same K A) :=
  (pss_one (ps_ret (pe_cmpR (op_eqD hr.units) (pe_ix ix_list (pv 0) pe_int (fun _ _ => rfl)) (pe_ix ix_list (pv 0) pe_int (fun _ _ => rfl)) (nomark _))))
theorem der_is_line (T : Txt K mg A) (G_turn : FnOk P w K mg base CX0 1 A.f_turn A.d_turn ["first", "second"] (sp_turn K A)) (G_way : FnOk P w K mg base CX0 1 A.f_way A.d_way ["a", "b"] (sp_way K A)) {cdv : Value} {Ar : Around} {outer : List Env} {s : Shared} {H : Hp} {E : XK}
    (hr : Room 1 (Ar.deeper (envOfC "is_line" (defScope s_is_line) s.heap.objs.size A.f_is_line cdv))) :
    PSs (cxOf CX0 P w K mg base ["p"] "is_line" (defScope s_is_line) A.f_is_line cdv Ar outer s H E).nox (defBody s_is_line) (t_is_line K A) :=
  (pss_one (ps_ret (pe_cmpR op_eq (pe_call G_turn (hr.mono (by decide)) (by rfl) T.m_turn T.F_turn.kp T.b_turn .nil pass0 (pa_cons (pe_call G_way (hr.mono (by decide)) (by rfl) T.m_way T.F_way.kp T.b_way .nil pass0 (pa_cons (pe_ix ix_list (pv 0) pe_int (fun _ _ => rfl)) (pa_cons (pe_ix ix_list (pv 0) pe_int (fun _ _ => rfl)) pa_nil))) (pa_cons (pe_call G_way (hr.mono (by decide)) (by rfl) T.m_way T.F_way.kp T.b_way .nil pass0 (pa_cons (pe_ix ix_list (pv 0) pe_int (fun _ _ => rfl)) (pa_cons (pe_ix ix_list (pv 0) pe_int (fun _ _ => rfl)) pa_nil))) pa_nil))) pe_int (nomark _))))
theorem der_is_parallel (T : Txt K mg A) (G_turn : FnOk P w K mg base CX0 1 A.f_turn A.d_turn ["first", "second"] (sp_turn K A)) (G_way : FnOk P w K mg base CX0 1 A.f_way A.d_way ["a", "b"] (sp_way K A)) {cdv : Value} {Ar : Around} {outer : List Env} {s : Shared} {H : Hp} {E : XK}
    (hr : Room 1 (Ar.deeper (envOfC "is_parallel" (defScope s_is_parallel) s.heap.objs.size A.f_is_parallel cdv))) :
    PSs (cxOf CX0 P w K mg base ["p"] "is_parallel" (defScope s_is_parallel) A.f_is_parallel cdv Ar outer s H E).nox (defBody s_is_parallel) (t_is_parallel K A) :=
  (pss_one (ps_ret (pe_cmpR op_eq (pe_call G_turn (hr.mono (by decide)) (by rfl) T.m_turn T.F_turn.kp T.b_turn .nil pass0 (pa_cons (pe_call G_way (hr.mono (by decide)) (by rfl) T.m_way T.F_way.kp T.b_way .nil pass0 (pa_cons (pe_ix ix_list (pv 0) pe_int (fun _ _ => rfl)) (pa_cons (pe_ix ix_list (pv 0) pe_int (fun _ _ => rfl)) pa_nil))) (pa_cons (pe_call G_way (hr.mono (by decide)) (by rfl) T.m_way T.F_way.kp T.b_way .nil pass0 (pa_cons (pe_ix ix_list (pv 0) pe_int (fun _ _ => rfl)) (pa_cons (pe_ix ix_list (pv 0) pe_int (fun _ _ => rfl)) pa_nil))) pa_nil))) pe_int (nomark _))))
theorem der_is_right (T : Txt K mg A) (G_lean : FnOk P w K mg base CX0 1 A.f_lean A.d_lean ["first", "second"] (sp_lean K A)) (G_way : FnOk P w K mg base CX0 1 A.f_way A.d_way ["a", "b"] (sp_way K A)) {cdv : Value} {Ar : Around} {outer : List Env} {s : Shared} {H : Hp} {E : XK}
    (hr : Room 1 (Ar.deeper (envOfC "is_right" (defScope s_is_right) s.heap.objs.size A.f_is_right cdv))) :
    PSs (cxOf CX0 P w K mg base ["p"] "is_right" (defScope s_is_right) A.f_is_right cdv Ar outer s H E).nox (defBody s_is_right) (t_is_right K A) :=
  (pss_one (ps_ret (pe_cmpR op_eq (pe_call G_lean (hr.mono (by decide)) (by rfl) T.m_lean T.F_lean.kp T.b_lean .nil pass0 (pa_cons (pe_call G_way (hr.mono (by decide)) (by rfl) T.m_way T.F_way.kp T.b_way .nil pass0 (pa_cons (pe_ix ix_list (pv 0) pe_int (fun _ _ => rfl)) (pa_cons (pe_ix ix_list (pv 0) pe_int (fun _ _ => rfl)) pa_nil))) (pa_cons (pe_call G_way (hr.mono (by decide)) (by rfl) T.m_way T.F_way.kp T.b_way .nil pass0 (pa_cons (pe_ix ix_list (pv 0) pe_int (fun _ _ => rfl)) (pa_cons (pe_ix ix_list (pv 0) pe_int (fun _ _ => rfl)) pa_nil))) pa_nil))) pe_int (nomark _))))
theorem der_is_times (T : Txt K mg A) (G_square : FnOk P w K mg base CX0 2 A.f_square A.d_square ["one"] (sp_square K A)) (G_way : FnOk P w K mg base CX0 1 A.f_way A.d_way ["a", "b"] (sp_way K A)) {cdv : Value} {Ar : Around} {outer : List Env} {s : Shared} {H : Hp} {E : XK}
    (hr : Room 2 (Ar.deeper (envOfC "is_times" (defScope s_is_times) s.heap.objs.size A.f_is_times cdv))) :
    PSs (cxOf CX0 P w K mg base ["p", "m", "n"] "is_times" (defScope s_is_times) A.f_is_times cdv Ar outer s H E).nox (defBody s_is_times) (t_is_times K A) :=
  (pss_one (ps_ret (pe_cmpR op_eq (pe_op op_mulW (pe_op op_mulW (pe_call G_square (hr.mono (by decide)) (by rfl) T.m_square T.F_square.kp T.b_square .nil pass0 (pa_cons (pe_call G_way (hr.mono (by decide)) (by rfl) T.m_way T.F_way.kp T.b_way .nil pass0 (pa_cons (pe_ix ix_list (pv 0) pe_int (fun _ _ => rfl)) (pa_cons (pe_ix ix_list (pv 0) pe_int (fun _ _ => rfl)) pa_nil))) pa_nil)) (pv 2)) (pv 2)) (pe_op op_mulW (pe_op op_mulW (pe_call G_square (hr.mono (by decide)) (by rfl) T.m_square T.F_square.kp T.b_square .nil pass0 (pa_cons (pe_call G_way (hr.mono (by decide)) (by rfl) T.m_way T.F_way.kp T.b_way .nil pass0 (pa_cons (pe_ix ix_list (pv 0) pe_int (fun _ _ => rfl)) (pa_cons (pe_ix ix_list (pv 0) pe_int (fun _ _ => rfl)) pa_nil))) pa_nil)) (pv 1)) (pv 1)) (nomark _))))
theorem der_is_equal (T : Txt K mg A) (G_is_times : FnOk P w K mg base CX0 3 A.f_is_times A.d_is_times ["p", "m", "n"] (sp_is_times K A)) {cdv : Value} {Ar : Around} {outer : List Env} {s : Shared} {H : Hp} {E : XK}
    (hr : Room 3 (Ar.deeper (envOfC "is_equal" (defScope s_is_equal) s.heap.objs.size A.f_is_equal cdv))) :
    PSs (cxOf CX0 P w K mg base ["p"] "is_equal" (defScope s_is_equal) A.f_is_equal cdv Ar outer s H E).nox (defBody s_is_equal) (t_is_equal K A) :=
  (pss_one (ps_ret (pe_call G_is_times (hr.mono (by decide)) (by rfl) T.m_is_times T.F_is_times.kp T.b_is_times .nil pass0 (pa_cons (pv 0) (pa_cons pe_int (pa_cons pe_int pa_nil))))))
theorem der_is_circle (T : Txt K mg A) (G_way : FnOk P w K mg base CX0 1 A.f_way A.d_way ["a", "b"] (sp_way K A)) (G_measure : FnOk P w K mg base CX0 1 A.f_measure A.d_measure ["m"] (sp_measure K A)) (G_square : FnOk P w K mg base CX0 2 A.f_square A.d_square ["one"] (sp_square K A)) {cdv : Value} {Ar : Around} {outer : List Env} {s : Shared} {H : Hp} {E : XK}
    (hr : Room 2 (Ar.deeper (envOfC "is_circle" (defScope s_is_circle) s.heap.objs.size A.f_is_circle cdv))) :
    PSs (cxOf CX0 P w K mg base ["p", "nine", "other", "seen"] "is_circle" (defScope s_is_circle) A.f_is_circle cdv Ar outer s H E).nox (defBody s_is_circle) (t_is_circle K A) :=
  (pss_cons (ps_set (i := 1) sc_is_circle.nd rfl (Or.inl rfl) (pe_lst pa_nil))
    (pss_cons (ps_for PassesOwn.never rfl (pi_list (pe_slice sl_list (pv 0) (po_some pe_int) po_none)) (pg_name (i := 2) sc_is_circle.nd rfl (Or.inl rfl))
    (pss_cons (ps_set (i := 3) sc_is_circle.nd rfl (Or.inl rfl) (pe_call G_way (hr.mono (by decide)) (by rfl) T.m_way T.F_way.kp T.b_way .nil pass0 (pa_cons (pe_ix ix_list (pv 0) pe_int (fun _ _ => rfl)) (pa_cons (pv 2) pa_nil))))
    (pss_one (ps_expr (pe_bm PySem.F.plainAttrs_list PySem.F.slot_list_extend PySem.F.type_list_extend mt_extend (pv 1) (pa_cons (pe_lst (pa_cons (pe_call G_square (hr.mono (by decide)) (by rfl) T.m_square T.F_square.kp T.b_square .nil pass0 (pa_cons (pv 3) pa_nil)) (pa_cons (pe_ix ix_tup (pv 3) pe_int (fun _ _ => rfl)) (pa_cons (pe_ix ix_tup (pv 3) pe_int (fun _ _ => rfl)) pa_nil)))) pa_nil))))))
    (pss_one (ps_ret (pe_cmpR op_eq (pe_call G_measure (hr.mono (by decide)) (by rfl) T.m_measure T.F_measure.kp T.b_measure .nil pass0 (pa_cons (pv 1) pa_nil)) pe_int (nomark _))))))
theorem der_is_angles (T : Txt K mg A) (G_way : FnOk P w K mg base CX0 1 A.f_way A.d_way ["a", "b"] (sp_way K A)) (G_turn : FnOk P w K mg base CX0 1 A.f_turn A.d_turn ["first", "second"] (sp_turn K A)) (G_lean : FnOk P w K mg base CX0 1 A.f_lean A.d_lean ["first", "second"] (sp_lean K A)) {cdv : Value} {Ar : Around} {outer : List Env} {s : Shared} {H : Hp} {E : XK}
    (hr : Room 1 (Ar.deeper (envOfC "is_angles" (defScope s_is_angles) s.heap.objs.size A.f_is_angles cdv))) :
    PSs (cxOf CX0 P w K mg base ["p", "to_a", "to_c", "to_d", "to_f"] "is_angles" (defScope s_is_angles) A.f_is_angles cdv Ar outer s H E).nox (defBody s_is_angles) (t_is_angles K A) :=
  (pss_cons (ps_set (i := 1) sc_is_angles.nd rfl (Or.inl rfl) (pe_call G_way (hr.mono (by decide)) (by rfl) T.m_way T.F_way.kp T.b_way .nil pass0 (pa_cons (pe_ix ix_list (pv 0) pe_int (fun _ _ => rfl)) (pa_cons (pe_ix ix_list (pv 0) pe_int (fun _ _ => rfl)) pa_nil))))
    (pss_cons (ps_set (i := 2) sc_is_angles.nd rfl (Or.inl rfl) (pe_call G_way (hr.mono (by decide)) (by rfl) T.m_way T.F_way.kp T.b_way .nil pass0 (pa_cons (pe_ix ix_list (pv 0) pe_int (fun _ _ => rfl)) (pa_cons (pe_ix ix_list (pv 0) pe_int (fun _ _ => rfl)) pa_nil))))
    (pss_cons (ps_set (i := 3) sc_is_angles.nd rfl (Or.inl rfl) (pe_call G_way (hr.mono (by decide)) (by rfl) T.m_way T.F_way.kp T.b_way .nil pass0 (pa_cons (pe_ix ix_list (pv 0) pe_int (fun _ _ => rfl)) (pa_cons (pe_ix ix_list (pv 0) pe_int (fun _ _ => rfl)) pa_nil))))
    (pss_cons (ps_set (i := 4) sc_is_angles.nd rfl (Or.inl rfl) (pe_call G_way (hr.mono (by decide)) (by rfl) T.m_way T.F_way.kp T.b_way .nil pass0 (pa_cons (pe_ix ix_list (pv 0) pe_int (fun _ _ => rfl)) (pa_cons (pe_ix ix_list (pv 0) pe_int (fun _ _ => rfl)) pa_nil))))
    (pss_one (ps_ret (pe_cmpR op_eq (pe_op op_mulW (pe_call G_turn (hr.mono (by decide)) (by rfl) T.m_turn T.F_turn.kp T.b_turn .nil pass0 (pa_cons (pv 1) (pa_cons (pv 2) pa_nil))) (pe_call G_lean (hr.mono (by decide)) (by rfl) T.m_lean T.F_lean.kp T.b_lean .nil pass0 (pa_cons (pv 3) (pa_cons (pv 4) pa_nil)))) (pe_op op_mulW (pe_call G_turn (hr.mono (by decide)) (by rfl) T.m_turn T.F_turn.kp T.b_turn .nil pass0 (pa_cons (pv 3) (pa_cons (pv 4) pa_nil))) (pe_call G_lean (hr.mono (by decide)) (by rfl) T.m_lean T.F_lean.kp T.b_lean .nil pass0 (pa_cons (pv 1) (pa_cons (pv 2) pa_nil)))) (nomark _))))))))
theorem der_is_areas (T : Txt K mg A) (G_turn : FnOk P w K mg base CX0 1 A.f_turn A.d_turn ["first", "second"] (sp_turn K A)) (G_way : FnOk P w K mg base CX0 1 A.f_way A.d_way ["a", "b"] (sp_way K A)) {cdv : Value} {Ar : Around} {outer : List Env} {s : Shared} {H : Hp} {E : XK}
    (hr : Room 1 (Ar.deeper (envOfC "is_areas" (defScope s_is_areas) s.heap.objs.size A.f_is_areas cdv))) :
    PSs (cxOf CX0 P w K mg base ["p"] "is_areas" (defScope s_is_areas) A.f_is_areas cdv Ar outer s H E).nox (defBody s_is_areas) (t_is_areas K A) :=
  (pss_one (ps_ret (pe_cmpR op_eq (pe_call G_turn (hr.mono (by decide)) (by rfl) T.m_turn T.F_turn.kp T.b_turn .nil pass0 (pa_cons (pe_call G_way (hr.mono (by decide)) (by rfl) T.m_way T.F_way.kp T.b_way .nil pass0 (pa_cons (pe_ix ix_list (pv 0) pe_int (fun _ _ => rfl)) (pa_cons (pe_ix ix_list (pv 0) pe_int (fun _ _ => rfl)) pa_nil))) (pa_cons (pe_call G_way (hr.mono (by decide)) (by rfl) T.m_way T.F_way.kp T.b_way .nil pass0 (pa_cons (pe_ix ix_list (pv 0) pe_int (fun _ _ => rfl)) (pa_cons (pe_ix ix_list (pv 0) pe_int (fun _ _ => rfl)) pa_nil))) pa_nil))) (pe_call G_turn (hr.mono (by decide)) (by rfl) T.m_turn T.F_turn.kp T.b_turn .nil pass0 (pa_cons (pe_call G_way (hr.mono (by decide)) (by rfl) T.m_way T.F_way.kp T.b_way .nil pass0 (pa_cons (pe_ix ix_list (pv 0) pe_int (fun _ _ => rfl)) (pa_cons (pe_ix ix_list (pv 0) pe_int (fun _ _ => rfl)) pa_nil))) (pa_cons (pe_call G_way (hr.mono (by decide)) (by rfl) T.m_way T.F_way.kp T.b_way .nil pass0 (pa_cons (pe_ix ix_list (pv 0) pe_int (fun _ _ => rfl)) (pa_cons (pe_ix ix_list (pv 0) pe_int (fun _ _ => rfl)) pa_nil))) pa_nil))) (nomark _))))
theorem der_line_numbers (T : Txt K mg A) (G_turn : FnOk P w K mg base CX0 1 A.f_turn A.d_turn ["first", "second"] (sp_turn K A)) {cdv : Value} {Ar : Around} {outer : List Env} {s : Shared} {H : Hp} {E : XK}
    (hr : Room 1 (Ar.deeper (envOfC "line_numbers" (defScope s_line_numbers) s.heap.objs.size A.f_line_numbers cdv))) :
    PSs (cxOf CX0 P w K mg base ["a", "b"] "line_numbers" (defScope s_line_numbers) A.f_line_numbers cdv Ar outer s H E).nox (defBody s_line_numbers) (t_line_numbers K A) :=
  (pss_one (ps_ret (pe_lst (pa_cons (pe_op op_sub (pe_ix ix_tup (pv 0) pe_int (fun _ _ => rfl)) (pe_ix ix_tup (pv 1) pe_int (fun _ _ => rfl))) (pa_cons (pe_op op_sub (pe_ix ix_tup (pv 1) pe_int (fun _ _ => rfl)) (pe_ix ix_tup (pv 0) pe_int (fun _ _ => rfl))) (pa_cons (pe_call G_turn (hr.mono (by decide)) (by rfl) T.m_turn T.F_turn.kp T.b_turn .nil pass0 (pa_cons (pv 0) (pa_cons (pv 1) pa_nil))) pa_nil))))))
theorem der_is_through (T : Txt K mg A) (G_measure : FnOk P w K mg base CX0 1 A.f_measure A.d_measure ["m"] (sp_measure K A)) (G_line_numbers : FnOk P w K mg base CX0 2 A.f_line_numbers A.d_line_numbers ["a", "b"] (sp_line_numbers K A)) {cdv : Value} {Ar : Around} {outer : List Env} {s : Shared} {H : Hp} {E : XK}
    (hr : Room 2 (Ar.deeper (envOfC "is_through" (defScope s_is_through) s.heap.objs.size A.f_is_through cdv))) :
    PSs (cxOf CX0 P w K mg base ["p"] "is_through" (defScope s_is_through) A.f_is_through cdv Ar outer s H E).nox (defBody s_is_through) (t_is_through K A) :=
  (pss_one (ps_ret (pe_cmpR op_eq (pe_call G_measure (hr.mono (by decide)) (by rfl) T.m_measure T.F_measure.kp T.b_measure .nil pass0 (pa_cons (pe_op op_cat (pe_op op_cat (pe_call G_line_numbers (hr.mono (by decide)) (by rfl) T.m_line_numbers T.F_line_numbers.kp T.b_line_numbers .nil pass0 (pa_cons (pe_ix ix_list (pv 0) pe_int (fun _ _ => rfl)) (pa_cons (pe_ix ix_list (pv 0) pe_int (fun _ _ => rfl)) pa_nil))) (pe_call G_line_numbers (hr.mono (by decide)) (by rfl) T.m_line_numbers T.F_line_numbers.kp T.b_line_numbers .nil pass0 (pa_cons (pe_ix ix_list (pv 0) pe_int (fun _ _ => rfl)) (pa_cons (pe_ix ix_list (pv 0) pe_int (fun _ _ => rfl)) pa_nil)))) (pe_call G_line_numbers (hr.mono (by decide)) (by rfl) T.m_line_numbers T.F_line_numbers.kp T.b_line_numbers .nil pass0 (pa_cons (pe_ix ix_list (pv 0) pe_int (fun _ _ => rfl)) (pa_cons (pe_ix ix_list (pv 0) pe_int (fun _ _ => rfl)) pa_nil)))) pa_nil)) pe_int (nomark _))))
theorem der_is_middle (T : Txt K mg A) (G_way : FnOk P w K mg base CX0 1 A.f_way A.d_way ["a", "b"] (sp_way K A)) {cdv : Value} {Ar : Around} {outer : List Env} {s : Shared} {H : Hp} {E : XK}
    (hr : Room 1 (Ar.deeper (envOfC "is_middle" (defScope s_is_middle) s.heap.objs.size A.f_is_middle cdv))) :
    PSs (cxOf CX0 P w K mg base ["p"] "is_middle" (defScope s_is_middle) A.f_is_middle cdv Ar outer s H E).nox (defBody s_is_middle) (t_is_middle K A) :=
  (pss_one (ps_ret (pe_cmpR (op_eqD hr.units) (pe_call G_way (hr.mono (by decide)) (by rfl) T.m_way T.F_way.kp T.b_way .nil pass0 (pa_cons (pe_ix ix_list (pv 0) pe_int (fun _ _ => rfl)) (pa_cons (pe_ix ix_list (pv 0) pe_int (fun _ _ => rfl)) pa_nil))) (pe_call G_way (hr.mono (by decide)) (by rfl) T.m_way T.F_way.kp T.b_way .nil pass0 (pa_cons (pe_ix ix_list (pv 0) pe_int (fun _ _ => rfl)) (pa_cons (pe_ix ix_list (pv 0) pe_int (fun _ _ => rfl)) pa_nil))) (nomark _))))
theorem der_is_touches (T : Txt K mg A) (G_way : FnOk P w K mg base CX0 1 A.f_way A.d_way ["a", "b"] (sp_way K A)) (G_turn : FnOk P w K mg base CX0 1 A.f_turn A.d_turn ["first", "second"] (sp_turn K A)) (G_square : FnOk P w K mg base CX0 2 A.f_square A.d_square ["one"] (sp_square K A)) {cdv : Value} {Ar : Around} {outer : List Env} {s : Shared} {H : Hp} {E : XK}
    (hr : Room 2 (Ar.deeper (envOfC "is_touches" (defScope s_is_touches) s.heap.objs.size A.f_is_touches cdv))) :
    PSs (cxOf CX0 P w K mg base ["p", "along", "turned"] "is_touches" (defScope s_is_touches) A.f_is_touches cdv Ar outer s H E).nox (defBody s_is_touches) (t_is_touches K A) :=
  (pss_cons (ps_set (i := 1) sc_is_touches.nd rfl (Or.inl rfl) (pe_call G_way (hr.mono (by decide)) (by rfl) T.m_way T.F_way.kp T.b_way .nil pass0 (pa_cons (pe_ix ix_list (pv 0) pe_int (fun _ _ => rfl)) (pa_cons (pe_ix ix_list (pv 0) pe_int (fun _ _ => rfl)) pa_nil))))
    (pss_cons (ps_set (i := 2) sc_is_touches.nd rfl (Or.inl rfl) (pe_call G_turn (hr.mono (by decide)) (by rfl) T.m_turn T.F_turn.kp T.b_turn .nil pass0 (pa_cons (pv 1) (pa_cons (pe_call G_way (hr.mono (by decide)) (by rfl) T.m_way T.F_way.kp T.b_way .nil pass0 (pa_cons (pe_ix ix_list (pv 0) pe_int (fun _ _ => rfl)) (pa_cons (pe_ix ix_list (pv 0) pe_int (fun _ _ => rfl)) pa_nil))) pa_nil))))
    (pss_one (ps_ret (pe_cmpR op_eq (pe_op op_mulW (pv 2) (pv 2)) (pe_op op_mulW (pe_call G_square (hr.mono (by decide)) (by rfl) T.m_square T.F_square.kp T.b_square .nil pass0 (pa_cons (pv 1) pa_nil)) (pe_call G_square (hr.mono (by decide)) (by rfl) T.m_square T.F_square.kp T.b_square .nil pass0 (pa_cons (pe_call G_way (hr.mono (by decide)) (by rfl) T.m_way T.F_way.kp T.b_way .nil pass0 (pa_cons (pe_ix ix_list (pv 0) pe_int (fun _ _ => rfl)) (pa_cons (pe_ix ix_list (pv 0) pe_int (fun _ _ => rfl)) pa_nil))) pa_nil))) (nomark _))))))
theorem der_is_alike (T : Txt K mg A) (G_multiplied : FnOk P w K mg base CX0 1 A.f_multiplied A.d_multiplied ["first", "second"] (sp_multiplied K A)) (G_way : FnOk P w K mg base CX0 1 A.f_way A.d_way ["a", "b"] (sp_way K A)) {cdv : Value} {Ar : Around} {outer : List Env} {s : Shared} {H : Hp} {E : XK}
    (hr : Room 1 (Ar.deeper (envOfC "is_alike" (defScope s_is_alike) s.heap.objs.size A.f_is_alike cdv))) :
    PSs (cxOf CX0 P w K mg base ["p", "first", "second"] "is_alike" (defScope s_is_alike) A.f_is_alike cdv Ar outer s H E).nox (defBody s_is_alike) (t_is_alike K A) :=
  (pss_cons (ps_set (i := 1) sc_is_alike.nd rfl (Or.inl rfl) (pe_call G_multiplied (hr.mono (by decide)) (by rfl) T.m_multiplied T.F_multiplied.kp T.b_multiplied .nil pass0 (pa_cons (pe_call G_way (hr.mono (by decide)) (by rfl) T.m_way T.F_way.kp T.b_way .nil pass0 (pa_cons (pe_ix ix_list (pv 0) pe_int (fun _ _ => rfl)) (pa_cons (pe_ix ix_list (pv 0) pe_int (fun _ _ => rfl)) pa_nil))) (pa_cons (pe_call G_way (hr.mono (by decide)) (by rfl) T.m_way T.F_way.kp T.b_way .nil pass0 (pa_cons (pe_ix ix_list (pv 0) pe_int (fun _ _ => rfl)) (pa_cons (pe_ix ix_list (pv 0) pe_int (fun _ _ => rfl)) pa_nil))) pa_nil))))
    (pss_cons (ps_set (i := 2) sc_is_alike.nd rfl (Or.inl rfl) (pe_call G_multiplied (hr.mono (by decide)) (by rfl) T.m_multiplied T.F_multiplied.kp T.b_multiplied .nil pass0 (pa_cons (pe_call G_way (hr.mono (by decide)) (by rfl) T.m_way T.F_way.kp T.b_way .nil pass0 (pa_cons (pe_ix ix_list (pv 0) pe_int (fun _ _ => rfl)) (pa_cons (pe_ix ix_list (pv 0) pe_int (fun _ _ => rfl)) pa_nil))) (pa_cons (pe_call G_way (hr.mono (by decide)) (by rfl) T.m_way T.F_way.kp T.b_way .nil pass0 (pa_cons (pe_ix ix_list (pv 0) pe_int (fun _ _ => rfl)) (pa_cons (pe_ix ix_list (pv 0) pe_int (fun _ _ => rfl)) pa_nil))) pa_nil))))
    (pss_one (ps_ret (pe_cmpR (op_eqD hr.units) (pv 1) (pv 2) (nomark _))))))
theorem held_BY_KIND (T : Txt K mg A) (G_is_same : FnOk P w K mg base CX0 1 A.f_is_same A.d_is_same ["p"] (sp_is_same K A)) (G_is_line : FnOk P w K mg base CX0 2 A.f_is_line A.d_is_line ["p"] (sp_is_line K A)) (G_is_parallel : FnOk P w K mg base CX0 2 A.f_is_parallel A.d_is_parallel ["p"] (sp_is_parallel K A)) (G_is_right : FnOk P w K mg base CX0 2 A.f_is_right A.d_is_right ["p"] (sp_is_right K A)) (G_is_equal : FnOk P w K mg base CX0 4 A.f_is_equal A.d_is_equal ["p"] (sp_is_equal K A)) (G_is_times : FnOk P w K mg base CX0 3 A.f_is_times A.d_is_times ["p", "m", "n"] (sp_is_times K A)) (G_is_circle : FnOk P w K mg base CX0 3 A.f_is_circle A.d_is_circle ["p"] (sp_is_circle K A)) (G_is_angles : FnOk P w K mg base CX0 2 A.f_is_angles A.d_is_angles ["p"] (sp_is_angles K A)) (G_is_areas : FnOk P w K mg base CX0 2 A.f_is_areas A.d_is_areas ["p"] (sp_is_areas K A)) (G_is_through : FnOk P w K mg base CX0 3 A.f_is_through A.d_is_through ["p"] (sp_is_through K A)) (G_is_middle : FnOk P w K mg base CX0 2 A.f_is_middle A.d_is_middle ["p"] (sp_is_middle K A)) (G_is_touches : FnOk P w K mg base CX0 3 A.f_is_touches A.d_is_touches ["p"] (sp_is_touches K A)) (G_is_alike : FnOk P w K mg base CX0 2 A.f_is_alike A.d_is_alike ["p"] (sp_is_alike K A)) {f : Addr} {sp : Sp} (h : R_BY_KIND K A f sp) : Held P w K mg base 4 f sp := by
  refine ⟨?_⟩
  rcases h with ⟨rfl, rfl⟩ | ⟨rfl, rfl⟩ | ⟨rfl, rfl⟩ | ⟨rfl, rfl⟩ | ⟨rfl, rfl⟩ | ⟨rfl, rfl⟩ | ⟨rfl, rfl⟩ | ⟨rfl, rfl⟩ | ⟨rfl, rfl⟩ | ⟨rfl, rfl⟩ | ⟨rfl, rfl⟩ | ⟨rfl, rfl⟩
  · exact ⟨_, _, G_is_same.mono (by decide), T.F_is_same.kp, T.b_is_same⟩
  · exact ⟨_, _, G_is_line.mono (by decide), T.F_is_line.kp, T.b_is_line⟩
  · exact ⟨_, _, G_is_parallel.mono (by decide), T.F_is_parallel.kp, T.b_is_parallel⟩
  · exact ⟨_, _, G_is_right.mono (by decide), T.F_is_right.kp, T.b_is_right⟩
  · exact ⟨_, _, G_is_equal.mono (by decide), T.F_is_equal.kp, T.b_is_equal⟩
  · exact ⟨_, _, G_is_circle.mono (by decide), T.F_is_circle.kp, T.b_is_circle⟩
  · exact ⟨_, _, G_is_angles.mono (by decide), T.F_is_angles.kp, T.b_is_angles⟩
  · exact ⟨_, _, G_is_areas.mono (by decide), T.F_is_areas.kp, T.b_is_areas⟩
  · exact ⟨_, _, G_is_through.mono (by decide), T.F_is_through.kp, T.b_is_through⟩
  · exact ⟨_, _, G_is_middle.mono (by decide), T.F_is_middle.kp, T.b_is_middle⟩
  · exact ⟨_, _, G_is_touches.mono (by decide), T.F_is_touches.kp, T.b_is_touches⟩
  · exact ⟨_, _, G_is_alike.mono (by decide), T.F_is_alike.kp, T.b_is_alike⟩
theorem der_is_so (T : Txt K mg A) (G_is_same : FnOk P w K mg base CX0 1 A.f_is_same A.d_is_same ["p"] (sp_is_same K A)) (G_is_line : FnOk P w K mg base CX0 2 A.f_is_line A.d_is_line ["p"] (sp_is_line K A)) (G_is_parallel : FnOk P w K mg base CX0 2 A.f_is_parallel A.d_is_parallel ["p"] (sp_is_parallel K A)) (G_is_right : FnOk P w K mg base CX0 2 A.f_is_right A.d_is_right ["p"] (sp_is_right K A)) (G_is_equal : FnOk P w K mg base CX0 4 A.f_is_equal A.d_is_equal ["p"] (sp_is_equal K A)) (G_is_times : FnOk P w K mg base CX0 3 A.f_is_times A.d_is_times ["p", "m", "n"] (sp_is_times K A)) (G_is_circle : FnOk P w K mg base CX0 3 A.f_is_circle A.d_is_circle ["p"] (sp_is_circle K A)) (G_is_angles : FnOk P w K mg base CX0 2 A.f_is_angles A.d_is_angles ["p"] (sp_is_angles K A)) (G_is_areas : FnOk P w K mg base CX0 2 A.f_is_areas A.d_is_areas ["p"] (sp_is_areas K A)) (G_is_through : FnOk P w K mg base CX0 3 A.f_is_through A.d_is_through ["p"] (sp_is_through K A)) (G_is_middle : FnOk P w K mg base CX0 2 A.f_is_middle A.d_is_middle ["p"] (sp_is_middle K A)) (G_is_touches : FnOk P w K mg base CX0 3 A.f_is_touches A.d_is_touches ["p"] (sp_is_touches K A)) (G_is_alike : FnOk P w K mg base CX0 2 A.f_is_alike A.d_is_alike ["p"] (sp_is_alike K A)) {cdv : Value} {Ar : Around} {outer : List Env} {s : Shared} {H : Hp} {E : XK}
    (hr : Room 4 (Ar.deeper (envOfC "is_so" (defScope s_is_so) s.heap.objs.size A.f_is_so cdv))) :
    PSs (cxOf CX0 P w K mg base ["kind", "p", "others"] "is_so" (defScope s_is_so) A.f_is_so cdv Ar outer s H E).nox (defBody s_is_so) (t_is_so K A) :=
  (pss_cons (ps_if (pt_cmpR op_eq (pv 0) (pe_glob (by rfl) T.g_TIMES ⟨_, rfl⟩) (nomark _))
    (pss_one (ps_ret (pe_call G_is_times (hr.mono (by decide)) (by rfl) T.m_is_times T.F_is_times.kp T.b_is_times .nil pass0 (pa_cons (pv 1) (pa_cons (pe_ix ix_list (pv 2) pe_int (fun _ _ => rfl)) (pa_cons (pe_ix ix_list (pv 2) pe_int (fun _ _ => rfl)) pa_nil))))))
    pss_nil)
    (pss_one (ps_ret (pe_callIx (R := R_BY_KIND K A) (fun f sp h => held_BY_KIND T G_is_same G_is_line G_is_parallel G_is_right G_is_equal G_is_times G_is_circle G_is_angles G_is_areas G_is_through G_is_middle G_is_touches G_is_alike h) (hr.mono (by decide)) (pe_ix ix_tup (pe_glob (by rfl) T.g_BY_KIND rfl) (pv 0) (fun _ _ => rfl)) (pa_cons (pv 1) pa_nil)))))
theorem der_rising (T : Txt K mg A) {cdv : Value} {Ar : Around} {outer : List Env} {s : Shared} {H : Hp} {E : XK}
    (hr : Room 0 (Ar.deeper (envOfC "rising" (defScope s_rising) s.heap.objs.size A.f_rising cdv))) :
    PSs (cxOf CX0 P w K mg base ["count", "size", "rows", "done", "longer", "row", "start", "number"] "rising" (defScope s_rising) A.f_rising cdv Ar outer s H E).nox (defBody s_rising) (t_rising K A) :=
  (pss_cons (ps_set (i := 2) sc_rising.nd rfl (Or.inl rfl) (pe_lst (pa_cons (pe_lst pa_nil) pa_nil)))
    (pss_cons (ps_for PassesOwn.never rfl (pi_range1 (by rfl) T.n_range (pa_cons (pv 1) pa_nil)) (pg_name (i := 3) sc_rising.nd rfl (Or.inl rfl))
    (pss_cons (ps_set (i := 4) sc_rising.nd rfl (Or.inl rfl) (pe_lst pa_nil))
    (pss_cons (ps_for PassesOwn.never rfl (pi_list (pv 2)) (pg_name (i := 5) sc_rising.nd rfl (Or.inr rfl))
    (pss_cons (ps_set (i := 6) sc_rising.nd rfl (Or.inl rfl) (pe_ifExp (pt_cmpR op_gt (pv 3) pe_int (nomark _)) (pe_op op_add (pe_ix ix_list (pv 5) (pe_un un_neg pe_int) (fun _ _ => rfl)) pe_int) pe_int))
    (pss_one (ps_expr (pe_bm PySem.F.plainAttrs_list PySem.F.slot_list_extend PySem.F.type_list_extend mt_extend (pv 4) (pa_cons (pe_lc (own := [("number", 7)]) (g := (gName 7)) (tt := tYes) (te := (tOp rCat (tVar 5) (tLst (tCons (tVar 7) tNil)))) (by rfl) sc_rising.nd (pi_range2 (by rfl) T.n_range (pa_cons (pv 6) (pa_cons (pv 0) pa_nil))) (blkOk_by (own := [("number", 7)]) (N := ["count", "size", "rows", "done", "longer", "row", "start", "number"]) (sc := defScope s_rising) (by decide +kernel)) (fun _ _ _ _ _ => (pg_name (i := 7) sc_rising.nd rfl (Or.inl rfl))) (fun _ _ _ _ _ => pts_nil) (fun _ _ _ _ _ => (pe_op op_cat (pv 5) (pe_lst (pa_cons (pv 7) pa_nil))))) pa_nil))))))
    (pss_one (ps_set (i := 2) sc_rising.nd rfl (Or.inl rfl) (pv 4))))))
    (pss_one (ps_ret (pv 2)))))
theorem der_pairs_of_ways (T : Txt K mg A) (G_rising : FnOk P w K mg base CX0 1 A.f_rising A.d_rising ["count", "size"] (sp_rising K A)) {cdv : Value} {Ar : Around} {outer : List Env} {s : Shared} {H : Hp} {E : XK}
    (hr : Room 1 (Ar.deeper (envOfC "pairs_of_ways" (defScope s_pairs_of_ways) s.heap.objs.size A.f_pairs_of_ways cdv))) :
    PSs (cxOf CX0 P w K mg base ["count", "ways", "rows", "done", "first", "second"] "pairs_of_ways" (defScope s_pairs_of_ways) A.f_pairs_of_ways cdv Ar outer s H E).nox (defBody s_pairs_of_ways) (t_pairs_of_ways K A) :=
  (pss_cons (ps_set (i := 1) sc_pairs_of_ways.nd rfl (Or.inl rfl) (pe_call G_rising (hr.mono (by decide)) (by rfl) T.m_rising T.F_rising.kp T.b_rising .nil pass0 (pa_cons (pv 0) (pa_cons pe_int pa_nil))))
    (pss_cons (ps_set (i := 2) sc_pairs_of_ways.nd rfl (Or.inl rfl) (pe_lst pa_nil))
    (pss_cons (ps_for PassesOwn.never rfl (pi_enumS (k := 1) (by rfl) T.n_enumerate (pa_cons (pv 1) pa_nil)) (pg_tup rfl (pgs_cons (pg_name (i := 3) sc_pairs_of_ways.nd rfl (Or.inl rfl)) (pgs_cons (pg_name (i := 4) sc_pairs_of_ways.nd rfl (Or.inr rfl)) pgs_nil)))
    (pss_one (ps_expr (pe_bm PySem.F.plainAttrs_list PySem.F.slot_list_extend PySem.F.type_list_extend mt_extend (pv 2) (pa_cons (pe_lc (own := [("second", 5)]) (g := (gName 5)) (tt := tYes) (te := (tOp rCat (tVar 4) (tVar 5))) (by rfl) sc_pairs_of_ways.nd (pi_list (pe_slice sl_list (pv 1) (po_some (pv 3)) po_none)) (blkOk_by (own := [("second", 5)]) (N := ["count", "ways", "rows", "done", "first", "second"]) (sc := defScope s_pairs_of_ways) (by decide +kernel)) (fun _ _ _ _ _ => (pg_name (i := 5) sc_pairs_of_ways.nd rfl (Or.inl rfl))) (fun _ _ _ _ _ => pts_nil) (fun _ _ _ _ _ => (pe_op op_cat (pv 4) (pv 5)))) pa_nil)))))
    (pss_one (ps_ret (pv 2))))))
theorem der_middles (T : Txt K mg A) (G_rising : FnOk P w K mg base CX0 1 A.f_rising A.d_rising ["count", "size"] (sp_rising K A)) {cdv : Value} {Ar : Around} {outer : List Env} {s : Shared} {H : Hp} {E : XK}
    (hr : Room 1 (Ar.deeper (envOfC "middles" (defScope s_middles) s.heap.objs.size A.f_middles cdv))) :
    PSs (cxOf CX0 P w K mg base ["count", "ways", "rows", "a", "ends"] "middles" (defScope s_middles) A.f_middles cdv Ar outer s H E).nox (defBody s_middles) (t_middles K A) :=
  (pss_cons (ps_set (i := 1) sc_middles.nd rfl (Or.inl rfl) (pe_call G_rising (hr.mono (by decide)) (by rfl) T.m_rising T.F_rising.kp T.b_rising .nil pass0 (pa_cons (pv 0) (pa_cons pe_int pa_nil))))
    (pss_cons (ps_set (i := 2) sc_middles.nd rfl (Or.inl rfl) (pe_lst pa_nil))
    (pss_cons (ps_for PassesOwn.never rfl (pi_range1 (by rfl) T.n_range (pa_cons (pv 0) pa_nil)) (pg_name (i := 3) sc_middles.nd rfl (Or.inr rfl))
    (pss_one (ps_expr (pe_bm PySem.F.plainAttrs_list PySem.F.slot_list_extend PySem.F.type_list_extend mt_extend (pv 2) (pa_cons (pe_lc (own := [("ends", 4)]) (g := (gName 4)) (tt := (tTest (tOp (rIn K true) (tVar 3) (tVar 4)))) (te := (tOp rCat (tLst (tCons (tVar 3) tNil)) (tVar 4))) (by rfl) sc_middles.nd (pi_list (pv 1)) (blkOk_by (own := [("ends", 4)]) (N := ["count", "ways", "rows", "a", "ends"]) (sc := defScope s_middles) (by decide +kernel)) (fun _ _ _ _ _ => (pg_name (i := 4) sc_middles.nd rfl (Or.inl rfl))) (fun _ _ _ _ _ => (pts_one (pt_cmpR op_notIn_seq (pv 3) (pv 4) (by with_unfolding_all rfl)))) (fun _ _ _ _ _ => (pe_op op_cat (pe_lst (pa_cons (pv 3) pa_nil)) (pv 4)))) pa_nil)))))
    (pss_one (ps_ret (pv 2))))))
theorem der_rows_to_ask (T : Txt K mg A) (G_middles : FnOk P w K mg base CX0 2 A.f_middles A.d_middles ["count"] (sp_middles K A)) (G_rising : FnOk P w K mg base CX0 1 A.f_rising A.d_rising ["count", "size"] (sp_rising K A)) (G_pairs_of_ways : FnOk P w K mg base CX0 2 A.f_pairs_of_ways A.d_pairs_of_ways ["count"] (sp_pairs_of_ways K A)) {cdv : Value} {Ar : Around} {outer : List Env} {s : Shared} {H : Hp} {E : XK}
    (hr : Room 2 (Ar.deeper (envOfC "rows_to_ask" (defScope s_rows_to_ask) s.heap.objs.size A.f_rows_to_ask cdv))) :
    PSs (cxOf CX0 P w K mg base ["kind", "count"] "rows_to_ask" (defScope s_rows_to_ask) A.f_rows_to_ask cdv Ar outer s H E).nox (defBody s_rows_to_ask) (t_rows_to_ask K A) :=
  (pss_cons (ps_if (pt_cmpR op_in_seq (pv 0) (pe_glob (by rfl) T.g_KINDS_RISING rfl) (by with_unfolding_all rfl))
    (pss_one (ps_ret (pe_call G_rising (hr.mono (by decide)) (by rfl) T.m_rising T.F_rising.kp T.b_rising .nil pass0 (pa_cons (pv 1) (pa_cons (pe_ix ix_tup (pe_glob (by rfl) T.g_POINTS_OF_KIND rfl) (pv 0) (fun _ _ => rfl)) pa_nil)))))
    pss_nil)
    (pss_cons (ps_if (pt_cmpR op_in_seq (pv 0) (pe_glob (by rfl) T.g_KINDS_OF_WAYS rfl) (by with_unfolding_all rfl))
    (pss_one (ps_ret (pe_call G_pairs_of_ways (hr.mono (by decide)) (by rfl) T.m_pairs_of_ways T.F_pairs_of_ways.kp T.b_pairs_of_ways .nil pass0 (pa_cons (pv 1) pa_nil))))
    pss_nil)
    (pss_one (ps_ret (pe_call G_middles (hr.mono (by decide)) (by rfl) T.m_middles T.F_middles.kp T.b_middles .nil pass0 (pa_cons (pv 1) pa_nil))))))
theorem der_rows_so (T : Txt K mg A) (G_rows_to_ask : FnOk P w K mg base CX0 3 A.f_rows_to_ask A.d_rows_to_ask ["kind", "count"] (sp_rows_to_ask K A)) (G_is_so : FnOk P w K mg base CX0 5 A.f_is_so A.d_is_so ["kind", "p", "others"] (sp_is_so K A)) {cdv : Value} {Ar : Around} {outer : List Env} {s : Shared} {H : Hp} {E : XK}
    (hr : Room 5 (Ar.deeper (envOfC "rows_so" (defScope s_rows_so) s.heap.objs.size A.f_rows_so cdv))) :
    PSs (cxOf CX0 P w K mg base ["kind", "p", "row", "k"] "rows_so" (defScope s_rows_so) A.f_rows_so cdv Ar outer s H E).nox (defBody s_rows_so) (t_rows_so K A) :=
  (pss_one (ps_ret (pe_lc (own := [("row", 2)]) (g := (gName 2)) (tt := (tB (tCall (sp_is_so K A) [] E0 (tCons (tVar 0) (tCons (tLc (iList K (tVar 2)) (gName 3) tYes (tOp (rIxL K) (tVar 1) (tVar 3)) [3]) (tCons (tLst tNil) tNil)))))) (te := (tVar 2)) (by rfl) sc_rows_so.nd (pi_list (pe_call G_rows_to_ask (hr.mono (by decide)) (by rfl) T.m_rows_to_ask T.F_rows_to_ask.kp T.b_rows_to_ask .nil pass0 (pa_cons (pv 0) (pa_cons (pe_callB call_len_seq (by rfl) T.n_len PySem.boot_len (pa_cons (pv 1) pa_nil)) pa_nil)))) (blkOk_by (own := [("row", 2)]) (N := ["kind", "p", "row", "k"]) (sc := defScope s_rows_so) (by decide +kernel)) (fun _ _ _ _ _ => (pg_name (i := 2) sc_rows_so.nd rfl (Or.inl rfl))) (fun _ _ _ _ _ => (pts_one (pt_val (pe_call G_is_so (hr.mono (by decide)) (by rfl) T.m_is_so T.F_is_so.kp T.b_is_so .nil pass0 (pa_cons (pv 0) (pa_cons (pe_lc (own := [("k", 3)]) (g := (gName 3)) (tt := tYes) (te := (tOp (rIxL K) (tVar 1) (tVar 3))) (by rfl) sc_rows_so.nd (pi_list (pv 2)) (blkOk_by (own := [("k", 3)]) (N := ["kind", "p", "row", "k"]) (sc := ({ kind := ScopeKind.function, names := [(".0", NameKind.local), ("row", NameKind.local), ("is_so", NameKind.globalImplicit), ("kind", NameKind.cell), ("p", NameKind.cell)], isGenerator := false, isCoroutine := false } : Scope)) (by decide +kernel)) (fun _ _ _ _ _ => (pg_name (i := 3) sc_rows_so.nd rfl (Or.inl rfl))) (fun _ _ _ _ _ => pts_nil) (fun _ _ _ _ _ => (pe_ix ix_list (pv 1) (pv 3) (fun _ _ => rfl)))) (pa_cons (pe_lst pa_nil) pa_nil))))))) (fun _ _ _ _ _ => (pv 2)))))
theorem der_is_so_throughout (T : Txt K mg A) {cdv : Value} {Ar : Around} {outer : List Env} {s : Shared} {H : Hp} {E : XK}
    (hr : Room 0 (Ar.deeper (envOfC "is_so_throughout" (defScope s_is_so_throughout) s.heap.objs.size A.f_is_so_throughout cdv))) :
    PSs (cxOf CX0 P w K mg base ["members", "parts", "so", "part", "k"] "is_so_throughout" (defScope s_is_so_throughout) A.f_is_so_throughout cdv Ar outer s H E).nox (defBody s_is_so_throughout) (t_is_so_throughout K A) :=
  (pss_cons (ps_for PassesOwn.never rfl (pi_list (pv 1)) (pg_name (i := 3) sc_is_so_throughout.nd rfl (Or.inl rfl))
    (pss_one (ps_if (pt_cmp (pc_dnotin (hu_of hr) (pe_tupleOf (by rfl) T.n_tuple (pe_lc (own := [("k", 4)]) (g := (gName 4)) (tt := tYes) (te := (tOp (rIxL K) (tVar 0) (tVar 4))) (by rfl) sc_is_so_throughout.nd (pi_list (pv 3)) (blkOk_by (own := [("k", 4)]) (N := ["members", "parts", "so", "part", "k"]) (sc := defScope s_is_so_throughout) (by decide +kernel)) (fun _ _ _ _ _ => (pg_name (i := 4) sc_is_so_throughout.nd rfl (Or.inl rfl))) (fun _ _ _ _ _ => pts_nil) (fun _ _ _ _ _ => (pe_ix ix_list (pv 0) (pv 4) (fun _ _ => rfl))))) (pv 2)))
    (pss_one (ps_ret pe_bl))
    pss_nil)))
    (pss_one (ps_ret pe_bl)))
theorem der_sets_throughout (T : Txt K mg A) (G_rising : FnOk P w K mg base CX0 1 A.f_rising A.d_rising ["count", "size"] (sp_rising K A)) (G_is_so_throughout : FnOk P w K mg base CX0 1 A.f_is_so_throughout A.d_is_so_throughout ["members", "parts", "so"] (sp_is_so_throughout K A)) {cdv : Value} {Ar : Around} {outer : List Env} {s : Shared} {H : Hp} {E : XK}
    (hr : Room 1 (Ar.deeper (envOfC "sets_throughout" (defScope s_sets_throughout) s.heap.objs.size A.f_sets_throughout cdv))) :
    PSs (cxOf CX0 P w K mg base ["count", "size", "width", "so", "parts", "members"] "sets_throughout" (defScope s_sets_throughout) A.f_sets_throughout cdv Ar outer s H E).nox (defBody s_sets_throughout) (t_sets_throughout K A) :=
  (pss_cons (ps_set (i := 4) sc_sets_throughout.nd rfl (Or.inr rfl) (pe_call G_rising (hr.mono (by decide)) (by rfl) T.m_rising T.F_rising.kp T.b_rising .nil pass0 (pa_cons (pv 1) (pa_cons (pv 2) pa_nil))))
    (pss_one (ps_ret (pe_lc (own := [("members", 5)]) (g := (gName 5)) (tt := (tB (tCall (sp_is_so_throughout K A) [] E0 (tCons (tVar 5) (tCons (tVar 4) (tCons (tVar 3) tNil)))))) (te := (tVar 5)) (by rfl) sc_sets_throughout.nd (pi_list (pe_call G_rising (hr.mono (by decide)) (by rfl) T.m_rising T.F_rising.kp T.b_rising .nil pass0 (pa_cons (pv 0) (pa_cons (pv 1) pa_nil)))) (blkOk_by (own := [("members", 5)]) (N := ["count", "size", "width", "so", "parts", "members"]) (sc := defScope s_sets_throughout) (by decide +kernel)) (fun _ _ _ _ _ => (pg_name (i := 5) sc_sets_throughout.nd rfl (Or.inl rfl))) (fun _ _ _ _ _ => (pts_one (pt_val (pe_call G_is_so_throughout (hr.mono (by decide)) (by rfl) T.m_is_so_throughout T.F_is_so_throughout.kp T.b_is_so_throughout .nil pass0 (pa_cons (pv 5) (pa_cons (pv 4) (pa_cons (pv 3) pa_nil))))))) (fun _ _ _ _ _ => (pv 5))))))
theorem der_largest_set (T : Txt K mg A) (G_rows_so : FnOk P w K mg base CX0 6 A.f_rows_so A.d_rows_so ["kind", "p"] (sp_rows_so K A)) (G_sets_throughout : FnOk P w K mg base CX0 2 A.f_sets_throughout A.d_sets_throughout ["count", "size", "width", "so"] (sp_sets_throughout K A)) {cdv : Value} {Ar : Around} {outer : List Env} {s : Shared} {H : Hp} {E : XK}
    (hr : Room 6 (Ar.deeper (envOfC "largest_set" (defScope s_largest_set) s.heap.objs.size A.f_largest_set cdv))) :
    PSs (cxOf CX0 P w K mg base ["kind", "p", "width", "so", "row", "size", "found"] "largest_set" (defScope s_largest_set) A.f_largest_set cdv Ar outer s H E).nox (defBody s_largest_set) (t_largest_set K A) :=
  (pss_cons (ps_set (i := 2) sc_largest_set.nd rfl (Or.inl rfl) (pe_ix ix_tup (pe_glob (by rfl) T.g_POINTS_OF_KIND rfl) (pv 0) (fun _ _ => rfl)))
    (pss_cons (ps_set (i := 3) sc_largest_set.nd rfl (Or.inl rfl) pe_dnewT)
    (pss_cons (ps_for PassesOwn.never rfl (pi_list (pe_call G_rows_so (hr.mono (by decide)) (by rfl) T.m_rows_so T.F_rows_so.kp T.b_rows_so .nil pass0 (pa_cons (pv 0) (pa_cons (pv 1) pa_nil)))) (pg_name (i := 4) sc_largest_set.nd rfl (Or.inl rfl))
    (pss_one (ps_dput (hu_of hr) (pv 3) (pe_tupleOf (by rfl) T.n_tuple (pv 4)) pe_bl rfl)))
    (pss_cons (ps_set (i := 5) sc_largest_set.nd rfl (Or.inl rfl) (pe_callB call_len_seq (by rfl) T.n_len PySem.boot_len (pa_cons (pv 1) pa_nil)))
    (pss_cons (ps_set (i := 6) sc_largest_set.nd rfl (Or.inl rfl) (pe_call G_sets_throughout (hr.mono (by decide)) (by rfl) T.m_sets_throughout T.F_sets_throughout.kp T.b_sets_throughout .nil pass0 (pa_cons (pe_callB call_len_seq (by rfl) T.n_len PySem.boot_len (pa_cons (pv 1) pa_nil)) (pa_cons (pv 5) (pa_cons (pv 2) (pa_cons (pv 3) pa_nil))))))
    (pss_cons (ps_while PassesOwn.never (pt_cmpR op_eq (pe_callB call_len_seq (by rfl) T.n_len PySem.boot_len (pa_cons (pv 6) pa_nil)) pe_int (nomark _))
    (pss_cons (ps_set (i := 5) sc_largest_set.nd rfl (Or.inl rfl) (pe_op op_sub (pv 5) pe_int))
    (pss_one (ps_set (i := 6) sc_largest_set.nd rfl (Or.inl rfl) (pe_call G_sets_throughout (hr.mono (by decide)) (by rfl) T.m_sets_throughout T.F_sets_throughout.kp T.b_sets_throughout .nil pass0 (pa_cons (pe_callB call_len_seq (by rfl) T.n_len PySem.boot_len (pa_cons (pv 1) pa_nil)) (pa_cons (pv 5) (pa_cons (pv 2) (pa_cons (pv 3) pa_nil)))))))))
    (pss_one (ps_ret (pe_ix ix_list (pv 6) pe_int (fun _ _ => rfl))))))))))
theorem der_greatest_common (T : Txt K mg A) {cdv : Value} {Ar : Around} {outer : List Env} {s : Shared} {H : Hp} {E : XK}
    (hr : Room 0 (Ar.deeper (envOfC "greatest_common" (defScope s_greatest_common) s.heap.objs.size A.f_greatest_common cdv))) :
    PSs (cxOf CX0 P w K mg base ["a", "b", "greater", "lesser", "rest"] "greatest_common" (defScope s_greatest_common) A.f_greatest_common cdv Ar outer s H E).nox (defBody s_greatest_common) (t_greatest_common K A) :=
  (pss_cons (ps_set (i := 2) sc_greatest_common.nd rfl (Or.inl rfl) (pe_callB call_abs (by rfl) T.n_abs PyProof.Rows.boot_abs (pa_cons (pv 0) pa_nil)))
    (pss_cons (ps_set (i := 3) sc_greatest_common.nd rfl (Or.inl rfl) (pe_callB call_abs (by rfl) T.n_abs PyProof.Rows.boot_abs (pa_cons (pv 1) pa_nil)))
    (pss_cons (ps_while PassesOwn.never (pt_cmpR op_ne (pv 3) pe_int (nomark _))
    (pss_cons (ps_set (i := 4) sc_greatest_common.nd rfl (Or.inl rfl) (pe_op op_modN (pv 2) (pv 3)))
    (pss_cons (ps_set (i := 2) sc_greatest_common.nd rfl (Or.inl rfl) (pv 3))
    (pss_one (ps_set (i := 3) sc_greatest_common.nd rfl (Or.inl rfl) (pv 4))))))
    (pss_one (ps_ret (pv 2))))))
theorem der_fraction (T : Txt K mg A) (G_greatest_common : FnOk P w K mg base CX0 1 A.f_greatest_common A.d_greatest_common ["a", "b"] (sp_greatest_common K A)) {cdv : Value} {Ar : Around} {outer : List Env} {s : Shared} {H : Hp} {E : XK}
    (hr : Room 1 (Ar.deeper (envOfC "fraction" (defScope s_fraction) s.heap.objs.size A.f_fraction cdv))) :
    PSs (cxOf CX0 P w K mg base ["above", "below", "common"] "fraction" (defScope s_fraction) A.f_fraction cdv Ar outer s H E).nox (defBody s_fraction) (t_fraction K A) :=
  (pss_cons (ps_set (i := 2) sc_fraction.nd rfl (Or.inl rfl) (pe_call G_greatest_common (hr.mono (by decide)) (by rfl) T.m_greatest_common T.F_greatest_common.kp T.b_greatest_common .nil pass0 (pa_cons (pv 0) (pa_cons (pv 1) pa_nil))))
    (pss_cons (ps_if (pt_cmpR op_lt (pv 1) pe_int (nomark _))
    (pss_one (ps_set (i := 2) sc_fraction.nd rfl (Or.inl rfl) (pe_un un_neg (pv 2))))
    pss_nil)
    (pss_one (ps_ret (pe_lst (pa_cons (pe_op op_fdivG (pv 0) (pv 2)) (pa_cons (pe_op op_fdivG (pv 1) (pv 2)) pa_nil)))))))
theorem der_three_numbers (T : Txt K mg A) (G_greatest_common : FnOk P w K mg base CX0 1 A.f_greatest_common A.d_greatest_common ["a", "b"] (sp_greatest_common K A)) {cdv : Value} {Ar : Around} {outer : List Env} {s : Shared} {H : Hp} {E : XK}
    (hr : Room 1 (Ar.deeper (envOfC "three_numbers" (defScope s_three_numbers) s.heap.objs.size A.f_three_numbers cdv))) :
    PSs (cxOf CX0 P w K mg base ["x", "y", "w", "common"] "three_numbers" (defScope s_three_numbers) A.f_three_numbers cdv Ar outer s H E).nox (defBody s_three_numbers) (t_three_numbers K A) :=
  (pss_cons (ps_set (i := 3) sc_three_numbers.nd rfl (Or.inl rfl) (pe_call G_greatest_common (hr.mono (by decide)) (by rfl) T.m_greatest_common T.F_greatest_common.kp T.b_greatest_common .nil pass0 (pa_cons (pe_call G_greatest_common (hr.mono (by decide)) (by rfl) T.m_greatest_common T.F_greatest_common.kp T.b_greatest_common .nil pass0 (pa_cons (pv 0) (pa_cons (pv 1) pa_nil))) (pa_cons (pv 2) pa_nil))))
    (pss_cons (ps_if (pt_cmpR op_lt (pv 2) pe_int (nomark _))
    (pss_one (ps_set (i := 3) sc_three_numbers.nd rfl (Or.inl rfl) (pe_un un_neg (pv 3))))
    pss_nil)
    (pss_one (ps_ret (pe_tup (pa_cons (pe_op op_fdivG (pv 0) (pv 3)) (pa_cons (pe_op op_fdivG (pv 1) (pv 3)) (pa_cons (pe_op op_fdivG (pv 2) (pv 3)) pa_nil))))))))
theorem der_may_be_told (T : Txt K mg A) {cdv : Value} {Ar : Around} {outer : List Env} {s : Shared} {H : Hp} {E : XK}
    (hr : Room 0 (Ar.deeper (envOfC "may_be_told" (defScope s_may_be_told) s.heap.objs.size A.f_may_be_told cdv))) :
    PSs (cxOf CX0 P w K mg base ["x", "y", "w"] "may_be_told" (defScope s_may_be_told) A.f_may_be_told cdv Ar outer s H E).nox (defBody s_may_be_told) (t_may_be_told K A) :=
  (pss_one (ps_ret (pe_and (pe_cmpR op_le (pe_callB call_abs (by rfl) T.n_abs PyProof.Rows.boot_abs (pa_cons (pv 0) pa_nil)) (pe_glob (by rfl) T.g_LARGEST_TOLD ⟨_, rfl⟩) (nomark _)) (pe_and (pe_cmpR op_le (pe_callB call_abs (by rfl) T.n_abs PyProof.Rows.boot_abs (pa_cons (pv 1) pa_nil)) (pe_glob (by rfl) T.g_LARGEST_TOLD ⟨_, rfl⟩) (nomark _)) (pe_one (pe_chain op_le op_le pe_int (pv 2) (pe_glob (by rfl) T.g_LARGEST_TOLD ⟨_, rfl⟩)))))))
theorem der_is_too_large (T : Txt K mg A) {cdv : Value} {Ar : Around} {outer : List Env} {s : Shared} {H : Hp} {E : XK}
    (hr : Room 0 (Ar.deeper (envOfC "is_too_large" (defScope s_is_too_large) s.heap.objs.size A.f_is_too_large cdv))) :
    PSs (cxOf CX0 P w K mg base ["place"] "is_too_large" (defScope s_is_too_large) A.f_is_too_large cdv Ar outer s H E).nox (defBody s_is_too_large) (t_is_too_large K A) :=
  (pss_one (ps_ret (pe_or (pe_cmpR op_gt (pe_callB call_abs (by rfl) T.n_abs PyProof.Rows.boot_abs (pa_cons (pe_ix ix_tup (pv 0) pe_int (fun _ _ => rfl)) pa_nil)) (pe_glob (by rfl) T.g_LARGEST_KEPT ⟨_, rfl⟩) (nomark _)) (pe_or (pe_cmpR op_gt (pe_callB call_abs (by rfl) T.n_abs PyProof.Rows.boot_abs (pa_cons (pe_ix ix_tup (pv 0) pe_int (fun _ _ => rfl)) pa_nil)) (pe_glob (by rfl) T.g_LARGEST_KEPT ⟨_, rfl⟩) (nomark _)) (pe_one (pe_cmpR op_gt (pe_ix ix_tup (pv 0) pe_int (fun _ _ => rfl)) (pe_glob (by rfl) T.g_LARGEST_KEPT ⟨_, rfl⟩) (nomark _)))))))
theorem der_common_below (T : Txt K mg A) (G_greatest_common : FnOk P w K mg base CX0 1 A.f_greatest_common A.d_greatest_common ["a", "b"] (sp_greatest_common K A)) {cdv : Value} {Ar : Around} {outer : List Env} {s : Shared} {H : Hp} {E : XK}
    (hr : Room 1 (Ar.deeper (envOfC "common_below" (defScope s_common_below) s.heap.objs.size A.f_common_below cdv))) :
    PSs (cxOf CX0 P w K mg base ["places", "common", "place", "w"] "common_below" (defScope s_common_below) A.f_common_below cdv Ar outer s H E).nox (defBody s_common_below) (t_common_below K A) :=
  (pss_cons (ps_set (i := 1) sc_common_below.nd rfl (Or.inl rfl) pe_int)
    (pss_cons (ps_for PassesOwn.never rfl (pi_list (pv 0)) (pg_name (i := 2) sc_common_below.nd rfl (Or.inl rfl))
    (pss_cons (ps_set (i := 3) sc_common_below.nd rfl (Or.inl rfl) (pe_ix ix_tup (pv 2) pe_int (fun _ _ => rfl)))
    (pss_one (ps_set (i := 1) sc_common_below.nd rfl (Or.inl rfl) (pe_op op_mulW (pe_op op_fdivG (pv 1) (pe_call G_greatest_common (hr.mono (by decide)) (by rfl) T.m_greatest_common T.F_greatest_common.kp T.b_greatest_common .nil pass0 (pa_cons (pv 1) (pa_cons (pv 3) pa_nil)))) (pv 3))))))
    (pss_one (ps_ret (pv 1)))))
theorem der_whole_places (T : Txt K mg A) (G_common_below : FnOk P w K mg base CX0 2 A.f_common_below A.d_common_below ["places"] (sp_common_below K A)) {cdv : Value} {Ar : Around} {outer : List Env} {s : Shared} {H : Hp} {E : XK}
    (hr : Room 2 (Ar.deeper (envOfC "whole_places" (defScope s_whole_places) s.heap.objs.size A.f_whole_places cdv))) :
    PSs (cxOf CX0 P w K mg base ["places", "common", "place"] "whole_places" (defScope s_whole_places) A.f_whole_places cdv Ar outer s H E).nox (defBody s_whole_places) (t_whole_places K A) :=
  (pss_cons (ps_set (i := 1) sc_whole_places.nd rfl (Or.inr rfl) (pe_call G_common_below (hr.mono (by decide)) (by rfl) T.m_common_below T.F_common_below.kp T.b_common_below .nil pass0 (pa_cons (pv 0) pa_nil)))
    (pss_one (ps_ret (pe_lc (own := [("place", 2)]) (g := (gName 2)) (tt := tYes) (te := (tTup (tCons (tOp oMul (tOp (rIxT K) (tVar 2) (tC (.int 0))) (tOp oDiv (tVar 1) (tOp (rIxT K) (tVar 2) (tC (.int 2))))) (tCons (tOp oMul (tOp (rIxT K) (tVar 2) (tC (.int 1))) (tOp oDiv (tVar 1) (tOp (rIxT K) (tVar 2) (tC (.int 2))))) tNil)))) (by rfl) sc_whole_places.nd (pi_list (pv 0)) (blkOk_by (own := [("place", 2)]) (N := ["places", "common", "place"]) (sc := defScope s_whole_places) (by decide +kernel)) (fun _ _ _ _ _ => (pg_name (i := 2) sc_whole_places.nd rfl (Or.inl rfl))) (fun _ _ _ _ _ => pts_nil) (fun _ _ _ _ _ => (pe_tup (pa_cons (pe_op op_mulW (pe_ix ix_tup (pv 2) pe_int (fun _ _ => rfl)) (pe_op op_fdivG (pv 1) (pe_ix ix_tup (pv 2) pe_int (fun _ _ => rfl)))) (pa_cons (pe_op op_mulW (pe_ix ix_tup (pv 2) pe_int (fun _ _ => rfl)) (pe_op op_fdivG (pv 1) (pe_ix ix_tup (pv 2) pe_int (fun _ _ => rfl)))) pa_nil))))))))
theorem der_may_be_asked (T : Txt K mg A) (G_is_kind : FnOk P w K mg base CX0 1 A.f_is_kind A.d_is_kind ["kind"] (sp_is_kind K A)) {cdv : Value} {Ar : Around} {outer : List Env} {s : Shared} {H : Hp} {E : XK}
    (hr : Room 1 (Ar.deeper (envOfC "may_be_asked" (defScope s_may_be_asked) s.heap.objs.size A.f_may_be_asked cdv))) :
    PSs (cxOf CX0 P w K mg base ["kind", "a", "b", "c", "d", "number"] "may_be_asked" (defScope s_may_be_asked) A.f_may_be_asked cdv Ar outer s H E).nox (defBody s_may_be_asked) (t_may_be_asked K A) :=
  (pss_cons (ps_if (pt_not (pt_val (pe_call G_is_kind (hr.mono (by decide)) (by rfl) T.m_is_kind T.F_is_kind.kp T.b_is_kind .nil pass0 (pa_cons (pv 0) pa_nil))))
    (pss_one (ps_ret pe_bl))
    pss_nil)
    (pss_cons (ps_if (pt_val (pe_callB (cr_any rfl) (by rfl) T.n_any (by decide +kernel) (pa_cons (pe_lc (own := [("number", 5)]) (g := (gName 5)) (tt := tYes) (te := (tOp oGt (tCB rAbs (tCons (tVar 5) tNil)) (tC (.int 1000)))) (by rfl) sc_may_be_asked.nd (pi_tup (pe_tup (pa_cons (pv 1) (pa_cons (pv 2) (pa_cons (pv 3) (pa_cons (pv 4) pa_nil)))))) (blkOk_by (own := [("number", 5)]) (N := ["kind", "a", "b", "c", "d", "number"]) (sc := defScope s_may_be_asked) (by decide +kernel)) (fun _ _ _ _ _ => (pg_name (i := 5) sc_may_be_asked.nd rfl (Or.inl rfl))) (fun _ _ _ _ _ => pts_nil) (fun _ _ _ _ _ => (pe_cmpR op_gt (pe_callB call_abs (by rfl) T.n_abs PyProof.Rows.boot_abs (pa_cons (pv 5) pa_nil)) (pe_glob (by rfl) T.g_LARGEST_TOLD ⟨_, rfl⟩) (nomark _)))) pa_nil)))
    (pss_one (ps_ret pe_bl))
    pss_nil)
    (pss_one (ps_ret (pe_cmpR op_ne (pe_op op_sub (pe_op op_mulW (pv 1) (pv 4)) (pe_op op_mulW (pv 2) (pv 3))) pe_int (nomark _))))))
theorem der_keeps_shapes (T : Txt K mg A) (G_square : FnOk P w K mg base CX0 2 A.f_square A.d_square ["one"] (sp_square K A)) (G_lean : FnOk P w K mg base CX0 1 A.f_lean A.d_lean ["first", "second"] (sp_lean K A)) {cdv : Value} {Ar : Around} {outer : List Env} {s : Shared} {H : Hp} {E : XK}
    (hr : Room 2 (Ar.deeper (envOfC "keeps_shapes" (defScope s_keeps_shapes) s.heap.objs.size A.f_keeps_shapes cdv))) :
    PSs (cxOf CX0 P w K mg base ["a", "b", "c", "d", "across", "up"] "keeps_shapes" (defScope s_keeps_shapes) A.f_keeps_shapes cdv Ar outer s H E).nox (defBody s_keeps_shapes) (t_keeps_shapes K A) :=
  (pss_cons (ps_set (i := 4) sc_keeps_shapes.nd rfl (Or.inl rfl) (pe_tup (pa_cons (pv 0) (pa_cons (pv 2) pa_nil))))
    (pss_cons (ps_set (i := 5) sc_keeps_shapes.nd rfl (Or.inl rfl) (pe_tup (pa_cons (pv 1) (pa_cons (pv 3) pa_nil))))
    (pss_one (ps_ret (pe_and (pe_cmpR op_eq (pe_call G_square (hr.mono (by decide)) (by rfl) T.m_square T.F_square.kp T.b_square .nil pass0 (pa_cons (pv 4) pa_nil)) (pe_call G_square (hr.mono (by decide)) (by rfl) T.m_square T.F_square.kp T.b_square .nil pass0 (pa_cons (pv 5) pa_nil)) (nomark _)) (pe_one (pe_cmpR op_eq (pe_call G_lean (hr.mono (by decide)) (by rfl) T.m_lean T.F_lean.kp T.b_lean .nil pass0 (pa_cons (pv 4) (pa_cons (pv 5) pa_nil))) pe_int (nomark _))))))))
theorem der_is_kept (T : Txt K mg A) (G_keeps_shapes : FnOk P w K mg base CX0 3 A.f_keeps_shapes A.d_keeps_shapes ["a", "b", "c", "d"] (sp_keeps_shapes K A)) {cdv : Value} {Ar : Around} {outer : List Env} {s : Shared} {H : Hp} {E : XK}
    (hr : Room 3 (Ar.deeper (envOfC "is_kept" (defScope s_is_kept) s.heap.objs.size A.f_is_kept cdv))) :
    PSs (cxOf CX0 P w K mg base ["kind", "a", "b", "c", "d"] "is_kept" (defScope s_is_kept) A.f_is_kept cdv Ar outer s H E).nox (defBody s_is_kept) (t_is_kept K A) :=
  (pss_one (ps_ret (pe_or (pe_cmpR op_in_seq (pv 0) (pe_glob (by rfl) T.g_KINDS_KEPT_BY_ANY rfl) (by with_unfolding_all rfl)) (pe_one (pe_call G_keeps_shapes (hr.mono (by decide)) (by rfl) T.m_keeps_shapes T.F_keeps_shapes.kp T.b_keeps_shapes .nil pass0 (pa_cons (pv 1) (pa_cons (pv 2) (pa_cons (pv 3) (pa_cons (pv 4) pa_nil)))))))))
theorem der_is_too_large_to_tell (T : Txt K mg A) {cdv : Value} {Ar : Around} {outer : List Env} {s : Shared} {H : Hp} {E : XK}
    (hr : Room 0 (Ar.deeper (envOfC "is_too_large_to_tell" (defScope s_is_too_large_to_tell) s.heap.objs.size A.f_is_too_large_to_tell cdv))) :
    PSs (cxOf CX0 P w K mg base ["numbers", "number"] "is_too_large_to_tell" (defScope s_is_too_large_to_tell) A.f_is_too_large_to_tell cdv Ar outer s H E).nox (defBody s_is_too_large_to_tell) (t_is_too_large_to_tell K A) :=
  (pss_one (ps_ret (pe_callB (cr_any rfl) (by rfl) T.n_any (by decide +kernel) (pa_cons (pe_lc (own := [("number", 1)]) (g := (gName 1)) (tt := tYes) (te := (tOp oGt (tCB rAbs (tCons (tVar 1) tNil)) (tC (.int 1000000000000000)))) (by rfl) sc_is_too_large_to_tell.nd (pi_list (pv 0)) (blkOk_by (own := [("number", 1)]) (N := ["numbers", "number"]) (sc := defScope s_is_too_large_to_tell) (by decide +kernel)) (fun _ _ _ _ _ => (pg_name (i := 1) sc_is_too_large_to_tell.nd rfl (Or.inl rfl))) (fun _ _ _ _ _ => pts_nil) (fun _ _ _ _ _ => (pe_cmpR op_gt (pe_callB call_abs (by rfl) T.n_abs PyProof.Rows.boot_abs (pa_cons (pv 1) pa_nil)) (pe_glob (by rfl) T.g_LARGEST_ANSWERED ⟨_, rfl⟩) (nomark _)))) pa_nil))))
theorem der_may_be_crossed (T : Txt K mg A) (G_is_line : FnOk P w K mg base CX0 2 A.f_is_line A.d_is_line ["p"] (sp_is_line K A)) {cdv : Value} {Ar : Around} {outer : List Env} {s : Shared} {H : Hp} {E : XK}
    (hr : Room 2 (Ar.deeper (envOfC "may_be_crossed" (defScope s_may_be_crossed) s.heap.objs.size A.f_may_be_crossed cdv))) :
    PSs (cxOf CX0 P w K mg base ["p"] "may_be_crossed" (defScope s_may_be_crossed) A.f_may_be_crossed cdv Ar outer s H E).nox (defBody s_may_be_crossed) (t_may_be_crossed P w K A) :=
  (pss_one (ps_ret (pe_and (pe_cmpR op_eq (pe_callB cr_lenTO (by rfl) T.n_len PySem.boot_len (pa_cons (pe_callTy (cr_setOfT rfl hr.units) (by rfl) T.n_set PyProof.Rows.boot_set (pa_cons (pv 0) pa_nil)) pa_nil)) pe_int (nomark _)) (pe_and (pe_call G_is_line (hr.mono (by decide)) (by rfl) T.m_is_line T.F_is_line.kp T.b_is_line .nil pass0 (pa_cons (pe_lst (pa_cons (pe_ix ix_list (pv 0) pe_int (fun _ _ => rfl)) (pa_cons (pe_ix ix_list (pv 0) pe_int (fun _ _ => rfl)) (pa_cons (pe_ix ix_list (pv 0) pe_int (fun _ _ => rfl)) pa_nil)))) pa_nil)) (pe_one (pe_call G_is_line (hr.mono (by decide)) (by rfl) T.m_is_line T.F_is_line.kp T.b_is_line .nil pass0 (pa_cons (pe_lst (pa_cons (pe_ix ix_list (pv 0) pe_int (fun _ _ => rfl)) (pa_cons (pe_ix ix_list (pv 0) pe_int (fun _ _ => rfl)) (pa_cons (pe_ix ix_list (pv 0) pe_int (fun _ _ => rfl)) pa_nil)))) pa_nil)))))))
theorem der_cross_fraction (T : Txt K mg A) (G_fraction : FnOk P w K mg base CX0 2 A.f_fraction A.d_fraction ["above", "below"] (sp_fraction K A)) {cdv : Value} {Ar : Around} {outer : List Env} {s : Shared} {H : Hp} {E : XK}
    (hr : Room 2 (Ar.deeper (envOfC "cross_fraction" (defScope s_cross_fraction) s.heap.objs.size A.f_cross_fraction cdv))) :
    PSs (cxOf CX0 P w K mg base ["p", "side", "a", "b", "c", "d"] "cross_fraction" (defScope s_cross_fraction) A.f_cross_fraction cdv Ar outer s H E).nox (defBody s_cross_fraction) (t_cross_fraction K A) :=
  (pss_cons (ps_set (i := 1) sc_cross_fraction.nd rfl (Or.inl rfl) (pe_ifExp (pt_cmpR op_eq (pe_ix ix_tup (pe_ix ix_list (pv 0) pe_int (fun _ _ => rfl)) pe_int (fun _ _ => rfl)) (pe_ix ix_tup (pe_ix ix_list (pv 0) pe_int (fun _ _ => rfl)) pe_int (fun _ _ => rfl)) (nomark _)) pe_int pe_int))
    (pss_cons (ps_set (i := 2) sc_cross_fraction.nd rfl (Or.inl rfl) (pe_ix ix_tup (pe_ix ix_list (pv 0) pe_int (fun _ _ => rfl)) (pv 1) (fun _ _ => rfl)))
    (pss_cons (ps_set (i := 3) sc_cross_fraction.nd rfl (Or.inl rfl) (pe_ix ix_tup (pe_ix ix_list (pv 0) pe_int (fun _ _ => rfl)) (pv 1) (fun _ _ => rfl)))
    (pss_cons (ps_set (i := 4) sc_cross_fraction.nd rfl (Or.inl rfl) (pe_ix ix_tup (pe_ix ix_list (pv 0) pe_int (fun _ _ => rfl)) (pv 1) (fun _ _ => rfl)))
    (pss_cons (ps_set (i := 5) sc_cross_fraction.nd rfl (Or.inl rfl) (pe_ix ix_tup (pe_ix ix_list (pv 0) pe_int (fun _ _ => rfl)) (pv 1) (fun _ _ => rfl)))
    (pss_one (ps_ret (pe_call G_fraction (hr.mono (by decide)) (by rfl) T.m_fraction T.F_fraction.kp T.b_fraction .nil pass0 (pa_cons (pe_op op_mulW (pe_op op_sub (pv 4) (pv 2)) (pe_op op_sub (pv 5) (pv 3))) (pa_cons (pe_op op_mulW (pe_op op_sub (pv 4) (pv 3)) (pe_op op_sub (pv 5) (pv 2))) pa_nil))))))))))
theorem der_centre_fractions (T : Txt K mg A) (G_way : FnOk P w K mg base CX0 1 A.f_way A.d_way ["a", "b"] (sp_way K A)) (G_fraction : FnOk P w K mg base CX0 2 A.f_fraction A.d_fraction ["above", "below"] (sp_fraction K A)) (G_turn : FnOk P w K mg base CX0 1 A.f_turn A.d_turn ["first", "second"] (sp_turn K A)) (G_square : FnOk P w K mg base CX0 2 A.f_square A.d_square ["one"] (sp_square K A)) {cdv : Value} {Ar : Around} {outer : List Env} {s : Shared} {H : Hp} {E : XK}
    (hr : Room 2 (Ar.deeper (envOfC "centre_fractions" (defScope s_centre_fractions) s.heap.objs.size A.f_centre_fractions cdv))) :
    PSs (cxOf CX0 P w K mg base ["p", "stretched", "to_b", "to_c", "below", "across", "up", "told"] "centre_fractions" (defScope s_centre_fractions) A.f_centre_fractions cdv Ar outer s H E).nox (defBody s_centre_fractions) (t_centre_fractions K A) :=
  (pss_cons (ps_set (i := 2) sc_centre_fractions.nd rfl (Or.inl rfl) (pe_call G_way (hr.mono (by decide)) (by rfl) T.m_way T.F_way.kp T.b_way .nil pass0 (pa_cons (pe_ix ix_list (pv 0) pe_int (fun _ _ => rfl)) (pa_cons (pe_ix ix_list (pv 0) pe_int (fun _ _ => rfl)) pa_nil))))
    (pss_cons (ps_set (i := 3) sc_centre_fractions.nd rfl (Or.inl rfl) (pe_call G_way (hr.mono (by decide)) (by rfl) T.m_way T.F_way.kp T.b_way .nil pass0 (pa_cons (pe_ix ix_list (pv 0) pe_int (fun _ _ => rfl)) (pa_cons (pe_ix ix_list (pv 0) pe_int (fun _ _ => rfl)) pa_nil))))
    (pss_cons (ps_set (i := 4) sc_centre_fractions.nd rfl (Or.inl rfl) (pe_op op_mulW pe_int (pe_call G_turn (hr.mono (by decide)) (by rfl) T.m_turn T.F_turn.kp T.b_turn .nil pass0 (pa_cons (pv 2) (pa_cons (pv 3) pa_nil)))))
    (pss_cons (ps_set (i := 5) sc_centre_fractions.nd rfl (Or.inl rfl) (pe_op op_sub (pe_op op_mulW (pe_ix ix_tup (pv 3) pe_int (fun _ _ => rfl)) (pe_call G_square (hr.mono (by decide)) (by rfl) T.m_square T.F_square.kp T.b_square .nil pass0 (pa_cons (pv 2) pa_nil))) (pe_op op_mulW (pe_ix ix_tup (pv 2) pe_int (fun _ _ => rfl)) (pe_call G_square (hr.mono (by decide)) (by rfl) T.m_square T.F_square.kp T.b_square .nil pass0 (pa_cons (pv 3) pa_nil)))))
    (pss_cons (ps_set (i := 6) sc_centre_fractions.nd rfl (Or.inl rfl) (pe_op op_sub (pe_op op_mulW (pe_ix ix_tup (pv 2) pe_int (fun _ _ => rfl)) (pe_call G_square (hr.mono (by decide)) (by rfl) T.m_square T.F_square.kp T.b_square .nil pass0 (pa_cons (pv 3) pa_nil))) (pe_op op_mulW (pe_ix ix_tup (pv 3) pe_int (fun _ _ => rfl)) (pe_call G_square (hr.mono (by decide)) (by rfl) T.m_square T.F_square.kp T.b_square .nil pass0 (pa_cons (pv 2) pa_nil)))))
    (pss_cons (ps_set (i := 7) sc_centre_fractions.nd rfl (Or.inl rfl) (pe_call G_fraction (hr.mono (by decide)) (by rfl) T.m_fraction T.F_fraction.kp T.b_fraction .nil pass0 (pa_cons (pe_op op_add (pe_op op_mulW (pe_ix ix_tup (pe_ix ix_list (pv 0) pe_int (fun _ _ => rfl)) pe_int (fun _ _ => rfl)) (pv 4)) (pv 5)) (pa_cons (pe_op op_mulW (pv 4) (pv 1)) pa_nil))))
    (pss_cons (ps_expr (pe_bm PySem.F.plainAttrs_list PySem.F.slot_list_extend PySem.F.type_list_extend mt_extend (pv 7) (pa_cons (pe_call G_fraction (hr.mono (by decide)) (by rfl) T.m_fraction T.F_fraction.kp T.b_fraction .nil pass0 (pa_cons (pe_op op_add (pe_op op_mulW (pe_ix ix_tup (pe_ix ix_list (pv 0) pe_int (fun _ _ => rfl)) pe_int (fun _ _ => rfl)) (pv 4)) (pv 6)) (pa_cons (pe_op op_mulW (pv 4) (pv 1)) pa_nil))) pa_nil)))
    (pss_cons (ps_expr (pe_bm PySem.F.plainAttrs_list PySem.F.slot_list_extend PySem.F.type_list_extend mt_extend (pv 7) (pa_cons (pe_call G_fraction (hr.mono (by decide)) (by rfl) T.m_fraction T.F_fraction.kp T.b_fraction .nil pass0 (pa_cons (pe_op op_add (pe_op op_mulW (pv 5) (pv 5)) (pe_op op_mulW (pv 6) (pv 6))) (pa_cons (pe_op op_mulW (pe_op op_mulW (pe_op op_mulW (pv 4) (pv 1)) (pv 4)) (pv 1)) pa_nil))) pa_nil)))
    (pss_one (ps_ret (pv 7)))))))))))
theorem der_split_calls (T : Txt K mg A) {cdv : Value} {Ar : Around} {outer : List Env} {s : Shared} {H : Hp} {E : XK}
    (hr : Room 0 (Ar.deeper (envOfC "split_calls" (defScope s_split_calls) s.heap.objs.size A.f_split_calls cdv))) :
    PSs (cxOf CX0 P w K mg base ["calls", "told", "start", "call", "end", "numbers", "row", "row_start"] "split_calls" (defScope s_split_calls) A.f_split_calls cdv Ar outer s H E).nox (defBody s_split_calls) (t_split_calls K A) :=
  (pss_cons (ps_set (i := 1) sc_split_calls.nd rfl (Or.inl rfl) (pe_lst pa_nil))
    (pss_cons (ps_set (i := 2) sc_split_calls.nd rfl (Or.inl rfl) pe_int)
    (pss_cons (ps_while PassesOwn.never (pt_cmpR op_lt (pv 2) (pe_callB call_len_seq (by rfl) T.n_len PySem.boot_len (pa_cons (pv 0) pa_nil)) (nomark _))
    (pss_cons (ps_set (i := 3) sc_split_calls.nd rfl (Or.inl rfl) (pe_ix ix_list (pv 0) (pv 2) (fun _ _ => rfl)))
    (pss_cons (ps_set (i := 4) sc_split_calls.nd rfl (Or.inl rfl) (pe_op op_add (pe_op op_add (pv 2) pe_int) (pe_ix ix_tup (pe_glob (by rfl) T.g_PLAIN_NUMBERS rfl) (pv 3) (fun _ _ => rfl))))
    (pss_cons (ps_set (i := 5) sc_split_calls.nd rfl (Or.inl rfl) (pe_slice sl_list (pv 0) (po_some (pe_op op_add (pv 2) pe_int)) (po_some (pv 4))))
    (pss_cons (ps_set (i := 6) sc_split_calls.nd rfl (Or.inl rfl) (pe_lst pa_nil))
    (pss_cons (ps_if (pt_cmpR op_in_seq (pv 3) (pe_glob (by rfl) T.g_CALLS_WITH_ROW rfl) (by with_unfolding_all rfl))
    (pss_cons (ps_set (i := 7) sc_split_calls.nd rfl (Or.inl rfl) (pe_op op_add (pv 4) pe_int))
    (pss_cons (ps_set (i := 4) sc_split_calls.nd rfl (Or.inl rfl) (pe_op op_add (pv 7) (pe_ix ix_list (pv 0) (pv 4) (fun _ _ => rfl))))
    (pss_one (ps_set (i := 6) sc_split_calls.nd rfl (Or.inl rfl) (pe_slice sl_list (pv 0) (po_some (pv 7)) (po_some (pv 4)))))))
    pss_nil)
    (pss_cons (ps_expr (pe_bm PySem.F.plainAttrs_list PySem.F.slot_list_append PySem.F.type_list_append mt_append (pv 1) (pa_cons (pe_tup (pa_cons (pv 3) (pa_cons (pv 5) (pa_cons (pv 6) pa_nil)))) pa_nil)))
    (pss_one (ps_set (i := 2) sc_split_calls.nd rfl (Or.inl rfl) (pv 4))))))))))
    (pss_one (ps_ret (pv 1))))))
theorem der_answer_with (T : Txt K mg A) (G_is_too_large_to_tell : FnOk P w K mg base CX0 1 A.f_is_too_large_to_tell A.d_is_too_large_to_tell ["numbers"] (sp_is_too_large_to_tell K A)) {cdv : Value} {Ar : Around} {outer : List Env} {s : Shared} {H : Hp} {E : XK}
    (hr : Room 1 (Ar.deeper (envOfC "answer_with" (defScope s_answer_with) s.heap.objs.size A.f_answer_with cdv))) :
    PSs (cxOf CX0 P w K mg base ["numbers"] "answer_with" (defScope s_answer_with) A.f_answer_with cdv Ar outer s H E).nox (defBody s_answer_with) (t_answer_with K A) :=
  (pss_cons (ps_if (pt_val (pe_call G_is_too_large_to_tell (hr.mono (by decide)) (by rfl) T.m_is_too_large_to_tell T.F_is_too_large_to_tell.kp T.b_is_too_large_to_tell .nil pass0 (pa_cons (pv 0) pa_nil)))
    (pss_one (ps_ret (pe_lst (pa_cons (pe_glob (by rfl) T.g_TOO_LARGE ⟨_, rfl⟩) pa_nil))))
    pss_nil)
    (pss_one (ps_ret (pe_op op_cat (pe_lst (pa_cons pe_int pa_nil)) (pv 0)))))
theorem der_Plane___init__ (T : Txt K mg A) {cdv : Value} {Ar : Around} {outer : List Env} {s : Shared} {H : Hp} {E : XK}
    (hr : Room 0 (Ar.deeper (envOfC "Plane.__init__" (defScope s_Plane___init__) s.heap.objs.size A.f_Plane___init__ cdv))) :
    PSs (cxOf CX0 P w K mg base ["self"] "Plane.__init__" (defScope s_Plane___init__) A.f_Plane___init__ cdv Ar outer s H E).nox (defBody s_Plane___init__) (t_Plane___init__ K A) :=
  (pss_cons (ps_fld (pv 0) pe_bl rfl)
    (pss_one (ps_fld (pv 0) (pe_lst pa_nil) rfl)))
theorem der_Plane_begin (T : Txt K mg A) {cdv : Value} {Ar : Around} {outer : List Env} {s : Shared} {H : Hp} {E : XK}
    (hr : Room 0 (Ar.deeper (envOfC "Plane.begin" (defScope s_Plane_begin) s.heap.objs.size A.f_Plane_begin cdv))) :
    PSs (cxOf CX0 P w K mg base ["self"] "Plane.begin" (defScope s_Plane_begin) A.f_Plane_begin cdv Ar outer s H E).nox (defBody s_Plane_begin) (t_Plane_begin K A) :=
  (pss_cons (ps_fld (pv 0) pe_bl rfl)
    (pss_cons (ps_fld (pv 0) (pe_lst pa_nil) rfl)
    (pss_one (ps_ret pe_int))))
theorem der_Plane_point (T : Txt K mg A) (G_may_be_told : FnOk P w K mg base CX0 1 A.f_may_be_told A.d_may_be_told ["x", "y", "w"] (sp_may_be_told K A)) (G_three_numbers : FnOk P w K mg base CX0 2 A.f_three_numbers A.d_three_numbers ["x", "y", "w"] (sp_three_numbers K A)) {cdv : Value} {Ar : Around} {outer : List Env} {s : Shared} {H : Hp} {E : XK}
    (hr : Room 2 (Ar.deeper (envOfC "Plane.point" (defScope s_Plane_point) s.heap.objs.size A.f_Plane_point cdv))) :
    PSs (cxOf CX0 P w K mg base ["self", "x", "y", "w"] "Plane.point" (defScope s_Plane_point) A.f_Plane_point cdv Ar outer s H E).nox (defBody s_Plane_point) (t_Plane_point K A) :=
  (pss_cons (ps_if (pt_not (pt_val (pe_call G_may_be_told (hr.mono (by decide)) (by rfl) T.m_may_be_told T.F_may_be_told.kp T.b_may_be_told .nil pass0 (pa_cons (pv 1) (pa_cons (pv 2) (pa_cons (pv 3) pa_nil))))))
    (pss_one (ps_ret (pe_glob (by rfl) T.g_WRONG_NUMBERS ⟨_, rfl⟩)))
    pss_nil)
    (pss_cons (ps_if (pt_cmpR op_ge (pe_callB call_len_seq (by rfl) T.n_len PySem.boot_len (pa_cons (pe_fld (pv 0) rfl) pa_nil)) (pe_glob (by rfl) T.g_MOST_POINTS ⟨_, rfl⟩) (nomark _))
    (pss_one (ps_ret (pe_glob (by rfl) T.g_NO_ROOM ⟨_, rfl⟩)))
    pss_nil)
    (pss_cons (ps_expr (pe_bm PySem.F.plainAttrs_list PySem.F.slot_list_append PySem.F.type_list_append mt_append (pe_fld (pv 0) rfl) (pa_cons (pe_call G_three_numbers (hr.mono (by decide)) (by rfl) T.m_three_numbers T.F_three_numbers.kp T.b_three_numbers .nil pass0 (pa_cons (pv 1) (pa_cons (pv 2) (pa_cons (pv 3) pa_nil)))) pa_nil)))
    (pss_one (ps_ret (pe_op op_sub (pe_callB call_len_seq (by rfl) T.n_len PySem.boot_len (pa_cons (pe_fld (pv 0) rfl) pa_nil)) pe_int))))))
theorem der_Plane_put (T : Txt K mg A) (G_three_numbers : FnOk P w K mg base CX0 2 A.f_three_numbers A.d_three_numbers ["x", "y", "w"] (sp_three_numbers K A)) (G_may_be_told : FnOk P w K mg base CX0 1 A.f_may_be_told A.d_may_be_told ["x", "y", "w"] (sp_may_be_told K A)) {cdv : Value} {Ar : Around} {outer : List Env} {s : Shared} {H : Hp} {E : XK}
    (hr : Room 2 (Ar.deeper (envOfC "Plane.put" (defScope s_Plane_put) s.heap.objs.size A.f_Plane_put cdv))) :
    PSs (cxOf CX0 P w K mg base ["self", "p", "x", "y", "w"] "Plane.put" (defScope s_Plane_put) A.f_Plane_put cdv Ar outer s H E).nox (defBody s_Plane_put) (t_Plane_put K A) :=
  (pss_cons (ps_if (pt_cmpR op_ge (pv 1) (pe_callB call_len_seq (by rfl) T.n_len PySem.boot_len (pa_cons (pe_fld (pv 0) rfl) pa_nil)) (nomark _))
    (pss_one (ps_ret (pe_glob (by rfl) T.g_NO_POINT ⟨_, rfl⟩)))
    pss_nil)
    (pss_cons (ps_if (pt_not (pt_val (pe_call G_may_be_told (hr.mono (by decide)) (by rfl) T.m_may_be_told T.F_may_be_told.kp T.b_may_be_told .nil pass0 (pa_cons (pv 2) (pa_cons (pv 3) (pa_cons (pv 4) pa_nil))))))
    (pss_one (ps_ret (pe_glob (by rfl) T.g_WRONG_NUMBERS ⟨_, rfl⟩)))
    pss_nil)
    (pss_cons (ps_asg (pe_call G_three_numbers (hr.mono (by decide)) (by rfl) T.m_three_numbers T.F_three_numbers.kp T.b_three_numbers .nil pass0 (pa_cons (pv 2) (pa_cons (pv 3) (pa_cons (pv 4) pa_nil)))) (pg_sub (pe_fld (pv 0) rfl) (pv 1) set_list))
    (pss_one (ps_ret pe_int)))))
theorem der_Plane_out (T : Txt K mg A) {cdv : Value} {Ar : Around} {outer : List Env} {s : Shared} {H : Hp} {E : XK}
    (hr : Room 0 (Ar.deeper (envOfC "Plane.out" (defScope s_Plane_out) s.heap.objs.size A.f_Plane_out cdv))) :
    PSs (cxOf CX0 P w K mg base ["self"] "Plane.out" (defScope s_Plane_out) A.f_Plane_out cdv Ar outer s H E).nox (defBody s_Plane_out) (t_Plane_out K A) :=
  (pss_cons (ps_if (pt_cmpR op_eq (pe_callB call_len_seq (by rfl) T.n_len PySem.boot_len (pa_cons (pe_fld (pv 0) rfl) pa_nil)) pe_int (nomark _))
    (pss_one (ps_ret (pe_glob (by rfl) T.g_NO_POINT ⟨_, rfl⟩)))
    pss_nil)
    (pss_cons (ps_expr (pe_bm0 PySem.F.plainAttrs_list PySem.F.slot_list_pop PySem.F.type_list_pop mt_pop (pe_fld (pv 0) rfl)))
    (pss_one (ps_ret (pe_callB call_len_seq (by rfl) T.n_len PySem.boot_len (pa_cons (pe_fld (pv 0) rfl) pa_nil))))))
theorem der_Plane_bend (T : Txt K mg A) (G_may_bend : FnOk P w K mg base CX0 2 A.f_may_bend A.d_may_bend ["row"] (sp_may_bend K A)) (G_bent : FnOk P w K mg base CX0 1 A.f_bent A.d_bent ["place", "m"] (sp_bent K A)) (G_three_numbers : FnOk P w K mg base CX0 2 A.f_three_numbers A.d_three_numbers ["x", "y", "w"] (sp_three_numbers K A)) (G_is_too_large : FnOk P w K mg base CX0 1 A.f_is_too_large A.d_is_too_large ["place"] (sp_is_too_large K A)) {cdv : Value} {Ar : Around} {outer : List Env} {s : Shared} {H : Hp} {E : XK}
    (hr : Room 2 (Ar.deeper (envOfC "Plane.bend" (defScope s_Plane_bend) s.heap.objs.size A.f_Plane_bend cdv))) :
    PSs (cxOf CX0 P w K mg base ["self", "row", "brought", "places", "place", "triple"] "Plane.bend" (defScope s_Plane_bend) A.f_Plane_bend cdv Ar outer s H E).nox (defBody s_Plane_bend) (t_Plane_bend K A) :=
  (pss_cons (ps_if (pt_not (pt_val (pe_call G_may_bend (hr.mono (by decide)) (by rfl) T.m_may_bend T.F_may_bend.kp T.b_may_bend .nil pass0 (pa_cons (pv 1) pa_nil))))
    (pss_one (ps_ret (pe_glob (by rfl) T.g_WRONG_NUMBERS ⟨_, rfl⟩)))
    pss_nil)
    (pss_cons (ps_setLc (i := 2) (own := [("place", 4)]) (g := (gName 4)) (tt := tYes) (te := (tCall (sp_bent K A) [] E0 (tCons (tVar 4) (tCons (tVar 1) tNil)))) (by rfl) sc_Plane_bend.nd rfl rfl (sw_true rfl rfl rfl (by decide +kernel)) (pi_list (pe_fld (pv 0) rfl)) (blkOk_by (own := [("place", 4)]) (N := ["self", "row", "brought", "places", "place", "triple"]) (sc := defScope s_Plane_bend) (by decide +kernel)) (fun _ _ _ _ _ => (pg_name (i := 4) sc_Plane_bend.nd rfl (Or.inl rfl))) (fun _ _ _ _ _ => pts_nil) (fun _ _ _ _ _ => (pe_call G_bent (hr.mono (by decide)) (by rfl) T.m_bent T.F_bent.kp T.b_bent .nil pass0 (pa_cons (pv 4) (pa_cons (pv 1) pa_nil)))))
    (pss_cons (ps_if (pt_val (pe_callB (cr_any rfl) (by rfl) T.n_any (by decide +kernel) (pa_cons (pe_lc (own := [("triple", 5)]) (g := (gName 5)) (tt := tYes) (te := (tOp rEq (tOp (rIxT K) (tVar 5) (tC (.int 2))) (tC (.int 0)))) (by rfl) sc_Plane_bend.nd (pi_list (pv 2)) (blkOk_by (own := [("triple", 5)]) (N := ["self", "row", "brought", "places", "place", "triple"]) (sc := defScope s_Plane_bend) (by decide +kernel)) (fun _ _ _ _ _ => (pg_name (i := 5) sc_Plane_bend.nd rfl (Or.inl rfl))) (fun _ _ _ _ _ => pts_nil) (fun _ _ _ _ _ => (pe_cmpR op_eq (pe_ix ix_tup (pv 5) pe_int (fun _ _ => rfl)) pe_int (nomark _)))) pa_nil)))
    (pss_one (ps_ret (pe_glob (by rfl) T.g_GOES_AWAY ⟨_, rfl⟩)))
    pss_nil)
    (pss_cons (ps_setLc (i := 3) (own := [("triple", 5)]) (g := (gName 5)) (tt := tYes) (te := (tCall (sp_three_numbers K A) [] E0 (tCons (tOp (rIxT K) (tVar 5) (tC (.int 0))) (tCons (tOp (rIxT K) (tVar 5) (tC (.int 1))) (tCons (tOp (rIxT K) (tVar 5) (tC (.int 2))) tNil))))) (by rfl) sc_Plane_bend.nd rfl rfl (sw_true rfl rfl rfl (by decide +kernel)) (pi_list (pv 2)) (blkOk_by (own := [("triple", 5)]) (N := ["self", "row", "brought", "places", "place", "triple"]) (sc := defScope s_Plane_bend) (by decide +kernel)) (fun _ _ _ _ _ => (pg_name (i := 5) sc_Plane_bend.nd rfl (Or.inl rfl))) (fun _ _ _ _ _ => pts_nil) (fun _ _ _ _ _ => (pe_call G_three_numbers (hr.mono (by decide)) (by rfl) T.m_three_numbers T.F_three_numbers.kp T.b_three_numbers .nil pass0 (pa_cons (pe_ix ix_tup (pv 5) pe_int (fun _ _ => rfl)) (pa_cons (pe_ix ix_tup (pv 5) pe_int (fun _ _ => rfl)) (pa_cons (pe_ix ix_tup (pv 5) pe_int (fun _ _ => rfl)) pa_nil))))))
    (pss_cons (ps_if (pt_val (pe_callB (cr_any rfl) (by rfl) T.n_any (by decide +kernel) (pa_cons (pe_lc (own := [("place", 4)]) (g := (gName 4)) (tt := tYes) (te := (tCall (sp_is_too_large K A) [] E0 (tCons (tVar 4) tNil))) (by rfl) sc_Plane_bend.nd (pi_list (pv 3)) (blkOk_by (own := [("place", 4)]) (N := ["self", "row", "brought", "places", "place", "triple"]) (sc := defScope s_Plane_bend) (by decide +kernel)) (fun _ _ _ _ _ => (pg_name (i := 4) sc_Plane_bend.nd rfl (Or.inl rfl))) (fun _ _ _ _ _ => pts_nil) (fun _ _ _ _ _ => (pe_call G_is_too_large (hr.mono (by decide)) (by rfl) T.m_is_too_large T.F_is_too_large.kp T.b_is_too_large .nil pass0 (pa_cons (pv 4) pa_nil)))) pa_nil)))
    (pss_one (ps_ret (pe_glob (by rfl) T.g_TOO_LARGE ⟨_, rfl⟩)))
    pss_nil)
    (pss_cons (ps_fld (pv 0) (pv 3) rfl)
    (pss_one (ps_ret pe_int))))))))
theorem der_Plane_slant (T : Txt K mg A) (G_Plane_bend : FnOk P w K mg base CX0 3 A.f_Plane_bend A.d_Plane_bend ["self", "row"] (sp_Plane_bend K A)) (G_nine_of_slant : FnOk P w K mg base CX0 1 A.f_nine_of_slant A.d_nine_of_slant ["a", "b", "c", "d", "e", "f"] (sp_nine_of_slant K A)) {cdv : Value} {Ar : Around} {outer : List Env} {s : Shared} {H : Hp} {E : XK}
    (hr : Room 3 (Ar.deeper (envOfC "Plane.slant" (defScope s_Plane_slant) s.heap.objs.size A.f_Plane_slant cdv))) :
    PSs (cxOf CX0 P w K mg base ["self", "a", "b", "c", "d", "e", "f"] "Plane.slant" (defScope s_Plane_slant) A.f_Plane_slant cdv Ar outer s H E).nox (defBody s_Plane_slant) (t_Plane_slant K A) :=
  (pss_one (ps_ret (pe_meth (pv 0) T.cl_Plane T.me_Plane_bend G_Plane_bend (hr.mono (by decide)) T.b_Plane_bend .nil pass0 (pa_cons (pe_call G_nine_of_slant (hr.mono (by decide)) (by rfl) T.m_nine_of_slant T.F_nine_of_slant.kp T.b_nine_of_slant .nil pass0 (pa_cons (pv 1) (pa_cons (pv 2) (pa_cons (pv 3) (pa_cons (pv 4) (pa_cons (pv 5) (pa_cons (pv 6) pa_nil))))))) pa_nil))))
theorem der_Plane_points (T : Txt K mg A) {cdv : Value} {Ar : Around} {outer : List Env} {s : Shared} {H : Hp} {E : XK}
    (hr : Room 0 (Ar.deeper (envOfC "Plane.points" (defScope s_Plane_points) s.heap.objs.size A.f_Plane_points cdv))) :
    PSs (cxOf CX0 P w K mg base ["self"] "Plane.points" (defScope s_Plane_points) A.f_Plane_points cdv Ar outer s H E).nox (defBody s_Plane_points) (t_Plane_points K A) :=
  (pss_one (ps_ret (pe_callB call_len_seq (by rfl) T.n_len PySem.boot_len (pa_cons (pe_fld (pv 0) rfl) pa_nil))))
theorem der_Plane_has_each (T : Txt K mg A) {cdv : Value} {Ar : Around} {outer : List Env} {s : Shared} {H : Hp} {E : XK}
    (hr : Room 0 (Ar.deeper (envOfC "Plane.has_each" (defScope s_Plane_has_each) s.heap.objs.size A.f_Plane_has_each cdv))) :
    PSs (cxOf CX0 P w K mg base ["self", "numbers", "p"] "Plane.has_each" (defScope s_Plane_has_each) A.f_Plane_has_each cdv Ar outer s H E).nox (defBody s_Plane_has_each) (t_Plane_has_each K A) :=
  (pss_one (ps_ret (pe_callB (cr_all rfl) (by rfl) T.n_all (by decide +kernel) (pa_cons (pe_lc (own := [("p", 2)]) (g := (gName 2)) (tt := tYes) (te := (tOp oLt (tVar 2) (tCB (Evl.rLenS K) (tCons (tFld K (tVar 0) "places") tNil)))) (by rfl) sc_Plane_has_each.nd (pi_list (pv 1)) (blkOk_by (own := [("p", 2)]) (N := ["self", "numbers", "p"]) (sc := defScope s_Plane_has_each) (by decide +kernel)) (fun _ _ _ _ _ => (pg_name (i := 2) sc_Plane_has_each.nd rfl (Or.inl rfl))) (fun _ _ _ _ _ => pts_nil) (fun _ _ _ _ _ => (pe_cmpR op_lt (pv 2) (pe_callB call_len_seq (by rfl) T.n_len PySem.boot_len (pa_cons (pe_fld (pv 0) rfl) pa_nil)) (nomark _)))) pa_nil))))
theorem der_Plane_places_of (T : Txt K mg A) {cdv : Value} {Ar : Around} {outer : List Env} {s : Shared} {H : Hp} {E : XK}
    (hr : Room 0 (Ar.deeper (envOfC "Plane.places_of" (defScope s_Plane_places_of) s.heap.objs.size A.f_Plane_places_of cdv))) :
    PSs (cxOf CX0 P w K mg base ["self", "numbers", "p"] "Plane.places_of" (defScope s_Plane_places_of) A.f_Plane_places_of cdv Ar outer s H E).nox (defBody s_Plane_places_of) (t_Plane_places_of K A) :=
  (pss_one (ps_ret (pe_lc (own := [("p", 2)]) (g := (gName 2)) (tt := tYes) (te := (tOp (rIxL K) (tFld K (tVar 0) "places") (tVar 2))) (by rfl) sc_Plane_places_of.nd (pi_list (pv 1)) (blkOk_by (own := [("p", 2)]) (N := ["self", "numbers", "p"]) (sc := defScope s_Plane_places_of) (by decide +kernel)) (fun _ _ _ _ _ => (pg_name (i := 2) sc_Plane_places_of.nd rfl (Or.inl rfl))) (fun _ _ _ _ _ => pts_nil) (fun _ _ _ _ _ => (pe_ix ix_list (pe_fld (pv 0) rfl) (pv 2) (fun _ _ => rfl))))))
theorem der_Plane_where (T : Txt K mg A) (G_Plane_has_each : FnOk P w K mg base CX0 1 A.f_Plane_has_each A.d_Plane_has_each ["self", "numbers"] (sp_Plane_has_each K A)) (G_fraction : FnOk P w K mg base CX0 2 A.f_fraction A.d_fraction ["above", "below"] (sp_fraction K A)) {cdv : Value} {Ar : Around} {outer : List Env} {s : Shared} {H : Hp} {E : XK}
    (hr : Room 2 (Ar.deeper (envOfC "Plane.where" (defScope s_Plane_where) s.heap.objs.size A.f_Plane_where cdv))) :
    PSs (cxOf CX0 P w K mg base ["self", "p", "place"] "Plane.where" (defScope s_Plane_where) A.f_Plane_where cdv Ar outer s H E).nox (defBody s_Plane_where) (t_Plane_where K A) :=
  (pss_cons (ps_if (pt_not (pt_val (pe_meth (pv 0) T.cl_Plane T.me_Plane_has_each G_Plane_has_each (hr.mono (by decide)) T.b_Plane_has_each .nil pass0 (pa_cons (pe_lst (pa_cons (pv 1) pa_nil)) pa_nil))))
    (pss_one (ps_ret (pe_lst (pa_cons (pe_glob (by rfl) T.g_NO_POINT ⟨_, rfl⟩) pa_nil))))
    pss_nil)
    (pss_cons (ps_set (i := 2) sc_Plane_where.nd rfl (Or.inl rfl) (pe_ix ix_list (pe_fld (pv 0) rfl) (pv 1) (fun _ _ => rfl)))
    (pss_one (ps_ret (pe_op op_cat (pe_op op_cat (pe_lst (pa_cons pe_int pa_nil)) (pe_call G_fraction (hr.mono (by decide)) (by rfl) T.m_fraction T.F_fraction.kp T.b_fraction .nil pass0 (pa_cons (pe_ix ix_tup (pv 2) pe_int (fun _ _ => rfl)) (pa_cons (pe_ix ix_tup (pv 2) pe_int (fun _ _ => rfl)) pa_nil)))) (pe_call G_fraction (hr.mono (by decide)) (by rfl) T.m_fraction T.F_fraction.kp T.b_fraction .nil pass0 (pa_cons (pe_ix ix_tup (pv 2) pe_int (fun _ _ => rfl)) (pa_cons (pe_ix ix_tup (pv 2) pe_int (fun _ _ => rfl)) pa_nil))))))))
theorem der_Plane_says (T : Txt K mg A) (G_may_be_said : FnOk P w K mg base CX0 2 A.f_may_be_said A.d_may_be_said ["kind", "row"] (sp_may_be_said K A)) (G_Plane_has_each : FnOk P w K mg base CX0 1 A.f_Plane_has_each A.d_Plane_has_each ["self", "numbers"] (sp_Plane_has_each K A)) (G_is_so : FnOk P w K mg base CX0 5 A.f_is_so A.d_is_so ["kind", "p", "others"] (sp_is_so K A)) (G_whole_places : FnOk P w K mg base CX0 3 A.f_whole_places A.d_whole_places ["places"] (sp_whole_places K A)) (G_Plane_places_of : FnOk P w K mg base CX0 1 A.f_Plane_places_of A.d_Plane_places_of ["self", "numbers"] (sp_Plane_places_of K A)) {cdv : Value} {Ar : Around} {outer : List Env} {s : Shared} {H : Hp} {E : XK}
    (hr : Room 5 (Ar.deeper (envOfC "Plane.says" (defScope s_Plane_says) s.heap.objs.size A.f_Plane_says cdv))) :
    PSs (cxOf CX0 P w K mg base ["self", "kind", "row", "told", "others"] "Plane.says" (defScope s_Plane_says) A.f_Plane_says cdv Ar outer s H E).nox (defBody s_Plane_says) (t_Plane_says K A) :=
  (pss_cons (ps_if (pt_not (pt_val (pe_call G_may_be_said (hr.mono (by decide)) (by rfl) T.m_may_be_said T.F_may_be_said.kp T.b_may_be_said .nil pass0 (pa_cons (pv 1) (pa_cons (pv 2) pa_nil)))))
    (pss_one (ps_ret (pe_glob (by rfl) T.g_WRONG_NUMBERS ⟨_, rfl⟩)))
    pss_nil)
    (pss_cons (ps_set (i := 3) sc_Plane_says.nd rfl (Or.inl rfl) (pe_slice sl_list (pv 2) po_none (po_some (pe_ix ix_tup (pe_glob (by rfl) T.g_POINTS_OF_KIND rfl) (pv 1) (fun _ _ => rfl)))))
    (pss_cons (ps_if (pt_not (pt_val (pe_meth (pv 0) T.cl_Plane T.me_Plane_has_each G_Plane_has_each (hr.mono (by decide)) T.b_Plane_has_each .nil pass0 (pa_cons (pv 3) pa_nil))))
    (pss_one (ps_ret (pe_glob (by rfl) T.g_NO_POINT ⟨_, rfl⟩)))
    pss_nil)
    (pss_cons (ps_set (i := 4) sc_Plane_says.nd rfl (Or.inl rfl) (pe_slice sl_list (pv 2) (po_some (pe_ix ix_tup (pe_glob (by rfl) T.g_POINTS_OF_KIND rfl) (pv 1) (fun _ _ => rfl))) po_none))
    (pss_one (ps_ret (pe_ifExp (pt_val (pe_call G_is_so (hr.mono (by decide)) (by rfl) T.m_is_so T.F_is_so.kp T.b_is_so .nil pass0 (pa_cons (pv 1) (pa_cons (pe_call G_whole_places (hr.mono (by decide)) (by rfl) T.m_whole_places T.F_whole_places.kp T.b_whole_places .nil pass0 (pa_cons (pe_meth (pv 0) T.cl_Plane T.me_Plane_places_of G_Plane_places_of (hr.mono (by decide)) T.b_Plane_places_of .nil pass0 (pa_cons (pv 3) pa_nil)) pa_nil)) (pa_cons (pv 4) pa_nil))))) pe_int pe_int)))))))
theorem der_Plane_every (T : Txt K mg A) (G_rows_so : FnOk P w K mg base CX0 6 A.f_rows_so A.d_rows_so ["kind", "p"] (sp_rows_so K A)) (G_whole_places : FnOk P w K mg base CX0 3 A.f_whole_places A.d_whole_places ["places"] (sp_whole_places K A)) {cdv : Value} {Ar : Around} {outer : List Env} {s : Shared} {H : Hp} {E : XK}
    (hr : Room 6 (Ar.deeper (envOfC "Plane.every" (defScope s_Plane_every) s.heap.objs.size A.f_Plane_every cdv))) :
    PSs (cxOf CX0 P w K mg base ["self", "kind", "rows", "answer", "row"] "Plane.every" (defScope s_Plane_every) A.f_Plane_every cdv Ar outer s H E).nox (defBody s_Plane_every) (t_Plane_every K A) :=
  (pss_cons (ps_if (pt_cmpR op_notIn_seq (pv 1) (pe_glob (by rfl) T.g_KINDS_OF_ALL rfl) (by with_unfolding_all rfl))
    (pss_one (ps_ret (pe_lst (pa_cons (pe_glob (by rfl) T.g_WRONG_NUMBERS ⟨_, rfl⟩) pa_nil))))
    pss_nil)
    (pss_cons (ps_set (i := 2) sc_Plane_every.nd rfl (Or.inl rfl) (pe_call G_rows_so (hr.mono (by decide)) (by rfl) T.m_rows_so T.F_rows_so.kp T.b_rows_so .nil pass0 (pa_cons (pv 1) (pa_cons (pe_call G_whole_places (hr.mono (by decide)) (by rfl) T.m_whole_places T.F_whole_places.kp T.b_whole_places .nil pass0 (pa_cons (pe_fld (pv 0) rfl) pa_nil)) pa_nil))))
    (pss_cons (ps_set (i := 3) sc_Plane_every.nd rfl (Or.inl rfl) (pe_lst (pa_cons (pe_callB call_len_seq (by rfl) T.n_len PySem.boot_len (pa_cons (pv 2) pa_nil)) pa_nil)))
    (pss_cons (ps_for PassesOwn.never rfl (pi_list (pv 2)) (pg_name (i := 4) sc_Plane_every.nd rfl (Or.inl rfl))
    (pss_one (ps_expr (pe_bm PySem.F.plainAttrs_list PySem.F.slot_list_extend PySem.F.type_list_extend mt_extend (pv 3) (pa_cons (pv 4) pa_nil)))))
    (pss_one (ps_ret (pv 3)))))))
theorem der_Plane_most (T : Txt K mg A) (G_largest_set : FnOk P w K mg base CX0 7 A.f_largest_set A.d_largest_set ["kind", "p"] (sp_largest_set K A)) (G_whole_places : FnOk P w K mg base CX0 3 A.f_whole_places A.d_whole_places ["places"] (sp_whole_places K A)) {cdv : Value} {Ar : Around} {outer : List Env} {s : Shared} {H : Hp} {E : XK}
    (hr : Room 7 (Ar.deeper (envOfC "Plane.most" (defScope s_Plane_most) s.heap.objs.size A.f_Plane_most cdv))) :
    PSs (cxOf CX0 P w K mg base ["self", "kind", "members"] "Plane.most" (defScope s_Plane_most) A.f_Plane_most cdv Ar outer s H E).nox (defBody s_Plane_most) (t_Plane_most K A) :=
  (pss_cons (ps_if (pt_cmpR op_notIn_seq (pv 1) (pe_glob (by rfl) T.g_KINDS_OF_MOST rfl) (by with_unfolding_all rfl))
    (pss_one (ps_ret (pe_lst (pa_cons (pe_glob (by rfl) T.g_WRONG_NUMBERS ⟨_, rfl⟩) pa_nil))))
    pss_nil)
    (pss_cons (ps_set (i := 2) sc_Plane_most.nd rfl (Or.inl rfl) (pe_call G_largest_set (hr.mono (by decide)) (by rfl) T.m_largest_set T.F_largest_set.kp T.b_largest_set .nil pass0 (pa_cons (pv 1) (pa_cons (pe_call G_whole_places (hr.mono (by decide)) (by rfl) T.m_whole_places T.F_whole_places.kp T.b_whole_places .nil pass0 (pa_cons (pe_fld (pv 0) rfl) pa_nil)) pa_nil))))
    (pss_one (ps_ret (pe_op op_cat (pe_lst (pa_cons (pe_callB call_len_seq (by rfl) T.n_len PySem.boot_len (pa_cons (pv 2) pa_nil)) pa_nil)) (pv 2))))))
theorem der_Plane_keeps (T : Txt K mg A) (G_may_be_asked : FnOk P w K mg base CX0 2 A.f_may_be_asked A.d_may_be_asked ["kind", "a", "b", "c", "d"] (sp_may_be_asked K A)) (G_is_kept : FnOk P w K mg base CX0 4 A.f_is_kept A.d_is_kept ["kind", "a", "b", "c", "d"] (sp_is_kept K A)) {cdv : Value} {Ar : Around} {outer : List Env} {s : Shared} {H : Hp} {E : XK}
    (hr : Room 4 (Ar.deeper (envOfC "Plane.keeps" (defScope s_Plane_keeps) s.heap.objs.size A.f_Plane_keeps cdv))) :
    PSs (cxOf CX0 P w K mg base ["self", "kind", "a", "b", "c", "d"] "Plane.keeps" (defScope s_Plane_keeps) A.f_Plane_keeps cdv Ar outer s H E).nox (defBody s_Plane_keeps) (t_Plane_keeps K A) :=
  (pss_cons (ps_if (pt_not (pt_val (pe_call G_may_be_asked (hr.mono (by decide)) (by rfl) T.m_may_be_asked T.F_may_be_asked.kp T.b_may_be_asked .nil pass0 (pa_cons (pv 1) (pa_cons (pv 2) (pa_cons (pv 3) (pa_cons (pv 4) (pa_cons (pv 5) pa_nil))))))))
    (pss_one (ps_ret (pe_glob (by rfl) T.g_WRONG_NUMBERS ⟨_, rfl⟩)))
    pss_nil)
    (pss_one (ps_ret (pe_ifExp (pt_val (pe_call G_is_kept (hr.mono (by decide)) (by rfl) T.m_is_kept T.F_is_kept.kp T.b_is_kept .nil pass0 (pa_cons (pv 1) (pa_cons (pv 2) (pa_cons (pv 3) (pa_cons (pv 4) (pa_cons (pv 5) pa_nil))))))) pe_int pe_int))))
theorem der_Plane_cross (T : Txt K mg A) (G_whole_places : FnOk P w K mg base CX0 3 A.f_whole_places A.d_whole_places ["places"] (sp_whole_places K A)) (G_answer_with : FnOk P w K mg base CX0 2 A.f_answer_with A.d_answer_with ["numbers"] (sp_answer_with K A)) (G_Plane_has_each : FnOk P w K mg base CX0 1 A.f_Plane_has_each A.d_Plane_has_each ["self", "numbers"] (sp_Plane_has_each K A)) (G_Plane_places_of : FnOk P w K mg base CX0 1 A.f_Plane_places_of A.d_Plane_places_of ["self", "numbers"] (sp_Plane_places_of K A)) (G_may_be_crossed : FnOk P w K mg base CX0 3 A.f_may_be_crossed A.d_may_be_crossed ["p"] (sp_may_be_crossed K A)) (G_cross_fraction : FnOk P w K mg base CX0 3 A.f_cross_fraction A.d_cross_fraction ["p"] (sp_cross_fraction K A)) {cdv : Value} {Ar : Around} {outer : List Env} {s : Shared} {H : Hp} {E : XK}
    (hr : Room 3 (Ar.deeper (envOfC "Plane.cross" (defScope s_Plane_cross) s.heap.objs.size A.f_Plane_cross cdv))) :
    PSs (cxOf CX0 P w K mg base ["self", "told", "p"] "Plane.cross" (defScope s_Plane_cross) A.f_Plane_cross cdv Ar outer s H E).nox (defBody s_Plane_cross) (t_Plane_cross K A) :=
  (pss_cons (ps_if (pt_not (pt_val (pe_meth (pv 0) T.cl_Plane T.me_Plane_has_each G_Plane_has_each (hr.mono (by decide)) T.b_Plane_has_each .nil pass0 (pa_cons (pv 1) pa_nil))))
    (pss_one (ps_ret (pe_lst (pa_cons (pe_glob (by rfl) T.g_NO_POINT ⟨_, rfl⟩) pa_nil))))
    pss_nil)
    (pss_cons (ps_set (i := 2) sc_Plane_cross.nd rfl (Or.inl rfl) (pe_call G_whole_places (hr.mono (by decide)) (by rfl) T.m_whole_places T.F_whole_places.kp T.b_whole_places .nil pass0 (pa_cons (pe_meth (pv 0) T.cl_Plane T.me_Plane_places_of G_Plane_places_of (hr.mono (by decide)) T.b_Plane_places_of .nil pass0 (pa_cons (pv 1) pa_nil)) pa_nil)))
    (pss_cons (ps_if (pt_not (pt_val (pe_call G_may_be_crossed (hr.mono (by decide)) (by rfl) T.m_may_be_crossed T.F_may_be_crossed.kp T.b_may_be_crossed .nil pass0 (pa_cons (pv 2) pa_nil))))
    (pss_one (ps_ret (pe_lst (pa_cons (pe_glob (by rfl) T.g_NOT_SO_PLACED ⟨_, rfl⟩) pa_nil))))
    pss_nil)
    (pss_one (ps_ret (pe_call G_answer_with (hr.mono (by decide)) (by rfl) T.m_answer_with T.F_answer_with.kp T.b_answer_with .nil pass0 (pa_cons (pe_call G_cross_fraction (hr.mono (by decide)) (by rfl) T.m_cross_fraction T.F_cross_fraction.kp T.b_cross_fraction .nil pass0 (pa_cons (pv 2) pa_nil)) pa_nil)))))))
theorem der_Plane_centre (T : Txt K mg A) (G_Plane_places_of : FnOk P w K mg base CX0 1 A.f_Plane_places_of A.d_Plane_places_of ["self", "numbers"] (sp_Plane_places_of K A)) (G_whole_places : FnOk P w K mg base CX0 3 A.f_whole_places A.d_whole_places ["places"] (sp_whole_places K A)) (G_is_line : FnOk P w K mg base CX0 2 A.f_is_line A.d_is_line ["p"] (sp_is_line K A)) (G_answer_with : FnOk P w K mg base CX0 2 A.f_answer_with A.d_answer_with ["numbers"] (sp_answer_with K A)) (G_Plane_has_each : FnOk P w K mg base CX0 1 A.f_Plane_has_each A.d_Plane_has_each ["self", "numbers"] (sp_Plane_has_each K A)) (G_centre_fractions : FnOk P w K mg base CX0 3 A.f_centre_fractions A.d_centre_fractions ["p", "stretched"] (sp_centre_fractions K A)) (G_common_below : FnOk P w K mg base CX0 2 A.f_common_below A.d_common_below ["places"] (sp_common_below K A)) {cdv : Value} {Ar : Around} {outer : List Env} {s : Shared} {H : Hp} {E : XK}
    (hr : Room 3 (Ar.deeper (envOfC "Plane.centre" (defScope s_Plane_centre) s.heap.objs.size A.f_Plane_centre cdv))) :
    PSs (cxOf CX0 P w K mg base ["self", "told", "places", "p"] "Plane.centre" (defScope s_Plane_centre) A.f_Plane_centre cdv Ar outer s H E).nox (defBody s_Plane_centre) (t_Plane_centre K A) :=
  (pss_cons (ps_if (pt_not (pt_val (pe_meth (pv 0) T.cl_Plane T.me_Plane_has_each G_Plane_has_each (hr.mono (by decide)) T.b_Plane_has_each .nil pass0 (pa_cons (pv 1) pa_nil))))
    (pss_one (ps_ret (pe_lst (pa_cons (pe_glob (by rfl) T.g_NO_POINT ⟨_, rfl⟩) pa_nil))))
    pss_nil)
    (pss_cons (ps_set (i := 2) sc_Plane_centre.nd rfl (Or.inl rfl) (pe_meth (pv 0) T.cl_Plane T.me_Plane_places_of G_Plane_places_of (hr.mono (by decide)) T.b_Plane_places_of .nil pass0 (pa_cons (pv 1) pa_nil)))
    (pss_cons (ps_set (i := 3) sc_Plane_centre.nd rfl (Or.inl rfl) (pe_call G_whole_places (hr.mono (by decide)) (by rfl) T.m_whole_places T.F_whole_places.kp T.b_whole_places .nil pass0 (pa_cons (pv 2) pa_nil)))
    (pss_cons (ps_if (pt_val (pe_call G_is_line (hr.mono (by decide)) (by rfl) T.m_is_line T.F_is_line.kp T.b_is_line .nil pass0 (pa_cons (pv 3) pa_nil)))
    (pss_one (ps_ret (pe_lst (pa_cons (pe_glob (by rfl) T.g_NOT_SO_PLACED ⟨_, rfl⟩) pa_nil))))
    pss_nil)
    (pss_one (ps_ret (pe_call G_answer_with (hr.mono (by decide)) (by rfl) T.m_answer_with T.F_answer_with.kp T.b_answer_with .nil pass0 (pa_cons (pe_call G_centre_fractions (hr.mono (by decide)) (by rfl) T.m_centre_fractions T.F_centre_fractions.kp T.b_centre_fractions .nil pass0 (pa_cons (pv 3) (pa_cons (pe_call G_common_below (hr.mono (by decide)) (by rfl) T.m_common_below T.F_common_below.kp T.b_common_below .nil pass0 (pa_cons (pv 2) pa_nil)) pa_nil))) pa_nil))))))))
theorem der_answer_of (T : Txt K mg A) (G_Plane_centre : FnOk P w K mg base CX0 4 A.f_Plane_centre A.d_Plane_centre ["self", "told"] (sp_Plane_centre K A)) (G_Plane_where : FnOk P w K mg base CX0 3 A.f_Plane_where A.d_Plane_where ["self", "p"] (sp_Plane_where K A)) (G_Plane_every : FnOk P w K mg base CX0 7 A.f_Plane_every A.d_Plane_every ["self", "kind"] (sp_Plane_every K A)) (G_Plane_most : FnOk P w K mg base CX0 8 A.f_Plane_most A.d_Plane_most ["self", "kind"] (sp_Plane_most K A)) (G_Plane_cross : FnOk P w K mg base CX0 4 A.f_Plane_cross A.d_Plane_cross ["self", "told"] (sp_Plane_cross K A)) (G_Plane_begin : FnOk P w K mg base CX0 1 A.f_Plane_begin A.d_Plane_begin ["self"] (sp_Plane_begin K A)) (G_Plane_point : FnOk P w K mg base CX0 3 A.f_Plane_point A.d_Plane_point ["self", "x", "y", "w"] (sp_Plane_point K A)) (G_Plane_put : FnOk P w K mg base CX0 3 A.f_Plane_put A.d_Plane_put ["self", "p", "x", "y", "w"] (sp_Plane_put K A)) (G_Plane_out : FnOk P w K mg base CX0 1 A.f_Plane_out A.d_Plane_out ["self"] (sp_Plane_out K A)) (G_Plane_slant : FnOk P w K mg base CX0 4 A.f_Plane_slant A.d_Plane_slant ["self", "a", "b", "c", "d", "e", "f"] (sp_Plane_slant K A)) (G_Plane_bend : FnOk P w K mg base CX0 3 A.f_Plane_bend A.d_Plane_bend ["self", "row"] (sp_Plane_bend K A)) (G_Plane_points : FnOk P w K mg base CX0 1 A.f_Plane_points A.d_Plane_points ["self"] (sp_Plane_points K A)) (G_Plane_says : FnOk P w K mg base CX0 6 A.f_Plane_says A.d_Plane_says ["self", "kind", "row"] (sp_Plane_says K A)) (G_Plane_keeps : FnOk P w K mg base CX0 5 A.f_Plane_keeps A.d_Plane_keeps ["self", "kind", "a", "b", "c", "d"] (sp_Plane_keeps K A)) {cdv : Value} {Ar : Around} {outer : List Env} {s : Shared} {H : Hp} {E : XK}
    (hr : Room 8 (Ar.deeper (envOfC "answer_of" (defScope s_answer_of) s.heap.objs.size A.f_answer_of cdv))) :
    PSs (cxOf CX0 P w K mg base ["plane", "call", "n", "row"] "answer_of" (defScope s_answer_of) A.f_answer_of cdv Ar outer s H E).nox (defBody s_answer_of) (t_answer_of K A) :=
  (pss_cons (ps_if (pt_cmpR op_eq (pv 1) (pe_glob (by rfl) T.g_BEGIN ⟨_, rfl⟩) (nomark _))
    (pss_one (ps_ret (pe_lst (pa_cons (pe_meth0 (pv 0) T.cl_Plane T.me_Plane_begin G_Plane_begin (hr.mono (by decide)) T.b_Plane_begin .nil pass0) pa_nil))))
    pss_nil)
    (pss_cons (ps_if (pt_not (pt_val (pe_fld (pv 0) rfl)))
    (pss_one (ps_ret (pe_lst (pa_cons (pe_glob (by rfl) T.g_NOT_BEGUN ⟨_, rfl⟩) pa_nil))))
    pss_nil)
    (pss_cons (ps_if (pt_cmpR op_eq (pv 1) (pe_glob (by rfl) T.g_POINT ⟨_, rfl⟩) (nomark _))
    (pss_one (ps_ret (pe_lst (pa_cons (pe_meth (pv 0) T.cl_Plane T.me_Plane_point G_Plane_point (hr.mono (by decide)) T.b_Plane_point .nil pass0 (pa_cons (pe_ix ix_list (pv 2) pe_int (fun _ _ => rfl)) (pa_cons (pe_ix ix_list (pv 2) pe_int (fun _ _ => rfl)) (pa_cons (pe_ix ix_list (pv 2) pe_int (fun _ _ => rfl)) pa_nil)))) pa_nil))))
    pss_nil)
    (pss_cons (ps_if (pt_cmpR op_eq (pv 1) (pe_glob (by rfl) T.g_PUT ⟨_, rfl⟩) (nomark _))
    (pss_one (ps_ret (pe_lst (pa_cons (pe_meth (pv 0) T.cl_Plane T.me_Plane_put G_Plane_put (hr.mono (by decide)) T.b_Plane_put .nil pass0 (pa_cons (pe_ix ix_list (pv 2) pe_int (fun _ _ => rfl)) (pa_cons (pe_ix ix_list (pv 2) pe_int (fun _ _ => rfl)) (pa_cons (pe_ix ix_list (pv 2) pe_int (fun _ _ => rfl)) (pa_cons (pe_ix ix_list (pv 2) pe_int (fun _ _ => rfl)) pa_nil))))) pa_nil))))
    pss_nil)
    (pss_cons (ps_if (pt_cmpR op_eq (pv 1) (pe_glob (by rfl) T.g_OUT ⟨_, rfl⟩) (nomark _))
    (pss_one (ps_ret (pe_lst (pa_cons (pe_meth0 (pv 0) T.cl_Plane T.me_Plane_out G_Plane_out (hr.mono (by decide)) T.b_Plane_out .nil pass0) pa_nil))))
    pss_nil)
    (pss_cons (ps_if (pt_cmpR op_eq (pv 1) (pe_glob (by rfl) T.g_SLANT ⟨_, rfl⟩) (nomark _))
    (pss_one (ps_ret (pe_lst (pa_cons (pe_meth (pv 0) T.cl_Plane T.me_Plane_slant G_Plane_slant (hr.mono (by decide)) T.b_Plane_slant .nil pass0 (pa_cons (pe_ix ix_list (pv 2) pe_int (fun _ _ => rfl)) (pa_cons (pe_ix ix_list (pv 2) pe_int (fun _ _ => rfl)) (pa_cons (pe_ix ix_list (pv 2) pe_int (fun _ _ => rfl)) (pa_cons (pe_ix ix_list (pv 2) pe_int (fun _ _ => rfl)) (pa_cons (pe_ix ix_list (pv 2) pe_int (fun _ _ => rfl)) (pa_cons (pe_ix ix_list (pv 2) pe_int (fun _ _ => rfl)) pa_nil))))))) pa_nil))))
    pss_nil)
    (pss_cons (ps_if (pt_cmpR op_eq (pv 1) (pe_glob (by rfl) T.g_BEND ⟨_, rfl⟩) (nomark _))
    (pss_one (ps_ret (pe_lst (pa_cons (pe_meth (pv 0) T.cl_Plane T.me_Plane_bend G_Plane_bend (hr.mono (by decide)) T.b_Plane_bend .nil pass0 (pa_cons (pv 3) pa_nil)) pa_nil))))
    pss_nil)
    (pss_cons (ps_if (pt_cmpR op_eq (pv 1) (pe_glob (by rfl) T.g_POINTS ⟨_, rfl⟩) (nomark _))
    (pss_one (ps_ret (pe_lst (pa_cons (pe_meth0 (pv 0) T.cl_Plane T.me_Plane_points G_Plane_points (hr.mono (by decide)) T.b_Plane_points .nil pass0) pa_nil))))
    pss_nil)
    (pss_cons (ps_if (pt_cmpR op_eq (pv 1) (pe_glob (by rfl) T.g_WHERE ⟨_, rfl⟩) (nomark _))
    (pss_one (ps_ret (pe_meth (pv 0) T.cl_Plane T.me_Plane_where G_Plane_where (hr.mono (by decide)) T.b_Plane_where .nil pass0 (pa_cons (pe_ix ix_list (pv 2) pe_int (fun _ _ => rfl)) pa_nil))))
    pss_nil)
    (pss_cons (ps_if (pt_cmpR op_eq (pv 1) (pe_glob (by rfl) T.g_SAYS ⟨_, rfl⟩) (nomark _))
    (pss_one (ps_ret (pe_lst (pa_cons (pe_meth (pv 0) T.cl_Plane T.me_Plane_says G_Plane_says (hr.mono (by decide)) T.b_Plane_says .nil pass0 (pa_cons (pe_ix ix_list (pv 2) pe_int (fun _ _ => rfl)) (pa_cons (pv 3) pa_nil))) pa_nil))))
    pss_nil)
    (pss_cons (ps_if (pt_cmpR op_eq (pv 1) (pe_glob (by rfl) T.g_ALL ⟨_, rfl⟩) (nomark _))
    (pss_one (ps_ret (pe_meth (pv 0) T.cl_Plane T.me_Plane_every G_Plane_every (hr.mono (by decide)) T.b_Plane_every .nil pass0 (pa_cons (pe_ix ix_list (pv 2) pe_int (fun _ _ => rfl)) pa_nil))))
    pss_nil)
    (pss_cons (ps_if (pt_cmpR op_eq (pv 1) (pe_glob (by rfl) T.g_MOST ⟨_, rfl⟩) (nomark _))
    (pss_one (ps_ret (pe_meth (pv 0) T.cl_Plane T.me_Plane_most G_Plane_most (hr.mono (by decide)) T.b_Plane_most .nil pass0 (pa_cons (pe_ix ix_list (pv 2) pe_int (fun _ _ => rfl)) pa_nil))))
    pss_nil)
    (pss_cons (ps_if (pt_cmpR op_eq (pv 1) (pe_glob (by rfl) T.g_KEEPS ⟨_, rfl⟩) (nomark _))
    (pss_one (ps_ret (pe_lst (pa_cons (pe_meth (pv 0) T.cl_Plane T.me_Plane_keeps G_Plane_keeps (hr.mono (by decide)) T.b_Plane_keeps .nil pass0 (pa_cons (pe_ix ix_list (pv 2) pe_int (fun _ _ => rfl)) (pa_cons (pe_ix ix_list (pv 2) pe_int (fun _ _ => rfl)) (pa_cons (pe_ix ix_list (pv 2) pe_int (fun _ _ => rfl)) (pa_cons (pe_ix ix_list (pv 2) pe_int (fun _ _ => rfl)) (pa_cons (pe_ix ix_list (pv 2) pe_int (fun _ _ => rfl)) pa_nil)))))) pa_nil))))
    pss_nil)
    (pss_cons (ps_if (pt_cmpR op_eq (pv 1) (pe_glob (by rfl) T.g_CROSS ⟨_, rfl⟩) (nomark _))
    (pss_one (ps_ret (pe_meth (pv 0) T.cl_Plane T.me_Plane_cross G_Plane_cross (hr.mono (by decide)) T.b_Plane_cross .nil pass0 (pa_cons (pv 2) pa_nil))))
    pss_nil)
    (pss_one (ps_ret (pe_meth (pv 0) T.cl_Plane T.me_Plane_centre G_Plane_centre (hr.mono (by decide)) T.b_Plane_centre .nil pass0 (pa_cons (pv 2) pa_nil))))))))))))))))))
theorem der_answers (T : Txt K mg A) (G_split_calls : FnOk P w K mg base CX0 1 A.f_split_calls A.d_split_calls ["calls"] (sp_split_calls K A)) (G_answer_of : FnOk P w K mg base CX0 9 A.f_answer_of A.d_answer_of ["plane", "call", "n", "row"] (sp_answer_of K A)) (G_Plane___init__ : FnOk P w K mg base CX0 1 A.f_Plane___init__ A.d_Plane___init__ ["self"] (sp_Plane___init__ K A)) {cdv : Value} {Ar : Around} {outer : List Env} {s : Shared} {H : Hp} {E : XK}
    (hr : Room 9 (Ar.deeper (envOfC "answers" (defScope s_answers) s.heap.objs.size A.f_answers cdv))) :
    PSs (cxOf CX0 P w K mg base ["calls", "plane", "given", "told", "answer"] "answers" (defScope s_answers) A.f_answers cdv Ar outer s H E).nox (defBody s_answers) (t_answers K A) :=
  (pss_cons (ps_set (i := 1) sc_answers.nd rfl (Or.inl rfl) (pe_make0 T.mk_Plane G_Plane___init__ (hr.mono (by decide)) (by rfl) T.g_Plane T.b_Plane___init__ .nil pass0))
    (pss_cons (ps_set (i := 2) sc_answers.nd rfl (Or.inl rfl) (pe_lst pa_nil))
    (pss_cons (ps_for PassesOwn.never rfl (pi_list (pe_call G_split_calls (hr.mono (by decide)) (by rfl) T.m_split_calls T.F_split_calls.kp T.b_split_calls .nil pass0 (pa_cons (pv 0) pa_nil))) (pg_name (i := 3) sc_answers.nd rfl (Or.inl rfl))
    (pss_cons (ps_set (i := 4) sc_answers.nd rfl (Or.inl rfl) (pe_call G_answer_of (hr.mono (by decide)) (by rfl) T.m_answer_of T.F_answer_of.kp T.b_answer_of .nil pass0 (pa_cons (pv 1) (pa_cons (pe_ix ix_tup (pv 3) pe_int (fun _ _ => rfl)) (pa_cons (pe_ix ix_tup (pv 3) pe_int (fun _ _ => rfl)) (pa_cons (pe_ix ix_tup (pv 3) pe_int (fun _ _ => rfl)) pa_nil))))))
    (pss_cons (ps_expr (pe_bm PySem.F.plainAttrs_list PySem.F.slot_list_append PySem.F.type_list_append mt_append (pv 2) (pa_cons (pe_callB call_len_seq (by rfl) T.n_len PySem.boot_len (pa_cons (pv 4) pa_nil)) pa_nil)))
    (pss_one (ps_expr (pe_bm PySem.F.plainAttrs_list PySem.F.slot_list_extend PySem.F.type_list_extend mt_extend (pv 2) (pa_cons (pv 4) pa_nil)))))))
    (pss_one (ps_ret (pv 2))))))
end
end My

set_option Elab.async false
set_option linter.all false
set_option maxRecDepth 100000
set_option maxHeartbeats 4000000
namespace My
open PySem PySem.Spec PyProof.Rows L2
open Evl (Ev EvL EvU EvT EvA EvO Ex RV RU RC RCL SpV SpL)
theorem spa_measure {K : PySem.W.Frag} {A : Ad} {m_0 m_1 m_2 m_3 m_4 m_5 m_6 m_7 m_8 : Int} : SpA (sp_measure K A) [isL K 703 [m_0, m_1, m_2, m_3, m_4, m_5, m_6, m_7, m_8]] (isI 2112 (m_measure m_0 m_1 m_2 m_3 m_4 m_5 m_6 m_7 m_8)) := fun vs H h Q q _ => ⟨m_0, m_1, m_2, m_3, m_4, m_5, m_6, m_7, m_8, h, q⟩
theorem len_measure {K : PySem.W.Frag} {A : Ad} {vs : List V} {H : Hp} {Q : VK} {E : XK} (h : sp_measure K A vs H Q E) : vs.length = 1 := by
  obtain ⟨m_0, m_1, m_2, m_3, m_4, m_5, m_6, m_7, m_8, hA, _⟩ := h
  obtain ⟨v, vs, rfl, _, hA⟩ := hA
  obtain rfl : vs = [] := hA
  rfl
theorem pure_measure {K : PySem.W.Frag} {mg : Str → Option Value} {A : Ad} {vs : List V} {H : Hp} {Q : VK} {E : XK} (T : Txt K mg A) (h : sp_measure K A vs H Q E) : t_measure K A (De Q) (start ["m", "first", "second", "third"] vs) H := by
  obtain ⟨m_0, m_1, m_2, m_3, m_4, m_5, m_6, m_7, m_8, hA, k⟩ := h
  obtain ⟨v, vs, rfl, h1, hA⟩ := hA
  obtain ⟨p_m, rfl, q_m, c_m⟩ := h1
  obtain rfl : vs = [] := hA
  have k : RetP (isI 2112 (((m_0 * ((m_4 * m_8) - (m_5 * m_7))) - (m_1 * ((m_3 * m_8) - (m_5 * m_6)))) + (m_2 * ((m_3 * m_7) - (m_4 * m_6))))) H Q := k
  refine qp_asg (p_mul (p_ixL 0 (p_lv rfl q_m c_m) rfl) (p_sub (p_mul (p_ixL 4 (p_lv rfl q_m c_m) rfl) (p_ixL 8 (p_lv rfl q_m c_m) rfl)) (p_mul (p_ixL 5 (p_lv rfl q_m c_m) rfl) (p_ixL 7 (p_lv rfl q_m c_m) rfl)))) fun v1 H1 e1 h1 => ?_
  obtain ⟨rfl, b_first⟩ := h1
  replace q_m := Evl.ex_l e1 q_m
  refine qp_asg (p_mul (p_ixL 1 (p_lv rfl q_m c_m) rfl) (p_sub (p_mul (p_ixL 3 (p_lv rfl q_m c_m) rfl) (p_ixL 8 (p_lv rfl q_m c_m) rfl)) (p_mul (p_ixL 5 (p_lv rfl q_m c_m) rfl) (p_ixL 6 (p_lv rfl q_m c_m) rfl)))) fun v2 H2 e2 h2 => ?_
  obtain ⟨rfl, b_second⟩ := h2
  replace q_m := Evl.ex_l e2 q_m
  refine qp_asg (p_mul (p_ixL 2 (p_lv rfl q_m c_m) rfl) (p_sub (p_mul (p_ixL 3 (p_lv rfl q_m c_m) rfl) (p_ixL 7 (p_lv rfl q_m c_m) rfl)) (p_mul (p_ixL 4 (p_lv rfl q_m c_m) rfl) (p_ixL 6 (p_lv rfl q_m c_m) rfl)))) fun v3 H3 e3 h3 => ?_
  obtain ⟨rfl, b_third⟩ := h3
  replace q_m := Evl.ex_l e3 q_m
  exact sp_ret (p_bd (b := 2112) (p_add (p_sub (p_iv rfl b_first) (p_iv rfl b_second)) (p_iv rfl b_third)) (by decide)) fun v H e h => k v H (((e1.trans e2).trans e3).trans e) h
theorem spa_way {K : PySem.W.Frag} {A : Ad} {a_0 a_1 b_0 b_1 : Int} : SpA (sp_way K A) [isT K 350 [a_0, a_1], isT K 350 [b_0, b_1]] (isT K 351 [m_way0 a_0 a_1 b_0 b_1, m_way1 a_0 a_1 b_0 b_1]) := fun vs H h Q q _ => ⟨a_0, a_1, b_0, b_1, h, q⟩
theorem len_way {K : PySem.W.Frag} {A : Ad} {vs : List V} {H : Hp} {Q : VK} {E : XK} (h : sp_way K A vs H Q E) : vs.length = 2 := by
  obtain ⟨a_0, a_1, b_0, b_1, hA, _⟩ := h
  obtain ⟨v, vs, rfl, _, hA⟩ := hA
  obtain ⟨v, vs, rfl, _, hA⟩ := hA
  obtain rfl : vs = [] := hA
  rfl
theorem pure_way {K : PySem.W.Frag} {mg : Str → Option Value} {A : Ad} {vs : List V} {H : Hp} {Q : VK} {E : XK} (T : Txt K mg A) (h : sp_way K A vs H Q E) : t_way K A (De Q) (start ["a", "b"] vs) H := by
  obtain ⟨a_0, a_1, b_0, b_1, hA, k⟩ := h
  obtain ⟨v, vs, rfl, h1, hA⟩ := hA
  obtain ⟨p_a, rfl, q_a, c_a⟩ := h1
  obtain ⟨v, vs, rfl, h1, hA⟩ := hA
  obtain ⟨p_b, rfl, q_b, c_b⟩ := h1
  obtain rfl : vs = [] := hA
  have k : RetP (isT K 351 [(b_0 - a_0), (b_1 - a_1)]) H Q := k
  exact sp_ret (p_tup (K := K) 351 (pa_consI (p_bd (b := 351) (p_sub (p_ixT 0 (p_tv rfl q_b c_b) rfl) (p_ixT 0 (p_tv rfl q_a c_a) rfl)) (by decide)) (pa_consI (p_bd (b := 351) (p_sub (p_ixT 1 (p_tv rfl q_b c_b) rfl) (p_ixT 1 (p_tv rfl q_a c_a) rfl)) (by decide)) pa_nilI)) (by simp) (by simp)) fun v H e h => k v H e h
theorem spa_turn {K : PySem.W.Frag} {A : Ad} {first_0 first_1 second_0 second_1 : Int} : SpA (sp_turn K A) [isT K 351 [first_0, first_1], isT K 351 [second_0, second_1]] (isI 703 (m_turn first_0 first_1 second_0 second_1)) := fun vs H h Q q _ => ⟨first_0, first_1, second_0, second_1, h, q⟩
theorem len_turn {K : PySem.W.Frag} {A : Ad} {vs : List V} {H : Hp} {Q : VK} {E : XK} (h : sp_turn K A vs H Q E) : vs.length = 2 := by
  obtain ⟨first_0, first_1, second_0, second_1, hA, _⟩ := h
  obtain ⟨v, vs, rfl, _, hA⟩ := hA
  obtain ⟨v, vs, rfl, _, hA⟩ := hA
  obtain rfl : vs = [] := hA
  rfl
theorem pure_turn {K : PySem.W.Frag} {mg : Str → Option Value} {A : Ad} {vs : List V} {H : Hp} {Q : VK} {E : XK} (T : Txt K mg A) (h : sp_turn K A vs H Q E) : t_turn K A (De Q) (start ["first", "second"] vs) H := by
  obtain ⟨first_0, first_1, second_0, second_1, hA, k⟩ := h
  obtain ⟨v, vs, rfl, h1, hA⟩ := hA
  obtain ⟨p_first, rfl, q_first, c_first⟩ := h1
  obtain ⟨v, vs, rfl, h1, hA⟩ := hA
  obtain ⟨p_second, rfl, q_second, c_second⟩ := h1
  obtain rfl : vs = [] := hA
  have k : RetP (isI 703 ((first_0 * second_1) - (first_1 * second_0))) H Q := k
  exact sp_ret (p_bd (b := 703) (p_sub (p_mul (p_ixT 0 (p_tv rfl q_first c_first) rfl) (p_ixT 1 (p_tv rfl q_second c_second) rfl)) (p_mul (p_ixT 1 (p_tv rfl q_first c_first) rfl) (p_ixT 0 (p_tv rfl q_second c_second) rfl))) (by decide)) fun v H e h => k v H e h
theorem spa_lean {K : PySem.W.Frag} {A : Ad} {first_0 first_1 second_0 second_1 : Int} : SpA (sp_lean K A) [isT K 351 [first_0, first_1], isT K 351 [second_0, second_1]] (isI 703 (m_lean first_0 first_1 second_0 second_1)) := fun vs H h Q q _ => ⟨first_0, first_1, second_0, second_1, h, q⟩
theorem len_lean {K : PySem.W.Frag} {A : Ad} {vs : List V} {H : Hp} {Q : VK} {E : XK} (h : sp_lean K A vs H Q E) : vs.length = 2 := by
  obtain ⟨first_0, first_1, second_0, second_1, hA, _⟩ := h
  obtain ⟨v, vs, rfl, _, hA⟩ := hA
  obtain ⟨v, vs, rfl, _, hA⟩ := hA
  obtain rfl : vs = [] := hA
  rfl
theorem pure_lean {K : PySem.W.Frag} {mg : Str → Option Value} {A : Ad} {vs : List V} {H : Hp} {Q : VK} {E : XK} (T : Txt K mg A) (h : sp_lean K A vs H Q E) : t_lean K A (De Q) (start ["first", "second"] vs) H := by
  obtain ⟨first_0, first_1, second_0, second_1, hA, k⟩ := h
  obtain ⟨v, vs, rfl, h1, hA⟩ := hA
  obtain ⟨p_first, rfl, q_first, c_first⟩ := h1
  obtain ⟨v, vs, rfl, h1, hA⟩ := hA
  obtain ⟨p_second, rfl, q_second, c_second⟩ := h1
  obtain rfl : vs = [] := hA
  have k : RetP (isI 703 ((first_0 * second_0) + (first_1 * second_1))) H Q := k
  exact sp_ret (p_bd (b := 703) (p_add (p_mul (p_ixT 0 (p_tv rfl q_first c_first) rfl) (p_ixT 0 (p_tv rfl q_second c_second) rfl)) (p_mul (p_ixT 1 (p_tv rfl q_first c_first) rfl) (p_ixT 1 (p_tv rfl q_second c_second) rfl))) (by decide)) fun v H e h => k v H e h
theorem spa_multiplied {K : PySem.W.Frag} {A : Ad} {first_0 first_1 second_0 second_1 : Int} : SpA (sp_multiplied K A) [isT K 351 [first_0, first_1], isT K 351 [second_0, second_1]] (isT K 703 [m_multiplied0 first_0 first_1 second_0 second_1, m_multiplied1 first_0 first_1 second_0 second_1]) := fun vs H h Q q _ => ⟨first_0, first_1, second_0, second_1, h, q⟩
theorem len_multiplied {K : PySem.W.Frag} {A : Ad} {vs : List V} {H : Hp} {Q : VK} {E : XK} (h : sp_multiplied K A vs H Q E) : vs.length = 2 := by
  obtain ⟨first_0, first_1, second_0, second_1, hA, _⟩ := h
  obtain ⟨v, vs, rfl, _, hA⟩ := hA
  obtain ⟨v, vs, rfl, _, hA⟩ := hA
  obtain rfl : vs = [] := hA
  rfl
theorem pure_multiplied {K : PySem.W.Frag} {mg : Str → Option Value} {A : Ad} {vs : List V} {H : Hp} {Q : VK} {E : XK} (T : Txt K mg A) (h : sp_multiplied K A vs H Q E) : t_multiplied K A (De Q) (start ["first", "second", "across", "up"] vs) H := by
  obtain ⟨first_0, first_1, second_0, second_1, hA, k⟩ := h
  obtain ⟨v, vs, rfl, h1, hA⟩ := hA
  obtain ⟨p_first, rfl, q_first, c_first⟩ := h1
  obtain ⟨v, vs, rfl, h1, hA⟩ := hA
  obtain ⟨p_second, rfl, q_second, c_second⟩ := h1
  obtain rfl : vs = [] := hA
  have k : RetP (isT K 703 [((first_0 * second_0) - (first_1 * second_1)), ((first_0 * second_1) + (first_1 * second_0))]) H Q := k
  refine qp_asg (p_sub (p_mul (p_ixT 0 (p_tv rfl q_first c_first) rfl) (p_ixT 0 (p_tv rfl q_second c_second) rfl)) (p_mul (p_ixT 1 (p_tv rfl q_first c_first) rfl) (p_ixT 1 (p_tv rfl q_second c_second) rfl))) fun v1 H1 e1 h1 => ?_
  obtain ⟨rfl, b_across⟩ := h1
  replace q_first := Evl.ex_t e1 q_first
  replace q_second := Evl.ex_t e1 q_second
  refine qp_asg (p_add (p_mul (p_ixT 0 (p_tv rfl q_first c_first) rfl) (p_ixT 1 (p_tv rfl q_second c_second) rfl)) (p_mul (p_ixT 1 (p_tv rfl q_first c_first) rfl) (p_ixT 0 (p_tv rfl q_second c_second) rfl))) fun v2 H2 e2 h2 => ?_
  obtain ⟨rfl, b_up⟩ := h2
  replace q_first := Evl.ex_t e2 q_first
  replace q_second := Evl.ex_t e2 q_second
  exact sp_ret (p_tup (K := K) 703 (pa_consI (p_bd (b := 703) (p_iv rfl b_across) (by decide)) (pa_consI (p_bd (b := 703) (p_iv rfl b_up) (by decide)) pa_nilI)) (by simp) (by simp)) fun v H e h => k v H ((e1.trans e2).trans e) h
theorem spa_square {K : PySem.W.Frag} {A : Ad} {one_0 one_1 : Int} : SpA (sp_square K A) [isT K 351 [one_0, one_1]] (isI 703 (m_square one_0 one_1)) := fun vs H h Q q _ => ⟨one_0, one_1, h, q⟩
theorem len_square {K : PySem.W.Frag} {A : Ad} {vs : List V} {H : Hp} {Q : VK} {E : XK} (h : sp_square K A vs H Q E) : vs.length = 1 := by
  obtain ⟨one_0, one_1, hA, _⟩ := h
  obtain ⟨v, vs, rfl, _, hA⟩ := hA
  obtain rfl : vs = [] := hA
  rfl
theorem pure_square {K : PySem.W.Frag} {mg : Str → Option Value} {A : Ad} {vs : List V} {H : Hp} {Q : VK} {E : XK} (T : Txt K mg A) (h : sp_square K A vs H Q E) : t_square K A (De Q) (start ["one"] vs) H := by
  obtain ⟨one_0, one_1, hA, k⟩ := h
  obtain ⟨v, vs, rfl, h1, hA⟩ := hA
  obtain ⟨p_one, rfl, q_one, c_one⟩ := h1
  obtain rfl : vs = [] := hA
  have k : RetP (isI 703 (m_lean one_0 one_1 one_0 one_1)) H Q := k
  exact sp_ret (p_bd (b := 703) (p_call (pa_consP (p_tv rfl q_one c_one) mono_T (pa_consP (p_tv rfl q_one c_one) mono_T pa_nilP)) (spa_lean)) (by decide)) fun v H e h => k v H e h
theorem spa_is_same {K : PySem.W.Frag} {A : Ad} {p_0x p_0y p_1x p_1y : Int} : SpA (sp_is_same K A) [isQ K 350 [[p_0x, p_0y], [p_1x, p_1y]]] (isB (m_is_same p_0x p_0y p_1x p_1y)) := fun vs H h Q q _ => ⟨p_0x, p_0y, p_1x, p_1y, h, q⟩
theorem len_is_same {K : PySem.W.Frag} {A : Ad} {vs : List V} {H : Hp} {Q : VK} {E : XK} (h : sp_is_same K A vs H Q E) : vs.length = 1 := by
  obtain ⟨p_0x, p_0y, p_1x, p_1y, hA, _⟩ := h
  obtain ⟨v, vs, rfl, _, hA⟩ := hA
  obtain rfl : vs = [] := hA
  rfl
theorem pure_is_same {K : PySem.W.Frag} {mg : Str → Option Value} {A : Ad} {vs : List V} {H : Hp} {Q : VK} {E : XK} (T : Txt K mg A) (h : sp_is_same K A vs H Q E) : t_is_same K A (De Q) (start ["p"] vs) H := by
  obtain ⟨p_0x, p_0y, p_1x, p_1y, hA, k⟩ := h
  obtain ⟨v, vs, rfl, h1, hA⟩ := hA
  obtain ⟨p_p, w_p, rfl, q_p, r_p, c_p⟩ := h1
  obtain rfl : vs = [] := hA
  have k : RetP (isB (decide (p_0x = p_1x) && decide (p_0y = p_1y))) H Q := k
  exact sp_ret (p_eqT2 (p_ixQ 0 (p_qv rfl q_p r_p c_p) rfl) (p_ixQ 1 (p_qv rfl q_p r_p c_p) rfl)) fun v H e h => k v H e h
theorem spa_is_line {K : PySem.W.Frag} {A : Ad} {p_0x p_0y p_1x p_1y p_2x p_2y : Int} : SpA (sp_is_line K A) [isQ K 350 [[p_0x, p_0y], [p_1x, p_1y], [p_2x, p_2y]]] (isB (m_is_line p_0x p_0y p_1x p_1y p_2x p_2y)) := fun vs H h Q q _ => ⟨p_0x, p_0y, p_1x, p_1y, p_2x, p_2y, h, q⟩
theorem len_is_line {K : PySem.W.Frag} {A : Ad} {vs : List V} {H : Hp} {Q : VK} {E : XK} (h : sp_is_line K A vs H Q E) : vs.length = 1 := by
  obtain ⟨p_0x, p_0y, p_1x, p_1y, p_2x, p_2y, hA, _⟩ := h
  obtain ⟨v, vs, rfl, _, hA⟩ := hA
  obtain rfl : vs = [] := hA
  rfl
theorem pure_is_line {K : PySem.W.Frag} {mg : Str → Option Value} {A : Ad} {vs : List V} {H : Hp} {Q : VK} {E : XK} (T : Txt K mg A) (h : sp_is_line K A vs H Q E) : t_is_line K A (De Q) (start ["p"] vs) H := by
  obtain ⟨p_0x, p_0y, p_1x, p_1y, p_2x, p_2y, hA, k⟩ := h
  obtain ⟨v, vs, rfl, h1, hA⟩ := hA
  obtain ⟨p_p, w_p, rfl, q_p, r_p, c_p⟩ := h1
  obtain rfl : vs = [] := hA
  have k : RetP (isB (decide ((m_turn (m_way0 p_0x p_0y p_1x p_1y) (m_way1 p_0x p_0y p_1x p_1y) (m_way0 p_0x p_0y p_2x p_2y) (m_way1 p_0x p_0y p_2x p_2y)) = 0))) H Q := k
  exact sp_ret (p_eq (p_call (pa_consP (p_call (pa_consP (p_ixQ 0 (p_qv rfl q_p r_p c_p) rfl) mono_T (pa_consP (p_ixQ 1 (p_qv rfl q_p r_p c_p) rfl) mono_T pa_nilP)) (spa_way)) mono_T (pa_consP (p_call (pa_consP (p_ixQ 0 (p_qv rfl q_p r_p c_p) rfl) mono_T (pa_consP (p_ixQ 2 (p_qv rfl q_p r_p c_p) rfl) mono_T pa_nilP)) (spa_way)) mono_T pa_nilP)) (spa_turn)) (p_ic (a := 1) (by decide))) fun v H e h => k v H e h
theorem spa_is_parallel {K : PySem.W.Frag} {A : Ad} {p_0x p_0y p_1x p_1y p_2x p_2y p_3x p_3y : Int} : SpA (sp_is_parallel K A) [isQ K 350 [[p_0x, p_0y], [p_1x, p_1y], [p_2x, p_2y], [p_3x, p_3y]]] (isB (m_is_parallel p_0x p_0y p_1x p_1y p_2x p_2y p_3x p_3y)) := fun vs H h Q q _ => ⟨p_0x, p_0y, p_1x, p_1y, p_2x, p_2y, p_3x, p_3y, h, q⟩
theorem len_is_parallel {K : PySem.W.Frag} {A : Ad} {vs : List V} {H : Hp} {Q : VK} {E : XK} (h : sp_is_parallel K A vs H Q E) : vs.length = 1 := by
  obtain ⟨p_0x, p_0y, p_1x, p_1y, p_2x, p_2y, p_3x, p_3y, hA, _⟩ := h
  obtain ⟨v, vs, rfl, _, hA⟩ := hA
  obtain rfl : vs = [] := hA
  rfl
theorem pure_is_parallel {K : PySem.W.Frag} {mg : Str → Option Value} {A : Ad} {vs : List V} {H : Hp} {Q : VK} {E : XK} (T : Txt K mg A) (h : sp_is_parallel K A vs H Q E) : t_is_parallel K A (De Q) (start ["p"] vs) H := by
  obtain ⟨p_0x, p_0y, p_1x, p_1y, p_2x, p_2y, p_3x, p_3y, hA, k⟩ := h
  obtain ⟨v, vs, rfl, h1, hA⟩ := hA
  obtain ⟨p_p, w_p, rfl, q_p, r_p, c_p⟩ := h1
  obtain rfl : vs = [] := hA
  have k : RetP (isB (decide ((m_turn (m_way0 p_0x p_0y p_1x p_1y) (m_way1 p_0x p_0y p_1x p_1y) (m_way0 p_2x p_2y p_3x p_3y) (m_way1 p_2x p_2y p_3x p_3y)) = 0))) H Q := k
  exact sp_ret (p_eq (p_call (pa_consP (p_call (pa_consP (p_ixQ 0 (p_qv rfl q_p r_p c_p) rfl) mono_T (pa_consP (p_ixQ 1 (p_qv rfl q_p r_p c_p) rfl) mono_T pa_nilP)) (spa_way)) mono_T (pa_consP (p_call (pa_consP (p_ixQ 2 (p_qv rfl q_p r_p c_p) rfl) mono_T (pa_consP (p_ixQ 3 (p_qv rfl q_p r_p c_p) rfl) mono_T pa_nilP)) (spa_way)) mono_T pa_nilP)) (spa_turn)) (p_ic (a := 1) (by decide))) fun v H e h => k v H e h
theorem spa_is_right {K : PySem.W.Frag} {A : Ad} {p_0x p_0y p_1x p_1y p_2x p_2y p_3x p_3y : Int} : SpA (sp_is_right K A) [isQ K 350 [[p_0x, p_0y], [p_1x, p_1y], [p_2x, p_2y], [p_3x, p_3y]]] (isB (m_is_right p_0x p_0y p_1x p_1y p_2x p_2y p_3x p_3y)) := fun vs H h Q q _ => ⟨p_0x, p_0y, p_1x, p_1y, p_2x, p_2y, p_3x, p_3y, h, q⟩
theorem len_is_right {K : PySem.W.Frag} {A : Ad} {vs : List V} {H : Hp} {Q : VK} {E : XK} (h : sp_is_right K A vs H Q E) : vs.length = 1 := by
  obtain ⟨p_0x, p_0y, p_1x, p_1y, p_2x, p_2y, p_3x, p_3y, hA, _⟩ := h
  obtain ⟨v, vs, rfl, _, hA⟩ := hA
  obtain rfl : vs = [] := hA
  rfl
theorem pure_is_right {K : PySem.W.Frag} {mg : Str → Option Value} {A : Ad} {vs : List V} {H : Hp} {Q : VK} {E : XK} (T : Txt K mg A) (h : sp_is_right K A vs H Q E) : t_is_right K A (De Q) (start ["p"] vs) H := by
  obtain ⟨p_0x, p_0y, p_1x, p_1y, p_2x, p_2y, p_3x, p_3y, hA, k⟩ := h
  obtain ⟨v, vs, rfl, h1, hA⟩ := hA
  obtain ⟨p_p, w_p, rfl, q_p, r_p, c_p⟩ := h1
  obtain rfl : vs = [] := hA
  have k : RetP (isB (decide ((m_lean (m_way0 p_0x p_0y p_1x p_1y) (m_way1 p_0x p_0y p_1x p_1y) (m_way0 p_2x p_2y p_3x p_3y) (m_way1 p_2x p_2y p_3x p_3y)) = 0))) H Q := k
  exact sp_ret (p_eq (p_call (pa_consP (p_call (pa_consP (p_ixQ 0 (p_qv rfl q_p r_p c_p) rfl) mono_T (pa_consP (p_ixQ 1 (p_qv rfl q_p r_p c_p) rfl) mono_T pa_nilP)) (spa_way)) mono_T (pa_consP (p_call (pa_consP (p_ixQ 2 (p_qv rfl q_p r_p c_p) rfl) mono_T (pa_consP (p_ixQ 3 (p_qv rfl q_p r_p c_p) rfl) mono_T pa_nilP)) (spa_way)) mono_T pa_nilP)) (spa_lean)) (p_ic (a := 1) (by decide))) fun v H e h => k v H e h
theorem spa_is_times {K : PySem.W.Frag} {A : Ad} {p_0x p_0y p_1x p_1y p_2x p_2y p_3x p_3y m_ n_ : Int} : SpA (sp_is_times K A) [isQ K 350 [[p_0x, p_0y], [p_1x, p_1y], [p_2x, p_2y], [p_3x, p_3y]], isI 10 m_, isI 10 n_] (isB (m_is_times p_0x p_0y p_1x p_1y p_2x p_2y p_3x p_3y m_ n_)) := fun vs H h Q q _ => ⟨p_0x, p_0y, p_1x, p_1y, p_2x, p_2y, p_3x, p_3y, m_, n_, h, q⟩
theorem len_is_times {K : PySem.W.Frag} {A : Ad} {vs : List V} {H : Hp} {Q : VK} {E : XK} (h : sp_is_times K A vs H Q E) : vs.length = 3 := by
  obtain ⟨p_0x, p_0y, p_1x, p_1y, p_2x, p_2y, p_3x, p_3y, m_, n_, hA, _⟩ := h
  obtain ⟨v, vs, rfl, _, hA⟩ := hA
  obtain ⟨v, vs, rfl, _, hA⟩ := hA
  obtain ⟨v, vs, rfl, _, hA⟩ := hA
  obtain rfl : vs = [] := hA
  rfl
theorem pure_is_times {K : PySem.W.Frag} {mg : Str → Option Value} {A : Ad} {vs : List V} {H : Hp} {Q : VK} {E : XK} (T : Txt K mg A) (h : sp_is_times K A vs H Q E) : t_is_times K A (De Q) (start ["p", "m", "n"] vs) H := by
  obtain ⟨p_0x, p_0y, p_1x, p_1y, p_2x, p_2y, p_3x, p_3y, m_, n_, hA, k⟩ := h
  obtain ⟨v, vs, rfl, h1, hA⟩ := hA
  obtain ⟨p_p, w_p, rfl, q_p, r_p, c_p⟩ := h1
  obtain ⟨v, vs, rfl, h1, hA⟩ := hA
  obtain ⟨rfl, b_m⟩ := h1
  obtain ⟨v, vs, rfl, h1, hA⟩ := hA
  obtain ⟨rfl, b_n⟩ := h1
  obtain rfl : vs = [] := hA
  have k : RetP (isB (decide ((((m_square (m_way0 p_0x p_0y p_1x p_1y) (m_way1 p_0x p_0y p_1x p_1y)) * n_) * n_) = (((m_square (m_way0 p_2x p_2y p_3x p_3y) (m_way1 p_2x p_2y p_3x p_3y)) * m_) * m_)))) H Q := k
  exact sp_ret (p_eq (p_mul (p_mul (p_call (pa_consP (p_call (pa_consP (p_ixQ 0 (p_qv rfl q_p r_p c_p) rfl) mono_T (pa_consP (p_ixQ 1 (p_qv rfl q_p r_p c_p) rfl) mono_T pa_nilP)) (spa_way)) mono_T pa_nilP) (spa_square)) (p_iv rfl b_n)) (p_iv rfl b_n)) (p_mul (p_mul (p_call (pa_consP (p_call (pa_consP (p_ixQ 2 (p_qv rfl q_p r_p c_p) rfl) mono_T (pa_consP (p_ixQ 3 (p_qv rfl q_p r_p c_p) rfl) mono_T pa_nilP)) (spa_way)) mono_T pa_nilP) (spa_square)) (p_iv rfl b_m)) (p_iv rfl b_m))) fun v H e h => k v H e h
theorem spa_is_equal {K : PySem.W.Frag} {A : Ad} {p_0x p_0y p_1x p_1y p_2x p_2y p_3x p_3y : Int} : SpA (sp_is_equal K A) [isQ K 350 [[p_0x, p_0y], [p_1x, p_1y], [p_2x, p_2y], [p_3x, p_3y]]] (isB (m_is_equal p_0x p_0y p_1x p_1y p_2x p_2y p_3x p_3y)) := fun vs H h Q q _ => ⟨p_0x, p_0y, p_1x, p_1y, p_2x, p_2y, p_3x, p_3y, h, q⟩
theorem len_is_equal {K : PySem.W.Frag} {A : Ad} {vs : List V} {H : Hp} {Q : VK} {E : XK} (h : sp_is_equal K A vs H Q E) : vs.length = 1 := by
  obtain ⟨p_0x, p_0y, p_1x, p_1y, p_2x, p_2y, p_3x, p_3y, hA, _⟩ := h
  obtain ⟨v, vs, rfl, _, hA⟩ := hA
  obtain rfl : vs = [] := hA
  rfl
theorem pure_is_equal {K : PySem.W.Frag} {mg : Str → Option Value} {A : Ad} {vs : List V} {H : Hp} {Q : VK} {E : XK} (T : Txt K mg A) (h : sp_is_equal K A vs H Q E) : t_is_equal K A (De Q) (start ["p"] vs) H := by
  obtain ⟨p_0x, p_0y, p_1x, p_1y, p_2x, p_2y, p_3x, p_3y, hA, k⟩ := h
  obtain ⟨v, vs, rfl, h1, hA⟩ := hA
  obtain ⟨p_p, w_p, rfl, q_p, r_p, c_p⟩ := h1
  obtain rfl : vs = [] := hA
  have k : RetP (isB (m_is_times p_0x p_0y p_1x p_1y p_2x p_2y p_3x p_3y 1 1)) H Q := k
  exact sp_ret (p_call (pa_consP (p_qv rfl q_p r_p c_p) mono_Q (pa_consP (p_bd (b := 10) (p_ic (a := 1) (by decide)) (by decide)) mono_I (pa_consP (p_bd (b := 10) (p_ic (a := 1) (by decide)) (by decide)) mono_I pa_nilP))) (spa_is_times)) fun v H e h => k v H e h
theorem spa_is_angles {K : PySem.W.Frag} {A : Ad} {p_0x p_0y p_1x p_1y p_2x p_2y p_3x p_3y p_4x p_4y p_5x p_5y : Int} : SpA (sp_is_angles K A) [isQ K 350 [[p_0x, p_0y], [p_1x, p_1y], [p_2x, p_2y], [p_3x, p_3y], [p_4x, p_4y], [p_5x, p_5y]]] (isB (m_is_angles p_0x p_0y p_1x p_1y p_2x p_2y p_3x p_3y p_4x p_4y p_5x p_5y)) := fun vs H h Q q _ => ⟨p_0x, p_0y, p_1x, p_1y, p_2x, p_2y, p_3x, p_3y, p_4x, p_4y, p_5x, p_5y, h, q⟩
theorem len_is_angles {K : PySem.W.Frag} {A : Ad} {vs : List V} {H : Hp} {Q : VK} {E : XK} (h : sp_is_angles K A vs H Q E) : vs.length = 1 := by
  obtain ⟨p_0x, p_0y, p_1x, p_1y, p_2x, p_2y, p_3x, p_3y, p_4x, p_4y, p_5x, p_5y, hA, _⟩ := h
  obtain ⟨v, vs, rfl, _, hA⟩ := hA
  obtain rfl : vs = [] := hA
  rfl
theorem pure_is_angles {K : PySem.W.Frag} {mg : Str → Option Value} {A : Ad} {vs : List V} {H : Hp} {Q : VK} {E : XK} (T : Txt K mg A) (h : sp_is_angles K A vs H Q E) : t_is_angles K A (De Q) (start ["p", "to_a", "to_c", "to_d", "to_f"] vs) H := by
  obtain ⟨p_0x, p_0y, p_1x, p_1y, p_2x, p_2y, p_3x, p_3y, p_4x, p_4y, p_5x, p_5y, hA, k⟩ := h
  obtain ⟨v, vs, rfl, h1, hA⟩ := hA
  obtain ⟨p_p, w_p, rfl, q_p, r_p, c_p⟩ := h1
  obtain rfl : vs = [] := hA
  have k : RetP (isB (decide (((m_turn (m_way0 p_1x p_1y p_0x p_0y) (m_way1 p_1x p_1y p_0x p_0y) (m_way0 p_1x p_1y p_2x p_2y) (m_way1 p_1x p_1y p_2x p_2y)) * (m_lean (m_way0 p_4x p_4y p_3x p_3y) (m_way1 p_4x p_4y p_3x p_3y) (m_way0 p_4x p_4y p_5x p_5y) (m_way1 p_4x p_4y p_5x p_5y))) = ((m_turn (m_way0 p_4x p_4y p_3x p_3y) (m_way1 p_4x p_4y p_3x p_3y) (m_way0 p_4x p_4y p_5x p_5y) (m_way1 p_4x p_4y p_5x p_5y)) * (m_lean (m_way0 p_1x p_1y p_0x p_0y) (m_way1 p_1x p_1y p_0x p_0y) (m_way0 p_1x p_1y p_2x p_2y) (m_way1 p_1x p_1y p_2x p_2y)))))) H Q := k
  refine qp_asg (p_call (pa_consP (p_ixQ 1 (p_qv rfl q_p r_p c_p) rfl) mono_T (pa_consP (p_ixQ 0 (p_qv rfl q_p r_p c_p) rfl) mono_T pa_nilP)) (spa_way)) fun v1 H1 e1 h1 => ?_
  obtain ⟨p_to_a, rfl, q_to_a, c_to_a⟩ := h1
  replace r_p := RowsT.ex e1 r_p
  replace q_p := Evl.ex_l e1 q_p
  refine qp_asg (p_call (pa_consP (p_ixQ 1 (p_qv rfl q_p r_p c_p) rfl) mono_T (pa_consP (p_ixQ 2 (p_qv rfl q_p r_p c_p) rfl) mono_T pa_nilP)) (spa_way)) fun v2 H2 e2 h2 => ?_
  obtain ⟨p_to_c, rfl, q_to_c, c_to_c⟩ := h2
  replace r_p := RowsT.ex e2 r_p
  replace q_p := Evl.ex_l e2 q_p
  replace q_to_a := Evl.ex_t e2 q_to_a
  refine qp_asg (p_call (pa_consP (p_ixQ 4 (p_qv rfl q_p r_p c_p) rfl) mono_T (pa_consP (p_ixQ 3 (p_qv rfl q_p r_p c_p) rfl) mono_T pa_nilP)) (spa_way)) fun v3 H3 e3 h3 => ?_
  obtain ⟨p_to_d, rfl, q_to_d, c_to_d⟩ := h3
  replace r_p := RowsT.ex e3 r_p
  replace q_p := Evl.ex_l e3 q_p
  replace q_to_a := Evl.ex_t e3 q_to_a
  replace q_to_c := Evl.ex_t e3 q_to_c
  refine qp_asg (p_call (pa_consP (p_ixQ 4 (p_qv rfl q_p r_p c_p) rfl) mono_T (pa_consP (p_ixQ 5 (p_qv rfl q_p r_p c_p) rfl) mono_T pa_nilP)) (spa_way)) fun v4 H4 e4 h4 => ?_
  obtain ⟨p_to_f, rfl, q_to_f, c_to_f⟩ := h4
  replace r_p := RowsT.ex e4 r_p
  replace q_p := Evl.ex_l e4 q_p
  replace q_to_a := Evl.ex_t e4 q_to_a
  replace q_to_c := Evl.ex_t e4 q_to_c
  replace q_to_d := Evl.ex_t e4 q_to_d
  exact sp_ret (p_eq (p_mul (p_call (pa_consP (p_tv rfl q_to_a c_to_a) mono_T (pa_consP (p_tv rfl q_to_c c_to_c) mono_T pa_nilP)) (spa_turn)) (p_call (pa_consP (p_tv rfl q_to_d c_to_d) mono_T (pa_consP (p_tv rfl q_to_f c_to_f) mono_T pa_nilP)) (spa_lean))) (p_mul (p_call (pa_consP (p_tv rfl q_to_d c_to_d) mono_T (pa_consP (p_tv rfl q_to_f c_to_f) mono_T pa_nilP)) (spa_turn)) (p_call (pa_consP (p_tv rfl q_to_a c_to_a) mono_T (pa_consP (p_tv rfl q_to_c c_to_c) mono_T pa_nilP)) (spa_lean)))) fun v H e h => k v H ((((e1.trans e2).trans e3).trans e4).trans e) h
theorem spa_is_areas {K : PySem.W.Frag} {A : Ad} {p_0x p_0y p_1x p_1y p_2x p_2y p_3x p_3y p_4x p_4y p_5x p_5y : Int} : SpA (sp_is_areas K A) [isQ K 350 [[p_0x, p_0y], [p_1x, p_1y], [p_2x, p_2y], [p_3x, p_3y], [p_4x, p_4y], [p_5x, p_5y]]] (isB (m_is_areas p_0x p_0y p_1x p_1y p_2x p_2y p_3x p_3y p_4x p_4y p_5x p_5y)) := fun vs H h Q q _ => ⟨p_0x, p_0y, p_1x, p_1y, p_2x, p_2y, p_3x, p_3y, p_4x, p_4y, p_5x, p_5y, h, q⟩
theorem len_is_areas {K : PySem.W.Frag} {A : Ad} {vs : List V} {H : Hp} {Q : VK} {E : XK} (h : sp_is_areas K A vs H Q E) : vs.length = 1 := by
  obtain ⟨p_0x, p_0y, p_1x, p_1y, p_2x, p_2y, p_3x, p_3y, p_4x, p_4y, p_5x, p_5y, hA, _⟩ := h
  obtain ⟨v, vs, rfl, _, hA⟩ := hA
  obtain rfl : vs = [] := hA
  rfl
theorem pure_is_areas {K : PySem.W.Frag} {mg : Str → Option Value} {A : Ad} {vs : List V} {H : Hp} {Q : VK} {E : XK} (T : Txt K mg A) (h : sp_is_areas K A vs H Q E) : t_is_areas K A (De Q) (start ["p"] vs) H := by
  obtain ⟨p_0x, p_0y, p_1x, p_1y, p_2x, p_2y, p_3x, p_3y, p_4x, p_4y, p_5x, p_5y, hA, k⟩ := h
  obtain ⟨v, vs, rfl, h1, hA⟩ := hA
  obtain ⟨p_p, w_p, rfl, q_p, r_p, c_p⟩ := h1
  obtain rfl : vs = [] := hA
  have k : RetP (isB (decide ((m_turn (m_way0 p_0x p_0y p_1x p_1y) (m_way1 p_0x p_0y p_1x p_1y) (m_way0 p_0x p_0y p_2x p_2y) (m_way1 p_0x p_0y p_2x p_2y)) = (m_turn (m_way0 p_3x p_3y p_4x p_4y) (m_way1 p_3x p_3y p_4x p_4y) (m_way0 p_3x p_3y p_5x p_5y) (m_way1 p_3x p_3y p_5x p_5y))))) H Q := k
  exact sp_ret (p_eq (p_call (pa_consP (p_call (pa_consP (p_ixQ 0 (p_qv rfl q_p r_p c_p) rfl) mono_T (pa_consP (p_ixQ 1 (p_qv rfl q_p r_p c_p) rfl) mono_T pa_nilP)) (spa_way)) mono_T (pa_consP (p_call (pa_consP (p_ixQ 0 (p_qv rfl q_p r_p c_p) rfl) mono_T (pa_consP (p_ixQ 2 (p_qv rfl q_p r_p c_p) rfl) mono_T pa_nilP)) (spa_way)) mono_T pa_nilP)) (spa_turn)) (p_call (pa_consP (p_call (pa_consP (p_ixQ 3 (p_qv rfl q_p r_p c_p) rfl) mono_T (pa_consP (p_ixQ 4 (p_qv rfl q_p r_p c_p) rfl) mono_T pa_nilP)) (spa_way)) mono_T (pa_consP (p_call (pa_consP (p_ixQ 3 (p_qv rfl q_p r_p c_p) rfl) mono_T (pa_consP (p_ixQ 5 (p_qv rfl q_p r_p c_p) rfl) mono_T pa_nilP)) (spa_way)) mono_T pa_nilP)) (spa_turn))) fun v H e h => k v H e h
theorem spa_line_numbers {K : PySem.W.Frag} {A : Ad} {a_0 a_1 b_0 b_1 : Int} : SpA (sp_line_numbers K A) [isT K 350 [a_0, a_1], isT K 350 [b_0, b_1]] (isE 703 [m_line_numbers0 a_0 a_1 b_0 b_1, m_line_numbers1 a_0 a_1 b_0 b_1, m_line_numbers2 a_0 a_1 b_0 b_1]) := fun vs H h Q q _ => ⟨a_0, a_1, b_0, b_1, h, q⟩
theorem len_line_numbers {K : PySem.W.Frag} {A : Ad} {vs : List V} {H : Hp} {Q : VK} {E : XK} (h : sp_line_numbers K A vs H Q E) : vs.length = 2 := by
  obtain ⟨a_0, a_1, b_0, b_1, hA, _⟩ := h
  obtain ⟨v, vs, rfl, _, hA⟩ := hA
  obtain ⟨v, vs, rfl, _, hA⟩ := hA
  obtain rfl : vs = [] := hA
  rfl
theorem pure_line_numbers {K : PySem.W.Frag} {mg : Str → Option Value} {A : Ad} {vs : List V} {H : Hp} {Q : VK} {E : XK} (T : Txt K mg A) (h : sp_line_numbers K A vs H Q E) : t_line_numbers K A (De Q) (start ["a", "b"] vs) H := by
  obtain ⟨a_0, a_1, b_0, b_1, hA, k⟩ := h
  obtain ⟨v, vs, rfl, h1, hA⟩ := hA
  obtain ⟨p_a, rfl, q_a, c_a⟩ := h1
  obtain ⟨v, vs, rfl, h1, hA⟩ := hA
  obtain ⟨p_b, rfl, q_b, c_b⟩ := h1
  obtain rfl : vs = [] := hA
  have k : RetP (isE 703 [(a_1 - b_1), (b_0 - a_0), (m_turn a_0 a_1 b_0 b_1)]) H Q := k
  exact sp_ret (p_lstE 703 (pa_consI (p_bd (b := 703) (p_sub (p_ixT 1 (p_tv rfl q_a c_a) rfl) (p_ixT 1 (p_tv rfl q_b c_b) rfl)) (by decide)) (pa_consI (p_bd (b := 703) (p_sub (p_ixT 0 (p_tv rfl q_b c_b) rfl) (p_ixT 0 (p_tv rfl q_a c_a) rfl)) (by decide)) (pa_consI (p_bd (b := 703) (p_call (pa_consP (p_bdT (b := 351) (p_tv rfl q_a c_a) (by decide)) mono_T (pa_consP (p_bdT (b := 351) (p_tv rfl q_b c_b) (by decide)) mono_T pa_nilP)) (spa_turn)) (by decide)) pa_nilI))) (by simp) (by simp)) fun v H e h => k v H e h
theorem spa_is_through {K : PySem.W.Frag} {A : Ad} {p_0x p_0y p_1x p_1y p_2x p_2y p_3x p_3y p_4x p_4y p_5x p_5y : Int} : SpA (sp_is_through K A) [isQ K 350 [[p_0x, p_0y], [p_1x, p_1y], [p_2x, p_2y], [p_3x, p_3y], [p_4x, p_4y], [p_5x, p_5y]]] (isB (m_is_through p_0x p_0y p_1x p_1y p_2x p_2y p_3x p_3y p_4x p_4y p_5x p_5y)) := fun vs H h Q q _ => ⟨p_0x, p_0y, p_1x, p_1y, p_2x, p_2y, p_3x, p_3y, p_4x, p_4y, p_5x, p_5y, h, q⟩
theorem len_is_through {K : PySem.W.Frag} {A : Ad} {vs : List V} {H : Hp} {Q : VK} {E : XK} (h : sp_is_through K A vs H Q E) : vs.length = 1 := by
  obtain ⟨p_0x, p_0y, p_1x, p_1y, p_2x, p_2y, p_3x, p_3y, p_4x, p_4y, p_5x, p_5y, hA, _⟩ := h
  obtain ⟨v, vs, rfl, _, hA⟩ := hA
  obtain rfl : vs = [] := hA
  rfl
theorem pure_is_through {K : PySem.W.Frag} {mg : Str → Option Value} {A : Ad} {vs : List V} {H : Hp} {Q : VK} {E : XK} (T : Txt K mg A) (h : sp_is_through K A vs H Q E) : t_is_through K A (De Q) (start ["p"] vs) H := by
  obtain ⟨p_0x, p_0y, p_1x, p_1y, p_2x, p_2y, p_3x, p_3y, p_4x, p_4y, p_5x, p_5y, hA, k⟩ := h
  obtain ⟨v, vs, rfl, h1, hA⟩ := hA
  obtain ⟨p_p, w_p, rfl, q_p, r_p, c_p⟩ := h1
  obtain rfl : vs = [] := hA
  have k : RetP (isB (decide ((m_measure (m_line_numbers0 p_0x p_0y p_1x p_1y) (m_line_numbers1 p_0x p_0y p_1x p_1y) (m_line_numbers2 p_0x p_0y p_1x p_1y) (m_line_numbers0 p_2x p_2y p_3x p_3y) (m_line_numbers1 p_2x p_2y p_3x p_3y) (m_line_numbers2 p_2x p_2y p_3x p_3y) (m_line_numbers0 p_4x p_4y p_5x p_5y) (m_line_numbers1 p_4x p_4y p_5x p_5y) (m_line_numbers2 p_4x p_4y p_5x p_5y)) = 0))) H Q := k
  exact sp_ret (p_eq (p_call (pa_consP (p_EL (p_cat (p_cat (p_call (pa_consP (p_ixQ 0 (p_qv rfl q_p r_p c_p) rfl) mono_T (pa_consP (p_ixQ 1 (p_qv rfl q_p r_p c_p) rfl) mono_T pa_nilP)) (spa_line_numbers)) (p_call (pa_consP (p_ixQ 2 (p_qv rfl q_p r_p c_p) rfl) mono_T (pa_consP (p_ixQ 3 (p_qv rfl q_p r_p c_p) rfl) mono_T pa_nilP)) (spa_line_numbers)) (by simp)) (p_call (pa_consP (p_ixQ 4 (p_qv rfl q_p r_p c_p) rfl) mono_T (pa_consP (p_ixQ 5 (p_qv rfl q_p r_p c_p) rfl) mono_T pa_nilP)) (spa_line_numbers)) (by simp))) mono_L pa_nilP) (spa_measure)) (p_ic (a := 1) (by decide))) fun v H e h => k v H e h
theorem spa_is_middle {K : PySem.W.Frag} {A : Ad} {p_0x p_0y p_1x p_1y p_2x p_2y : Int} : SpA (sp_is_middle K A) [isQ K 350 [[p_0x, p_0y], [p_1x, p_1y], [p_2x, p_2y]]] (isB (m_is_middle p_0x p_0y p_1x p_1y p_2x p_2y)) := fun vs H h Q q _ => ⟨p_0x, p_0y, p_1x, p_1y, p_2x, p_2y, h, q⟩
theorem len_is_middle {K : PySem.W.Frag} {A : Ad} {vs : List V} {H : Hp} {Q : VK} {E : XK} (h : sp_is_middle K A vs H Q E) : vs.length = 1 := by
  obtain ⟨p_0x, p_0y, p_1x, p_1y, p_2x, p_2y, hA, _⟩ := h
  obtain ⟨v, vs, rfl, _, hA⟩ := hA
  obtain rfl : vs = [] := hA
  rfl
theorem pure_is_middle {K : PySem.W.Frag} {mg : Str → Option Value} {A : Ad} {vs : List V} {H : Hp} {Q : VK} {E : XK} (T : Txt K mg A) (h : sp_is_middle K A vs H Q E) : t_is_middle K A (De Q) (start ["p"] vs) H := by
  obtain ⟨p_0x, p_0y, p_1x, p_1y, p_2x, p_2y, hA, k⟩ := h
  obtain ⟨v, vs, rfl, h1, hA⟩ := hA
  obtain ⟨p_p, w_p, rfl, q_p, r_p, c_p⟩ := h1
  obtain rfl : vs = [] := hA
  have k : RetP (isB (decide ((m_way0 p_1x p_1y p_0x p_0y) = (m_way0 p_0x p_0y p_2x p_2y)) && decide ((m_way1 p_1x p_1y p_0x p_0y) = (m_way1 p_0x p_0y p_2x p_2y)))) H Q := k
  exact sp_ret (p_eqT2 (p_call (pa_consP (p_ixQ 1 (p_qv rfl q_p r_p c_p) rfl) mono_T (pa_consP (p_ixQ 0 (p_qv rfl q_p r_p c_p) rfl) mono_T pa_nilP)) (spa_way)) (p_call (pa_consP (p_ixQ 0 (p_qv rfl q_p r_p c_p) rfl) mono_T (pa_consP (p_ixQ 2 (p_qv rfl q_p r_p c_p) rfl) mono_T pa_nilP)) (spa_way))) fun v H e h => k v H e h
theorem spa_is_touches {K : PySem.W.Frag} {A : Ad} {p_0x p_0y p_1x p_1y p_2x p_2y p_3x p_3y : Int} : SpA (sp_is_touches K A) [isQ K 350 [[p_0x, p_0y], [p_1x, p_1y], [p_2x, p_2y], [p_3x, p_3y]]] (isB (m_is_touches p_0x p_0y p_1x p_1y p_2x p_2y p_3x p_3y)) := fun vs H h Q q _ => ⟨p_0x, p_0y, p_1x, p_1y, p_2x, p_2y, p_3x, p_3y, h, q⟩
theorem len_is_touches {K : PySem.W.Frag} {A : Ad} {vs : List V} {H : Hp} {Q : VK} {E : XK} (h : sp_is_touches K A vs H Q E) : vs.length = 1 := by
  obtain ⟨p_0x, p_0y, p_1x, p_1y, p_2x, p_2y, p_3x, p_3y, hA, _⟩ := h
  obtain ⟨v, vs, rfl, _, hA⟩ := hA
  obtain rfl : vs = [] := hA
  rfl
theorem pure_is_touches {K : PySem.W.Frag} {mg : Str → Option Value} {A : Ad} {vs : List V} {H : Hp} {Q : VK} {E : XK} (T : Txt K mg A) (h : sp_is_touches K A vs H Q E) : t_is_touches K A (De Q) (start ["p", "along", "turned"] vs) H := by
  obtain ⟨p_0x, p_0y, p_1x, p_1y, p_2x, p_2y, p_3x, p_3y, hA, k⟩ := h
  obtain ⟨v, vs, rfl, h1, hA⟩ := hA
  obtain ⟨p_p, w_p, rfl, q_p, r_p, c_p⟩ := h1
  obtain rfl : vs = [] := hA
  have k : RetP (isB (decide (((m_turn (m_way0 p_0x p_0y p_1x p_1y) (m_way1 p_0x p_0y p_1x p_1y) (m_way0 p_0x p_0y p_2x p_2y) (m_way1 p_0x p_0y p_2x p_2y)) * (m_turn (m_way0 p_0x p_0y p_1x p_1y) (m_way1 p_0x p_0y p_1x p_1y) (m_way0 p_0x p_0y p_2x p_2y) (m_way1 p_0x p_0y p_2x p_2y))) = ((m_square (m_way0 p_0x p_0y p_1x p_1y) (m_way1 p_0x p_0y p_1x p_1y)) * (m_square (m_way0 p_2x p_2y p_3x p_3y) (m_way1 p_2x p_2y p_3x p_3y)))))) H Q := k
  refine qp_asg (p_call (pa_consP (p_ixQ 0 (p_qv rfl q_p r_p c_p) rfl) mono_T (pa_consP (p_ixQ 1 (p_qv rfl q_p r_p c_p) rfl) mono_T pa_nilP)) (spa_way)) fun v1 H1 e1 h1 => ?_
  obtain ⟨p_along, rfl, q_along, c_along⟩ := h1
  replace r_p := RowsT.ex e1 r_p
  replace q_p := Evl.ex_l e1 q_p
  refine qp_asg (p_call (pa_consP (p_tv rfl q_along c_along) mono_T (pa_consP (p_call (pa_consP (p_ixQ 0 (p_qv rfl q_p r_p c_p) rfl) mono_T (pa_consP (p_ixQ 2 (p_qv rfl q_p r_p c_p) rfl) mono_T pa_nilP)) (spa_way)) mono_T pa_nilP)) (spa_turn)) fun v2 H2 e2 h2 => ?_
  obtain ⟨rfl, b_turned⟩ := h2
  replace r_p := RowsT.ex e2 r_p
  replace q_p := Evl.ex_l e2 q_p
  replace q_along := Evl.ex_t e2 q_along
  exact sp_ret (p_eq (p_mul (p_iv rfl b_turned) (p_iv rfl b_turned)) (p_mul (p_call (pa_consP (p_tv rfl q_along c_along) mono_T pa_nilP) (spa_square)) (p_call (pa_consP (p_call (pa_consP (p_ixQ 2 (p_qv rfl q_p r_p c_p) rfl) mono_T (pa_consP (p_ixQ 3 (p_qv rfl q_p r_p c_p) rfl) mono_T pa_nilP)) (spa_way)) mono_T pa_nilP) (spa_square)))) fun v H e h => k v H ((e1.trans e2).trans e) h
theorem spa_is_alike {K : PySem.W.Frag} {A : Ad} {p_0x p_0y p_1x p_1y p_2x p_2y p_3x p_3y p_4x p_4y p_5x p_5y : Int} : SpA (sp_is_alike K A) [isQ K 350 [[p_0x, p_0y], [p_1x, p_1y], [p_2x, p_2y], [p_3x, p_3y], [p_4x, p_4y], [p_5x, p_5y]]] (isB (m_is_alike p_0x p_0y p_1x p_1y p_2x p_2y p_3x p_3y p_4x p_4y p_5x p_5y)) := fun vs H h Q q _ => ⟨p_0x, p_0y, p_1x, p_1y, p_2x, p_2y, p_3x, p_3y, p_4x, p_4y, p_5x, p_5y, h, q⟩
theorem len_is_alike {K : PySem.W.Frag} {A : Ad} {vs : List V} {H : Hp} {Q : VK} {E : XK} (h : sp_is_alike K A vs H Q E) : vs.length = 1 := by
  obtain ⟨p_0x, p_0y, p_1x, p_1y, p_2x, p_2y, p_3x, p_3y, p_4x, p_4y, p_5x, p_5y, hA, _⟩ := h
  obtain ⟨v, vs, rfl, _, hA⟩ := hA
  obtain rfl : vs = [] := hA
  rfl
theorem pure_is_alike {K : PySem.W.Frag} {mg : Str → Option Value} {A : Ad} {vs : List V} {H : Hp} {Q : VK} {E : XK} (T : Txt K mg A) (h : sp_is_alike K A vs H Q E) : t_is_alike K A (De Q) (start ["p", "first", "second"] vs) H := by
  obtain ⟨p_0x, p_0y, p_1x, p_1y, p_2x, p_2y, p_3x, p_3y, p_4x, p_4y, p_5x, p_5y, hA, k⟩ := h
  obtain ⟨v, vs, rfl, h1, hA⟩ := hA
  obtain ⟨p_p, w_p, rfl, q_p, r_p, c_p⟩ := h1
  obtain rfl : vs = [] := hA
  have k : RetP (isB (decide ((m_multiplied0 (m_way0 p_0x p_0y p_1x p_1y) (m_way1 p_0x p_0y p_1x p_1y) (m_way0 p_3x p_3y p_5x p_5y) (m_way1 p_3x p_3y p_5x p_5y)) = (m_multiplied0 (m_way0 p_0x p_0y p_2x p_2y) (m_way1 p_0x p_0y p_2x p_2y) (m_way0 p_3x p_3y p_4x p_4y) (m_way1 p_3x p_3y p_4x p_4y))) && decide ((m_multiplied1 (m_way0 p_0x p_0y p_1x p_1y) (m_way1 p_0x p_0y p_1x p_1y) (m_way0 p_3x p_3y p_5x p_5y) (m_way1 p_3x p_3y p_5x p_5y)) = (m_multiplied1 (m_way0 p_0x p_0y p_2x p_2y) (m_way1 p_0x p_0y p_2x p_2y) (m_way0 p_3x p_3y p_4x p_4y) (m_way1 p_3x p_3y p_4x p_4y))))) H Q := k
  refine qp_asg (p_call (pa_consP (p_call (pa_consP (p_ixQ 0 (p_qv rfl q_p r_p c_p) rfl) mono_T (pa_consP (p_ixQ 1 (p_qv rfl q_p r_p c_p) rfl) mono_T pa_nilP)) (spa_way)) mono_T (pa_consP (p_call (pa_consP (p_ixQ 3 (p_qv rfl q_p r_p c_p) rfl) mono_T (pa_consP (p_ixQ 5 (p_qv rfl q_p r_p c_p) rfl) mono_T pa_nilP)) (spa_way)) mono_T pa_nilP)) (spa_multiplied)) fun v1 H1 e1 h1 => ?_
  obtain ⟨p_first, rfl, q_first, c_first⟩ := h1
  replace r_p := RowsT.ex e1 r_p
  replace q_p := Evl.ex_l e1 q_p
  refine qp_asg (p_call (pa_consP (p_call (pa_consP (p_ixQ 0 (p_qv rfl q_p r_p c_p) rfl) mono_T (pa_consP (p_ixQ 2 (p_qv rfl q_p r_p c_p) rfl) mono_T pa_nilP)) (spa_way)) mono_T (pa_consP (p_call (pa_consP (p_ixQ 3 (p_qv rfl q_p r_p c_p) rfl) mono_T (pa_consP (p_ixQ 4 (p_qv rfl q_p r_p c_p) rfl) mono_T pa_nilP)) (spa_way)) mono_T pa_nilP)) (spa_multiplied)) fun v2 H2 e2 h2 => ?_
  obtain ⟨p_second, rfl, q_second, c_second⟩ := h2
  replace r_p := RowsT.ex e2 r_p
  replace q_p := Evl.ex_l e2 q_p
  replace q_first := Evl.ex_t e2 q_first
  exact sp_ret (p_eqT2 (p_tv rfl q_first c_first) (p_tv rfl q_second c_second)) fun v H e h => k v H ((e1.trans e2).trans e) h
theorem spa_keeps_shapes {K : PySem.W.Frag} {A : Ad} {a_ b_ c_ d_ : Int} : SpA (sp_keeps_shapes K A) [isI 10 a_, isI 10 b_, isI 10 c_, isI 10 d_] (isB (m_keeps_shapes a_ b_ c_ d_)) := fun vs H h Q q _ => ⟨a_, b_, c_, d_, h, q⟩
theorem len_keeps_shapes {K : PySem.W.Frag} {A : Ad} {vs : List V} {H : Hp} {Q : VK} {E : XK} (h : sp_keeps_shapes K A vs H Q E) : vs.length = 4 := by
  obtain ⟨a_, b_, c_, d_, hA, _⟩ := h
  obtain ⟨v, vs, rfl, _, hA⟩ := hA
  obtain ⟨v, vs, rfl, _, hA⟩ := hA
  obtain ⟨v, vs, rfl, _, hA⟩ := hA
  obtain ⟨v, vs, rfl, _, hA⟩ := hA
  obtain rfl : vs = [] := hA
  rfl
theorem pure_keeps_shapes {K : PySem.W.Frag} {mg : Str → Option Value} {A : Ad} {vs : List V} {H : Hp} {Q : VK} {E : XK} (T : Txt K mg A) (h : sp_keeps_shapes K A vs H Q E) : t_keeps_shapes K A (De Q) (start ["a", "b", "c", "d", "across", "up"] vs) H := by
  obtain ⟨a_, b_, c_, d_, hA, k⟩ := h
  obtain ⟨v, vs, rfl, h1, hA⟩ := hA
  obtain ⟨rfl, b_a⟩ := h1
  obtain ⟨v, vs, rfl, h1, hA⟩ := hA
  obtain ⟨rfl, b_b⟩ := h1
  obtain ⟨v, vs, rfl, h1, hA⟩ := hA
  obtain ⟨rfl, b_c⟩ := h1
  obtain ⟨v, vs, rfl, h1, hA⟩ := hA
  obtain ⟨rfl, b_d⟩ := h1
  obtain rfl : vs = [] := hA
  have k : RetP (isB ((decide ((m_square a_ c_) = (m_square b_ d_))) && (decide ((m_lean a_ c_ b_ d_) = 0)))) H Q := k
  refine qp_asg (p_tup (K := K) 10 (pa_consI (p_bd (b := 10) (p_iv rfl b_a) (by decide)) (pa_consI (p_bd (b := 10) (p_iv rfl b_c) (by decide)) pa_nilI)) (by simp) (by simp)) fun v1 H1 e1 h1 => ?_
  obtain ⟨p_across, rfl, q_across, c_across⟩ := h1
  refine qp_asg (p_tup (K := K) 10 (pa_consI (p_bd (b := 10) (p_iv rfl b_b) (by decide)) (pa_consI (p_bd (b := 10) (p_iv rfl b_d) (by decide)) pa_nilI)) (by simp) (by simp)) fun v2 H2 e2 h2 => ?_
  obtain ⟨p_up, rfl, q_up, c_up⟩ := h2
  replace q_across := Evl.ex_t e2 q_across
  exact sp_ret (p_and (p_eq (p_call (pa_consP (p_bdT (b := 351) (p_tv rfl q_across c_across) (by decide)) mono_T pa_nilP) (spa_square)) (p_call (pa_consP (p_bdT (b := 351) (p_tv rfl q_up c_up) (by decide)) mono_T pa_nilP) (spa_square))) (fun _ => (p_eq (p_call (pa_consP (p_bdT (b := 351) (p_tv rfl q_across c_across) (by decide)) mono_T (pa_consP (p_bdT (b := 351) (p_tv rfl q_up c_up) (by decide)) mono_T pa_nilP)) (spa_lean)) (p_ic (a := 1) (by decide))))) fun v H e h => k v H ((e1.trans e2).trans e) h
end My

set_option Elab.async false
set_option linter.all false
set_option maxRecDepth 100000
set_option maxHeartbeats 4000000
namespace My
open PySem PySem.Spec PyProof.Rows L2
open Evl (Ev EvL EvU EvT EvA EvO Ex RV RU RC RCL SpV SpL)
section
variable {K : PySem.W.Frag} {mg : Str → Option Value} {A : Ad} {vs : List V} {H : Hp} {Q : VK} {E : XK}
theorem len_nine_of_slant (h : sp_nine_of_slant K A vs H Q E) : vs.length = 6 := by
  obtain ⟨a, b, c, d, e, f, rfl, k⟩ := h
  rfl
theorem pure_nine_of_slant (T : Txt K mg A) (h : sp_nine_of_slant K A vs H Q E) : t_nine_of_slant K A (De Q) (start ["a", "b", "c", "d", "e", "f"] vs) H := by
  obtain ⟨a, b, c, d, e, f, rfl, k⟩ := h
  exact Evl.s_retL (Evl.el_lst (Evl.ea_cons (Evl.ev_var rfl) (Evl.ea_cons (Evl.ev_var rfl) (Evl.ea_cons (Evl.ev_var rfl) (Evl.ea_cons (Evl.ev_var rfl) (Evl.ea_cons (Evl.ev_var rfl) (Evl.ea_cons (Evl.ev_var rfl) (Evl.ea_cons Evl.ev_c (Evl.ea_cons Evl.ev_c (Evl.ea_cons Evl.ev_c Evl.ea_nil))))))))) (by simp)) k
theorem spv_measure {p : Addr} {m : List Int} (hm : SqL K H p (intL m)) (hl : m.length = 9) (hb : ∀ x ∈ m, Bd 4 x) : SpV (sp_measure K A) [.ref p] H (.int (Kh372.det3 m)) := by
  match m, hl, hb, hm with
  | [m0, m1, m2, m3, m4, m5, m6, m7, m8], _, hb, hm =>
    intro H1 e Q q E
    refine spa_measure [.ref p] H1 ⟨.ref p, [], rfl, ⟨p, rfl, Evl.ex_l e hm, fun x hx => (hb x hx).le (by decide)⟩, rfl⟩ Q (fun v H2 e2 h2 => ?_) E
    rw [h2.1]
    exact q H2 e2
/-- may_bend -/
theorem bd4_of {x : Int} (h : x.natAbs ≤ 10) : Bd 4 x := by
  show x.natAbs < 16
  omega
theorem len_may_bend (h : sp_may_bend K A vs H Q E) : vs.length = 1 := by
  obtain ⟨p, m, rfl, _⟩ := h
  rfl
def bigV : V → Bool
  | .int i => decide (10 < i.natAbs)
  | _ => false
theorem any_big (m : List Int) : (intL m).any bigV = !Kh372.within 10 m := by
  unfold intL Kh372.within
  induction m with
  | nil => rfl
  | cons x r ih =>
    rw [List.map_cons, List.any_cons, List.all_cons, ih, Bool.not_and]
    congr 1
    show decide (10 < x.natAbs) = !(decide (-((10 : Nat) : Int) ≤ x) && decide (x ≤ ((10 : Nat) : Int)))
    by_cases h : 10 < x.natAbs
    · rw [decide_eq_true h]
      by_cases h1 : -((10 : Nat) : Int) ≤ x
      · rw [decide_eq_false (p := x ≤ ((10 : Nat) : Int)) (by omega), Bool.and_false] <;> rfl
      · rw [decide_eq_false h1] <;> rfl
    · rw [decide_eq_false h, decide_eq_true (p := -((10 : Nat) : Int) ≤ x) (by omega), decide_eq_true (p := x ≤ ((10 : Nat) : Int)) (by omega)] <;> rfl
theorem within_bd {m : List Int} (h : Kh372.within 10 m = true) : ∀ x ∈ m, Bd 4 x := by
  intro x hx
  have q := List.all_eq_true.mp h x hx
  simp only [Bool.and_eq_true, decide_eq_true_eq] at q
  exact bd4_of (by omega)
theorem pure_may_bend (T : Txt K mg A) (h : sp_may_bend K A vs H Q E) : t_may_bend K A (De Q) (start ["row", "number"] vs) H := by
  obtain ⟨p, m, rfl, hm, hz, k⟩ := h
  refine Evl.q_when (Evl.et_test (ev_ne (ev_lenS (Evl.ev_var rfl) (.inl hm)) Evl.ev_c)) (fun hb H1 e1 => ?_) (fun hb H1 e1 => ?_)
  · have hl : ¬ m.length = 9 := by
      intro z
      unfold intL at hb
      rw [List.length_map, z] at hb
      exact absurd hb (by decide)
    refine Evl.s_ret Evl.ev_c fun H2 e2 => ?_
    have k2 := k H2 (e1.trans e2)
    rw [decide_eq_false hl, Bool.false_and] at k2
    exact k2
  · have hl : m.length = 9 := by
      unfold intL at hb
      rw [List.length_map] at hb
      have := of_decide_eq_true (nb_f hb)
      omega
    have hm1 := Evl.ex_l e1 hm
    have ha : Ev (tCB (rAny K) (tCons (tLc (iList K (tVar 0)) (gName 1) tYes (tOp oGt (tCB rAbs (tCons (tVar 1) tNil)) (tC (.int 10))) [1]) tNil)) (start ["row", "number"] [.ref p]) H1 (.bl ((intL m).any bigV)) :=
      ev_anyMap bigV (Evl.ev_var rfl) hm1 (by unfold intL; rw [List.length_map]; omega) fun x hx H2 e2 => by
        obtain ⟨z, _, rfl⟩ := List.mem_map.mp hx
        refine Evl.ev_is (ev_gt (ev_abs (Evl.ev_var rfl)) Evl.ev_c) ?_
        show V.bl (decide ((10 : Int) < (z.natAbs : Int))) = V.bl (decide (10 < z.natAbs))
        congr 1
        by_cases h : 10 < z.natAbs
        · rw [decide_eq_true h, decide_eq_true (by omega)]
        · rw [decide_eq_false h, decide_eq_false (by omega)]
    rw [any_big] at ha
    rw [decide_eq_true hl, Bool.true_and] at k
    refine Evl.q_when (Evl.et_B ha) (fun hb2 H2 e2 => ?_) (fun hb2 H2 e2 => ?_)
    · refine Evl.s_ret Evl.ev_c fun H3 e3 => ?_
      have k2 := k H3 ((e1.trans e2).trans e3)
      rw [nb_t hb2, Bool.false_and] at k2
      exact k2
    · have hw : Kh372.within 10 m = true := nb_f hb2
      have hm2 := Evl.ex_l e2 hm1
      refine Evl.s_ret (ev_ne (Evl.ev_call (Evl.ea_cons (Evl.ev_var rfl) Evl.ea_nil) (spv_measure hm2 hl (within_bd hw))) Evl.ev_c) fun H3 e3 => ?_
      have k2 := k H3 ((e1.trans e2).trans e3)
      rw [hw, Bool.true_and] at k2
      have ed : (!decide (Kh372.det3 m = 0)) = decide (Kh372.det3 m ≠ 0) := by
        by_cases z : Kh372.det3 m = 0
        · rw [decide_eq_true z, decide_eq_false (fun q => q z)] <;> rfl
        · rw [decide_eq_false z, decide_eq_true z] <;> rfl
      rw [ed]
      exact k2
end
end My

set_option Elab.async false
set_option linter.all false
set_option maxRecDepth 100000
set_option maxHeartbeats 4000000
namespace My
open PySem PySem.Spec PyProof.Rows L2
open Evl (Ev EvL EvU EvT EvA EvO Ex RV RU RC RCL SpV SpL)
section
variable {K : PySem.W.Frag} {mg : Str → Option Value} {A : Ad} {vs : List V} {H : Hp} {Q : VK} {E : XK}
/-- bent -/
theorem len_bent (h : sp_bent K A vs H Q E) : vs.length = 2 := by
  obtain ⟨p, q, u, m, rfl, _⟩ := h
  rfl
theorem pure_bent (T : Txt K mg A) (h : sp_bent K A vs H Q E) : t_bent K A (De Q) (start ["place", "m", "x", "y", "w", "across", "up", "divisor"] vs) H := by
  obtain ⟨p, q, u, m, rfl, hp, hm, hl, hb, bx, by', bw, k⟩ := h
  match m, hl, hb, hm, k with
  | [m0, m1, m2, m3, m4, m5, m6, m7, m8], _, hb, hm, k =>
    have b0 : Bd 4 m0 := hb _ (by simp)
    have b1 : Bd 4 m1 := hb _ (by simp)
    have b2 : Bd 4 m2 := hb _ (by simp)
    have b3 : Bd 4 m3 := hb _ (by simp)
    have b4 : Bd 4 m4 := hb _ (by simp)
    have b5 : Bd 4 m5 := hb _ (by simp)
    have b6 : Bd 4 m6 := hb _ (by simp)
    have b7 : Bd 4 m7 := hb _ (by simp)
    have b8 : Bd 4 m8 := hb _ (by simp)
    refine Evl.q_asg (ev_ixT (n := 0) (Evl.ev_var rfl) hp rfl) fun H1 e1 => ?_
    have hp := Evl.ex_t e1 hp
    have hm := Evl.ex_l e1 hm
    refine Evl.q_asg (ev_ixT (n := 1) (Evl.ev_var rfl) hp rfl) fun H2 e2 => ?_
    have hp := Evl.ex_t e2 hp
    have hm := Evl.ex_l e2 hm
    refine Evl.q_asg (ev_ixT (n := 2) (Evl.ev_var rfl) hp rfl) fun H3 e3 => ?_
    have hm := Evl.ex_l e3 hm
    refine Evl.q_asg (eb_add (eb_add (eb_mul (eb_ixL (n := 0) (Evl.ev_var rfl) hm rfl b0) (eb_var rfl bx)) (eb_mul (eb_ixL (n := 1) (Evl.ev_var rfl) hm rfl b1) (eb_var rfl by'))) (eb_mul (eb_ixL (n := 2) (Evl.ev_var rfl) hm rfl b2) (eb_var rfl bw))).ev fun H4 e4 => ?_
    have hm := Evl.ex_l e4 hm
    refine Evl.q_asg (eb_add (eb_add (eb_mul (eb_ixL (n := 3) (Evl.ev_var rfl) hm rfl b3) (eb_var rfl bx)) (eb_mul (eb_ixL (n := 4) (Evl.ev_var rfl) hm rfl b4) (eb_var rfl by'))) (eb_mul (eb_ixL (n := 5) (Evl.ev_var rfl) hm rfl b5) (eb_var rfl bw))).ev fun H5 e5 => ?_
    have hm := Evl.ex_l e5 hm
    refine Evl.q_asg (eb_add (eb_add (eb_mul (eb_ixL (n := 6) (Evl.ev_var rfl) hm rfl b6) (eb_var rfl bx)) (eb_mul (eb_ixL (n := 7) (Evl.ev_var rfl) hm rfl b7) (eb_var rfl by'))) (eb_mul (eb_ixL (n := 8) (Evl.ev_var rfl) hm rfl b8) (eb_var rfl bw))).ev fun H6 e6 => ?_
    have ee := ((((e1.trans e2).trans e3).trans e4).trans e5).trans e6
    exact Evl.s_retU (Evl.eu_tup (Evl.ea_cons (Evl.ev_var rfl) (Evl.ea_cons (Evl.ev_var rfl) (Evl.ea_cons (Evl.ev_var rfl) Evl.ea_nil))) (by simp)) fun t H7 ht e7 h7 => k t H7 (Evl.fresh_back ee ht) (ee.trans e7) h7
theorem spu_bent {p q : Addr} {u : Pt} {m : List Int} (hp : SqT K H p (ptV u)) (hm : SqL K H q (intL m)) (hl : m.length = 9) (hb : ∀ x ∈ m, Bd 4 x) (bx : Bd 31 u.x) (by' : Bd 31 u.y) (bw : Bd 31 u.w) : SpU (sp_bent K A) [.ref p, .ref q] H (ptV (Kh372.bend m u)) :=
  fun H1 e Q q' _ => ⟨p, q, u, m, rfl, Evl.ex_t e hp, Evl.ex_l e hm, hl, hb, bx, by', bw, q'⟩
/-- greatest_common -/
theorem len_greatest_common (h : sp_greatest_common K A vs H Q E) : vs.length = 2 := by
  obtain ⟨a, b, rfl, _⟩ := h
  rfl
theorem fmod_nat (g l : Nat) : ((g : Int)).fmod (l : Int) = ((g % l : Nat) : Int) := by
  rw [Int.fmod_eq_emod_of_nonneg _ (Int.natCast_nonneg l), Int.natCast_emod]
theorem pure_greatest_common (T : Txt K mg A) (h : sp_greatest_common K A vs H Q E) : t_greatest_common K A (De Q) (start ["a", "b", "greater", "lesser", "rest"] vs) H := by
  obtain ⟨a, b, rfl, k⟩ := h
  refine Evl.q_asg (ev_abs (Evl.ev_var rfl)) fun H1 e1 => ?_
  refine Evl.q_asg (ev_abs (Evl.ev_var rfl)) fun H2 e2 => ?_
  refine Evl.q_while (fun m σ' H' => ∃ (g l : Nat) (r : Option V), σ' = [some (.int a), some (.int b), some (.int (g : Int)), some (.int (l : Int)), r] ∧ m = l ∧ Nat.gcd g l = Int.gcd a b ∧ Ex H H') b.natAbs ⟨a.natAbs, b.natAbs, none, rfl, rfl, rfl, e1.trans e2⟩ ?_
  rintro m σ' H' ⟨g, l, r, rfl, hml, hg, e3⟩
  refine ⟨_, Evl.et_test (ev_ne (Evl.ev_var rfl) Evl.ev_c), fun hb H4 e4 => ?_, fun hb H4 e4 => ?_⟩
  · have hl : l ≠ 0 := by
      intro z
      have := of_decide_eq_false (nb_t hb)
      omega
    refine ⟨fun σ2 H5 => σ2 = [some (.int a), some (.int b), some (.int (l : Int)), some (.int ((g % l : Nat) : Int)), some (.int ((g % l : Nat) : Int))] ∧ Ex H H5, ?_, ?_⟩
    · rintro σ2 H5 ⟨rfl, e5⟩
      refine ⟨g % l, by have := Nat.mod_lt g (Nat.pos_of_ne_zero hl); omega, l, g % l, _, rfl, rfl, ?_, e5⟩
      rw [← hg, Nat.gcd_comm l (g % l), ← Nat.gcd_rec, Nat.gcd_comm]
    · refine Evl.q_asg (Evl.ev_op (Evl.ev_var rfl) (Evl.ev_var rfl) (Evl.rv_I (by omega))) fun H5 e5 => ?_
      rw [fmod_nat]
      refine Evl.q_asg (Evl.ev_var rfl) fun H6 e6 => ?_
      refine Evl.s_asg (Evl.ev_var rfl) fun H7 e7 => ?_
      exact ⟨rfl, (((e3.trans e4).trans e5).trans e6).trans e7⟩
  · have hl : l = 0 := by
      have := of_decide_eq_true (nb_f hb)
      omega
    subst hl
    rw [Nat.gcd_zero_right] at hg
    refine Evl.s_ret (Evl.ev_var rfl) fun H5 e5 => ?_
    have k2 := k H5 ((e3.trans e4).trans e5)
    rw [← hg] at k2
    exact k2
theorem spv_greatest_common {a b : Int} : SpV (sp_greatest_common K A) [.int a, .int b] H (.int (Int.gcd a b)) := fun H1 e Q q _ => ⟨a, b, rfl, q⟩
/-- three_numbers -/
theorem len_three_numbers (h : sp_three_numbers K A vs H Q E) : vs.length = 3 := by
  obtain ⟨u, rfl, _⟩ := h
  rfl
theorem dvd_gcd3 (x y w : Int) : (((((x.gcd y : Nat) : Int)).gcd w : Nat) : Int) ∣ x ∧ (((((x.gcd y : Nat) : Int)).gcd w : Nat) : Int) ∣ y ∧ (((((x.gcd y : Nat) : Int)).gcd w : Nat) : Int) ∣ w :=
  ⟨Int.dvd_trans (Int.gcd_dvd_left _ _) (Int.gcd_dvd_left _ _), Int.dvd_trans (Int.gcd_dvd_left _ _) (Int.gcd_dvd_right _ _), Int.gcd_dvd_right _ _⟩
theorem bd_gcd {a : Nat} {g w : Int} (hw : w ≠ 0) (h : Bd a w) (hd : g ∣ w) : Bd a g := by
  have h1 : g.natAbs ∣ w.natAbs := Int.natAbs_dvd_natAbs.mpr hd
  have h2 := Nat.le_of_dvd (by omega) h1
  unfold Bd at *
  omega
theorem pure_three_numbers (T : Txt K mg A) (h : sp_three_numbers K A vs H Q E) : t_three_numbers K A (De Q) (start ["x", "y", "w", "common"] vs) H := by
  obtain ⟨u, rfl, hw, bw, k⟩ := h
  obtain ⟨x, y, w⟩ := u
  have hw : w ≠ 0 := hw
  have bw : Bd 64 w := bw
  obtain ⟨d1, d2, d3⟩ := dvd_gcd3 x y w
  refine Evl.q_asg (Evl.ev_call (Evl.ea_cons (Evl.ev_call (Evl.ea_cons (Evl.ev_var rfl) (Evl.ea_cons (Evl.ev_var rfl) Evl.ea_nil)) spv_greatest_common) (Evl.ea_cons (Evl.ev_var rfl) Evl.ea_nil)) spv_greatest_common) fun H1 e1 => ?_
  generalize hg : (((((x.gcd y : Nat) : Int)).gcd w : Nat) : Int) = g at d1 d2 d3
  have hg0 : g ≠ 0 := by
    intro z
    rw [z] at d3
    exact hw (Int.zero_dvd.mp d3)
  have bg : Bd 64 g := bd_gcd hw bw d3
  have fin : ∀ (c : Int) (H2 : Hp), Ex H H2 → c ≠ 0 → Bd 64 c → c ∣ x → c ∣ y → c ∣ w → (if w < 0 then -g else g) = c →
      tRet (tTup (tCons (tOp oDiv (tVar 0) (tVar 3)) (tCons (tOp oDiv (tVar 1) (tVar 3)) (tCons (tOp oDiv (tVar 2) (tVar 3)) tNil)))) (De Q) [some (.int x), some (.int y), some (.int w), some (.int c)] H2 := by
    intro c H2 e2 c0 bc c1 c2 c3 hc
    refine Evl.s_retU (Evl.eu_tup (Evl.ea_cons (Evl.ev_op (Evl.ev_var rfl) (Evl.ev_var rfl) (Evl.rv_I (bc.cdiv c0 (by decide)))) (Evl.ea_cons (Evl.ev_op (Evl.ev_var rfl) (Evl.ev_var rfl) (Evl.rv_I (bc.cdiv c0 (by decide)))) (Evl.ea_cons (Evl.ev_op (Evl.ev_var rfl) (Evl.ev_var rfl) (Evl.rv_I (bc.cdiv c0 (by decide)))) Evl.ea_nil))) (by simp)) fun t H3 ht e3 h3 => ?_
    refine k t H3 (Evl.fresh_back e2 ht) (e2.trans e3) ?_
    rw [h3]
    have e4 : ptV (Kh372.cut ⟨x, y, w⟩) = [.int (x / c), .int (y / c), .int (w / c)] := by
      unfold Kh372.cut ptV
      dsimp only
      rw [hg, hc]
    rw [e4, Int.fdiv_eq_ediv_of_dvd c1, Int.fdiv_eq_ediv_of_dvd c2, Int.fdiv_eq_ediv_of_dvd c3]
  refine Evl.q_when (Evl.et_test (ev_lt (Evl.ev_var rfl) Evl.ev_c)) (fun hb H2 e2 => ?_) (fun hb H2 e2 => ?_)
  · have hn : w < 0 := of_decide_eq_true hb
    refine Evl.s_asg (Evl.ev_un (Evl.ev_var rfl) Evl.ru_neg) fun H3 e3 => ?_
    exact fin (-g) H3 ((e1.trans e2).trans e3) (by omega) bg.neg (Int.neg_dvd.mpr d1) (Int.neg_dvd.mpr d2) (Int.neg_dvd.mpr d3) (if_pos hn)
  · have hn : ¬ w < 0 := of_decide_eq_false hb
    exact fin g H2 (e1.trans e2) hg0 bg d1 d2 d3 (if_neg hn)
theorem spu_three_numbers {u : Pt} (hw : u.w ≠ 0) (bw : Bd 64 u.w) : SpU (sp_three_numbers K A) (ptV u) H (ptV (Kh372.cut u)) := fun H1 e Q q _ => ⟨u, rfl, hw, bw, q⟩
/-- may_be_told -/
theorem len_may_be_told (h : sp_may_be_told K A vs H Q E) : vs.length = 3 := by
  obtain ⟨x, y, w, rfl, _⟩ := h
  rfl
theorem abs_le_dec (x : Int) (n : Nat) : decide ((x.natAbs : Int) ≤ (n : Int)) = (decide (-(n : Int) ≤ x) && decide (x ≤ n)) := by
  by_cases h : (x.natAbs : Int) ≤ n
  · rw [decide_eq_true h, decide_eq_true (p := -(n : Int) ≤ x) (by omega), decide_eq_true (p := x ≤ n) (by omega)] <;> rfl
  · rw [decide_eq_false h]
    by_cases h1 : -(n : Int) ≤ x
    · rw [decide_eq_false (p := x ≤ n) (by omega), Bool.and_false]
    · rw [decide_eq_false h1] <;> rfl
theorem pure_may_be_told (T : Txt K mg A) (h : sp_may_be_told K A vs H Q E) : t_may_be_told K A (De Q) (start ["x", "y", "w"] vs) H := by
  obtain ⟨x, y, w, rfl, k⟩ := h
  refine Evl.s_ret (Evl.ev_andV (ev_le (ev_abs (Evl.ev_var rfl)) Evl.ev_c) (fun _ => Evl.ev_andV (ev_le (ev_abs (Evl.ev_var rfl)) Evl.ev_c) (fun _ => ev_chain Evl.ev_c (Evl.ev_var rfl) Evl.ev_c Evl.rv_I0 Evl.rv_I0))) fun H1 e1 => ?_
  have k2 := k H1 e1
  have a1 := abs_le_dec x 1000
  have a2 := abs_le_dec y 1000
  unfold Kh371.okNumber at k2
  rw [show (decide ((x.natAbs : Int) ≤ 1000)) = _ from a1, show (decide ((y.natAbs : Int) ≤ 1000)) = _ from a2]
  exact k2
theorem spv_may_be_told {x y w : Int} : SpV (sp_may_be_told K A) [.int x, .int y, .int w] H (.bl (Kh371.okNumber x && (Kh371.okNumber y && (decide (1 ≤ w) && decide (w ≤ 1000))))) := fun H1 e Q q _ => ⟨x, y, w, rfl, q⟩
/-- is_too_large -/
theorem len_is_too_large (h : sp_is_too_large K A vs H Q E) : vs.length = 1 := by
  obtain ⟨p, u, rfl, _⟩ := h
  rfl
theorem not_dec_lt {i j : Int} : decide (j < i) = !decide (i ≤ j) := by
  by_cases h : i ≤ j
  · rw [decide_eq_true h, decide_eq_false (by omega)] <;> rfl
  · rw [decide_eq_false h, decide_eq_true (by omega)] <;> rfl
theorem pure_is_too_large (T : Txt K mg A) (h : sp_is_too_large K A vs H Q E) : t_is_too_large K A (De Q) (start ["place"] vs) H := by
  obtain ⟨p, u, rfl, hp, k⟩ := h
  refine Evl.s_ret (Evl.ev_orV (ev_gt (ev_abs (ev_ixT (n := 0) (Evl.ev_var rfl) hp rfl)) Evl.ev_c) (fun _ => Evl.ev_orV (ev_gt (ev_abs (ev_ixT (n := 1) (Evl.ev_var rfl) hp rfl)) Evl.ev_c) (fun _ => ev_gt (ev_ixT (n := 2) (Evl.ev_var rfl) hp rfl) Evl.ev_c))) fun H1 e1 => ?_
  have k2 := k H1 e1
  have a1 := abs_le_dec u.x 1000000000
  have a2 := abs_le_dec u.y 1000000000
  have ew : Kh372.WIDE = 1000000000 := by decide
  unfold Kh372.fits at k2
  rw [ew] at k2
  rw [not_dec_lt, not_dec_lt, not_dec_lt, show (decide ((u.x.natAbs : Int) ≤ 1000000000)) = _ from a1, show (decide ((u.y.natAbs : Int) ≤ 1000000000)) = _ from a2]
  rw [← Bool.not_and, ← Bool.not_and]
  simp only [Bool.and_assoc]
  exact k2
theorem spv_is_too_large {p : Addr} {u : Pt} (hp : SqT K H p (ptV u)) : SpV (sp_is_too_large K A) [.ref p] H (.bl (!Kh372.fits u)) := fun H1 e Q q _ => ⟨p, u, rfl, Evl.ex_t e hp, q⟩
end
end My

set_option Elab.async false
set_option linter.all false
set_option maxRecDepth 100000
set_option maxHeartbeats 4000000
namespace My
open PySem PySem.Spec PyProof.Rows L2
open Evl (Ev EvL EvU EvT EvA EvO Ex RV RU RC RCL SpV SpL)
section
variable {K : PySem.W.Frag} {mg : Str → Option Value} {A : Ad} {vs : List V} {H : Hp} {Q : VK} {E : XK}
theorem plF_begun (b : Bool) (l : Addr) : (PlF b l).lookup ("begun" : Str) = some (.bl b) := look_at _ _ _
theorem plF_places (b : Bool) (l : Addr) : (PlF b l).lookup ("places" : Str) = some (.ref l) := (look_on _ _ (by decide +kernel)).trans (look_at _ _ _)
theorem plF_putP (b : Bool) (l q : Addr) : putF "places" (.ref q) (PlF b l) = PlF b q := (putF_on _ _ _ (by decide +kernel)).trans (congrArg _ (putF_at _ _ _ _))
theorem plF_putB (b c : Bool) (l : Addr) : putF "begun" (.bl c) (PlF b l) = PlF c l := putF_at _ _ _ _
theorem plF_few (b : Bool) (l : Addr) : (PlF b l).length < 1000 := by show 2 < 1000; decide
theorem sqT_kp {H' : Hp} {a l C dx t : Addr} {fs : List (Str × V)} {xs us : List V} (h : SqT K H t us) (ha : H a = some (.ins C dx fs)) (hl : H l = some (.lst xs)) (k : ∀ b o, H b = some o → b ≠ a → b ≠ l → H' b = some o) : SqT K H' t us := by
  rcases h with (h | ⟨o, h⟩) | h
  · exact .inl (.inl (k _ _ h (dict_ne h ha (by intro z; cases z)) (dict_ne h hl (by intro z; cases z))))
  · exact .inl (.inr ⟨o, k _ _ h (dict_ne h ha (by intro z; cases z)) (dict_ne h hl (by intro z; cases z))⟩)
  · exact .inr h
theorem PtsAt.kp {H' : Hp} {a l C dx : Addr} {fs : List (Str × V)} {xs ws : List V} {ps : List Pt} (h : PtsAt K H ws ps) (ha : H a = some (.ins C dx fs)) (hl : H l = some (.lst xs)) (k : ∀ b o, H b = some o → b ≠ a → b ≠ l → H' b = some o) : PtsAt K H' ws ps :=
  ⟨h.1, fun i v p hv hp => by
    obtain ⟨t, e, q⟩ := h.2 i v p hv hp
    exact ⟨t, e, sqT_kp q ha hl k⟩⟩
theorem PtsAt.ex {H' : Hp} {ws : List V} {ps : List Pt} (e : Ex H H') (h : PtsAt K H ws ps) : PtsAt K H' ws ps :=
  ⟨h.1, fun i v p hv hp => by
    obtain ⟨t, e1, q⟩ := h.2 i v p hv hp
    exact ⟨t, e1, Evl.ex_t e q⟩⟩
theorem PtsAt.nil : PtsAt K H [] [] := ⟨rfl, fun i v p hv _ => by simp at hv⟩
theorem PtsAt.snoc {ws : List V} {ps : List Pt} {t : Addr} {p : Pt} (h : PtsAt K H ws ps) (ht : H t = some (.tup (ptV p))) : PtsAt K H (ws ++ [.ref t]) (ps ++ [p]) := by
  refine ⟨by simp [h.1], fun i v q hv hq => ?_⟩
  by_cases hi : i < ws.length
  · rw [List.getElem?_append_left hi] at hv
    rw [List.getElem?_append_left (by rw [← h.1]; exact hi)] at hq
    exact h.2 i v q hv hq
  · rw [List.getElem?_append_right (by omega)] at hv
    rw [List.getElem?_append_right (by rw [← h.1]; omega), ← h.1] at hq
    cases hk : i - ws.length with
    | zero =>
      rw [hk] at hv hq
      have e1 : V.ref t = v := Option.some.inj hv
      have e2 : p = q := Option.some.inj hq
      subst e1 e2
      exact ⟨t, rfl, SqT.of ht⟩
    | succ n =>
      rw [hk] at hv
      simp at hv
theorem PtsAt.set {ws : List V} {ps : List Pt} {t : Addr} {p : Pt} {j : Nat} (h : PtsAt K H ws ps) (ht : H t = some (.tup (ptV p))) : PtsAt K H (ws.set j (.ref t)) (ps.set j p) := by
  refine ⟨by simp [h.1], fun i v q hv hq => ?_⟩
  by_cases hi : j = i
  · subst hi
    by_cases hj : j < ws.length
    · rw [List.getElem?_set_self hj] at hv
      rw [List.getElem?_set_self (by rw [← h.1]; exact hj)] at hq
      have e1 : V.ref t = v := Option.some.inj hv
      have e2 : p = q := Option.some.inj hq
      subst e1 e2
      exact ⟨t, rfl, SqT.of ht⟩
    · rw [List.getElem?_eq_none (by simpa using hj)] at hv
      cases hv
  · rw [List.getElem?_set_ne hi] at hv hq
    exact h.2 i v q hv hq
theorem PtsAt.dropLast {ws : List V} {ps : List Pt} (h : PtsAt K H ws ps) : PtsAt K H ws.dropLast ps.dropLast := by
  refine ⟨by simp [h.1], fun i v q hv hq => ?_⟩
  rw [List.getElem?_dropLast] at hv hq
  split at hv
  · split at hq
    · exact h.2 i v q hv hq
    · cases hq
  · cases hv
theorem PlaneAt.ex {H' : Hp} {a l : Addr} {s : Option (List Pt)} (e : Ex H H') (h : PlaneAt K A H a l s) : PlaneAt K A H' a l s := by
  obtain ⟨dx, ws, h1, h2, h3⟩ := h
  exact ⟨dx, ws, e _ _ h1, e _ _ h2, h3.ex e⟩
theorem Aft.same {H' : Hp} {a l : Addr} {s : Option (List Pt)} (h : PlaneAt K A H a l s) (e : Ex H H') : Aft K A H a l s H' := ⟨l, .inl rfl, h.ex e, fun b o q _ _ => e b o q⟩
/-- the list at l is another one now -/
theorem Aft.lst {H1 H' : Hp} {a l dx : Addr} {ps' : List Pt} {xs ws' : List V} (ha : H a = some (.ins A.c_Plane dx (PlF true l))) (hl : H l = some (.lst xs)) (e : Ex H H1) (hp : PtsAt K H1 ws' ps') (e2 : Ex (upd H1 l (.lst ws')) H') : Aft K A H a l (some ps') H' := by
  have hla : l ≠ a := dict_ne hl ha (by intro z; cases z)
  refine ⟨l, .inl rfl, ⟨dx, ws', e2 _ _ ?_, e2 _ _ upd_same, PtsAt.ex e2 ?_⟩, fun b o q _ n2 => e2 _ _ ?_⟩
  · rw [upd_ne (Ne.symm hla)]
    exact e _ _ ha
  · refine hp.kp (e _ _ ha) (e _ _ hl) fun b o q n1 n2 => ?_
    rw [upd_ne n2]
    exact q
  · rw [upd_ne n2]
    exact e _ _ q
theorem okPoint_eq {x y w : Int} (hw : 0 ≤ w) : (Kh371.okNumber x && (Kh371.okNumber y && (decide (1 ≤ w) && decide (w ≤ 1000)))) = Kh372.okPoint x y w.toNat := by
  unfold Kh372.okPoint
  have e1 : decide (1 ≤ w) = decide (1 ≤ w.toNat) := by
    by_cases h : 1 ≤ w
    · rw [decide_eq_true h, decide_eq_true (by omega)]
    · rw [decide_eq_false h, decide_eq_false (by omega)]
  have e2 : decide (w ≤ 1000) = decide (w.toNat ≤ 1000) := by
    by_cases h : w ≤ 1000
    · rw [decide_eq_true h, decide_eq_true (by omega)]
    · rw [decide_eq_false h, decide_eq_false (by omega)]
  rw [e1, e2]
theorem okPoint_w {x y : Int} {w : Nat} (h : Kh372.okPoint x y w = true) : 1 ≤ w ∧ w ≤ 1000 := by
  unfold Kh372.okPoint at h
  simp only [Bool.and_eq_true, decide_eq_true_eq] at h
  exact h.2.2
theorem bd_w {w : Int} (h0 : 0 ≤ w) (h : w.toNat ≤ 1000) : Bd 64 w := Bd.of 1000 ⟨by omega, by omega⟩ (by decide)
/-- point -/
theorem len_spPl {rel : Hp → List V → Kh372.Call → Prop} {n : Nat} (hr : ∀ H r c, rel H r c → r.length = n) (h : spPl K A rel vs H Q E) : vs.length = n + 1 := by
  obtain ⟨a, l, ps, c, r, rfl, hrel, _⟩ := h
  rw [List.length_cons, hr _ _ _ hrel]
theorem len_Plane_point (h : sp_Plane_point K A vs H Q E) : vs.length = 4 := len_spPl (n := 3) (fun _ _ _ ⟨_, _, _, e, _⟩ => by rw [e]; rfl) h
theorem pure_Plane_point (T : Txt K mg A) (h : sp_Plane_point K A vs H Q E) : t_Plane_point K A (De Q) (start ["self", "x", "y", "w"] vs) H := by
  obtain ⟨a, l, ps, c, r, rfl, ⟨x, y, w, rfl, hw, rfl⟩, hP, hg, k⟩ := h
  have hP0 := hP
  obtain ⟨dx, ws, ha, hl, hp⟩ := hP
  refine Evl.q_when (Evl.et_not (Evl.et_B (Evl.ev_call (Evl.ea_cons (Evl.ev_var rfl) (Evl.ea_cons (Evl.ev_var rfl) (Evl.ea_cons (Evl.ev_var rfl) Evl.ea_nil))) spv_may_be_told))) (fun hb H1 e1 => ?_) (fun hb H1 e1 => ?_)
  · have hn := nb_t hb
    rw [okPoint_eq hw] at hn
    refine Evl.s_ret Evl.ev_c fun H2 e2 => ?_
    have k2 := k H2
    simp only [Kh372.does, hn, if_true] at k2
    exact k2 (Aft.same hP0 (e1.trans e2))
  · have hn := nb_f hb
    rw [okPoint_eq hw] at hn
    have hlen : ws.length = ps.length := hp.1
    refine Evl.q_when (Evl.et_test (ev_ge (ev_lenS (ev_fld (Evl.ev_var rfl) (e1 _ _ ha) T.cl_Plane T.na_Plane_places (plF_places _ _)) (.inl (Evl.sq_of (e1 _ _ hl)))) Evl.ev_c)) (fun hb2 H2 e2 => ?_) (fun hb2 H2 e2 => ?_)
    · have h10 : 10 ≤ ps.length := by
        have := of_decide_eq_true hb2
        omega
      refine Evl.s_ret Evl.ev_c fun H3 e3 => ?_
      have k2 := k H3
      simp only [Kh372.does, hn, Kh372.POINTS, h10, if_true, if_false, Bool.true_eq_false] at k2
      exact k2 (Aft.same hP0 ((e1.trans e2).trans e3))
    · have h10 : ¬ 10 ≤ ps.length := by
        have := of_decide_eq_false hb2
        omega
      have ee := e1.trans e2
      obtain ⟨w1, w2⟩ := okPoint_w hn
      refine Evl.q_appU (ee _ _ hl) (ev_fld (Evl.ev_var rfl) (ee _ _ ha) T.cl_Plane T.na_Plane_places (plF_places _ _)) (eu_call (Evl.ea_cons (Evl.ev_var rfl) (Evl.ea_cons (Evl.ev_var rfl) (Evl.ea_cons (Evl.ev_var rfl) Evl.ea_nil))) (spu_three_numbers (u := ⟨x, y, w⟩) (by show w ≠ 0; omega) (bd_w hw w2))) (by have := hg.2; omega) fun t H3 ht e3 h3 => ?_
      have hla : l ≠ a := dict_ne hl ha (by intro z; cases z)
      have e4 := ee.trans e3
      have ha3 : (upd H3 l (.lst (ws ++ [.ref t]))) a = some (.ins A.c_Plane dx (PlF true l)) := by
        rw [upd_ne (Ne.symm hla)]
        exact e4 _ _ ha
      refine Evl.s_ret (Evl.ev_op (ev_lenS (ev_fld (Evl.ev_var rfl) ha3 T.cl_Plane T.na_Plane_places (plF_places _ _)) (.inl (Evl.sq_of upd_same))) Evl.ev_c Evl.rv_I0) fun H5 e5 => ?_
      have k2 := k H5
      have hww : ((w.toNat : Nat) : Int) = w := by omega
      simp only [Kh372.does, hn, Kh372.POINTS, h10, if_true, if_false, Bool.true_eq_false, hww, Kh372.say] at k2
      have ev : (((ws ++ [V.ref t]).length : Nat) : Int) - 1 = (ps.length : Int) := by
        rw [List.length_append, hlen]
        simp
      rw [ev]
      exact k2 (Aft.lst ha hl e4 ((hp.ex e4).snoc h3) e5)
end
end My

set_option Elab.async false
set_option linter.all false
set_option maxRecDepth 100000
set_option maxHeartbeats 4000000
namespace My
open PySem PySem.Spec PyProof.Rows L2
open Evl (Ev EvL EvU EvT EvA EvO Ex RV RU RC RCL SpV SpL)
section
variable {K : PySem.W.Frag} {mg : Str → Option Value} {A : Ad} {vs : List V} {H : Hp} {Q : VK} {E : XK}
/-- put -/
theorem len_Plane_put (h : sp_Plane_put K A vs H Q E) : vs.length = 5 := len_spPl (n := 4) (fun _ _ _ ⟨_, _, _, _, e, _⟩ => by rw [e]; rfl) h
theorem pure_Plane_put (T : Txt K mg A) (h : sp_Plane_put K A vs H Q E) : t_Plane_put K A (De Q) (start ["self", "p", "x", "y", "w"] vs) H := by
  obtain ⟨a, l, ps, c, r, rfl, ⟨p, x, y, w, rfl, hp0, hw, rfl⟩, hP, hg, k⟩ := h
  have hP0 := hP
  obtain ⟨dx, ws, ha, hl, hp⟩ := hP
  have hlen : ws.length = ps.length := hp.1
  refine Evl.q_when (Evl.et_test (ev_ge (Evl.ev_var rfl) (ev_lenS (ev_fld (Evl.ev_var rfl) ha T.cl_Plane T.na_Plane_places (plF_places _ _)) (.inl (Evl.sq_of hl))))) (fun hb H1 e1 => ?_) (fun hb H1 e1 => ?_)
  · have hn : ps.length ≤ p.toNat := by
      have := of_decide_eq_true hb
      omega
    refine Evl.s_ret Evl.ev_c fun H2 e2 => ?_
    have k2 := k H2
    simp only [Kh372.does, hn, if_true] at k2
    exact k2 (Aft.same hP0 (e1.trans e2))
  · have hn : ¬ ps.length ≤ p.toNat := by
      have := of_decide_eq_false hb
      omega
    refine Evl.q_when (Evl.et_not (Evl.et_B (Evl.ev_call (Evl.ea_cons (Evl.ev_var rfl) (Evl.ea_cons (Evl.ev_var rfl) (Evl.ea_cons (Evl.ev_var rfl) Evl.ea_nil))) spv_may_be_told))) (fun hb2 H2 e2 => ?_) (fun hb2 H2 e2 => ?_)
    · have ho := nb_t hb2
      rw [okPoint_eq hw] at ho
      refine Evl.s_ret Evl.ev_c fun H3 e3 => ?_
      have k2 := k H3
      simp only [Kh372.does, hn, ho, if_true, if_false] at k2
      exact k2 (Aft.same hP0 ((e1.trans e2).trans e3))
    · have ho := nb_f hb2
      rw [okPoint_eq hw] at ho
      obtain ⟨w1, w2⟩ := okPoint_w ho
      have ee := e1.trans e2
      have hpp : p = ((p.toNat : Nat) : Int) := by omega
      refine q_setLU (j := p.toNat) (ee _ _ hl) (eu_call (Evl.ea_cons (Evl.ev_var rfl) (Evl.ea_cons (Evl.ev_var rfl) (Evl.ea_cons (Evl.ev_var rfl) Evl.ea_nil))) (spu_three_numbers (u := ⟨x, y, w⟩) (by show w ≠ 0; omega) (bd_w hw w2)))
        (fun H3 e3 => ev_fld (Evl.ev_var rfl) (e3 _ _ (ee _ _ ha)) T.cl_Plane T.na_Plane_places (plF_places _ _)) (fun H3 e3 => by rw [← hpp]; exact Evl.ev_var rfl) (by omega) fun t H3 ht e3 h3 => ?_
      have e4 := ee.trans e3
      refine Evl.s_ret Evl.ev_c fun H5 e5 => ?_
      have k2 := k H5
      have hww : ((w.toNat : Nat) : Int) = w := by omega
      simp only [Kh372.does, hn, ho, if_true, if_false, Bool.true_eq_false, hww, Kh372.say] at k2
      exact k2 (Aft.lst ha hl e4 ((hp.ex e4).set h3) e5)
/-- out -/
theorem len_Plane_out (h : sp_Plane_out K A vs H Q E) : vs.length = 1 := len_spPl (n := 0) (fun _ _ _ ⟨e, _⟩ => by rw [e]; rfl) h
theorem pure_Plane_out (T : Txt K mg A) (h : sp_Plane_out K A vs H Q E) : t_Plane_out K A (De Q) (start ["self"] vs) H := by
  obtain ⟨a, l, ps, c, r, rfl, ⟨rfl, rfl⟩, hP, hg, k⟩ := h
  have hP0 := hP
  obtain ⟨dx, ws, ha, hl, hp⟩ := hP
  have hlen : ws.length = ps.length := hp.1
  refine Evl.q_when (Evl.et_test (ev_eq (ev_lenS (ev_fld (Evl.ev_var rfl) ha T.cl_Plane T.na_Plane_places (plF_places _ _)) (.inl (Evl.sq_of hl))) Evl.ev_c)) (fun hb H1 e1 => ?_) (fun hb H1 e1 => ?_)
  · have hn : ps = [] := by
      have := of_decide_eq_true hb
      exact List.eq_nil_of_length_eq_zero (by omega)
    refine Evl.s_ret Evl.ev_c fun H2 e2 => ?_
    have k2 := k H2
    simp only [Kh372.does, hn, if_true] at k2
    exact k2 (Aft.same (hn ▸ hP0) (e1.trans e2))
  · have hn : ps ≠ [] := by
      intro z
      have := of_decide_eq_false hb
      rw [z] at hlen
      rw [hlen] at this
      exact this rfl
    have h1 : 0 < ws.length := by
      rw [hlen]
      exact List.length_pos_iff.mpr hn
    refine q_pop (y := ws[ws.length - 1]'(by omega)) (e1 _ _ hl) (ev_fld (Evl.ev_var rfl) (e1 _ _ ha) T.cl_Plane T.na_Plane_places (plF_places _ _)) (List.getElem?_eq_getElem (by omega)) fun H2 e2 => ?_
    have hla : l ≠ a := dict_ne hl ha (by intro z; cases z)
    have e4 := e1.trans e2
    have ha3 : (upd H2 l (.lst ws.dropLast)) a = some (.ins A.c_Plane dx (PlF true l)) := by
      rw [upd_ne (Ne.symm hla)]
      exact e4 _ _ ha
    refine Evl.s_ret (ev_lenS (ev_fld (Evl.ev_var rfl) ha3 T.cl_Plane T.na_Plane_places (plF_places _ _)) (.inl (Evl.sq_of upd_same))) fun H5 e5 => ?_
    have k2 := k H5
    simp only [Kh372.does, hn, if_true, if_false, Kh372.say] at k2
    rw [List.length_dropLast, hlen]
    exact k2 (Aft.lst ha hl e4 ((hp.ex e4).dropLast) e5)
/-- points -/
theorem len_Plane_points (h : sp_Plane_points K A vs H Q E) : vs.length = 1 := len_spPl (n := 0) (fun _ _ _ ⟨e, _⟩ => by rw [e]; rfl) h
theorem pure_Plane_points (T : Txt K mg A) (h : sp_Plane_points K A vs H Q E) : t_Plane_points K A (De Q) (start ["self"] vs) H := by
  obtain ⟨a, l, ps, c, r, rfl, ⟨rfl, rfl⟩, hP, hg, k⟩ := h
  have hP0 := hP
  obtain ⟨dx, ws, ha, hl, hp⟩ := hP
  have hlen : ws.length = ps.length := hp.1
  refine Evl.s_ret (ev_lenS (ev_fld (Evl.ev_var rfl) ha T.cl_Plane T.na_Plane_places (plF_places _ _)) (.inl (Evl.sq_of hl))) fun H1 e1 => ?_
  have k2 := k H1
  simp only [Kh372.does, Kh372.say] at k2
  rw [hlen]
  exact k2 (Aft.same hP0 e1)
/-- begin -/
theorem len_Plane_begin (h : sp_Plane_begin K A vs H Q E) : vs.length = 1 := by
  obtain ⟨a, l, s, rfl, _⟩ := h
  rfl
theorem pure_Plane_begin (T : Txt K mg A) (h : sp_Plane_begin K A vs H Q E) : t_Plane_begin K A (De Q) (start ["self"] vs) H := by
  obtain ⟨a, l, s, rfl, ⟨dx, ws, ha, hl, hp⟩, k⟩ := h
  refine q_fld Evl.ev_c (Evl.ev_var rfl) ha T.cl_Plane T.na_Plane_begun (plF_few _ _) fun H1 e1 => ?_
  rw [plF_putB]
  refine q_fldL (Evl.el_lst Evl.ea_nil (by simp)) (Evl.ev_var rfl) upd_same T.cl_Plane T.na_Plane_places (plF_few _ _) fun q H2 hq e2 h2 => ?_
  rw [plF_putP]
  refine Evl.s_ret Evl.ev_c fun H3 e3 => k H3 ?_
  have hqa : q ≠ a := fun z => by
    rw [z, upd_same] at hq
    cases hq
  have hq1 : H1 q = none := by
    rw [upd_ne hqa] at hq
    exact hq
  refine ⟨q, .inr (Evl.fresh_back e1 hq1), ⟨dx, [], e3 _ _ upd_same, e3 _ _ ?_, PtsAt.nil⟩, fun b o hb n1 n2 => e3 _ _ ?_⟩
  · rw [upd_ne hqa]
    exact h2
  · rw [upd_ne n1]
    refine e2 _ _ ?_
    rw [upd_ne n1]
    exact e1 _ _ hb
/-- __init__ -/
theorem len_Plane___init__ (h : sp_Plane___init__ K A vs H Q E) : vs.length = 1 := by
  obtain ⟨p, dx, rfl, _⟩ := h
  rfl
theorem pure_Plane___init__ (T : Txt K mg A) (h : sp_Plane___init__ K A vs H Q E) : t_Plane___init__ K A (De Q) (start ["self"] vs) H := by
  obtain ⟨p, dx, rfl, ha, k⟩ := h
  refine q_fld Evl.ev_c (Evl.ev_var rfl) ha T.cl_Plane T.na_Plane_begun (by decide) fun H1 e1 => ?_
  refine s_fldL (Evl.el_lst Evl.ea_nil (by simp)) (Evl.ev_var rfl) upd_same T.cl_Plane T.na_Plane_places (by show 1 < 1000; decide) fun q H2 hq e2 h2 => ?_
  have hqa : q ≠ p := fun z => by
    rw [z, upd_same] at hq
    cases hq
  have hq1 : H1 q = none := by
    rw [upd_ne hqa] at hq
    exact hq
  refine k _ q ⟨dx, [], ?_, ?_, PtsAt.nil⟩ (fun b o hb n1 => ?_) (Evl.fresh_back e1 hq1)
  · rw [upd_same]
    have e0 : putF "places" (.ref q) (putF "begun" (.bl false) []) = PlF false q := (putF_on _ _ _ (by decide +kernel)).trans rfl
    rw [e0]
    rfl
  · rw [upd_ne hqa]
    exact h2
  · rw [upd_ne n1]
    refine e2 _ _ ?_
    rw [upd_ne n1]
    exact e1 _ _ hb
end
end My

set_option Elab.async false
set_option linter.all false
set_option maxRecDepth 100000
set_option maxHeartbeats 4000000
namespace My
open PySem PySem.Spec PyProof.Rows L2
open Evl (Ev EvL EvU EvT EvA EvO Ex RV RU RC RCL SpV SpL)
section
variable {K : PySem.W.Frag} {mg : Str → Option Value} {A : Ad} {vs : List V} {H : Hp} {Q : VK} {E : XK}
theorem Good.bx {p : Pt} (h : Good p) : Bd 31 p.x ∧ Bd 31 p.y ∧ Bd 31 p.w := by
  have f := h.fit
  have w1 := h.w1
  have ew : Kh372.WIDE = 1000000000 := by decide
  unfold Kh372.fits at f
  rw [ew] at f
  simp only [Bool.and_eq_true, decide_eq_true_eq] at f
  exact ⟨Bd.of 1000000000 ⟨by omega, by omega⟩ (by decide), Bd.of 1000000000 ⟨by omega, by omega⟩ (by decide), Bd.of 1000000000 ⟨by omega, by omega⟩ (by decide)⟩
theorem bend_bd {m : List Int} {p : Pt} (hl : m.length = 9) (hm : ∀ x ∈ m, Bd 4 x) (h : Good p) : Bd 64 (Kh372.bend m p).w := by
  obtain ⟨b1, b2, b3⟩ := h.bx
  match m, hl, hm with
  | [m0, m1, m2, m3, m4, m5, m6, m7, m8], _, hm =>
    have c6 : Bd 4 m6 := hm _ (by simp)
    have c7 : Bd 4 m7 := hm _ (by simp)
    have c8 : Bd 4 m8 := hm _ (by simp)
    show Bd 64 (m6 * p.x + m7 * p.y + m8 * p.w)
    exact (((c6.mul b1).add (c7.mul b2)).add (c8.mul b3)).le (by decide)
theorem getD_of {ps : List Pt} {i : Nat} {p : Pt} (h : ps[i]? = some p) : ps.getD i ⟨0, 0, 0⟩ = p := by simp [List.getD, h]
theorem get_some {ws : List V} {ps : List Pt} {i : Nat} {x : V} (hlen : ws.length = ps.length) (h : ws[i]? = some x) : ∃ p, ps[i]? = some p ∧ p ∈ ps := by
  have hi := (List.getElem?_eq_some_iff.mp h).1
  have hp : ps[i]? = some ps[i] := List.getElem?_eq_getElem (by omega)
  exact ⟨_, hp, List.mem_of_getElem? hp⟩
theorem TupsAt.pts {H' : Hp} {ws : List V} {ps : List Pt} {f : Pt → Pt} (h : TupsAt H' ws ps.length fun i => ptV (f (ps.getD i ⟨0, 0, 0⟩))) : PtsAt K H' ws (ps.map f) := by
  refine ⟨by rw [h.1, List.length_map], fun i v p hv hp => ?_⟩
  obtain ⟨t, e1, e2⟩ := h.2 i v hv
  rw [List.getElem?_map] at hp
  cases hq : ps[i]? with
  | none =>
    rw [hq] at hp
    cases hp
  | some q =>
    rw [hq] at hp
    have e : f q = p := Option.some.inj hp
    dsimp only at e2
    rw [getD_of hq, e] at e2
    exact ⟨t, e1, SqT.of e2⟩
/-- bend -/
theorem len_Plane_bend (h : sp_Plane_bend K A vs H Q E) : vs.length = 2 := len_spPl (n := 1) (fun _ _ _ ⟨_, _, e, _⟩ => by rw [e]; rfl) h
theorem spv_may_bend {p : Addr} {m : List Int} (hm : SqL K H p (intL m)) (hl : m.length ≤ 9) : SpV (sp_may_bend K A) [.ref p] H (.bl (decide (m.length = 9) && (Kh372.within 10 m && decide (Kh372.det3 m ≠ 0)))) :=
  fun H1 e Q q _ => ⟨p, m, rfl, Evl.ex_l e hm, hl, q⟩
theorem pure_Plane_bend (T : Txt K mg A) (h : sp_Plane_bend K A vs H Q E) : t_Plane_bend K A (De Q) (start ["self", "row", "brought", "places", "place", "triple"] vs) H := by
  obtain ⟨a, l, ps, c, r, rfl, ⟨q, m, rfl, hm, hl9, rfl⟩, hP, hg, k⟩ := h
  have hP0 := hP
  obtain ⟨dx, ws, ha, hl, hp⟩ := hP
  have hlen : ws.length = ps.length := hp.1
  have hl10 := hg.2
  refine Evl.q_when (Evl.et_not (Evl.et_B (Evl.ev_call (Evl.ea_cons (Evl.ev_var rfl) Evl.ea_nil) (spv_may_bend hm hl9)))) (fun hb H1 e1 => ?_) (fun hb H1 e1 => ?_)
  · have hn := nb_t hb
    have hc : m.length ≠ 9 ∨ Kh372.within 10 m = false ∨ Kh372.det3 m = 0 := by
      rw [Bool.and_eq_false_iff, Bool.and_eq_false_iff] at hn
      rcases hn with h1 | h1 | h1
      · exact .inl (of_decide_eq_false h1)
      · exact .inr (.inl h1)
      · exact .inr (.inr (Decidable.of_not_not (of_decide_eq_false h1)))
    refine Evl.s_ret Evl.ev_c fun H2 e2 => ?_
    have k2 := k H2
    simp only [Kh372.does, hc, if_true] at k2
    exact k2 (Aft.same hP0 (e1.trans e2))
  · have hn := nb_f hb
    simp only [Bool.and_eq_true, decide_eq_true_eq] at hn
    obtain ⟨h9, hw, hd⟩ := hn
    have hc : ¬ (m.length ≠ 9 ∨ Kh372.within 10 m = false ∨ Kh372.det3 m = 0) := by
      rintro (z | z | z)
      · exact z h9
      · rw [hw] at z
        cases z
      · exact hd z
    simp only [Kh372.does, hc, if_false] at k
    have hm4 := within_bd hw
    have hm1 := Evl.ex_l e1 hm
    -- brought
    refine q_asgLU (elu_map (fun i => ptV (Kh372.bend m (ps.getD i ⟨0, 0, 0⟩))) (ev_fld (Evl.ev_var rfl) (e1 _ _ ha) T.cl_Plane T.na_Plane_places (plF_places _ _)) (Evl.sq_of (e1 _ _ hl)) (by omega) fun i x hx H2 e2 => ?_) fun pb H2 wb hpb e2 h2 hwb => ?_
    · obtain ⟨p, hpp, hmem⟩ := get_some hlen hx
      obtain ⟨t, rfl, ht⟩ := hp.2 i x p hx hpp
      rw [getD_of hpp]
      obtain ⟨b1, b2, b3⟩ := (hg.1 p hmem).bx
      exact eu_call (Evl.ea_cons (Evl.ev_var rfl) (Evl.ea_cons (Evl.ev_var rfl) Evl.ea_nil)) (spu_bent (Evl.ex_t (e1.trans e2) ht) (Evl.ex_l e2 hm1) h9 hm4 b1 b2 b3)
    · have hwl : wb.length = ps.length := hwb.1.trans hlen
      have ee2 := e1.trans e2
      have hany : Ev (tCB (rAny K) (tCons (tLc (iList K (tVar 2)) (gName 5) tYes (tOp rEq (tOp (rIxT K) (tVar 5) (tC (.int 2))) (tC (.int 0))) [5]) tNil)) ((start ["self", "row", "brought", "places", "place", "triple"] [.ref a, .ref q]).set 2 (some (.ref pb))) H2 (.bl (ps.any fun p => (Kh372.bend m p).w == 0)) := by
        rw [← any_range_list ps _ ⟨0, 0, 0⟩, ← hwl]
        refine ev_anyI (fun i => (Kh372.bend m (ps.getD i ⟨0, 0, 0⟩)).w == 0) (Evl.ev_var rfl) (Evl.sq_of h2) (by omega) fun i x hx H3 e3 => ?_
        obtain ⟨t, rfl, ht⟩ := hwb.2 i x hx
        refine Evl.ev_is (ev_eq (ev_ixT (n := 2) (Evl.ev_var rfl) (SqT.of (e3 _ _ ht)) rfl) Evl.ev_c) ?_
        congr 1
      refine Evl.q_when (Evl.et_B hany) (fun hb2 H3 e3 => ?_) (fun hb2 H3 e3 => ?_)
      · refine Evl.s_ret Evl.ev_c fun H4 e4 => ?_
        have k2 := k H4
        simp only [Kh372.shift, hb2, if_true] at k2
        exact k2 (Aft.same hP0 ((ee2.trans e3).trans e4))
      · simp only [Kh372.shift, hb2, if_false, Bool.false_eq_true] at k
        have hnz : ∀ p ∈ ps, (Kh372.bend m p).w ≠ 0 := by
          intro p hpm z
          have := List.any_eq_false.mp hb2 p hpm
          rw [z] at this
          exact this rfl
        have ee3 := ee2.trans e3
        have hwb3 := hwb.ex e3
        -- places
        refine q_asgLU (elu_map (fun i => ptV (Kh372.cut (Kh372.bend m (ps.getD i ⟨0, 0, 0⟩)))) (Evl.ev_var rfl) (Evl.sq_of (e3 _ _ h2)) (by omega) fun i x hx H4 e4 => ?_) fun pc H4 wc hpc e4 h4 hwc => ?_
        · obtain ⟨p, hpp, hmem⟩ := get_some hwl hx
          obtain ⟨t, rfl, ht⟩ := hwb3.2 i x hx
          dsimp only at ht
          rw [getD_of hpp] at ht ⊢
          have ht4 := SqT.of (K := K) (e4 _ _ ht)
          exact eu_call (Evl.ea_cons (ev_ixT (n := 0) (Evl.ev_var rfl) ht4 rfl) (Evl.ea_cons (ev_ixT (n := 1) (Evl.ev_var rfl) ht4 rfl) (Evl.ea_cons (ev_ixT (n := 2) (Evl.ev_var rfl) ht4 rfl) Evl.ea_nil))) (spu_three_numbers (u := Kh372.bend m p) (hnz p hmem) (bend_bd h9 hm4 (hg.1 p hmem)))
        · have hcl : wc.length = ps.length := hwc.1.trans hwl
          have hwc' : TupsAt H4 wc ps.length fun i => ptV (Kh372.cut (Kh372.bend m (ps.getD i ⟨0, 0, 0⟩))) := by
            rw [← hwl]
            exact hwc
          have hpts : PtsAt K H4 wc (ps.map fun p => Kh372.cut (Kh372.bend m p)) := TupsAt.pts (f := fun p => Kh372.cut (Kh372.bend m p)) hwc'
          have hany2 : Ev (tCB (rAny K) (tCons (tLc (iList K (tVar 3)) (gName 4) tYes (tCall (sp_is_too_large K A) [] E0 (tCons (tVar 4) tNil)) [4]) tNil)) (((start ["self", "row", "brought", "places", "place", "triple"] [.ref a, .ref q]).set 2 (some (.ref pb))).set 3 (some (.ref pc))) H4 (.bl ((ps.map fun p => Kh372.cut (Kh372.bend m p)).any fun p => !Kh372.fits p)) := by
            rw [← any_range_list (ps.map fun p => Kh372.cut (Kh372.bend m p)) _ ⟨0, 0, 0⟩, ← hpts.1]
            refine ev_anyI (fun i => !Kh372.fits ((ps.map fun p => Kh372.cut (Kh372.bend m p)).getD i ⟨0, 0, 0⟩)) (Evl.ev_var rfl) (Evl.sq_of h4) (by omega) fun i x hx H5 e5 => ?_
            obtain ⟨p, hpp, hmem⟩ := get_some hpts.1 hx
            obtain ⟨t, rfl, ht⟩ := hpts.2 i x p hx hpp
            rw [getD_of hpp]
            exact Evl.ev_call (Evl.ea_cons (Evl.ev_var rfl) Evl.ea_nil) (spv_is_too_large (Evl.ex_t e5 ht))
          have hall : ((ps.map fun p => Kh372.cut (Kh372.bend m p)).any fun p => !Kh372.fits p) = !(ps.map fun p => Kh372.cut (Kh372.bend m p)).all Kh372.fits := by
            rw [List.not_all_eq_any_not]
          rw [hall] at hany2
          refine Evl.q_when (Evl.et_B hany2) (fun hb3 H5 e5 => ?_) (fun hb3 H5 e5 => ?_)
          · have ha5 := nb_t hb3
            refine Evl.s_ret Evl.ev_c fun H6 e6 => ?_
            have k2 := k H6
            simp only [ha5, if_true] at k2
            exact k2 (Aft.same hP0 (((ee3.trans e4).trans e5).trans e6))
          · have ha5 := nb_f hb3
            simp only [ha5, if_false, Bool.true_eq_false] at k
            have ee5 := (ee3.trans e4).trans e5
            refine q_fld (Evl.ev_var rfl) (Evl.ev_var rfl) (ee5 _ _ ha) T.cl_Plane T.na_Plane_places (plF_few _ _) fun H6 e6 => ?_
            rw [plF_putP]
            refine Evl.s_ret Evl.ev_c fun H7 e7 => k H7 ?_
            have ee6 := ee5.trans e6
            have h6 : H6 pc = some (.lst wc) := e6 _ _ (e5 _ _ h4)
            have hca : pc ≠ a := dict_ne h6 (ee6 _ _ ha) (by intro z; cases z)
            refine ⟨pc, .inr (Evl.fresh_back ee3 hpc), ⟨dx, wc, e7 _ _ upd_same, e7 _ _ ?_, PtsAt.ex e7 ?_⟩, fun b o hb n1 n2 => e7 _ _ ?_⟩
            · rw [upd_ne hca]
              exact h6
            · refine ((hpts.ex e5).ex e6).kp (ee6 _ _ ha) h6 fun b o hb n1 n2 => ?_
              rw [upd_ne n1]
              exact hb
            · rw [upd_ne n1]
              exact ee6 _ _ hb
end
end My

set_option Elab.async false
set_option linter.all false
set_option maxRecDepth 100000
set_option maxHeartbeats 4000000
namespace My
open PySem PySem.Spec PyProof.Rows L2
open Evl (Ev EvL EvU EvT EvA EvO Ex RV RU RC RCL SpV SpL)
section
variable {K : PySem.W.Frag} {mg : Str → Option Value} {A : Ad} {vs : List V} {H : Hp} {Q : VK} {E : XK}
theorem Aft.ex {H1 H' : Hp} {a l : Addr} {s : Option (List Pt)} (e : Ex H H1) (h : Aft K A H1 a l s H') : Aft K A H a l s H' := by
  obtain ⟨l', h1, h2, h3⟩ := h
  exact ⟨l', h1.elim .inl (fun z => .inr (Evl.fresh_back e z)), h2, fun b o q n1 n2 => h3 b o (e _ _ q) n1 n2⟩
theorem slant_bend (ps : List Pt) (x y z u e f : Int) : Kh372.does ps (.slant x y z u e f) = Kh372.does ps (.bend [x, y, e, z, u, f, 0, 0, 1]) := by
  have hw : Kh372.within 10 [x, y, e, z, u, f, 0, 0, 1] = Kh372.within 10 [x, y, z, u, e, f] := by
    simp only [Kh372.within, List.all_cons, List.all_nil]
    have h0 : (decide (-((10 : Nat) : Int) ≤ 0) && decide ((0 : Int) ≤ ((10 : Nat) : Int))) = true := by decide
    have h1 : (decide (-((10 : Nat) : Int) ≤ 1) && decide ((1 : Int) ≤ ((10 : Nat) : Int))) = true := by decide
    rw [h0, h1]
    ac_rfl
  have hd : Kh372.det3 [x, y, e, z, u, f, 0, 0, 1] = x * u - y * z := by
    show x * (u * 1 - f * 0) - y * (z * 1 - f * 0) + e * (z * 0 - u * 0) = x * u - y * z
    simp
  have hb : Kh372.bend [x, y, e, z, u, f, 0, 0, 1] = Kh372.slant x y z u e f := by
    funext p
    show (⟨x * p.x + y * p.y + e * p.w, z * p.x + u * p.y + f * p.w, 0 * p.x + 0 * p.y + 1 * p.w⟩ : Pt) = ⟨x * p.x + y * p.y + e * p.w, z * p.x + u * p.y + f * p.w, p.w⟩
    simp
  show (if Kh372.within 10 [x, y, z, u, e, f] = false ∨ x * u - y * z = 0 then (ps, Kh372.say (-22)) else Kh372.shift ps (Kh372.slant x y z u e f)) = (if ([x, y, e, z, u, f, 0, 0, 1] : List Int).length ≠ 9 ∨ Kh372.within 10 [x, y, e, z, u, f, 0, 0, 1] = false ∨ Kh372.det3 [x, y, e, z, u, f, 0, 0, 1] = 0 then (ps, Kh372.say (-22)) else Kh372.shift ps (Kh372.bend [x, y, e, z, u, f, 0, 0, 1]))
  rw [hw, hd, hb]
  have hn : (([x, y, e, z, u, f, 0, 0, 1] : List Int).length ≠ 9) = False := by simp
  simp only [hn, false_or]
theorem spl_nine_of_slant {a b c d e f : Int} : SpL (sp_nine_of_slant K A) [.int a, .int b, .int c, .int d, .int e, .int f] H (intL [a, b, e, c, d, f, 0, 0, 1]) := fun H1 _ Q q _ => ⟨a, b, c, d, e, f, rfl, q⟩
theorem plF_none (b : Bool) (l : Addr) (m : Str) (h1 : (m == ("begun" : Str)) = false) (h2 : (m == ("places" : Str)) = false) : (PlF b l).lookup m = none := (look_on _ _ h1).trans ((look_on _ _ h2).trans rfl)
theorem len_Plane_slant (h : sp_Plane_slant K A vs H Q E) : vs.length = 7 := len_spPl (n := 6) (fun _ _ _ ⟨_, _, _, _, _, _, e, _⟩ => by rw [e]; rfl) h
theorem pure_Plane_slant (T : Txt K mg A) (h : sp_Plane_slant K A vs H Q E) : t_Plane_slant K A (De Q) (start ["self", "a", "b", "c", "d", "e", "f"] vs) H := by
  obtain ⟨a, l, ps, c, r, rfl, ⟨x, y, z, u, e, f, rfl, rfl⟩, hP, hg, k⟩ := h
  have hP0 := hP
  obtain ⟨dx, ws, ha, hl, hp⟩ := hP
  refine ⟨_, rfl, a, dx, _, rfl, ha, plF_none _ _ _ (by decide +kernel) (by decide +kernel), ?_⟩
  refine Evl.el_call (Evl.ea_cons (Evl.ev_var rfl) (Evl.ea_cons (Evl.ev_var rfl) (Evl.ea_cons (Evl.ev_var rfl) (Evl.ea_cons (Evl.ev_var rfl) (Evl.ea_cons (Evl.ev_var rfl) (Evl.ea_cons (Evl.ev_var rfl) Evl.ea_nil)))))) spl_nine_of_slant H (Ex.refl H) _ fun q H1 hq e1 h1 => ?_
  refine ⟨a, l, ps, .bend [x, y, e, z, u, f, 0, 0, 1], [.ref q], rfl, ⟨q, _, rfl, SqL.of h1, by simp, rfl⟩, hP0.ex e1, hg, fun H' hA => ?_⟩
  have k2 := k H'
  rw [slant_bend] at k2
  exact k2 (hA.ex e1)
end
end My

set_option Elab.async false
set_option linter.all false
set_option maxRecDepth 100000
set_option maxHeartbeats 4000000
namespace My
open PySem PySem.Spec PyProof.Rows L2
open Evl (Ev EvL EvU EvT EvA EvO Ex RV RU RC RCL SpV SpL)
section
variable {K : PySem.W.Frag} {mg : Str → Option Value} {A : Ad} {vs : List V} {H : Hp} {Q : VK} {E : XK}
theorem put_append : ∀ (c1 c2 : List (List (List Int))), PyFlat.put (c1 ++ c2) = PyFlat.put c1 ++ PyFlat.put c2
  | [], _ => rfl
  | c :: r, c2 => by
    show PyFlat.put1 c ++ PyFlat.put (r ++ c2) = (PyFlat.put1 c ++ PyFlat.put r) ++ PyFlat.put c2
    rw [put_append r c2, List.append_assoc]
theorem take_more {α : Type} {l : List α} {i : Nat} {x : α} (h : l[i]? = some x) : l.take (i + 1) = l.take i ++ [x] := by
  rw [List.take_add_one, h]
  rfl
theorem put_split {cs : List (List (List Int))} {k : Nat} {c : List (List Int)} (h : cs[k]? = some c) : PyFlat.put cs = PyFlat.put (cs.take k) ++ (PyFlat.put1 c ++ PyFlat.put (cs.drop (k + 1))) := by
  have e : cs = cs.take k ++ (c :: cs.drop (k + 1)) := by
    obtain ⟨hk, hc⟩ := List.getElem?_eq_some_iff.mp h
    conv => lhs; rw [← List.take_append_drop k cs, List.drop_eq_getElem_cons hk, hc]
  conv => lhs; rw [e, put_append]
  rfl
theorem cutV_nat (xs : List V) {i j : Nat} (hij : i ≤ j) (hj : j ≤ xs.length) : cutV xs (some (i : Int)) (some (j : Int)) = (xs.drop i).take (j - i) := by
  unfold cutV
  rw [HT.sIx_nat, HT.sIx_nat, Nat.min_eq_left (Nat.le_trans hij hj), Nat.min_eq_left hj]
theorem cut_mid (pre mid post : List Int) {i j : Nat} (hi : i = pre.length) (hj : j = pre.length + mid.length) : cutV (intL (pre ++ (mid ++ post))) (some (i : Int)) (some (j : Int)) = intL mid := by
  have hl : (intL (pre ++ (mid ++ post))).length = pre.length + (mid.length + post.length) := by simp [intL]
  rw [cutV_nat _ (by omega) (by omega)]
  subst hi hj
  unfold intL
  rw [List.map_append, List.drop_append_of_le_length (by simp)]
  rw [List.drop_of_length_le (by simp), List.nil_append, List.map_append, Nat.add_sub_cancel_left, List.take_append_of_le_length (by simp)]
  rw [List.take_of_length_le (by simp)]
theorem at_mid (pre post : List Int) (x : Int) {i : Nat} (hi : i = pre.length) : (intL (pre ++ (x :: post)))[i]? = some (.int x) := by
  subst hi
  unfold intL
  rw [List.getElem?_map, List.getElem?_append_right (Nat.le_refl _), Nat.sub_self]
  rfl
def plainN : List V := [.int 0, .int 3, .int 4, .int 0, .int 6, .int 0, .int 0, .int 1, .int 1, .int 1, .int 1, .int 5, .int 4, .int 3]
/-- what the two tables say of a call's shape -/
theorem shape_tab {z : Int} {n r : Nat} (h : PyKh372.shape z = some (n, r)) : atI plainN z = some (.int (n : Int)) ∧ inV (.int z) [.int 5, .int 8] = decide (r = 1) ∧ r ≤ 1 ∧ 0 ≤ z ∧ z ≤ 13 := by
  unfold PyKh372.shape at h
  by_cases h0 : z = 0
  · subst h0
    have h := (show some ((0, 0) : Nat × Nat) = some (n, r) from h)
    cases h
    exact ⟨by decide, by decide, by decide, by decide, by decide⟩
  rw [if_neg h0] at h
  by_cases h1 : z = 1
  · subst h1
    have h := (show some ((3, 0) : Nat × Nat) = some (n, r) from h)
    cases h
    exact ⟨by decide, by decide, by decide, by decide, by decide⟩
  rw [if_neg h1] at h
  by_cases h2 : z = 2
  · subst h2
    have h := (show some ((4, 0) : Nat × Nat) = some (n, r) from h)
    cases h
    exact ⟨by decide, by decide, by decide, by decide, by decide⟩
  rw [if_neg h2] at h
  by_cases h3 : z = 3
  · subst h3
    have h := (show some ((0, 0) : Nat × Nat) = some (n, r) from h)
    cases h
    exact ⟨by decide, by decide, by decide, by decide, by decide⟩
  rw [if_neg h3] at h
  by_cases h4 : z = 4
  · subst h4
    have h := (show some ((6, 0) : Nat × Nat) = some (n, r) from h)
    cases h
    exact ⟨by decide, by decide, by decide, by decide, by decide⟩
  rw [if_neg h4] at h
  by_cases h5 : z = 5
  · subst h5
    have h := (show some ((0, 1) : Nat × Nat) = some (n, r) from h)
    cases h
    exact ⟨by decide, by decide, by decide, by decide, by decide⟩
  rw [if_neg h5] at h
  by_cases h6 : z = 6
  · subst h6
    have h := (show some ((0, 0) : Nat × Nat) = some (n, r) from h)
    cases h
    exact ⟨by decide, by decide, by decide, by decide, by decide⟩
  rw [if_neg h6] at h
  by_cases h7 : z = 7
  · subst h7
    have h := (show some ((1, 0) : Nat × Nat) = some (n, r) from h)
    cases h
    exact ⟨by decide, by decide, by decide, by decide, by decide⟩
  rw [if_neg h7] at h
  by_cases h8 : z = 8
  · subst h8
    have h := (show some ((1, 1) : Nat × Nat) = some (n, r) from h)
    cases h
    exact ⟨by decide, by decide, by decide, by decide, by decide⟩
  rw [if_neg h8] at h
  by_cases h9 : z = 9
  · subst h9
    have h := (show some ((1, 0) : Nat × Nat) = some (n, r) from h)
    cases h
    exact ⟨by decide, by decide, by decide, by decide, by decide⟩
  rw [if_neg h9] at h
  by_cases h10 : z = 10
  · subst h10
    have h := (show some ((1, 0) : Nat × Nat) = some (n, r) from h)
    cases h
    exact ⟨by decide, by decide, by decide, by decide, by decide⟩
  rw [if_neg h10] at h
  by_cases h11 : z = 11
  · subst h11
    have h := (show some ((5, 0) : Nat × Nat) = some (n, r) from h)
    cases h
    exact ⟨by decide, by decide, by decide, by decide, by decide⟩
  rw [if_neg h11] at h
  by_cases h12 : z = 12
  · subst h12
    have h := (show some ((4, 0) : Nat × Nat) = some (n, r) from h)
    cases h
    exact ⟨by decide, by decide, by decide, by decide, by decide⟩
  rw [if_neg h12] at h
  by_cases h13 : z = 13
  · subst h13
    have h := (show some ((3, 0) : Nat × Nat) = some (n, r) from h)
    cases h
    exact ⟨by decide, by decide, by decide, by decide, by decide⟩
  rw [if_neg h13] at h
  cases h
end
end My

set_option Elab.async false
set_option linter.all false
set_option maxRecDepth 100000
set_option maxHeartbeats 4000000
namespace My
open PySem PySem.Spec PyProof.Rows L2
open Evl (Ev EvL EvU EvT EvA EvO Ex RV RU RC RCL SpV SpL)
section
variable {K : PySem.W.Frag} {mg : Str → Option Value} {A : Ad} {vs : List V} {H : Hp} {Q : VK} {E : XK}
theorem len_split_calls (h : sp_split_calls K A vs H Q E) : vs.length = 1 := by
  obtain ⟨p, cs, rfl, _⟩ := h
  rfl
theorem CallAt.up {H0 H' H'' : Hp} {v : V} {c : List (List Int)} (h : CallAt H0 H' v c) (k : ∀ b o, H' b = some o → H0 b = none → H'' b = some o) : CallAt H0 H'' v c := by
  obtain ⟨t, n, r, z, ns, rs, e1, e2, h1, h2, h3, f1, f2, f3⟩ := h
  exact ⟨t, n, r, z, ns, rs, e1, e2, k _ _ h1 f1, k _ _ h2 f2, k _ _ h3 f3, f1, f2, f3⟩
theorem CallsAt.snoc {H0 H' : Hp} {ws : List V} {cs : List (List (List Int))} {v : V} {c : List (List Int)} (h : CallsAt H0 H' ws cs) (hv : CallAt H0 H' v c) : CallsAt H0 H' (ws ++ [v]) (cs ++ [c]) := by
  refine ⟨by simp [h.1], fun i w d hw hd => ?_⟩
  by_cases hi : i < ws.length
  · rw [List.getElem?_append_left hi] at hw
    rw [List.getElem?_append_left (by rw [← h.1]; exact hi)] at hd
    exact h.2 i w d hw hd
  · rw [List.getElem?_append_right (by omega)] at hw
    rw [List.getElem?_append_right (by rw [← h.1]; omega), ← h.1] at hd
    cases hk : i - ws.length with
    | zero =>
      rw [hk] at hw hd
      have e1 : v = w := Option.some.inj hw
      have e2 : c = d := Option.some.inj hd
      subst e1 e2
      exact hv
    | succ n =>
      rw [hk] at hw
      simp at hw
theorem pure_split_calls (T : Txt K mg A) (h : sp_split_calls K A vs H Q E) : t_split_calls K A (De Q) (start ["calls", "told", "start", "call", "end", "numbers", "row", "row_start"] vs) H := by
  obtain ⟨p, cs, rfl, hq, hok, h60, h700, k⟩ := h
  refine Evl.q_asgL (Evl.el_lst Evl.ea_nil (by simp)) fun t H1 ht e1 h1 => ?_
  refine Evl.q_asg Evl.ev_c fun H2 e2 => ?_
  refine Evl.q_while (fun m σ' H' => ∃ (i : Nat) (v3 v4 v5 v6 v7 : Option V) (ws : List V), σ' = [some (.ref p), some (.ref t), some (.int ((PyFlat.put (cs.take i)).length : Int)), v3, v4, v5, v6, v7] ∧ i + m = cs.length ∧ Ex H H' ∧ H' t = some (.lst ws) ∧ (∀ b, H' b = none → H1 b = none) ∧ CallsAt H1 H' ws (cs.take i)) cs.length
    ⟨0, none, none, none, none, none, [], rfl, by simp, e1.trans e2, e2 _ _ h1, fun b hb => Evl.fresh_back e2 hb, ⟨rfl, fun i w c hw _ => by simp at hw⟩⟩ ?_
  rintro m σ' H' ⟨i, v3, v4, v5, v6, v7, ws, rfl, him, e3, h3, hdom, hC⟩
  refine ⟨_, Evl.et_test (ev_lt (Evl.ev_var rfl) (ev_lenS (Evl.ev_var rfl) (.inl (Evl.ex_l e3 hq)))), fun hb H4 e4 => ?_, fun hb H4 e4 => ?_⟩
  · have hi : i < cs.length := by
      have hlt := of_decide_eq_true hb
      by_cases hi : i < cs.length
      · exact hi
      · rw [List.take_of_length_le (by omega)] at hlt
        unfold intL at hlt
        rw [List.length_map] at hlt
        omega
    obtain ⟨c, hc⟩ : ∃ c, cs[i]? = some c := ⟨_, List.getElem?_eq_getElem hi⟩
    obtain ⟨z, a, xs, rfl, hs⟩ := hok c (List.mem_of_getElem? hc)
    obtain ⟨s1, s2, s3, s4, s5⟩ := shape_tab hs
    have hput := put_split hc
    have htake := take_more hc
    have hlen1 : (PyFlat.put (cs.take (i + 1))).length = (PyFlat.put (cs.take i)).length + (PyFlat.put1 ((z :: a) :: xs)).length := by
      rw [htake, put_append, List.length_append]
      show _ + (PyFlat.put1 ((z :: a) :: xs) ++ []).length = _
      rw [List.append_nil]
    have hq4 := Evl.ex_l (e3.trans e4) hq
    rw [hput] at hq4
    generalize PyFlat.put (cs.drop (i + 1)) = post at hq4 hput
    generalize hpre : PyFlat.put (cs.take i) = pre at hq4 hput hlen1
    refine ⟨fun σ2 H5 => ∃ (v3 v4 v5 v6 v7 : Option V) (ws : List V), σ2 = [some (.ref p), some (.ref t), some (.int ((PyFlat.put (cs.take (i + 1))).length : Int)), v3, v4, v5, v6, v7] ∧ Ex H H5 ∧ H5 t = some (.lst ws) ∧ (∀ b, H5 b = none → H1 b = none) ∧ CallsAt H1 H5 ws (cs.take (i + 1)), ?_, ?_⟩
    · rintro σ2 H5 ⟨v3, v4, v5, v6, v7, ws, rfl, e5, h5, hd5, hC5⟩
      exact ⟨m - 1, by omega, i + 1, v3, v4, v5, v6, v7, ws, rfl, by omega, e5, h5, hd5, hC5⟩
    · have e34 := e3.trans e4
      -- what follows the if
      have rest : ∀ (D : Ends) (H8 : Hp) (n r : Addr) (v7 : Option V), (∀ σ2 H5, (∃ (v3 v4 v5 v6 v7 : Option V) (ws : List V), σ2 = [some (.ref p), some (.ref t), some (.int ((PyFlat.put (cs.take (i + 1))).length : Int)), v3, v4, v5, v6, v7] ∧ Ex H H5 ∧ H5 t = some (.lst ws) ∧ (∀ b, H5 b = none → H1 b = none) ∧ CallsAt H1 H5 ws (cs.take (i + 1))) → D.nx σ2 H5) →
          Ex H4 H8 → H8 n = some (.lst (intL a)) → H8 r = some (.lst (intL (xs.headD []))) → H4 n = none → H4 r = none →
          (tSeq (tDrop (tBM K "list" rAppend (tVar 1) (tCons (tTup (tCons (tVar 3) (tCons (tVar 5) (tCons (tVar 6) tNil)))) tNil))) (tAsg (tVar 4) (gName 2))) D
            [some (.ref p), some (.ref t), some (.int (pre.length : Int)), some (.int z), some (.int ((PyFlat.put (cs.take (i + 1))).length : Int)), some (.ref n), some (.ref r), v7] H8 := by
        intro D H8 n r v7 hD e8 hn hr fn fr
        have h8 : H8 t = some (.lst ws) := e8 _ _ (e4 _ _ h3)
        refine Evl.q_appU h8 (Evl.ev_var rfl) (Evl.eu_tup (Evl.ea_cons (Evl.ev_var rfl) (Evl.ea_cons (Evl.ev_var rfl) (Evl.ea_cons (Evl.ev_var rfl) Evl.ea_nil))) (by simp)) (by have := hC.1; rw [List.length_take] at this; omega) fun u H9 hu e9 h9 => ?_
        refine Evl.s_asg (Evl.ev_var rfl) fun H10 e10 => hD _ _ ?_
        have hne : ∀ b, H1 b = none → b ≠ t := fun b hb z => by
          rw [z, h1] at hb
          cases hb
        have hdom9 : ∀ b, H9 b = none → H1 b = none := fun b hb => hdom b (Evl.fresh_back (e4.trans (e8.trans e9)) hb)
        have f4 : ∀ b, H4 b = none → H1 b = none := fun b hb => hdom b (Evl.fresh_back e4 hb)
        refine ⟨_, _, _, _, _, ws ++ [.ref u], rfl, ?_, e10 _ _ upd_same, fun b hb => ?_, ?_⟩
        · refine Ex.trans (fun b o hb => ?_) e10
          rw [upd_ne (ne_of_none hb (Evl.fresh_back (Ex.refl H) ht))]
          exact e9 _ _ (e8 _ _ (e34 _ _ hb))
        · by_cases hbt : b = t
          · rw [hbt, e10 _ _ upd_same] at hb
            cases hb
          · refine hdom9 b ?_
            have := Evl.fresh_back e10 hb
            rw [upd_ne hbt] at this
            exact this
        · rw [htake]
          have kp : ∀ b o, H9 b = some o → H1 b = none → H10 b = some o := fun b o hb f => e10 _ _ (by rw [upd_ne (hne b f)]; exact hb)
          refine CallsAt.snoc ⟨hC.1, fun j w d hw hd => (hC.2 j w d hw hd).up fun b o hb f => kp b o (e9 _ _ (e8 _ _ (e4 _ _ hb))) f⟩ ?_
          have fu : H1 u = none := f4 u (Evl.fresh_back e8 hu)
          exact ⟨u, n, r, z, a, xs, rfl, rfl, kp _ _ h9 fu, kp _ _ (e9 _ _ hn) (f4 _ fn), kp _ _ (e9 _ _ hr) (f4 _ fr), fu, f4 _ fn, f4 _ fr⟩
      -- the turn
      have hp1 : PyFlat.put1 ((z :: a) :: xs) ++ post = z :: (a ++ (PyFlat.putRows xs ++ post)) := by
        show (z :: a ++ PyFlat.putRows xs) ++ post = _
        rw [List.append_assoc]
        rfl
      rw [hp1] at hq4
      have hend : ((pre.length : Int) + 1 + (a.length : Int)) = (((pre.length + 1 + a.length : Nat)) : Int) := by omega
      refine Evl.q_asg (Evl.ev_op (Evl.ev_var rfl) (Evl.ev_var rfl) (Evl.rv_ixL hq4 (atI_nat (at_mid pre _ z rfl)))) fun H5 e5 => ?_
      have hq5 := Evl.ex_l e5 hq4
      refine Evl.q_asg (Evl.ev_is (Evl.ev_op (Evl.ev_op (Evl.ev_var rfl) Evl.ev_c Evl.rv_I0) (Evl.ev_op Evl.ev_c (Evl.ev_var rfl) (Evl.rv_ixT (T.q_PLAIN_NUMBERS H5) s1)) Evl.rv_I0) (congrArg V.int hend)) fun H6 e6 => ?_
      have hq6 := Evl.ex_l e6 hq5
      refine Evl.q_asgL (Evl.el_sl (Evl.ev_var rfl) (Evl.eo_some (Evl.ev_op (Evl.ev_var rfl) Evl.ev_c Evl.rv_I0)) (Evl.eo_some (Evl.ev_var rfl)) hq6) fun n H7 hn e7 h7 => ?_
      have hcut1 : cutV (intL (pre ++ z :: (a ++ (PyFlat.putRows xs ++ post)))) (some ((pre.length : Int) + 1)) (some (((pre.length + 1 + a.length : Nat)) : Int)) = intL a := by
        have e : pre ++ z :: (a ++ (PyFlat.putRows xs ++ post)) = (pre ++ [z]) ++ (a ++ (PyFlat.putRows xs ++ post)) := by simp
        rw [e, show ((pre.length : Int) + 1) = ((pre.length + 1 : Nat) : Int) by omega]
        exact cut_mid (pre ++ [z]) a _ (by simp) (by simp)
      rw [hcut1] at h7
      have hq7 := Evl.ex_l e7 hq6
      have e57 := (e5.trans e6).trans e7
      refine Evl.q_asgL (Evl.el_lst Evl.ea_nil (by simp)) fun r H8 hr e8 h8 => ?_
      have fn : H4 n = none := Evl.fresh_back (e5.trans e6) hn
      have fr : H4 r = none := Evl.fresh_back e57 hr
      have hq8 := Evl.ex_l e8 hq7
      refine Evl.q_when (Evl.et_test (Evl.ev_op (Evl.ev_var rfl) Evl.ev_c (Evl.rv_isT (T.q_CALLS_WITH_ROW H8) rfl rfl))) (fun hb2 H9 e9 => ?_) (fun hb2 H9 e9 => ?_)
      · rw [s2] at hb2
        obtain ⟨x, rfl⟩ : ∃ x, xs = [x] := List.length_eq_one_iff.mp (of_decide_eq_true hb2)
        have hq9 := Evl.ex_l e9 hq8
        have hx : PyFlat.putRows [x] ++ post = (x.length : Int) :: (x ++ post) := by
          show ((x.length : Int) :: x ++ []) ++ post = _
          simp
        rw [hx] at hq9
        have hfin : (PyFlat.put (cs.take (i + 1))).length = pre.length + 1 + a.length + 1 + x.length := by
          rw [hlen1]
          show _ + (z :: a ++ ((x.length : Int) :: x ++ [])).length = _
          simp
          omega
        refine Evl.q_asg (Evl.ev_op (Evl.ev_var rfl) Evl.ev_c Evl.rv_I0) fun H10 e10 => ?_
        have hq10 := Evl.ex_l e10 hq9
        have hat : (intL (pre ++ z :: (a ++ (x.length : Int) :: (x ++ post))))[pre.length + 1 + a.length]? = some (.int (x.length : Int)) := by
          have e : pre ++ z :: (a ++ (x.length : Int) :: (x ++ post)) = (pre ++ z :: a) ++ (x.length : Int) :: (x ++ post) := by simp
          rw [e]
          exact at_mid _ _ _ (by simp; omega)
        have hfi : (((pre.length + 1 + a.length : Nat)) : Int) + 1 + (x.length : Int) = ((PyFlat.put (cs.take (i + 1))).length : Int) := by
          rw [hfin]
          omega
        refine Evl.q_asg (Evl.ev_is (Evl.ev_op (Evl.ev_var rfl) (Evl.ev_op (Evl.ev_var rfl) (Evl.ev_var rfl) (Evl.rv_ixL hq10 (atI_nat hat))) Evl.rv_I0) (congrArg V.int hfi)) fun H11 e11 => ?_
        have hq11 := Evl.ex_l e11 hq10
        refine Evl.s_asgL (Evl.el_sl (Evl.ev_var rfl) (Evl.eo_some (Evl.ev_var rfl)) (Evl.eo_some (Evl.ev_var rfl)) hq11) fun r2 H12 hr2 e12 h12 => ?_
        have hcut2 : cutV (intL (pre ++ z :: (a ++ (x.length : Int) :: (x ++ post)))) (some ((((pre.length + 1 + a.length : Nat)) : Int) + 1)) (some ((PyFlat.put (cs.take (i + 1))).length : Int)) = intL x := by
          have e : pre ++ z :: (a ++ (x.length : Int) :: (x ++ post)) = (pre ++ z :: (a ++ [(x.length : Int)])) ++ (x ++ post) := by simp
          rw [e, show ((((pre.length + 1 + a.length : Nat)) : Int) + 1) = ((pre.length + 1 + a.length + 1 : Nat) : Int) by omega]
          exact cut_mid _ x post (by simp; omega) (by rw [hfin]; simp; omega)
        rw [hcut2] at h12
        have eL := ((e9.trans e10).trans e11).trans e12
        have e4L := e57.trans (e8.trans eL)
        exact rest _ H12 n r2 _ (fun σ2 H5 q => q) e4L (eL _ _ (e8 _ _ h7)) h12 fn (Evl.fresh_back (e57.trans (e8.trans ((e9.trans e10).trans e11))) hr2)
      · rw [s2] at hb2
        have hx0 : xs = [] := by
          have := of_decide_eq_false hb2
          exact List.eq_nil_of_length_eq_zero (by omega)
        subst hx0
        have hfin : (PyFlat.put (cs.take (i + 1))).length = pre.length + 1 + a.length := by
          rw [hlen1]
          show _ + (z :: a ++ []).length = _
          simp
          omega
        rw [← hfin]
        exact rest _ H9 n r v7 (fun σ2 H5 q => q) (e57.trans (e8.trans e9)) (e9 _ _ (e8 _ _ h7)) (e9 _ _ h8) fn fr
  · have hi : cs.length ≤ i := by
      have hlt := of_decide_eq_false hb
      by_cases hi : i < cs.length
      · exfalso
        obtain ⟨c, hc⟩ : ∃ c, cs[i]? = some c := ⟨_, List.getElem?_eq_getElem hi⟩
        obtain ⟨z, a, xs, rfl, hs⟩ := hok c (List.mem_of_getElem? hc)
        have hput := put_split hc
        apply hlt
        unfold intL
        rw [List.length_map, hput, List.length_append, List.length_append]
        show _ < (((PyFlat.put (cs.take i)).length + ((z :: a ++ PyFlat.putRows xs).length + _ : Nat) : Nat) : Int)
        simp
        omega
      · omega
    rw [List.take_of_length_le hi] at hC
    refine Evl.s_ret (Evl.ev_var rfl) fun H5 e5 => ?_
    have e45 := e4.trans e5
    refine k t H5 ws (by exact ht) (e3.trans e45) (e45 _ _ h3) ⟨hC.1, fun j w d hw hd => ?_⟩
    obtain ⟨u, n, r, z, ns, rs, q1, q2, g1, g2, g3, f1, f2, f3⟩ := hC.2 j w d hw hd
    exact ⟨u, n, r, z, ns, rs, q1, q2, e45 _ _ g1, e45 _ _ g2, e45 _ _ g3, Evl.fresh_back e1 f1, Evl.fresh_back e1 f2, Evl.fresh_back e1 f3⟩
end
end My

set_option Elab.async false
set_option linter.all false
set_option maxRecDepth 100000
set_option maxHeartbeats 4000000
namespace My
open PySem PySem.Spec PyProof.Rows L2
open Evl (Ev EvL EvU EvT EvA EvO Ex RV RU RC RCL SpV SpL)
section
variable {K : PySem.W.Frag} {mg : Str → Option Value} {A : Ad} {vs : List V} {H : Hp} {Q : VK} {E : XK}
theorem whole_id (c : List (List Int)) : PyKh372.whole c = c := by
  unfold PyKh372.whole
  split <;> rfl
theorem gcd3_pos {x y w : Int} (hw : w ≠ 0) : 0 < ((x.gcd y : Nat) : Int).gcd w := Nat.pos_of_ne_zero fun z => hw (Int.gcd_eq_zero_iff.mp z).2
/-- h divides all three, and has w's sign -/
theorem cut_h (u : Pt) (hw : u.w ≠ 0) : ∃ h : Int, Kh372.cut u = ⟨u.x / h, u.y / h, u.w / h⟩ ∧ h ∣ u.x ∧ h ∣ u.y ∧ h ∣ u.w ∧ h ≠ 0 ∧ h.natAbs = ((u.x.gcd u.y : Nat) : Int).gcd u.w ∧ 0 < u.w / h := by
  obtain ⟨x, y, w⟩ := u
  have hw : w ≠ 0 := hw
  obtain ⟨d1, d2, d3⟩ := dvd_gcd3 x y w
  have hp := gcd3_pos (x := x) (y := y) hw
  generalize hg : ((((x.gcd y : Nat) : Int)).gcd w) = g at d1 d2 d3 hp
  by_cases hn : w < 0
  · refine ⟨-(g : Int), ?_, Int.neg_dvd.mpr d1, Int.neg_dvd.mpr d2, Int.neg_dvd.mpr d3, by omega, by omega, ?_⟩
    · unfold Kh372.cut
      dsimp only
      rw [hg, if_pos hn]
    · show 0 < w / -(g : Int)
      rw [Int.ediv_neg, ← Int.neg_ediv_of_dvd d3]
      exact Int.ediv_pos_of_pos_of_dvd (by omega) (by omega) (Int.dvd_neg.mpr d3)
  · refine ⟨(g : Int), ?_, d1, d2, d3, by omega, by omega, ?_⟩
    · unfold Kh372.cut
      dsimp only
      rw [hg, if_neg hn]
    · exact Int.ediv_pos_of_pos_of_dvd (by show 0 < w; omega) (by omega) d3
theorem good_cut {u : Pt} (hw : u.w ≠ 0) (hf : Kh372.fits (Kh372.cut u) = true) : Good (Kh372.cut u) := by
  obtain ⟨h, e, d1, d2, d3, h0, ha, hp⟩ := cut_h u hw
  refine ⟨?_, hf, ?_⟩
  · rw [e]
    show 1 ≤ u.w / h
    omega
  · rw [e]
    show Int.gcd ((Int.gcd (u.x / h) (u.y / h) : Nat) : Int) (u.w / h) = 1
    rw [Int.gcd_ediv d1 d2]
    have hd : h ∣ ((u.x.gcd u.y : Nat) : Int) := Int.dvd_coe_gcd d1 d2
    have e2 : (((u.x.gcd u.y / h.natAbs : Nat) : Nat) : Int) = ((u.x.gcd u.y : Nat) : Int) / ((h.natAbs : Nat) : Int) := by simp
    rw [e2]
    have hd' : ((h.natAbs : Nat) : Int) ∣ ((u.x.gcd u.y : Nat) : Int) := Int.natAbs_dvd.mpr hd
    have hd3 : ((h.natAbs : Nat) : Int) ∣ u.w := Int.natAbs_dvd.mpr d3
    have e3 : Int.gcd (((u.x.gcd u.y : Nat) : Int) / ((h.natAbs : Nat) : Int)) (u.w / h) = Int.gcd (((u.x.gcd u.y : Nat) : Int) / ((h.natAbs : Nat) : Int)) (u.w / ((h.natAbs : Nat) : Int)) := by
      rcases Int.natAbs_eq h with q | q
      · rw [← q]
      · have e4 : u.w / h = -(u.w / ((h.natAbs : Nat) : Int)) := by
          conv => lhs; rw [q, Int.ediv_neg]
        rw [e4, Int.gcd_neg]
    rw [e3, Int.gcd_ediv hd' hd3, ha, Int.natAbs_natCast]
    exact Nat.div_self (gcd3_pos hw)
theorem abs_ediv_le {x h : Int} (h0 : h ≠ 0) (hd : h ∣ x) : (x / h).natAbs ≤ x.natAbs := by
  have e := Int.ediv_mul_cancel hd
  have e2 : x.natAbs = (x / h).natAbs * h.natAbs := by
    conv => lhs; rw [← e, Int.natAbs_mul]
  rw [e2]
  exact Nat.le_mul_of_pos_right _ (by omega)
theorem fits_iff {p : Pt} : Kh372.fits p = true ↔ (-1000000000 ≤ p.x ∧ p.x ≤ 1000000000 ∧ -1000000000 ≤ p.y ∧ p.y ≤ 1000000000 ∧ p.w ≤ 1000000000) := by
  have ew : Kh372.WIDE = 1000000000 := by decide
  unfold Kh372.fits
  rw [ew]
  simp only [Bool.and_eq_true, decide_eq_true_eq]
theorem good_told {x y : Int} {w : Nat} (h : Kh372.okPoint x y w = true) : Good (Kh372.cut ⟨x, y, (w : Int)⟩) := by
  obtain ⟨w1, w2⟩ := okPoint_w h
  unfold Kh372.okPoint Kh371.okNumber at h
  simp only [Bool.and_eq_true, decide_eq_true_eq] at h
  have hw : (⟨x, y, (w : Int)⟩ : Pt).w ≠ 0 := by show (w : Int) ≠ 0; omega
  refine good_cut hw (fits_iff.mpr ?_)
  obtain ⟨g, e, d1, d2, d3, h0, ha, hp⟩ := cut_h _ hw
  rw [e]
  have a1 := abs_ediv_le h0 d1
  have a2 := abs_ediv_le h0 d2
  have a3 := abs_ediv_le h0 d3
  dsimp only at a1 a2 a3 ⊢
  omega
theorem goodS_shift {ps : List Pt} {f : Pt → Pt} (hg : GoodS ps) : GoodS (Kh372.shift ps f).1 := by
  unfold Kh372.shift
  split
  · exact hg
  · rename_i hz
    split
    · exact hg
    · rename_i hf
      refine ⟨fun p hp => ?_, by rw [List.length_map]; exact hg.2⟩
      obtain ⟨q, hq, rfl⟩ := List.mem_map.mp hp
      have hf' : ((ps.map fun p => Kh372.cut (f p)).all Kh372.fits) = true := by simpa using hf
      refine good_cut (fun z => hz ?_) (List.all_eq_true.mp hf' _ hp)
      exact List.any_eq_true.mpr ⟨q, hq, by rw [z]; rfl⟩
theorem goodS_does {ps : List Pt} (c : Kh372.Call) (hg : GoodS ps) : GoodS (Kh372.does ps c).1 := by
  cases c with
  | point x y w =>
    show GoodS (if Kh372.okPoint x y w = false then (ps, Kh372.say (-22)) else if Kh372.POINTS ≤ ps.length then (ps, Kh372.say (-28)) else (ps ++ [Kh372.cut ⟨x, y, w⟩], Kh372.say ps.length)).1
    split
    · exact hg
    · rename_i h1
      split
      · exact hg
      · rename_i h2
        have h1 : Kh372.okPoint x y w = true := by simpa using h1
        have h2 : ¬ 10 ≤ ps.length := h2
        refine ⟨fun p hp => ?_, by rw [List.length_append]; simp; omega⟩
        rcases List.mem_append.mp hp with q | q
        · exact hg.1 p q
        · rw [List.mem_singleton.mp q]
          exact good_told h1
  | put p x y w =>
    show GoodS (if ps.length ≤ p then (ps, Kh372.say (-2)) else if Kh372.okPoint x y w = false then (ps, Kh372.say (-22)) else (ps.set p (Kh372.cut ⟨x, y, w⟩), Kh372.say 0)).1
    split
    · exact hg
    · split
      · exact hg
      · rename_i h1
        have h1 : Kh372.okPoint x y w = true := by simpa using h1
        refine ⟨fun q hq => ?_, by rw [List.length_set]; exact hg.2⟩
        rcases List.mem_or_eq_of_mem_set hq with z | z
        · exact hg.1 q z
        · rw [z]
          exact good_told h1
  | out =>
    show GoodS (if ps = [] then (ps, Kh372.say (-2)) else (ps.dropLast, Kh372.say (ps.length - 1 : Nat))).1
    split
    · exact hg
    · refine ⟨fun p hp => hg.1 p (List.dropLast_subset _ hp), ?_⟩
      show ps.dropLast.length ≤ 10
      rw [List.length_dropLast]
      have := hg.2
      omega
  | slant x y z u e f =>
    show GoodS (if Kh372.within 10 [x, y, z, u, e, f] = false ∨ x * u - y * z = 0 then (ps, Kh372.say (-22)) else Kh372.shift ps (Kh372.slant x y z u e f)).1
    split
    · exact hg
    · exact goodS_shift hg
  | bend m =>
    show GoodS (if m.length ≠ 9 ∨ Kh372.within 10 m = false ∨ Kh372.det3 m = 0 then (ps, Kh372.say (-22)) else Kh372.shift ps (Kh372.bend m)).1
    split
    · exact hg
    · exact goodS_shift hg
  | _ => exact hg
theorem invS_step {s : Option (List Pt)} (c : List (List Int)) (h : InvS s) : InvS (Kh372Neutral.step s c).1 := by
  show InvS (Kh372.doing s (Kh372Neutral.callOf1 c)).1
  unfold Kh372.doing
  split
  · intro ps e
    have e : ([] : List Pt) = ps := Option.some.inj e
    subst e
    exact ⟨fun p hp => absurd hp (by simp), by simp⟩
  · intro ps e
    cases e
  · rename_i a _ _
    intro ps e
    have e := Option.some.inj e
    subst e
    exact goodS_does _ (h _ rfl)
/-! ### the machine played -/
section
variable {S : Type} (step : S → List (List Int) → S × List Int)
def after (s : S) (cs : List (List (List Int))) : S := cs.foldl (fun s c => (step s c).1) s
theorem played_append (s : S) : ∀ (c1 c2 : List (List (List Int))), PyFlat.played step s (c1 ++ c2) = PyFlat.played step s c1 ++ PyFlat.played step (after step s c1) c2 := by
  intro c1
  induction c1 generalizing s with
  | nil => intro c2; rfl
  | cons c r ih =>
    intro c2
    show (step s c).2 :: PyFlat.played step (step s c).1 (r ++ c2) = ((step s c).2 :: PyFlat.played step (step s c).1 r) ++ _
    rw [ih, List.cons_append]
    rfl
theorem told_append (l m : List (List Int)) : PyFlat.told (l ++ m) = PyFlat.told l ++ PyFlat.told m := by
  unfold PyFlat.told
  exact List.flatMap_append
theorem told_more {s : S} {cs : List (List (List Int))} {i : Nat} {c : List (List Int)} (h : cs[i]? = some c) :
    PyFlat.told (PyFlat.played step s (cs.take (i + 1))) = PyFlat.told (PyFlat.played step s (cs.take i)) ++ (((step (after step s (cs.take i)) c).2.length : Int) :: (step (after step s (cs.take i)) c).2) := by
  rw [take_more h, played_append, told_append]
  congr 1
  show ((step (after step s (cs.take i)) c).2.length : Int) :: ((step (after step s (cs.take i)) c).2 ++ []) = _
  rw [List.append_nil]
theorem after_more {s : S} {cs : List (List (List Int))} {i : Nat} {c : List (List Int)} (h : cs[i]? = some c) : after step s (cs.take (i + 1)) = (step (after step s (cs.take i)) c).1 := by
  rw [take_more h]
  unfold after
  rw [List.foldl_append]
  rfl
theorem told_len (s : S) (cs : List (List (List Int))) (i : Nat) : (PyFlat.told (PyFlat.played step s (cs.take i))).length ≤ (PyFlat.told (PyFlat.played step s cs)).length := by
  have e : PyFlat.told (PyFlat.played step s cs) = PyFlat.told (PyFlat.played step s (cs.take i)) ++ PyFlat.told (PyFlat.played step (after step s (cs.take i)) (cs.drop i)) := by
    rw [← told_append, ← played_append, List.take_append_drop]
  rw [e, List.length_append]
  omega
end
end
end My

set_option Elab.async false
set_option linter.all false
set_option maxRecDepth 100000
set_option maxHeartbeats 4000000
namespace My
open PySem PySem.Spec PyProof.Rows L2
open Evl (Ev EvL EvU EvT EvA EvO Ex RV RU RC RCL SpV SpL)
section
variable {K : PySem.W.Frag} {mg : Str → Option Value} {A : Ad} {vs : List V} {H : Hp} {Q : VK} {E : XK}
theorem len_answers (h : sp_answers K A vs H Q E) : vs.length = 1 := by
  obtain ⟨a, ns, rfl, _⟩ := h
  rfl
/-- what is asked of a list of calls -/
theorem asked_open {ns : List Int} (h : PyKh372.answers_asked ns = true) : ∃ cs, ns = PyFlat.put cs ∧ (∀ c ∈ cs, PyFlat.okCall PyKh372.shape c ∧ Kh372Neutral.asked1 c = true) ∧ cs.length ≤ 60 ∧
    PyKh372.answers ns = PyFlat.told (PyFlat.played Kh372Neutral.step Kh372Neutral.start cs) ∧ (PyFlat.told (PyFlat.played Kh372Neutral.step Kh372Neutral.start cs)).length ≤ 10000000 := by
  unfold PyKh372.answers_asked at h
  cases hc : PyFlat.calls PyKh372.shape ns.length ns with
  | none =>
    rw [hc] at h
    cases h
  | some cs =>
    rw [hc] at h
    simp only [Bool.and_eq_true] at h
    obtain ⟨⟨⟨⟨_, h60⟩, _⟩, hask⟩, hshort⟩ := h
    obtain ⟨e, hok⟩ := PyFlat.put_calls _ _ _ hc
    have hid : cs.map PyKh372.whole = cs := by
      have : PyKh372.whole = id := funext whole_id
      rw [this, List.map_id]
    have hans : PyKh372.answers ns = PyFlat.told (PyFlat.played Kh372Neutral.step Kh372Neutral.start cs) := by
      unfold PyKh372.answers PyKh372.calls
      rw [hc]
      dsimp only
      rw [hid]
    rw [hid] at hask
    unfold Kh372Neutral.asked at hask
    rw [Bool.and_eq_true] at hask
    have hall := List.all_eq_true.mp hask.2
    rw [hans] at hshort
    exact ⟨cs, e, fun c hc => ⟨hok c hc, hall c hc⟩, of_decide_eq_true h60, hans, of_decide_eq_true hshort⟩
theorem pure_answers (T : Txt K mg A) (h : sp_answers K A vs H Q E) : t_answers K A (De Q) (start ["calls", "plane", "given", "told", "answer"] vs) H := by
  obtain ⟨p0, ns, rfl, hq, h700, hask, k⟩ := h
  obtain ⟨cs, rfl, hok, h60, hans, hlen⟩ := asked_open hask
  rw [hans] at k
  -- plane = Plane()
  intro x dx hx hdx hne
  refine ⟨x, dx, rfl, upd_same, fun H2 l hP2 hk2 hl2 => ⟨rfl, ?_⟩⟩
  have e2 : Ex H H2 := fun b o hb => hk2 b o (by
    rw [upd_ne (ne_of_none hb hx), upd_ne (ne_of_none hb hdx)]
    exact hb) (ne_of_none hb hx)
  -- given = []
  refine Evl.q_asgL (Evl.el_lst Evl.ea_nil (by simp)) fun g H3 hg3 e3 h3 => ?_
  have hP3 := hP2.ex e3
  have hP2' := hP2
  obtain ⟨dx2, ws2, hxa, hll, _⟩ := hP2'
  have hgx : g ≠ x := fun z => by
    rw [z, hxa] at hg3
    cases hg3
  have hgl : g ≠ l := fun z => by
    rw [z, hll] at hg3
    cases hg3
  -- the walk
  refine ⟨_, rfl, p0, cs, rfl, Evl.ex_l (e2.trans e3) hq, fun c hc => (hok c hc).1, h60, h700, fun t HS ws ht eS hS hC => ?_⟩
  have gS : HS g = some (.lst []) := eS _ _ h3
  have xS : HS x = some (.ins A.c_Plane dx2 (PlF false l)) := eS _ _ (e3 _ _ hxa)
  have lS : HS l = some (.lst ws2) := eS _ _ (e3 _ _ hll)
  have n3 : ∀ b, H3 b = none → b ≠ g ∧ b ≠ x ∧ b ≠ l := fun b hb => ⟨fun z => (by rw [z, h3] at hb; cases hb), fun z => (by rw [z, e3 _ _ hxa] at hb; cases hb), fun z => (by rw [z, e3 _ _ hll] at hb; cases hb)⟩
  have wlen : ws.length = cs.length := hC.1
  refine ⟨t, rfl, ⟨ws, Evl.sq_of hS⟩, for_list (K := K) (a := t) (xs := ws) (fun i σ' H' => ∃ (v3 v4 : Option V) (l' : Addr), σ' = [some (.ref p0), some (.ref x), some (.ref g), v3, v4] ∧
      PlaneAt K A H' x l' (after Kh372Neutral.step Kh372Neutral.start (cs.take i)) ∧ InvS (after Kh372Neutral.step Kh372Neutral.start (cs.take i)) ∧ H' g = some (.lst (intL (PyFlat.told (PyFlat.played Kh372Neutral.step Kh372Neutral.start (cs.take i))))) ∧
      (l' = l ∨ HS l' = none) ∧ ∀ b o, HS b = some o → b ≠ g → b ≠ x → b ≠ l → H' b = some o)
    ⟨none, none, l, rfl, hP3.ex eS, fun ps z => (by cases z), gS, .inl rfl, fun b o hb _ _ _ => hb⟩ ?_ ?_ ?_⟩
  · rintro i σ' H' hi ⟨v3, v4, l', rfl, _, _, _, _, hK⟩
    obtain ⟨n1, n2, n3'⟩ := n3 t ht
    exact Evl.sq_of (hK t _ hS n1 n2 n3')
  · rintro i w σ' H' hw ⟨v3, v4, l', rfl, hP, hI, hg, hl', hK⟩
    have hi : i < ws.length := (List.getElem?_eq_some_iff.mp hw).1
    obtain ⟨c, hc⟩ : ∃ c, cs[i]? = some c := ⟨_, List.getElem?_eq_getElem (by omega)⟩
    obtain ⟨u, n, r, z, nn, rs, rfl, rfl, g1, g2, g3, f1, f2, f3⟩ := hC.2 i w c hw hc
    obtain ⟨hokc, haskc⟩ := hok _ (List.mem_of_getElem? hc)
    have u1 := hK u _ g1 (n3 u f1).1 (n3 u f1).2.1 (n3 u f1).2.2
    have u2 := hK n _ g2 (n3 n f2).1 (n3 n f2).2.1 (n3 n f2).2.2
    have u3 := hK r _ g3 (n3 r f3).1 (n3 r f3).2.1 (n3 r f3).2.2
    have nl : ∀ b o, HS b = some o → b ≠ l → b ≠ l' := fun b o hb hbl => by
      rcases hl' with z | z
      · rw [z]
        exact hbl
      · exact ne_of_none hb z
    have hgl' : g ≠ l' := nl g _ gS hgl
    have hta := told_more Kh372Neutral.step (s := Kh372Neutral.start) hc
    have haf := after_more Kh372Neutral.step (s := Kh372Neutral.start) hc
    have hin := invS_step ((z :: nn) :: rs) hI
    have htl := told_len Kh372Neutral.step Kh372Neutral.start cs (i + 1)
    rw [hta] at htl
    rw [← haf] at hin
    generalize hst : after Kh372Neutral.step Kh372Neutral.start (cs.take i) = st at hP hI hta haf htl
    generalize hou : PyFlat.told (PyFlat.played Kh372Neutral.step Kh372Neutral.start (cs.take i)) = out at hg hta htl
    have hsz : out.length + (1 + (Kh372Neutral.step st ((z :: nn) :: rs)).2.length) ≤ 10000000 := by
      rw [List.length_append, List.length_cons] at htl
      omega
    have hzl : (10000000 : Nat) < sizeLine := by decide
    -- answer = answer_of(..)
    have ut := SqT.of (K := K) u1
    show tSeq _ _ _ _ H'
    refine q_asgCall (Evl.ea_cons (Evl.ev_var rfl) (Evl.ea_cons (ev_ixT (n := 0) (Evl.ev_var rfl) ut rfl) (Evl.ea_cons (ev_ixT (n := 1) (Evl.ev_var rfl) ut rfl) (Evl.ea_cons (ev_ixT (n := 2) (Evl.ev_var rfl) ut rfl) Evl.ea_nil)))) fun H4 e4 => ?_
    refine ⟨x, l', n, r, z, nn, rs, st, rfl, e4 _ _ u2, e4 _ _ u3, nl n _ g2 (n3 n f2).2.2, nl r _ g3 (n3 r f3).2.2, hokc, haskc, hP.ex e4, hI, fun p H5 hp h5 hA => ?_⟩
    obtain ⟨l5, hl5, hP5, hK5⟩ := hA
    have hg5 : H5 g = some (.lst (intL out)) := hK5 g _ (e4 _ _ hg) hgx hgl'
    have hpg : p ≠ g := Ne.symm (hp g _ (e4 _ _ hg) hgx hgl')
    -- given.append(len(answer))
    refine ⟨_, rfl, Or.inl ⟨rfl, _, Evl.sq_of hg5⟩, ?_⟩
    refine ⟨_, rfl, p, _, rfl, .inl (Evl.sq_of h5), g, _, _, rfl, rfl, hg5, by unfold intL; rw [List.length_map]; omega, ?_⟩
    -- given.extend(answer)
    have h5' : (upd H5 g (.lst (intL out ++ [.int ((intL (Kh372Neutral.step st ((z :: nn) :: rs)).2).length : Int)]))) p = some (.lst (intL (Kh372Neutral.step st ((z :: nn) :: rs)).2)) := by
      rw [upd_ne hpg]
      exact h5
    refine s_ext upd_same h5' (Evl.ev_var rfl) (Evl.ev_var rfl) (by unfold intL; rw [List.length_append, List.length_map, List.length_map]; simp; omega) fun H6 e6 => ?_
    have kp : ∀ b o, H5 b = some o → b ≠ g → (upd H6 g (.lst (intL out ++ [.int ((intL (Kh372Neutral.step st ((z :: nn) :: rs)).2).length : Int)] ++ intL (Kh372Neutral.step st ((z :: nn) :: rs)).2))) b = some o := fun b o hb hbg => by
      rw [upd_ne hbg]
      refine e6 _ _ ?_
      rw [upd_ne hbg]
      exact hb
    have hgl5 : g ≠ l5 := by
      rcases hl5 with z | z
      · rw [z]
        exact hgl'
      · exact ne_of_none (e4 _ _ hg) z
    obtain ⟨dx5, ws5, p5a, p5l, p5p⟩ := hP5
    refine ⟨_, _, l5, rfl, ?_, hin, ?_, ?_, fun b o hb b1 b2 b3 => kp b o (hK5 b o (e4 _ _ (hK b o hb b1 b2 b3)) b2 (nl b o hb b3)) b1⟩
    · rw [haf]
      refine ⟨dx5, ws5, kp _ _ p5a (Ne.symm hgx), kp _ _ p5l (Ne.symm hgl5), p5p.1, fun j v q hv hq => ?_⟩
      obtain ⟨tt, e, hsq⟩ := p5p.2 j v q hv hq
      refine ⟨tt, e, ?_⟩
      rcases hsq with (h | ⟨o, h⟩) | h
      · exact .inl (.inl (kp _ _ h (dict_ne h hg5 (by intro z; cases z))))
      · exact .inl (.inr ⟨o, kp _ _ h (dict_ne h hg5 (by intro z; cases z))⟩)
      · exact .inr h
    · rw [upd_same, hta]
      unfold intL
      rw [List.map_append, List.map_cons, List.length_map]
      simp
    · rcases hl5 with q | q
      · rw [q]
        exact hl'
      · by_cases ql : l5 = l
        · exact .inl ql
        · refine .inr ?_
          cases hq5 : HS l5 with
          | none => rfl
          | some o =>
            have := e4 _ _ (hK l5 o hq5 (Ne.symm hgl5) (fun z => by rw [z] at q; rw [e4 _ _ hP.choose_spec.choose_spec.1] at q; cases q) ql)
            rw [this] at q
            cases q
  · rintro σ' H' ⟨v3, v4, l', rfl, hP, hI, hg, _, _⟩
    rw [wlen, List.take_length] at hg
    refine Evl.s_ret (Evl.ev_var rfl) fun H6 e6 => ?_
    exact k H6 g (e6 _ _ hg)
end
end My

set_option Elab.async false
set_option linter.all false
set_option maxRecDepth 100000
set_option maxHeartbeats 4000000
namespace My
open PySem PySem.Spec PyProof.Rows L2
open Evl (Ev EvL EvU EvT EvA EvO Ex RV RU RC RCL SpV SpL)
section
variable {K : PySem.W.Frag} {mg : Str → Option Value} {A : Ad} {vs : List V} {H : Hp} {Q : VK} {E : XK}
/-- the calls as they may be handed in, and the specification's word for each -/
inductive Raw : List (List Int) → Kh372.Call → Prop
  | c0 : Raw [[0]] .begin_
  | c1 (x y w : Int) (hw : 0 ≤ w) : Raw [[1, x, y, w]] (.point x y w.toNat)
  | c2 (p x y w : Int) (hp : 0 ≤ p) (hw : 0 ≤ w) : Raw [[2, p, x, y, w]] (.put p.toNat x y w.toNat)
  | c3 : Raw [[3]] .out
  | c4 (a b c d e f : Int) : Raw [[4, a, b, c, d, e, f]] (.slant a b c d e f)
  | c5 (m : List Int) (h : m.length ≤ 9) : Raw [[5], m] (.bend m)
  | c6 : Raw [[6]] .points
  | c7 (p : Int) (hp : 0 ≤ p) : Raw [[7, p]] (.where_ p.toNat)
  | c8 (k : Int) (l : List Int) (hk : 0 ≤ k) (hl : l.length ≤ 6) (h : ∀ x ∈ l, 0 ≤ x) : Raw [[8, k], l] (.says k.toNat (l.map Int.toNat))
  | c9 (k : Int) (hk : 0 ≤ k) : Raw [[9, k]] (.all k.toNat)
  | c10 (k : Int) (hk : 0 ≤ k) : Raw [[10, k]] (.most k.toNat)
  | c11 (k a b c d : Int) (hk : 0 ≤ k) : Raw [[11, k, a, b, c, d]] (.keeps k.toNat a b c d)
  | c12 (a b c d : Int) (ha : 0 ≤ a) (hb : 0 ≤ b) (hc : 0 ≤ c) (hd : 0 ≤ d) : Raw [[12, a, b, c, d]] (.cross a.toNat b.toNat c.toNat d.toNat)
  | c13 (a b c : Int) (ha : 0 ≤ a) (hb : 0 ≤ b) (hc : 0 ≤ c) : Raw [[13, a, b, c]] (.centre a.toNat b.toNat c.toNat)
theorem nn {z : Int} (h : Kh372Neutral.okNum false z = true) : 0 ≤ z := by
  have h : Kh372Neutral.natural z 31 = true := h
  unfold Kh372Neutral.natural at h
  rw [Bool.and_eq_true] at h
  exact of_decide_eq_true h.1
theorem raw_of {c : List (List Int)} (hok : PyFlat.okCall PyKh372.shape c) (ha : Kh372Neutral.asked1 c = true) : Raw c (Kh372Neutral.callOf1 c) := by
  obtain ⟨z, a, xs, rfl, hs⟩ := hok
  obtain ⟨_, _, _, z0, z13⟩ := shape_tab hs
  have hz : z = 0 ∨ z = 1 ∨ z = 2 ∨ z = 3 ∨ z = 4 ∨ z = 5 ∨ z = 6 ∨ z = 7 ∨ z = 8 ∨ z = 9 ∨ z = 10 ∨ z = 11 ∨ z = 12 ∨ z = 13 := by omega
  simp only [Kh372Neutral.asked1, Bool.and_eq_true] at ha
  obtain ⟨_, _, h1, _, h2⟩ := ha
  rcases hz with rfl | rfl | rfl | rfl | rfl | rfl | rfl | rfl | rfl | rfl | rfl | rfl | rfl | rfl
  · have hs := (show some (((0, 0)) : Nat × Nat) = some (a.length, xs.length) from hs)
    simp only [Option.some.injEq, Prod.mk.injEq] at hs
    match a, xs, hs with
    | [], [], _ => exact .c0
  · have hs := (show some (((3, 0)) : Nat × Nat) = some (a.length, xs.length) from hs)
    simp only [Option.some.injEq, Prod.mk.injEq] at hs
    match a, xs, hs, h1 with
    | [x, y, w], [], _, h1 =>
      have h1 := List.all_eq_true.mp h1
      exact .c1 x y w (nn (h1 (false, w) (by simp [Kh372Neutral.heads, Kh372Neutral.nat])))
  · have hs := (show some (((4, 0)) : Nat × Nat) = some (a.length, xs.length) from hs)
    simp only [Option.some.injEq, Prod.mk.injEq] at hs
    match a, xs, hs, h1 with
    | [p, x, y, w], [], _, h1 =>
      have h1 := List.all_eq_true.mp h1
      exact .c2 p x y w (nn (h1 (false, p) (by simp [Kh372Neutral.heads, Kh372Neutral.nat]))) (nn (h1 (false, w) (by simp [Kh372Neutral.heads, Kh372Neutral.nat])))
  · have hs := (show some (((0, 0)) : Nat × Nat) = some (a.length, xs.length) from hs)
    simp only [Option.some.injEq, Prod.mk.injEq] at hs
    match a, xs, hs with
    | [], [], _ => exact .c3
  · have hs := (show some (((6, 0)) : Nat × Nat) = some (a.length, xs.length) from hs)
    simp only [Option.some.injEq, Prod.mk.injEq] at hs
    match a, xs, hs with
    | [a, b, c, d, e, f], [], _ => exact .c4 a b c d e f
  · have hs := (show some (((0, 1)) : Nat × Nat) = some (a.length, xs.length) from hs)
    simp only [Option.some.injEq, Prod.mk.injEq] at hs
    match a, xs, hs, h2 with
    | [], [m], _, h2 =>
      have h2 := List.all_eq_true.mp h2 ((true, 9), m) (by simp [Kh372Neutral.behind, Kh372Neutral.nat])
      simp only [Kh372Neutral.okRow, Bool.and_eq_true] at h2
      exact .c5 m (of_decide_eq_true h2.1)
  · have hs := (show some (((0, 0)) : Nat × Nat) = some (a.length, xs.length) from hs)
    simp only [Option.some.injEq, Prod.mk.injEq] at hs
    match a, xs, hs with
    | [], [], _ => exact .c6
  · have hs := (show some (((1, 0)) : Nat × Nat) = some (a.length, xs.length) from hs)
    simp only [Option.some.injEq, Prod.mk.injEq] at hs
    match a, xs, hs, h1 with
    | [p], [], _, h1 =>
      have h1 := List.all_eq_true.mp h1
      exact .c7 p (nn (h1 (false, p) (by simp [Kh372Neutral.heads, Kh372Neutral.nat])))
  · have hs := (show some (((1, 1)) : Nat × Nat) = some (a.length, xs.length) from hs)
    simp only [Option.some.injEq, Prod.mk.injEq] at hs
    match a, xs, hs, h1, h2 with
    | [k], [l], _, h1, h2 =>
      have h1 := List.all_eq_true.mp h1
      have h2 := List.all_eq_true.mp h2 ((false, 6), l) (by simp [Kh372Neutral.behind, Kh372Neutral.nat])
      simp only [Kh372Neutral.okRow, Bool.and_eq_true] at h2
      exact .c8 k l (nn (h1 (false, k) (by simp [Kh372Neutral.heads, Kh372Neutral.nat]))) (of_decide_eq_true h2.1) fun x hx => nn (List.all_eq_true.mp h2.2 x hx)
  · have hs := (show some (((1, 0)) : Nat × Nat) = some (a.length, xs.length) from hs)
    simp only [Option.some.injEq, Prod.mk.injEq] at hs
    match a, xs, hs, h1 with
    | [p], [], _, h1 =>
      have h1 := List.all_eq_true.mp h1
      exact .c9 p (nn (h1 (false, p) (by simp [Kh372Neutral.heads, Kh372Neutral.nat])))
  · have hs := (show some (((1, 0)) : Nat × Nat) = some (a.length, xs.length) from hs)
    simp only [Option.some.injEq, Prod.mk.injEq] at hs
    match a, xs, hs, h1 with
    | [p], [], _, h1 =>
      have h1 := List.all_eq_true.mp h1
      exact .c10 p (nn (h1 (false, p) (by simp [Kh372Neutral.heads, Kh372Neutral.nat])))
  · have hs := (show some (((5, 0)) : Nat × Nat) = some (a.length, xs.length) from hs)
    simp only [Option.some.injEq, Prod.mk.injEq] at hs
    match a, xs, hs, h1 with
    | [k, a, b, c, d], [], _, h1 =>
      have h1 := List.all_eq_true.mp h1
      exact .c11 k a b c d (nn (h1 (false, k) (by simp [Kh372Neutral.heads, Kh372Neutral.nat])))
  · have hs := (show some (((4, 0)) : Nat × Nat) = some (a.length, xs.length) from hs)
    simp only [Option.some.injEq, Prod.mk.injEq] at hs
    match a, xs, hs, h1 with
    | [a, b, c, d], [], _, h1 =>
      have h1 := List.all_eq_true.mp h1
      exact .c12 a b c d (nn (h1 (false, a) (by simp [Kh372Neutral.heads, Kh372Neutral.nat]))) (nn (h1 (false, b) (by simp [Kh372Neutral.heads, Kh372Neutral.nat]))) (nn (h1 (false, c) (by simp [Kh372Neutral.heads, Kh372Neutral.nat]))) (nn (h1 (false, d) (by simp [Kh372Neutral.heads, Kh372Neutral.nat])))
  · have hs := (show some (((3, 0)) : Nat × Nat) = some (a.length, xs.length) from hs)
    simp only [Option.some.injEq, Prod.mk.injEq] at hs
    match a, xs, hs, h1 with
    | [a, b, c], [], _, h1 =>
      have h1 := List.all_eq_true.mp h1
      exact .c13 a b c (nn (h1 (false, a) (by simp [Kh372Neutral.heads, Kh372Neutral.nat]))) (nn (h1 (false, b) (by simp [Kh372Neutral.heads, Kh372Neutral.nat]))) (nn (h1 (false, c) (by simp [Kh372Neutral.heads, Kh372Neutral.nat])))
theorem raw_step {c : List (List Int)} {s : Option (List Pt)} : Kh372Neutral.step s c = ((Kh372.doing s (Kh372Neutral.callOf1 c)).1, (Kh372.doing s (Kh372Neutral.callOf1 c)).2.ret :: (Kh372.doing s (Kh372Neutral.callOf1 c)).2.out) := rfl
end
end My

set_option Elab.async false
set_option linter.all false
set_option maxRecDepth 100000
set_option maxHeartbeats 4000000
/-! S1: of the specification alone: fractions, most, sets. -/
namespace My
/-! ### fractions -/
theorem frac_gcd_pos {n d : Int} (hd : d ≠ 0) : 0 < Int.gcd n d := Nat.pos_of_ne_zero fun z => hd (Int.gcd_eq_zero_iff.mp z).2
theorem gcd_one_of_div {n d : Int} (hd : d ≠ 0) : Int.gcd (n / (Int.gcd n d : Int)) (d / (Int.gcd n d : Int)) = 1 := by
  rw [Int.gcd_ediv (Int.gcd_dvd_left n d) (Int.gcd_dvd_right n d), Int.natAbs_natCast]
  exact Nat.div_self (frac_gcd_pos hd)
theorem frac_spec (n : Int) {d : Int} (hd : d ≠ 0) : 0 < (Kh371.frac n d).2 ∧ (Kh371.frac n d).1 * d = n * (Kh371.frac n d).2 ∧ Int.gcd (Kh371.frac n d).1 (Kh371.frac n d).2 = 1 := by
  have hp := frac_gcd_pos (n := n) hd
  have h1 := gcd_one_of_div (n := n) hd
  have d1 := Int.gcd_dvd_left n d
  have d2 := Int.gcd_dvd_right n d
  unfold Kh371.frac
  dsimp only
  generalize (Int.gcd n d) = g at *
  have g0 : ¬ ((g : Int) = 0) := by omega
  rw [if_neg g0]
  have e1 := Int.ediv_mul_cancel d1
  have e2 := Int.ediv_mul_cancel d2
  generalize hx : n / (g : Int) = x at *
  generalize hy : d / (g : Int) = y at *
  by_cases hn : d < 0
  · rw [if_pos hn]
    dsimp only
    refine ⟨?_, ?_, ?_⟩
    · by_cases hy0 : 0 < -y
      · exact hy0
      · exfalso
        have : 0 ≤ y * (g : Int) := Int.mul_nonneg (by omega) (by omega)
        omega
    · rw [← e1, ← e2]
      grind
    · rw [Int.gcd_neg, Int.neg_gcd]
      exact h1
  · rw [if_neg hn]
    dsimp only
    refine ⟨?_, ?_, h1⟩
    · by_cases hy0 : 0 < y
      · exact hy0
      · exfalso
        have : 0 ≤ (-y) * (g : Int) := Int.mul_nonneg (by omega) (by omega)
        rw [Int.neg_mul] at this
        omega
    · rw [← e1, ← e2]
      grind
theorem dvd_of_coprime {a b c : Int} (h : Int.gcd a b = 1) (hd : a ∣ b * c) : a ∣ c := by
  have h1 : a.natAbs ∣ b.natAbs * c.natAbs := by
    rw [← Int.natAbs_mul]
    exact Int.natAbs_dvd_natAbs.mpr hd
  exact Int.natAbs_dvd_natAbs.mp (Nat.Coprime.dvd_of_dvd_mul_left h h1)
/-- two reduced fractions that are equal are one -/
theorem reduced_unique {a b c d : Int} (hb : 0 < b) (hd : 0 < d) (h1 : Int.gcd a b = 1) (h2 : Int.gcd c d = 1) (e : a * d = c * b) : a = c ∧ b = d := by
  have x1 : b ∣ d := by
    have : b ∣ a * d := ⟨c, by rw [e, Int.mul_comm]⟩
    exact dvd_of_coprime (by rw [Int.gcd_comm]; exact h1) this
  have x2 : d ∣ b := by
    have : d ∣ c * b := ⟨a, by rw [← e, Int.mul_comm]⟩
    exact dvd_of_coprime (by rw [Int.gcd_comm]; exact h2) this
  have hbd : b = d := Int.dvd_antisymm (by omega) (by omega) x1 x2
  subst hbd
  exact ⟨Int.eq_of_mul_eq_mul_right (by omega) e, rfl⟩
theorem frac_unique {n d a b : Int} (hd : d ≠ 0) (hb : 0 < b) (hg : Int.gcd a b = 1) (e : a * d = n * b) : Kh371.frac n d = (a, b) := by
  obtain ⟨f1, f2, f3⟩ := frac_spec n hd
  generalize hq : Kh371.frac n d = q at *
  obtain ⟨x, y⟩ := q
  dsimp only at f1 f2 f3
  have e2 : (x * b) * d = (a * y) * d := by grind
  have e3 := Int.eq_of_mul_eq_mul_right hd e2
  obtain ⟨r1, r2⟩ := reduced_unique f1 hb f3 hg e3
  rw [r1, r2]
theorem frac_eq {n d n' d' : Int} (hd : d ≠ 0) (hd' : d' ≠ 0) (e : n * d' = n' * d) : Kh371.frac n d = Kh371.frac n' d' := by
  obtain ⟨f1, f2, f3⟩ := frac_spec n' hd'
  rw [show Kh371.frac n' d' = ((Kh371.frac n' d').1, (Kh371.frac n' d').2) from rfl]
  refine frac_unique hd f1 f3 ?_
  have e2 : ((Kh371.frac n' d').1 * d) * d' = (n * (Kh371.frac n' d').2) * d' := by grind
  exact Int.eq_of_mul_eq_mul_right hd' e2
/-! ### rows by their order -/
theorem lexLess_irrefl : ∀ l : List Nat, Kh372.lexLess l l = false
  | [] => rfl
  | x :: r => by
    unfold Kh372.lexLess
    rw [lexLess_irrefl r]
    simp
theorem lexLess_trans : ∀ {a b c : List Nat}, Kh372.lexLess a b = true → Kh372.lexLess b c = true → Kh372.lexLess a c = true
  | [], [], _, h, _ => by cases h
  | [], _ :: _, [], _, h => by cases h
  | [], _ :: _, _ :: _, _, _ => rfl
  | _ :: _, [], _, h, _ => by cases h
  | _ :: _, _ :: _, [], _, h => by cases h
  | x :: r, y :: s, z :: t, h1, h2 => by
    unfold Kh372.lexLess at *
    simp only [Bool.or_eq_true, Bool.and_eq_true, decide_eq_true_eq] at *
    rcases h1 with h1 | ⟨h1, g1⟩
    · rcases h2 with h2 | ⟨h2, g2⟩
      · exact .inl (by omega)
      · exact .inl (by omega)
    · rcases h2 with h2 | ⟨h2, g2⟩
      · exact .inl (by omega)
      · exact .inr ⟨by omega, lexLess_trans g1 g2⟩
theorem lexLess_total : ∀ a b : List Nat, Kh372.lexLess a b = true ∨ a = b ∨ Kh372.lexLess b a = true
  | [], [] => .inr (.inl rfl)
  | [], _ :: _ => .inl rfl
  | _ :: _, [] => .inr (.inr rfl)
  | x :: r, y :: s => by
    unfold Kh372.lexLess
    simp only [Bool.or_eq_true, Bool.and_eq_true, decide_eq_true_eq]
    by_cases h : x < y
    · exact .inl (.inl h)
    · by_cases h2 : y < x
      · exact .inr (.inr (.inl h2))
      · have e : x = y := by omega
        subst e
        rcases lexLess_total r s with q | q | q
        · exact .inl (.inr ⟨rfl, q⟩)
        · exact .inr (.inl (by rw [q]))
        · exact .inr (.inr (.inr ⟨rfl, q⟩))
theorem better_irrefl (l : List Nat) : Kh372.better l l = false := by
  unfold Kh372.better
  rw [lexLess_irrefl]
  simp
theorem better_iff {x y : List Nat} : Kh372.better x y = true ↔ y.length < x.length ∨ (x.length = y.length ∧ Kh372.lexLess x y = true) := by
  unfold Kh372.better
  simp only [Bool.or_eq_true, Bool.and_eq_true, decide_eq_true_eq]
theorem better_trans {a b c : List Nat} (h1 : Kh372.better a b = true) (h2 : Kh372.better b c = true) : Kh372.better a c = true := by
  rw [better_iff] at *
  rcases h1 with h1 | ⟨h1, g1⟩
  · rcases h2 with h2 | ⟨h2, g2⟩
    · exact .inl (by omega)
    · exact .inl (by omega)
  · rcases h2 with h2 | ⟨h2, g2⟩
    · exact .inl (by omega)
    · exact .inr ⟨by omega, lexLess_trans g1 g2⟩
theorem better_total (a b : List Nat) : Kh372.better a b = true ∨ a = b ∨ Kh372.better b a = true := by
  rw [better_iff, better_iff]
  by_cases h : b.length < a.length
  · exact .inl (.inl h)
  · by_cases h2 : a.length < b.length
    · exact .inr (.inr (.inl h2))
    · have e : a.length = b.length := by omega
      rcases lexLess_total a b with q | q | q
      · exact .inl (.inr ⟨e, q⟩)
      · exact .inr (.inl q)
      · exact .inr (.inr (.inr ⟨e.symm, q⟩))
theorem best_fold : ∀ (l : List (List Nat)) (r0 : List Nat), (l.foldl (fun r s => if Kh372.better s r then s else r) r0 = r0 ∨ l.foldl (fun r s => if Kh372.better s r then s else r) r0 ∈ l) ∧
    (∀ s ∈ l, Kh372.better s (l.foldl (fun r s => if Kh372.better s r then s else r) r0) = false) ∧ Kh372.better r0 (l.foldl (fun r s => if Kh372.better s r then s else r) r0) = false
  | [], r0 => ⟨.inl rfl, fun s hs => absurd hs (by simp), better_irrefl r0⟩
  | x :: l, r0 => by
    have ih := best_fold l (if Kh372.better x r0 then x else r0)
    show ((l.foldl (fun r s => if Kh372.better s r then s else r) (if Kh372.better x r0 then x else r0)) = r0 ∨ _) ∧ _ ∧ _
    generalize hr : l.foldl (fun r s => if Kh372.better s r then s else r) (if Kh372.better x r0 then x else r0) = r at ih
    have e : (x :: l).foldl (fun r s => if Kh372.better s r then s else r) r0 = r := hr
    rw [e]
    obtain ⟨i1, i2, i3⟩ := ih
    by_cases h : Kh372.better x r0 = true
    · rw [if_pos h] at i1 i3
      refine ⟨.inr ?_, fun s hs => ?_, ?_⟩
      · rcases i1 with q | q
        · rw [q]; simp
        · exact List.mem_cons_of_mem _ q
      · rcases List.mem_cons.mp hs with q | q
        · rw [q]; exact i3
        · exact i2 s q
      · cases hb : Kh372.better r0 r with
        | false => rfl
        | true =>
          rw [better_trans h hb] at i3
          cases i3
    · rw [if_neg h] at i1 i3
      have h : Kh372.better x r0 = false := by simpa using h
      refine ⟨?_, fun s hs => ?_, i3⟩
      · rcases i1 with q | q
        · exact .inl q
        · exact .inr (List.mem_cons_of_mem _ q)
      · rcases List.mem_cons.mp hs with q | q
        · rw [q]
          cases hb : Kh372.better x r with
          | false => rfl
          | true =>
            rcases better_total r r0 with z | z | z
            · rw [better_trans hb z] at h
              cases h
            · rw [z, h] at hb
              cases hb
            · rw [z] at i3
              cases i3
        · exact i2 s q
/-! ### sets -/
theorem mem_sets : ∀ {n : Nat} {s : List Nat}, s ∈ Kh372.sets n ↔ s.Pairwise (· < ·) ∧ ∀ x ∈ s, x < n
  | 0, s => by
    show s ∈ [[]] ↔ _
    rw [List.mem_singleton]
    constructor
    · rintro rfl
      exact ⟨.nil, fun x hx => absurd hx (by simp)⟩
    · rintro ⟨_, h⟩
      cases s with
      | nil => rfl
      | cons x r => exact absurd (h x (by simp)) (by omega)
  | n + 1, s => by
    show s ∈ Kh372.sets n ++ (Kh372.sets n).map (fun l => l ++ [n]) ↔ _
    rw [List.mem_append, List.mem_map]
    constructor
    · rintro (h | ⟨l, h, rfl⟩)
      · obtain ⟨h1, h2⟩ := mem_sets.mp h
        exact ⟨h1, fun x hx => Nat.lt_succ_of_lt (h2 x hx)⟩
      · obtain ⟨h1, h2⟩ := mem_sets.mp h
        refine ⟨List.pairwise_append.mpr ⟨h1, by simp, fun a ha b hb => ?_⟩, fun x hx => ?_⟩
        · rw [List.mem_singleton.mp hb]
          exact h2 a ha
        · rcases List.mem_append.mp hx with q | q
          · exact Nat.lt_succ_of_lt (h2 x q)
          · rw [List.mem_singleton.mp q]
            omega
    · rintro ⟨h1, h2⟩
      rcases List.eq_nil_or_concat s with rfl | ⟨l, x, rfl⟩
      · exact .inl (mem_sets.mpr ⟨.nil, fun x hx => absurd hx (by simp)⟩)
      · rw [List.concat_eq_append] at h1 h2 ⊢
        obtain ⟨p1, _, p3⟩ := List.pairwise_append.mp h1
        have hx : x < n + 1 := h2 x (by simp)
        by_cases e : x = n
        · subst e
          exact .inr ⟨l, mem_sets.mpr ⟨p1, fun y hy => p3 y hy x (by simp)⟩, rfl⟩
        · refine .inl (mem_sets.mpr ⟨h1, fun y hy => ?_⟩)
          rcases List.mem_append.mp hy with q | q
          · have := p3 y q x (by simp)
            omega
          · rw [List.mem_singleton.mp q]
            omega
/-- most: the one that none betters -/
theorem most_eq {ps : List Kh371.Pt} {k : Nat} {r : List Nat} (h1 : r.Pairwise (· < ·)) (h2 : ∀ x ∈ r, x < ps.length) (h3 : Kh372.wholly ps k r = true)
    (h4 : ∀ s : List Nat, s.Pairwise (· < ·) → (∀ x ∈ s, x < ps.length) → Kh372.wholly ps k s = true → Kh372.better s r = false) : Kh372.most ps k = r := by
  unfold Kh372.most
  obtain ⟨b1, b2, b3⟩ := best_fold ((Kh372.sets ps.length).filter fun s => Kh372.wholly ps k s) []
  generalize ((Kh372.sets ps.length).filter fun s => Kh372.wholly ps k s).foldl (fun r s => if Kh372.better s r then s else r) [] = q at b1 b2 b3
  have hr : r ∈ (Kh372.sets ps.length).filter fun s => Kh372.wholly ps k s := List.mem_filter.mpr ⟨mem_sets.mpr ⟨h1, h2⟩, h3⟩
  have c1 := b2 r hr
  have c2 : Kh372.better q r = false := by
    rcases b1 with e | e
    · rw [e]
      cases hb : Kh372.better [] r with
      | false => rfl
      | true =>
        rw [better_iff] at hb
        rcases hb with z | ⟨_, z⟩
        · simp at z
        · cases r with
          | nil => cases z
          | cons _ _ => simp at *
    · obtain ⟨m1, m2⟩ := List.mem_filter.mp e
      obtain ⟨m3, m4⟩ := mem_sets.mp m1
      exact h4 q m3 m4 m2
  rcases better_total q r with z | z | z
  · rw [z] at c2; cases c2
  · exact z
  · rw [z] at c1; cases c1
/-! ### pairs, triples, fours -/
theorem filter_range (a n : Nat) : (List.range n).filter (fun b => decide (a < b)) = List.range' (a + 1) (n - (a + 1)) := by
  induction n with
  | zero => simp
  | succ n ih =>
    rw [List.range_succ, List.filter_append, ih]
    by_cases h : a < n
    · have e1 : [n].filter (fun b => decide (a < b)) = [n] := by simp [h]
      rw [e1, show n + 1 - (a + 1) = (n - (a + 1)) + 1 by omega, List.range'_concat]
      congr 2
      omega
    · have e1 : [n].filter (fun b => decide (a < b)) = [] := by simp [h]
      rw [e1, show n - (a + 1) = 0 by omega, show n + 1 - (a + 1) = 0 by omega]
      rfl
theorem mem_pairs {n : Nat} {t : List Nat} : t ∈ Kh372.pairs n ↔ ∃ a b, t = [a, b] ∧ a < b ∧ b < n := by
  unfold Kh372.pairs
  simp only [List.mem_flatMap, List.mem_map, List.mem_filter, List.mem_range, decide_eq_true_eq]
  constructor
  · rintro ⟨a, ha, b, ⟨hb, hab⟩, rfl⟩
    exact ⟨a, b, rfl, hab, hb⟩
  · rintro ⟨a, b, rfl, hab, hb⟩
    exact ⟨a, by omega, b, ⟨hb, hab⟩, rfl⟩
theorem mem_triples {n : Nat} {t : List Nat} : t ∈ Kh372.triples n ↔ ∃ a b c, t = [a, b, c] ∧ a < b ∧ b < c ∧ c < n := by
  unfold Kh372.triples
  simp only [List.mem_flatMap, List.mem_map, List.mem_filter, List.mem_range, decide_eq_true_eq]
  constructor
  · rintro ⟨l, hl, c, ⟨hc, hbc⟩, rfl⟩
    obtain ⟨a, b, rfl, hab, hb⟩ := mem_pairs.mp hl
    exact ⟨a, b, c, rfl, hab, hbc, hc⟩
  · rintro ⟨a, b, c, rfl, hab, hbc, hc⟩
    exact ⟨[a, b], mem_pairs.mpr ⟨a, b, rfl, hab, by omega⟩, c, ⟨hc, hbc⟩, rfl⟩
theorem mem_fours {n : Nat} {t : List Nat} : t ∈ Kh372.fours n ↔ ∃ a b c d, t = [a, b, c, d] ∧ a < b ∧ b < c ∧ c < d ∧ d < n := by
  unfold Kh372.fours
  simp only [List.mem_flatMap, List.mem_map, List.mem_filter, List.mem_range, decide_eq_true_eq]
  constructor
  · rintro ⟨l, hl, d, ⟨hd, hcd⟩, rfl⟩
    obtain ⟨a, b, c, rfl, hab, hbc, hc⟩ := mem_triples.mp hl
    exact ⟨a, b, c, d, rfl, hab, hbc, hcd, hd⟩
  · rintro ⟨a, b, c, d, rfl, hab, hbc, hcd, hd⟩
    exact ⟨[a, b, c], mem_triples.mpr ⟨a, b, c, rfl, hab, hbc, by omega⟩, d, ⟨hd, hcd⟩, rfl⟩
end My

set_option Elab.async false
set_option linter.all false
set_option maxRecDepth 100000
set_option maxHeartbeats 4000000
namespace My
theorem so1 {P : Prop} [Decidable P] {r : Int} (h : P ↔ r = 0) : decide P = [r].all (fun x => x == 0) := by
  have e : [r].all (fun x => x == 0) = decide (r = 0) := by simp [List.all_cons]; rfl
  rw [e]
  exact decide_eq_decide.mpr h
theorem so2 {P Q : Prop} [Decidable P] [Decidable Q] {r s : Int} (h : P ↔ r = 0) (h' : Q ↔ s = 0) : (decide P && decide Q) = [r, s].all (fun x => x == 0) := by
  have e : [r, s].all (fun x => x == 0) = (decide (r = 0) && decide (s = 0)) := by simp [List.all_cons]; rfl
  rw [e, decide_eq_decide.mpr h, decide_eq_decide.mpr h']
theorem zf {A B r f g : Int} (hf : f ≠ 0) (hg : g ≠ 0) (h : (A - B) * f = r * g) : A = B ↔ r = 0 := by
  constructor
  · intro e
    rw [e, Int.sub_self, Int.zero_mul] at h
    rcases Int.mul_eq_zero.mp h.symm with z | z
    · exact z
    · exact absurd z hg
  · intro e
    rw [e, Int.zero_mul] at h
    rcases Int.mul_eq_zero.mp h with z | z
    · omega
    · exact absurd z hf
/-- the way from a to b, and what the specification calls across, up -/
structure Wy (c X Y A B W : Int) : Prop where
  x : X * W = c * A
  y : Y * W = c * B
theorem wy {c ax ay aw ta bx by' bw tb : Int} (ha : aw * ta = c) (hb : bw * tb = c) : Wy c (bx * tb - ax * ta) (by' * tb - ay * ta) (bx * aw - ax * bw) (by' * aw - ay * bw) (aw * bw) := ⟨by grind, by grind⟩
theorem wy_turn {c X Y A B W X' Y' A' B' W' : Int} (h : Wy c X Y A B W) (h' : Wy c X' Y' A' B' W') : (X * Y' - Y * X') * (W * W') = c * c * (A * B' - B * A') := by
  have := h.x; have := h.y; have := h'.x; have := h'.y
  have e1 : (X * W) * (Y' * W') = (c * A) * (c * B') := by rw [h.x, h'.y]
  have e2 : (Y * W) * (X' * W') = (c * B) * (c * A') := by rw [h.y, h'.x]
  grind
theorem wy_lean {c X Y A B W X' Y' A' B' W' : Int} (h : Wy c X Y A B W) (h' : Wy c X' Y' A' B' W') : (X * X' + Y * Y') * (W * W') = c * c * (A * A' + B * B') := by
  have e1 : (X * W) * (X' * W') = (c * A) * (c * A') := by rw [h.x, h'.x]
  have e2 : (Y * W) * (Y' * W') = (c * B) * (c * B') := by rw [h.y, h'.y]
  grind
theorem wy_mx {c X Y A B W X' Y' A' B' W' : Int} (h : Wy c X Y A B W) (h' : Wy c X' Y' A' B' W') : (X * X' - Y * Y') * (W * W') = c * c * (A * A' - B * B') := by
  have e1 : (X * W) * (X' * W') = (c * A) * (c * A') := by rw [h.x, h'.x]
  have e2 : (Y * W) * (Y' * W') = (c * B) * (c * B') := by rw [h.y, h'.y]
  grind
theorem wy_my {c X Y A B W X' Y' A' B' W' : Int} (h : Wy c X Y A B W) (h' : Wy c X' Y' A' B' W') : (X * Y' + Y * X') * (W * W') = c * c * (A * B' + B * A') := by
  have e1 : (X * W) * (Y' * W') = (c * A) * (c * B') := by rw [h.x, h'.y]
  have e2 : (Y * W) * (X' * W') = (c * B) * (c * A') := by rw [h.y, h'.x]
  grind
theorem cr_det (a b c : Kh371.Pt) : Kh372.cr a b a c = a.w * Kh371.det a b c := by
  unfold Kh372.cr Kh371.det Kh371.across Kh371.up
  grind
theorem off_det (a b c : Kh371.Pt) : Kh371.off (Kh371.line a b) c = Kh371.det a b c := by
  unfold Kh371.off Kh371.line Kh371.det
  grind
structure Sc (c : Int) (a : Pt) (t : Int) : Prop where
  e : a.w * t = c
  w : a.w ≠ 0
def pwy {c ta tb : Int} {a b : Pt} (ha : Sc c a ta) (hb : Sc c b tb) : Wy c (b.x * tb - a.x * ta) (b.y * tb - a.y * ta) (Kh371.across a b) (Kh371.up a b) (a.w * b.w) := wy ha.e hb.e
section
variable {C ta tb tc td te tf m n : Int} {a b c d e f : Pt}
/-- twice what lies between -/
theorem turn_det (hC : C ≠ 0) (ha : Sc C a ta) (hb : Sc C b tb) (hc : Sc C c tc) : m_turn (b.x * tb - a.x * ta) (b.y * tb - a.y * ta) (c.x * tc - a.x * ta) (c.y * tc - a.y * ta) * (a.w * b.w * c.w) = C * C * Kh371.det a b c := by
  have h := wy_turn (pwy ha hb) (pwy ha hc)
  have h2 := cr_det a b c
  unfold Kh372.cr at h2
  rw [h2] at h
  unfold m_turn
  refine Int.eq_of_mul_eq_mul_left ha.w ?_
  grind
theorem k0 (hC : C ≠ 0) (ha : Sc C a ta) (hb : Sc C b tb) : m_is_same (a.x * ta) (a.y * ta) (b.x * tb) (b.y * tb) = Kh372.so 0 [a, b] m n := by
  have h := pwy hb ha
  have hw := Int.mul_ne_zero hb.w ha.w
  refine so2 (zf hw hC ?_) (zf hw hC ?_)
  · rw [h.x, Int.mul_comm]
    rfl
  · rw [h.y, Int.mul_comm]
    rfl
theorem k1 (hC : C ≠ 0) (ha : Sc C a ta) (hb : Sc C b tb) (hc : Sc C c tc) : m_is_line (a.x * ta) (a.y * ta) (b.x * tb) (b.y * tb) (c.x * tc) (c.y * tc) = Kh372.so 1 [a, b, c] m n := by
  have h := turn_det hC ha hb hc
  refine so1 (zf (Int.mul_ne_zero (Int.mul_ne_zero ha.w hb.w) hc.w) (Int.mul_ne_zero hC hC) ?_)
  rw [Int.sub_zero, Int.mul_comm _ (C * C)]
  exact h
theorem mz {x y : Int} (hx : x ≠ 0) (hy : y ≠ 0) : x * y ≠ 0 := Int.mul_ne_zero hx hy
theorem k2 (hC : C ≠ 0) (ha : Sc C a ta) (hb : Sc C b tb) (hc : Sc C c tc) (hd : Sc C d td) : m_is_parallel (a.x * ta) (a.y * ta) (b.x * tb) (b.y * tb) (c.x * tc) (c.y * tc) (d.x * td) (d.y * td) = Kh372.so 2 [a, b, c, d] m n := by
  have h := wy_turn (pwy ha hb) (pwy hc hd)
  refine so1 (zf (mz (mz ha.w hb.w) (mz hc.w hd.w)) (mz hC hC) ?_)
  rw [Int.sub_zero, Int.mul_comm _ (C * C)]
  exact h
theorem k3 (hC : C ≠ 0) (ha : Sc C a ta) (hb : Sc C b tb) (hc : Sc C c tc) (hd : Sc C d td) : m_is_right (a.x * ta) (a.y * ta) (b.x * tb) (b.y * tb) (c.x * tc) (c.y * tc) (d.x * td) (d.y * td) = Kh372.so 3 [a, b, c, d] m n := by
  have h := wy_lean (pwy ha hb) (pwy hc hd)
  refine so1 (zf (mz (mz ha.w hb.w) (mz hc.w hd.w)) (mz hC hC) ?_)
  rw [Int.sub_zero, Int.mul_comm _ (C * C)]
  exact h
theorem times_key {A B P Q u v : Int} {CC W W' : Int} (h : A * (W * W) = CC * P) (h' : B * (W' * W') = CC * Q) : (A * u - B * v) * ((W * W) * (W' * W')) = (P * (W' * W') * u - Q * (W * W) * v) * CC := by grind
theorem times_key5 {A B P Q u v : Int} {CC W W' : Int} (h : A * (W * W) = CC * P) (h' : B * (W' * W') = CC * Q) : (A * u * u - B * v * v) * ((W * W) * (W' * W')) = (P * (W' * W') * (u * u) - Q * (W * W) * (v * v)) * CC := by grind
theorem k5 (hC : C ≠ 0) (ha : Sc C a ta) (hb : Sc C b tb) (hc : Sc C c tc) (hd : Sc C d td) : m_is_times (a.x * ta) (a.y * ta) (b.x * tb) (b.y * tb) (c.x * tc) (c.y * tc) (d.x * td) (d.y * td) m n = Kh372.so 5 [a, b, c, d] m n := by
  have h1 := wy_lean (pwy ha hb) (pwy ha hb)
  have h2 := wy_lean (pwy hc hd) (pwy hc hd)
  refine so1 (zf (mz (mz (mz ha.w hb.w) (mz ha.w hb.w)) (mz (mz hc.w hd.w) (mz hc.w hd.w))) (mz hC hC) ?_)
  exact times_key5 (u := n) (v := m) h1 h2
theorem k4 (hC : C ≠ 0) (ha : Sc C a ta) (hb : Sc C b tb) (hc : Sc C c tc) (hd : Sc C d td) : m_is_equal (a.x * ta) (a.y * ta) (b.x * tb) (b.y * tb) (c.x * tc) (c.y * tc) (d.x * td) (d.y * td) = Kh372.so 4 [a, b, c, d] m n := by
  have h1 := wy_lean (pwy ha hb) (pwy ha hb)
  have h2 := wy_lean (pwy hc hd) (pwy hc hd)
  refine so1 (zf (mz (mz (mz ha.w hb.w) (mz ha.w hb.w)) (mz (mz hc.w hd.w) (mz hc.w hd.w))) (mz hC hC) ?_)
  have h3 := times_key (u := 1) (v := 1) h1 h2
  simp only [Int.mul_one] at h3 ⊢
  exact h3
theorem ang_key {T L T' L' P Q P' Q' CC V W : Int} (h1 : T * V = CC * P) (h2 : L * V = CC * Q) (h3 : T' * W = CC * P') (h4 : L' * W = CC * Q') : (T * L' - T' * L) * (V * W) = (P * Q' - Q * P') * (CC * CC) := by
  have e1 : (T * V) * (L' * W) = (CC * P) * (CC * Q') := by rw [h1, h4]
  have e2 : (T' * W) * (L * V) = (CC * P') * (CC * Q) := by rw [h3, h2]
  grind
theorem k7 (hC : C ≠ 0) (ha : Sc C a ta) (hb : Sc C b tb) (hc : Sc C c tc) (hd : Sc C d td) (he : Sc C e te) (hf : Sc C f tf) : m_is_angles (a.x * ta) (a.y * ta) (b.x * tb) (b.y * tb) (c.x * tc) (c.y * tc) (d.x * td) (d.y * td) (e.x * te) (e.y * te) (f.x * tf) (f.y * tf) = Kh372.so 7 [a, b, c, d, e, f] m n := by
  have h1 := wy_turn (pwy hb ha) (pwy hb hc)
  have h2 := wy_lean (pwy hb ha) (pwy hb hc)
  have h3 := wy_turn (pwy he hd) (pwy he hf)
  have h4 := wy_lean (pwy he hd) (pwy he hf)
  refine so1 (zf (mz (mz (mz hb.w ha.w) (mz hb.w hc.w)) (mz (mz he.w hd.w) (mz he.w hf.w))) (mz (mz hC hC) (mz hC hC)) ?_)
  exact ang_key h1 h2 h3 h4
theorem ar_key {T T' P P' CC V W : Int} (h1 : T * V = CC * P) (h2 : T' * W = CC * P') : (T - T') * (V * W) = (P * W - P' * V) * CC := by grind
theorem k8 (hC : C ≠ 0) (ha : Sc C a ta) (hb : Sc C b tb) (hc : Sc C c tc) (hd : Sc C d td) (he : Sc C e te) (hf : Sc C f tf) : m_is_areas (a.x * ta) (a.y * ta) (b.x * tb) (b.y * tb) (c.x * tc) (c.y * tc) (d.x * td) (d.y * td) (e.x * te) (e.y * te) (f.x * tf) (f.y * tf) = Kh372.so 8 [a, b, c, d, e, f] m n := by
  have h1 := turn_det hC ha hb hc
  have h2 := turn_det hC hd he hf
  refine so1 (zf (mz (mz (mz ha.w hb.w) hc.w) (mz (mz hd.w he.w) hf.w)) (mz hC hC) ?_)
  exact ar_key h1 h2
theorem mid_key {X A B X' A' W W' CC u v w : Int} (h1 : X * (v * u) = CC * A) (h2 : X' * (u * w) = CC * A') : (X - X') * (u * v * w) = (A * w - A' * v) * CC := by grind
theorem k10 (hC : C ≠ 0) (ha : Sc C a ta) (hb : Sc C b tb) (hc : Sc C c tc) : m_is_middle (a.x * ta) (a.y * ta) (b.x * tb) (b.y * tb) (c.x * tc) (c.y * tc) = Kh372.so 10 [a, b, c] m n := by
  have h1 := pwy hb ha
  have h2 := pwy ha hc
  refine so2 (zf (mz (mz ha.w hb.w) hc.w) hC ?_) (zf (mz (mz ha.w hb.w) hc.w) hC ?_)
  · have e := mid_key (A := Kh371.across b a) (B := 0) (W := 0) (W' := 0) h1.x h2.x
    refine Eq.trans e ?_
    congr 1
    unfold Kh371.across
    show _ = 2 * a.x * b.w * c.w - a.w * (b.x * c.w + c.x * b.w)
    grind
  · have e := mid_key (A := Kh371.up b a) (B := 0) (W := 0) (W' := 0) h1.y h2.y
    refine Eq.trans e ?_
    congr 1
    unfold Kh371.up
    show _ = 2 * a.y * b.w * c.w - a.w * (b.y * c.w + c.y * b.w)
    grind
theorem tch_key {T D L P L' P' CC u v w x : Int} (h1 : T * (u * v * w) = CC * D) (h2 : L * ((u * v) * (u * v)) = CC * P) (h3 : L' * ((w * x) * (w * x)) = CC * P') : (T * T - L * L') * ((u * v * w) * (u * v * w) * (x * x)) = (D * D * (x * x) - P' * P) * (CC * CC) := by
  have e1 : (T * (u * v * w)) * (T * (u * v * w)) = (CC * D) * (CC * D) := by rw [h1]
  have e2 : (L * ((u * v) * (u * v))) * (L' * ((w * x) * (w * x))) = (CC * P) * (CC * P') := by rw [h2, h3]
  grind
theorem k11 (hC : C ≠ 0) (ha : Sc C a ta) (hb : Sc C b tb) (hc : Sc C c tc) (hd : Sc C d td) : m_is_touches (a.x * ta) (a.y * ta) (b.x * tb) (b.y * tb) (c.x * tc) (c.y * tc) (d.x * td) (d.y * td) = Kh372.so 11 [a, b, c, d] m n := by
  have h1 := turn_det hC ha hb hc
  have h2 := wy_lean (pwy ha hb) (pwy ha hb)
  have h3 := wy_lean (pwy hc hd) (pwy hc hd)
  refine so1 (zf (mz (mz (mz (mz ha.w hb.w) hc.w) (mz (mz ha.w hb.w) hc.w)) (mz hd.w hd.w)) (mz (mz hC hC) (mz hC hC)) ?_)
  refine Eq.trans (tch_key h1 h2 h3) ?_
  congr 1
  show _ = Kh371.off (Kh371.line a b) c * Kh371.off (Kh371.line a b) c * (d.w * d.w) - (Kh371.across c d * Kh371.across c d + Kh371.up c d * Kh371.up c d) * ((Kh371.line a b).p * (Kh371.line a b).p + (Kh371.line a b).q * (Kh371.line a b).q)
  rw [off_det]
  unfold Kh371.line Kh371.across Kh371.up
  grind
theorem alk_key {F S P Q CC u v w x y z : Int} (h1 : F * ((u * v) * (x * z)) = CC * P) (h2 : S * ((u * w) * (x * y)) = CC * Q) : (F - S) * ((u * v * w) * (x * y * z)) = (P * y * w - Q * z * v) * CC := by grind
theorem k12 (hC : C ≠ 0) (ha : Sc C a ta) (hb : Sc C b tb) (hc : Sc C c tc) (hd : Sc C d td) (he : Sc C e te) (hf : Sc C f tf) : m_is_alike (a.x * ta) (a.y * ta) (b.x * tb) (b.y * tb) (c.x * tc) (c.y * tc) (d.x * td) (d.y * td) (e.x * te) (e.y * te) (f.x * tf) (f.y * tf) = Kh372.so 12 [a, b, c, d, e, f] m n := by
  have h1 := wy_mx (pwy ha hb) (pwy hd hf)
  have h2 := wy_mx (pwy ha hc) (pwy hd he)
  have h3 := wy_my (pwy ha hb) (pwy hd hf)
  have h4 := wy_my (pwy ha hc) (pwy hd he)
  have hw := mz (mz (mz ha.w hb.w) hc.w) (mz (mz hd.w he.w) hf.w)
  refine so2 (zf hw (mz hC hC) ?_) (zf hw (mz hC hC) ?_)
  · refine Eq.trans (alk_key h1 h2) ?_
    congr 1
    show _ = (Kh371.across a b * Kh371.across d f - Kh371.up a b * Kh371.up d f) * e.w * c.w - (Kh371.across d e * Kh371.across a c - Kh371.up d e * Kh371.up a c) * f.w * b.w
    grind
  · refine Eq.trans (alk_key h3 h4) ?_
    congr 1
    show _ = (Kh371.across a b * Kh371.up d f + Kh371.up a b * Kh371.across d f) * e.w * c.w - (Kh371.across d e * Kh371.up a c + Kh371.up d e * Kh371.across a c) * f.w * b.w
    grind
/-- a line's numbers -/
theorem line_sc (ha : Sc C a ta) (hb : Sc C b tb) : (a.y * ta - b.y * tb) * (a.w * b.w) = C * (Kh371.line a b).p ∧ (b.x * tb - a.x * ta) * (a.w * b.w) = C * (Kh371.line a b).q ∧ ((a.x * ta) * (b.y * tb) - (a.y * ta) * (b.x * tb)) * (a.w * b.w) = C * C * (Kh371.line a b).r := by
  obtain ⟨h1, _⟩ := ha
  obtain ⟨h2, _⟩ := hb
  unfold Kh371.line
  dsimp only
  refine ⟨by grind, by grind, ?_⟩
  have e : (a.w * ta) * (b.w * tb) = C * C := by rw [h1, h2]
  grind
theorem thr_key {p q r p' q' r' p'' q'' r'' P Q R P' Q' R' P'' Q'' R'' U V W : Int} (h1 : p * U = C * P) (h2 : q * U = C * Q) (h3 : r * U = C * C * R) (h1' : p' * V = C * P') (h2' : q' * V = C * Q') (h3' : r' * V = C * C * R') (h1'' : p'' * W = C * P'') (h2'' : q'' * W = C * Q'') (h3'' : r'' * W = C * C * R'') :
    m_measure p q r p' q' r' p'' q'' r'' * (U * V * W) = (P * (Q' * R'' - Q'' * R') - Q * (P' * R'' - P'' * R') + R * (P' * Q'' - P'' * Q')) * (C * C * C * C) := by
  unfold m_measure
  have e1 : (p * U) * (q' * V) * (r'' * W) = (C * P) * (C * Q') * (C * C * R'') := by rw [h1, h2', h3'']
  have e2 : (p * U) * (r' * V) * (q'' * W) = (C * P) * (C * C * R') * (C * Q'') := by rw [h1, h3', h2'']
  have e3 : (q * U) * (p' * V) * (r'' * W) = (C * Q) * (C * P') * (C * C * R'') := by rw [h2, h1', h3'']
  have e4 : (q * U) * (r' * V) * (p'' * W) = (C * Q) * (C * C * R') * (C * P'') := by rw [h2, h3', h1'']
  have e5 : (r * U) * (p' * V) * (q'' * W) = (C * C * R) * (C * P') * (C * Q'') := by rw [h3, h1', h2'']
  have e6 : (r * U) * (q' * V) * (p'' * W) = (C * C * R) * (C * Q') * (C * P'') := by rw [h3, h2', h1'']
  clear h1 h2 h3 h1' h2' h3' h1'' h2'' h3''
  grind
theorem k9 (hC : C ≠ 0) (ha : Sc C a ta) (hb : Sc C b tb) (hc : Sc C c tc) (hd : Sc C d td) (he : Sc C e te) (hf : Sc C f tf) : m_is_through (a.x * ta) (a.y * ta) (b.x * tb) (b.y * tb) (c.x * tc) (c.y * tc) (d.x * td) (d.y * td) (e.x * te) (e.y * te) (f.x * tf) (f.y * tf) = Kh372.so 9 [a, b, c, d, e, f] m n := by
  obtain ⟨x1, x2, x3⟩ := line_sc ha hb
  obtain ⟨y1, y2, y3⟩ := line_sc hc hd
  obtain ⟨z1, z2, z3⟩ := line_sc he hf
  refine so1 (zf (mz (mz (mz ha.w hb.w) (mz hc.w hd.w)) (mz he.w hf.w)) (mz (mz (mz hC hC) hC) hC) ?_)
  rw [Int.sub_zero]
  exact thr_key x1 x2 x3 y1 y2 y3 z1 z2 z3
theorem circ_id (a b c d : Pt) : Kh372.dt a b a b * (c.w * d.w * Kh371.det a c d) - Kh372.dt a c a c * (b.w * d.w * Kh371.det a b d) + Kh372.dt a d a d * (b.w * c.w * Kh371.det a b c) =
    -(a.w * (Kh371.square a * (b.w * c.w * d.w * Kh371.det b c d) - Kh371.square b * (a.w * c.w * d.w * Kh371.det a c d) + Kh371.square c * (a.w * b.w * d.w * Kh371.det a b d) - Kh371.square d * (a.w * b.w * c.w * Kh371.det a b c))) := by
  obtain ⟨ax, ay, aw⟩ := a
  obtain ⟨bx, by', bw⟩ := b
  obtain ⟨cx, cy, cw⟩ := c
  obtain ⟨dx, dy, dw⟩ := d
  unfold Kh372.dt Kh371.det Kh371.across Kh371.up Kh371.square
  dsimp only
  grind
theorem circ_key {X1 Y1 X2 Y2 X3 Y3 A1 B1 A2 B2 A3 B3 W1 W2 W3 : Int} (h1 : Wy C X1 Y1 A1 B1 W1) (h2 : Wy C X2 Y2 A2 B2 W2) (h3 : Wy C X3 Y3 A3 B3 W3) :
    m_measure (m_square X1 Y1) X1 Y1 (m_square X2 Y2) X2 Y2 (m_square X3 Y3) X3 Y3 * (W1 * W1 * (W2 * W2) * (W3 * W3)) = ((A1 * A1 + B1 * B1) * (W2 * W3 * (A2 * B3 - B2 * A3)) - (A2 * A2 + B2 * B2) * (W1 * W3 * (A1 * B3 - B1 * A3)) + (A3 * A3 + B3 * B3) * (W1 * W2 * (A1 * B2 - B1 * A2))) * (C * C * C * C) := by
  have l1 := wy_lean h1 h1
  have l2 := wy_lean h2 h2
  have l3 := wy_lean h3 h3
  have t1 := wy_turn h2 h3
  have t2 := wy_turn h1 h3
  have t3 := wy_turn h1 h2
  have e : m_measure (m_square X1 Y1) X1 Y1 (m_square X2 Y2) X2 Y2 (m_square X3 Y3) X3 Y3 = (X1 * X1 + Y1 * Y1) * (X2 * Y3 - Y2 * X3) - (X2 * X2 + Y2 * Y2) * (X1 * Y3 - Y1 * X3) + (X3 * X3 + Y3 * Y3) * (X1 * Y2 - Y1 * X2) := by
    unfold m_measure m_square m_lean
    grind
  rw [e]
  clear e h1 h2 h3
  generalize X1 * X1 + Y1 * Y1 = L1 at *
  generalize X2 * X2 + Y2 * Y2 = L2 at *
  generalize X3 * X3 + Y3 * Y3 = L3 at *
  generalize X2 * Y3 - Y2 * X3 = T1 at *
  generalize X1 * Y3 - Y1 * X3 = T2 at *
  generalize X1 * Y2 - Y1 * X2 = T3 at *
  generalize A1 * A1 + B1 * B1 = D1 at *
  generalize A2 * A2 + B2 * B2 = D2 at *
  generalize A3 * A3 + B3 * B3 = D3 at *
  generalize A2 * B3 - B2 * A3 = E1 at *
  generalize A1 * B3 - B1 * A3 = E2 at *
  generalize A1 * B2 - B1 * A2 = E3 at *
  have g1 : (L1 * (W1 * W1)) * (T1 * (W2 * W3)) * (W2 * W3) = (C * C * D1) * (C * C * E1) * (W2 * W3) := by rw [l1, t1]
  have g2 : (L2 * (W2 * W2)) * (T2 * (W1 * W3)) * (W1 * W3) = (C * C * D2) * (C * C * E2) * (W1 * W3) := by rw [l2, t2]
  have g3 : (L3 * (W3 * W3)) * (T3 * (W1 * W2)) * (W1 * W2) = (C * C * D3) * (C * C * E3) * (W1 * W2) := by rw [l3, t3]
  clear l1 l2 l3 t1 t2 t3
  grind
theorem k6 (hC : C ≠ 0) (ha : Sc C a ta) (hb : Sc C b tb) (hc : Sc C c tc) (hd : Sc C d td) : m_is_circle (a.x * ta) (a.y * ta) (b.x * tb) (b.y * tb) (c.x * tc) (c.y * tc) (d.x * td) (d.y * td) = Kh372.so 6 [a, b, c, d] m n := by
  have h := circ_key (pwy ha hb) (pwy ha hc) (pwy ha hd)
  have i := circ_id a b c d
  have c1 := cr_det a c d
  have c2 := cr_det a b d
  have c3 := cr_det a b c
  unfold Kh372.cr at c1 c2 c3
  rw [c1, c2, c3] at h
  unfold Kh372.dt at i
  refine so1 (zf (r := Kh371.square a * (b.w * c.w * d.w * Kh371.det b c d) - Kh371.square b * (a.w * c.w * d.w * Kh371.det a c d) + Kh371.square c * (a.w * b.w * d.w * Kh371.det a b d) - Kh371.square d * (a.w * b.w * c.w * Kh371.det a b c)) (mz (mz (mz (mz ha.w hb.w) (mz ha.w hb.w)) (mz (mz ha.w hc.w) (mz ha.w hc.w))) (mz (mz ha.w hd.w) (mz ha.w hd.w))) (g := -(a.w * a.w * a.w * a.w) * (C * C * C * C)) ?_ ?_)
  · have := mz (mz (mz ha.w ha.w) ha.w) ha.w
    exact mz (by omega) (mz (mz (mz hC hC) hC) hC)
  · rw [Int.sub_zero]
    refine Eq.trans h ?_
    clear h c1 c2 c3
    generalize Kh371.square a * (b.w * c.w * d.w * Kh371.det b c d) - Kh371.square b * (a.w * c.w * d.w * Kh371.det a c d) + Kh371.square c * (a.w * b.w * d.w * Kh371.det a b d) - Kh371.square d * (a.w * b.w * c.w * Kh371.det a b c) = R at *
    generalize Kh371.across a b * Kh371.across a b + Kh371.up a b * Kh371.up a b = D1 at *
    generalize Kh371.across a c * Kh371.across a c + Kh371.up a c * Kh371.up a c = D2 at *
    generalize Kh371.across a d * Kh371.across a d + Kh371.up a d * Kh371.up a d = D3 at *
    generalize Kh371.det a c d = E1 at *
    generalize Kh371.det a b d = E2 at *
    generalize Kh371.det a b c = E3 at *
    have e : D1 * (a.w * c.w * (a.w * d.w) * (a.w * E1)) - D2 * (a.w * b.w * (a.w * d.w) * (a.w * E2)) + D3 * (a.w * b.w * (a.w * c.w) * (a.w * E3)) = R * -(a.w * a.w * a.w * a.w) := by
      clear ha hb hc hd hC
      grind
    rw [e, Int.mul_assoc]
end
/-! ### the whole -/
theorem sc_of {c : Int} {p : Pt} (h1 : 1 ≤ p.w) (hd : p.w ∣ c) : Sc c p (c.fdiv p.w) := by
  refine ⟨?_, by omega⟩
  rw [Int.fdiv_eq_ediv_of_dvd hd]
  exact Int.mul_ediv_cancel' hd
theorem soQ_eq {k : Nat} {C m n : Int} {pts : List Pt} (hk : k < 13) (hl : pts.length = Kh372.pointsOf k) (h : ∀ p ∈ pts, 1 ≤ p.w ∧ p.w ∣ C) (hC : C ≠ 0) : soQ k (pts.map (Pq C)) m n = Kh372.so k pts m n := by
  have s : ∀ p ∈ pts, Sc C p (C.fdiv p.w) := fun p hp => sc_of (h p hp).1 (h p hp).2
  have hk : k = 0 ∨ k = 1 ∨ k = 2 ∨ k = 3 ∨ k = 4 ∨ k = 5 ∨ k = 6 ∨ k = 7 ∨ k = 8 ∨ k = 9 ∨ k = 10 ∨ k = 11 ∨ k = 12 := by omega
  rcases hk with rfl | rfl | rfl | rfl | rfl | rfl | rfl | rfl | rfl | rfl | rfl | rfl | rfl
  · match pts, hl, s with
    | [a, b], _, s => exact k0 hC (s a (by simp)) (s b (by simp))
  · match pts, hl, s with
    | [a, b, c], _, s => exact k1 hC (s a (by simp)) (s b (by simp)) (s c (by simp))
  · match pts, hl, s with
    | [a, b, c, d], _, s => exact k2 hC (s a (by simp)) (s b (by simp)) (s c (by simp)) (s d (by simp))
  · match pts, hl, s with
    | [a, b, c, d], _, s => exact k3 hC (s a (by simp)) (s b (by simp)) (s c (by simp)) (s d (by simp))
  · match pts, hl, s with
    | [a, b, c, d], _, s => exact k4 hC (s a (by simp)) (s b (by simp)) (s c (by simp)) (s d (by simp))
  · match pts, hl, s with
    | [a, b, c, d], _, s => exact k5 hC (s a (by simp)) (s b (by simp)) (s c (by simp)) (s d (by simp))
  · match pts, hl, s with
    | [a, b, c, d], _, s => exact k6 hC (s a (by simp)) (s b (by simp)) (s c (by simp)) (s d (by simp))
  · match pts, hl, s with
    | [a, b, c, d, e, f], _, s => exact k7 hC (s a (by simp)) (s b (by simp)) (s c (by simp)) (s d (by simp)) (s e (by simp)) (s f (by simp))
  · match pts, hl, s with
    | [a, b, c, d, e, f], _, s => exact k8 hC (s a (by simp)) (s b (by simp)) (s c (by simp)) (s d (by simp)) (s e (by simp)) (s f (by simp))
  · match pts, hl, s with
    | [a, b, c, d, e, f], _, s => exact k9 hC (s a (by simp)) (s b (by simp)) (s c (by simp)) (s d (by simp)) (s e (by simp)) (s f (by simp))
  · match pts, hl, s with
    | [a, b, c], _, s => exact k10 hC (s a (by simp)) (s b (by simp)) (s c (by simp))
  · match pts, hl, s with
    | [a, b, c, d], _, s => exact k11 hC (s a (by simp)) (s b (by simp)) (s c (by simp)) (s d (by simp))
  · match pts, hl, s with
    | [a, b, c, d, e, f], _, s => exact k12 hC (s a (by simp)) (s b (by simp)) (s c (by simp)) (s d (by simp)) (s e (by simp)) (s f (by simp))
end My

set_option Elab.async false
set_option linter.all false
set_option maxRecDepth 100000
set_option maxHeartbeats 4000000
namespace My
open PySem PySem.Spec PyProof.Rows L2
open Evl (Ev EvL EvU EvT EvA EvO Ex RV RU RC RCL SpV SpL)
section
variable {K : PySem.W.Frag} {mg : Str → Option Value} {A : Ad} {vs : List V} {H : Hp} {Q : VK} {E : XK}
/-! ### comW, whl -/
theorem com_step {c w : Int} (hc : 1 ≤ c) (hw : 1 ≤ w) : 1 ≤ c.fdiv (Int.gcd c w) * w ∧ c ∣ c.fdiv (Int.gcd c w) * w ∧ w ∣ c.fdiv (Int.gcd c w) * w ∧ ((Int.gcd c w : Nat) : Int) ≠ 0 := by
  have g0 : 0 < Int.gcd c w := Nat.pos_of_ne_zero fun z => by
    have := (Int.gcd_eq_zero_iff.mp z).1
    omega
  have d1 := Int.gcd_dvd_left c w
  have d2 := Int.gcd_dvd_right c w
  rw [Int.fdiv_eq_ediv_of_dvd d1]
  generalize hg : ((Int.gcd c w : Nat) : Int) = g at *
  have g1 : 0 < g := by omega
  have e1 := Int.ediv_mul_cancel d1
  have p1 : 0 < c / g := Int.ediv_pos_of_pos_of_dvd (by omega) (by omega) d1
  have p2 := Int.mul_pos p1 (show 0 < w by omega)
  obtain ⟨w', rfl⟩ := d2
  refine ⟨by omega, ⟨w', ?_⟩, ⟨c / g, Int.mul_comm _ _⟩, by omega⟩
  rw [← Int.mul_assoc, e1]
theorem com_fold : ∀ (ps : List Pt) (c : Int), 1 ≤ c → (∀ p ∈ ps, 1 ≤ p.w) → 1 ≤ ps.foldl (fun c u => c.fdiv (Int.gcd c u.w) * u.w) c ∧ c ∣ ps.foldl (fun c u => c.fdiv (Int.gcd c u.w) * u.w) c ∧ ∀ p ∈ ps, p.w ∣ ps.foldl (fun c u => c.fdiv (Int.gcd c u.w) * u.w) c
  | [], c, hc, _ => ⟨hc, Int.dvd_refl c, fun p hp => absurd hp (by simp)⟩
  | q :: r, c, hc, h => by
    obtain ⟨s1, s2, s3, _⟩ := com_step hc (h q (by simp))
    obtain ⟨i1, i2, i3⟩ := com_fold r (c.fdiv (Int.gcd c q.w) * q.w) s1 fun p hp => h p (List.mem_cons_of_mem _ hp)
    refine ⟨i1, Int.dvd_trans s2 i2, fun p hp => ?_⟩
    rcases List.mem_cons.mp hp with z | z
    · rw [z]
      exact Int.dvd_trans s3 i2
    · exact i3 p z
theorem com_bd : ∀ (ps : List Pt) (c : Int) (n : Nat), 1 ≤ c → Bd n c → (∀ p ∈ ps, 1 ≤ p.w ∧ Bd 31 p.w) → Bd (n + 31 * ps.length) (ps.foldl (fun c u => c.fdiv (Int.gcd c u.w) * u.w) c)
  | [], c, n, _, h, _ => h
  | q :: r, c, n, hc, hb, h => by
    obtain ⟨s1, s2, s3, s4⟩ := com_step hc (h q (by simp)).1
    have b1 : Bd (n + 31) (c.fdiv (Int.gcd c q.w) * q.w) := (hb.fdiv s4).mul (h q (by simp)).2
    have i := com_bd r _ (n + 31) s1 b1 fun p hp => h p (List.mem_cons_of_mem _ hp)
    have e : n + 31 * (q :: r).length = n + 31 + 31 * r.length := by
      rw [List.length_cons]
      omega
    rw [e]
    exact i
theorem comW_ok {ps : List Pt} (h : GoodS ps) : 1 ≤ comW ps ∧ (∀ p ∈ ps, p.w ∣ comW ps) ∧ Bd 311 (comW ps) := by
  obtain ⟨h1, _, h3⟩ := com_fold ps 1 (by decide) fun p hp => (h.1 p hp).w1
  refine ⟨h1, h3, ?_⟩
  have b := com_bd ps 1 1 (by decide) (by decide) fun p hp => ⟨(h.1 p hp).w1, (h.1 p hp).bx.2.2⟩
  have := h.2
  exact b.le (by omega)
theorem Pq_bd {c : Int} {p : Pt} (hp : Good p) (hc : Bd 311 c) : ∀ x ∈ Pq c p, Bd 350 x := by
  obtain ⟨b1, b2, b3⟩ := hp.bx
  have w := hp.w1
  have hd : Bd 311 (c.fdiv p.w) := hc.fdiv (by omega)
  intro x hx
  unfold Pq at hx
  simp only [List.mem_cons, List.not_mem_nil, or_false] at hx
  rcases hx with rfl | rfl
  · exact (b1.mul hd).le (by decide)
  · exact (b2.mul hd).le (by decide)
theorem whl_bd {ps : List Pt} (h : GoodS ps) : ∀ q ∈ whl ps, ∀ x ∈ q, Bd 350 x := by
  intro q hq
  obtain ⟨p, hp, rfl⟩ := List.mem_map.mp hq
  exact Pq_bd (h.1 p hp) (comW_ok h).2.2
/-- a saying of stretched places -/
theorem soQ_whl {k : Nat} {m n : Int} {ps pts : List Pt} (h : GoodS ps) (hk : k < 13) (hl : pts.length = Kh372.pointsOf k) (hs : ∀ p ∈ pts, p ∈ ps) : soQ k (pts.map (Pq (comW ps))) m n = Kh372.so k pts m n := by
  obtain ⟨c1, c2, _⟩ := comW_ok h
  exact soQ_eq hk hl (fun p hp => ⟨(h.1 p (hs p hp)).w1, c2 p (hs p hp)⟩) (by omega)
/-! ### small defs -/
theorem pk_at {k : Nat} (h : k < 13) : ([.int 2, .int 3, .int 4, .int 4, .int 4, .int 4, .int 4, .int 6, .int 6, .int 6, .int 3, .int 4, .int 6] : List V)[k]? = some (.int ((Kh372.pointsOf k : Nat) : Int)) := by
  have hk : k = 0 ∨ k = 1 ∨ k = 2 ∨ k = 3 ∨ k = 4 ∨ k = 5 ∨ k = 6 ∨ k = 7 ∨ k = 8 ∨ k = 9 ∨ k = 10 ∨ k = 11 ∨ k = 12 := by omega
  rcases hk with rfl | rfl | rfl | rfl | rfl | rfl | rfl | rfl | rfl | rfl | rfl | rfl | rfl <;> rfl
theorem ev_pk {σ : L2.St} (T : Txt K mg A) {k : Nat} {tb : TE} (h : k < 13) (hb : Ev tb σ H (.int (k : Int))) : Ev (tOp (rIxT K) (tC (.ref A.a_POINTS_OF_KIND)) tb) σ H (.int ((Kh372.pointsOf k : Nat) : Int)) :=
  Evl.ev_op Evl.ev_c hb (Evl.rv_ixT (T.q_POINTS_OF_KIND H) (atI_nat (pk_at h)))
theorem dec_cast {i j : Nat} : decide ((i : Int) < (j : Int)) = decide (i < j) := by
  by_cases h : i < j
  · rw [decide_eq_true h, decide_eq_true (by omega)]
  · rw [decide_eq_false h, decide_eq_false (by omega)]
theorem dec_castE {i j : Nat} : decide ((i : Int) = (j : Int)) = decide (i = j) := by
  by_cases h : i = j
  · rw [decide_eq_true h, decide_eq_true (by omega)]
  · rw [decide_eq_false h, decide_eq_false (by omega)]
theorem len_is_kind (h : sp_is_kind K A vs H Q E) : vs.length = 1 := by
  obtain ⟨k, rfl, _⟩ := h
  rfl
theorem pure_is_kind (T : Txt K mg A) (h : sp_is_kind K A vs H Q E) : t_is_kind K A (De Q) (start ["kind"] vs) H := by
  obtain ⟨k, rfl, kk⟩ := h
  refine Evl.s_ret (ev_lt (Evl.ev_var rfl) (ev_lenS Evl.ev_c (.inr (T.q_POINTS_OF_KIND H)))) fun H1 e1 => ?_
  have k2 := kk H1 e1
  rw [← dec_cast] at k2
  exact k2
theorem spv_is_kind {k : Nat} : SpV (sp_is_kind K A) [.int (k : Int)] H (.bl (decide (k < 13))) := fun H1 e Q q _ => ⟨k, rfl, q⟩
theorem len_may_be_said (h : sp_may_be_said K A vs H Q E) : vs.length = 2 := by
  obtain ⟨k, p, row, rfl, _⟩ := h
  rfl
theorem nl_at {xs : List Nat} {i x : Nat} (h : xs[i]? = some x) : (nl xs)[i]? = some (.int (x : Int)) := by
  unfold nl
  rw [List.getElem?_map, h]
  rfl
theorem chain1000 (x : Nat) : (decide ((1 : Int) ≤ (x : Int)) && decide ((x : Int) ≤ 1000)) = (decide (1 ≤ x) && decide (x ≤ 1000)) := by
  congr 1
  · by_cases h : 1 ≤ x
    · rw [decide_eq_true h, decide_eq_true (by omega)]
    · rw [decide_eq_false h, decide_eq_false (by omega)]
  · by_cases h : x ≤ 1000
    · rw [decide_eq_true h, decide_eq_true (by omega)]
    · rw [decide_eq_false h, decide_eq_false (by omega)]
theorem sizes_pk {k : Nat} (h : k < 13) (h5 : k ≠ 5) : Kh372.sizes.getD k 0 = Kh372.pointsOf k := by
  unfold Kh372.pointsOf
  rw [if_neg h5]
theorem pure_may_be_said (T : Txt K mg A) (h : sp_may_be_said K A vs H Q E) : t_may_be_said K A (De Q) (start ["kind", "row"] vs) H := by
  obtain ⟨k, p, row, rfl, hp, kk⟩ := h
  have hlen : (nl row).length = row.length := nl_len row
  refine Evl.q_when (Evl.et_not (Evl.et_B (Evl.ev_call (Evl.ea_cons (Evl.ev_var rfl) Evl.ea_nil) spv_is_kind))) (fun hb H1 e1 => ?_) (fun hb H1 e1 => ?_)
  · have hk : ¬ k < 13 := of_decide_eq_false (nb_t hb)
    refine Evl.s_ret Evl.ev_c fun H2 e2 => ?_
    have k2 := kk H2 (e1.trans e2)
    have e0 : Kh372.okSaying k row = false := by
      unfold Kh372.okSaying
      rw [decide_eq_false (show ¬ k < Kh372.sizes.length from hk)]
      rfl
    rw [e0] at k2
    exact k2
  · have hk : k < 13 := of_decide_eq_true (nb_f hb)
    have hp1 := Evl.ex_l e1 hp
    refine Evl.q_when (Evl.et_test (ev_ne (Evl.ev_var rfl) Evl.ev_c)) (fun hb2 H2 e2 => ?_) (fun hb2 H2 e2 => ?_)
    · have h5 : k ≠ 5 := by
        have := of_decide_eq_false (nb_t hb2)
        omega
      refine Evl.s_ret (ev_eq (ev_lenS (Evl.ev_var rfl) (.inl (Evl.ex_l e2 hp1))) (ev_pk T hk (Evl.ev_var rfl))) fun H3 e3 => ?_
      have k2 := kk H3 ((e1.trans e2).trans e3)
      have e0 : Kh372.okSaying k row = decide (((nl row).length : Int) = ((Kh372.pointsOf k : Nat) : Int)) := by
        unfold Kh372.okSaying
        rw [decide_eq_true (show k < Kh372.sizes.length from hk), decide_eq_true h5, Bool.true_or, Bool.and_true, Bool.true_and, sizes_pk hk h5, dec_castE, hlen]
      rw [e0] at k2
      exact k2
    · have h5 : k = 5 := by
        have := of_decide_eq_true (nb_f hb2)
        omega
      subst h5
      have hp2 := Evl.ex_l e2 hp1
      refine Evl.q_when (Evl.et_test (ev_ne (ev_lenS (Evl.ev_var rfl) (.inl hp2)) (Evl.ev_op (ev_pk T hk (Evl.ev_var rfl)) Evl.ev_c Evl.rv_I0))) (fun hb3 H3 e3 => ?_) (fun hb3 H3 e3 => ?_)
      · have h6 : row.length ≠ 6 := by
          have := of_decide_eq_false (nb_t hb3)
          rw [hlen] at this
          intro z
          rw [z] at this
          exact this rfl
        refine Evl.s_ret Evl.ev_c fun H4 e4 => ?_
        have k2 := kk H4 (((e1.trans e2).trans e3).trans e4)
        have e0 : Kh372.okSaying 5 row = false := by
          unfold Kh372.okSaying
          rw [decide_eq_false (show ¬ row.length = Kh372.sizes.getD 5 0 from h6)]
          rfl
        rw [e0] at k2
        exact k2
      · have h6 : row.length = 6 := by
          have := of_decide_eq_true (nb_f hb3)
          rw [hlen] at this
          have e7 : ((Kh372.pointsOf 5 : Nat) : Int) + 2 = 6 := rfl
          rw [e7] at this
          omega
        match row, h6, hp2, kk with
        | [r0, r1, r2, r3, r4, r5], _, hp2, kk =>
          have hp3 := Evl.ex_l e3 hp2
          refine Evl.s_ret (Evl.ev_andV (ev_chain Evl.ev_c (ev_ixL (n := 4) (Evl.ev_var rfl) hp3 rfl) Evl.ev_c Evl.rv_I0 Evl.rv_I0) fun _ => ev_chain Evl.ev_c (ev_ixL (n := 5) (Evl.ev_var rfl) hp3 rfl) Evl.ev_c Evl.rv_I0 Evl.rv_I0) fun H4 e4 => ?_
          have k2 := kk H4 (((e1.trans e2).trans e3).trans e4)
          have e0 : Kh372.okSaying 5 [r0, r1, r2, r3, r4, r5] = ((decide ((1 : Int) ≤ (r4 : Int)) && decide ((r4 : Int) ≤ 1000)) && (decide ((1 : Int) ≤ (r5 : Int)) && decide ((r5 : Int) ≤ 1000))) := by
            rw [chain1000, chain1000]
            show (true && (true && (false || ((decide (1 ≤ r4) && decide (r4 ≤ 1000)) && ((decide (1 ≤ r5) && decide (r5 ≤ 1000)) && true))))) = _
            simp only [Bool.true_and, Bool.false_or, Bool.and_true]
          rw [e0] at k2
          exact k2
theorem spv_may_be_said {p : Addr} {k : Nat} {row : List Nat} (hp : SqL K H p (nl row)) : SpV (sp_may_be_said K A) [.int (k : Int), .ref p] H (.bl (Kh372.okSaying k row)) := fun H1 e Q q _ => ⟨k, p, row, rfl, Evl.ex_l e hp, q⟩
/-- fraction -/
theorem len_fraction (h : sp_fraction K A vs H Q E) : vs.length = 2 := by
  obtain ⟨n, d, rfl, _⟩ := h
  rfl
theorem pure_fraction (T : Txt K mg A) (h : sp_fraction K A vs H Q E) : t_fraction K A (De Q) (start ["above", "below", "common"] vs) H := by
  obtain ⟨n, d, rfl, hd, bd, k⟩ := h
  have d1 := Int.gcd_dvd_left n d
  have d2 := Int.gcd_dvd_right n d
  refine Evl.q_asg (Evl.ev_call (Evl.ea_cons (Evl.ev_var rfl) (Evl.ea_cons (Evl.ev_var rfl) Evl.ea_nil)) spv_greatest_common) fun H1 e1 => ?_
  have g0 := frac_gcd_pos (n := n) hd
  unfold Kh371.frac at k
  dsimp only at k
  generalize hg : ((Int.gcd n d : Nat) : Int) = g at *
  have hg0 : g ≠ 0 := by omega
  rw [if_neg hg0] at k
  have bg : Bd 3000 g := bd_gcd hd bd d2
  refine Evl.q_when (Evl.et_test (ev_lt (Evl.ev_var rfl) Evl.ev_c)) (fun hb H2 e2 => ?_) (fun hb H2 e2 => ?_)
  · have hn : d < 0 := of_decide_eq_true hb
    rw [if_pos hn] at k
    refine Evl.s_asg (Evl.ev_un (Evl.ev_var rfl) Evl.ru_neg) fun H3 e3 => ?_
    have ee := (e1.trans e2).trans e3
    have c0 : -g ≠ 0 := by omega
    refine Evl.s_retL (Evl.el_lst (Evl.ea_cons (Evl.ev_op (Evl.ev_var rfl) (Evl.ev_var rfl) (Evl.rv_I (bg.neg.cdiv c0 (by decide)))) (Evl.ea_cons (Evl.ev_op (Evl.ev_var rfl) (Evl.ev_var rfl) (Evl.rv_I (bg.neg.cdiv c0 (by decide)))) Evl.ea_nil)) (by simp)) fun p H4 hp e4 h4 => ?_
    refine k p H4 (Evl.fresh_back ee hp) (ee.trans e4) ?_
    rw [h4, Int.fdiv_eq_ediv_of_dvd (Int.neg_dvd.mpr d1), Int.fdiv_eq_ediv_of_dvd (Int.neg_dvd.mpr d2), Int.ediv_neg, Int.ediv_neg]
    rfl
  · have hn : ¬ d < 0 := of_decide_eq_false hb
    rw [if_neg hn] at k
    have ee := e1.trans e2
    refine Evl.s_retL (Evl.el_lst (Evl.ea_cons (Evl.ev_op (Evl.ev_var rfl) (Evl.ev_var rfl) (Evl.rv_I (bg.cdiv hg0 (by decide)))) (Evl.ea_cons (Evl.ev_op (Evl.ev_var rfl) (Evl.ev_var rfl) (Evl.rv_I (bg.cdiv hg0 (by decide)))) Evl.ea_nil)) (by simp)) fun p H4 hp e4 h4 => ?_
    refine k p H4 (Evl.fresh_back ee hp) (ee.trans e4) ?_
    rw [h4, Int.fdiv_eq_ediv_of_dvd d1, Int.fdiv_eq_ediv_of_dvd d2]
    rfl
theorem spl_fraction {n d : Int} (hd : d ≠ 0) (hb : Bd 3000 d) : SpL (sp_fraction K A) [.int n, .int d] H (intL (fr2 n d)) := fun H1 e Q q _ => ⟨n, d, rfl, hd, hb, q⟩
end
end My

set_option Elab.async false
set_option linter.all false
set_option maxRecDepth 100000
set_option maxHeartbeats 4000000
namespace My
open PySem PySem.Spec PyProof.Rows L2
open Evl (Ev EvL EvU EvT EvA EvO Ex RV RU RC RCL SpV SpL)
section
variable {K : PySem.W.Frag} {mg : Str → Option Value} {A : Ad} {vs : List V} {H : Hp} {Q : VK} {E : XK}
/-- common_below -/
theorem len_common_below (h : sp_common_below K A vs H Q E) : vs.length = 1 := by
  obtain ⟨p, ws, ps, rfl, _⟩ := h
  rfl
theorem take_snoc {α : Type} {l : List α} {i : Nat} {x : α} (h : l[i]? = some x) : l.take (i + 1) = l.take i ++ [x] := by
  rw [List.take_succ, h]
  rfl
theorem GoodS.take {ps : List Pt} (h : GoodS ps) (i : Nat) : GoodS (ps.take i) := ⟨fun p hp => h.1 p (List.mem_of_mem_take hp), by
  rw [List.length_take]
  have := h.2
  omega⟩
theorem comW_snoc (ps : List Pt) (u : Pt) : comW (ps ++ [u]) = (comW ps).fdiv (Int.gcd (comW ps) u.w) * u.w := by
  unfold comW
  rw [List.foldl_append]
  rfl
theorem pure_common_below (T : Txt K mg A) (h : sp_common_below K A vs H Q E) : t_common_below K A (De Q) (start ["places", "common", "place", "w"] vs) H := by
  obtain ⟨p, ws, ps, rfl, hp, hpt, hg, k⟩ := h
  have hlen := hpt.1
  refine Evl.q_asg Evl.ev_c fun H1 e1 => ?_
  refine Evl.q_forLn (Evl.ev_var rfl) (Evl.ex_l e1 hp) (fun i σ' H' => ∃ v2 v3 : Option V, σ' = [some (.ref p), some (.int (comW (ps.take i))), v2, v3] ∧ Ex H H') (fun H2 e2 => ⟨none, none, rfl, e1.trans e2⟩) ?_ ?_ ?_
  · rintro i σ' H' _ ⟨v2, v3, rfl, e2⟩
    exact Evl.ex_l e2 hp
  · rintro i x σ' H' hx ⟨v2, v3, rfl, e2⟩
    obtain ⟨u, hu, hmem⟩ := get_some hlen hx
    obtain ⟨t, rfl, ht⟩ := hpt.2 i x u hx hu
    have ht2 := Evl.ex_t e2 ht
    obtain ⟨c1, c2, c3⟩ := comW_ok (hg.take i)
    obtain ⟨s1, s2, s3, s4⟩ := com_step c1 (hg.1 u hmem).w1
    have bw := (hg.1 u hmem).bx.2.2
    have bg : Bd 31 ((Int.gcd (comW (ps.take i)) u.w : Nat) : Int) := bd_gcd (by have := (hg.1 u hmem).w1; omega) bw (Int.gcd_dvd_right _ _)
    refine Evl.q_asg (ev_ixT (n := 2) (Evl.ev_var rfl) ht2 rfl) fun H3 e3 => ?_
    refine Evl.s_asg (Evl.ev_op (Evl.ev_op (Evl.ev_var rfl) (Evl.ev_call (Evl.ea_cons (Evl.ev_var rfl) (Evl.ea_cons (Evl.ev_var rfl) Evl.ea_nil)) spv_greatest_common) (Evl.rv_I (bg.cdiv s4 (by decide)))) (Evl.ev_var rfl) (Evl.rv_I ((c3.fdiv s4).cmul bw (by decide)))) fun H4 e4 => ?_
    refine ⟨some (.ref t), some (.int u.w), ?_, (e2.trans e3).trans e4⟩
    rw [take_snoc hu, comW_snoc]
    rfl
  · rintro σ' H' ⟨v2, v3, rfl, e2⟩
    rw [hlen, List.take_length]
    exact Evl.s_ret (Evl.ev_var rfl) fun H3 e3 => k H3 (e2.trans e3)
theorem spv_common_below {p : Addr} {ws : List V} {ps : List Pt} (hp : SqL K H p ws) (hpt : PtsAt K H ws ps) (hg : GoodS ps) : SpV (sp_common_below K A) [.ref p] H (.int (comW ps)) := fun H1 e Q q _ => ⟨p, ws, ps, rfl, Evl.ex_l e hp, hpt.ex e, hg, q⟩
/-- whole_places -/
theorem len_whole_places (h : sp_whole_places K A vs H Q E) : vs.length = 1 := by
  obtain ⟨p, ws, ps, rfl, _⟩ := h
  rfl
theorem TupsAt.rows {H' : Hp} {ws : List V} {n : Nat} {g : Nat → List Int} {qs : List (List Int)} (h : TupsAt H' ws n fun i => (g i).map V.int) (hn : qs.length = n) (hq : ∀ i q, qs[i]? = some q → g i = q) : RowsT K H' ws qs := ⟨h.1.trans hn.symm, fun i w q hw hq' => by
  obtain ⟨a, e1, e2⟩ := h.2 i w hw
  dsimp only at e2
  rw [hq i q hq'] at e2
  exact ⟨a, e1, Evl.st_of e2⟩⟩
theorem pure_whole_places (T : Txt K mg A) (h : sp_whole_places K A vs H Q E) : t_whole_places K A (De Q) (start ["places", "common", "place"] vs) H := by
  obtain ⟨p, ws, ps, rfl, hp, hpt, hg, k⟩ := h
  have hlen := hpt.1
  obtain ⟨c1, c2, c3⟩ := comW_ok hg
  refine Evl.q_asg (Evl.ev_call (Evl.ea_cons (Evl.ev_var rfl) Evl.ea_nil) (spv_common_below hp hpt hg)) fun H1 e1 => ?_
  have hl10 := hg.2
  refine elu_map (fun i => (Pq (comW ps) (ps.getD i ⟨0, 0, 0⟩)).map V.int) (Evl.ev_var rfl) (Evl.ex_l e1 hp) (by omega) (fun i x hx H2 e2 => ?_) H1 (Ex.refl H1) _ fun q H2 wq hq e2 h2 hwq => ?_
  · obtain ⟨u, hu, hmem⟩ := get_some hlen hx
    obtain ⟨t, rfl, ht⟩ := hpt.2 i x u hx hu
    have ht2 := Evl.ex_t (e1.trans e2) ht
    rw [getD_of hu]
    obtain ⟨b1, b2, b3⟩ := (hg.1 u hmem).bx
    have w1 := (hg.1 u hmem).w1
    have w0 : u.w ≠ 0 := by omega
    have hd : Bd 311 ((comW ps).fdiv u.w) := c3.fdiv w0
    have dv : Ev (tOp oDiv (tVar 1) (tOp (rIxT K) (tVar 2) (tC (.int 2)))) ((wipe ((start ["places", "common", "place"] [V.ref p]).set 1 (some (V.int (comW ps)))) [2]).set 2 (some (V.ref t))) H2 (.int ((comW ps).fdiv u.w)) := Evl.ev_op (Evl.ev_var rfl) (ev_ixT (n := 2) (Evl.ev_var rfl) ht2 rfl) (Evl.rv_I (b3.cdiv w0 (by decide)))
    exact Evl.eu_tup (Evl.ea_cons (Evl.ev_op (ev_ixT (n := 0) (Evl.ev_var rfl) ht2 rfl) dv (Evl.rv_I (b1.cmul hd (by decide)))) (Evl.ea_cons (Evl.ev_op (ev_ixT (n := 1) (Evl.ev_var rfl) ht2 rfl) dv (Evl.rv_I (b2.cmul hd (by decide)))) Evl.ea_nil)) (by show 2 ≤ 100000; decide)
  · refine k q H2 wq (Evl.fresh_back e1 hq) (e1.trans e2) h2 ?_
    refine TupsAt.rows (g := fun i => Pq (comW ps) (ps.getD i ⟨0, 0, 0⟩)) hwq ?_ fun i q hq => ?_
    · unfold whl
      rw [List.length_map, hlen]
    · unfold whl at hq
      rw [List.getElem?_map] at hq
      cases hu : ps[i]? with
      | none =>
        rw [hu] at hq
        cases hq
      | some u =>
        rw [hu] at hq
        rw [getD_of hu]
        exact Option.some.inj hq
/-- a call that gives a new list of tuples -/
def SpQ (K : PySem.W.Frag) (sp : Sp) (vs : List V) (H : Hp) (qs : List (List Int)) : Prop := ∀ H1, Ex H H1 → ∀ Q : VK, RetQ K qs H1 Q → ∀ E : XK, sp vs H1 Q E
theorem spq_whole_places {p : Addr} {ws : List V} {ps : List Pt} (hp : SqL K H p ws) (hpt : PtsAt K H ws ps) (hg : GoodS ps) : SpQ K (sp_whole_places K A) [.ref p] H (whl ps) := fun H1 e Q q _ => ⟨p, ws, ps, rfl, Evl.ex_l e hp, hpt.ex e, hg, q⟩
/-- over a tuple -/
theorem el_mapT {σ : L2.St} {te tl : TE} {xs : List V} {j : Nat} (f : V → V) (h : EvU tl σ H xs) (hz : xs.length ≤ 40000)
    (he : ∀ x ∈ xs, ∀ H1, Ex H H1 → Ev te ((wipe σ [j]).set j (some x)) H1 (f x)) : EvL (tLc (iTup K tl) (gName j) tYes te [j]) σ H (xs.map f) := fun H0 e Q q => h H0 e _ fun a H1 ha e1 h1 => ⟨a, rfl, ⟨xs, Evl.st_of h1⟩, fun Dl hD => by
  have hg : ∀ i, Evl.given i (fun _ => true) (fun i => f (xs.getD i .non)) = (List.range i).map fun i => f (xs.getD i .non) := fun i => by
    unfold Evl.given
    rw [List.filter_eq_self.mpr (fun _ _ => rfl)]
  refine lc_tup (xs := xs) (fun i H' => Evl.Cw H1 (fun _ => true) (fun i => f (xs.getD i .non)) Dl i H') ⟨hD, Ex.new hD, upd_same⟩ (fun i H' _ p => Evl.st_of (p.2.1 _ _ h1)) (fun i x H' hi p => ?_) (fun H' p => ?_)
  · refine ⟨wipe1 j x, ?_⟩
    have hil : i < xs.length := (List.getElem?_eq_some_iff.mp hi).1
    refine Evl.cw_turn p (by omega) et_yes fun _ => ?_
    have hd : xs.getD i .non = x := by simp [List.getD, hi]
    rw [hd]
    exact he x (List.mem_of_getElem? hi) H1 (e.trans e1)
  · obtain ⟨p1, p2, p3⟩ := p
    refine q Dl H' (Evl.fresh_back e1 hD) (e1.trans p2) ?_
    rw [p3, hg]
    congr 2
    apply List.ext_getElem
    · simp
    · intro i h1 h2
      simp at h1 h2
      simp [h1]⟩
theorem ev_anyMapT {σ : L2.St} {te tl : TE} {xs : List V} {j : Nat} (f : V → Bool) (h : EvU tl σ H xs) (hz : xs.length ≤ 40000)
    (he : ∀ x ∈ xs, ∀ H1, Ex H H1 → Ev te ((wipe σ [j]).set j (some x)) H1 (.bl (f x))) : Ev (tCB (rAny K) (tCons (tLc (iTup K tl) (gName j) tYes te [j]) tNil)) σ H (.bl (xs.any f)) := by
  have g := el_mapT (K := K) (fun x => V.bl (f x)) h hz he
  have e : xs.map (fun x => V.bl (f x)) = (xs.map f).map V.bl := by rw [List.map_map]; rfl
  rw [e] at g
  have r := ev_any (K := K) g
  rw [List.any_map] at r
  exact r
def bigN (n : Nat) : V → Bool
  | .int i => decide (n < i.natAbs)
  | _ => false
theorem any_bigN (n : Nat) (m : List Int) : (intL m).any (bigN n) = !Kh372.within n m := by
  unfold intL Kh372.within
  induction m with
  | nil => rfl
  | cons x r ih =>
    rw [List.map_cons, List.any_cons, List.all_cons, ih, Bool.not_and]
    congr 1
    show decide (n < x.natAbs) = !(decide (-(n : Int) ≤ x) && decide (x ≤ (n : Int)))
    by_cases h : n < x.natAbs
    · rw [decide_eq_true h]
      by_cases h1 : -(n : Int) ≤ x
      · rw [decide_eq_false (p := x ≤ (n : Int)) (by omega), Bool.and_false] <;> rfl
      · rw [decide_eq_false h1] <;> rfl
    · rw [decide_eq_false h, decide_eq_true (p := -(n : Int) ≤ x) (by omega), decide_eq_true (p := x ≤ (n : Int)) (by omega)] <;> rfl
theorem ev_big {σ : L2.St} {z : Int} {n : Nat} {ta : TE} (h : Ev ta σ H (.int z)) : Ev (tOp oGt (tCB rAbs (tCons ta tNil)) (tC (.int (n : Int)))) σ H (.bl (bigN n (.int z))) := by
  refine Evl.ev_is (ev_gt (ev_abs h) Evl.ev_c) ?_
  show V.bl (decide ((n : Int) < (z.natAbs : Int))) = V.bl (decide (n < z.natAbs))
  rw [dec_cast]
/-- may_be_asked -/
theorem within_bd10 {m : List Int} (h : Kh372.within 1000 m = true) : ∀ x ∈ m, Bd 10 x := by
  intro x hx
  have q := List.all_eq_true.mp h x hx
  simp only [Bool.and_eq_true, decide_eq_true_eq] at q
  exact Bd.of 1000 ⟨by omega, by omega⟩ (by decide)
theorem len_may_be_asked (h : sp_may_be_asked K A vs H Q E) : vs.length = 5 := by
  obtain ⟨k, a, b, c, d, rfl, _⟩ := h
  rfl
theorem pure_may_be_asked (T : Txt K mg A) (h : sp_may_be_asked K A vs H Q E) : t_may_be_asked K A (De Q) (start ["kind", "a", "b", "c", "d", "number"] vs) H := by
  obtain ⟨k, a, b, c, d, rfl, kk⟩ := h
  refine Evl.q_when (Evl.et_not (Evl.et_B (Evl.ev_call (Evl.ea_cons (Evl.ev_var rfl) Evl.ea_nil) spv_is_kind))) (fun hb H1 e1 => ?_) (fun hb H1 e1 => ?_)
  · refine Evl.s_ret Evl.ev_c fun H2 e2 => ?_
    have k2 := kk H2 (e1.trans e2)
    rw [nb_t hb, Bool.false_and] at k2
    exact k2
  · rw [nb_f hb, Bool.true_and] at kk
    have ha := ev_anyMapT (K := K) (H := H1) (σ := start ["kind", "a", "b", "c", "d", "number"] [.int (k : Int), .int a, .int b, .int c, .int d]) (j := 5) (te := (tOp oGt (tCB rAbs (tCons (tVar 5) tNil)) (tC (.int 1000)))) (xs := intL [a, b, c, d]) (bigN 1000) (Evl.eu_tup (Evl.ea_cons (Evl.ev_var (i := 1) rfl) (Evl.ea_cons (Evl.ev_var (i := 2) rfl) (Evl.ea_cons (Evl.ev_var (i := 3) rfl) (Evl.ea_cons (Evl.ev_var (i := 4) rfl) Evl.ea_nil)))) (by show 4 ≤ 100000; decide)) (by show 4 ≤ 40000; decide) fun x hx H2 e2 => by
      obtain ⟨z, _, rfl⟩ := List.mem_map.mp hx
      exact ev_big (n := 1000) (Evl.ev_var rfl)
    rw [any_bigN] at ha
    refine Evl.q_when (Evl.et_B ha) (fun hb2 H2 e2 => ?_) (fun hb2 H2 e2 => ?_)
    · refine Evl.s_ret Evl.ev_c fun H3 e3 => ?_
      have k2 := kk H3 ((e1.trans e2).trans e3)
      rw [nb_t hb2, Bool.false_and] at k2
      exact k2
    · have hw := nb_f hb2
      have wb := within_bd10 hw
      rw [hw, Bool.true_and] at kk
      refine Evl.s_ret (ev_ne (Evl.ev_op (Evl.ev_op (Evl.ev_var rfl) (Evl.ev_var rfl) (Evl.rv_I ((wb a (by simp)).cmul (wb d (by simp)) (by decide)))) (Evl.ev_op (Evl.ev_var rfl) (Evl.ev_var rfl) (Evl.rv_I ((wb b (by simp)).cmul (wb c (by simp)) (by decide)))) Evl.rv_I0) Evl.ev_c) fun H3 e3 => ?_
      have k2 := kk H3 ((e1.trans e2).trans e3)
      have ed : (!decide (a * d - b * c = 0)) = decide (a * d - b * c ≠ 0) := by
        by_cases z : a * d - b * c = 0
        · rw [decide_eq_true z, decide_eq_false (fun q => q z)] <;> rfl
        · rw [decide_eq_false z, decide_eq_true z] <;> rfl
      rw [ed]
      exact k2
theorem spv_may_be_asked {k : Nat} {a b c d : Int} : SpV (sp_may_be_asked K A) [.int (k : Int), .int a, .int b, .int c, .int d] H (.bl (decide (k < 13) && (Kh372.within 1000 [a, b, c, d] && decide (a * d - b * c ≠ 0)))) := fun H1 e Q q _ => ⟨k, a, b, c, d, rfl, q⟩
/-- is_kept -/
theorem sq_nn (x : Int) : 0 ≤ x * x := by
  rcases Int.lt_or_le x 0 with h | h
  · exact Int.le_of_lt (Int.mul_pos_of_neg_of_neg h h)
  · exact Int.mul_nonneg h h
theorem sq_zero {x y : Int} (h : x * x + y * y = 0) : x = 0 ∧ y = 0 := by
  have h1 : 0 ≤ x * x := sq_nn x
  have h2 : 0 ≤ y * y := sq_nn y
  have e1 : x * x = 0 := by omega
  have e2 : y * y = 0 := by omega
  exact ⟨by rcases Int.mul_eq_zero.mp e1 with z | z <;> exact z, by rcases Int.mul_eq_zero.mp e2 with z | z <;> exact z⟩
theorem shapes_turns (a b c d : Int) : m_keeps_shapes a b c d = Kh372.turns a b c d := by
  have key : (a * a + c * c = b * b + d * d ∧ a * b + c * d = 0) ↔ ((a = d ∧ b = -c) ∨ (a = -d ∧ b = c)) := by
    constructor
    · rintro ⟨h1, h2⟩
      have h3 : (a * d - b * c - (a * a + c * c)) * (a * d - b * c + (a * a + c * c)) = 0 := by grind
      rcases Int.mul_eq_zero.mp h3 with z | z
      · left
        have h4 : (a - d) * (a - d) + (b + c) * (b + c) = 0 := by grind
        have := sq_zero h4
        omega
      · right
        have h4 : (a + d) * (a + d) + (b - c) * (b - c) = 0 := by grind
        have := sq_zero h4
        omega
    · rintro (⟨rfl, rfl⟩ | ⟨rfl, rfl⟩)
      · exact ⟨by grind, by grind⟩
      · exact ⟨by grind, by grind⟩
  unfold m_keeps_shapes Kh372.turns m_square m_lean
  rw [← Bool.decide_and, ← Bool.decide_or]
  exact decide_eq_decide.mpr key
theorem len_is_kept (h : sp_is_kept K A vs H Q E) : vs.length = 5 := by
  obtain ⟨k, a, b, c, d, rfl, _⟩ := h
  rfl
theorem inV_int (k : Nat) : ∀ is : List Nat, inV (.int (k : Int)) (nl is) = is.contains k
  | [] => rfl
  | x :: r => by
    unfold nl inV
    rw [List.map_cons, List.any_cons, List.contains_cons]
    have ih := inV_int k r
    unfold nl inV at ih
    rw [ih]
    congr 1
    show decide ((x : Int) = (k : Int)) = (k == x)
    rw [dec_castE]
    by_cases h : x = k
    · rw [h]
      simp
    · rw [decide_eq_false h]
      simp
      omega
theorem flat_nl (is : List Nat) : (nl is).all flatV = true := by
  unfold nl
  rw [List.all_map]
  exact List.all_eq_true.mpr fun x _ => rfl
theorem ev_inT {σ : L2.St} {k : Nat} {p : Addr} {is : List Nat} {ta : TE} (h : Ev ta σ H (.int (k : Int))) (hq : SqT K H p (nl is)) : Ev (tOp (rIn K false) ta (tC (.ref p))) σ H (.bl (is.contains k)) := by
  have r := Evl.ev_op h (Evl.ev_c (v := .ref p)) (Evl.rv_isT (K := K) (x := .int (k : Int)) hq rfl (flat_nl is))
  rw [inV_int] at r
  exact r
theorem ev_ninT {σ : L2.St} {k : Nat} {p : Addr} {is : List Nat} {ta : TE} (h : Ev ta σ H (.int (k : Int))) (hq : SqT K H p (nl is)) : Ev (tOp (rIn K true) ta (tC (.ref p))) σ H (.bl (!is.contains k)) := by
  have r := Evl.ev_op h (Evl.ev_c (v := .ref p)) (Evl.rv_niT (K := K) (x := .int (k : Int)) hq rfl (flat_nl is))
  rw [inV_int] at r
  exact r
theorem pure_is_kept (T : Txt K mg A) (h : sp_is_kept K A vs H Q E) : t_is_kept K A (De Q) (start ["kind", "a", "b", "c", "d"] vs) H := by
  obtain ⟨k, a, b, c, d, rfl, ba, bb, bc, bd, kk⟩ := h
  refine Evl.s_ret (Evl.ev_orV (ev_inT (is := [0, 1, 2, 8, 9, 10]) (Evl.ev_var rfl) (T.q_KINDS_KEPT_BY_ANY H)) fun _ => p_evB (p_call (pa_consP (p_iv rfl ba) mono_I (pa_consP (p_iv rfl bb) mono_I (pa_consP (p_iv rfl bc) mono_I (pa_consP (p_iv rfl bd) mono_I pa_nilP)))) spa_keeps_shapes)) fun H1 e1 => ?_
  have k2 := kk H1 e1
  unfold Kh372.keeps at k2
  rw [← shapes_turns] at k2
  exact k2
theorem spv_is_kept {k : Nat} {a b c d : Int} (ba : Bd 10 a) (bb : Bd 10 b) (bc : Bd 10 c) (bd : Bd 10 d) : SpV (sp_is_kept K A) [.int (k : Int), .int a, .int b, .int c, .int d] H (.bl (Kh372.keeps k a b c d)) := fun H1 e Q q _ => ⟨k, a, b, c, d, rfl, ba, bb, bc, bd, q⟩
/-- is_too_large_to_tell, answer_with -/
theorem len_is_too_large_to_tell (h : sp_is_too_large_to_tell K A vs H Q E) : vs.length = 1 := by
  obtain ⟨p, xs, rfl, _⟩ := h
  rfl
theorem any_bigT (xs : List Int) : (intL xs).any (bigN 1000000000000000) = xs.any bigT := by
  unfold intL
  rw [List.any_map]
  rfl
theorem pure_is_too_large_to_tell (T : Txt K mg A) (h : sp_is_too_large_to_tell K A vs H Q E) : t_is_too_large_to_tell K A (De Q) (start ["numbers", "number"] vs) H := by
  obtain ⟨p, xs, rfl, hp, hl, k⟩ := h
  refine Evl.s_ret (ev_anyMap (bigN 1000000000000000) (Evl.ev_var rfl) hp (by unfold intL; rw [List.length_map]; omega) fun x hx H2 e2 => ?_) fun H1 e1 => ?_
  · obtain ⟨z, _, rfl⟩ := List.mem_map.mp hx
    exact ev_big (n := 1000000000000000) (Evl.ev_var rfl)
  · rw [any_bigT]
    exact k H1 e1
theorem spv_is_too_large_to_tell {p : Addr} {xs : List Int} (hp : SqL K H p (intL xs)) (hl : xs.length ≤ 100) : SpV (sp_is_too_large_to_tell K A) [.ref p] H (.bl (xs.any bigT)) := fun H1 e Q q _ => ⟨p, xs, rfl, Evl.ex_l e hp, hl, q⟩
theorem len_answer_with (h : sp_answer_with K A vs H Q E) : vs.length = 1 := by
  obtain ⟨p, xs, rfl, _⟩ := h
  rfl
/-- [..] + xs, xs another list -/
theorem el_cat {σ : L2.St} {ta tb : TE} {xs ys : List V} {b : Addr} (ha : EvL ta σ H xs) (hb : Ev tb σ H (.ref b)) (hy : H b = some (.lst ys)) (hz : xs.length + ys.length ≤ 100000) : EvL (tOp rCat ta tb) σ H (xs ++ ys) := fun H1 e Q q => ha H1 e _ fun p H2 hp e2 h2 => hb H2 (e.trans e2) _ fun H3 e3 => ⟨p, b, xs, ys, rfl, rfl, e3 _ _ h2, e3 _ _ (e2 _ _ (e _ _ hy)), Evl.sz_of hz, fun r hr => q r _ (Evl.fresh_back (e2.trans e3) hr) ((e2.trans e3).trans (Ex.new hr)) upd_same⟩
theorem el_catN {σ : L2.St} {ta tb : TE} {xs ys : List V} (ha : EvL ta σ H xs) (hb : EvL tb σ H ys) (hz : xs.length + ys.length ≤ 100000) : EvL (tOp rCat ta tb) σ H (xs ++ ys) := fun H1 e Q q => ha H1 e _ fun p H2 hp e2 h2 => hb H2 (e.trans e2) _ fun b H3 hb e3 h3 => ⟨p, b, xs, ys, rfl, rfl, e3 _ _ h2, h3, Evl.sz_of hz, fun r hr => q r _ (Evl.fresh_back (e2.trans e3) hr) ((e2.trans e3).trans (Ex.new hr)) upd_same⟩
theorem pure_answer_with (T : Txt K mg A) (h : sp_answer_with K A vs H Q E) : t_answer_with K A (De Q) (start ["numbers"] vs) H := by
  obtain ⟨p, xs, rfl, hp, hl, k⟩ := h
  refine Evl.q_when (Evl.et_B (Evl.ev_call (Evl.ea_cons (Evl.ev_var rfl) Evl.ea_nil) (spv_is_too_large_to_tell (Evl.sq_of hp) hl))) (fun hb H1 e1 => ?_) (fun hb H1 e1 => ?_)
  · rw [if_pos hb] at k
    exact Evl.s_retL (Evl.el_lst (Evl.ea_cons Evl.ev_c Evl.ea_nil) (by simp)) fun q H2 hq e2 h2 => k q H2 (Evl.fresh_back e1 hq) (e1.trans e2) h2
  · rw [if_neg (by rw [hb]; exact Bool.false_ne_true)] at k
    exact Evl.s_retL (el_cat (Evl.el_lst (Evl.ea_cons Evl.ev_c Evl.ea_nil) (by simp)) (Evl.ev_var rfl) (e1 _ _ hp) (by unfold intL; simp; omega)) fun q H2 hq e2 h2 => k q H2 (Evl.fresh_back e1 hq) (e1.trans e2) h2
end
end My

set_option Elab.async false
set_option linter.all false
set_option maxRecDepth 100000
set_option maxHeartbeats 4000000
namespace My
open PySem PySem.Spec PyProof.Rows L2
open Evl (Ev EvL EvU EvT EvA EvO Ex RV RU RC RCL SpV SpL)
section
variable {K : PySem.W.Frag} {mg : Str → Option Value} {A : Ad} {vs : List V} {H : Hp} {Q : VK} {E : XK}

/-- xs.extend(a new list of ints) -/
theorem s_extE {σ : L2.St} {D : Ends} {l : Addr} {xs : List V} {ys : List Int} {n : Nat} {ta te : TE} (hl : H l = some (.lst xs)) (ha : Ev ta σ H (.ref l)) (h : EvP te σ H (isE n ys)) (hz : xs.length + ys.length ≤ 100000) (k : ∀ H1, Ex H H1 → D.nx σ (upd H1 l (.lst (xs ++ intL ys)))) :
    tDrop (tBM K "list" rExtend ta (tCons te tNil)) D σ H := ha H (Ex.refl H) _ fun H1 e1 =>
  ⟨Or.inl ⟨rfl, xs, Evl.sq_of (e1 l _ hl)⟩, h H1 e1 _ fun v H2 e2 ⟨b, hb, h2, _⟩ => ⟨l, b, xs, intL ys, rfl, by rw [hb], e2 l _ (e1 l _ hl), h2, Evl.sz_of (by unfold intL; rw [List.length_map]; exact hz), k H2 (e1.trans e2)⟩⟩
theorem two {q : List Int} (h : q.length = 2) : ∃ x y, q = [x, y] := by
  match q, h with
  | [x, y], _ => exact ⟨x, y, rfl⟩
theorem len_is_circle (h : sp_is_circle K A vs H Q E) : vs.length = 1 := by
  obtain ⟨_, _, _, _, _, _, _, _, ⟨v, vs, rfl, _, hA⟩, _⟩ := h
  obtain rfl : vs = [] := hA
  rfl
theorem spa_is_circle {p_0x p_0y p_1x p_1y p_2x p_2y p_3x p_3y : Int} : SpA (sp_is_circle K A) [isQ K 350 [[p_0x, p_0y], [p_1x, p_1y], [p_2x, p_2y], [p_3x, p_3y]]] (isB (m_is_circle p_0x p_0y p_1x p_1y p_2x p_2y p_3x p_3y)) := fun vs H h Q q _ => ⟨p_0x, p_0y, p_1x, p_1y, p_2x, p_2y, p_3x, p_3y, h, q⟩
def trip (x0 y0 x y : Int) : List Int := [m_square (x - x0) (y - y0), x - x0, y - y0]
theorem pure_is_circle (T : Txt K mg A) (h : sp_is_circle K A vs H Q E) : t_is_circle K A (De Q) (start ["p", "nine", "other", "seen"] vs) H := by
  obtain ⟨x0, y0, x1, y1, x2, y2, x3, y3, ⟨v, vs, rfl, ⟨p, ws, rfl, hp, hr, hb⟩, hA⟩, k⟩ := h
  obtain rfl : vs = [] := hA
  match ws, hr.1, hp, hr with
  | [w0, w1, w2, w3], _, hp, hr =>
    obtain ⟨t1, rfl, g1⟩ := hr.2 1 _ _ rfl rfl
    obtain ⟨t2, rfl, g2⟩ := hr.2 2 _ _ rfl rfl
    obtain ⟨t3, rfl, g3⟩ := hr.2 3 _ _ rfl rfl
    refine Evl.q_asgL (Evl.el_lst Evl.ea_nil (by simp)) fun n H1 hn e1 h1 => ?_
    have step : ∀ (s t : Addr) (x y : Int) (lst : List Int) (v3 : Option V) (H' : Hp) (D : Ends), SqT K H t ([x, y].map V.int) → Bd 350 x → Bd 350 y → Ex H H' → H' n = some (.lst (intL lst)) → lst.length ≤ 100 → s ≠ n → H' s = some (.lst [.ref t1, .ref t2, .ref t3]) →
        (∀ v3' H2, Ex H H2 → H2 n = some (.lst (intL (lst ++ trip x0 y0 x y))) → H2 s = some (.lst [.ref t1, .ref t2, .ref t3]) → D.nx [some (.ref p), some (.ref n), some (.ref t), v3'] H2) →
        (tSeq (tAsg (tCall (sp_way K A) [] E0 (tCons (tOp (rIxL K) (tVar 0) (tC (.int 0))) (tCons (tVar 2) tNil))) (gName 3))
    (tDrop (tBM K "list" rExtend (tVar 1) (tCons (tLst (tCons (tCall (sp_square K A) [] E0 (tCons (tVar 3) tNil)) (tCons (tOp (rIxT K) (tVar 3) (tC (.int 0))) (tCons (tOp (rIxT K) (tVar 3) (tC (.int 1))) tNil)))) tNil)))) D [some (.ref p), some (.ref n), some (.ref t), v3] H' := by
      intro s t x y lst v3 H' D ht bx by' e2 hn2 hl hsn hs2 kk
      refine qp_asg (p_call (pa_consP (p_ixQ 0 (p_qv rfl (Evl.ex_l e2 hp) (hr.ex e2) hb) rfl) mono_T (pa_consP (p_tv (K := K) rfl (Evl.ex_t e2 ht) (fun z hz => by
        simp only [List.mem_cons, List.not_mem_nil, or_false] at hz
        rcases hz with rfl | rfl
        · exact bx
        · exact by')) mono_T pa_nilP)) spa_way) fun v H3 e3 h3 => ?_
      obtain ⟨ts, rfl, q3, c3⟩ := h3
      refine s_extE (e3 _ _ hn2) (Evl.ev_var rfl) (p_lstE 703 (pa_consI (p_call (pa_consP (p_tv rfl q3 c3) mono_T pa_nilP) spa_square) (pa_consI (p_bd (b := 703) (p_ixT 0 (p_tv rfl q3 c3) rfl) (by decide)) (pa_consI (p_bd (b := 703) (p_ixT 1 (p_tv rfl q3 c3) rfl) (by decide)) pa_nilI))) (by simp) (by simp)) (by show (intL lst).length + 3 ≤ 100000; unfold intL; rw [List.length_map]; omega) fun H4 e4 => ?_
      refine kk _ _ (Ex.mut ((e2.trans e3).trans e4) hn) ?_ ?_
      · rw [upd_same]
        unfold intL
        rw [List.map_append]
        rfl
      · rw [upd_ne hsn]
        exact e4 _ _ (e3 _ _ hs2)
    have bq : ∀ q ∈ [[x0, y0], [x1, y1], [x2, y2], [x3, y3]], ∀ x ∈ q, Bd 350 x := hb
    refine Evl.q_forNLn (K := K) (xs := [.ref t1, .ref t2, .ref t3]) (show EvL _ _ _ [.ref t1, .ref t2, .ref t3] from Evl.el_sl (Evl.ev_var rfl) (Evl.eo_some Evl.ev_c) Evl.eo_none (Evl.ex_l e1 hp)) (fun s i σ' H' => s ≠ n ∧ ∃ v2 v3 : Option V, σ' = [some (.ref p), some (.ref n), v2, v3] ∧ Ex H H' ∧ H' n = some (.lst (intL (([trip x0 y0 x1 y1, trip x0 y0 x2 y2, trip x0 y0 x3 y3].take i).flatten))) ∧ H' s = some (.lst [.ref t1, .ref t2, .ref t3])) ?_ ?_ ?_ ?_
    · intro s H2 hs e2 h2
      refine ⟨fun z => ?_, none, none, rfl, e1.trans e2, e2 _ _ h1, h2⟩
      rw [z, h1] at hs
      cases hs
    · rintro s i σ' H' _ ⟨_, v2, v3, rfl, _, _, h2⟩
      exact Evl.sq_of h2
    · rintro s i x σ' H' hx ⟨hsn, v2, v3, rfl, e2, hn2, hs2⟩
      match i, hx, hn2 with
      | 0, hx, hn2 =>
        obtain rfl : V.ref t1 = x := Option.some.inj hx
        exact step s t1 x1 y1 [] v3 H' _ g1 (bq [x1, y1] (by simp) _ (by simp)) (bq [x1, y1] (by simp) _ (by simp)) e2 hn2 (by simp) hsn hs2 fun v3' H2 e3 h3 h4 => ⟨hsn, _, v3', rfl, e3, h3, h4⟩
      | 1, hx, hn2 =>
        obtain rfl : V.ref t2 = x := Option.some.inj hx
        exact step s t2 x2 y2 (trip x0 y0 x1 y1) v3 H' _ g2 (bq [x2, y2] (by simp) _ (by simp)) (bq [x2, y2] (by simp) _ (by simp)) e2 hn2 (by simp [trip]) hsn hs2 fun v3' H2 e3 h3 h4 => ⟨hsn, _, v3', rfl, e3, h3, h4⟩
      | 2, hx, hn2 =>
        obtain rfl : V.ref t3 = x := Option.some.inj hx
        exact step s t3 x3 y3 (trip x0 y0 x1 y1 ++ trip x0 y0 x2 y2) v3 H' _ g3 (bq [x3, y3] (by simp) _ (by simp)) (bq [x3, y3] (by simp) _ (by simp)) e2 hn2 (by simp [trip]) hsn hs2 fun v3' H2 e3 h3 h4 => ⟨hsn, _, v3', rfl, e3, h3, h4⟩
      | i + 3, hx, _ => simp at hx
    · rintro s σ' H' ⟨hsn, v2, v3, rfl, e2, hn2, hs2⟩
      have bw : ∀ {x y : Int}, [x, y] ∈ [[x0, y0], [x1, y1], [x2, y2], [x3, y3]] → Bd 703 (m_square (x - x0) (y - y0)) ∧ Bd 703 (x - x0) ∧ Bd 703 (y - y0) := by
        intro x y hm
        have b1 : Bd 351 (x - x0) := ((bq _ hm x (by simp)).sub (bq [x0, y0] (by simp) x0 (by simp))).le (by decide)
        have b2 : Bd 351 (y - y0) := ((bq _ hm y (by simp)).sub (bq [x0, y0] (by simp) y0 (by simp))).le (by decide)
        refine ⟨?_, b1.le (by decide), b2.le (by decide)⟩
        unfold m_square m_lean
        exact ((b1.mul b1).add (b2.mul b2)).le (by decide)
      obtain ⟨c1, c2, c3⟩ := bw (x := x1) (y := y1) (by simp)
      obtain ⟨d1, d2, d3⟩ := bw (x := x2) (y := y2) (by simp)
      obtain ⟨f1, f2, f3⟩ := bw (x := x3) (y := y3) (by simp)
      refine sp_ret (p_eq (p_call (pa_consP (p_lv (K := K) (xs := [m_square (x1 - x0) (y1 - y0), x1 - x0, y1 - y0, m_square (x2 - x0) (y2 - y0), x2 - x0, y2 - y0, m_square (x3 - x0) (y3 - y0), x3 - x0, y3 - y0]) rfl (Evl.sq_of hn2) (fun z hz => by
        simp only [List.mem_cons, List.not_mem_nil, or_false] at hz
        rcases hz with rfl | rfl | rfl | rfl | rfl | rfl | rfl | rfl | rfl <;> assumption)) mono_L pa_nilP) spa_measure) (p_ic (a := 1) (by decide))) fun v H3 e3 h3 => ?_
      exact k v H3 (e2.trans e3) h3
/-- is_so -/
theorem len_is_so (h : sp_is_so K A vs H Q E) : vs.length = 3 := by
  obtain ⟨_, _, _, _, _, _, _, rfl, _⟩ := h
  rfl
theorem pure_is_so (T : Txt K mg A) (h : sp_is_so K A vs H Q E) : t_is_so K A (De Q) (start ["kind", "p", "others"] vs) H := by
  obtain ⟨k, p, o, ws, qs, m, n, rfl, hk, hp, hr, hb, hl, h2, ho, kk⟩ := h
  refine Evl.q_when (Evl.et_test (ev_eq (Evl.ev_var rfl) Evl.ev_c)) (fun hb5 H1 e1 => ?_) (fun hb5 H1 e1 => ?_)
  · have h5 : k = 5 := by
      have := of_decide_eq_true hb5
      omega
    subst h5
    obtain ⟨ho, bm, bn⟩ := ho rfl
    match qs, hl, h2, hr, hb, kk with
    | [q0, q1, q2, q3], _, h2, hr, hb, kk =>
      obtain ⟨z0, z1, rfl⟩ := two (h2 q0 (by simp))
      obtain ⟨z2, z3, rfl⟩ := two (h2 q1 (by simp))
      obtain ⟨z4, z5, rfl⟩ := two (h2 q2 (by simp))
      obtain ⟨z6, z7, rfl⟩ := two (h2 q3 (by simp))
      have ho1 := Evl.ex_l e1 ho
      refine sp_ret (p_call (pa_consP (p_qv rfl (Evl.ex_l e1 hp) (hr.ex e1) hb) mono_Q (pa_consP (p_I (ev_ixL (n := 0) (Evl.ev_var rfl) ho1 rfl) bm) mono_I (pa_consP (p_I (ev_ixL (n := 1) (Evl.ev_var rfl) ho1 rfl) bn) mono_I pa_nilP))) spa_is_times) fun v H3 e3 h3 => ?_
      rw [show v = _ from h3]
      exact kk H3 (e1.trans e3)
  have h5 : k ≠ 5 := by
    have := of_decide_eq_false hb5
    omega
  have hk : k = 0 ∨ k = 1 ∨ k = 2 ∨ k = 3 ∨ k = 4 ∨ k = 5 ∨ k = 6 ∨ k = 7 ∨ k = 8 ∨ k = 9 ∨ k = 10 ∨ k = 11 ∨ k = 12 := by omega
  rcases hk with rfl | rfl | rfl | rfl | rfl | rfl | rfl | rfl | rfl | rfl | rfl | rfl | rfl
  · match qs, hl, h2, hr, hb, kk with
    | [q0, q1], _, h2, hr, hb, kk =>
      obtain ⟨z0, z1, rfl⟩ := two (h2 q0 (by simp))
      obtain ⟨z2, z3, rfl⟩ := two (h2 q1 (by simp))
      refine Evl.ev_op Evl.ev_c (Evl.ev_var rfl) (Evl.rv_ixT (T.q_BY_KIND H1) (atI_nat (j := 0) rfl)) H1 (Ex.refl H1) _ fun H2 e2 => ⟨_, _, rfl, (.inl ⟨rfl, rfl⟩), _, rfl, ?_⟩
      refine spa_is_same (A := A) [.ref p] H2 ⟨.ref p, [], rfl, ⟨p, ws, rfl, Evl.ex_l (e1.trans e2) hp, hr.ex (e1.trans e2), hb⟩, rfl⟩ _ (fun v H3 e3 h3 => ?_) (fun _ _ _ => False)
      rw [show v = _ from h3]
      exact kk H3 ((e1.trans e2).trans e3)
  · match qs, hl, h2, hr, hb, kk with
    | [q0, q1, q2], _, h2, hr, hb, kk =>
      obtain ⟨z0, z1, rfl⟩ := two (h2 q0 (by simp))
      obtain ⟨z2, z3, rfl⟩ := two (h2 q1 (by simp))
      obtain ⟨z4, z5, rfl⟩ := two (h2 q2 (by simp))
      refine Evl.ev_op Evl.ev_c (Evl.ev_var rfl) (Evl.rv_ixT (T.q_BY_KIND H1) (atI_nat (j := 1) rfl)) H1 (Ex.refl H1) _ fun H2 e2 => ⟨_, _, rfl, (.inr (.inl ⟨rfl, rfl⟩)), _, rfl, ?_⟩
      refine spa_is_line (A := A) [.ref p] H2 ⟨.ref p, [], rfl, ⟨p, ws, rfl, Evl.ex_l (e1.trans e2) hp, hr.ex (e1.trans e2), hb⟩, rfl⟩ _ (fun v H3 e3 h3 => ?_) (fun _ _ _ => False)
      rw [show v = _ from h3]
      exact kk H3 ((e1.trans e2).trans e3)
  · match qs, hl, h2, hr, hb, kk with
    | [q0, q1, q2, q3], _, h2, hr, hb, kk =>
      obtain ⟨z0, z1, rfl⟩ := two (h2 q0 (by simp))
      obtain ⟨z2, z3, rfl⟩ := two (h2 q1 (by simp))
      obtain ⟨z4, z5, rfl⟩ := two (h2 q2 (by simp))
      obtain ⟨z6, z7, rfl⟩ := two (h2 q3 (by simp))
      refine Evl.ev_op Evl.ev_c (Evl.ev_var rfl) (Evl.rv_ixT (T.q_BY_KIND H1) (atI_nat (j := 2) rfl)) H1 (Ex.refl H1) _ fun H2 e2 => ⟨_, _, rfl, (.inr (.inr (.inl ⟨rfl, rfl⟩))), _, rfl, ?_⟩
      refine spa_is_parallel (A := A) [.ref p] H2 ⟨.ref p, [], rfl, ⟨p, ws, rfl, Evl.ex_l (e1.trans e2) hp, hr.ex (e1.trans e2), hb⟩, rfl⟩ _ (fun v H3 e3 h3 => ?_) (fun _ _ _ => False)
      rw [show v = _ from h3]
      exact kk H3 ((e1.trans e2).trans e3)
  · match qs, hl, h2, hr, hb, kk with
    | [q0, q1, q2, q3], _, h2, hr, hb, kk =>
      obtain ⟨z0, z1, rfl⟩ := two (h2 q0 (by simp))
      obtain ⟨z2, z3, rfl⟩ := two (h2 q1 (by simp))
      obtain ⟨z4, z5, rfl⟩ := two (h2 q2 (by simp))
      obtain ⟨z6, z7, rfl⟩ := two (h2 q3 (by simp))
      refine Evl.ev_op Evl.ev_c (Evl.ev_var rfl) (Evl.rv_ixT (T.q_BY_KIND H1) (atI_nat (j := 3) rfl)) H1 (Ex.refl H1) _ fun H2 e2 => ⟨_, _, rfl, (.inr (.inr (.inr (.inl ⟨rfl, rfl⟩)))), _, rfl, ?_⟩
      refine spa_is_right (A := A) [.ref p] H2 ⟨.ref p, [], rfl, ⟨p, ws, rfl, Evl.ex_l (e1.trans e2) hp, hr.ex (e1.trans e2), hb⟩, rfl⟩ _ (fun v H3 e3 h3 => ?_) (fun _ _ _ => False)
      rw [show v = _ from h3]
      exact kk H3 ((e1.trans e2).trans e3)
  · match qs, hl, h2, hr, hb, kk with
    | [q0, q1, q2, q3], _, h2, hr, hb, kk =>
      obtain ⟨z0, z1, rfl⟩ := two (h2 q0 (by simp))
      obtain ⟨z2, z3, rfl⟩ := two (h2 q1 (by simp))
      obtain ⟨z4, z5, rfl⟩ := two (h2 q2 (by simp))
      obtain ⟨z6, z7, rfl⟩ := two (h2 q3 (by simp))
      refine Evl.ev_op Evl.ev_c (Evl.ev_var rfl) (Evl.rv_ixT (T.q_BY_KIND H1) (atI_nat (j := 4) rfl)) H1 (Ex.refl H1) _ fun H2 e2 => ⟨_, _, rfl, (.inr (.inr (.inr (.inr (.inl ⟨rfl, rfl⟩))))), _, rfl, ?_⟩
      refine spa_is_equal (A := A) [.ref p] H2 ⟨.ref p, [], rfl, ⟨p, ws, rfl, Evl.ex_l (e1.trans e2) hp, hr.ex (e1.trans e2), hb⟩, rfl⟩ _ (fun v H3 e3 h3 => ?_) (fun _ _ _ => False)
      rw [show v = _ from h3]
      exact kk H3 ((e1.trans e2).trans e3)
  · exact absurd rfl h5
  · match qs, hl, h2, hr, hb, kk with
    | [q0, q1, q2, q3], _, h2, hr, hb, kk =>
      obtain ⟨z0, z1, rfl⟩ := two (h2 q0 (by simp))
      obtain ⟨z2, z3, rfl⟩ := two (h2 q1 (by simp))
      obtain ⟨z4, z5, rfl⟩ := two (h2 q2 (by simp))
      obtain ⟨z6, z7, rfl⟩ := two (h2 q3 (by simp))
      refine Evl.ev_op Evl.ev_c (Evl.ev_var rfl) (Evl.rv_ixT (T.q_BY_KIND H1) (atI_nat (j := 6) rfl)) H1 (Ex.refl H1) _ fun H2 e2 => ⟨_, _, rfl, (.inr (.inr (.inr (.inr (.inr (.inl ⟨rfl, rfl⟩)))))), _, rfl, ?_⟩
      refine spa_is_circle (A := A) [.ref p] H2 ⟨.ref p, [], rfl, ⟨p, ws, rfl, Evl.ex_l (e1.trans e2) hp, hr.ex (e1.trans e2), hb⟩, rfl⟩ _ (fun v H3 e3 h3 => ?_) (fun _ _ _ => False)
      rw [show v = _ from h3]
      exact kk H3 ((e1.trans e2).trans e3)
  · match qs, hl, h2, hr, hb, kk with
    | [q0, q1, q2, q3, q4, q5], _, h2, hr, hb, kk =>
      obtain ⟨z0, z1, rfl⟩ := two (h2 q0 (by simp))
      obtain ⟨z2, z3, rfl⟩ := two (h2 q1 (by simp))
      obtain ⟨z4, z5, rfl⟩ := two (h2 q2 (by simp))
      obtain ⟨z6, z7, rfl⟩ := two (h2 q3 (by simp))
      obtain ⟨z8, z9, rfl⟩ := two (h2 q4 (by simp))
      obtain ⟨z10, z11, rfl⟩ := two (h2 q5 (by simp))
      refine Evl.ev_op Evl.ev_c (Evl.ev_var rfl) (Evl.rv_ixT (T.q_BY_KIND H1) (atI_nat (j := 7) rfl)) H1 (Ex.refl H1) _ fun H2 e2 => ⟨_, _, rfl, (.inr (.inr (.inr (.inr (.inr (.inr (.inl ⟨rfl, rfl⟩))))))), _, rfl, ?_⟩
      refine spa_is_angles (A := A) [.ref p] H2 ⟨.ref p, [], rfl, ⟨p, ws, rfl, Evl.ex_l (e1.trans e2) hp, hr.ex (e1.trans e2), hb⟩, rfl⟩ _ (fun v H3 e3 h3 => ?_) (fun _ _ _ => False)
      rw [show v = _ from h3]
      exact kk H3 ((e1.trans e2).trans e3)
  · match qs, hl, h2, hr, hb, kk with
    | [q0, q1, q2, q3, q4, q5], _, h2, hr, hb, kk =>
      obtain ⟨z0, z1, rfl⟩ := two (h2 q0 (by simp))
      obtain ⟨z2, z3, rfl⟩ := two (h2 q1 (by simp))
      obtain ⟨z4, z5, rfl⟩ := two (h2 q2 (by simp))
      obtain ⟨z6, z7, rfl⟩ := two (h2 q3 (by simp))
      obtain ⟨z8, z9, rfl⟩ := two (h2 q4 (by simp))
      obtain ⟨z10, z11, rfl⟩ := two (h2 q5 (by simp))
      refine Evl.ev_op Evl.ev_c (Evl.ev_var rfl) (Evl.rv_ixT (T.q_BY_KIND H1) (atI_nat (j := 8) rfl)) H1 (Ex.refl H1) _ fun H2 e2 => ⟨_, _, rfl, (.inr (.inr (.inr (.inr (.inr (.inr (.inr (.inl ⟨rfl, rfl⟩)))))))), _, rfl, ?_⟩
      refine spa_is_areas (A := A) [.ref p] H2 ⟨.ref p, [], rfl, ⟨p, ws, rfl, Evl.ex_l (e1.trans e2) hp, hr.ex (e1.trans e2), hb⟩, rfl⟩ _ (fun v H3 e3 h3 => ?_) (fun _ _ _ => False)
      rw [show v = _ from h3]
      exact kk H3 ((e1.trans e2).trans e3)
  · match qs, hl, h2, hr, hb, kk with
    | [q0, q1, q2, q3, q4, q5], _, h2, hr, hb, kk =>
      obtain ⟨z0, z1, rfl⟩ := two (h2 q0 (by simp))
      obtain ⟨z2, z3, rfl⟩ := two (h2 q1 (by simp))
      obtain ⟨z4, z5, rfl⟩ := two (h2 q2 (by simp))
      obtain ⟨z6, z7, rfl⟩ := two (h2 q3 (by simp))
      obtain ⟨z8, z9, rfl⟩ := two (h2 q4 (by simp))
      obtain ⟨z10, z11, rfl⟩ := two (h2 q5 (by simp))
      refine Evl.ev_op Evl.ev_c (Evl.ev_var rfl) (Evl.rv_ixT (T.q_BY_KIND H1) (atI_nat (j := 9) rfl)) H1 (Ex.refl H1) _ fun H2 e2 => ⟨_, _, rfl, (.inr (.inr (.inr (.inr (.inr (.inr (.inr (.inr (.inl ⟨rfl, rfl⟩))))))))), _, rfl, ?_⟩
      refine spa_is_through (A := A) [.ref p] H2 ⟨.ref p, [], rfl, ⟨p, ws, rfl, Evl.ex_l (e1.trans e2) hp, hr.ex (e1.trans e2), hb⟩, rfl⟩ _ (fun v H3 e3 h3 => ?_) (fun _ _ _ => False)
      rw [show v = _ from h3]
      exact kk H3 ((e1.trans e2).trans e3)
  · match qs, hl, h2, hr, hb, kk with
    | [q0, q1, q2], _, h2, hr, hb, kk =>
      obtain ⟨z0, z1, rfl⟩ := two (h2 q0 (by simp))
      obtain ⟨z2, z3, rfl⟩ := two (h2 q1 (by simp))
      obtain ⟨z4, z5, rfl⟩ := two (h2 q2 (by simp))
      refine Evl.ev_op Evl.ev_c (Evl.ev_var rfl) (Evl.rv_ixT (T.q_BY_KIND H1) (atI_nat (j := 10) rfl)) H1 (Ex.refl H1) _ fun H2 e2 => ⟨_, _, rfl, (.inr (.inr (.inr (.inr (.inr (.inr (.inr (.inr (.inr (.inl ⟨rfl, rfl⟩)))))))))), _, rfl, ?_⟩
      refine spa_is_middle (A := A) [.ref p] H2 ⟨.ref p, [], rfl, ⟨p, ws, rfl, Evl.ex_l (e1.trans e2) hp, hr.ex (e1.trans e2), hb⟩, rfl⟩ _ (fun v H3 e3 h3 => ?_) (fun _ _ _ => False)
      rw [show v = _ from h3]
      exact kk H3 ((e1.trans e2).trans e3)
  · match qs, hl, h2, hr, hb, kk with
    | [q0, q1, q2, q3], _, h2, hr, hb, kk =>
      obtain ⟨z0, z1, rfl⟩ := two (h2 q0 (by simp))
      obtain ⟨z2, z3, rfl⟩ := two (h2 q1 (by simp))
      obtain ⟨z4, z5, rfl⟩ := two (h2 q2 (by simp))
      obtain ⟨z6, z7, rfl⟩ := two (h2 q3 (by simp))
      refine Evl.ev_op Evl.ev_c (Evl.ev_var rfl) (Evl.rv_ixT (T.q_BY_KIND H1) (atI_nat (j := 11) rfl)) H1 (Ex.refl H1) _ fun H2 e2 => ⟨_, _, rfl, (.inr (.inr (.inr (.inr (.inr (.inr (.inr (.inr (.inr (.inr (.inl ⟨rfl, rfl⟩))))))))))), _, rfl, ?_⟩
      refine spa_is_touches (A := A) [.ref p] H2 ⟨.ref p, [], rfl, ⟨p, ws, rfl, Evl.ex_l (e1.trans e2) hp, hr.ex (e1.trans e2), hb⟩, rfl⟩ _ (fun v H3 e3 h3 => ?_) (fun _ _ _ => False)
      rw [show v = _ from h3]
      exact kk H3 ((e1.trans e2).trans e3)
  · match qs, hl, h2, hr, hb, kk with
    | [q0, q1, q2, q3, q4, q5], _, h2, hr, hb, kk =>
      obtain ⟨z0, z1, rfl⟩ := two (h2 q0 (by simp))
      obtain ⟨z2, z3, rfl⟩ := two (h2 q1 (by simp))
      obtain ⟨z4, z5, rfl⟩ := two (h2 q2 (by simp))
      obtain ⟨z6, z7, rfl⟩ := two (h2 q3 (by simp))
      obtain ⟨z8, z9, rfl⟩ := two (h2 q4 (by simp))
      obtain ⟨z10, z11, rfl⟩ := two (h2 q5 (by simp))
      refine Evl.ev_op Evl.ev_c (Evl.ev_var rfl) (Evl.rv_ixT (T.q_BY_KIND H1) (atI_nat (j := 12) rfl)) H1 (Ex.refl H1) _ fun H2 e2 => ⟨_, _, rfl, (.inr (.inr (.inr (.inr (.inr (.inr (.inr (.inr (.inr (.inr (.inr ⟨rfl, rfl⟩))))))))))), _, rfl, ?_⟩
      refine spa_is_alike (A := A) [.ref p] H2 ⟨.ref p, [], rfl, ⟨p, ws, rfl, Evl.ex_l (e1.trans e2) hp, hr.ex (e1.trans e2), hb⟩, rfl⟩ _ (fun v H3 e3 h3 => ?_) (fun _ _ _ => False)
      rw [show v = _ from h3]
      exact kk H3 ((e1.trans e2).trans e3)
theorem spv_is_so {k : Nat} {p o : Addr} {ws : List V} {qs : List (List Int)} {m n : Int} (hk : k < 13) (hp : SqL K H p ws) (hr : RowsT K H ws qs) (hb : ∀ q ∈ qs, ∀ x ∈ q, Bd 350 x) (hl : qs.length = Kh372.pointsOf k) (h2 : ∀ q ∈ qs, q.length = 2) (ho : k = 5 → SqL K H o [.int m, .int n] ∧ Bd 10 m ∧ Bd 10 n) :
    SpV (sp_is_so K A) [.int (k : Int), .ref p, .ref o] H (.bl (soQ k qs m n)) := fun H1 e Q q _ => ⟨k, p, o, ws, qs, m, n, rfl, hk, Evl.ex_l e hp, hr.ex e, hb, hl, h2, fun h5 => ⟨Evl.ex_l e (ho h5).1, (ho h5).2⟩, q⟩
end
end My

set_option Elab.async false
set_option linter.all false
set_option maxRecDepth 100000
set_option maxHeartbeats 4000000
namespace My
open PySem PySem.Spec PyProof.Rows L2
open Evl (Ev EvL EvU EvT EvA EvO Ex RV RU RC RCL SpV SpL)
section
variable {K : PySem.W.Frag} {mg : Str → Option Value} {A : Ad} {vs : List V} {H : Hp} {Q : VK} {E : XK}
theorem RowsN.upd' {H0 : Hp} {ws : List V} {xss : List (List Nat)} {l : Addr} {o : HO} (hl : ∀ w ∈ ws, w ≠ .ref l) (h : RowsN H0 H ws xss) : RowsN H0 (L2.upd H l o) ws xss := ⟨h.1, fun i w xs hw hx => by
  obtain ⟨a, e1, e2, e3⟩ := h.2 i w xs hw hx
  refine ⟨a, e1, e2, ?_⟩
  rw [upd_ne]
  · exact e3
  · intro z
    exact hl w (List.mem_of_getElem? hw) (by rw [e1, z])⟩
theorem RowsN.mem {H0 : Hp} {ws : List V} {xss : List (List Nat)} {l : Addr} {o : HO} (hl : H0 l = some o) (h : RowsN H0 H ws xss) : ∀ w ∈ ws, w ≠ .ref l := by
  intro w hw z
  obtain ⟨i, hi⟩ := List.getElem?_of_mem hw
  obtain ⟨xs, a, _, e1, e2, _⟩ := h.of hi
  rw [z] at e1
  have e1 := V.ref.inj e1
  rw [← e1, hl] at e2
  cases e2
section
variable {σ : L2.St} {D : Ends} {ta tb te tl : TE} {tt : TT}
/-- xs.extend(a new list of new rows) -/
theorem s_extR {l : Addr} {xs : List V} {yss : List (List Nat)} (hl : H l = some (.lst xs)) (ha : Ev ta σ H (.ref l)) (h : EvR te σ H yss) (hz : xs.length + yss.length ≤ 100000) (k : ∀ H1 ws, Ex H H1 → RowsN H H1 ws yss → D.nx σ (upd H1 l (.lst (xs ++ ws)))) :
    tDrop (tBM K "list" rExtend ta (tCons te tNil)) D σ H := ha H (Ex.refl H) _ fun H1 e1 =>
  ⟨Or.inl ⟨rfl, xs, Evl.sq_of (e1 l _ hl)⟩, h H1 e1 _ fun p H2 ws hp e2 h2 hr _ => ⟨l, p, xs, ws, rfl, rfl, e2 l _ (e1 l _ hl), h2, Evl.sz_of (by rw [hr.1]; exact hz), k H2 ws (e1.trans e2) (hr.back e1)⟩⟩
theorem er_lcNL {xs : List V} {j : Nat} (f : Nat → Bool) (g : Nat → List Nat) (h : EvL tl σ H xs) (hz : xs.length ≤ 40000)
    (ht : ∀ i x H1, Ex H H1 → xs[i]? = some x → EvT tt ((wipe σ [j]).set j (some x)) H1 (f i)) (he : ∀ i x H1, Ex H H1 → xs[i]? = some x → f i = true → EvL te ((wipe σ [j]).set j (some x)) H1 (nl (g i))) : EvR (tLc (iList K tl) (gName j) tt te [j]) σ H (givenR xs.length f g) := fun H0 e Q q =>
  h H0 e (fun v H1 => tLc (iList K (tC v)) (gName j) tt te [j] σ H1 Q) fun a H1 ha e1 h1 => er_lcL f g Evl.ev_c (Evl.sq_of h1) hz (fun i x H2 e2 hx => ht i x H2 ((e.trans e1).trans e2) hx) (fun i x H2 e2 hx hb => he i x H2 ((e.trans e1).trans e2) hx hb) H1 (Ex.refl H1) Q fun p H2 ws hp e2 h2 hr hne => q p H2 ws (Evl.fresh_back e1 hp) (e1.trans e2) h2 (hr.back e1) hne
theorem q_asgR {tz : TS} {i : Nat} {xss : List (List Nat)} (h : EvR te σ H xss) (k : ∀ p H1 ws, H p = none → Ex H H1 → H1 p = some (.lst ws) → RowsN H H1 ws xss → tz D (σ.set i (some (.ref p))) H1) : tSeq (tAsg te (gName i)) tz D σ H :=
  h H (Ex.refl H) _ fun p H1 ws hp e h1 h2 _ => k p H1 ws hp e h1 h2
theorem er_one : EvR (tLst (tCons (tLst tNil) tNil)) σ H [[]] := fun H1 e Q q => ⟨by decide, fun a ha => ⟨by show 1 ≤ sizeLine; decide, fun p hp => by
  have hpa : p ≠ a := fun z => by
    rw [z, upd_same] at hp
    cases hp
  have hp1 : H1 p = none := by
    rw [upd_ne hpa] at hp
    exact hp
  refine q p _ [.ref a] hp1 ((Ex.new ha).trans (Ex.new hp)) upd_same ⟨rfl, fun i w xs hw hx => ?_⟩ fun w hw => ?_
  · cases i with
    | zero =>
      have e1 : V.ref a = w := Option.some.inj hw
      have e2 : [] = xs := Option.some.inj hx
      subst e1 e2
      refine ⟨a, rfl, ha, ?_⟩
      rw [upd_ne (Ne.symm hpa), upd_same]
      rfl
    | succ n => simp at hw
  · rw [List.mem_singleton.mp hw]
    intro z
    exact hpa (V.ref.inj z).symm⟩⟩
/-- xs + a new list -/
theorem el_catL {xs ys : List V} {a : Addr} (ha : Ev ta σ H (.ref a)) (hx : H a = some (.lst xs)) (hb : EvL tb σ H ys) (hz : xs.length + ys.length ≤ 100000) : EvL (tOp rCat ta tb) σ H (xs ++ ys) := fun H1 e Q q => ha H1 e _ fun H2 e2 => hb H2 (e.trans e2) _ fun b H3 hb e3 h3 => ⟨a, b, xs, ys, rfl, rfl, e3 _ _ (e2 _ _ (e _ _ hx)), h3, Evl.sz_of hz, fun r hr => q r _ (Evl.fresh_back (e2.trans e3) hr) ((e2.trans e3).trans (Ex.new hr)) upd_same⟩
/-- xs + ys, both there -/
theorem el_catB {xs ys : List V} {a b : Addr} (ha : Ev ta σ H (.ref a)) (hx : H a = some (.lst xs)) (hb : Ev tb σ H (.ref b)) (hy : H b = some (.lst ys)) (hz : xs.length + ys.length ≤ 100000) : EvL (tOp rCat ta tb) σ H (xs ++ ys) := fun H1 e Q q => ha H1 e _ fun H2 e2 => hb H2 (e.trans e2) _ fun H3 e3 => ⟨a, b, xs, ys, rfl, rfl, e3 _ _ (e2 _ _ (e _ _ hx)), e3 _ _ (e2 _ _ (e _ _ hy)), Evl.sz_of hz, fun r hr => q r _ (Evl.fresh_back (e2.trans e3) hr) ((e2.trans e3).trans (Ex.new hr)) upd_same⟩
end
/-! ### what is made, as a list -/
theorem givenR_list {α : Type} (d : α) (p : α → Bool) (h : α → List Nat) : ∀ l : List α, givenR l.length (fun t => p (l.getD t d)) (fun t => h (l.getD t d)) = (l.filter p).map h
  | [] => rfl
  | x :: r => by
    have ih := givenR_list d p h r
    unfold givenR at ih ⊢
    rw [List.length_cons, List.range_succ_eq_map, List.filter_cons, List.filter_map]
    have e1 : ((fun t => p ((x :: r).getD t d)) ∘ Nat.succ) = fun t => p (r.getD t d) := rfl
    have e2 : ∀ l : List Nat, (l.map Nat.succ).map (fun t => h ((x :: r).getD t d)) = l.map fun t => h (r.getD t d) := fun l => by rw [List.map_map]; rfl
    rw [e1]
    show List.map _ (if p x = true then _ else _) = _
    by_cases hp : p x = true
    · rw [if_pos hp, List.filter_cons, if_pos hp, List.map_cons, List.map_cons, e2, ih]
      rfl
    · rw [if_neg hp, List.filter_cons, if_neg hp, e2, ih]
theorem givenR_all (st m : Nat) (h : Nat → List Nat) : givenR m (fun _ => true) (fun t => h (st + t)) = (List.range' st m).map h := by
  unfold givenR
  rw [List.filter_eq_self.mpr (fun _ _ => rfl), List.range'_eq_map_range, List.map_map]
  rfl
/-! ### rising -/
theorem ris_small : ∀ n < 11, ∀ k < 11, (ris n k).length ≤ 252 := by decide +kernel
theorem ris_len {n : Nat} : ∀ (k : Nat) (row : List Nat), row ∈ ris n k → row.length = k
  | 0, row, h => by
    rw [List.mem_singleton.mp h]
    rfl
  | k + 1, row, h => by
    obtain ⟨r, hr, hx⟩ := List.mem_flatMap.mp h
    obtain ⟨x, _, rfl⟩ := List.mem_map.mp hx
    rw [List.length_append, ris_len k r hr]
    rfl
def stR (k : Nat) (row : List Nat) : Nat := if 0 < k then row.getLastD 0 + 1 else 0
def moreR (n k : Nat) (row : List Nat) : List (List Nat) := (List.range' (stR k row) (n - stR k row)).map fun x => row ++ [x]
theorem ris_succ (n k : Nat) : ris n (k + 1) = (ris n k).flatMap (moreR n k) := rfl
theorem ris_lt {n : Nat} : ∀ (k : Nat) (row : List Nat), row ∈ ris n k → ∀ x ∈ row, x < n
  | 0, row, h => by
    rw [List.mem_singleton.mp h]
    intro x hx
    cases hx
  | k + 1, row, h => by
    obtain ⟨r, hr, hx⟩ := List.mem_flatMap.mp h
    obtain ⟨x, hx', rfl⟩ := List.mem_map.mp hx
    intro y hy
    rcases List.mem_append.mp hy with z | z
    · exact ris_lt k r hr y z
    · rw [List.mem_singleton.mp z]
      have := List.mem_range'_1.mp hx'
      omega
theorem atI_last {row : List Nat} (h : row ≠ []) : atI (nl row) (-1) = some (.int ((row.getLastD 0 : Nat) : Int)) := by
  have hl : 0 < row.length := List.length_pos_iff.mpr h
  have e : ixN (nl row).length (-1) = some (row.length - 1) := by
    rw [nl_len]
    unfold ixN
    rw [if_neg (by omega)]
    have h1 : ((-1 : Int) + (row.length : Int)).toNat = row.length - 1 := by omega
    first
      | (rw [if_pos (by omega), h1])
      | (simp only [h1]; rw [if_pos (by omega)])
  unfold atI
  rw [e]
  show (nl row)[row.length - 1]? = _
  have e2 : row[row.length - 1]? = some (row.getLastD 0) := by
    rw [← List.getLast?_eq_getElem?]
    cases row with
    | nil => exact absurd rfl h
    | cons x r =>
      simp only [List.getLastD]
      first
        | exact List.getLast?_eq_some_getLast h
        | exact List.getLast?_eq_getLast h
        | (rw [List.getLast?_cons]; simp [List.getLastD])
  exact nl_at e2
theorem flat_take {α β : Type} (l : List α) (f : α → List β) (j : Nat) : ((l.take j).flatMap f).length ≤ (l.flatMap f).length := by
  have e : l.flatMap f = (l.take j).flatMap f ++ (l.drop j).flatMap f := by
    rw [← List.flatMap_append, List.take_append_drop]
  rw [e, List.length_append]
  omega
theorem flat_snoc {α β : Type} {l : List α} {f : α → List β} {j : Nat} {x : α} (h : l[j]? = some x) : (l.take (j + 1)).flatMap f = (l.take j).flatMap f ++ f x := by
  rw [take_snoc h, List.flatMap_append]
  simp
theorem len_rising (h : sp_rising K A vs H Q E) : vs.length = 2 := by
  obtain ⟨_, _, rfl, _⟩ := h
  rfl
theorem pure_rising (T : Txt K mg A) (h : sp_rising K A vs H Q E) : t_rising K A (De Q) (start ["count", "size", "rows", "done", "longer", "row", "start", "number"] vs) H := by
  obtain ⟨n, k, rfl, hn, hk, kk⟩ := h
  refine q_asgR er_one fun r0 H1 ws0 hr0 e1 h1 hR0 => ?_
  refine Evl.q_forR1 (n := (k : Int)) (Evl.ea_cons (Evl.ev_var rfl) Evl.ea_nil) ⟨by omega, by omega⟩ (fun i σ' H' => ∃ (v3 v4 v5 v6 : Option V) (r : Addr) (ws : List V), σ' = [some (.int (n : Int)), some (.int (k : Int)), some (.ref r), v3, v4, v5, v6, none] ∧ Ex H H' ∧ H r = none ∧ H' r = some (.lst ws) ∧ RowsN H H' ws (ris n i)) ?_ ?_ ?_
  · intro H2 e2
    exact ⟨none, none, none, none, r0, ws0, rfl, e1.trans e2, hr0, e2 _ _ h1, hR0.ex e2⟩
  · rintro i σ' H2 hi ⟨v3, v4, v5, v6, r, ws, rfl, e2, hr, h2, hR⟩
    refine Evl.q_asgL (Evl.el_lst Evl.ea_nil (by simp)) fun l H3 hl e3 h3 => ?_
    have hrl : r ≠ l := fun z => by
      rw [← z, h2] at hl
      cases hl
    have hlH : H l = none := Evl.fresh_back e2 hl
    have hR3 := hR.ex e3
    refine Evl.q_forLn (K := K) (a := r) (xs := ws) (Evl.ev_var rfl) (Evl.sq_of (e3 _ _ h2)) (fun j σ' H' => ∃ (v5 v6 : Option V) (wl : List V), σ' = [some (.int (n : Int)), some (.int (k : Int)), some (.ref r), some (.int (i : Int)), some (.ref l), v5, v6, none] ∧ Ex H2 H' ∧ H' l = some (.lst wl) ∧ RowsN H H' wl (((ris n i).take j).flatMap (moreR n i)) ∧ ∀ w ∈ wl, w ≠ .ref l) ?_ ?_ ?_ ?_
    · intro H4 e4
      exact ⟨v5, v6, [], rfl, e3.trans e4, e4 _ _ h3, by simpa using RowsN.nil, fun w hw => absurd hw (by simp)⟩
    · rintro j σ' H' _ ⟨_, _, wl, rfl, e4, _⟩
      exact Evl.sq_of (e4 _ _ h2)
    · rintro j x σ' H4 hx ⟨w5, w6, wl, rfl, e4, h4, hW, hne⟩
      obtain ⟨row, a, hrow, rfl, ha0, ha⟩ := hR.of hx
      have ha4 := e4 _ _ ha
      have hmem : row ∈ ris n i := List.mem_of_getElem? hrow
      have hst : Ev (tIf (tTest (tOp oGt (tVar 3) (tC (.int 0)))) (tOp oAdd (tOp (rIxL K) (tVar 5) (tUn oNeg (tC (.int 1)))) (tC (.int 1))) (tC (.int 0))) [some (.int (n : Int)), some (.int (k : Int)), some (.ref r), some (.int (i : Int)), some (.ref l), some (.ref a), w6, none] H4 (.int ((stR i row : Nat) : Int)) := by
        refine Evl.ev_if (Evl.et_test (ev_gt (Evl.ev_var rfl) Evl.ev_c)) (fun hb => ?_) (fun hb => ?_)
        · have h0 : 0 < i := by
            have := of_decide_eq_true hb
            omega
          have hrn : row ≠ [] := fun z => by
            have := ris_len i row hmem
            rw [z] at this
            simp at this
            omega
          have e0 : ((stR i row : Nat) : Int) = ((row.getLastD 0 : Nat) : Int) + 1 := by
            unfold stR
            rw [if_pos h0]
            omega
          rw [e0]
          exact Evl.ev_op (Evl.ev_op (Evl.ev_var rfl) (Evl.ev_un Evl.ev_c Evl.ru_neg) (Evl.rv_ixL (Evl.sq_of ha4) (atI_last hrn))) Evl.ev_c Evl.rv_I0
        · have h0 : ¬ 0 < i := by
            have := of_decide_eq_false hb
            omega
          unfold stR
          rw [if_neg h0]
          exact Evl.ev_c
      refine Evl.q_asg hst fun H5 e5 => ?_
      have hst10 : stR i row ≤ 40000 := by
        unfold stR
        by_cases h0 : 0 < i
        · rw [if_pos h0]
          have hrn : row ≠ [] := fun z => by
            have := ris_len i row hmem
            rw [z] at this
            simp at this
            omega
          have hm : row.getLastD 0 ∈ row := by
            cases row with
            | nil => exact absurd rfl hrn
            | cons x r =>
              rw [List.getLastD_cons]
              exact List.getLastD_mem_cons
          have := ris_lt i row hmem _ hm
          omega
        · rw [if_neg h0]
          omega
      have hlenT : ((ris n (i + 1))).length ≤ 252 := ris_small n (by omega) (i + 1) (by omega)
      have hsn := flat_snoc (f := moreR n i) hrow
      have hlt := flat_take (ris n i) (moreR n i) (j + 1)
      rw [hsn, List.length_append] at hlt
      rw [ris_succ] at hlenT
      have hrl4 : row.length ≤ 10 := by
        have := ris_len i row hmem
        omega
      refine s_extR (e5 _ _ h4) (Evl.ev_var rfl) (er_lcR2 (lo := stR i row) (n := n) (fun _ => true) (fun t => row ++ [stR i row + t]) (Evl.ea_cons (Evl.ev_var rfl) (Evl.ea_cons (Evl.ev_var rfl) Evl.ea_nil)) ⟨hst10, by omega⟩ (fun t H6 e6 ht => et_yes) (fun t H6 e6 ht _ => ?_)) ?_ fun H6 ws' e6 hW' => ?_
      · have e0 : nl (row ++ [stR i row + t]) = nl row ++ nl [stR i row + t] := by
          unfold nl
          rw [List.map_append]
        rw [e0]
        exact el_catL (Evl.ev_var rfl) (e6 _ _ (e5 _ _ ha4)) (Evl.el_lst (Evl.ea_cons (Evl.ev_var rfl) Evl.ea_nil) (by show 1 ≤ 100000; decide)) (by rw [nl_len]; simp [nl]; omega)
      · rw [givenR_all (stR i row) _ (fun x => row ++ [x]), hW.1]
        show _ + (moreR n i row).length ≤ 100000
        omega
      · rw [givenR_all (stR i row) _ (fun x => row ++ [x])] at hW'
        have hW' : RowsN H5 H6 ws' (moreR n i row) := hW'
        have hne' := hW'.mem (e5 _ _ h4)
        refine ⟨_, _, wl ++ ws', rfl, Ex.mut ((e4.trans e5).trans e6) hl, upd_same, ?_, fun w hw => ?_⟩
        · rw [hsn]
          exact RowsN.append (RowsN.upd' hne ((hW.ex e5).ex e6)) (RowsN.upd' hne' (hW'.back ((e2.trans e4).trans e5)))
        · rcases List.mem_append.mp hw with z | z
          · exact hne w z
          · exact hne' w z
    · rintro σ' H4 ⟨w5, w6, wl, rfl, e4, h4, hW, hne⟩
      rw [hR.1, List.take_length, ← ris_succ] at hW
      refine Evl.s_asg (Evl.ev_var rfl) fun H5 e5 => ?_
      exact ⟨_, _, _, _, l, wl, rfl, (e2.trans e4).trans e5, hlH, e5 _ _ h4, hW.ex e5⟩
  · rintro σ' H2 ⟨v3, v4, v5, v6, r, ws, rfl, e2, hr, h2, hR⟩
    have e0 : ((k : Int)).toNat = k := by omega
    rw [e0] at hR
    refine Evl.s_ret (Evl.ev_var rfl) fun H3 e3 => ?_
    exact kk r H3 ws hr (e2.trans e3) (e3 _ _ h2) (hR.ex e3)
theorem spr_rising {n k : Nat} (hn : n ≤ 10) (hk : k ≤ 10) : SpR (sp_rising K A) [.int (n : Int), .int (k : Int)] H (ris n k) := fun H1 e Q q _ => ⟨n, k, rfl, hn, hk, q⟩
end
end My

set_option Elab.async false
set_option linter.all false
set_option maxRecDepth 100000
set_option maxHeartbeats 4000000
namespace My
open PySem PySem.Spec PyProof.Rows L2
open Evl (Ev EvL EvU EvT EvA EvO Ex RV RU RC RCL SpV SpL)
section
variable {K : PySem.W.Frag} {mg : Str → Option Value} {A : Ad} {vs : List V} {H : Hp} {Q : VK} {E : XK}
theorem ris_pairs : ∀ n < 11, ris n 2 = Kh372.pairs n := by decide +kernel
theorem ris_triples : ∀ n < 11, ris n 3 = Kh372.triples n := by decide +kernel
theorem ris_fours : ∀ n < 11, ris n 4 = Kh372.fours n := by decide +kernel
theorem pairs_small : ∀ n < 11, (Kh372.pairs n).length ≤ 45 := by decide +kernel
theorem twoPairs_small : ∀ n < 11, (Kh372.twoPairs n).length ≤ 990 := by decide +kernel
theorem middles_small : ∀ n < 11, (Kh372.middles n).length ≤ 450 := by decide +kernel
theorem pairs_two {n : Nat} {l : List Nat} (h : l ∈ Kh372.pairs n) : l.length = 2 := by
  obtain ⟨a, b, rfl, _⟩ := mem_pairs.mp h
  rfl
theorem cutV_drop (xs : List V) (n : Nat) : cutV xs (some (n : Int)) none = xs.drop n := by
  unfold cutV
  rw [HT.sIx_nat, HT.sIx_none]
  have e : xs.drop (min n xs.length) = xs.drop n := by
    by_cases h : n ≤ xs.length
    · rw [Nat.min_eq_left h]
    · rw [Nat.min_eq_right (by omega), List.drop_length, List.drop_eq_nil_of_le (by omega)]
  rw [e]
  apply List.take_of_length_le
  rw [List.length_drop]
  omega
theorem nl_append (xs ys : List Nat) : nl (xs ++ ys) = nl xs ++ nl ys := by
  unfold nl
  rw [List.map_append]
theorem walk_enumS {k : Nat} {a : Addr} {xs : List V} : Walk (IteS K k a) xs.length (fun H => SqL K H a xs) (YPair (fun i => some (.int ((k + i : Nat) : Int))) (fun i => xs[i]?)) where
  goes := fun i _ more lst => ⟨xs, xs[i], lst, List.getElem?_eq_getElem more⟩
  stops := fun _ lst => ⟨xs, lst, rfl⟩
  yields := by
    rintro i H v H' _ lst ⟨T, x, pair, free, heap, item⟩
    exact ⟨T, _, x, pair, free, heap, rfl, item xs lst⟩
theorem RowsN.drop {H0 : Hp} {ws : List V} {xss : List (List Nat)} (h : RowsN H0 H ws xss) (j : Nat) : RowsN H0 H (ws.drop j) (xss.drop j) := ⟨by rw [List.length_drop, List.length_drop, h.1], fun i w xs hw hx => by
  rw [List.getElem?_drop] at hw hx
  exact h.2 _ w xs hw hx⟩
theorem getDL {l : List (List Nat)} {i : Nat} {x : List Nat} (h : l[i]? = some x) : l.getD i [] = x := by simp [List.getD, h]
/-- name = f(..), f gives new rows -/
theorem q_callR {σ : L2.St} {D : Ends} {tz : TS} {sp : Sp} {vs : List V} {Ex0 : XK} {ta : TA} {i : Nat} {xss : List (List Nat)} (h : EvA ta σ H vs) (hs : SpR sp vs H xss) (k : ∀ p H1 ws, H p = none → Ex H H1 → H1 p = some (.lst ws) → RowsN H H1 ws xss → tz D (σ.set i (some (.ref p))) H1) : tSeq (tAsg (tCall sp [] Ex0 ta) (gName i)) tz D σ H := h H (Ex.refl H) _ fun H1 e1 => by
  show sp (vs ++ []) H1 _ _
  rw [List.append_nil]
  exact hs H1 e1 _ (fun p H2 ws hp e2 h2 hr => k p H2 ws (Evl.fresh_back e1 hp) (e1.trans e2) h2 (hr.back e1)) _
theorem s_retR {σ : L2.St} {D : Ends} {sp : Sp} {vs : List V} {Ex0 : XK} {ta : TA} {xss : List (List Nat)} (h : EvA ta σ H vs) (hs : SpR sp vs H xss) (k : RetR xss H D.rt) : tRet (tCall sp [] Ex0 ta) D σ H := h H (Ex.refl H) _ fun H1 e1 => by
  show sp (vs ++ []) H1 _ _
  rw [List.append_nil]
  exact hs H1 e1 _ (fun p H2 ws hp e2 h2 hr => k p H2 ws (Evl.fresh_back e1 hp) (e1.trans e2) h2 (hr.back e1)) _
theorem len_pairs_of_ways (h : sp_pairs_of_ways K A vs H Q E) : vs.length = 1 := by
  obtain ⟨_, rfl, _⟩ := h
  rfl
theorem pure_pairs_of_ways (T : Txt K mg A) (h : sp_pairs_of_ways K A vs H Q E) : t_pairs_of_ways K A (De Q) (start ["count", "ways", "rows", "done", "first", "second"] vs) H := by
  obtain ⟨n, rfl, hn, kk⟩ := h
  refine q_callR (Evl.ea_cons (Evl.ev_var rfl) (Evl.ea_cons Evl.ev_c Evl.ea_nil)) (spr_rising (k := 2) hn (by decide)) fun p H1 ws hp e1 h1 hR => ?_
  rw [ris_pairs n (by omega)] at hR
  refine Evl.q_asgL (Evl.el_lst Evl.ea_nil (by simp)) fun l H2 hl e2 h2 => ?_
  have hpl : p ≠ l := fun z => by
    rw [← z, h1] at hl
    cases hl
  have hlH : H l = none := Evl.fresh_back e1 hl
  have h45 := pairs_small n (by omega)
  have h990 := twoPairs_small n (by omega)
  have hwl : ws.length = (Kh372.pairs n).length := hR.1
  -- the walk
  refine ⟨_, rfl, p, ws, rfl, Evl.sq_of (e2 _ _ h1), ?_⟩
  refine for_it (walk_enumS (K := K) (k := 1) (a := p) (xs := ws)) (fun j σ' H' => ∃ (v3 v4 : Option V) (wl : List V), σ' = [some (.int (n : Int)), some (.ref p), some (.ref l), v3, v4, none] ∧ Ex H1 H' ∧ H' l = some (.lst wl) ∧ RowsN H H' wl ((((Kh372.pairs n).zipIdx).take j).flatMap fun x => ((Kh372.pairs n).drop (x.2 + 1)).map fun y => x.1 ++ y) ∧ ∀ w ∈ wl, w ≠ .ref l) ?_ ?_ ?_ ?_
  · exact ⟨none, none, [], rfl, e2, h2, by simpa using RowsN.nil, fun w hw => absurd hw (by simp)⟩
  · rintro j σ' H' _ ⟨_, _, wl, rfl, e4, _⟩
    exact Evl.sq_of (e4 _ _ h1)
  · rintro j v σ' H3 H4 hj ⟨v3, v4, wl, rfl, e3, h3, hW, hne⟩ ⟨t, x, y, rfl, ht, rfl, hx, hy⟩
    have hx : V.int ((1 + j : Nat) : Int) = x := Option.some.inj hx
    subst hx
    have hy : ws[j]? = some y := hy
    obtain ⟨row, a, hrow, rfl, ha0, ha⟩ := hR.of hy
    have et : Ex H3 (upd H3 t (.tup [.int ((1 + j : Nat) : Int), .ref a])) := Ex.new ht
    refine ⟨t, _, rfl, Evl.st_of upd_same, rfl, _, _, rfl, _, _, rfl, rfl, ?_⟩
    have hz : ((Kh372.pairs n).zipIdx)[j]? = some (row, j) := by
      rw [List.getElem?_zipIdx, hrow]
      simp
    have hsn := flat_snoc (f := fun x : List Nat × Nat => ((Kh372.pairs n).drop (x.2 + 1)).map fun y => x.1 ++ y) hz
    have hlt := flat_take ((Kh372.pairs n).zipIdx) (fun x : List Nat × Nat => ((Kh372.pairs n).drop (x.2 + 1)).map fun y => x.1 ++ y) (j + 1)
    rw [hsn, List.length_append] at hlt
    have hlt : _ ≤ (Kh372.twoPairs n).length := hlt
    dsimp only at hlt
    have row2 := pairs_two (List.mem_of_getElem? hrow)
    have hdl : (ws.drop (j + 1)).length = ((Kh372.pairs n).drop (j + 1)).length := by rw [List.length_drop, List.length_drop, hwl]
    have e1j : ((1 + j : Nat) : Int) = ((j + 1 : Nat) : Int) := by omega
    have hsl : ∀ H5, Ex (upd H3 t (.tup [.int ((1 + j : Nat) : Int), .ref a])) H5 → EvL (tSl (rSlL K) (tVar 1) (tPart (tVar 3)) tNoPart) [some (.int (n : Int)), some (.ref p), some (.ref l), some (.int ((1 + j : Nat) : Int)), some (.ref a), none] H5 (ws.drop (j + 1)) := fun H5 e5 => by
      rw [← cutV_drop, ← e1j]
      exact Evl.el_sl (Evl.ev_var rfl) (Evl.eo_some (Evl.ev_var rfl)) Evl.eo_none (Evl.sq_of (e5 _ _ (et _ _ (e3 _ _ h1))))
    have hER := er_lcNL (K := K) (j := 5) (te := tOp rCat (tVar 4) (tVar 5)) (tt := tYes) (fun _ => true) (fun s => row ++ ((Kh372.pairs n).drop (j + 1)).getD s []) (hsl _ (Ex.refl _)) (by rw [hdl, List.length_drop]; omega) (fun i x H6 e6 hx => et_yes) (fun i x H6 e6 hx _ => by
      obtain ⟨row', a', hrow', rfl, _, ha'⟩ := (hR.drop (j + 1)).of hx
      rw [getDL hrow', nl_append]
      have row2' := pairs_two (List.mem_of_mem_drop (List.mem_of_getElem? hrow'))
      exact el_catB (Evl.ev_var rfl) (e6 _ _ (et _ _ (e3 _ _ ha))) (Evl.ev_var rfl) (e6 _ _ (et _ _ (e3 _ _ ha'))) (by rw [nl_len, nl_len]; omega))
    rw [hdl, givenR_list [] (fun _ => true) (fun y => row ++ y), List.filter_eq_self.mpr (fun _ _ => rfl)] at hER
    refine s_extR (et _ _ h3) (Evl.ev_var rfl) hER (by rw [hW.1]; omega) fun H6 ws' e6 hW' => ?_
    have hne' := hW'.mem (et _ _ h3)
    refine ⟨_, _, wl ++ ws', rfl, Ex.mut ((e3.trans et).trans e6) hl, upd_same, ?_, fun w hw => ?_⟩
    · rw [hsn]
      exact RowsN.append (RowsN.upd' hne ((hW.ex et).ex e6)) (RowsN.upd' hne' (hW'.back ((e1.trans e3).trans et)))
    · rcases List.mem_append.mp hw with z | z
      · exact hne w z
      · exact hne' w z
  · rintro σ' H3 ⟨v3, v4, wl, rfl, e3, h3, hW, hne⟩
    have e0 : ((Kh372.pairs n).zipIdx).take ws.length = (Kh372.pairs n).zipIdx := List.take_of_length_le (by rw [List.length_zipIdx, hwl]; exact Nat.le_refl _)
    rw [e0] at hW
    exact Evl.s_ret (Evl.ev_var rfl) fun H4 e4 => kk l H4 wl hlH ((e1.trans e3).trans e4) (e4 _ _ h3) (hW.ex e4)
theorem spr_pairs_of_ways {n : Nat} (hn : n ≤ 10) : SpR (sp_pairs_of_ways K A) [.int (n : Int)] H (Kh372.twoPairs n) := fun H1 e Q q _ => ⟨n, rfl, hn, q⟩
/-- middles -/
theorem len_middles (h : sp_middles K A vs H Q E) : vs.length = 1 := by
  obtain ⟨_, rfl, _⟩ := h
  rfl
theorem ev_ninL {σ : L2.St} {k : Nat} {p : Addr} {is : List Nat} {ta tb : TE} (h : Ev ta σ H (.int (k : Int))) (hb : Ev tb σ H (.ref p)) (hq : SqL K H p (nl is)) : Ev (tOp (rIn K true) ta tb) σ H (.bl (!is.contains k)) := by
  have r := Evl.ev_op h hb (Evl.rv_niL (K := K) (x := .int (k : Int)) hq rfl (flat_nl is))
  rw [inV_int] at r
  exact r
theorem pure_middles (T : Txt K mg A) (h : sp_middles K A vs H Q E) : t_middles K A (De Q) (start ["count", "ways", "rows", "a", "ends"] vs) H := by
  obtain ⟨n, rfl, hn, kk⟩ := h
  refine q_callR (Evl.ea_cons (Evl.ev_var rfl) (Evl.ea_cons Evl.ev_c Evl.ea_nil)) (spr_rising (k := 2) hn (by decide)) fun p H1 ws hp e1 h1 hR => ?_
  rw [ris_pairs n (by omega)] at hR
  refine Evl.q_asgL (Evl.el_lst Evl.ea_nil (by simp)) fun l H2 hl e2 h2 => ?_
  have hlH : H l = none := Evl.fresh_back e1 hl
  have h45 := pairs_small n (by omega)
  have h450 := middles_small n (by omega)
  have hwl : ws.length = (Kh372.pairs n).length := hR.1
  refine Evl.q_forR1 (n := (n : Int)) (Evl.ea_cons (Evl.ev_var rfl) Evl.ea_nil) ⟨by omega, by omega⟩ (fun j σ' H' => ∃ (v3 : Option V) (wl : List V), σ' = [some (.int (n : Int)), some (.ref p), some (.ref l), v3, none] ∧ Ex H1 H' ∧ H' l = some (.lst wl) ∧ RowsN H H' wl (((List.range n).take j).flatMap fun m => ((Kh372.pairs n).filter fun l => l.contains m == false).map fun l => m :: l) ∧ ∀ w ∈ wl, w ≠ .ref l) ?_ ?_ ?_
  · intro H3 e3
    exact ⟨none, [], rfl, e2.trans e3, e3 _ _ h2, by simpa using RowsN.nil, fun w hw => absurd hw (by simp)⟩
  · rintro j σ' H3 hj ⟨v3, wl, rfl, e3, h3, hW, hne⟩
    have hz : (List.range n)[j]? = some j := by
      rw [List.getElem?_range (by omega)]
    have hsn := flat_snoc (f := fun m => ((Kh372.pairs n).filter fun l => l.contains m == false).map fun l => m :: l) hz
    have hlt := flat_take (List.range n) (fun m => ((Kh372.pairs n).filter fun l => l.contains m == false).map fun l => m :: l) (j + 1)
    rw [hsn, List.length_append] at hlt
    have hlt : _ ≤ (Kh372.middles n).length := hlt
    have hER := er_lcL (K := K) (σ := [some (.int (n : Int)), some (.ref p), some (.ref l), some (.int (j : Int)), none]) (tl := tVar 1) (H := H3) (a := p) (j := 4) (te := tOp rCat (tLst (tCons (tVar 3) tNil)) (tVar 4)) (tt := tTest (tOp (rIn K true) (tVar 3) (tVar 4))) (fun s => ((Kh372.pairs n).getD s []).contains j == false) (fun s => j :: (Kh372.pairs n).getD s []) (Evl.ev_var rfl) (Evl.sq_of (e3 _ _ h1)) (by omega) (fun i x H6 e6 hx => by
        obtain ⟨row', a', hrow', rfl, _, ha'⟩ := hR.of hx
        rw [getDL hrow']
        refine Evl.et_is (Evl.et_test (ev_ninL (Evl.ev_var rfl) (Evl.ev_var rfl) (Evl.sq_of (e6 _ _ (e3 _ _ ha'))))) ?_
        cases row'.contains j <;> rfl) (fun i x H6 e6 hx _ => by
        obtain ⟨row', a', hrow', rfl, _, ha'⟩ := hR.of hx
        rw [getDL hrow']
        have row2' := pairs_two (List.mem_of_getElem? hrow')
        exact el_cat (xs := nl [j]) (Evl.el_lst (Evl.ea_cons (Evl.ev_var rfl) Evl.ea_nil) (by show 1 ≤ 100000; decide)) (Evl.ev_var rfl) (e6 _ _ (e3 _ _ ha')) (by rw [nl_len, List.length_map]; simp; omega))
    rw [hwl, givenR_list [] (fun l => l.contains j == false) (fun l => j :: l)] at hER
    refine s_extR h3 (Evl.ev_var rfl) hER (by rw [hW.1]; omega) fun H6 ws' e6 hW' => ?_
    have hne' := hW'.mem h3
    refine ⟨_, wl ++ ws', rfl, Ex.mut (e3.trans e6) hl, upd_same, ?_, fun w hw => ?_⟩
    · rw [hsn]
      exact RowsN.append (RowsN.upd' hne (hW.ex e6)) (RowsN.upd' hne' (hW'.back (e1.trans e3)))
    · rcases List.mem_append.mp hw with z | z
      · exact hne w z
      · exact hne' w z
  · rintro σ' H3 ⟨v3, wl, rfl, e3, h3, hW, hne⟩
    have e0 : (List.range n).take ((n : Int)).toNat = List.range n := List.take_of_length_le (by rw [List.length_range]; omega)
    rw [e0] at hW
    exact Evl.s_ret (Evl.ev_var rfl) fun H4 e4 => kk l H4 wl hlH ((e1.trans e3).trans e4) (e4 _ _ h3) (hW.ex e4)
theorem spr_middles {n : Nat} (hn : n ≤ 10) : SpR (sp_middles K A) [.int (n : Int)] H (Kh372.middles n) := fun H1 e Q q _ => ⟨n, rfl, hn, q⟩
/-- rows_to_ask -/
theorem asked_kinds {k n : Nat} {t : List (List Nat)} (h : Kh372.asked k n = some t) : (k = 0 ∧ t = Kh372.pairs n) ∨ (k = 1 ∧ t = Kh372.triples n) ∨ (k = 6 ∧ t = Kh372.fours n) ∨ ((k = 2 ∨ k = 3 ∨ k = 4) ∧ t = Kh372.twoPairs n) ∨ (k = 10 ∧ t = Kh372.middles n) := by
  unfold Kh372.asked at h
  split at h
  all_goals first
    | cases h
    | skip
  all_goals (try simp)
theorem len_rows_to_ask (h : sp_rows_to_ask K A vs H Q E) : vs.length = 2 := by
  obtain ⟨_, _, _, rfl, _⟩ := h
  rfl
theorem pure_rows_to_ask (T : Txt K mg A) (h : sp_rows_to_ask K A vs H Q E) : t_rows_to_ask K A (De Q) (start ["kind", "count"] vs) H := by
  obtain ⟨k, n, t, rfl, hn, hk, kk⟩ := h
  have hk := asked_kinds hk
  have hlt : k < 13 := by omega
  refine Evl.q_when (Evl.et_test (ev_inT (is := [0, 1, 6]) (Evl.ev_var rfl) (T.q_KINDS_RISING H))) (fun hb H1 e1 => ?_) (fun hb H1 e1 => ?_)
  · have ht : t = ris n (Kh372.pointsOf k) := by
      rcases hk with ⟨rfl, rfl⟩ | ⟨rfl, rfl⟩ | ⟨rfl, rfl⟩ | ⟨rfl | rfl | rfl, rfl⟩ | ⟨rfl, rfl⟩
      · exact (ris_pairs n (by omega)).symm
      · exact (ris_triples n (by omega)).symm
      · exact (ris_fours n (by omega)).symm
      all_goals exact absurd hb (by decide)
    have hp : Kh372.pointsOf k ≤ 10 := by
      rcases hk with ⟨rfl, rfl⟩ | ⟨rfl, rfl⟩ | ⟨rfl, rfl⟩ | ⟨rfl | rfl | rfl, rfl⟩ | ⟨rfl, rfl⟩ <;> decide
    rw [ht] at kk
    exact s_retR (Evl.ea_cons (Evl.ev_var rfl) (Evl.ea_cons (ev_pk T hlt (Evl.ev_var rfl)) Evl.ea_nil)) (spr_rising hn hp) fun p H2 ws hp e2 h2 hr => kk p H2 ws (Evl.fresh_back e1 hp) (e1.trans e2) h2 (hr.back e1)
  · refine Evl.q_when (Evl.et_test (ev_inT (is := [2, 3, 4]) (Evl.ev_var rfl) (T.q_KINDS_OF_WAYS H1))) (fun hb2 H2 e2 => ?_) (fun hb2 H2 e2 => ?_)
    · have ht : t = Kh372.twoPairs n := by
        rcases hk with ⟨rfl, rfl⟩ | ⟨rfl, rfl⟩ | ⟨rfl, rfl⟩ | ⟨rfl | rfl | rfl, rfl⟩ | ⟨rfl, rfl⟩
        all_goals first
          | rfl
          | exact absurd hb2 (by decide)
      rw [ht] at kk
      exact s_retR (Evl.ea_cons (Evl.ev_var rfl) Evl.ea_nil) (spr_pairs_of_ways hn) fun p H3 ws hp e3 h3 hr => kk p H3 ws (Evl.fresh_back (e1.trans e2) hp) ((e1.trans e2).trans e3) h3 (hr.back (e1.trans e2))
    · have ht : t = Kh372.middles n := by
        rcases hk with ⟨rfl, rfl⟩ | ⟨rfl, rfl⟩ | ⟨rfl, rfl⟩ | ⟨rfl | rfl | rfl, rfl⟩ | ⟨rfl, rfl⟩
        all_goals first
          | rfl
          | exact absurd hb (by decide)
          | exact absurd hb2 (by decide)
      rw [ht] at kk
      exact s_retR (Evl.ea_cons (Evl.ev_var rfl) Evl.ea_nil) (spr_middles hn) fun p H3 ws hp e3 h3 hr => kk p H3 ws (Evl.fresh_back (e1.trans e2) hp) ((e1.trans e2).trans e3) h3 (hr.back (e1.trans e2))
theorem spr_rows_to_ask {k n : Nat} {t : List (List Nat)} (hn : n ≤ 10) (hk : Kh372.asked k n = some t) : SpR (sp_rows_to_ask K A) [.int (k : Int), .int (n : Int)] H t := fun H1 e Q q _ => ⟨k, n, t, rfl, hn, hk, q⟩
end
end My

set_option Elab.async false
set_option linter.all false
set_option maxRecDepth 100000
set_option maxHeartbeats 4000000
namespace My
open PySem PySem.Spec PyProof.Rows L2
open Evl (Ev EvL EvU EvT EvA EvO Ex RV RU RC RCL SpV SpL)
section
variable {K : PySem.W.Frag} {mg : Str → Option Value} {A : Ad} {vs : List V} {H : Hp} {Q : VK} {E : XK}
/-! ### rising rows: all of them, in order -/
theorem lex_left (a : List Nat) {x y : List Nat} (h : Kh372.lexLess x y = true) : Kh372.lexLess (a ++ x) (a ++ y) = true := by
  induction a with
  | nil => exact h
  | cons z r ih =>
    show Kh372.lexLess (z :: (r ++ x)) (z :: (r ++ y)) = true
    unfold Kh372.lexLess
    rw [ih]
    simp
theorem lex_right : ∀ {a b : List Nat} (x y : List Nat), a.length = b.length → Kh372.lexLess a b = true → Kh372.lexLess (a ++ x) (b ++ y) = true
  | [], [], _, _, _, h => by cases h
  | [], _ :: _, _, _, h, _ => by simp at h
  | _ :: _, [], _, _, h, _ => by simp at h
  | p :: r, q :: s, x, y, hl, h => by
    show Kh372.lexLess (p :: (r ++ x)) (q :: (s ++ y)) = true
    unfold Kh372.lexLess at h ⊢
    simp only [Bool.or_eq_true, Bool.and_eq_true, decide_eq_true_eq] at h ⊢
    rcases h with h | ⟨h1, h2⟩
    · exact .inl h
    · exact .inr ⟨h1, lex_right x y (by simpa using hl) h2⟩
theorem ris_sorted (n : Nat) : ∀ k, (ris n k).Pairwise fun a b => Kh372.lexLess a b = true
  | 0 => by
    show [[]].Pairwise _
    simp
  | k + 1 => by
    rw [ris_succ]
    refine List.pairwise_flatMap.mpr ⟨fun a ha => ?_, ?_⟩
    · unfold moreR
      rw [List.pairwise_map]
      refine List.Pairwise.imp (fun {x y} h => ?_) (List.pairwise_lt_range' (s := stR k a) (n := n - stR k a))
      refine lex_left a ?_
      unfold Kh372.lexLess
      simp [h]
    · refine List.Pairwise.imp_of_mem (fun {a b} ha hb h x hx y hy => ?_) (ris_sorted n k)
      obtain ⟨u, _, rfl⟩ := List.mem_map.mp hx
      obtain ⟨v, _, rfl⟩ := List.mem_map.mp hy
      exact lex_right _ _ (by rw [ris_len k a ha, ris_len k b hb]) h
theorem last_mem {l : List Nat} (h : l ≠ []) : l.getLastD 0 ∈ l := by
  cases l with
  | nil => exact absurd rfl h
  | cons x r =>
    rw [List.getLastD_cons]
    exact List.getLastD_mem_cons
theorem last_top : ∀ {l : List Nat}, l.Pairwise (· < ·) → ∀ x ∈ l, x ≤ l.getLastD 0 := by
  intro l hp x hx
  rcases List.eq_nil_or_concat l with rfl | ⟨r, y, rfl⟩
  · cases hx
  · rw [List.concat_eq_append] at hp hx ⊢
    have e : (r ++ [y]).getLastD 0 = y := by simp [List.getLastD_eq_getLast?]
    rw [e]
    rcases List.mem_append.mp hx with z | z
    · exact Nat.le_of_lt ((List.pairwise_append.mp hp).2.2 x z y (by simp))
    · rw [List.mem_singleton.mp z]
      exact Nat.le_refl _
theorem ris_rising {n : Nat} : ∀ (k : Nat) (row : List Nat), row ∈ ris n k → row.Pairwise (· < ·)
  | 0, row, h => by
    rw [List.mem_singleton.mp h]
    exact .nil
  | k + 1, row, h => by
    rw [ris_succ] at h
    obtain ⟨r, hr, hx⟩ := List.mem_flatMap.mp h
    obtain ⟨x, hx', rfl⟩ := List.mem_map.mp hx
    have ih := ris_rising k r hr
    have hm := List.mem_range'_1.mp hx'
    refine List.pairwise_append.mpr ⟨ih, by simp, fun a ha b hb => ?_⟩
    rw [List.mem_singleton.mp hb]
    have hl := ris_len k r hr
    have h0 : 0 < k := by
      rw [← hl]
      exact List.length_pos_of_mem ha
    have := last_top ih a ha
    unfold stR at hm
    rw [if_pos h0] at hm
    omega
theorem mem_ris {n : Nat} : ∀ (k : Nat) (row : List Nat), row.length = k → row.Pairwise (· < ·) → (∀ x ∈ row, x < n) → row ∈ ris n k
  | 0, row, hl, _, _ => by
    rw [List.eq_nil_of_length_eq_zero hl]
    exact List.mem_singleton.mpr rfl
  | k + 1, row, hl, hp, hx => by
    rcases List.eq_nil_or_concat row with rfl | ⟨r, y, rfl⟩
    · simp at hl
    · rw [List.concat_eq_append] at hl hp hx ⊢
      obtain ⟨p1, _, p3⟩ := List.pairwise_append.mp hp
      rw [List.length_append] at hl
      have hl : r.length = k := by simpa using hl
      rw [ris_succ]
      refine List.mem_flatMap.mpr ⟨r, mem_ris k r hl p1 fun x h => hx x (by simp [h]), List.mem_map.mpr ⟨y, List.mem_range'_1.mpr ?_, rfl⟩⟩
      have hy : y < n := hx y (by simp)
      unfold stR
      by_cases h0 : 0 < k
      · rw [if_pos h0]
        have hrn : r ≠ [] := fun z => by
          rw [z] at hl
          simp at hl
          omega
        have := p3 _ (last_mem hrn) y (by simp)
        omega
      · rw [if_neg h0]
        omega
/-! ### the largest set -/
/-- the parts of a saying: three for a line, four for a circle -/
theorem parts_of {k s : Nat} (hk : k = 1 ∨ k = 6) (hs : s ≤ 10) : ris s (Kh372.pointsOf k) = if k = 1 then Kh372.triples s else Kh372.fours s := by
  rcases hk with rfl | rfl
  · exact ris_triples s (by omega)
  · exact ris_fours s (by omega)
theorem map_mem {n s : Nat} {r : List Nat} (hl : r.length = s) (hp : r.Pairwise (· < ·)) (hn : ∀ x ∈ r, x < n) {w : Nat} {t : List Nat} (ht : t ∈ ris s w) : t.map (fun i => r.getD i 0) ∈ ris n w := by
  have hlt := ris_lt w t ht
  have g : ∀ {i : Nat}, i < r.length → r.getD i 0 = r[i]! := fun {i} h => by simp [List.getD]
  refine mem_ris w _ (by rw [List.length_map]; exact ris_len w t ht) ?_ ?_
  · rw [List.pairwise_map]
    refine List.Pairwise.imp_of_mem (fun {a b} ha hb h => ?_) (ris_rising w t ht)
    have ha' : a < r.length := by rw [hl]; exact hlt a ha
    have hb' : b < r.length := by rw [hl]; exact hlt b hb
    have e1 : r.getD a 0 = r[a] := by simp [List.getD, ha']
    have e2 : r.getD b 0 = r[b] := by simp [List.getD, hb']
    rw [e1, e2]
    exact List.pairwise_iff_getElem.mp hp a b ha' hb' h
  · intro x hx
    obtain ⟨i, hi, rfl⟩ := List.mem_map.mp hx
    have hi' : i < r.length := by rw [hl]; exact hlt i hi
    have e1 : r.getD i 0 = r[i] := by simp [List.getD, hi']
    rw [e1]
    exact hn _ (List.getElem_mem hi')
theorem wholly_iff {ps : List Pt} {k : Nat} {S : List (List Nat)} (hk : k = 1 ∨ k = 6) (hn : ps.length ≤ 10) (hS : S = (ris ps.length (Kh372.pointsOf k)).filter fun l => Kh372.says ps k l) {r : List Nat} (hp : r.Pairwise (· < ·)) (hx : ∀ x ∈ r, x < ps.length) (hl : r.length ≤ 10) :
    ((ris r.length (Kh372.pointsOf k)).all fun t => S.contains (t.map fun i => r.getD i 0)) = Kh372.wholly ps k r := by
  unfold Kh372.wholly
  rw [← parts_of hk hl]
  apply Bool.eq_iff_iff.mpr
  rw [List.all_eq_true, List.all_eq_true]
  have key : ∀ t ∈ ris r.length (Kh372.pointsOf k), S.contains (t.map fun i => r.getD i 0) = Kh372.says ps k (t.map fun i => r.getD i 0) := by
    intro t ht
    have hm := map_mem rfl hp hx ht
    apply Bool.eq_iff_iff.mpr
    rw [List.contains_iff_mem, hS, List.mem_filter]
    exact ⟨fun h => h.2, fun h => ⟨hm, h⟩⟩
  constructor
  · intro h t ht
    rw [← key t ht]
    exact h t ht
  · intro h t ht
    rw [key t ht]
    exact h t ht
theorem rise_le {n : Nat} {r : List Nat} (hp : r.Pairwise (· < ·)) (hx : ∀ x ∈ r, x < n) : r.length ≤ n := by
  have h1 : r.Nodup := hp.imp fun h => Nat.ne_of_lt h
  have := nat_nodup_len r (List.range n) h1 fun x h => List.mem_range.mpr (hx x h)
  rw [List.length_range] at this
  exact this
theorem most_of {ps : List Pt} {k s : Nat} {S : List (List Nat)} {r : List Nat} {rest : List (List Nat)} (hk : k = 1 ∨ k = 6) (hn : ps.length ≤ 10) (hS : S = (ris ps.length (Kh372.pointsOf k)).filter fun l => Kh372.says ps k l) (hs : s ≤ ps.length)
    (h : setsT ps.length s (Kh372.pointsOf k) S = r :: rest) (hmore : ∀ s', s < s' → s' ≤ ps.length → setsT ps.length s' (Kh372.pointsOf k) S = []) : Kh372.most ps k = r := by
  have hr : r ∈ setsT ps.length s (Kh372.pointsOf k) S := by rw [h]; simp
  unfold setsT at hr
  obtain ⟨hr1, hr2⟩ := List.mem_filter.mp hr
  have hrl := ris_len s r hr1
  have hrp := ris_rising s r hr1
  have hrx := ris_lt s r hr1
  have inS : ∀ u : List Nat, u.Pairwise (· < ·) → (∀ x ∈ u, x < ps.length) → Kh372.wholly ps k u = true → u ∈ setsT ps.length u.length (Kh372.pointsOf k) S := by
    intro u hu hx hw
    have hul := rise_le hu hx
    unfold setsT
    refine List.mem_filter.mpr ⟨mem_ris _ u rfl hu hx, ?_⟩
    rw [wholly_iff hk hn hS hu hx (by omega)]
    exact hw
  refine most_eq hrp hrx ?_ fun u hu hx hw => ?_
  · rw [← wholly_iff hk hn hS hrp hrx (by omega), hrl]
    exact hr2
  · have hm := inS u hu hx hw
    have hul := rise_le hu hx
    cases hb : Kh372.better u r with
    | false => rfl
    | true =>
      exfalso
      rcases better_iff.mp hb with z | ⟨z1, z2⟩
      · rw [hmore u.length (by omega) hul] at hm
        cases hm
      · rw [z1, hrl, h] at hm
        have hsrt : (setsT ps.length s (Kh372.pointsOf k) S).Pairwise fun a b => Kh372.lexLess a b = true := List.Pairwise.filter _ (ris_sorted ps.length s)
        rw [h] at hsrt
        rcases List.mem_cons.mp hm with q | q
        · rw [q, lexLess_irrefl] at z2
          cases z2
        · have z3 := (List.pairwise_cons.mp hsrt).1 u q
          have z4 := lexLess_trans z2 z3
          rw [lexLess_irrefl] at z4
          cases z4
theorem ris_zero (w : Nat) : ris 0 (w + 1) = [] := by
  induction w with
  | zero => rfl
  | succ w ih =>
    rw [ris_succ, ih]
    rfl
theorem setsT_zero (n w : Nat) (S : List (List Nat)) : setsT n 0 (w + 1) S = [[]] := by
  unfold setsT
  rw [ris_zero]
  rfl
/-! ### rows asked -/
theorem two_ok : ∀ n < 11, (Kh372.twoPairs n).all (fun l => decide (l.length = 4) && l.all fun i => decide (i < n)) = true := by decide +kernel
theorem mid_ok : ∀ n < 11, (Kh372.middles n).all (fun l => decide (l.length = 3) && l.all fun i => decide (i < n)) = true := by decide +kernel
theorem asked_ok {k n : Nat} {t : List (List Nat)} (hn : n ≤ 10) (h : Kh372.asked k n = some t) : k < 13 ∧ k ≠ 5 ∧ t.length ≤ 990 ∧ ∀ l ∈ t, l.length = Kh372.pointsOf k ∧ ∀ i ∈ l, i < n := by
  have open1 : ∀ {c : Nat} {l : List Nat}, (decide (l.length = c) && l.all fun i => decide (i < n)) = true → l.length = c ∧ ∀ i ∈ l, i < n := by
    intro c l h
    rw [Bool.and_eq_true] at h
    exact ⟨of_decide_eq_true h.1, fun i hi => of_decide_eq_true (List.all_eq_true.mp h.2 i hi)⟩
  rcases asked_kinds h with ⟨rfl, rfl⟩ | ⟨rfl, rfl⟩ | ⟨rfl, rfl⟩ | ⟨hk, rfl⟩ | ⟨rfl, rfl⟩
  · rw [← ris_pairs n (by omega)]
    exact ⟨by decide, by decide, Nat.le_trans (ris_small n (by omega) 2 (by decide)) (by decide), fun l hl => ⟨ris_len 2 l hl, ris_lt 2 l hl⟩⟩
  · rw [← ris_triples n (by omega)]
    exact ⟨by decide, by decide, Nat.le_trans (ris_small n (by omega) 3 (by decide)) (by decide), fun l hl => ⟨ris_len 3 l hl, ris_lt 3 l hl⟩⟩
  · rw [← ris_fours n (by omega)]
    exact ⟨by decide, by decide, Nat.le_trans (ris_small n (by omega) 4 (by decide)) (by decide), fun l hl => ⟨ris_len 4 l hl, ris_lt 4 l hl⟩⟩
  · refine ⟨by omega, by omega, twoPairs_small n (by omega), fun l hl => ?_⟩
    have hp : Kh372.pointsOf k = 4 := by
      rcases hk with rfl | rfl | rfl <;> rfl
    rw [hp]
    exact open1 (List.all_eq_true.mp (two_ok n (by omega)) l hl)
  · exact ⟨by decide, by decide, Nat.le_trans (middles_small n (by omega)) (by decide), fun l hl => open1 (List.all_eq_true.mp (mid_ok n (by omega)) l hl)⟩
end
end My

set_option Elab.async false
set_option linter.all false
set_option maxRecDepth 100000
set_option maxHeartbeats 4000000
namespace My
open PySem PySem.Spec PyProof.Rows L2
open Evl (Ev EvL EvU EvT EvA EvO Ex RV RU RC RCL SpV SpL)
section
variable {K : PySem.W.Frag} {mg : Str → Option Value} {A : Ad} {vs : List V} {H : Hp} {Q : VK} {E : XK}
/-- rows of which some stay -/
theorem RowsN.given {H0 : Hp} {ws : List V} {t : List (List Nat)} {p : List Nat → Bool} {f : Nat → Bool} (h : RowsN H0 H ws t) (hf : ∀ i, f i = p (t.getD i [])) : RowsN H0 H (Evl.given ws.length f fun i => ws.getD i .non) (t.filter p) := by
  have e0 := givenR_list [] p id t
  rw [List.map_id] at e0
  have e1 : f = fun i => p (t.getD i []) := funext hf
  rw [← e0, e1, h.1]
  unfold Evl.given givenR
  refine ⟨by rw [List.length_map, List.length_map], fun i w xs hw hx => ?_⟩
  rw [List.getElem?_map] at hw hx
  cases hi : ((List.range t.length).filter fun i => p (t.getD i []))[i]? with
  | none =>
    rw [hi] at hw
    cases hw
  | some j =>
    rw [hi] at hw hx
    have hj := List.mem_range.mp (List.mem_filter.mp (List.mem_of_getElem? hi)).1
    have hjw : j < ws.length := by rw [h.1]; exact hj
    have w1 : ws[j]? = some ws[j] := List.getElem?_eq_getElem hjw
    have x1 : t[j]? = some t[j] := List.getElem?_eq_getElem hj
    have hw : ws.getD j .non = w := Option.some.inj hw
    have hx : t.getD j [] = xs := Option.some.inj hx
    have d1 : ws.getD j .non = ws[j] := by simp [List.getD, w1]
    rw [getDL x1] at hx
    rw [d1] at hw
    subst hw hx
    exact h.2 j _ _ w1 x1
theorem RowsT.pick {ws : List V} {qs : List (List Int)} (h : RowsT K H ws qs) {row : List Nat} (hr : ∀ i ∈ row, i < qs.length) : RowsT K H (row.map fun i => ws.getD i .non) (row.map fun i => qs.getD i []) := by
  refine ⟨by rw [List.length_map, List.length_map], fun i w q hw hq => ?_⟩
  rw [List.getElem?_map] at hw hq
  cases hi : row[i]? with
  | none =>
    rw [hi] at hw
    cases hw
  | some j =>
    rw [hi] at hw hq
    have hj := hr j (List.mem_of_getElem? hi)
    have hjw : j < ws.length := by rw [h.1]; exact hj
    have w1 : ws[j]? = some ws[j] := List.getElem?_eq_getElem hjw
    have x1 : qs[j]? = some qs[j] := List.getElem?_eq_getElem hj
    have hw : ws.getD j .non = w := Option.some.inj hw
    have hq : qs.getD j [] = q := Option.some.inj hq
    have d1 : ws.getD j .non = ws[j] := by simp [List.getD, w1]
    have d2 : qs.getD j [] = qs[j] := by simp [List.getD, x1]
    rw [d1] at hw
    rw [d2] at hq
    subst hw hq
    exact h.2 j _ _ w1 x1
/-- [p[k] for k in row] -/
theorem el_pick {σ : L2.St} {tl tp : TE} {r p : Addr} {row : List Nat} {ws : List V} {j : Nat} (hl : Ev tl σ H (.ref r)) (hr : SqL K H r (nl row)) (hz : row.length ≤ 40000) (hp : ∀ x H1, Ex H H1 → Ev tp ((wipe σ [j]).set j (some x)) H1 (.ref p)) (hj : j < σ.length) (hw : SqL K H p ws) (hi : ∀ i ∈ row, i < ws.length) :
    EvL (tLc (iList K tl) (gName j) tYes (tOp (rIxL K) tp (tVar j)) [j]) σ H (row.map fun i => ws.getD i .non) := by
  have g := el_map (K := K) (σ := σ) (te := tOp (rIxL K) tp (tVar j)) (tl := tl) (j := j) (fun v => match v with | .int i => ws.getD i.toNat .non | _ => .non) hl hr (by rw [nl_len]; exact hz) fun x hx H1 e1 => by
    obtain ⟨i, him, rfl⟩ := List.mem_map.mp hx
    have hil := hi i him
    have w1 : ws[i]? = some (ws.getD i .non) := by simp [List.getD, hil]
    have hs : ((wipe σ [j]).set j (some (.int (i : Int))))[j]? = some (some (.int (i : Int))) := List.getElem?_set_self (by rw [wipe_length]; exact hj)
    exact Evl.ev_op (hp _ H1 e1) (Evl.ev_var hs) (Evl.rv_ixL (Evl.ex_l e1 hw) (atI_nat w1))
  have e : (nl row).map (fun v => match v with | .int i => ws.getD i.toNat .non | _ => V.non) = row.map fun i => ws.getD i .non := by
    unfold nl
    rw [List.map_map]
    rfl
  rw [e] at g
  exact g
section
variable {σ : L2.St} {D : Ends} {tz tu : TS} {ta tb td te tv ty : TE} {tt : TT} {g : TG}
theorem eu_tupleN {xs : List V} (h : EvL ta σ H xs) : EvU (tThen ta (kTup K)) σ H xs := fun H1 e Q q => h H1 e _ fun p H2 hp e2 h2 => .inl ⟨p, xs, rfl, Evl.sq_of h2, fun r hr => q r _ (Evl.fresh_back e2 hr) (e2.trans (Ex.new hr)) upd_same⟩
theorem eu_tupleL {xs : List V} {a : Addr} (h : Ev ta σ H (.ref a)) (ha : SqL K H a xs) : EvU (tThen ta (kTup K)) σ H xs := fun H1 e Q q => h H1 e _ fun H2 e2 => .inl ⟨a, xs, rfl, Evl.ex_l (e.trans e2) ha, fun r hr => q r _ (Evl.fresh_back e2 hr) (e2.trans (Ex.new hr)) upd_same⟩
theorem ev_dnotin {d : Addr} {kvs : List (List L2.Key × V)} {k : List L2.Key} (h : EvU ty σ H (k.map kV)) (hd : Ev td σ H (.ref d)) (hD : H d = some (.dT kvs)) : Ev (tDNotIn ty td) σ H (.bl (!(valV kvs k).isSome)) := fun H1 e Q q => h H1 e _ fun b H2 hb e2 h2 => hd H2 (e.trans e2) _ fun H3 e3 => ⟨d, _, rfl, DGet.t (e3 _ _ (e2 _ _ (e _ _ hD))) (e3 _ _ h2), q H3 (e2.trans e3)⟩
theorem s_dputT {d : Addr} {kvs : List (List L2.Key × V)} {k : List L2.Key} {v : V} (hd : Ev td σ H (.ref d)) (hD : H d = some (.dT kvs)) (hy : EvU ty σ H (k.map kV)) (hv : Ev tv σ H v) (hl : kvs.length < sizeLine) (kk : ∀ H1, Ex H H1 → D.nx σ (upd H1 d (.dT (putK kvs k v)))) : sDPut td ty tv D σ H :=
  hv H (Ex.refl H) _ fun H1 e1 => hd H1 e1 _ fun H2 e2 => hy H2 (e1.trans e2) _ fun b H3 hb e3 h3 => ⟨d, _, rfl, DPut.t (((e1.trans e2).trans e3) _ _ hD) h3 hl, kk H3 ((e1.trans e2).trans e3)⟩
theorem q_dnewT {i : Nat} (k : ∀ d, H d = none → tz D (σ.set i (some (.ref d))) (upd H d (.dT []))) : tSeq (tAsg tDNewT (gName i)) tz D σ H := k
theorem s_retQ (h : te σ H D.rt) : tRet te D σ H := h
theorem q_forCall {sp : Sp} {vs : List V} {ta : TA} (hA : EvA ta σ H vs) (k : ∀ H1, Ex H H1 → sp vs H1 (fun v H2 => tSeq (tFor (iList K (tC v)) g tu) tz D σ H2) E0) : tSeq (tFor (iList K (tCall sp [] E0 ta)) g tu) tz D σ H := hA H (Ex.refl H) (fun vs H1 => sp (vs ++ []) H1 (fun v H2 => tSeq (tFor (iList K (tC v)) g tu) tz D σ H2) E0) fun H1 e1 => by
  show sp (vs ++ []) H1 _ _
  rw [List.append_nil]
  exact k H1 e1
theorem s_callR {sp : Sp} {vs : List V} {ta : TA} {i : Nat} {xss : List (List Nat)} (h : EvA ta σ H vs) (hs : SpR sp vs H xss) (k : ∀ p H1 ws, H p = none → Ex H H1 → H1 p = some (.lst ws) → RowsN H H1 ws xss → D.nx (σ.set i (some (.ref p))) H1) : tAsg (tCall sp [] E0 ta) (gName i) D σ H := h H (Ex.refl H) _ fun H1 e1 => by
  show sp (vs ++ []) H1 _ _
  rw [List.append_nil]
  exact hs H1 e1 _ (fun p H2 ws hp e2 h2 hr => k p H2 ws (Evl.fresh_back e1 hp) (e1.trans e2) h2 (hr.back e1)) _
theorem ev_call3 {sp : Sp} {t0 t1 t2 : TE} {v0 z : V} {xs ys : List V} (h0 : Ev t0 σ H v0) (h1 : EvL t1 σ H xs) (h2 : EvL t2 σ H ys) (hs : ∀ b o H1, Ex H H1 → H1 b = some (.lst xs) → H1 o = some (.lst ys) → SpV sp [v0, .ref b, .ref o] H1 z) : Ev (tCall sp [] E0 (tCons t0 (tCons t1 (tCons t2 tNil)))) σ H z := fun H1 e Q q =>
  h0 H1 e _ fun H2 e2 => h1 H2 (e.trans e2) _ fun b H3 hb e3 h3 => h2 H3 ((e.trans e2).trans e3) _ fun o H4 ho e4 h4 => hs b o H4 (((e.trans e2).trans e3).trans e4) (e4 _ _ h3) h4 H4 (Ex.refl H4) Q (fun H5 e5 => q H5 (((e2.trans e3).trans e4).trans e5)) E0
/-- [x for x in f(..) if t] -/
theorem er_sift {sp : Sp} {vs : List V} {ta : TA} {t : List (List Nat)} {j : Nat} (p : List Nat → Bool) (hA : EvA ta σ H vs) (hs : SpR sp vs H t) (hz : t.length ≤ 40000) (hj : j < σ.length)
    (ht : ∀ a row H1, Ex H H1 → H1 a = some (.lst (nl row)) → row ∈ t → EvT tt ((wipe σ [j]).set j (some (.ref a))) H1 (p row)) (Q : VK) (q : RetR (t.filter p) H Q) : tLc (iList K (tCall sp [] E0 ta)) (gName j) tt (tVar j) [j] σ H Q :=
  hA H (Ex.refl H) (fun vs H1 => sp (vs ++ []) H1 (fun v H2 => tLc (iList K (tC v)) (gName j) tt (tVar j) [j] σ H2 Q) E0) fun H0 e0 => by
    show sp (vs ++ []) H0 _ _
    rw [List.append_nil]
    refine hs H0 e0 _ (fun r H1 wr hr0 e1 h1 hR => ?_) E0
    have hRH : RowsN H H1 wr t := hR.back e0
    have ee := e0.trans e1
    have hsl : ∀ x : V, ((wipe σ [j]).set j (some x))[j]? = some (some x) := fun x => List.getElem?_set_self (by rw [wipe_length]; exact hj)
    refine Evl.el_lcL (K := K) (a := r) (xs := wr) (vs := [j]) (fun i => p (t.getD i [])) (fun i => wr.getD i .non) Evl.ev_c (Evl.sq_of h1) (by rw [hR.1]; exact hz) (wipe1 j) (fun i x H2 e2 hx => ?_) (fun i x H2 e2 hx _ => ?_) H1 (Ex.refl H1) _ fun d H2 hd e2 h2 => ?_
    · obtain ⟨row, a, hrow', rfl, _, ha⟩ := hRH.of hx
      rw [getDL hrow']
      exact ht a row H2 (ee.trans e2) (e2 _ _ ha) (List.mem_of_getElem? hrow')
    · have d1 : wr.getD i .non = x := by simp [List.getD, hx]
      rw [d1]
      exact Evl.ev_var (hsl x)
    · exact q d H2 _ (Evl.fresh_back ee hd) (ee.trans e2) h2 ((hRH.ex e2).given fun i => rfl)
end
theorem len_rows_so (h : sp_rows_so K A vs H Q E) : vs.length = 2 := by
  obtain ⟨_, _, _, _, _, rfl, _⟩ := h
  rfl
theorem whl_len (ps : List Pt) : (whl ps).length = ps.length := List.length_map _
theorem whl_pick (ps : List Pt) {row : List Nat} (h : ∀ i ∈ row, i < ps.length) : (row.map fun i => (whl ps).getD i []) = (row.map (Kh372.pt ps)).map (Pq (comW ps)) := by
  rw [List.map_map]
  apply List.map_congr_left
  intro i hi
  have hl := h i hi
  have e1 : ps[i]? = some ps[i] := List.getElem?_eq_getElem hl
  show (whl ps).getD i [] = Pq (comW ps) (ps.getD i ⟨0, 0, 0⟩)
  unfold whl
  rw [getD_of e1]
  simp [List.getD, e1]
theorem pt_mem {ps : List Pt} {i : Nat} (h : i < ps.length) : Kh372.pt ps i ∈ ps := by
  have e1 : ps[i]? = some ps[i] := List.getElem?_eq_getElem h
  unfold Kh372.pt
  rw [getD_of e1]
  exact List.getElem_mem h
theorem says_eq {ps : List Pt} {k : Nat} {l : List Nat} (hl : l.length = Kh372.pointsOf k) : Kh372.says ps k l = Kh372.so k (l.map (Kh372.pt ps)) (l.getD 4 0 : Nat) (l.getD 5 0 : Nat) := by
  unfold Kh372.says
  rw [← hl, List.take_length]
  rfl
theorem Pq_two (c : Int) (p : Pt) : (Pq c p).length = 2 := rfl
theorem pure_rows_so (T : Txt K mg A) (h : sp_rows_so K A vs H Q E) : t_rows_so K A (De Q) (start ["kind", "p", "row", "k"] vs) H := by
  obtain ⟨k, p, ws, ps, t, rfl, hp, hr, hg, hk, kk⟩ := h
  have hn := hg.2
  obtain ⟨k13, k5, t990, hrow⟩ := asked_ok hn hk
  have hwl : ws.length = ps.length := hr.1.trans (whl_len ps)
  have hlen := ev_lenS (K := K) (σ := start ["kind", "p", "row", "k"] [.int (k : Int), .ref p]) (ta := tVar 1) (H := H) (Evl.ev_var rfl) (.inl hp)
  rw [hwl] at hlen
  refine s_retQ (er_sift (fun l => Kh372.says ps k l) (Evl.ea_cons (Evl.ev_var rfl) (Evl.ea_cons hlen Evl.ea_nil)) (spr_rows_to_ask hn hk) (by omega) (by show 2 < 4; decide) (fun a row H2 e2 ha hmem => ?_) _ kk)
  obtain ⟨l1, l2⟩ := hrow row hmem
  rw [says_eq l1]
  have lp : Kh372.pointsOf k ≤ 6 := by
    have hk13 : k = 0 ∨ k = 1 ∨ k = 2 ∨ k = 3 ∨ k = 4 ∨ k = 5 ∨ k = 6 ∨ k = 7 ∨ k = 8 ∨ k = 9 ∨ k = 10 ∨ k = 11 ∨ k = 12 := by omega
    rcases hk13 with rfl | rfl | rfl | rfl | rfl | rfl | rfl | rfl | rfl | rfl | rfl | rfl | rfl <;> decide
  have hpk := el_pick (K := K) (σ := (wipe (start ["kind", "p", "row", "k"] [.int (k : Int), .ref p]) [2]).set 2 (some (.ref a))) (tl := tVar 2) (tp := tVar 1) (H := H2) (j := 3) (row := row) (Evl.ev_var rfl) (Evl.sq_of ha) (by omega) (fun x H3 e3 => Evl.ev_var rfl) (by show 3 < 4; decide) (Evl.ex_l e2 hp) (by rw [hwl]; exact l2)
  have hm : ∀ q ∈ row.map (Kh372.pt ps), q ∈ ps := fun q hq => by
    obtain ⟨i, hi, rfl⟩ := List.mem_map.mp hq
    exact pt_mem (l2 i hi)
  rw [← soQ_whl hg k13 (by rw [List.length_map]; exact l1) hm]
  refine Evl.et_B (ev_call3 (Evl.ev_var rfl) hpk (Evl.el_lst Evl.ea_nil (by simp)) fun b o H5 e5 hb ho => ?_)
  have hrt : RowsT K H5 (row.map fun i => ws.getD i .non) ((row.map (Kh372.pt ps)).map (Pq (comW ps))) := by
    rw [← whl_pick ps l2]
    exact ((hr.ex e2).ex e5).pick (by rw [whl_len]; exact l2)
  refine spv_is_so k13 (Evl.sq_of hb) hrt (fun q hq => ?_) (by rw [List.length_map, List.length_map]; exact l1) (fun q hq => ?_) (fun z => absurd z k5)
  · obtain ⟨u, hu, rfl⟩ := List.mem_map.mp hq
    exact Pq_bd (hg.1 u (hm u hu)) (comW_ok hg).2.2
  · obtain ⟨u, hu, rfl⟩ := List.mem_map.mp hq
    rfl
theorem spr_rows_so {k : Nat} {p : Addr} {ws : List V} {ps : List Pt} {t : List (List Nat)} (hp : SqL K H p ws) (hr : RowsT K H ws (whl ps)) (hg : GoodS ps) (hk : Kh372.asked k ps.length = some t) : SpR (sp_rows_so K A) [.int (k : Int), .ref p] H (t.filter fun l => Kh372.says ps k l) := fun H1 e Q q _ => ⟨k, p, ws, ps, t, rfl, Evl.ex_l e hp, hr.ex e, hg, hk, q⟩
/-- is_so_throughout -/
theorem len_is_so_throughout (h : sp_is_so_throughout K A vs H Q E) : vs.length = 3 := by
  obtain ⟨_, _, _, _, _, _, _, _, rfl, _⟩ := h
  rfl
theorem key_nl (l : List Nat) : (l.map keyN).map kV = nl l := by
  unfold nl
  rw [List.map_map]
  rfl
theorem RowsN.any {H0 : Hp} {ws : List V} {xss : List (List Nat)} (h : RowsN H0 H ws xss) : RowsN (fun _ => none) H ws xss := ⟨h.1, fun i w xs hw hx => by
  obtain ⟨a, e1, e2, e3⟩ := h.2 i w xs hw hx
  exact ⟨a, e1, rfl, e3⟩⟩
theorem pick_nl {mem : List Nat} {t : List Nat} (h : ∀ i ∈ t, i < mem.length) : (t.map fun i => (nl mem).getD i .non) = nl (t.map fun i => mem.getD i 0) := by
  unfold nl
  rw [List.map_map]
  apply List.map_congr_left
  intro i hi
  have hl := h i hi
  have e1 : mem[i]? = some mem[i] := List.getElem?_eq_getElem hl
  simp [List.getD, e1]
theorem pure_is_so_throughout (T : Txt K mg A) (h : sp_is_so_throughout K A vs H Q E) : t_is_so_throughout K A (De Q) (start ["members", "parts", "so", "part", "k"] vs) H := by
  obtain ⟨m, p, d, mem, ws, parts, kvs, S, rfl, hm, hp, hr, hd, hS, ht, kk⟩ := h
  refine Evl.q_forLn (Evl.ev_var rfl) hp (fun i σ' H' => ∃ v3 : Option V, σ' = [some (.ref m), some (.ref p), some (.ref d), v3, none] ∧ Ex H H' ∧ ((parts.take i).all fun t => S.contains (t.map fun i => mem.getD i 0)) = true) (fun H1 e1 => ⟨none, rfl, e1, rfl⟩) ?_ ?_ ?_
  · rintro i σ' H' _ ⟨v3, rfl, e1, _⟩
    exact Evl.ex_l e1 hp
  · rintro i x σ' H1 hx ⟨v3, rfl, e1, hall⟩
    obtain ⟨t, a, htt, rfl, _, ha⟩ := hr.of hx
    obtain ⟨t1, t2⟩ := ht t (List.mem_of_getElem? htt)
    have hb : EvT (tB (tDNotIn (tThen (tLc (iList K (tVar 3)) (gName 4) tYes (tOp (rIxL K) (tVar 0) (tVar 4)) [4]) (kTup K)) (tVar 2))) [some (.ref m), some (.ref p), some (.ref d), some (.ref a), none] H1 (!S.contains (t.map fun i => mem.getD i 0)) := by
      have hpk := el_pick (K := K) (σ := [some (.ref m), some (.ref p), some (.ref d), some (.ref a), none]) (tl := tVar 3) (tp := tVar 0) (H := H1) (j := 4) (row := t) (ws := nl mem) (p := m) (Evl.ev_var rfl) (Evl.sq_of (e1 _ _ ha)) (by omega) (fun x H3 e3 => Evl.ev_var rfl) (by show 4 < 5; decide) (Evl.ex_l e1 hm) (by rw [nl_len]; exact t2)
      rw [pick_nl t2] at hpk
      rw [← key_nl] at hpk
      rw [← hS]
      exact Evl.et_B (ev_dnotin (eu_tupleN hpk) (Evl.ev_var rfl) (e1 _ _ hd))
    have hsn := take_snoc htt
    refine Evl.s_when hb (fun hf H2 e2 => ?_) (fun hf H2 e2 => ?_)
    · refine Evl.s_ret Evl.ev_c fun H3 e3 => ?_
      have k2 := kk H3 ((e1.trans e2).trans e3)
      have e0 : (parts.all fun t => S.contains (t.map fun i => mem.getD i 0)) = false := by
        cases hq : (parts.all fun t => S.contains (t.map fun i => mem.getD i 0)) with
        | false => rfl
        | true =>
          have := List.all_eq_true.mp hq t (List.mem_of_getElem? htt)
          rw [nb_t hf] at this
          cases this
      rw [e0] at k2
      exact k2
    · refine ⟨_, rfl, e1.trans e2, ?_⟩
      rw [hsn, List.all_append, hall]
      show (S.contains (t.map fun i => mem.getD i 0) && true) = true
      rw [nb_f hf]
      rfl
  · rintro σ' H1 ⟨v3, rfl, e1, hall⟩
    rw [hr.1, List.take_length] at hall
    refine Evl.s_ret Evl.ev_c fun H2 e2 => ?_
    have k2 := kk H2 (e1.trans e2)
    rw [hall] at k2
    exact k2
theorem spv_is_so_throughout {m p d : Addr} {mem : List Nat} {ws : List V} {parts : List (List Nat)} {kvs : List (List L2.Key × V)} {S : List (List Nat)} (hm : SqL K H m (nl mem)) (hp : SqL K H p ws) (hr : RowsN (fun _ => none) H ws parts) (hd : H d = some (.dT kvs)) (hS : DictS kvs S) (ht : ∀ t ∈ parts, t.length ≤ 1000 ∧ ∀ i ∈ t, i < mem.length) :
    SpV (sp_is_so_throughout K A) [.ref m, .ref p, .ref d] H (.bl (parts.all fun t => S.contains (t.map fun i => mem.getD i 0))) := fun H1 e Q q _ => ⟨m, p, d, mem, ws, parts, kvs, S, rfl, Evl.ex_l e hm, Evl.ex_l e hp, hr.ex e, e _ _ hd, hS, ht, q⟩
/-- sets_throughout -/
theorem len_sets_throughout (h : sp_sets_throughout K A vs H Q E) : vs.length = 4 := by
  obtain ⟨_, _, _, _, _, _, rfl, _⟩ := h
  rfl
theorem pure_sets_throughout (T : Txt K mg A) (h : sp_sets_throughout K A vs H Q E) : t_sets_throughout K A (De Q) (start ["count", "size", "width", "so", "parts", "members"] vs) H := by
  obtain ⟨n, k, w, d, kvs, S, rfl, hn, hk, hw, hd, hS, kk⟩ := h
  refine q_callR (Evl.ea_cons (Evl.ev_var rfl) (Evl.ea_cons (Evl.ev_var rfl) Evl.ea_nil)) (spr_rising hk hw) fun p H1 wp hp e1 h1 hP => ?_
  have h252 := ris_small n (by omega) k (by omega)
  refine s_retQ (er_sift (fun mem => (ris k w).all fun t => S.contains (t.map fun j => mem.getD j 0)) (Evl.ea_cons (Evl.ev_var rfl) (Evl.ea_cons (Evl.ev_var rfl) Evl.ea_nil)) (spr_rising hn hk) (by omega) (by show 5 < 6; decide) (fun a row H2 e2 ha hmem => ?_) _ fun c H2 wc hc e2 h2 hW => kk c H2 wc (Evl.fresh_back e1 hc) (e1.trans e2) h2 (hW.back e1))
  have hl := ris_len k row hmem
  exact Evl.et_B (Evl.ev_call (Evl.ea_cons (Evl.ev_var rfl) (Evl.ea_cons (Evl.ev_var rfl) (Evl.ea_cons (Evl.ev_var rfl) Evl.ea_nil))) (spv_is_so_throughout (Evl.sq_of ha) (Evl.sq_of (e2 _ _ h1)) ((hP.ex e2).any) (e2 _ _ (e1 _ _ hd)) hS fun t ht => ⟨by rw [ris_len w t ht]; omega, fun j hj => by rw [hl]; exact ris_lt w t ht j hj⟩))
theorem spr_sets_throughout {n k w : Nat} {d : Addr} {kvs : List (List L2.Key × V)} {S : List (List Nat)} (hn : n ≤ 10) (hk : k ≤ 10) (hw : w ≤ 10) (hd : H d = some (.dT kvs)) (hS : DictS kvs S) : SpR (sp_sets_throughout K A) [.int (n : Int), .int (k : Int), .int (w : Int), .ref d] H (setsT n k w S) := fun H1 e Q q _ => ⟨n, k, w, d, kvs, S, rfl, hn, hk, hw, e _ _ hd, hS, q⟩
/-- largest_set -/
theorem key_inj {a b : List Nat} (h : a.map keyN = b.map keyN) : a = b := by
  refine (List.map_inj_right (f := keyN) fun x y e => ?_).mp h
  unfold keyN at e
  have := Sum.inl.inj e
  omega
theorem DictS.put {kvs : List (List L2.Key × V)} {S : List (List Nat)} (h : DictS kvs S) (t : List Nat) (v : V) : DictS (putK kvs (t.map keyN) v) (S ++ [t]) := by
  intro u
  rw [valV_put]
  by_cases e : u = t
  · rw [if_pos (by rw [e]), e]
    simp
  · rw [if_neg (fun z => e (key_inj z)), h u]
    simp [e]
theorem len_largest_set (h : sp_largest_set K A vs H Q E) : vs.length = 2 := by
  obtain ⟨_, _, _, _, rfl, _⟩ := h
  rfl
theorem pure_largest_set (T : Txt K mg A) (h : sp_largest_set K A vs H Q E) : t_largest_set K A (De Q) (start ["kind", "p", "width", "so", "row", "size", "found"] vs) H := by
  obtain ⟨k, p, ws, ps, rfl, hp, hr, hg, hk, kk⟩ := h
  have hn := hg.2
  have hwl : ws.length = ps.length := hr.1.trans (whl_len ps)
  have k13 : k < 13 := by omega
  have hask : Kh372.asked k ps.length = some (ris ps.length (Kh372.pointsOf k)) := by
    rw [parts_of hk hn]
    rcases hk with rfl | rfl <;> rfl
  have hw : ∃ w, Kh372.pointsOf k = w + 1 ∧ w + 1 ≤ 10 := by
    rcases hk with rfl | rfl
    · exact ⟨2, rfl, by decide⟩
    · exact ⟨3, rfl, by decide⟩
  obtain ⟨w, hw1, hw10⟩ := hw
  obtain ⟨_, _, t990, _⟩ := asked_ok hn hask
  refine Evl.q_asg (ev_pk T k13 (Evl.ev_var rfl)) fun H1 e1 => ?_
  refine q_dnewT fun d hd => ?_
  have e2 : Ex H1 (upd H1 d (.dT [])) := Ex.new hd
  have hdH : H d = none := Evl.fresh_back e1 hd
  have hp2 := Evl.ex_l (e1.trans e2) hp
  have hr2 := hr.ex (e1.trans e2)
  generalize hH2 : upd H1 d (.dT []) = H2 at *
  have hd2 : H2 d = some (.dT []) := by rw [← hH2]; exact upd_same
  refine q_forCall (Evl.ea_cons (Evl.ev_var rfl) (Evl.ea_cons (Evl.ev_var rfl) Evl.ea_nil)) fun H3 e3 => ?_
  refine spr_rows_so (Evl.ex_l e3 hp2) (hr2.ex e3) hg hask H3 (Ex.refl H3) _ (fun r H4 wr hr0 e4 h4 hR => ?_) E0
  generalize hSS : (ris ps.length (Kh372.pointsOf k)).filter (fun l => Kh372.says ps k l) = S at hR
  have hSl : S.length ≤ 990 := by
    rw [← hSS]
    exact Nat.le_trans (List.length_filter_le _ _) t990
  have e24 := e3.trans e4
  have hd4 := e24 _ _ hd2
  have hrd : r ≠ d := fun z => by
    rw [z, e3 _ _ hd2] at hr0
    cases hr0
  refine Evl.q_forLn (K := K) (a := r) (xs := wr) Evl.ev_c (Evl.sq_of h4) (fun i σ' H' => ∃ (v4 : Option V) (kvs : List (List L2.Key × V)), σ' = [some (.int (k : Int)), some (.ref p), some (.int ((Kh372.pointsOf k : Nat) : Int)), some (.ref d), v4, none, none] ∧ (∀ b o, H4 b = some o → b ≠ d → H' b = some o) ∧ H' d = some (.dT kvs) ∧ kvs.length ≤ i ∧ DictS kvs (S.take i)) (fun H5 e5 => ⟨none, [], rfl, fun b o hb _ => e5 _ _ hb, e5 _ _ hd4, by simp, fun t => rfl⟩) ?_ ?_ ?_
  · rintro i σ' H' _ ⟨v4, kvs, rfl, hK, _⟩
    exact Evl.sq_of (hK _ _ h4 hrd)
  · rintro i x σ' H5 hx ⟨v4, kvs, rfl, hK, h5, hkl, hD⟩
    obtain ⟨t, a, htt, rfl, ha0, ha⟩ := hR.of hx
    have had : a ≠ d := fun z => by
      rw [z, e3 _ _ hd2] at ha0
      cases ha0
    have ha5 := hK _ _ ha had
    have hil : i < S.length := (List.getElem?_eq_some_iff.mp htt).1
    have h2000 : (2000 : Nat) < sizeLine := by decide
    refine s_dputT (k := t.map keyN) (kvs := kvs) (Evl.ev_var rfl) h5 (by rw [key_nl]; exact eu_tupleL (Evl.ev_var rfl) (Evl.sq_of ha5)) Evl.ev_c (by omega) fun H6 e6 => ?_
    refine ⟨_, _, rfl, fun b o hb hbd => ?_, upd_same, ?_, ?_⟩
    · rw [upd_ne hbd]
      exact e6 _ _ (hK b o hb hbd)
    · have := length_putK kvs (t.map keyN) (.bl true)
      omega
    · rw [take_snoc htt]
      exact hD.put t _
  · rintro σ' H5 ⟨v4, kvs, rfl, hK, h5, hkl, hD⟩
    rw [hR.1, List.take_length] at hD
    have eH : Ex H H5 := fun b o hb => by
      have hbd : b ≠ d := ne_of_none hb hdH
      exact hK b o (e24 _ _ ((e1.trans e2) _ _ hb)) hbd
    have hp5 := Evl.ex_l eH hp
    refine Evl.q_asg (ev_lenS (Evl.ev_var rfl) (.inl hp5)) fun H6 e6 => ?_
    have args : ∀ (s : Nat) (v4 v6 : Option V) (H' : Hp), Ex H5 H' → EvA (tCons (tCB (Evl.rLenS K) (tCons (tVar 1) tNil)) (tCons (tVar 5) (tCons (tVar 2) (tCons (tVar 3) tNil)))) [some (.int (k : Int)), some (.ref p), some (.int ((Kh372.pointsOf k : Nat) : Int)), some (.ref d), v4, some (.int (s : Int)), v6] H' [.int (ps.length : Int), .int (s : Int), .int ((Kh372.pointsOf k : Nat) : Int), .ref d] := by
      intro s v4 v6 H' e'
      have := ev_lenS (K := K) (σ := [some (.int (k : Int)), some (.ref p), some (.int ((Kh372.pointsOf k : Nat) : Int)), some (.ref d), v4, some (.int (s : Int)), v6]) (ta := tVar 1) (H := H') (Evl.ev_var rfl) (.inl (Evl.ex_l e' hp5))
      rw [hwl] at this
      exact Evl.ea_cons this (Evl.ea_cons (Evl.ev_var rfl) (Evl.ea_cons (Evl.ev_var rfl) (Evl.ea_cons (Evl.ev_var rfl) Evl.ea_nil)))
    rw [hwl]
    have p10 : Kh372.pointsOf k ≤ 10 := by omega
    refine q_callR (args ps.length v4 none H6 e6) (spr_sets_throughout hn hn p10 (e6 _ _ h5) hD) fun f H7 wf hf e7 h7 hW => ?_
    refine Evl.q_while (fun s σ' H' => ∃ (f : Addr) (wf : List V), σ' = [some (.int (k : Int)), some (.ref p), some (.int ((Kh372.pointsOf k : Nat) : Int)), some (.ref d), v4, some (.int (s : Int)), some (.ref f)] ∧ Ex H5 H' ∧ s ≤ ps.length ∧ H' f = some (.lst wf) ∧ RowsN H H' wf (setsT ps.length s (Kh372.pointsOf k) S) ∧ ∀ s', s < s' → s' ≤ ps.length → setsT ps.length s' (Kh372.pointsOf k) S = []) ps.length ⟨f, wf, rfl, e6.trans e7, Nat.le_refl _, h7, hW.back (eH.trans e6), fun s' h1 h2 => absurd h1 (by omega)⟩ ?_
    rintro s σ' H8 ⟨f, wf, rfl, e8, hs, h8, hW, hmore⟩
    refine ⟨_, Evl.et_test (ev_eq (ev_lenS (Evl.ev_var rfl) (.inl (Evl.sq_of h8))) Evl.ev_c), fun hb H9 e9 => ?_, fun hb H9 e9 => ?_⟩
    · have hw0 : wf.length = 0 := by
        have := of_decide_eq_true hb
        omega
      have hz : setsT ps.length s (Kh372.pointsOf k) S = [] := List.eq_nil_of_length_eq_zero (by rw [← hW.1]; exact hw0)
      have hs0 : s ≠ 0 := fun z => by
        rw [z, hw1, setsT_zero] at hz
        cases hz
      refine ⟨fun σ2 H' => ∃ (f : Addr) (wf : List V), σ2 = [some (.int (k : Int)), some (.ref p), some (.int ((Kh372.pointsOf k : Nat) : Int)), some (.ref d), v4, some (.int ((s - 1 : Nat) : Int)), some (.ref f)] ∧ Ex H5 H' ∧ H' f = some (.lst wf) ∧ RowsN H H' wf (setsT ps.length (s - 1) (Kh372.pointsOf k) S), ?_, ?_⟩
      · rintro σ2 H' ⟨f', wf', rfl, e', hf', hW'⟩
        refine ⟨s - 1, by omega, f', wf', rfl, e', by omega, hf', hW', fun s' h1 h2 => ?_⟩
        by_cases h3 : s' = s
        · rw [h3]
          exact hz
        · exact hmore s' (by omega) h2
      · refine Evl.q_asg (Evl.ev_op (Evl.ev_var rfl) Evl.ev_c Evl.rv_I0) fun H10 e10 => ?_
        have es : (s : Int) - 1 = ((s - 1 : Nat) : Int) := by omega
        rw [es]
        have e510 := (e8.trans e9).trans e10
        refine s_callR (args (s - 1) v4 (some (.ref f)) H10 e510) (spr_sets_throughout hn (by omega) p10 (e510 _ _ h5) hD) fun f' H12 wf' hf' e12 h12 hW12 => ?_
        exact ⟨f', wf', rfl, e510.trans e12, h12, hW12.back (eH.trans e510)⟩
    · cases hq : setsT ps.length s (Kh372.pointsOf k) S with
      | nil =>
        rw [hq] at hW
        have h0 : wf.length = 0 := hW.1
        have := of_decide_eq_false hb
        rw [h0] at this
        exact absurd rfl this
      | cons r0 rest =>
        rw [hq] at hW
        have hm := most_of hk hn hSS.symm hs hq hmore
        rw [hm] at kk
        obtain ⟨a, ha, ha0, haH⟩ := hW.get (i := 0) (xs := r0) rfl
        refine Evl.s_ret (ev_ixL (n := 0) (Evl.ev_var rfl) (Evl.sq_of (e9 _ _ h8)) ha) fun H10 e10 => ?_
        exact kk a H10 ha0 (((eH.trans e8).trans e9).trans e10) (e10 _ _ (e9 _ _ haH))
end
end My

set_option Elab.async false
set_option linter.all false
set_option maxRecDepth 100000
set_option maxHeartbeats 4000000
namespace My
open PySem PySem.Spec PyProof.Rows L2
open Evl (Ev EvL EvU EvT EvA EvO Ex RV RU RC RCL SpV SpL)
section
variable {K : PySem.W.Frag} {mg : Str → Option Value} {A : Ad} {vs : List V} {H : Hp} {Q : VK} {E : XK}
/-! ### how many different ones, by their places -/
section
variable {α : Type} [DecidableEq α]
theorem idx_at {x : α} : ∀ {D : List α}, x ∈ D → D[D.idxOf x]? = some x
  | y :: r, h => by
    by_cases e : y = x
    · simp [List.idxOf_cons, e]
    · have e' : (y == x) = false := by simpa using e
      have hr : x ∈ r := (List.mem_cons.mp h).resolve_left fun z => e z.symm
      rw [List.idxOf_cons, e']
      exact idx_at hr
theorem idx_le {x : α} : ∀ {D : List α} {i : Nat}, D[i]? = some x → D.idxOf x ≤ i
  | [], i, h => by simp at h
  | y :: r, i, h => by
    by_cases e : y = x
    · simp [List.idxOf_cons, e]
    · have e' : (y == x) = false := by simpa using e
      rw [List.idxOf_cons, e']
      cases i with
      | zero => exact absurd (Option.some.inj h) e
      | succ j => exact Nat.succ_le_succ (idx_le (D := r) h)
/-- as many as their places in D, which are below D's length and none of them twice -/
theorem few_places {M D : List α} {B : List Nat} (once : M.Nodup) (sub : ∀ x ∈ M, x ∈ D) (at' : ∀ x ∈ M, D.idxOf x ∈ B) : M.length ≤ B.length := by
  have places : (M.map D.idxOf).Nodup := by
    refine List.pairwise_map.mpr (List.Pairwise.imp_of_mem (fun {x y} hx hy ne same => ne ?_) once)
    have ex := idx_at (sub x hx)
    have ey := idx_at (sub y hy)
    rw [same, ey] at ex
    exact (Option.some.inj ex).symm
  have := nat_nodup_len (M.map D.idxOf) B places fun i hi => by
    obtain ⟨x, hx, rfl⟩ := List.mem_map.mp hi
    exact at' x hx
  rw [List.length_map] at this
  exact this
theorem few_all {M D : List α} (once : M.Nodup) (sub : ∀ x ∈ M, x ∈ D) : M.length ≤ D.length := by
  have := few_places (B := List.range D.length) once sub fun x hx => List.mem_range.mpr (List.idxOf_lt_length_of_mem (sub x hx))
  rw [List.length_range] at this
  exact this
/-- were an item of D there twice, its later place would be nobody's -/
theorem full_once {M D : List α} (once : M.Nodup) (sub : ∀ x ∈ M, x ∈ D) (full : D.length ≤ M.length) : D.Nodup := by
  refine List.pairwise_iff_getElem.mpr fun i j hi hj ij same => ?_
  have := few_places (B := (List.range D.length).erase j) once sub fun x hx => by
    have below := List.idxOf_lt_length_of_mem (sub x hx)
    refine (List.mem_erase_of_ne fun z => ?_).mpr (List.mem_range.mpr below)
    have gx : D[D.idxOf x]? = some x := idx_at (sub x hx)
    rw [z, List.getElem?_eq_getElem hj] at gx
    have gj : D[j] = x := Option.some.inj gx
    have early : D.idxOf x ≤ i := by
      rw [← gj, ← same]
      exact idx_le (List.getElem?_eq_getElem hi)
    omega
  rw [List.length_erase_of_mem (List.mem_range.mpr hj), List.length_range] at this
  omega
end
section
variable {σ : L2.St} {D : Ends} {tz : TS} {ta tb te : TE} {P : Program} {w : World}
theorem ev_lenSet {l : Addr} {ks : List (Addr × List Int)} {n : Nat} (h : Ev ta σ H (.ref l)) (hl : SqL K H l (ks.map fun p => V.ref p.1)) (hk : ∀ p ∈ ks, SqT K H p.1 (p.2.map V.int)) (hn : ks.length = n) (h64 : n < 64) : Ev (tOp rEq (tCB (rLenTO K P w) (tCons (tCB (rSetOfT K P w) (tCons ta tNil)) tNil)) (tC (.int (n : Int)))) σ H (.bl (decide ((ks.map (·.2)).Nodup))) := fun H1 e Q q => h H1 e _ fun H2 e2 => ⟨l, ks, rfl, Evl.ex_l (e.trans e2) hl, fun p hp => Evl.ex_t (e.trans e2) (hk p hp), by omega, fun b L hb h1 h2 => ⟨b, L, rfl, upd_same, fun p hp => Evl.ex_t ((e.trans e2).trans (Ex.new hb)) (hk p (h1 p hp)), fun h3 => ⟨rfl, by
  have e0 : decide (V.int (L.length : Int) = V.int (n : Int)) = decide ((ks.map (·.2)).Nodup) := by
    rw [decV, dec_castE]
    refine decide_eq_decide.mpr ?_
    have hsub : ∀ x ∈ L.map (·.2), x ∈ ks.map (·.2) := fun x hx => by
      obtain ⟨p, hp, rfl⟩ := List.mem_map.mp hx
      exact List.mem_map.mpr ⟨p, h1 p hp, rfl⟩
    have hsup : ∀ x ∈ ks.map (·.2), x ∈ L.map (·.2) := fun x hx => by
      obtain ⟨p, hp, rfl⟩ := List.mem_map.mp hx
      exact h2 p hp
    constructor
    · intro hl
      exact full_once h3 hsub (by rw [List.length_map, List.length_map]; omega)
    · intro hnd
      have a1 := few_all h3 hsub
      have a2 := few_all hnd hsup
      rw [List.length_map, List.length_map] at a1 a2
      omega
  rw [e0]
  exact q _ (e2.trans (Ex.new hb))⟩⟩⟩
theorem p_listQ {a : Nat} {ws : List V} {qs : List (List Int)} (h : EvL te σ H ws) (hr : RowsT K H ws qs) (hb : ∀ q ∈ qs, ∀ x ∈ q, Bd a x) : EvP te σ H (isQ K a qs) := fun H1 e Q q => h H1 e Q fun p H2 hp e2 h2 => q _ H2 e2 ⟨p, ws, rfl, Evl.sq_of h2, hr.ex (e.trans e2), hb⟩
theorem rt_nil : RowsT K H [] [] := ⟨rfl, fun i w q hw _ => by simp at hw⟩
theorem rt_cons {t : Addr} {q : List Int} {ws : List V} {qs : List (List Int)} (h : SqT K H t (q.map V.int)) (hr : RowsT K H ws qs) : RowsT K H (.ref t :: ws) (q :: qs) := ⟨by rw [List.length_cons, List.length_cons, hr.1], fun i w q' hw hq => by
  cases i with
  | zero =>
    have e1 : V.ref t = w := Option.some.inj hw
    have e2 : q = q' := Option.some.inj hq
    subst e1 e2
    exact ⟨t, rfl, h⟩
  | succ i => exact hr.2 i w q' hw hq⟩
/-- xs.extend(a new list) -/
theorem q_extN {l : Addr} {xs ys : List V} (hl : H l = some (.lst xs)) (ha : Ev ta σ H (.ref l)) (h : EvL te σ H ys) (hz : xs.length + ys.length ≤ 100000) (k : ∀ H1, Ex H H1 → tz D σ (upd H1 l (.lst (xs ++ ys)))) :
    tSeq (tDrop (tBM K "list" rExtend ta (tCons te tNil))) tz D σ H := ha H (Ex.refl H) _ fun H1 e1 =>
  ⟨Or.inl ⟨rfl, xs, Evl.sq_of (e1 l _ hl)⟩, h H1 e1 _ fun b H2 hb e2 h2 => ⟨l, b, xs, ys, rfl, rfl, e2 l _ (e1 l _ hl), h2, Evl.sz_of hz, k H2 (e1.trans e2)⟩⟩
end
theorem len_may_be_crossed (h : sp_may_be_crossed K A vs H Q E) : vs.length = 1 := by
  obtain ⟨_, _, _, _, _, _, _, _, ⟨v, vs, rfl, _, hA⟩, _⟩ := h
  obtain rfl : vs = [] := hA
  rfl
theorem pure_may_be_crossed {P : Program} {w : World} (T : Txt K mg A) (h : sp_may_be_crossed K A vs H Q E) : t_may_be_crossed P w K A (De Q) (start ["p"] vs) H := by
  obtain ⟨a, b, c, d, e, f, g, h', ⟨v, vs, rfl, ⟨p, ws, rfl, hp, hr, hb⟩, hA⟩, k⟩ := h
  obtain rfl : vs = [] := hA
  match ws, hr.1, hp, hr with
  | [w0, w1, w2, w3], _, hp, hr =>
    obtain ⟨t0, rfl, g0⟩ := hr.2 0 _ _ rfl rfl
    obtain ⟨t1, rfl, g1⟩ := hr.2 1 _ _ rfl rfl
    obtain ⟨t2, rfl, g2⟩ := hr.2 2 _ _ rfl rfl
    obtain ⟨t3, rfl, g3⟩ := hr.2 3 _ _ rfl rfl
    have hset := ev_lenSet (P := P) (w := w) (K := K) (σ := start ["p"] [.ref p]) (ta := tVar 0) (H := H) (n := 4) (ks := [(t0, [a, b]), (t1, [c, d]), (t2, [e, f]), (t3, [g, h'])]) (Evl.ev_var rfl) hp (fun q hq => by
      simp only [List.mem_cons, List.not_mem_nil, or_false] at hq
      rcases hq with rfl | rfl | rfl | rfl <;> assumption) rfl (by decide)
    have l1 : EvP (tCall (sp_is_line K A) [] E0 (tCons (tLst (tCons (tOp (rIxL K) (tVar 0) (tC (.int 0))) (tCons (tOp (rIxL K) (tVar 0) (tC (.int 1))) (tCons (tOp (rIxL K) (tVar 0) (tC (.int 2))) tNil)))) tNil)) (start ["p"] [.ref p]) H (isB (m_is_line a b c d e f)) := p_call (pa_consP (p_listQ (K := K) (a := 350) (Evl.el_lst (Evl.ea_cons (ev_ixL (n := 0) (Evl.ev_var rfl) hp rfl) (Evl.ea_cons (ev_ixL (n := 1) (Evl.ev_var rfl) hp rfl) (Evl.ea_cons (ev_ixL (n := 2) (Evl.ev_var rfl) hp rfl) Evl.ea_nil))) (by simp)) (rt_cons g0 (rt_cons g1 (rt_cons g2 rt_nil))) (fun q hq => hb q (by
      simp only [List.mem_cons, List.not_mem_nil, or_false] at hq ⊢
      rcases hq with z | z | z
      · exact .inl z
      · exact .inr (.inl z)
      · exact .inr (.inr (.inl z))))) mono_Q pa_nilP) spa_is_line
    have l2 : EvP (tCall (sp_is_line K A) [] E0 (tCons (tLst (tCons (tOp (rIxL K) (tVar 0) (tC (.int 0))) (tCons (tOp (rIxL K) (tVar 0) (tC (.int 1))) (tCons (tOp (rIxL K) (tVar 0) (tC (.int 3))) tNil)))) tNil)) (start ["p"] [.ref p]) H (isB (m_is_line a b c d g h')) := p_call (pa_consP (p_listQ (K := K) (a := 350) (Evl.el_lst (Evl.ea_cons (ev_ixL (n := 0) (Evl.ev_var rfl) hp rfl) (Evl.ea_cons (ev_ixL (n := 1) (Evl.ev_var rfl) hp rfl) (Evl.ea_cons (ev_ixL (n := 3) (Evl.ev_var rfl) hp rfl) Evl.ea_nil))) (by simp)) (rt_cons g0 (rt_cons g1 (rt_cons g3 rt_nil))) (fun q hq => hb q (by
      simp only [List.mem_cons, List.not_mem_nil, or_false] at hq ⊢
      rcases hq with z | z | z
      · exact .inl z
      · exact .inr (.inl z)
      · exact .inr (.inr (.inr z))))) mono_Q pa_nilP) spa_is_line
    exact Evl.s_ret (Evl.ev_andV hset fun _ => Evl.ev_andV (p_evB l1) fun _ => p_evB l2) fun H1 e1 => k H1 e1
theorem len_cross_fraction (h : sp_cross_fraction K A vs H Q E) : vs.length = 1 := by
  obtain ⟨_, _, _, _, _, _, _, _, _, _, _, _, ⟨v, vs, rfl, _, hA⟩, _⟩ := h
  obtain rfl : vs = [] := hA
  rfl
theorem pure_cross_fraction (T : Txt K mg A) (h : sp_cross_fraction K A vs H Q E) : t_cross_fraction K A (De Q) (start ["p", "side", "a", "b", "c", "d"] vs) H := by
  obtain ⟨a, b, c, d, e, f, g, h', x, y, z, w, ⟨v, vs, rfl, ⟨p, ws, rfl, hp, hr, hb⟩, hA⟩, hxy, hD, k⟩ := h
  obtain rfl : vs = [] := hA
  match ws, hr.1, hp, hr with
  | [w0, w1, w2, w3], _, hp, hr =>
    obtain ⟨t0, rfl, g0⟩ := hr.2 0 _ _ rfl rfl
    obtain ⟨t1, rfl, g1⟩ := hr.2 1 _ _ rfl rfl
    obtain ⟨t2, rfl, g2⟩ := hr.2 2 _ _ rfl rfl
    obtain ⟨t3, rfl, g3⟩ := hr.2 3 _ _ rfl rfl
    have hs : ∃ s : Nat, Ev (tIf (tTest (tOp rEq (tOp (rIxT K) (tOp (rIxL K) (tVar 0) (tC (.int 0))) (tC (.int 0))) (tOp (rIxT K) (tOp (rIxL K) (tVar 0) (tC (.int 1))) (tC (.int 0))))) (tC (.int 1)) (tC (.int 0))) (start ["p", "side", "a", "b", "c", "d"] [.ref p]) H (.int (s : Int)) ∧ ([a, b].map V.int)[s]? = some (.int x) ∧ ([c, d].map V.int)[s]? = some (.int y) ∧ ([e, f].map V.int)[s]? = some (.int z) ∧ ([g, h'].map V.int)[s]? = some (.int w) ∧ Bd 350 x ∧ Bd 350 y ∧ Bd 350 z ∧ Bd 350 w := by
      have ht := Evl.et_test (ev_eq (ev_ixT (n := 0) (ev_ixL (K := K) (σ := start ["p", "side", "a", "b", "c", "d"] [.ref p]) (n := 0) (Evl.ev_var (i := 0) rfl) hp rfl) g0 rfl) (ev_ixT (n := 0) (ev_ixL (n := 1) (Evl.ev_var (i := 0) rfl) hp rfl) g1 rfl))
      by_cases hac : a = c
      · rw [if_pos hac] at hxy
        obtain ⟨rfl, rfl, rfl, rfl⟩ : x = b ∧ y = d ∧ z = f ∧ w = h' := by simpa using hxy
        refine ⟨1, Evl.ev_if ht (fun _ => Evl.ev_c) (fun hbb => absurd hac (of_decide_eq_false hbb)), rfl, rfl, rfl, rfl, hb [a, x] (by simp) _ (by simp), hb [c, y] (by simp) _ (by simp), hb [e, z] (by simp) _ (by simp), hb [g, w] (by simp) _ (by simp)⟩
      · rw [if_neg hac] at hxy
        obtain ⟨rfl, rfl, rfl, rfl⟩ : x = a ∧ y = c ∧ z = e ∧ w = g := by simpa using hxy
        refine ⟨0, Evl.ev_if ht (fun hbb => absurd (of_decide_eq_true hbb) hac) (fun _ => Evl.ev_c), rfl, rfl, rfl, rfl, hb [x, b] (by simp) _ (by simp), hb [y, d] (by simp) _ (by simp), hb [z, f] (by simp) _ (by simp), hb [w, h'] (by simp) _ (by simp)⟩
    obtain ⟨s, hev, i0, i1, i2, i3, bx, by', bz, bw⟩ := hs
    refine Evl.q_asg hev fun H1 e1 => ?_
    refine Evl.q_asg (Evl.ev_op (ev_ixL (n := 0) (Evl.ev_var rfl) (Evl.ex_l e1 hp) rfl) (Evl.ev_var rfl) (Evl.rv_ixT (Evl.ex_t e1 g0) (atI_nat i0))) fun H2 e2 => ?_
    have ee2 := e1.trans e2
    refine Evl.q_asg (Evl.ev_op (ev_ixL (n := 1) (Evl.ev_var rfl) (Evl.ex_l ee2 hp) rfl) (Evl.ev_var rfl) (Evl.rv_ixT (Evl.ex_t ee2 g1) (atI_nat i1))) fun H3 e3 => ?_
    have ee3 := ee2.trans e3
    refine Evl.q_asg (Evl.ev_op (ev_ixL (n := 2) (Evl.ev_var rfl) (Evl.ex_l ee3 hp) rfl) (Evl.ev_var rfl) (Evl.rv_ixT (Evl.ex_t ee3 g2) (atI_nat i2))) fun H4 e4 => ?_
    have ee4 := ee3.trans e4
    refine Evl.q_asg (Evl.ev_op (ev_ixL (n := 3) (Evl.ev_var rfl) (Evl.ex_l ee4 hp) rfl) (Evl.ev_var rfl) (Evl.rv_ixT (Evl.ex_t ee4 g3) (atI_nat i3))) fun H5 e5 => ?_
    have ee5 := ee4.trans e5
    have b1 : Bd 351 (z - x) := bz.sub bx
    have b2 : Bd 351 (w - y) := bw.sub by'
    have b3 : Bd 351 (z - y) := bz.sub by'
    have b4 : Bd 351 (w - x) := bw.sub bx
    refine Evl.s_retL (Evl.el_call (Evl.ea_cons (Evl.ev_op (Evl.ev_op (Evl.ev_var rfl) (Evl.ev_var rfl) Evl.rv_I0) (Evl.ev_op (Evl.ev_var rfl) (Evl.ev_var rfl) Evl.rv_I0) (Evl.rv_I (b1.cmul b2 (by decide)))) (Evl.ea_cons (Evl.ev_op (Evl.ev_op (Evl.ev_var rfl) (Evl.ev_var rfl) Evl.rv_I0) (Evl.ev_op (Evl.ev_var rfl) (Evl.ev_var rfl) Evl.rv_I0) (Evl.rv_I (b3.cmul b4 (by decide)))) Evl.ea_nil)) (spl_fraction hD ((b3.mul b4).le (by decide)))) fun q H6 hq e6 h6 => ?_
    exact k q H6 (Evl.fresh_back ee5 hq) (ee5.trans e6) h6
theorem len_centre_fractions (h : sp_centre_fractions K A vs H Q E) : vs.length = 2 := by
  obtain ⟨_, _, _, _, _, _, _, ⟨v, vs, rfl, _, v', vs', rfl, _, hA⟩, _⟩ := h
  obtain rfl : vs' = [] := hA
  rfl
theorem pure_centre_fractions (T : Txt K mg A) (h : sp_centre_fractions K A vs H Q E) : t_centre_fractions K A (De Q) (start ["p", "stretched", "to_b", "to_c", "below", "across", "up", "told"] vs) H := by
  obtain ⟨a, b, c, d, e, f, s, ⟨v, vs, rfl, ⟨p, ws, rfl, hp, hr, hb⟩, v', vs', rfl, ⟨rfl, bs⟩, hA⟩, hs0, hw0, k⟩ := h
  obtain rfl : vs' = [] := hA
  refine qp_asg (p_call (pa_consP (p_ixQ 0 (p_qv rfl hp hr hb) rfl) mono_T (pa_consP (p_ixQ 1 (p_qv rfl hp hr hb) rfl) mono_T pa_nilP)) spa_way) fun v H1 e1 h1 => ?_
  obtain ⟨tb, rfl, qb, cb⟩ := h1
  have hp1 := Evl.ex_l e1 hp
  have hr1 := hr.ex e1
  refine qp_asg (p_call (pa_consP (p_ixQ 0 (p_qv rfl hp1 hr1 hb) rfl) mono_T (pa_consP (p_ixQ 2 (p_qv rfl hp1 hr1 hb) rfl) mono_T pa_nilP)) spa_way) fun v H2 e2 h2 => ?_
  obtain ⟨tc, rfl, qc, cc⟩ := h2
  have qb := Evl.ex_t e2 qb
  refine qp_asg (p_mul (p_ic (a := 2) (by decide)) (p_call (pa_consP (p_tv rfl qb cb) mono_T (pa_consP (p_tv rfl qc cc) mono_T pa_nilP)) spa_turn)) fun v H3 e3 h3 => ?_
  obtain ⟨rfl, b4⟩ := h3
  have b4 : Bd 705 (cenW a b c d e f) := b4
  have qb := Evl.ex_t e3 qb
  have qc := Evl.ex_t e3 qc
  refine qp_asg (p_sub (p_mul (p_ixT 1 (p_tv rfl qc cc) rfl) (p_call (pa_consP (p_tv rfl qb cb) mono_T pa_nilP) spa_square)) (p_mul (p_ixT 1 (p_tv rfl qb cb) rfl) (p_call (pa_consP (p_tv rfl qc cc) mono_T pa_nilP) spa_square))) fun v H4 e4 h4 => ?_
  obtain ⟨rfl, b5⟩ := h4
  have b5 : Bd 1055 (cenX a b c d e f) := b5
  have qb := Evl.ex_t e4 qb
  have qc := Evl.ex_t e4 qc
  refine qp_asg (p_sub (p_mul (p_ixT 0 (p_tv rfl qb cb) rfl) (p_call (pa_consP (p_tv rfl qc cc) mono_T pa_nilP) spa_square)) (p_mul (p_ixT 0 (p_tv rfl qc cc) rfl) (p_call (pa_consP (p_tv rfl qb cb) mono_T pa_nilP) spa_square))) fun v H5 e5 h5 => ?_
  obtain ⟨rfl, b6⟩ := h5
  have b6 : Bd 1055 (cenY a b c d e f) := b6
  have ee5 := (((e1.trans e2).trans e3).trans e4).trans e5
  have ba : Bd 350 a := hb [a, b] (by simp) _ (by simp)
  have bb : Bd 350 b := hb [a, b] (by simp) _ (by simp)
  have bws : Bd 1025 (cenW a b c d e f * s) := b4.mul bs
  have hws : cenW a b c d e f * s ≠ 0 := Int.mul_ne_zero hw0 hs0
  have hp5 := Evl.ex_l ee5 hp
  have hr5 := hr.ex ee5
  show tSeq _ _ _ [some (.ref p), some (.int s), some (.ref tb), some (.ref tc), some (.int (cenW a b c d e f)), some (.int (cenX a b c d e f)), some (.int (cenY a b c d e f)), none] H5
  refine Evl.q_asgL (Evl.el_call (Evl.ea_cons (Evl.ev_op (Evl.ev_op (p_ev (p_ixT 0 (p_ixQ 0 (p_qv rfl hp5 hr5 hb) rfl) rfl)) (Evl.ev_var rfl) (Evl.rv_I (ba.cmul b4 (by decide)))) (Evl.ev_var rfl) Evl.rv_I0) (Evl.ea_cons (Evl.ev_op (Evl.ev_var rfl) (Evl.ev_var rfl) (Evl.rv_I (b4.cmul bs (by decide)))) Evl.ea_nil)) (spl_fraction hws (bws.le (by decide)))) fun l H6 hl e6 h6 => ?_
  have hlH : H l = none := Evl.fresh_back ee5 hl
  have ee6 := ee5.trans e6
  refine q_extN h6 (Evl.ev_var rfl) (Evl.el_call (Evl.ea_cons (Evl.ev_op (Evl.ev_op (p_ev (p_ixT 1 (p_ixQ 0 (p_qv rfl (Evl.ex_l ee6 hp) (hr.ex ee6) hb) rfl) rfl)) (Evl.ev_var rfl) (Evl.rv_I (bb.cmul b4 (by decide)))) (Evl.ev_var rfl) Evl.rv_I0) (Evl.ea_cons (Evl.ev_op (Evl.ev_var rfl) (Evl.ev_var rfl) (Evl.rv_I (b4.cmul bs (by decide)))) Evl.ea_nil)) (spl_fraction hws (bws.le (by decide)))) (by show 2 + 2 ≤ 100000; decide) fun H7 e7 => ?_
  refine q_extN upd_same (Evl.ev_var rfl) (Evl.el_call (Evl.ea_cons (Evl.ev_op (Evl.ev_op (Evl.ev_var rfl) (Evl.ev_var rfl) (Evl.rv_I (b5.cmul b5 (by decide)))) (Evl.ev_op (Evl.ev_var rfl) (Evl.ev_var rfl) (Evl.rv_I (b6.cmul b6 (by decide)))) Evl.rv_I0) (Evl.ea_cons (Evl.ev_op (Evl.ev_op (Evl.ev_op (Evl.ev_var rfl) (Evl.ev_var rfl) (Evl.rv_I (b4.cmul bs (by decide)))) (Evl.ev_var rfl) (Evl.rv_I (bws.cmul b4 (by decide)))) (Evl.ev_var rfl) (Evl.rv_I ((bws.mul b4).cmul bs (by decide)))) Evl.ea_nil)) (spl_fraction (Int.mul_ne_zero (Int.mul_ne_zero hws hw0) hs0) (((bws.mul b4).mul bs).le (by decide)))) (by show 4 + 2 ≤ 100000; decide) fun H8 e8 => ?_
  refine Evl.s_ret (Evl.ev_var rfl) fun H9 e9 => ?_
  refine k l H9 hlH (Ex.trans (Ex.mut ((Ex.mut (ee6.trans e7) hlH).trans e8) hlH) e9) (e9 _ _ ?_)
  rw [upd_same]
  rfl
end
end My

set_option Elab.async false
set_option linter.all false
set_option maxRecDepth 100000
set_option maxHeartbeats 4000000
namespace My
open PySem PySem.Spec PyProof.Rows L2
open Evl (Ev EvL EvU EvT EvA EvO Ex RV RU RC RCL SpV SpL)
section
variable {K : PySem.W.Frag} {mg : Str → Option Value} {A : Ad} {vs : List V} {H : Hp} {Q : VK} {E : XK}
/-! ### four on a line -/
section
variable {C ta tb tc td : Int} {a b c d : Pt}
theorem along_sc {t t' : Int} {p : Pt} (ha : Sc C a ta) (hb : Sc C b tb) (hp : Sc C p t) : (C * C) * Kh372.alongs a b p = ((b.x * tb - a.x * ta) * (p.x * t - a.x * ta) + (b.y * tb - a.y * ta) * (p.y * t - a.y * ta)) * (a.w * b.w * (a.w * p.w)) := by
  have h := wy_lean (pwy ha hb) (pwy ha hp)
  exact h.symm
theorem cross_key {X Y Z W L M N k u v w A B D CC : Int} (hL : CC * A = k * u * L) (hM : CC * B = k * v * M) (hN : CC * D = k * w * N)
    (hM' : M * (Y - X) = L * (Z - X)) (hN' : N * (Y - X) = L * (W - X)) :
    (CC * CC * ((Y - X) * (Y - X))) * (B * (D * u - A * w)) = (k * k * u * v * w * (L * L)) * crossN X Y Z W ∧ (CC * CC * ((Y - X) * (Y - X))) * ((B * u - A * v) * D) = (k * k * u * v * w * (L * L)) * crossD X Y Z W := by
  have g1 : (N - L) * (Y - X) = L * (W - Y) := by grind
  have g2 : (M - L) * (Y - X) = L * (Z - Y) := by grind
  have f1 : (CC * B) * (CC * (D * u - A * w)) = (k * v * M) * (k * u * w * (N - L)) := by
    have : CC * (D * u - A * w) = k * u * w * (N - L) := by grind
    rw [hM, this]
  have f2 : (CC * (B * u - A * v)) * (CC * D) = (k * u * v * (M - L)) * (k * w * N) := by
    have : CC * (B * u - A * v) = k * u * v * (M - L) := by grind
    rw [hN, this]
  have f3 : (M * (Y - X)) * ((N - L) * (Y - X)) = (L * (Z - X)) * (L * (W - Y)) := by rw [hM', g1]
  have f4 : ((M - L) * (Y - X)) * (N * (Y - X)) = (L * (Z - Y)) * (L * (W - X)) := by rw [g2, hN']
  unfold crossN crossD
  clear hL hM hN hM' hN' g1 g2
  constructor
  · have e1 : CC * CC * ((Y - X) * (Y - X)) * (B * (D * u - A * w)) = ((CC * B) * (CC * (D * u - A * w))) * ((Y - X) * (Y - X)) := by grind
    rw [e1, f1]
    have e2 : k * v * M * (k * u * w * (N - L)) * ((Y - X) * (Y - X)) = (k * k * u * v * w) * ((M * (Y - X)) * ((N - L) * (Y - X))) := by grind
    rw [e2, f3]
    grind
  · have e1 : CC * CC * ((Y - X) * (Y - X)) * ((B * u - A * v) * D) = ((CC * (B * u - A * v)) * (CC * D)) * ((Y - X) * (Y - X)) := by grind
    rw [e1, f2]
    have e2 : k * u * v * (M - L) * (k * w * N) * ((Y - X) * (Y - X)) = (k * k * u * v * w) * (((M - L) * (Y - X)) * (N * (Y - X))) := by grind
    rw [e2, f4]
    grind
theorem vert_key {z u v w : Int} (h : (z - z) * u - v * w = 0) : v * w = 0 := by
  rw [Int.sub_self, Int.zero_mul, Int.zero_sub] at h
  exact Int.neg_eq_zero.mp h
theorem vk2 {z p r : Int} : ((z - z) * (z - z) + p * r) * p = ((z - z) * (z - z) + p * p) * r := by grind
theorem ln_key2 {u v t z : Int} (h : u * v - t * (z - z) = 0) : u * v = 0 := by
  rw [Int.sub_self, Int.mul_zero, Int.sub_zero] at h
  exact h
theorem side_key {p q r s : Int} (h : p * s - q * r = 0) : (p * r + q * s) * p = (p * p + q * q) * r := by grind
theorem ln_key {u v t : Int} (h : u * v - t * u = 0) : u * (v - t) = 0 := by
  rw [Int.mul_sub, Int.mul_comm u t]
  exact h
/-- what four on a line come to -/
theorem cross_eq (hC : C ≠ 0) (ha : Sc C a ta) (hb : Sc C b tb) (hc : Sc C c tc) (hd : Sc C d td)
    {X Y Z W : Int} (hx : [X, Y, Z, W] = if a.x * ta = b.x * tb then [a.y * ta, b.y * tb, c.y * tc, d.y * td] else [a.x * ta, b.x * tb, c.x * tc, d.x * td])
    (hnd : ([[a.x * ta, a.y * ta], [b.x * tb, b.y * tb], [c.x * tc, c.y * tc], [d.x * td, d.y * td]] : List (List Int)).Nodup)
    (h1 : m_is_line (a.x * ta) (a.y * ta) (b.x * tb) (b.y * tb) (c.x * tc) (c.y * tc) = true) (h2 : m_is_line (a.x * ta) (a.y * ta) (b.x * tb) (b.y * tb) (d.x * td) (d.y * td) = true) :
    crossD X Y Z W ≠ 0 ∧ Kh372.cross a b c d = Kh371.frac (crossN X Y Z W) (crossD X Y Z W) := by
  have l1 : m_turn _ _ _ _ = 0 := of_decide_eq_true h1
  have l2 : m_turn _ _ _ _ = 0 := of_decide_eq_true h2
  have aL := along_sc (t' := 0) ha hb hb
  have aM := along_sc (t' := 0) ha hb hc
  have aN := along_sc (t' := 0) ha hb hd
  unfold m_turn m_way0 m_way1 at l1 l2
  generalize hax : a.x * ta = ax at *
  generalize hay : a.y * ta = ay at *
  generalize hbx : b.x * tb = bx at *
  generalize hby : b.y * tb = by' at *
  generalize hcx : c.x * tc = cx at *
  generalize hcy : c.y * tc = cy at *
  generalize hdx : d.x * td = dx at *
  generalize hdy : d.y * td = dy at *
  have hab : ¬ (ax = bx ∧ ay = by') := by
    rintro ⟨rfl, rfl⟩
    simp at hnd
  have hbc : ¬ (bx = cx ∧ by' = cy) := by
    rintro ⟨rfl, rfl⟩
    simp at hnd
  have had : ¬ (ax = dx ∧ ay = dy) := by
    rintro ⟨rfl, rfl⟩
    simp at hnd
  have hL0 : (bx - ax) * (bx - ax) + (by' - ay) * (by' - ay) ≠ 0 := fun z => by
    have := sq_zero z
    exact hab ⟨by omega, by omega⟩
  -- on the side
  have side : Y - X ≠ 0 ∧ ((bx - ax) * (cx - ax) + (by' - ay) * (cy - ay)) * (Y - X) = ((bx - ax) * (bx - ax) + (by' - ay) * (by' - ay)) * (Z - X) ∧ ((bx - ax) * (dx - ax) + (by' - ay) * (dy - ay)) * (Y - X) = ((bx - ax) * (bx - ax) + (by' - ay) * (by' - ay)) * (W - X) ∧ crossD X Y Z W ≠ 0 := by
    by_cases hs : ax = bx
    · rw [if_pos hs] at hx
      obtain ⟨rfl, rfl, rfl, rfl⟩ : X = ay ∧ Y = by' ∧ Z = cy ∧ W = dy := by simpa using hx
      subst hs
      have hy : Y - X ≠ 0 := fun z => hab ⟨rfl, by omega⟩
      have c0 : cx = ax := by
        have := vert_key l1
        rcases Int.mul_eq_zero.mp this with z | z
        · exact absurd z hy
        · omega
      have d0 : dx = ax := by
        have := vert_key l2
        rcases Int.mul_eq_zero.mp this with z | z
        · exact absurd z hy
        · omega
      subst c0
      subst d0
      refine ⟨hy, vk2, vk2, Int.mul_ne_zero (fun z => hbc ⟨rfl, by omega⟩) (fun z => had ⟨rfl, by omega⟩)⟩
    · rw [if_neg hs] at hx
      obtain ⟨rfl, rfl, rfl, rfl⟩ : X = ax ∧ Y = bx ∧ Z = cx ∧ W = dx := by simpa using hx
      have hy : Y - X ≠ 0 := fun z => hs (by omega)
      refine ⟨hy, side_key l1, side_key l2, Int.mul_ne_zero (fun z => hbc ⟨by omega, ?_⟩) (fun z => had ⟨by omega, ?_⟩)⟩
      · have hz : Z = Y := by omega
        subst hz
        have this := ln_key l1
        rcases Int.mul_eq_zero.mp this with q | q
        · exact absurd q hy
        · omega
      · have hz : W = X := by omega
        subst hz
        have := ln_key2 l2
        rcases Int.mul_eq_zero.mp this with q | q
        · exact absurd q hy
        · omega
  obtain ⟨s0, s1, s2, s3⟩ := side
  refine ⟨s3, ?_⟩
  have aL' : (C * C) * Kh372.alongs a b b = (a.w * b.w * a.w) * b.w * ((bx - ax) * (bx - ax) + (by' - ay) * (by' - ay)) := by
    rw [aL]
    grind
  have aM' : (C * C) * Kh372.alongs a b c = (a.w * b.w * a.w) * c.w * ((bx - ax) * (cx - ax) + (by' - ay) * (cy - ay)) := by
    rw [aM]
    grind
  have aN' : (C * C) * Kh372.alongs a b d = (a.w * b.w * a.w) * d.w * ((bx - ax) * (dx - ax) + (by' - ay) * (dy - ay)) := by
    rw [aN]
    grind
  obtain ⟨k1, k2⟩ := cross_key aL' aM' aN' s1 s2
  have f0 : C * C * (C * C) * ((Y - X) * (Y - X)) ≠ 0 := mz (mz (mz hC hC) (mz hC hC)) (mz s0 s0)
  have g0 : (a.w * b.w * a.w) * (a.w * b.w * a.w) * b.w * c.w * d.w * (((bx - ax) * (bx - ax) + (by' - ay) * (by' - ay)) * ((bx - ax) * (bx - ax) + (by' - ay) * (by' - ay))) ≠ 0 := mz (mz (mz (mz (mz (mz (mz ha.w hb.w) ha.w) (mz (mz ha.w hb.w) ha.w)) hb.w) hc.w) hd.w) (mz hL0 hL0)
  unfold Kh372.cross
  generalize Kh372.alongs a b c * (Kh372.alongs a b d * b.w - Kh372.alongs a b b * d.w) = n at *
  generalize (Kh372.alongs a b c * b.w - Kh372.alongs a b b * c.w) * Kh372.alongs a b d = dd at *
  generalize C * C * (C * C) * ((Y - X) * (Y - X)) = F at *
  generalize (a.w * b.w * a.w) * (a.w * b.w * a.w) * b.w * c.w * d.w * (((bx - ax) * (bx - ax) + (by' - ay) * (by' - ay)) * ((bx - ax) * (bx - ax) + (by' - ay) * (by' - ay))) = G at *
  refine frac_eq (fun z => ?_) s3 ?_
  · rw [z, Int.mul_zero] at k2
    exact mz g0 s3 k2.symm
  · refine Int.eq_of_mul_eq_mul_left f0 ?_
    have e1 : F * (n * crossD X Y Z W) = (F * n) * crossD X Y Z W := by rw [Int.mul_assoc]
    have e2 : F * (crossN X Y Z W * dd) = (F * dd) * crossN X Y Z W := by grind
    rw [e1, e2, k1, k2]
    grind
/-! ### apart -/
theorem so0_eq (hC : C ≠ 0) (ha : Sc C a ta) (hb : Sc C b tb) : Kh372.so 0 [a, b] 0 0 = decide ([a.x * ta, a.y * ta] = [b.x * tb, b.y * tb]) := by
  rw [← k0 hC ha hb]
  unfold m_is_same
  rw [← Bool.decide_and]
  exact decide_eq_decide.mpr (by simp)
theorem apart_eq (hC : C ≠ 0) (ha : Sc C a ta) (hb : Sc C b tb) (hc : Sc C c tc) (hd : Sc C d td) : Kh372.apart [a, b, c, d] = decide (([[a.x * ta, a.y * ta], [b.x * tb, b.y * tb], [c.x * tc, c.y * tc], [d.x * td, d.y * td]] : List (List Int)).Nodup) := by
  have e : Kh372.apart [a, b, c, d] = ((Kh372.so 0 [a, b] 0 0 == false) && ((Kh372.so 0 [a, c] 0 0 == false) && ((Kh372.so 0 [a, d] 0 0 == false) && ((Kh372.so 0 [b, c] 0 0 == false) && ((Kh372.so 0 [b, d] 0 0 == false) && ((Kh372.so 0 [c, d] 0 0 == false) && true)))))) := rfl
  rw [e, so0_eq hC ha hb, so0_eq hC ha hc, so0_eq hC ha hd, so0_eq hC hb hc, so0_eq hC hb hd, so0_eq hC hc hd]
  generalize [a.x * ta, a.y * ta] = p
  generalize [b.x * tb, b.y * tb] = q
  generalize [c.x * tc, c.y * tc] = r
  generalize [d.x * td, d.y * td] = s
  apply Bool.eq_iff_iff.mpr
  simp only [Bool.and_eq_true, beq_iff_eq, decide_eq_false_iff_not, decide_eq_true_eq, List.nodup_cons, List.mem_cons, List.not_mem_nil, or_false, not_or, List.nodup_nil, and_true, not_false_eq_true]
  constructor
  · rintro ⟨h1, h2, h3, h4, h5, h6⟩
    exact ⟨⟨h1, h2, h3⟩, ⟨h4, h5⟩, h6⟩
  · rintro ⟨⟨h1, h2, h3⟩, ⟨h4, h5⟩, h6⟩
    exact ⟨h1, h2, h3, h4, h5, h6⟩
/-! ### the centre -/
theorem cen_x (ha : Sc C a ta) (hb : Sc C b tb) (hc : Sc C c tc) : (Kh372.centre a b c).x * (ta * tb * tc * (ta * tb * tc)) = C * C * C * (a.x * ta * cenW (a.x * ta) (a.y * ta) (b.x * tb) (b.y * tb) (c.x * tc) (c.y * tc) + cenX (a.x * ta) (a.y * ta) (b.x * tb) (b.y * tb) (c.x * tc) (c.y * tc)) := by
  have e : (Kh372.centre a b c).x * (ta * tb * tc * (ta * tb * tc)) = ((a.x * ta) * (a.x * ta) + (a.y * ta) * (a.y * ta)) * (b.w * tb) * (c.w * tc) * ((b.y * tb) * (c.w * tc) - (c.y * tc) * (b.w * tb)) + ((b.x * tb) * (b.x * tb) + (b.y * tb) * (b.y * tb)) * (c.w * tc) * (a.w * ta) * ((c.y * tc) * (a.w * ta) - (a.y * ta) * (c.w * tc)) + ((c.x * tc) * (c.x * tc) + (c.y * tc) * (c.y * tc)) * (a.w * ta) * (b.w * tb) * ((a.y * ta) * (b.w * tb) - (b.y * tb) * (a.w * ta)) := by
    show ((a.x * a.x + a.y * a.y) * b.w * c.w * (b.y * c.w - c.y * b.w) + (b.x * b.x + b.y * b.y) * c.w * a.w * (c.y * a.w - a.y * c.w) + (c.x * c.x + c.y * c.y) * a.w * b.w * (a.y * b.w - b.y * a.w)) * (ta * tb * tc * (ta * tb * tc)) = _
    grind
  rw [e, ha.e, hb.e, hc.e]
  unfold cenW cenX m_turn m_square m_lean
  generalize a.x * ta = ax
  generalize a.y * ta = ay
  generalize b.x * tb = bx
  generalize b.y * tb = by'
  generalize c.x * tc = cx
  generalize c.y * tc = cy
  clear e ha hb hc
  grind
theorem cen_y (ha : Sc C a ta) (hb : Sc C b tb) (hc : Sc C c tc) : (Kh372.centre a b c).y * (ta * tb * tc * (ta * tb * tc)) = C * C * C * (a.y * ta * cenW (a.x * ta) (a.y * ta) (b.x * tb) (b.y * tb) (c.x * tc) (c.y * tc) + cenY (a.x * ta) (a.y * ta) (b.x * tb) (b.y * tb) (c.x * tc) (c.y * tc)) := by
  have e : (Kh372.centre a b c).y * (ta * tb * tc * (ta * tb * tc)) = ((a.x * ta) * (a.x * ta) + (a.y * ta) * (a.y * ta)) * (b.w * tb) * (c.w * tc) * ((c.x * tc) * (b.w * tb) - (b.x * tb) * (c.w * tc)) + ((b.x * tb) * (b.x * tb) + (b.y * tb) * (b.y * tb)) * (c.w * tc) * (a.w * ta) * ((a.x * ta) * (c.w * tc) - (c.x * tc) * (a.w * ta)) + ((c.x * tc) * (c.x * tc) + (c.y * tc) * (c.y * tc)) * (a.w * ta) * (b.w * tb) * ((b.x * tb) * (a.w * ta) - (a.x * ta) * (b.w * tb)) := by
    show ((a.x * a.x + a.y * a.y) * b.w * c.w * (c.x * b.w - b.x * c.w) + (b.x * b.x + b.y * b.y) * c.w * a.w * (a.x * c.w - c.x * a.w) + (c.x * c.x + c.y * c.y) * a.w * b.w * (b.x * a.w - a.x * b.w)) * (ta * tb * tc * (ta * tb * tc)) = _
    grind
  rw [e, ha.e, hb.e, hc.e]
  unfold cenW cenY m_turn m_square m_lean
  generalize a.x * ta = ax
  generalize a.y * ta = ay
  generalize b.x * tb = bx
  generalize b.y * tb = by'
  generalize c.x * tc = cx
  generalize c.y * tc = cy
  clear e ha hb hc
  grind
theorem cen_w (hC : C ≠ 0) (ha : Sc C a ta) (hb : Sc C b tb) (hc : Sc C c tc) : (Kh372.centre a b c).w * (ta * tb * tc * (ta * tb * tc)) = C * C * C * (cenW (a.x * ta) (a.y * ta) (b.x * tb) (b.y * tb) (c.x * tc) (c.y * tc) * C) := by
  have h := turn_det hC ha hb hc
  have e1 : (a.w * ta) * (b.w * tb) * (c.w * tc) = C * C * C := by rw [ha.e, hb.e, hc.e]
  have e0 : (Kh372.centre a b c).w = 2 * Kh371.det a b c * a.w * b.w * c.w := rfl
  have ec : cenW (a.x * ta) (a.y * ta) (b.x * tb) (b.y * tb) (c.x * tc) (c.y * tc) = 2 * m_turn (b.x * tb - a.x * ta) (b.y * tb - a.y * ta) (c.x * tc - a.x * ta) (c.y * tc - a.y * ta) := rfl
  rw [e0, ec]
  generalize m_turn (b.x * tb - a.x * ta) (b.y * tb - a.y * ta) (c.x * tc - a.x * ta) (c.y * tc - a.y * ta) = T at *
  generalize Kh371.det a b c = Dt at *
  have hCC := mz hC hC
  refine Int.eq_of_mul_eq_mul_left hCC ?_
  have e2 : C * C * (2 * Dt * a.w * b.w * c.w * (ta * tb * tc * (ta * tb * tc))) = (C * C * Dt) * (2 * (a.w * b.w * c.w) * (ta * tb * tc * (ta * tb * tc))) := by grind
  have e3 : (T * (a.w * b.w * c.w)) * (2 * (a.w * b.w * c.w) * (ta * tb * tc * (ta * tb * tc))) = 2 * T * (((a.w * ta) * (b.w * tb) * (c.w * tc)) * ((a.w * ta) * (b.w * tb) * (c.w * tc))) := by grind
  rw [e2, ← h, e3, e1]
  grind
theorem cancel2 {x y u v t c3 : Int} (ht : t ≠ 0) (hc : c3 ≠ 0) (h1 : x * t = c3 * u) (h2 : y * t = c3 * v) : x * v = u * y := by
  refine Int.eq_of_mul_eq_mul_left (mz hc ht) ?_
  have e1 : c3 * t * (x * v) = (x * t) * (c3 * v) := by grind
  have e2 : c3 * t * (u * y) = (c3 * u) * (y * t) := by grind
  rw [e1, e2, h1, h2]
theorem centre_eq (hC : C ≠ 0) (ha : Sc C a ta) (hb : Sc C b tb) (hc : Sc C c tc) (hl : m_is_line (a.x * ta) (a.y * ta) (b.x * tb) (b.y * tb) (c.x * tc) (c.y * tc) = false)
    {W X Y : Int} (hW : cenW (a.x * ta) (a.y * ta) (b.x * tb) (b.y * tb) (c.x * tc) (c.y * tc) = W) (hX : cenX (a.x * ta) (a.y * ta) (b.x * tb) (b.y * tb) (c.x * tc) (c.y * tc) = X) (hY : cenY (a.x * ta) (a.y * ta) (b.x * tb) (b.y * tb) (c.x * tc) (c.y * tc) = Y) :
    W ≠ 0 ∧ Kh371.frac (Kh372.centre a b c).x (Kh372.centre a b c).w = Kh371.frac (a.x * ta * W + X) (W * C) ∧ Kh371.frac (Kh372.centre a b c).y (Kh372.centre a b c).w = Kh371.frac (a.y * ta * W + Y) (W * C) ∧
    Kh371.frac (Kh372.dt (Kh372.centre a b c) a (Kh372.centre a b c) a) (Kh372.sq ((Kh372.centre a b c).w * a.w)) = Kh371.frac (X * X + Y * Y) (W * C * W * C) := by
  have x := cen_x ha hb hc
  have y := cen_y ha hb hc
  have w := cen_w hC ha hb hc
  have hW0 : W ≠ 0 := by
    rw [← hW]
    have := of_decide_eq_false hl
    unfold cenW
    intro z
    apply this
    show m_turn _ _ _ _ = 0
    unfold m_way0 m_way1
    omega
  rw [hW, hX] at x
  rw [hW, hY] at y
  rw [hW] at w
  have t0 : ∀ {p : Pt} {t : Int}, Sc C p t → t ≠ 0 := fun {p t} h z => by
    have := h.e
    rw [z, Int.mul_zero] at this
    exact hC this.symm
  have ht : ta * tb * tc * (ta * tb * tc) ≠ 0 := mz (mz (mz (t0 ha) (t0 hb)) (t0 hc)) (mz (mz (t0 ha) (t0 hb)) (t0 hc))
  have hc3 : C * C * C ≠ 0 := mz (mz hC hC) hC
  have hWC : W * C ≠ 0 := mz hW0 hC
  have fx := cancel2 ht hc3 x w
  have fy := cancel2 ht hc3 y w
  have hcw : (Kh372.centre a b c).w ≠ 0 := fun z => by
    rw [z, Int.zero_mul] at w
    exact mz hc3 hWC w.symm
  generalize hcc : Kh372.centre a b c = q at *
  refine ⟨hW0, frac_eq hcw hWC fx, frac_eq hcw hWC fy, frac_eq ?_ (mz (mz hWC hW0) hC) ?_⟩
  · unfold Kh372.sq
    exact mz (mz hcw ha.w) (mz hcw ha.w)
  · have hae := ha.e
    have gx : Kh371.across q a * (W * C) = -(q.w * X * a.w) := by
      unfold Kh371.across
      have : (a.x * q.w - q.x * a.w) * (W * C) = a.x * q.w * W * C - (q.x * (W * C)) * a.w := by grind
      rw [this, fx]
      have : C = a.w * ta := hae.symm
      rw [this]
      grind
    have gy : Kh371.up q a * (W * C) = -(q.w * Y * a.w) := by
      unfold Kh371.up
      have : (a.y * q.w - q.y * a.w) * (W * C) = a.y * q.w * W * C - (q.y * (W * C)) * a.w := by grind
      rw [this, fy]
      have : C = a.w * ta := hae.symm
      rw [this]
      grind
    unfold Kh372.dt Kh372.sq
    have e1 : (Kh371.across q a * Kh371.across q a + Kh371.up q a * Kh371.up q a) * (W * C * W * C) = (Kh371.across q a * (W * C)) * (Kh371.across q a * (W * C)) + (Kh371.up q a * (W * C)) * (Kh371.up q a * (W * C)) := by grind
    rw [e1, gx, gy]
    grind
end
/-! ### what is told of fractions -/
theorem small_iff {n d : Int} (hd : d ≠ 0) : Kh371.small (Kh371.frac n d) = !(fr2 n d).any bigT := by
  have h := (frac_spec n hd).1
  have es : Kh371.SIZE = 1000000000000000 := by decide
  unfold Kh371.small fr2
  rw [es]
  generalize (Kh371.frac n d).1 = x at *
  generalize (Kh371.frac n d).2 = y at *
  simp only [List.any_cons, List.any_nil, Bool.or_false, bigT]
  apply Bool.eq_iff_iff.mpr
  simp only [Bool.and_eq_true, Bool.not_eq_true', Bool.or_eq_false_iff, decide_eq_true_eq, decide_eq_false_iff_not]
  constructor
  · rintro ⟨h1, h2, h3⟩
    exact ⟨by omega, by omega⟩
  · rintro ⟨h1, h2⟩
    exact ⟨by omega, by omega, by omega⟩
/-- the answer of fractions: as the program gives it -/
theorem fracs_eq (l : List (Int × Int)) (h : ∀ f ∈ l, f.2 ≠ 0) : ((Kh372.fracs (l.map fun f => Kh371.frac f.1 f.2)).ret :: (Kh372.fracs (l.map fun f => Kh371.frac f.1 f.2)).out) = (if (l.flatMap fun f => fr2 f.1 f.2).any bigT = true then [-75] else 0 :: l.flatMap fun f => fr2 f.1 f.2) := by
  have e : (l.map fun f => Kh371.frac f.1 f.2).all Kh371.small = !(l.flatMap fun f => fr2 f.1 f.2).any bigT := by
    induction l with
    | nil => rfl
    | cons f r ih =>
      rw [List.map_cons, List.all_cons, List.flatMap_cons, List.any_append, ih (fun g hg => h g (List.mem_cons_of_mem _ hg)), small_iff (h f (by simp)), Bool.not_or]
  unfold Kh372.fracs
  rw [e]
  cases hb : (l.flatMap fun f => fr2 f.1 f.2).any bigT with
  | true => rfl
  | false =>
    have e3 : ((l.map fun f => Kh371.frac f.1 f.2).flatMap fun f => [f.1, f.2]) = l.flatMap fun f => fr2 f.1 f.2 := by
      rw [List.flatMap_map]
      rfl
    show (0 : Int) :: ((l.map fun f => Kh371.frac f.1 f.2).flatMap fun f => [f.1, f.2]) = 0 :: l.flatMap fun f => fr2 f.1 f.2
    rw [e3]
theorem ediv_le {x : Int} {g : Nat} : (x / (g : Int)).natAbs ≤ x.natAbs ∨ ¬ ((g : Int) ∣ x) ∨ g = 0 := by
  by_cases h0 : g = 0
  · exact .inr (.inr h0)
  · by_cases hd : (g : Int) ∣ x
    · exact .inl (abs_ediv_le (by omega) hd)
    · exact .inr (.inl hd)
theorem frac_le {n d : Int} (hd : d ≠ 0) : (Kh371.frac n d).1.natAbs ≤ n.natAbs ∧ (Kh371.frac n d).2.natAbs ≤ d.natAbs := by
  have hp := frac_gcd_pos (n := n) hd
  have d1 := Int.gcd_dvd_left n d
  have d2 := Int.gcd_dvd_right n d
  have a1 := abs_ediv_le (show ((Int.gcd n d : Nat) : Int) ≠ 0 by omega) d1
  have a2 := abs_ediv_le (show ((Int.gcd n d : Nat) : Int) ≠ 0 by omega) d2
  unfold Kh371.frac
  dsimp only
  rw [if_neg (show ¬ (((Int.gcd n d : Nat) : Int) = 0) by omega)]
  split
  · dsimp only
    rw [Int.natAbs_neg, Int.natAbs_neg]
    exact ⟨a1, a2⟩
  · exact ⟨a1, a2⟩
theorem where_small {p : Pt} (h : Good p) : ((fr2 p.x p.w ++ fr2 p.y p.w).any bigT) = false := by
  have w1 := h.w1
  have hf := fits_iff.mp h.fit
  have a := frac_le (n := p.x) (show p.w ≠ 0 by omega)
  have b := frac_le (n := p.y) (show p.w ≠ 0 by omega)
  unfold fr2 bigT
  simp only [List.cons_append, List.nil_append, List.any_cons, List.any_nil, Bool.or_false, Bool.or_eq_false_iff, decide_eq_false_iff_not]
  refine ⟨by omega, by omega, by omega, by omega⟩
end
end My

set_option Elab.async false
set_option linter.all false
set_option maxRecDepth 100000
set_option maxHeartbeats 4000000
namespace My
open PySem PySem.Spec PyProof.Rows L2
open Evl (Ev EvL EvU EvT EvA EvO Ex RV RU RC RCL SpV SpL)
section
variable {K : PySem.W.Frag} {mg : Str → Option Value} {A : Ad} {vs : List V} {H : Hp} {Q : VK} {E : XK}
theorem nl_intL (l : List Nat) : nl l = intL (l.map Int.ofNat) := by
  unfold nl intL
  rw [List.map_map]
  rfl
section
variable {σ : L2.St} {D : Ends} {tz : TS} {ta tb te t0 t1 t2 : TE} {C a dx : Addr} {fs : List (Str × V)} {m : Str} {z v0 v2 : V} {sp : Sp}
theorem ev_meth {vs : List V} {t : TA} (ha : Ev ta σ H (.ref a)) (ho : H a = some (.ins C dx fs)) (hm : fs.lookup m = none) (hA : EvA t σ H vs) (hs : SpV sp (.ref a :: vs) H z) : Ev (tMeth C m sp [] E0 ta t) σ H z := fun H1 e Q q =>
  ha H1 e _ fun H2 e2 => ⟨a, dx, fs, rfl, e2 _ _ (e _ _ ho), hm, hA H2 (e.trans e2) _ fun H3 e3 => by
    rw [List.append_nil]
    exact hs H3 ((e.trans e2).trans e3) Q (fun H4 e4 => q H4 ((e2.trans e3).trans e4)) E0⟩
/-- the argument is a new list -/
theorem ev_methN {xs : List V} (ha : Ev ta σ H (.ref a)) (ho : H a = some (.ins C dx fs)) (hm : fs.lookup m = none) (hA : EvL te σ H xs) (hs : ∀ q H1, Ex H H1 → H1 q = some (.lst xs) → SpV sp [.ref a, .ref q] H1 z) : Ev (tMeth C m sp [] E0 ta (tCons te tNil)) σ H z := fun H1 e Q q =>
  ha H1 e _ fun H2 e2 => ⟨a, dx, fs, rfl, e2 _ _ (e _ _ ho), hm, hA H2 (e.trans e2) _ fun b H3 hb e3 h3 => hs b H3 ((e.trans e2).trans e3) h3 H3 (Ex.refl H3) Q (fun H4 e4 => q H4 ((e2.trans e3).trans e4)) E0⟩
/-- new lists of points' tuples, of stretched places -/
def EvPts (K : PySem.W.Frag) (te : TE) (σ : L2.St) (H : Hp) (ps : List Pt) : Prop := ∀ H1, Ex H H1 → ∀ Q : VK, (∀ p H2 ws, H1 p = none → Ex H1 H2 → H2 p = some (.lst ws) → PtsAt K H2 ws ps → Q (.ref p) H2) → te σ H1 Q
def EvQ (K : PySem.W.Frag) (te : TE) (σ : L2.St) (H : Hp) (qs : List (List Int)) : Prop := ∀ H1, Ex H H1 → ∀ Q : VK, RetQ K qs H1 Q → te σ H1 Q
theorem eq_wholeN {ps : List Pt} (h : EvPts K te σ H ps) (hg : GoodS ps) : EvQ K (tCall (sp_whole_places K A) [] E0 (tCons te tNil)) σ H (whl ps) := fun H1 e Q q => h H1 e _ fun p H2 ws hp e2 h2 h3 => ⟨p, ws, ps, rfl, Evl.sq_of h2, h3, hg, fun b H3 w hb e3 h4 h5 => q b H3 w (Evl.fresh_back e2 hb) (e2.trans e3) h4 h5⟩
theorem eq_whole {ps : List Pt} {p : Addr} {ws : List V} (h : Ev te σ H (.ref p)) (hp : SqL K H p ws) (hpt : PtsAt K H ws ps) (hg : GoodS ps) : EvQ K (tCall (sp_whole_places K A) [] E0 (tCons te tNil)) σ H (whl ps) := fun H1 e Q q => h H1 e _ fun H2 e2 => ⟨p, ws, ps, rfl, Evl.ex_l (e.trans e2) hp, hpt.ex (e.trans e2), hg, fun b H3 w hb e3 h4 h5 => q b H3 w (Evl.fresh_back e2 hb) (e2.trans e3) h4 h5⟩
theorem q_asgQ {i : Nat} {qs : List (List Int)} (h : EvQ K te σ H qs) (k : ∀ p H1 ws, H p = none → Ex H H1 → H1 p = some (.lst ws) → RowsT K H1 ws qs → tz D (σ.set i (some (.ref p))) H1) : tSeq (tAsg te (gName i)) tz D σ H := h H (Ex.refl H) _ k
theorem q_asgP {i : Nat} {ps : List Pt} (h : EvPts K te σ H ps) (k : ∀ p H1 ws, H p = none → Ex H H1 → H1 p = some (.lst ws) → PtsAt K H1 ws ps → tz D (σ.set i (some (.ref p))) H1) : tSeq (tAsg te (gName i)) tz D σ H := h H (Ex.refl H) _ k
/-- f(x, a new list of places, y) -/
theorem ev_call3Q {qs : List (List Int)} (h0 : Ev t0 σ H v0) (h1 : EvQ K t1 σ H qs) (h2 : Ev t2 σ H v2) (hs : ∀ b ws H1, Ex H H1 → H1 b = some (.lst ws) → RowsT K H1 ws qs → SpV sp [v0, .ref b, v2] H1 z) : Ev (tCall sp [] E0 (tCons t0 (tCons t1 (tCons t2 tNil)))) σ H z := fun H1 e Q q =>
  h0 H1 e _ fun H2 e2 => h1 H2 (e.trans e2) _ fun b H3 ws hb e3 h3 hr => h2 H3 ((e.trans e2).trans e3) _ fun H4 e4 => hs b ws H4 (((e.trans e2).trans e3).trans e4) (e4 _ _ h3) (hr.ex e4) H4 (Ex.refl H4) Q (fun H5 e5 => q H5 (((e2.trans e3).trans e4).trans e5)) E0
/-- f(x, a new list of places): new rows; a new list -/
theorem q_call2QR {Ex0 : XK} {i : Nat} {qs : List (List Int)} {xss : List (List Nat)} (h0 : Ev t0 σ H v0) (h1 : EvQ K t1 σ H qs) (hs : ∀ b ws H1, Ex H H1 → H1 b = some (.lst ws) → RowsT K H1 ws qs → SpR sp [v0, .ref b] H1 xss) (k : ∀ p H1 ws, H p = none → Ex H H1 → H1 p = some (.lst ws) → RowsN H H1 ws xss → tz D (σ.set i (some (.ref p))) H1) : tSeq (tAsg (tCall sp [] Ex0 (tCons t0 (tCons t1 tNil))) (gName i)) tz D σ H :=
  h0 H (Ex.refl H) _ fun H2 e2 => h1 H2 e2 _ fun b H3 ws hb e3 h3 hr => hs b ws H3 (e2.trans e3) h3 hr H3 (Ex.refl H3) _ (fun p H4 ws' hp e4 h4 hR => k p H4 ws' (Evl.fresh_back (e2.trans e3) hp) ((e2.trans e3).trans e4) h4 (hR.back (e2.trans e3))) Ex0
theorem el_call2Q {qs : List (List Int)} {xs : List V} (h0 : Ev t0 σ H v0) (h1 : EvQ K t1 σ H qs) (hs : ∀ b ws H1, Ex H H1 → H1 b = some (.lst ws) → RowsT K H1 ws qs → SpL sp [v0, .ref b] H1 xs) : EvL (tCall sp [] E0 (tCons t0 (tCons t1 tNil))) σ H xs := fun H1 e Q q =>
  h0 H1 e _ fun H2 e2 => h1 H2 (e.trans e2) _ fun b H3 ws hb e3 h3 hr => hs b ws H3 ((e.trans e2).trans e3) h3 hr H3 (Ex.refl H3) Q (fun p H4 hp e4 h4 => q p H4 (Evl.fresh_back (e2.trans e3) hp) ((e2.trans e3).trans e4) h4) E0
theorem el_callL {xs ys : List V} (h : EvL t1 σ H xs) (hs : ∀ b H1, Ex H H1 → H1 b = some (.lst xs) → SpL sp [.ref b] H1 ys) : EvL (tCall sp [] E0 (tCons t1 tNil)) σ H ys := fun H1 e Q q => h H1 e _ fun b H2 hb e2 h2 => hs b H2 (e.trans e2) h2 H2 (Ex.refl H2) Q (fun p H3 hp e3 h3 => q p H3 (Evl.fresh_back e2 hp) (e2.trans e3) h3) E0
end
theorem PtsAt.pick {ws : List V} {ps : List Pt} (h : PtsAt K H ws ps) {ns : List Nat} (hn : ∀ i ∈ ns, i < ps.length) : PtsAt K H (ns.map fun i => ws.getD i .non) (ns.map (Kh372.pt ps)) := by
  refine ⟨by rw [List.length_map, List.length_map], fun i w q hw hq => ?_⟩
  rw [List.getElem?_map] at hw hq
  cases hi : ns[i]? with
  | none =>
    rw [hi] at hw
    cases hw
  | some j =>
    rw [hi] at hw hq
    have hj := hn j (List.mem_of_getElem? hi)
    have hjw : j < ws.length := by rw [h.1]; exact hj
    have w1 : ws[j]? = some ws[j] := List.getElem?_eq_getElem hjw
    have x1 : ps[j]? = some ps[j] := List.getElem?_eq_getElem hj
    have hw : ws.getD j .non = w := Option.some.inj hw
    have hq : Kh372.pt ps j = q := Option.some.inj hq
    have d1 : ws.getD j .non = ws[j] := by simp [List.getD, w1]
    unfold Kh372.pt at hq
    rw [getD_of x1] at hq
    rw [d1] at hw
    subst hw hq
    exact h.2 j _ _ w1 x1
theorem pts_good {ps : List Pt} (hg : GoodS ps) {ns : List Nat} (hn : ∀ i ∈ ns, i < ps.length) (hl : ns.length ≤ 10) : GoodS (ns.map (Kh372.pt ps)) := ⟨fun p hp => by
  obtain ⟨i, hi, rfl⟩ := List.mem_map.mp hp
  exact hg.1 _ (pt_mem (hn i hi)), by rw [List.length_map]; exact hl⟩
/-- has_each -/
theorem len_Plane_has_each (h : sp_Plane_has_each K A vs H Q E) : vs.length = 2 := by
  obtain ⟨_, _, _, _, _, rfl, _⟩ := h
  rfl
def ltV (n : Nat) : V → Bool
  | .int i => decide (i < (n : Int))
  | _ => false
theorem pure_Plane_has_each (T : Txt K mg A) (h : sp_Plane_has_each K A vs H Q E) : t_Plane_has_each K A (De Q) (start ["self", "numbers", "p"] vs) H := by
  obtain ⟨a, l, q, ps, ns, rfl, ⟨dx, ws, ha, hl, hp⟩, hq, hn, k⟩ := h
  refine Evl.s_ret (ev_allMap (ltV ps.length) (Evl.ev_var rfl) hq (by rw [nl_len]; omega) fun x hx H1 e1 => ?_) fun H1 e1 => ?_
  · obtain ⟨i, _, rfl⟩ := List.mem_map.mp hx
    have r := ev_lt (Evl.ev_var (σ := (wipe (start ["self", "numbers", "p"] [.ref a, .ref q]) [2]).set 2 (some (.int (i : Int)))) (i := 2) (H := H1) rfl) (ev_lenS (K := K) (ev_fld (Evl.ev_var (i := 0) rfl) (e1 _ _ ha) T.cl_Plane T.na_Plane_places (plF_places _ _)) (.inl (Evl.sq_of (e1 _ _ hl))))
    rw [hp.1] at r
    exact r
  · have e0 : (nl ns).all (ltV ps.length) = ns.all fun i => decide (i < ps.length) := by
      unfold nl
      rw [List.all_map]
      congr 1
      funext i
      exact dec_cast
    rw [e0]
    exact k H1 e1
theorem spv_has_each {a l q : Addr} {ps : List Pt} {ns : List Nat} (hP : PlaneAt K A H a l (some ps)) (hq : SqL K H q (nl ns)) (hn : ns.length ≤ 100) : SpV (sp_Plane_has_each K A) [.ref a, .ref q] H (.bl (ns.all fun i => decide (i < ps.length))) := fun H1 e Q q' _ => ⟨a, l, q, ps, ns, rfl, hP.ex e, Evl.ex_l e hq, hn, q'⟩
/-- places_of -/
theorem len_Plane_places_of (h : sp_Plane_places_of K A vs H Q E) : vs.length = 2 := by
  obtain ⟨_, _, _, _, _, rfl, _⟩ := h
  rfl
theorem pure_Plane_places_of (T : Txt K mg A) (h : sp_Plane_places_of K A vs H Q E) : t_Plane_places_of K A (De Q) (start ["self", "numbers", "p"] vs) H := by
  obtain ⟨a, l, q, ps, ns, rfl, ⟨dx, ws, ha, hl, hp⟩, hq, hn, hlt, k⟩ := h
  refine Evl.s_retL (el_pick (K := K) (p := l) (ws := ws) (Evl.ev_var rfl) hq (by omega) (fun x H1 e1 => ev_fld (Evl.ev_var rfl) (e1 _ _ ha) T.cl_Plane T.na_Plane_places (plF_places _ _)) (by show 2 < 3; decide) (Evl.sq_of hl) (by rw [hp.1]; exact hlt)) fun b H1 hb e1 h1 => ?_
  exact k b H1 _ hb e1 h1 ((hp.ex e1).pick hlt)
theorem ep_places {σ : L2.St} {ta te : TE} {a l q dx : Addr} {fs : List (Str × V)} {ps : List Pt} {ns : List Nat} (ha : Ev ta σ H (.ref a)) (ho : H a = some (.ins A.c_Plane dx fs)) (hm : fs.lookup ("places_of" : Str) = none) (he : Ev te σ H (.ref q)) (hP : PlaneAt K A H a l (some ps)) (hq : SqL K H q (nl ns)) (hn : ns.length ≤ 100) (hlt : ∀ i ∈ ns, i < ps.length) :
    EvPts K (tMeth A.c_Plane "places_of" (sp_Plane_places_of K A) [] E0 ta (tCons te tNil)) σ H (ns.map (Kh372.pt ps)) := fun H1 e Q q' =>
  ha H1 e _ fun H2 e2 => ⟨a, dx, fs, rfl, e2 _ _ (e _ _ ho), hm, he H2 (e.trans e2) _ fun H3 e3 => ⟨a, l, q, ps, ns, rfl, hP.ex ((e.trans e2).trans e3), Evl.ex_l ((e.trans e2).trans e3) hq, hn, hlt, fun p H4 ws hp e4 h4 h5 => q' p H4 ws (Evl.fresh_back (e2.trans e3) hp) ((e2.trans e3).trans e4) h4 h5⟩⟩
/-- where -/
theorem len_spPu {rel : Hp → List V → Kh372.Call → Prop} {n : Nat} (hr : ∀ H r c, rel H r c → r.length = n) (h : spPu K A rel vs H Q E) : vs.length = n + 1 := by
  obtain ⟨a, l, ps, c, r, rfl, hrel, _⟩ := h
  rw [List.length_cons, hr _ _ _ hrel]
theorem len_spPv {rel : Hp → List V → Kh372.Call → Prop} {n : Nat} (hr : ∀ H r c, rel H r c → r.length = n) (h : spPv K A rel vs H Q E) : vs.length = n + 1 := by
  obtain ⟨a, l, ps, c, r, rfl, hrel, _⟩ := h
  rw [List.length_cons, hr _ _ _ hrel]
theorem len_Plane_where (h : sp_Plane_where K A vs H Q E) : vs.length = 2 := len_spPu (n := 1) (fun _ _ _ ⟨_, e, _⟩ => by rw [e]; rfl) h
theorem pure_Plane_where (T : Txt K mg A) (h : sp_Plane_where K A vs H Q E) : t_Plane_where K A (De Q) (start ["self", "p", "place"] vs) H := by
  obtain ⟨a, l, ps, c, r, rfl, ⟨p, rfl, rfl⟩, hP, hg, k⟩ := h
  have hP0 := hP
  obtain ⟨dx, ws, ha, hl, hp⟩ := hP
  have hb0 := ev_methN (sp := sp_Plane_has_each K A) (σ := start ["self", "p", "place"] [.ref a, .int (p : Int)]) (ta := tVar 0) (te := tLst (tCons (tVar 1) tNil)) (m := "has_each") (Evl.ev_var rfl) ha (plF_none _ _ _ (by decide +kernel) (by decide +kernel)) (show EvL (tLst (tCons (tVar 1) tNil)) (start ["self", "p", "place"] [.ref a, .int (p : Int)]) H (nl [p]) from Evl.el_lst (Evl.ea_cons (Evl.ev_var rfl) Evl.ea_nil) (by show 1 ≤ 100000; decide)) fun q H1 e1 h1 => spv_has_each (ns := [p]) (hP0.ex e1) (Evl.sq_of h1) (by simp)
  refine Evl.q_when (Evl.et_not (Evl.et_B hb0)) (fun hb H1 e1 => ?_) (fun hb H1 e1 => ?_)
  · have hn : ¬ p < ps.length := by
      have := nb_t hb
      simpa using this
    have e0 : ps[p]? = none := List.getElem?_eq_none (by omega)
    simp only [Kh372.does, e0, Kh372.say] at k
    exact Evl.s_retL (Evl.el_lst (Evl.ea_cons Evl.ev_c Evl.ea_nil) (by simp)) fun q H2 hq e2 h2 => k q H2 (Evl.fresh_back e1 hq) (e1.trans e2) h2
  · have hn : p < ps.length := by
      have := nb_f hb
      simpa using this
    have e0 : ps[p]? = some ps[p] := List.getElem?_eq_getElem hn
    have hpw : p < ws.length := by rw [hp.1]; exact hn
    have w0 : ws[p]? = some ws[p] := List.getElem?_eq_getElem hpw
    obtain ⟨t, ht1, ht⟩ := hp.2 p _ _ w0 e0
    rw [ht1] at w0
    have hgood := hg.1 _ (List.getElem_mem hn)
    generalize hu : ps[p] = u at *
    have w1 := hgood.w1
    have wn : u.w ≠ 0 := by omega
    have hfr := fracs_eq [(u.x, u.w), (u.y, u.w)] (by
      intro f hf
      simp only [List.mem_cons, List.not_mem_nil, or_false] at hf
      rcases hf with rfl | rfl <;> exact wn)
    have esm := where_small hgood
    simp only [List.flatMap_cons, List.flatMap_nil, List.append_nil, List.map_cons, List.map_nil] at hfr
    rw [esm, if_neg Bool.false_ne_true] at hfr
    simp only [Kh372.does, e0] at k
    rw [hfr] at k
    refine Evl.q_asg (Evl.ev_op (ev_fld (Evl.ev_var rfl) (e1 _ _ ha) T.cl_Plane T.na_Plane_places (plF_places _ _)) (Evl.ev_var rfl) (Evl.rv_ixL (Evl.sq_of (e1 _ _ hl)) (atI_nat w0))) fun H2 e2 => ?_
    have ht2 := Evl.ex_t (e1.trans e2) ht
    have bw : Bd 3000 u.w := hgood.bx.2.2.le (by decide)
    refine Evl.s_retL (el_catN (el_catN (Evl.el_lst (Evl.ea_cons Evl.ev_c Evl.ea_nil) (by simp)) (Evl.el_call (Evl.ea_cons (ev_ixT (n := 0) (Evl.ev_var rfl) ht2 rfl) (Evl.ea_cons (ev_ixT (n := 2) (Evl.ev_var rfl) ht2 rfl) Evl.ea_nil)) (spl_fraction wn bw)) (by show 1 + 2 ≤ 100000; decide)) (Evl.el_call (Evl.ea_cons (ev_ixT (n := 1) (Evl.ev_var rfl) ht2 rfl) (Evl.ea_cons (ev_ixT (n := 2) (Evl.ev_var rfl) ht2 rfl) Evl.ea_nil)) (spl_fraction wn bw)) (by show 3 + 2 ≤ 100000; decide)) fun q H3 hq e3 h3 => ?_
    exact k q H3 (Evl.fresh_back (e1.trans e2) hq) ((e1.trans e2).trans e3) h3
/-- keeps -/
theorem len_Plane_keeps (h : sp_Plane_keeps K A vs H Q E) : vs.length = 6 := len_spPv (n := 5) (fun _ _ _ ⟨_, _, _, _, _, e, _⟩ => by rw [e]; rfl) h
theorem pure_Plane_keeps (T : Txt K mg A) (h : sp_Plane_keeps K A vs H Q E) : t_Plane_keeps K A (De Q) (start ["self", "kind", "a", "b", "c", "d"] vs) H := by
  obtain ⟨a, l, ps, c, r, rfl, ⟨k, x, y, z, u, rfl, rfl⟩, hP, hg, kk⟩ := h
  refine Evl.q_when (Evl.et_not (Evl.et_B (Evl.ev_call (Evl.ea_cons (Evl.ev_var rfl) (Evl.ea_cons (Evl.ev_var rfl) (Evl.ea_cons (Evl.ev_var rfl) (Evl.ea_cons (Evl.ev_var rfl) (Evl.ea_cons (Evl.ev_var rfl) Evl.ea_nil))))) spv_may_be_asked))) (fun hb H1 e1 => ?_) (fun hb H1 e1 => ?_)
  · have hn := nb_t hb
    have hc : Kh372.sizes.length ≤ k ∨ Kh372.within 1000 [x, y, z, u] = false ∨ x * u - y * z = 0 := by
      rw [Bool.and_eq_false_iff, Bool.and_eq_false_iff] at hn
      rcases hn with h1 | h1 | h1
      · have := of_decide_eq_false h1
        exact .inl (by show 13 ≤ k; omega)
      · exact .inr (.inl h1)
      · exact .inr (.inr (Decidable.of_not_not (of_decide_eq_false h1)))
    refine Evl.s_ret Evl.ev_c fun H2 e2 => ?_
    have k2 := kk H2 (e1.trans e2)
    simp only [Kh372.does, if_pos hc, Kh372.say] at k2
    exact k2
  · have hn := nb_f hb
    rw [Bool.and_eq_true, Bool.and_eq_true] at hn
    obtain ⟨h1, h2, h3⟩ := hn
    have h1 := of_decide_eq_true h1
    have h3 := of_decide_eq_true h3
    have hc : ¬ (Kh372.sizes.length ≤ k ∨ Kh372.within 1000 [x, y, z, u] = false ∨ x * u - y * z = 0) := by
      rintro (q | q | q)
      · have q : 13 ≤ k := q
        omega
      · rw [h2] at q
        cases q
      · exact h3 q
    have wb := within_bd10 h2
    simp only [Kh372.does, if_neg hc, Kh372.say] at kk
    have hv : Ev (tIf (tB (tCall (sp_is_kept K A) [] E0 (tCons (tVar 1) (tCons (tVar 2) (tCons (tVar 3) (tCons (tVar 4) (tCons (tVar 5) tNil))))))) (tC (.int 1)) (tC (.int 0))) (start ["self", "kind", "a", "b", "c", "d"] [.ref a, .int (k : Int), .int x, .int y, .int z, .int u]) H1 (.int (if Kh372.keeps k x y z u = true then 1 else 0)) := by
      refine Evl.ev_if (Evl.et_B (Evl.ev_call (Evl.ea_cons (Evl.ev_var rfl) (Evl.ea_cons (Evl.ev_var rfl) (Evl.ea_cons (Evl.ev_var rfl) (Evl.ea_cons (Evl.ev_var rfl) (Evl.ea_cons (Evl.ev_var rfl) Evl.ea_nil))))) (spv_is_kept (wb x (by simp)) (wb y (by simp)) (wb z (by simp)) (wb u (by simp))))) (fun hk => ?_) (fun hk => ?_)
      · rw [if_pos hk]
        exact Evl.ev_c
      · rw [if_neg (by rw [hk]; exact Bool.false_ne_true)]
        exact Evl.ev_c
    exact Evl.s_ret hv fun H2 e2 => kk H2 (e1.trans e2)
/-- every -/
theorem len_Plane_every (h : sp_Plane_every K A vs H Q E) : vs.length = 2 := len_spPu (n := 1) (fun _ _ _ ⟨_, e, _⟩ => by rw [e]; rfl) h
theorem asked_in {k n : Nat} (h : ([0, 1, 2, 3, 4, 6, 10] : List Nat).contains k = true) : ∃ t, Kh372.asked k n = some t := by
  have : k = 0 ∨ k = 1 ∨ k = 2 ∨ k = 3 ∨ k = 4 ∨ k = 6 ∨ k = 10 := by simpa using h
  rcases this with rfl | rfl | rfl | rfl | rfl | rfl | rfl <;> exact ⟨_, rfl⟩
theorem asked_out {k n : Nat} (h : ([0, 1, 2, 3, 4, 6, 10] : List Nat).contains k = false) : Kh372.asked k n = none := by
  cases hq : Kh372.asked k n with
  | none => rfl
  | some t =>
    exfalso
    rcases asked_kinds hq with ⟨rfl, _⟩ | ⟨rfl, _⟩ | ⟨rfl, _⟩ | ⟨rfl | rfl | rfl, _⟩ | ⟨rfl, _⟩ <;> exact absurd h (by decide)
theorem flat_len {t : List (List Nat)} {c : Nat} (h : ∀ l ∈ t, l.length ≤ c) : (t.flatMap fun l => l.map Int.ofNat).length ≤ c * t.length := by
  induction t with
  | nil => simp
  | cons x r ih =>
    rw [List.flatMap_cons, List.length_append, List.length_map, List.length_cons]
    have h1 := h x (by simp)
    have h2 := ih fun l hl => h l (List.mem_cons_of_mem _ hl)
    have e : c * (r.length + 1) = c * r.length + c := by rw [Nat.mul_add, Nat.mul_one]
    rw [e]
    omega
theorem pk_le {k : Nat} (h : k < 13) : Kh372.pointsOf k ≤ 6 := by
  have hk13 : k = 0 ∨ k = 1 ∨ k = 2 ∨ k = 3 ∨ k = 4 ∨ k = 5 ∨ k = 6 ∨ k = 7 ∨ k = 8 ∨ k = 9 ∨ k = 10 ∨ k = 11 ∨ k = 12 := by omega
  rcases hk13 with rfl | rfl | rfl | rfl | rfl | rfl | rfl | rfl | rfl | rfl | rfl | rfl | rfl <;> decide
theorem pure_Plane_every (T : Txt K mg A) (h : sp_Plane_every K A vs H Q E) : t_Plane_every K A (De Q) (start ["self", "kind", "rows", "answer", "row"] vs) H := by
  obtain ⟨a, l, ps, c, r, rfl, ⟨k, rfl, rfl⟩, ⟨dx, ws, ha, hl, hp⟩, hg, kk⟩ := h
  have hp : PtsAt K H ws ps := hp
  have hn := hg.2
  refine Evl.q_when (Evl.et_test (ev_ninT (is := [0, 1, 2, 3, 4, 6, 10]) (Evl.ev_var rfl) (T.q_KINDS_OF_ALL H))) (fun hb H1 e1 => ?_) (fun hb H1 e1 => ?_)
  · have e0 := asked_out (n := ps.length) (nb_t hb)
    simp only [Kh372.does, e0, Kh372.say] at kk
    exact Evl.s_retL (Evl.el_lst (Evl.ea_cons Evl.ev_c Evl.ea_nil) (by simp)) fun q H2 hq e2 h2 => kk q H2 (Evl.fresh_back e1 hq) (e1.trans e2) h2
  · obtain ⟨t, ht⟩ := asked_in (n := ps.length) (nb_f hb)
    obtain ⟨k13, k5, t990, hrow⟩ := asked_ok hn ht
    simp only [Kh372.does, ht] at kk
    refine q_call2QR (Evl.ev_var rfl) (eq_whole (ev_fld (Evl.ev_var rfl) (e1 _ _ ha) T.cl_Plane T.na_Plane_places (plF_places _ _)) (Evl.sq_of (e1 _ _ hl)) (hp.ex e1) hg) (fun b wq H2 e2 h2 hr => spr_rows_so (Evl.sq_of h2) hr hg ht) fun p H2 wr hp2 e2 h2 hR => ?_
    generalize hS : (t.filter fun l => Kh372.says ps k l) = S at *
    have hSm : ∀ x ∈ S, x.length ≤ 6 := fun x hx => by
      rw [← hS] at hx
      rw [(hrow x (List.mem_filter.mp hx).1).1]
      exact pk_le k13
    have hSl : S.length ≤ 990 := by
      rw [← hS]
      exact Nat.le_trans (List.length_filter_le _ _) t990
    refine Evl.q_asgL (Evl.el_lst (Evl.ea_cons (ev_lenS (Evl.ev_var rfl) (.inl (Evl.sq_of h2))) Evl.ea_nil) (by simp)) fun g H3 hg3 e3 h3 => ?_
    have hgH : H g = none := Evl.fresh_back (e1.trans e2) hg3
    refine Evl.q_forLn (K := K) (a := p) (xs := wr) (Evl.ev_var rfl) (Evl.sq_of (e3 _ _ h2)) (fun i σ' H' => ∃ v4 : Option V, σ' = [some (.ref a), some (.int (k : Int)), some (.ref p), some (.ref g), v4] ∧ Ex H2 H' ∧ H' g = some (.lst (.int (wr.length : Int) :: intL ((S.take i).flatMap fun l => l.map Int.ofNat)))) (fun H4 e4 => ⟨none, rfl, e3.trans e4, e4 _ _ h3⟩) ?_ ?_ ?_
    · rintro i σ' H' _ ⟨v4, rfl, e4, _⟩
      exact Evl.sq_of (e4 _ _ h2)
    · rintro i x σ' H4 hx ⟨v4, rfl, e4, h4⟩
      obtain ⟨row, b, hrow', rfl, _, hbb⟩ := hR.of hx
      have hsn := flat_snoc (f := fun l : List Nat => l.map Int.ofNat) hrow'
      have hlt := flat_take S (fun l : List Nat => l.map Int.ofNat) i
      have hfl := flat_len hSm
      have hrl := hSm row (List.mem_of_getElem? hrow')
      have hzl : (100000 : Nat) < sizeLine := by decide
      refine s_ext h4 (e4 _ _ hbb) (Evl.ev_var rfl) (Evl.ev_var rfl) ?_ fun H5 e5 => ?_
      · rw [nl_len, List.length_cons]
        unfold intL
        rw [List.length_map]
        omega
      · refine ⟨_, rfl, Ex.mut (e4.trans e5) hg3, ?_⟩
        rw [upd_same, hsn, nl_intL]
        unfold intL
        rw [List.map_append]
        rfl
    · rintro σ' H4 ⟨v4, rfl, e4, h4⟩
      rw [hR.1, List.take_length] at h4
      exact Evl.s_ret (Evl.ev_var rfl) fun H5 e5 => kk g H5 hgH (((e1.trans e2).trans e4).trans e5) (e5 _ _ h4)
/-- most -/
theorem len_Plane_most (h : sp_Plane_most K A vs H Q E) : vs.length = 2 := len_spPu (n := 1) (fun _ _ _ ⟨_, e, _⟩ => by rw [e]; rfl) h
theorem most_len {ps : List Pt} (hn : ps.length ≤ 10) (k : Nat) : (Kh372.most ps k).length ≤ 10 := by
  unfold Kh372.most
  obtain ⟨b1, _, _⟩ := best_fold ((Kh372.sets ps.length).filter fun s => Kh372.wholly ps k s) []
  rcases b1 with e | e
  · rw [e]
    simp
  · obtain ⟨m1, _⟩ := List.mem_filter.mp e
    obtain ⟨m3, m4⟩ := mem_sets.mp m1
    have := rise_le m3 m4
    omega
theorem pure_Plane_most (T : Txt K mg A) (h : sp_Plane_most K A vs H Q E) : t_Plane_most K A (De Q) (start ["self", "kind", "members"] vs) H := by
  obtain ⟨a, l, ps, c, r, rfl, ⟨k, rfl, rfl⟩, ⟨dx, ws, ha, hl, hp⟩, hg, kk⟩ := h
  have hp : PtsAt K H ws ps := hp
  have hn := hg.2
  refine Evl.q_when (Evl.et_test (ev_ninT (is := [1, 6]) (Evl.ev_var rfl) (T.q_KINDS_OF_MOST H))) (fun hb H1 e1 => ?_) (fun hb H1 e1 => ?_)
  · have h0 : k ≠ 1 ∧ k ≠ 6 := by
      have := nb_t hb
      simpa using this
    simp only [Kh372.does, if_pos h0, Kh372.say] at kk
    exact Evl.s_retL (Evl.el_lst (Evl.ea_cons Evl.ev_c Evl.ea_nil) (by simp)) fun q H2 hq e2 h2 => kk q H2 (Evl.fresh_back e1 hq) (e1.trans e2) h2
  · have h1 : k = 1 ∨ k = 6 := by
      have := nb_f hb
      simpa using this
    have h0 : ¬ (k ≠ 1 ∧ k ≠ 6) := by omega
    simp only [Kh372.does, if_neg h0] at kk
    have hml := most_len hn k
    refine Evl.q_asgL (el_call2Q (xs := nl (Kh372.most ps k)) (Evl.ev_var rfl) (eq_whole (ev_fld (Evl.ev_var rfl) (e1 _ _ ha) T.cl_Plane T.na_Plane_places (plF_places _ _)) (Evl.sq_of (e1 _ _ hl)) (hp.ex e1) hg) (fun b wq H2 e2 h2 hr => fun H3 e3 Q' q' _ => ⟨k, b, wq, ps, rfl, Evl.ex_l e3 (Evl.sq_of h2), hr.ex e3, hg, h1, q'⟩)) fun q H2 hq e2 h2 => ?_
    refine Evl.s_retL (el_cat (Evl.el_lst (Evl.ea_cons (ev_lenS (Evl.ev_var rfl) (.inl (Evl.sq_of h2))) Evl.ea_nil) (by simp)) (Evl.ev_var rfl) h2 (by rw [nl_len]; simp; omega)) fun b H3 hb3 e3 h3 => ?_
    refine kk b H3 (Evl.fresh_back (e1.trans e2) hb3) ((e1.trans e2).trans e3) ?_
    rw [h3, nl_len, nl_intL]
    rfl
end
end My

set_option Elab.async false
set_option linter.all false
set_option maxRecDepth 100000
set_option maxHeartbeats 4000000
namespace My
open PySem PySem.Spec PyProof.Rows L2
open Evl (Ev EvL EvU EvT EvA EvO Ex RV RU RC RCL SpV SpL)
section
variable {K : PySem.W.Frag} {mg : Str → Option Value} {A : Ad} {vs : List V} {H : Hp} {Q : VK} {E : XK}
theorem cutV_take (xs : List V) (n : Nat) : cutV xs none (some (n : Int)) = xs.take n := by
  unfold cutV
  rw [HT.sIx_nat, HT.sIx_none]
  rw [List.drop_zero, Nat.sub_zero]
  by_cases h : n ≤ xs.length
  · rw [Nat.min_eq_left h]
  · rw [Nat.min_eq_right (by omega), List.take_length, List.take_of_length_le (by omega)]
theorem nl_take (l : List Nat) (n : Nat) : (nl l).take n = nl (l.take n) := by
  unfold nl
  rw [List.map_take]
theorem nl_drop (l : List Nat) (n : Nat) : (nl l).drop n = nl (l.drop n) := by
  unfold nl
  rw [List.map_drop]
theorem not_each {ns : List Nat} {n : Nat} : (ns.all fun i => decide (i < n)) = !(ns.any fun i => decide (n ≤ i)) := by
  rw [List.not_any_eq_all_not]
  congr 1
  funext i
  by_cases h : i < n
  · rw [decide_eq_true h, decide_eq_false (by omega)] <;> rfl
  · rw [decide_eq_false h, decide_eq_true (by omega)] <;> rfl
theorem each_lt {ns : List Nat} {n : Nat} (h : (ns.all fun i => decide (i < n)) = true) : ∀ i ∈ ns, i < n := fun i hi => of_decide_eq_true (List.all_eq_true.mp h i hi)
theorem okS {k : Nat} {l : List Nat} (h : Kh372.okSaying k l = true) : k < 13 ∧ l.length = Kh372.sizes.getD k 0 ∧ (k = 5 → ∀ x ∈ l.drop 4, 1 ≤ x ∧ x ≤ 1000) := by
  unfold Kh372.okSaying at h
  rw [Bool.and_eq_true, Bool.and_eq_true] at h
  refine ⟨of_decide_eq_true h.1, of_decide_eq_true h.2.1, fun h5 x hx => ?_⟩
  have h3 := h.2.2
  rw [decide_eq_false (show ¬ k ≠ 5 from fun z => z h5), Bool.false_or] at h3
  have := List.all_eq_true.mp h3 x hx
  rw [Bool.and_eq_true] at this
  exact ⟨of_decide_eq_true this.1, of_decide_eq_true this.2⟩
theorem pk_size {k : Nat} (h : k < 13) : Kh372.pointsOf k ≤ Kh372.sizes.getD k 0 := by
  have hk13 : k = 0 ∨ k = 1 ∨ k = 2 ∨ k = 3 ∨ k = 4 ∨ k = 5 ∨ k = 6 ∨ k = 7 ∨ k = 8 ∨ k = 9 ∨ k = 10 ∨ k = 11 ∨ k = 12 := by omega
  rcases hk13 with rfl | rfl | rfl | rfl | rfl | rfl | rfl | rfl | rfl | rfl | rfl | rfl | rfl <;> decide
/-- says -/
theorem len_Plane_says (h : sp_Plane_says K A vs H Q E) : vs.length = 3 := len_spPv (n := 2) (fun _ _ _ ⟨_, _, _, e, _⟩ => by rw [e]; rfl) h
theorem pure_Plane_says (T : Txt K mg A) (h : sp_Plane_says K A vs H Q E) : t_Plane_says K A (De Q) (start ["self", "kind", "row", "told", "others"] vs) H := by
  obtain ⟨a, l, ps, c, r, rfl, ⟨k, q, row, rfl, hq, h6, rfl⟩, hP, hg, kk⟩ := h
  have hP0 := hP
  obtain ⟨dx, ws, ha, hl, hp⟩ := hP
  refine Evl.q_when (Evl.et_not (Evl.et_B (Evl.ev_call (Evl.ea_cons (Evl.ev_var rfl) (Evl.ea_cons (Evl.ev_var rfl) Evl.ea_nil)) (spv_may_be_said hq)))) (fun hb H1 e1 => ?_) (fun hb H1 e1 => ?_)
  · have hn := nb_t hb
    simp only [Kh372.does, if_pos hn, Kh372.say] at kk
    exact Evl.s_ret Evl.ev_c fun H2 e2 => kk H2 (e1.trans e2)
  · have hn := nb_f hb
    simp only [Kh372.does, hn, Bool.true_eq_false, if_false, Kh372.say] at kk
    obtain ⟨k13, hlen, h5⟩ := okS hn
    have hpk := pk_le k13
    have hps := pk_size k13
    have hq1 := Evl.ex_l e1 hq
    have hsl : EvL (tSl (rSlL K) (tVar 2) tNoPart (tPart (tOp (rIxT K) (tC (.ref A.a_POINTS_OF_KIND)) (tVar 1)))) (start ["self", "kind", "row", "told", "others"] [.ref a, .int (k : Int), .ref q]) H1 (nl (row.take (Kh372.pointsOf k))) := by
      rw [← nl_take, ← cutV_take]
      exact Evl.el_sl (Evl.ev_var rfl) Evl.eo_none (Evl.eo_some (ev_pk T k13 (Evl.ev_var rfl))) hq1
    refine Evl.q_asgL hsl fun tt H2 htt e2 h2 => ?_
    have ee2 := e1.trans e2
    generalize htold : row.take (Kh372.pointsOf k) = told at *
    have htl : told.length ≤ 6 := by
      rw [← htold, List.length_take]
      omega
    refine Evl.q_when (Evl.et_not (Evl.et_B (ev_meth (Evl.ev_var rfl) (ee2 _ _ ha) (plF_none _ _ _ (by decide +kernel) (by decide +kernel)) (Evl.ea_cons (Evl.ev_var rfl) Evl.ea_nil) (spv_has_each (hP0.ex ee2) (Evl.sq_of h2) (by omega))))) (fun hb2 H3 e3 => ?_) (fun hb2 H3 e3 => ?_)
    · have hne := nb_t hb2
      rw [not_each] at hne
      have hany : (told.any fun i => decide (ps.length ≤ i)) = true := nb_f hne
      simp only [hany, if_true] at kk
      exact Evl.s_ret Evl.ev_c fun H4 e4 => kk H4 ((ee2.trans e3).trans e4)
    · have hall := nb_f hb2
      have hlt := each_lt hall
      have hany : (told.any fun i => decide (ps.length ≤ i)) = false := by
        rw [not_each] at hall
        exact nb_t hall
      simp only [hany, Bool.false_eq_true, if_false] at kk
      have ee3 := ee2.trans e3
      have hso : EvL (tSl (rSlL K) (tVar 2) (tPart (tOp (rIxT K) (tC (.ref A.a_POINTS_OF_KIND)) (tVar 1))) tNoPart) [some (.ref a), some (.int (k : Int)), some (.ref q), some (.ref tt), none] H3 (nl (row.drop (Kh372.pointsOf k))) := by
        rw [← nl_drop, ← cutV_drop]
        exact Evl.el_sl (Evl.ev_var rfl) (Evl.eo_some (ev_pk T k13 (Evl.ev_var rfl))) Evl.eo_none (Evl.ex_l ee3 hq)
      refine Evl.q_asgL hso fun oo H4 hoo e4 h4 => ?_
      have ee4 := ee3.trans e4
      have hgood := pts_good hg hlt (by omega)
      have hsay : Kh372.says ps k row = Kh372.so k (told.map (Kh372.pt ps)) (row.getD 4 0 : Nat) (row.getD 5 0 : Nat) := by
        unfold Kh372.says
        rw [htold]
        rfl
      have hpl : (told.map (Kh372.pt ps)).length = Kh372.pointsOf k := by
        rw [List.length_map, ← htold, List.length_take]
        omega
      have hcall : Ev (tCall (sp_is_so K A) [] E0 (tCons (tVar 1) (tCons (tCall (sp_whole_places K A) [] E0 (tCons (tMeth A.c_Plane "places_of" (sp_Plane_places_of K A) [] E0 (tVar 0) (tCons (tVar 3) tNil)) tNil)) (tCons (tVar 4) tNil)))) [some (.ref a), some (.int (k : Int)), some (.ref q), some (.ref tt), some (.ref oo)] H4 (.bl (Kh372.says ps k row)) := by
        rw [hsay, ← soQ_whl hgood k13 hpl (fun p hp => hp)]
        refine ev_call3Q (Evl.ev_var rfl) (eq_wholeN (ep_places (Evl.ev_var rfl) (ee4 _ _ ha) (plF_none _ _ _ (by decide +kernel) (by decide +kernel)) (Evl.ev_var rfl) (hP0.ex ee4) (Evl.sq_of (e4 _ _ (e3 _ _ h2))) (by omega) hlt) hgood) (Evl.ev_var rfl) fun b wq H5 e5 h5' hr => ?_
        refine spv_is_so k13 (Evl.sq_of h5') hr (whl_bd hgood) (by rw [List.length_map]; exact hpl) (fun x hx => ?_) (fun z => ?_)
        · obtain ⟨u, hu, rfl⟩ := List.mem_map.mp hx
          rfl
        · subst z
          have hl6 : row.length = 6 := hlen
          match row, hl6, h5, h4 with
          | [r0, r1, r2, r3, r4, r5], _, h5, h4 =>
            have b4 := h5 rfl r4 (by simp)
            have b5 := h5 rfl r5 (by simp)
            exact ⟨Evl.sq_of (e5 _ _ h4), Bd.of 1000 ⟨by show -1000 ≤ (r4 : Int); omega, by show (r4 : Int) ≤ 1000; omega⟩ (by decide), Bd.of 1000 ⟨by show -1000 ≤ (r5 : Int); omega, by show (r5 : Int) ≤ 1000; omega⟩ (by decide)⟩
      have hv : Ev (tIf (tB (tCall (sp_is_so K A) [] E0 (tCons (tVar 1) (tCons (tCall (sp_whole_places K A) [] E0 (tCons (tMeth A.c_Plane "places_of" (sp_Plane_places_of K A) [] E0 (tVar 0) (tCons (tVar 3) tNil)) tNil)) (tCons (tVar 4) tNil))))) (tC (.int 1)) (tC (.int 0))) [some (.ref a), some (.int (k : Int)), some (.ref q), some (.ref tt), some (.ref oo)] H4 (.int (if Kh372.says ps k row = true then 1 else 0)) := by
        refine Evl.ev_if (Evl.et_B hcall) (fun hk => ?_) (fun hk => ?_)
        · rw [if_pos hk]
          exact Evl.ev_c
        · rw [if_neg (by rw [hk]; exact Bool.false_ne_true)]
          exact Evl.ev_c
      exact Evl.s_ret hv fun H5 e5 => kk H5 (ee4.trans e5)
/-- cross -/
theorem spl_answer_with {p : Addr} {xs : List Int} (hp : H p = some (.lst (intL xs))) (hl : xs.length ≤ 100) : SpL (sp_answer_with K A) [.ref p] H (intL (if xs.any bigT = true then [-75] else 0 :: xs)) := fun H1 e Q q _ => ⟨p, xs, rfl, e _ _ hp, hl, q⟩
theorem sc_pts {pts : List Pt} (hg : GoodS pts) : ∀ p ∈ pts, Sc (comW pts) p ((comW pts).fdiv p.w) := fun p hp => sc_of (hg.1 p hp).w1 ((comW_ok hg).2.1 p hp)
theorem len_Plane_cross (h : sp_Plane_cross K A vs H Q E) : vs.length = 2 := len_spPu (n := 1) (fun _ _ _ ⟨_, _, _, _, _, e, _⟩ => by rw [e]; rfl) h
theorem pure_Plane_cross (T : Txt K mg A) (h : sp_Plane_cross K A vs H Q E) : t_Plane_cross K A (De Q) (start ["self", "told", "p"] vs) H := by
  obtain ⟨o, l, ps, c, r, rfl, ⟨q, i, j, k, m, rfl, hq, rfl⟩, hP, hg, kk⟩ := h
  have hP0 := hP
  obtain ⟨dx, ws, ha, hl, hp⟩ := hP
  refine Evl.q_when (Evl.et_not (Evl.et_B (ev_meth (Evl.ev_var rfl) ha (plF_none _ _ _ (by decide +kernel) (by decide +kernel)) (Evl.ea_cons (Evl.ev_var rfl) Evl.ea_nil) (spv_has_each hP0 hq (by simp))))) (fun hb H1 e1 => ?_) (fun hb H1 e1 => ?_)
  · have hne := nb_t hb
    rw [not_each] at hne
    have hany := nb_f hne
    simp only [Kh372.does, hany, if_true, Kh372.say] at kk
    exact Evl.s_retL (Evl.el_lst (Evl.ea_cons Evl.ev_c Evl.ea_nil) (by simp)) fun b H2 hb2 e2 h2 => kk b H2 (Evl.fresh_back e1 hb2) (e1.trans e2) h2
  · have hall := nb_f hb
    have hlt := each_lt hall
    have hany : ([i, j, k, m].any fun x => decide (ps.length ≤ x)) = false := by
      rw [not_each] at hall
      exact nb_t hall
    simp only [Kh372.does, hany, Bool.false_eq_true, if_false] at kk
    have hgood := pts_good hg hlt (by simp)
    refine q_asgQ (eq_wholeN (ep_places (Evl.ev_var rfl) (e1 _ _ ha) (plF_none _ _ _ (by decide +kernel) (by decide +kernel)) (Evl.ev_var rfl) (hP0.ex e1) (Evl.ex_l e1 hq) (by simp) hlt) hgood) fun b H2 wb hb2 e2 h2 hr => ?_
    have hbd := whl_bd hgood
    obtain ⟨c1, _, _⟩ := comW_ok hgood
    have hC : comW ([i, j, k, m].map (Kh372.pt ps)) ≠ 0 := by omega
    have hsc := sc_pts hgood
    unfold whl at hr hbd
    generalize comW ([i, j, k, m].map (Kh372.pt ps)) = C at *
    simp only [List.map_cons, List.map_nil] at hr hbd hsc
    have sa := hsc (Kh372.pt ps i) (by simp)
    have sb := hsc (Kh372.pt ps j) (by simp)
    have sc := hsc (Kh372.pt ps k) (by simp)
    have sd := hsc (Kh372.pt ps m) (by simp)
    generalize Kh372.pt ps i = pa at *
    generalize Kh372.pt ps j = pb at *
    generalize Kh372.pt ps k = pc at *
    generalize Kh372.pt ps m = pd at *
    have ee2 := e1.trans e2
    have hr' : RowsT K H2 wb [[pa.x * C.fdiv pa.w, pa.y * C.fdiv pa.w], [pb.x * C.fdiv pb.w, pb.y * C.fdiv pb.w], [pc.x * C.fdiv pc.w, pc.y * C.fdiv pc.w], [pd.x * C.fdiv pd.w, pd.y * C.fdiv pd.w]] := hr
    have hbd' : ∀ x ∈ [[pa.x * C.fdiv pa.w, pa.y * C.fdiv pa.w], [pb.x * C.fdiv pb.w, pb.y * C.fdiv pb.w], [pc.x * C.fdiv pc.w, pc.y * C.fdiv pc.w], [pd.x * C.fdiv pd.w, pd.y * C.fdiv pd.w]], ∀ z ∈ x, Bd 350 z := hbd
    have hcall : Ev (tCall (sp_may_be_crossed K A) [] E0 (tCons (tVar 2) tNil)) [some (.ref o), some (.ref q), some (.ref b)] H2 (.bl (Kh372.apart [pa, pb, pc, pd] && (Kh372.so 1 [pa, pb, pc] 0 0 && Kh372.so 1 [pa, pb, pd] 0 0))) := by
      rw [apart_eq hC sa sb sc sd, ← k1 hC sa sb sc, ← k1 hC sa sb sd]
      exact Evl.ev_call (Evl.ea_cons (Evl.ev_var rfl) Evl.ea_nil) fun H3 e3 Q' q' _ => ⟨_, _, _, _, _, _, _, _, ⟨_, _, rfl, ⟨b, wb, rfl, Evl.sq_of (e3 _ _ h2), hr'.ex e3, hbd'⟩, rfl⟩, q'⟩
    refine Evl.q_when (Evl.et_not (Evl.et_B hcall)) (fun hb3 H3 e3 => ?_) (fun hb3 H3 e3 => ?_)
    · have hn := nb_t hb3
      have hc : Kh372.apart [pa, pb, pc, pd] = false ∨ Kh372.so 1 [pa, pb, pc] 0 0 = false ∨ Kh372.so 1 [pa, pb, pd] 0 0 = false := by
        rw [Bool.and_eq_false_iff, Bool.and_eq_false_iff] at hn
        exact hn
      simp only [if_pos hc, Kh372.say] at kk
      exact Evl.s_retL (Evl.el_lst (Evl.ea_cons Evl.ev_c Evl.ea_nil) (by simp)) fun x H4 hx e4 h4 => kk x H4 (Evl.fresh_back (ee2.trans e3) hx) ((ee2.trans e3).trans e4) h4
    · have hn := nb_f hb3
      rw [Bool.and_eq_true, Bool.and_eq_true] at hn
      obtain ⟨n1, n2, n3⟩ := hn
      have hc : ¬ (Kh372.apart [pa, pb, pc, pd] = false ∨ Kh372.so 1 [pa, pb, pc] 0 0 = false ∨ Kh372.so 1 [pa, pb, pd] 0 0 = false) := by
        rintro (z | z | z)
        · rw [n1] at z; cases z
        · rw [n2] at z; cases z
        · rw [n3] at z; cases z
      simp only [if_neg hc] at kk
      rw [apart_eq hC sa sb sc sd] at n1
      rw [← k1 hC sa sb sc] at n2
      rw [← k1 hC sa sb sd] at n3
      have hxy : ∃ X Y Z W : Int, [X, Y, Z, W] = if pa.x * C.fdiv pa.w = pb.x * C.fdiv pb.w then [pa.y * C.fdiv pa.w, pb.y * C.fdiv pb.w, pc.y * C.fdiv pc.w, pd.y * C.fdiv pd.w] else [pa.x * C.fdiv pa.w, pb.x * C.fdiv pb.w, pc.x * C.fdiv pc.w, pd.x * C.fdiv pd.w] := by
        by_cases z : pa.x * C.fdiv pa.w = pb.x * C.fdiv pb.w
        · rw [if_pos z]
          exact ⟨_, _, _, _, rfl⟩
        · rw [if_neg z]
          exact ⟨_, _, _, _, rfl⟩
      obtain ⟨X, Y, Z, W, hxy⟩ := hxy
      obtain ⟨hD, hcr⟩ := cross_eq hC sa sb sc sd hxy (of_decide_eq_true n1) n2 n3
      have hfr := fracs_eq [(crossN X Y Z W, crossD X Y Z W)] (by
        intro f hf
        rw [List.mem_singleton.mp hf]
        exact hD)
      simp only [List.flatMap_cons, List.flatMap_nil, List.append_nil, List.map_cons, List.map_nil] at hfr
      rw [hcr, hfr] at kk
      have ee3 := ee2.trans e3
      refine Evl.s_retL (el_callL (xs := intL (fr2 (crossN X Y Z W) (crossD X Y Z W))) (Evl.el_call (Evl.ea_cons (Evl.ev_var rfl) Evl.ea_nil) fun H4 e4 Q' q' _ => ?_) fun bb H4 e4 h4 => spl_answer_with h4 (by show 2 ≤ 100; decide)) fun x H4 hx e4 h4 => kk x H4 (Evl.fresh_back ee3 hx) (ee3.trans e4) h4
      exact ⟨_, _, _, _, _, _, _, _, X, Y, Z, W, ⟨_, _, rfl, ⟨b, wb, rfl, Evl.sq_of (e4 _ _ (e3 _ _ h2)), (hr'.ex e3).ex e4, hbd'⟩, rfl⟩, hxy, hD, q'⟩
/-- centre -/
theorem len_Plane_centre (h : sp_Plane_centre K A vs H Q E) : vs.length = 2 := len_spPu (n := 1) (fun _ _ _ ⟨_, _, _, _, e, _⟩ => by rw [e]; rfl) h
theorem pure_Plane_centre (T : Txt K mg A) (h : sp_Plane_centre K A vs H Q E) : t_Plane_centre K A (De Q) (start ["self", "told", "places", "p"] vs) H := by
  obtain ⟨o, l, ps, c, r, rfl, ⟨q, i, j, k, rfl, hq, rfl⟩, hP, hg, kk⟩ := h
  have hP0 := hP
  obtain ⟨dx, ws, ha, hl, hp⟩ := hP
  refine Evl.q_when (Evl.et_not (Evl.et_B (ev_meth (Evl.ev_var rfl) ha (plF_none _ _ _ (by decide +kernel) (by decide +kernel)) (Evl.ea_cons (Evl.ev_var rfl) Evl.ea_nil) (spv_has_each hP0 hq (by simp))))) (fun hb H1 e1 => ?_) (fun hb H1 e1 => ?_)
  · have hne := nb_t hb
    rw [not_each] at hne
    have hany := nb_f hne
    simp only [Kh372.does, hany, if_true, Kh372.say] at kk
    exact Evl.s_retL (Evl.el_lst (Evl.ea_cons Evl.ev_c Evl.ea_nil) (by simp)) fun b H2 hb2 e2 h2 => kk b H2 (Evl.fresh_back e1 hb2) (e1.trans e2) h2
  · have hall := nb_f hb
    have hlt := each_lt hall
    have hany : ([i, j, k].any fun x => decide (ps.length ≤ x)) = false := by
      rw [not_each] at hall
      exact nb_t hall
    simp only [Kh372.does, hany, Bool.false_eq_true, if_false] at kk
    have hgood := pts_good hg hlt (by simp)
    refine q_asgP (ep_places (Evl.ev_var rfl) (e1 _ _ ha) (plF_none _ _ _ (by decide +kernel) (by decide +kernel)) (Evl.ev_var rfl) (hP0.ex e1) (Evl.ex_l e1 hq) (by simp) hlt) fun y H2 wy hy e2 h2 hpy => ?_
    refine q_asgQ (eq_whole (Evl.ev_var rfl) (Evl.sq_of h2) hpy hgood) fun b H3 wb hb2 e3 h3 hr => ?_
    have ee3 := (e1.trans e2).trans e3
    have hbd := whl_bd hgood
    obtain ⟨c1, _, c3⟩ := comW_ok hgood
    have hC : comW ([i, j, k].map (Kh372.pt ps)) ≠ 0 := by omega
    have hsc := sc_pts hgood
    have hcb : ∀ H4, Ex H3 H4 → SpV (sp_common_below K A) [.ref y] H4 (.int (comW ([i, j, k].map (Kh372.pt ps)))) := fun H4 e4 => spv_common_below (Evl.sq_of (e4 _ _ (e3 _ _ h2))) ((hpy.ex e3).ex e4) hgood
    unfold whl at hr hbd
    generalize comW ([i, j, k].map (Kh372.pt ps)) = C at *
    simp only [List.map_cons, List.map_nil] at hr hbd hsc
    have sa := hsc (Kh372.pt ps i) (by simp)
    have sb := hsc (Kh372.pt ps j) (by simp)
    have sc := hsc (Kh372.pt ps k) (by simp)
    generalize Kh372.pt ps i = pa at *
    generalize Kh372.pt ps j = pb at *
    generalize Kh372.pt ps k = pc at *
    have hr' : RowsT K H3 wb [[pa.x * C.fdiv pa.w, pa.y * C.fdiv pa.w], [pb.x * C.fdiv pb.w, pb.y * C.fdiv pb.w], [pc.x * C.fdiv pc.w, pc.y * C.fdiv pc.w]] := hr
    have hbd' : ∀ x ∈ [[pa.x * C.fdiv pa.w, pa.y * C.fdiv pa.w], [pb.x * C.fdiv pb.w, pb.y * C.fdiv pb.w], [pc.x * C.fdiv pc.w, pc.y * C.fdiv pc.w]], ∀ z ∈ x, Bd 350 z := hbd
    have hcall : Ev (tCall (sp_is_line K A) [] E0 (tCons (tVar 3) tNil)) [some (.ref o), some (.ref q), some (.ref y), some (.ref b)] H3 (.bl (Kh372.so 1 [pa, pb, pc] 0 0)) := by
      rw [← k1 hC sa sb sc]
      exact p_evB (p_call (pa_consP (p_qv rfl (Evl.sq_of h3) hr' hbd') mono_Q pa_nilP) spa_is_line)
    refine Evl.q_when (Evl.et_B hcall) (fun hb3 H4 e4 => ?_) (fun hb3 H4 e4 => ?_)
    · simp only [hb3, if_true, Kh372.say] at kk
      exact Evl.s_retL (Evl.el_lst (Evl.ea_cons Evl.ev_c Evl.ea_nil) (by simp)) fun x H5 hx e5 h5 => kk x H5 (Evl.fresh_back (ee3.trans e4) hx) ((ee3.trans e4).trans e5) h5
    · simp only [hb3, Bool.false_eq_true, if_false] at kk
      rw [← k1 hC sa sb sc] at hb3
      obtain ⟨hW, f1, f2, f3⟩ := centre_eq hC sa sb sc hb3 rfl rfl rfl
      rw [f1, f2, f3] at kk
      generalize hWW : cenW (pa.x * C.fdiv pa.w) (pa.y * C.fdiv pa.w) (pb.x * C.fdiv pb.w) (pb.y * C.fdiv pb.w) (pc.x * C.fdiv pc.w) (pc.y * C.fdiv pc.w) = W at *
      generalize hXX : cenX (pa.x * C.fdiv pa.w) (pa.y * C.fdiv pa.w) (pb.x * C.fdiv pb.w) (pb.y * C.fdiv pb.w) (pc.x * C.fdiv pc.w) (pc.y * C.fdiv pc.w) = X at *
      generalize hYY : cenY (pa.x * C.fdiv pa.w) (pa.y * C.fdiv pa.w) (pb.x * C.fdiv pb.w) (pb.y * C.fdiv pb.w) (pc.x * C.fdiv pc.w) (pc.y * C.fdiv pc.w) = Y at *
      have hWC : W * C ≠ 0 := mz hW hC
      have hfr := fracs_eq [(pa.x * C.fdiv pa.w * W + X, W * C), (pa.y * C.fdiv pa.w * W + Y, W * C), (X * X + Y * Y, W * C * W * C)] (by
        intro f hf
        simp only [List.mem_cons, List.not_mem_nil, or_false] at hf
        rcases hf with rfl | rfl | rfl
        · exact hWC
        · exact hWC
        · exact mz (mz hWC hW) hC)
      simp only [List.flatMap_cons, List.flatMap_nil, List.append_nil, List.map_cons, List.map_nil] at hfr
      rw [hfr] at kk
      have ee4 := ee3.trans e4
      refine Evl.s_retL (el_callL (xs := intL (fr2 (pa.x * C.fdiv pa.w * W + X) (W * C) ++ (fr2 (pa.y * C.fdiv pa.w * W + Y) (W * C) ++ fr2 (X * X + Y * Y) (W * C * W * C)))) (Evl.el_call (Evl.ea_cons (Evl.ev_var rfl) (Evl.ea_cons (Evl.ev_call (Evl.ea_cons (Evl.ev_var rfl) Evl.ea_nil) (hcb H4 e4)) Evl.ea_nil)) fun H5 e5 Q' q' _ => ?_) fun bb H5 e5 h5 => spl_answer_with h5 (by show 6 ≤ 100; decide)) fun x H5 hx e5 h5 => kk x H5 (Evl.fresh_back ee4 hx) (ee4.trans e5) h5
      refine ⟨_, _, _, _, _, _, C, ⟨_, _, rfl, ⟨b, wb, rfl, Evl.sq_of (e5 _ _ (e4 _ _ h3)), (hr'.ex e4).ex e5, hbd'⟩, _, _, rfl, ⟨rfl, c3.le (by decide)⟩, rfl⟩, hC, ?_, ?_⟩
      · rw [hWW]
        exact hW
      · rw [hWW, hXX, hYY, List.append_assoc]
        exact q'
end
end My

set_option Elab.async false
set_option linter.all false
set_option maxRecDepth 100000
set_option maxHeartbeats 4000000
namespace My
open PySem PySem.Spec PyProof.Rows L2
open Evl (Ev EvL EvU EvT EvA EvO Ex RV RU RC RCL SpV SpL)
section
variable {K : PySem.W.Frag} {mg : Str → Option Value} {A : Ad} {vs : List V} {H : Hp} {Q : VK} {E : XK}

/-! ### what is a word alone -/
theorem say_point (ps : List Pt) (x y : Int) (w : Nat) : (Kh372.does ps (.point x y w)).2.out = [] := by
  show (if Kh372.okPoint x y w = false then (ps, Kh372.say (-22)) else if Kh372.POINTS ≤ ps.length then (ps, Kh372.say (-28)) else (ps ++ [Kh372.cut ⟨x, y, w⟩], Kh372.say ps.length)).2.out = []
  split
  · rfl
  · split <;> rfl
theorem say_put (ps : List Pt) (p : Nat) (x y : Int) (w : Nat) : (Kh372.does ps (.put p x y w)).2.out = [] := by
  show (if ps.length ≤ p then (ps, Kh372.say (-2)) else if Kh372.okPoint x y w = false then (ps, Kh372.say (-22)) else (ps.set p (Kh372.cut ⟨x, y, w⟩), Kh372.say 0)).2.out = []
  split
  · rfl
  · split <;> rfl
theorem say_out (ps : List Pt) : (Kh372.does ps .out).2.out = [] := by
  show (if ps = [] then (ps, Kh372.say (-2)) else (ps.dropLast, Kh372.say (ps.length - 1 : Nat))).2.out = []
  split <;> rfl
theorem say_shift (ps : List Pt) (f : Pt → Pt) : (Kh372.shift ps f).2.out = [] := by
  unfold Kh372.shift
  split
  · rfl
  · split <;> rfl
theorem say_slant (ps : List Pt) (x y z u e f : Int) : (Kh372.does ps (.slant x y z u e f)).2.out = [] := by
  show (if Kh372.within 10 [x, y, z, u, e, f] = false ∨ x * u - y * z = 0 then (ps, Kh372.say (-22)) else Kh372.shift ps (Kh372.slant x y z u e f)).2.out = []
  split
  · rfl
  · exact say_shift _ _
theorem say_bend (ps : List Pt) (m : List Int) : (Kh372.does ps (.bend m)).2.out = [] := by
  show (if m.length ≠ 9 ∨ Kh372.within 10 m = false ∨ Kh372.det3 m = 0 then (ps, Kh372.say (-22)) else Kh372.shift ps (Kh372.bend m)).2.out = []
  split
  · rfl
  · exact say_shift _ _
theorem say_says (ps : List Pt) (k : Nat) (l : List Nat) : (Kh372.does ps (.says k l)).2.out = [] := by
  show (if Kh372.okSaying k l = false then Kh372.say (-22) else if (l.take (Kh372.pointsOf k)).any (fun i => decide (ps.length ≤ i)) then Kh372.say (-2) else Kh372.say (if Kh372.says ps k l then 1 else 0)).out = []
  split
  · rfl
  · split <;> rfl
theorem say_keeps (ps : List Pt) (k : Nat) (x y z u : Int) : (Kh372.does ps (.keeps k x y z u)).2.out = [] := by
  show (if Kh372.sizes.length ≤ k ∨ Kh372.within 1000 [x, y, z, u] = false ∨ x * u - y * z = 0 then Kh372.say (-22) else Kh372.say (if Kh372.keeps k x y z u then 1 else 0)).out = []
  split <;> rfl
theorem Aft.then {H1 H2 : Hp} {a l : Addr} {s : Option (List Pt)} (h : Aft K A H a l s H1) (e : Ex H1 H2) : Aft K A H a l s H2 := by
  obtain ⟨l', h1, h2, h3⟩ := h
  exact ⟨l', h1, h2.ex e, fun b o hb n1 n2 => e _ _ (h3 b o hb n1 n2)⟩
theorem fin_pl {a l : Addr} {ps : List Pt} {cc : Kh372.Call} (hout : (Kh372.does ps cc).2.out = [])
    (k : ∀ p H', (∀ b o, H b = some o → b ≠ a → b ≠ l → b ≠ p) → H' p = some (.lst (intL ((Kh372.does ps cc).2.ret :: (Kh372.does ps cc).2.out))) → Aft K A H a l (some (Kh372.does ps cc).1) H' → Q (.ref p) H') {H' : Hp} (hA : Aft K A H a l (some (Kh372.does ps cc).1) H') :
    ([V.int (Kh372.does ps cc).2.ret] : List V).length ≤ sizeLine ∧ ∀ p, H' p = none → Q (.ref p) (upd H' p (.lst [.int (Kh372.does ps cc).2.ret])) := by
  refine ⟨by show 1 ≤ sizeLine; decide, fun p hp => k p _ (fun b o hb n1 n2 => ?_) ?_ (hA.then (Ex.new hp))⟩
  · obtain ⟨l', h1, h2, h3⟩ := hA
    exact ne_of_none (h3 b o hb n1 n2) hp
  · rw [upd_same, hout]
    rfl
theorem nat_back {z : Int} (h : 0 ≤ z) : z = ((z.toNat : Nat) : Int) := by omega
theorem nat_row {l : List Int} (h : ∀ x ∈ l, 0 ≤ x) : nl (l.map Int.toNat) = intL l := by
  unfold nl intL
  rw [List.map_map]
  apply List.map_congr_left
  intro x hx
  have := h x hx
  show V.int ((x.toNat : Nat) : Int) = V.int x
  rw [← nat_back this]
section
variable {σ : L2.St} {D : Ends} {tz tu : TS}
theorem q_skip {i j : Int} (hv : σ[1]? = some (some (.int i))) (hne : i ≠ j) (k : tz D σ H) : tSeq (tIfS (tTest (tOp rEq (tVar 1) (tC (.int j)))) tu tNext) tz D σ H := by
  refine ⟨.int i, hv, rfl, _, rfl, ?_⟩
  rw [decV, decide_eq_false hne]
  exact k
theorem q_take {i j : Int} (hv : σ[1]? = some (some (.int i))) (he : i = j) (k : tu { D with nx := tz D } σ H) : tSeq (tIfS (tTest (tOp rEq (tVar 1) (tC (.int j)))) tu tNext) tz D σ H := by
  refine ⟨.int i, hv, rfl, _, rfl, ?_⟩
  rw [decV, decide_eq_true he]
  exact k
theorem ret1 {C a dx : Addr} {fs : List (Str × V)} {m : Str} {sp : Sp} {t : TA} {vs : List V} (h0 : σ[0]? = some (some (.ref a))) (ho : H a = some (.ins C dx fs)) (hm : fs.lookup m = none) (hA : EvA t σ H vs)
    (hs : ∀ H1, Ex H H1 → sp (.ref a :: vs) H1 (fun v H2 => ([v] : List V).length ≤ sizeLine ∧ ∀ p, H2 p = none → D.rt (.ref p) (upd H2 p (.lst [v]))) E0) : tRet (tLst (tCons (tMeth C m sp [] E0 (tVar 0) t) tNil)) D σ H :=
  ⟨_, h0, a, dx, fs, rfl, ho, hm, hA H (Ex.refl H) _ fun H1 e1 => by
    rw [List.append_nil]
    exact hs H1 e1⟩
theorem retM {C a dx : Addr} {fs : List (Str × V)} {m : Str} {sp : Sp} {t : TA} {vs : List V} (h0 : σ[0]? = some (some (.ref a))) (ho : H a = some (.ins C dx fs)) (hm : fs.lookup m = none) (hA : EvA t σ H vs)
    (hs : ∀ H1, Ex H H1 → sp (.ref a :: vs) H1 D.rt E0) : tRet (tMeth C m sp [] E0 (tVar 0) t) D σ H :=
  ⟨_, h0, a, dx, fs, rfl, ho, hm, hA H (Ex.refl H) _ fun H1 e1 => by
    rw [List.append_nil]
    exact hs H1 e1⟩
end
theorem raw_zero {q : List (List Int)} {cc : Kh372.Call} (h : Raw q cc) {ns : List Int} {rs : List (List Int)} (hq : (0 :: ns) :: rs = q) : cc = .begin_ := by
  cases h with
  | c0 => rfl
  | _ => simp at hq
theorem raw_pos {q : List (List Int)} {cc : Kh372.Call} (h : Raw q cc) {z : Int} {ns : List Int} {rs : List (List Int)} (hq : (z :: ns) :: rs = q) (hz : z ≠ 0) : cc ≠ .begin_ := by
  cases h with
  | c0 =>
    cases hq
    exact absurd rfl hz
  | _ => exact fun e => by cases e
theorem doing_none {cc : Kh372.Call} (h : cc ≠ .begin_) : Kh372.doing none cc = (none, Kh372.say (-61)) := by
  cases cc <;> first | exact absurd rfl h | rfl
theorem doing_some {cc : Kh372.Call} {ps : List Pt} (h : cc ≠ .begin_) : Kh372.doing (some ps) cc = (some (Kh372.does ps cc).1, (Kh372.does ps cc).2) := by
  cases cc <;> first | exact absurd rfl h | rfl
theorem len_answer_of (h : sp_answer_of K A vs H Q E) : vs.length = 4 := by
  obtain ⟨_, _, _, _, _, _, _, _, rfl, _⟩ := h
  rfl
set_option maxHeartbeats 16000000 in
theorem pure_answer_of (T : Txt K mg A) (h : sp_answer_of K A vs H Q E) : t_answer_of K A (De Q) (start ["plane", "call", "n", "row"] vs) H := by
  obtain ⟨a, l, n, r, z, ns, rs, s, rfl, hn, hr, hnl, hrl, hok, hask, hP, hI, k⟩ := h
  have hraw := raw_of hok hask
  have k0 : ∀ p H', (∀ b o, H b = some o → b ≠ a → b ≠ l → b ≠ p) → H' p = some (.lst (intL ((Kh372.doing s (Kh372Neutral.callOf1 ((z :: ns) :: rs))).2.ret :: (Kh372.doing s (Kh372Neutral.callOf1 ((z :: ns) :: rs))).2.out))) → Aft K A H a l (Kh372.doing s (Kh372Neutral.callOf1 ((z :: ns) :: rs))).1 H' → Q (.ref p) H' := k
  generalize Kh372Neutral.callOf1 ((z :: ns) :: rs) = cc at hraw k0
  clear k hok hask
  generalize hq : (z :: ns) :: rs = q at hraw
  by_cases hz : z = 0
  · subst hz
    obtain rfl := raw_zero hraw hq
    have hP0 := hP
    obtain ⟨dx, ws, ha, hl, hp⟩ := hP
    refine q_take rfl rfl ?_
    refine ret1 rfl ha (plF_none _ _ _ (by decide +kernel) (by decide +kernel)) Evl.ea_nil fun H1 e1 => ?_
    refine ⟨a, l, s, rfl, hP0.ex e1, fun H' hA => ⟨by show 1 ≤ sizeLine; decide, fun p hp => ?_⟩⟩
    have hA := hA.ex e1
    refine k0 p _ (fun b o hb n1 n2 => ?_) ?_ (Aft.then ?_ (Ex.new hp))
    · obtain ⟨l', h1, h2, h3⟩ := hA
      exact ne_of_none (h3 b o hb n1 n2) hp
    · rw [upd_same]
      cases s <;> rfl
    · cases s <;> exact hA
  · refine q_skip rfl hz ?_
    have hcc := raw_pos hraw hq hz
    have hP0 := hP
    obtain ⟨dx, ws, ha, hl, hp⟩ := hP
    refine Evl.q_when (Evl.et_not (Evl.et_B (ev_fld (Evl.ev_var rfl) ha T.cl_Plane T.na_Plane_begun (plF_begun _ _)))) (fun hb H1 e1 => ?_) (fun hb H1 e1 => ?_)
    · have hs : s = none := by
        cases s with
        | none => rfl
        | some ps => exact absurd hb Bool.false_ne_true
      subst hs
      rw [doing_none hcc] at k0
      exact Evl.s_retL (Evl.el_lst (Evl.ea_cons Evl.ev_c Evl.ea_nil) (by simp)) fun p H2 hp2 e2 h2 => k0 p H2 (fun b o hbb _ _ => ne_of_none hbb (Evl.fresh_back e1 hp2)) h2 (Aft.same hP0 (e1.trans e2))
    · obtain ⟨ps, rfl⟩ : ∃ ps, s = some ps := by
        cases s with
        | none => exact absurd hb (by decide)
        | some ps => exact ⟨ps, rfl⟩
      have hg := hI ps rfl
      rw [doing_some hcc] at k0
      have hP1 := hP0.ex e1
      have ha1 := e1 _ _ ha
      have hn1 := e1 _ _ hn
      have hr1 := e1 _ _ hr
      have k1 : ∀ p H', (∀ b o, H1 b = some o → b ≠ a → b ≠ l → b ≠ p) → H' p = some (.lst (intL ((Kh372.does ps cc).2.ret :: (Kh372.does ps cc).2.out))) → Aft K A H1 a l (some (Kh372.does ps cc).1) H' → Q (.ref p) H' := fun p H' h1 h2 h3 => k0 p H' (fun b o hbb n1 n2 => h1 b o (e1 _ _ hbb) n1 n2) h2 (h3.ex e1)
      clear k0 hcc
      cases hraw with
      | c0 => exact absurd (by cases hq; rfl) hz
      | c1 x y w hw =>
        cases hq
        have hn2 := Evl.sq_of (K := K) hn1
        have hr2 := Evl.sq_of (K := K) hr1
        refine q_take rfl rfl ?_
        refine ret1 rfl ha1 (plF_none _ _ _ (by decide +kernel) (by decide +kernel)) (Evl.ea_cons (ev_ixL (n := 0) (Evl.ev_var rfl) hn2 rfl) (Evl.ea_cons (ev_ixL (n := 1) (Evl.ev_var rfl) hn2 rfl) (Evl.ea_cons (ev_ixL (n := 2) (Evl.ev_var rfl) hn2 rfl) Evl.ea_nil))) fun H2 e2 => ?_
        exact ⟨a, l, ps, _, _, rfl, ⟨x, y, w, rfl, hw, rfl⟩, hP1.ex e2, hg, fun H' hA => fin_pl (say_point _ _ _ _) k1 (hA.ex e2)⟩
      | c2 p x y w hp hw =>
        cases hq
        have hn2 := Evl.sq_of (K := K) hn1
        have hr2 := Evl.sq_of (K := K) hr1
        refine q_skip rfl (by decide) ?_
        refine q_take rfl rfl ?_
        refine ret1 rfl ha1 (plF_none _ _ _ (by decide +kernel) (by decide +kernel)) (Evl.ea_cons (ev_ixL (n := 0) (Evl.ev_var rfl) hn2 rfl) (Evl.ea_cons (ev_ixL (n := 1) (Evl.ev_var rfl) hn2 rfl) (Evl.ea_cons (ev_ixL (n := 2) (Evl.ev_var rfl) hn2 rfl) (Evl.ea_cons (ev_ixL (n := 3) (Evl.ev_var rfl) hn2 rfl) Evl.ea_nil)))) fun H2 e2 => ?_
        exact ⟨a, l, ps, _, _, rfl, ⟨p, x, y, w, rfl, hp, hw, rfl⟩, hP1.ex e2, hg, fun H' hA => fin_pl (say_put _ _ _ _ _) k1 (hA.ex e2)⟩
      | c3 =>
        cases hq
        have hn2 := Evl.sq_of (K := K) hn1
        have hr2 := Evl.sq_of (K := K) hr1
        refine q_skip rfl (by decide) ?_
        refine q_skip rfl (by decide) ?_
        refine q_take rfl rfl ?_
        refine ret1 rfl ha1 (plF_none _ _ _ (by decide +kernel) (by decide +kernel)) Evl.ea_nil fun H2 e2 => ?_
        exact ⟨a, l, ps, _, _, rfl, ⟨rfl, rfl⟩, hP1.ex e2, hg, fun H' hA => fin_pl (say_out _) k1 (hA.ex e2)⟩
      | c4 x y z u v w =>
        cases hq
        have hn2 := Evl.sq_of (K := K) hn1
        have hr2 := Evl.sq_of (K := K) hr1
        refine q_skip rfl (by decide) ?_
        refine q_skip rfl (by decide) ?_
        refine q_skip rfl (by decide) ?_
        refine q_take rfl rfl ?_
        refine ret1 rfl ha1 (plF_none _ _ _ (by decide +kernel) (by decide +kernel)) (Evl.ea_cons (ev_ixL (n := 0) (Evl.ev_var rfl) hn2 rfl) (Evl.ea_cons (ev_ixL (n := 1) (Evl.ev_var rfl) hn2 rfl) (Evl.ea_cons (ev_ixL (n := 2) (Evl.ev_var rfl) hn2 rfl) (Evl.ea_cons (ev_ixL (n := 3) (Evl.ev_var rfl) hn2 rfl) (Evl.ea_cons (ev_ixL (n := 4) (Evl.ev_var rfl) hn2 rfl) (Evl.ea_cons (ev_ixL (n := 5) (Evl.ev_var rfl) hn2 rfl) Evl.ea_nil)))))) fun H2 e2 => ?_
        exact ⟨a, l, ps, _, _, rfl, ⟨x, y, z, u, v, w, rfl, rfl⟩, hP1.ex e2, hg, fun H' hA => fin_pl (say_slant _ _ _ _ _ _ _) k1 (hA.ex e2)⟩
      | c5 m hm =>
        cases hq
        have hn2 := Evl.sq_of (K := K) hn1
        have hr2 := Evl.sq_of (K := K) hr1
        refine q_skip rfl (by decide) ?_
        refine q_skip rfl (by decide) ?_
        refine q_skip rfl (by decide) ?_
        refine q_skip rfl (by decide) ?_
        refine q_take rfl rfl ?_
        refine ret1 rfl ha1 (plF_none _ _ _ (by decide +kernel) (by decide +kernel)) (Evl.ea_cons (Evl.ev_var rfl) Evl.ea_nil) fun H2 e2 => ?_
        exact ⟨a, l, ps, _, _, rfl, ⟨r, m, rfl, Evl.ex_l e2 hr2, hm, rfl⟩, hP1.ex e2, hg, fun H' hA => fin_pl (say_bend _ _) k1 (hA.ex e2)⟩
      | c6 =>
        cases hq
        have hn2 := Evl.sq_of (K := K) hn1
        have hr2 := Evl.sq_of (K := K) hr1
        refine q_skip rfl (by decide) ?_
        refine q_skip rfl (by decide) ?_
        refine q_skip rfl (by decide) ?_
        refine q_skip rfl (by decide) ?_
        refine q_skip rfl (by decide) ?_
        refine q_take rfl rfl ?_
        refine ret1 rfl ha1 (plF_none _ _ _ (by decide +kernel) (by decide +kernel)) Evl.ea_nil fun H2 e2 => ?_
        exact ⟨a, l, ps, _, _, rfl, ⟨rfl, rfl⟩, hP1.ex e2, hg, fun H' hA => fin_pl rfl k1 (hA.ex e2)⟩
      | c7 p hp =>
        cases hq
        have hn2 := Evl.sq_of (K := K) hn1
        have hr2 := Evl.sq_of (K := K) hr1
        refine q_skip rfl (by decide) ?_
        refine q_skip rfl (by decide) ?_
        refine q_skip rfl (by decide) ?_
        refine q_skip rfl (by decide) ?_
        refine q_skip rfl (by decide) ?_
        refine q_skip rfl (by decide) ?_
        refine q_take rfl rfl ?_
        refine retM rfl ha1 (plF_none _ _ _ (by decide +kernel) (by decide +kernel)) (Evl.ea_cons (ev_ixL (n := 0) (Evl.ev_var rfl) hn2 rfl) Evl.ea_nil) fun H2 e2 => ?_
        exact ⟨a, l, ps, _, _, rfl, ⟨p.toNat, by rw [← nat_back hp], rfl⟩, hP1.ex e2, hg, fun p H3 hp3 e3 h3 => k1 p H3 (fun b o hb _ _ => ne_of_none ((e2) _ _ hb) hp3) h3 (Aft.same hP1 (e2.trans e3))⟩
      | c8 k m hk hm hx =>
        cases hq
        have hn2 := Evl.sq_of (K := K) hn1
        have hr2 := Evl.sq_of (K := K) hr1
        refine q_skip rfl (by decide) ?_
        refine q_skip rfl (by decide) ?_
        refine q_skip rfl (by decide) ?_
        refine q_skip rfl (by decide) ?_
        refine q_skip rfl (by decide) ?_
        refine q_skip rfl (by decide) ?_
        refine q_skip rfl (by decide) ?_
        refine q_take rfl rfl ?_
        refine ret1 rfl ha1 (plF_none _ _ _ (by decide +kernel) (by decide +kernel)) (Evl.ea_cons (ev_ixL (n := 0) (Evl.ev_var rfl) hn2 rfl) (Evl.ea_cons (Evl.ev_var rfl) Evl.ea_nil)) fun H2 e2 => ?_
        exact ⟨a, l, ps, _, _, rfl, ⟨k.toNat, r, m.map Int.toNat, by rw [← nat_back hk], by rw [nat_row hx]; exact Evl.ex_l e2 hr2, by rw [List.length_map]; exact hm, rfl⟩, hP1.ex e2, hg, fun H3 e3 => fin_pl (cc := .says k.toNat (m.map Int.toNat)) (H := H1) (say_says _ _ _) k1 (Aft.same hP1 (e2.trans e3))⟩
      | c9 p hp =>
        cases hq
        have hn2 := Evl.sq_of (K := K) hn1
        have hr2 := Evl.sq_of (K := K) hr1
        refine q_skip rfl (by decide) ?_
        refine q_skip rfl (by decide) ?_
        refine q_skip rfl (by decide) ?_
        refine q_skip rfl (by decide) ?_
        refine q_skip rfl (by decide) ?_
        refine q_skip rfl (by decide) ?_
        refine q_skip rfl (by decide) ?_
        refine q_skip rfl (by decide) ?_
        refine q_take rfl rfl ?_
        refine retM rfl ha1 (plF_none _ _ _ (by decide +kernel) (by decide +kernel)) (Evl.ea_cons (ev_ixL (n := 0) (Evl.ev_var rfl) hn2 rfl) Evl.ea_nil) fun H2 e2 => ?_
        exact ⟨a, l, ps, _, _, rfl, ⟨p.toNat, by rw [← nat_back hp], rfl⟩, hP1.ex e2, hg, fun p H3 hp3 e3 h3 => k1 p H3 (fun b o hb _ _ => ne_of_none ((e2) _ _ hb) hp3) h3 (Aft.same hP1 (e2.trans e3))⟩
      | c10 p hp =>
        cases hq
        have hn2 := Evl.sq_of (K := K) hn1
        have hr2 := Evl.sq_of (K := K) hr1
        refine q_skip rfl (by decide) ?_
        refine q_skip rfl (by decide) ?_
        refine q_skip rfl (by decide) ?_
        refine q_skip rfl (by decide) ?_
        refine q_skip rfl (by decide) ?_
        refine q_skip rfl (by decide) ?_
        refine q_skip rfl (by decide) ?_
        refine q_skip rfl (by decide) ?_
        refine q_skip rfl (by decide) ?_
        refine q_take rfl rfl ?_
        refine retM rfl ha1 (plF_none _ _ _ (by decide +kernel) (by decide +kernel)) (Evl.ea_cons (ev_ixL (n := 0) (Evl.ev_var rfl) hn2 rfl) Evl.ea_nil) fun H2 e2 => ?_
        exact ⟨a, l, ps, _, _, rfl, ⟨p.toNat, by rw [← nat_back hp], rfl⟩, hP1.ex e2, hg, fun p H3 hp3 e3 h3 => k1 p H3 (fun b o hb _ _ => ne_of_none ((e2) _ _ hb) hp3) h3 (Aft.same hP1 (e2.trans e3))⟩
      | c11 k x y z u hk =>
        cases hq
        have hn2 := Evl.sq_of (K := K) hn1
        have hr2 := Evl.sq_of (K := K) hr1
        refine q_skip rfl (by decide) ?_
        refine q_skip rfl (by decide) ?_
        refine q_skip rfl (by decide) ?_
        refine q_skip rfl (by decide) ?_
        refine q_skip rfl (by decide) ?_
        refine q_skip rfl (by decide) ?_
        refine q_skip rfl (by decide) ?_
        refine q_skip rfl (by decide) ?_
        refine q_skip rfl (by decide) ?_
        refine q_skip rfl (by decide) ?_
        refine q_take rfl rfl ?_
        refine ret1 rfl ha1 (plF_none _ _ _ (by decide +kernel) (by decide +kernel)) (Evl.ea_cons (ev_ixL (n := 0) (Evl.ev_var rfl) hn2 rfl) (Evl.ea_cons (ev_ixL (n := 1) (Evl.ev_var rfl) hn2 rfl) (Evl.ea_cons (ev_ixL (n := 2) (Evl.ev_var rfl) hn2 rfl) (Evl.ea_cons (ev_ixL (n := 3) (Evl.ev_var rfl) hn2 rfl) (Evl.ea_cons (ev_ixL (n := 4) (Evl.ev_var rfl) hn2 rfl) Evl.ea_nil))))) fun H2 e2 => ?_
        exact ⟨a, l, ps, _, _, rfl, ⟨k.toNat, x, y, z, u, by rw [← nat_back hk], rfl⟩, hP1.ex e2, hg, fun H3 e3 => fin_pl (cc := .keeps k.toNat x y z u) (H := H1) (say_keeps _ _ _ _ _ _) k1 (Aft.same hP1 (e2.trans e3))⟩
      | c12 x y z u hx hy hz hu =>
        cases hq
        have hn2 := Evl.sq_of (K := K) hn1
        have hr2 := Evl.sq_of (K := K) hr1
        refine q_skip rfl (by decide) ?_
        refine q_skip rfl (by decide) ?_
        refine q_skip rfl (by decide) ?_
        refine q_skip rfl (by decide) ?_
        refine q_skip rfl (by decide) ?_
        refine q_skip rfl (by decide) ?_
        refine q_skip rfl (by decide) ?_
        refine q_skip rfl (by decide) ?_
        refine q_skip rfl (by decide) ?_
        refine q_skip rfl (by decide) ?_
        refine q_skip rfl (by decide) ?_
        refine q_take rfl rfl ?_
        refine retM rfl ha1 (plF_none _ _ _ (by decide +kernel) (by decide +kernel)) (Evl.ea_cons (Evl.ev_var rfl) Evl.ea_nil) fun H2 e2 => ?_
        exact ⟨a, l, ps, _, _, rfl, ⟨n, x.toNat, y.toNat, z.toNat, u.toNat, rfl, by rw [show nl [x.toNat, y.toNat, z.toNat, u.toNat] = intL [x, y, z, u] from nat_row (l := [x, y, z, u]) (by simp; omega)]; exact Evl.ex_l e2 hn2, rfl⟩, hP1.ex e2, hg, fun p H3 hp e3 h3 => k1 p H3 (fun b o hb _ _ => ne_of_none ((e2) _ _ hb) hp) h3 (Aft.same hP1 (e2.trans e3))⟩
      | c13 x y z hx hy hz =>
        cases hq
        have hn2 := Evl.sq_of (K := K) hn1
        have hr2 := Evl.sq_of (K := K) hr1
        refine q_skip rfl (by decide) ?_
        refine q_skip rfl (by decide) ?_
        refine q_skip rfl (by decide) ?_
        refine q_skip rfl (by decide) ?_
        refine q_skip rfl (by decide) ?_
        refine q_skip rfl (by decide) ?_
        refine q_skip rfl (by decide) ?_
        refine q_skip rfl (by decide) ?_
        refine q_skip rfl (by decide) ?_
        refine q_skip rfl (by decide) ?_
        refine q_skip rfl (by decide) ?_
        refine q_skip rfl (by decide) ?_
        refine retM rfl ha1 (plF_none _ _ _ (by decide +kernel) (by decide +kernel)) (Evl.ea_cons (Evl.ev_var rfl) Evl.ea_nil) fun H2 e2 => ?_
        exact ⟨a, l, ps, _, _, rfl, ⟨n, x.toNat, y.toNat, z.toNat, rfl, by rw [show nl [x.toNat, y.toNat, z.toNat] = intL [x, y, z] from nat_row (l := [x, y, z]) (by simp; omega)]; exact Evl.ex_l e2 hn2, rfl⟩, hP1.ex e2, hg, fun p H3 hp e3 h3 => k1 p H3 (fun b o hb _ _ => ne_of_none ((e2) _ _ hb) hp) h3 (Aft.same hP1 (e2.trans e3))⟩

end
end My

set_option Elab.async false
set_option linter.all false
set_option maxRecDepth 100000
set_option maxHeartbeats 4000000
namespace My
open PySem PySem.Spec PyProof.Rows L2
open Evl (Ev EvL EvU EvT EvA EvO Ex RV RU RC RCL SpV SpL)
section
variable {P : Program} {w : World} {K : PySem.W.Frag} {mg : Str → Option Value} {base : Heap} {A : Ad}
theorem ok_nine_of_slant (T : Txt K mg A) : FnOk P w K mg base CX0 1 A.f_nine_of_slant A.d_nine_of_slant ["a", "b", "c", "d", "e", "f"] (sp_nine_of_slant K A) :=
  T.F_nine_of_slant.ok sc_nine_of_slant (fun _ _ _ _ h => len_nine_of_slant h) fun _ _ _ _ _ _ _ _ hr h => ⟨t_nine_of_slant K A, der_nine_of_slant T hr, pure_nine_of_slant T h⟩
theorem ok_measure (T : Txt K mg A) : FnOk P w K mg base CX0 1 A.f_measure A.d_measure ["m"] (sp_measure K A) :=
  T.F_measure.ok sc_measure (fun _ _ _ _ h => len_measure h) fun _ _ _ _ _ _ _ _ hr h => ⟨t_measure K A, der_measure T hr, pure_measure T h⟩
theorem ok_may_bend (T : Txt K mg A) : FnOk P w K mg base CX0 2 A.f_may_bend A.d_may_bend ["row"] (sp_may_bend K A) :=
  T.F_may_bend.ok sc_may_bend (fun _ _ _ _ h => len_may_bend h) fun _ _ _ _ _ _ _ _ hr h => ⟨t_may_bend K A, der_may_bend T (ok_measure T) hr, pure_may_bend T h⟩
theorem ok_bent (T : Txt K mg A) : FnOk P w K mg base CX0 1 A.f_bent A.d_bent ["place", "m"] (sp_bent K A) :=
  T.F_bent.ok sc_bent (fun _ _ _ _ h => len_bent h) fun _ _ _ _ _ _ _ _ hr h => ⟨t_bent K A, der_bent T hr, pure_bent T h⟩
theorem ok_is_kind (T : Txt K mg A) : FnOk P w K mg base CX0 1 A.f_is_kind A.d_is_kind ["kind"] (sp_is_kind K A) :=
  T.F_is_kind.ok sc_is_kind (fun _ _ _ _ h => len_is_kind h) fun _ _ _ _ _ _ _ _ hr h => ⟨t_is_kind K A, der_is_kind T hr, pure_is_kind T h⟩
theorem ok_may_be_said (T : Txt K mg A) : FnOk P w K mg base CX0 2 A.f_may_be_said A.d_may_be_said ["kind", "row"] (sp_may_be_said K A) :=
  T.F_may_be_said.ok sc_may_be_said (fun _ _ _ _ h => len_may_be_said h) fun _ _ _ _ _ _ _ _ hr h => ⟨t_may_be_said K A, der_may_be_said T (ok_is_kind T) hr, pure_may_be_said T h⟩
theorem ok_way (T : Txt K mg A) : FnOk P w K mg base CX0 1 A.f_way A.d_way ["a", "b"] (sp_way K A) :=
  T.F_way.ok sc_way (fun _ _ _ _ h => len_way h) fun _ _ _ _ _ _ _ _ hr h => ⟨t_way K A, der_way T hr, pure_way T h⟩
theorem ok_turn (T : Txt K mg A) : FnOk P w K mg base CX0 1 A.f_turn A.d_turn ["first", "second"] (sp_turn K A) :=
  T.F_turn.ok sc_turn (fun _ _ _ _ h => len_turn h) fun _ _ _ _ _ _ _ _ hr h => ⟨t_turn K A, der_turn T hr, pure_turn T h⟩
theorem ok_lean (T : Txt K mg A) : FnOk P w K mg base CX0 1 A.f_lean A.d_lean ["first", "second"] (sp_lean K A) :=
  T.F_lean.ok sc_lean (fun _ _ _ _ h => len_lean h) fun _ _ _ _ _ _ _ _ hr h => ⟨t_lean K A, der_lean T hr, pure_lean T h⟩
theorem ok_multiplied (T : Txt K mg A) : FnOk P w K mg base CX0 1 A.f_multiplied A.d_multiplied ["first", "second"] (sp_multiplied K A) :=
  T.F_multiplied.ok sc_multiplied (fun _ _ _ _ h => len_multiplied h) fun _ _ _ _ _ _ _ _ hr h => ⟨t_multiplied K A, der_multiplied T hr, pure_multiplied T h⟩
theorem ok_square (T : Txt K mg A) : FnOk P w K mg base CX0 2 A.f_square A.d_square ["one"] (sp_square K A) :=
  T.F_square.ok sc_square (fun _ _ _ _ h => len_square h) fun _ _ _ _ _ _ _ _ hr h => ⟨t_square K A, der_square T (ok_lean T) hr, pure_square T h⟩
theorem ok_is_same (T : Txt K mg A) : FnOk P w K mg base CX0 1 A.f_is_same A.d_is_same ["p"] (sp_is_same K A) :=
  T.F_is_same.ok sc_is_same (fun _ _ _ _ h => len_is_same h) fun _ _ _ _ _ _ _ _ hr h => ⟨t_is_same K A, der_is_same T hr, pure_is_same T h⟩
theorem ok_is_line (T : Txt K mg A) : FnOk P w K mg base CX0 2 A.f_is_line A.d_is_line ["p"] (sp_is_line K A) :=
  T.F_is_line.ok sc_is_line (fun _ _ _ _ h => len_is_line h) fun _ _ _ _ _ _ _ _ hr h => ⟨t_is_line K A, der_is_line T (ok_turn T) (ok_way T) hr, pure_is_line T h⟩
theorem ok_is_parallel (T : Txt K mg A) : FnOk P w K mg base CX0 2 A.f_is_parallel A.d_is_parallel ["p"] (sp_is_parallel K A) :=
  T.F_is_parallel.ok sc_is_parallel (fun _ _ _ _ h => len_is_parallel h) fun _ _ _ _ _ _ _ _ hr h => ⟨t_is_parallel K A, der_is_parallel T (ok_turn T) (ok_way T) hr, pure_is_parallel T h⟩
theorem ok_is_right (T : Txt K mg A) : FnOk P w K mg base CX0 2 A.f_is_right A.d_is_right ["p"] (sp_is_right K A) :=
  T.F_is_right.ok sc_is_right (fun _ _ _ _ h => len_is_right h) fun _ _ _ _ _ _ _ _ hr h => ⟨t_is_right K A, der_is_right T (ok_lean T) (ok_way T) hr, pure_is_right T h⟩
theorem ok_is_times (T : Txt K mg A) : FnOk P w K mg base CX0 3 A.f_is_times A.d_is_times ["p", "m", "n"] (sp_is_times K A) :=
  T.F_is_times.ok sc_is_times (fun _ _ _ _ h => len_is_times h) fun _ _ _ _ _ _ _ _ hr h => ⟨t_is_times K A, der_is_times T (ok_square T) (ok_way T) hr, pure_is_times T h⟩
theorem ok_is_equal (T : Txt K mg A) : FnOk P w K mg base CX0 4 A.f_is_equal A.d_is_equal ["p"] (sp_is_equal K A) :=
  T.F_is_equal.ok sc_is_equal (fun _ _ _ _ h => len_is_equal h) fun _ _ _ _ _ _ _ _ hr h => ⟨t_is_equal K A, der_is_equal T (ok_is_times T) hr, pure_is_equal T h⟩
theorem ok_is_circle (T : Txt K mg A) : FnOk P w K mg base CX0 3 A.f_is_circle A.d_is_circle ["p"] (sp_is_circle K A) :=
  T.F_is_circle.ok sc_is_circle (fun _ _ _ _ h => len_is_circle h) fun _ _ _ _ _ _ _ _ hr h => ⟨t_is_circle K A, der_is_circle T (ok_way T) (ok_measure T) (ok_square T) hr, pure_is_circle T h⟩
theorem ok_is_angles (T : Txt K mg A) : FnOk P w K mg base CX0 2 A.f_is_angles A.d_is_angles ["p"] (sp_is_angles K A) :=
  T.F_is_angles.ok sc_is_angles (fun _ _ _ _ h => len_is_angles h) fun _ _ _ _ _ _ _ _ hr h => ⟨t_is_angles K A, der_is_angles T (ok_way T) (ok_turn T) (ok_lean T) hr, pure_is_angles T h⟩
theorem ok_is_areas (T : Txt K mg A) : FnOk P w K mg base CX0 2 A.f_is_areas A.d_is_areas ["p"] (sp_is_areas K A) :=
  T.F_is_areas.ok sc_is_areas (fun _ _ _ _ h => len_is_areas h) fun _ _ _ _ _ _ _ _ hr h => ⟨t_is_areas K A, der_is_areas T (ok_turn T) (ok_way T) hr, pure_is_areas T h⟩
theorem ok_line_numbers (T : Txt K mg A) : FnOk P w K mg base CX0 2 A.f_line_numbers A.d_line_numbers ["a", "b"] (sp_line_numbers K A) :=
  T.F_line_numbers.ok sc_line_numbers (fun _ _ _ _ h => len_line_numbers h) fun _ _ _ _ _ _ _ _ hr h => ⟨t_line_numbers K A, der_line_numbers T (ok_turn T) hr, pure_line_numbers T h⟩
theorem ok_is_through (T : Txt K mg A) : FnOk P w K mg base CX0 3 A.f_is_through A.d_is_through ["p"] (sp_is_through K A) :=
  T.F_is_through.ok sc_is_through (fun _ _ _ _ h => len_is_through h) fun _ _ _ _ _ _ _ _ hr h => ⟨t_is_through K A, der_is_through T (ok_measure T) (ok_line_numbers T) hr, pure_is_through T h⟩
theorem ok_is_middle (T : Txt K mg A) : FnOk P w K mg base CX0 2 A.f_is_middle A.d_is_middle ["p"] (sp_is_middle K A) :=
  T.F_is_middle.ok sc_is_middle (fun _ _ _ _ h => len_is_middle h) fun _ _ _ _ _ _ _ _ hr h => ⟨t_is_middle K A, der_is_middle T (ok_way T) hr, pure_is_middle T h⟩
theorem ok_is_touches (T : Txt K mg A) : FnOk P w K mg base CX0 3 A.f_is_touches A.d_is_touches ["p"] (sp_is_touches K A) :=
  T.F_is_touches.ok sc_is_touches (fun _ _ _ _ h => len_is_touches h) fun _ _ _ _ _ _ _ _ hr h => ⟨t_is_touches K A, der_is_touches T (ok_way T) (ok_turn T) (ok_square T) hr, pure_is_touches T h⟩
theorem ok_is_alike (T : Txt K mg A) : FnOk P w K mg base CX0 2 A.f_is_alike A.d_is_alike ["p"] (sp_is_alike K A) :=
  T.F_is_alike.ok sc_is_alike (fun _ _ _ _ h => len_is_alike h) fun _ _ _ _ _ _ _ _ hr h => ⟨t_is_alike K A, der_is_alike T (ok_multiplied T) (ok_way T) hr, pure_is_alike T h⟩
theorem ok_is_so (T : Txt K mg A) : FnOk P w K mg base CX0 5 A.f_is_so A.d_is_so ["kind", "p", "others"] (sp_is_so K A) :=
  T.F_is_so.ok sc_is_so (fun _ _ _ _ h => len_is_so h) fun _ _ _ _ _ _ _ _ hr h => ⟨t_is_so K A, der_is_so T (ok_is_same T) (ok_is_line T) (ok_is_parallel T) (ok_is_right T) (ok_is_equal T) (ok_is_times T) (ok_is_circle T) (ok_is_angles T) (ok_is_areas T) (ok_is_through T) (ok_is_middle T) (ok_is_touches T) (ok_is_alike T) hr, pure_is_so T h⟩
theorem ok_rising (T : Txt K mg A) : FnOk P w K mg base CX0 1 A.f_rising A.d_rising ["count", "size"] (sp_rising K A) :=
  T.F_rising.ok sc_rising (fun _ _ _ _ h => len_rising h) fun _ _ _ _ _ _ _ _ hr h => ⟨t_rising K A, der_rising T hr, pure_rising T h⟩
theorem ok_pairs_of_ways (T : Txt K mg A) : FnOk P w K mg base CX0 2 A.f_pairs_of_ways A.d_pairs_of_ways ["count"] (sp_pairs_of_ways K A) :=
  T.F_pairs_of_ways.ok sc_pairs_of_ways (fun _ _ _ _ h => len_pairs_of_ways h) fun _ _ _ _ _ _ _ _ hr h => ⟨t_pairs_of_ways K A, der_pairs_of_ways T (ok_rising T) hr, pure_pairs_of_ways T h⟩
theorem ok_middles (T : Txt K mg A) : FnOk P w K mg base CX0 2 A.f_middles A.d_middles ["count"] (sp_middles K A) :=
  T.F_middles.ok sc_middles (fun _ _ _ _ h => len_middles h) fun _ _ _ _ _ _ _ _ hr h => ⟨t_middles K A, der_middles T (ok_rising T) hr, pure_middles T h⟩
theorem ok_rows_to_ask (T : Txt K mg A) : FnOk P w K mg base CX0 3 A.f_rows_to_ask A.d_rows_to_ask ["kind", "count"] (sp_rows_to_ask K A) :=
  T.F_rows_to_ask.ok sc_rows_to_ask (fun _ _ _ _ h => len_rows_to_ask h) fun _ _ _ _ _ _ _ _ hr h => ⟨t_rows_to_ask K A, der_rows_to_ask T (ok_middles T) (ok_rising T) (ok_pairs_of_ways T) hr, pure_rows_to_ask T h⟩
theorem ok_rows_so (T : Txt K mg A) : FnOk P w K mg base CX0 6 A.f_rows_so A.d_rows_so ["kind", "p"] (sp_rows_so K A) :=
  T.F_rows_so.ok sc_rows_so (fun _ _ _ _ h => len_rows_so h) fun _ _ _ _ _ _ _ _ hr h => ⟨t_rows_so K A, der_rows_so T (ok_rows_to_ask T) (ok_is_so T) hr, pure_rows_so T h⟩
theorem ok_is_so_throughout (T : Txt K mg A) : FnOk P w K mg base CX0 1 A.f_is_so_throughout A.d_is_so_throughout ["members", "parts", "so"] (sp_is_so_throughout K A) :=
  T.F_is_so_throughout.ok sc_is_so_throughout (fun _ _ _ _ h => len_is_so_throughout h) fun _ _ _ _ _ _ _ _ hr h => ⟨t_is_so_throughout K A, der_is_so_throughout T hr, pure_is_so_throughout T h⟩
theorem ok_sets_throughout (T : Txt K mg A) : FnOk P w K mg base CX0 2 A.f_sets_throughout A.d_sets_throughout ["count", "size", "width", "so"] (sp_sets_throughout K A) :=
  T.F_sets_throughout.ok sc_sets_throughout (fun _ _ _ _ h => len_sets_throughout h) fun _ _ _ _ _ _ _ _ hr h => ⟨t_sets_throughout K A, der_sets_throughout T (ok_rising T) (ok_is_so_throughout T) hr, pure_sets_throughout T h⟩
theorem ok_largest_set (T : Txt K mg A) : FnOk P w K mg base CX0 7 A.f_largest_set A.d_largest_set ["kind", "p"] (sp_largest_set K A) :=
  T.F_largest_set.ok sc_largest_set (fun _ _ _ _ h => len_largest_set h) fun _ _ _ _ _ _ _ _ hr h => ⟨t_largest_set K A, der_largest_set T (ok_rows_so T) (ok_sets_throughout T) hr, pure_largest_set T h⟩
theorem ok_greatest_common (T : Txt K mg A) : FnOk P w K mg base CX0 1 A.f_greatest_common A.d_greatest_common ["a", "b"] (sp_greatest_common K A) :=
  T.F_greatest_common.ok sc_greatest_common (fun _ _ _ _ h => len_greatest_common h) fun _ _ _ _ _ _ _ _ hr h => ⟨t_greatest_common K A, der_greatest_common T hr, pure_greatest_common T h⟩
theorem ok_fraction (T : Txt K mg A) : FnOk P w K mg base CX0 2 A.f_fraction A.d_fraction ["above", "below"] (sp_fraction K A) :=
  T.F_fraction.ok sc_fraction (fun _ _ _ _ h => len_fraction h) fun _ _ _ _ _ _ _ _ hr h => ⟨t_fraction K A, der_fraction T (ok_greatest_common T) hr, pure_fraction T h⟩
theorem ok_three_numbers (T : Txt K mg A) : FnOk P w K mg base CX0 2 A.f_three_numbers A.d_three_numbers ["x", "y", "w"] (sp_three_numbers K A) :=
  T.F_three_numbers.ok sc_three_numbers (fun _ _ _ _ h => len_three_numbers h) fun _ _ _ _ _ _ _ _ hr h => ⟨t_three_numbers K A, der_three_numbers T (ok_greatest_common T) hr, pure_three_numbers T h⟩
theorem ok_may_be_told (T : Txt K mg A) : FnOk P w K mg base CX0 1 A.f_may_be_told A.d_may_be_told ["x", "y", "w"] (sp_may_be_told K A) :=
  T.F_may_be_told.ok sc_may_be_told (fun _ _ _ _ h => len_may_be_told h) fun _ _ _ _ _ _ _ _ hr h => ⟨t_may_be_told K A, der_may_be_told T hr, pure_may_be_told T h⟩
theorem ok_is_too_large (T : Txt K mg A) : FnOk P w K mg base CX0 1 A.f_is_too_large A.d_is_too_large ["place"] (sp_is_too_large K A) :=
  T.F_is_too_large.ok sc_is_too_large (fun _ _ _ _ h => len_is_too_large h) fun _ _ _ _ _ _ _ _ hr h => ⟨t_is_too_large K A, der_is_too_large T hr, pure_is_too_large T h⟩
theorem ok_common_below (T : Txt K mg A) : FnOk P w K mg base CX0 2 A.f_common_below A.d_common_below ["places"] (sp_common_below K A) :=
  T.F_common_below.ok sc_common_below (fun _ _ _ _ h => len_common_below h) fun _ _ _ _ _ _ _ _ hr h => ⟨t_common_below K A, der_common_below T (ok_greatest_common T) hr, pure_common_below T h⟩
theorem ok_whole_places (T : Txt K mg A) : FnOk P w K mg base CX0 3 A.f_whole_places A.d_whole_places ["places"] (sp_whole_places K A) :=
  T.F_whole_places.ok sc_whole_places (fun _ _ _ _ h => len_whole_places h) fun _ _ _ _ _ _ _ _ hr h => ⟨t_whole_places K A, der_whole_places T (ok_common_below T) hr, pure_whole_places T h⟩
theorem ok_may_be_asked (T : Txt K mg A) : FnOk P w K mg base CX0 2 A.f_may_be_asked A.d_may_be_asked ["kind", "a", "b", "c", "d"] (sp_may_be_asked K A) :=
  T.F_may_be_asked.ok sc_may_be_asked (fun _ _ _ _ h => len_may_be_asked h) fun _ _ _ _ _ _ _ _ hr h => ⟨t_may_be_asked K A, der_may_be_asked T (ok_is_kind T) hr, pure_may_be_asked T h⟩
theorem ok_keeps_shapes (T : Txt K mg A) : FnOk P w K mg base CX0 3 A.f_keeps_shapes A.d_keeps_shapes ["a", "b", "c", "d"] (sp_keeps_shapes K A) :=
  T.F_keeps_shapes.ok sc_keeps_shapes (fun _ _ _ _ h => len_keeps_shapes h) fun _ _ _ _ _ _ _ _ hr h => ⟨t_keeps_shapes K A, der_keeps_shapes T (ok_square T) (ok_lean T) hr, pure_keeps_shapes T h⟩
theorem ok_is_kept (T : Txt K mg A) : FnOk P w K mg base CX0 4 A.f_is_kept A.d_is_kept ["kind", "a", "b", "c", "d"] (sp_is_kept K A) :=
  T.F_is_kept.ok sc_is_kept (fun _ _ _ _ h => len_is_kept h) fun _ _ _ _ _ _ _ _ hr h => ⟨t_is_kept K A, der_is_kept T (ok_keeps_shapes T) hr, pure_is_kept T h⟩
theorem ok_is_too_large_to_tell (T : Txt K mg A) : FnOk P w K mg base CX0 1 A.f_is_too_large_to_tell A.d_is_too_large_to_tell ["numbers"] (sp_is_too_large_to_tell K A) :=
  T.F_is_too_large_to_tell.ok sc_is_too_large_to_tell (fun _ _ _ _ h => len_is_too_large_to_tell h) fun _ _ _ _ _ _ _ _ hr h => ⟨t_is_too_large_to_tell K A, der_is_too_large_to_tell T hr, pure_is_too_large_to_tell T h⟩
theorem ok_may_be_crossed (T : Txt K mg A) : FnOk P w K mg base CX0 3 A.f_may_be_crossed A.d_may_be_crossed ["p"] (sp_may_be_crossed K A) :=
  T.F_may_be_crossed.ok sc_may_be_crossed (fun _ _ _ _ h => len_may_be_crossed h) fun _ _ _ _ _ _ _ _ hr h => ⟨t_may_be_crossed P w K A, der_may_be_crossed T (ok_is_line T) hr, pure_may_be_crossed T h⟩
theorem ok_cross_fraction (T : Txt K mg A) : FnOk P w K mg base CX0 3 A.f_cross_fraction A.d_cross_fraction ["p"] (sp_cross_fraction K A) :=
  T.F_cross_fraction.ok sc_cross_fraction (fun _ _ _ _ h => len_cross_fraction h) fun _ _ _ _ _ _ _ _ hr h => ⟨t_cross_fraction K A, der_cross_fraction T (ok_fraction T) hr, pure_cross_fraction T h⟩
theorem ok_centre_fractions (T : Txt K mg A) : FnOk P w K mg base CX0 3 A.f_centre_fractions A.d_centre_fractions ["p", "stretched"] (sp_centre_fractions K A) :=
  T.F_centre_fractions.ok sc_centre_fractions (fun _ _ _ _ h => len_centre_fractions h) fun _ _ _ _ _ _ _ _ hr h => ⟨t_centre_fractions K A, der_centre_fractions T (ok_way T) (ok_fraction T) (ok_turn T) (ok_square T) hr, pure_centre_fractions T h⟩
theorem ok_split_calls (T : Txt K mg A) : FnOk P w K mg base CX0 1 A.f_split_calls A.d_split_calls ["calls"] (sp_split_calls K A) :=
  T.F_split_calls.ok sc_split_calls (fun _ _ _ _ h => len_split_calls h) fun _ _ _ _ _ _ _ _ hr h => ⟨t_split_calls K A, der_split_calls T hr, pure_split_calls T h⟩
theorem ok_answer_with (T : Txt K mg A) : FnOk P w K mg base CX0 2 A.f_answer_with A.d_answer_with ["numbers"] (sp_answer_with K A) :=
  T.F_answer_with.ok sc_answer_with (fun _ _ _ _ h => len_answer_with h) fun _ _ _ _ _ _ _ _ hr h => ⟨t_answer_with K A, der_answer_with T (ok_is_too_large_to_tell T) hr, pure_answer_with T h⟩
theorem ok_Plane___init__ (T : Txt K mg A) : FnOk P w K mg base CX0 1 A.f_Plane___init__ A.d_Plane___init__ ["self"] (sp_Plane___init__ K A) :=
  T.F_Plane___init__.ok sc_Plane___init__ (fun _ _ _ _ h => len_Plane___init__ h) fun _ _ _ _ _ _ _ _ hr h => ⟨t_Plane___init__ K A, der_Plane___init__ T hr, pure_Plane___init__ T h⟩
theorem ok_Plane_begin (T : Txt K mg A) : FnOk P w K mg base CX0 1 A.f_Plane_begin A.d_Plane_begin ["self"] (sp_Plane_begin K A) :=
  T.F_Plane_begin.ok sc_Plane_begin (fun _ _ _ _ h => len_Plane_begin h) fun _ _ _ _ _ _ _ _ hr h => ⟨t_Plane_begin K A, der_Plane_begin T hr, pure_Plane_begin T h⟩
theorem ok_Plane_point (T : Txt K mg A) : FnOk P w K mg base CX0 3 A.f_Plane_point A.d_Plane_point ["self", "x", "y", "w"] (sp_Plane_point K A) :=
  T.F_Plane_point.ok sc_Plane_point (fun _ _ _ _ h => len_Plane_point h) fun _ _ _ _ _ _ _ _ hr h => ⟨t_Plane_point K A, der_Plane_point T (ok_may_be_told T) (ok_three_numbers T) hr, pure_Plane_point T h⟩
theorem ok_Plane_put (T : Txt K mg A) : FnOk P w K mg base CX0 3 A.f_Plane_put A.d_Plane_put ["self", "p", "x", "y", "w"] (sp_Plane_put K A) :=
  T.F_Plane_put.ok sc_Plane_put (fun _ _ _ _ h => len_Plane_put h) fun _ _ _ _ _ _ _ _ hr h => ⟨t_Plane_put K A, der_Plane_put T (ok_three_numbers T) (ok_may_be_told T) hr, pure_Plane_put T h⟩
theorem ok_Plane_out (T : Txt K mg A) : FnOk P w K mg base CX0 1 A.f_Plane_out A.d_Plane_out ["self"] (sp_Plane_out K A) :=
  T.F_Plane_out.ok sc_Plane_out (fun _ _ _ _ h => len_Plane_out h) fun _ _ _ _ _ _ _ _ hr h => ⟨t_Plane_out K A, der_Plane_out T hr, pure_Plane_out T h⟩
theorem ok_Plane_bend (T : Txt K mg A) : FnOk P w K mg base CX0 3 A.f_Plane_bend A.d_Plane_bend ["self", "row"] (sp_Plane_bend K A) :=
  T.F_Plane_bend.ok sc_Plane_bend (fun _ _ _ _ h => len_Plane_bend h) fun _ _ _ _ _ _ _ _ hr h => ⟨t_Plane_bend K A, der_Plane_bend T (ok_may_bend T) (ok_bent T) (ok_three_numbers T) (ok_is_too_large T) hr, pure_Plane_bend T h⟩
theorem ok_Plane_slant (T : Txt K mg A) : FnOk P w K mg base CX0 4 A.f_Plane_slant A.d_Plane_slant ["self", "a", "b", "c", "d", "e", "f"] (sp_Plane_slant K A) :=
  T.F_Plane_slant.ok sc_Plane_slant (fun _ _ _ _ h => len_Plane_slant h) fun _ _ _ _ _ _ _ _ hr h => ⟨t_Plane_slant K A, der_Plane_slant T (ok_Plane_bend T) (ok_nine_of_slant T) hr, pure_Plane_slant T h⟩
theorem ok_Plane_points (T : Txt K mg A) : FnOk P w K mg base CX0 1 A.f_Plane_points A.d_Plane_points ["self"] (sp_Plane_points K A) :=
  T.F_Plane_points.ok sc_Plane_points (fun _ _ _ _ h => len_Plane_points h) fun _ _ _ _ _ _ _ _ hr h => ⟨t_Plane_points K A, der_Plane_points T hr, pure_Plane_points T h⟩
theorem ok_Plane_has_each (T : Txt K mg A) : FnOk P w K mg base CX0 1 A.f_Plane_has_each A.d_Plane_has_each ["self", "numbers"] (sp_Plane_has_each K A) :=
  T.F_Plane_has_each.ok sc_Plane_has_each (fun _ _ _ _ h => len_Plane_has_each h) fun _ _ _ _ _ _ _ _ hr h => ⟨t_Plane_has_each K A, der_Plane_has_each T hr, pure_Plane_has_each T h⟩
theorem ok_Plane_places_of (T : Txt K mg A) : FnOk P w K mg base CX0 1 A.f_Plane_places_of A.d_Plane_places_of ["self", "numbers"] (sp_Plane_places_of K A) :=
  T.F_Plane_places_of.ok sc_Plane_places_of (fun _ _ _ _ h => len_Plane_places_of h) fun _ _ _ _ _ _ _ _ hr h => ⟨t_Plane_places_of K A, der_Plane_places_of T hr, pure_Plane_places_of T h⟩
theorem ok_Plane_where (T : Txt K mg A) : FnOk P w K mg base CX0 3 A.f_Plane_where A.d_Plane_where ["self", "p"] (sp_Plane_where K A) :=
  T.F_Plane_where.ok sc_Plane_where (fun _ _ _ _ h => len_Plane_where h) fun _ _ _ _ _ _ _ _ hr h => ⟨t_Plane_where K A, der_Plane_where T (ok_Plane_has_each T) (ok_fraction T) hr, pure_Plane_where T h⟩
theorem ok_Plane_says (T : Txt K mg A) : FnOk P w K mg base CX0 6 A.f_Plane_says A.d_Plane_says ["self", "kind", "row"] (sp_Plane_says K A) :=
  T.F_Plane_says.ok sc_Plane_says (fun _ _ _ _ h => len_Plane_says h) fun _ _ _ _ _ _ _ _ hr h => ⟨t_Plane_says K A, der_Plane_says T (ok_may_be_said T) (ok_Plane_has_each T) (ok_is_so T) (ok_whole_places T) (ok_Plane_places_of T) hr, pure_Plane_says T h⟩
theorem ok_Plane_every (T : Txt K mg A) : FnOk P w K mg base CX0 7 A.f_Plane_every A.d_Plane_every ["self", "kind"] (sp_Plane_every K A) :=
  T.F_Plane_every.ok sc_Plane_every (fun _ _ _ _ h => len_Plane_every h) fun _ _ _ _ _ _ _ _ hr h => ⟨t_Plane_every K A, der_Plane_every T (ok_rows_so T) (ok_whole_places T) hr, pure_Plane_every T h⟩
theorem ok_Plane_most (T : Txt K mg A) : FnOk P w K mg base CX0 8 A.f_Plane_most A.d_Plane_most ["self", "kind"] (sp_Plane_most K A) :=
  T.F_Plane_most.ok sc_Plane_most (fun _ _ _ _ h => len_Plane_most h) fun _ _ _ _ _ _ _ _ hr h => ⟨t_Plane_most K A, der_Plane_most T (ok_largest_set T) (ok_whole_places T) hr, pure_Plane_most T h⟩
theorem ok_Plane_keeps (T : Txt K mg A) : FnOk P w K mg base CX0 5 A.f_Plane_keeps A.d_Plane_keeps ["self", "kind", "a", "b", "c", "d"] (sp_Plane_keeps K A) :=
  T.F_Plane_keeps.ok sc_Plane_keeps (fun _ _ _ _ h => len_Plane_keeps h) fun _ _ _ _ _ _ _ _ hr h => ⟨t_Plane_keeps K A, der_Plane_keeps T (ok_may_be_asked T) (ok_is_kept T) hr, pure_Plane_keeps T h⟩
theorem ok_Plane_cross (T : Txt K mg A) : FnOk P w K mg base CX0 4 A.f_Plane_cross A.d_Plane_cross ["self", "told"] (sp_Plane_cross K A) :=
  T.F_Plane_cross.ok sc_Plane_cross (fun _ _ _ _ h => len_Plane_cross h) fun _ _ _ _ _ _ _ _ hr h => ⟨t_Plane_cross K A, der_Plane_cross T (ok_whole_places T) (ok_answer_with T) (ok_Plane_has_each T) (ok_Plane_places_of T) (ok_may_be_crossed T) (ok_cross_fraction T) hr, pure_Plane_cross T h⟩
theorem ok_Plane_centre (T : Txt K mg A) : FnOk P w K mg base CX0 4 A.f_Plane_centre A.d_Plane_centre ["self", "told"] (sp_Plane_centre K A) :=
  T.F_Plane_centre.ok sc_Plane_centre (fun _ _ _ _ h => len_Plane_centre h) fun _ _ _ _ _ _ _ _ hr h => ⟨t_Plane_centre K A, der_Plane_centre T (ok_Plane_places_of T) (ok_whole_places T) (ok_is_line T) (ok_answer_with T) (ok_Plane_has_each T) (ok_centre_fractions T) (ok_common_below T) hr, pure_Plane_centre T h⟩
theorem ok_answer_of (T : Txt K mg A) : FnOk P w K mg base CX0 9 A.f_answer_of A.d_answer_of ["plane", "call", "n", "row"] (sp_answer_of K A) :=
  T.F_answer_of.ok sc_answer_of (fun _ _ _ _ h => len_answer_of h) fun _ _ _ _ _ _ _ _ hr h => ⟨t_answer_of K A, der_answer_of T (ok_Plane_centre T) (ok_Plane_where T) (ok_Plane_every T) (ok_Plane_most T) (ok_Plane_cross T) (ok_Plane_begin T) (ok_Plane_point T) (ok_Plane_put T) (ok_Plane_out T) (ok_Plane_slant T) (ok_Plane_bend T) (ok_Plane_points T) (ok_Plane_says T) (ok_Plane_keeps T) hr, pure_answer_of T h⟩
theorem ok_answers (T : Txt K mg A) : FnOk P w K mg base CX0 10 A.f_answers A.d_answers ["calls"] (sp_answers K A) :=
  T.F_answers.ok sc_answers (fun _ _ _ _ h => len_answers h) fun _ _ _ _ _ _ _ _ hr h => ⟨t_answers K A, der_answers T (ok_split_calls T) (ok_answer_of T) (ok_Plane___init__ T) hr, pure_answers T h⟩
end
theorem hsp_end (K : PySem.W.Frag) (H : Hp) (xs : List V) (a : PySem.W.Codec.denoteAll PySem.Challenge.rw_pointsayings_s01_answers.args) (hO : OnlyF H)
    (hwi : PySem.W.Codec.withinAll PySem.Challenge.rw_pointsayings_s01_answers.args a = true)
    (hask : PySem.W.Codec.app PySem.Challenge.rw_pointsayings_s01_answers.args PySem.Challenge.rw_pointsayings_s01_answers.asked a = true)
    (hx : DwAll K H xs (PySem.W.Codec.encAll PySem.Challenge.rw_pointsayings_s01_answers.args a)) :
    spAns K xs H (fun v H' => Dw K H' v (PySem.Challenge.rw_pointsayings_s01_answers.ret.enc (PySem.W.Codec.app PySem.Challenge.rw_pointsayings_s01_answers.args PySem.Challenge.rw_pointsayings_s01_answers.f a))) fun _ _ _ => False := by
  cases hx with
  | cons h1 h2 =>
    cases h2
    cases h1 with
    | lst hs ha =>
      have e := L2.ints_dw a.1 _ ha
      subst e
      have q : ((PySem.W.Codec.inLen 0 700 a.1 && a.1.all (PySem.W.Codec.inInt (-2147483648) 2147483647)) && true) = true := hwi
      rw [Bool.and_eq_true, Bool.and_eq_true] at q
      exact ⟨_, a.1, rfl, hs, (PySem.W.Codec.inNat_iff.mp q.1.1).2, hask, fun H' p hp => .lst (L2.SqL.of hp) (L2.dw_ints _)⟩
theorem all_mk {P : Program} {w : World} {K : PySem.W.Frag} {h : Heap} {mg : Str → Option Value} {fa : Addr}
    (hok : ∀ (base : Heap) (A : Ad), Txt K mg A → FnOk P w K mg base CX0 10 A.f_answers A.d_answers ["calls"] (spAns K)) (X : K.In h) (G : h.Ns mainGlobals mg) (hfa : mg "answers" = some (.ref fa))
    {C_Plane : Addr}
    {k_LARGEST_OF_NINE : Tok}
    {k_SAME : Tok}
    {k_LINE : Tok}
    {k_PARALLEL : Tok}
    {k_RIGHT : Tok}
    {k_EQUAL : Tok}
    {k_TIMES : Tok}
    {k_CIRCLE : Tok}
    {k_AREAS : Tok}
    {k_THROUGH : Tok}
    {k_MIDDLE : Tok}
    {k_LARGEST_OF_TIMES : Tok}
    {k_LARGEST_TOLD : Tok}
    {k_LARGEST_KEPT : Tok}
    {k_LARGEST_ANSWERED : Tok}
    {k_BEGIN : Tok}
    {k_POINT : Tok}
    {k_PUT : Tok}
    {k_OUT : Tok}
    {k_SLANT : Tok}
    {k_BEND : Tok}
    {k_POINTS : Tok}
    {k_WHERE : Tok}
    {k_SAYS : Tok}
    {k_ALL : Tok}
    {k_MOST : Tok}
    {k_KEEPS : Tok}
    {k_CROSS : Tok}
    {k_NO_POINT : Tok}
    {k_WRONG_NUMBERS : Tok}
    {k_NO_ROOM : Tok}
    {k_GOES_AWAY : Tok}
    {k_NOT_SO_PLACED : Tok}
    {k_NOT_BEGUN : Tok}
    {k_TOO_LARGE : Tok}
    {k_MOST_POINTS : Tok}
    {a_POINTS_OF_KIND : Addr} {od_POINTS_OF_KIND : Option Addr} {n_POINTS_OF_KIND : Nat} {sl_POINTS_OF_KIND : Array (Option Value)} {u0_POINTS_OF_KIND u1_POINTS_OF_KIND u2_POINTS_OF_KIND u3_POINTS_OF_KIND u4_POINTS_OF_KIND u5_POINTS_OF_KIND u6_POINTS_OF_KIND u7_POINTS_OF_KIND u8_POINTS_OF_KIND u9_POINTS_OF_KIND u10_POINTS_OF_KIND u11_POINTS_OF_KIND u12_POINTS_OF_KIND : Tok}
    {a_KINDS_RISING : Addr} {od_KINDS_RISING : Option Addr} {n_KINDS_RISING : Nat} {sl_KINDS_RISING : Array (Option Value)} {u0_KINDS_RISING u1_KINDS_RISING u2_KINDS_RISING : Tok}
    {a_KINDS_OF_WAYS : Addr} {od_KINDS_OF_WAYS : Option Addr} {n_KINDS_OF_WAYS : Nat} {sl_KINDS_OF_WAYS : Array (Option Value)} {u0_KINDS_OF_WAYS u1_KINDS_OF_WAYS u2_KINDS_OF_WAYS : Tok}
    {a_KINDS_OF_ALL : Addr} {od_KINDS_OF_ALL : Option Addr} {n_KINDS_OF_ALL : Nat} {sl_KINDS_OF_ALL : Array (Option Value)} {u0_KINDS_OF_ALL u1_KINDS_OF_ALL u2_KINDS_OF_ALL u3_KINDS_OF_ALL u4_KINDS_OF_ALL u5_KINDS_OF_ALL u6_KINDS_OF_ALL : Tok}
    {a_KINDS_OF_MOST : Addr} {od_KINDS_OF_MOST : Option Addr} {n_KINDS_OF_MOST : Nat} {sl_KINDS_OF_MOST : Array (Option Value)} {u0_KINDS_OF_MOST u1_KINDS_OF_MOST : Tok}
    {a_KINDS_KEPT_BY_ANY : Addr} {od_KINDS_KEPT_BY_ANY : Option Addr} {n_KINDS_KEPT_BY_ANY : Nat} {sl_KINDS_KEPT_BY_ANY : Array (Option Value)} {u0_KINDS_KEPT_BY_ANY u1_KINDS_KEPT_BY_ANY u2_KINDS_KEPT_BY_ANY u3_KINDS_KEPT_BY_ANY u4_KINDS_KEPT_BY_ANY u5_KINDS_KEPT_BY_ANY : Tok}
    {a_BY_KIND : Addr} {od_BY_KIND : Option Addr} {n_BY_KIND : Nat} {sl_BY_KIND : Array (Option Value)}
    {a_PLAIN_NUMBERS : Addr} {od_PLAIN_NUMBERS : Option Addr} {n_PLAIN_NUMBERS : Nat} {sl_PLAIN_NUMBERS : Array (Option Value)} {u0_PLAIN_NUMBERS u1_PLAIN_NUMBERS u2_PLAIN_NUMBERS u3_PLAIN_NUMBERS u4_PLAIN_NUMBERS u5_PLAIN_NUMBERS u6_PLAIN_NUMBERS u7_PLAIN_NUMBERS u8_PLAIN_NUMBERS u9_PLAIN_NUMBERS u10_PLAIN_NUMBERS u11_PLAIN_NUMBERS u12_PLAIN_NUMBERS u13_PLAIN_NUMBERS : Tok}
    {a_CALLS_WITH_ROW : Addr} {od_CALLS_WITH_ROW : Option Addr} {n_CALLS_WITH_ROW : Nat} {sl_CALLS_WITH_ROW : Array (Option Value)} {u0_CALLS_WITH_ROW u1_CALLS_WITH_ROW : Tok}
    {f_nine_of_slant : Addr} {od_nine_of_slant an_nine_of_slant : Option Addr} {sl_nine_of_slant : Array (Option Value)} {oc_nine_of_slant kV_nine_of_slant dc_nine_of_slant pm_nine_of_slant cd_nine_of_slant ct_nine_of_slant : Value}
    {f_measure : Addr} {od_measure an_measure : Option Addr} {sl_measure : Array (Option Value)} {oc_measure kV_measure dc_measure pm_measure cd_measure ct_measure : Value}
    {f_may_bend : Addr} {od_may_bend an_may_bend : Option Addr} {sl_may_bend : Array (Option Value)} {oc_may_bend kV_may_bend dc_may_bend pm_may_bend cd_may_bend ct_may_bend : Value}
    {f_bent : Addr} {od_bent an_bent : Option Addr} {sl_bent : Array (Option Value)} {oc_bent kV_bent dc_bent pm_bent cd_bent ct_bent : Value}
    {f_is_kind : Addr} {od_is_kind an_is_kind : Option Addr} {sl_is_kind : Array (Option Value)} {oc_is_kind kV_is_kind dc_is_kind pm_is_kind cd_is_kind ct_is_kind : Value}
    {f_may_be_said : Addr} {od_may_be_said an_may_be_said : Option Addr} {sl_may_be_said : Array (Option Value)} {oc_may_be_said kV_may_be_said dc_may_be_said pm_may_be_said cd_may_be_said ct_may_be_said : Value}
    {f_way : Addr} {od_way an_way : Option Addr} {sl_way : Array (Option Value)} {oc_way kV_way dc_way pm_way cd_way ct_way : Value}
    {f_turn : Addr} {od_turn an_turn : Option Addr} {sl_turn : Array (Option Value)} {oc_turn kV_turn dc_turn pm_turn cd_turn ct_turn : Value}
    {f_lean : Addr} {od_lean an_lean : Option Addr} {sl_lean : Array (Option Value)} {oc_lean kV_lean dc_lean pm_lean cd_lean ct_lean : Value}
    {f_multiplied : Addr} {od_multiplied an_multiplied : Option Addr} {sl_multiplied : Array (Option Value)} {oc_multiplied kV_multiplied dc_multiplied pm_multiplied cd_multiplied ct_multiplied : Value}
    {f_square : Addr} {od_square an_square : Option Addr} {sl_square : Array (Option Value)} {oc_square kV_square dc_square pm_square cd_square ct_square : Value}
    {f_is_same : Addr} {od_is_same an_is_same : Option Addr} {sl_is_same : Array (Option Value)} {oc_is_same kV_is_same dc_is_same pm_is_same cd_is_same ct_is_same : Value}
    {f_is_line : Addr} {od_is_line an_is_line : Option Addr} {sl_is_line : Array (Option Value)} {oc_is_line kV_is_line dc_is_line pm_is_line cd_is_line ct_is_line : Value}
    {f_is_parallel : Addr} {od_is_parallel an_is_parallel : Option Addr} {sl_is_parallel : Array (Option Value)} {oc_is_parallel kV_is_parallel dc_is_parallel pm_is_parallel cd_is_parallel ct_is_parallel : Value}
    {f_is_right : Addr} {od_is_right an_is_right : Option Addr} {sl_is_right : Array (Option Value)} {oc_is_right kV_is_right dc_is_right pm_is_right cd_is_right ct_is_right : Value}
    {f_is_times : Addr} {od_is_times an_is_times : Option Addr} {sl_is_times : Array (Option Value)} {oc_is_times kV_is_times dc_is_times pm_is_times cd_is_times ct_is_times : Value}
    {f_is_equal : Addr} {od_is_equal an_is_equal : Option Addr} {sl_is_equal : Array (Option Value)} {oc_is_equal kV_is_equal dc_is_equal pm_is_equal cd_is_equal ct_is_equal : Value}
    {f_is_circle : Addr} {od_is_circle an_is_circle : Option Addr} {sl_is_circle : Array (Option Value)} {oc_is_circle kV_is_circle dc_is_circle pm_is_circle cd_is_circle ct_is_circle : Value}
    {f_is_angles : Addr} {od_is_angles an_is_angles : Option Addr} {sl_is_angles : Array (Option Value)} {oc_is_angles kV_is_angles dc_is_angles pm_is_angles cd_is_angles ct_is_angles : Value}
    {f_is_areas : Addr} {od_is_areas an_is_areas : Option Addr} {sl_is_areas : Array (Option Value)} {oc_is_areas kV_is_areas dc_is_areas pm_is_areas cd_is_areas ct_is_areas : Value}
    {f_line_numbers : Addr} {od_line_numbers an_line_numbers : Option Addr} {sl_line_numbers : Array (Option Value)} {oc_line_numbers kV_line_numbers dc_line_numbers pm_line_numbers cd_line_numbers ct_line_numbers : Value}
    {f_is_through : Addr} {od_is_through an_is_through : Option Addr} {sl_is_through : Array (Option Value)} {oc_is_through kV_is_through dc_is_through pm_is_through cd_is_through ct_is_through : Value}
    {f_is_middle : Addr} {od_is_middle an_is_middle : Option Addr} {sl_is_middle : Array (Option Value)} {oc_is_middle kV_is_middle dc_is_middle pm_is_middle cd_is_middle ct_is_middle : Value}
    {f_is_touches : Addr} {od_is_touches an_is_touches : Option Addr} {sl_is_touches : Array (Option Value)} {oc_is_touches kV_is_touches dc_is_touches pm_is_touches cd_is_touches ct_is_touches : Value}
    {f_is_alike : Addr} {od_is_alike an_is_alike : Option Addr} {sl_is_alike : Array (Option Value)} {oc_is_alike kV_is_alike dc_is_alike pm_is_alike cd_is_alike ct_is_alike : Value}
    {f_is_so : Addr} {od_is_so an_is_so : Option Addr} {sl_is_so : Array (Option Value)} {oc_is_so kV_is_so dc_is_so pm_is_so cd_is_so ct_is_so : Value}
    {f_rising : Addr} {od_rising an_rising : Option Addr} {sl_rising : Array (Option Value)} {oc_rising kV_rising dc_rising pm_rising cd_rising ct_rising : Value}
    {f_pairs_of_ways : Addr} {od_pairs_of_ways an_pairs_of_ways : Option Addr} {sl_pairs_of_ways : Array (Option Value)} {oc_pairs_of_ways kV_pairs_of_ways dc_pairs_of_ways pm_pairs_of_ways cd_pairs_of_ways ct_pairs_of_ways : Value}
    {f_middles : Addr} {od_middles an_middles : Option Addr} {sl_middles : Array (Option Value)} {oc_middles kV_middles dc_middles pm_middles cd_middles ct_middles : Value}
    {f_rows_to_ask : Addr} {od_rows_to_ask an_rows_to_ask : Option Addr} {sl_rows_to_ask : Array (Option Value)} {oc_rows_to_ask kV_rows_to_ask dc_rows_to_ask pm_rows_to_ask cd_rows_to_ask ct_rows_to_ask : Value}
    {f_rows_so : Addr} {od_rows_so an_rows_so : Option Addr} {sl_rows_so : Array (Option Value)} {oc_rows_so kV_rows_so dc_rows_so pm_rows_so cd_rows_so ct_rows_so : Value}
    {f_is_so_throughout : Addr} {od_is_so_throughout an_is_so_throughout : Option Addr} {sl_is_so_throughout : Array (Option Value)} {oc_is_so_throughout kV_is_so_throughout dc_is_so_throughout pm_is_so_throughout cd_is_so_throughout ct_is_so_throughout : Value}
    {f_sets_throughout : Addr} {od_sets_throughout an_sets_throughout : Option Addr} {sl_sets_throughout : Array (Option Value)} {oc_sets_throughout kV_sets_throughout dc_sets_throughout pm_sets_throughout cd_sets_throughout ct_sets_throughout : Value}
    {f_largest_set : Addr} {od_largest_set an_largest_set : Option Addr} {sl_largest_set : Array (Option Value)} {oc_largest_set kV_largest_set dc_largest_set pm_largest_set cd_largest_set ct_largest_set : Value}
    {f_greatest_common : Addr} {od_greatest_common an_greatest_common : Option Addr} {sl_greatest_common : Array (Option Value)} {oc_greatest_common kV_greatest_common dc_greatest_common pm_greatest_common cd_greatest_common ct_greatest_common : Value}
    {f_fraction : Addr} {od_fraction an_fraction : Option Addr} {sl_fraction : Array (Option Value)} {oc_fraction kV_fraction dc_fraction pm_fraction cd_fraction ct_fraction : Value}
    {f_three_numbers : Addr} {od_three_numbers an_three_numbers : Option Addr} {sl_three_numbers : Array (Option Value)} {oc_three_numbers kV_three_numbers dc_three_numbers pm_three_numbers cd_three_numbers ct_three_numbers : Value}
    {f_may_be_told : Addr} {od_may_be_told an_may_be_told : Option Addr} {sl_may_be_told : Array (Option Value)} {oc_may_be_told kV_may_be_told dc_may_be_told pm_may_be_told cd_may_be_told ct_may_be_told : Value}
    {f_is_too_large : Addr} {od_is_too_large an_is_too_large : Option Addr} {sl_is_too_large : Array (Option Value)} {oc_is_too_large kV_is_too_large dc_is_too_large pm_is_too_large cd_is_too_large ct_is_too_large : Value}
    {f_common_below : Addr} {od_common_below an_common_below : Option Addr} {sl_common_below : Array (Option Value)} {oc_common_below kV_common_below dc_common_below pm_common_below cd_common_below ct_common_below : Value}
    {f_whole_places : Addr} {od_whole_places an_whole_places : Option Addr} {sl_whole_places : Array (Option Value)} {oc_whole_places kV_whole_places dc_whole_places pm_whole_places cd_whole_places ct_whole_places : Value}
    {f_may_be_asked : Addr} {od_may_be_asked an_may_be_asked : Option Addr} {sl_may_be_asked : Array (Option Value)} {oc_may_be_asked kV_may_be_asked dc_may_be_asked pm_may_be_asked cd_may_be_asked ct_may_be_asked : Value}
    {f_keeps_shapes : Addr} {od_keeps_shapes an_keeps_shapes : Option Addr} {sl_keeps_shapes : Array (Option Value)} {oc_keeps_shapes kV_keeps_shapes dc_keeps_shapes pm_keeps_shapes cd_keeps_shapes ct_keeps_shapes : Value}
    {f_is_kept : Addr} {od_is_kept an_is_kept : Option Addr} {sl_is_kept : Array (Option Value)} {oc_is_kept kV_is_kept dc_is_kept pm_is_kept cd_is_kept ct_is_kept : Value}
    {f_is_too_large_to_tell : Addr} {od_is_too_large_to_tell an_is_too_large_to_tell : Option Addr} {sl_is_too_large_to_tell : Array (Option Value)} {oc_is_too_large_to_tell kV_is_too_large_to_tell dc_is_too_large_to_tell pm_is_too_large_to_tell cd_is_too_large_to_tell ct_is_too_large_to_tell : Value}
    {f_may_be_crossed : Addr} {od_may_be_crossed an_may_be_crossed : Option Addr} {sl_may_be_crossed : Array (Option Value)} {oc_may_be_crossed kV_may_be_crossed dc_may_be_crossed pm_may_be_crossed cd_may_be_crossed ct_may_be_crossed : Value}
    {f_cross_fraction : Addr} {od_cross_fraction an_cross_fraction : Option Addr} {sl_cross_fraction : Array (Option Value)} {oc_cross_fraction kV_cross_fraction dc_cross_fraction pm_cross_fraction cd_cross_fraction ct_cross_fraction : Value}
    {f_centre_fractions : Addr} {od_centre_fractions an_centre_fractions : Option Addr} {sl_centre_fractions : Array (Option Value)} {oc_centre_fractions kV_centre_fractions dc_centre_fractions pm_centre_fractions cd_centre_fractions ct_centre_fractions : Value}
    {f_split_calls : Addr} {od_split_calls an_split_calls : Option Addr} {sl_split_calls : Array (Option Value)} {oc_split_calls kV_split_calls dc_split_calls pm_split_calls cd_split_calls ct_split_calls : Value}
    {f_answer_with : Addr} {od_answer_with an_answer_with : Option Addr} {sl_answer_with : Array (Option Value)} {oc_answer_with kV_answer_with dc_answer_with pm_answer_with cd_answer_with ct_answer_with : Value}
    {f_Plane___init__ : Addr} {od_Plane___init__ an_Plane___init__ : Option Addr} {sl_Plane___init__ : Array (Option Value)} {oc_Plane___init__ kV_Plane___init__ dc_Plane___init__ pm_Plane___init__ cd_Plane___init__ ct_Plane___init__ : Value}
    {f_Plane_begin : Addr} {od_Plane_begin an_Plane_begin : Option Addr} {sl_Plane_begin : Array (Option Value)} {oc_Plane_begin kV_Plane_begin dc_Plane_begin pm_Plane_begin cd_Plane_begin ct_Plane_begin : Value}
    {f_Plane_point : Addr} {od_Plane_point an_Plane_point : Option Addr} {sl_Plane_point : Array (Option Value)} {oc_Plane_point kV_Plane_point dc_Plane_point pm_Plane_point cd_Plane_point ct_Plane_point : Value}
    {f_Plane_put : Addr} {od_Plane_put an_Plane_put : Option Addr} {sl_Plane_put : Array (Option Value)} {oc_Plane_put kV_Plane_put dc_Plane_put pm_Plane_put cd_Plane_put ct_Plane_put : Value}
    {f_Plane_out : Addr} {od_Plane_out an_Plane_out : Option Addr} {sl_Plane_out : Array (Option Value)} {oc_Plane_out kV_Plane_out dc_Plane_out pm_Plane_out cd_Plane_out ct_Plane_out : Value}
    {f_Plane_slant : Addr} {od_Plane_slant an_Plane_slant : Option Addr} {sl_Plane_slant : Array (Option Value)} {oc_Plane_slant kV_Plane_slant dc_Plane_slant pm_Plane_slant cd_Plane_slant ct_Plane_slant : Value}
    {f_Plane_bend : Addr} {od_Plane_bend an_Plane_bend : Option Addr} {sl_Plane_bend : Array (Option Value)} {oc_Plane_bend kV_Plane_bend dc_Plane_bend pm_Plane_bend cd_Plane_bend ct_Plane_bend : Value}
    {f_Plane_points : Addr} {od_Plane_points an_Plane_points : Option Addr} {sl_Plane_points : Array (Option Value)} {oc_Plane_points kV_Plane_points dc_Plane_points pm_Plane_points cd_Plane_points ct_Plane_points : Value}
    {f_Plane_has_each : Addr} {od_Plane_has_each an_Plane_has_each : Option Addr} {sl_Plane_has_each : Array (Option Value)} {oc_Plane_has_each kV_Plane_has_each dc_Plane_has_each pm_Plane_has_each cd_Plane_has_each ct_Plane_has_each : Value}
    {f_Plane_places_of : Addr} {od_Plane_places_of an_Plane_places_of : Option Addr} {sl_Plane_places_of : Array (Option Value)} {oc_Plane_places_of kV_Plane_places_of dc_Plane_places_of pm_Plane_places_of cd_Plane_places_of ct_Plane_places_of : Value}
    {f_Plane_where : Addr} {od_Plane_where an_Plane_where : Option Addr} {sl_Plane_where : Array (Option Value)} {oc_Plane_where kV_Plane_where dc_Plane_where pm_Plane_where cd_Plane_where ct_Plane_where : Value}
    {f_Plane_says : Addr} {od_Plane_says an_Plane_says : Option Addr} {sl_Plane_says : Array (Option Value)} {oc_Plane_says kV_Plane_says dc_Plane_says pm_Plane_says cd_Plane_says ct_Plane_says : Value}
    {f_Plane_every : Addr} {od_Plane_every an_Plane_every : Option Addr} {sl_Plane_every : Array (Option Value)} {oc_Plane_every kV_Plane_every dc_Plane_every pm_Plane_every cd_Plane_every ct_Plane_every : Value}
    {f_Plane_most : Addr} {od_Plane_most an_Plane_most : Option Addr} {sl_Plane_most : Array (Option Value)} {oc_Plane_most kV_Plane_most dc_Plane_most pm_Plane_most cd_Plane_most ct_Plane_most : Value}
    {f_Plane_keeps : Addr} {od_Plane_keeps an_Plane_keeps : Option Addr} {sl_Plane_keeps : Array (Option Value)} {oc_Plane_keeps kV_Plane_keeps dc_Plane_keeps pm_Plane_keeps cd_Plane_keeps ct_Plane_keeps : Value}
    {f_Plane_cross : Addr} {od_Plane_cross an_Plane_cross : Option Addr} {sl_Plane_cross : Array (Option Value)} {oc_Plane_cross kV_Plane_cross dc_Plane_cross pm_Plane_cross cd_Plane_cross ct_Plane_cross : Value}
    {f_Plane_centre : Addr} {od_Plane_centre an_Plane_centre : Option Addr} {sl_Plane_centre : Array (Option Value)} {oc_Plane_centre kV_Plane_centre dc_Plane_centre pm_Plane_centre cd_Plane_centre ct_Plane_centre : Value}
    {f_answer_of : Addr} {od_answer_of an_answer_of : Option Addr} {sl_answer_of : Array (Option Value)} {oc_answer_of kV_answer_of dc_answer_of pm_answer_of cd_answer_of ct_answer_of : Value}
    {f_answers : Addr} {od_answers an_answers : Option Addr} {sl_answers : Array (Option Value)} {oc_answers kV_answers dc_answers pm_answers cd_answers ct_answers : Value}
    (aC_Plane : PySem.W.nsIn K mainGlobals "Plane" = some (some (.ref C_Plane)))
    (pg_Plane : PySem.W.plainGet K C_Plane Str.empty = true)
    (hd_Plane : PySem.W.hasDictIn K C_Plane = true)
    (po_Plane : PySem.W.plainOver K C_Plane = true)
    (sa_Plane : PySem.W.findIn K (.ref C_Plane) "__setattr__" = some (some (.builtin "object.__setattr__")))
    (mk_Plane : PySem.W.makesIn K C_Plane = true)
    (kc_Plane : PySem.W.keepIn K (.ref C_Plane) = true)
    (na_Plane_begun : PySem.W.findIn K (.ref C_Plane) "begun" = some none)
    (na_Plane_places : PySem.W.findIn K (.ref C_Plane) "places" = some none)
    (n_any : PySem.W.nsIn K mainGlobals "any" = some none)
    (n_len : PySem.W.nsIn K mainGlobals "len" = some none)
    (n_abs : PySem.W.nsIn K mainGlobals "abs" = some none)
    (n_range : PySem.W.nsIn K mainGlobals "range" = some none)
    (n_enumerate : PySem.W.nsIn K mainGlobals "enumerate" = some none)
    (n_tuple : PySem.W.nsIn K mainGlobals "tuple" = some none)
    (n_set : PySem.W.nsIn K mainGlobals "set" = some none)
    (n_all : PySem.W.nsIn K mainGlobals "all" = some none)
    (g_LARGEST_OF_NINE : PySem.W.nsIn K mainGlobals "LARGEST_OF_NINE" = some (some (.int 10 k_LARGEST_OF_NINE)))
    (g_SAME : PySem.W.nsIn K mainGlobals "SAME" = some (some (.int 0 k_SAME)))
    (g_LINE : PySem.W.nsIn K mainGlobals "LINE" = some (some (.int 1 k_LINE)))
    (g_PARALLEL : PySem.W.nsIn K mainGlobals "PARALLEL" = some (some (.int 2 k_PARALLEL)))
    (g_RIGHT : PySem.W.nsIn K mainGlobals "RIGHT" = some (some (.int 3 k_RIGHT)))
    (g_EQUAL : PySem.W.nsIn K mainGlobals "EQUAL" = some (some (.int 4 k_EQUAL)))
    (g_TIMES : PySem.W.nsIn K mainGlobals "TIMES" = some (some (.int 5 k_TIMES)))
    (g_CIRCLE : PySem.W.nsIn K mainGlobals "CIRCLE" = some (some (.int 6 k_CIRCLE)))
    (g_AREAS : PySem.W.nsIn K mainGlobals "AREAS" = some (some (.int 8 k_AREAS)))
    (g_THROUGH : PySem.W.nsIn K mainGlobals "THROUGH" = some (some (.int 9 k_THROUGH)))
    (g_MIDDLE : PySem.W.nsIn K mainGlobals "MIDDLE" = some (some (.int 10 k_MIDDLE)))
    (g_LARGEST_OF_TIMES : PySem.W.nsIn K mainGlobals "LARGEST_OF_TIMES" = some (some (.int 1000 k_LARGEST_OF_TIMES)))
    (g_LARGEST_TOLD : PySem.W.nsIn K mainGlobals "LARGEST_TOLD" = some (some (.int 1000 k_LARGEST_TOLD)))
    (g_LARGEST_KEPT : PySem.W.nsIn K mainGlobals "LARGEST_KEPT" = some (some (.int 1000000000 k_LARGEST_KEPT)))
    (g_LARGEST_ANSWERED : PySem.W.nsIn K mainGlobals "LARGEST_ANSWERED" = some (some (.int 1000000000000000 k_LARGEST_ANSWERED)))
    (g_BEGIN : PySem.W.nsIn K mainGlobals "BEGIN" = some (some (.int 0 k_BEGIN)))
    (g_POINT : PySem.W.nsIn K mainGlobals "POINT" = some (some (.int 1 k_POINT)))
    (g_PUT : PySem.W.nsIn K mainGlobals "PUT" = some (some (.int 2 k_PUT)))
    (g_OUT : PySem.W.nsIn K mainGlobals "OUT" = some (some (.int 3 k_OUT)))
    (g_SLANT : PySem.W.nsIn K mainGlobals "SLANT" = some (some (.int 4 k_SLANT)))
    (g_BEND : PySem.W.nsIn K mainGlobals "BEND" = some (some (.int 5 k_BEND)))
    (g_POINTS : PySem.W.nsIn K mainGlobals "POINTS" = some (some (.int 6 k_POINTS)))
    (g_WHERE : PySem.W.nsIn K mainGlobals "WHERE" = some (some (.int 7 k_WHERE)))
    (g_SAYS : PySem.W.nsIn K mainGlobals "SAYS" = some (some (.int 8 k_SAYS)))
    (g_ALL : PySem.W.nsIn K mainGlobals "ALL" = some (some (.int 9 k_ALL)))
    (g_MOST : PySem.W.nsIn K mainGlobals "MOST" = some (some (.int 10 k_MOST)))
    (g_KEEPS : PySem.W.nsIn K mainGlobals "KEEPS" = some (some (.int 11 k_KEEPS)))
    (g_CROSS : PySem.W.nsIn K mainGlobals "CROSS" = some (some (.int 12 k_CROSS)))
    (g_NO_POINT : PySem.W.nsIn K mainGlobals "NO_POINT" = some (some (.int (-2) k_NO_POINT)))
    (g_WRONG_NUMBERS : PySem.W.nsIn K mainGlobals "WRONG_NUMBERS" = some (some (.int (-22) k_WRONG_NUMBERS)))
    (g_NO_ROOM : PySem.W.nsIn K mainGlobals "NO_ROOM" = some (some (.int (-28) k_NO_ROOM)))
    (g_GOES_AWAY : PySem.W.nsIn K mainGlobals "GOES_AWAY" = some (some (.int (-33) k_GOES_AWAY)))
    (g_NOT_SO_PLACED : PySem.W.nsIn K mainGlobals "NOT_SO_PLACED" = some (some (.int (-33) k_NOT_SO_PLACED)))
    (g_NOT_BEGUN : PySem.W.nsIn K mainGlobals "NOT_BEGUN" = some (some (.int (-61) k_NOT_BEGUN)))
    (g_TOO_LARGE : PySem.W.nsIn K mainGlobals "TOO_LARGE" = some (some (.int (-75) k_TOO_LARGE)))
    (g_MOST_POINTS : PySem.W.nsIn K mainGlobals "MOST_POINTS" = some (some (.int 10 k_MOST_POINTS)))
    (g_POINTS_OF_KIND : PySem.W.nsIn K mainGlobals "POINTS_OF_KIND" = some (some (.ref a_POINTS_OF_KIND)))
    (q_POINTS_OF_KIND : K.lookup a_POINTS_OF_KIND = some ⟨.type "tuple", od_POINTS_OF_KIND, .seq ⟨[.int 2 u0_POINTS_OF_KIND, .int 3 u1_POINTS_OF_KIND, .int 4 u2_POINTS_OF_KIND, .int 4 u3_POINTS_OF_KIND, .int 4 u4_POINTS_OF_KIND, .int 4 u5_POINTS_OF_KIND, .int 4 u6_POINTS_OF_KIND, .int 6 u7_POINTS_OF_KIND, .int 6 u8_POINTS_OF_KIND, .int 6 u9_POINTS_OF_KIND, .int 3 u10_POINTS_OF_KIND, .int 4 u11_POINTS_OF_KIND, .int 6 u12_POINTS_OF_KIND]⟩ n_POINTS_OF_KIND, sl_POINTS_OF_KIND⟩)
    (g_KINDS_RISING : PySem.W.nsIn K mainGlobals "KINDS_RISING" = some (some (.ref a_KINDS_RISING)))
    (q_KINDS_RISING : K.lookup a_KINDS_RISING = some ⟨.type "tuple", od_KINDS_RISING, .seq ⟨[.int 0 u0_KINDS_RISING, .int 1 u1_KINDS_RISING, .int 6 u2_KINDS_RISING]⟩ n_KINDS_RISING, sl_KINDS_RISING⟩)
    (g_KINDS_OF_WAYS : PySem.W.nsIn K mainGlobals "KINDS_OF_WAYS" = some (some (.ref a_KINDS_OF_WAYS)))
    (q_KINDS_OF_WAYS : K.lookup a_KINDS_OF_WAYS = some ⟨.type "tuple", od_KINDS_OF_WAYS, .seq ⟨[.int 2 u0_KINDS_OF_WAYS, .int 3 u1_KINDS_OF_WAYS, .int 4 u2_KINDS_OF_WAYS]⟩ n_KINDS_OF_WAYS, sl_KINDS_OF_WAYS⟩)
    (g_KINDS_OF_ALL : PySem.W.nsIn K mainGlobals "KINDS_OF_ALL" = some (some (.ref a_KINDS_OF_ALL)))
    (q_KINDS_OF_ALL : K.lookup a_KINDS_OF_ALL = some ⟨.type "tuple", od_KINDS_OF_ALL, .seq ⟨[.int 0 u0_KINDS_OF_ALL, .int 1 u1_KINDS_OF_ALL, .int 2 u2_KINDS_OF_ALL, .int 3 u3_KINDS_OF_ALL, .int 4 u4_KINDS_OF_ALL, .int 6 u5_KINDS_OF_ALL, .int 10 u6_KINDS_OF_ALL]⟩ n_KINDS_OF_ALL, sl_KINDS_OF_ALL⟩)
    (g_KINDS_OF_MOST : PySem.W.nsIn K mainGlobals "KINDS_OF_MOST" = some (some (.ref a_KINDS_OF_MOST)))
    (q_KINDS_OF_MOST : K.lookup a_KINDS_OF_MOST = some ⟨.type "tuple", od_KINDS_OF_MOST, .seq ⟨[.int 1 u0_KINDS_OF_MOST, .int 6 u1_KINDS_OF_MOST]⟩ n_KINDS_OF_MOST, sl_KINDS_OF_MOST⟩)
    (g_KINDS_KEPT_BY_ANY : PySem.W.nsIn K mainGlobals "KINDS_KEPT_BY_ANY" = some (some (.ref a_KINDS_KEPT_BY_ANY)))
    (q_KINDS_KEPT_BY_ANY : K.lookup a_KINDS_KEPT_BY_ANY = some ⟨.type "tuple", od_KINDS_KEPT_BY_ANY, .seq ⟨[.int 0 u0_KINDS_KEPT_BY_ANY, .int 1 u1_KINDS_KEPT_BY_ANY, .int 2 u2_KINDS_KEPT_BY_ANY, .int 8 u3_KINDS_KEPT_BY_ANY, .int 9 u4_KINDS_KEPT_BY_ANY, .int 10 u5_KINDS_KEPT_BY_ANY]⟩ n_KINDS_KEPT_BY_ANY, sl_KINDS_KEPT_BY_ANY⟩)
    (g_PLAIN_NUMBERS : PySem.W.nsIn K mainGlobals "PLAIN_NUMBERS" = some (some (.ref a_PLAIN_NUMBERS)))
    (q_PLAIN_NUMBERS : K.lookup a_PLAIN_NUMBERS = some ⟨.type "tuple", od_PLAIN_NUMBERS, .seq ⟨[.int 0 u0_PLAIN_NUMBERS, .int 3 u1_PLAIN_NUMBERS, .int 4 u2_PLAIN_NUMBERS, .int 0 u3_PLAIN_NUMBERS, .int 6 u4_PLAIN_NUMBERS, .int 0 u5_PLAIN_NUMBERS, .int 0 u6_PLAIN_NUMBERS, .int 1 u7_PLAIN_NUMBERS, .int 1 u8_PLAIN_NUMBERS, .int 1 u9_PLAIN_NUMBERS, .int 1 u10_PLAIN_NUMBERS, .int 5 u11_PLAIN_NUMBERS, .int 4 u12_PLAIN_NUMBERS, .int 3 u13_PLAIN_NUMBERS]⟩ n_PLAIN_NUMBERS, sl_PLAIN_NUMBERS⟩)
    (g_CALLS_WITH_ROW : PySem.W.nsIn K mainGlobals "CALLS_WITH_ROW" = some (some (.ref a_CALLS_WITH_ROW)))
    (q_CALLS_WITH_ROW : K.lookup a_CALLS_WITH_ROW = some ⟨.type "tuple", od_CALLS_WITH_ROW, .seq ⟨[.int 5 u0_CALLS_WITH_ROW, .int 8 u1_CALLS_WITH_ROW]⟩ n_CALLS_WITH_ROW, sl_CALLS_WITH_ROW⟩)
    (a_nine_of_slant : PySem.W.nsIn K mainGlobals "nine_of_slant" = some (some (.ref f_nine_of_slant)))
    (l_nine_of_slant : K.lookup f_nine_of_slant = some ⟨oc_nine_of_slant, od_nine_of_slant, .func (PySem.W.fnOf "nine_of_slant" "nine_of_slant" (defArgs s_nine_of_slant) (defBody s_nine_of_slant) (defScope s_nine_of_slant) .none kV_nine_of_slant dc_nine_of_slant pm_nine_of_slant an_nine_of_slant cd_nine_of_slant ct_nine_of_slant), sl_nine_of_slant⟩)
    (c_nine_of_slant : PySem.W.codeIn K cd_nine_of_slant "nine_of_slant" = true)
    (k_nine_of_slant : PySem.W.keepIn K (.ref f_nine_of_slant) = true)
    (a_measure : PySem.W.nsIn K mainGlobals "measure" = some (some (.ref f_measure)))
    (l_measure : K.lookup f_measure = some ⟨oc_measure, od_measure, .func (PySem.W.fnOf "measure" "measure" (defArgs s_measure) (defBody s_measure) (defScope s_measure) .none kV_measure dc_measure pm_measure an_measure cd_measure ct_measure), sl_measure⟩)
    (c_measure : PySem.W.codeIn K cd_measure "measure" = true)
    (k_measure : PySem.W.keepIn K (.ref f_measure) = true)
    (a_may_bend : PySem.W.nsIn K mainGlobals "may_bend" = some (some (.ref f_may_bend)))
    (l_may_bend : K.lookup f_may_bend = some ⟨oc_may_bend, od_may_bend, .func (PySem.W.fnOf "may_bend" "may_bend" (defArgs s_may_bend) (defBody s_may_bend) (defScope s_may_bend) .none kV_may_bend dc_may_bend pm_may_bend an_may_bend cd_may_bend ct_may_bend), sl_may_bend⟩)
    (c_may_bend : PySem.W.codeIn K cd_may_bend "may_bend" = true)
    (k_may_bend : PySem.W.keepIn K (.ref f_may_bend) = true)
    (a_bent : PySem.W.nsIn K mainGlobals "bent" = some (some (.ref f_bent)))
    (l_bent : K.lookup f_bent = some ⟨oc_bent, od_bent, .func (PySem.W.fnOf "bent" "bent" (defArgs s_bent) (defBody s_bent) (defScope s_bent) .none kV_bent dc_bent pm_bent an_bent cd_bent ct_bent), sl_bent⟩)
    (c_bent : PySem.W.codeIn K cd_bent "bent" = true)
    (k_bent : PySem.W.keepIn K (.ref f_bent) = true)
    (a_is_kind : PySem.W.nsIn K mainGlobals "is_kind" = some (some (.ref f_is_kind)))
    (l_is_kind : K.lookup f_is_kind = some ⟨oc_is_kind, od_is_kind, .func (PySem.W.fnOf "is_kind" "is_kind" (defArgs s_is_kind) (defBody s_is_kind) (defScope s_is_kind) .none kV_is_kind dc_is_kind pm_is_kind an_is_kind cd_is_kind ct_is_kind), sl_is_kind⟩)
    (c_is_kind : PySem.W.codeIn K cd_is_kind "is_kind" = true)
    (k_is_kind : PySem.W.keepIn K (.ref f_is_kind) = true)
    (a_may_be_said : PySem.W.nsIn K mainGlobals "may_be_said" = some (some (.ref f_may_be_said)))
    (l_may_be_said : K.lookup f_may_be_said = some ⟨oc_may_be_said, od_may_be_said, .func (PySem.W.fnOf "may_be_said" "may_be_said" (defArgs s_may_be_said) (defBody s_may_be_said) (defScope s_may_be_said) .none kV_may_be_said dc_may_be_said pm_may_be_said an_may_be_said cd_may_be_said ct_may_be_said), sl_may_be_said⟩)
    (c_may_be_said : PySem.W.codeIn K cd_may_be_said "may_be_said" = true)
    (k_may_be_said : PySem.W.keepIn K (.ref f_may_be_said) = true)
    (a_way : PySem.W.nsIn K mainGlobals "way" = some (some (.ref f_way)))
    (l_way : K.lookup f_way = some ⟨oc_way, od_way, .func (PySem.W.fnOf "way" "way" (defArgs s_way) (defBody s_way) (defScope s_way) .none kV_way dc_way pm_way an_way cd_way ct_way), sl_way⟩)
    (c_way : PySem.W.codeIn K cd_way "way" = true)
    (k_way : PySem.W.keepIn K (.ref f_way) = true)
    (a_turn : PySem.W.nsIn K mainGlobals "turn" = some (some (.ref f_turn)))
    (l_turn : K.lookup f_turn = some ⟨oc_turn, od_turn, .func (PySem.W.fnOf "turn" "turn" (defArgs s_turn) (defBody s_turn) (defScope s_turn) .none kV_turn dc_turn pm_turn an_turn cd_turn ct_turn), sl_turn⟩)
    (c_turn : PySem.W.codeIn K cd_turn "turn" = true)
    (k_turn : PySem.W.keepIn K (.ref f_turn) = true)
    (a_lean : PySem.W.nsIn K mainGlobals "lean" = some (some (.ref f_lean)))
    (l_lean : K.lookup f_lean = some ⟨oc_lean, od_lean, .func (PySem.W.fnOf "lean" "lean" (defArgs s_lean) (defBody s_lean) (defScope s_lean) .none kV_lean dc_lean pm_lean an_lean cd_lean ct_lean), sl_lean⟩)
    (c_lean : PySem.W.codeIn K cd_lean "lean" = true)
    (k_lean : PySem.W.keepIn K (.ref f_lean) = true)
    (a_multiplied : PySem.W.nsIn K mainGlobals "multiplied" = some (some (.ref f_multiplied)))
    (l_multiplied : K.lookup f_multiplied = some ⟨oc_multiplied, od_multiplied, .func (PySem.W.fnOf "multiplied" "multiplied" (defArgs s_multiplied) (defBody s_multiplied) (defScope s_multiplied) .none kV_multiplied dc_multiplied pm_multiplied an_multiplied cd_multiplied ct_multiplied), sl_multiplied⟩)
    (c_multiplied : PySem.W.codeIn K cd_multiplied "multiplied" = true)
    (k_multiplied : PySem.W.keepIn K (.ref f_multiplied) = true)
    (a_square : PySem.W.nsIn K mainGlobals "square" = some (some (.ref f_square)))
    (l_square : K.lookup f_square = some ⟨oc_square, od_square, .func (PySem.W.fnOf "square" "square" (defArgs s_square) (defBody s_square) (defScope s_square) .none kV_square dc_square pm_square an_square cd_square ct_square), sl_square⟩)
    (c_square : PySem.W.codeIn K cd_square "square" = true)
    (k_square : PySem.W.keepIn K (.ref f_square) = true)
    (a_is_same : PySem.W.nsIn K mainGlobals "is_same" = some (some (.ref f_is_same)))
    (l_is_same : K.lookup f_is_same = some ⟨oc_is_same, od_is_same, .func (PySem.W.fnOf "is_same" "is_same" (defArgs s_is_same) (defBody s_is_same) (defScope s_is_same) .none kV_is_same dc_is_same pm_is_same an_is_same cd_is_same ct_is_same), sl_is_same⟩)
    (c_is_same : PySem.W.codeIn K cd_is_same "is_same" = true)
    (k_is_same : PySem.W.keepIn K (.ref f_is_same) = true)
    (a_is_line : PySem.W.nsIn K mainGlobals "is_line" = some (some (.ref f_is_line)))
    (l_is_line : K.lookup f_is_line = some ⟨oc_is_line, od_is_line, .func (PySem.W.fnOf "is_line" "is_line" (defArgs s_is_line) (defBody s_is_line) (defScope s_is_line) .none kV_is_line dc_is_line pm_is_line an_is_line cd_is_line ct_is_line), sl_is_line⟩)
    (c_is_line : PySem.W.codeIn K cd_is_line "is_line" = true)
    (k_is_line : PySem.W.keepIn K (.ref f_is_line) = true)
    (a_is_parallel : PySem.W.nsIn K mainGlobals "is_parallel" = some (some (.ref f_is_parallel)))
    (l_is_parallel : K.lookup f_is_parallel = some ⟨oc_is_parallel, od_is_parallel, .func (PySem.W.fnOf "is_parallel" "is_parallel" (defArgs s_is_parallel) (defBody s_is_parallel) (defScope s_is_parallel) .none kV_is_parallel dc_is_parallel pm_is_parallel an_is_parallel cd_is_parallel ct_is_parallel), sl_is_parallel⟩)
    (c_is_parallel : PySem.W.codeIn K cd_is_parallel "is_parallel" = true)
    (k_is_parallel : PySem.W.keepIn K (.ref f_is_parallel) = true)
    (a_is_right : PySem.W.nsIn K mainGlobals "is_right" = some (some (.ref f_is_right)))
    (l_is_right : K.lookup f_is_right = some ⟨oc_is_right, od_is_right, .func (PySem.W.fnOf "is_right" "is_right" (defArgs s_is_right) (defBody s_is_right) (defScope s_is_right) .none kV_is_right dc_is_right pm_is_right an_is_right cd_is_right ct_is_right), sl_is_right⟩)
    (c_is_right : PySem.W.codeIn K cd_is_right "is_right" = true)
    (k_is_right : PySem.W.keepIn K (.ref f_is_right) = true)
    (a_is_times : PySem.W.nsIn K mainGlobals "is_times" = some (some (.ref f_is_times)))
    (l_is_times : K.lookup f_is_times = some ⟨oc_is_times, od_is_times, .func (PySem.W.fnOf "is_times" "is_times" (defArgs s_is_times) (defBody s_is_times) (defScope s_is_times) .none kV_is_times dc_is_times pm_is_times an_is_times cd_is_times ct_is_times), sl_is_times⟩)
    (c_is_times : PySem.W.codeIn K cd_is_times "is_times" = true)
    (k_is_times : PySem.W.keepIn K (.ref f_is_times) = true)
    (a_is_equal : PySem.W.nsIn K mainGlobals "is_equal" = some (some (.ref f_is_equal)))
    (l_is_equal : K.lookup f_is_equal = some ⟨oc_is_equal, od_is_equal, .func (PySem.W.fnOf "is_equal" "is_equal" (defArgs s_is_equal) (defBody s_is_equal) (defScope s_is_equal) .none kV_is_equal dc_is_equal pm_is_equal an_is_equal cd_is_equal ct_is_equal), sl_is_equal⟩)
    (c_is_equal : PySem.W.codeIn K cd_is_equal "is_equal" = true)
    (k_is_equal : PySem.W.keepIn K (.ref f_is_equal) = true)
    (a_is_circle : PySem.W.nsIn K mainGlobals "is_circle" = some (some (.ref f_is_circle)))
    (l_is_circle : K.lookup f_is_circle = some ⟨oc_is_circle, od_is_circle, .func (PySem.W.fnOf "is_circle" "is_circle" (defArgs s_is_circle) (defBody s_is_circle) (defScope s_is_circle) .none kV_is_circle dc_is_circle pm_is_circle an_is_circle cd_is_circle ct_is_circle), sl_is_circle⟩)
    (c_is_circle : PySem.W.codeIn K cd_is_circle "is_circle" = true)
    (k_is_circle : PySem.W.keepIn K (.ref f_is_circle) = true)
    (a_is_angles : PySem.W.nsIn K mainGlobals "is_angles" = some (some (.ref f_is_angles)))
    (l_is_angles : K.lookup f_is_angles = some ⟨oc_is_angles, od_is_angles, .func (PySem.W.fnOf "is_angles" "is_angles" (defArgs s_is_angles) (defBody s_is_angles) (defScope s_is_angles) .none kV_is_angles dc_is_angles pm_is_angles an_is_angles cd_is_angles ct_is_angles), sl_is_angles⟩)
    (c_is_angles : PySem.W.codeIn K cd_is_angles "is_angles" = true)
    (k_is_angles : PySem.W.keepIn K (.ref f_is_angles) = true)
    (a_is_areas : PySem.W.nsIn K mainGlobals "is_areas" = some (some (.ref f_is_areas)))
    (l_is_areas : K.lookup f_is_areas = some ⟨oc_is_areas, od_is_areas, .func (PySem.W.fnOf "is_areas" "is_areas" (defArgs s_is_areas) (defBody s_is_areas) (defScope s_is_areas) .none kV_is_areas dc_is_areas pm_is_areas an_is_areas cd_is_areas ct_is_areas), sl_is_areas⟩)
    (c_is_areas : PySem.W.codeIn K cd_is_areas "is_areas" = true)
    (k_is_areas : PySem.W.keepIn K (.ref f_is_areas) = true)
    (a_line_numbers : PySem.W.nsIn K mainGlobals "line_numbers" = some (some (.ref f_line_numbers)))
    (l_line_numbers : K.lookup f_line_numbers = some ⟨oc_line_numbers, od_line_numbers, .func (PySem.W.fnOf "line_numbers" "line_numbers" (defArgs s_line_numbers) (defBody s_line_numbers) (defScope s_line_numbers) .none kV_line_numbers dc_line_numbers pm_line_numbers an_line_numbers cd_line_numbers ct_line_numbers), sl_line_numbers⟩)
    (c_line_numbers : PySem.W.codeIn K cd_line_numbers "line_numbers" = true)
    (k_line_numbers : PySem.W.keepIn K (.ref f_line_numbers) = true)
    (a_is_through : PySem.W.nsIn K mainGlobals "is_through" = some (some (.ref f_is_through)))
    (l_is_through : K.lookup f_is_through = some ⟨oc_is_through, od_is_through, .func (PySem.W.fnOf "is_through" "is_through" (defArgs s_is_through) (defBody s_is_through) (defScope s_is_through) .none kV_is_through dc_is_through pm_is_through an_is_through cd_is_through ct_is_through), sl_is_through⟩)
    (c_is_through : PySem.W.codeIn K cd_is_through "is_through" = true)
    (k_is_through : PySem.W.keepIn K (.ref f_is_through) = true)
    (a_is_middle : PySem.W.nsIn K mainGlobals "is_middle" = some (some (.ref f_is_middle)))
    (l_is_middle : K.lookup f_is_middle = some ⟨oc_is_middle, od_is_middle, .func (PySem.W.fnOf "is_middle" "is_middle" (defArgs s_is_middle) (defBody s_is_middle) (defScope s_is_middle) .none kV_is_middle dc_is_middle pm_is_middle an_is_middle cd_is_middle ct_is_middle), sl_is_middle⟩)
    (c_is_middle : PySem.W.codeIn K cd_is_middle "is_middle" = true)
    (k_is_middle : PySem.W.keepIn K (.ref f_is_middle) = true)
    (a_is_touches : PySem.W.nsIn K mainGlobals "is_touches" = some (some (.ref f_is_touches)))
    (l_is_touches : K.lookup f_is_touches = some ⟨oc_is_touches, od_is_touches, .func (PySem.W.fnOf "is_touches" "is_touches" (defArgs s_is_touches) (defBody s_is_touches) (defScope s_is_touches) .none kV_is_touches dc_is_touches pm_is_touches an_is_touches cd_is_touches ct_is_touches), sl_is_touches⟩)
    (c_is_touches : PySem.W.codeIn K cd_is_touches "is_touches" = true)
    (k_is_touches : PySem.W.keepIn K (.ref f_is_touches) = true)
    (a_is_alike : PySem.W.nsIn K mainGlobals "is_alike" = some (some (.ref f_is_alike)))
    (l_is_alike : K.lookup f_is_alike = some ⟨oc_is_alike, od_is_alike, .func (PySem.W.fnOf "is_alike" "is_alike" (defArgs s_is_alike) (defBody s_is_alike) (defScope s_is_alike) .none kV_is_alike dc_is_alike pm_is_alike an_is_alike cd_is_alike ct_is_alike), sl_is_alike⟩)
    (c_is_alike : PySem.W.codeIn K cd_is_alike "is_alike" = true)
    (k_is_alike : PySem.W.keepIn K (.ref f_is_alike) = true)
    (a_is_so : PySem.W.nsIn K mainGlobals "is_so" = some (some (.ref f_is_so)))
    (l_is_so : K.lookup f_is_so = some ⟨oc_is_so, od_is_so, .func (PySem.W.fnOf "is_so" "is_so" (defArgs s_is_so) (defBody s_is_so) (defScope s_is_so) .none kV_is_so dc_is_so pm_is_so an_is_so cd_is_so ct_is_so), sl_is_so⟩)
    (c_is_so : PySem.W.codeIn K cd_is_so "is_so" = true)
    (k_is_so : PySem.W.keepIn K (.ref f_is_so) = true)
    (a_rising : PySem.W.nsIn K mainGlobals "rising" = some (some (.ref f_rising)))
    (l_rising : K.lookup f_rising = some ⟨oc_rising, od_rising, .func (PySem.W.fnOf "rising" "rising" (defArgs s_rising) (defBody s_rising) (defScope s_rising) .none kV_rising dc_rising pm_rising an_rising cd_rising ct_rising), sl_rising⟩)
    (c_rising : PySem.W.codeIn K cd_rising "rising" = true)
    (k_rising : PySem.W.keepIn K (.ref f_rising) = true)
    (a_pairs_of_ways : PySem.W.nsIn K mainGlobals "pairs_of_ways" = some (some (.ref f_pairs_of_ways)))
    (l_pairs_of_ways : K.lookup f_pairs_of_ways = some ⟨oc_pairs_of_ways, od_pairs_of_ways, .func (PySem.W.fnOf "pairs_of_ways" "pairs_of_ways" (defArgs s_pairs_of_ways) (defBody s_pairs_of_ways) (defScope s_pairs_of_ways) .none kV_pairs_of_ways dc_pairs_of_ways pm_pairs_of_ways an_pairs_of_ways cd_pairs_of_ways ct_pairs_of_ways), sl_pairs_of_ways⟩)
    (c_pairs_of_ways : PySem.W.codeIn K cd_pairs_of_ways "pairs_of_ways" = true)
    (k_pairs_of_ways : PySem.W.keepIn K (.ref f_pairs_of_ways) = true)
    (a_middles : PySem.W.nsIn K mainGlobals "middles" = some (some (.ref f_middles)))
    (l_middles : K.lookup f_middles = some ⟨oc_middles, od_middles, .func (PySem.W.fnOf "middles" "middles" (defArgs s_middles) (defBody s_middles) (defScope s_middles) .none kV_middles dc_middles pm_middles an_middles cd_middles ct_middles), sl_middles⟩)
    (c_middles : PySem.W.codeIn K cd_middles "middles" = true)
    (k_middles : PySem.W.keepIn K (.ref f_middles) = true)
    (a_rows_to_ask : PySem.W.nsIn K mainGlobals "rows_to_ask" = some (some (.ref f_rows_to_ask)))
    (l_rows_to_ask : K.lookup f_rows_to_ask = some ⟨oc_rows_to_ask, od_rows_to_ask, .func (PySem.W.fnOf "rows_to_ask" "rows_to_ask" (defArgs s_rows_to_ask) (defBody s_rows_to_ask) (defScope s_rows_to_ask) .none kV_rows_to_ask dc_rows_to_ask pm_rows_to_ask an_rows_to_ask cd_rows_to_ask ct_rows_to_ask), sl_rows_to_ask⟩)
    (c_rows_to_ask : PySem.W.codeIn K cd_rows_to_ask "rows_to_ask" = true)
    (k_rows_to_ask : PySem.W.keepIn K (.ref f_rows_to_ask) = true)
    (a_rows_so : PySem.W.nsIn K mainGlobals "rows_so" = some (some (.ref f_rows_so)))
    (l_rows_so : K.lookup f_rows_so = some ⟨oc_rows_so, od_rows_so, .func (PySem.W.fnOf "rows_so" "rows_so" (defArgs s_rows_so) (defBody s_rows_so) (defScope s_rows_so) .none kV_rows_so dc_rows_so pm_rows_so an_rows_so cd_rows_so ct_rows_so), sl_rows_so⟩)
    (c_rows_so : PySem.W.codeIn K cd_rows_so "rows_so" = true)
    (k_rows_so : PySem.W.keepIn K (.ref f_rows_so) = true)
    (a_is_so_throughout : PySem.W.nsIn K mainGlobals "is_so_throughout" = some (some (.ref f_is_so_throughout)))
    (l_is_so_throughout : K.lookup f_is_so_throughout = some ⟨oc_is_so_throughout, od_is_so_throughout, .func (PySem.W.fnOf "is_so_throughout" "is_so_throughout" (defArgs s_is_so_throughout) (defBody s_is_so_throughout) (defScope s_is_so_throughout) .none kV_is_so_throughout dc_is_so_throughout pm_is_so_throughout an_is_so_throughout cd_is_so_throughout ct_is_so_throughout), sl_is_so_throughout⟩)
    (c_is_so_throughout : PySem.W.codeIn K cd_is_so_throughout "is_so_throughout" = true)
    (k_is_so_throughout : PySem.W.keepIn K (.ref f_is_so_throughout) = true)
    (a_sets_throughout : PySem.W.nsIn K mainGlobals "sets_throughout" = some (some (.ref f_sets_throughout)))
    (l_sets_throughout : K.lookup f_sets_throughout = some ⟨oc_sets_throughout, od_sets_throughout, .func (PySem.W.fnOf "sets_throughout" "sets_throughout" (defArgs s_sets_throughout) (defBody s_sets_throughout) (defScope s_sets_throughout) .none kV_sets_throughout dc_sets_throughout pm_sets_throughout an_sets_throughout cd_sets_throughout ct_sets_throughout), sl_sets_throughout⟩)
    (c_sets_throughout : PySem.W.codeIn K cd_sets_throughout "sets_throughout" = true)
    (k_sets_throughout : PySem.W.keepIn K (.ref f_sets_throughout) = true)
    (a_largest_set : PySem.W.nsIn K mainGlobals "largest_set" = some (some (.ref f_largest_set)))
    (l_largest_set : K.lookup f_largest_set = some ⟨oc_largest_set, od_largest_set, .func (PySem.W.fnOf "largest_set" "largest_set" (defArgs s_largest_set) (defBody s_largest_set) (defScope s_largest_set) .none kV_largest_set dc_largest_set pm_largest_set an_largest_set cd_largest_set ct_largest_set), sl_largest_set⟩)
    (c_largest_set : PySem.W.codeIn K cd_largest_set "largest_set" = true)
    (k_largest_set : PySem.W.keepIn K (.ref f_largest_set) = true)
    (a_greatest_common : PySem.W.nsIn K mainGlobals "greatest_common" = some (some (.ref f_greatest_common)))
    (l_greatest_common : K.lookup f_greatest_common = some ⟨oc_greatest_common, od_greatest_common, .func (PySem.W.fnOf "greatest_common" "greatest_common" (defArgs s_greatest_common) (defBody s_greatest_common) (defScope s_greatest_common) .none kV_greatest_common dc_greatest_common pm_greatest_common an_greatest_common cd_greatest_common ct_greatest_common), sl_greatest_common⟩)
    (c_greatest_common : PySem.W.codeIn K cd_greatest_common "greatest_common" = true)
    (k_greatest_common : PySem.W.keepIn K (.ref f_greatest_common) = true)
    (a_fraction : PySem.W.nsIn K mainGlobals "fraction" = some (some (.ref f_fraction)))
    (l_fraction : K.lookup f_fraction = some ⟨oc_fraction, od_fraction, .func (PySem.W.fnOf "fraction" "fraction" (defArgs s_fraction) (defBody s_fraction) (defScope s_fraction) .none kV_fraction dc_fraction pm_fraction an_fraction cd_fraction ct_fraction), sl_fraction⟩)
    (c_fraction : PySem.W.codeIn K cd_fraction "fraction" = true)
    (k_fraction : PySem.W.keepIn K (.ref f_fraction) = true)
    (a_three_numbers : PySem.W.nsIn K mainGlobals "three_numbers" = some (some (.ref f_three_numbers)))
    (l_three_numbers : K.lookup f_three_numbers = some ⟨oc_three_numbers, od_three_numbers, .func (PySem.W.fnOf "three_numbers" "three_numbers" (defArgs s_three_numbers) (defBody s_three_numbers) (defScope s_three_numbers) .none kV_three_numbers dc_three_numbers pm_three_numbers an_three_numbers cd_three_numbers ct_three_numbers), sl_three_numbers⟩)
    (c_three_numbers : PySem.W.codeIn K cd_three_numbers "three_numbers" = true)
    (k_three_numbers : PySem.W.keepIn K (.ref f_three_numbers) = true)
    (a_may_be_told : PySem.W.nsIn K mainGlobals "may_be_told" = some (some (.ref f_may_be_told)))
    (l_may_be_told : K.lookup f_may_be_told = some ⟨oc_may_be_told, od_may_be_told, .func (PySem.W.fnOf "may_be_told" "may_be_told" (defArgs s_may_be_told) (defBody s_may_be_told) (defScope s_may_be_told) .none kV_may_be_told dc_may_be_told pm_may_be_told an_may_be_told cd_may_be_told ct_may_be_told), sl_may_be_told⟩)
    (c_may_be_told : PySem.W.codeIn K cd_may_be_told "may_be_told" = true)
    (k_may_be_told : PySem.W.keepIn K (.ref f_may_be_told) = true)
    (a_is_too_large : PySem.W.nsIn K mainGlobals "is_too_large" = some (some (.ref f_is_too_large)))
    (l_is_too_large : K.lookup f_is_too_large = some ⟨oc_is_too_large, od_is_too_large, .func (PySem.W.fnOf "is_too_large" "is_too_large" (defArgs s_is_too_large) (defBody s_is_too_large) (defScope s_is_too_large) .none kV_is_too_large dc_is_too_large pm_is_too_large an_is_too_large cd_is_too_large ct_is_too_large), sl_is_too_large⟩)
    (c_is_too_large : PySem.W.codeIn K cd_is_too_large "is_too_large" = true)
    (k_is_too_large : PySem.W.keepIn K (.ref f_is_too_large) = true)
    (a_common_below : PySem.W.nsIn K mainGlobals "common_below" = some (some (.ref f_common_below)))
    (l_common_below : K.lookup f_common_below = some ⟨oc_common_below, od_common_below, .func (PySem.W.fnOf "common_below" "common_below" (defArgs s_common_below) (defBody s_common_below) (defScope s_common_below) .none kV_common_below dc_common_below pm_common_below an_common_below cd_common_below ct_common_below), sl_common_below⟩)
    (c_common_below : PySem.W.codeIn K cd_common_below "common_below" = true)
    (k_common_below : PySem.W.keepIn K (.ref f_common_below) = true)
    (a_whole_places : PySem.W.nsIn K mainGlobals "whole_places" = some (some (.ref f_whole_places)))
    (l_whole_places : K.lookup f_whole_places = some ⟨oc_whole_places, od_whole_places, .func (PySem.W.fnOf "whole_places" "whole_places" (defArgs s_whole_places) (defBody s_whole_places) (defScope s_whole_places) .none kV_whole_places dc_whole_places pm_whole_places an_whole_places cd_whole_places ct_whole_places), sl_whole_places⟩)
    (c_whole_places : PySem.W.codeIn K cd_whole_places "whole_places" = true)
    (k_whole_places : PySem.W.keepIn K (.ref f_whole_places) = true)
    (a_may_be_asked : PySem.W.nsIn K mainGlobals "may_be_asked" = some (some (.ref f_may_be_asked)))
    (l_may_be_asked : K.lookup f_may_be_asked = some ⟨oc_may_be_asked, od_may_be_asked, .func (PySem.W.fnOf "may_be_asked" "may_be_asked" (defArgs s_may_be_asked) (defBody s_may_be_asked) (defScope s_may_be_asked) .none kV_may_be_asked dc_may_be_asked pm_may_be_asked an_may_be_asked cd_may_be_asked ct_may_be_asked), sl_may_be_asked⟩)
    (c_may_be_asked : PySem.W.codeIn K cd_may_be_asked "may_be_asked" = true)
    (k_may_be_asked : PySem.W.keepIn K (.ref f_may_be_asked) = true)
    (a_keeps_shapes : PySem.W.nsIn K mainGlobals "keeps_shapes" = some (some (.ref f_keeps_shapes)))
    (l_keeps_shapes : K.lookup f_keeps_shapes = some ⟨oc_keeps_shapes, od_keeps_shapes, .func (PySem.W.fnOf "keeps_shapes" "keeps_shapes" (defArgs s_keeps_shapes) (defBody s_keeps_shapes) (defScope s_keeps_shapes) .none kV_keeps_shapes dc_keeps_shapes pm_keeps_shapes an_keeps_shapes cd_keeps_shapes ct_keeps_shapes), sl_keeps_shapes⟩)
    (c_keeps_shapes : PySem.W.codeIn K cd_keeps_shapes "keeps_shapes" = true)
    (k_keeps_shapes : PySem.W.keepIn K (.ref f_keeps_shapes) = true)
    (a_is_kept : PySem.W.nsIn K mainGlobals "is_kept" = some (some (.ref f_is_kept)))
    (l_is_kept : K.lookup f_is_kept = some ⟨oc_is_kept, od_is_kept, .func (PySem.W.fnOf "is_kept" "is_kept" (defArgs s_is_kept) (defBody s_is_kept) (defScope s_is_kept) .none kV_is_kept dc_is_kept pm_is_kept an_is_kept cd_is_kept ct_is_kept), sl_is_kept⟩)
    (c_is_kept : PySem.W.codeIn K cd_is_kept "is_kept" = true)
    (k_is_kept : PySem.W.keepIn K (.ref f_is_kept) = true)
    (a_is_too_large_to_tell : PySem.W.nsIn K mainGlobals "is_too_large_to_tell" = some (some (.ref f_is_too_large_to_tell)))
    (l_is_too_large_to_tell : K.lookup f_is_too_large_to_tell = some ⟨oc_is_too_large_to_tell, od_is_too_large_to_tell, .func (PySem.W.fnOf "is_too_large_to_tell" "is_too_large_to_tell" (defArgs s_is_too_large_to_tell) (defBody s_is_too_large_to_tell) (defScope s_is_too_large_to_tell) .none kV_is_too_large_to_tell dc_is_too_large_to_tell pm_is_too_large_to_tell an_is_too_large_to_tell cd_is_too_large_to_tell ct_is_too_large_to_tell), sl_is_too_large_to_tell⟩)
    (c_is_too_large_to_tell : PySem.W.codeIn K cd_is_too_large_to_tell "is_too_large_to_tell" = true)
    (k_is_too_large_to_tell : PySem.W.keepIn K (.ref f_is_too_large_to_tell) = true)
    (a_may_be_crossed : PySem.W.nsIn K mainGlobals "may_be_crossed" = some (some (.ref f_may_be_crossed)))
    (l_may_be_crossed : K.lookup f_may_be_crossed = some ⟨oc_may_be_crossed, od_may_be_crossed, .func (PySem.W.fnOf "may_be_crossed" "may_be_crossed" (defArgs s_may_be_crossed) (defBody s_may_be_crossed) (defScope s_may_be_crossed) .none kV_may_be_crossed dc_may_be_crossed pm_may_be_crossed an_may_be_crossed cd_may_be_crossed ct_may_be_crossed), sl_may_be_crossed⟩)
    (c_may_be_crossed : PySem.W.codeIn K cd_may_be_crossed "may_be_crossed" = true)
    (k_may_be_crossed : PySem.W.keepIn K (.ref f_may_be_crossed) = true)
    (a_cross_fraction : PySem.W.nsIn K mainGlobals "cross_fraction" = some (some (.ref f_cross_fraction)))
    (l_cross_fraction : K.lookup f_cross_fraction = some ⟨oc_cross_fraction, od_cross_fraction, .func (PySem.W.fnOf "cross_fraction" "cross_fraction" (defArgs s_cross_fraction) (defBody s_cross_fraction) (defScope s_cross_fraction) .none kV_cross_fraction dc_cross_fraction pm_cross_fraction an_cross_fraction cd_cross_fraction ct_cross_fraction), sl_cross_fraction⟩)
    (c_cross_fraction : PySem.W.codeIn K cd_cross_fraction "cross_fraction" = true)
    (k_cross_fraction : PySem.W.keepIn K (.ref f_cross_fraction) = true)
    (a_centre_fractions : PySem.W.nsIn K mainGlobals "centre_fractions" = some (some (.ref f_centre_fractions)))
    (l_centre_fractions : K.lookup f_centre_fractions = some ⟨oc_centre_fractions, od_centre_fractions, .func (PySem.W.fnOf "centre_fractions" "centre_fractions" (defArgs s_centre_fractions) (defBody s_centre_fractions) (defScope s_centre_fractions) .none kV_centre_fractions dc_centre_fractions pm_centre_fractions an_centre_fractions cd_centre_fractions ct_centre_fractions), sl_centre_fractions⟩)
    (c_centre_fractions : PySem.W.codeIn K cd_centre_fractions "centre_fractions" = true)
    (k_centre_fractions : PySem.W.keepIn K (.ref f_centre_fractions) = true)
    (a_split_calls : PySem.W.nsIn K mainGlobals "split_calls" = some (some (.ref f_split_calls)))
    (l_split_calls : K.lookup f_split_calls = some ⟨oc_split_calls, od_split_calls, .func (PySem.W.fnOf "split_calls" "split_calls" (defArgs s_split_calls) (defBody s_split_calls) (defScope s_split_calls) .none kV_split_calls dc_split_calls pm_split_calls an_split_calls cd_split_calls ct_split_calls), sl_split_calls⟩)
    (c_split_calls : PySem.W.codeIn K cd_split_calls "split_calls" = true)
    (k_split_calls : PySem.W.keepIn K (.ref f_split_calls) = true)
    (a_answer_with : PySem.W.nsIn K mainGlobals "answer_with" = some (some (.ref f_answer_with)))
    (l_answer_with : K.lookup f_answer_with = some ⟨oc_answer_with, od_answer_with, .func (PySem.W.fnOf "answer_with" "answer_with" (defArgs s_answer_with) (defBody s_answer_with) (defScope s_answer_with) .none kV_answer_with dc_answer_with pm_answer_with an_answer_with cd_answer_with ct_answer_with), sl_answer_with⟩)
    (c_answer_with : PySem.W.codeIn K cd_answer_with "answer_with" = true)
    (k_answer_with : PySem.W.keepIn K (.ref f_answer_with) = true)
    (a_Plane___init__ : PySem.W.findIn K (.ref C_Plane) "__init__" = some (some (.ref f_Plane___init__)))
    (i_Plane___init__ : PySem.W.isFn K (.ref f_Plane___init__) = true)
    (l_Plane___init__ : K.lookup f_Plane___init__ = some ⟨oc_Plane___init__, od_Plane___init__, .func (PySem.W.fnOf "__init__" "Plane.__init__" (defArgs s_Plane___init__) (defBody s_Plane___init__) (defScope s_Plane___init__) .none kV_Plane___init__ dc_Plane___init__ pm_Plane___init__ an_Plane___init__ cd_Plane___init__ ct_Plane___init__), sl_Plane___init__⟩)
    (c_Plane___init__ : PySem.W.codeIn K cd_Plane___init__ "Plane.__init__" = true)
    (k_Plane___init__ : PySem.W.keepIn K (.ref f_Plane___init__) = true)
    (a_Plane_begin : PySem.W.findIn K (.ref C_Plane) "begin" = some (some (.ref f_Plane_begin)))
    (i_Plane_begin : PySem.W.isFn K (.ref f_Plane_begin) = true)
    (l_Plane_begin : K.lookup f_Plane_begin = some ⟨oc_Plane_begin, od_Plane_begin, .func (PySem.W.fnOf "begin" "Plane.begin" (defArgs s_Plane_begin) (defBody s_Plane_begin) (defScope s_Plane_begin) .none kV_Plane_begin dc_Plane_begin pm_Plane_begin an_Plane_begin cd_Plane_begin ct_Plane_begin), sl_Plane_begin⟩)
    (c_Plane_begin : PySem.W.codeIn K cd_Plane_begin "Plane.begin" = true)
    (k_Plane_begin : PySem.W.keepIn K (.ref f_Plane_begin) = true)
    (a_Plane_point : PySem.W.findIn K (.ref C_Plane) "point" = some (some (.ref f_Plane_point)))
    (i_Plane_point : PySem.W.isFn K (.ref f_Plane_point) = true)
    (l_Plane_point : K.lookup f_Plane_point = some ⟨oc_Plane_point, od_Plane_point, .func (PySem.W.fnOf "point" "Plane.point" (defArgs s_Plane_point) (defBody s_Plane_point) (defScope s_Plane_point) .none kV_Plane_point dc_Plane_point pm_Plane_point an_Plane_point cd_Plane_point ct_Plane_point), sl_Plane_point⟩)
    (c_Plane_point : PySem.W.codeIn K cd_Plane_point "Plane.point" = true)
    (k_Plane_point : PySem.W.keepIn K (.ref f_Plane_point) = true)
    (a_Plane_put : PySem.W.findIn K (.ref C_Plane) "put" = some (some (.ref f_Plane_put)))
    (i_Plane_put : PySem.W.isFn K (.ref f_Plane_put) = true)
    (l_Plane_put : K.lookup f_Plane_put = some ⟨oc_Plane_put, od_Plane_put, .func (PySem.W.fnOf "put" "Plane.put" (defArgs s_Plane_put) (defBody s_Plane_put) (defScope s_Plane_put) .none kV_Plane_put dc_Plane_put pm_Plane_put an_Plane_put cd_Plane_put ct_Plane_put), sl_Plane_put⟩)
    (c_Plane_put : PySem.W.codeIn K cd_Plane_put "Plane.put" = true)
    (k_Plane_put : PySem.W.keepIn K (.ref f_Plane_put) = true)
    (a_Plane_out : PySem.W.findIn K (.ref C_Plane) "out" = some (some (.ref f_Plane_out)))
    (i_Plane_out : PySem.W.isFn K (.ref f_Plane_out) = true)
    (l_Plane_out : K.lookup f_Plane_out = some ⟨oc_Plane_out, od_Plane_out, .func (PySem.W.fnOf "out" "Plane.out" (defArgs s_Plane_out) (defBody s_Plane_out) (defScope s_Plane_out) .none kV_Plane_out dc_Plane_out pm_Plane_out an_Plane_out cd_Plane_out ct_Plane_out), sl_Plane_out⟩)
    (c_Plane_out : PySem.W.codeIn K cd_Plane_out "Plane.out" = true)
    (k_Plane_out : PySem.W.keepIn K (.ref f_Plane_out) = true)
    (a_Plane_slant : PySem.W.findIn K (.ref C_Plane) "slant" = some (some (.ref f_Plane_slant)))
    (i_Plane_slant : PySem.W.isFn K (.ref f_Plane_slant) = true)
    (l_Plane_slant : K.lookup f_Plane_slant = some ⟨oc_Plane_slant, od_Plane_slant, .func (PySem.W.fnOf "slant" "Plane.slant" (defArgs s_Plane_slant) (defBody s_Plane_slant) (defScope s_Plane_slant) .none kV_Plane_slant dc_Plane_slant pm_Plane_slant an_Plane_slant cd_Plane_slant ct_Plane_slant), sl_Plane_slant⟩)
    (c_Plane_slant : PySem.W.codeIn K cd_Plane_slant "Plane.slant" = true)
    (k_Plane_slant : PySem.W.keepIn K (.ref f_Plane_slant) = true)
    (a_Plane_bend : PySem.W.findIn K (.ref C_Plane) "bend" = some (some (.ref f_Plane_bend)))
    (i_Plane_bend : PySem.W.isFn K (.ref f_Plane_bend) = true)
    (l_Plane_bend : K.lookup f_Plane_bend = some ⟨oc_Plane_bend, od_Plane_bend, .func (PySem.W.fnOf "bend" "Plane.bend" (defArgs s_Plane_bend) (defBody s_Plane_bend) (defScope s_Plane_bend) .none kV_Plane_bend dc_Plane_bend pm_Plane_bend an_Plane_bend cd_Plane_bend ct_Plane_bend), sl_Plane_bend⟩)
    (c_Plane_bend : PySem.W.codeIn K cd_Plane_bend "Plane.bend" = true)
    (k_Plane_bend : PySem.W.keepIn K (.ref f_Plane_bend) = true)
    (a_Plane_points : PySem.W.findIn K (.ref C_Plane) "points" = some (some (.ref f_Plane_points)))
    (i_Plane_points : PySem.W.isFn K (.ref f_Plane_points) = true)
    (l_Plane_points : K.lookup f_Plane_points = some ⟨oc_Plane_points, od_Plane_points, .func (PySem.W.fnOf "points" "Plane.points" (defArgs s_Plane_points) (defBody s_Plane_points) (defScope s_Plane_points) .none kV_Plane_points dc_Plane_points pm_Plane_points an_Plane_points cd_Plane_points ct_Plane_points), sl_Plane_points⟩)
    (c_Plane_points : PySem.W.codeIn K cd_Plane_points "Plane.points" = true)
    (k_Plane_points : PySem.W.keepIn K (.ref f_Plane_points) = true)
    (a_Plane_has_each : PySem.W.findIn K (.ref C_Plane) "has_each" = some (some (.ref f_Plane_has_each)))
    (i_Plane_has_each : PySem.W.isFn K (.ref f_Plane_has_each) = true)
    (l_Plane_has_each : K.lookup f_Plane_has_each = some ⟨oc_Plane_has_each, od_Plane_has_each, .func (PySem.W.fnOf "has_each" "Plane.has_each" (defArgs s_Plane_has_each) (defBody s_Plane_has_each) (defScope s_Plane_has_each) .none kV_Plane_has_each dc_Plane_has_each pm_Plane_has_each an_Plane_has_each cd_Plane_has_each ct_Plane_has_each), sl_Plane_has_each⟩)
    (c_Plane_has_each : PySem.W.codeIn K cd_Plane_has_each "Plane.has_each" = true)
    (k_Plane_has_each : PySem.W.keepIn K (.ref f_Plane_has_each) = true)
    (a_Plane_places_of : PySem.W.findIn K (.ref C_Plane) "places_of" = some (some (.ref f_Plane_places_of)))
    (i_Plane_places_of : PySem.W.isFn K (.ref f_Plane_places_of) = true)
    (l_Plane_places_of : K.lookup f_Plane_places_of = some ⟨oc_Plane_places_of, od_Plane_places_of, .func (PySem.W.fnOf "places_of" "Plane.places_of" (defArgs s_Plane_places_of) (defBody s_Plane_places_of) (defScope s_Plane_places_of) .none kV_Plane_places_of dc_Plane_places_of pm_Plane_places_of an_Plane_places_of cd_Plane_places_of ct_Plane_places_of), sl_Plane_places_of⟩)
    (c_Plane_places_of : PySem.W.codeIn K cd_Plane_places_of "Plane.places_of" = true)
    (k_Plane_places_of : PySem.W.keepIn K (.ref f_Plane_places_of) = true)
    (a_Plane_where : PySem.W.findIn K (.ref C_Plane) "where" = some (some (.ref f_Plane_where)))
    (i_Plane_where : PySem.W.isFn K (.ref f_Plane_where) = true)
    (l_Plane_where : K.lookup f_Plane_where = some ⟨oc_Plane_where, od_Plane_where, .func (PySem.W.fnOf "where" "Plane.where" (defArgs s_Plane_where) (defBody s_Plane_where) (defScope s_Plane_where) .none kV_Plane_where dc_Plane_where pm_Plane_where an_Plane_where cd_Plane_where ct_Plane_where), sl_Plane_where⟩)
    (c_Plane_where : PySem.W.codeIn K cd_Plane_where "Plane.where" = true)
    (k_Plane_where : PySem.W.keepIn K (.ref f_Plane_where) = true)
    (a_Plane_says : PySem.W.findIn K (.ref C_Plane) "says" = some (some (.ref f_Plane_says)))
    (i_Plane_says : PySem.W.isFn K (.ref f_Plane_says) = true)
    (l_Plane_says : K.lookup f_Plane_says = some ⟨oc_Plane_says, od_Plane_says, .func (PySem.W.fnOf "says" "Plane.says" (defArgs s_Plane_says) (defBody s_Plane_says) (defScope s_Plane_says) .none kV_Plane_says dc_Plane_says pm_Plane_says an_Plane_says cd_Plane_says ct_Plane_says), sl_Plane_says⟩)
    (c_Plane_says : PySem.W.codeIn K cd_Plane_says "Plane.says" = true)
    (k_Plane_says : PySem.W.keepIn K (.ref f_Plane_says) = true)
    (a_Plane_every : PySem.W.findIn K (.ref C_Plane) "every" = some (some (.ref f_Plane_every)))
    (i_Plane_every : PySem.W.isFn K (.ref f_Plane_every) = true)
    (l_Plane_every : K.lookup f_Plane_every = some ⟨oc_Plane_every, od_Plane_every, .func (PySem.W.fnOf "every" "Plane.every" (defArgs s_Plane_every) (defBody s_Plane_every) (defScope s_Plane_every) .none kV_Plane_every dc_Plane_every pm_Plane_every an_Plane_every cd_Plane_every ct_Plane_every), sl_Plane_every⟩)
    (c_Plane_every : PySem.W.codeIn K cd_Plane_every "Plane.every" = true)
    (k_Plane_every : PySem.W.keepIn K (.ref f_Plane_every) = true)
    (a_Plane_most : PySem.W.findIn K (.ref C_Plane) "most" = some (some (.ref f_Plane_most)))
    (i_Plane_most : PySem.W.isFn K (.ref f_Plane_most) = true)
    (l_Plane_most : K.lookup f_Plane_most = some ⟨oc_Plane_most, od_Plane_most, .func (PySem.W.fnOf "most" "Plane.most" (defArgs s_Plane_most) (defBody s_Plane_most) (defScope s_Plane_most) .none kV_Plane_most dc_Plane_most pm_Plane_most an_Plane_most cd_Plane_most ct_Plane_most), sl_Plane_most⟩)
    (c_Plane_most : PySem.W.codeIn K cd_Plane_most "Plane.most" = true)
    (k_Plane_most : PySem.W.keepIn K (.ref f_Plane_most) = true)
    (a_Plane_keeps : PySem.W.findIn K (.ref C_Plane) "keeps" = some (some (.ref f_Plane_keeps)))
    (i_Plane_keeps : PySem.W.isFn K (.ref f_Plane_keeps) = true)
    (l_Plane_keeps : K.lookup f_Plane_keeps = some ⟨oc_Plane_keeps, od_Plane_keeps, .func (PySem.W.fnOf "keeps" "Plane.keeps" (defArgs s_Plane_keeps) (defBody s_Plane_keeps) (defScope s_Plane_keeps) .none kV_Plane_keeps dc_Plane_keeps pm_Plane_keeps an_Plane_keeps cd_Plane_keeps ct_Plane_keeps), sl_Plane_keeps⟩)
    (c_Plane_keeps : PySem.W.codeIn K cd_Plane_keeps "Plane.keeps" = true)
    (k_Plane_keeps : PySem.W.keepIn K (.ref f_Plane_keeps) = true)
    (a_Plane_cross : PySem.W.findIn K (.ref C_Plane) "cross" = some (some (.ref f_Plane_cross)))
    (i_Plane_cross : PySem.W.isFn K (.ref f_Plane_cross) = true)
    (l_Plane_cross : K.lookup f_Plane_cross = some ⟨oc_Plane_cross, od_Plane_cross, .func (PySem.W.fnOf "cross" "Plane.cross" (defArgs s_Plane_cross) (defBody s_Plane_cross) (defScope s_Plane_cross) .none kV_Plane_cross dc_Plane_cross pm_Plane_cross an_Plane_cross cd_Plane_cross ct_Plane_cross), sl_Plane_cross⟩)
    (c_Plane_cross : PySem.W.codeIn K cd_Plane_cross "Plane.cross" = true)
    (k_Plane_cross : PySem.W.keepIn K (.ref f_Plane_cross) = true)
    (a_Plane_centre : PySem.W.findIn K (.ref C_Plane) "centre" = some (some (.ref f_Plane_centre)))
    (i_Plane_centre : PySem.W.isFn K (.ref f_Plane_centre) = true)
    (l_Plane_centre : K.lookup f_Plane_centre = some ⟨oc_Plane_centre, od_Plane_centre, .func (PySem.W.fnOf "centre" "Plane.centre" (defArgs s_Plane_centre) (defBody s_Plane_centre) (defScope s_Plane_centre) .none kV_Plane_centre dc_Plane_centre pm_Plane_centre an_Plane_centre cd_Plane_centre ct_Plane_centre), sl_Plane_centre⟩)
    (c_Plane_centre : PySem.W.codeIn K cd_Plane_centre "Plane.centre" = true)
    (k_Plane_centre : PySem.W.keepIn K (.ref f_Plane_centre) = true)
    (a_answer_of : PySem.W.nsIn K mainGlobals "answer_of" = some (some (.ref f_answer_of)))
    (l_answer_of : K.lookup f_answer_of = some ⟨oc_answer_of, od_answer_of, .func (PySem.W.fnOf "answer_of" "answer_of" (defArgs s_answer_of) (defBody s_answer_of) (defScope s_answer_of) .none kV_answer_of dc_answer_of pm_answer_of an_answer_of cd_answer_of ct_answer_of), sl_answer_of⟩)
    (c_answer_of : PySem.W.codeIn K cd_answer_of "answer_of" = true)
    (k_answer_of : PySem.W.keepIn K (.ref f_answer_of) = true)
    (a_answers : PySem.W.nsIn K mainGlobals "answers" = some (some (.ref f_answers)))
    (l_answers : K.lookup f_answers = some ⟨oc_answers, od_answers, .func (PySem.W.fnOf "answers" "answers" (defArgs s_answers) (defBody s_answers) (defScope s_answers) .none kV_answers dc_answers pm_answers an_answers cd_answers ct_answers), sl_answers⟩)
    (c_answers : PySem.W.codeIn K cd_answers "answers" = true)
    (k_answers : PySem.W.keepIn K (.ref f_answers) = true)
    (g_BY_KIND : PySem.W.nsIn K mainGlobals "BY_KIND" = some (some (.ref a_BY_KIND)))
    (q_BY_KIND : K.lookup a_BY_KIND = some ⟨.type "tuple", od_BY_KIND, .seq ⟨[.ref f_is_same, .ref f_is_line, .ref f_is_parallel, .ref f_is_right, .ref f_is_equal, .ref f_is_times, .ref f_is_circle, .ref f_is_angles, .ref f_is_areas, .ref f_is_through, .ref f_is_middle, .ref f_is_touches, .ref f_is_alike]⟩ n_BY_KIND, sl_BY_KIND⟩)
    : ∃ fd : FuncData, (∀ (s : Shared) (us : List Value), us.length = (["calls"] : List Str).length → BindsTo s fd ⟨us, []⟩ ((["calls"] : List Str).zip us)) ∧ ∀ base : Heap, K.In base → base.Ns mainGlobals mg → FnOk P w K mg base CX0 10 fa fd ["calls"] (spAns K) := by
  have e := hfa.symm.trans (PySem.W.mg_of X G a_answers)
  cases e
  refine ⟨PySem.W.fnOf "answers" "answers" (defArgs s_answers) (defBody s_answers) (defScope s_answers) .none kV_answers dc_answers pm_answers an_answers cd_answers ct_answers, fun s us hu => match us, hu with | [_], _ => .of_eq rfl, fun base _ _ => hok base {
      c_Plane := C_Plane,
      k_LARGEST_OF_NINE := k_LARGEST_OF_NINE,
      k_SAME := k_SAME,
      k_LINE := k_LINE,
      k_PARALLEL := k_PARALLEL,
      k_RIGHT := k_RIGHT,
      k_EQUAL := k_EQUAL,
      k_TIMES := k_TIMES,
      k_CIRCLE := k_CIRCLE,
      k_AREAS := k_AREAS,
      k_THROUGH := k_THROUGH,
      k_MIDDLE := k_MIDDLE,
      k_LARGEST_OF_TIMES := k_LARGEST_OF_TIMES,
      k_LARGEST_TOLD := k_LARGEST_TOLD,
      k_LARGEST_KEPT := k_LARGEST_KEPT,
      k_LARGEST_ANSWERED := k_LARGEST_ANSWERED,
      k_BEGIN := k_BEGIN,
      k_POINT := k_POINT,
      k_PUT := k_PUT,
      k_OUT := k_OUT,
      k_SLANT := k_SLANT,
      k_BEND := k_BEND,
      k_POINTS := k_POINTS,
      k_WHERE := k_WHERE,
      k_SAYS := k_SAYS,
      k_ALL := k_ALL,
      k_MOST := k_MOST,
      k_KEEPS := k_KEEPS,
      k_CROSS := k_CROSS,
      k_NO_POINT := k_NO_POINT,
      k_WRONG_NUMBERS := k_WRONG_NUMBERS,
      k_NO_ROOM := k_NO_ROOM,
      k_GOES_AWAY := k_GOES_AWAY,
      k_NOT_SO_PLACED := k_NOT_SO_PLACED,
      k_NOT_BEGUN := k_NOT_BEGUN,
      k_TOO_LARGE := k_TOO_LARGE,
      k_MOST_POINTS := k_MOST_POINTS,
      a_POINTS_OF_KIND := a_POINTS_OF_KIND,
      a_KINDS_RISING := a_KINDS_RISING,
      a_KINDS_OF_WAYS := a_KINDS_OF_WAYS,
      a_KINDS_OF_ALL := a_KINDS_OF_ALL,
      a_KINDS_OF_MOST := a_KINDS_OF_MOST,
      a_KINDS_KEPT_BY_ANY := a_KINDS_KEPT_BY_ANY,
      a_BY_KIND := a_BY_KIND,
      a_PLAIN_NUMBERS := a_PLAIN_NUMBERS,
      a_CALLS_WITH_ROW := a_CALLS_WITH_ROW,
      f_nine_of_slant := f_nine_of_slant,
      d_nine_of_slant := PySem.W.fnOf "nine_of_slant" "nine_of_slant" (defArgs s_nine_of_slant) (defBody s_nine_of_slant) (defScope s_nine_of_slant) .none kV_nine_of_slant dc_nine_of_slant pm_nine_of_slant an_nine_of_slant cd_nine_of_slant ct_nine_of_slant,
      f_measure := f_measure,
      d_measure := PySem.W.fnOf "measure" "measure" (defArgs s_measure) (defBody s_measure) (defScope s_measure) .none kV_measure dc_measure pm_measure an_measure cd_measure ct_measure,
      f_may_bend := f_may_bend,
      d_may_bend := PySem.W.fnOf "may_bend" "may_bend" (defArgs s_may_bend) (defBody s_may_bend) (defScope s_may_bend) .none kV_may_bend dc_may_bend pm_may_bend an_may_bend cd_may_bend ct_may_bend,
      f_bent := f_bent,
      d_bent := PySem.W.fnOf "bent" "bent" (defArgs s_bent) (defBody s_bent) (defScope s_bent) .none kV_bent dc_bent pm_bent an_bent cd_bent ct_bent,
      f_is_kind := f_is_kind,
      d_is_kind := PySem.W.fnOf "is_kind" "is_kind" (defArgs s_is_kind) (defBody s_is_kind) (defScope s_is_kind) .none kV_is_kind dc_is_kind pm_is_kind an_is_kind cd_is_kind ct_is_kind,
      f_may_be_said := f_may_be_said,
      d_may_be_said := PySem.W.fnOf "may_be_said" "may_be_said" (defArgs s_may_be_said) (defBody s_may_be_said) (defScope s_may_be_said) .none kV_may_be_said dc_may_be_said pm_may_be_said an_may_be_said cd_may_be_said ct_may_be_said,
      f_way := f_way,
      d_way := PySem.W.fnOf "way" "way" (defArgs s_way) (defBody s_way) (defScope s_way) .none kV_way dc_way pm_way an_way cd_way ct_way,
      f_turn := f_turn,
      d_turn := PySem.W.fnOf "turn" "turn" (defArgs s_turn) (defBody s_turn) (defScope s_turn) .none kV_turn dc_turn pm_turn an_turn cd_turn ct_turn,
      f_lean := f_lean,
      d_lean := PySem.W.fnOf "lean" "lean" (defArgs s_lean) (defBody s_lean) (defScope s_lean) .none kV_lean dc_lean pm_lean an_lean cd_lean ct_lean,
      f_multiplied := f_multiplied,
      d_multiplied := PySem.W.fnOf "multiplied" "multiplied" (defArgs s_multiplied) (defBody s_multiplied) (defScope s_multiplied) .none kV_multiplied dc_multiplied pm_multiplied an_multiplied cd_multiplied ct_multiplied,
      f_square := f_square,
      d_square := PySem.W.fnOf "square" "square" (defArgs s_square) (defBody s_square) (defScope s_square) .none kV_square dc_square pm_square an_square cd_square ct_square,
      f_is_same := f_is_same,
      d_is_same := PySem.W.fnOf "is_same" "is_same" (defArgs s_is_same) (defBody s_is_same) (defScope s_is_same) .none kV_is_same dc_is_same pm_is_same an_is_same cd_is_same ct_is_same,
      f_is_line := f_is_line,
      d_is_line := PySem.W.fnOf "is_line" "is_line" (defArgs s_is_line) (defBody s_is_line) (defScope s_is_line) .none kV_is_line dc_is_line pm_is_line an_is_line cd_is_line ct_is_line,
      f_is_parallel := f_is_parallel,
      d_is_parallel := PySem.W.fnOf "is_parallel" "is_parallel" (defArgs s_is_parallel) (defBody s_is_parallel) (defScope s_is_parallel) .none kV_is_parallel dc_is_parallel pm_is_parallel an_is_parallel cd_is_parallel ct_is_parallel,
      f_is_right := f_is_right,
      d_is_right := PySem.W.fnOf "is_right" "is_right" (defArgs s_is_right) (defBody s_is_right) (defScope s_is_right) .none kV_is_right dc_is_right pm_is_right an_is_right cd_is_right ct_is_right,
      f_is_times := f_is_times,
      d_is_times := PySem.W.fnOf "is_times" "is_times" (defArgs s_is_times) (defBody s_is_times) (defScope s_is_times) .none kV_is_times dc_is_times pm_is_times an_is_times cd_is_times ct_is_times,
      f_is_equal := f_is_equal,
      d_is_equal := PySem.W.fnOf "is_equal" "is_equal" (defArgs s_is_equal) (defBody s_is_equal) (defScope s_is_equal) .none kV_is_equal dc_is_equal pm_is_equal an_is_equal cd_is_equal ct_is_equal,
      f_is_circle := f_is_circle,
      d_is_circle := PySem.W.fnOf "is_circle" "is_circle" (defArgs s_is_circle) (defBody s_is_circle) (defScope s_is_circle) .none kV_is_circle dc_is_circle pm_is_circle an_is_circle cd_is_circle ct_is_circle,
      f_is_angles := f_is_angles,
      d_is_angles := PySem.W.fnOf "is_angles" "is_angles" (defArgs s_is_angles) (defBody s_is_angles) (defScope s_is_angles) .none kV_is_angles dc_is_angles pm_is_angles an_is_angles cd_is_angles ct_is_angles,
      f_is_areas := f_is_areas,
      d_is_areas := PySem.W.fnOf "is_areas" "is_areas" (defArgs s_is_areas) (defBody s_is_areas) (defScope s_is_areas) .none kV_is_areas dc_is_areas pm_is_areas an_is_areas cd_is_areas ct_is_areas,
      f_line_numbers := f_line_numbers,
      d_line_numbers := PySem.W.fnOf "line_numbers" "line_numbers" (defArgs s_line_numbers) (defBody s_line_numbers) (defScope s_line_numbers) .none kV_line_numbers dc_line_numbers pm_line_numbers an_line_numbers cd_line_numbers ct_line_numbers,
      f_is_through := f_is_through,
      d_is_through := PySem.W.fnOf "is_through" "is_through" (defArgs s_is_through) (defBody s_is_through) (defScope s_is_through) .none kV_is_through dc_is_through pm_is_through an_is_through cd_is_through ct_is_through,
      f_is_middle := f_is_middle,
      d_is_middle := PySem.W.fnOf "is_middle" "is_middle" (defArgs s_is_middle) (defBody s_is_middle) (defScope s_is_middle) .none kV_is_middle dc_is_middle pm_is_middle an_is_middle cd_is_middle ct_is_middle,
      f_is_touches := f_is_touches,
      d_is_touches := PySem.W.fnOf "is_touches" "is_touches" (defArgs s_is_touches) (defBody s_is_touches) (defScope s_is_touches) .none kV_is_touches dc_is_touches pm_is_touches an_is_touches cd_is_touches ct_is_touches,
      f_is_alike := f_is_alike,
      d_is_alike := PySem.W.fnOf "is_alike" "is_alike" (defArgs s_is_alike) (defBody s_is_alike) (defScope s_is_alike) .none kV_is_alike dc_is_alike pm_is_alike an_is_alike cd_is_alike ct_is_alike,
      f_is_so := f_is_so,
      d_is_so := PySem.W.fnOf "is_so" "is_so" (defArgs s_is_so) (defBody s_is_so) (defScope s_is_so) .none kV_is_so dc_is_so pm_is_so an_is_so cd_is_so ct_is_so,
      f_rising := f_rising,
      d_rising := PySem.W.fnOf "rising" "rising" (defArgs s_rising) (defBody s_rising) (defScope s_rising) .none kV_rising dc_rising pm_rising an_rising cd_rising ct_rising,
      f_pairs_of_ways := f_pairs_of_ways,
      d_pairs_of_ways := PySem.W.fnOf "pairs_of_ways" "pairs_of_ways" (defArgs s_pairs_of_ways) (defBody s_pairs_of_ways) (defScope s_pairs_of_ways) .none kV_pairs_of_ways dc_pairs_of_ways pm_pairs_of_ways an_pairs_of_ways cd_pairs_of_ways ct_pairs_of_ways,
      f_middles := f_middles,
      d_middles := PySem.W.fnOf "middles" "middles" (defArgs s_middles) (defBody s_middles) (defScope s_middles) .none kV_middles dc_middles pm_middles an_middles cd_middles ct_middles,
      f_rows_to_ask := f_rows_to_ask,
      d_rows_to_ask := PySem.W.fnOf "rows_to_ask" "rows_to_ask" (defArgs s_rows_to_ask) (defBody s_rows_to_ask) (defScope s_rows_to_ask) .none kV_rows_to_ask dc_rows_to_ask pm_rows_to_ask an_rows_to_ask cd_rows_to_ask ct_rows_to_ask,
      f_rows_so := f_rows_so,
      d_rows_so := PySem.W.fnOf "rows_so" "rows_so" (defArgs s_rows_so) (defBody s_rows_so) (defScope s_rows_so) .none kV_rows_so dc_rows_so pm_rows_so an_rows_so cd_rows_so ct_rows_so,
      f_is_so_throughout := f_is_so_throughout,
      d_is_so_throughout := PySem.W.fnOf "is_so_throughout" "is_so_throughout" (defArgs s_is_so_throughout) (defBody s_is_so_throughout) (defScope s_is_so_throughout) .none kV_is_so_throughout dc_is_so_throughout pm_is_so_throughout an_is_so_throughout cd_is_so_throughout ct_is_so_throughout,
      f_sets_throughout := f_sets_throughout,
      d_sets_throughout := PySem.W.fnOf "sets_throughout" "sets_throughout" (defArgs s_sets_throughout) (defBody s_sets_throughout) (defScope s_sets_throughout) .none kV_sets_throughout dc_sets_throughout pm_sets_throughout an_sets_throughout cd_sets_throughout ct_sets_throughout,
      f_largest_set := f_largest_set,
      d_largest_set := PySem.W.fnOf "largest_set" "largest_set" (defArgs s_largest_set) (defBody s_largest_set) (defScope s_largest_set) .none kV_largest_set dc_largest_set pm_largest_set an_largest_set cd_largest_set ct_largest_set,
      f_greatest_common := f_greatest_common,
      d_greatest_common := PySem.W.fnOf "greatest_common" "greatest_common" (defArgs s_greatest_common) (defBody s_greatest_common) (defScope s_greatest_common) .none kV_greatest_common dc_greatest_common pm_greatest_common an_greatest_common cd_greatest_common ct_greatest_common,
      f_fraction := f_fraction,
      d_fraction := PySem.W.fnOf "fraction" "fraction" (defArgs s_fraction) (defBody s_fraction) (defScope s_fraction) .none kV_fraction dc_fraction pm_fraction an_fraction cd_fraction ct_fraction,
      f_three_numbers := f_three_numbers,
      d_three_numbers := PySem.W.fnOf "three_numbers" "three_numbers" (defArgs s_three_numbers) (defBody s_three_numbers) (defScope s_three_numbers) .none kV_three_numbers dc_three_numbers pm_three_numbers an_three_numbers cd_three_numbers ct_three_numbers,
      f_may_be_told := f_may_be_told,
      d_may_be_told := PySem.W.fnOf "may_be_told" "may_be_told" (defArgs s_may_be_told) (defBody s_may_be_told) (defScope s_may_be_told) .none kV_may_be_told dc_may_be_told pm_may_be_told an_may_be_told cd_may_be_told ct_may_be_told,
      f_is_too_large := f_is_too_large,
      d_is_too_large := PySem.W.fnOf "is_too_large" "is_too_large" (defArgs s_is_too_large) (defBody s_is_too_large) (defScope s_is_too_large) .none kV_is_too_large dc_is_too_large pm_is_too_large an_is_too_large cd_is_too_large ct_is_too_large,
      f_common_below := f_common_below,
      d_common_below := PySem.W.fnOf "common_below" "common_below" (defArgs s_common_below) (defBody s_common_below) (defScope s_common_below) .none kV_common_below dc_common_below pm_common_below an_common_below cd_common_below ct_common_below,
      f_whole_places := f_whole_places,
      d_whole_places := PySem.W.fnOf "whole_places" "whole_places" (defArgs s_whole_places) (defBody s_whole_places) (defScope s_whole_places) .none kV_whole_places dc_whole_places pm_whole_places an_whole_places cd_whole_places ct_whole_places,
      f_may_be_asked := f_may_be_asked,
      d_may_be_asked := PySem.W.fnOf "may_be_asked" "may_be_asked" (defArgs s_may_be_asked) (defBody s_may_be_asked) (defScope s_may_be_asked) .none kV_may_be_asked dc_may_be_asked pm_may_be_asked an_may_be_asked cd_may_be_asked ct_may_be_asked,
      f_keeps_shapes := f_keeps_shapes,
      d_keeps_shapes := PySem.W.fnOf "keeps_shapes" "keeps_shapes" (defArgs s_keeps_shapes) (defBody s_keeps_shapes) (defScope s_keeps_shapes) .none kV_keeps_shapes dc_keeps_shapes pm_keeps_shapes an_keeps_shapes cd_keeps_shapes ct_keeps_shapes,
      f_is_kept := f_is_kept,
      d_is_kept := PySem.W.fnOf "is_kept" "is_kept" (defArgs s_is_kept) (defBody s_is_kept) (defScope s_is_kept) .none kV_is_kept dc_is_kept pm_is_kept an_is_kept cd_is_kept ct_is_kept,
      f_is_too_large_to_tell := f_is_too_large_to_tell,
      d_is_too_large_to_tell := PySem.W.fnOf "is_too_large_to_tell" "is_too_large_to_tell" (defArgs s_is_too_large_to_tell) (defBody s_is_too_large_to_tell) (defScope s_is_too_large_to_tell) .none kV_is_too_large_to_tell dc_is_too_large_to_tell pm_is_too_large_to_tell an_is_too_large_to_tell cd_is_too_large_to_tell ct_is_too_large_to_tell,
      f_may_be_crossed := f_may_be_crossed,
      d_may_be_crossed := PySem.W.fnOf "may_be_crossed" "may_be_crossed" (defArgs s_may_be_crossed) (defBody s_may_be_crossed) (defScope s_may_be_crossed) .none kV_may_be_crossed dc_may_be_crossed pm_may_be_crossed an_may_be_crossed cd_may_be_crossed ct_may_be_crossed,
      f_cross_fraction := f_cross_fraction,
      d_cross_fraction := PySem.W.fnOf "cross_fraction" "cross_fraction" (defArgs s_cross_fraction) (defBody s_cross_fraction) (defScope s_cross_fraction) .none kV_cross_fraction dc_cross_fraction pm_cross_fraction an_cross_fraction cd_cross_fraction ct_cross_fraction,
      f_centre_fractions := f_centre_fractions,
      d_centre_fractions := PySem.W.fnOf "centre_fractions" "centre_fractions" (defArgs s_centre_fractions) (defBody s_centre_fractions) (defScope s_centre_fractions) .none kV_centre_fractions dc_centre_fractions pm_centre_fractions an_centre_fractions cd_centre_fractions ct_centre_fractions,
      f_split_calls := f_split_calls,
      d_split_calls := PySem.W.fnOf "split_calls" "split_calls" (defArgs s_split_calls) (defBody s_split_calls) (defScope s_split_calls) .none kV_split_calls dc_split_calls pm_split_calls an_split_calls cd_split_calls ct_split_calls,
      f_answer_with := f_answer_with,
      d_answer_with := PySem.W.fnOf "answer_with" "answer_with" (defArgs s_answer_with) (defBody s_answer_with) (defScope s_answer_with) .none kV_answer_with dc_answer_with pm_answer_with an_answer_with cd_answer_with ct_answer_with,
      f_Plane___init__ := f_Plane___init__,
      d_Plane___init__ := PySem.W.fnOf "__init__" "Plane.__init__" (defArgs s_Plane___init__) (defBody s_Plane___init__) (defScope s_Plane___init__) .none kV_Plane___init__ dc_Plane___init__ pm_Plane___init__ an_Plane___init__ cd_Plane___init__ ct_Plane___init__,
      f_Plane_begin := f_Plane_begin,
      d_Plane_begin := PySem.W.fnOf "begin" "Plane.begin" (defArgs s_Plane_begin) (defBody s_Plane_begin) (defScope s_Plane_begin) .none kV_Plane_begin dc_Plane_begin pm_Plane_begin an_Plane_begin cd_Plane_begin ct_Plane_begin,
      f_Plane_point := f_Plane_point,
      d_Plane_point := PySem.W.fnOf "point" "Plane.point" (defArgs s_Plane_point) (defBody s_Plane_point) (defScope s_Plane_point) .none kV_Plane_point dc_Plane_point pm_Plane_point an_Plane_point cd_Plane_point ct_Plane_point,
      f_Plane_put := f_Plane_put,
      d_Plane_put := PySem.W.fnOf "put" "Plane.put" (defArgs s_Plane_put) (defBody s_Plane_put) (defScope s_Plane_put) .none kV_Plane_put dc_Plane_put pm_Plane_put an_Plane_put cd_Plane_put ct_Plane_put,
      f_Plane_out := f_Plane_out,
      d_Plane_out := PySem.W.fnOf "out" "Plane.out" (defArgs s_Plane_out) (defBody s_Plane_out) (defScope s_Plane_out) .none kV_Plane_out dc_Plane_out pm_Plane_out an_Plane_out cd_Plane_out ct_Plane_out,
      f_Plane_slant := f_Plane_slant,
      d_Plane_slant := PySem.W.fnOf "slant" "Plane.slant" (defArgs s_Plane_slant) (defBody s_Plane_slant) (defScope s_Plane_slant) .none kV_Plane_slant dc_Plane_slant pm_Plane_slant an_Plane_slant cd_Plane_slant ct_Plane_slant,
      f_Plane_bend := f_Plane_bend,
      d_Plane_bend := PySem.W.fnOf "bend" "Plane.bend" (defArgs s_Plane_bend) (defBody s_Plane_bend) (defScope s_Plane_bend) .none kV_Plane_bend dc_Plane_bend pm_Plane_bend an_Plane_bend cd_Plane_bend ct_Plane_bend,
      f_Plane_points := f_Plane_points,
      d_Plane_points := PySem.W.fnOf "points" "Plane.points" (defArgs s_Plane_points) (defBody s_Plane_points) (defScope s_Plane_points) .none kV_Plane_points dc_Plane_points pm_Plane_points an_Plane_points cd_Plane_points ct_Plane_points,
      f_Plane_has_each := f_Plane_has_each,
      d_Plane_has_each := PySem.W.fnOf "has_each" "Plane.has_each" (defArgs s_Plane_has_each) (defBody s_Plane_has_each) (defScope s_Plane_has_each) .none kV_Plane_has_each dc_Plane_has_each pm_Plane_has_each an_Plane_has_each cd_Plane_has_each ct_Plane_has_each,
      f_Plane_places_of := f_Plane_places_of,
      d_Plane_places_of := PySem.W.fnOf "places_of" "Plane.places_of" (defArgs s_Plane_places_of) (defBody s_Plane_places_of) (defScope s_Plane_places_of) .none kV_Plane_places_of dc_Plane_places_of pm_Plane_places_of an_Plane_places_of cd_Plane_places_of ct_Plane_places_of,
      f_Plane_where := f_Plane_where,
      d_Plane_where := PySem.W.fnOf "where" "Plane.where" (defArgs s_Plane_where) (defBody s_Plane_where) (defScope s_Plane_where) .none kV_Plane_where dc_Plane_where pm_Plane_where an_Plane_where cd_Plane_where ct_Plane_where,
      f_Plane_says := f_Plane_says,
      d_Plane_says := PySem.W.fnOf "says" "Plane.says" (defArgs s_Plane_says) (defBody s_Plane_says) (defScope s_Plane_says) .none kV_Plane_says dc_Plane_says pm_Plane_says an_Plane_says cd_Plane_says ct_Plane_says,
      f_Plane_every := f_Plane_every,
      d_Plane_every := PySem.W.fnOf "every" "Plane.every" (defArgs s_Plane_every) (defBody s_Plane_every) (defScope s_Plane_every) .none kV_Plane_every dc_Plane_every pm_Plane_every an_Plane_every cd_Plane_every ct_Plane_every,
      f_Plane_most := f_Plane_most,
      d_Plane_most := PySem.W.fnOf "most" "Plane.most" (defArgs s_Plane_most) (defBody s_Plane_most) (defScope s_Plane_most) .none kV_Plane_most dc_Plane_most pm_Plane_most an_Plane_most cd_Plane_most ct_Plane_most,
      f_Plane_keeps := f_Plane_keeps,
      d_Plane_keeps := PySem.W.fnOf "keeps" "Plane.keeps" (defArgs s_Plane_keeps) (defBody s_Plane_keeps) (defScope s_Plane_keeps) .none kV_Plane_keeps dc_Plane_keeps pm_Plane_keeps an_Plane_keeps cd_Plane_keeps ct_Plane_keeps,
      f_Plane_cross := f_Plane_cross,
      d_Plane_cross := PySem.W.fnOf "cross" "Plane.cross" (defArgs s_Plane_cross) (defBody s_Plane_cross) (defScope s_Plane_cross) .none kV_Plane_cross dc_Plane_cross pm_Plane_cross an_Plane_cross cd_Plane_cross ct_Plane_cross,
      f_Plane_centre := f_Plane_centre,
      d_Plane_centre := PySem.W.fnOf "centre" "Plane.centre" (defArgs s_Plane_centre) (defBody s_Plane_centre) (defScope s_Plane_centre) .none kV_Plane_centre dc_Plane_centre pm_Plane_centre an_Plane_centre cd_Plane_centre ct_Plane_centre,
      f_answer_of := f_answer_of,
      d_answer_of := PySem.W.fnOf "answer_of" "answer_of" (defArgs s_answer_of) (defBody s_answer_of) (defScope s_answer_of) .none kV_answer_of dc_answer_of pm_answer_of an_answer_of cd_answer_of ct_answer_of,
      f_answers := fa,
      d_answers := PySem.W.fnOf "answers" "answers" (defArgs s_answers) (defBody s_answers) (defScope s_answers) .none kV_answers dc_answers pm_answers an_answers cd_answers ct_answers } {
      n_any := PySem.W.mg_none_of X G n_any,
      n_len := PySem.W.mg_none_of X G n_len,
      n_abs := PySem.W.mg_none_of X G n_abs,
      n_range := PySem.W.mg_none_of X G n_range,
      n_enumerate := PySem.W.mg_none_of X G n_enumerate,
      n_tuple := PySem.W.mg_none_of X G n_tuple,
      n_set := PySem.W.mg_none_of X G n_set,
      n_all := PySem.W.mg_none_of X G n_all,
      g_LARGEST_OF_NINE := PySem.W.mg_of X G g_LARGEST_OF_NINE,
      g_SAME := PySem.W.mg_of X G g_SAME,
      g_LINE := PySem.W.mg_of X G g_LINE,
      g_PARALLEL := PySem.W.mg_of X G g_PARALLEL,
      g_RIGHT := PySem.W.mg_of X G g_RIGHT,
      g_EQUAL := PySem.W.mg_of X G g_EQUAL,
      g_TIMES := PySem.W.mg_of X G g_TIMES,
      g_CIRCLE := PySem.W.mg_of X G g_CIRCLE,
      g_AREAS := PySem.W.mg_of X G g_AREAS,
      g_THROUGH := PySem.W.mg_of X G g_THROUGH,
      g_MIDDLE := PySem.W.mg_of X G g_MIDDLE,
      g_LARGEST_OF_TIMES := PySem.W.mg_of X G g_LARGEST_OF_TIMES,
      g_LARGEST_TOLD := PySem.W.mg_of X G g_LARGEST_TOLD,
      g_LARGEST_KEPT := PySem.W.mg_of X G g_LARGEST_KEPT,
      g_LARGEST_ANSWERED := PySem.W.mg_of X G g_LARGEST_ANSWERED,
      g_BEGIN := PySem.W.mg_of X G g_BEGIN,
      g_POINT := PySem.W.mg_of X G g_POINT,
      g_PUT := PySem.W.mg_of X G g_PUT,
      g_OUT := PySem.W.mg_of X G g_OUT,
      g_SLANT := PySem.W.mg_of X G g_SLANT,
      g_BEND := PySem.W.mg_of X G g_BEND,
      g_POINTS := PySem.W.mg_of X G g_POINTS,
      g_WHERE := PySem.W.mg_of X G g_WHERE,
      g_SAYS := PySem.W.mg_of X G g_SAYS,
      g_ALL := PySem.W.mg_of X G g_ALL,
      g_MOST := PySem.W.mg_of X G g_MOST,
      g_KEEPS := PySem.W.mg_of X G g_KEEPS,
      g_CROSS := PySem.W.mg_of X G g_CROSS,
      g_NO_POINT := PySem.W.mg_of X G g_NO_POINT,
      g_WRONG_NUMBERS := PySem.W.mg_of X G g_WRONG_NUMBERS,
      g_NO_ROOM := PySem.W.mg_of X G g_NO_ROOM,
      g_GOES_AWAY := PySem.W.mg_of X G g_GOES_AWAY,
      g_NOT_SO_PLACED := PySem.W.mg_of X G g_NOT_SO_PLACED,
      g_NOT_BEGUN := PySem.W.mg_of X G g_NOT_BEGUN,
      g_TOO_LARGE := PySem.W.mg_of X G g_TOO_LARGE,
      g_MOST_POINTS := PySem.W.mg_of X G g_MOST_POINTS,
      g_POINTS_OF_KIND := PySem.W.mg_of X G g_POINTS_OF_KIND,
      q_POINTS_OF_KIND := fun _ => .inr ⟨_, _, _, q_POINTS_OF_KIND, rfl, rfl, by show 13 ≤ sizeLine; decide, (.cons ⟨_, rfl⟩ (.cons ⟨_, rfl⟩ (.cons ⟨_, rfl⟩ (.cons ⟨_, rfl⟩ (.cons ⟨_, rfl⟩ (.cons ⟨_, rfl⟩ (.cons ⟨_, rfl⟩ (.cons ⟨_, rfl⟩ (.cons ⟨_, rfl⟩ (.cons ⟨_, rfl⟩ (.cons ⟨_, rfl⟩ (.cons ⟨_, rfl⟩ (.cons ⟨_, rfl⟩ .nil)))))))))))))⟩,
      g_KINDS_RISING := PySem.W.mg_of X G g_KINDS_RISING,
      q_KINDS_RISING := fun _ => .inr ⟨_, _, _, q_KINDS_RISING, rfl, rfl, by show 3 ≤ sizeLine; decide, (.cons ⟨_, rfl⟩ (.cons ⟨_, rfl⟩ (.cons ⟨_, rfl⟩ .nil)))⟩,
      g_KINDS_OF_WAYS := PySem.W.mg_of X G g_KINDS_OF_WAYS,
      q_KINDS_OF_WAYS := fun _ => .inr ⟨_, _, _, q_KINDS_OF_WAYS, rfl, rfl, by show 3 ≤ sizeLine; decide, (.cons ⟨_, rfl⟩ (.cons ⟨_, rfl⟩ (.cons ⟨_, rfl⟩ .nil)))⟩,
      g_KINDS_OF_ALL := PySem.W.mg_of X G g_KINDS_OF_ALL,
      q_KINDS_OF_ALL := fun _ => .inr ⟨_, _, _, q_KINDS_OF_ALL, rfl, rfl, by show 7 ≤ sizeLine; decide, (.cons ⟨_, rfl⟩ (.cons ⟨_, rfl⟩ (.cons ⟨_, rfl⟩ (.cons ⟨_, rfl⟩ (.cons ⟨_, rfl⟩ (.cons ⟨_, rfl⟩ (.cons ⟨_, rfl⟩ .nil)))))))⟩,
      g_KINDS_OF_MOST := PySem.W.mg_of X G g_KINDS_OF_MOST,
      q_KINDS_OF_MOST := fun _ => .inr ⟨_, _, _, q_KINDS_OF_MOST, rfl, rfl, by show 2 ≤ sizeLine; decide, (.cons ⟨_, rfl⟩ (.cons ⟨_, rfl⟩ .nil))⟩,
      g_KINDS_KEPT_BY_ANY := PySem.W.mg_of X G g_KINDS_KEPT_BY_ANY,
      q_KINDS_KEPT_BY_ANY := fun _ => .inr ⟨_, _, _, q_KINDS_KEPT_BY_ANY, rfl, rfl, by show 6 ≤ sizeLine; decide, (.cons ⟨_, rfl⟩ (.cons ⟨_, rfl⟩ (.cons ⟨_, rfl⟩ (.cons ⟨_, rfl⟩ (.cons ⟨_, rfl⟩ (.cons ⟨_, rfl⟩ .nil))))))⟩,
      g_BY_KIND := PySem.W.mg_of X G g_BY_KIND,
      q_BY_KIND := fun _ => .inr ⟨_, _, _, q_BY_KIND, rfl, rfl, by show 13 ≤ sizeLine; decide, (.cons rfl (.cons rfl (.cons rfl (.cons rfl (.cons rfl (.cons rfl (.cons rfl (.cons rfl (.cons rfl (.cons rfl (.cons rfl (.cons rfl (.cons rfl .nil)))))))))))))⟩,
      g_PLAIN_NUMBERS := PySem.W.mg_of X G g_PLAIN_NUMBERS,
      q_PLAIN_NUMBERS := fun _ => .inr ⟨_, _, _, q_PLAIN_NUMBERS, rfl, rfl, by show 14 ≤ sizeLine; decide, (.cons ⟨_, rfl⟩ (.cons ⟨_, rfl⟩ (.cons ⟨_, rfl⟩ (.cons ⟨_, rfl⟩ (.cons ⟨_, rfl⟩ (.cons ⟨_, rfl⟩ (.cons ⟨_, rfl⟩ (.cons ⟨_, rfl⟩ (.cons ⟨_, rfl⟩ (.cons ⟨_, rfl⟩ (.cons ⟨_, rfl⟩ (.cons ⟨_, rfl⟩ (.cons ⟨_, rfl⟩ (.cons ⟨_, rfl⟩ .nil))))))))))))))⟩,
      g_CALLS_WITH_ROW := PySem.W.mg_of X G g_CALLS_WITH_ROW,
      q_CALLS_WITH_ROW := fun _ => .inr ⟨_, _, _, q_CALLS_WITH_ROW, rfl, rfl, by show 2 ≤ sizeLine; decide, (.cons ⟨_, rfl⟩ (.cons ⟨_, rfl⟩ .nil))⟩,
      cl_Plane := ⟨pg_Plane, hd_Plane, po_Plane, sa_Plane⟩,
      g_Plane := PySem.W.mg_of X G aC_Plane,
      mk_Plane := ⟨mk_Plane, a_Plane___init__, i_Plane___init__, kc_Plane⟩,
      na_Plane_begun := na_Plane_begun,
      na_Plane_places := na_Plane_places,
      m_nine_of_slant := PySem.W.mg_of X G a_nine_of_slant,
      F_nine_of_slant := fun_mk (st := s_nine_of_slant) l_nine_of_slant c_nine_of_slant k_nine_of_slant,
      b_nine_of_slant := (fun_mk (st := s_nine_of_slant) l_nine_of_slant c_nine_of_slant k_nine_of_slant).binds (ps := ["a", "b", "c", "d", "e", "f"]) fun _ _ _ _ _ _ us hl => match us, hl with | [_, _, _, _, _, _], _ => rfl,
      m_measure := PySem.W.mg_of X G a_measure,
      F_measure := fun_mk (st := s_measure) l_measure c_measure k_measure,
      b_measure := (fun_mk (st := s_measure) l_measure c_measure k_measure).binds (ps := ["m"]) fun _ _ _ _ _ _ us hl => match us, hl with | [_], _ => rfl,
      m_may_bend := PySem.W.mg_of X G a_may_bend,
      F_may_bend := fun_mk (st := s_may_bend) l_may_bend c_may_bend k_may_bend,
      b_may_bend := (fun_mk (st := s_may_bend) l_may_bend c_may_bend k_may_bend).binds (ps := ["row"]) fun _ _ _ _ _ _ us hl => match us, hl with | [_], _ => rfl,
      m_bent := PySem.W.mg_of X G a_bent,
      F_bent := fun_mk (st := s_bent) l_bent c_bent k_bent,
      b_bent := (fun_mk (st := s_bent) l_bent c_bent k_bent).binds (ps := ["place", "m"]) fun _ _ _ _ _ _ us hl => match us, hl with | [_, _], _ => rfl,
      m_is_kind := PySem.W.mg_of X G a_is_kind,
      F_is_kind := fun_mk (st := s_is_kind) l_is_kind c_is_kind k_is_kind,
      b_is_kind := (fun_mk (st := s_is_kind) l_is_kind c_is_kind k_is_kind).binds (ps := ["kind"]) fun _ _ _ _ _ _ us hl => match us, hl with | [_], _ => rfl,
      m_may_be_said := PySem.W.mg_of X G a_may_be_said,
      F_may_be_said := fun_mk (st := s_may_be_said) l_may_be_said c_may_be_said k_may_be_said,
      b_may_be_said := (fun_mk (st := s_may_be_said) l_may_be_said c_may_be_said k_may_be_said).binds (ps := ["kind", "row"]) fun _ _ _ _ _ _ us hl => match us, hl with | [_, _], _ => rfl,
      m_way := PySem.W.mg_of X G a_way,
      F_way := fun_mk (st := s_way) l_way c_way k_way,
      b_way := (fun_mk (st := s_way) l_way c_way k_way).binds (ps := ["a", "b"]) fun _ _ _ _ _ _ us hl => match us, hl with | [_, _], _ => rfl,
      m_turn := PySem.W.mg_of X G a_turn,
      F_turn := fun_mk (st := s_turn) l_turn c_turn k_turn,
      b_turn := (fun_mk (st := s_turn) l_turn c_turn k_turn).binds (ps := ["first", "second"]) fun _ _ _ _ _ _ us hl => match us, hl with | [_, _], _ => rfl,
      m_lean := PySem.W.mg_of X G a_lean,
      F_lean := fun_mk (st := s_lean) l_lean c_lean k_lean,
      b_lean := (fun_mk (st := s_lean) l_lean c_lean k_lean).binds (ps := ["first", "second"]) fun _ _ _ _ _ _ us hl => match us, hl with | [_, _], _ => rfl,
      m_multiplied := PySem.W.mg_of X G a_multiplied,
      F_multiplied := fun_mk (st := s_multiplied) l_multiplied c_multiplied k_multiplied,
      b_multiplied := (fun_mk (st := s_multiplied) l_multiplied c_multiplied k_multiplied).binds (ps := ["first", "second"]) fun _ _ _ _ _ _ us hl => match us, hl with | [_, _], _ => rfl,
      m_square := PySem.W.mg_of X G a_square,
      F_square := fun_mk (st := s_square) l_square c_square k_square,
      b_square := (fun_mk (st := s_square) l_square c_square k_square).binds (ps := ["one"]) fun _ _ _ _ _ _ us hl => match us, hl with | [_], _ => rfl,
      m_is_same := PySem.W.mg_of X G a_is_same,
      F_is_same := fun_mk (st := s_is_same) l_is_same c_is_same k_is_same,
      b_is_same := (fun_mk (st := s_is_same) l_is_same c_is_same k_is_same).binds (ps := ["p"]) fun _ _ _ _ _ _ us hl => match us, hl with | [_], _ => rfl,
      m_is_line := PySem.W.mg_of X G a_is_line,
      F_is_line := fun_mk (st := s_is_line) l_is_line c_is_line k_is_line,
      b_is_line := (fun_mk (st := s_is_line) l_is_line c_is_line k_is_line).binds (ps := ["p"]) fun _ _ _ _ _ _ us hl => match us, hl with | [_], _ => rfl,
      m_is_parallel := PySem.W.mg_of X G a_is_parallel,
      F_is_parallel := fun_mk (st := s_is_parallel) l_is_parallel c_is_parallel k_is_parallel,
      b_is_parallel := (fun_mk (st := s_is_parallel) l_is_parallel c_is_parallel k_is_parallel).binds (ps := ["p"]) fun _ _ _ _ _ _ us hl => match us, hl with | [_], _ => rfl,
      m_is_right := PySem.W.mg_of X G a_is_right,
      F_is_right := fun_mk (st := s_is_right) l_is_right c_is_right k_is_right,
      b_is_right := (fun_mk (st := s_is_right) l_is_right c_is_right k_is_right).binds (ps := ["p"]) fun _ _ _ _ _ _ us hl => match us, hl with | [_], _ => rfl,
      m_is_times := PySem.W.mg_of X G a_is_times,
      F_is_times := fun_mk (st := s_is_times) l_is_times c_is_times k_is_times,
      b_is_times := (fun_mk (st := s_is_times) l_is_times c_is_times k_is_times).binds (ps := ["p", "m", "n"]) fun _ _ _ _ _ _ us hl => match us, hl with | [_, _, _], _ => rfl,
      m_is_equal := PySem.W.mg_of X G a_is_equal,
      F_is_equal := fun_mk (st := s_is_equal) l_is_equal c_is_equal k_is_equal,
      b_is_equal := (fun_mk (st := s_is_equal) l_is_equal c_is_equal k_is_equal).binds (ps := ["p"]) fun _ _ _ _ _ _ us hl => match us, hl with | [_], _ => rfl,
      m_is_circle := PySem.W.mg_of X G a_is_circle,
      F_is_circle := fun_mk (st := s_is_circle) l_is_circle c_is_circle k_is_circle,
      b_is_circle := (fun_mk (st := s_is_circle) l_is_circle c_is_circle k_is_circle).binds (ps := ["p"]) fun _ _ _ _ _ _ us hl => match us, hl with | [_], _ => rfl,
      m_is_angles := PySem.W.mg_of X G a_is_angles,
      F_is_angles := fun_mk (st := s_is_angles) l_is_angles c_is_angles k_is_angles,
      b_is_angles := (fun_mk (st := s_is_angles) l_is_angles c_is_angles k_is_angles).binds (ps := ["p"]) fun _ _ _ _ _ _ us hl => match us, hl with | [_], _ => rfl,
      m_is_areas := PySem.W.mg_of X G a_is_areas,
      F_is_areas := fun_mk (st := s_is_areas) l_is_areas c_is_areas k_is_areas,
      b_is_areas := (fun_mk (st := s_is_areas) l_is_areas c_is_areas k_is_areas).binds (ps := ["p"]) fun _ _ _ _ _ _ us hl => match us, hl with | [_], _ => rfl,
      m_line_numbers := PySem.W.mg_of X G a_line_numbers,
      F_line_numbers := fun_mk (st := s_line_numbers) l_line_numbers c_line_numbers k_line_numbers,
      b_line_numbers := (fun_mk (st := s_line_numbers) l_line_numbers c_line_numbers k_line_numbers).binds (ps := ["a", "b"]) fun _ _ _ _ _ _ us hl => match us, hl with | [_, _], _ => rfl,
      m_is_through := PySem.W.mg_of X G a_is_through,
      F_is_through := fun_mk (st := s_is_through) l_is_through c_is_through k_is_through,
      b_is_through := (fun_mk (st := s_is_through) l_is_through c_is_through k_is_through).binds (ps := ["p"]) fun _ _ _ _ _ _ us hl => match us, hl with | [_], _ => rfl,
      m_is_middle := PySem.W.mg_of X G a_is_middle,
      F_is_middle := fun_mk (st := s_is_middle) l_is_middle c_is_middle k_is_middle,
      b_is_middle := (fun_mk (st := s_is_middle) l_is_middle c_is_middle k_is_middle).binds (ps := ["p"]) fun _ _ _ _ _ _ us hl => match us, hl with | [_], _ => rfl,
      m_is_touches := PySem.W.mg_of X G a_is_touches,
      F_is_touches := fun_mk (st := s_is_touches) l_is_touches c_is_touches k_is_touches,
      b_is_touches := (fun_mk (st := s_is_touches) l_is_touches c_is_touches k_is_touches).binds (ps := ["p"]) fun _ _ _ _ _ _ us hl => match us, hl with | [_], _ => rfl,
      m_is_alike := PySem.W.mg_of X G a_is_alike,
      F_is_alike := fun_mk (st := s_is_alike) l_is_alike c_is_alike k_is_alike,
      b_is_alike := (fun_mk (st := s_is_alike) l_is_alike c_is_alike k_is_alike).binds (ps := ["p"]) fun _ _ _ _ _ _ us hl => match us, hl with | [_], _ => rfl,
      m_is_so := PySem.W.mg_of X G a_is_so,
      F_is_so := fun_mk (st := s_is_so) l_is_so c_is_so k_is_so,
      b_is_so := (fun_mk (st := s_is_so) l_is_so c_is_so k_is_so).binds (ps := ["kind", "p", "others"]) fun _ _ _ _ _ _ us hl => match us, hl with | [_, _, _], _ => rfl,
      m_rising := PySem.W.mg_of X G a_rising,
      F_rising := fun_mk (st := s_rising) l_rising c_rising k_rising,
      b_rising := (fun_mk (st := s_rising) l_rising c_rising k_rising).binds (ps := ["count", "size"]) fun _ _ _ _ _ _ us hl => match us, hl with | [_, _], _ => rfl,
      m_pairs_of_ways := PySem.W.mg_of X G a_pairs_of_ways,
      F_pairs_of_ways := fun_mk (st := s_pairs_of_ways) l_pairs_of_ways c_pairs_of_ways k_pairs_of_ways,
      b_pairs_of_ways := (fun_mk (st := s_pairs_of_ways) l_pairs_of_ways c_pairs_of_ways k_pairs_of_ways).binds (ps := ["count"]) fun _ _ _ _ _ _ us hl => match us, hl with | [_], _ => rfl,
      m_middles := PySem.W.mg_of X G a_middles,
      F_middles := fun_mk (st := s_middles) l_middles c_middles k_middles,
      b_middles := (fun_mk (st := s_middles) l_middles c_middles k_middles).binds (ps := ["count"]) fun _ _ _ _ _ _ us hl => match us, hl with | [_], _ => rfl,
      m_rows_to_ask := PySem.W.mg_of X G a_rows_to_ask,
      F_rows_to_ask := fun_mk (st := s_rows_to_ask) l_rows_to_ask c_rows_to_ask k_rows_to_ask,
      b_rows_to_ask := (fun_mk (st := s_rows_to_ask) l_rows_to_ask c_rows_to_ask k_rows_to_ask).binds (ps := ["kind", "count"]) fun _ _ _ _ _ _ us hl => match us, hl with | [_, _], _ => rfl,
      m_rows_so := PySem.W.mg_of X G a_rows_so,
      F_rows_so := fun_mk (st := s_rows_so) l_rows_so c_rows_so k_rows_so,
      b_rows_so := (fun_mk (st := s_rows_so) l_rows_so c_rows_so k_rows_so).binds (ps := ["kind", "p"]) fun _ _ _ _ _ _ us hl => match us, hl with | [_, _], _ => rfl,
      m_is_so_throughout := PySem.W.mg_of X G a_is_so_throughout,
      F_is_so_throughout := fun_mk (st := s_is_so_throughout) l_is_so_throughout c_is_so_throughout k_is_so_throughout,
      b_is_so_throughout := (fun_mk (st := s_is_so_throughout) l_is_so_throughout c_is_so_throughout k_is_so_throughout).binds (ps := ["members", "parts", "so"]) fun _ _ _ _ _ _ us hl => match us, hl with | [_, _, _], _ => rfl,
      m_sets_throughout := PySem.W.mg_of X G a_sets_throughout,
      F_sets_throughout := fun_mk (st := s_sets_throughout) l_sets_throughout c_sets_throughout k_sets_throughout,
      b_sets_throughout := (fun_mk (st := s_sets_throughout) l_sets_throughout c_sets_throughout k_sets_throughout).binds (ps := ["count", "size", "width", "so"]) fun _ _ _ _ _ _ us hl => match us, hl with | [_, _, _, _], _ => rfl,
      m_largest_set := PySem.W.mg_of X G a_largest_set,
      F_largest_set := fun_mk (st := s_largest_set) l_largest_set c_largest_set k_largest_set,
      b_largest_set := (fun_mk (st := s_largest_set) l_largest_set c_largest_set k_largest_set).binds (ps := ["kind", "p"]) fun _ _ _ _ _ _ us hl => match us, hl with | [_, _], _ => rfl,
      m_greatest_common := PySem.W.mg_of X G a_greatest_common,
      F_greatest_common := fun_mk (st := s_greatest_common) l_greatest_common c_greatest_common k_greatest_common,
      b_greatest_common := (fun_mk (st := s_greatest_common) l_greatest_common c_greatest_common k_greatest_common).binds (ps := ["a", "b"]) fun _ _ _ _ _ _ us hl => match us, hl with | [_, _], _ => rfl,
      m_fraction := PySem.W.mg_of X G a_fraction,
      F_fraction := fun_mk (st := s_fraction) l_fraction c_fraction k_fraction,
      b_fraction := (fun_mk (st := s_fraction) l_fraction c_fraction k_fraction).binds (ps := ["above", "below"]) fun _ _ _ _ _ _ us hl => match us, hl with | [_, _], _ => rfl,
      m_three_numbers := PySem.W.mg_of X G a_three_numbers,
      F_three_numbers := fun_mk (st := s_three_numbers) l_three_numbers c_three_numbers k_three_numbers,
      b_three_numbers := (fun_mk (st := s_three_numbers) l_three_numbers c_three_numbers k_three_numbers).binds (ps := ["x", "y", "w"]) fun _ _ _ _ _ _ us hl => match us, hl with | [_, _, _], _ => rfl,
      m_may_be_told := PySem.W.mg_of X G a_may_be_told,
      F_may_be_told := fun_mk (st := s_may_be_told) l_may_be_told c_may_be_told k_may_be_told,
      b_may_be_told := (fun_mk (st := s_may_be_told) l_may_be_told c_may_be_told k_may_be_told).binds (ps := ["x", "y", "w"]) fun _ _ _ _ _ _ us hl => match us, hl with | [_, _, _], _ => rfl,
      m_is_too_large := PySem.W.mg_of X G a_is_too_large,
      F_is_too_large := fun_mk (st := s_is_too_large) l_is_too_large c_is_too_large k_is_too_large,
      b_is_too_large := (fun_mk (st := s_is_too_large) l_is_too_large c_is_too_large k_is_too_large).binds (ps := ["place"]) fun _ _ _ _ _ _ us hl => match us, hl with | [_], _ => rfl,
      m_common_below := PySem.W.mg_of X G a_common_below,
      F_common_below := fun_mk (st := s_common_below) l_common_below c_common_below k_common_below,
      b_common_below := (fun_mk (st := s_common_below) l_common_below c_common_below k_common_below).binds (ps := ["places"]) fun _ _ _ _ _ _ us hl => match us, hl with | [_], _ => rfl,
      m_whole_places := PySem.W.mg_of X G a_whole_places,
      F_whole_places := fun_mk (st := s_whole_places) l_whole_places c_whole_places k_whole_places,
      b_whole_places := (fun_mk (st := s_whole_places) l_whole_places c_whole_places k_whole_places).binds (ps := ["places"]) fun _ _ _ _ _ _ us hl => match us, hl with | [_], _ => rfl,
      m_may_be_asked := PySem.W.mg_of X G a_may_be_asked,
      F_may_be_asked := fun_mk (st := s_may_be_asked) l_may_be_asked c_may_be_asked k_may_be_asked,
      b_may_be_asked := (fun_mk (st := s_may_be_asked) l_may_be_asked c_may_be_asked k_may_be_asked).binds (ps := ["kind", "a", "b", "c", "d"]) fun _ _ _ _ _ _ us hl => match us, hl with | [_, _, _, _, _], _ => rfl,
      m_keeps_shapes := PySem.W.mg_of X G a_keeps_shapes,
      F_keeps_shapes := fun_mk (st := s_keeps_shapes) l_keeps_shapes c_keeps_shapes k_keeps_shapes,
      b_keeps_shapes := (fun_mk (st := s_keeps_shapes) l_keeps_shapes c_keeps_shapes k_keeps_shapes).binds (ps := ["a", "b", "c", "d"]) fun _ _ _ _ _ _ us hl => match us, hl with | [_, _, _, _], _ => rfl,
      m_is_kept := PySem.W.mg_of X G a_is_kept,
      F_is_kept := fun_mk (st := s_is_kept) l_is_kept c_is_kept k_is_kept,
      b_is_kept := (fun_mk (st := s_is_kept) l_is_kept c_is_kept k_is_kept).binds (ps := ["kind", "a", "b", "c", "d"]) fun _ _ _ _ _ _ us hl => match us, hl with | [_, _, _, _, _], _ => rfl,
      m_is_too_large_to_tell := PySem.W.mg_of X G a_is_too_large_to_tell,
      F_is_too_large_to_tell := fun_mk (st := s_is_too_large_to_tell) l_is_too_large_to_tell c_is_too_large_to_tell k_is_too_large_to_tell,
      b_is_too_large_to_tell := (fun_mk (st := s_is_too_large_to_tell) l_is_too_large_to_tell c_is_too_large_to_tell k_is_too_large_to_tell).binds (ps := ["numbers"]) fun _ _ _ _ _ _ us hl => match us, hl with | [_], _ => rfl,
      m_may_be_crossed := PySem.W.mg_of X G a_may_be_crossed,
      F_may_be_crossed := fun_mk (st := s_may_be_crossed) l_may_be_crossed c_may_be_crossed k_may_be_crossed,
      b_may_be_crossed := (fun_mk (st := s_may_be_crossed) l_may_be_crossed c_may_be_crossed k_may_be_crossed).binds (ps := ["p"]) fun _ _ _ _ _ _ us hl => match us, hl with | [_], _ => rfl,
      m_cross_fraction := PySem.W.mg_of X G a_cross_fraction,
      F_cross_fraction := fun_mk (st := s_cross_fraction) l_cross_fraction c_cross_fraction k_cross_fraction,
      b_cross_fraction := (fun_mk (st := s_cross_fraction) l_cross_fraction c_cross_fraction k_cross_fraction).binds (ps := ["p"]) fun _ _ _ _ _ _ us hl => match us, hl with | [_], _ => rfl,
      m_centre_fractions := PySem.W.mg_of X G a_centre_fractions,
      F_centre_fractions := fun_mk (st := s_centre_fractions) l_centre_fractions c_centre_fractions k_centre_fractions,
      b_centre_fractions := (fun_mk (st := s_centre_fractions) l_centre_fractions c_centre_fractions k_centre_fractions).binds (ps := ["p", "stretched"]) fun _ _ _ _ _ _ us hl => match us, hl with | [_, _], _ => rfl,
      m_split_calls := PySem.W.mg_of X G a_split_calls,
      F_split_calls := fun_mk (st := s_split_calls) l_split_calls c_split_calls k_split_calls,
      b_split_calls := (fun_mk (st := s_split_calls) l_split_calls c_split_calls k_split_calls).binds (ps := ["calls"]) fun _ _ _ _ _ _ us hl => match us, hl with | [_], _ => rfl,
      m_answer_with := PySem.W.mg_of X G a_answer_with,
      F_answer_with := fun_mk (st := s_answer_with) l_answer_with c_answer_with k_answer_with,
      b_answer_with := (fun_mk (st := s_answer_with) l_answer_with c_answer_with k_answer_with).binds (ps := ["numbers"]) fun _ _ _ _ _ _ us hl => match us, hl with | [_], _ => rfl,
      F_Plane___init__ := fun_mk (st := s_Plane___init__) l_Plane___init__ c_Plane___init__ k_Plane___init__,
      b_Plane___init__ := (fun_mk (st := s_Plane___init__) l_Plane___init__ c_Plane___init__ k_Plane___init__).binds (ps := ["self"]) fun _ _ _ _ _ _ us hl => match us, hl with | [_], _ => rfl,
      me_Plane_begin := ⟨a_Plane_begin, i_Plane_begin, k_Plane_begin⟩,
      F_Plane_begin := fun_mk (st := s_Plane_begin) l_Plane_begin c_Plane_begin k_Plane_begin,
      b_Plane_begin := (fun_mk (st := s_Plane_begin) l_Plane_begin c_Plane_begin k_Plane_begin).binds (ps := ["self"]) fun _ _ _ _ _ _ us hl => match us, hl with | [_], _ => rfl,
      me_Plane_point := ⟨a_Plane_point, i_Plane_point, k_Plane_point⟩,
      F_Plane_point := fun_mk (st := s_Plane_point) l_Plane_point c_Plane_point k_Plane_point,
      b_Plane_point := (fun_mk (st := s_Plane_point) l_Plane_point c_Plane_point k_Plane_point).binds (ps := ["self", "x", "y", "w"]) fun _ _ _ _ _ _ us hl => match us, hl with | [_, _, _, _], _ => rfl,
      me_Plane_put := ⟨a_Plane_put, i_Plane_put, k_Plane_put⟩,
      F_Plane_put := fun_mk (st := s_Plane_put) l_Plane_put c_Plane_put k_Plane_put,
      b_Plane_put := (fun_mk (st := s_Plane_put) l_Plane_put c_Plane_put k_Plane_put).binds (ps := ["self", "p", "x", "y", "w"]) fun _ _ _ _ _ _ us hl => match us, hl with | [_, _, _, _, _], _ => rfl,
      me_Plane_out := ⟨a_Plane_out, i_Plane_out, k_Plane_out⟩,
      F_Plane_out := fun_mk (st := s_Plane_out) l_Plane_out c_Plane_out k_Plane_out,
      b_Plane_out := (fun_mk (st := s_Plane_out) l_Plane_out c_Plane_out k_Plane_out).binds (ps := ["self"]) fun _ _ _ _ _ _ us hl => match us, hl with | [_], _ => rfl,
      me_Plane_slant := ⟨a_Plane_slant, i_Plane_slant, k_Plane_slant⟩,
      F_Plane_slant := fun_mk (st := s_Plane_slant) l_Plane_slant c_Plane_slant k_Plane_slant,
      b_Plane_slant := (fun_mk (st := s_Plane_slant) l_Plane_slant c_Plane_slant k_Plane_slant).binds (ps := ["self", "a", "b", "c", "d", "e", "f"]) fun _ _ _ _ _ _ us hl => match us, hl with | [_, _, _, _, _, _, _], _ => rfl,
      me_Plane_bend := ⟨a_Plane_bend, i_Plane_bend, k_Plane_bend⟩,
      F_Plane_bend := fun_mk (st := s_Plane_bend) l_Plane_bend c_Plane_bend k_Plane_bend,
      b_Plane_bend := (fun_mk (st := s_Plane_bend) l_Plane_bend c_Plane_bend k_Plane_bend).binds (ps := ["self", "row"]) fun _ _ _ _ _ _ us hl => match us, hl with | [_, _], _ => rfl,
      me_Plane_points := ⟨a_Plane_points, i_Plane_points, k_Plane_points⟩,
      F_Plane_points := fun_mk (st := s_Plane_points) l_Plane_points c_Plane_points k_Plane_points,
      b_Plane_points := (fun_mk (st := s_Plane_points) l_Plane_points c_Plane_points k_Plane_points).binds (ps := ["self"]) fun _ _ _ _ _ _ us hl => match us, hl with | [_], _ => rfl,
      me_Plane_has_each := ⟨a_Plane_has_each, i_Plane_has_each, k_Plane_has_each⟩,
      F_Plane_has_each := fun_mk (st := s_Plane_has_each) l_Plane_has_each c_Plane_has_each k_Plane_has_each,
      b_Plane_has_each := (fun_mk (st := s_Plane_has_each) l_Plane_has_each c_Plane_has_each k_Plane_has_each).binds (ps := ["self", "numbers"]) fun _ _ _ _ _ _ us hl => match us, hl with | [_, _], _ => rfl,
      me_Plane_places_of := ⟨a_Plane_places_of, i_Plane_places_of, k_Plane_places_of⟩,
      F_Plane_places_of := fun_mk (st := s_Plane_places_of) l_Plane_places_of c_Plane_places_of k_Plane_places_of,
      b_Plane_places_of := (fun_mk (st := s_Plane_places_of) l_Plane_places_of c_Plane_places_of k_Plane_places_of).binds (ps := ["self", "numbers"]) fun _ _ _ _ _ _ us hl => match us, hl with | [_, _], _ => rfl,
      me_Plane_where := ⟨a_Plane_where, i_Plane_where, k_Plane_where⟩,
      F_Plane_where := fun_mk (st := s_Plane_where) l_Plane_where c_Plane_where k_Plane_where,
      b_Plane_where := (fun_mk (st := s_Plane_where) l_Plane_where c_Plane_where k_Plane_where).binds (ps := ["self", "p"]) fun _ _ _ _ _ _ us hl => match us, hl with | [_, _], _ => rfl,
      me_Plane_says := ⟨a_Plane_says, i_Plane_says, k_Plane_says⟩,
      F_Plane_says := fun_mk (st := s_Plane_says) l_Plane_says c_Plane_says k_Plane_says,
      b_Plane_says := (fun_mk (st := s_Plane_says) l_Plane_says c_Plane_says k_Plane_says).binds (ps := ["self", "kind", "row"]) fun _ _ _ _ _ _ us hl => match us, hl with | [_, _, _], _ => rfl,
      me_Plane_every := ⟨a_Plane_every, i_Plane_every, k_Plane_every⟩,
      F_Plane_every := fun_mk (st := s_Plane_every) l_Plane_every c_Plane_every k_Plane_every,
      b_Plane_every := (fun_mk (st := s_Plane_every) l_Plane_every c_Plane_every k_Plane_every).binds (ps := ["self", "kind"]) fun _ _ _ _ _ _ us hl => match us, hl with | [_, _], _ => rfl,
      me_Plane_most := ⟨a_Plane_most, i_Plane_most, k_Plane_most⟩,
      F_Plane_most := fun_mk (st := s_Plane_most) l_Plane_most c_Plane_most k_Plane_most,
      b_Plane_most := (fun_mk (st := s_Plane_most) l_Plane_most c_Plane_most k_Plane_most).binds (ps := ["self", "kind"]) fun _ _ _ _ _ _ us hl => match us, hl with | [_, _], _ => rfl,
      me_Plane_keeps := ⟨a_Plane_keeps, i_Plane_keeps, k_Plane_keeps⟩,
      F_Plane_keeps := fun_mk (st := s_Plane_keeps) l_Plane_keeps c_Plane_keeps k_Plane_keeps,
      b_Plane_keeps := (fun_mk (st := s_Plane_keeps) l_Plane_keeps c_Plane_keeps k_Plane_keeps).binds (ps := ["self", "kind", "a", "b", "c", "d"]) fun _ _ _ _ _ _ us hl => match us, hl with | [_, _, _, _, _, _], _ => rfl,
      me_Plane_cross := ⟨a_Plane_cross, i_Plane_cross, k_Plane_cross⟩,
      F_Plane_cross := fun_mk (st := s_Plane_cross) l_Plane_cross c_Plane_cross k_Plane_cross,
      b_Plane_cross := (fun_mk (st := s_Plane_cross) l_Plane_cross c_Plane_cross k_Plane_cross).binds (ps := ["self", "told"]) fun _ _ _ _ _ _ us hl => match us, hl with | [_, _], _ => rfl,
      me_Plane_centre := ⟨a_Plane_centre, i_Plane_centre, k_Plane_centre⟩,
      F_Plane_centre := fun_mk (st := s_Plane_centre) l_Plane_centre c_Plane_centre k_Plane_centre,
      b_Plane_centre := (fun_mk (st := s_Plane_centre) l_Plane_centre c_Plane_centre k_Plane_centre).binds (ps := ["self", "told"]) fun _ _ _ _ _ _ us hl => match us, hl with | [_, _], _ => rfl,
      m_answer_of := PySem.W.mg_of X G a_answer_of,
      F_answer_of := fun_mk (st := s_answer_of) l_answer_of c_answer_of k_answer_of,
      b_answer_of := (fun_mk (st := s_answer_of) l_answer_of c_answer_of k_answer_of).binds (ps := ["plane", "call", "n", "row"]) fun _ _ _ _ _ _ us hl => match us, hl with | [_, _, _, _], _ => rfl,
      m_answers := PySem.W.mg_of X G a_answers,
      F_answers := fun_mk (st := s_answers) l_answers c_answers k_answers,
      b_answers := (fun_mk (st := s_answers) l_answers c_answers k_answers).binds (ps := ["calls"]) fun _ _ _ _ _ _ us hl => match us, hl with | [_], _ => rfl }⟩
end My
open PySem PySem.W PyProof.Rows
set_option maxRecDepth 100000 in
set_option maxHeartbeats 8000000 in
theorem PySem.Challenge.cw_pointsayings_s01_answers_holds : PySem.Challenge.rw_pointsayings_s01_answers.Holds := by
  w_on; k_headS; (case hw => exact ⟨[.list [.int 0]], by decide +kernel, by decide +kernel⟩)
  k_fillS
  refine L2.walk_specK (r := PySem.Challenge.rw_pointsayings_s01_answers) (k := 10) (CX := L2.CX0) (ps := ["calls"]) (sp := My.spAns) (by decide +kernel) rfl rfl ⟨rfl, by decide, by decide⟩ (fun w h Y => PySem.W.kIn_of Y) ?F My.hsp_end (fun _ _ _ _ z => z)
  case F =>
    intro w mg fa h Y KX G hmg
    refine' My.all_mk (fun _ _ T => My.ok_answers T) KX G hmg ?aC_Plane ?pg_Plane ?hd_Plane ?po_Plane ?sa_Plane ?mk_Plane ?kc_Plane ?na_Plane_begun ?na_Plane_places ?n_any ?n_len ?n_abs ?n_range ?n_enumerate ?n_tuple ?n_set ?n_all ?g_LARGEST_OF_NINE ?g_SAME ?g_LINE ?g_PARALLEL ?g_RIGHT ?g_EQUAL ?g_TIMES ?g_CIRCLE ?g_AREAS ?g_THROUGH ?g_MIDDLE ?g_LARGEST_OF_TIMES ?g_LARGEST_TOLD ?g_LARGEST_KEPT ?g_LARGEST_ANSWERED ?g_BEGIN ?g_POINT ?g_PUT ?g_OUT ?g_SLANT ?g_BEND ?g_POINTS ?g_WHERE ?g_SAYS ?g_ALL ?g_MOST ?g_KEEPS ?g_CROSS ?g_NO_POINT ?g_WRONG_NUMBERS ?g_NO_ROOM ?g_GOES_AWAY ?g_NOT_SO_PLACED ?g_NOT_BEGUN ?g_TOO_LARGE ?g_MOST_POINTS ?g_POINTS_OF_KIND ?q_POINTS_OF_KIND ?g_KINDS_RISING ?q_KINDS_RISING ?g_KINDS_OF_WAYS ?q_KINDS_OF_WAYS ?g_KINDS_OF_ALL ?q_KINDS_OF_ALL ?g_KINDS_OF_MOST ?q_KINDS_OF_MOST ?g_KINDS_KEPT_BY_ANY ?q_KINDS_KEPT_BY_ANY ?g_PLAIN_NUMBERS ?q_PLAIN_NUMBERS ?g_CALLS_WITH_ROW ?q_CALLS_WITH_ROW ?a_nine_of_slant ?l_nine_of_slant ?c_nine_of_slant ?k_nine_of_slant ?a_measure ?l_measure ?c_measure ?k_measure ?a_may_bend ?l_may_bend ?c_may_bend ?k_may_bend ?a_bent ?l_bent ?c_bent ?k_bent ?a_is_kind ?l_is_kind ?c_is_kind ?k_is_kind ?a_may_be_said ?l_may_be_said ?c_may_be_said ?k_may_be_said ?a_way ?l_way ?c_way ?k_way ?a_turn ?l_turn ?c_turn ?k_turn ?a_lean ?l_lean ?c_lean ?k_lean ?a_multiplied ?l_multiplied ?c_multiplied ?k_multiplied ?a_square ?l_square ?c_square ?k_square ?a_is_same ?l_is_same ?c_is_same ?k_is_same ?a_is_line ?l_is_line ?c_is_line ?k_is_line ?a_is_parallel ?l_is_parallel ?c_is_parallel ?k_is_parallel ?a_is_right ?l_is_right ?c_is_right ?k_is_right ?a_is_times ?l_is_times ?c_is_times ?k_is_times ?a_is_equal ?l_is_equal ?c_is_equal ?k_is_equal ?a_is_circle ?l_is_circle ?c_is_circle ?k_is_circle ?a_is_angles ?l_is_angles ?c_is_angles ?k_is_angles ?a_is_areas ?l_is_areas ?c_is_areas ?k_is_areas ?a_line_numbers ?l_line_numbers ?c_line_numbers ?k_line_numbers ?a_is_through ?l_is_through ?c_is_through ?k_is_through ?a_is_middle ?l_is_middle ?c_is_middle ?k_is_middle ?a_is_touches ?l_is_touches ?c_is_touches ?k_is_touches ?a_is_alike ?l_is_alike ?c_is_alike ?k_is_alike ?a_is_so ?l_is_so ?c_is_so ?k_is_so ?a_rising ?l_rising ?c_rising ?k_rising ?a_pairs_of_ways ?l_pairs_of_ways ?c_pairs_of_ways ?k_pairs_of_ways ?a_middles ?l_middles ?c_middles ?k_middles ?a_rows_to_ask ?l_rows_to_ask ?c_rows_to_ask ?k_rows_to_ask ?a_rows_so ?l_rows_so ?c_rows_so ?k_rows_so ?a_is_so_throughout ?l_is_so_throughout ?c_is_so_throughout ?k_is_so_throughout ?a_sets_throughout ?l_sets_throughout ?c_sets_throughout ?k_sets_throughout ?a_largest_set ?l_largest_set ?c_largest_set ?k_largest_set ?a_greatest_common ?l_greatest_common ?c_greatest_common ?k_greatest_common ?a_fraction ?l_fraction ?c_fraction ?k_fraction ?a_three_numbers ?l_three_numbers ?c_three_numbers ?k_three_numbers ?a_may_be_told ?l_may_be_told ?c_may_be_told ?k_may_be_told ?a_is_too_large ?l_is_too_large ?c_is_too_large ?k_is_too_large ?a_common_below ?l_common_below ?c_common_below ?k_common_below ?a_whole_places ?l_whole_places ?c_whole_places ?k_whole_places ?a_may_be_asked ?l_may_be_asked ?c_may_be_asked ?k_may_be_asked ?a_keeps_shapes ?l_keeps_shapes ?c_keeps_shapes ?k_keeps_shapes ?a_is_kept ?l_is_kept ?c_is_kept ?k_is_kept ?a_is_too_large_to_tell ?l_is_too_large_to_tell ?c_is_too_large_to_tell ?k_is_too_large_to_tell ?a_may_be_crossed ?l_may_be_crossed ?c_may_be_crossed ?k_may_be_crossed ?a_cross_fraction ?l_cross_fraction ?c_cross_fraction ?k_cross_fraction ?a_centre_fractions ?l_centre_fractions ?c_centre_fractions ?k_centre_fractions ?a_split_calls ?l_split_calls ?c_split_calls ?k_split_calls ?a_answer_with ?l_answer_with ?c_answer_with ?k_answer_with ?a_Plane___init__ ?i_Plane___init__ ?l_Plane___init__ ?c_Plane___init__ ?k_Plane___init__ ?a_Plane_begin ?i_Plane_begin ?l_Plane_begin ?c_Plane_begin ?k_Plane_begin ?a_Plane_point ?i_Plane_point ?l_Plane_point ?c_Plane_point ?k_Plane_point ?a_Plane_put ?i_Plane_put ?l_Plane_put ?c_Plane_put ?k_Plane_put ?a_Plane_out ?i_Plane_out ?l_Plane_out ?c_Plane_out ?k_Plane_out ?a_Plane_slant ?i_Plane_slant ?l_Plane_slant ?c_Plane_slant ?k_Plane_slant ?a_Plane_bend ?i_Plane_bend ?l_Plane_bend ?c_Plane_bend ?k_Plane_bend ?a_Plane_points ?i_Plane_points ?l_Plane_points ?c_Plane_points ?k_Plane_points ?a_Plane_has_each ?i_Plane_has_each ?l_Plane_has_each ?c_Plane_has_each ?k_Plane_has_each ?a_Plane_places_of ?i_Plane_places_of ?l_Plane_places_of ?c_Plane_places_of ?k_Plane_places_of ?a_Plane_where ?i_Plane_where ?l_Plane_where ?c_Plane_where ?k_Plane_where ?a_Plane_says ?i_Plane_says ?l_Plane_says ?c_Plane_says ?k_Plane_says ?a_Plane_every ?i_Plane_every ?l_Plane_every ?c_Plane_every ?k_Plane_every ?a_Plane_most ?i_Plane_most ?l_Plane_most ?c_Plane_most ?k_Plane_most ?a_Plane_keeps ?i_Plane_keeps ?l_Plane_keeps ?c_Plane_keeps ?k_Plane_keeps ?a_Plane_cross ?i_Plane_cross ?l_Plane_cross ?c_Plane_cross ?k_Plane_cross ?a_Plane_centre ?i_Plane_centre ?l_Plane_centre ?c_Plane_centre ?k_Plane_centre ?a_answer_of ?l_answer_of ?c_answer_of ?k_answer_of ?a_answers ?l_answers ?c_answers ?k_answers ?g_BY_KIND ?q_BY_KIND
    (case aC_Plane => k_is)
    (case pg_Plane => k_is)
    (case hd_Plane => k_is)
    (case po_Plane => k_is)
    (case sa_Plane => k_is)
    (case mk_Plane => k_is)
    (case kc_Plane => k_is)
    (case na_Plane_begun => k_is)
    (case na_Plane_places => k_is)
    (case n_any => k_is)
    (case n_len => k_is)
    (case n_abs => k_is)
    (case n_range => k_is)
    (case n_enumerate => k_is)
    (case n_tuple => k_is)
    (case n_set => k_is)
    (case n_all => k_is)
    (case g_LARGEST_OF_NINE => k_is)
    (case g_SAME => k_is)
    (case g_LINE => k_is)
    (case g_PARALLEL => k_is)
    (case g_RIGHT => k_is)
    (case g_EQUAL => k_is)
    (case g_TIMES => k_is)
    (case g_CIRCLE => k_is)
    (case g_AREAS => k_is)
    (case g_THROUGH => k_is)
    (case g_MIDDLE => k_is)
    (case g_LARGEST_OF_TIMES => k_is)
    (case g_LARGEST_TOLD => k_is)
    (case g_LARGEST_KEPT => k_is)
    (case g_LARGEST_ANSWERED => k_is)
    (case g_BEGIN => k_is)
    (case g_POINT => k_is)
    (case g_PUT => k_is)
    (case g_OUT => k_is)
    (case g_SLANT => k_is)
    (case g_BEND => k_is)
    (case g_POINTS => k_is)
    (case g_WHERE => k_is)
    (case g_SAYS => k_is)
    (case g_ALL => k_is)
    (case g_MOST => k_is)
    (case g_KEEPS => k_is)
    (case g_CROSS => k_is)
    (case g_NO_POINT => k_is)
    (case g_WRONG_NUMBERS => k_is)
    (case g_NO_ROOM => k_is)
    (case g_GOES_AWAY => k_is)
    (case g_NOT_SO_PLACED => k_is)
    (case g_NOT_BEGUN => k_is)
    (case g_TOO_LARGE => k_is)
    (case g_MOST_POINTS => k_is)
    (case g_POINTS_OF_KIND => k_is)
    (case q_POINTS_OF_KIND => k_is)
    (case g_KINDS_RISING => k_is)
    (case q_KINDS_RISING => k_is)
    (case g_KINDS_OF_WAYS => k_is)
    (case q_KINDS_OF_WAYS => k_is)
    (case g_KINDS_OF_ALL => k_is)
    (case q_KINDS_OF_ALL => k_is)
    (case g_KINDS_OF_MOST => k_is)
    (case q_KINDS_OF_MOST => k_is)
    (case g_KINDS_KEPT_BY_ANY => k_is)
    (case q_KINDS_KEPT_BY_ANY => k_is)
    (case g_PLAIN_NUMBERS => k_is)
    (case q_PLAIN_NUMBERS => k_is)
    (case g_CALLS_WITH_ROW => k_is)
    (case q_CALLS_WITH_ROW => k_is)
    (case a_nine_of_slant => k_is)
    (case l_nine_of_slant => k_is)
    (case c_nine_of_slant => k_is)
    (case k_nine_of_slant => k_is)
    (case a_measure => k_is)
    (case l_measure => k_is)
    (case c_measure => k_is)
    (case k_measure => k_is)
    (case a_may_bend => k_is)
    (case l_may_bend => k_is)
    (case c_may_bend => k_is)
    (case k_may_bend => k_is)
    (case a_bent => k_is)
    (case l_bent => k_is)
    (case c_bent => k_is)
    (case k_bent => k_is)
    (case a_is_kind => k_is)
    (case l_is_kind => k_is)
    (case c_is_kind => k_is)
    (case k_is_kind => k_is)
    (case a_may_be_said => k_is)
    (case l_may_be_said => k_is)
    (case c_may_be_said => k_is)
    (case k_may_be_said => k_is)
    (case a_way => k_is)
    (case l_way => k_is)
    (case c_way => k_is)
    (case k_way => k_is)
    (case a_turn => k_is)
    (case l_turn => k_is)
    (case c_turn => k_is)
    (case k_turn => k_is)
    (case a_lean => k_is)
    (case l_lean => k_is)
    (case c_lean => k_is)
    (case k_lean => k_is)
    (case a_multiplied => k_is)
    (case l_multiplied => k_is)
    (case c_multiplied => k_is)
    (case k_multiplied => k_is)
    (case a_square => k_is)
    (case l_square => k_is)
    (case c_square => k_is)
    (case k_square => k_is)
    (case a_is_same => k_is)
    (case l_is_same => k_is)
    (case c_is_same => k_is)
    (case k_is_same => k_is)
    (case a_is_line => k_is)
    (case l_is_line => k_is)
    (case c_is_line => k_is)
    (case k_is_line => k_is)
    (case a_is_parallel => k_is)
    (case l_is_parallel => k_is)
    (case c_is_parallel => k_is)
    (case k_is_parallel => k_is)
    (case a_is_right => k_is)
    (case l_is_right => k_is)
    (case c_is_right => k_is)
    (case k_is_right => k_is)
    (case a_is_times => k_is)
    (case l_is_times => k_is)
    (case c_is_times => k_is)
    (case k_is_times => k_is)
    (case a_is_equal => k_is)
    (case l_is_equal => k_is)
    (case c_is_equal => k_is)
    (case k_is_equal => k_is)
    (case a_is_circle => k_is)
    (case l_is_circle => k_is)
    (case c_is_circle => k_is)
    (case k_is_circle => k_is)
    (case a_is_angles => k_is)
    (case l_is_angles => k_is)
    (case c_is_angles => k_is)
    (case k_is_angles => k_is)
    (case a_is_areas => k_is)
    (case l_is_areas => k_is)
    (case c_is_areas => k_is)
    (case k_is_areas => k_is)
    (case a_line_numbers => k_is)
    (case l_line_numbers => k_is)
    (case c_line_numbers => k_is)
    (case k_line_numbers => k_is)
    (case a_is_through => k_is)
    (case l_is_through => k_is)
    (case c_is_through => k_is)
    (case k_is_through => k_is)
    (case a_is_middle => k_is)
    (case l_is_middle => k_is)
    (case c_is_middle => k_is)
    (case k_is_middle => k_is)
    (case a_is_touches => k_is)
    (case l_is_touches => k_is)
    (case c_is_touches => k_is)
    (case k_is_touches => k_is)
    (case a_is_alike => k_is)
    (case l_is_alike => k_is)
    (case c_is_alike => k_is)
    (case k_is_alike => k_is)
    (case a_is_so => k_is)
    (case l_is_so => k_is)
    (case c_is_so => k_is)
    (case k_is_so => k_is)
    (case a_rising => k_is)
    (case l_rising => k_is)
    (case c_rising => k_is)
    (case k_rising => k_is)
    (case a_pairs_of_ways => k_is)
    (case l_pairs_of_ways => k_is)
    (case c_pairs_of_ways => k_is)
    (case k_pairs_of_ways => k_is)
    (case a_middles => k_is)
    (case l_middles => k_is)
    (case c_middles => k_is)
    (case k_middles => k_is)
    (case a_rows_to_ask => k_is)
    (case l_rows_to_ask => k_is)
    (case c_rows_to_ask => k_is)
    (case k_rows_to_ask => k_is)
    (case a_rows_so => k_is)
    (case l_rows_so => k_is)
    (case c_rows_so => k_is)
    (case k_rows_so => k_is)
    (case a_is_so_throughout => k_is)
    (case l_is_so_throughout => k_is)
    (case c_is_so_throughout => k_is)
    (case k_is_so_throughout => k_is)
    (case a_sets_throughout => k_is)
    (case l_sets_throughout => k_is)
    (case c_sets_throughout => k_is)
    (case k_sets_throughout => k_is)
    (case a_largest_set => k_is)
    (case l_largest_set => k_is)
    (case c_largest_set => k_is)
    (case k_largest_set => k_is)
    (case a_greatest_common => k_is)
    (case l_greatest_common => k_is)
    (case c_greatest_common => k_is)
    (case k_greatest_common => k_is)
    (case a_fraction => k_is)
    (case l_fraction => k_is)
    (case c_fraction => k_is)
    (case k_fraction => k_is)
    (case a_three_numbers => k_is)
    (case l_three_numbers => k_is)
    (case c_three_numbers => k_is)
    (case k_three_numbers => k_is)
    (case a_may_be_told => k_is)
    (case l_may_be_told => k_is)
    (case c_may_be_told => k_is)
    (case k_may_be_told => k_is)
    (case a_is_too_large => k_is)
    (case l_is_too_large => k_is)
    (case c_is_too_large => k_is)
    (case k_is_too_large => k_is)
    (case a_common_below => k_is)
    (case l_common_below => k_is)
    (case c_common_below => k_is)
    (case k_common_below => k_is)
    (case a_whole_places => k_is)
    (case l_whole_places => k_is)
    (case c_whole_places => k_is)
    (case k_whole_places => k_is)
    (case a_may_be_asked => k_is)
    (case l_may_be_asked => k_is)
    (case c_may_be_asked => k_is)
    (case k_may_be_asked => k_is)
    (case a_keeps_shapes => k_is)
    (case l_keeps_shapes => k_is)
    (case c_keeps_shapes => k_is)
    (case k_keeps_shapes => k_is)
    (case a_is_kept => k_is)
    (case l_is_kept => k_is)
    (case c_is_kept => k_is)
    (case k_is_kept => k_is)
    (case a_is_too_large_to_tell => k_is)
    (case l_is_too_large_to_tell => k_is)
    (case c_is_too_large_to_tell => k_is)
    (case k_is_too_large_to_tell => k_is)
    (case a_may_be_crossed => k_is)
    (case l_may_be_crossed => k_is)
    (case c_may_be_crossed => k_is)
    (case k_may_be_crossed => k_is)
    (case a_cross_fraction => k_is)
    (case l_cross_fraction => k_is)
    (case c_cross_fraction => k_is)
    (case k_cross_fraction => k_is)
    (case a_centre_fractions => k_is)
    (case l_centre_fractions => k_is)
    (case c_centre_fractions => k_is)
    (case k_centre_fractions => k_is)
    (case a_split_calls => k_is)
    (case l_split_calls => k_is)
    (case c_split_calls => k_is)
    (case k_split_calls => k_is)
    (case a_answer_with => k_is)
    (case l_answer_with => k_is)
    (case c_answer_with => k_is)
    (case k_answer_with => k_is)
    (case a_Plane___init__ => k_is)
    (case i_Plane___init__ => k_is)
    (case l_Plane___init__ => k_is)
    (case c_Plane___init__ => k_is)
    (case k_Plane___init__ => k_is)
    (case a_Plane_begin => k_is)
    (case i_Plane_begin => k_is)
    (case l_Plane_begin => k_is)
    (case c_Plane_begin => k_is)
    (case k_Plane_begin => k_is)
    (case a_Plane_point => k_is)
    (case i_Plane_point => k_is)
    (case l_Plane_point => k_is)
    (case c_Plane_point => k_is)
    (case k_Plane_point => k_is)
    (case a_Plane_put => k_is)
    (case i_Plane_put => k_is)
    (case l_Plane_put => k_is)
    (case c_Plane_put => k_is)
    (case k_Plane_put => k_is)
    (case a_Plane_out => k_is)
    (case i_Plane_out => k_is)
    (case l_Plane_out => k_is)
    (case c_Plane_out => k_is)
    (case k_Plane_out => k_is)
    (case a_Plane_slant => k_is)
    (case i_Plane_slant => k_is)
    (case l_Plane_slant => k_is)
    (case c_Plane_slant => k_is)
    (case k_Plane_slant => k_is)
    (case a_Plane_bend => k_is)
    (case i_Plane_bend => k_is)
    (case l_Plane_bend => k_is)
    (case c_Plane_bend => k_is)
    (case k_Plane_bend => k_is)
    (case a_Plane_points => k_is)
    (case i_Plane_points => k_is)
    (case l_Plane_points => k_is)
    (case c_Plane_points => k_is)
    (case k_Plane_points => k_is)
    (case a_Plane_has_each => k_is)
    (case i_Plane_has_each => k_is)
    (case l_Plane_has_each => k_is)
    (case c_Plane_has_each => k_is)
    (case k_Plane_has_each => k_is)
    (case a_Plane_places_of => k_is)
    (case i_Plane_places_of => k_is)
    (case l_Plane_places_of => k_is)
    (case c_Plane_places_of => k_is)
    (case k_Plane_places_of => k_is)
    (case a_Plane_where => k_is)
    (case i_Plane_where => k_is)
    (case l_Plane_where => k_is)
    (case c_Plane_where => k_is)
    (case k_Plane_where => k_is)
    (case a_Plane_says => k_is)
    (case i_Plane_says => k_is)
    (case l_Plane_says => k_is)
    (case c_Plane_says => k_is)
    (case k_Plane_says => k_is)
    (case a_Plane_every => k_is)
    (case i_Plane_every => k_is)
    (case l_Plane_every => k_is)
    (case c_Plane_every => k_is)
    (case k_Plane_every => k_is)
    (case a_Plane_most => k_is)
    (case i_Plane_most => k_is)
    (case l_Plane_most => k_is)
    (case c_Plane_most => k_is)
    (case k_Plane_most => k_is)
    (case a_Plane_keeps => k_is)
    (case i_Plane_keeps => k_is)
    (case l_Plane_keeps => k_is)
    (case c_Plane_keeps => k_is)
    (case k_Plane_keeps => k_is)
    (case a_Plane_cross => k_is)
    (case i_Plane_cross => k_is)
    (case l_Plane_cross => k_is)
    (case c_Plane_cross => k_is)
    (case k_Plane_cross => k_is)
    (case a_Plane_centre => k_is)
    (case i_Plane_centre => k_is)
    (case l_Plane_centre => k_is)
    (case c_Plane_centre => k_is)
    (case k_Plane_centre => k_is)
    (case a_answer_of => k_is)
    (case l_answer_of => k_is)
    (case c_answer_of => k_is)
    (case k_answer_of => k_is)
    (case a_answers => k_is)
    (case l_answers => k_is)
    (case c_answers => k_is)
    (case k_answers => k_is)
    (case g_BY_KIND => k_is)
    (case q_BY_KIND => k_is)
