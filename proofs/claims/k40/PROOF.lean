import PyProof.Rows.All
import Wide.All
import OpenK.AllK
import Wide.FinOn
import HandS.ForMost
import HandS.StrMore
import HandS.IsInst
import HandS.FStr
import HandS.Wide
import HandS.Flow
import HandS.TupAny
import HandS.Evl
import HandS.Text
import PySem.Challenge.RW_ontoworks_k40_place
set_option Elab.async false
set_option linter.all false
set_option maxRecDepth 100000
set_option maxHeartbeats 4000000

namespace Pf
open PySem PySem.Spec PyProof.Rows L2
/-- a def of the top under its name, bound without defaults -/
structure Df (K : PySem.W.Frag) (mg : Str → Option Value) (x : Str) (st : Stmt) (f : Addr) (fd : FuncData) (ps : List Str) : Prop where
  fn : Fun K x x st f fd
  mgf : mg x = some (.ref f)
  kp : PySem.W.keepIn K (.ref f) = true
  bd : Binds K fd ps []
/-- a def that keeps a promise, by its name -/
structure Cl (P : Program) (w : World) (K : PySem.W.Frag) (mg : Str → Option Value) (base : Heap) (k : Nat) (x : Str) (sp : Sp) : Prop where
  ex : ∃ (f : Addr) (fd : FuncData) (ps : List Str), FnOk P w K mg base CX0 k f fd ps sp ∧ mg x = some (.ref f) ∧ PySem.W.keepIn K (.ref f) = true ∧ Binds K fd ps []
section
variable {P : Program} {w : World} {K : PySem.W.Frag} {mg : Str → Option Value} {base : Heap}
theorem Df.cl {x : Str} {st : Stmt} {f : Addr} {fd : FuncData} {ps N : List Str} {k : Nat} {sp : Sp} (D : Df K mg x st f fd ps) (S : FnScope N ps (defScope st)) (len : ∀ vs H Q E, sp vs H Q E → vs.length = ps.length)
    (hbody : ∀ (cdv : Value) (A : Around) (outer : List Env) (s : Shared) (H : Hp) (vs : List V) (Q : VK) (E : XK), Room k (A.deeper (envOfC x (defScope st) s.heap.objs.size f cdv)) → sp vs H Q E →
      ∃ t, PSs (cxOf CX0 P w K mg base N x (defScope st) f cdv A outer s H E).nox (defBody st) t ∧ t { nx := fun _ H' => Q .non H', rt := Q } (start N vs) H) : Cl P w K mg base (k + 1) x sp :=
  ⟨f, fd, ps, D.fn.ok S len hbody, D.mgf, D.kp, D.bd⟩
theorem Cl.imp {x : Str} {k : Nat} {sp sp' : Sp} (c : Cl P w K mg base k x sp) (h : ∀ vs H Q E, sp' vs H Q E → sp vs H Q E) : Cl P w K mg base k x sp' := by
  obtain ⟨f, fd, ps, F, r⟩ := c.ex
  exact ⟨f, fd, ps, F.imp h, r⟩
theorem Cl.mono {x : Str} {k j : Nat} {sp : Sp} (c : Cl P w K mg base k x sp) (h : k ≤ j) : Cl P w K mg base j x sp := by
  obtain ⟨f, fd, ps, F, r⟩ := c.ex
  exact ⟨f, fd, ps, F.mono h, r⟩
end
section
variable {X : Cx} {k j : Nat} {x : Str} {sp : Sp} {p pos : Pos} {e : Expr} {es : List Expr} {t : TA}
theorem pc (c : Cl X.prog X.w X.K X.mg X.base k x sp) (hr : Room j X.A) (hk : k ≤ j) (hg : Gl X x) (ha : PA X (e :: es) t)
    (hdb : (x == ("__debug__" : Str)) = false := by decide) (he : starEach (e :: es) X.env = (false, eval e X.env) :: starEach es X.env := by rfl) (hpl : (backTo pos (starEach es X.env)).any (·.1) = false := by rfl) :
    PE X (.Call (.Name x p) (e :: es) [] pos) (tCall sp [] E0 t) := by
  obtain ⟨f, fd, ps, F, hm, kp, b⟩ := c.ex
  exact pe_call F (hr.mono hk) hg hm kp b .nil pass0 ha hdb he hpl
theorem pc0 (c : Cl X.prog X.w X.K X.mg X.base k x sp) (hr : Room j X.A) (hk : k ≤ j) (hg : Gl X x)
    (hdb : (x == ("__debug__" : Str)) = false := by decide) :
    PE X (.Call (.Name x p) [] [] pos) (tCall sp [] E0 tNil) := by
  obtain ⟨f, fd, ps, F, hm, kp, b⟩ := c.ex
  exact pe_call0 F (hr.mono hk) hg hm kp b .nil pass0 hdb
end
/-! heaps -/
theorem Same.new {H : Hp} {p : Addr} (o : HO) (h : H p = none) : Same H (upd H p o) := fun b u e => by
  rw [upd_ne (ne_of_none e h)]
  exact e
theorem Same.seqT {K : PySem.W.Frag} {H H' : Hp} {a : Addr} {xs : List V} (e : Same H H') (h : SqT K H a xs) : SqT K H' a xs := by
  rcases h with (h | ⟨o, h⟩) | h
  · exact .inl (.inl (e _ _ h))
  · exact .inl (.inr ⟨o, e _ _ h⟩)
  · exact .inr h
theorem upd_self {H : Hp} {a : Addr} {o : HO} (h : H a = some o) : upd H a o = H := by
  funext b
  unfold upd
  split
  · rename_i e
    rw [e, h]
  · rfl
/-! one short for the sign of a code -/
abbrev sg (c : Nat) : Str := ⟨#[c]⟩
/-! a written tuple of texts -/
def StrIts : List Value → List Str → Bool
  | [], [] => true
  | .str x _ :: vs, y :: ys => decide (x = y) && StrIts vs ys
  | _, _ => false
theorem strIts_vals : ∀ {vs : List Value} {ys : List Str}, StrIts vs ys = true → Vals (ys.map V.str) vs
  | [], [], _ => .nil
  | .str x t :: vs, y :: ys, h => by
    unfold StrIts at h
    rw [Bool.and_eq_true] at h
    have e := of_decide_eq_true h.1
    subst e
    exact .cons ⟨t, rfl⟩ (strIts_vals h.2)
theorem sqt_of {K : PySem.W.Frag} {H : Hp} {a : Addr} {od : Option Addr} {its : Array Value} {n : Nat} {sl : Array (Option Value)} {ys : List Str} (l : K.lookup a = some ⟨.type "tuple", od, .seq its n, sl⟩) (h : StrIts its.toList ys = true) (hs : decide (its.size ≤ 1000) = true) : SqT K H a (ys.map V.str) :=
  .inr ⟨_, its, n, l, rfl, rfl, Nat.le_trans (of_decide_eq_true hs) (by decide), strIts_vals h⟩
/-! the drawing helpers: what a caller needs of them -/
/-- _law_cell: some int -/
def spCell (K : PySem.W.Frag) : Sp := fun vs H Q _ => ∃ (a : Addr) (ns : List Int) (k : Int), vs = [.ref a, .int k] ∧ SqL K H a (ns.map V.int) ∧ ns.length ≤ 63 ∧ 0 ≤ k ∧ ∀ c : Int, Q (.int c) H
/-- _law_draws: a new list of so many ints, none below 0 -/
def spDraws (K : PySem.W.Frag) : Sp := fun vs H Q _ => ∃ (a : Addr) (ns : List Int) (k n : Int), vs = [.ref a, .int k, .int n] ∧ SqL K H a (ns.map V.int) ∧ ns.length ≤ 63 ∧ 0 ≤ k ∧ 0 ≤ n ∧ n ≤ 1000 ∧
  ∀ (ds : List Int) (p : Addr) (H' : Hp), Same H H' → H p = none → H' p = some (.lst (ds.map V.int)) → (ds.length : Int) = n → Q (.ref p) H'
/-- _law_take: an int below m; the list without its first -/
def spTake : Sp := fun vs H Q _ => ∃ (l : Addr) (ds : List Int) (m : Int), vs = [.ref l, .int m] ∧ H l = some (.lst (ds.map V.int)) ∧ 0 < m ∧ ∀ r : Int, 0 ≤ r → r < m → Q (.int r) (upd H l (.lst (ds.tail.map V.int)))
theorem map_tail {ds : List Int} : (ds.map V.int).tail = ds.tail.map V.int := by cases ds <;> rfl
theorem eraseIdx0 {α : Type} (xs : List α) : xs.eraseIdx 0 = xs.tail := by cases xs <;> rfl
/-- text * count -/
def rMulS : R2 := fun x y H Q => ∃ (z : Str) (n : Int), x = .str z ∧ y = .int n ∧ 0 ≤ n ∧ n ≤ 1000 ∧ z.length ≤ 10000 ∧ Q (.str (Txt.mul z n)) H
theorem mul_ok {z : Str} {n : Int} (h0 : 0 ≤ n) (h1 : n ≤ 1000) (hz : z.length ≤ 10000) : MulOk z n := by
  refine ⟨?_, fun h2 _ => ?_, fun _ _ => ?_⟩
  · rw [decide_eq_false (by omega), decide_eq_false (by omega)]
    rfl
  · intro h3
    have h4 : (2 ^ 63 - 1) / n ≥ (2 ^ 63 - 1) / 1000 := by
      refine Int.le_ediv_of_mul_le (by omega) ?_
      have : (2 ^ 63 - 1 : Int) / 1000 * n ≤ (2 ^ 63 - 1) / 1000 * 1000 := Int.mul_le_mul_of_nonneg_left h1 (by decide)
      exact Int.le_trans this (by decide)
    have h5 : ((2 : Int) ^ 63 - 1) / 1000 ≥ 10001 := by decide
    omega
  · unfold Builtin.Str.tooLong
    refine decide_eq_false ?_
    have : z.length * n.toNat ≤ 10000 * 1000 := Nat.mul_le_mul hz (by omega)
    have : sizeLine ≥ 10000000 := by decide
    omega
theorem op_mul_str {X : Cx} : OpR X (binaryOp .Mult) rMulS := by
  intro pins s σ H x y v u Q I rx ry h
  obtain ⟨z, n, rfl, rfl, h0, h1, hz, q⟩ := h
  obtain ⟨t, rfl⟩ := rx
  obtain ⟨t', rfl⟩ := ry
  exact PySem.SB.mul (mul_ok h0 h1 hz) fun t' k => ⟨.str (Txt.mul z n), H, I.tok _, ⟨_, rfl⟩, q⟩
/-- data of tuples, so many deep -/
def TupN : Nat → PyData → Prop
  | 0, _ => False
  | n + 1, .tuple ds => ds.length ≤ 100000 ∧ ∀ d ∈ ds, TupN n d
  | _ + 1, .list _ => False
  | _ + 1, .dict _ => False
  | _ + 1, _ => True
/-- _law_same upon the same data twice -/
def spSame (K : PySem.W.Frag) (n : Nat) : Sp := fun vs H Q _ => ∃ (x y : V) (d : PyData), vs = [x, y] ∧ Dp K H x d ∧ Dp K H y d ∧ TupN n d ∧ ∀ H', Same H H' → Q (.bl true) H'
theorem dpAll_len {K : PySem.W.Frag} {H : Hp} : ∀ {vs : List V} {ds : List PyData}, DpAll K H vs ds → vs.length = ds.length
  | _, _, .nil => rfl
  | _, _, .cons _ t => congrArg Nat.succ (dpAll_len t)
theorem dpAll_at {K : PySem.W.Frag} {H : Hp} : ∀ {vs : List V} {ds : List PyData}, DpAll K H vs ds → ∀ (i : Nat) (v : V) (d : PyData), vs[i]? = some v → ds[i]? = some d → Dp K H v d
  | _, _, .nil, i, v, d, h, _ => by simp at h
  | _, _, .cons a _, 0, v, d, h, h' => by
    simp at h h'
    rw [← h, ← h']
    exact a
  | _, _, .cons _ t, i + 1, v, d, h, h' => dpAll_at t i v d (by simpa using h) (by simpa using h')
mutual
theorem Dp.same {K : PySem.W.Frag} {H H' : Hp} (e : Same H H') : ∀ {d : PyData} {v : V}, Dp K H v d → Dp K H' v d
  | _, _, .non => .non
  | _, _, .bl b => .bl b
  | _, _, .int i => .int i
  | _, _, .str x => .str x
  | _, _, .lst h a => .lst (e.seq h) (DpAll.same e a)
  | _, _, .tup h a => .tup (Same.seqT e h) (DpAll.same e a)
theorem DpAll.same {K : PySem.W.Frag} {H H' : Hp} (e : Same H H') : ∀ {ds : List PyData} {vs : List V}, DpAll K H vs ds → DpAll K H' vs ds
  | _, _, .nil => .nil
  | _, _, .cons a t => .cons (Dp.same e a) (DpAll.same e t)
end
theorem tyT {K : PySem.W.Frag} {H : Hp} {a : Addr} {xs : List V} (h : SqT K H a xs) : TyX K H (.ref a) (.type "tuple") := by
  rcases h with (h | ⟨o, h⟩) | ⟨o, _, _, h, hc, _⟩
  · exact .base (.tup h)
  · exact .fTuple h
  · exact .kTuple h hc
theorem atI_some {α : Type} {xs : List α} {i : Nat} (h : i < xs.length) : atI xs (i : Int) = some xs[i] := atI_nat (List.getElem?_eq_getElem h)
/-- a sign that a text may have -/
def ChrOk (c : Nat) : Prop := 32 ≤ c ∧ c ≤ 126 ∧ c ≠ 37
instance (c : Nat) : Decidable (ChrOk c) := inferInstanceAs (Decidable (_ ∧ _))
def spChar : Sp := fun vs H Q _ => ∃ d : Int, vs = [.int d] ∧ ∀ c : Nat, ChrOk c → Q (.str (sg c)) H
/-! rules whose reading names the written part, said with it given (a comprehension's block wants that) -/
theorem ixT {X : Cx} {K : PySem.W.Frag} (h : X.K = K := by rfl) : IxR X (rIxT K) := by
  subst h
  exact ix_tup
theorem ixL {X : Cx} {K : PySem.W.Frag} (h : X.K = K := by rfl) : IxR X (rIxL K) := by
  subst h
  exact ix_list
def rLenQ (K : PySem.W.Frag) : List V → Hp → VK → Prop := fun xs H Q => ∃ p ys, xs = [.ref p] ∧ (SqL K H p ys ∨ SqT K H p ys) ∧ Q (.int ys.length) H
theorem lenQ {X : Cx} {K : PySem.W.Frag} (h : X.K = K := by rfl) : CallR X (.builtin "len") (rLenQ K) := by
  subst h
  exact call_len_seq
section
variable {K : PySem.W.Frag} {σ : L2.St} {H : Hp} {i : Nat} {x : V} {t T : String} {tt u : TS} {D : Ends}
theorem ev_isi {b : Bool} {Q : VK} (h : σ[i]? = some (some x)) (ty : TyX K H x (.type t)) (k : kitB t T = some b) (q : Q (.bl b) H) : tCB (rIsi K) (tCons (tVar i) (tCons (tC (.ty T)) tNil)) σ H Q := ⟨x, h, x, .ty T, _, _, b, rfl, .ty _, ty, kit_ty k, q⟩
theorem if_isiF (h : σ[i]? = some (some x)) (ty : TyX K H x (.type t)) (k : kitB t T = some false) (q : u D σ H) : tIfS (tB (tCB (rIsi K) (tCons (tVar i) (tCons (tC (.ty T)) tNil)))) tt u D σ H := ev_isi h ty k ⟨_, rfl, iteF q⟩
theorem if_isiT (h : σ[i]? = some (some x)) (ty : TyX K H x (.type t)) (k : kitB t T = some true) (q : tt D σ H) : tIfS (tB (tCB (rIsi K) (tCons (tVar i) (tCons (tC (.ty T)) tNil)))) tt u D σ H := ev_isi h ty k ⟨_, rfl, iteT q⟩
end
/-- an object that H does not know may change -/
theorem Same.mut {H H1 : Hp} {p : Addr} (o : HO) (e : Same H H1) (n : H p = none) : Same H (upd H1 p o) := fun b u h => by
  rw [upd_ne (ne_of_none h n)]
  exact e b u h
end Pf

namespace Pf
open PySem PySem.StrLaws PySem.Builtin PySem.Builtin.Str
/-! one sign counted and sought in a text -/
theorem occ1_turn {s : Str} {c limit i : Nat} {st : Array Nat × Nat} (h1 : st.1.size < limit) (h2 : st.2 ≤ i) :
    occBody s ⟨#[c]⟩ s.length limit i st = if s.cps.toList[i]? = some c then pure (ForInStep.yield (st.1.push i, i + 1)) else pure (ForInStep.yield st) := by
  have k := subAt_one s c i
  unfold occBody
  by_cases h : s.cps.toList[i]? = some c
  · rw [if_pos h, if_pos ⟨⟨⟨h1, h2⟩, (k.mpr h).1⟩, (k.mpr h).2⟩]
    rfl
  · rw [if_neg h, if_neg fun z => h (k.mp ⟨z.1.2, z.2⟩)]
theorem count1_go (s : Str) (c : Nat) : ∀ (m a : Nat) (st : Array Nat × Nat), a + m = s.length + 1 → st.2 ≤ a → st.1.size ≤ a →
    (forIn (List.range' a m) st (occBody s ⟨#[c]⟩ s.length (s.length + 1))).run.1.size = st.1.size + (s.cps.toList.drop a).count c
  | 0, a, st, e, h1, h2 => by
    have : s.cps.toList.drop a = [] := List.drop_eq_nil_of_le (by simp [Str.length] at e ⊢; omega)
    rw [this]
    rfl
  | m + 1, a, st, e, h1, h2 => by
    rw [List.range'_succ, List.forIn_cons, occ1_turn (by omega) h1]
    by_cases h : s.cps.toList[a]? = some c
    · rw [if_pos h]
      have hl : a < s.cps.toList.length := (List.getElem?_eq_some_iff.mp h).1
      have hd := List.drop_eq_getElem_cons hl
      have hc : s.cps.toList[a] = c := (List.getElem?_eq_some_iff.mp h).2
      have ih := count1_go s c m (a + 1) (st.1.push a, a + 1) (by omega) (Nat.le_refl _) (by simp; omega)
      rw [hd, hc, List.count_cons_self]
      refine Eq.trans ih ?_
      simp
      omega
    · rw [if_neg h]
      have ih := count1_go s c m (a + 1) st (by omega) (by omega) (by omega)
      refine Eq.trans ih ?_
      by_cases hl : a < s.cps.toList.length
      · have hd := List.drop_eq_getElem_cons hl
        rw [hd, List.count_cons_of_ne]
        intro e2
        exact h (by rw [List.getElem?_eq_getElem hl, e2])
      · rw [List.drop_eq_nil_of_le (by omega), List.drop_eq_nil_of_le (by omega)]
theorem count1 (s : Str) (c : Nat) : Txt.count s ⟨#[c]⟩ = ((s.cps.toList.count c : Nat) : Int) := by
  unfold Txt.count
  rw [occ_eq, Array.length_toList, count1_go s c (s.length + 1 - 0) 0 (#[], 0) (by omega) (Nat.le_refl _) (Nat.le_refl _)]
  simp
/-- the place of the last c, as rfind tells it -/
def lastAt (c : Nat) : List Nat → Int
  | [] => -1
  | x :: l => if lastAt c l = -1 then (if x = c then 0 else -1) else lastAt c l + 1
theorem lastAt_ge (c : Nat) : ∀ l, -1 ≤ lastAt c l
  | [] => Int.le_refl _
  | x :: l => by
    have := lastAt_ge c l
    unfold lastAt
    split
    · split <;> omega
    · omega
theorem lastAt_app (c x : Nat) : ∀ l, lastAt c (l ++ [x]) = if x = c then (l.length : Int) else lastAt c l
  | [] => by
    by_cases h : x = c <;> simp [lastAt, h]
  | y :: l => by
    have ih := lastAt_app c x l
    show (if lastAt c (l ++ [x]) = -1 then (if y = c then (0 : Int) else -1) else lastAt c (l ++ [x]) + 1) = _
    rw [ih]
    by_cases h : x = c
    · rw [if_pos h, if_pos h, if_neg (by omega)]
      simp
    · rw [if_neg h, if_neg h]
      rfl
def lastBody (s sub : Str) (hi : Nat) (i : Nat) (st : Option Nat) : Id (ForInStep (Option Nat)) :=
  if i + sub.length ≤ hi ∧ subAt s sub i = true then pure (ForInStep.yield (some i)) else pure (ForInStep.yield st)
theorem last_eq (s sub : Str) (lo hi : Nat) : lastOccurrence s sub lo hi = (forIn (List.range' lo (hi + 1 - lo)) none (lastBody s sub hi)).run := by
  unfold lastOccurrence lastBody
  simp
theorem last1_go (s : Str) (c : Nat) : ∀ (m a : Nat) (st : Option Nat), a + m = s.length + 1 →
    (forIn (List.range' a m) st (lastBody s ⟨#[c]⟩ s.length)).run = if lastAt c (s.cps.toList.drop a) = -1 then st else some (a + (lastAt c (s.cps.toList.drop a)).toNat)
  | 0, a, st, e => by
    have : s.cps.toList.drop a = [] := List.drop_eq_nil_of_le (by simp [Str.length] at e ⊢; omega)
    rw [this]
    rfl
  | m + 1, a, st, e => by
    have k := subAt_one s c a
    rw [List.range'_succ, List.forIn_cons]
    by_cases h : s.cps.toList[a]? = some c
    · have e1 : lastBody s ⟨#[c]⟩ s.length a st = pure (ForInStep.yield (some a)) := if_pos (k.mpr h)
      rw [e1]
      have hl : a < s.cps.toList.length := (List.getElem?_eq_some_iff.mp h).1
      have hd := List.drop_eq_getElem_cons hl
      have hc : s.cps.toList[a] = c := (List.getElem?_eq_some_iff.mp h).2
      refine Eq.trans (last1_go s c m (a + 1) (some a) (by omega)) ?_
      rw [hd, hc]
      have g := lastAt_ge c (s.cps.toList.drop (a + 1))
      show _ = if (if lastAt c (s.cps.toList.drop (a + 1)) = -1 then (if c = c then (0 : Int) else -1) else lastAt c (s.cps.toList.drop (a + 1)) + 1) = -1 then st else some (a + (if lastAt c (s.cps.toList.drop (a + 1)) = -1 then (if c = c then (0 : Int) else -1) else lastAt c (s.cps.toList.drop (a + 1)) + 1).toNat)
      by_cases h0 : lastAt c (s.cps.toList.drop (a + 1)) = -1
      · rw [if_pos h0, if_pos h0, if_pos rfl, if_neg (by decide)]
        rfl
      · rw [if_neg h0, if_neg h0, if_neg (by omega)]
        congr 1
        omega
    · have e1 : lastBody s ⟨#[c]⟩ s.length a st = pure (ForInStep.yield st) := if_neg fun z => h (k.mp z)
      rw [e1]
      refine Eq.trans (last1_go s c m (a + 1) st (by omega)) ?_
      by_cases hl : a < s.cps.toList.length
      · have hd := List.drop_eq_getElem_cons hl
        have hc : s.cps.toList[a] ≠ c := fun e2 => h (by rw [List.getElem?_eq_getElem hl, e2])
        rw [hd]
        have g := lastAt_ge c (s.cps.toList.drop (a + 1))
        show _ = if (if lastAt c (s.cps.toList.drop (a + 1)) = -1 then (if s.cps.toList[a] = c then (0 : Int) else -1) else lastAt c (s.cps.toList.drop (a + 1)) + 1) = -1 then st else some (a + (if lastAt c (s.cps.toList.drop (a + 1)) = -1 then (if s.cps.toList[a] = c then (0 : Int) else -1) else lastAt c (s.cps.toList.drop (a + 1)) + 1).toNat)
        by_cases h0 : lastAt c (s.cps.toList.drop (a + 1)) = -1
        · rw [if_pos h0, if_pos h0, if_neg hc, if_pos rfl]
        · rw [if_neg h0, if_neg h0, if_neg (by omega)]
          congr 1
          omega
      · rw [List.drop_eq_nil_of_le (by omega), List.drop_eq_nil_of_le (by omega)]
        rfl
theorem rfind1 (s : Str) (c : Nat) : Txt.rfind s ⟨#[c]⟩ = lastAt c s.cps.toList := by
  unfold Txt.rfind
  rw [last_eq, last1_go s c (s.length + 1 - 0) 0 none (by omega), List.drop_zero]
  have g := lastAt_ge c s.cps.toList
  by_cases h0 : lastAt c s.cps.toList = -1
  · rw [if_pos h0, h0]
  · rw [if_neg h0]
    show ((0 + (lastAt c s.cps.toList).toNat : Nat) : Int) = _
    omega
end Pf

namespace Pf
open PySem PySem.Spec PyProof.Rows L2
/-! texts by the lists of their codes -/
abbrev T (l : List Nat) : Str := ⟨l.toArray⟩
theorem T_of (x : Str) : x = T x.cps.toList := TL.ext_tl rfl
theorem T_len (l : List Nat) : (T l).length = l.length := by simp [Str.length]
theorem T_cat (a b : List Nat) : T a ++ T b = T (a ++ b) := TL.ext_tl (TL.tl_append (T a) (T b))
theorem T_inj {a b : List Nat} (h : T a = T b) : a = b := congrArg (fun x : Str => x.cps.toList) h
theorem T_eq {a b : List Nat} : decide (T a = T b) = decide (a = b) := by
  by_cases h : a = b
  · rw [h, decide_eq_true rfl, decide_eq_true rfl]
  · rw [decide_eq_false h, decide_eq_false fun e => h (T_inj e)]
theorem V_eq {a b : List Nat} : decide (V.str (T a) = V.str (T b)) = decide (a = b) := by
  by_cases h : a = b
  · rw [h, decide_eq_true rfl, decide_eq_true rfl]
  · rw [decide_eq_false h, decide_eq_false fun e => h (T_inj (V.str.inj e))]
theorem cut_to (l : List Nat) (n : Nat) : cutS (T l) none (some (n : Int)) = T (l.take n) := by
  unfold cutS
  rw [HT.sIx_none, HT.sIx_nat, T_len]
  refine TL.ext_tl ?_
  show (l.drop 0).take (min n l.length - 0) = l.take n
  rw [List.drop_zero, Nat.sub_zero, ← List.take_eq_take_min]
theorem cut_from (l : List Nat) (n : Nat) : cutS (T l) (some (n : Int)) none = T (l.drop n) := by
  unfold cutS
  rw [HT.sIx_none, HT.sIx_nat, T_len]
  refine TL.ext_tl ?_
  show (l.drop (min n l.length)).take (l.length - min n l.length) = l.drop n
  by_cases h : n ≤ l.length
  · rw [Nat.min_eq_left h, List.take_of_length_le (by rw [List.length_drop]; omega)]
  · rw [Nat.min_eq_right (by omega), List.drop_eq_nil_of_le (by omega), List.drop_eq_nil_of_le (by omega), List.take_nil]
theorem cut_mid (l : List Nat) {a b : Nat} (ha : a ≤ b) (hb : b ≤ l.length) : cutS (T l) (some (a : Int)) (some (b : Int)) = T ((l.drop a).take (b - a)) := by
  unfold cutS
  rw [HT.sIx_nat, HT.sIx_nat, T_len, Nat.min_eq_left (show a ≤ l.length by omega), Nat.min_eq_left hb]
/-- a text walked by its signs -/
theorem for_txt {l : List Nat} {g : TG} {tb : TS} {D : Ends} {σ : L2.St} {H : Hp} (Pv : Nat → L2.St → Hp → Prop) (h0 : Pv 0 σ H)
    (hs : ∀ i c σ H, l[i]? = some c → Pv i σ H → g (.str (sg c)) σ H fun σ2 H2 => tb { D with nx := Pv (i + 1), ct := Pv (i + 1), bk := D.nx } σ2 H2) (hd : ∀ σ H, Pv l.length σ H → D.nx σ H) :
    ∃ W : Nat → Nat → L2.St → Hp → Prop, (∃ m, W 0 m σ H) ∧ ∀ i m σ H, W i m σ H →
      ((Its (T l)).stop i H ∧ D.nx σ H) ∨ ((Its (T l)).go i H ∧ ∃ N : L2.St → Hp → Prop, (∀ σ' H', N σ' H' → ∃ m', m' < m ∧ W (i + 1) m' σ' H') ∧ ∀ x H', (Its (T l)).yld i H x H' → g x σ H' fun σ2 H2 => tb { D with nx := N, ct := N, bk := D.nx } σ2 H2) := by
  refine ⟨fun i m σ H => m = l.length - i ∧ i ≤ l.length ∧ Pv i σ H, ⟨l.length, by simp, Nat.zero_le _, h0⟩, ?_⟩
  rintro i m σ H ⟨rfl, hi, p⟩
  by_cases hlt : i < l.length
  · refine .inr ⟨(by show i < l.toArray.size; simpa using hlt), Pv (i + 1), fun σ' H' p' => ⟨l.length - (i + 1), by omega, rfl, hlt, p'⟩, fun x H' y => ?_⟩
    obtain ⟨rfl, c, hc, rfl⟩ := y
    exact hs i c σ H' (by simpa using hc) p
  · have e : i = l.length := by omega
    subst e
    exact .inl ⟨(by show l.toArray.size ≤ l.length; simp), hd _ _ p⟩
/-- a comprehension over a text -/
theorem lc_txt {l : List Nat} {g : TG} {tt : TT} {te : TE} {vs : List Nat} {σ : L2.St} {H1 : Hp} {D : Addr} {Qd : Hp → Prop} (Pv : Nat → Hp → Prop) (h0 : Pv 0 (upd H1 D (.lst [])))
    (hs : ∀ i c H, l[i]? = some c → Pv i H → g (.str (sg c)) (wipe σ vs) H fun σ2 H2 => wipe σ2 vs = wipe σ vs ∧ tt σ2 H2 fun b H3 =>
      if b = true then te σ2 H3 fun y H4 => ∃ acc, H4 D = some (.lst acc) ∧ acc.length < sizeLine ∧ Pv (i + 1) (upd H4 D (.lst (acc ++ [y]))) else Pv (i + 1) H3) (hd : ∀ H, Pv l.length H → Qd H) :
    ∃ W : Nat → Nat → Hp → Prop, (∃ m, W 0 m (upd H1 D (.lst []))) ∧ ∀ i m H, W i m H →
      ((Its (T l)).stop i H ∧ Qd H) ∨ ((Its (T l)).go i H ∧ ∃ Nx : Hp → Prop, (∀ H', Nx H' → ∃ m', m' < m ∧ W (i + 1) m' H') ∧ ∀ x H', (Its (T l)).yld i H x H' → g x (wipe σ vs) H' fun σ2 H2 => wipe σ2 vs = wipe σ vs ∧ tt σ2 H2 fun b H3 =>
        if b = true then te σ2 H3 fun y H4 => ∃ acc, H4 D = some (.lst acc) ∧ acc.length < sizeLine ∧ Nx (upd H4 D (.lst (acc ++ [y]))) else Nx H3) := by
  refine ⟨fun i m H => m = l.length - i ∧ i ≤ l.length ∧ Pv i H, ⟨l.length, by simp, Nat.zero_le _, h0⟩, ?_⟩
  rintro i m H ⟨rfl, hi, p⟩
  by_cases hlt : i < l.length
  · refine .inr ⟨(by show i < l.toArray.size; simpa using hlt), Pv (i + 1), fun H' p' => ⟨l.length - (i + 1), by omega, rfl, hlt, p'⟩, fun x H' y => ?_⟩
    obtain ⟨rfl, c, hc, rfl⟩ := y
    exact hs i c H' (by simpa using hc) p
  · have e : i = l.length := by omega
    subst e
    exact .inl ⟨(by show l.toArray.size ≤ l.length; simp), hd _ p⟩
theorem small9 {n : Nat} (h : n ≤ 1000000) : n ≤ sizeLine := Nat.le_trans h (by decide)
/-- a sign of a text all of whose signs are of a kind -/
theorem ix_of {z : Str} {i : Int} {H : Hp} {Q : VK} (p : Nat → Bool) (h0 : 0 ≤ i) (h1 : i < (z.length : Int)) (hz : z.length ≤ sizeLine) (hc : z.cps.toList.all p = true) (q : ∀ c, p c = true → Q (.str (sg c)) H) : rIxS (.str z) (.int i) H Q := by
  have hl : z.length = z.cps.toList.length := by simp [Str.length]
  have hi : i.toNat < z.cps.toList.length := by omega
  have ei : i = ((i.toNat : Nat) : Int) := by omega
  refine ⟨z, i, z.cps.toList[i.toNat], rfl, rfl, hz, ?_, q _ (List.all_eq_true.mp hc _ (List.getElem_mem hi))⟩
  have := atI_some hi
  rw [← ei] at this
  exact this
theorem nl_eq : Str.ofString "\n" = T [10] := by decide +kernel
theorem e_eq : Str.ofString "" = T [] := by decide +kernel
end Pf

namespace Pf
open PySem PySem.Spec PyProof.Rows L2
def topS (i : Nat) : Stmt := PySem.Challenge.pw_ontoworks_k40_place.main.body.getD i (.Pass ⟨0, 0, 0, 0⟩)
abbrev s_place : Stmt := topS 1
theorem sc_place : FnScope ["text", "at", "before"] ["text", "at"] (defScope s_place) := ⟨rfl, rfl, rfl, by decide +kernel, rfl, by decide +kernel, by decide +kernel⟩
abbrev s_law_cell : Stmt := topS 3
theorem sc_law_cell : FnScope ["script", "k"] ["script", "k"] (defScope s_law_cell) := ⟨rfl, rfl, rfl, by decide +kernel, rfl, by decide +kernel, by decide +kernel⟩
abbrev s_law_draws : Stmt := topS 4
theorem sc_law_draws : FnScope ["script", "k", "count", "cell", "rest", "seed", "found", "at"] ["script", "k", "count"] (defScope s_law_draws) := ⟨rfl, rfl, rfl, by decide +kernel, rfl, by decide +kernel, by decide +kernel⟩
abbrev s_law_take : Stmt := topS 5
theorem sc_law_take : FnScope ["draws", "many"] ["draws", "many"] (defScope s_law_take) := ⟨rfl, rfl, rfl, by decide +kernel, rfl, by decide +kernel, by decide +kernel⟩
abbrev s_law_same : Stmt := topS 6
theorem sc_law_same : FnScope ["actual", "due", "k"] ["actual", "due"] (defScope s_law_same) := ⟨rfl, rfl, rfl, by decide +kernel, rfl, by decide +kernel, by decide +kernel⟩
abbrev s_law_char : Stmt := topS 7
theorem sc_law_char : FnScope ["draw", "chars"] ["draw"] (defScope s_law_char) := ⟨rfl, rfl, rfl, by decide +kernel, rfl, by decide +kernel, by decide +kernel⟩
abbrev s_law_place : Stmt := topS 8
theorem sc_law_place : FnScope ["text", "at", "line", "column", "char"] ["text", "at"] (defScope s_law_place) := ⟨rfl, rfl, rfl, by decide +kernel, rfl, by decide +kernel, by decide +kernel⟩
abbrev s_law : Stmt := topS 9
theorem sc_law : FnScope ["script", "draws", "size", "text", "k", "at"] ["script"] (defScope s_law) := ⟨rfl, rfl, rfl, by decide +kernel, rfl, by decide +kernel, by decide +kernel⟩
local macro_rules | `(tactic| walk_at "w") => `(tactic| repeat (first
  | refine ⟨_, rfl, ?_⟩
  | refine ⟨_, _, rfl, rfl, .inr ⟨by decide, by decide⟩, ?_⟩
  | refine ⟨_, _, rfl, rfl, ⟨by decide, by decide⟩, ?_⟩
  | refine ⟨_, _, rfl, rfl, ⟨by decide, by decide, by decide⟩, ?_⟩
  | refine ⟨_, _, rfl, rfl, (by show (0 : Int) < _; decide), ?_⟩
  | refine ⟨_, _, rfl, rfl, ?_⟩
  | refine .inl ⟨_, rfl, ?_⟩))
section
variable {P : Program} {w : World} {K : PySem.W.Frag} {mg : Str → Option Value} {base : Heap}
theorem at_int {ns : List Int} {k : Int} (h0 : 0 ≤ k) (h : k < ((ns.map V.int).length : Int)) : ∃ c, atI (ns.map V.int) k = some (.int c) := by
  have hk : k.toNat < ns.length := by rw [List.length_map] at h; omega
  have ek : k = ((k.toNat : Nat) : Int) := by omega
  have q : atI (ns.map V.int) ((k.toNat : Nat) : Int) = some (.int ns[k.toNat]) := atI_nat (by rw [List.getElem?_map, List.getElem?_eq_getElem hk] <;> rfl)
  rw [← ek] at q
  exact ⟨_, q⟩
theorem c_law_cell {f : Addr} {fd : FuncData} (D : Df K mg "_law_cell" s_law_cell f fd ["script", "k"]) (z_len : mg "len" = none) (z_int : mg "int" = none) : Cl P w K mg base 1 "_law_cell" (spCell K) := by
  refine D.cl sc_law_cell (fun vs H Q E h => ?_) (fun cdv A outer s H vs Q E hr h => ?_)
  · obtain ⟨a, ns, k, rfl, _⟩ := h
    rfl
  obtain ⟨a, ns, k, rfl, hS, h63, h0, q⟩ := h
  refine ⟨_, (pss_cons (ps_if (pt_cmpR op_lt (pv 1) (pe_callB call_len_seq (by rfl) z_len PySem.boot_len (pa_cons (pv 0) pa_nil)) (nomark _)) (pss_one (ps_ret (pe_callTy call_int1 (by rfl) z_int (by decide +kernel) (pa_cons (pe_ix ix_list (pv 0) (pv 1) (fun _ _ => rfl)) pa_nil)))) pss_nil)
      (pss_one (ps_ret pe_int))), ?_⟩
  refine ⟨_, rfl, _, rfl, a, _, rfl, .inl hS, _, _, rfl, rfl, _, rfl, ite2 (fun c => ?_) (fun c => ?_)⟩
  · obtain ⟨v, hv⟩ := at_int (ns := ns) h0 (of_decide_eq_true c)
    exact ⟨_, rfl, _, rfl, a, _, _, _, rfl, rfl, hS, hv, .inl ⟨_, rfl, q v⟩⟩
  · exact q 0
theorem c_law_take {f : Addr} {fd : FuncData} (D : Df K mg "_law_take" s_law_take f fd ["draws", "many"]) (z_int : mg "int" = none) : Cl P w K mg base 1 "_law_take" spTake := by
  refine D.cl sc_law_take (fun vs H Q E h => ?_) (fun cdv A outer s H vs Q E hr h => ?_)
  · obtain ⟨l, ds, m, rfl, _⟩ := h
    rfl
  obtain ⟨l, ds, m, rfl, hl, hm, q⟩ := h
  refine ⟨_, (pss_cons (ps_if (pt_not (pt_truth (pv 0) (by intro _; rfl))) (pss_one (ps_ret pe_int)) pss_nil)
      (pss_one (ps_ret (pe_op op_mod (pe_callTy call_int1 (by rfl) z_int (by decide +kernel) (pa_cons (pe_bm PySem.F.plainAttrs_list PySem.F.slot_list_pop PySem.F.type_list_pop mt_popAt (pv 0) (pa_cons pe_int pa_nil)) pa_nil)) (pv 1))))), ?_⟩
  cases ds with
  | nil =>
    refine ⟨_, rfl, false, .inl ⟨_, SqL.of hl, rfl⟩, iteT ?_⟩
    have := q 0 (Int.le_refl 0) hm
    rw [show upd H l (.lst (([] : List Int).tail.map V.int)) = H from upd_self hl] at this
    exact this
  | cons d r =>
    refine ⟨_, rfl, true, .inl ⟨_, SqL.of hl, rfl⟩, iteF ?_⟩
    refine ⟨_, rfl, .inl ⟨rfl, _, SqL.of hl⟩, l, _, _, 0, .int d, rfl, rfl, hl, by decide, by decide, seqIndex?_zero (Nat.succ_pos _), rfl, .inl ⟨_, rfl, _, rfl, _, _, rfl, rfl, hm, ?_⟩⟩
    exact q (d % m) (Int.emod_nonneg _ (by omega)) (Int.emod_lt_of_pos _ hm)
theorem c_law_draws {f : Addr} {fd : FuncData} (D : Df K mg "_law_draws" s_law_draws f fd ["script", "k", "count"]) (c_law_cell : Cl P w K mg base 1 "_law_cell" (spCell K)) (z_int : mg "int" = none) (z_range : mg "range" = none) : Cl P w K mg base 2 "_law_draws" (spDraws K) := by
  refine D.cl sc_law_draws (fun vs H Q E h => ?_) (fun cdv A outer s H vs Q E hr h => ?_)
  · obtain ⟨a, ns, k, n, rfl, _⟩ := h
    rfl
  obtain ⟨a, ns, k, n, rfl, hS, h63, h0, hn0, hn, q⟩ := h
  refine ⟨_, (pss_cons (ps_set (i := 3) sc_law_draws.nd rfl (.inl rfl) (pc c_law_cell hr (by first | decide | omega) (by rfl) (pa_cons (pv 0) (pa_cons (pv 1) pa_nil))))
      (pss_cons (ps_set (i := 4) sc_law_draws.nd rfl (.inl rfl) pe_int)
      (Evl.pss_cut (ps_if (pt_cmpR op_ge (pv 3) (pe_op op_pow pe_int pe_int) (nomark _)) (pss_one (ps_set (i := 4) sc_law_draws.nd rfl (.inl rfl) (pe_op op_fdivW (pv 3) (pe_op op_pow pe_int pe_int)))) pss_nil)
      (pss_cons (ps_set (i := 5) sc_law_draws.nd rfl (.inl rfl) (pe_op op_mod (pe_callTy call_int1 (by rfl) z_int (by decide +kernel) (pa_cons (pe_op op_add (pe_op op_add (pe_op op_mul (pv 3) pe_int) (pe_op op_mul (pv 1) pe_int)) pe_int) pa_nil)) pe_int))
      (pss_cons (ps_set (i := 6) sc_law_draws.nd rfl (.inl rfl) (pe_lst pa_nil))
      (pss_cons (ps_for PassesOwn.never rfl (pi_range1 (by rfl) z_range (pa_cons (pv 2) pa_nil)) (pg_name (i := 7) sc_law_draws.nd rfl (.inl rfl)) (pss_cons (ps_set (i := 5) sc_law_draws.nd rfl (.inl rfl) (pe_op op_mod (pe_callTy call_int1 (by rfl) z_int (by decide +kernel) (pa_cons (pe_op op_add (pe_op op_add (pe_op op_mul (pv 5) pe_int) (pe_op op_mul (pv 7) pe_int)) pe_int) pa_nil)) pe_int))
      (pss_one (ps_if (pt_cmpR op_gt (pv 4) pe_int (nomark _)) (pss_cons (ps_expr (pe_bm PySem.F.plainAttrs_list PySem.F.slot_list_append PySem.F.type_list_append mt_append (pv 6) (pa_cons (pe_op op_mod (pe_callTy call_int1 (by rfl) z_int (by decide +kernel) (pa_cons (pv 4) pa_nil)) pe_int) pa_nil)))
      (pss_one (ps_set (i := 4) sc_law_draws.nd rfl (.inl rfl) (pe_op op_fdiv (pv 4) pe_int)))) (pss_one (ps_expr (pe_bm PySem.F.plainAttrs_list PySem.F.slot_list_append PySem.F.type_list_append mt_append (pv 6) (pa_cons (pe_op op_mod (pe_callTy call_int1 (by rfl) z_int (by decide +kernel) (pa_cons (pe_op op_fdiv (pv 5) pe_int) pa_nil)) pe_int) pa_nil))))))))
      (pss_one (ps_ret (pv 6))))))))), ?_⟩
  refine ⟨_, rfl, _, rfl, a, ns, k, rfl, hS, h63, h0, fun c => ?_⟩
  walk_at "w"
  refine ⟨fun σ' H' => ∃ r : Int, σ' = [some (.ref a), some (.int k), some (.int n), some (.int c), some (.int r), none, none, none] ∧ H = H', ?_, ?_⟩
  · walk_at "w"
    refine ite2 (fun c1 => ?_) (fun c1 => ?_)
    · walk_at "w"
      exact rfl
    · exact ⟨0, rfl, rfl⟩
  rintro _ _ ⟨r, rfl, rfl⟩
  walk_at "w"
  refine ⟨Nat.zero_le _, fun p hp => ?_⟩
  walk_at "w"
  refine ⟨by omega, by omega, for_range (lo := 0) (n := n.toNat) (fun i σ' H' => ∃ (r sd : Int) (x : Option V) (ds : List Int), σ' = [some (.ref a), some (.int k), some (.int n), some (.int c), some (.int r), some (.int sd), some (.ref p), x] ∧ ds.length = i ∧ H' = upd H p (.lst (ds.map V.int))) ⟨_, _, none, [], rfl, rfl, rfl⟩ ?_ ?_⟩
  · rintro i _ _ hi ⟨r, sd, x, ds, rfl, hd, rfl⟩
    have hz : (ds.map V.int).length < sizeLine := by
      rw [List.length_map]
      exact small1000 (by omega)
    have e1 : ∀ y : Int, upd (upd H p (.lst (ds.map V.int))) p (.lst (ds.map V.int ++ [V.int y])) = upd H p (.lst ((ds ++ [y]).map V.int)) := fun y => by
      rw [upd_upd, List.map_append]
      rfl
    walk_at "w"
    refine ite2 (fun c1 => ?_) (fun c1 => ?_)
    · walk_at "w"
      refine ⟨.inl ⟨rfl, _, SqL.of upd_same⟩, ?_⟩
      walk_at "w"
      refine ⟨p, _, _, rfl, rfl, upd_same, hz, ?_⟩
      walk_at "w"
      exact ⟨_, _, _, ds ++ [_], rfl, by rw [List.length_append, hd]; rfl, e1 _⟩
    · walk_at "w"
      refine ⟨.inl ⟨rfl, _, SqL.of upd_same⟩, ?_⟩
      walk_at "w"
      refine ⟨p, _, _, rfl, rfl, upd_same, hz, ?_⟩
      exact ⟨_, _, _, ds ++ [_], rfl, by rw [List.length_append, hd]; rfl, e1 _⟩
  · rintro _ _ ⟨r, sd, x, ds, rfl, hd, rfl⟩
    exact ⟨_, rfl, q ds p _ (Same.new _ hp) hp upd_same (by omega)⟩
theorem c_law_same {f : Addr} {fd : FuncData} (D : Df K mg "_law_same" s_law_same f fd ["actual", "due"]) (z_isinstance : mg "isinstance" = none) (z_tuple : mg "tuple" = none) (z_bool : mg "bool" = none) (z_int : mg "int" = none) (z_str : mg "str" = none)
    (z_len : mg "len" = none) (z_all : mg "all" = none) (z_range : mg "range" = none) : ∀ n : Nat, Cl P w K mg base (n + 1) "_law_same" (spSame K n)
  | 0 => by
    refine D.cl sc_law_same (fun vs H Q E h => ?_) (fun cdv A outer s H vs Q E hr h => ?_)
    · obtain ⟨x, y, d, rfl, _⟩ := h
      rfl
    · obtain ⟨x, y, d, rfl, _, _, z, _⟩ := h
      exact z.elim
  | n + 1 => by
    have c_law_same := c_law_same D z_isinstance z_tuple z_bool z_int z_str z_len z_all z_range n
    refine D.cl sc_law_same (fun vs H Q E h => ?_) (fun cdv A outer s H vs Q E hr h => ?_)
    · obtain ⟨x, y, d, rfl, _⟩ := h
      rfl
    obtain ⟨x, y, d, rfl, hx, hy, hd, q⟩ := h
    refine ⟨_, (pss_cons (ps_if (pt_val (pe_callB call_isi (by rfl) z_isinstance (by decide +kernel) (pa_cons (pv 1) (pa_cons (pe_bltn (v := .ty "tuple") (u := .type "tuple") (by rfl) z_tuple (by decide +kernel) rfl) pa_nil)))) (pss_cons (ps_if (PW.pt (pw_or (pt_not (pt_val (pe_callB call_isi (by rfl) z_isinstance (by decide +kernel) (pa_cons (pv 0) (pa_cons (pe_bltn (v := .ty "tuple") (u := .type "tuple") (by rfl) z_tuple (by decide +kernel) rfl) pa_nil))))) (pw_or1 (pt_cmpR op_ne (pe_callB call_len_seq (by rfl) z_len PySem.boot_len (pa_cons (pv 0) pa_nil)) (pe_callB call_len_seq (by rfl) z_len PySem.boot_len (pa_cons (pv 1) pa_nil)) (nomark _))))) (pss_one (ps_ret pe_bl)) pss_nil)
      (pss_one (ps_ret (pe_callB (cr_all rfl) (by rfl) z_all (by decide +kernel) (pa_cons (pe_lc (own := [("k", 2)]) (g := gName 2) (tt := tYes) (by rfl) sc_law_same.nd (pi_range1 (by rfl) z_range (pa_cons (pe_callB call_len_seq (by rfl) z_len PySem.boot_len (pa_cons (pv 1) pa_nil)) pa_nil)) (blkOk_by (own := [("k", 2)]) (N := ["actual", "due", "k"]) (sc := defScope s_law_same) (by decide +kernel)) (fun _ _ _ _ _ => pg_name (i := 2) sc_law_same.nd rfl (.inl rfl)) (fun _ _ _ _ _ => pts_nil) (fun _ _ _ _ _ => (pc c_law_same hr (by first | decide | omega) (by rfl) (pa_cons (pe_ix (ixT (K := K)) (pv 0) (pv 2) (fun _ _ => rfl)) (pa_cons (pe_ix (ixT (K := K)) (pv 1) (pv 2) (fun _ _ => rfl)) pa_nil))))) pa_nil))))) pss_nil)
      (pss_cons (ps_if (pt_val (pe_callB call_isi (by rfl) z_isinstance (by decide +kernel) (pa_cons (pv 1) (pa_cons (pe_bltn (v := .ty "bool") (u := .type "bool") (by rfl) z_bool (by decide +kernel) rfl) pa_nil)))) (pss_one (ps_ret (pe_and (pe_callB call_isi (by rfl) z_isinstance (by decide +kernel) (pa_cons (pv 0) (pa_cons (pe_bltn (v := .ty "bool") (u := .type "bool") (by rfl) z_bool (by decide +kernel) rfl) pa_nil))) (pe_one (pe_cmpR op_eq (pv 0) (pv 1) (nomark _)))))) pss_nil)
      (pss_cons (ps_if (pt_val (pe_callB call_isi (by rfl) z_isinstance (by decide +kernel) (pa_cons (pv 1) (pa_cons (pe_bltn (v := .ty "int") (u := .type "int") (by rfl) z_int (by decide +kernel) rfl) pa_nil)))) (pss_one (ps_ret (pe_and (pe_callB call_isi (by rfl) z_isinstance (by decide +kernel) (pa_cons (pv 0) (pa_cons (pe_bltn (v := .ty "int") (u := .type "int") (by rfl) z_int (by decide +kernel) rfl) pa_nil))) (pe_and (pe_not (pe_callB call_isi (by rfl) z_isinstance (by decide +kernel) (pa_cons (pv 0) (pa_cons (pe_bltn (v := .ty "bool") (u := .type "bool") (by rfl) z_bool (by decide +kernel) rfl) pa_nil)))) (pe_one (pe_cmpR op_eq (pv 0) (pv 1) (nomark _))))))) pss_nil)
      (pss_cons (ps_if (pt_val (pe_callB call_isi (by rfl) z_isinstance (by decide +kernel) (pa_cons (pv 1) (pa_cons (pe_bltn (v := .ty "str") (u := .type "str") (by rfl) z_str (by decide +kernel) rfl) pa_nil)))) (pss_one (ps_ret (pe_and (pe_callB call_isi (by rfl) z_isinstance (by decide +kernel) (pa_cons (pv 0) (pa_cons (pe_bltn (v := .ty "str") (u := .type "str") (by rfl) z_str (by decide +kernel) rfl) pa_nil))) (pe_one (pe_cmpR op_eq (pv 0) (pv 1) (nomark _)))))) pss_nil)
      (pss_one (ps_ret (pe_cmpR op_isN (pv 0) pe_non (nomark _)))))))), ?_⟩
    cases d with
    | none =>
      cases hx
      cases hy
      refine if_isiF rfl (.base .non) (by decide +kernel) (if_isiF rfl (.base .non) (by decide +kernel) (if_isiF rfl (.base .non) (by decide +kernel) (if_isiF rfl (.base .non) (by decide +kernel) ?_)))
      exact ⟨_, rfl, rfl, q _ (Same.refl _)⟩
    | bool b =>
      cases hx
      cases hy
      refine if_isiF rfl (.base (.bl b)) (by decide +kernel) (if_isiT rfl (.base (.bl b)) (by decide +kernel) (ev_isi (b := true) rfl (.base (.bl b)) (by decide +kernel) ⟨_, rfl, iteT ?_⟩))
      refine ⟨_, rfl, _, rfl, rfl, ?_⟩
      rw [decide_eq_true rfl]
      exact q _ (Same.refl _)
    | int i =>
      cases hx
      cases hy
      refine if_isiF rfl (.base (.int i)) (by decide +kernel) (if_isiF rfl (.base (.int i)) (by decide +kernel) (if_isiT rfl (.base (.int i)) (by decide +kernel) (ev_isi (b := true) rfl (.base (.int i)) (by decide +kernel) ⟨_, rfl, iteT (ev_isi (b := false) rfl (.base (.int i)) (by decide +kernel) ⟨_, rfl, _, rfl, iteT ?_⟩)⟩)))
      refine ⟨_, rfl, _, rfl, rfl, ?_⟩
      rw [decide_eq_true rfl]
      exact q _ (Same.refl _)
    | str z =>
      cases hx
      cases hy
      refine if_isiF rfl (.base (.str z)) (by decide +kernel) (if_isiF rfl (.base (.str z)) (by decide +kernel) (if_isiF rfl (.base (.str z)) (by decide +kernel) (if_isiT rfl (.base (.str z)) (by decide +kernel) (ev_isi (b := true) rfl (.base (.str z)) (by decide +kernel) ⟨_, rfl, iteT ?_⟩))))
      refine ⟨_, rfl, _, rfl, rfl, ?_⟩
      rw [decide_eq_true rfl]
      exact q _ (Same.refl _)
    | list ds => exact hd.elim
    | dict ds => exact hd.elim
    | tuple ds =>
      cases hx with
      | @tup a xs _ hS hA =>
      cases hy with
      | @tup b ys _ hT hB =>
      have l1 := dpAll_len hA
      have l2 := dpAll_len hB
      refine if_isiT rfl (tyT hT) (by decide +kernel) ?_
      -- not isinstance(actual, tuple) or len(actual) != len(due)
      refine ev_isi (b := true) rfl (tyT hS) (by decide +kernel) ⟨_, rfl, iteF ?_⟩
      refine ⟨_, rfl, a, _, rfl, .inr hS, _, rfl, b, _, rfl, .inr hT, rfl, _, rfl, ?_⟩
      rw [l1, l2, decide_eq_true rfl]
      refine iteF ?_
      -- all of a list of True
      refine ⟨_, rfl, b, _, rfl, .inr hT, _, rfl, by have := hd.1; omega, by have := hd.1; omega, fun L hL => ?_⟩
      refine lc_range (lo := 0) (n := _) (fun i H' => Same H H' ∧ H L = none ∧ H' L = some (.lst ((List.replicate i true).map V.bl))) ⟨Same.new _ hL, hL, upd_same⟩ ?_ ?_
      · rintro i H' hi ⟨e, hn, hl⟩
        have hi' : i < ds.length := by rw [← l2]; exact hi
        have g1 : i < xs.length := by omega
        have g2 : i < _ := hi
        have ei : (0 : Int) + (i : Int) = ((i : Nat) : Int) := by omega
        refine ⟨rfl, ?_⟩
        refine ⟨_, rfl, _, rfl, a, _, _, _, rfl, rfl, Same.seqT e hS, (by rw [ei]; exact atI_some g1), _, rfl, _, rfl, b, _, _, _, rfl, rfl, Same.seqT e hT, (by rw [ei]; exact atI_some g2), ?_⟩
        refine ⟨_, _, ds[i], rfl, Dp.same e (dpAll_at hA i _ _ (List.getElem?_eq_getElem g1) (List.getElem?_eq_getElem hi')), Dp.same e (dpAll_at hB i _ _ (List.getElem?_eq_getElem g2) (List.getElem?_eq_getElem hi')), hd.2 _ (List.getElem_mem hi'), fun H2 e2 => ?_⟩
        refine ⟨_, e2 _ _ hl, ?_, ?_⟩
        · rw [List.length_map, List.length_replicate]
          have := hd.1
          exact Nat.lt_of_lt_of_le (show i < 100001 by omega) (by decide)
        · refine ⟨fun z o hz => ?_, hn, ?_⟩
          · rw [upd_ne (ne_of_none hz hn)]
            exact e2 _ _ (e _ _ hz)
          · rw [upd_same, List.replicate_succ', List.map_append]
            rfl
      · rintro H' ⟨e, hn, hl⟩
        refine ⟨L, _, rfl, SqL.of hl, ?_⟩
        have ea : ∀ n : Nat, (List.replicate n true).all id = true := fun n => by
          induction n with
          | zero => rfl
          | succ n ih => rw [List.replicate_succ, List.all_cons, ih]; rfl
        rw [ea]
        exact q _ e
theorem c_law_char {f : Addr} {fd : FuncData} (D : Df K mg "_law_char" s_law_char f fd ["draw"]) (z_int : mg "int" = none) (z_len : mg "len" = none) : Cl P w K mg base 1 "_law_char" spChar := by
  refine D.cl sc_law_char (fun vs H Q E h => ?_) (fun cdv A outer s H vs Q E hr h => ?_)
  · obtain ⟨d, rfl, _⟩ := h
    rfl
  obtain ⟨d, rfl, q⟩ := h
  refine ⟨_, (pss_cons (ps_set (i := 1) sc_law_char.nd rfl (.inl rfl) pe_str)
      (pss_one (ps_ret (pe_ix ix_str (pv 1) (pe_op op_mod (pe_callTy call_int1 (by rfl) z_int (by decide +kernel) (pa_cons (pv 0) pa_nil)) (pe_callB call_len_str (by rfl) z_len PySem.boot_len (pa_cons (pv 1) pa_nil))) (fun _ _ => rfl))))), ?_⟩
  walk_at "w"
  refine ⟨(by decide +kernel), _, _, rfl, rfl, (by show (0 : Int) < _; decide +kernel), ?_⟩
  refine ix_of (fun c => decide (ChrOk c)) (Int.emod_nonneg _ (by decide +kernel)) (Int.emod_lt_of_pos _ (by decide +kernel)) (by decide +kernel) (by decide +kernel) (fun c hc => ?_)
  exact q c (of_decide_eq_true hc)
/-- line and column of an index -/
def lineOf (l : List Nat) : Int := ((l.count 10 : Nat) : Int) + 1
def colOf (l : List Nat) : Int := (l.length : Int) - lastAt 10 l
def spPlace (K : PySem.W.Frag) : Sp := fun vs H Q _ => ∃ (l : List Nat) (a : Nat), vs = [.str (T l), .int (a : Int)] ∧ a ≤ l.length ∧ l.length ≤ 100000 ∧ ∀ (p : Addr) (H' : Hp), Same H H' → H' p = some (.tup [.int (lineOf (l.take a)), .int (colOf (l.take a))]) → Q (.ref p) H'
theorem c_place {f : Addr} {fd : FuncData} (D : Df K mg "place" s_place f fd ["text", "at"]) : Cl P w K mg base 1 "place" (spPlace K) := by
  refine D.cl sc_place (fun vs H Q E h => ?_) (fun cdv A outer s H vs Q E hr h => ?_)
  · obtain ⟨l, a, rfl, _⟩ := h
    rfl
  obtain ⟨l, a, rfl, ha, hl, q⟩ := h
  refine ⟨_, (pss_cons (ps_set (i := 2) sc_place.nd rfl (.inl rfl) (pe_slice sl_str (pv 0) po_none (po_some (pv 1))))
      (pss_one (ps_ret (pe_tup (pa_cons (pe_op op_add (pe_m1 PySem.F.slot_str_count PySem.F.type_str_count mt_count (pv 2) pe_str) pe_int) (pa_cons (pe_op op_sub (pv 1) (pe_m1 PySem.F.slot_str_rfind PySem.F.type_str_rfind mt_rfind (pv 2) pe_str)) pa_nil)))))), ?_⟩
  walk_at "w"
  refine ⟨by rw [T_len]; exact small9 (by omega), ?_⟩
  rw [cut_to]
  walk_at "w"
  refine ⟨⟨_, rfl⟩, _, _, rfl, rfl, ?_⟩
  walk_at "w"
  refine ⟨⟨_, rfl⟩, _, _, rfl, rfl, ?_⟩
  walk_at "w"
  refine ⟨by show 2 ≤ sizeLine; decide, fun p hp => ?_⟩
  refine q p _ (Same.new _ hp) ?_
  rw [upd_same, nl_eq]
  show some (HO.tup [V.int (Txt.count (T (l.take a)) ⟨#[10]⟩ + 1), V.int (((a : Nat) : Int) - Txt.rfind (T (l.take a)) ⟨#[10]⟩)]) = _
  rw [count1, rfind1]
  have e : colOf (l.take a) = (a : Int) - lastAt 10 (l.take a) := by
    unfold colOf
    rw [List.length_take, Nat.min_eq_left ha]
  rw [e]
  rfl
theorem c_law_place {f : Addr} {fd : FuncData} (D : Df K mg "_law_place" s_law_place f fd ["text", "at"]) : Cl P w K mg base 1 "_law_place" (spPlace K) := by
  refine D.cl sc_law_place (fun vs H Q E h => ?_) (fun cdv A outer s H vs Q E hr h => ?_)
  · obtain ⟨l, a, rfl, _⟩ := h
    rfl
  obtain ⟨l, a, rfl, ha, hl, q⟩ := h
  refine ⟨_, (pss_cons (ps_set (i := 2) sc_law_place.nd rfl (.inl rfl) pe_int)
      (pss_cons (ps_set (i := 3) sc_law_place.nd rfl (.inl rfl) pe_int)
      (pss_cons (ps_for PassesOwn.never rfl (pi_str (pe_slice sl_str (pv 0) po_none (po_some (pv 1)))) (pg_name (i := 4) sc_law_place.nd rfl (.inl rfl)) (pss_cons (ps_set (i := 3) sc_law_place.nd rfl (.inl rfl) (pe_op op_add (pv 3) pe_int))
      (pss_one (ps_if (pt_cmpR op_eq (pv 4) pe_str (nomark _)) (pss_cons (ps_set (i := 2) sc_law_place.nd rfl (.inl rfl) (pe_op op_add (pv 2) pe_int))
      (pss_one (ps_set (i := 3) sc_law_place.nd rfl (.inl rfl) pe_int))) pss_nil))))
      (pss_one (ps_ret (pe_tup (pa_cons (pv 2) (pa_cons (pv 3) pa_nil)))))))), ?_⟩
  walk_at "w"
  refine ⟨by rw [T_len]; exact small9 (by omega), ?_⟩
  rw [cut_to]
  refine ⟨_, rfl, for_txt (fun i σ' H' => ∃ x : Option V, σ' = [some (.str (T l)), some (.int (a : Int)), some (.int (lineOf ((l.take a).take i))), some (.int (colOf ((l.take a).take i))), x] ∧ H = H') ⟨_, rfl, rfl⟩ ?_ ?_⟩
  · rintro i c _ _ hi ⟨x, rfl, rfl⟩
    walk_at "w"
    rw [nl_eq]
    refine ⟨rfl, _, rfl, ?_⟩
    show (if decide (V.str (T [c]) = V.str (T [10])) = true then _ else _)
    rw [V_eq]
    have et : (l.take a).take (i + 1) = (l.take a).take i ++ [c] := by
      rw [List.take_add_one, hi]
      rfl
    have el : ((l.take a).take i).length = i := by
      rw [List.length_take, Nat.min_eq_left]
      exact Nat.le_of_lt (List.getElem?_eq_some_iff.mp hi).1
    refine ite2 (fun e => ?_) (fun e => ?_)
    · have e' : c = 10 := List.head_eq_of_cons_eq (of_decide_eq_true e)
      walk_at "w"
      refine ⟨some (.str (sg c)), ?_, rfl⟩
      rw [et, e']
      unfold lineOf colOf
      rw [lastAt_app, if_pos rfl, List.count_append, List.length_append, el]
      show _ = [_, _, some (V.int (((((l.take a).take i).count 10 + 1 : Nat) : Int) + 1)), some (V.int (((i + 1 : Nat) : Int) - (i : Int))), _]
      have e1 : (((((l.take a).take i).count 10 + 1 : Nat) : Int) + 1) = ((((l.take a).take i).count 10 : Nat) : Int) + 1 + 1 := by omega
      have e2 : (((i + 1 : Nat) : Int) - (i : Int)) = 1 := by omega
      rw [e1, e2]
      rfl
    · have e' : c ≠ 10 := fun z => e (decide_eq_true (by rw [z]))
      refine ⟨some (.str (sg c)), ?_, rfl⟩
      rw [et]
      unfold lineOf colOf
      rw [lastAt_app, if_neg e', List.count_append, List.length_append, el, List.count_singleton, if_neg (by simpa using e')]
      show _ = [_, _, some (V.int (((((l.take a).take i).count 10 + 0 : Nat) : Int) + 1)), some (V.int (((i + 1 : Nat) : Int) - lastAt 10 ((l.take a).take i))), _]
      have e2 : (((i + 1 : Nat) : Int) - lastAt 10 ((l.take a).take i)) = (i : Int) - lastAt 10 ((l.take a).take i) + 1 := by omega
      rw [e2, Nat.add_zero]
      rfl
  · rintro _ _ ⟨x, rfl, rfl⟩
    rw [List.take_length]
    walk_at "w"
    exact ⟨by show 2 ≤ sizeLine; decide, fun p hp => q p _ (Same.new _ hp) upd_same⟩
def spLaw (K : PySem.W.Frag) : Sp := fun vs H Q _ => ∃ (a : Addr) (ns : List Int), vs = [.ref a] ∧ SqL K H a (ns.map V.int) ∧ ns.length ≤ 63 ∧ ∀ H', Q (.bl true) H'
theorem ok_law {f : Addr} {fd : FuncData} (F : Fun K "law" "law" s_law f fd) (c_law_draws : Cl P w K mg base 2 "_law_draws" (spDraws K)) (c_law_take : Cl P w K mg base 1 "_law_take" spTake) (c_law_cell : Cl P w K mg base 1 "_law_cell" (spCell K)) (c_law_char : Cl P w K mg base 1 "_law_char" spChar)
    (c_place : Cl P w K mg base 1 "place" (spPlace K)) (c_law_place : Cl P w K mg base 1 "_law_place" (spPlace K)) (c_law_same : Cl P w K mg base 3 "_law_same" (spSame K 2)) (z_range : mg "range" = none) (z_int : mg "int" = none) (z_len : mg "len" = none) : FnOk P w K mg base CX0 4 f fd ["script"] (spLaw K) := by
  refine F.ok sc_law (fun vs H Q E h => ?_) (fun cdv A outer s H vs Q E hr h => ?_)
  · obtain ⟨a, ns, rfl, _⟩ := h
    rfl
  obtain ⟨a, ns, rfl, hS, h63, q⟩ := h
  refine ⟨_, (pss_cons (ps_set (i := 1) sc_law.nd rfl (.inl rfl) (pc c_law_draws hr (by first | decide | omega) (by rfl) (pa_cons (pv 0) (pa_cons pe_int (pa_cons pe_int pa_nil)))))
      (pss_cons (ps_set (i := 2) sc_law.nd rfl (.inl rfl) (pc c_law_take hr (by first | decide | omega) (by rfl) (pa_cons (pv 1) (pa_cons pe_int pa_nil))))
      (pss_cons (ps_set (i := 3) sc_law.nd rfl (.inl rfl) pe_str)
      (pss_cons (ps_for PassesOwn.never rfl (pi_range1 (by rfl) z_range (pa_cons (pv 2) pa_nil)) (pg_name (i := 4) sc_law.nd rfl (.inl rfl)) (pss_one (ps_if (pt_cmpR op_eq (pc c_law_take hr (by first | decide | omega) (by rfl) (pa_cons (pv 1) (pa_cons pe_int pa_nil))) pe_int (nomark _)) (pss_one (ps_set (i := 3) sc_law.nd rfl (.inl rfl) (pe_op op_add_str (pv 3) pe_str))) (pss_one (ps_set (i := 3) sc_law.nd rfl (.inl rfl) (pe_op op_add_str (pv 3) (pc c_law_char hr (by first | decide | omega) (by rfl) (pa_cons (pe_op op_add (pc c_law_take hr (by first | decide | omega) (by rfl) (pa_cons (pv 1) (pa_cons pe_int pa_nil))) (pv 2)) pa_nil))))))))
      (pss_cons (ps_set (i := 3) sc_law.nd rfl (.inl rfl) (pe_op op_mul_str (pv 3) (pe_op op_add pe_int (pe_op op_mod (pe_callTy call_int1 (by rfl) z_int (by decide +kernel) (pa_cons (pc c_law_cell hr (by first | decide | omega) (by rfl) (pa_cons (pv 0) (pa_cons pe_int pa_nil))) pa_nil)) pe_int))))
      (pss_cons (ps_set (i := 5) sc_law.nd rfl (.inl rfl) (pe_op op_mod (pe_callTy call_int1 (by rfl) z_int (by decide +kernel) (pa_cons (pc c_law_cell hr (by first | decide | omega) (by rfl) (pa_cons (pv 0) (pa_cons pe_int pa_nil))) pa_nil)) (pe_op op_add (pe_callB call_len_str (by rfl) z_len PySem.boot_len (pa_cons (pv 3) pa_nil)) pe_int)))
      (pss_one (ps_ret (pc c_law_same hr (by first | decide | omega) (by rfl) (pa_cons (pc c_place hr (by first | decide | omega) (by rfl) (pa_cons (pv 3) (pa_cons (pv 5) pa_nil))) (pa_cons (pc c_law_place hr (by first | decide | omega) (by rfl) (pa_cons (pv 3) (pa_cons (pv 5) pa_nil))) pa_nil))))))))))), ?_⟩
  walk_at "w"
  refine ⟨a, ns, 0, 64, rfl, hS, h63, by decide, by decide, by decide, fun ds p H1 e1 n1 p1 d1 => ?_⟩
  walk_at "w"
  refine ⟨p, ds, 60, rfl, p1, by decide, fun size z0 z1 => ?_⟩
  walk_at "w"
  refine ⟨by omega, by omega, for_range (lo := 0) (n := size.toNat) (fun i σ' H' => ∃ (l : List Nat) (ds : List Int) (x : Option V), σ' = [some (.ref a), some (.ref p), some (.int size), some (.str (T l)), x, none] ∧ l.length = i ∧ upd H1 p (.lst (ds.map V.int)) = H') ⟨[], ds.tail, none, by rw [← e_eq]; rfl, rfl, rfl⟩ ?_ ?_⟩
  · rintro i _ _ hi ⟨l, ds, x, rfl, hl, rfl⟩
    walk_at "w"
    refine ⟨p, ds, 5, rfl, upd_same, by decide, fun r r0 r1 => ?_⟩
    rw [upd_upd]
    walk_at "w"
    refine ⟨rfl, _, rfl, ite2 (fun c => ?_) (fun c => ?_)⟩
    · walk_at "w"
      rw [nl_eq]
      refine ⟨by rw [T_len, T_len, hl]; exact small9 (by show i + 1 ≤ _; omega), l ++ [10], _, some (.int (0 + (i : Int))), ?_, by rw [List.length_append, hl]; rfl, rfl⟩
      rw [T_cat]
      rfl
    · walk_at "w"
      refine ⟨p, _, 95, rfl, upd_same, by decide, fun r r0 r1 => ?_⟩
      rw [upd_upd]
      walk_at "w"
      intro c hc
      refine ⟨_, _, rfl, rfl, by rw [T_len, hl]; exact small9 (by show i + 1 ≤ _; omega), l ++ [c], _, some (.int (0 + (i : Int))), ?_, by rw [List.length_append, hl]; rfl, rfl⟩
      rw [show (sg c) = T [c] from rfl, T_cat]
      rfl
  · rintro _ _ ⟨l, ds, x, rfl, hl, rfl⟩
    have hA : SqL K (upd H1 p (.lst (ds.map V.int))) a (ns.map V.int) := Same.seq (Same.mut _ e1 n1) hS
    walk_at "w"
    refine ⟨a, ns, 1, rfl, hA, h63, by decide, fun c1 => ?_⟩
    walk_at "w"
    have hsz : size.toNat < 60 := by omega
    refine ⟨by omega, by omega, by rw [T_len, hl]; omega, ?_⟩
    have hm : (Txt.mul (T l) (1 + c1 % 15)).length ≤ 60 * 15 := PyProof.Rows.len_mul_leN (by rw [T_len, hl]; omega) (by show 1 + c1 % 15 ≤ ((15 : Nat) : Int); omega)
    generalize Txt.mul (T l) (1 + c1 % 15) = z at hm ⊢
    rw [T_of z] at hm ⊢
    rw [T_len] at hm
    generalize z.cps.toList = l2 at hm ⊢
    walk_at "w"
    refine ⟨a, ns, 2, rfl, hA, h63, by decide, fun c2 => ?_⟩
    walk_at "w"
    rw [T_len]
    refine ⟨small9 (by omega), ?_⟩
    walk_at "w"
    have hp : 0 < (l2.length : Int) + 1 := by omega
    have b0 := Int.emod_nonneg c2 (show (l2.length : Int) + 1 ≠ 0 by omega)
    have b1 := Int.emod_lt_of_pos c2 hp
    refine ⟨hp, ?_⟩
    obtain ⟨m, hm2⟩ : ∃ m : Nat, c2 % ((l2.length : Int) + 1) = (m : Int) := ⟨_, (Int.toNat_of_nonneg b0).symm⟩
    show gName 5 (.int (c2 % ((l2.length : Int) + 1))) _ _ _
    rw [hm2]
    walk_at "w"
    refine ⟨l2, m, rfl, by omega, by omega, fun t1 H2 e2 f1 => ?_⟩
    walk_at "w"
    refine ⟨l2, m, rfl, by omega, by omega, fun t2 H3 e3 f2 => ?_⟩
    have tp : ∀ (t : Addr), H3 t = some (.tup [.int (lineOf (l2.take m)), .int (colOf (l2.take m))]) → Dp K H3 (.ref t) (.tuple [.int (lineOf (l2.take m)), .int (colOf (l2.take m))]) := fun t h => .tup (.of h) (.cons (.int _) (.cons (.int _) .nil))
    refine ⟨_, _, _, rfl, tp t1 (e3 _ _ f1), tp t2 f2, ⟨(by show 2 ≤ 100000; decide), fun d hd => ?_⟩, fun H4 _ => q H4⟩
    rcases List.mem_cons.mp hd with rfl | hd
    · trivial
    · rw [List.mem_singleton.mp hd]
      trivial
end
theorem all_mk {l : PySem.W.OpenLaw} {w : World} {K : PySem.W.Frag} {h : Heap} {mg : Str → Option Value} {fa : Addr} (X : K.In h) (G : h.Ns mainGlobals mg) (hfa : mg "law" = some (.ref fa))
    {f_place : Addr} {od_place an_place : Option Addr} {sl_place : Array (Option Value)} {oc_place kV_place dc_place pm_place cd_place ct_place : Value}
    {f_law_cell : Addr} {od_law_cell an_law_cell : Option Addr} {sl_law_cell : Array (Option Value)} {oc_law_cell kV_law_cell dc_law_cell pm_law_cell cd_law_cell ct_law_cell : Value}
    {f_law_draws : Addr} {od_law_draws an_law_draws : Option Addr} {sl_law_draws : Array (Option Value)} {oc_law_draws kV_law_draws dc_law_draws pm_law_draws cd_law_draws ct_law_draws : Value}
    {f_law_take : Addr} {od_law_take an_law_take : Option Addr} {sl_law_take : Array (Option Value)} {oc_law_take kV_law_take dc_law_take pm_law_take cd_law_take ct_law_take : Value}
    {f_law_same : Addr} {od_law_same an_law_same : Option Addr} {sl_law_same : Array (Option Value)} {oc_law_same kV_law_same dc_law_same pm_law_same cd_law_same ct_law_same : Value}
    {f_law_char : Addr} {od_law_char an_law_char : Option Addr} {sl_law_char : Array (Option Value)} {oc_law_char kV_law_char dc_law_char pm_law_char cd_law_char ct_law_char : Value}
    {f_law_place : Addr} {od_law_place an_law_place : Option Addr} {sl_law_place : Array (Option Value)} {oc_law_place kV_law_place dc_law_place pm_law_place cd_law_place ct_law_place : Value}
    {od_law an_law : Option Addr} {sl_law : Array (Option Value)} {oc_law kV_law dc_law pm_law cd_law ct_law : Value} {f_law : Addr}
    (a_place : PySem.W.nsIn K mainGlobals "place" = some (some (.ref f_place))) (l_place : K.lookup f_place = some ⟨oc_place, od_place, .func (PySem.W.fnOf "place" "place" (defArgs s_place) (defBody s_place) (defScope s_place) .none kV_place dc_place pm_place an_place cd_place ct_place), sl_place⟩) (w_place : PySem.W.codeIn K cd_place "place" = true) (k_place : PySem.W.keepIn K (.ref f_place) = true)
    (a_law_cell : PySem.W.nsIn K mainGlobals "_law_cell" = some (some (.ref f_law_cell))) (l_law_cell : K.lookup f_law_cell = some ⟨oc_law_cell, od_law_cell, .func (PySem.W.fnOf "_law_cell" "_law_cell" (defArgs s_law_cell) (defBody s_law_cell) (defScope s_law_cell) .none kV_law_cell dc_law_cell pm_law_cell an_law_cell cd_law_cell ct_law_cell), sl_law_cell⟩) (w_law_cell : PySem.W.codeIn K cd_law_cell "_law_cell" = true) (k_law_cell : PySem.W.keepIn K (.ref f_law_cell) = true)
    (a_law_draws : PySem.W.nsIn K mainGlobals "_law_draws" = some (some (.ref f_law_draws))) (l_law_draws : K.lookup f_law_draws = some ⟨oc_law_draws, od_law_draws, .func (PySem.W.fnOf "_law_draws" "_law_draws" (defArgs s_law_draws) (defBody s_law_draws) (defScope s_law_draws) .none kV_law_draws dc_law_draws pm_law_draws an_law_draws cd_law_draws ct_law_draws), sl_law_draws⟩) (w_law_draws : PySem.W.codeIn K cd_law_draws "_law_draws" = true) (k_law_draws : PySem.W.keepIn K (.ref f_law_draws) = true)
    (a_law_take : PySem.W.nsIn K mainGlobals "_law_take" = some (some (.ref f_law_take))) (l_law_take : K.lookup f_law_take = some ⟨oc_law_take, od_law_take, .func (PySem.W.fnOf "_law_take" "_law_take" (defArgs s_law_take) (defBody s_law_take) (defScope s_law_take) .none kV_law_take dc_law_take pm_law_take an_law_take cd_law_take ct_law_take), sl_law_take⟩) (w_law_take : PySem.W.codeIn K cd_law_take "_law_take" = true) (k_law_take : PySem.W.keepIn K (.ref f_law_take) = true)
    (a_law_same : PySem.W.nsIn K mainGlobals "_law_same" = some (some (.ref f_law_same))) (l_law_same : K.lookup f_law_same = some ⟨oc_law_same, od_law_same, .func (PySem.W.fnOf "_law_same" "_law_same" (defArgs s_law_same) (defBody s_law_same) (defScope s_law_same) .none kV_law_same dc_law_same pm_law_same an_law_same cd_law_same ct_law_same), sl_law_same⟩) (w_law_same : PySem.W.codeIn K cd_law_same "_law_same" = true) (k_law_same : PySem.W.keepIn K (.ref f_law_same) = true)
    (a_law_char : PySem.W.nsIn K mainGlobals "_law_char" = some (some (.ref f_law_char))) (l_law_char : K.lookup f_law_char = some ⟨oc_law_char, od_law_char, .func (PySem.W.fnOf "_law_char" "_law_char" (defArgs s_law_char) (defBody s_law_char) (defScope s_law_char) .none kV_law_char dc_law_char pm_law_char an_law_char cd_law_char ct_law_char), sl_law_char⟩) (w_law_char : PySem.W.codeIn K cd_law_char "_law_char" = true) (k_law_char : PySem.W.keepIn K (.ref f_law_char) = true)
    (a_law_place : PySem.W.nsIn K mainGlobals "_law_place" = some (some (.ref f_law_place))) (l_law_place : K.lookup f_law_place = some ⟨oc_law_place, od_law_place, .func (PySem.W.fnOf "_law_place" "_law_place" (defArgs s_law_place) (defBody s_law_place) (defScope s_law_place) .none kV_law_place dc_law_place pm_law_place an_law_place cd_law_place ct_law_place), sl_law_place⟩) (w_law_place : PySem.W.codeIn K cd_law_place "_law_place" = true) (k_law_place : PySem.W.keepIn K (.ref f_law_place) = true)
    (a_law : PySem.W.nsIn K mainGlobals "law" = some (some (.ref f_law))) (l_law : K.lookup f_law = some ⟨oc_law, od_law, .func (PySem.W.fnOf "law" "law" (defArgs s_law) (defBody s_law) (defScope s_law) .none kV_law dc_law pm_law an_law cd_law ct_law), sl_law⟩) (w_law : PySem.W.codeIn K cd_law "law" = true) (k_law : PySem.W.keepIn K (.ref f_law) = true)
    (y_all : PySem.W.nsIn K mainGlobals "all" = some none)
    (y_bool : PySem.W.nsIn K mainGlobals "bool" = some none)
    (y_int : PySem.W.nsIn K mainGlobals "int" = some none)
    (y_isinstance : PySem.W.nsIn K mainGlobals "isinstance" = some none)
    (y_len : PySem.W.nsIn K mainGlobals "len" = some none)
    (y_range : PySem.W.nsIn K mainGlobals "range" = some none)
    (y_str : PySem.W.nsIn K mainGlobals "str" = some none)
    (y_tuple : PySem.W.nsIn K mainGlobals "tuple" = some none) :
    ∃ fd : FuncData, (∀ (s : Shared) (v : Value), BindsTo s fd ⟨[v], []⟩ [("script", v)]) ∧ ∀ base : Heap, K.In base → base.Ns mainGlobals mg → FnOk l.prog w K mg base CX0 4 fa fd ["script"] (spLaw K) := by
  have e := hfa.symm.trans (PySem.W.mg_of X G a_law)
  cases e
  have D_place : Df K mg "place" s_place f_place _ ["text", "at"] := ⟨fun_mk (st := s_place) l_place w_place k_place, PySem.W.mg_of X G a_place, k_place, (fun_mk (st := s_place) l_place w_place k_place).binds (ps := ["text", "at"]) fun _ _ _ _ _ _ us hl => match us, hl with | [_, _], _ => rfl⟩
  have D_law_cell : Df K mg "_law_cell" s_law_cell f_law_cell _ ["script", "k"] := ⟨fun_mk (st := s_law_cell) l_law_cell w_law_cell k_law_cell, PySem.W.mg_of X G a_law_cell, k_law_cell, (fun_mk (st := s_law_cell) l_law_cell w_law_cell k_law_cell).binds (ps := ["script", "k"]) fun _ _ _ _ _ _ us hl => match us, hl with | [_, _], _ => rfl⟩
  have D_law_draws : Df K mg "_law_draws" s_law_draws f_law_draws _ ["script", "k", "count"] := ⟨fun_mk (st := s_law_draws) l_law_draws w_law_draws k_law_draws, PySem.W.mg_of X G a_law_draws, k_law_draws, (fun_mk (st := s_law_draws) l_law_draws w_law_draws k_law_draws).binds (ps := ["script", "k", "count"]) fun _ _ _ _ _ _ us hl => match us, hl with | [_, _, _], _ => rfl⟩
  have D_law_take : Df K mg "_law_take" s_law_take f_law_take _ ["draws", "many"] := ⟨fun_mk (st := s_law_take) l_law_take w_law_take k_law_take, PySem.W.mg_of X G a_law_take, k_law_take, (fun_mk (st := s_law_take) l_law_take w_law_take k_law_take).binds (ps := ["draws", "many"]) fun _ _ _ _ _ _ us hl => match us, hl with | [_, _], _ => rfl⟩
  have D_law_same : Df K mg "_law_same" s_law_same f_law_same _ ["actual", "due"] := ⟨fun_mk (st := s_law_same) l_law_same w_law_same k_law_same, PySem.W.mg_of X G a_law_same, k_law_same, (fun_mk (st := s_law_same) l_law_same w_law_same k_law_same).binds (ps := ["actual", "due"]) fun _ _ _ _ _ _ us hl => match us, hl with | [_, _], _ => rfl⟩
  have D_law_char : Df K mg "_law_char" s_law_char f_law_char _ ["draw"] := ⟨fun_mk (st := s_law_char) l_law_char w_law_char k_law_char, PySem.W.mg_of X G a_law_char, k_law_char, (fun_mk (st := s_law_char) l_law_char w_law_char k_law_char).binds (ps := ["draw"]) fun _ _ _ _ _ _ us hl => match us, hl with | [_], _ => rfl⟩
  have D_law_place : Df K mg "_law_place" s_law_place f_law_place _ ["text", "at"] := ⟨fun_mk (st := s_law_place) l_law_place w_law_place k_law_place, PySem.W.mg_of X G a_law_place, k_law_place, (fun_mk (st := s_law_place) l_law_place w_law_place k_law_place).binds (ps := ["text", "at"]) fun _ _ _ _ _ _ us hl => match us, hl with | [_, _], _ => rfl⟩
  have z_all : mg "all" = none := PySem.W.mg_none_of X G y_all
  have z_bool : mg "bool" = none := PySem.W.mg_none_of X G y_bool
  have z_int : mg "int" = none := PySem.W.mg_none_of X G y_int
  have z_isinstance : mg "isinstance" = none := PySem.W.mg_none_of X G y_isinstance
  have z_len : mg "len" = none := PySem.W.mg_none_of X G y_len
  have z_range : mg "range" = none := PySem.W.mg_none_of X G y_range
  have z_str : mg "str" = none := PySem.W.mg_none_of X G y_str
  have z_tuple : mg "tuple" = none := PySem.W.mg_none_of X G y_tuple
  have F_law := fun_mk (st := s_law) l_law w_law k_law
  refine ⟨PySem.W.fnOf "law" "law" (defArgs s_law) (defBody s_law) (defScope s_law) .none kV_law dc_law pm_law an_law cd_law ct_law, fun s v => .of_eq rfl, fun base _ _ => ?_⟩
  have c1 := c_law_cell (P := l.prog) (w := w) (base := base) D_law_cell z_len z_int
  exact ok_law F_law (c_law_draws D_law_draws c1 z_int z_range) (c_law_take D_law_take z_int) c1 (c_law_char D_law_char z_int z_len) (c_place D_place) (c_law_place D_law_place) (c_law_same D_law_same z_isinstance z_tuple z_bool z_int z_str z_len z_all z_range 2) z_range z_int z_len
end Pf
open PySem PySem.W PyProof.Rows
set_option maxHeartbeats 0 in
theorem PySem.Challenge.cw_ontoworks_k40_place_holds : PySem.Challenge.rw_ontoworks_k40_place.Holds := by
  w_on; o_law; k_head; (case hw => w_witness2)
  k_fill
  refine L2.walk_of (l := PySem.Challenge.rw_ontoworks_k40_place) (n := 63) (k := 4) (x := "script") (CX := fun _ => L2.CX0) (sp := fun w => Pf.spLaw _) rfl (by decide) rfl ⟨rfl, by decide, by decide⟩ (fun w h Y => PySem.W.kIn_of Y) ?F (fun _ _ a ns hl _ hS => ⟨a, ns, rfl, hS, hl, fun _ => rfl⟩) (fun _ _ _ _ _ h => h)
  case F =>
    intro w mg fa h KX G hmg
    refine' Pf.all_mk KX G hmg ?a_place ?l_place ?w_place ?k_place ?a_law_cell ?l_law_cell ?w_law_cell ?k_law_cell ?a_law_draws ?l_law_draws ?w_law_draws ?k_law_draws ?a_law_take ?l_law_take ?w_law_take ?k_law_take ?a_law_same ?l_law_same ?w_law_same ?k_law_same ?a_law_char ?l_law_char ?w_law_char ?k_law_char ?a_law_place ?l_law_place ?w_law_place ?k_law_place ?a_law ?l_law ?w_law ?k_law ?y_all ?y_bool ?y_int ?y_isinstance ?y_len ?y_range ?y_str ?y_tuple
    (case a_place => k_is)
    (case l_place => k_is)
    (case w_place => k_is)
    (case k_place => k_is)
    (case a_law_cell => k_is)
    (case l_law_cell => k_is)
    (case w_law_cell => k_is)
    (case k_law_cell => k_is)
    (case a_law_draws => k_is)
    (case l_law_draws => k_is)
    (case w_law_draws => k_is)
    (case k_law_draws => k_is)
    (case a_law_take => k_is)
    (case l_law_take => k_is)
    (case w_law_take => k_is)
    (case k_law_take => k_is)
    (case a_law_same => k_is)
    (case l_law_same => k_is)
    (case w_law_same => k_is)
    (case k_law_same => k_is)
    (case a_law_char => k_is)
    (case l_law_char => k_is)
    (case w_law_char => k_is)
    (case k_law_char => k_is)
    (case a_law_place => k_is)
    (case l_law_place => k_is)
    (case w_law_place => k_is)
    (case k_law_place => k_is)
    (case a_law => k_is)
    (case l_law => k_is)
    (case w_law => k_is)
    (case k_law => k_is)
    (case y_all => k_is)
    (case y_bool => k_is)
    (case y_int => k_is)
    (case y_isinstance => k_is)
    (case y_len => k_is)
    (case y_range => k_is)
    (case y_str => k_is)
    (case y_tuple => k_is)