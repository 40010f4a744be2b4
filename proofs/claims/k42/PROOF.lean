import PyProof.Rows.All
import Wide.All
import OpenK.AllK
import Wide.FinOn
import HandS.ForMost
import HandS.StrMore
import HandS.IsInst
import HandS.FStr
import HandS.Wide
import HandS.Flow
import HandS.TupAny
import HandS.Evl
import HandS.Text
import PySem.Challenge.RW_ontoworks_k42_split_tokens
set_option Elab.async false
set_option linter.all false
set_option maxRecDepth 100000
set_option maxHeartbeats 4000000

namespace Pf
open PySem PySem.Spec PyProof.Rows L2
/-- a def of the top under its name, bound without defaults -/
structure Df (K : PySem.W.Frag) (mg : Str → Option Value) (x : Str) (st : Stmt) (f : Addr) (fd : FuncData) (ps : List Str) : Prop where
  fn : Fun K x x st f fd
  mgf : mg x = some (.ref f)
  kp : PySem.W.keepIn K (.ref f) = true
  bd : Binds K fd ps []
/-- a def that keeps a promise, by its name -/
structure Cl (P : Program) (w : World) (K : PySem.W.Frag) (mg : Str → Option Value) (base : Heap) (k : Nat) (x : Str) (sp : Sp) : Prop where
  ex : ∃ (f : Addr) (fd : FuncData) (ps : List Str), FnOk P w K mg base CX0 k f fd ps sp ∧ mg x = some (.ref f) ∧ PySem.W.keepIn K (.ref f) = true ∧ Binds K fd ps []
section
variable {P : Program} {w : World} {K : PySem.W.Frag} {mg : Str → Option Value} {base : Heap}
theorem Df.cl {x : Str} {st : Stmt} {f : Addr} {fd : FuncData} {ps N : List Str} {k : Nat} {sp : Sp} (D : Df K mg x st f fd ps) (S : FnScope N ps (defScope st)) (len : ∀ vs H Q E, sp vs H Q E → vs.length = ps.length)
    (hbody : ∀ (cdv : Value) (A : Around) (outer : List Env) (s : Shared) (H : Hp) (vs : List V) (Q : VK) (E : XK), Room k (A.deeper (envOfC x (defScope st) s.heap.objs.size f cdv)) → sp vs H Q E →
      ∃ t, PSs (cxOf CX0 P w K mg base N x (defScope st) f cdv A outer s H E).nox (defBody st) t ∧ t { nx := fun _ H' => Q .non H', rt := Q } (start N vs) H) : Cl P w K mg base (k + 1) x sp :=
  ⟨f, fd, ps, D.fn.ok S len hbody, D.mgf, D.kp, D.bd⟩
theorem Cl.imp {x : Str} {k : Nat} {sp sp' : Sp} (c : Cl P w K mg base k x sp) (h : ∀ vs H Q E, sp' vs H Q E → sp vs H Q E) : Cl P w K mg base k x sp' := by
  obtain ⟨f, fd, ps, F, r⟩ := c.ex
  exact ⟨f, fd, ps, F.imp h, r⟩
theorem Cl.mono {x : Str} {k j : Nat} {sp : Sp} (c : Cl P w K mg base k x sp) (h : k ≤ j) : Cl P w K mg base j x sp := by
  obtain ⟨f, fd, ps, F, r⟩ := c.ex
  exact ⟨f, fd, ps, F.mono h, r⟩
end
section
variable {X : Cx} {k j : Nat} {x : Str} {sp : Sp} {p pos : Pos} {e : Expr} {es : List Expr} {t : TA}
theorem pc (c : Cl X.prog X.w X.K X.mg X.base k x sp) (hr : Room j X.A) (hk : k ≤ j) (hg : Gl X x) (ha : PA X (e :: es) t)
    (hdb : (x == ("__debug__" : Str)) = false := by decide) (he : starEach (e :: es) X.env = (false, eval e X.env) :: starEach es X.env := by rfl) (hpl : (backTo pos (starEach es X.env)).any (·.1) = false := by rfl) :
    PE X (.Call (.Name x p) (e :: es) [] pos) (tCall sp [] E0 t) := by
  obtain ⟨f, fd, ps, F, hm, kp, b⟩ := c.ex
  exact pe_call F (hr.mono hk) hg hm kp b .nil pass0 ha hdb he hpl
theorem pc0 (c : Cl X.prog X.w X.K X.mg X.base k x sp) (hr : Room j X.A) (hk : k ≤ j) (hg : Gl X x)
    (hdb : (x == ("__debug__" : Str)) = false := by decide) :
    PE X (.Call (.Name x p) [] [] pos) (tCall sp [] E0 tNil) := by
  obtain ⟨f, fd, ps, F, hm, kp, b⟩ := c.ex
  exact pe_call0 F (hr.mono hk) hg hm kp b .nil pass0 hdb
end
/-! heaps -/
theorem Same.new {H : Hp} {p : Addr} (o : HO) (h : H p = none) : Same H (upd H p o) := fun b u e => by
  rw [upd_ne (ne_of_none e h)]
  exact e
theorem Same.seqT {K : PySem.W.Frag} {H H' : Hp} {a : Addr} {xs : List V} (e : Same H H') (h : SqT K H a xs) : SqT K H' a xs := by
  rcases h with (h | ⟨o, h⟩) | h
  · exact .inl (.inl (e _ _ h))
  · exact .inl (.inr ⟨o, e _ _ h⟩)
  · exact .inr h
theorem upd_self {H : Hp} {a : Addr} {o : HO} (h : H a = some o) : upd H a o = H := by
  funext b
  unfold upd
  split
  · rename_i e
    rw [e, h]
  · rfl
/-! one short for the sign of a code -/
abbrev sg (c : Nat) : Str := ⟨#[c]⟩
/-! a written tuple of texts -/
def StrIts : List Value → List Str → Bool
  | [], [] => true
  | .str x _ :: vs, y :: ys => decide (x = y) && StrIts vs ys
  | _, _ => false
theorem strIts_vals : ∀ {vs : List Value} {ys : List Str}, StrIts vs ys = true → Vals (ys.map V.str) vs
  | [], [], _ => .nil
  | .str x t :: vs, y :: ys, h => by
    unfold StrIts at h
    rw [Bool.and_eq_true] at h
    have e := of_decide_eq_true h.1
    subst e
    exact .cons ⟨t, rfl⟩ (strIts_vals h.2)
theorem sqt_of {K : PySem.W.Frag} {H : Hp} {a : Addr} {od : Option Addr} {its : Array Value} {n : Nat} {sl : Array (Option Value)} {ys : List Str} (l : K.lookup a = some ⟨.type "tuple", od, .seq its n, sl⟩) (h : StrIts its.toList ys = true) (hs : decide (its.size ≤ 1000) = true) : SqT K H a (ys.map V.str) :=
  .inr ⟨_, its, n, l, rfl, rfl, Nat.le_trans (of_decide_eq_true hs) (by decide), strIts_vals h⟩
/-! the drawing helpers: what a caller needs of them -/
/-- _law_cell: some int -/
def spCell (K : PySem.W.Frag) : Sp := fun vs H Q _ => ∃ (a : Addr) (ns : List Int) (k : Int), vs = [.ref a, .int k] ∧ SqL K H a (ns.map V.int) ∧ ns.length ≤ 63 ∧ 0 ≤ k ∧ ∀ c : Int, Q (.int c) H
/-- _law_draws: a new list of so many ints, none below 0 -/
def spDraws (K : PySem.W.Frag) : Sp := fun vs H Q _ => ∃ (a : Addr) (ns : List Int) (k n : Int), vs = [.ref a, .int k, .int n] ∧ SqL K H a (ns.map V.int) ∧ ns.length ≤ 63 ∧ 0 ≤ k ∧ 0 ≤ n ∧ n ≤ 1000 ∧
  ∀ (ds : List Int) (p : Addr) (H' : Hp), Same H H' → H p = none → H' p = some (.lst (ds.map V.int)) → (ds.length : Int) = n → Q (.ref p) H'
/-- _law_take: an int below m; the list without its first -/
def spTake : Sp := fun vs H Q _ => ∃ (l : Addr) (ds : List Int) (m : Int), vs = [.ref l, .int m] ∧ H l = some (.lst (ds.map V.int)) ∧ 0 < m ∧ ∀ r : Int, 0 ≤ r → r < m → Q (.int r) (upd H l (.lst (ds.tail.map V.int)))
theorem map_tail {ds : List Int} : (ds.map V.int).tail = ds.tail.map V.int := by cases ds <;> rfl
theorem eraseIdx0 {α : Type} (xs : List α) : xs.eraseIdx 0 = xs.tail := by cases xs <;> rfl
/-- text * count -/
def rMulS : R2 := fun x y H Q => ∃ (z : Str) (n : Int), x = .str z ∧ y = .int n ∧ 0 ≤ n ∧ n ≤ 1000 ∧ z.length ≤ 10000 ∧ Q (.str (Txt.mul z n)) H
theorem mul_ok {z : Str} {n : Int} (h0 : 0 ≤ n) (h1 : n ≤ 1000) (hz : z.length ≤ 10000) : MulOk z n := by
  refine ⟨?_, fun h2 _ => ?_, fun _ _ => ?_⟩
  · rw [decide_eq_false (by omega), decide_eq_false (by omega)]
    rfl
  · intro h3
    have h4 : (2 ^ 63 - 1) / n ≥ (2 ^ 63 - 1) / 1000 := by
      refine Int.le_ediv_of_mul_le (by omega) ?_
      have : (2 ^ 63 - 1 : Int) / 1000 * n ≤ (2 ^ 63 - 1) / 1000 * 1000 := Int.mul_le_mul_of_nonneg_left h1 (by decide)
      exact Int.le_trans this (by decide)
    have h5 : ((2 : Int) ^ 63 - 1) / 1000 ≥ 10001 := by decide
    omega
  · unfold Builtin.Str.tooLong
    refine decide_eq_false ?_
    have : z.length * n.toNat ≤ 10000 * 1000 := Nat.mul_le_mul hz (by omega)
    have : sizeLine ≥ 10000000 := by decide
    omega
theorem op_mul_str {X : Cx} : OpR X (binaryOp .Mult) rMulS := by
  intro pins s σ H x y v u Q I rx ry h
  obtain ⟨z, n, rfl, rfl, h0, h1, hz, q⟩ := h
  obtain ⟨t, rfl⟩ := rx
  obtain ⟨t', rfl⟩ := ry
  exact PySem.SB.mul (mul_ok h0 h1 hz) fun t' k => ⟨.str (Txt.mul z n), H, I.tok _, ⟨_, rfl⟩, q⟩
/-- data of tuples, so many deep -/
def TupN : Nat → PyData → Prop
  | 0, _ => False
  | n + 1, .tuple ds => ds.length ≤ 100000 ∧ ∀ d ∈ ds, TupN n d
  | _ + 1, .list _ => False
  | _ + 1, .dict _ => False
  | _ + 1, _ => True
/-- _law_same upon the same data twice -/
def spSame (K : PySem.W.Frag) (n : Nat) : Sp := fun vs H Q _ => ∃ (x y : V) (d : PyData), vs = [x, y] ∧ Dp K H x d ∧ Dp K H y d ∧ TupN n d ∧ ∀ H', Same H H' → Q (.bl true) H'
theorem dpAll_len {K : PySem.W.Frag} {H : Hp} : ∀ {vs : List V} {ds : List PyData}, DpAll K H vs ds → vs.length = ds.length
  | _, _, .nil => rfl
  | _, _, .cons _ t => congrArg Nat.succ (dpAll_len t)
theorem dpAll_at {K : PySem.W.Frag} {H : Hp} : ∀ {vs : List V} {ds : List PyData}, DpAll K H vs ds → ∀ (i : Nat) (v : V) (d : PyData), vs[i]? = some v → ds[i]? = some d → Dp K H v d
  | _, _, .nil, i, v, d, h, _ => by simp at h
  | _, _, .cons a _, 0, v, d, h, h' => by
    simp at h h'
    rw [← h, ← h']
    exact a
  | _, _, .cons _ t, i + 1, v, d, h, h' => dpAll_at t i v d (by simpa using h) (by simpa using h')
mutual
theorem Dp.same {K : PySem.W.Frag} {H H' : Hp} (e : Same H H') : ∀ {d : PyData} {v : V}, Dp K H v d → Dp K H' v d
  | _, _, .non => .non
  | _, _, .bl b => .bl b
  | _, _, .int i => .int i
  | _, _, .str x => .str x
  | _, _, .lst h a => .lst (e.seq h) (DpAll.same e a)
  | _, _, .tup h a => .tup (Same.seqT e h) (DpAll.same e a)
theorem DpAll.same {K : PySem.W.Frag} {H H' : Hp} (e : Same H H') : ∀ {ds : List PyData} {vs : List V}, DpAll K H vs ds → DpAll K H' vs ds
  | _, _, .nil => .nil
  | _, _, .cons a t => .cons (Dp.same e a) (DpAll.same e t)
end
theorem tyT {K : PySem.W.Frag} {H : Hp} {a : Addr} {xs : List V} (h : SqT K H a xs) : TyX K H (.ref a) (.type "tuple") := by
  rcases h with (h | ⟨o, h⟩) | ⟨o, _, _, h, hc, _⟩
  · exact .base (.tup h)
  · exact .fTuple h
  · exact .kTuple h hc
theorem atI_some {α : Type} {xs : List α} {i : Nat} (h : i < xs.length) : atI xs (i : Int) = some xs[i] := atI_nat (List.getElem?_eq_getElem h)
/-- a sign that a text may have -/
def ChrOk (c : Nat) : Prop := 32 ≤ c ∧ c ≤ 126 ∧ c ≠ 37
instance (c : Nat) : Decidable (ChrOk c) := inferInstanceAs (Decidable (_ ∧ _))
def spChar : Sp := fun vs H Q _ => ∃ d : Int, vs = [.int d] ∧ ∀ c : Nat, ChrOk c → Q (.str (sg c)) H
/-! rules whose reading names the written part, said with it given (a comprehension's block wants that) -/
theorem ixT {X : Cx} {K : PySem.W.Frag} (h : X.K = K := by rfl) : IxR X (rIxT K) := by
  subst h
  exact ix_tup
theorem ixL {X : Cx} {K : PySem.W.Frag} (h : X.K = K := by rfl) : IxR X (rIxL K) := by
  subst h
  exact ix_list
def rLenQ (K : PySem.W.Frag) : List V → Hp → VK → Prop := fun xs H Q => ∃ p ys, xs = [.ref p] ∧ (SqL K H p ys ∨ SqT K H p ys) ∧ Q (.int ys.length) H
theorem lenQ {X : Cx} {K : PySem.W.Frag} (h : X.K = K := by rfl) : CallR X (.builtin "len") (rLenQ K) := by
  subst h
  exact call_len_seq
section
variable {K : PySem.W.Frag} {σ : L2.St} {H : Hp} {i : Nat} {x : V} {t T : String} {tt u : TS} {D : Ends}
theorem ev_isi {b : Bool} {Q : VK} (h : σ[i]? = some (some x)) (ty : TyX K H x (.type t)) (k : kitB t T = some b) (q : Q (.bl b) H) : tCB (rIsi K) (tCons (tVar i) (tCons (tC (.ty T)) tNil)) σ H Q := ⟨x, h, x, .ty T, _, _, b, rfl, .ty _, ty, kit_ty k, q⟩
theorem if_isiF (h : σ[i]? = some (some x)) (ty : TyX K H x (.type t)) (k : kitB t T = some false) (q : u D σ H) : tIfS (tB (tCB (rIsi K) (tCons (tVar i) (tCons (tC (.ty T)) tNil)))) tt u D σ H := ev_isi h ty k ⟨_, rfl, iteF q⟩
theorem if_isiT (h : σ[i]? = some (some x)) (ty : TyX K H x (.type t)) (k : kitB t T = some true) (q : tt D σ H) : tIfS (tB (tCB (rIsi K) (tCons (tVar i) (tCons (tC (.ty T)) tNil)))) tt u D σ H := ev_isi h ty k ⟨_, rfl, iteT q⟩
end
/-- an object that H does not know may change -/
theorem Same.mut {H H1 : Hp} {p : Addr} (o : HO) (e : Same H H1) (n : H p = none) : Same H (upd H1 p o) := fun b u h => by
  rw [upd_ne (ne_of_none h n)]
  exact e b u h
end Pf
namespace Pf
open PySem PySem.Spec PyProof.Rows L2
/-! data of tuples stands while lists change -/
def KT (K : PySem.W.Frag) (H H' : Hp) : Prop := ∀ a xs, SqT K H a xs → SqT K H' a xs
theorem KT.of {K : PySem.W.Frag} {H H' : Hp} (e : Same H H') : KT K H H' := fun _ _ h => Same.seqT e h
theorem KT.trans {K : PySem.W.Frag} {H H1 H2 : Hp} (a : KT K H H1) (b : KT K H1 H2) : KT K H H2 := fun x xs h => b x xs (a x xs h)
theorem KT.lst {K : PySem.W.Frag} {H : Hp} {l : Addr} {xs : List V} (o : HO) (h : H l = some (.lst xs)) : KT K H (upd H l o) := fun a ys q => by
  rcases q with (q | ⟨ob, q⟩) | q
  · exact .inl (.inl ((upd_ne (ne_of q h (by intro z; cases z))).trans q))
  · exact .inl (.inr ⟨ob, (upd_ne (ne_of q h (by intro z; cases z))).trans q⟩)
  · exact .inr q
theorem KT.ins {K : PySem.W.Frag} {H : Hp} {l C dx : Addr} {fs : List (Str × V)} (o : HO) (h : H l = some (.ins C dx fs)) : KT K H (upd H l o) := fun a ys q => by
  rcases q with (q | ⟨ob, q⟩) | q
  · exact .inl (.inl ((upd_ne (ne_of q h (by intro z; cases z))).trans q))
  · exact .inl (.inr ⟨ob, (upd_ne (ne_of q h (by intro z; cases z))).trans q⟩)
  · exact .inr q
theorem KT.new {K : PySem.W.Frag} {H : Hp} {l : Addr} (o : HO) (h : H l = none) : KT K H (upd H l o) := KT.of (Same.new o h)
mutual
theorem Dp.kt {K : PySem.W.Frag} {H H' : Hp} (e : KT K H H') : ∀ {n : Nat} {d : PyData} {v : V}, TupN n d → Dp K H v d → Dp K H' v d
  | _, _, _, _, .non => .non
  | _, _, _, _, .bl b => .bl b
  | _, _, _, _, .int i => .int i
  | _, _, _, _, .str x => .str x
  | 0, _, _, z, .lst _ _ => z.elim
  | _ + 1, _, _, z, .lst _ _ => z.elim
  | 0, _, _, z, .tup _ _ => z.elim
  | _ + 1, _, _, z, .tup h a => .tup (e _ _ h) (DpAll.kt e z.2 a)
theorem DpAll.kt {K : PySem.W.Frag} {H H' : Hp} (e : KT K H H') : ∀ {n : Nat} {ds : List PyData} {vs : List V}, (∀ d ∈ ds, TupN n d) → DpAll K H vs ds → DpAll K H' vs ds
  | _, _, _, _, .nil => .nil
  | _, _, _, z, .cons a t => .cons (Dp.kt e (z _ (List.mem_cons_self ..)) a) (DpAll.kt e (fun d hd => z d (List.mem_cons_of_mem _ hd)) t)
end
theorem dpAll_app {K : PySem.W.Frag} {H : Hp} : ∀ {vs ws : List V} {ds es : List PyData}, DpAll K H vs ds → DpAll K H ws es → DpAll K H (vs ++ ws) (ds ++ es)
  | _, _, _, _, .nil, h => h
  | _, _, _, _, .cons a t, h => .cons a (dpAll_app t h)
/-! a slice of a list of ints -/
def cutI {α : Type} (ds : List α) (lo hi : Option Int) : List α := (ds.drop (HT.sIx ds.length 0 lo)).take (HT.sIx ds.length ds.length hi - HT.sIx ds.length 0 lo)
theorem cutV_map {α : Type} (f : α → V) (ds : List α) (lo hi : Option Int) : cutV (ds.map f) lo hi = (cutI ds lo hi).map f := by
  unfold cutV cutI
  rw [List.length_map, List.map_take, List.map_drop]
end Pf

namespace Pf
open PySem PySem.StrLaws PySem.Builtin PySem.Builtin.Str
/-! one sign counted and sought in a text -/
theorem occ1_turn {s : Str} {c limit i : Nat} {st : Array Nat × Nat} (h1 : st.1.size < limit) (h2 : st.2 ≤ i) :
    occBody s ⟨#[c]⟩ s.length limit i st = if s.cps.toList[i]? = some c then pure (ForInStep.yield (st.1.push i, i + 1)) else pure (ForInStep.yield st) := by
  have k := subAt_one s c i
  unfold occBody
  by_cases h : s.cps.toList[i]? = some c
  · rw [if_pos h, if_pos ⟨⟨⟨h1, h2⟩, (k.mpr h).1⟩, (k.mpr h).2⟩]
    rfl
  · rw [if_neg h, if_neg fun z => h (k.mp ⟨z.1.2, z.2⟩)]
theorem count1_go (s : Str) (c : Nat) : ∀ (m a : Nat) (st : Array Nat × Nat), a + m = s.length + 1 → st.2 ≤ a → st.1.size ≤ a →
    (forIn (List.range' a m) st (occBody s ⟨#[c]⟩ s.length (s.length + 1))).run.1.size = st.1.size + (s.cps.toList.drop a).count c
  | 0, a, st, e, h1, h2 => by
    have : s.cps.toList.drop a = [] := List.drop_eq_nil_of_le (by simp [Str.length] at e ⊢; omega)
    rw [this]
    rfl
  | m + 1, a, st, e, h1, h2 => by
    rw [List.range'_succ, List.forIn_cons, occ1_turn (by omega) h1]
    by_cases h : s.cps.toList[a]? = some c
    · rw [if_pos h]
      have hl : a < s.cps.toList.length := (List.getElem?_eq_some_iff.mp h).1
      have hd := List.drop_eq_getElem_cons hl
      have hc : s.cps.toList[a] = c := (List.getElem?_eq_some_iff.mp h).2
      have ih := count1_go s c m (a + 1) (st.1.push a, a + 1) (by omega) (Nat.le_refl _) (by simp; omega)
      rw [hd, hc, List.count_cons_self]
      refine Eq.trans ih ?_
      simp
      omega
    · rw [if_neg h]
      have ih := count1_go s c m (a + 1) st (by omega) (by omega) (by omega)
      refine Eq.trans ih ?_
      by_cases hl : a < s.cps.toList.length
      · have hd := List.drop_eq_getElem_cons hl
        rw [hd, List.count_cons_of_ne]
        intro e2
        exact h (by rw [List.getElem?_eq_getElem hl, e2])
      · rw [List.drop_eq_nil_of_le (by omega), List.drop_eq_nil_of_le (by omega)]
theorem count1 (s : Str) (c : Nat) : Txt.count s ⟨#[c]⟩ = ((s.cps.toList.count c : Nat) : Int) := by
  unfold Txt.count
  rw [occ_eq, Array.length_toList, count1_go s c (s.length + 1 - 0) 0 (#[], 0) (by omega) (Nat.le_refl _) (Nat.le_refl _)]
  simp
/-- the place of the last c, as rfind tells it -/
def lastAt (c : Nat) : List Nat → Int
  | [] => -1
  | x :: l => if lastAt c l = -1 then (if x = c then 0 else -1) else lastAt c l + 1
theorem lastAt_ge (c : Nat) : ∀ l, -1 ≤ lastAt c l
  | [] => Int.le_refl _
  | x :: l => by
    have := lastAt_ge c l
    unfold lastAt
    split
    · split <;> omega
    · omega
theorem lastAt_app (c x : Nat) : ∀ l, lastAt c (l ++ [x]) = if x = c then (l.length : Int) else lastAt c l
  | [] => by
    by_cases h : x = c <;> simp [lastAt, h]
  | y :: l => by
    have ih := lastAt_app c x l
    show (if lastAt c (l ++ [x]) = -1 then (if y = c then (0 : Int) else -1) else lastAt c (l ++ [x]) + 1) = _
    rw [ih]
    by_cases h : x = c
    · rw [if_pos h, if_pos h, if_neg (by omega)]
      simp
    · rw [if_neg h, if_neg h]
      rfl
def lastBody (s sub : Str) (hi : Nat) (i : Nat) (st : Option Nat) : Id (ForInStep (Option Nat)) :=
  if i + sub.length ≤ hi ∧ subAt s sub i = true then pure (ForInStep.yield (some i)) else pure (ForInStep.yield st)
theorem last_eq (s sub : Str) (lo hi : Nat) : lastOccurrence s sub lo hi = (forIn (List.range' lo (hi + 1 - lo)) none (lastBody s sub hi)).run := by
  unfold lastOccurrence lastBody
  simp
theorem last1_go (s : Str) (c : Nat) : ∀ (m a : Nat) (st : Option Nat), a + m = s.length + 1 →
    (forIn (List.range' a m) st (lastBody s ⟨#[c]⟩ s.length)).run = if lastAt c (s.cps.toList.drop a) = -1 then st else some (a + (lastAt c (s.cps.toList.drop a)).toNat)
  | 0, a, st, e => by
    have : s.cps.toList.drop a = [] := List.drop_eq_nil_of_le (by simp [Str.length] at e ⊢; omega)
    rw [this]
    rfl
  | m + 1, a, st, e => by
    have k := subAt_one s c a
    rw [List.range'_succ, List.forIn_cons]
    by_cases h : s.cps.toList[a]? = some c
    · have e1 : lastBody s ⟨#[c]⟩ s.length a st = pure (ForInStep.yield (some a)) := if_pos (k.mpr h)
      rw [e1]
      have hl : a < s.cps.toList.length := (List.getElem?_eq_some_iff.mp h).1
      have hd := List.drop_eq_getElem_cons hl
      have hc : s.cps.toList[a] = c := (List.getElem?_eq_some_iff.mp h).2
      refine Eq.trans (last1_go s c m (a + 1) (some a) (by omega)) ?_
      rw [hd, hc]
      have g := lastAt_ge c (s.cps.toList.drop (a + 1))
      show _ = if (if lastAt c (s.cps.toList.drop (a + 1)) = -1 then (if c = c then (0 : Int) else -1) else lastAt c (s.cps.toList.drop (a + 1)) + 1) = -1 then st else some (a + (if lastAt c (s.cps.toList.drop (a + 1)) = -1 then (if c = c then (0 : Int) else -1) else lastAt c (s.cps.toList.drop (a + 1)) + 1).toNat)
      by_cases h0 : lastAt c (s.cps.toList.drop (a + 1)) = -1
      · rw [if_pos h0, if_pos h0, if_pos rfl, if_neg (by decide)]
        rfl
      · rw [if_neg h0, if_neg h0, if_neg (by omega)]
        congr 1
        omega
    · have e1 : lastBody s ⟨#[c]⟩ s.length a st = pure (ForInStep.yield st) := if_neg fun z => h (k.mp z)
      rw [e1]
      refine Eq.trans (last1_go s c m (a + 1) st (by omega)) ?_
      by_cases hl : a < s.cps.toList.length
      · have hd := List.drop_eq_getElem_cons hl
        have hc : s.cps.toList[a] ≠ c := fun e2 => h (by rw [List.getElem?_eq_getElem hl, e2])
        rw [hd]
        have g := lastAt_ge c (s.cps.toList.drop (a + 1))
        show _ = if (if lastAt c (s.cps.toList.drop (a + 1)) = -1 then (if s.cps.toList[a] = c then (0 : Int) else -1) else lastAt c (s.cps.toList.drop (a + 1)) + 1) = -1 then st else some (a + (if lastAt c (s.cps.toList.drop (a + 1)) = -1 then (if s.cps.toList[a] = c then (0 : Int) else -1) else lastAt c (s.cps.toList.drop (a + 1)) + 1).toNat)
        by_cases h0 : lastAt c (s.cps.toList.drop (a + 1)) = -1
        · rw [if_pos h0, if_pos h0, if_neg hc, if_pos rfl]
        · rw [if_neg h0, if_neg h0, if_neg (by omega)]
          congr 1
          omega
      · rw [List.drop_eq_nil_of_le (by omega), List.drop_eq_nil_of_le (by omega)]
        rfl
theorem rfind1 (s : Str) (c : Nat) : Txt.rfind s ⟨#[c]⟩ = lastAt c s.cps.toList := by
  unfold Txt.rfind
  rw [last_eq, last1_go s c (s.length + 1 - 0) 0 none (by omega), List.drop_zero]
  have g := lastAt_ge c s.cps.toList
  by_cases h0 : lastAt c s.cps.toList = -1
  · rw [if_pos h0, h0]
  · rw [if_neg h0]
    show ((0 + (lastAt c s.cps.toList).toNat : Nat) : Int) = _
    omega
end Pf

namespace Pf
open PySem PySem.StrLaws PySem.Builtin PySem.Builtin.Str
/-! the first sign from a place on -/
theorem occ_full {s : Str} {c : Nat} : ∀ (l : List Nat) (st : Array Nat × Nat), st.1.size = 1 → (forIn l st (occBody s ⟨#[c]⟩ s.length 1)).run = st
  | [], st, _ => rfl
  | a :: l, st, h => by
    rw [List.forIn_cons]
    have e : occBody s ⟨#[c]⟩ s.length 1 a st = pure (ForInStep.yield st) := if_neg fun z => by have := z.1.1.1; omega
    rw [e]
    exact occ_full l st h
def behind (c : Nat) (l : List Nat) : Nat := (l.takeWhile (fun x => decide (x ≠ c))).length
theorem behind_le (c : Nat) (l : List Nat) : behind c l ≤ l.length := (List.takeWhile_prefix _).length_le
theorem behind_cons (c x : Nat) (l : List Nat) : behind c (x :: l) = if x = c then 0 else behind c l + 1 := by
  unfold behind
  rw [List.takeWhile_cons]
  by_cases h : x = c
  · rw [if_pos h, decide_eq_false (fun z => z h)]
    rfl
  · rw [if_neg h, decide_eq_true h]
    rfl
theorem find_go (s : Str) (c : Nat) : ∀ (m a f : Nat), a + m = s.length + 1 → f ≤ a →
    (forIn (List.range' a m) ((#[] : Array Nat), f) (occBody s ⟨#[c]⟩ s.length 1)).run.1.toList = if a + behind c (s.cps.toList.drop a) < s.length then [a + behind c (s.cps.toList.drop a)] else []
  | 0, a, f, e, h => by
    rw [if_neg (by omega)]
    rfl
  | m + 1, a, f, e, h => by
    rw [List.range'_succ, List.forIn_cons, occ1_turn (Nat.zero_lt_one) h]
    have hl0 : s.cps.toList.length = s.length := by simp [Str.length]
    by_cases hc : s.cps.toList[a]? = some c
    · rw [if_pos hc]
      have hl : a < s.cps.toList.length := (List.getElem?_eq_some_iff.mp hc).1
      have hd := List.drop_eq_getElem_cons hl
      have he : s.cps.toList[a] = c := (List.getElem?_eq_some_iff.mp hc).2
      rw [hd, behind_cons, if_pos he, if_pos (by omega)]
      have k := occ_full (s := s) (c := c) (List.range' (a + 1) m) (#[a], a + 1) rfl
      show (forIn (List.range' (a + 1) m) (#[a], a + 1) (occBody s ⟨#[c]⟩ s.length 1)).run.1.toList = [a]
      rw [k]
    · rw [if_neg hc]
      refine Eq.trans (find_go s c m (a + 1) f (by omega) (by omega)) ?_
      by_cases hl : a < s.cps.toList.length
      · have hd := List.drop_eq_getElem_cons hl
        have hn : s.cps.toList[a] ≠ c := fun e2 => hc (by rw [List.getElem?_eq_getElem hl, e2])
        rw [hd, behind_cons, if_neg hn]
        have e3 : a + (behind c (s.cps.toList.drop (a + 1)) + 1) = a + 1 + behind c (s.cps.toList.drop (a + 1)) := by omega
        rw [e3]
      · rw [if_neg (by omega), if_neg (by omega)]
theorem find1 (s : Str) (c a : Nat) (h : a ≤ s.length) : Txt.find3 s ⟨#[c]⟩ (a : Int) = if a + behind c (s.cps.toList.drop a) < s.length then ((a + behind c (s.cps.toList.drop a) : Nat) : Int) else -1 := by
  unfold Txt.find3
  have ef : fromIndex s.length (a : Int) = a := by
    unfold fromIndex
    rw [if_neg (by omega)]
    omega
  rw [occ_eq, ef, find_go s c (s.length + 1 - a) a a (by omega) (Nat.le_refl _)]
  by_cases h2 : a + behind c (s.cps.toList.drop a) < s.length
  · rw [if_pos h2, if_pos h2]
  · rw [if_neg h2, if_neg h2]
end Pf

namespace Pf
open PySem PySem.Spec PyProof.Rows L2
/-! texts by the lists of their codes -/
abbrev T (l : List Nat) : Str := ⟨l.toArray⟩
theorem T_of (x : Str) : x = T x.cps.toList := TL.ext_tl rfl
theorem T_len (l : List Nat) : (T l).length = l.length := by simp [Str.length]
theorem T_cat (a b : List Nat) : T a ++ T b = T (a ++ b) := TL.ext_tl (TL.tl_append (T a) (T b))
theorem T_inj {a b : List Nat} (h : T a = T b) : a = b := congrArg (fun x : Str => x.cps.toList) h
theorem T_eq {a b : List Nat} : decide (T a = T b) = decide (a = b) := by
  by_cases h : a = b
  · rw [h, decide_eq_true rfl, decide_eq_true rfl]
  · rw [decide_eq_false h, decide_eq_false fun e => h (T_inj e)]
theorem V_eq {a b : List Nat} : decide (V.str (T a) = V.str (T b)) = decide (a = b) := by
  by_cases h : a = b
  · rw [h, decide_eq_true rfl, decide_eq_true rfl]
  · rw [decide_eq_false h, decide_eq_false fun e => h (T_inj (V.str.inj e))]
theorem cut_to (l : List Nat) (n : Nat) : cutS (T l) none (some (n : Int)) = T (l.take n) := by
  unfold cutS
  rw [HT.sIx_none, HT.sIx_nat, T_len]
  refine TL.ext_tl ?_
  show (l.drop 0).take (min n l.length - 0) = l.take n
  rw [List.drop_zero, Nat.sub_zero, ← List.take_eq_take_min]
theorem cut_from (l : List Nat) (n : Nat) : cutS (T l) (some (n : Int)) none = T (l.drop n) := by
  unfold cutS
  rw [HT.sIx_none, HT.sIx_nat, T_len]
  refine TL.ext_tl ?_
  show (l.drop (min n l.length)).take (l.length - min n l.length) = l.drop n
  by_cases h : n ≤ l.length
  · rw [Nat.min_eq_left h, List.take_of_length_le (by rw [List.length_drop]; omega)]
  · rw [Nat.min_eq_right (by omega), List.drop_eq_nil_of_le (by omega), List.drop_eq_nil_of_le (by omega), List.take_nil]
theorem cut_mid (l : List Nat) {a b : Nat} (ha : a ≤ b) (hb : b ≤ l.length) : cutS (T l) (some (a : Int)) (some (b : Int)) = T ((l.drop a).take (b - a)) := by
  unfold cutS
  rw [HT.sIx_nat, HT.sIx_nat, T_len, Nat.min_eq_left (show a ≤ l.length by omega), Nat.min_eq_left hb]
/-- a text walked by its signs -/
theorem for_txt {l : List Nat} {g : TG} {tb : TS} {D : Ends} {σ : L2.St} {H : Hp} (Pv : Nat → L2.St → Hp → Prop) (h0 : Pv 0 σ H)
    (hs : ∀ i c σ H, l[i]? = some c → Pv i σ H → g (.str (sg c)) σ H fun σ2 H2 => tb { D with nx := Pv (i + 1), ct := Pv (i + 1), bk := D.nx } σ2 H2) (hd : ∀ σ H, Pv l.length σ H → D.nx σ H) :
    ∃ W : Nat → Nat → L2.St → Hp → Prop, (∃ m, W 0 m σ H) ∧ ∀ i m σ H, W i m σ H →
      ((Its (T l)).stop i H ∧ D.nx σ H) ∨ ((Its (T l)).go i H ∧ ∃ N : L2.St → Hp → Prop, (∀ σ' H', N σ' H' → ∃ m', m' < m ∧ W (i + 1) m' σ' H') ∧ ∀ x H', (Its (T l)).yld i H x H' → g x σ H' fun σ2 H2 => tb { D with nx := N, ct := N, bk := D.nx } σ2 H2) := by
  refine ⟨fun i m σ H => m = l.length - i ∧ i ≤ l.length ∧ Pv i σ H, ⟨l.length, by simp, Nat.zero_le _, h0⟩, ?_⟩
  rintro i m σ H ⟨rfl, hi, p⟩
  by_cases hlt : i < l.length
  · refine .inr ⟨(by show i < l.toArray.size; simpa using hlt), Pv (i + 1), fun σ' H' p' => ⟨l.length - (i + 1), by omega, rfl, hlt, p'⟩, fun x H' y => ?_⟩
    obtain ⟨rfl, c, hc, rfl⟩ := y
    exact hs i c σ H' (by simpa using hc) p
  · have e : i = l.length := by omega
    subst e
    exact .inl ⟨(by show l.toArray.size ≤ l.length; simp), hd _ _ p⟩
/-- a comprehension over a text -/
theorem lc_txt {l : List Nat} {g : TG} {tt : TT} {te : TE} {vs : List Nat} {σ : L2.St} {H1 : Hp} {D : Addr} {Qd : Hp → Prop} (Pv : Nat → Hp → Prop) (h0 : Pv 0 (upd H1 D (.lst [])))
    (hs : ∀ i c H, l[i]? = some c → Pv i H → g (.str (sg c)) (wipe σ vs) H fun σ2 H2 => wipe σ2 vs = wipe σ vs ∧ tt σ2 H2 fun b H3 =>
      if b = true then te σ2 H3 fun y H4 => ∃ acc, H4 D = some (.lst acc) ∧ acc.length < sizeLine ∧ Pv (i + 1) (upd H4 D (.lst (acc ++ [y]))) else Pv (i + 1) H3) (hd : ∀ H, Pv l.length H → Qd H) :
    ∃ W : Nat → Nat → Hp → Prop, (∃ m, W 0 m (upd H1 D (.lst []))) ∧ ∀ i m H, W i m H →
      ((Its (T l)).stop i H ∧ Qd H) ∨ ((Its (T l)).go i H ∧ ∃ Nx : Hp → Prop, (∀ H', Nx H' → ∃ m', m' < m ∧ W (i + 1) m' H') ∧ ∀ x H', (Its (T l)).yld i H x H' → g x (wipe σ vs) H' fun σ2 H2 => wipe σ2 vs = wipe σ vs ∧ tt σ2 H2 fun b H3 =>
        if b = true then te σ2 H3 fun y H4 => ∃ acc, H4 D = some (.lst acc) ∧ acc.length < sizeLine ∧ Nx (upd H4 D (.lst (acc ++ [y]))) else Nx H3) := by
  refine ⟨fun i m H => m = l.length - i ∧ i ≤ l.length ∧ Pv i H, ⟨l.length, by simp, Nat.zero_le _, h0⟩, ?_⟩
  rintro i m H ⟨rfl, hi, p⟩
  by_cases hlt : i < l.length
  · refine .inr ⟨(by show i < l.toArray.size; simpa using hlt), Pv (i + 1), fun H' p' => ⟨l.length - (i + 1), by omega, rfl, hlt, p'⟩, fun x H' y => ?_⟩
    obtain ⟨rfl, c, hc, rfl⟩ := y
    exact hs i c H' (by simpa using hc) p
  · have e : i = l.length := by omega
    subst e
    exact .inl ⟨(by show l.toArray.size ≤ l.length; simp), hd _ p⟩
theorem small9 {n : Nat} (h : n ≤ 1000000) : n ≤ sizeLine := Nat.le_trans h (by decide)
/-- a sign of a text all of whose signs are of a kind -/
theorem ix_of {z : Str} {i : Int} {H : Hp} {Q : VK} (p : Nat → Bool) (h0 : 0 ≤ i) (h1 : i < (z.length : Int)) (hz : z.length ≤ sizeLine) (hc : z.cps.toList.all p = true) (q : ∀ c, p c = true → Q (.str (sg c)) H) : rIxS (.str z) (.int i) H Q := by
  have hl : z.length = z.cps.toList.length := by simp [Str.length]
  have hi : i.toNat < z.cps.toList.length := by omega
  have ei : i = ((i.toNat : Nat) : Int) := by omega
  refine ⟨z, i, z.cps.toList[i.toNat], rfl, rfl, hz, ?_, q _ (List.all_eq_true.mp hc _ (List.getElem_mem hi))⟩
  have := atI_some hi
  rw [← ei] at this
  exact this
theorem nl_eq : Str.ofString "\n" = T [10] := by decide +kernel
theorem e_eq : Str.ofString "" = T [] := by decide +kernel
theorem at_any {α : Type} {xs : List α} (p : α → Prop) {i : Int} (h0 : 0 ≤ i) (h1 : i < (xs.length : Int)) (h : ∀ x ∈ xs, p x) : ∃ v, p v ∧ atI xs i = some v := by
  have hi : i.toNat < xs.length := by omega
  have ei : i = ((i.toNat : Nat) : Int) := by omega
  refine ⟨xs[i.toNat], h _ (List.getElem_mem hi), ?_⟩
  have := atI_some hi
  rw [← ei] at this
  exact this
theorem inV_strs (x : Str) (ys : List Str) : inV (.str x) (ys.map V.str) = decide (x ∈ ys) := by
  unfold inV
  rw [List.any_map]
  induction ys with
  | nil => rfl
  | cons y ys ih =>
    rw [List.any_cons, ih]
    show ((y == x) || decide (x ∈ ys)) = decide (x ∈ y :: ys)
    by_cases h : y = x
    · subst h
      rw [beq_self_eq_true, Bool.true_or, decide_eq_true (List.mem_cons_self ..)]
    · rw [beq_false_of_ne h, Bool.false_or]
      by_cases h2 : x ∈ ys
      · rw [decide_eq_true h2, decide_eq_true (List.mem_cons_of_mem _ h2)]
      · rw [decide_eq_false h2, decide_eq_false]
        intro h3
        rcases List.mem_cons.mp h3 with h3 | h3
        · exact h h3.symm
        · exact h2 h3
theorem flat_strs (ys : List Str) : (ys.map V.str).all flatV = true := by
  rw [List.all_map, List.all_eq_true]
  intro x _
  rfl
end Pf

namespace Pf
open PySem PySem.Spec PyProof.Rows L2
def topS (i : Nat) : Stmt := PySem.Challenge.pw_ontoworks_k42_split_tokens.main.body.getD i (.Pass ⟨0, 0, 0, 0⟩)
abbrev K_BLANKS : Str := Str.ofString " \n"
abbrev K_SIGNS : Str := Str.ofString "();,:"
abbrev K_LETTERS : Str := Str.ofString "abcdefghijklmnopqrstuvwxyzABCDEFGHIJKLMNOPQRSTUVWXYZ_"
abbrev K_DIGITS : Str := Str.ofString "0123456789"
abbrev K_LONGEST_WORD : Int := 20
abbrev s_place : Stmt := topS 9
theorem sc_place : FnScope ["text", "at", "before"] ["text", "at"] (defScope s_place) := ⟨rfl, rfl, rfl, by decide +kernel, rfl, by decide +kernel, by decide +kernel⟩
abbrev s_split_tokens : Stmt := topS 10
theorem sc_split_tokens : FnScope ["text", "tokens", "at", "word"] ["text"] (defScope s_split_tokens) := ⟨rfl, rfl, rfl, by decide +kernel, rfl, by decide +kernel, by decide +kernel⟩
abbrev s_comment_end : Stmt := topS 11
theorem sc_comment_end : FnScope ["text", "at", "end"] ["text", "at"] (defScope s_comment_end) := ⟨rfl, rfl, rfl, by decide +kernel, rfl, by decide +kernel, by decide +kernel⟩
abbrev s_word_at : Stmt := topS 12
theorem sc_word_at : FnScope ["text", "at", "end", "line", "column"] ["text", "at"] (defScope s_word_at) := ⟨rfl, rfl, rfl, by decide +kernel, rfl, by decide +kernel, by decide +kernel⟩
abbrev s_word_end : Stmt := topS 13
theorem sc_word_end : FnScope ["text", "at", "end"] ["text", "at"] (defScope s_word_end) := ⟨rfl, rfl, rfl, by decide +kernel, rfl, by decide +kernel, by decide +kernel⟩
abbrev s_law_cell : Stmt := topS 15
theorem sc_law_cell : FnScope ["script", "k"] ["script", "k"] (defScope s_law_cell) := ⟨rfl, rfl, rfl, by decide +kernel, rfl, by decide +kernel, by decide +kernel⟩
abbrev s_law_draws : Stmt := topS 16
theorem sc_law_draws : FnScope ["script", "k", "count", "cell", "rest", "seed", "found", "at"] ["script", "k", "count"] (defScope s_law_draws) := ⟨rfl, rfl, rfl, by decide +kernel, rfl, by decide +kernel, by decide +kernel⟩
abbrev s_law_take : Stmt := topS 17
theorem sc_law_take : FnScope ["draws", "many"] ["draws", "many"] (defScope s_law_take) := ⟨rfl, rfl, rfl, by decide +kernel, rfl, by decide +kernel, by decide +kernel⟩
abbrev s_law_same : Stmt := topS 18
theorem sc_law_same : FnScope ["actual", "due", "k"] ["actual", "due"] (defScope s_law_same) := ⟨rfl, rfl, rfl, by decide +kernel, rfl, by decide +kernel, by decide +kernel⟩
abbrev s_law_char : Stmt := topS 19
theorem sc_law_char : FnScope ["draw", "chars"] ["draw"] (defScope s_law_char) := ⟨rfl, rfl, rfl, by decide +kernel, rfl, by decide +kernel, by decide +kernel⟩
abbrev s_law_reserved : Stmt := topS 20
theorem sc_law_reserved : FnScope ["words"] [] (defScope s_law_reserved) := ⟨rfl, rfl, rfl, by decide +kernel, rfl, by decide +kernel, by decide +kernel⟩
abbrev s_law_gap : Stmt := topS 21
theorem sc_law_gap : FnScope ["draws", "needed", "kind", "text", "k"] ["draws", "needed"] (defScope s_law_gap) := ⟨rfl, rfl, rfl, by decide +kernel, rfl, by decide +kernel, by decide +kernel⟩
abbrev s_law_spell : Stmt := topS 22
theorem sc_law_spell : FnScope ["rows", "draws", "text", "places", "k", "follows", "wide"] ["rows", "draws"] (defScope s_law_spell) := ⟨rfl, rfl, rfl, by decide +kernel, rfl, by decide +kernel, by decide +kernel⟩
abbrev s_law : Stmt := topS 23
theorem sc_law : FnScope ["script", "rows", "k", "draws", "kind", "word", "at", "spelled", "due"] ["script"] (defScope s_law) := ⟨rfl, rfl, rfl, by decide +kernel, rfl, by decide +kernel, by decide +kernel⟩
local macro_rules | `(tactic| walk_at "w") => `(tactic| repeat (first
  | refine ⟨_, rfl, ?_⟩
  | refine ⟨_, _, rfl, rfl, .inr ⟨by decide, by decide⟩, ?_⟩
  | refine ⟨_, _, rfl, rfl, .inl ⟨by decide, by decide⟩, ?_⟩
  | refine ⟨_, _, rfl, rfl, ⟨by decide, by decide⟩, ?_⟩
  | refine ⟨_, _, rfl, rfl, ⟨by decide, by decide, by decide⟩, ?_⟩
  | refine ⟨_, _, rfl, rfl, (by show (0 : Int) < _; decide), ?_⟩
  | refine ⟨_, _, rfl, rfl, ?_⟩
  | refine .inl ⟨_, rfl, ?_⟩))
section
variable {P : Program} {w : World} {K : PySem.W.Frag} {mg : Str → Option Value} {base : Heap}
theorem at_int {ns : List Int} {k : Int} (h0 : 0 ≤ k) (h : k < ((ns.map V.int).length : Int)) : ∃ c, atI (ns.map V.int) k = some (.int c) := by
  have hk : k.toNat < ns.length := by rw [List.length_map] at h; omega
  have ek : k = ((k.toNat : Nat) : Int) := by omega
  have q : atI (ns.map V.int) ((k.toNat : Nat) : Int) = some (.int ns[k.toNat]) := atI_nat (by rw [List.getElem?_map, List.getElem?_eq_getElem hk] <;> rfl)
  rw [← ek] at q
  exact ⟨_, q⟩
theorem c_law_cell {f : Addr} {fd : FuncData} (D : Df K mg "_law_cell" s_law_cell f fd ["script", "k"]) (z_len : mg "len" = none) (z_int : mg "int" = none) : Cl P w K mg base 1 "_law_cell" (spCell K) := by
  refine D.cl sc_law_cell (fun vs H Q E h => ?_) (fun cdv A outer s H vs Q E hr h => ?_)
  · obtain ⟨a, ns, k, rfl, _⟩ := h
    rfl
  obtain ⟨a, ns, k, rfl, hS, h63, h0, q⟩ := h
  refine ⟨_, (pss_cons (ps_if (pt_cmpR op_lt (pv 1) (pe_callB call_len_seq (by rfl) z_len PySem.boot_len (pa_cons (pv 0) pa_nil)) (nomark _)) (pss_one (ps_ret (pe_callTy call_int1 (by rfl) z_int (by decide +kernel) (pa_cons (pe_ix ix_list (pv 0) (pv 1) (fun _ _ => rfl)) pa_nil)))) pss_nil)
      (pss_one (ps_ret pe_int))), ?_⟩
  refine ⟨_, rfl, _, rfl, a, _, rfl, .inl hS, _, _, rfl, rfl, _, rfl, ite2 (fun c => ?_) (fun c => ?_)⟩
  · obtain ⟨v, hv⟩ := at_int (ns := ns) h0 (of_decide_eq_true c)
    exact ⟨_, rfl, _, rfl, a, _, _, _, rfl, rfl, hS, hv, .inl ⟨_, rfl, q v⟩⟩
  · exact q 0
theorem c_law_take {f : Addr} {fd : FuncData} (D : Df K mg "_law_take" s_law_take f fd ["draws", "many"]) (z_int : mg "int" = none) : Cl P w K mg base 1 "_law_take" spTake := by
  refine D.cl sc_law_take (fun vs H Q E h => ?_) (fun cdv A outer s H vs Q E hr h => ?_)
  · obtain ⟨l, ds, m, rfl, _⟩ := h
    rfl
  obtain ⟨l, ds, m, rfl, hl, hm, q⟩ := h
  refine ⟨_, (pss_cons (ps_if (pt_not (pt_truth (pv 0) (by intro _; rfl))) (pss_one (ps_ret pe_int)) pss_nil)
      (pss_one (ps_ret (pe_op op_mod (pe_callTy call_int1 (by rfl) z_int (by decide +kernel) (pa_cons (pe_bm PySem.F.plainAttrs_list PySem.F.slot_list_pop PySem.F.type_list_pop mt_popAt (pv 0) (pa_cons pe_int pa_nil)) pa_nil)) (pv 1))))), ?_⟩
  cases ds with
  | nil =>
    refine ⟨_, rfl, false, .inl ⟨_, SqL.of hl, rfl⟩, iteT ?_⟩
    have := q 0 (Int.le_refl 0) hm
    rw [show upd H l (.lst (([] : List Int).tail.map V.int)) = H from upd_self hl] at this
    exact this
  | cons d r =>
    refine ⟨_, rfl, true, .inl ⟨_, SqL.of hl, rfl⟩, iteF ?_⟩
    refine ⟨_, rfl, .inl ⟨rfl, _, SqL.of hl⟩, l, _, _, 0, .int d, rfl, rfl, hl, by decide, by decide, seqIndex?_zero (Nat.succ_pos _), rfl, .inl ⟨_, rfl, _, rfl, _, _, rfl, rfl, hm, ?_⟩⟩
    exact q (d % m) (Int.emod_nonneg _ (by omega)) (Int.emod_lt_of_pos _ hm)
theorem c_law_draws {f : Addr} {fd : FuncData} (D : Df K mg "_law_draws" s_law_draws f fd ["script", "k", "count"]) (c_law_cell : Cl P w K mg base 1 "_law_cell" (spCell K)) (z_int : mg "int" = none) (z_range : mg "range" = none) : Cl P w K mg base 2 "_law_draws" (spDraws K) := by
  refine D.cl sc_law_draws (fun vs H Q E h => ?_) (fun cdv A outer s H vs Q E hr h => ?_)
  · obtain ⟨a, ns, k, n, rfl, _⟩ := h
    rfl
  obtain ⟨a, ns, k, n, rfl, hS, h63, h0, hn0, hn, q⟩ := h
  refine ⟨_, (pss_cons (ps_set (i := 3) sc_law_draws.nd rfl (.inl rfl) (pc c_law_cell hr (by first | decide | omega) (by rfl) (pa_cons (pv 0) (pa_cons (pv 1) pa_nil))))
      (pss_cons (ps_set (i := 4) sc_law_draws.nd rfl (.inl rfl) pe_int)
      (Evl.pss_cut (ps_if (pt_cmpR op_ge (pv 3) (pe_op op_pow pe_int pe_int) (nomark _)) (pss_one (ps_set (i := 4) sc_law_draws.nd rfl (.inl rfl) (pe_op op_fdivW (pv 3) (pe_op op_pow pe_int pe_int)))) pss_nil)
      (pss_cons (ps_set (i := 5) sc_law_draws.nd rfl (.inl rfl) (pe_op op_mod (pe_callTy call_int1 (by rfl) z_int (by decide +kernel) (pa_cons (pe_op op_add (pe_op op_add (pe_op op_mul (pv 3) pe_int) (pe_op op_mul (pv 1) pe_int)) pe_int) pa_nil)) pe_int))
      (pss_cons (ps_set (i := 6) sc_law_draws.nd rfl (.inl rfl) (pe_lst pa_nil))
      (pss_cons (ps_for PassesOwn.never rfl (pi_range1 (by rfl) z_range (pa_cons (pv 2) pa_nil)) (pg_name (i := 7) sc_law_draws.nd rfl (.inl rfl)) (pss_cons (ps_set (i := 5) sc_law_draws.nd rfl (.inl rfl) (pe_op op_mod (pe_callTy call_int1 (by rfl) z_int (by decide +kernel) (pa_cons (pe_op op_add (pe_op op_add (pe_op op_mul (pv 5) pe_int) (pe_op op_mul (pv 7) pe_int)) pe_int) pa_nil)) pe_int))
      (pss_one (ps_if (pt_cmpR op_gt (pv 4) pe_int (nomark _)) (pss_cons (ps_expr (pe_bm PySem.F.plainAttrs_list PySem.F.slot_list_append PySem.F.type_list_append mt_append (pv 6) (pa_cons (pe_op op_mod (pe_callTy call_int1 (by rfl) z_int (by decide +kernel) (pa_cons (pv 4) pa_nil)) pe_int) pa_nil)))
      (pss_one (ps_set (i := 4) sc_law_draws.nd rfl (.inl rfl) (pe_op op_fdiv (pv 4) pe_int)))) (pss_one (ps_expr (pe_bm PySem.F.plainAttrs_list PySem.F.slot_list_append PySem.F.type_list_append mt_append (pv 6) (pa_cons (pe_op op_mod (pe_callTy call_int1 (by rfl) z_int (by decide +kernel) (pa_cons (pe_op op_fdiv (pv 5) pe_int) pa_nil)) pe_int) pa_nil))))))))
      (pss_one (ps_ret (pv 6))))))))), ?_⟩
  refine ⟨_, rfl, _, rfl, a, ns, k, rfl, hS, h63, h0, fun c => ?_⟩
  walk_at "w"
  refine ⟨fun σ' H' => ∃ r : Int, σ' = [some (.ref a), some (.int k), some (.int n), some (.int c), some (.int r), none, none, none] ∧ H = H', ?_, ?_⟩
  · walk_at "w"
    refine ite2 (fun c1 => ?_) (fun c1 => ?_)
    · walk_at "w"
      exact rfl
    · exact ⟨0, rfl, rfl⟩
  rintro _ _ ⟨r, rfl, rfl⟩
  walk_at "w"
  refine ⟨Nat.zero_le _, fun p hp => ?_⟩
  walk_at "w"
  refine ⟨by omega, by omega, for_range (lo := 0) (n := n.toNat) (fun i σ' H' => ∃ (r sd : Int) (x : Option V) (ds : List Int), σ' = [some (.ref a), some (.int k), some (.int n), some (.int c), some (.int r), some (.int sd), some (.ref p), x] ∧ ds.length = i ∧ H' = upd H p (.lst (ds.map V.int))) ⟨_, _, none, [], rfl, rfl, rfl⟩ ?_ ?_⟩
  · rintro i _ _ hi ⟨r, sd, x, ds, rfl, hd, rfl⟩
    have hz : (ds.map V.int).length < sizeLine := by
      rw [List.length_map]
      exact small1000 (by omega)
    have e1 : ∀ y : Int, upd (upd H p (.lst (ds.map V.int))) p (.lst (ds.map V.int ++ [V.int y])) = upd H p (.lst ((ds ++ [y]).map V.int)) := fun y => by
      rw [upd_upd, List.map_append]
      rfl
    walk_at "w"
    refine ite2 (fun c1 => ?_) (fun c1 => ?_)
    · walk_at "w"
      refine ⟨.inl ⟨rfl, _, SqL.of upd_same⟩, ?_⟩
      walk_at "w"
      refine ⟨p, _, _, rfl, rfl, upd_same, hz, ?_⟩
      walk_at "w"
      exact ⟨_, _, _, ds ++ [_], rfl, by rw [List.length_append, hd]; rfl, e1 _⟩
    · walk_at "w"
      refine ⟨.inl ⟨rfl, _, SqL.of upd_same⟩, ?_⟩
      walk_at "w"
      refine ⟨p, _, _, rfl, rfl, upd_same, hz, ?_⟩
      exact ⟨_, _, _, ds ++ [_], rfl, by rw [List.length_append, hd]; rfl, e1 _⟩
  · rintro _ _ ⟨r, sd, x, ds, rfl, hd, rfl⟩
    exact ⟨_, rfl, q ds p _ (Same.new _ hp) hp upd_same (by omega)⟩
theorem c_law_same {f : Addr} {fd : FuncData} (D : Df K mg "_law_same" s_law_same f fd ["actual", "due"]) (z_isinstance : mg "isinstance" = none) (z_tuple : mg "tuple" = none) (z_bool : mg "bool" = none) (z_int : mg "int" = none) (z_str : mg "str" = none)
    (z_len : mg "len" = none) (z_all : mg "all" = none) (z_range : mg "range" = none) : ∀ n : Nat, Cl P w K mg base (n + 1) "_law_same" (spSame K n)
  | 0 => by
    refine D.cl sc_law_same (fun vs H Q E h => ?_) (fun cdv A outer s H vs Q E hr h => ?_)
    · obtain ⟨x, y, d, rfl, _⟩ := h
      rfl
    · obtain ⟨x, y, d, rfl, _, _, z, _⟩ := h
      exact z.elim
  | n + 1 => by
    have c_law_same := c_law_same D z_isinstance z_tuple z_bool z_int z_str z_len z_all z_range n
    refine D.cl sc_law_same (fun vs H Q E h => ?_) (fun cdv A outer s H vs Q E hr h => ?_)
    · obtain ⟨x, y, d, rfl, _⟩ := h
      rfl
    obtain ⟨x, y, d, rfl, hx, hy, hd, q⟩ := h
    refine ⟨_, (pss_cons (ps_if (pt_val (pe_callB call_isi (by rfl) z_isinstance (by decide +kernel) (pa_cons (pv 1) (pa_cons (pe_bltn (v := .ty "tuple") (u := .type "tuple") (by rfl) z_tuple (by decide +kernel) rfl) pa_nil)))) (pss_cons (ps_if (PW.pt (pw_or (pt_not (pt_val (pe_callB call_isi (by rfl) z_isinstance (by decide +kernel) (pa_cons (pv 0) (pa_cons (pe_bltn (v := .ty "tuple") (u := .type "tuple") (by rfl) z_tuple (by decide +kernel) rfl) pa_nil))))) (pw_or1 (pt_cmpR op_ne (pe_callB call_len_seq (by rfl) z_len PySem.boot_len (pa_cons (pv 0) pa_nil)) (pe_callB call_len_seq (by rfl) z_len PySem.boot_len (pa_cons (pv 1) pa_nil)) (nomark _))))) (pss_one (ps_ret pe_bl)) pss_nil)
      (pss_one (ps_ret (pe_callB (cr_all rfl) (by rfl) z_all (by decide +kernel) (pa_cons (pe_lc (own := [("k", 2)]) (g := gName 2) (tt := tYes) (by rfl) sc_law_same.nd (pi_range1 (by rfl) z_range (pa_cons (pe_callB call_len_seq (by rfl) z_len PySem.boot_len (pa_cons (pv 1) pa_nil)) pa_nil)) (blkOk_by (own := [("k", 2)]) (N := ["actual", "due", "k"]) (sc := defScope s_law_same) (by decide +kernel)) (fun _ _ _ _ _ => pg_name (i := 2) sc_law_same.nd rfl (.inl rfl)) (fun _ _ _ _ _ => pts_nil) (fun _ _ _ _ _ => (pc c_law_same hr (by first | decide | omega) (by rfl) (pa_cons (pe_ix (ixT (K := K)) (pv 0) (pv 2) (fun _ _ => rfl)) (pa_cons (pe_ix (ixT (K := K)) (pv 1) (pv 2) (fun _ _ => rfl)) pa_nil))))) pa_nil))))) pss_nil)
      (pss_cons (ps_if (pt_val (pe_callB call_isi (by rfl) z_isinstance (by decide +kernel) (pa_cons (pv 1) (pa_cons (pe_bltn (v := .ty "bool") (u := .type "bool") (by rfl) z_bool (by decide +kernel) rfl) pa_nil)))) (pss_one (ps_ret (pe_and (pe_callB call_isi (by rfl) z_isinstance (by decide +kernel) (pa_cons (pv 0) (pa_cons (pe_bltn (v := .ty "bool") (u := .type "bool") (by rfl) z_bool (by decide +kernel) rfl) pa_nil))) (pe_one (pe_cmpR op_eq (pv 0) (pv 1) (nomark _)))))) pss_nil)
      (pss_cons (ps_if (pt_val (pe_callB call_isi (by rfl) z_isinstance (by decide +kernel) (pa_cons (pv 1) (pa_cons (pe_bltn (v := .ty "int") (u := .type "int") (by rfl) z_int (by decide +kernel) rfl) pa_nil)))) (pss_one (ps_ret (pe_and (pe_callB call_isi (by rfl) z_isinstance (by decide +kernel) (pa_cons (pv 0) (pa_cons (pe_bltn (v := .ty "int") (u := .type "int") (by rfl) z_int (by decide +kernel) rfl) pa_nil))) (pe_and (pe_not (pe_callB call_isi (by rfl) z_isinstance (by decide +kernel) (pa_cons (pv 0) (pa_cons (pe_bltn (v := .ty "bool") (u := .type "bool") (by rfl) z_bool (by decide +kernel) rfl) pa_nil)))) (pe_one (pe_cmpR op_eq (pv 0) (pv 1) (nomark _))))))) pss_nil)
      (pss_cons (ps_if (pt_val (pe_callB call_isi (by rfl) z_isinstance (by decide +kernel) (pa_cons (pv 1) (pa_cons (pe_bltn (v := .ty "str") (u := .type "str") (by rfl) z_str (by decide +kernel) rfl) pa_nil)))) (pss_one (ps_ret (pe_and (pe_callB call_isi (by rfl) z_isinstance (by decide +kernel) (pa_cons (pv 0) (pa_cons (pe_bltn (v := .ty "str") (u := .type "str") (by rfl) z_str (by decide +kernel) rfl) pa_nil))) (pe_one (pe_cmpR op_eq (pv 0) (pv 1) (nomark _)))))) pss_nil)
      (pss_one (ps_ret (pe_cmpR op_isN (pv 0) pe_non (nomark _)))))))), ?_⟩
    cases d with
    | none =>
      cases hx
      cases hy
      refine if_isiF rfl (.base .non) (by decide +kernel) (if_isiF rfl (.base .non) (by decide +kernel) (if_isiF rfl (.base .non) (by decide +kernel) (if_isiF rfl (.base .non) (by decide +kernel) ?_)))
      exact ⟨_, rfl, rfl, q _ (Same.refl _)⟩
    | bool b =>
      cases hx
      cases hy
      refine if_isiF rfl (.base (.bl b)) (by decide +kernel) (if_isiT rfl (.base (.bl b)) (by decide +kernel) (ev_isi (b := true) rfl (.base (.bl b)) (by decide +kernel) ⟨_, rfl, iteT ?_⟩))
      refine ⟨_, rfl, _, rfl, rfl, ?_⟩
      rw [decide_eq_true rfl]
      exact q _ (Same.refl _)
    | int i =>
      cases hx
      cases hy
      refine if_isiF rfl (.base (.int i)) (by decide +kernel) (if_isiF rfl (.base (.int i)) (by decide +kernel) (if_isiT rfl (.base (.int i)) (by decide +kernel) (ev_isi (b := true) rfl (.base (.int i)) (by decide +kernel) ⟨_, rfl, iteT (ev_isi (b := false) rfl (.base (.int i)) (by decide +kernel) ⟨_, rfl, _, rfl, iteT ?_⟩)⟩)))
      refine ⟨_, rfl, _, rfl, rfl, ?_⟩
      rw [decide_eq_true rfl]
      exact q _ (Same.refl _)
    | str z =>
      cases hx
      cases hy
      refine if_isiF rfl (.base (.str z)) (by decide +kernel) (if_isiF rfl (.base (.str z)) (by decide +kernel) (if_isiF rfl (.base (.str z)) (by decide +kernel) (if_isiT rfl (.base (.str z)) (by decide +kernel) (ev_isi (b := true) rfl (.base (.str z)) (by decide +kernel) ⟨_, rfl, iteT ?_⟩))))
      refine ⟨_, rfl, _, rfl, rfl, ?_⟩
      rw [decide_eq_true rfl]
      exact q _ (Same.refl _)
    | list ds => exact hd.elim
    | dict ds => exact hd.elim
    | tuple ds =>
      cases hx with
      | @tup a xs _ hS hA =>
      cases hy with
      | @tup b ys _ hT hB =>
      have l1 := dpAll_len hA
      have l2 := dpAll_len hB
      refine if_isiT rfl (tyT hT) (by decide +kernel) ?_
      -- not isinstance(actual, tuple) or len(actual) != len(due)
      refine ev_isi (b := true) rfl (tyT hS) (by decide +kernel) ⟨_, rfl, iteF ?_⟩
      refine ⟨_, rfl, a, _, rfl, .inr hS, _, rfl, b, _, rfl, .inr hT, rfl, _, rfl, ?_⟩
      rw [l1, l2, decide_eq_true rfl]
      refine iteF ?_
      -- all of a list of True
      refine ⟨_, rfl, b, _, rfl, .inr hT, _, rfl, by have := hd.1; omega, by have := hd.1; omega, fun L hL => ?_⟩
      refine lc_range (lo := 0) (n := _) (fun i H' => Same H H' ∧ H L = none ∧ H' L = some (.lst ((List.replicate i true).map V.bl))) ⟨Same.new _ hL, hL, upd_same⟩ ?_ ?_
      · rintro i H' hi ⟨e, hn, hl⟩
        have hi' : i < ds.length := by rw [← l2]; exact hi
        have g1 : i < xs.length := by omega
        have g2 : i < _ := hi
        have ei : (0 : Int) + (i : Int) = ((i : Nat) : Int) := by omega
        refine ⟨rfl, ?_⟩
        refine ⟨_, rfl, _, rfl, a, _, _, _, rfl, rfl, Same.seqT e hS, (by rw [ei]; exact atI_some g1), _, rfl, _, rfl, b, _, _, _, rfl, rfl, Same.seqT e hT, (by rw [ei]; exact atI_some g2), ?_⟩
        refine ⟨_, _, ds[i], rfl, Dp.same e (dpAll_at hA i _ _ (List.getElem?_eq_getElem g1) (List.getElem?_eq_getElem hi')), Dp.same e (dpAll_at hB i _ _ (List.getElem?_eq_getElem g2) (List.getElem?_eq_getElem hi')), hd.2 _ (List.getElem_mem hi'), fun H2 e2 => ?_⟩
        refine ⟨_, e2 _ _ hl, ?_, ?_⟩
        · rw [List.length_map, List.length_replicate]
          have := hd.1
          exact Nat.lt_of_lt_of_le (show i < 100001 by omega) (by decide)
        · refine ⟨fun z o hz => ?_, hn, ?_⟩
          · rw [upd_ne (ne_of_none hz hn)]
            exact e2 _ _ (e _ _ hz)
          · rw [upd_same, List.replicate_succ', List.map_append]
            rfl
      · rintro H' ⟨e, hn, hl⟩
        refine ⟨L, _, rfl, SqL.of hl, ?_⟩
        have ea : ∀ n : Nat, (List.replicate n true).all id = true := fun n => by
          induction n with
          | zero => rfl
          | succ n ih => rw [List.replicate_succ, List.all_cons, ih]; rfl
        rw [ea]
        exact q _ e
theorem c_law_char {f : Addr} {fd : FuncData} (D : Df K mg "_law_char" s_law_char f fd ["draw"]) (z_int : mg "int" = none) (z_len : mg "len" = none) : Cl P w K mg base 1 "_law_char" spChar := by
  refine D.cl sc_law_char (fun vs H Q E h => ?_) (fun cdv A outer s H vs Q E hr h => ?_)
  · obtain ⟨d, rfl, _⟩ := h
    rfl
  obtain ⟨d, rfl, q⟩ := h
  refine ⟨_, (pss_cons (ps_set (i := 1) sc_law_char.nd rfl (.inl rfl) pe_str)
      (pss_one (ps_ret (pe_ix ix_str (pv 1) (pe_op op_mod (pe_callTy call_int1 (by rfl) z_int (by decide +kernel) (pa_cons (pv 0) pa_nil)) (pe_callB call_len_str (by rfl) z_len PySem.boot_len (pa_cons (pv 1) pa_nil))) (fun _ _ => rfl))))), ?_⟩
  walk_at "w"
  refine ⟨(by decide +kernel), _, _, rfl, rfl, (by show (0 : Int) < _; decide +kernel), ?_⟩
  refine ix_of (fun c => decide (ChrOk c)) (Int.emod_nonneg _ (by decide +kernel)) (Int.emod_lt_of_pos _ (by decide +kernel)) (by decide +kernel) (by decide +kernel) (fun c hc => ?_)
  exact q c (of_decide_eq_true hc)
def isL (c : Nat) : Bool := decide (c ∈ K_LETTERS.cps.toList)
def isW (c : Nat) : Bool := isL c || decide (c ∈ K_DIGITS.cps.toList)
/-- the index behind the word at an index -/
def wordEnd (l : List Nat) (a : Nat) : Nat := match l.drop a with
  | [] => a
  | c :: r => if isL c then a + 1 + (r.takeWhile isW).length else a
def spWordEnd : Sp := fun vs H Q _ => ∃ (l : List Nat) (a : Nat), vs = [.str (T l), .int (a : Int)] ∧ a ≤ l.length ∧ l.length ≤ 100000 ∧ Q (.int (wordEnd l a : Nat)) H
theorem wordEnd_le {l : List Nat} {a : Nat} (h : a ≤ l.length) : a ≤ wordEnd l a ∧ wordEnd l a ≤ l.length := by
  unfold wordEnd
  have hl : (l.drop a).length = l.length - a := List.length_drop
  cases e : l.drop a with
  | nil => exact ⟨Nat.le_refl _, h⟩
  | cons c r =>
    rw [e, List.length_cons] at hl
    have := (List.takeWhile_prefix isW (l := r)).length_le
    show a ≤ (if isL c then a + 1 + (r.takeWhile isW).length else a) ∧ (if isL c then a + 1 + (r.takeWhile isW).length else a) ≤ l.length
    split <;> omega
theorem c_word_end {f : Addr} {fd : FuncData} {tL tD : Tok} (D : Df K mg "_word_end" s_word_end f fd ["text", "at"]) (m_LETTERS : mg "LETTERS" = some (.str K_LETTERS tL)) (m_DIGITS : mg "DIGITS" = some (.str K_DIGITS tD)) (z_len : mg "len" = none) : Cl P w K mg base 1 "_word_end" spWordEnd := by
  refine D.cl sc_word_end (fun vs H Q E h => ?_) (fun cdv A outer s H vs Q E hr h => ?_)
  · obtain ⟨l, a, rfl, _⟩ := h
    rfl
  obtain ⟨l, a, rfl, ha, hl, q⟩ := h
  refine ⟨_, (pss_cons (ps_if (PW.pt (pw_or (pt_cmpR op_eq (pv 1) (pe_callB call_len_str (by rfl) z_len PySem.boot_len (pa_cons (pv 0) pa_nil)) (nomark _)) (pw_or1 (pt_cmpR op_notIn_sign (pe_ix ix_str (pv 0) (pv 1) (fun _ _ => rfl)) (pe_glob (v := .str K_LETTERS) (by rfl) m_LETTERS ⟨_, rfl⟩) rfl)))) (pss_one (ps_ret (pv 1))) pss_nil)
      (pss_cons (ps_set (i := 2) sc_word_end.nd rfl (.inl rfl) (pe_op op_add (pv 1) pe_int))
      (pss_cons (ps_while PassesOwn.never (PW.pt (pw_and (pt_cmpR op_lt (pv 2) (pe_callB call_len_str (by rfl) z_len PySem.boot_len (pa_cons (pv 0) pa_nil)) (nomark _)) (pw_and1 (PW.pt (pw_or (pt_cmpR op_in_sign (pe_ix ix_str (pv 0) (pv 2) (fun _ _ => rfl)) (pe_glob (v := .str K_LETTERS) (by rfl) m_LETTERS ⟨_, rfl⟩) rfl) (pw_or1 (pt_cmpR op_in_sign (pe_ix ix_str (pv 0) (pv 2) (fun _ _ => rfl)) (pe_glob (v := .str K_DIGITS) (by rfl) m_DIGITS ⟨_, rfl⟩) rfl))))))) (pss_one (ps_aug (i := 2) sc_word_end.nd rfl (.inl rfl) pe_int ip_add)))
      (pss_one (ps_ret (pv 2)))))), ?_⟩
  have hz : (T l).length ≤ sizeLine := by rw [T_len]; exact small9 (by omega)
  have item : ∀ i : Nat, i < l.length → atI (T l).cps.toList (i : Int) = some (l.getD i 0) := fun i hi => by
    have := atI_some (xs := l) hi
    rw [List.getD_eq_getElem?_getD, List.getElem?_eq_getElem hi]
    exact this
  walk_at "w"
  refine ⟨hz, rfl, _, rfl, ?_⟩
  rw [T_len]
  show if decide (V.int (a : Int) = V.int (l.length : Int)) = true then _ else _
  by_cases he : a = l.length
  · rw [he, decide_eq_true rfl]
    refine iteT (iteT ?_)
    refine ⟨_, rfl, ?_⟩
    have := q
    unfold wordEnd at this
    rw [List.drop_eq_nil_of_le (by omega)] at this
    rw [← he]
    exact this
  rw [decide_eq_false (fun z => he (by have := V.int.inj z; omega))]
  refine iteF ?_
  have hlt : a < l.length := by omega
  have hd := List.drop_eq_getElem_cons hlt
  have hg : l.getD a 0 = l[a] := by rw [List.getD_eq_getElem?_getD, List.getElem?_eq_getElem hlt]; rfl
  refine ⟨_, rfl, _, rfl, _, _, _, rfl, rfl, hz, item a hlt, _, _, rfl, rfl, _, rfl, ?_⟩
  rw [hg]
  show if (!isL l[a]) = true then _ else _
  have q2 : Q (.int ((if isL l[a] then a + 1 + ((l.drop (a + 1)).takeWhile isW).length else a : Nat) : Int)) H := by
    unfold wordEnd at q
    rw [hd] at q
    exact q
  cases hL : isL l[a] with
  | false =>
    rw [hL] at q2
    exact iteT ⟨_, rfl, q2⟩
  | true =>
    rw [hL] at q2
    refine iteF ?_
    walk_at "w"
    refine ⟨fun m σ' H' => ∃ e : Nat, σ' = [some (.str (T l)), some (.int (a : Int)), some (.int (e : Int))] ∧ H = H' ∧ m = l.length - e ∧ e ≤ l.length ∧ e + ((l.drop e).takeWhile isW).length = a + 1 + ((l.drop (a + 1)).takeWhile isW).length, ⟨_, a + 1, rfl, rfl, rfl, by omega, rfl⟩, ?_⟩
    rintro m _ _ ⟨e, rfl, rfl, rfl, hel, hee⟩
    have fin : (l.drop e).takeWhile isW = [] → Q (.int (e : Int)) H := fun z => by
      rw [z] at hee
      have e2 : e = a + 1 + ((l.drop (a + 1)).takeWhile isW).length := by simpa using hee
      rw [e2]
      exact q2
    walk_at "w"
    refine ⟨hz, ?_⟩
    walk_at "w"
    rw [T_len]
    by_cases h1 : e < l.length
    · have hd1 := List.drop_eq_getElem_cons h1
      have hg1 : l.getD e 0 = l[e] := by rw [List.getD_eq_getElem?_getD, List.getElem?_eq_getElem h1]; rfl
      rw [decide_eq_true (show (e : Int) < (l.length : Int) by omega)]
      refine iteT ?_
      refine ⟨_, rfl, _, rfl, _, _, _, rfl, rfl, hz, item e h1, _, _, rfl, rfl, _, rfl, ?_⟩
      rw [hg1]
      have go : isW l[e] = true → ∃ m' : Nat, m' < l.length - e ∧ ∃ e' : Nat, ([some (.str (T l)), some (.int (a : Int)), some (.int ((e : Int) + 1))] : L2.St) = [some (.str (T l)), some (.int (a : Int)), some (.int (e' : Int))] ∧ H = H ∧ m' = l.length - e' ∧ e' ≤ l.length ∧ e' + ((l.drop e').takeWhile isW).length = a + 1 + ((l.drop (a + 1)).takeWhile isW).length := fun hw => by
        refine ⟨l.length - (e + 1), by omega, e + 1, rfl, rfl, rfl, by omega, ?_⟩
        rw [hd1, List.takeWhile_cons, hw] at hee
        rw [← hee]
        show e + 1 + _ = e + (((l.drop (e + 1)).takeWhile isW).length + 1)
        omega
      show if isL l[e] = true then _ else _
      cases hl2 : isL l[e] with
      | true =>
        refine iteT (iteT ⟨_, fun σ' H' n => n, ?_⟩)
        walk_at "w"
        exact go (by unfold isW; rw [hl2]; rfl)
      | false =>
        refine iteF ?_
        refine ⟨_, rfl, _, rfl, _, _, _, rfl, rfl, hz, item e h1, _, _, rfl, rfl, _, rfl, ?_⟩
        rw [hg1]
        cases hd2 : decide (l[e] ∈ K_DIGITS.cps.toList) with
        | true =>
          refine iteT ⟨_, fun σ' H' n => n, ?_⟩
          walk_at "w"
          exact go (by unfold isW; rw [hl2, hd2]; rfl)
        | false =>
          refine iteF ⟨_, rfl, fin ?_⟩
          rw [hd1, List.takeWhile_cons]
          have : isW l[e] = false := by unfold isW; rw [hl2, hd2]; rfl
          rw [this]
          rfl
    · rw [decide_eq_false (show ¬ (e : Int) < (l.length : Int) by omega)]
      refine iteF (iteF ⟨_, rfl, fin ?_⟩)
      rw [List.drop_eq_nil_of_le (by omega)]
      rfl

/-- a token: is it a word, its codes, its index -/
structure Tk where
  wd : Bool
  s : List Nat
  i : Nat
def tkD (t : Tk) : PyData := .tuple [.str (if t.wd then Str.ofString "word" else Str.ofString "sign"), .str (T t.s), .int (t.i : Int)]
def endD (n : Nat) : PyData := .tuple [.str (Str.ofString "end"), .str (Str.ofString ""), .int (n : Int)]
def isB (c : Nat) : Bool := decide (c ∈ K_BLANKS.cps.toList)
def isS (c : Nat) : Bool := decide (c ∈ K_SIGNS.cps.toList)
/-- the tokens of what is left from an index on, and the index of a place where none begins -/
def scan : Nat → List Nat → Nat → List Tk × Option Nat
  | 0, _, _ => ([], none)
  | _ + 1, [], _ => ([], none)
  | n + 1, c :: r, a =>
    if isB c then scan n r (a + 1)
    else if c = 35 then scan n (r.drop (behind 10 r)) (a + 1 + behind 10 r)
    else if isS c then (⟨false, [c], a⟩ :: (scan n r (a + 1)).1, (scan n r (a + 1)).2)
    else if isL c && decide ((r.takeWhile isW).length < 20) then
      (⟨true, c :: r.take (r.takeWhile isW).length, a⟩ :: (scan n (r.drop (r.takeWhile isW).length) (a + 1 + (r.takeWhile isW).length)).1, (scan n (r.drop (r.takeWhile isW).length) (a + 1 + (r.takeWhile isW).length)).2)
    else ([], some a)
theorem tkN (t : Tk) : TupN 2 (tkD t) := ⟨(by show 3 ≤ 100000; decide), fun d hd => by
  rcases List.mem_cons.mp hd with rfl | hd
  · trivial
  rcases List.mem_cons.mp hd with rfl | hd
  · trivial
  rw [List.mem_singleton.mp hd]
  trivial⟩
theorem endN (n : Nat) : TupN 2 (endD n) := ⟨(by show 3 ≤ 100000; decide), fun d hd => by
  rcases List.mem_cons.mp hd with rfl | hd
  · trivial
  rcases List.mem_cons.mp hd with rfl | hd
  · trivial
  rw [List.mem_singleton.mp hd]
  trivial⟩
def spCommentEnd : Sp := fun vs H Q _ => ∃ (l : List Nat) (a : Nat), vs = [.str (T l), .int (a : Int)] ∧ a ≤ l.length ∧ l.length ≤ 100000 ∧ Q (.int ((a + behind 10 (l.drop a) : Nat) : Int)) H
theorem c_comment_end {f : Addr} {fd : FuncData} (D : Df K mg "_comment_end" s_comment_end f fd ["text", "at"]) (z_len : mg "len" = none) : Cl P w K mg base 1 "_comment_end" spCommentEnd := by
  refine D.cl sc_comment_end (fun vs H Q E h => ?_) (fun cdv A outer s H vs Q E hr h => ?_)
  · obtain ⟨l, a, rfl, _⟩ := h
    rfl
  obtain ⟨l, a, rfl, ha, hl, q⟩ := h
  refine ⟨_, (pss_cons (ps_set (i := 2) sc_comment_end.nd rfl (.inl rfl) (pe_bm PySem.F.plainAttrs_str PySem.F.slot_str_find PySem.F.type_str_find mt_find3 (pv 0) (pa_cons pe_str (pa_cons (pv 1) pa_nil))))
      (pss_one (ps_ret (pe_ifExp (pt_cmpR op_lt (pv 2) pe_int (nomark _)) (pe_callB call_len_str (by rfl) z_len PySem.boot_len (pa_cons (pv 0) pa_nil)) (pv 2))))), ?_⟩
  have hz : (T l).length ≤ sizeLine := by rw [T_len]; exact small9 (by omega)
  refine ⟨_, rfl, rfl, _, rfl, _, _, _, rfl, rfl, ?_⟩
  rw [nl_eq]
  show gName 2 (.int (Txt.find3 (T l) ⟨#[10]⟩ (a : Int))) _ _ _
  rw [find1 (T l) 10 a (by rw [T_len]; exact ha), T_len]
  have hb := behind_le 10 (l.drop a)
  rw [List.length_drop] at hb
  show gName 2 (.int (if a + behind 10 (l.drop a) < l.length then ((a + behind 10 (l.drop a) : Nat) : Int) else -1)) _ _ _
  by_cases h : a + behind 10 (l.drop a) < l.length
  · rw [if_pos h]
    walk_at "w"
    exact q
  · rw [if_neg h]
    walk_at "w"
    refine ⟨hz, ?_⟩
    rw [T_len, show l.length = a + behind 10 (l.drop a) by omega]
    rw [show a + behind 10 (l.drop a) = l.length by omega] at q ⊢
    exact q
/-- a word that may be one -/
def wordOk (l : List Nat) (a : Nat) : Prop := ∃ c r, l.drop a = c :: r ∧ isL c = true ∧ (r.takeWhile isW).length < 20
theorem wordEnd_ok {l : List Nat} {a : Nat} {c : Nat} {r : List Nat} (h : l.drop a = c :: r) (hc : isL c = true) : wordEnd l a = a + 1 + (r.takeWhile isW).length := by
  unfold wordEnd
  rw [h]
  show (if isL c then a + 1 + (r.takeWhile isW).length else a) = _
  rw [if_pos hc]
def spWordAt : Sp := fun vs H Q _ => ∃ (l : List Nat) (a : Nat) (c : Nat) (r : List Nat), vs = [.str (T l), .int (a : Int)] ∧ l.length ≤ 100000 ∧ l.drop a = c :: r ∧ isL c = true ∧ (r.takeWhile isW).length < 20 ∧ Q (.str (T (c :: r.take (r.takeWhile isW).length))) H
theorem c_word_at {f : Addr} {fd : FuncData} {t : Tok} (D : Df K mg "_word_at" s_word_at f fd ["text", "at"]) (c_word_end : Cl P w K mg base 1 "_word_end" spWordEnd) (m_LONGEST_WORD : mg "LONGEST_WORD" = some (.int K_LONGEST_WORD t)) : Cl P w K mg base 2 "_word_at" spWordAt := by
  refine D.cl sc_word_at (fun vs H Q E h => ?_) (fun cdv A outer s H vs Q E hr h => ?_)
  · obtain ⟨l, a, c, r, rfl, _⟩ := h
    rfl
  obtain ⟨l, a, c, r, rfl, hl, hd, hc, hw, q⟩ := h
  refine ⟨_, (pss_cons (ps_set (i := 2) sc_word_at.nd rfl (.inl rfl) (pc c_word_end hr (by first | decide | omega) (by rfl) (pa_cons (pv 0) (pa_cons (pv 1) pa_nil))))
      (pss_cons (ps_if (PW.pt (pw_or (pt_cmpR op_eq (pv 2) (pv 1) (nomark _)) (pw_or1 (pt_cmpR op_gt (pe_op op_sub (pv 2) (pv 1)) (pe_glob (v := .int K_LONGEST_WORD) (by rfl) m_LONGEST_WORD ⟨_, rfl⟩) (nomark _))))) pss_never pss_nil)
      (pss_one (ps_ret (pe_slice sl_str (pv 0) (po_some (pv 1)) (po_some (pv 2))))))), ?_⟩
  have hz : (T l).length ≤ sizeLine := by rw [T_len]; exact small9 (by omega)
  have hlen : (l.drop a).length = l.length - a := List.length_drop
  rw [hd, List.length_cons] at hlen
  have hk := (List.takeWhile_prefix isW (l := r)).length_le
  refine ⟨_, rfl, _, rfl, l, a, rfl, by omega, hl, ?_⟩
  rw [wordEnd_ok hd hc]
  walk_at "w"
  refine ⟨rfl, _, rfl, ?_⟩
  rw [decide_eq_false (fun z => by have := V.int.inj z; omega)]
  refine iteF ?_
  walk_at "w"
  rw [decide_eq_false (show ¬ K_LONGEST_WORD < ((a + 1 + (r.takeWhile isW).length : Nat) : Int) - (a : Int) by show ¬ (20 : Int) < _; omega)]
  refine iteF ?_
  walk_at "w"
  refine ⟨hz, ?_⟩
  rw [cut_mid l (by omega) (by omega), hd, show a + 1 + (r.takeWhile isW).length - a = (r.takeWhile isW).length + 1 by omega]
  exact q
def spSplit (K : PySem.W.Frag) : Sp := fun vs H Q _ => ∃ (l : List Nat) (ts : List Tk), vs = [.str (T l)] ∧ l.length ≤ 20000 ∧ scan l.length l 0 = (ts, none) ∧ ∀ p H', Same H H' → Dp K H' (.ref p) (.tuple (ts.map tkD ++ [endD l.length])) → Q (.ref p) H'
theorem c_split_tokens {f : Addr} {fd : FuncData} {tB tS : Tok} (D : Df K mg "split_tokens" s_split_tokens f fd ["text"]) (c_comment_end : Cl P w K mg base 1 "_comment_end" spCommentEnd) (c_word_at : Cl P w K mg base 2 "_word_at" spWordAt)
    (m_BLANKS : mg "BLANKS" = some (.str K_BLANKS tB)) (m_SIGNS : mg "SIGNS" = some (.str K_SIGNS tS)) (z_len : mg "len" = none) (z_tuple : mg "tuple" = none) : Cl P w K mg base 3 "split_tokens" (spSplit K) := by
  refine D.cl sc_split_tokens (fun vs H Q E h => ?_) (fun cdv A outer s H vs Q E hr h => ?_)
  · obtain ⟨l, ts, rfl, _⟩ := h
    rfl
  obtain ⟨l, ts, rfl, hl, hs, q⟩ := h
  refine ⟨_, (pss_cons (ps_set (i := 1) sc_split_tokens.nd rfl (.inl rfl) (pe_lst pa_nil))
      (pss_cons (ps_set (i := 2) sc_split_tokens.nd rfl (.inl rfl) pe_int)
      (pss_cons (ps_while PassesOwn.never (pt_cmpR op_lt (pv 2) (pe_callB call_len_str (by rfl) z_len PySem.boot_len (pa_cons (pv 0) pa_nil)) (nomark _)) (pss_one (ps_if (pt_cmpR op_in_sign (pe_ix ix_str (pv 0) (pv 2) (fun _ _ => rfl)) (pe_glob (v := .str K_BLANKS) (by rfl) m_BLANKS ⟨_, rfl⟩) rfl) (pss_one (ps_aug (i := 2) sc_split_tokens.nd rfl (.inl rfl) pe_int ip_add)) (pss_one (ps_if (pt_cmpR op_eq (pe_ix ix_str (pv 0) (pv 2) (fun _ _ => rfl)) pe_str (nomark _)) (pss_one (ps_set (i := 2) sc_split_tokens.nd rfl (.inl rfl) (pc c_comment_end hr (by first | decide | omega) (by rfl) (pa_cons (pv 0) (pa_cons (pv 2) pa_nil))))) (pss_one (ps_if (pt_cmpR op_in_sign (pe_ix ix_str (pv 0) (pv 2) (fun _ _ => rfl)) (pe_glob (v := .str K_SIGNS) (by rfl) m_SIGNS ⟨_, rfl⟩) rfl) (pss_cons (ps_expr (pe_bm PySem.F.plainAttrs_list PySem.F.slot_list_append PySem.F.type_list_append mt_append (pv 1) (pa_cons (pe_tup (pa_cons pe_str (pa_cons (pe_ix ix_str (pv 0) (pv 2) (fun _ _ => rfl)) (pa_cons (pv 2) pa_nil)))) pa_nil)))
      (pss_one (ps_aug (i := 2) sc_split_tokens.nd rfl (.inl rfl) pe_int ip_add))) (pss_cons (ps_set (i := 3) sc_split_tokens.nd rfl (.inl rfl) (pc c_word_at hr (by first | decide | omega) (by rfl) (pa_cons (pv 0) (pa_cons (pv 2) pa_nil))))
      (pss_cons (ps_expr (pe_bm PySem.F.plainAttrs_list PySem.F.slot_list_append PySem.F.type_list_append mt_append (pv 1) (pa_cons (pe_tup (pa_cons pe_str (pa_cons (pv 3) (pa_cons (pv 2) pa_nil)))) pa_nil)))
      (pss_one (ps_aug (i := 2) sc_split_tokens.nd rfl (.inl rfl) (pe_callB call_len_str (by rfl) z_len PySem.boot_len (pa_cons (pv 3) pa_nil)) ip_add)))))))))))
      (pss_cons (ps_expr (pe_bm PySem.F.plainAttrs_list PySem.F.slot_list_append PySem.F.type_list_append mt_append (pv 1) (pa_cons (pe_tup (pa_cons pe_str (pa_cons pe_str (pa_cons (pe_callB call_len_str (by rfl) z_len PySem.boot_len (pa_cons (pv 0) pa_nil)) pa_nil)))) pa_nil)))
      (pss_one (ps_ret (pe_callTy call_tuple_of (by rfl) z_tuple (by decide +kernel) (pa_cons (pv 1) pa_nil)))))))), ?_⟩
  have hz : (T l).length ≤ sizeLine := by rw [T_len]; exact small9 (by omega)
  have item : ∀ (i c : Nat) (r : List Nat), l.drop i = c :: r → atI (T l).cps.toList (i : Int) = some c := fun i c r hd => atI_nat (by
    show l[i]? = some c
    rw [← List.head?_drop, hd]
    rfl)
  refine ⟨Nat.zero_le _, fun tk htk => ?_⟩
  walk_at "w"
  refine ⟨fun m σ' H' => ∃ (n a : Nat) (acc rest : List Tk) (vs : List V) (x : Option V), σ' = [some (.str (T l)), some (.ref tk), some (.int (a : Int)), x] ∧ m = l.length - a ∧ a ≤ l.length ∧ l.length - a ≤ n ∧ scan n (l.drop a) a = (rest, none) ∧ acc ++ rest = ts ∧ acc.length ≤ a ∧ H' tk = some (.lst vs) ∧ DpAll K H' vs (acc.map tkD) ∧ Same H H',
    ⟨_, l.length, 0, [], ts, [], none, rfl, rfl, Nat.zero_le _, Nat.le_refl _, hs, rfl, Nat.le_refl _, upd_same, .nil, Same.new _ htk⟩, ?_⟩
  rintro m _ H1 ⟨n, a, acc, rest, vs, x, rfl, rfl, hal, hn, hsc, hts, hacc, hk, hD, hS⟩
  have hvl : vs.length = acc.length := by rw [dpAll_len hD, List.length_map]
  have hsz : vs.length < sizeLine := Nat.lt_of_le_of_lt (show vs.length ≤ 20000 by omega) (by decide)
  have hsh : ∀ (t : Tk) , TupN 2 (tkD t) := tkN
  -- what a turn reaches
  have go : ∀ (n' a' : Nat) (acc' rest' : List Tk) (vs' : List V) (x' : Option V) (H' : Hp), a < a' → a' ≤ l.length → l.length - a' ≤ n' → scan n' (l.drop a') a' = (rest', none) → acc' ++ rest' = ts → acc'.length ≤ a' → H' tk = some (.lst vs') → DpAll K H' vs' (acc'.map tkD) → Same H H' →
      ∃ m', m' < l.length - a ∧ ∃ (n a : Nat) (acc rest : List Tk) (vs : List V) (x : Option V), ([some (.str (T l)), some (.ref tk), some (.int (a' : Int)), x'] : L2.St) = [some (.str (T l)), some (.ref tk), some (.int (a : Int)), x] ∧ m' = l.length - a ∧ a ≤ l.length ∧ l.length - a ≤ n ∧ scan n (l.drop a) a = (rest, none) ∧ acc ++ rest = ts ∧ acc.length ≤ a ∧ H' tk = some (.lst vs) ∧ DpAll K H' vs (acc.map tkD) ∧ Same H H' :=
    fun n' a' acc' rest' vs' x' H' h1 h2 h3 h4 h5 h6 h7 h8 h9 => ⟨_, by omega, n', a', acc', rest', vs', x', rfl, rfl, h2, h3, h4, h5, h6, h7, h8, h9⟩
  -- a new token behind
  have new : ∀ (t : Tk) (p : Addr), H1 p = none → DpAll K (upd (upd H1 p (.tup [.str (if t.wd then Str.ofString "word" else Str.ofString "sign"), .str (T t.s), .int (t.i : Int)])) tk (.lst (vs ++ [.ref p]))) (vs ++ [.ref p]) ((acc ++ [t]).map tkD) := fun t p hp => by
    have np : tk ≠ p := ne_of_none hk hp
    have k1 : KT K H1 (upd H1 p (.tup [.str (if t.wd then Str.ofString "word" else Str.ofString "sign"), .str (T t.s), .int (t.i : Int)])) := KT.new _ hp
    have k2 : KT K (upd H1 p (.tup [.str (if t.wd then Str.ofString "word" else Str.ofString "sign"), .str (T t.s), .int (t.i : Int)])) (upd (upd H1 p (.tup [.str (if t.wd then Str.ofString "word" else Str.ofString "sign"), .str (T t.s), .int (t.i : Int)])) tk (.lst (vs ++ [.ref p]))) := KT.lst _ ((upd_ne np).trans hk)
    rw [List.map_append]
    refine dpAll_app (DpAll.kt (k1.trans k2) (n := 2) (fun d hd => ?_) hD) (.cons (.tup (k2 _ _ (SqT.of upd_same)) (.cons (.str _) (.cons (.str _) (.cons (.int _) .nil)))) .nil)
    obtain ⟨t', _, rfl⟩ := List.mem_map.mp hd
    exact tkN t'
  have newS : ∀ (p : Addr) (o o' : HO), H1 p = none → Same H (upd (upd H1 p o) tk o') := fun p o o' hp => Same.mut _ (hS.trans (Same.new _ hp)) htk
  walk_at "w"
  refine ⟨hz, ?_⟩
  walk_at "w"
  rw [T_len]
  by_cases h1 : a < l.length
  · obtain ⟨c, r, hd⟩ : ∃ c r, l.drop a = c :: r := ⟨_, _, List.drop_eq_getElem_cons h1⟩
    have hr1 : l.drop (a + 1) = r := by rw [← List.drop_drop, hd]; rfl
    have hrl : r.length = l.length - (a + 1) := by rw [← hr1, List.length_drop]
    obtain ⟨n, rfl⟩ : ∃ k, n = k + 1 := ⟨n - 1, by omega⟩
    rw [hd] at hsc
    unfold scan at hsc
    rw [decide_eq_true (show (a : Int) < (l.length : Int) by omega)]
    refine iteT ⟨_, fun σ' H' n => n, ?_⟩
    refine ⟨_, rfl, _, rfl, _, _, _, rfl, rfl, hz, item a c r hd, _, _, rfl, rfl, _, rfl, ?_⟩
    show if isB c = true then _ else _
    by_cases hB : isB c = true
    · rw [if_pos hB] at hsc ⊢
      walk_at "w"
      exact go n (a + 1) acc rest vs x H1 (by omega) (by omega) (by omega) (by rw [hr1]; exact hsc) hts (by omega) hk hD hS
    rw [if_neg hB] at hsc ⊢
    refine ⟨_, rfl, _, rfl, _, _, _, rfl, rfl, hz, item a c r hd, rfl, _, rfl, ?_⟩
    rw [show Str.ofString "#" = T [35] by decide +kernel]
    show if decide (V.str (T [c]) = V.str (T [35])) = true then _ else _
    rw [V_eq]
    by_cases hC : c = 35
    · rw [if_pos hC] at hsc
      rw [decide_eq_true (show [c] = [35] by rw [hC])]
      refine iteT ?_
      refine ⟨_, rfl, _, rfl, l, a, rfl, hal, by omega, ?_⟩
      have hb := behind_le 10 r
      rw [hd, behind_cons, if_neg (show c ≠ 10 by omega), show a + (behind 10 r + 1) = a + 1 + behind 10 r by omega]
      walk_at "w"
      refine go n (a + 1 + behind 10 r) acc rest vs x H1 (by omega) (by omega) (by omega) ?_ hts (by omega) hk hD hS
      rw [← List.drop_drop, hr1]
      exact hsc
    rw [if_neg hC] at hsc
    rw [decide_eq_false (fun z => hC (List.head_eq_of_cons_eq z))]
    refine iteF ?_
    refine ⟨_, rfl, _, rfl, _, _, _, rfl, rfl, hz, item a c r hd, _, _, rfl, rfl, _, rfl, ?_⟩
    show if isS c = true then _ else _
    by_cases hG : isS c = true
    · rw [if_pos hG] at hsc
      rw [if_pos hG]
      refine ⟨_, rfl, .inl ⟨rfl, _, SqL.of hk⟩, _, rfl, _, rfl, _, _, _, rfl, rfl, hz, item a c r hd, _, rfl, by show 3 ≤ sizeLine; decide, fun p hp => ?_⟩
      have np : tk ≠ p := ne_of_none hk hp
      refine ⟨tk, _, _, rfl, rfl, (upd_ne np).trans hk, hsz, ?_⟩
      walk_at "w"
      have e1 := (Prod.mk.inj hsc).1
      have e2 := (Prod.mk.inj hsc).2
      exact go n (a + 1) (acc ++ [(Tk.mk false [c] a)]) (scan n r (a + 1)).1 _ x _ (by omega) (by omega) (by omega) (by rw [hr1, ← e2]) (by rw [List.append_assoc, ← hts, ← e1]; rfl) (by rw [List.length_append]; show _ + 1 ≤ _; omega) upd_same (new (Tk.mk false [c] a) p hp) (newS p _ _ hp)
    rw [if_neg hG] at hsc
    rw [if_neg hG]
    by_cases hW : (isL c && decide ((r.takeWhile isW).length < 20)) = true
    · rw [if_pos hW] at hsc
      rw [Bool.and_eq_true] at hW
      have hk2 := (List.takeWhile_prefix isW (l := r)).length_le
      refine ⟨_, rfl, _, rfl, l, a, c, r, rfl, by omega, hd, hW.1, of_decide_eq_true hW.2, ?_⟩
      walk_at "w"
      refine ⟨.inl ⟨rfl, _, SqL.of hk⟩, ?_⟩
      walk_at "w"
      refine ⟨by show 3 ≤ sizeLine; decide, fun p hp => ?_⟩
      have np : tk ≠ p := ne_of_none hk hp
      refine ⟨tk, _, _, rfl, rfl, (upd_ne np).trans hk, hsz, ?_⟩
      walk_at "w"
      have hwl : (c :: r.take (r.takeWhile isW).length).length = (r.takeWhile isW).length + 1 := by rw [List.length_cons, List.length_take, Nat.min_eq_left hk2]
      refine ⟨by rw [T_len, hwl]; exact small9 (by omega), ?_⟩
      rw [T_len, hwl]
      walk_at "w"
      have e1 := (Prod.mk.inj hsc).1
      have e2 := (Prod.mk.inj hsc).2
      have ea : a + ((r.takeWhile isW).length + 1) = a + 1 + (r.takeWhile isW).length := by omega
      refine go n (a + ((r.takeWhile isW).length + 1)) (acc ++ [(Tk.mk true (c :: r.take (r.takeWhile isW).length) a)]) (scan n (r.drop (r.takeWhile isW).length) (a + 1 + (r.takeWhile isW).length)).1 _ _ _ (by omega) (by omega) (by omega) ?_ (by rw [List.append_assoc, ← hts, ← e1]; rfl) (by rw [List.length_append]; show _ + 1 ≤ _; omega) upd_same (new (Tk.mk true (c :: r.take (r.takeWhile isW).length) a) p hp) (newS p _ _ hp)
      rw [ea, ← List.drop_drop, hr1, ← e2]
    · rw [if_neg hW] at hsc
      exact absurd (Prod.mk.inj hsc).2 (by simp)
  · rw [decide_eq_false (show ¬ (a : Int) < (l.length : Int) by omega)]
    refine iteF ?_
    have ea : a = l.length := by omega
    have er : rest = [] := by
      rw [List.drop_eq_nil_of_le (by omega)] at hsc
      cases n with
      | zero => exact (Prod.mk.inj hsc).1.symm
      | succ n => exact (Prod.mk.inj hsc).1.symm
    rw [er, List.append_nil] at hts
    refine ⟨_, rfl, .inl ⟨rfl, _, SqL.of hk⟩, _, rfl, _, rfl, hz, by show 3 ≤ sizeLine; decide, fun p hp => ?_⟩
    have np : tk ≠ p := ne_of_none hk hp
    refine ⟨tk, _, _, rfl, rfl, (upd_ne np).trans hk, hsz, ?_⟩
    rw [T_len]
    refine ⟨_, rfl, tk, _, rfl, .inl ⟨SqL.of upd_same, fun g hg => ?_⟩⟩
    have k1 : KT K H1 (upd H1 p (.tup [.str (Str.ofString "end"), .str (Str.ofString ""), .int (l.length : Int)])) := KT.new _ hp
    have k2 := KT.lst (K := K) (.lst (vs ++ [.ref p])) ((upd_ne (o := .tup [.str (Str.ofString "end"), .str (Str.ofString ""), .int (l.length : Int)]) np).trans hk)
    have k3 := KT.new (K := K) (.tup (vs ++ [.ref p])) hg
    refine q g _ ((newS p _ _ hp).trans (Same.new _ hg)) (.tup (SqT.of upd_same) (dpAll_app (DpAll.kt ((k1.trans k2).trans k3) (n := 2) (fun d hd => ?_) (hts ▸ hD)) (.cons (.tup ((k2.trans k3) _ _ (SqT.of upd_same)) (.cons (.str _) (.cons (.str _) (.cons (.int _) .nil)))) .nil)))
    obtain ⟨t', _, rfl⟩ := List.mem_map.mp hd
    exact tkN t'
/-! the law's spelling, by lists of codes -/
theorem scan_fuel : ∀ (n m : Nat) (l : List Nat) (a : Nat), l.length ≤ n → l.length ≤ m → scan n l a = scan m l a
  | 0, 0, _, _, _, _ => rfl
  | 0, m + 1, [], _, _, _ => rfl
  | 0, _ + 1, _ :: _, _, h, _ => by simp at h
  | n + 1, 0, [], _, _, _ => rfl
  | _ + 1, 0, _ :: _, _, _, h => by simp at h
  | n + 1, m + 1, [], _, _, _ => rfl
  | n + 1, m + 1, c :: r, a, h1, h2 => by
    have k1 : r.length ≤ n := Nat.le_of_succ_le_succ h1
    have k2 : r.length ≤ m := Nat.le_of_succ_le_succ h2
    have d : ∀ k, (r.drop k).length ≤ r.length := fun k => by rw [List.length_drop]; omega
    unfold scan
    rw [scan_fuel n m r (a + 1) k1 k2, scan_fuel n m (r.drop (behind 10 r)) _ (Nat.le_trans (d _) k1) (Nat.le_trans (d _) k2), scan_fuel n m (r.drop (r.takeWhile isW).length) _ (Nat.le_trans (d _) k1) (Nat.le_trans (d _) k2)]
/-- the tokens of what is left -/
def scanT (l : List Nat) (a : Nat) : List Tk × Option Nat := scan l.length l a
theorem scanT_eq {n : Nat} {l : List Nat} {a : Nat} (h : l.length ≤ n) : scan n l a = scanT l a := scan_fuel n l.length l a h (Nat.le_refl _)
theorem scanT_cons (c : Nat) (r : List Nat) (a : Nat) : scanT (c :: r) a =
    if isB c then scanT r (a + 1)
    else if c = 35 then scanT (r.drop (behind 10 r)) (a + 1 + behind 10 r)
    else if isS c then (⟨false, [c], a⟩ :: (scanT r (a + 1)).1, (scanT r (a + 1)).2)
    else if isL c && decide ((r.takeWhile isW).length < 20) then
      (⟨true, c :: r.take (r.takeWhile isW).length, a⟩ :: (scanT (r.drop (r.takeWhile isW).length) (a + 1 + (r.takeWhile isW).length)).1, (scanT (r.drop (r.takeWhile isW).length) (a + 1 + (r.takeWhile isW).length)).2)
    else ([], some a) := by
  have d : ∀ k, (r.drop k).length ≤ r.length := fun k => by rw [List.length_drop]; omega
  show scan (r.length + 1) (c :: r) a = _
  unfold scan
  rw [scanT_eq (Nat.le_refl _), scanT_eq (d _), scanT_eq (d _)]
theorem isB_mem {c : Nat} (h : isB c = true) : c = 32 ∨ c = 10 := by
  have e : K_BLANKS.cps.toList = [32, 10] := by decide +kernel
  unfold isB at h
  rw [e] at h
  simpa using of_decide_eq_true h
theorem isS_mem {c : Nat} (h : isS c = true) : c ∈ [40, 41, 59, 44, 58] := by
  have e : K_SIGNS.cps.toList = [40, 41, 59, 44, 58] := by decide +kernel
  unfold isS at h
  rw [e] at h
  exact of_decide_eq_true h
theorem blank_noW {c : Nat} (h : isB c = true) : isW c = false := by
  rcases isB_mem h with rfl | rfl <;> decide +kernel
theorem hash_noW : isW 35 = false := by decide +kernel
theorem sign_noW : ∀ {c : Nat}, isS c = true → isW c = false ∧ isB c = false ∧ c ≠ 35 := by
  have k : ∀ c ∈ [40, 41, 59, 44, 58], isW c = false ∧ isB c = false ∧ c ≠ 35 := by decide +kernel
  exact fun {c} h => k _ (isS_mem h)
theorem letter_no : ∀ {c : Nat}, isL c = true → isB c = false ∧ c ≠ 35 ∧ isS c = false := by
  have k : ∀ c ∈ K_LETTERS.cps.toList, isB c = false ∧ c ≠ 35 ∧ isS c = false := by decide +kernel
  exact fun {c} h => k _ (of_decide_eq_true h)
/-- what is passed over between tokens -/
structure GapP (g : List Nat) : Prop where
  pass : ∀ (r : List Nat) (a : Nat), scanT (g ++ r) a = scanT r (a + g.length)
  head : ∀ (c : Nat) (r : List Nat), g = c :: r → isW c = false
theorem gap_blank : ∀ {g : List Nat}, g.all isB = true → GapP g
  | [], _ => ⟨fun r a => rfl, fun c r h => nomatch h⟩
  | c :: g, h => by
    rw [List.all_cons, Bool.and_eq_true] at h
    refine ⟨fun r a => ?_, fun c' r e => ?_⟩
    · rw [List.cons_append, scanT_cons, if_pos h.1, (gap_blank h.2).pass, List.length_cons]
      congr 1
      omega
    · cases e
      exact blank_noW h.1
theorem behind_app (c : Nat) : ∀ {a b : List Nat}, c ∉ a → behind c (a ++ c :: b) = a.length
  | [], b, _ => by rw [List.nil_append, behind_cons, if_pos rfl]; rfl
  | x :: a, b, h => by
    rw [List.cons_append, behind_cons, if_neg (fun e => h (by rw [e]; exact List.mem_cons_self ..)), behind_app c fun m => h (List.mem_cons_of_mem _ m)]
    rfl
theorem gap_comment {cs : List Nat} (h : 10 ∉ cs) : GapP (35 :: cs ++ [10]) := by
  refine ⟨fun r a => ?_, fun c r e => ?_⟩
  · have e : (35 :: cs ++ [10]) ++ r = 35 :: (cs ++ 10 :: r) := by simp
    rw [e, scanT_cons, if_neg (by decide +kernel), if_pos rfl, behind_app 10 h, List.drop_left, scanT_cons, if_pos (by decide +kernel)]
    congr 1
    simp
    omega
  · cases e
    exact hash_noW
def wordB : List Nat → Bool
  | c :: w => isL c && w.all isW && decide (w.length < 20)
  | [] => false
def signB : List Nat → Bool
  | [c] => isS c
  | _ => false
theorem takeWhile_app {p : Nat → Bool} : ∀ {a b : List Nat}, a.all p = true → (∀ c r, b = c :: r → p c = false) → (a ++ b).takeWhile p = a
  | [], [], _, _ => rfl
  | [], c :: r, _, h => by
    rw [List.nil_append, List.takeWhile_cons, h c r rfl]
    rfl
  | x :: a, b, ha, h => by
    rw [List.all_cons, Bool.and_eq_true] at ha
    rw [List.cons_append, List.takeWhile_cons, ha.1, takeWhile_app ha.2 h]
    rfl
theorem scan_word {w r : List Nat} {a : Nat} (h : wordB w = true) (hr : ∀ c t, r = c :: t → isW c = false) : scanT (w ++ r) a = (⟨true, w, a⟩ :: (scanT r (a + w.length)).1, (scanT r (a + w.length)).2) := by
  cases w with
  | nil => exact absurd h (by decide)
  | cons c w =>
    unfold wordB at h
    rw [Bool.and_eq_true, Bool.and_eq_true] at h
    obtain ⟨⟨h1, h2⟩, h3⟩ := h
    obtain ⟨n1, n2, n3⟩ := letter_no h1
    have e : (w ++ r).takeWhile isW = w := takeWhile_app h2 hr
    rw [List.cons_append, scanT_cons, if_neg (by rw [n1]; decide), if_neg n2, if_neg (by rw [n3]; decide), e, if_pos (by rw [h1, h3]; rfl), List.take_left, List.drop_left, List.length_cons]
    rw [show a + 1 + w.length = a + (w.length + 1) by omega]
theorem scan_sign {w r : List Nat} {a : Nat} (h : signB w = true) : scanT (w ++ r) a = (⟨false, w, a⟩ :: (scanT r (a + w.length)).1, (scanT r (a + w.length)).2) := by
  match w, h with
  | [c], h =>
    obtain ⟨n1, n2, n3⟩ := sign_noW (c := c) h
    rw [List.cons_append, List.nil_append, scanT_cons, if_neg (by rw [n2]; decide), if_neg n3, if_pos (show isS c = true from h)]
    rfl
/-- rows with what stands behind each -/
def spellT : List (List Nat × List Nat) → List Nat
  | [] => []
  | p :: t => p.1 ++ p.2 ++ spellT t
def tokensOf : List (List Nat × List Nat) → Nat → List Tk
  | [], _ => []
  | p :: t, a => ⟨!signB p.1, p.1, a⟩ :: tokensOf t (a + p.1.length + p.2.length)
def GoodS : List (List Nat × List Nat) → Prop
  | [] => True
  | p :: t => (wordB p.1 = true ∨ signB p.1 = true) ∧ GapP p.2 ∧ (signB p.1 = false → p.2 = [] → ∀ q t', t = q :: t' → signB q.1 = true) ∧ GoodS t
theorem not_both {w : List Nat} (h : wordB w = true) : signB w = false := by
  match w, h with
  | [c], h =>
    show isS c = false
    unfold wordB at h
    rw [Bool.and_eq_true, Bool.and_eq_true] at h
    exact (letter_no h.1.1).2.2
  | _ :: _ :: _, _ => rfl
theorem scan_spell : ∀ {ps : List (List Nat × List Nat)} {a : Nat}, GoodS ps → scanT (spellT ps) a = (tokensOf ps a, none)
  | [], _, _ => rfl
  | p :: t, a, h => by
    obtain ⟨h1, h2, h3, h4⟩ := h
    have ih := scan_spell (ps := t) (a := a + p.1.length + p.2.length) h4
    have e2 : scanT (p.2 ++ spellT t) (a + p.1.length) = (tokensOf t (a + p.1.length + p.2.length), none) := by rw [h2.pass, ih]
    show scanT (p.1 ++ p.2 ++ spellT t) a = (⟨!signB p.1, p.1, a⟩ :: tokensOf t (a + p.1.length + p.2.length), none)
    rw [List.append_assoc]
    rcases h1 with h1 | h1
    · rw [scan_word h1 ?_, e2, not_both h1]
      · rfl
      · intro c r e
        cases hg : p.2 with
        | cons x g =>
          rw [hg] at e
          cases e
          exact h2.head _ _ hg
        | nil =>
          rw [hg, List.nil_append] at e
          cases t with
          | nil => cases e
          | cons q t' =>
            have hq := h3 (not_both h1) hg q t' rfl
            cases hw : q.1 with
            | nil => rw [hw] at hq; exact absurd hq (by decide)
            | cons y ys =>
              have e3 : y = c := by
                have : spellT (q :: t') = q.1 ++ q.2 ++ spellT t' := rfl
                rw [this, hw] at e
                exact (List.cons.inj e).1
              match ys, hw with
              | [], hw =>
                rw [hw] at hq
                rw [← e3]
                exact (sign_noW (c := y) hq).1
              | _ :: _, hw =>
                rw [hw] at hq
                exact Bool.noConfusion hq
    · rw [scan_sign h1, e2, h1]
      rfl
/-- the reserved words as the law lists them: twenty words -/
def spResW : Sp := fun vs H Q _ => vs = [] ∧ ∀ p H' (zs : List (List Nat)), Same H H' → H p = none → H' p = some (.lst (zs.map fun z => V.str (T z))) → zs.length = 20 → (∀ z ∈ zs, wordB z = true) → Q (.ref p) H'
theorem strs_T (l : List Str) : l.map V.str = (l.map fun x => x.cps.toList).map fun z => V.str (T z) := by
  rw [List.map_map]
  rfl
theorem c_law_reserved {f : Addr} {fd : FuncData} (D : Df K mg "_law_reserved" s_law_reserved f fd []) : Cl P w K mg base 1 "_law_reserved" spResW := by
  refine D.cl sc_law_reserved (fun vs H Q E h => ?_) (fun cdv A outer s H vs Q E hr h => ?_)
  · obtain ⟨rfl, _⟩ := h
    rfl
  obtain ⟨rfl, q⟩ := h
  refine ⟨_, (pss_cons (ps_set (i := 0) sc_law_reserved.nd rfl (.inl rfl) pe_str)
      (pss_one (ps_ret (pe_split (pe_op op_add_str (pv 0) pe_str) pe_str)))), ?_⟩
  walk_at "w"
  refine ⟨by decide +kernel, ⟨_, rfl⟩, _, _, rfl, rfl, by decide +kernel, by decide +kernel, fun p hp => ?_⟩
  rw [strs_T]
  refine q p _ _ (Same.new _ hp) hp upd_same (by decide +kernel) (fun z hz => ?_)
  have e : ∀ x : List Str, (x.map fun x => x.cps.toList).all wordB = true → z ∈ (x.map fun x => x.cps.toList) → wordB z = true := fun x h hm => List.all_eq_true.mp h z hm
  exact e _ (by decide +kernel) hz
/-- all but d stands -/
def SameX (d : Addr) (H H' : Hp) : Prop := ∀ b o, b ≠ d → H b = some o → H' b = some o
theorem SameX.refl (d : Addr) (H : Hp) : SameX d H H := fun _ _ _ h => h
theorem SameX.trans {d : Addr} {H H1 H2 : Hp} (a : SameX d H H1) (b : SameX d H1 H2) : SameX d H H2 := fun x o n h => b x o n (a x o n h)
theorem SameX.new {d p : Addr} {H : Hp} (o : HO) (h : H p = none) : SameX d H (upd H p o) := fun b u _ e => Same.new o h b u e
theorem SameX.at {d : Addr} {H : Hp} (o : HO) : SameX d H (upd H d o) := fun b u n e => (upd_ne n).trans e
theorem SameX.mut {d p : Addr} {H H1 : Hp} (o : HO) (e : SameX d H H1) (h : H p = none) : SameX d H (upd H1 p o) := fun b u n q => by
  rw [upd_ne (ne_of_none q h)]
  exact e b u n q
theorem mul_sp (n : Int) : Txt.mul (Str.ofString " ") n = T (List.replicate n.toNat 32) := by
  rw [show Str.ofString " " = (⟨#[32]⟩ : Str) by decide +kernel]
  exact TL.ext_tl (PyProof.Rows.mul_one_list 32 n)
theorem rep_blank (n : Nat) : (List.replicate n 32).all isB = true := by
  rw [List.all_eq_true]
  intro x hx
  rw [(List.mem_replicate.mp hx).2]
  decide +kernel
def spGap : Sp := fun vs H Q _ => ∃ (d : Addr) (ds : List Int) (nb : Bool), vs = [.ref d, .bl nb] ∧ H d = some (.lst (ds.map V.int)) ∧
  ∀ (g : List Nat) (ds' : List Int) (H' : Hp), GapP g → (nb = true → g ≠ []) → g.length ≤ 10 → SameX d H H' → H' d = some (.lst (ds'.map V.int)) → Q (.str (T g)) H'
theorem c_law_gap {f : Addr} {fd : FuncData} (D : Df K mg "_law_gap" s_law_gap f fd ["draws", "needed"]) (c_law_take : Cl P w K mg base 1 "_law_take" spTake) (c_law_char : Cl P w K mg base 1 "_law_char" spChar) (z_int : mg "int" = none) (z_range : mg "range" = none) : Cl P w K mg base 2 "_law_gap" spGap := by
  refine D.cl sc_law_gap (fun vs H Q E h => ?_) (fun cdv A outer s H vs Q E hr h => ?_)
  · obtain ⟨d, ds, nb, rfl, _⟩ := h
    rfl
  obtain ⟨d, ds, nb, rfl, hd, q⟩ := h
  refine ⟨_, (pss_cons (ps_set (i := 2) sc_law_gap.nd rfl (.inl rfl) (pc c_law_take hr (by first | decide | omega) (by rfl) (pa_cons (pv 0) (pa_cons pe_int pa_nil))))
      (pss_cons (ps_if (pt_cmpR op_lt (pv 2) pe_int (nomark _)) (pss_one (ps_ret (pe_op op_add_str (pe_ix ix_tup (pe_tup (pa_cons pe_str (pa_cons pe_str (pa_cons pe_str (pa_cons pe_str pa_nil))))) (pv 2) (fun _ _ => rfl)) (pe_op op_mul_str pe_str (pe_callTy call_int1 (by rfl) z_int (by decide +kernel) (pa_cons (pe_and (pv 1) (pe_one (pe_cmpR op_eq (pv 2) pe_int (nomark _)))) pa_nil)))))) pss_nil)
      (pss_cons (ps_if (pt_cmpR op_lt (pv 2) pe_int (nomark _)) (pss_one (ps_ret (pe_op op_mul_str pe_str (pe_callTy call_int1 (by rfl) z_int (by decide +kernel) (pa_cons (pv 1) pa_nil))))) pss_nil)
      (pss_cons (ps_set (i := 3) sc_law_gap.nd rfl (.inl rfl) pe_str)
      (pss_cons (ps_for PassesOwn.never rfl (pi_range1 (by rfl) z_range (pa_cons (pc c_law_take hr (by first | decide | omega) (by rfl) (pa_cons (pv 0) (pa_cons pe_int pa_nil))) pa_nil)) (pg_name (i := 4) sc_law_gap.nd rfl (.inl rfl)) (pss_one (ps_set (i := 3) sc_law_gap.nd rfl (.inl rfl) (pe_op op_add_str (pv 3) (pc c_law_char hr (by first | decide | omega) (by rfl) (pa_cons (pc c_law_take hr (by first | decide | omega) (by rfl) (pa_cons (pv 0) (pa_cons pe_int pa_nil))) pa_nil))))))
      (pss_one (ps_ret (pe_op op_add_str (pv 3) pe_str)))))))), ?_⟩
  walk_at "w"
  refine ⟨d, ds, 8, rfl, hd, by decide, fun kind k0 k1 => ?_⟩
  have hS : SameX d H (upd H d (.lst (ds.tail.map V.int))) := SameX.at _
  walk_at "w"
  refine ite2 (fun c => ?_) (fun c => ?_)
  · have k4 : kind < 4 := of_decide_eq_true c
    walk_at "w"
    refine ⟨by show 4 ≤ sizeLine; decide, fun t ht => ?_⟩
    have nt : d ≠ t := ne_of_none upd_same ht
    obtain ⟨g, ⟨g1, g2, g3⟩, hi⟩ : ∃ g : List Nat, (g.all isB = true ∧ (kind = 0 ∨ g ≠ []) ∧ g.length ≤ 4) ∧ atI [V.str (Str.ofString ""), .str (Str.ofString " "), .str (Str.ofString "\n"), .str (Str.ofString "  \n ")] kind = some (.str (T g)) := by
      obtain rfl | rfl | rfl | rfl : kind = 0 ∨ kind = 1 ∨ kind = 2 ∨ kind = 3 := by omega
      · exact ⟨[], ⟨by decide +kernel, .inl rfl, by decide⟩, by rw [← e_eq]; rfl⟩
      · exact ⟨[32], ⟨by decide +kernel, .inr (by decide), by decide⟩, by rw [← show Str.ofString " " = T [32] by decide +kernel]; rfl⟩
      · exact ⟨[10], ⟨by decide +kernel, .inr (by decide), by decide⟩, by rw [← nl_eq]; rfl⟩
      · exact ⟨[32, 32, 10, 32], ⟨by decide +kernel, .inr (by decide), by decide⟩, by rw [← show Str.ofString "  \n " = T [32, 32, 10, 32] by decide +kernel]; rfl⟩
    refine ⟨_, rfl, t, _, _, _, rfl, rfl, .of upd_same, hi, _, rfl, nb, rfl, ?_⟩
    have fin : ∀ n : Nat, n ≤ 1 → (nb = true → kind = 0 → n = 1) → Q (.str (T g ++ T (List.replicate n 32))) (upd (upd H d (.lst (ds.tail.map V.int))) t (.tup [V.str (Str.ofString ""), .str (Str.ofString " "), .str (Str.ofString "\n"), .str (Str.ofString "  \n ")])) := fun n h1 h2 => by
      rw [T_cat]
      refine q _ ds.tail _ (gap_blank ?_) (fun h => ?_) ?_ (hS.trans (SameX.new _ ht)) ((upd_ne nt).trans upd_same)
      · rw [List.all_append, g1, rep_blank]
        rfl
      · rcases g2 with g2 | g2
        · rw [h2 h g2]
          simp
        · exact fun z => g2 (List.append_eq_nil_iff.mp z).1
      · rw [List.length_append, List.length_replicate]
        omega
    have l1 : (Str.ofString " ").length = 1 := by decide +kernel
    cases nb with
    | false =>
      refine .inr ⟨false, rfl, ?_⟩
      refine ⟨_, _, rfl, rfl, by decide, by decide, by rw [l1]; decide, ?_⟩
      rw [mul_sp]
      exact ⟨_, _, rfl, rfl, by rw [T_len, T_len]; exact small9 (by show g.length + 0 ≤ _; omega), fin 0 (by decide) (fun h => Bool.noConfusion h)⟩
    | true =>
      refine ⟨_, rfl, rfl, ?_⟩
      by_cases hk : kind = 0
      · rw [decide_eq_true (show V.int kind = V.int 0 by rw [hk])]
        refine .inr ⟨true, rfl, ?_⟩
        refine ⟨_, _, rfl, rfl, by decide, by decide, by rw [l1]; decide, ?_⟩
        rw [mul_sp]
        exact ⟨_, _, rfl, rfl, by rw [T_len, T_len]; exact small9 (by show g.length + 1 ≤ _; omega), fin 1 (by decide) (fun _ _ => rfl)⟩
      · rw [decide_eq_false (fun z => hk (V.int.inj z))]
        refine .inr ⟨false, rfl, ?_⟩
        refine ⟨_, _, rfl, rfl, by decide, by decide, by rw [l1]; decide, ?_⟩
        rw [mul_sp]
        exact ⟨_, _, rfl, rfl, by rw [T_len, T_len]; exact small9 (by show g.length + 0 ≤ _; omega), fin 0 (by decide) (fun _ h => absurd h hk)⟩
  · walk_at "w"
    have l1 : (Str.ofString " ").length = 1 := by decide +kernel
    refine ite2 (fun c => ?_) (fun c => ?_)
    · walk_at "w"
      refine .inr ⟨nb, rfl, ?_⟩
      cases nb with
      | false =>
        refine ⟨_, _, rfl, rfl, by decide, by decide, by rw [l1]; decide, ?_⟩
        rw [mul_sp]
        exact q [] _ _ (gap_blank rfl) (fun h => Bool.noConfusion h) (by decide) hS upd_same
      | true =>
        refine ⟨_, _, rfl, rfl, by decide, by decide, by rw [l1]; decide, ?_⟩
        rw [mul_sp]
        exact q [32] _ _ (gap_blank (by decide +kernel)) (fun _ => by decide) (by decide) hS upd_same
    · walk_at "w"
      refine ⟨d, _, 5, rfl, upd_same, by decide, fun n n0 n1 => ?_⟩
      rw [upd_upd]
      walk_at "w"
      refine ⟨by omega, by omega, for_range (lo := 0) (n := n.toNat) (fun i σ' H' => ∃ (cs : List Nat) (ds : List Int) (x : Option V), σ' = [some (.ref d), some (.bl nb), some (.int kind), some (.str (T (35 :: cs))), x] ∧ cs.length = i ∧ 10 ∉ cs ∧ upd H d (.lst (ds.map V.int)) = H') ⟨[], ds.tail.tail, none, by rw [← show Str.ofString "#" = T [35] by decide +kernel]; rfl, rfl, by decide, rfl⟩ ?_ ?_⟩
      · rintro i _ _ hi ⟨cs, ds, x, rfl, hl, hn, rfl⟩
        walk_at "w"
        refine ⟨d, _, 95, rfl, upd_same, by decide, fun r r0 r1 => ?_⟩
        rw [upd_upd]
        refine ⟨_, rfl, fun c hc => ?_⟩
        refine ⟨_, _, rfl, rfl, by rw [T_len]; exact small9 (by show cs.length + 1 + 1 ≤ _; omega), cs ++ [c], _, some (.int (0 + (i : Int))), ?_, by rw [List.length_append, hl]; rfl, fun hm => ?_, rfl⟩
        · rw [show (sg c) = T [c] from rfl, T_cat]
          rfl
        · rcases List.mem_append.mp hm with hm | hm
          · exact hn hm
          · have := List.mem_singleton.mp hm
            have := hc.1
            omega
      · rintro _ _ ⟨cs, ds, x, rfl, hl, hn, rfl⟩
        walk_at "w"
        rw [nl_eq]
        refine ⟨by rw [T_len, T_len]; exact small9 (by show cs.length + 1 + 1 ≤ _; omega), ?_⟩
        rw [T_cat]
        exact q _ _ _ (gap_comment hn) (fun _ => by simp) (by rw [List.length_append]; show cs.length + 1 + 1 ≤ _; omega) (SameX.at _) upd_same
/-- the places of the rows -/
def offsL : List (List Nat × List Nat) → Nat → List Nat
  | [], _ => []
  | p :: t, a => a :: offsL t (a + p.1.length + p.2.length)
theorem spell_app : ∀ (ps qs : List (List Nat × List Nat)), spellT (ps ++ qs) = spellT ps ++ spellT qs
  | [], _ => rfl
  | p :: t, qs => by
    show p.1 ++ p.2 ++ spellT (t ++ qs) = p.1 ++ p.2 ++ spellT t ++ spellT qs
    rw [spell_app t qs, ← List.append_assoc]
theorem offs_app : ∀ (ps : List (List Nat × List Nat)) (q : List Nat × List Nat) (a : Nat), offsL (ps ++ [q]) a = offsL ps a ++ [a + (spellT ps).length]
  | [], _, _ => rfl
  | p :: t, q, a => by
    show a :: offsL (t ++ [q]) _ = a :: (offsL t _ ++ [a + (p.1 ++ p.2 ++ spellT t).length])
    rw [offs_app t q, List.length_append, List.length_append]
    rw [show a + p.1.length + p.2.length + (spellT t).length = a + (p.1.length + p.2.length + (spellT t).length) by omega]
theorem offs_len : ∀ (ps : List (List Nat × List Nat)) (a : Nat), (offsL ps a).length = ps.length
  | [], _ => rfl
  | p :: t, a => congrArg Nat.succ (offs_len t _)
theorem toks_at : ∀ {ps : List (List Nat × List Nat)} {a k : Nat} {p : List Nat × List Nat} {o : Nat}, ps[k]? = some p → (offsL ps a)[k]? = some o → (tokensOf ps a)[k]? = some ⟨!signB p.1, p.1, o⟩
  | [], _, _, _, _, h, _ => by simp at h
  | q :: t, a, 0, p, o, h, h' => by
    have e1 : q = p := Option.some.inj h
    have e2 : a = o := Option.some.inj h'
    rw [← e1, ← e2]
    rfl
  | q :: t, a, k + 1, p, o, h, h' => toks_at (ps := t) h h'
theorem toks_len : ∀ (ps : List (List Nat × List Nat)) (a : Nat), (tokensOf ps a).length = ps.length
  | [], _ => rfl
  | p :: t, a => congrArg Nat.succ (toks_len t _)
def RowOk (r : List Nat) : Prop := (wordB r = true ∨ signB r = true) ∧ r.length ≤ 20
/-- what is said of the k-th row and what stands behind it -/
def OkAt (rs : List (List Nat)) (k : Nat) (p : List Nat × List Nat) : Prop := GapP p.2 ∧ p.2.length ≤ 10 ∧ (signB p.1 = false → p.2 = [] → ∀ r, rs[k + 1]? = some r → signB r = true)
theorem good_of : ∀ {rs : List (List Nat)} {ps : List (List Nat × List Nat)}, ps.map (·.1) = rs → (∀ r ∈ rs, RowOk r) → (∀ k p, ps[k]? = some p → OkAt rs k p) → GoodS ps
  | _, [], _, _, _ => trivial
  | _, p :: t, rfl, hr, ho => by
    obtain ⟨h1, _, h3⟩ := ho 0 p rfl
    refine ⟨(hr p.1 (List.mem_cons_self ..)).1, h1, fun a b q t' e => ?_, good_of (rs := t.map (·.1)) rfl (fun r h => hr r (List.mem_cons_of_mem _ h)) fun k q h => ho (k + 1) q h⟩
    subst e
    exact h3 a b q.1 rfl
theorem spell_len : ∀ {ps : List (List Nat × List Nat)}, (∀ p ∈ ps, p.1.length ≤ 20 ∧ p.2.length ≤ 10) → (spellT ps).length ≤ 30 * ps.length
  | [], _ => Nat.le_refl _
  | p :: t, h => by
    have ih := spell_len (ps := t) fun q hq => h q (List.mem_cons_of_mem _ hq)
    have h1 := h p (List.mem_cons_self ..)
    show (p.1 ++ p.2 ++ spellT t).length ≤ 30 * (t.length + 1)
    rw [List.length_append, List.length_append]
    omega
/-- a row among the signs, as a text in a text -/
theorem in_signs {r : List Nat} (h : RowOk r) : (!(Builtin.Str.occurrences K_SIGNS (T r) 0 K_SIGNS.length 1).isEmpty) = signB r := by
  rcases h.1 with h1 | h1
  · rw [not_both h1]
    match r, h1 with
    | c :: w, h1 =>
      unfold wordB at h1
      rw [Bool.and_eq_true, Bool.and_eq_true] at h1
      rw [Bool.eq_false_iff]
      intro z
      obtain ⟨i, _, hs⟩ := (PySem.StrLaws.found_iff _ _).mp z
      rw [PySem.StrLaws.subAt_eq] at hs
      have e : (K_SIGNS.cps.toList.drop i).take (T (c :: w)).length = c :: w := eq_of_beq hs
      have hm : c ∈ K_SIGNS.cps.toList := by
        have : c ∈ (K_SIGNS.cps.toList.drop i).take (T (c :: w)).length := by rw [e]; exact List.mem_cons_self ..
        exact List.mem_of_mem_drop (List.mem_of_mem_take this)
      have := (letter_no h1.1.1).2.2
      unfold isS at this
      rw [decide_eq_true hm] at this
      exact Bool.noConfusion this
  · rw [h1]
    match r, h1 with
    | [c], h1 =>
      show (!(Builtin.Str.occurrences K_SIGNS ⟨#[c]⟩ 0 K_SIGNS.length 1).isEmpty) = true
      rw [PySem.StrLaws.found_one]
      exact h1
def spSpell : Sp := fun vs H Q _ => ∃ (a d : Addr) (rs : List (List Nat)) (ds : List Int), vs = [.ref a, .ref d] ∧ H a = some (.lst (rs.map fun r => V.str (T r))) ∧ H d = some (.lst (ds.map V.int)) ∧ a ≠ d ∧ rs.length ≤ 31 ∧ (∀ r ∈ rs, RowOk r) ∧
  ∀ (g0 : List Nat) (ps : List (List Nat × List Nat)) (t pl : Addr) (H' : Hp), GapP g0 → ps.map (·.1) = rs → GoodS ps → (g0 ++ spellT ps).length ≤ 1000 → SameX d H H' → H' t = some (.tup [.str (T (g0 ++ spellT ps)), .ref pl]) → H' pl = some (.lst ((offsL ps g0.length).map fun o : Nat => V.int (o : Int))) → Q (.ref t) H'
theorem c_law_spell {f : Addr} {fd : FuncData} (D : Df K mg "_law_spell" s_law_spell f fd ["rows", "draws"]) (c_law_gap : Cl P w K mg base 2 "_law_gap" spGap) (z_len : mg "len" = none) (z_range : mg "range" = none) : Cl P w K mg base 3 "_law_spell" spSpell := by
  refine D.cl sc_law_spell (fun vs H Q E h => ?_) (fun cdv A outer s H vs Q E hr h => ?_)
  · obtain ⟨a, d, rs, ds, rfl, _⟩ := h
    rfl
  obtain ⟨a, d, rs, ds, rfl, ha, hd, nad, hrs, hok, q⟩ := h
  refine ⟨_, (pss_cons (ps_set (i := 2) sc_law_spell.nd rfl (.inl rfl) (pc c_law_gap hr (by first | decide | omega) (by rfl) (pa_cons (pv 1) (pa_cons pe_bl pa_nil))))
      (pss_cons (ps_set (i := 3) sc_law_spell.nd rfl (.inl rfl) (pe_lst pa_nil))
      (pss_cons (ps_for PassesOwn.never rfl (pi_range1 (by rfl) z_range (pa_cons (pe_callB call_len_seq (by rfl) z_len PySem.boot_len (pa_cons (pv 0) pa_nil)) pa_nil)) (pg_name (i := 4) sc_law_spell.nd rfl (.inl rfl)) (pss_cons (ps_expr (pe_bm PySem.F.plainAttrs_list PySem.F.slot_list_append PySem.F.type_list_append mt_append (pv 3) (pa_cons (pe_callB call_len_str (by rfl) z_len PySem.boot_len (pa_cons (pv 2) pa_nil)) pa_nil)))
      (pss_cons (ps_set (i := 2) sc_law_spell.nd rfl (.inl rfl) (pe_op op_add_str (pv 2) (pe_ix ix_list (pv 0) (pv 4) (fun _ _ => rfl))))
      (pss_cons (ps_set (i := 5) sc_law_spell.nd rfl (.inl rfl) (pe_cmpR op_lt (pe_op op_add (pv 4) pe_int) (pe_callB call_len_seq (by rfl) z_len PySem.boot_len (pa_cons (pv 0) pa_nil)) (nomark _)))
      (Evl.pss_cut (ps_set (i := 6) sc_law_spell.nd rfl (.inl rfl) (pe_and (pv 5) (pe_and (pe_cmpR op_notIn_str (pe_ix ix_list (pv 0) (pv 4) (fun _ _ => rfl)) pe_str rfl) (pe_one (pe_cmpR op_notIn_str (pe_ix ix_list (pv 0) (pe_op op_add (pv 4) pe_int) (fun _ _ => rfl)) pe_str rfl)))))
      (pss_one (ps_set (i := 2) sc_law_spell.nd rfl (.inl rfl) (pe_op op_add_str (pv 2) (pc c_law_gap hr (by first | decide | omega) (by rfl) (pa_cons (pv 1) (pa_cons (pv 6) pa_nil)))))))))))
      (pss_one (ps_ret (pe_tup (pa_cons (pv 2) (pa_cons (pv 3) pa_nil)))))))), ?_⟩
  refine ⟨_, rfl, d, ds, false, rfl, hd, fun g0 ds1 H1 gp0 _ gl0 s1 d1 => ?_⟩
  have ha1 := s1 _ _ nad ha
  refine ⟨Nat.zero_le _, fun pl hpl => ?_⟩
  have nla : a ≠ pl := ne_of_none ha1 hpl
  have nld : d ≠ pl := ne_of_none d1 hpl
  refine ⟨_, rfl, a, _, rfl, .inl (.of ((upd_ne nla).trans ha1)), _, rfl, by show -(2 ^ 62 : Int) ≤ ((rs.map fun r => V.str (T r)).length : Int); omega, by rw [List.length_map]; omega, ?_⟩
  have hpl0 : H pl = none := by
    cases e : H pl with
    | none => rfl
    | some o =>
      have := s1 pl o nld.symm e
      rw [hpl] at this
      cases this
  refine for_range (lo := 0) (n := _) (fun i σ' H' => ∃ (ps : List (List Nat × List Nat)) (x y z : Option V) (ds : List Int), σ' = [some (.ref a), some (.ref d), some (.str (T (g0 ++ spellT ps))), some (.ref pl), x, y, z] ∧ ps.length = i ∧ ps.map (·.1) = rs.take i ∧ (∀ k p, ps[k]? = some p → OkAt rs k p) ∧ SameX d H H' ∧ H' d = some (.lst (ds.map V.int)) ∧ H' pl = some (.lst ((offsL ps g0.length).map fun o : Nat => V.int (o : Int))))
    ⟨[], none, none, none, ds1, by rw [show g0 ++ spellT [] = g0 from List.append_nil g0]; rfl, rfl, rfl, fun k p h => by simp at h, SameX.mut _ s1 hpl0, (upd_ne nld).trans d1, upd_same⟩ ?_ ?_
  · rintro i _ H2 hi ⟨ps, x, y, z, ds2, rfl, hl, hm, ho, s2, d2, p2⟩
    have hi' : i < rs.length := by
      have := hi
      rw [Int.toNat_natCast, List.length_map] at this
      exact this
    have e0 : (0 : Int) + (i : Int) = (i : Int) := Int.zero_add _
    rw [e0]
    have hrow : ∀ k (hk : k < rs.length), atI (rs.map fun r => V.str (T r)) (k : Int) = some (.str (T rs[k])) := fun k hk => atI_nat (by rw [List.getElem?_map, List.getElem?_eq_getElem hk]; rfl)
    have okr := hok _ (List.getElem_mem hi')
    have okl : ∀ p ∈ ps, p.1.length ≤ 20 ∧ p.2.length ≤ 10 := fun p hp => by
      obtain ⟨k, hk⟩ := List.getElem?_of_mem hp
      have h1 : p.1 ∈ ps.map (·.1) := List.mem_map_of_mem hp
      rw [hm] at h1
      exact ⟨(hok _ (List.mem_of_mem_take h1)).2, (ho k p hk).2.1⟩
    have hsl := spell_len okl
    have hz : (T (g0 ++ spellT ps)).length ≤ sizeLine := by rw [T_len, List.length_append]; exact small9 (by omega)
    have nla2 := s2 _ _ nad ha
    have hA : ∀ o, (upd H2 pl o) a = some (.lst (rs.map fun r => V.str (T r))) := fun o => (upd_ne nla).trans nla2
    refine ⟨_, rfl, .inl ⟨rfl, _, SqL.of p2⟩, _, rfl, _, rfl, hz, pl, _, _, rfl, rfl, p2, ?_, ?_⟩
    · rw [List.length_map, offs_len]
      exact small1000 (by omega)
    refine ⟨_, rfl, _, rfl, _, rfl, a, _, _, _, rfl, rfl, .of (hA _), hrow i hi', _, _, rfl, rfl, ?_, ?_⟩
    · rw [T_len, T_len, List.length_append]
      exact small9 (by have := okr.2; omega)
    refine ⟨_, rfl, _, _, rfl, rfl, _, rfl, a, _, rfl, .inl (.of (hA _)), _, _, rfl, rfl, ?_⟩
    rw [List.length_map]
    -- wide
    refine ⟨fun σ' H' => ∃ W F : Bool, σ' = [some (.ref a), some (.ref d), some (.str (T (g0 ++ spellT ps) ++ T rs[i])), some (.ref pl), some (.int (i : Int)), some (.bl F), some (.bl W)] ∧ (∀ r', rs[i + 1]? = some r' → signB rs[i] = false → W = false → signB r' = true) ∧ upd H2 pl (.lst ((offsL ps g0.length).map (fun o : Nat => V.int (o : Int)) ++ [V.int ((T (g0 ++ spellT ps)).length : Nat)])) = H', ?_, ?_⟩
    · refine ⟨_, rfl, _, rfl, ?_⟩
      by_cases hF : i + 1 < rs.length
      · rw [decide_eq_true (show (i : Int) + 1 < (rs.length : Int) by omega)]
        refine iteT ⟨_, rfl, _, rfl, a, _, _, _, rfl, rfl, .of (hA _), hrow i hi', _, _, rfl, rfl, _, rfl, ?_⟩
        rw [in_signs okr]
        cases hs : signB rs[i] with
        | true => exact iteF ⟨false, _, rfl, fun r' _ h => Bool.noConfusion h, rfl⟩
        | false =>
          refine iteT ⟨_, rfl, _, rfl, _, _, rfl, rfl, a, _, _, _, rfl, rfl, .of (hA _), hrow (i + 1) hF, _, _, rfl, rfl, ?_⟩
          rw [in_signs (hok _ (List.getElem_mem hF))]
          refine ⟨!signB rs[i + 1], _, rfl, fun r' h _ h2 => ?_, rfl⟩
          rw [List.getElem?_eq_getElem hF] at h
          rw [← Option.some.inj h]
          simpa using h2
      · rw [decide_eq_false (show ¬ (i : Int) + 1 < (rs.length : Int) by omega)]
        refine iteF ⟨false, _, rfl, fun r' h => ?_, rfl⟩
        rw [List.getElem?_eq_none (by omega)] at h
        cases h
    rintro _ H3 ⟨W, F, rfl, hW, rfl⟩
    refine ⟨_, rfl, _, rfl, _, rfl, d, ds2, W, rfl, (upd_ne nld).trans d2, fun g ds' H3 gp gw gl s3 d3 => ?_⟩
    have hx : (spellT (ps ++ [(rs[i], g)])) = spellT ps ++ (rs[i] ++ g) := by
      rw [spell_app]
      show spellT ps ++ (rs[i] ++ g ++ []) = _
      rw [List.append_nil]
    refine ⟨_, _, rfl, rfl, ?_, ps ++ [(rs[i], g)], some (.int (i : Int)), some (.bl F), some (.bl W), ds', ?_, by rw [List.length_append, hl]; rfl, ?_, ?_, (SameX.mut _ s2 hpl0).trans s3, d3, ?_⟩
    · rw [Str.length_append, T_len, T_len, T_len, List.length_append]
      exact small9 (by have := okr.2; omega)
    · rw [T_cat, T_cat, hx]
      simp only [List.append_assoc]
      rfl
    · rw [List.map_append, hm, List.take_add_one, List.getElem?_eq_getElem hi']
      rfl
    · intro k p hk
      by_cases hkl : k < ps.length
      · rw [List.getElem?_append_left hkl] at hk
        exact ho k p hk
      · rw [List.getElem?_append_right (by omega)] at hk
        have hk0 : k - ps.length = 0 := by
          cases hq : k - ps.length with
          | zero => rfl
          | succ n => rw [hq] at hk; simp at hk
        rw [hk0] at hk
        have ep : (rs[i], g) = p := Option.some.inj hk
        subst ep
        refine ⟨gp, gl, fun h1 h2 r' h3 => ?_⟩
        have ek : k = i := by omega
        rw [ek] at h3
        cases hWc : W with
        | true => exact absurd h2 (gw hWc)
        | false => exact hW r' h3 h1 hWc
    · rw [s3 _ _ nld.symm upd_same, offs_app, List.map_append, T_len, List.length_append]
      rfl
  · rintro _ H2 ⟨ps, x, y, z, ds2, rfl, hl, hm, ho, s2, d2, p2⟩
    have hlen : ps.length = rs.length := by
      rw [hl, List.length_map]
      show ((rs.length : Nat) : Int).toNat = _
      omega
    rw [List.take_of_length_le (by rw [← hl, hlen]; exact Nat.le_refl _)] at hm
    have okl : ∀ p ∈ ps, p.1.length ≤ 20 ∧ p.2.length ≤ 10 := fun p hp => by
      obtain ⟨k, hk⟩ := List.getElem?_of_mem hp
      have h1 : p.1 ∈ ps.map (·.1) := List.mem_map_of_mem hp
      rw [hm] at h1
      exact ⟨(hok _ h1).2, (ho k p hk).2.1⟩
    have hsl := spell_len okl
    refine ⟨_, rfl, _, rfl, by show 2 ≤ sizeLine; decide, fun t ht => ?_⟩
    refine q g0 ps t pl _ gp0 hm (good_of hm hok ho) (by rw [List.length_append]; omega) (s2.trans (SameX.new _ ht)) upd_same ((upd_ne (ne_of_none p2 ht)).trans p2)
def spLaw (K : PySem.W.Frag) : Sp := fun vs H Q _ => ∃ (a : Addr) (ns : List Int), vs = [.ref a] ∧ SqL K H a (ns.map V.int) ∧ ns.length ≤ 63 ∧ ∀ H', Q (.bl true) H'
theorem wordB_app {w : List Nat} {c : Nat} (h : wordB w = true) (hc : isW c = true) (hl : w.length < 20) : wordB (w ++ [c]) = true := by
  match w, h with
  | x :: w, h =>
    unfold wordB at h
    rw [Bool.and_eq_true, Bool.and_eq_true] at h
    rw [List.length_cons] at hl
    show (isL x && (w ++ [c]).all isW && decide ((w ++ [c]).length < 20)) = true
    rw [h.1.1, List.all_append, h.1.2, List.length_append, decide_eq_true (by show w.length + 1 < 20; omega)]
    rw [List.all_cons, hc]
    rfl
theorem wordB_len {w : List Nat} (h : wordB w = true) : w.length ≤ 20 := by
  match w, h with
  | x :: w, h =>
    unfold wordB at h
    rw [Bool.and_eq_true, Bool.and_eq_true] at h
    have := of_decide_eq_true h.2
    rw [List.length_cons]
    omega
theorem ok_law {f : Addr} {fd : FuncData} (F : Fun K "law" "law" s_law f fd) (c_law_draws : Cl P w K mg base 2 "_law_draws" (spDraws K)) (c_law_take : Cl P w K mg base 1 "_law_take" spTake) (c_law_cell : Cl P w K mg base 1 "_law_cell" (spCell K))
    (c_law_reserved : Cl P w K mg base 1 "_law_reserved" spResW) (c_law_spell : Cl P w K mg base 3 "_law_spell" spSpell) (c_split_tokens : Cl P w K mg base 3 "split_tokens" (spSplit K)) (c_law_same : Cl P w K mg base 4 "_law_same" (spSame K 3)) (z_range : mg "range" = none) (z_int : mg "int" = none) (z_tuple : mg "tuple" = none) (z_len : mg "len" = none) : FnOk P w K mg base CX0 5 f fd ["script"] (spLaw K) := by
  refine F.ok sc_law (fun vs H Q E h => ?_) (fun cdv A outer s H vs Q E hr h => ?_)
  · obtain ⟨a, ns, rfl, _⟩ := h
    rfl
  obtain ⟨a, ns, rfl, hS, h63, q⟩ := h
  refine ⟨_, (pss_cons (ps_set (i := 1) sc_law.nd rfl (.inl rfl) (pe_lst pa_nil))
      (pss_cons (ps_for PassesOwn.never rfl (pi_range1 (by rfl) z_range (pa_cons (pe_op op_mod (pe_callTy call_int1 (by rfl) z_int (by decide +kernel) (pa_cons (pc c_law_cell hr (by first | decide | omega) (by rfl) (pa_cons (pv 0) (pa_cons pe_int pa_nil))) pa_nil)) pe_int) pa_nil)) (pg_name (i := 2) sc_law.nd rfl (.inl rfl)) (pss_cons (ps_set (i := 3) sc_law.nd rfl (.inl rfl) (pc c_law_draws hr (by first | decide | omega) (by rfl) (pa_cons (pv 0) (pa_cons (pe_op op_add pe_int (pe_op op_fdiv (pv 2) pe_int)) (pa_cons pe_int pa_nil)))))
      (pss_cons (ps_set (i := 3) sc_law.nd rfl (.inl rfl) (pe_slice sl_list (pv 3) (po_some (pe_op op_mul pe_int (pe_callTy call_int1 (by rfl) z_int (by decide +kernel) (pa_cons (pe_op op_mod (pv 2) pe_int) pa_nil)))) (po_some (pe_op op_add (pe_op op_mul pe_int (pe_callTy call_int1 (by rfl) z_int (by decide +kernel) (pa_cons (pe_op op_mod (pv 2) pe_int) pa_nil))) pe_int))))
      (pss_cons (ps_set (i := 4) sc_law.nd rfl (.inl rfl) (pc c_law_take hr (by first | decide | omega) (by rfl) (pa_cons (pv 3) (pa_cons pe_int pa_nil))))
      (pss_one (ps_if (pt_cmpR op_eq (pv 4) pe_int (nomark _)) (pss_one (ps_expr (pe_bm PySem.F.plainAttrs_list PySem.F.slot_list_append PySem.F.type_list_append mt_append (pv 1) (pa_cons (pe_ix ix_str pe_str (pc c_law_take hr (by first | decide | omega) (by rfl) (pa_cons (pv 3) (pa_cons pe_int pa_nil))) (fun _ _ => rfl)) pa_nil)))) (pss_one (ps_if (pt_cmpR op_eq (pv 4) pe_int (nomark _)) (pss_one (ps_expr (pe_bm PySem.F.plainAttrs_list PySem.F.slot_list_append PySem.F.type_list_append mt_append (pv 1) (pa_cons (pe_ix ix_list (pc0 c_law_reserved hr (by first | decide | omega) (by rfl)) (pc c_law_take hr (by first | decide | omega) (by rfl) (pa_cons (pv 3) (pa_cons pe_int pa_nil))) (fun _ _ => rfl)) pa_nil)))) (pss_cons (ps_set (i := 5) sc_law.nd rfl (.inl rfl) (pe_ix ix_str pe_str (pc c_law_take hr (by first | decide | omega) (by rfl) (pa_cons (pv 3) (pa_cons pe_int pa_nil))) (fun _ _ => rfl)))
      (pss_cons (ps_for PassesOwn.never rfl (pi_range1 (by rfl) z_range (pa_cons (pc c_law_take hr (by first | decide | omega) (by rfl) (pa_cons (pv 3) (pa_cons pe_int pa_nil))) pa_nil)) (pg_name (i := 6) sc_law.nd rfl (.inl rfl)) (pss_one (ps_set (i := 5) sc_law.nd rfl (.inl rfl) (pe_op op_add_str (pv 5) (pe_ix ix_str pe_str (pc c_law_take hr (by first | decide | omega) (by rfl) (pa_cons (pv 3) (pa_cons pe_int pa_nil))) (fun _ _ => rfl))))))
      (pss_one (ps_expr (pe_bm PySem.F.plainAttrs_list PySem.F.slot_list_append PySem.F.type_list_append mt_append (pv 1) (pa_cons (pv 5) pa_nil))))))))))))))
      (pss_cons (ps_set (i := 7) sc_law.nd rfl (.inl rfl) (pc c_law_spell hr (by first | decide | omega) (by rfl) (pa_cons (pv 1) (pa_cons (pc c_law_draws hr (by first | decide | omega) (by rfl) (pa_cons (pv 0) (pa_cons pe_int (pa_cons pe_int pa_nil)))) pa_nil))))
      (pss_cons (ps_set (i := 8) sc_law.nd rfl (.inl rfl) (pe_lst pa_nil))
      (pss_cons (ps_for PassesOwn.never rfl (pi_range1 (by rfl) z_range (pa_cons (pe_callB call_len_seq (by rfl) z_len PySem.boot_len (pa_cons (pv 1) pa_nil)) pa_nil)) (pg_name (i := 2) sc_law.nd rfl (.inl rfl)) (pss_cons (ps_set (i := 4) sc_law.nd rfl (.inl rfl) pe_str)
      (Evl.pss_cut (ps_if (pt_cmpR op_in_str (pe_ix ix_list (pv 1) (pv 2) (fun _ _ => rfl)) pe_str rfl) (pss_one (ps_set (i := 4) sc_law.nd rfl (.inl rfl) pe_str)) pss_nil)
      (pss_one (ps_expr (pe_bm PySem.F.plainAttrs_list PySem.F.slot_list_append PySem.F.type_list_append mt_append (pv 8) (pa_cons (pe_tup (pa_cons (pv 4) (pa_cons (pe_ix ix_list (pv 1) (pv 2) (fun _ _ => rfl)) (pa_cons (pe_ix ix_list (pe_ix ix_tup (pv 7) pe_int (fun _ _ => rfl)) (pv 2) (fun _ _ => rfl)) pa_nil)))) pa_nil)))))))
      (pss_cons (ps_expr (pe_bm PySem.F.plainAttrs_list PySem.F.slot_list_append PySem.F.type_list_append mt_append (pv 8) (pa_cons (pe_tup (pa_cons pe_str (pa_cons pe_str (pa_cons (pe_callB call_len_str (by rfl) z_len PySem.boot_len (pa_cons (pe_ix ix_tup (pv 7) pe_int (fun _ _ => rfl)) pa_nil)) pa_nil)))) pa_nil)))
      (pss_one (ps_ret (pc c_law_same hr (by first | decide | omega) (by rfl) (pa_cons (pc c_split_tokens hr (by first | decide | omega) (by rfl) (pa_cons (pe_ix ix_tup (pv 7) pe_int (fun _ _ => rfl)) pa_nil)) (pa_cons (pe_callTy call_tuple_of (by rfl) z_tuple (by decide +kernel) (pa_cons (pv 8) pa_nil)) pa_nil))))))))))), ?_⟩
  refine ⟨Nat.zero_le _, fun rw_ hrw => ?_⟩
  have nra : SqL K (upd H rw_ (.lst [])) a (ns.map V.int) := Same.seq (Same.new _ hrw) hS
  walk_at "w"
  refine ⟨a, ns, 0, rfl, nra, h63, by decide, fun c0 => ?_⟩
  walk_at "w"
  refine ⟨by omega, by omega, for_range (lo := 0) (n := (c0 % 31).toNat) (fun i σ' H' => ∃ (rs : List (List Nat)) (x2 x3 x4 x5 x6 : Option V), σ' = [some (.ref a), some (.ref rw_), x2, x3, x4, x5, x6, none, none] ∧ rs.length = i ∧ H' rw_ = some (.lst (rs.map fun r => V.str (T r))) ∧ (∀ r ∈ rs, RowOk r) ∧ Same H H')
    ⟨[], none, none, none, none, none, rfl, rfl, upd_same, fun r h => by simp at h, Same.new _ hrw⟩ ?_ ?_⟩
  · rintro i _ H1 hi ⟨rs, x2, x3, x4, x5, x6, rfl, hl, hrs, hok, s1⟩
    walk_at "w"
    refine ⟨a, ns, _, 62, rfl, s1.seq hS, h63, by omega, by decide, by decide, fun ds p1 H2 s2 n1 f1 _ => ?_⟩
    walk_at "w"
    refine ⟨p1, _, rfl, SqL.of f1, fun p2 hp2 => ?_⟩
    rw [cutV_map]
    have r2 := s2 _ _ hrs
    have nrw : rw_ ≠ p2 := ne_of_none r2 hp2
    have hr2 : ∀ o, (upd H2 p2 o) rw_ = some (.lst (rs.map fun r => V.str (T r))) := fun o => (upd_ne nrw).trans r2
    have hs2 : ∀ o, Same H (upd H2 p2 o) := fun o => Same.mut o (s1.trans s2) (Same.free (s1.trans s2) hp2)
    have hsz : (rs.map fun r => V.str (T r)).length < sizeLine := by
      rw [List.length_map]
      exact small1000 (by omega)
    have fin : ∀ (r : List Nat) (H3 : Hp) (y2 y3 y4 y5 y6 : Option V), RowOk r → H3 rw_ = some (.lst (rs.map fun r => V.str (T r))) → Same H H3 →
        ∃ (rs' : List (List Nat)) (x2 x3 x4 x5 x6 : Option V), ([some (.ref a), some (.ref rw_), y2, y3, y4, y5, y6, none, none] : L2.St) = [some (.ref a), some (.ref rw_), x2, x3, x4, x5, x6, none, none] ∧ rs'.length = i + 1 ∧ (upd H3 rw_ (.lst ((rs.map fun r => V.str (T r)) ++ [.str (T r)]))) rw_ = some (.lst (rs'.map fun r => V.str (T r))) ∧ (∀ r ∈ rs', RowOk r) ∧ Same H (upd H3 rw_ (.lst ((rs.map fun r => V.str (T r)) ++ [.str (T r)]))) :=
      fun r H3 y2 y3 y4 y5 y6 hr h3 hs => ⟨rs ++ [r], y2, y3, y4, y5, y6, rfl, by rw [List.length_append, hl]; rfl, by rw [upd_same, List.map_append]; rfl, fun r' h => by
        rcases List.mem_append.mp h with h | h
        · exact hok _ h
        · rw [List.mem_singleton.mp h]
          exact hr, Same.mut _ hs hrw⟩
    walk_at "w"
    refine ⟨p2, _, 4, rfl, upd_same, by decide, fun kind z0 z1 => ?_⟩
    rw [upd_upd]
    walk_at "w"
    refine ⟨rfl, _, rfl, ite2 (fun c => ?_) (fun c => ?_)⟩
    · refine ⟨_, rfl, .inl ⟨rfl, _, SqL.of (hr2 _)⟩, ?_⟩
      walk_at "w"
      refine ⟨p2, _, 5, rfl, upd_same, by decide, fun r r0 r1 => ?_⟩
      rw [upd_upd]
      refine ix_of isS r0 (Int.lt_of_lt_of_le r1 (by decide +kernel)) (by decide +kernel) (by decide +kernel) fun c hc => ?_
      exact ⟨rw_, _, _, rfl, rfl, hr2 _, hsz, fin [c] _ _ _ _ _ _ ⟨.inr hc, (by show 1 ≤ 20; decide)⟩ (hr2 _) (hs2 _)⟩
    · walk_at "w"
      refine ⟨rfl, _, rfl, ite2 (fun c => ?_) (fun c => ?_)⟩
      · refine ⟨_, rfl, .inl ⟨rfl, _, SqL.of (hr2 _)⟩, ?_⟩
        refine ⟨rfl, fun t H3 zs s3 n3 f3 hz1 hz2 => ?_⟩
        have d3 := s3 _ _ (upd_same (H := H2) (a := p2))
        walk_at "w"
        refine ⟨p2, _, 20, rfl, d3, by decide, fun r r0 r1 => ?_⟩
        obtain ⟨v, ⟨z, hz, rfl⟩, hi2⟩ := at_any (xs := zs.map fun z => V.str (T z)) (fun v => ∃ z : List Nat, z ∈ zs ∧ v = .str (T z)) r0 (by rw [List.length_map, hz1]; exact r1) (fun x hx => by obtain ⟨z, h1, h2⟩ := List.mem_map.mp hx; exact ⟨z, h1, h2.symm⟩)
        have n23 : t ≠ p2 := fun e => by
          rw [e, upd_same] at n3
          cases n3
        refine ⟨t, _, _, _, rfl, rfl, .of ((upd_ne n23).trans f3), hi2, ?_⟩
        have hw := hz2 z hz
        have r3 : (upd H3 p2 (.lst (List.map V.int (List.tail (List.tail (cutI ds (some (12 * ((0 + (i : Int)) % 5))) (some (12 * ((0 + (i : Int)) % 5) + 12)))))))) rw_ = some (.lst (rs.map fun r => V.str (T r))) := (upd_ne nrw).trans (s3 _ _ (hr2 _))
        refine ⟨rw_, _, _, rfl, rfl, r3, hsz, fin z _ _ _ _ _ _ ⟨.inl hw, wordB_len hw⟩ r3 (Same.mut _ ((hs2 _).trans s3) (Same.free (s1.trans s2) hp2))⟩
      · walk_at "w"
        refine ⟨p2, _, 53, rfl, upd_same, by decide, fun r r0 r1 => ?_⟩
        rw [upd_upd]
        refine ix_of isL r0 (Int.lt_of_lt_of_le r1 (by decide +kernel)) (by decide +kernel) (by decide +kernel) fun c0 hc0 => ?_
        walk_at "w"
        refine ⟨p2, _, 20, rfl, upd_same, by decide, fun n n0 n1 => ?_⟩
        rw [upd_upd]
        walk_at "w"
        refine ⟨by omega, by omega, for_range (lo := 0) (n := n.toNat) (fun j σ' H' => ∃ (w : List Nat) (ds : List Int) (y : Option V), σ' = [some (.ref a), some (.ref rw_), some (.int (0 + (i : Int))), some (.ref p2), some (.int kind), some (.str (T w)), y, none, none] ∧ wordB w = true ∧ w.length = j + 1 ∧ upd H2 p2 (.lst (ds.map V.int)) = H') ⟨[c0], _, x6, rfl, (by show (isL c0 && ([] : List Nat).all isW && decide (([] : List Nat).length < 20)) = true; rw [hc0]; rfl), rfl, rfl⟩ ?_ ?_⟩
        · rintro j _ _ hj ⟨w, ds, y, rfl, hw, hwl, rfl⟩
          walk_at "w"
          refine ⟨p2, _, 25, rfl, upd_same, by decide, fun r r0 r1 => ?_⟩
          rw [upd_upd]
          refine ix_of isW r0 (Int.lt_of_lt_of_le r1 (by decide +kernel)) (by decide +kernel) (by decide +kernel) fun c hc => ?_
          refine ⟨_, _, rfl, rfl, by rw [T_len]; exact small9 (by show w.length + 1 ≤ _; omega), w ++ [c], _, some (.int (0 + (j : Int))), ?_, wordB_app hw hc (by omega), by rw [List.length_append, hwl]; rfl, rfl⟩
          rw [show (sg c) = T [c] from rfl, T_cat]
          rfl
        · rintro _ _ ⟨w, ds, y, rfl, hw, hwl, rfl⟩
          exact ⟨_, rfl, .inl ⟨rfl, _, SqL.of (hr2 _)⟩, _, rfl, rw_, _, _, rfl, rfl, hr2 _, hsz, fin w _ _ _ _ _ _ ⟨.inl hw, wordB_len hw⟩ (hr2 _) (hs2 _)⟩
  rintro _ H1 ⟨rs, x2, x3, x4, x5, x6, rfl, hl, hrs, hok, s1⟩
  refine ⟨_, rfl, _, rfl, a, ns, 9, 150, rfl, s1.seq hS, h63, by decide, by decide, by decide, fun ds d H2 s2 n2 f2 _ => ?_⟩
  have r2 := s2 _ _ hrs
  refine ⟨rw_, d, rs, ds, rfl, r2, f2, ne_of_none hrs n2, by omega, hok, fun g0 ps t pl H3 gp hm good hlen s3 ft fpl => ?_⟩
  have r3 := s3 _ _ (ne_of_none hrs n2) r2
  refine ⟨Nat.zero_le _, fun du hdu => ?_⟩
  have nru : rw_ ≠ du := ne_of_none r3 hdu
  have ntu : t ≠ du := ne_of_none ft hdu
  have hps : ps.length = rs.length := by rw [← hm, List.length_map]
  have hlen2 : (rs.map fun r => V.str (T r)).length = rs.length := List.length_map _
  have hrow : ∀ k (hk : k < rs.length), atI (rs.map fun r => V.str (T r)) (k : Int) = some (.str (T rs[k])) := fun k hk => atI_nat (by rw [List.getElem?_map, List.getElem?_eq_getElem hk]; rfl)
  refine ⟨_, rfl, rw_, _, rfl, .inl (.of ((upd_ne nru).trans r3)), _, rfl, by omega, by rw [hlen2]; omega, ?_⟩
  refine for_range (lo := 0) (n := _) (fun i σ' H' => ∃ (vs : List V) (x2 x3 x4 x5 x6 : Option V), σ' = [some (.ref a), some (.ref rw_), x2, x3, x4, x5, x6, some (.ref t), some (.ref du)] ∧ H' du = some (.lst vs) ∧ DpAll K H' vs (((tokensOf ps g0.length).take i).map tkD) ∧ Same H3 H') ⟨[], x2, x3, x4, x5, x6, rfl, upd_same, .nil, Same.new _ hdu⟩ ?_ ?_
  · rintro i _ H4 hi ⟨vs, x2, x3, x4, x5, x6, rfl, hv, hD, s4⟩
    have hi' : i < rs.length := by
      have := hi
      rw [Int.toNat_natCast, hlen2] at this
      exact this
    have e0 : (0 : Int) + (i : Int) = (i : Int) := Int.zero_add _
    rw [e0]
    have okr := hok _ (List.getElem_mem hi')
    have r4 := s4 _ _ r3
    refine ⟨fun σ' H' => σ' = [some (.ref a), some (.ref rw_), some (.int (i : Int)), x3, some (.str (if (!signB rs[i]) = true then Str.ofString "word" else Str.ofString "sign")), x5, x6, some (.ref t), some (.ref du)] ∧ H4 = H', ?_, ?_⟩
    · refine ⟨_, rfl, _, rfl, rw_, _, _, _, rfl, rfl, .of r4, hrow i hi', _, _, rfl, rfl, _, rfl, ?_⟩
      rw [in_signs okr]
      cases hs : signB rs[i] with
      | true => exact iteT ⟨rfl, rfl⟩
      | false => exact iteF ⟨rfl, rfl⟩
    rintro _ _ ⟨rfl, rfl⟩
    have hpi : i < ps.length := by omega
    have hoi : i < (offsL ps g0.length).length := by rw [offs_len]; exact hpi
    have hp1 : ps[i].1 = rs[i] := by
      have : (ps.map (·.1))[i]? = some ps[i].1 := by rw [List.getElem?_map, List.getElem?_eq_getElem hpi]; rfl
      rw [hm, List.getElem?_eq_getElem hi'] at this
      exact (Option.some.inj this).symm
    have htk := toks_at (a := g0.length) (List.getElem?_eq_getElem hpi) (List.getElem?_eq_getElem hoi)
    rw [hp1] at htk
    have hvl : vs.length ≤ i := by
      rw [dpAll_len hD, List.length_map, List.length_take]
      omega
    refine ⟨_, rfl, .inl ⟨rfl, _, SqL.of hv⟩, _, rfl, _, rfl, _, rfl, rw_, _, _, _, rfl, rfl, .of r4, hrow i hi', _, rfl, t, _, 1, .ref pl, rfl, rfl, .of (s4 _ _ ft), atI_nat (j := 1) rfl, _, rfl, pl, _, _, .int (((offsL ps g0.length)[i] : Nat) : Int), rfl, rfl, .of (s4 _ _ fpl), ?_, by show 3 ≤ sizeLine; decide, fun p hp => ?_⟩
    · exact atI_nat (by rw [List.getElem?_map, List.getElem?_eq_getElem hoi]; rfl)
    have np : du ≠ p := ne_of_none hv hp
    refine ⟨du, _, _, rfl, rfl, (upd_ne np).trans hv, small1000 (by omega), ?_⟩
    have k1 : KT K H4 (upd H4 p (.tup [.str (if (!signB rs[i]) = true then Str.ofString "word" else Str.ofString "sign"), .str (T rs[i]), .int (((offsL ps g0.length)[i] : Nat) : Int)])) := KT.new _ hp
    have k2 := KT.lst (K := K) (.lst (vs ++ [.ref p])) ((upd_ne (o := .tup [.str (if (!signB rs[i]) = true then Str.ofString "word" else Str.ofString "sign"), .str (T rs[i]), .int (((offsL ps g0.length)[i] : Nat) : Int)]) np).trans hv)
    refine ⟨vs ++ [.ref p], _, _, _, _, _, rfl, upd_same, ?_, Same.mut _ (s4.trans (Same.new _ hp)) hdu⟩
    rw [List.take_add_one, htk, List.map_append]
    refine dpAll_app (DpAll.kt (k1.trans k2) (n := 2) (fun d hd => ?_) hD) (.cons (.tup (k2 _ _ (SqT.of upd_same)) (.cons (.str _) (.cons (.str _) (.cons (.int _) .nil)))) .nil)
    obtain ⟨t', _, rfl⟩ := List.mem_map.mp hd
    exact tkN t'
  rintro _ H4 ⟨vs, x2, x3, x4, x5, x6, rfl, hv, hD, s4⟩
  have hfull : (tokensOf ps g0.length).take (((rs.map fun r => V.str (T r)).length : Int)).toNat = tokensOf ps g0.length := List.take_of_length_le (by rw [toks_len, Int.toNat_natCast, hlen2]; omega)
  rw [hfull] at hD
  have hvl : vs.length = ps.length := by rw [dpAll_len hD, List.length_map, toks_len]
  have hz : (T (g0 ++ spellT ps)).length ≤ sizeLine := by rw [T_len]; exact small9 (by omega)
  have f4 := s4 _ _ ft
  refine ⟨_, rfl, .inl ⟨rfl, _, SqL.of hv⟩, _, rfl, t, _, 0, .str (T (g0 ++ spellT ps)), rfl, rfl, .of f4, atI_nat (j := 0) rfl, _, rfl, hz, by show 3 ≤ sizeLine; decide, fun p hp => ?_⟩
  have np : du ≠ p := ne_of_none hv hp
  refine ⟨du, _, _, rfl, rfl, (upd_ne np).trans hv, small1000 (by omega), ?_⟩
  rw [T_len]
  have nt : t ≠ du := ne_of f4 hv (by intro z; cases z)
  have npt : t ≠ p := ne_of_none f4 hp
  have f5 : (upd (upd H4 p (.tup [.str (Str.ofString "end"), .str (Str.ofString ""), .int ((g0 ++ spellT ps).length : Int)])) du (.lst (vs ++ [.ref p]))) t = some (.tup [.str (T (g0 ++ spellT ps)), .ref pl]) := (upd_ne nt).trans ((upd_ne npt).trans f4)
  have k1 : KT K H4 (upd H4 p (.tup [.str (Str.ofString "end"), .str (Str.ofString ""), .int ((g0 ++ spellT ps).length : Int)])) := KT.new _ hp
  have k2 := KT.lst (K := K) (.lst (vs ++ [.ref p])) ((upd_ne (o := .tup [.str (Str.ofString "end"), .str (Str.ofString ""), .int ((g0 ++ spellT ps).length : Int)]) np).trans hv)
  have hsc : scan (g0 ++ spellT ps).length (g0 ++ spellT ps) 0 = (tokensOf ps g0.length, none) := by
    have e1 : scanT (g0 ++ spellT ps) 0 = scanT (spellT ps) (0 + g0.length) := gp.pass _ _
    rw [Nat.zero_add, scan_spell good] at e1
    exact e1
  have hD2 : DpAll K (upd (upd H4 p (.tup [.str (Str.ofString "end"), .str (Str.ofString ""), .int ((g0 ++ spellT ps).length : Int)])) du (.lst (vs ++ [.ref p]))) (vs ++ [.ref p]) ((tokensOf ps g0.length).map tkD ++ [endD (g0 ++ spellT ps).length]) := by
    refine dpAll_app (DpAll.kt (k1.trans k2) (n := 2) (fun d hd => ?_) hD) (.cons (.tup (k2 _ _ (SqT.of upd_same)) (.cons (.str _) (.cons (.str _) (.cons (.int _) .nil)))) .nil)
    obtain ⟨t', _, rfl⟩ := List.mem_map.mp hd
    exact tkN t'
  have hN : TupN 3 (.tuple ((tokensOf ps g0.length).map tkD ++ [endD (g0 ++ spellT ps).length])) := ⟨by rw [List.length_append, List.length_map, toks_len]; show ps.length + 1 ≤ 100000; omega, fun d hd => by
    rcases List.mem_append.mp hd with hd | hd
    · obtain ⟨t', _, rfl⟩ := List.mem_map.mp hd
      exact tkN t'
    · rw [List.mem_singleton.mp hd]
      exact endN _⟩
  -- split_tokens(spelled[0]), tuple(due)
  refine ⟨_, rfl, t, _, 0, .str (T (g0 ++ spellT ps)), rfl, rfl, .of f5, atI_nat (j := 0) rfl, g0 ++ spellT ps, _, rfl, by omega, hsc, fun g H5 s5 d5 => ?_⟩
  refine ⟨_, rfl, du, _, rfl, .inl ⟨.of (s5 _ _ upd_same), fun u hu => ?_⟩⟩
  refine ⟨_, _, _, rfl, Dp.same (Same.new _ hu) d5, .tup (SqT.of upd_same) (DpAll.same (s5.trans (Same.new _ hu)) hD2), hN, fun H6 _ => q H6⟩
end
theorem all_mk {l : PySem.W.OpenLaw} {w : World} {K : PySem.W.Frag} {h : Heap} {mg : Str → Option Value} {fa : Addr} (X : K.In h) (G : h.Ns mainGlobals mg) (hfa : mg "law" = some (.ref fa))
    {f_place : Addr} {od_place an_place : Option Addr} {sl_place : Array (Option Value)} {oc_place kV_place dc_place pm_place cd_place ct_place : Value}
    {f_split_tokens : Addr} {od_split_tokens an_split_tokens : Option Addr} {sl_split_tokens : Array (Option Value)} {oc_split_tokens kV_split_tokens dc_split_tokens pm_split_tokens cd_split_tokens ct_split_tokens : Value}
    {f_comment_end : Addr} {od_comment_end an_comment_end : Option Addr} {sl_comment_end : Array (Option Value)} {oc_comment_end kV_comment_end dc_comment_end pm_comment_end cd_comment_end ct_comment_end : Value}
    {f_word_at : Addr} {od_word_at an_word_at : Option Addr} {sl_word_at : Array (Option Value)} {oc_word_at kV_word_at dc_word_at pm_word_at cd_word_at ct_word_at : Value}
    {f_word_end : Addr} {od_word_end an_word_end : Option Addr} {sl_word_end : Array (Option Value)} {oc_word_end kV_word_end dc_word_end pm_word_end cd_word_end ct_word_end : Value}
    {f_law_cell : Addr} {od_law_cell an_law_cell : Option Addr} {sl_law_cell : Array (Option Value)} {oc_law_cell kV_law_cell dc_law_cell pm_law_cell cd_law_cell ct_law_cell : Value}
    {f_law_draws : Addr} {od_law_draws an_law_draws : Option Addr} {sl_law_draws : Array (Option Value)} {oc_law_draws kV_law_draws dc_law_draws pm_law_draws cd_law_draws ct_law_draws : Value}
    {f_law_take : Addr} {od_law_take an_law_take : Option Addr} {sl_law_take : Array (Option Value)} {oc_law_take kV_law_take dc_law_take pm_law_take cd_law_take ct_law_take : Value}
    {f_law_same : Addr} {od_law_same an_law_same : Option Addr} {sl_law_same : Array (Option Value)} {oc_law_same kV_law_same dc_law_same pm_law_same cd_law_same ct_law_same : Value}
    {f_law_char : Addr} {od_law_char an_law_char : Option Addr} {sl_law_char : Array (Option Value)} {oc_law_char kV_law_char dc_law_char pm_law_char cd_law_char ct_law_char : Value}
    {f_law_reserved : Addr} {od_law_reserved an_law_reserved : Option Addr} {sl_law_reserved : Array (Option Value)} {oc_law_reserved kV_law_reserved dc_law_reserved pm_law_reserved cd_law_reserved ct_law_reserved : Value}
    {f_law_gap : Addr} {od_law_gap an_law_gap : Option Addr} {sl_law_gap : Array (Option Value)} {oc_law_gap kV_law_gap dc_law_gap pm_law_gap cd_law_gap ct_law_gap : Value}
    {f_law_spell : Addr} {od_law_spell an_law_spell : Option Addr} {sl_law_spell : Array (Option Value)} {oc_law_spell kV_law_spell dc_law_spell pm_law_spell cd_law_spell ct_law_spell : Value}
    {t_BLANKS : Tok}
    {t_SIGNS : Tok}
    {t_LETTERS : Tok}
    {t_DIGITS : Tok}
    {t_LONGEST_WORD : Tok}
    {od_law an_law : Option Addr} {sl_law : Array (Option Value)} {oc_law kV_law dc_law pm_law cd_law ct_law : Value} {f_law : Addr}
    (a_place : PySem.W.nsIn K mainGlobals "place" = some (some (.ref f_place))) (l_place : K.lookup f_place = some ⟨oc_place, od_place, .func (PySem.W.fnOf "place" "place" (defArgs s_place) (defBody s_place) (defScope s_place) .none kV_place dc_place pm_place an_place cd_place ct_place), sl_place⟩) (w_place : PySem.W.codeIn K cd_place "place" = true) (k_place : PySem.W.keepIn K (.ref f_place) = true)
    (a_split_tokens : PySem.W.nsIn K mainGlobals "split_tokens" = some (some (.ref f_split_tokens))) (l_split_tokens : K.lookup f_split_tokens = some ⟨oc_split_tokens, od_split_tokens, .func (PySem.W.fnOf "split_tokens" "split_tokens" (defArgs s_split_tokens) (defBody s_split_tokens) (defScope s_split_tokens) .none kV_split_tokens dc_split_tokens pm_split_tokens an_split_tokens cd_split_tokens ct_split_tokens), sl_split_tokens⟩) (w_split_tokens : PySem.W.codeIn K cd_split_tokens "split_tokens" = true) (k_split_tokens : PySem.W.keepIn K (.ref f_split_tokens) = true)
    (a_comment_end : PySem.W.nsIn K mainGlobals "_comment_end" = some (some (.ref f_comment_end))) (l_comment_end : K.lookup f_comment_end = some ⟨oc_comment_end, od_comment_end, .func (PySem.W.fnOf "_comment_end" "_comment_end" (defArgs s_comment_end) (defBody s_comment_end) (defScope s_comment_end) .none kV_comment_end dc_comment_end pm_comment_end an_comment_end cd_comment_end ct_comment_end), sl_comment_end⟩) (w_comment_end : PySem.W.codeIn K cd_comment_end "_comment_end" = true) (k_comment_end : PySem.W.keepIn K (.ref f_comment_end) = true)
    (a_word_at : PySem.W.nsIn K mainGlobals "_word_at" = some (some (.ref f_word_at))) (l_word_at : K.lookup f_word_at = some ⟨oc_word_at, od_word_at, .func (PySem.W.fnOf "_word_at" "_word_at" (defArgs s_word_at) (defBody s_word_at) (defScope s_word_at) .none kV_word_at dc_word_at pm_word_at an_word_at cd_word_at ct_word_at), sl_word_at⟩) (w_word_at : PySem.W.codeIn K cd_word_at "_word_at" = true) (k_word_at : PySem.W.keepIn K (.ref f_word_at) = true)
    (a_word_end : PySem.W.nsIn K mainGlobals "_word_end" = some (some (.ref f_word_end))) (l_word_end : K.lookup f_word_end = some ⟨oc_word_end, od_word_end, .func (PySem.W.fnOf "_word_end" "_word_end" (defArgs s_word_end) (defBody s_word_end) (defScope s_word_end) .none kV_word_end dc_word_end pm_word_end an_word_end cd_word_end ct_word_end), sl_word_end⟩) (w_word_end : PySem.W.codeIn K cd_word_end "_word_end" = true) (k_word_end : PySem.W.keepIn K (.ref f_word_end) = true)
    (a_law_cell : PySem.W.nsIn K mainGlobals "_law_cell" = some (some (.ref f_law_cell))) (l_law_cell : K.lookup f_law_cell = some ⟨oc_law_cell, od_law_cell, .func (PySem.W.fnOf "_law_cell" "_law_cell" (defArgs s_law_cell) (defBody s_law_cell) (defScope s_law_cell) .none kV_law_cell dc_law_cell pm_law_cell an_law_cell cd_law_cell ct_law_cell), sl_law_cell⟩) (w_law_cell : PySem.W.codeIn K cd_law_cell "_law_cell" = true) (k_law_cell : PySem.W.keepIn K (.ref f_law_cell) = true)
    (a_law_draws : PySem.W.nsIn K mainGlobals "_law_draws" = some (some (.ref f_law_draws))) (l_law_draws : K.lookup f_law_draws = some ⟨oc_law_draws, od_law_draws, .func (PySem.W.fnOf "_law_draws" "_law_draws" (defArgs s_law_draws) (defBody s_law_draws) (defScope s_law_draws) .none kV_law_draws dc_law_draws pm_law_draws an_law_draws cd_law_draws ct_law_draws), sl_law_draws⟩) (w_law_draws : PySem.W.codeIn K cd_law_draws "_law_draws" = true) (k_law_draws : PySem.W.keepIn K (.ref f_law_draws) = true)
    (a_law_take : PySem.W.nsIn K mainGlobals "_law_take" = some (some (.ref f_law_take))) (l_law_take : K.lookup f_law_take = some ⟨oc_law_take, od_law_take, .func (PySem.W.fnOf "_law_take" "_law_take" (defArgs s_law_take) (defBody s_law_take) (defScope s_law_take) .none kV_law_take dc_law_take pm_law_take an_law_take cd_law_take ct_law_take), sl_law_take⟩) (w_law_take : PySem.W.codeIn K cd_law_take "_law_take" = true) (k_law_take : PySem.W.keepIn K (.ref f_law_take) = true)
    (a_law_same : PySem.W.nsIn K mainGlobals "_law_same" = some (some (.ref f_law_same))) (l_law_same : K.lookup f_law_same = some ⟨oc_law_same, od_law_same, .func (PySem.W.fnOf "_law_same" "_law_same" (defArgs s_law_same) (defBody s_law_same) (defScope s_law_same) .none kV_law_same dc_law_same pm_law_same an_law_same cd_law_same ct_law_same), sl_law_same⟩) (w_law_same : PySem.W.codeIn K cd_law_same "_law_same" = true) (k_law_same : PySem.W.keepIn K (.ref f_law_same) = true)
    (a_law_char : PySem.W.nsIn K mainGlobals "_law_char" = some (some (.ref f_law_char))) (l_law_char : K.lookup f_law_char = some ⟨oc_law_char, od_law_char, .func (PySem.W.fnOf "_law_char" "_law_char" (defArgs s_law_char) (defBody s_law_char) (defScope s_law_char) .none kV_law_char dc_law_char pm_law_char an_law_char cd_law_char ct_law_char), sl_law_char⟩) (w_law_char : PySem.W.codeIn K cd_law_char "_law_char" = true) (k_law_char : PySem.W.keepIn K (.ref f_law_char) = true)
    (a_law_reserved : PySem.W.nsIn K mainGlobals "_law_reserved" = some (some (.ref f_law_reserved))) (l_law_reserved : K.lookup f_law_reserved = some ⟨oc_law_reserved, od_law_reserved, .func (PySem.W.fnOf "_law_reserved" "_law_reserved" (defArgs s_law_reserved) (defBody s_law_reserved) (defScope s_law_reserved) .none kV_law_reserved dc_law_reserved pm_law_reserved an_law_reserved cd_law_reserved ct_law_reserved), sl_law_reserved⟩) (w_law_reserved : PySem.W.codeIn K cd_law_reserved "_law_reserved" = true) (k_law_reserved : PySem.W.keepIn K (.ref f_law_reserved) = true)
    (a_law_gap : PySem.W.nsIn K mainGlobals "_law_gap" = some (some (.ref f_law_gap))) (l_law_gap : K.lookup f_law_gap = some ⟨oc_law_gap, od_law_gap, .func (PySem.W.fnOf "_law_gap" "_law_gap" (defArgs s_law_gap) (defBody s_law_gap) (defScope s_law_gap) .none kV_law_gap dc_law_gap pm_law_gap an_law_gap cd_law_gap ct_law_gap), sl_law_gap⟩) (w_law_gap : PySem.W.codeIn K cd_law_gap "_law_gap" = true) (k_law_gap : PySem.W.keepIn K (.ref f_law_gap) = true)
    (a_law_spell : PySem.W.nsIn K mainGlobals "_law_spell" = some (some (.ref f_law_spell))) (l_law_spell : K.lookup f_law_spell = some ⟨oc_law_spell, od_law_spell, .func (PySem.W.fnOf "_law_spell" "_law_spell" (defArgs s_law_spell) (defBody s_law_spell) (defScope s_law_spell) .none kV_law_spell dc_law_spell pm_law_spell an_law_spell cd_law_spell ct_law_spell), sl_law_spell⟩) (w_law_spell : PySem.W.codeIn K cd_law_spell "_law_spell" = true) (k_law_spell : PySem.W.keepIn K (.ref f_law_spell) = true)
    (a_law : PySem.W.nsIn K mainGlobals "law" = some (some (.ref f_law))) (l_law : K.lookup f_law = some ⟨oc_law, od_law, .func (PySem.W.fnOf "law" "law" (defArgs s_law) (defBody s_law) (defScope s_law) .none kV_law dc_law pm_law an_law cd_law ct_law), sl_law⟩) (w_law : PySem.W.codeIn K cd_law "law" = true) (k_law : PySem.W.keepIn K (.ref f_law) = true)
    (y_all : PySem.W.nsIn K mainGlobals "all" = some none)
    (y_bool : PySem.W.nsIn K mainGlobals "bool" = some none)
    (y_int : PySem.W.nsIn K mainGlobals "int" = some none)
    (y_isinstance : PySem.W.nsIn K mainGlobals "isinstance" = some none)
    (y_len : PySem.W.nsIn K mainGlobals "len" = some none)
    (y_range : PySem.W.nsIn K mainGlobals "range" = some none)
    (y_str : PySem.W.nsIn K mainGlobals "str" = some none)
    (y_tuple : PySem.W.nsIn K mainGlobals "tuple" = some none)
    (g_BLANKS : PySem.W.nsIn K mainGlobals "BLANKS" = some (some (.str K_BLANKS t_BLANKS)))
    (g_SIGNS : PySem.W.nsIn K mainGlobals "SIGNS" = some (some (.str K_SIGNS t_SIGNS)))
    (g_LETTERS : PySem.W.nsIn K mainGlobals "LETTERS" = some (some (.str K_LETTERS t_LETTERS)))
    (g_DIGITS : PySem.W.nsIn K mainGlobals "DIGITS" = some (some (.str K_DIGITS t_DIGITS)))
    (g_LONGEST_WORD : PySem.W.nsIn K mainGlobals "LONGEST_WORD" = some (some (.int K_LONGEST_WORD t_LONGEST_WORD))) :
    ∃ fd : FuncData, (∀ (s : Shared) (v : Value), BindsTo s fd ⟨[v], []⟩ [("script", v)]) ∧ ∀ base : Heap, K.In base → base.Ns mainGlobals mg → FnOk l.prog w K mg base CX0 5 fa fd ["script"] (spLaw K) := by
  have e := hfa.symm.trans (PySem.W.mg_of X G a_law)
  cases e
  have D_place : Df K mg "place" s_place f_place _ ["text", "at"] := ⟨fun_mk (st := s_place) l_place w_place k_place, PySem.W.mg_of X G a_place, k_place, (fun_mk (st := s_place) l_place w_place k_place).binds (ps := ["text", "at"]) fun _ _ _ _ _ _ us hl => match us, hl with | [_, _], _ => rfl⟩
  have D_split_tokens : Df K mg "split_tokens" s_split_tokens f_split_tokens _ ["text"] := ⟨fun_mk (st := s_split_tokens) l_split_tokens w_split_tokens k_split_tokens, PySem.W.mg_of X G a_split_tokens, k_split_tokens, (fun_mk (st := s_split_tokens) l_split_tokens w_split_tokens k_split_tokens).binds (ps := ["text"]) fun _ _ _ _ _ _ us hl => match us, hl with | [_], _ => rfl⟩
  have D_comment_end : Df K mg "_comment_end" s_comment_end f_comment_end _ ["text", "at"] := ⟨fun_mk (st := s_comment_end) l_comment_end w_comment_end k_comment_end, PySem.W.mg_of X G a_comment_end, k_comment_end, (fun_mk (st := s_comment_end) l_comment_end w_comment_end k_comment_end).binds (ps := ["text", "at"]) fun _ _ _ _ _ _ us hl => match us, hl with | [_, _], _ => rfl⟩
  have D_word_at : Df K mg "_word_at" s_word_at f_word_at _ ["text", "at"] := ⟨fun_mk (st := s_word_at) l_word_at w_word_at k_word_at, PySem.W.mg_of X G a_word_at, k_word_at, (fun_mk (st := s_word_at) l_word_at w_word_at k_word_at).binds (ps := ["text", "at"]) fun _ _ _ _ _ _ us hl => match us, hl with | [_, _], _ => rfl⟩
  have D_word_end : Df K mg "_word_end" s_word_end f_word_end _ ["text", "at"] := ⟨fun_mk (st := s_word_end) l_word_end w_word_end k_word_end, PySem.W.mg_of X G a_word_end, k_word_end, (fun_mk (st := s_word_end) l_word_end w_word_end k_word_end).binds (ps := ["text", "at"]) fun _ _ _ _ _ _ us hl => match us, hl with | [_, _], _ => rfl⟩
  have D_law_cell : Df K mg "_law_cell" s_law_cell f_law_cell _ ["script", "k"] := ⟨fun_mk (st := s_law_cell) l_law_cell w_law_cell k_law_cell, PySem.W.mg_of X G a_law_cell, k_law_cell, (fun_mk (st := s_law_cell) l_law_cell w_law_cell k_law_cell).binds (ps := ["script", "k"]) fun _ _ _ _ _ _ us hl => match us, hl with | [_, _], _ => rfl⟩
  have D_law_draws : Df K mg "_law_draws" s_law_draws f_law_draws _ ["script", "k", "count"] := ⟨fun_mk (st := s_law_draws) l_law_draws w_law_draws k_law_draws, PySem.W.mg_of X G a_law_draws, k_law_draws, (fun_mk (st := s_law_draws) l_law_draws w_law_draws k_law_draws).binds (ps := ["script", "k", "count"]) fun _ _ _ _ _ _ us hl => match us, hl with | [_, _, _], _ => rfl⟩
  have D_law_take : Df K mg "_law_take" s_law_take f_law_take _ ["draws", "many"] := ⟨fun_mk (st := s_law_take) l_law_take w_law_take k_law_take, PySem.W.mg_of X G a_law_take, k_law_take, (fun_mk (st := s_law_take) l_law_take w_law_take k_law_take).binds (ps := ["draws", "many"]) fun _ _ _ _ _ _ us hl => match us, hl with | [_, _], _ => rfl⟩
  have D_law_same : Df K mg "_law_same" s_law_same f_law_same _ ["actual", "due"] := ⟨fun_mk (st := s_law_same) l_law_same w_law_same k_law_same, PySem.W.mg_of X G a_law_same, k_law_same, (fun_mk (st := s_law_same) l_law_same w_law_same k_law_same).binds (ps := ["actual", "due"]) fun _ _ _ _ _ _ us hl => match us, hl with | [_, _], _ => rfl⟩
  have D_law_char : Df K mg "_law_char" s_law_char f_law_char _ ["draw"] := ⟨fun_mk (st := s_law_char) l_law_char w_law_char k_law_char, PySem.W.mg_of X G a_law_char, k_law_char, (fun_mk (st := s_law_char) l_law_char w_law_char k_law_char).binds (ps := ["draw"]) fun _ _ _ _ _ _ us hl => match us, hl with | [_], _ => rfl⟩
  have D_law_reserved : Df K mg "_law_reserved" s_law_reserved f_law_reserved _ [] := ⟨fun_mk (st := s_law_reserved) l_law_reserved w_law_reserved k_law_reserved, PySem.W.mg_of X G a_law_reserved, k_law_reserved, (fun_mk (st := s_law_reserved) l_law_reserved w_law_reserved k_law_reserved).binds (ps := []) fun _ _ _ _ _ _ us hl => match us, hl with | [], _ => rfl⟩
  have D_law_gap : Df K mg "_law_gap" s_law_gap f_law_gap _ ["draws", "needed"] := ⟨fun_mk (st := s_law_gap) l_law_gap w_law_gap k_law_gap, PySem.W.mg_of X G a_law_gap, k_law_gap, (fun_mk (st := s_law_gap) l_law_gap w_law_gap k_law_gap).binds (ps := ["draws", "needed"]) fun _ _ _ _ _ _ us hl => match us, hl with | [_, _], _ => rfl⟩
  have D_law_spell : Df K mg "_law_spell" s_law_spell f_law_spell _ ["rows", "draws"] := ⟨fun_mk (st := s_law_spell) l_law_spell w_law_spell k_law_spell, PySem.W.mg_of X G a_law_spell, k_law_spell, (fun_mk (st := s_law_spell) l_law_spell w_law_spell k_law_spell).binds (ps := ["rows", "draws"]) fun _ _ _ _ _ _ us hl => match us, hl with | [_, _], _ => rfl⟩
  have z_all : mg "all" = none := PySem.W.mg_none_of X G y_all
  have z_bool : mg "bool" = none := PySem.W.mg_none_of X G y_bool
  have z_int : mg "int" = none := PySem.W.mg_none_of X G y_int
  have z_isinstance : mg "isinstance" = none := PySem.W.mg_none_of X G y_isinstance
  have z_len : mg "len" = none := PySem.W.mg_none_of X G y_len
  have z_range : mg "range" = none := PySem.W.mg_none_of X G y_range
  have z_str : mg "str" = none := PySem.W.mg_none_of X G y_str
  have z_tuple : mg "tuple" = none := PySem.W.mg_none_of X G y_tuple
  have m_BLANKS : mg "BLANKS" = some _ := PySem.W.mg_of X G g_BLANKS
  have m_SIGNS : mg "SIGNS" = some _ := PySem.W.mg_of X G g_SIGNS
  have m_LETTERS : mg "LETTERS" = some _ := PySem.W.mg_of X G g_LETTERS
  have m_DIGITS : mg "DIGITS" = some _ := PySem.W.mg_of X G g_DIGITS
  have m_LONGEST_WORD : mg "LONGEST_WORD" = some _ := PySem.W.mg_of X G g_LONGEST_WORD
  have F_law := fun_mk (st := s_law) l_law w_law k_law
  refine ⟨PySem.W.fnOf "law" "law" (defArgs s_law) (defBody s_law) (defScope s_law) .none kV_law dc_law pm_law an_law cd_law ct_law, fun s v => .of_eq rfl, fun base _ _ => ?_⟩
  have c1 := c_law_cell (P := l.prog) (w := w) (base := base) D_law_cell z_len z_int
  have ct := c_law_take (P := l.prog) (w := w) (base := base) D_law_take z_int
  have ch := c_law_char (P := l.prog) (w := w) (base := base) D_law_char z_int z_len
  exact ok_law F_law (c_law_draws D_law_draws c1 z_int z_range) ct c1 (c_law_reserved D_law_reserved) (c_law_spell D_law_spell (c_law_gap D_law_gap ct ch z_int z_range) z_len z_range) (c_split_tokens D_split_tokens (c_comment_end D_comment_end z_len) (c_word_at D_word_at (c_word_end D_word_end m_LETTERS m_DIGITS z_len) m_LONGEST_WORD) m_BLANKS m_SIGNS z_len z_tuple) (c_law_same D_law_same z_isinstance z_tuple z_bool z_int z_str z_len z_all z_range 3) z_range z_int z_tuple z_len
end Pf
open PySem PySem.W PyProof.Rows
set_option maxHeartbeats 0 in
theorem PySem.Challenge.cw_ontoworks_k42_split_tokens_holds : PySem.Challenge.rw_ontoworks_k42_split_tokens.Holds := by
  w_on; o_law; k_head; (case hw => w_witness2)
  k_fill
  refine L2.walk_of (l := PySem.Challenge.rw_ontoworks_k42_split_tokens) (n := 63) (k := 5) (x := "script") (CX := fun _ => L2.CX0) (sp := fun w => Pf.spLaw _) rfl (by decide) rfl ⟨rfl, by decide, by decide⟩ (fun w h Y => PySem.W.kIn_of Y) ?F (fun _ _ a ns hl _ hS => ⟨a, ns, rfl, hS, hl, fun _ => rfl⟩) (fun _ _ _ _ _ h => h)
  case F =>
    intro w mg fa h KX G hmg
    refine' Pf.all_mk KX G hmg ?a_place ?l_place ?w_place ?k_place ?a_split_tokens ?l_split_tokens ?w_split_tokens ?k_split_tokens ?a_comment_end ?l_comment_end ?w_comment_end ?k_comment_end ?a_word_at ?l_word_at ?w_word_at ?k_word_at ?a_word_end ?l_word_end ?w_word_end ?k_word_end ?a_law_cell ?l_law_cell ?w_law_cell ?k_law_cell ?a_law_draws ?l_law_draws ?w_law_draws ?k_law_draws ?a_law_take ?l_law_take ?w_law_take ?k_law_take ?a_law_same ?l_law_same ?w_law_same ?k_law_same ?a_law_char ?l_law_char ?w_law_char ?k_law_char ?a_law_reserved ?l_law_reserved ?w_law_reserved ?k_law_reserved ?a_law_gap ?l_law_gap ?w_law_gap ?k_law_gap ?a_law_spell ?l_law_spell ?w_law_spell ?k_law_spell ?a_law ?l_law ?w_law ?k_law ?y_all ?y_bool ?y_int ?y_isinstance ?y_len ?y_range ?y_str ?y_tuple ?g_BLANKS ?g_SIGNS ?g_LETTERS ?g_DIGITS ?g_LONGEST_WORD
    (case a_place => k_is)
    (case l_place => k_is)
    (case w_place => k_is)
    (case k_place => k_is)
    (case a_split_tokens => k_is)
    (case l_split_tokens => k_is)
    (case w_split_tokens => k_is)
    (case k_split_tokens => k_is)
    (case a_comment_end => k_is)
    (case l_comment_end => k_is)
    (case w_comment_end => k_is)
    (case k_comment_end => k_is)
    (case a_word_at => k_is)
    (case l_word_at => k_is)
    (case w_word_at => k_is)
    (case k_word_at => k_is)
    (case a_word_end => k_is)
    (case l_word_end => k_is)
    (case w_word_end => k_is)
    (case k_word_end => k_is)
    (case a_law_cell => k_is)
    (case l_law_cell => k_is)
    (case w_law_cell => k_is)
    (case k_law_cell => k_is)
    (case a_law_draws => k_is)
    (case l_law_draws => k_is)
    (case w_law_draws => k_is)
    (case k_law_draws => k_is)
    (case a_law_take => k_is)
    (case l_law_take => k_is)
    (case w_law_take => k_is)
    (case k_law_take => k_is)
    (case a_law_same => k_is)
    (case l_law_same => k_is)
    (case w_law_same => k_is)
    (case k_law_same => k_is)
    (case a_law_char => k_is)
    (case l_law_char => k_is)
    (case w_law_char => k_is)
    (case k_law_char => k_is)
    (case a_law_reserved => k_is)
    (case l_law_reserved => k_is)
    (case w_law_reserved => k_is)
    (case k_law_reserved => k_is)
    (case a_law_gap => k_is)
    (case l_law_gap => k_is)
    (case w_law_gap => k_is)
    (case k_law_gap => k_is)
    (case a_law_spell => k_is)
    (case l_law_spell => k_is)
    (case w_law_spell => k_is)
    (case k_law_spell => k_is)
    (case a_law => k_is)
    (case l_law => k_is)
    (case w_law => k_is)
    (case k_law => k_is)
    (case y_all => k_is)
    (case y_bool => k_is)
    (case y_int => k_is)
    (case y_isinstance => k_is)
    (case y_len => k_is)
    (case y_range => k_is)
    (case y_str => k_is)
    (case y_tuple => k_is)
    (case g_BLANKS => k_is)
    (case g_SIGNS => k_is)
    (case g_LETTERS => k_is)
    (case g_DIGITS => k_is)
    (case g_LONGEST_WORD => k_is)