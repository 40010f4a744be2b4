import PyProof.Rows.All
import Wide.All
import OpenK.AllK
import Wide.FinOn
import HandS.ForMost
import HandS.StrMore
import HandS.IsInst
import HandS.FStr
import HandS.Wide
import HandS.Flow
import HandS.TupAny
import HandS.Evl
import HandS.More
import HandS.CallLocal
import HandS.Text
import PySem.Challenge.RW_ontoworks_k48_read_back
set_option Elab.async false
set_option linter.all false
set_option maxRecDepth 100000
set_option maxHeartbeats 4000000

namespace Pf
open PySem PySem.Spec PyProof.Rows L2
/-- a def of the top under its name, bound without defaults -/
structure Df (K : PySem.W.Frag) (mg : Str → Option Value) (x : Str) (st : Stmt) (f : Addr) (fd : FuncData) (ps : List Str) : Prop where
  fn : Fun K x x st f fd
  mgf : mg x = some (.ref f)
  kp : PySem.W.keepIn K (.ref f) = true
  bd : Binds K fd ps []
/-- a def that keeps a promise, by its name -/
structure Cl (P : Program) (w : World) (K : PySem.W.Frag) (mg : Str → Option Value) (base : Heap) (k : Nat) (x : Str) (sp : Sp) : Prop where
  ex : ∃ (f : Addr) (fd : FuncData) (ps : List Str), FnOk P w K mg base CX0 k f fd ps sp ∧ mg x = some (.ref f) ∧ PySem.W.keepIn K (.ref f) = true ∧ Binds K fd ps []
section
variable {P : Program} {w : World} {K : PySem.W.Frag} {mg : Str → Option Value} {base : Heap}
theorem Df.cl {x : Str} {st : Stmt} {f : Addr} {fd : FuncData} {ps N : List Str} {k : Nat} {sp : Sp} (D : Df K mg x st f fd ps) (S : FnScope N ps (defScope st)) (len : ∀ vs H Q E, sp vs H Q E → vs.length = ps.length)
    (hbody : ∀ (cdv : Value) (A : Around) (outer : List Env) (s : Shared) (H : Hp) (vs : List V) (Q : VK) (E : XK), Room k (A.deeper (envOfC x (defScope st) s.heap.objs.size f cdv)) → sp vs H Q E →
      ∃ t, PSs (cxOf CX0 P w K mg base N x (defScope st) f cdv A outer s H E).nox (defBody st) t ∧ t { nx := fun _ H' => Q .non H', rt := Q } (start N vs) H) : Cl P w K mg base (k + 1) x sp :=
  ⟨f, fd, ps, D.fn.ok S len hbody, D.mgf, D.kp, D.bd⟩
theorem Cl.imp {x : Str} {k : Nat} {sp sp' : Sp} (c : Cl P w K mg base k x sp) (h : ∀ vs H Q E, sp' vs H Q E → sp vs H Q E) : Cl P w K mg base k x sp' := by
  obtain ⟨f, fd, ps, F, r⟩ := c.ex
  exact ⟨f, fd, ps, F.imp h, r⟩
theorem Cl.mono {x : Str} {k j : Nat} {sp : Sp} (c : Cl P w K mg base k x sp) (h : k ≤ j) : Cl P w K mg base j x sp := by
  obtain ⟨f, fd, ps, F, r⟩ := c.ex
  exact ⟨f, fd, ps, F.mono h, r⟩
end
section
variable {X : Cx} {k j : Nat} {x : Str} {sp : Sp} {p pos : Pos} {e : Expr} {es : List Expr} {t : TA}
theorem pc (c : Cl X.prog X.w X.K X.mg X.base k x sp) (hr : Room j X.A) (hk : k ≤ j) (hg : Gl X x) (ha : PA X (e :: es) t)
    (hdb : (x == ("__debug__" : Str)) = false := by decide) (he : starEach (e :: es) X.env = (false, eval e X.env) :: starEach es X.env := by rfl) (hpl : (backTo pos (starEach es X.env)).any (·.1) = false := by rfl) :
    PE X (.Call (.Name x p) (e :: es) [] pos) (tCall sp [] E0 t) := by
  obtain ⟨f, fd, ps, F, hm, kp, b⟩ := c.ex
  exact pe_call F (hr.mono hk) hg hm kp b .nil pass0 ha hdb he hpl
theorem pc0 (c : Cl X.prog X.w X.K X.mg X.base k x sp) (hr : Room j X.A) (hk : k ≤ j) (hg : Gl X x)
    (hdb : (x == ("__debug__" : Str)) = false := by decide) :
    PE X (.Call (.Name x p) [] [] pos) (tCall sp [] E0 tNil) := by
  obtain ⟨f, fd, ps, F, hm, kp, b⟩ := c.ex
  exact pe_call0 F (hr.mono hk) hg hm kp b .nil pass0 hdb
end
/-! heaps -/
theorem Same.new {H : Hp} {p : Addr} (o : HO) (h : H p = none) : Same H (upd H p o) := fun b u e => by
  rw [upd_ne (ne_of_none e h)]
  exact e
theorem Same.seqT {K : PySem.W.Frag} {H H' : Hp} {a : Addr} {xs : List V} (e : Same H H') (h : SqT K H a xs) : SqT K H' a xs := by
  rcases h with (h | ⟨o, h⟩) | h
  · exact .inl (.inl (e _ _ h))
  · exact .inl (.inr ⟨o, e _ _ h⟩)
  · exact .inr h
theorem upd_self {H : Hp} {a : Addr} {o : HO} (h : H a = some o) : upd H a o = H := by
  funext b
  unfold upd
  split
  · rename_i e
    rw [e, h]
  · rfl
/-! one short for the sign of a code -/
abbrev sg (c : Nat) : Str := ⟨#[c]⟩
/-! a written tuple of texts -/
def StrIts : List Value → List Str → Bool
  | [], [] => true
  | .str x _ :: vs, y :: ys => decide (x = y) && StrIts vs ys
  | _, _ => false
theorem strIts_vals : ∀ {vs : List Value} {ys : List Str}, StrIts vs ys = true → Vals (ys.map V.str) vs
  | [], [], _ => .nil
  | .str x t :: vs, y :: ys, h => by
    unfold StrIts at h
    rw [Bool.and_eq_true] at h
    have e := of_decide_eq_true h.1
    subst e
    exact .cons ⟨t, rfl⟩ (strIts_vals h.2)
theorem sqt_of {K : PySem.W.Frag} {H : Hp} {a : Addr} {od : Option Addr} {its : Array Value} {n : Nat} {sl : Array (Option Value)} {ys : List Str} (l : K.lookup a = some ⟨.type "tuple", od, .seq its n, sl⟩) (h : StrIts its.toList ys = true) (hs : decide (its.size ≤ 1000) = true) : SqT K H a (ys.map V.str) :=
  .inr ⟨_, its, n, l, rfl, rfl, Nat.le_trans (of_decide_eq_true hs) (by decide), strIts_vals h⟩
/-! the drawing helpers: what a caller needs of them -/
/-- _law_cell: some int -/
def spCell (K : PySem.W.Frag) : Sp := fun vs H Q _ => ∃ (a : Addr) (ns : List Int) (k : Int), vs = [.ref a, .int k] ∧ SqL K H a (ns.map V.int) ∧ ns.length ≤ 63 ∧ 0 ≤ k ∧ ∀ c : Int, Q (.int c) H
/-- _law_draws: a new list of so many ints, none below 0 -/
def spDraws (K : PySem.W.Frag) : Sp := fun vs H Q _ => ∃ (a : Addr) (ns : List Int) (k n : Int), vs = [.ref a, .int k, .int n] ∧ SqL K H a (ns.map V.int) ∧ ns.length ≤ 63 ∧ 0 ≤ k ∧ 0 ≤ n ∧ n ≤ 1000 ∧
  ∀ (ds : List Int) (p : Addr) (H' : Hp), Same H H' → H p = none → H' p = some (.lst (ds.map V.int)) → (ds.length : Int) = n → Q (.ref p) H'
/-- _law_take: an int below m; the list without its first -/
def spTake : Sp := fun vs H Q _ => ∃ (l : Addr) (ds : List Int) (m : Int), vs = [.ref l, .int m] ∧ H l = some (.lst (ds.map V.int)) ∧ 0 < m ∧ ∀ r : Int, 0 ≤ r → r < m → Q (.int r) (upd H l (.lst (ds.tail.map V.int)))
theorem map_tail {ds : List Int} : (ds.map V.int).tail = ds.tail.map V.int := by cases ds <;> rfl
theorem eraseIdx0 {α : Type} (xs : List α) : xs.eraseIdx 0 = xs.tail := by cases xs <;> rfl
/-- text * count -/
def rMulS : R2 := fun x y H Q => ∃ (z : Str) (n : Int), x = .str z ∧ y = .int n ∧ 0 ≤ n ∧ n ≤ 1000 ∧ z.length ≤ 10000 ∧ Q (.str (Txt.mul z n)) H
theorem mul_ok {z : Str} {n : Int} (h0 : 0 ≤ n) (h1 : n ≤ 1000) (hz : z.length ≤ 10000) : MulOk z n := by
  refine ⟨?_, fun h2 _ => ?_, fun _ _ => ?_⟩
  · rw [decide_eq_false (by omega), decide_eq_false (by omega)]
    rfl
  · intro h3
    have h4 : (2 ^ 63 - 1) / n ≥ (2 ^ 63 - 1) / 1000 := by
      refine Int.le_ediv_of_mul_le (by omega) ?_
      have : (2 ^ 63 - 1 : Int) / 1000 * n ≤ (2 ^ 63 - 1) / 1000 * 1000 := Int.mul_le_mul_of_nonneg_left h1 (by decide)
      exact Int.le_trans this (by decide)
    have h5 : ((2 : Int) ^ 63 - 1) / 1000 ≥ 10001 := by decide
    omega
  · unfold Builtin.Str.tooLong
    refine decide_eq_false ?_
    have : z.length * n.toNat ≤ 10000 * 1000 := Nat.mul_le_mul hz (by omega)
    have : sizeLine ≥ 10000000 := by decide
    omega
theorem op_mul_str {X : Cx} : OpR X (binaryOp .Mult) rMulS := by
  intro pins s σ H x y v u Q I rx ry h
  obtain ⟨z, n, rfl, rfl, h0, h1, hz, q⟩ := h
  obtain ⟨t, rfl⟩ := rx
  obtain ⟨t', rfl⟩ := ry
  exact PySem.SB.mul (mul_ok h0 h1 hz) fun t' k => ⟨.str (Txt.mul z n), H, I.tok _, ⟨_, rfl⟩, q⟩
/-- data of tuples, so many deep -/
def TupN : Nat → PyData → Prop
  | 0, _ => False
  | n + 1, .tuple ds => ds.length ≤ 100000 ∧ ∀ d ∈ ds, TupN n d
  | _ + 1, .list _ => False
  | _ + 1, .dict _ => False
  | _ + 1, _ => True
/-- _law_same upon the same data twice -/
def spSame (K : PySem.W.Frag) (n : Nat) : Sp := fun vs H Q _ => ∃ (x y : V) (d : PyData), vs = [x, y] ∧ Dp K H x d ∧ Dp K H y d ∧ TupN n d ∧ ∀ H', Same H H' → Q (.bl true) H'
theorem dpAll_len {K : PySem.W.Frag} {H : Hp} : ∀ {vs : List V} {ds : List PyData}, DpAll K H vs ds → vs.length = ds.length
  | _, _, .nil => rfl
  | _, _, .cons _ t => congrArg Nat.succ (dpAll_len t)
theorem dpAll_at {K : PySem.W.Frag} {H : Hp} : ∀ {vs : List V} {ds : List PyData}, DpAll K H vs ds → ∀ (i : Nat) (v : V) (d : PyData), vs[i]? = some v → ds[i]? = some d → Dp K H v d
  | _, _, .nil, i, v, d, h, _ => by simp at h
  | _, _, .cons a _, 0, v, d, h, h' => by
    simp at h h'
    rw [← h, ← h']
    exact a
  | _, _, .cons _ t, i + 1, v, d, h, h' => dpAll_at t i v d (by simpa using h) (by simpa using h')
mutual
theorem Dp.same {K : PySem.W.Frag} {H H' : Hp} (e : Same H H') : ∀ {d : PyData} {v : V}, Dp K H v d → Dp K H' v d
  | _, _, .non => .non
  | _, _, .bl b => .bl b
  | _, _, .int i => .int i
  | _, _, .str x => .str x
  | _, _, .lst h a => .lst (e.seq h) (DpAll.same e a)
  | _, _, .tup h a => .tup (Same.seqT e h) (DpAll.same e a)
theorem DpAll.same {K : PySem.W.Frag} {H H' : Hp} (e : Same H H') : ∀ {ds : List PyData} {vs : List V}, DpAll K H vs ds → DpAll K H' vs ds
  | _, _, .nil => .nil
  | _, _, .cons a t => .cons (Dp.same e a) (DpAll.same e t)
end
theorem tyT {K : PySem.W.Frag} {H : Hp} {a : Addr} {xs : List V} (h : SqT K H a xs) : TyX K H (.ref a) (.type "tuple") := by
  rcases h with (h | ⟨o, h⟩) | ⟨o, _, _, h, hc, _⟩
  · exact .base (.tup h)
  · exact .fTuple h
  · exact .kTuple h hc
theorem atI_some {α : Type} {xs : List α} {i : Nat} (h : i < xs.length) : atI xs (i : Int) = some xs[i] := atI_nat (List.getElem?_eq_getElem h)
/-- a sign that a text may have -/
def ChrOk (c : Nat) : Prop := 32 ≤ c ∧ c ≤ 126 ∧ c ≠ 37
instance (c : Nat) : Decidable (ChrOk c) := inferInstanceAs (Decidable (_ ∧ _))
def spChar : Sp := fun vs H Q _ => ∃ d : Int, vs = [.int d] ∧ ∀ c : Nat, ChrOk c → Q (.str (sg c)) H
/-! rules whose reading names the written part, said with it given (a comprehension's block wants that) -/
theorem ixT {X : Cx} {K : PySem.W.Frag} (h : X.K = K := by rfl) : IxR X (rIxT K) := by
  subst h
  exact ix_tup
theorem ixL {X : Cx} {K : PySem.W.Frag} (h : X.K = K := by rfl) : IxR X (rIxL K) := by
  subst h
  exact ix_list
def rLenQ (K : PySem.W.Frag) : List V → Hp → VK → Prop := fun xs H Q => ∃ p ys, xs = [.ref p] ∧ (SqL K H p ys ∨ SqT K H p ys) ∧ Q (.int ys.length) H
theorem lenQ {X : Cx} {K : PySem.W.Frag} (h : X.K = K := by rfl) : CallR X (.builtin "len") (rLenQ K) := by
  subst h
  exact call_len_seq
section
variable {K : PySem.W.Frag} {σ : L2.St} {H : Hp} {i : Nat} {x : V} {t T : String} {tt u : TS} {D : Ends}
theorem ev_isi {b : Bool} {Q : VK} (h : σ[i]? = some (some x)) (ty : TyX K H x (.type t)) (k : kitB t T = some b) (q : Q (.bl b) H) : tCB (rIsi K) (tCons (tVar i) (tCons (tC (.ty T)) tNil)) σ H Q := ⟨x, h, x, .ty T, _, _, b, rfl, .ty _, ty, kit_ty k, q⟩
theorem if_isiF (h : σ[i]? = some (some x)) (ty : TyX K H x (.type t)) (k : kitB t T = some false) (q : u D σ H) : tIfS (tB (tCB (rIsi K) (tCons (tVar i) (tCons (tC (.ty T)) tNil)))) tt u D σ H := ev_isi h ty k ⟨_, rfl, iteF q⟩
theorem if_isiT (h : σ[i]? = some (some x)) (ty : TyX K H x (.type t)) (k : kitB t T = some true) (q : tt D σ H) : tIfS (tB (tCB (rIsi K) (tCons (tVar i) (tCons (tC (.ty T)) tNil)))) tt u D σ H := ev_isi h ty k ⟨_, rfl, iteT q⟩
end
/-- an object that H does not know may change -/
theorem Same.mut {H H1 : Hp} {p : Addr} (o : HO) (e : Same H H1) (n : H p = none) : Same H (upd H1 p o) := fun b u h => by
  rw [upd_ne (ne_of_none h n)]
  exact e b u h
end Pf
namespace Pf
open PySem PySem.Spec PyProof.Rows L2
/-! data of tuples stands while lists change -/
def KT (K : PySem.W.Frag) (H H' : Hp) : Prop := ∀ a xs, SqT K H a xs → SqT K H' a xs
theorem KT.of {K : PySem.W.Frag} {H H' : Hp} (e : Same H H') : KT K H H' := fun _ _ h => Same.seqT e h
theorem KT.trans {K : PySem.W.Frag} {H H1 H2 : Hp} (a : KT K H H1) (b : KT K H1 H2) : KT K H H2 := fun x xs h => b x xs (a x xs h)
theorem KT.lst {K : PySem.W.Frag} {H : Hp} {l : Addr} {xs : List V} (o : HO) (h : H l = some (.lst xs)) : KT K H (upd H l o) := fun a ys q => by
  rcases q with (q | ⟨ob, q⟩) | q
  · exact .inl (.inl ((upd_ne (ne_of q h (by intro z; cases z))).trans q))
  · exact .inl (.inr ⟨ob, (upd_ne (ne_of q h (by intro z; cases z))).trans q⟩)
  · exact .inr q
theorem KT.ins {K : PySem.W.Frag} {H : Hp} {l C dx : Addr} {fs : List (Str × V)} (o : HO) (h : H l = some (.ins C dx fs)) : KT K H (upd H l o) := fun a ys q => by
  rcases q with (q | ⟨ob, q⟩) | q
  · exact .inl (.inl ((upd_ne (ne_of q h (by intro z; cases z))).trans q))
  · exact .inl (.inr ⟨ob, (upd_ne (ne_of q h (by intro z; cases z))).trans q⟩)
  · exact .inr q
theorem KT.new {K : PySem.W.Frag} {H : Hp} {l : Addr} (o : HO) (h : H l = none) : KT K H (upd H l o) := KT.of (Same.new o h)
mutual
theorem Dp.kt {K : PySem.W.Frag} {H H' : Hp} (e : KT K H H') : ∀ {n : Nat} {d : PyData} {v : V}, TupN n d → Dp K H v d → Dp K H' v d
  | _, _, _, _, .non => .non
  | _, _, _, _, .bl b => .bl b
  | _, _, _, _, .int i => .int i
  | _, _, _, _, .str x => .str x
  | 0, _, _, z, .lst _ _ => z.elim
  | _ + 1, _, _, z, .lst _ _ => z.elim
  | 0, _, _, z, .tup _ _ => z.elim
  | _ + 1, _, _, z, .tup h a => .tup (e _ _ h) (DpAll.kt e z.2 a)
theorem DpAll.kt {K : PySem.W.Frag} {H H' : Hp} (e : KT K H H') : ∀ {n : Nat} {ds : List PyData} {vs : List V}, (∀ d ∈ ds, TupN n d) → DpAll K H vs ds → DpAll K H' vs ds
  | _, _, _, _, .nil => .nil
  | _, _, _, z, .cons a t => .cons (Dp.kt e (z _ (List.mem_cons_self ..)) a) (DpAll.kt e (fun d hd => z d (List.mem_cons_of_mem _ hd)) t)
end
theorem dpAll_app {K : PySem.W.Frag} {H : Hp} : ∀ {vs ws : List V} {ds es : List PyData}, DpAll K H vs ds → DpAll K H ws es → DpAll K H (vs ++ ws) (ds ++ es)
  | _, _, _, _, .nil, h => h
  | _, _, _, _, .cons a t, h => .cons a (dpAll_app t h)
/-! a slice of a list of ints -/
def cutI {α : Type} (ds : List α) (lo hi : Option Int) : List α := (ds.drop (HT.sIx ds.length 0 lo)).take (HT.sIx ds.length ds.length hi - HT.sIx ds.length 0 lo)
theorem cutV_map {α : Type} (f : α → V) (ds : List α) (lo hi : Option Int) : cutV (ds.map f) lo hi = (cutI ds lo hi).map f := by
  unfold cutV cutI
  rw [List.length_map, List.map_take, List.map_drop]
end Pf
namespace Pf
open PySem PySem.Spec PyProof.Rows L2
/-- all but d stands -/
def SameX (d : Addr) (H H' : Hp) : Prop := ∀ b o, b ≠ d → H b = some o → H' b = some o
theorem SameX.refl (d : Addr) (H : Hp) : SameX d H H := fun _ _ _ h => h
theorem SameX.trans {d : Addr} {H H1 H2 : Hp} (a : SameX d H H1) (b : SameX d H1 H2) : SameX d H H2 := fun x o n h => b x o n (a x o n h)
theorem SameX.new {d p : Addr} {H : Hp} (o : HO) (h : H p = none) : SameX d H (upd H p o) := fun b u _ e => Same.new o h b u e
theorem SameX.at {d : Addr} {H : Hp} (o : HO) : SameX d H (upd H d o) := fun b u n e => (upd_ne n).trans e
theorem SameX.mut {d p : Addr} {H H1 : Hp} (o : HO) (e : SameX d H H1) (h : H p = none) : SameX d H (upd H1 p o) := fun b u n q => by
  rw [upd_ne (ne_of_none q h)]
  exact e b u n q
theorem SameX.of {d : Addr} {H H' : Hp} (e : Same H H') : SameX d H H' := fun b o _ h => e b o h
theorem KT.x {K : PySem.W.Frag} {d : Addr} {H H' : Hp} {xs : List V} (h : H d = some (.lst xs)) (e : SameX d H H') : KT K H H' := fun a ys q => by
  rcases q with (q | ⟨ob, q⟩) | q
  · exact .inl (.inl (e _ _ (ne_of q h (by intro z; cases z)) q))
  · exact .inl (.inr ⟨ob, e _ _ (ne_of q h (by intro z; cases z)) q⟩)
  · exact .inr q
theorem SameX.free {d p : Addr} {H H' : Hp} (e : SameX d H H') (n : p ≠ d) (h : H' p = none) : H p = none := by
  cases q : H p with
  | none => rfl
  | some o =>
    rw [e p o n q] at h
    cases h
end Pf

namespace Pf
open PySem PySem.StrLaws PySem.Builtin PySem.Builtin.Str
/-! one sign counted and sought in a text -/
theorem occ1_turn {s : Str} {c limit i : Nat} {st : Array Nat × Nat} (h1 : st.1.size < limit) (h2 : st.2 ≤ i) :
    occBody s ⟨#[c]⟩ s.length limit i st = if s.cps.toList[i]? = some c then pure (ForInStep.yield (st.1.push i, i + 1)) else pure (ForInStep.yield st) := by
  have k := subAt_one s c i
  unfold occBody
  by_cases h : s.cps.toList[i]? = some c
  · rw [if_pos h, if_pos ⟨⟨⟨h1, h2⟩, (k.mpr h).1⟩, (k.mpr h).2⟩]
    rfl
  · rw [if_neg h, if_neg fun z => h (k.mp ⟨z.1.2, z.2⟩)]
theorem count1_go (s : Str) (c : Nat) : ∀ (m a : Nat) (st : Array Nat × Nat), a + m = s.length + 1 → st.2 ≤ a → st.1.size ≤ a →
    (forIn (List.range' a m) st (occBody s ⟨#[c]⟩ s.length (s.length + 1))).run.1.size = st.1.size + (s.cps.toList.drop a).count c
  | 0, a, st, e, h1, h2 => by
    have : s.cps.toList.drop a = [] := List.drop_eq_nil_of_le (by simp [Str.length] at e ⊢; omega)
    rw [this]
    rfl
  | m + 1, a, st, e, h1, h2 => by
    rw [List.range'_succ, List.forIn_cons, occ1_turn (by omega) h1]
    by_cases h : s.cps.toList[a]? = some c
    · rw [if_pos h]
      have hl : a < s.cps.toList.length := (List.getElem?_eq_some_iff.mp h).1
      have hd := List.drop_eq_getElem_cons hl
      have hc : s.cps.toList[a] = c := (List.getElem?_eq_some_iff.mp h).2
      have ih := count1_go s c m (a + 1) (st.1.push a, a + 1) (by omega) (Nat.le_refl _) (by simp; omega)
      rw [hd, hc, List.count_cons_self]
      refine Eq.trans ih ?_
      simp
      omega
    · rw [if_neg h]
      have ih := count1_go s c m (a + 1) st (by omega) (by omega) (by omega)
      refine Eq.trans ih ?_
      by_cases hl : a < s.cps.toList.length
      · have hd := List.drop_eq_getElem_cons hl
        rw [hd, List.count_cons_of_ne]
        intro e2
        exact h (by rw [List.getElem?_eq_getElem hl, e2])
      · rw [List.drop_eq_nil_of_le (by omega), List.drop_eq_nil_of_le (by omega)]
theorem count1 (s : Str) (c : Nat) : Txt.count s ⟨#[c]⟩ = ((s.cps.toList.count c : Nat) : Int) := by
  unfold Txt.count
  rw [occ_eq, Array.length_toList, count1_go s c (s.length + 1 - 0) 0 (#[], 0) (by omega) (Nat.le_refl _) (Nat.le_refl _)]
  simp
/-- the place of the last c, as rfind tells it -/
def lastAt (c : Nat) : List Nat → Int
  | [] => -1
  | x :: l => if lastAt c l = -1 then (if x = c then 0 else -1) else lastAt c l + 1
theorem lastAt_ge (c : Nat) : ∀ l, -1 ≤ lastAt c l
  | [] => Int.le_refl _
  | x :: l => by
    have := lastAt_ge c l
    unfold lastAt
    split
    · split <;> omega
    · omega
theorem lastAt_app (c x : Nat) : ∀ l, lastAt c (l ++ [x]) = if x = c then (l.length : Int) else lastAt c l
  | [] => by
    by_cases h : x = c <;> simp [lastAt, h]
  | y :: l => by
    have ih := lastAt_app c x l
    show (if lastAt c (l ++ [x]) = -1 then (if y = c then (0 : Int) else -1) else lastAt c (l ++ [x]) + 1) = _
    rw [ih]
    by_cases h : x = c
    · rw [if_pos h, if_pos h, if_neg (by omega)]
      simp
    · rw [if_neg h, if_neg h]
      rfl
def lastBody (s sub : Str) (hi : Nat) (i : Nat) (st : Option Nat) : Id (ForInStep (Option Nat)) :=
  if i + sub.length ≤ hi ∧ subAt s sub i = true then pure (ForInStep.yield (some i)) else pure (ForInStep.yield st)
theorem last_eq (s sub : Str) (lo hi : Nat) : lastOccurrence s sub lo hi = (forIn (List.range' lo (hi + 1 - lo)) none (lastBody s sub hi)).run := by
  unfold lastOccurrence lastBody
  simp
theorem last1_go (s : Str) (c : Nat) : ∀ (m a : Nat) (st : Option Nat), a + m = s.length + 1 →
    (forIn (List.range' a m) st (lastBody s ⟨#[c]⟩ s.length)).run = if lastAt c (s.cps.toList.drop a) = -1 then st else some (a + (lastAt c (s.cps.toList.drop a)).toNat)
  | 0, a, st, e => by
    have : s.cps.toList.drop a = [] := List.drop_eq_nil_of_le (by simp [Str.length] at e ⊢; omega)
    rw [this]
    rfl
  | m + 1, a, st, e => by
    have k := subAt_one s c a
    rw [List.range'_succ, List.forIn_cons]
    by_cases h : s.cps.toList[a]? = some c
    · have e1 : lastBody s ⟨#[c]⟩ s.length a st = pure (ForInStep.yield (some a)) := if_pos (k.mpr h)
      rw [e1]
      have hl : a < s.cps.toList.length := (List.getElem?_eq_some_iff.mp h).1
      have hd := List.drop_eq_getElem_cons hl
      have hc : s.cps.toList[a] = c := (List.getElem?_eq_some_iff.mp h).2
      refine Eq.trans (last1_go s c m (a + 1) (some a) (by omega)) ?_
      rw [hd, hc]
      have g := lastAt_ge c (s.cps.toList.drop (a + 1))
      show _ = if (if lastAt c (s.cps.toList.drop (a + 1)) = -1 then (if c = c then (0 : Int) else -1) else lastAt c (s.cps.toList.drop (a + 1)) + 1) = -1 then st else some (a + (if lastAt c (s.cps.toList.drop (a + 1)) = -1 then (if c = c then (0 : Int) else -1) else lastAt c (s.cps.toList.drop (a + 1)) + 1).toNat)
      by_cases h0 : lastAt c (s.cps.toList.drop (a + 1)) = -1
      · rw [if_pos h0, if_pos h0, if_pos rfl, if_neg (by decide)]
        rfl
      · rw [if_neg h0, if_neg h0, if_neg (by omega)]
        congr 1
        omega
    · have e1 : lastBody s ⟨#[c]⟩ s.length a st = pure (ForInStep.yield st) := if_neg fun z => h (k.mp z)
      rw [e1]
      refine Eq.trans (last1_go s c m (a + 1) st (by omega)) ?_
      by_cases hl : a < s.cps.toList.length
      · have hd := List.drop_eq_getElem_cons hl
        have hc : s.cps.toList[a] ≠ c := fun e2 => h (by rw [List.getElem?_eq_getElem hl, e2])
        rw [hd]
        have g := lastAt_ge c (s.cps.toList.drop (a + 1))
        show _ = if (if lastAt c (s.cps.toList.drop (a + 1)) = -1 then (if s.cps.toList[a] = c then (0 : Int) else -1) else lastAt c (s.cps.toList.drop (a + 1)) + 1) = -1 then st else some (a + (if lastAt c (s.cps.toList.drop (a + 1)) = -1 then (if s.cps.toList[a] = c then (0 : Int) else -1) else lastAt c (s.cps.toList.drop (a + 1)) + 1).toNat)
        by_cases h0 : lastAt c (s.cps.toList.drop (a + 1)) = -1
        · rw [if_pos h0, if_pos h0, if_neg hc, if_pos rfl]
        · rw [if_neg h0, if_neg h0, if_neg (by omega)]
          congr 1
          omega
      · rw [List.drop_eq_nil_of_le (by omega), List.drop_eq_nil_of_le (by omega)]
        rfl
theorem rfind1 (s : Str) (c : Nat) : Txt.rfind s ⟨#[c]⟩ = lastAt c s.cps.toList := by
  unfold Txt.rfind
  rw [last_eq, last1_go s c (s.length + 1 - 0) 0 none (by omega), List.drop_zero]
  have g := lastAt_ge c s.cps.toList
  by_cases h0 : lastAt c s.cps.toList = -1
  · rw [if_pos h0, h0]
  · rw [if_neg h0]
    show ((0 + (lastAt c s.cps.toList).toNat : Nat) : Int) = _
    omega
end Pf

namespace Pf
open PySem PySem.StrLaws PySem.Builtin PySem.Builtin.Str
/-! the first sign from a place on -/
theorem occ_full {s : Str} {c : Nat} : ∀ (l : List Nat) (st : Array Nat × Nat), st.1.size = 1 → (forIn l st (occBody s ⟨#[c]⟩ s.length 1)).run = st
  | [], st, _ => rfl
  | a :: l, st, h => by
    rw [List.forIn_cons]
    have e : occBody s ⟨#[c]⟩ s.length 1 a st = pure (ForInStep.yield st) := if_neg fun z => by have := z.1.1.1; omega
    rw [e]
    exact occ_full l st h
def behind (c : Nat) (l : List Nat) : Nat := (l.takeWhile (fun x => decide (x ≠ c))).length
theorem behind_le (c : Nat) (l : List Nat) : behind c l ≤ l.length := (List.takeWhile_prefix _).length_le
theorem behind_cons (c x : Nat) (l : List Nat) : behind c (x :: l) = if x = c then 0 else behind c l + 1 := by
  unfold behind
  rw [List.takeWhile_cons]
  by_cases h : x = c
  · rw [if_pos h, decide_eq_false (fun z => z h)]
    rfl
  · rw [if_neg h, decide_eq_true h]
    rfl
theorem find_go (s : Str) (c : Nat) : ∀ (m a f : Nat), a + m = s.length + 1 → f ≤ a →
    (forIn (List.range' a m) ((#[] : Array Nat), f) (occBody s ⟨#[c]⟩ s.length 1)).run.1.toList = if a + behind c (s.cps.toList.drop a) < s.length then [a + behind c (s.cps.toList.drop a)] else []
  | 0, a, f, e, h => by
    rw [if_neg (by omega)]
    rfl
  | m + 1, a, f, e, h => by
    rw [List.range'_succ, List.forIn_cons, occ1_turn (Nat.zero_lt_one) h]
    have hl0 : s.cps.toList.length = s.length := by simp [Str.length]
    by_cases hc : s.cps.toList[a]? = some c
    · rw [if_pos hc]
      have hl : a < s.cps.toList.length := (List.getElem?_eq_some_iff.mp hc).1
      have hd := List.drop_eq_getElem_cons hl
      have he : s.cps.toList[a] = c := (List.getElem?_eq_some_iff.mp hc).2
      rw [hd, behind_cons, if_pos he, if_pos (by omega)]
      have k := occ_full (s := s) (c := c) (List.range' (a + 1) m) (#[a], a + 1) rfl
      show (forIn (List.range' (a + 1) m) (#[a], a + 1) (occBody s ⟨#[c]⟩ s.length 1)).run.1.toList = [a]
      rw [k]
    · rw [if_neg hc]
      refine Eq.trans (find_go s c m (a + 1) f (by omega) (by omega)) ?_
      by_cases hl : a < s.cps.toList.length
      · have hd := List.drop_eq_getElem_cons hl
        have hn : s.cps.toList[a] ≠ c := fun e2 => hc (by rw [List.getElem?_eq_getElem hl, e2])
        rw [hd, behind_cons, if_neg hn]
        have e3 : a + (behind c (s.cps.toList.drop (a + 1)) + 1) = a + 1 + behind c (s.cps.toList.drop (a + 1)) := by omega
        rw [e3]
      · rw [if_neg (by omega), if_neg (by omega)]
theorem find1 (s : Str) (c a : Nat) (h : a ≤ s.length) : Txt.find3 s ⟨#[c]⟩ (a : Int) = if a + behind c (s.cps.toList.drop a) < s.length then ((a + behind c (s.cps.toList.drop a) : Nat) : Int) else -1 := by
  unfold Txt.find3
  have ef : fromIndex s.length (a : Int) = a := by
    unfold fromIndex
    rw [if_neg (by omega)]
    omega
  rw [occ_eq, ef, find_go s c (s.length + 1 - a) a a (by omega) (Nat.le_refl _)]
  by_cases h2 : a + behind c (s.cps.toList.drop a) < s.length
  · rw [if_pos h2, if_pos h2]
  · rw [if_neg h2, if_neg h2]
end Pf

namespace Pf
open PySem PySem.Spec PyProof.Rows L2
/-! texts by the lists of their codes -/
abbrev T (l : List Nat) : Str := ⟨l.toArray⟩
theorem T_of (x : Str) : x = T x.cps.toList := TL.ext_tl rfl
theorem T_len (l : List Nat) : (T l).length = l.length := by simp [Str.length]
theorem T_cat (a b : List Nat) : T a ++ T b = T (a ++ b) := TL.ext_tl (TL.tl_append (T a) (T b))
theorem T_inj {a b : List Nat} (h : T a = T b) : a = b := congrArg (fun x : Str => x.cps.toList) h
theorem T_eq {a b : List Nat} : decide (T a = T b) = decide (a = b) := by
  by_cases h : a = b
  · rw [h, decide_eq_true rfl, decide_eq_true rfl]
  · rw [decide_eq_false h, decide_eq_false fun e => h (T_inj e)]
theorem V_eq {a b : List Nat} : decide (V.str (T a) = V.str (T b)) = decide (a = b) := by
  by_cases h : a = b
  · rw [h, decide_eq_true rfl, decide_eq_true rfl]
  · rw [decide_eq_false h, decide_eq_false fun e => h (T_inj (V.str.inj e))]
theorem cut_to (l : List Nat) (n : Nat) : cutS (T l) none (some (n : Int)) = T (l.take n) := by
  unfold cutS
  rw [HT.sIx_none, HT.sIx_nat, T_len]
  refine TL.ext_tl ?_
  show (l.drop 0).take (min n l.length - 0) = l.take n
  rw [List.drop_zero, Nat.sub_zero, ← List.take_eq_take_min]
theorem cut_from (l : List Nat) (n : Nat) : cutS (T l) (some (n : Int)) none = T (l.drop n) := by
  unfold cutS
  rw [HT.sIx_none, HT.sIx_nat, T_len]
  refine TL.ext_tl ?_
  show (l.drop (min n l.length)).take (l.length - min n l.length) = l.drop n
  by_cases h : n ≤ l.length
  · rw [Nat.min_eq_left h, List.take_of_length_le (by rw [List.length_drop]; omega)]
  · rw [Nat.min_eq_right (by omega), List.drop_eq_nil_of_le (by omega), List.drop_eq_nil_of_le (by omega), List.take_nil]
theorem cut_mid (l : List Nat) {a b : Nat} (ha : a ≤ b) (hb : b ≤ l.length) : cutS (T l) (some (a : Int)) (some (b : Int)) = T ((l.drop a).take (b - a)) := by
  unfold cutS
  rw [HT.sIx_nat, HT.sIx_nat, T_len, Nat.min_eq_left (show a ≤ l.length by omega), Nat.min_eq_left hb]
/-- a text walked by its signs -/
theorem for_txt {l : List Nat} {g : TG} {tb : TS} {D : Ends} {σ : L2.St} {H : Hp} (Pv : Nat → L2.St → Hp → Prop) (h0 : Pv 0 σ H)
    (hs : ∀ i c σ H, l[i]? = some c → Pv i σ H → g (.str (sg c)) σ H fun σ2 H2 => tb { D with nx := Pv (i + 1), ct := Pv (i + 1), bk := D.nx } σ2 H2) (hd : ∀ σ H, Pv l.length σ H → D.nx σ H) :
    ∃ W : Nat → Nat → L2.St → Hp → Prop, (∃ m, W 0 m σ H) ∧ ∀ i m σ H, W i m σ H →
      ((Its (T l)).stop i H ∧ D.nx σ H) ∨ ((Its (T l)).go i H ∧ ∃ N : L2.St → Hp → Prop, (∀ σ' H', N σ' H' → ∃ m', m' < m ∧ W (i + 1) m' σ' H') ∧ ∀ x H', (Its (T l)).yld i H x H' → g x σ H' fun σ2 H2 => tb { D with nx := N, ct := N, bk := D.nx } σ2 H2) := by
  refine ⟨fun i m σ H => m = l.length - i ∧ i ≤ l.length ∧ Pv i σ H, ⟨l.length, by simp, Nat.zero_le _, h0⟩, ?_⟩
  rintro i m σ H ⟨rfl, hi, p⟩
  by_cases hlt : i < l.length
  · refine .inr ⟨(by show i < l.toArray.size; simpa using hlt), Pv (i + 1), fun σ' H' p' => ⟨l.length - (i + 1), by omega, rfl, hlt, p'⟩, fun x H' y => ?_⟩
    obtain ⟨rfl, c, hc, rfl⟩ := y
    exact hs i c σ H' (by simpa using hc) p
  · have e : i = l.length := by omega
    subst e
    exact .inl ⟨(by show l.toArray.size ≤ l.length; simp), hd _ _ p⟩
/-- a comprehension over a text -/
theorem lc_txt {l : List Nat} {g : TG} {tt : TT} {te : TE} {vs : List Nat} {σ : L2.St} {H1 : Hp} {D : Addr} {Qd : Hp → Prop} (Pv : Nat → Hp → Prop) (h0 : Pv 0 (upd H1 D (.lst [])))
    (hs : ∀ i c H, l[i]? = some c → Pv i H → g (.str (sg c)) (wipe σ vs) H fun σ2 H2 => wipe σ2 vs = wipe σ vs ∧ tt σ2 H2 fun b H3 =>
      if b = true then te σ2 H3 fun y H4 => ∃ acc, H4 D = some (.lst acc) ∧ acc.length < sizeLine ∧ Pv (i + 1) (upd H4 D (.lst (acc ++ [y]))) else Pv (i + 1) H3) (hd : ∀ H, Pv l.length H → Qd H) :
    ∃ W : Nat → Nat → Hp → Prop, (∃ m, W 0 m (upd H1 D (.lst []))) ∧ ∀ i m H, W i m H →
      ((Its (T l)).stop i H ∧ Qd H) ∨ ((Its (T l)).go i H ∧ ∃ Nx : Hp → Prop, (∀ H', Nx H' → ∃ m', m' < m ∧ W (i + 1) m' H') ∧ ∀ x H', (Its (T l)).yld i H x H' → g x (wipe σ vs) H' fun σ2 H2 => wipe σ2 vs = wipe σ vs ∧ tt σ2 H2 fun b H3 =>
        if b = true then te σ2 H3 fun y H4 => ∃ acc, H4 D = some (.lst acc) ∧ acc.length < sizeLine ∧ Nx (upd H4 D (.lst (acc ++ [y]))) else Nx H3) := by
  refine ⟨fun i m H => m = l.length - i ∧ i ≤ l.length ∧ Pv i H, ⟨l.length, by simp, Nat.zero_le _, h0⟩, ?_⟩
  rintro i m H ⟨rfl, hi, p⟩
  by_cases hlt : i < l.length
  · refine .inr ⟨(by show i < l.toArray.size; simpa using hlt), Pv (i + 1), fun H' p' => ⟨l.length - (i + 1), by omega, rfl, hlt, p'⟩, fun x H' y => ?_⟩
    obtain ⟨rfl, c, hc, rfl⟩ := y
    exact hs i c H' (by simpa using hc) p
  · have e : i = l.length := by omega
    subst e
    exact .inl ⟨(by show l.toArray.size ≤ l.length; simp), hd _ p⟩
theorem small9 {n : Nat} (h : n ≤ 1000000) : n ≤ sizeLine := Nat.le_trans h (by decide)
/-- a sign of a text all of whose signs are of a kind -/
theorem ix_of {z : Str} {i : Int} {H : Hp} {Q : VK} (p : Nat → Bool) (h0 : 0 ≤ i) (h1 : i < (z.length : Int)) (hz : z.length ≤ sizeLine) (hc : z.cps.toList.all p = true) (q : ∀ c, p c = true → Q (.str (sg c)) H) : rIxS (.str z) (.int i) H Q := by
  have hl : z.length = z.cps.toList.length := by simp [Str.length]
  have hi : i.toNat < z.cps.toList.length := by omega
  have ei : i = ((i.toNat : Nat) : Int) := by omega
  refine ⟨z, i, z.cps.toList[i.toNat], rfl, rfl, hz, ?_, q _ (List.all_eq_true.mp hc _ (List.getElem_mem hi))⟩
  have := atI_some hi
  rw [← ei] at this
  exact this
theorem nl_eq : Str.ofString "\n" = T [10] := by decide +kernel
theorem e_eq : Str.ofString "" = T [] := by decide +kernel
theorem at_any {α : Type} {xs : List α} (p : α → Prop) {i : Int} (h0 : 0 ≤ i) (h1 : i < (xs.length : Int)) (h : ∀ x ∈ xs, p x) : ∃ v, p v ∧ atI xs i = some v := by
  have hi : i.toNat < xs.length := by omega
  have ei : i = ((i.toNat : Nat) : Int) := by omega
  refine ⟨xs[i.toNat], h _ (List.getElem_mem hi), ?_⟩
  have := atI_some hi
  rw [← ei] at this
  exact this
theorem inV_strs (x : Str) (ys : List Str) : inV (.str x) (ys.map V.str) = decide (x ∈ ys) := by
  unfold inV
  rw [List.any_map]
  induction ys with
  | nil => rfl
  | cons y ys ih =>
    rw [List.any_cons, ih]
    show ((y == x) || decide (x ∈ ys)) = decide (x ∈ y :: ys)
    by_cases h : y = x
    · subst h
      rw [beq_self_eq_true, Bool.true_or, decide_eq_true (List.mem_cons_self ..)]
    · rw [beq_false_of_ne h, Bool.false_or]
      by_cases h2 : x ∈ ys
      · rw [decide_eq_true h2, decide_eq_true (List.mem_cons_of_mem _ h2)]
      · rw [decide_eq_false h2, decide_eq_false]
        intro h3
        rcases List.mem_cons.mp h3 with h3 | h3
        · exact h h3.symm
        · exact h2 h3
theorem flat_strs (ys : List Str) : (ys.map V.str).all flatV = true := by
  rw [List.all_map, List.all_eq_true]
  intro x _
  rfl
theorem join_T (a : List Nat) (ys : List (List Nat)) : Txt.join (T a) (ys.map T) = T (TL.joinL a ys) := by
  rw [TL.join_eq]
  refine TL.ext_tl ?_
  rw [TL.tl_join, List.map_map]
  have e : ys.map (TL.tl ∘ T) = ys := by
    induction ys with
    | nil => rfl
    | cons y ys ih =>
      rw [List.map_cons, ih]
      rfl
  rw [e]
/-! the kinds of signs -/
def isL (c : Nat) : Bool := decide (c ∈ (Str.ofString "abcdefghijklmnopqrstuvwxyzABCDEFGHIJKLMNOPQRSTUVWXYZ_").cps.toList)
def isW (c : Nat) : Bool := isL c || decide (c ∈ (Str.ofString "0123456789").cps.toList)
def isB (c : Nat) : Bool := decide (c ∈ (Str.ofString " \n").cps.toList)
def isS (c : Nat) : Bool := decide (c ∈ (Str.ofString "();,:").cps.toList)
end Pf

namespace Pf
open PySem PySem.Spec PyProof.Rows L2
/-! written trees as data -/
def lit (s : String) : List Nat := (Str.ofString s).cps.toList
theorem lit_T (s : String) : Str.ofString s = T (lit s) := T_of _
abbrev Rol := List Nat × Bool
def rolD (r : Rol) : PyData := .tuple [.str (T r.1), .bool r.2]
inductive Con where
  | any | nothing
  | name (s : List Nat)
  | not (c : Con)
  | both (c d : Con)
  | either (c d : Con)
  | some (r : Rol) (c : Con)
  | all (r : Rol) (c : Con)
namespace Con
def D : Con → PyData
  | .any => .tuple [.str (Str.ofString "anything")]
  | .nothing => .tuple [.str (Str.ofString "nothing")]
  | .name s => .tuple [.str (Str.ofString "name"), .str (T s)]
  | .not c => .tuple [.str (Str.ofString "not"), c.D]
  | .both c d => .tuple [.str (Str.ofString "and"), c.D, d.D]
  | .either c d => .tuple [.str (Str.ofString "or"), c.D, d.D]
  | .some r c => .tuple [.str (Str.ofString "some"), rolD r, c.D]
  | .all r c => .tuple [.str (Str.ofString "all"), rolD r, c.D]
/-- how many trees are within one another -/
def dp : Con → Nat
  | .not c => c.dp + 1
  | .both c d => max c.dp d.dp + 1
  | .either c d => max c.dp d.dp + 1
  | .some _ c => c.dp + 1
  | .all _ c => c.dp + 1
  | _ => 0
/-- a bound of its text -/
def sz : Con → Nat
  | .name s => s.length + 20
  | .not c => c.sz + 20
  | .both c d => c.sz + d.sz + 20
  | .either c d => c.sz + d.sz + 20
  | .some r c => r.1.length + c.sz + 40
  | .all r c => r.1.length + c.sz + 40
  | _ => 20
end Con
theorem rolN (r : Rol) : TupN 2 (rolD r) := ⟨(by show 2 ≤ 100000; decide), fun d hd => by
  rcases List.mem_cons.mp hd with rfl | hd
  · trivial
  rw [List.mem_singleton.mp hd]
  trivial⟩
theorem TupN.up : ∀ {n : Nat} {d : PyData}, TupN n d → TupN (n + 1) d
  | 0, _, h => h.elim
  | n + 1, .tuple ds, h => ⟨h.1, fun d hd => TupN.up (h.2 d hd)⟩
  | _ + 1, .list _, h => h.elim
  | _ + 1, .dict _, h => h.elim
  | _ + 1, .none, _ => trivial
  | _ + 1, .bool _, _ => trivial
  | _ + 1, .int _, _ => trivial
  | _ + 1, .str _, _ => trivial
theorem TupN.le {n m : Nat} {d : PyData} (h : TupN n d) (e : n ≤ m) : TupN m d := by
  obtain ⟨k, rfl⟩ : ∃ k, m = n + k := ⟨m - n, by omega⟩
  induction k with
  | zero => exact h
  | succ k ih => exact (ih (by omega)).up
theorem tupN_of {n : Nat} {ds : List PyData} (hl : ds.length ≤ 100000) (h : ∀ d ∈ ds, TupN n d) : TupN (n + 1) (.tuple ds) := ⟨hl, h⟩
theorem tup1 {n : Nat} {a : PyData} (ha : TupN n a) : TupN (n + 1) (.tuple [a]) := ⟨(by show 1 ≤ 100000; decide), fun d hd => by
  rw [List.mem_singleton.mp hd]
  exact ha⟩
theorem tup2 {n : Nat} {a b : PyData} (ha : TupN n a) (hb : TupN n b) : TupN (n + 1) (.tuple [a, b]) := ⟨(by show 2 ≤ 100000; decide), fun d hd => by
  rcases List.mem_cons.mp hd with rfl | hd
  · exact ha
  rw [List.mem_singleton.mp hd]
  exact hb⟩
theorem tup3 {n : Nat} {a b c : PyData} (ha : TupN n a) (hb : TupN n b) (hc : TupN n c) : TupN (n + 1) (.tuple [a, b, c]) := ⟨(by show 3 ≤ 100000; decide), fun d hd => by
  rcases List.mem_cons.mp hd with rfl | hd
  · exact ha
  rcases List.mem_cons.mp hd with rfl | hd
  · exact hb
  rw [List.mem_singleton.mp hd]
  exact hc⟩
theorem tup4 {n : Nat} {a b c e : PyData} (ha : TupN n a) (hb : TupN n b) (hc : TupN n c) (he : TupN n e) : TupN (n + 1) (.tuple [a, b, c, e]) := ⟨(by show 4 ≤ 100000; decide), fun d hd => by
  rcases List.mem_cons.mp hd with rfl | hd
  · exact ha
  rcases List.mem_cons.mp hd with rfl | hd
  · exact hb
  rcases List.mem_cons.mp hd with rfl | hd
  · exact hc
  rw [List.mem_singleton.mp hd]
  exact he⟩
theorem strN (n : Nat) (x : Str) : TupN (n + 1) (.str x) := trivial
theorem Con.tn : ∀ c : Con, TupN (c.dp + 3) c.D
  | .any => tup1 trivial
  | .nothing => tup1 trivial
  | .name _ => tup2 trivial trivial
  | .not c => tup2 trivial (Con.tn c)
  | .both c d => tup3 trivial ((Con.tn c).le (by show c.dp + 3 ≤ max c.dp d.dp + 3; omega)) ((Con.tn d).le (by show d.dp + 3 ≤ max c.dp d.dp + 3; omega))
  | .either c d => tup3 trivial ((Con.tn c).le (by show c.dp + 3 ≤ max c.dp d.dp + 3; omega)) ((Con.tn d).le (by show d.dp + 3 ≤ max c.dp d.dp + 3; omega))
  | .some r c => tup3 trivial ((rolN r).le (by omega)) (Con.tn c)
  | .all r c => tup3 trivial ((rolN r).le (by omega)) (Con.tn c)
/-! data taken apart -/
section
variable {K : PySem.W.Frag} {H : Hp} {v : V}
theorem dp_tup {ds : List PyData} (h : Dp K H v (.tuple ds)) : ∃ a xs, v = .ref a ∧ SqT K H a xs ∧ DpAll K H xs ds := by
  cases h with
  | tup h a => exact ⟨_, _, rfl, h, a⟩
theorem dp_str {x : Str} (h : Dp K H v (.str x)) : v = .str x := by
  cases h
  rfl
theorem dp_bool {b : Bool} (h : Dp K H v (.bool b)) : v = .bl b := by
  cases h
  rfl
theorem dp_int {i : Int} (h : Dp K H v (.int i)) : v = .int i := by
  cases h
  rfl
theorem da_cons {xs : List V} {d : PyData} {ds : List PyData} (h : DpAll K H xs (d :: ds)) : ∃ x r, xs = x :: r ∧ Dp K H x d ∧ DpAll K H r ds := by
  cases h with
  | cons a t => exact ⟨_, _, rfl, a, t⟩
theorem da_nil {xs : List V} (h : DpAll K H xs []) : xs = [] := by
  cases h
  rfl
theorem dp1 {x : Str} (h : Dp K H v (.tuple [.str x])) : ∃ a, v = .ref a ∧ SqT K H a [.str x] := by
  obtain ⟨a, xs, rfl, hs, hd⟩ := dp_tup h
  obtain ⟨y, r, rfl, h1, hd⟩ := da_cons hd
  cases da_nil hd
  cases dp_str h1
  exact ⟨a, rfl, hs⟩
theorem dp2 {x : Str} {d : PyData} (h : Dp K H v (.tuple [.str x, d])) : ∃ a y, v = .ref a ∧ SqT K H a [.str x, y] ∧ Dp K H y d := by
  obtain ⟨a, xs, rfl, hs, hd⟩ := dp_tup h
  obtain ⟨y, r, rfl, h1, hd⟩ := da_cons hd
  obtain ⟨z, r, rfl, h2, hd⟩ := da_cons hd
  cases da_nil hd
  cases dp_str h1
  exact ⟨a, z, rfl, hs, h2⟩
theorem dp3 {x : Str} {d e : PyData} (h : Dp K H v (.tuple [.str x, d, e])) : ∃ a y z, v = .ref a ∧ SqT K H a [.str x, y, z] ∧ Dp K H y d ∧ Dp K H z e := by
  obtain ⟨a, xs, rfl, hs, hd⟩ := dp_tup h
  obtain ⟨y, r, rfl, h1, hd⟩ := da_cons hd
  obtain ⟨z, r, rfl, h2, hd⟩ := da_cons hd
  obtain ⟨w, r, rfl, h3, hd⟩ := da_cons hd
  cases da_nil hd
  cases dp_str h1
  exact ⟨a, z, w, rfl, hs, h2, h3⟩
theorem dp4 {x : Str} {d e g : PyData} (h : Dp K H v (.tuple [.str x, d, e, g])) : ∃ a y z w, v = .ref a ∧ SqT K H a [.str x, y, z, w] ∧ Dp K H y d ∧ Dp K H z e ∧ Dp K H w g := by
  obtain ⟨a, xs, rfl, hs, hd⟩ := dp_tup h
  obtain ⟨y, r, rfl, h1, hd⟩ := da_cons hd
  obtain ⟨z, r, rfl, h2, hd⟩ := da_cons hd
  obtain ⟨w, r, rfl, h3, hd⟩ := da_cons hd
  obtain ⟨u, r, rfl, h4, hd⟩ := da_cons hd
  cases da_nil hd
  cases dp_str h1
  exact ⟨a, z, w, u, rfl, hs, h2, h3, h4⟩
theorem dpRol {r : Rol} (h : Dp K H v (rolD r)) : ∃ a, v = .ref a ∧ SqT K H a [.str (T r.1), .bl r.2] := by
  obtain ⟨a, y, rfl, hs, h2⟩ := dp2 h
  cases dp_bool h2
  exact ⟨a, rfl, hs⟩
end
/-! a test whose texts are written -/
section
variable {K : PySem.W.Frag} {σ : L2.St} {H : Hp} {i : Nat} {s t t' : Str} {tt u : TS} {D : Ends}
theorem if_eqF (h : σ[i]? = some (some (.str s))) (hd : decide (s = t) = false) (q : u D σ H) : tIfS (tTest (tOp rEq (tVar i) (tC (.str t)))) tt u D σ H := ⟨_, h, rfl, _, rfl, by
  rw [decide_eq_false (fun z => of_decide_eq_false hd (V.str.inj z))]
  exact iteF q⟩
theorem if_eqT (h : σ[i]? = some (some (.str s))) (hd : decide (s = t) = true) (q : tt D σ H) : tIfS (tTest (tOp rEq (tVar i) (tC (.str t)))) tt u D σ H := ⟨_, h, rfl, _, rfl, by
  rw [decide_eq_true (congrArg V.str (of_decide_eq_true hd))]
  exact iteT q⟩
theorem if_eq2F (h : σ[i]? = some (some (.str s))) (hd : (decide (s = t) || decide (s = t')) = false) (q : u D σ H) : tIfS (tOr (tTest (tOp rEq (tVar i) (tC (.str t)))) (tTest (tOp rEq (tVar i) (tC (.str t'))))) tt u D σ H := by
  rw [Bool.or_eq_false_iff] at hd
  refine ⟨_, h, rfl, _, rfl, ?_⟩
  rw [decide_eq_false (fun z => of_decide_eq_false hd.1 (V.str.inj z))]
  refine iteF ⟨_, h, rfl, _, rfl, ?_⟩
  rw [decide_eq_false (fun z => of_decide_eq_false hd.2 (V.str.inj z))]
  exact iteF q
theorem if_eq2T (h : σ[i]? = some (some (.str s))) (hd : (decide (s = t) || decide (s = t')) = true) (q : tt D σ H) : tIfS (tOr (tTest (tOp rEq (tVar i) (tC (.str t)))) (tTest (tOp rEq (tVar i) (tC (.str t'))))) tt u D σ H := by
  refine ⟨_, h, rfl, _, rfl, ?_⟩
  by_cases e : s = t
  · rw [decide_eq_true (congrArg V.str e)]
    exact iteT (iteT q)
  · rw [decide_eq_false (fun z => e (V.str.inj z))]
    rw [decide_eq_false e, Bool.false_or] at hd
    refine iteF ⟨_, h, rfl, _, rfl, ?_⟩
    rw [decide_eq_true (congrArg V.str (of_decide_eq_true hd))]
    exact iteT q
theorem if_in2 {b : Bool} (h : σ[i]? = some (some (.str s))) (hd : (decide (s = t) || decide (s = t')) = b) (q1 : b = true → ∀ p, H p = none → tt D σ (upd H p (.tup [.str t, .str t']))) (q2 : b = false → ∀ p, H p = none → u D σ (upd H p (.tup [.str t, .str t']))) :
    tIfS (tTest (tOp (rIn K false) (tVar i) (tTup (tCons (tC (.str t)) (tCons (tC (.str t')) tNil))))) tt u D σ H := by
  refine ⟨_, h, by show 2 ≤ sizeLine; decide, fun p hp => ⟨p, _, rfl, .inr (SqT.of upd_same), rfl, rfl, b, ?_, ?_⟩⟩
  · show V.bl (inV (.str s) [.str t, .str t']) = .bl b
    rw [show [V.str t, V.str t'] = [t, t'].map V.str from rfl, inV_strs, ← hd, ← Bool.decide_or]
    exact congrArg V.bl (decide_eq_decide.mpr (by simp))
  · cases b with
    | true => exact iteT (q1 rfl p hp)
    | false => exact iteF (q2 rfl p hp)
theorem if_in2T (h : σ[i]? = some (some (.str s))) (hd : (decide (s = t) || decide (s = t')) = true) (q : ∀ p, H p = none → tt D σ (upd H p (.tup [.str t, .str t']))) :
    tIfS (tTest (tOp (rIn K false) (tVar i) (tTup (tCons (tC (.str t)) (tCons (tC (.str t')) tNil))))) tt u D σ H := if_in2 h hd (fun _ => q) (fun z => Bool.noConfusion z)
theorem if_in2F (h : σ[i]? = some (some (.str s))) (hd : (decide (s = t) || decide (s = t')) = false) (q : ∀ p, H p = none → u D σ (upd H p (.tup [.str t, .str t']))) :
    tIfS (tTest (tOp (rIn K false) (tVar i) (tTup (tCons (tC (.str t)) (tCons (tC (.str t')) tNil))))) tt u D σ H := if_in2 h hd (fun z => Bool.noConfusion z) (fun _ => q)
end
/-! texts glued in an f-string -/
section
variable {σ : L2.St} {H : Hp} {ts : List TE} {te : TE} {Q : Str → Hp → Prop}
theorem js_c {a : List Nat} {s : String} (hl : decide ((lit s).length ≤ 20) = true) (hz : a.length ≤ 400000) (q : tJs ts (T (a ++ lit s)) σ H Q) : tJs (tC (.str (Str.ofString s)) :: ts) (T a) σ H Q := by
  refine ⟨Str.ofString s, rfl, ?_, ?_⟩
  · rw [Str.length_append, lit_T, T_len, T_len]
    have := of_decide_eq_true hl
    exact small9 (by omega)
  · rw [lit_T s, T_cat]
    exact q
/-- a field whose value is a text: te gives it, the heap may have grown -/
theorem js_e {a b : List Nat} (ht : ∀ R : VK, (∀ H', Same H H' → R (.str (T b)) H') → te σ H R) (hb : b.length ≤ 400000) (hz : a.length ≤ 400000) (q : ∀ H', Same H H' → tJs ts (T (a ++ b)) σ H' Q) : tJs (tFmt te :: ts) (T a) σ H Q := by
  refine ht _ fun H' e => .inl ⟨T b, rfl, by rw [T_len]; exact small9 (by omega), T b, rfl, by rw [Str.length_append, T_len, T_len]; exact small9 (by omega), ?_⟩
  rw [T_cat]
  exact q H' e
theorem js_0 (q : tJs ts (T []) σ H Q) : tJs ts Str.empty σ H Q := q
theorem js_end {a : List Nat} (q : Q (T a) H) : tJs [] (T a) σ H Q := q
end
end Pf
namespace Pf
open PySem PySem.Spec PyProof.Rows L2
/-! what gives a text, from a heap on -/
def GT (te : TE) (σ : L2.St) (H : Hp) (b : List Nat) : Prop := ∀ H1, Same H H1 → ∀ R : VK, (∀ H', Same H1 H' → R (.str (T b)) H') → te σ H1 R
def rAddS : R2 := fun x y H Q => ∃ i j, x = V.str i ∧ y = V.str j ∧ i.length + j.length ≤ sizeLine ∧ Q (.str (i ++ j)) H
section
variable {σ : L2.St} {H H' : Hp} {ta tb te : TE} {a b : List Nat} {i : Nat}
theorem GT.mono (g : GT te σ H b) (e : Same H H') : GT te σ H' b := fun H1 e1 R r => g H1 (e.trans e1) R r
theorem gt_c (s : String) : GT (tC (.str (Str.ofString s))) σ H (lit s) := fun H1 _ R r => by
  have := r H1 (Same.refl _)
  rw [← lit_T] at this
  exact this
theorem gt_var (h : σ[i]? = some (some (.str (T b)))) : GT (tVar i) σ H b := fun H1 _ R r => ⟨_, h, r H1 (Same.refl _)⟩
theorem gt_varL {s : String} (h : σ[i]? = some (some (.str (Str.ofString s)))) : GT (tVar i) σ H (lit s) := fun H1 _ R r => ⟨_, h, by
  have := r H1 (Same.refl _)
  rw [← lit_T] at this
  exact this⟩
theorem gt_add (ha : GT ta σ H a) (hb : GT tb σ H b) (la : a.length ≤ 400000) (lb : b.length ≤ 400000) : GT (tOp rAddS ta tb) σ H (a ++ b) := fun H1 e R r =>
  ha H1 e _ fun H2 e2 => hb H2 (e.trans e2) _ fun H3 e3 => ⟨_, _, rfl, rfl, by rw [T_len, T_len]; exact small9 (by omega), by
    rw [T_cat]
    exact r H3 (e2.trans e3)⟩
theorem gt_ret {D : Ends} (h : GT te σ H b) (q : ∀ H', Same H H' → D.rt (.str (T b)) H') : tRet te D σ H := h H (Same.refl _) _ q
theorem gt_set {D : Ends} (h : GT te σ H b) (q : ∀ H', Same H H' → D.nx (σ.set i (some (.str (T b)))) H') : tAsg te (gName i) D σ H := h H (Same.refl _) _ q
end
/-! statements and questions as they are written -/
inductive Stm where
  | below (c d : Con) | equals (c d : Con) | apart (c d : Con)
  | domain (r : Rol) (c : Con) | range (r : Rol) (c : Con)
  | under (r s : Rol) | inverse (a b : List Nat) | is (a : List Nat) (c : Con) | has (a b c : List Nat) | never
namespace Stm
def D : Stm → PyData
  | .below c d => .tuple [.str (Str.ofString "below"), c.D, d.D]
  | .equals c d => .tuple [.str (Str.ofString "equals"), c.D, d.D]
  | .apart c d => .tuple [.str (Str.ofString "apart"), c.D, d.D]
  | .domain r c => .tuple [.str (Str.ofString "domain"), rolD r, c.D]
  | .range r c => .tuple [.str (Str.ofString "range"), rolD r, c.D]
  | .under r s => .tuple [.str (Str.ofString "under"), rolD r, rolD s]
  | .inverse a b => .tuple [.str (Str.ofString "inverse"), .str (T a), .str (T b)]
  | .is a c => .tuple [.str (Str.ofString "is"), .str (T a), c.D]
  | .has a b c => .tuple [.str (Str.ofString "has"), .str (T a), .str (T b), .str (T c)]
  | .never => .tuple [.str (Str.ofString "never")]
def dp : Stm → Nat
  | .below c d | .equals c d | .apart c d => max c.dp d.dp
  | .domain _ c | .range _ c | .is _ c => c.dp
  | _ => 0
def sz : Stm → Nat
  | .below c d | .equals c d | .apart c d => c.sz + d.sz + 40
  | .domain r c | .range r c => r.1.length + c.sz + 40
  | .is a c => a.length + c.sz + 40
  | .under r s => r.1.length + s.1.length + 40
  | .inverse a b => a.length + b.length + 40
  | .has a b c => a.length + b.length + c.length + 40
  | .never => 40
theorem tn : ∀ s : Stm, TupN (s.dp + 4) s.D
  | .below c d | .equals c d | .apart c d => tup3 trivial ((Con.tn c).le (by show c.dp + 3 ≤ max c.dp d.dp + 3; omega)) ((Con.tn d).le (by show d.dp + 3 ≤ max c.dp d.dp + 3; omega))
  | .domain r c | .range r c => tup3 trivial ((rolN r).le (by omega)) (Con.tn c)
  | .under r s => tup3 trivial ((rolN r).le (by omega)) ((rolN s).le (by omega))
  | .inverse a b => tup3 trivial trivial trivial
  | .is a c => tup3 trivial trivial (Con.tn c)
  | .has a b c => tup4 trivial trivial trivial trivial
  | .never => tup1 trivial
end Stm
end Pf

namespace Pf
open PySem PySem.Spec PyProof.Rows L2
/-- a method that keeps a promise -/
structure Mt (P : Program) (w : World) (K : PySem.W.Frag) (mg : Str → Option Value) (base : Heap) (k : Nat) (C : Addr) (m : Str) (f : Addr) (fd : FuncData) (ps : List Str) (sp : Sp) : Prop where
  F : FnOk P w K mg base CX0 k f fd ps sp
  M : Meth K C m f
  b : Binds K fd ps []
/-- a class that is made by an __init__ that keeps a promise -/
structure MkC (P : Program) (w : World) (K : PySem.W.Frag) (mg : Str → Option Value) (base : Heap) (k : Nat) (C : Addr) (f : Addr) (fd : FuncData) (ps : List Str) (sp : Sp) : Prop where
  F : FnOk P w K mg base CX0 k f fd ps sp
  M : Mk K C f
  b : Binds K fd ps []
/-- a def that a name may hold -/
structure Fx (P : Program) (w : World) (K : PySem.W.Frag) (mg : Str → Option Value) (base : Heap) (k : Nat) (f : Addr) (fd : FuncData) (ps : List Str) (sp : Sp) : Prop where
  F : FnOk P w K mg base CX0 k f fd ps sp
  k : PySem.W.keepIn K (.ref f) = true
  b : Binds K fd ps []
theorem Df.fx {P : Program} {w : World} {K : PySem.W.Frag} {mg : Str → Option Value} {base : Heap} {x : Str} {st : Stmt} {f : Addr} {fd : FuncData} {ps N : List Str} {k : Nat} {sp : Sp} (D : Df K mg x st f fd ps) (S : FnScope N ps (defScope st)) (len : ∀ vs H Q E, sp vs H Q E → vs.length = ps.length)
    (hbody : ∀ (cdv : Value) (A : Around) (outer : List Env) (s : Shared) (H : Hp) (vs : List V) (Q : VK) (E : XK), Room k (A.deeper (envOfC x (defScope st) s.heap.objs.size f cdv)) → sp vs H Q E →
      ∃ t, PSs (cxOf CX0 P w K mg base N x (defScope st) f cdv A outer s H E).nox (defBody st) t ∧ t { nx := fun _ H' => Q .non H', rt := Q } (start N vs) H) : Fx P w K mg base (k + 1) f fd ps sp :=
  ⟨D.fn.ok S len hbody, D.kp, D.bd⟩
theorem Df.of {P : Program} {w : World} {K : PySem.W.Frag} {mg : Str → Option Value} {base : Heap} {x : Str} {st : Stmt} {f : Addr} {fd : FuncData} {ps : List Str} {k : Nat} {sp : Sp} (D : Df K mg x st f fd ps) (h : Fx P w K mg base k f fd ps sp) : Cl P w K mg base k x sp := ⟨f, fd, ps, h.F, D.mgf, h.k, h.b⟩
structure CurC (K : PySem.W.Frag) (mg : Str → Option Value) (C : Addr) : Prop where
  cl : Cls K C
  nT : NoAttr K C "text"
  nK : NoAttr K C "tokens"
  nA : NoAttr K C "at"
  mgC : mg "Cursor" = some (.ref C)
theorem SameX.free2 {d : Addr} {H H1 H' : Hp} (s : Same H H1) (n : H d = none) (e : SameX d H1 H') : Same H H' := fun b u q => e b u (ne_of_none q n) (s b u q)
theorem lk_skip {a b : Str} {v : V} {r : List (Str × V)} (h : decide (a = b) = false) : List.lookup a ((b, v) :: r) = List.lookup a r := by
  rw [List.lookup_cons, show (a == b) = false from beq_false_of_ne (of_decide_eq_false h)]
theorem lk_hit {a : Str} {v : V} {r : List (Str × V)} : List.lookup a ((a, v) :: r) = some v := List.lookup_cons_self
def cf (t : Str) (tk : Addr) (i : Int) : List (Str × V) := [("text", .str t), ("tokens", .ref tk), ("at", .int i)]
section
variable {t : Str} {tk : Addr} {i j : Int}
theorem cf_text : (cf t tk i).lookup ("text" : Str) = some (.str t) := lk_hit
theorem cf_tokens : (cf t tk i).lookup ("tokens" : Str) = some (.ref tk) := (lk_skip (by decide +kernel)).trans lk_hit
theorem cf_at : (cf t tk i).lookup ("at" : Str) = some (.int i) := ((lk_skip (by decide +kernel)).trans (lk_skip (by decide +kernel))).trans lk_hit
theorem cf_no {m : Str} (h1 : decide (m = "text") = false) (h2 : decide (m = "tokens") = false) (h3 : decide (m = "at") = false) : (cf t tk i).lookup m = none := ((lk_skip h1).trans (lk_skip h2)).trans (lk_skip h3)
theorem tx_tk : ¬ (("text" : Str) = "tokens") := by decide +kernel
theorem tx_at : ¬ (("text" : Str) = "at") := by decide +kernel
theorem tk_at : ¬ (("tokens" : Str) = "at") := by decide +kernel
theorem cf_put : putF "at" (.int j) (cf t tk i) = cf t tk j := by
  show (if ("text" : Str) = "at" then _ else (("text" : Str), V.str t) :: (if ("tokens" : Str) = "at" then _ else (("tokens" : Str), V.ref tk) :: (if ("at" : Str) = "at" then [(("at" : Str), V.int j)] else _))) = _
  rw [if_neg tx_at, if_neg tk_at, if_pos rfl]
  rfl
theorem cf_make : putF "at" (.int i) (putF "tokens" (.ref tk) (putF "text" (.str t) [])) = cf t tk i := by
  show (putF "at" (.int i) (if ("text" : Str) = "tokens" then _ else (("text" : Str), V.str t) :: [(("tokens" : Str), V.ref tk)])) = _
  rw [if_neg tx_tk]
  show (if ("text" : Str) = "at" then _ else (("text" : Str), V.str t) :: (if ("tokens" : Str) = "at" then _ else (("tokens" : Str), V.ref tk) :: [(("at" : Str), V.int i)])) = _
  rw [if_neg tx_at, if_neg tk_at]
  rfl
end
/-- a cursor at p: the tokens ds, the place i -/
structure Cu (K : PySem.W.Frag) (C : Addr) (H : Hp) (p : Addr) (t : Str) (ds : List PyData) (i : Nat) : Prop where
  ex : ∃ (dx tk : Addr) (vs : List V), H p = some (.ins C dx (cf t tk (i : Int))) ∧ SqT K H tk vs ∧ DpAll K H vs ds
  tn : ∀ d ∈ ds, TupN 2 d
section
variable {K : PySem.W.Frag} {C : Addr} {H H' : Hp} {p : Addr} {t : Str} {ds : List PyData} {i : Nat}
theorem Cu.same (h : Cu K C H p t ds i) (e : Same H H') : Cu K C H' p t ds i := by
  obtain ⟨dx, tk, vs, h1, h2, h3⟩ := h.ex
  exact ⟨⟨dx, tk, vs, e _ _ h1, Same.seqT e h2, DpAll.same e h3⟩, h.tn⟩
theorem KT.xi {C dx : Addr} {fs : List (Str × V)} (h : H p = some (.ins C dx fs)) (e : SameX p H H') : KT K H H' := fun a ys q => by
  rcases q with (q | ⟨ob, q⟩) | q
  · exact .inl (.inl (e _ _ (ne_of q h (by intro z; cases z)) q))
  · exact .inl (.inr ⟨ob, e _ _ (ne_of q h (by intro z; cases z)) q⟩)
  · exact .inr q
theorem Cu.kt (h : Cu K C H p t ds i) (e : SameX p H H') : KT K H H' := by
  obtain ⟨dx, tk, vs, h1, _⟩ := h.ex
  exact KT.xi h1 e
/-- a tree that stands while the cursor moves -/
theorem Cu.mv {D : PyData} {n : Nat} {v : V} (h : Cu K C H p t ds i) (e : SameX p H H') (tn : TupN n D) (q : Dp K H v D) : Dp K H' v D := Dp.kt (h.kt e) tn q
end
/-- the word of the token at i -/
def wdAt (ds : List PyData) (i : Nat) (k w : Str) : Prop := ∃ o : Int, ds[i]? = some (.tuple [.str k, .str w, .int o])
end Pf





namespace Pf
open PySem PySem.Spec PyProof.Rows L2
def topS (i : Nat) : Stmt := PySem.Challenge.pw_ontoworks_k48_read_back.main.body.getD i (.Pass ⟨0, 0, 0, 0⟩)
abbrev K_DECLARING : List (Str × Str) := [(Str.ofString "concepts", Str.ofString "concept"), (Str.ofString "roles", Str.ofString "role"), (Str.ofString "individuals", Str.ofString "individual")]
abbrev K_OR_RANK : Int := 0
abbrev K_AND_RANK : Int := 1
abbrev K_FRONT_RANK : Int := 2
abbrev K_BLANKS : Str := Str.ofString " \n"
abbrev K_SIGNS : Str := Str.ofString "();,:"
abbrev K_LETTERS : Str := Str.ofString "abcdefghijklmnopqrstuvwxyzABCDEFGHIJKLMNOPQRSTUVWXYZ_"
abbrev K_DIGITS : Str := Str.ofString "0123456789"
abbrev K_LONGEST_WORD : Int := 20
abbrev K_RESERVED : List Str := [Str.ofString "concept", Str.ofString "role", Str.ofString "individual", Str.ofString "axiom", Str.ofString "below", Str.ofString "equals", Str.ofString "apart", Str.ofString "domain", Str.ofString "range", Str.ofString "under", Str.ofString "inverse", Str.ofString "is", Str.ofString "and", Str.ofString "or", Str.ofString "not", Str.ofString "some", Str.ofString "all", Str.ofString "anything", Str.ofString "nothing", Str.ofString "never"]
abbrev K_DEEPEST_LEVEL : Int := 8
abbrev K_GREATEST_HEIGHT : Int := 12
abbrev K_DECLARATIONS : List (Str × Str) := [(Str.ofString "concept", Str.ofString "concepts"), (Str.ofString "role", Str.ofString "roles"), (Str.ofString "individual", Str.ofString "individuals")]
abbrev s_print_concept : Stmt := topS 5
theorem sc_print_concept : FnScope ["concept", "kind", "rank"] ["concept"] (defScope s_print_concept) := ⟨rfl, rfl, rfl, by decide +kernel, rfl, by decide +kernel, by decide +kernel⟩
abbrev s_print_statement : Stmt := topS 6
theorem sc_print_statement : FnScope ["statement", "kind"] ["statement"] (defScope s_print_statement) := ⟨rfl, rfl, rfl, by decide +kernel, rfl, by decide +kernel, by decide +kernel⟩
abbrev s_print_question : Stmt := topS 7
theorem sc_print_question : FnScope ["question"] ["question"] (defScope s_print_question) := ⟨rfl, rfl, rfl, by decide +kernel, rfl, by decide +kernel, by decide +kernel⟩
abbrev s_print_source : Stmt := topS 8
theorem sc_print_source : FnScope ["items", "item"] ["items"] (defScope s_print_source) := ⟨rfl, rfl, rfl, by decide +kernel, rfl, by decide +kernel, by decide +kernel⟩
abbrev s_item : Stmt := topS 9
theorem sc_item : FnScope ["item", "names"] ["item"] (defScope s_item) := ⟨rfl, rfl, rfl, by decide +kernel, rfl, by decide +kernel, by decide +kernel⟩
abbrev s_role : Stmt := topS 10
theorem sc_role : FnScope ["role", "name", "back"] ["role"] (defScope s_role) := ⟨rfl, rfl, rfl, by decide +kernel, rfl, by decide +kernel, by decide +kernel⟩
abbrev s_rank : Stmt := topS 11
theorem sc_rank : FnScope ["concept"] ["concept"] (defScope s_rank) := ⟨rfl, rfl, rfl, by decide +kernel, rfl, by decide +kernel, by decide +kernel⟩
abbrev s_operand : Stmt := topS 12
theorem sc_operand : FnScope ["concept", "rank", "text"] ["concept", "rank"] (defScope s_operand) := ⟨rfl, rfl, rfl, by decide +kernel, rfl, by decide +kernel, by decide +kernel⟩
abbrev s_place : Stmt := topS 23
theorem sc_place : FnScope ["text", "at", "before"] ["text", "at"] (defScope s_place) := ⟨rfl, rfl, rfl, by decide +kernel, rfl, by decide +kernel, by decide +kernel⟩
abbrev s_is_name : Stmt := topS 24
theorem sc_is_name : FnScope ["word", "end"] ["word"] (defScope s_is_name) := ⟨rfl, rfl, rfl, by decide +kernel, rfl, by decide +kernel, by decide +kernel⟩
abbrev s_split_tokens : Stmt := topS 25
theorem sc_split_tokens : FnScope ["text", "tokens", "at", "word"] ["text"] (defScope s_split_tokens) := ⟨rfl, rfl, rfl, by decide +kernel, rfl, by decide +kernel, by decide +kernel⟩
abbrev s_comment_end : Stmt := topS 26
theorem sc_comment_end : FnScope ["text", "at", "end"] ["text", "at"] (defScope s_comment_end) := ⟨rfl, rfl, rfl, by decide +kernel, rfl, by decide +kernel, by decide +kernel⟩
abbrev s_word_at : Stmt := topS 27
theorem sc_word_at : FnScope ["text", "at", "end", "line", "column"] ["text", "at"] (defScope s_word_at) := ⟨rfl, rfl, rfl, by decide +kernel, rfl, by decide +kernel, by decide +kernel⟩
abbrev s_word_end : Stmt := topS 28
theorem sc_word_end : FnScope ["text", "at", "end"] ["text", "at"] (defScope s_word_end) := ⟨rfl, rfl, rfl, by decide +kernel, rfl, by decide +kernel, by decide +kernel⟩
abbrev s_itemP : Stmt := topS 35
theorem sc_itemP : FnScope ["cursor", "word", "names"] ["cursor"] (defScope s_itemP) := ⟨rfl, rfl, rfl, by decide +kernel, rfl, by decide +kernel, by decide +kernel⟩
abbrev s_statement : Stmt := topS 36
theorem sc_statement : FnScope ["cursor", "word", "side", "first", "name"] ["cursor"] (defScope s_statement) := ⟨rfl, rfl, rfl, by decide +kernel, rfl, by decide +kernel, by decide +kernel⟩
abbrev s_question : Stmt := topS 37
theorem sc_question : FnScope ["cursor", "first"] ["cursor"] (defScope s_question) := ⟨rfl, rfl, rfl, by decide +kernel, rfl, by decide +kernel, by decide +kernel⟩
abbrev s_roleP : Stmt := topS 38
theorem sc_roleP : FnScope ["cursor", "back"] ["cursor"] (defScope s_roleP) := ⟨rfl, rfl, rfl, by decide +kernel, rfl, by decide +kernel, by decide +kernel⟩
abbrev s_concept : Stmt := topS 39
theorem sc_concept : FnScope ["cursor", "tree", "height"] ["cursor"] (defScope s_concept) := ⟨rfl, rfl, rfl, by decide +kernel, rfl, by decide +kernel, by decide +kernel⟩
abbrev s_axiom : Stmt := topS 40
theorem sc_axiom : FnScope ["cursor", "name", "tree"] ["cursor"] (defScope s_axiom) := ⟨rfl, rfl, rfl, by decide +kernel, rfl, by decide +kernel, by decide +kernel⟩
abbrev s_is_name_before : Stmt := topS 41
theorem sc_is_name_before : FnScope ["cursor", "word"] ["cursor", "word"] (defScope s_is_name_before) := ⟨rfl, rfl, rfl, by decide +kernel, rfl, by decide +kernel, by decide +kernel⟩
abbrev s_begins_fact : Stmt := topS 42
theorem sc_begins_fact : FnScope ["cursor", "behind"] ["cursor"] (defScope s_begins_fact) := ⟨rfl, rfl, rfl, by decide +kernel, rfl, by decide +kernel, by decide +kernel⟩
abbrev s_fact : Stmt := topS 43
theorem sc_fact : FnScope ["cursor", "name", "link"] ["cursor"] (defScope s_fact) := ⟨rfl, rfl, rfl, by decide +kernel, rfl, by decide +kernel, by decide +kernel⟩
abbrev s_comparison : Stmt := topS 44
theorem sc_comparison : FnScope ["cursor", "first", "word", "second"] ["cursor"] (defScope s_comparison) := ⟨rfl, rfl, rfl, by decide +kernel, rfl, by decide +kernel, by decide +kernel⟩
abbrev s_alternatives : Stmt := topS 45
theorem sc_alternatives : FnScope ["cursor", "level"] ["cursor", "level"] (defScope s_alternatives) := ⟨rfl, rfl, rfl, by decide +kernel, rfl, by decide +kernel, by decide +kernel⟩
abbrev s_both : Stmt := topS 46
theorem sc_both : FnScope ["cursor", "level"] ["cursor", "level"] (defScope s_both) := ⟨rfl, rfl, rfl, by decide +kernel, rfl, by decide +kernel, by decide +kernel⟩
abbrev s_chain : Stmt := topS 47
theorem sc_chain : FnScope ["cursor", "level", "word", "operand", "tree", "height", "second", "other"] ["cursor", "level", "word", "operand"] (defScope s_chain) := ⟨rfl, rfl, rfl, by decide +kernel, rfl, by decide +kernel, by decide +kernel⟩
abbrev s_front : Stmt := topS 48
theorem sc_front : FnScope ["cursor", "level", "word", "tree", "height", "way"] ["cursor", "level"] (defScope s_front) := ⟨rfl, rfl, rfl, by decide +kernel, rfl, by decide +kernel, by decide +kernel⟩
abbrev s_atom : Stmt := topS 49
theorem sc_atom : FnScope ["cursor", "level", "word", "tree", "height"] ["cursor", "level"] (defScope s_atom) := ⟨rfl, rfl, rfl, by decide +kernel, rfl, by decide +kernel, by decide +kernel⟩
abbrev s_step_deeper : Stmt := topS 50
theorem sc_step_deeper : FnScope ["cursor", "level"] ["cursor", "level"] (defScope s_step_deeper) := ⟨rfl, rfl, rfl, by decide +kernel, rfl, by decide +kernel, by decide +kernel⟩
abbrev s_read_source : Stmt := topS 52
theorem sc_read_source : FnScope ["text", "cursor", "items"] ["text"] (defScope s_read_source) := ⟨rfl, rfl, rfl, by decide +kernel, rfl, by decide +kernel, by decide +kernel⟩
abbrev s_read_statement : Stmt := topS 53
theorem sc_read_statement : FnScope ["text"] ["text"] (defScope s_read_statement) := ⟨rfl, rfl, rfl, by decide +kernel, rfl, by decide +kernel, by decide +kernel⟩
abbrev s_read_question : Stmt := topS 54
theorem sc_read_question : FnScope ["text"] ["text"] (defScope s_read_question) := ⟨rfl, rfl, rfl, by decide +kernel, rfl, by decide +kernel, by decide +kernel⟩
abbrev s_read_concept : Stmt := topS 55
theorem sc_read_concept : FnScope ["text"] ["text"] (defScope s_read_concept) := ⟨rfl, rfl, rfl, by decide +kernel, rfl, by decide +kernel, by decide +kernel⟩
abbrev s_read_whole : Stmt := topS 56
theorem sc_read_whole : FnScope ["text", "form", "cursor", "tree"] ["text", "form"] (defScope s_read_whole) := ⟨rfl, rfl, rfl, by decide +kernel, rfl, by decide +kernel, by decide +kernel⟩
abbrev s_law_cell : Stmt := topS 58
theorem sc_law_cell : FnScope ["script", "k"] ["script", "k"] (defScope s_law_cell) := ⟨rfl, rfl, rfl, by decide +kernel, rfl, by decide +kernel, by decide +kernel⟩
abbrev s_law_draws : Stmt := topS 59
theorem sc_law_draws : FnScope ["script", "k", "count", "cell", "rest", "seed", "found", "at"] ["script", "k", "count"] (defScope s_law_draws) := ⟨rfl, rfl, rfl, by decide +kernel, rfl, by decide +kernel, by decide +kernel⟩
abbrev s_law_take : Stmt := topS 60
theorem sc_law_take : FnScope ["draws", "many"] ["draws", "many"] (defScope s_law_take) := ⟨rfl, rfl, rfl, by decide +kernel, rfl, by decide +kernel, by decide +kernel⟩
abbrev s_law_frame : Stmt := topS 61
theorem sc_law_frame : FnScope ["draws", "left", "k", "right"] ["draws"] (defScope s_law_frame) := ⟨rfl, rfl, rfl, by decide +kernel, rfl, by decide +kernel, by decide +kernel⟩
abbrev s_law_names : Stmt := topS 62
theorem sc_law_names : FnScope ["draws", "frame", "rows", "marks", "mark"] ["draws"] (defScope s_law_names) := ⟨rfl, rfl, rfl, by decide +kernel, rfl, by decide +kernel, by decide +kernel⟩
abbrev s_law_role : Stmt := topS 63
theorem sc_law_role : FnScope ["draws", "names", "sizes", "name"] ["draws", "names", "sizes"] (defScope s_law_role) := ⟨rfl, rfl, rfl, by decide +kernel, rfl, by decide +kernel, by decide +kernel⟩
abbrev s_law_concept : Stmt := topS 64
theorem sc_law_concept : FnScope ["draws", "names", "sizes", "depth", "kind", "role_v", "word", "left"] ["draws", "names", "sizes", "depth"] (defScope s_law_concept) := ⟨rfl, rfl, rfl, by decide +kernel, rfl, by decide +kernel, by decide +kernel⟩
abbrev s_law_statement : Stmt := topS 65
theorem sc_law_statement : FnScope ["draws", "names", "sizes", "depth", "kind", "one", "role_v", "word", "left"] ["draws", "names", "sizes", "depth"] (defScope s_law_statement) := ⟨rfl, rfl, rfl, by decide +kernel, rfl, by decide +kernel, by decide +kernel⟩
abbrev s_law_question : Stmt := topS 66
theorem sc_law_question : FnScope ["draws", "names", "sizes", "depth", "kind", "one", "role_v", "left"] ["draws", "names", "sizes", "depth"] (defScope s_law_question) := ⟨rfl, rfl, rfl, by decide +kernel, rfl, by decide +kernel, by decide +kernel⟩
abbrev s_law_say_role : Stmt := topS 67
theorem sc_law_say_role : FnScope ["role_v"] ["role_v"] (defScope s_law_say_role) := ⟨rfl, rfl, rfl, by decide +kernel, rfl, by decide +kernel, by decide +kernel⟩
abbrev s_law_say : Stmt := topS 68
theorem sc_law_say : FnScope ["concept_v", "least", "kind", "text", "strength"] ["concept_v", "least"] (defScope s_law_say) := ⟨rfl, rfl, rfl, by decide +kernel, rfl, by decide +kernel, by decide +kernel⟩
abbrev s_law_same : Stmt := topS 69
theorem sc_law_same : FnScope ["actual", "due", "k"] ["actual", "due"] (defScope s_law_same) := ⟨rfl, rfl, rfl, by decide +kernel, rfl, by decide +kernel, by decide +kernel⟩
abbrev s_law : Stmt := topS 70
theorem sc_law : FnScope ["script", "draws", "names", "concept_v", "items", "k", "inner", "tree", "asked", "text", "back"] ["script"] (defScope s_law) := ⟨rfl, rfl, rfl, by decide +kernel, rfl, by decide +kernel, by decide +kernel⟩
abbrev s_Cursor_init : Stmt := inClass (topS 30) 0
theorem sc_Cursor_init : FnScope ["self", "text"] ["self", "text"] (defScope s_Cursor_init) := ⟨rfl, rfl, rfl, by decide +kernel, rfl, by decide +kernel, by decide +kernel⟩
abbrev s_Cursor_word : Stmt := inClass (topS 30) 1
theorem sc_Cursor_word : FnScope ["self"] ["self"] (defScope s_Cursor_word) := ⟨rfl, rfl, rfl, by decide +kernel, rfl, by decide +kernel, by decide +kernel⟩
abbrev s_Cursor_word_behind : Stmt := inClass (topS 30) 2
theorem sc_Cursor_word_behind : FnScope ["self"] ["self"] (defScope s_Cursor_word_behind) := ⟨rfl, rfl, rfl, by decide +kernel, rfl, by decide +kernel, by decide +kernel⟩
abbrev s_Cursor_at_end : Stmt := inClass (topS 30) 3
theorem sc_Cursor_at_end : FnScope ["self"] ["self"] (defScope s_Cursor_at_end) := ⟨rfl, rfl, rfl, by decide +kernel, rfl, by decide +kernel, by decide +kernel⟩
abbrev s_Cursor_step : Stmt := inClass (topS 30) 4
theorem sc_Cursor_step : FnScope ["self"] ["self"] (defScope s_Cursor_step) := ⟨rfl, rfl, rfl, by decide +kernel, rfl, by decide +kernel, by decide +kernel⟩
abbrev s_Cursor_expect : Stmt := inClass (topS 30) 5
theorem sc_Cursor_expect : FnScope ["self", "word"] ["self", "word"] (defScope s_Cursor_expect) := ⟨rfl, rfl, rfl, by decide +kernel, rfl, by decide +kernel, by decide +kernel⟩
abbrev s_Cursor_take_name : Stmt := inClass (topS 30) 6
theorem sc_Cursor_take_name : FnScope ["self", "word"] ["self"] (defScope s_Cursor_take_name) := ⟨rfl, rfl, rfl, by decide +kernel, rfl, by decide +kernel, by decide +kernel⟩
abbrev s_Cursor_fail : Stmt := inClass (topS 30) 7
theorem sc_Cursor_fail : FnScope ["self", "reason", "line", "column"] ["self", "reason"] (defScope s_Cursor_fail) := ⟨rfl, rfl, rfl, by decide +kernel, rfl, by decide +kernel, by decide +kernel⟩
local macro_rules | `(tactic| walk_at "w") => `(tactic| repeat (first
  | refine ⟨_, rfl, ?_⟩
  | refine ⟨_, _, rfl, rfl, .inr ⟨by decide, by decide⟩, ?_⟩
  | refine ⟨_, _, rfl, rfl, .inl ⟨by decide, by decide⟩, ?_⟩
  | refine ⟨_, _, rfl, rfl, ⟨by decide, by decide⟩, ?_⟩
  | refine ⟨_, _, rfl, rfl, ⟨by decide, by decide, by decide⟩, ?_⟩
  | refine ⟨_, _, rfl, rfl, (by show (0 : Int) < _; decide), ?_⟩
  | refine ⟨_, _, rfl, rfl, ?_⟩
  | refine .inl ⟨_, rfl, ?_⟩))
section
variable {P : Program} {w : World} {K : PySem.W.Frag} {mg : Str → Option Value} {base : Heap}
theorem at_int {ns : List Int} {k : Int} (h0 : 0 ≤ k) (h : k < ((ns.map V.int).length : Int)) : ∃ c, atI (ns.map V.int) k = some (.int c) := by
  have hk : k.toNat < ns.length := by rw [List.length_map] at h; omega
  have ek : k = ((k.toNat : Nat) : Int) := by omega
  have q : atI (ns.map V.int) ((k.toNat : Nat) : Int) = some (.int ns[k.toNat]) := atI_nat (by rw [List.getElem?_map, List.getElem?_eq_getElem hk] <;> rfl)
  rw [← ek] at q
  exact ⟨_, q⟩
theorem c_law_cell {f : Addr} {fd : FuncData} (D : Df K mg "_law_cell" s_law_cell f fd ["script", "k"]) (z_len : mg "len" = none) (z_int : mg "int" = none) : Cl P w K mg base 1 "_law_cell" (spCell K) := by
  refine D.cl sc_law_cell (fun vs H Q E h => ?_) (fun cdv A outer s H vs Q E hr h => ?_)
  · obtain ⟨a, ns, k, rfl, _⟩ := h
    rfl
  obtain ⟨a, ns, k, rfl, hS, h63, h0, q⟩ := h
  refine ⟨_, (pss_cons (ps_if (pt_cmpR op_lt (pv 1) (pe_callB call_len_seq (by rfl) z_len PySem.boot_len (pa_cons (pv 0) pa_nil)) (nomark _)) (pss_one (ps_ret (pe_callTy call_int1 (by rfl) z_int (by decide +kernel) (pa_cons (pe_ix ix_list (pv 0) (pv 1) (fun _ _ => rfl)) pa_nil)))) pss_nil)
      (pss_one (ps_ret pe_int))), ?_⟩
  refine ⟨_, rfl, _, rfl, a, _, rfl, .inl hS, _, _, rfl, rfl, _, rfl, ite2 (fun c => ?_) (fun c => ?_)⟩
  · obtain ⟨v, hv⟩ := at_int (ns := ns) h0 (of_decide_eq_true c)
    exact ⟨_, rfl, _, rfl, a, _, _, _, rfl, rfl, hS, hv, .inl ⟨_, rfl, q v⟩⟩
  · exact q 0
theorem c_law_take {f : Addr} {fd : FuncData} (D : Df K mg "_law_take" s_law_take f fd ["draws", "many"]) (z_int : mg "int" = none) : Cl P w K mg base 1 "_law_take" spTake := by
  refine D.cl sc_law_take (fun vs H Q E h => ?_) (fun cdv A outer s H vs Q E hr h => ?_)
  · obtain ⟨l, ds, m, rfl, _⟩ := h
    rfl
  obtain ⟨l, ds, m, rfl, hl, hm, q⟩ := h
  refine ⟨_, (pss_cons (ps_if (pt_not (pt_truth (pv 0) (by intro _; rfl))) (pss_one (ps_ret pe_int)) pss_nil)
      (pss_one (ps_ret (pe_op op_mod (pe_callTy call_int1 (by rfl) z_int (by decide +kernel) (pa_cons (pe_bm PySem.F.plainAttrs_list PySem.F.slot_list_pop PySem.F.type_list_pop mt_popAt (pv 0) (pa_cons pe_int pa_nil)) pa_nil)) (pv 1))))), ?_⟩
  cases ds with
  | nil =>
    refine ⟨_, rfl, false, .inl ⟨_, SqL.of hl, rfl⟩, iteT ?_⟩
    have := q 0 (Int.le_refl 0) hm
    rw [show upd H l (.lst (([] : List Int).tail.map V.int)) = H from upd_self hl] at this
    exact this
  | cons d r =>
    refine ⟨_, rfl, true, .inl ⟨_, SqL.of hl, rfl⟩, iteF ?_⟩
    refine ⟨_, rfl, .inl ⟨rfl, _, SqL.of hl⟩, l, _, _, 0, .int d, rfl, rfl, hl, by decide, by decide, seqIndex?_zero (Nat.succ_pos _), rfl, .inl ⟨_, rfl, _, rfl, _, _, rfl, rfl, hm, ?_⟩⟩
    exact q (d % m) (Int.emod_nonneg _ (by omega)) (Int.emod_lt_of_pos _ hm)
theorem c_law_draws {f : Addr} {fd : FuncData} (D : Df K mg "_law_draws" s_law_draws f fd ["script", "k", "count"]) (c_law_cell : Cl P w K mg base 1 "_law_cell" (spCell K)) (z_int : mg "int" = none) (z_range : mg "range" = none) : Cl P w K mg base 2 "_law_draws" (spDraws K) := by
  refine D.cl sc_law_draws (fun vs H Q E h => ?_) (fun cdv A outer s H vs Q E hr h => ?_)
  · obtain ⟨a, ns, k, n, rfl, _⟩ := h
    rfl
  obtain ⟨a, ns, k, n, rfl, hS, h63, h0, hn0, hn, q⟩ := h
  refine ⟨_, (pss_cons (ps_set (i := 3) sc_law_draws.nd rfl (.inl rfl) (pc c_law_cell hr (by first | decide | omega) (by rfl) (pa_cons (pv 0) (pa_cons (pv 1) pa_nil))))
      (pss_cons (ps_set (i := 4) sc_law_draws.nd rfl (.inl rfl) pe_int)
      (Evl.pss_cut (ps_if (pt_cmpR op_ge (pv 3) (pe_op op_pow pe_int pe_int) (nomark _)) (pss_one (ps_set (i := 4) sc_law_draws.nd rfl (.inl rfl) (pe_op op_fdivW (pv 3) (pe_op op_pow pe_int pe_int)))) pss_nil)
      (pss_cons (ps_set (i := 5) sc_law_draws.nd rfl (.inl rfl) (pe_op op_mod (pe_callTy call_int1 (by rfl) z_int (by decide +kernel) (pa_cons (pe_op op_add (pe_op op_add (pe_op op_mul (pv 3) pe_int) (pe_op op_mul (pv 1) pe_int)) pe_int) pa_nil)) pe_int))
      (pss_cons (ps_set (i := 6) sc_law_draws.nd rfl (.inl rfl) (pe_lst pa_nil))
      (pss_cons (ps_for PassesOwn.never rfl (pi_range1 (by rfl) z_range (pa_cons (pv 2) pa_nil)) (pg_name (i := 7) sc_law_draws.nd rfl (.inl rfl)) (pss_cons (ps_set (i := 5) sc_law_draws.nd rfl (.inl rfl) (pe_op op_mod (pe_callTy call_int1 (by rfl) z_int (by decide +kernel) (pa_cons (pe_op op_add (pe_op op_add (pe_op op_mul (pv 5) pe_int) (pe_op op_mul (pv 7) pe_int)) pe_int) pa_nil)) pe_int))
      (pss_one (ps_if (pt_cmpR op_gt (pv 4) pe_int (nomark _)) (pss_cons (ps_expr (pe_bm PySem.F.plainAttrs_list PySem.F.slot_list_append PySem.F.type_list_append mt_append (pv 6) (pa_cons (pe_op op_mod (pe_callTy call_int1 (by rfl) z_int (by decide +kernel) (pa_cons (pv 4) pa_nil)) pe_int) pa_nil)))
      (pss_one (ps_set (i := 4) sc_law_draws.nd rfl (.inl rfl) (pe_op op_fdiv (pv 4) pe_int)))) (pss_one (ps_expr (pe_bm PySem.F.plainAttrs_list PySem.F.slot_list_append PySem.F.type_list_append mt_append (pv 6) (pa_cons (pe_op op_mod (pe_callTy call_int1 (by rfl) z_int (by decide +kernel) (pa_cons (pe_op op_fdiv (pv 5) pe_int) pa_nil)) pe_int) pa_nil))))))))
      (pss_one (ps_ret (pv 6))))))))), ?_⟩
  refine ⟨_, rfl, _, rfl, a, ns, k, rfl, hS, h63, h0, fun c => ?_⟩
  walk_at "w"
  refine ⟨fun σ' H' => ∃ r : Int, σ' = [some (.ref a), some (.int k), some (.int n), some (.int c), some (.int r), none, none, none] ∧ H = H', ?_, ?_⟩
  · walk_at "w"
    refine ite2 (fun c1 => ?_) (fun c1 => ?_)
    · walk_at "w"
      exact rfl
    · exact ⟨0, rfl, rfl⟩
  rintro _ _ ⟨r, rfl, rfl⟩
  walk_at "w"
  refine ⟨Nat.zero_le _, fun p hp => ?_⟩
  walk_at "w"
  refine ⟨by omega, by omega, for_range (lo := 0) (n := n.toNat) (fun i σ' H' => ∃ (r sd : Int) (x : Option V) (ds : List Int), σ' = [some (.ref a), some (.int k), some (.int n), some (.int c), some (.int r), some (.int sd), some (.ref p), x] ∧ ds.length = i ∧ H' = upd H p (.lst (ds.map V.int))) ⟨_, _, none, [], rfl, rfl, rfl⟩ ?_ ?_⟩
  · rintro i _ _ hi ⟨r, sd, x, ds, rfl, hd, rfl⟩
    have hz : (ds.map V.int).length < sizeLine := by
      rw [List.length_map]
      exact small1000 (by omega)
    have e1 : ∀ y : Int, upd (upd H p (.lst (ds.map V.int))) p (.lst (ds.map V.int ++ [V.int y])) = upd H p (.lst ((ds ++ [y]).map V.int)) := fun y => by
      rw [upd_upd, List.map_append]
      rfl
    walk_at "w"
    refine ite2 (fun c1 => ?_) (fun c1 => ?_)
    · walk_at "w"
      refine ⟨.inl ⟨rfl, _, SqL.of upd_same⟩, ?_⟩
      walk_at "w"
      refine ⟨p, _, _, rfl, rfl, upd_same, hz, ?_⟩
      walk_at "w"
      exact ⟨_, _, _, ds ++ [_], rfl, by rw [List.length_append, hd]; rfl, e1 _⟩
    · walk_at "w"
      refine ⟨.inl ⟨rfl, _, SqL.of upd_same⟩, ?_⟩
      walk_at "w"
      refine ⟨p, _, _, rfl, rfl, upd_same, hz, ?_⟩
      exact ⟨_, _, _, ds ++ [_], rfl, by rw [List.length_append, hd]; rfl, e1 _⟩
  · rintro _ _ ⟨r, sd, x, ds, rfl, hd, rfl⟩
    exact ⟨_, rfl, q ds p _ (Same.new _ hp) hp upd_same (by omega)⟩
theorem c_law_same {f : Addr} {fd : FuncData} (D : Df K mg "_law_same" s_law_same f fd ["actual", "due"]) (z_isinstance : mg "isinstance" = none) (z_tuple : mg "tuple" = none) (z_bool : mg "bool" = none) (z_int : mg "int" = none) (z_str : mg "str" = none)
    (z_len : mg "len" = none) (z_all : mg "all" = none) (z_range : mg "range" = none) : ∀ n : Nat, Cl P w K mg base (n + 1) "_law_same" (spSame K n)
  | 0 => by
    refine D.cl sc_law_same (fun vs H Q E h => ?_) (fun cdv A outer s H vs Q E hr h => ?_)
    · obtain ⟨x, y, d, rfl, _⟩ := h
      rfl
    · obtain ⟨x, y, d, rfl, _, _, z, _⟩ := h
      exact z.elim
  | n + 1 => by
    have c_law_same := c_law_same D z_isinstance z_tuple z_bool z_int z_str z_len z_all z_range n
    refine D.cl sc_law_same (fun vs H Q E h => ?_) (fun cdv A outer s H vs Q E hr h => ?_)
    · obtain ⟨x, y, d, rfl, _⟩ := h
      rfl
    obtain ⟨x, y, d, rfl, hx, hy, hd, q⟩ := h
    refine ⟨_, (pss_cons (ps_if (pt_val (pe_callB call_isi (by rfl) z_isinstance (by decide +kernel) (pa_cons (pv 1) (pa_cons (pe_bltn (v := .ty "tuple") (u := .type "tuple") (by rfl) z_tuple (by decide +kernel) rfl) pa_nil)))) (pss_cons (ps_if (PW.pt (pw_or (pt_not (pt_val (pe_callB call_isi (by rfl) z_isinstance (by decide +kernel) (pa_cons (pv 0) (pa_cons (pe_bltn (v := .ty "tuple") (u := .type "tuple") (by rfl) z_tuple (by decide +kernel) rfl) pa_nil))))) (pw_or1 (pt_cmpR op_ne (pe_callB call_len_seq (by rfl) z_len PySem.boot_len (pa_cons (pv 0) pa_nil)) (pe_callB call_len_seq (by rfl) z_len PySem.boot_len (pa_cons (pv 1) pa_nil)) (nomark _))))) (pss_one (ps_ret pe_bl)) pss_nil)
      (pss_one (ps_ret (pe_callB (cr_all rfl) (by rfl) z_all (by decide +kernel) (pa_cons (pe_lc (own := [("k", 2)]) (g := gName 2) (tt := tYes) (by rfl) sc_law_same.nd (pi_range1 (by rfl) z_range (pa_cons (pe_callB call_len_seq (by rfl) z_len PySem.boot_len (pa_cons (pv 1) pa_nil)) pa_nil)) (blkOk_by (own := [("k", 2)]) (N := ["actual", "due", "k"]) (sc := defScope s_law_same) (by decide +kernel)) (fun _ _ _ _ _ => pg_name (i := 2) sc_law_same.nd rfl (.inl rfl)) (fun _ _ _ _ _ => pts_nil) (fun _ _ _ _ _ => (pc c_law_same hr (by first | decide | omega) (by rfl) (pa_cons (pe_ix (ixT (K := K)) (pv 0) (pv 2) (fun _ _ => rfl)) (pa_cons (pe_ix (ixT (K := K)) (pv 1) (pv 2) (fun _ _ => rfl)) pa_nil))))) pa_nil))))) pss_nil)
      (pss_cons (ps_if (pt_val (pe_callB call_isi (by rfl) z_isinstance (by decide +kernel) (pa_cons (pv 1) (pa_cons (pe_bltn (v := .ty "bool") (u := .type "bool") (by rfl) z_bool (by decide +kernel) rfl) pa_nil)))) (pss_one (ps_ret (pe_and (pe_callB call_isi (by rfl) z_isinstance (by decide +kernel) (pa_cons (pv 0) (pa_cons (pe_bltn (v := .ty "bool") (u := .type "bool") (by rfl) z_bool (by decide +kernel) rfl) pa_nil))) (pe_one (pe_cmpR op_eq (pv 0) (pv 1) (nomark _)))))) pss_nil)
      (pss_cons (ps_if (pt_val (pe_callB call_isi (by rfl) z_isinstance (by decide +kernel) (pa_cons (pv 1) (pa_cons (pe_bltn (v := .ty "int") (u := .type "int") (by rfl) z_int (by decide +kernel) rfl) pa_nil)))) (pss_one (ps_ret (pe_and (pe_callB call_isi (by rfl) z_isinstance (by decide +kernel) (pa_cons (pv 0) (pa_cons (pe_bltn (v := .ty "int") (u := .type "int") (by rfl) z_int (by decide +kernel) rfl) pa_nil))) (pe_and (pe_not (pe_callB call_isi (by rfl) z_isinstance (by decide +kernel) (pa_cons (pv 0) (pa_cons (pe_bltn (v := .ty "bool") (u := .type "bool") (by rfl) z_bool (by decide +kernel) rfl) pa_nil)))) (pe_one (pe_cmpR op_eq (pv 0) (pv 1) (nomark _))))))) pss_nil)
      (pss_cons (ps_if (pt_val (pe_callB call_isi (by rfl) z_isinstance (by decide +kernel) (pa_cons (pv 1) (pa_cons (pe_bltn (v := .ty "str") (u := .type "str") (by rfl) z_str (by decide +kernel) rfl) pa_nil)))) (pss_one (ps_ret (pe_and (pe_callB call_isi (by rfl) z_isinstance (by decide +kernel) (pa_cons (pv 0) (pa_cons (pe_bltn (v := .ty "str") (u := .type "str") (by rfl) z_str (by decide +kernel) rfl) pa_nil))) (pe_one (pe_cmpR op_eq (pv 0) (pv 1) (nomark _)))))) pss_nil)
      (pss_one (ps_ret (pe_cmpR op_isN (pv 0) pe_non (nomark _)))))))), ?_⟩
    cases d with
    | none =>
      cases hx
      cases hy
      refine if_isiF rfl (.base .non) (by decide +kernel) (if_isiF rfl (.base .non) (by decide +kernel) (if_isiF rfl (.base .non) (by decide +kernel) (if_isiF rfl (.base .non) (by decide +kernel) ?_)))
      exact ⟨_, rfl, rfl, q _ (Same.refl _)⟩
    | bool b =>
      cases hx
      cases hy
      refine if_isiF rfl (.base (.bl b)) (by decide +kernel) (if_isiT rfl (.base (.bl b)) (by decide +kernel) (ev_isi (b := true) rfl (.base (.bl b)) (by decide +kernel) ⟨_, rfl, iteT ?_⟩))
      refine ⟨_, rfl, _, rfl, rfl, ?_⟩
      rw [decide_eq_true rfl]
      exact q _ (Same.refl _)
    | int i =>
      cases hx
      cases hy
      refine if_isiF rfl (.base (.int i)) (by decide +kernel) (if_isiF rfl (.base (.int i)) (by decide +kernel) (if_isiT rfl (.base (.int i)) (by decide +kernel) (ev_isi (b := true) rfl (.base (.int i)) (by decide +kernel) ⟨_, rfl, iteT (ev_isi (b := false) rfl (.base (.int i)) (by decide +kernel) ⟨_, rfl, _, rfl, iteT ?_⟩)⟩)))
      refine ⟨_, rfl, _, rfl, rfl, ?_⟩
      rw [decide_eq_true rfl]
      exact q _ (Same.refl _)
    | str z =>
      cases hx
      cases hy
      refine if_isiF rfl (.base (.str z)) (by decide +kernel) (if_isiF rfl (.base (.str z)) (by decide +kernel) (if_isiF rfl (.base (.str z)) (by decide +kernel) (if_isiT rfl (.base (.str z)) (by decide +kernel) (ev_isi (b := true) rfl (.base (.str z)) (by decide +kernel) ⟨_, rfl, iteT ?_⟩))))
      refine ⟨_, rfl, _, rfl, rfl, ?_⟩
      rw [decide_eq_true rfl]
      exact q _ (Same.refl _)
    | list ds => exact hd.elim
    | dict ds => exact hd.elim
    | tuple ds =>
      cases hx with
      | @tup a xs _ hS hA =>
      cases hy with
      | @tup b ys _ hT hB =>
      have l1 := dpAll_len hA
      have l2 := dpAll_len hB
      refine if_isiT rfl (tyT hT) (by decide +kernel) ?_
      -- not isinstance(actual, tuple) or len(actual) != len(due)
      refine ev_isi (b := true) rfl (tyT hS) (by decide +kernel) ⟨_, rfl, iteF ?_⟩
      refine ⟨_, rfl, a, _, rfl, .inr hS, _, rfl, b, _, rfl, .inr hT, rfl, _, rfl, ?_⟩
      rw [l1, l2, decide_eq_true rfl]
      refine iteF ?_
      -- all of a list of True
      refine ⟨_, rfl, b, _, rfl, .inr hT, _, rfl, by have := hd.1; omega, by have := hd.1; omega, fun L hL => ?_⟩
      refine lc_range (lo := 0) (n := _) (fun i H' => Same H H' ∧ H L = none ∧ H' L = some (.lst ((List.replicate i true).map V.bl))) ⟨Same.new _ hL, hL, upd_same⟩ ?_ ?_
      · rintro i H' hi ⟨e, hn, hl⟩
        have hi' : i < ds.length := by rw [← l2]; exact hi
        have g1 : i < xs.length := by omega
        have g2 : i < _ := hi
        have ei : (0 : Int) + (i : Int) = ((i : Nat) : Int) := by omega
        refine ⟨rfl, ?_⟩
        refine ⟨_, rfl, _, rfl, a, _, _, _, rfl, rfl, Same.seqT e hS, (by rw [ei]; exact atI_some g1), _, rfl, _, rfl, b, _, _, _, rfl, rfl, Same.seqT e hT, (by rw [ei]; exact atI_some g2), ?_⟩
        refine ⟨_, _, ds[i], rfl, Dp.same e (dpAll_at hA i _ _ (List.getElem?_eq_getElem g1) (List.getElem?_eq_getElem hi')), Dp.same e (dpAll_at hB i _ _ (List.getElem?_eq_getElem g2) (List.getElem?_eq_getElem hi')), hd.2 _ (List.getElem_mem hi'), fun H2 e2 => ?_⟩
        refine ⟨_, e2 _ _ hl, ?_, ?_⟩
        · rw [List.length_map, List.length_replicate]
          have := hd.1
          exact Nat.lt_of_lt_of_le (show i < 100001 by omega) (by decide)
        · refine ⟨fun z o hz => ?_, hn, ?_⟩
          · rw [upd_ne (ne_of_none hz hn)]
            exact e2 _ _ (e _ _ hz)
          · rw [upd_same, List.replicate_succ', List.map_append]
            rfl
      · rintro H' ⟨e, hn, hl⟩
        refine ⟨L, _, rfl, SqL.of hl, ?_⟩
        have ea : ∀ n : Nat, (List.replicate n true).all id = true := fun n => by
          induction n with
          | zero => rfl
          | succ n ih => rw [List.replicate_succ, List.all_cons, ih]; rfl
        rw [ea]
        exact q _ e
/-- the index behind the word at an index -/
def wordEnd (l : List Nat) (a : Nat) : Nat := match l.drop a with
  | [] => a
  | c :: r => if isL c then a + 1 + (r.takeWhile isW).length else a
def spWordEnd : Sp := fun vs H Q _ => ∃ (l : List Nat) (a : Nat), vs = [.str (T l), .int (a : Int)] ∧ a ≤ l.length ∧ l.length ≤ 100000 ∧ Q (.int (wordEnd l a : Nat)) H
theorem wordEnd_le {l : List Nat} {a : Nat} (h : a ≤ l.length) : a ≤ wordEnd l a ∧ wordEnd l a ≤ l.length := by
  unfold wordEnd
  have hl : (l.drop a).length = l.length - a := List.length_drop
  cases e : l.drop a with
  | nil => exact ⟨Nat.le_refl _, h⟩
  | cons c r =>
    rw [e, List.length_cons] at hl
    have := (List.takeWhile_prefix isW (l := r)).length_le
    show a ≤ (if isL c then a + 1 + (r.takeWhile isW).length else a) ∧ (if isL c then a + 1 + (r.takeWhile isW).length else a) ≤ l.length
    split <;> omega
theorem c_word_end {f : Addr} {fd : FuncData} {tL tD : Tok} (D : Df K mg "_word_end" s_word_end f fd ["text", "at"]) (m_LETTERS : mg "LETTERS" = some (.str K_LETTERS tL)) (m_DIGITS : mg "DIGITS" = some (.str K_DIGITS tD)) (z_len : mg "len" = none) : Cl P w K mg base 1 "_word_end" spWordEnd := by
  refine D.cl sc_word_end (fun vs H Q E h => ?_) (fun cdv A outer s H vs Q E hr h => ?_)
  · obtain ⟨l, a, rfl, _⟩ := h
    rfl
  obtain ⟨l, a, rfl, ha, hl, q⟩ := h
  refine ⟨_, (pss_cons (ps_if (PW.pt (pw_or (pt_cmpR op_eq (pv 1) (pe_callB call_len_str (by rfl) z_len PySem.boot_len (pa_cons (pv 0) pa_nil)) (nomark _)) (pw_or1 (pt_cmpR op_notIn_sign (pe_ix ix_str (pv 0) (pv 1) (fun _ _ => rfl)) (pe_glob (v := .str K_LETTERS) (by rfl) m_LETTERS ⟨_, rfl⟩) rfl)))) (pss_one (ps_ret (pv 1))) pss_nil)
      (pss_cons (ps_set (i := 2) sc_word_end.nd rfl (.inl rfl) (pe_op op_add (pv 1) pe_int))
      (pss_cons (ps_while PassesOwn.never (PW.pt (pw_and (pt_cmpR op_lt (pv 2) (pe_callB call_len_str (by rfl) z_len PySem.boot_len (pa_cons (pv 0) pa_nil)) (nomark _)) (pw_and1 (PW.pt (pw_or (pt_cmpR op_in_sign (pe_ix ix_str (pv 0) (pv 2) (fun _ _ => rfl)) (pe_glob (v := .str K_LETTERS) (by rfl) m_LETTERS ⟨_, rfl⟩) rfl) (pw_or1 (pt_cmpR op_in_sign (pe_ix ix_str (pv 0) (pv 2) (fun _ _ => rfl)) (pe_glob (v := .str K_DIGITS) (by rfl) m_DIGITS ⟨_, rfl⟩) rfl))))))) (pss_one (ps_aug (i := 2) sc_word_end.nd rfl (.inl rfl) pe_int ip_add)))
      (pss_one (ps_ret (pv 2)))))), ?_⟩
  have hz : (T l).length ≤ sizeLine := by rw [T_len]; exact small9 (by omega)
  have item : ∀ i : Nat, i < l.length → atI (T l).cps.toList (i : Int) = some (l.getD i 0) := fun i hi => by
    have := atI_some (xs := l) hi
    rw [List.getD_eq_getElem?_getD, List.getElem?_eq_getElem hi]
    exact this
  walk_at "w"
  refine ⟨hz, rfl, _, rfl, ?_⟩
  rw [T_len]
  show if decide (V.int (a : Int) = V.int (l.length : Int)) = true then _ else _
  by_cases he : a = l.length
  · rw [he, decide_eq_true rfl]
    refine iteT (iteT ?_)
    refine ⟨_, rfl, ?_⟩
    have := q
    unfold wordEnd at this
    rw [List.drop_eq_nil_of_le (by omega)] at this
    rw [← he]
    exact this
  rw [decide_eq_false (fun z => he (by have := V.int.inj z; omega))]
  refine iteF ?_
  have hlt : a < l.length := by omega
  have hd := List.drop_eq_getElem_cons hlt
  have hg : l.getD a 0 = l[a] := by rw [List.getD_eq_getElem?_getD, List.getElem?_eq_getElem hlt]; rfl
  refine ⟨_, rfl, _, rfl, _, _, _, rfl, rfl, hz, item a hlt, _, _, rfl, rfl, _, rfl, ?_⟩
  rw [hg]
  show if (!isL l[a]) = true then _ else _
  have q2 : Q (.int ((if isL l[a] then a + 1 + ((l.drop (a + 1)).takeWhile isW).length else a : Nat) : Int)) H := by
    unfold wordEnd at q
    rw [hd] at q
    exact q
  cases hL : isL l[a] with
  | false =>
    rw [hL] at q2
    exact iteT ⟨_, rfl, q2⟩
  | true =>
    rw [hL] at q2
    refine iteF ?_
    walk_at "w"
    refine ⟨fun m σ' H' => ∃ e : Nat, σ' = [some (.str (T l)), some (.int (a : Int)), some (.int (e : Int))] ∧ H = H' ∧ m = l.length - e ∧ e ≤ l.length ∧ e + ((l.drop e).takeWhile isW).length = a + 1 + ((l.drop (a + 1)).takeWhile isW).length, ⟨_, a + 1, rfl, rfl, rfl, by omega, rfl⟩, ?_⟩
    rintro m _ _ ⟨e, rfl, rfl, rfl, hel, hee⟩
    have fin : (l.drop e).takeWhile isW = [] → Q (.int (e : Int)) H := fun z => by
      rw [z] at hee
      have e2 : e = a + 1 + ((l.drop (a + 1)).takeWhile isW).length := by simpa using hee
      rw [e2]
      exact q2
    walk_at "w"
    refine ⟨hz, ?_⟩
    walk_at "w"
    rw [T_len]
    by_cases h1 : e < l.length
    · have hd1 := List.drop_eq_getElem_cons h1
      have hg1 : l.getD e 0 = l[e] := by rw [List.getD_eq_getElem?_getD, List.getElem?_eq_getElem h1]; rfl
      rw [decide_eq_true (show (e : Int) < (l.length : Int) by omega)]
      refine iteT ?_
      refine ⟨_, rfl, _, rfl, _, _, _, rfl, rfl, hz, item e h1, _, _, rfl, rfl, _, rfl, ?_⟩
      rw [hg1]
      have go : isW l[e] = true → ∃ m' : Nat, m' < l.length - e ∧ ∃ e' : Nat, ([some (.str (T l)), some (.int (a : Int)), some (.int ((e : Int) + 1))] : L2.St) = [some (.str (T l)), some (.int (a : Int)), some (.int (e' : Int))] ∧ H = H ∧ m' = l.length - e' ∧ e' ≤ l.length ∧ e' + ((l.drop e').takeWhile isW).length = a + 1 + ((l.drop (a + 1)).takeWhile isW).length := fun hw => by
        refine ⟨l.length - (e + 1), by omega, e + 1, rfl, rfl, rfl, by omega, ?_⟩
        rw [hd1, List.takeWhile_cons, hw] at hee
        rw [← hee]
        show e + 1 + _ = e + (((l.drop (e + 1)).takeWhile isW).length + 1)
        omega
      show if isL l[e] = true then _ else _
      cases hl2 : isL l[e] with
      | true =>
        refine iteT (iteT ⟨_, fun σ' H' n => n, ?_⟩)
        walk_at "w"
        exact go (by unfold isW; rw [hl2]; rfl)
      | false =>
        refine iteF ?_
        refine ⟨_, rfl, _, rfl, _, _, _, rfl, rfl, hz, item e h1, _, _, rfl, rfl, _, rfl, ?_⟩
        rw [hg1]
        cases hd2 : decide (l[e] ∈ K_DIGITS.cps.toList) with
        | true =>
          refine iteT ⟨_, fun σ' H' n => n, ?_⟩
          walk_at "w"
          exact go (by unfold isW; rw [hl2, hd2]; rfl)
        | false =>
          refine iteF ⟨_, rfl, fin ?_⟩
          rw [hd1, List.takeWhile_cons]
          have : isW l[e] = false := by unfold isW; rw [hl2, hd2]; rfl
          rw [this]
          rfl
    · rw [decide_eq_false (show ¬ (e : Int) < (l.length : Int) by omega)]
      refine iteF (iteF ⟨_, rfl, fin ?_⟩)
      rw [List.drop_eq_nil_of_le (by omega)]
      rfl
/-- a word that is a name -/
def isNm (l : List Nat) : Bool := decide (0 < wordEnd l 0) && decide (wordEnd l 0 ≤ 20) && decide (wordEnd l 0 = l.length) && !decide (T l ∈ K_RESERVED)
def spIsName : Sp := fun vs H Q _ => ∃ l : List Nat, vs = [.str (T l)] ∧ l.length ≤ 100000 ∧ Q (.bl (isNm l)) H
theorem c_is_name {f : Addr} {fd : FuncData} {r : Addr} {t : Tok} (D : Df K mg "is_name" s_is_name f fd ["word"]) (c_word_end : Cl P w K mg base 1 "_word_end" spWordEnd) (m_LONGEST_WORD : mg "LONGEST_WORD" = some (.int K_LONGEST_WORD t)) (m_RESERVED : mg "RESERVED" = some (.ref r)) (hR : ∀ H, SqT K H r (K_RESERVED.map V.str)) (z_len : mg "len" = none) : Cl P w K mg base 2 "is_name" spIsName := by
  refine D.cl sc_is_name (fun vs H Q E h => ?_) (fun cdv A outer s H vs Q E hr h => ?_)
  · obtain ⟨l, rfl, _⟩ := h
    rfl
  obtain ⟨l, rfl, hl, q⟩ := h
  refine ⟨_, (pss_cons (ps_set (i := 1) sc_is_name.nd rfl (.inl rfl) (pc c_word_end hr (by first | decide | omega) (by rfl) (pa_cons (pv 0) (pa_cons pe_int pa_nil))))
      (pss_one (ps_ret (pe_and (pe_chain op_lt op_le pe_int (pv 1) (pe_glob (v := .int K_LONGEST_WORD) (by rfl) m_LONGEST_WORD ⟨_, rfl⟩)) (pe_and (pe_cmpR op_eq (pv 1) (pe_callB call_len_str (by rfl) z_len PySem.boot_len (pa_cons (pv 0) pa_nil)) (nomark _)) (pe_one (pe_cmpR op_notIn_seq (pv 0) (pe_glob (v := .ref _) (by rfl) m_RESERVED rfl) rfl))))))), ?_⟩
  have hz : (T l).length ≤ sizeLine := by rw [T_len]; exact small9 (by omega)
  walk_at "w"
  refine ⟨l, 0, rfl, Nat.zero_le _, hl, ?_⟩
  walk_at "w"
  have c1 : decide ((0 : Int) < ((wordEnd l 0 : Nat) : Int)) = decide (0 < wordEnd l 0) := decide_eq_decide.mpr (by omega)
  have c2 : decide (((wordEnd l 0 : Nat) : Int) ≤ K_LONGEST_WORD) = decide (wordEnd l 0 ≤ 20) := decide_eq_decide.mpr (by show ((wordEnd l 0 : Nat) : Int) ≤ 20 ↔ _; omega)
  have c3 : decide (V.int ((wordEnd l 0 : Nat) : Int) = V.int (l.length : Int)) = decide (wordEnd l 0 = l.length) := decide_eq_decide.mpr ⟨fun z => by have := V.int.inj z; omega, fun z => by rw [z]⟩
  unfold isNm at q
  rw [c1]
  cases d1 : decide (0 < wordEnd l 0) with
  | false =>
    rw [d1] at q
    exact iteF ⟨_, rfl, iteF q⟩
  | true =>
    rw [d1] at q
    refine iteT ?_
    refine ⟨_, _, rfl, rfl, _, rfl, ?_⟩
    rw [c2]
    cases d2 : decide (wordEnd l 0 ≤ 20) with
    | false =>
      rw [d2] at q
      exact iteF q
    | true =>
      rw [d2] at q
      refine iteT ⟨_, rfl, _, rfl, _, rfl, hz, rfl, ?_⟩
      rw [T_len, c3]
      refine ⟨_, rfl, ?_⟩
      cases d3 : decide (wordEnd l 0 = l.length) with
      | false =>
        rw [d3] at q
        exact iteF q
      | true =>
        rw [d3] at q
        refine iteT ⟨_, rfl, r, _, rfl, .inr (hR H), rfl, flat_strs _, ?_⟩
        rw [inV_strs]
        exact q
/-- a token: is it a word, its codes, its index -/
structure Tk where
  wd : Bool
  s : List Nat
  i : Nat
def tkD (t : Tk) : PyData := .tuple [.str (if t.wd then Str.ofString "word" else Str.ofString "sign"), .str (T t.s), .int (t.i : Int)]
def endD (n : Nat) : PyData := .tuple [.str (Str.ofString "end"), .str (Str.ofString ""), .int (n : Int)]
/-- the tokens of what is left from an index on, and the index of a place where none begins -/
def scan : Nat → List Nat → Nat → List Tk × Option Nat
  | 0, _, _ => ([], none)
  | _ + 1, [], _ => ([], none)
  | n + 1, c :: r, a =>
    if isB c then scan n r (a + 1)
    else if c = 35 then scan n (r.drop (behind 10 r)) (a + 1 + behind 10 r)
    else if isS c then (⟨false, [c], a⟩ :: (scan n r (a + 1)).1, (scan n r (a + 1)).2)
    else if isL c && decide ((r.takeWhile isW).length < 20) then
      (⟨true, c :: r.take (r.takeWhile isW).length, a⟩ :: (scan n (r.drop (r.takeWhile isW).length) (a + 1 + (r.takeWhile isW).length)).1, (scan n (r.drop (r.takeWhile isW).length) (a + 1 + (r.takeWhile isW).length)).2)
    else ([], some a)
theorem tkN (t : Tk) : TupN 2 (tkD t) := ⟨(by show 3 ≤ 100000; decide), fun d hd => by
  rcases List.mem_cons.mp hd with rfl | hd
  · trivial
  rcases List.mem_cons.mp hd with rfl | hd
  · trivial
  rw [List.mem_singleton.mp hd]
  trivial⟩
theorem endN (n : Nat) : TupN 2 (endD n) := ⟨(by show 3 ≤ 100000; decide), fun d hd => by
  rcases List.mem_cons.mp hd with rfl | hd
  · trivial
  rcases List.mem_cons.mp hd with rfl | hd
  · trivial
  rw [List.mem_singleton.mp hd]
  trivial⟩
def spCommentEnd : Sp := fun vs H Q _ => ∃ (l : List Nat) (a : Nat), vs = [.str (T l), .int (a : Int)] ∧ a ≤ l.length ∧ l.length ≤ 100000 ∧ Q (.int ((a + behind 10 (l.drop a) : Nat) : Int)) H
theorem c_comment_end {f : Addr} {fd : FuncData} (D : Df K mg "_comment_end" s_comment_end f fd ["text", "at"]) (z_len : mg "len" = none) : Cl P w K mg base 1 "_comment_end" spCommentEnd := by
  refine D.cl sc_comment_end (fun vs H Q E h => ?_) (fun cdv A outer s H vs Q E hr h => ?_)
  · obtain ⟨l, a, rfl, _⟩ := h
    rfl
  obtain ⟨l, a, rfl, ha, hl, q⟩ := h
  refine ⟨_, (pss_cons (ps_set (i := 2) sc_comment_end.nd rfl (.inl rfl) (pe_bm PySem.F.plainAttrs_str PySem.F.slot_str_find PySem.F.type_str_find mt_find3 (pv 0) (pa_cons pe_str (pa_cons (pv 1) pa_nil))))
      (pss_one (ps_ret (pe_ifExp (pt_cmpR op_lt (pv 2) pe_int (nomark _)) (pe_callB call_len_str (by rfl) z_len PySem.boot_len (pa_cons (pv 0) pa_nil)) (pv 2))))), ?_⟩
  have hz : (T l).length ≤ sizeLine := by rw [T_len]; exact small9 (by omega)
  refine ⟨_, rfl, rfl, _, rfl, _, _, _, rfl, rfl, ?_⟩
  rw [nl_eq]
  show gName 2 (.int (Txt.find3 (T l) ⟨#[10]⟩ (a : Int))) _ _ _
  rw [find1 (T l) 10 a (by rw [T_len]; exact ha), T_len]
  have hb := behind_le 10 (l.drop a)
  rw [List.length_drop] at hb
  show gName 2 (.int (if a + behind 10 (l.drop a) < l.length then ((a + behind 10 (l.drop a) : Nat) : Int) else -1)) _ _ _
  by_cases h : a + behind 10 (l.drop a) < l.length
  · rw [if_pos h]
    walk_at "w"
    exact q
  · rw [if_neg h]
    walk_at "w"
    refine ⟨hz, ?_⟩
    rw [T_len, show l.length = a + behind 10 (l.drop a) by omega]
    rw [show a + behind 10 (l.drop a) = l.length by omega] at q ⊢
    exact q
/-- a word that may be one -/
def wordOk (l : List Nat) (a : Nat) : Prop := ∃ c r, l.drop a = c :: r ∧ isL c = true ∧ (r.takeWhile isW).length < 20
theorem wordEnd_ok {l : List Nat} {a : Nat} {c : Nat} {r : List Nat} (h : l.drop a = c :: r) (hc : isL c = true) : wordEnd l a = a + 1 + (r.takeWhile isW).length := by
  unfold wordEnd
  rw [h]
  show (if isL c then a + 1 + (r.takeWhile isW).length else a) = _
  rw [if_pos hc]
def spWordAt : Sp := fun vs H Q _ => ∃ (l : List Nat) (a : Nat) (c : Nat) (r : List Nat), vs = [.str (T l), .int (a : Int)] ∧ l.length ≤ 100000 ∧ l.drop a = c :: r ∧ isL c = true ∧ (r.takeWhile isW).length < 20 ∧ Q (.str (T (c :: r.take (r.takeWhile isW).length))) H
theorem c_word_at {f : Addr} {fd : FuncData} {t : Tok} (D : Df K mg "_word_at" s_word_at f fd ["text", "at"]) (c_word_end : Cl P w K mg base 1 "_word_end" spWordEnd) (m_LONGEST_WORD : mg "LONGEST_WORD" = some (.int K_LONGEST_WORD t)) : Cl P w K mg base 2 "_word_at" spWordAt := by
  refine D.cl sc_word_at (fun vs H Q E h => ?_) (fun cdv A outer s H vs Q E hr h => ?_)
  · obtain ⟨l, a, c, r, rfl, _⟩ := h
    rfl
  obtain ⟨l, a, c, r, rfl, hl, hd, hc, hw, q⟩ := h
  refine ⟨_, (pss_cons (ps_set (i := 2) sc_word_at.nd rfl (.inl rfl) (pc c_word_end hr (by first | decide | omega) (by rfl) (pa_cons (pv 0) (pa_cons (pv 1) pa_nil))))
      (pss_cons (ps_if (PW.pt (pw_or (pt_cmpR op_eq (pv 2) (pv 1) (nomark _)) (pw_or1 (pt_cmpR op_gt (pe_op op_sub (pv 2) (pv 1)) (pe_glob (v := .int K_LONGEST_WORD) (by rfl) m_LONGEST_WORD ⟨_, rfl⟩) (nomark _))))) pss_never pss_nil)
      (pss_one (ps_ret (pe_slice sl_str (pv 0) (po_some (pv 1)) (po_some (pv 2))))))), ?_⟩
  have hz : (T l).length ≤ sizeLine := by rw [T_len]; exact small9 (by omega)
  have hlen : (l.drop a).length = l.length - a := List.length_drop
  rw [hd, List.length_cons] at hlen
  have hk := (List.takeWhile_prefix isW (l := r)).length_le
  refine ⟨_, rfl, _, rfl, l, a, rfl, by omega, hl, ?_⟩
  rw [wordEnd_ok hd hc]
  walk_at "w"
  refine ⟨rfl, _, rfl, ?_⟩
  rw [decide_eq_false (fun z => by have := V.int.inj z; omega)]
  refine iteF ?_
  walk_at "w"
  rw [decide_eq_false (show ¬ K_LONGEST_WORD < ((a + 1 + (r.takeWhile isW).length : Nat) : Int) - (a : Int) by show ¬ (20 : Int) < _; omega)]
  refine iteF ?_
  walk_at "w"
  refine ⟨hz, ?_⟩
  rw [cut_mid l (by omega) (by omega), hd, show a + 1 + (r.takeWhile isW).length - a = (r.takeWhile isW).length + 1 by omega]
  exact q
def spSplit (K : PySem.W.Frag) : Sp := fun vs H Q _ => ∃ (l : List Nat) (ts : List Tk), vs = [.str (T l)] ∧ l.length ≤ 20000 ∧ scan l.length l 0 = (ts, none) ∧ ∀ p H', Same H H' → Dp K H' (.ref p) (.tuple (ts.map tkD ++ [endD l.length])) → Q (.ref p) H'
theorem c_split_tokens {f : Addr} {fd : FuncData} {tB tS : Tok} (D : Df K mg "split_tokens" s_split_tokens f fd ["text"]) (c_comment_end : Cl P w K mg base 1 "_comment_end" spCommentEnd) (c_word_at : Cl P w K mg base 2 "_word_at" spWordAt)
    (m_BLANKS : mg "BLANKS" = some (.str K_BLANKS tB)) (m_SIGNS : mg "SIGNS" = some (.str K_SIGNS tS)) (z_len : mg "len" = none) (z_tuple : mg "tuple" = none) : Cl P w K mg base 3 "split_tokens" (spSplit K) := by
  refine D.cl sc_split_tokens (fun vs H Q E h => ?_) (fun cdv A outer s H vs Q E hr h => ?_)
  · obtain ⟨l, ts, rfl, _⟩ := h
    rfl
  obtain ⟨l, ts, rfl, hl, hs, q⟩ := h
  refine ⟨_, (pss_cons (ps_set (i := 1) sc_split_tokens.nd rfl (.inl rfl) (pe_lst pa_nil))
      (pss_cons (ps_set (i := 2) sc_split_tokens.nd rfl (.inl rfl) pe_int)
      (pss_cons (ps_while PassesOwn.never (pt_cmpR op_lt (pv 2) (pe_callB call_len_str (by rfl) z_len PySem.boot_len (pa_cons (pv 0) pa_nil)) (nomark _)) (pss_one (ps_if (pt_cmpR op_in_sign (pe_ix ix_str (pv 0) (pv 2) (fun _ _ => rfl)) (pe_glob (v := .str K_BLANKS) (by rfl) m_BLANKS ⟨_, rfl⟩) rfl) (pss_one (ps_aug (i := 2) sc_split_tokens.nd rfl (.inl rfl) pe_int ip_add)) (pss_one (ps_if (pt_cmpR op_eq (pe_ix ix_str (pv 0) (pv 2) (fun _ _ => rfl)) pe_str (nomark _)) (pss_one (ps_set (i := 2) sc_split_tokens.nd rfl (.inl rfl) (pc c_comment_end hr (by first | decide | omega) (by rfl) (pa_cons (pv 0) (pa_cons (pv 2) pa_nil))))) (pss_one (ps_if (pt_cmpR op_in_sign (pe_ix ix_str (pv 0) (pv 2) (fun _ _ => rfl)) (pe_glob (v := .str K_SIGNS) (by rfl) m_SIGNS ⟨_, rfl⟩) rfl) (pss_cons (ps_expr (pe_bm PySem.F.plainAttrs_list PySem.F.slot_list_append PySem.F.type_list_append mt_append (pv 1) (pa_cons (pe_tup (pa_cons pe_str (pa_cons (pe_ix ix_str (pv 0) (pv 2) (fun _ _ => rfl)) (pa_cons (pv 2) pa_nil)))) pa_nil)))
      (pss_one (ps_aug (i := 2) sc_split_tokens.nd rfl (.inl rfl) pe_int ip_add))) (pss_cons (ps_set (i := 3) sc_split_tokens.nd rfl (.inl rfl) (pc c_word_at hr (by first | decide | omega) (by rfl) (pa_cons (pv 0) (pa_cons (pv 2) pa_nil))))
      (pss_cons (ps_expr (pe_bm PySem.F.plainAttrs_list PySem.F.slot_list_append PySem.F.type_list_append mt_append (pv 1) (pa_cons (pe_tup (pa_cons pe_str (pa_cons (pv 3) (pa_cons (pv 2) pa_nil)))) pa_nil)))
      (pss_one (ps_aug (i := 2) sc_split_tokens.nd rfl (.inl rfl) (pe_callB call_len_str (by rfl) z_len PySem.boot_len (pa_cons (pv 3) pa_nil)) ip_add)))))))))))
      (pss_cons (ps_expr (pe_bm PySem.F.plainAttrs_list PySem.F.slot_list_append PySem.F.type_list_append mt_append (pv 1) (pa_cons (pe_tup (pa_cons pe_str (pa_cons pe_str (pa_cons (pe_callB call_len_str (by rfl) z_len PySem.boot_len (pa_cons (pv 0) pa_nil)) pa_nil)))) pa_nil)))
      (pss_one (ps_ret (pe_callTy call_tuple_of (by rfl) z_tuple (by decide +kernel) (pa_cons (pv 1) pa_nil)))))))), ?_⟩
  have hz : (T l).length ≤ sizeLine := by rw [T_len]; exact small9 (by omega)
  have item : ∀ (i c : Nat) (r : List Nat), l.drop i = c :: r → atI (T l).cps.toList (i : Int) = some c := fun i c r hd => atI_nat (by
    show l[i]? = some c
    rw [← List.head?_drop, hd]
    rfl)
  refine ⟨Nat.zero_le _, fun tk htk => ?_⟩
  walk_at "w"
  refine ⟨fun m σ' H' => ∃ (n a : Nat) (acc rest : List Tk) (vs : List V) (x : Option V), σ' = [some (.str (T l)), some (.ref tk), some (.int (a : Int)), x] ∧ m = l.length - a ∧ a ≤ l.length ∧ l.length - a ≤ n ∧ scan n (l.drop a) a = (rest, none) ∧ acc ++ rest = ts ∧ acc.length ≤ a ∧ H' tk = some (.lst vs) ∧ DpAll K H' vs (acc.map tkD) ∧ Same H H',
    ⟨_, l.length, 0, [], ts, [], none, rfl, rfl, Nat.zero_le _, Nat.le_refl _, hs, rfl, Nat.le_refl _, upd_same, .nil, Same.new _ htk⟩, ?_⟩
  rintro m _ H1 ⟨n, a, acc, rest, vs, x, rfl, rfl, hal, hn, hsc, hts, hacc, hk, hD, hS⟩
  have hvl : vs.length = acc.length := by rw [dpAll_len hD, List.length_map]
  have hsz : vs.length < sizeLine := Nat.lt_of_le_of_lt (show vs.length ≤ 20000 by omega) (by decide)
  have hsh : ∀ (t : Tk) , TupN 2 (tkD t) := tkN
  -- what a turn reaches
  have go : ∀ (n' a' : Nat) (acc' rest' : List Tk) (vs' : List V) (x' : Option V) (H' : Hp), a < a' → a' ≤ l.length → l.length - a' ≤ n' → scan n' (l.drop a') a' = (rest', none) → acc' ++ rest' = ts → acc'.length ≤ a' → H' tk = some (.lst vs') → DpAll K H' vs' (acc'.map tkD) → Same H H' →
      ∃ m', m' < l.length - a ∧ ∃ (n a : Nat) (acc rest : List Tk) (vs : List V) (x : Option V), ([some (.str (T l)), some (.ref tk), some (.int (a' : Int)), x'] : L2.St) = [some (.str (T l)), some (.ref tk), some (.int (a : Int)), x] ∧ m' = l.length - a ∧ a ≤ l.length ∧ l.length - a ≤ n ∧ scan n (l.drop a) a = (rest, none) ∧ acc ++ rest = ts ∧ acc.length ≤ a ∧ H' tk = some (.lst vs) ∧ DpAll K H' vs (acc.map tkD) ∧ Same H H' :=
    fun n' a' acc' rest' vs' x' H' h1 h2 h3 h4 h5 h6 h7 h8 h9 => ⟨_, by omega, n', a', acc', rest', vs', x', rfl, rfl, h2, h3, h4, h5, h6, h7, h8, h9⟩
  -- a new token behind
  have new : ∀ (t : Tk) (p : Addr), H1 p = none → DpAll K (upd (upd H1 p (.tup [.str (if t.wd then Str.ofString "word" else Str.ofString "sign"), .str (T t.s), .int (t.i : Int)])) tk (.lst (vs ++ [.ref p]))) (vs ++ [.ref p]) ((acc ++ [t]).map tkD) := fun t p hp => by
    have np : tk ≠ p := ne_of_none hk hp
    have k1 : KT K H1 (upd H1 p (.tup [.str (if t.wd then Str.ofString "word" else Str.ofString "sign"), .str (T t.s), .int (t.i : Int)])) := KT.new _ hp
    have k2 : KT K (upd H1 p (.tup [.str (if t.wd then Str.ofString "word" else Str.ofString "sign"), .str (T t.s), .int (t.i : Int)])) (upd (upd H1 p (.tup [.str (if t.wd then Str.ofString "word" else Str.ofString "sign"), .str (T t.s), .int (t.i : Int)])) tk (.lst (vs ++ [.ref p]))) := KT.lst _ ((upd_ne np).trans hk)
    rw [List.map_append]
    refine dpAll_app (DpAll.kt (k1.trans k2) (n := 2) (fun d hd => ?_) hD) (.cons (.tup (k2 _ _ (SqT.of upd_same)) (.cons (.str _) (.cons (.str _) (.cons (.int _) .nil)))) .nil)
    obtain ⟨t', _, rfl⟩ := List.mem_map.mp hd
    exact tkN t'
  have newS : ∀ (p : Addr) (o o' : HO), H1 p = none → Same H (upd (upd H1 p o) tk o') := fun p o o' hp => Same.mut _ (hS.trans (Same.new _ hp)) htk
  walk_at "w"
  refine ⟨hz, ?_⟩
  walk_at "w"
  rw [T_len]
  by_cases h1 : a < l.length
  · obtain ⟨c, r, hd⟩ : ∃ c r, l.drop a = c :: r := ⟨_, _, List.drop_eq_getElem_cons h1⟩
    have hr1 : l.drop (a + 1) = r := by rw [← List.drop_drop, hd]; rfl
    have hrl : r.length = l.length - (a + 1) := by rw [← hr1, List.length_drop]
    obtain ⟨n, rfl⟩ : ∃ k, n = k + 1 := ⟨n - 1, by omega⟩
    rw [hd] at hsc
    unfold scan at hsc
    rw [decide_eq_true (show (a : Int) < (l.length : Int) by omega)]
    refine iteT ⟨_, fun σ' H' n => n, ?_⟩
    refine ⟨_, rfl, _, rfl, _, _, _, rfl, rfl, hz, item a c r hd, _, _, rfl, rfl, _, rfl, ?_⟩
    show if isB c = true then _ else _
    by_cases hB : isB c = true
    · rw [if_pos hB] at hsc ⊢
      walk_at "w"
      exact go n (a + 1) acc rest vs x H1 (by omega) (by omega) (by omega) (by rw [hr1]; exact hsc) hts (by omega) hk hD hS
    rw [if_neg hB] at hsc ⊢
    refine ⟨_, rfl, _, rfl, _, _, _, rfl, rfl, hz, item a c r hd, rfl, _, rfl, ?_⟩
    rw [show Str.ofString "#" = T [35] by decide +kernel]
    show if decide (V.str (T [c]) = V.str (T [35])) = true then _ else _
    rw [V_eq]
    by_cases hC : c = 35
    · rw [if_pos hC] at hsc
      rw [decide_eq_true (show [c] = [35] by rw [hC])]
      refine iteT ?_
      refine ⟨_, rfl, _, rfl, l, a, rfl, hal, by omega, ?_⟩
      have hb := behind_le 10 r
      rw [hd, behind_cons, if_neg (show c ≠ 10 by omega), show a + (behind 10 r + 1) = a + 1 + behind 10 r by omega]
      walk_at "w"
      refine go n (a + 1 + behind 10 r) acc rest vs x H1 (by omega) (by omega) (by omega) ?_ hts (by omega) hk hD hS
      rw [← List.drop_drop, hr1]
      exact hsc
    rw [if_neg hC] at hsc
    rw [decide_eq_false (fun z => hC (List.head_eq_of_cons_eq z))]
    refine iteF ?_
    refine ⟨_, rfl, _, rfl, _, _, _, rfl, rfl, hz, item a c r hd, _, _, rfl, rfl, _, rfl, ?_⟩
    show if isS c = true then _ else _
    by_cases hG : isS c = true
    · rw [if_pos hG] at hsc
      rw [if_pos hG]
      refine ⟨_, rfl, .inl ⟨rfl, _, SqL.of hk⟩, _, rfl, _, rfl, _, _, _, rfl, rfl, hz, item a c r hd, _, rfl, by show 3 ≤ sizeLine; decide, fun p hp => ?_⟩
      have np : tk ≠ p := ne_of_none hk hp
      refine ⟨tk, _, _, rfl, rfl, (upd_ne np).trans hk, hsz, ?_⟩
      walk_at "w"
      have e1 := (Prod.mk.inj hsc).1
      have e2 := (Prod.mk.inj hsc).2
      exact go n (a + 1) (acc ++ [(Tk.mk false [c] a)]) (scan n r (a + 1)).1 _ x _ (by omega) (by omega) (by omega) (by rw [hr1, ← e2]) (by rw [List.append_assoc, ← hts, ← e1]; rfl) (by rw [List.length_append]; show _ + 1 ≤ _; omega) upd_same (new (Tk.mk false [c] a) p hp) (newS p _ _ hp)
    rw [if_neg hG] at hsc
    rw [if_neg hG]
    by_cases hW : (isL c && decide ((r.takeWhile isW).length < 20)) = true
    · rw [if_pos hW] at hsc
      rw [Bool.and_eq_true] at hW
      have hk2 := (List.takeWhile_prefix isW (l := r)).length_le
      refine ⟨_, rfl, _, rfl, l, a, c, r, rfl, by omega, hd, hW.1, of_decide_eq_true hW.2, ?_⟩
      walk_at "w"
      refine ⟨.inl ⟨rfl, _, SqL.of hk⟩, ?_⟩
      walk_at "w"
      refine ⟨by show 3 ≤ sizeLine; decide, fun p hp => ?_⟩
      have np : tk ≠ p := ne_of_none hk hp
      refine ⟨tk, _, _, rfl, rfl, (upd_ne np).trans hk, hsz, ?_⟩
      walk_at "w"
      have hwl : (c :: r.take (r.takeWhile isW).length).length = (r.takeWhile isW).length + 1 := by rw [List.length_cons, List.length_take, Nat.min_eq_left hk2]
      refine ⟨by rw [T_len, hwl]; exact small9 (by omega), ?_⟩
      rw [T_len, hwl]
      walk_at "w"
      have e1 := (Prod.mk.inj hsc).1
      have e2 := (Prod.mk.inj hsc).2
      have ea : a + ((r.takeWhile isW).length + 1) = a + 1 + (r.takeWhile isW).length := by omega
      refine go n (a + ((r.takeWhile isW).length + 1)) (acc ++ [(Tk.mk true (c :: r.take (r.takeWhile isW).length) a)]) (scan n (r.drop (r.takeWhile isW).length) (a + 1 + (r.takeWhile isW).length)).1 _ _ _ (by omega) (by omega) (by omega) ?_ (by rw [List.append_assoc, ← hts, ← e1]; rfl) (by rw [List.length_append]; show _ + 1 ≤ _; omega) upd_same (new (Tk.mk true (c :: r.take (r.takeWhile isW).length) a) p hp) (newS p _ _ hp)
      rw [ea, ← List.drop_drop, hr1, ← e2]
    · rw [if_neg hW] at hsc
      exact absurd (Prod.mk.inj hsc).2 (by simp)
  · rw [decide_eq_false (show ¬ (a : Int) < (l.length : Int) by omega)]
    refine iteF ?_
    have ea : a = l.length := by omega
    have er : rest = [] := by
      rw [List.drop_eq_nil_of_le (by omega)] at hsc
      cases n with
      | zero => exact (Prod.mk.inj hsc).1.symm
      | succ n => exact (Prod.mk.inj hsc).1.symm
    rw [er, List.append_nil] at hts
    refine ⟨_, rfl, .inl ⟨rfl, _, SqL.of hk⟩, _, rfl, _, rfl, hz, by show 3 ≤ sizeLine; decide, fun p hp => ?_⟩
    have np : tk ≠ p := ne_of_none hk hp
    refine ⟨tk, _, _, rfl, rfl, (upd_ne np).trans hk, hsz, ?_⟩
    rw [T_len]
    refine ⟨_, rfl, tk, _, rfl, .inl ⟨SqL.of upd_same, fun g hg => ?_⟩⟩
    have k1 : KT K H1 (upd H1 p (.tup [.str (Str.ofString "end"), .str (Str.ofString ""), .int (l.length : Int)])) := KT.new _ hp
    have k2 := KT.lst (K := K) (.lst (vs ++ [.ref p])) ((upd_ne (o := .tup [.str (Str.ofString "end"), .str (Str.ofString ""), .int (l.length : Int)]) np).trans hk)
    have k3 := KT.new (K := K) (.tup (vs ++ [.ref p])) hg
    refine q g _ ((newS p _ _ hp).trans (Same.new _ hg)) (.tup (SqT.of upd_same) (dpAll_app (DpAll.kt ((k1.trans k2).trans k3) (n := 2) (fun d hd => ?_) (hts ▸ hD)) (.cons (.tup ((k2.trans k3) _ _ (SqT.of upd_same)) (.cons (.str _) (.cons (.str _) (.cons (.int _) .nil)))) .nil)))
    obtain ⟨t', _, rfl⟩ := List.mem_map.mp hd
    exact tkN t'
/-! the law's spelling, by lists of codes -/
theorem scan_fuel : ∀ (n m : Nat) (l : List Nat) (a : Nat), l.length ≤ n → l.length ≤ m → scan n l a = scan m l a
  | 0, 0, _, _, _, _ => rfl
  | 0, m + 1, [], _, _, _ => rfl
  | 0, _ + 1, _ :: _, _, h, _ => by simp at h
  | n + 1, 0, [], _, _, _ => rfl
  | _ + 1, 0, _ :: _, _, _, h => by simp at h
  | n + 1, m + 1, [], _, _, _ => rfl
  | n + 1, m + 1, c :: r, a, h1, h2 => by
    have k1 : r.length ≤ n := Nat.le_of_succ_le_succ h1
    have k2 : r.length ≤ m := Nat.le_of_succ_le_succ h2
    have d : ∀ k, (r.drop k).length ≤ r.length := fun k => by rw [List.length_drop]; omega
    unfold scan
    rw [scan_fuel n m r (a + 1) k1 k2, scan_fuel n m (r.drop (behind 10 r)) _ (Nat.le_trans (d _) k1) (Nat.le_trans (d _) k2), scan_fuel n m (r.drop (r.takeWhile isW).length) _ (Nat.le_trans (d _) k1) (Nat.le_trans (d _) k2)]
/-- the tokens of what is left -/
def scanT (l : List Nat) (a : Nat) : List Tk × Option Nat := scan l.length l a
theorem scanT_eq {n : Nat} {l : List Nat} {a : Nat} (h : l.length ≤ n) : scan n l a = scanT l a := scan_fuel n l.length l a h (Nat.le_refl _)
theorem scanT_cons (c : Nat) (r : List Nat) (a : Nat) : scanT (c :: r) a =
    if isB c then scanT r (a + 1)
    else if c = 35 then scanT (r.drop (behind 10 r)) (a + 1 + behind 10 r)
    else if isS c then (⟨false, [c], a⟩ :: (scanT r (a + 1)).1, (scanT r (a + 1)).2)
    else if isL c && decide ((r.takeWhile isW).length < 20) then
      (⟨true, c :: r.take (r.takeWhile isW).length, a⟩ :: (scanT (r.drop (r.takeWhile isW).length) (a + 1 + (r.takeWhile isW).length)).1, (scanT (r.drop (r.takeWhile isW).length) (a + 1 + (r.takeWhile isW).length)).2)
    else ([], some a) := by
  have d : ∀ k, (r.drop k).length ≤ r.length := fun k => by rw [List.length_drop]; omega
  show scan (r.length + 1) (c :: r) a = _
  unfold scan
  rw [scanT_eq (Nat.le_refl _), scanT_eq (d _), scanT_eq (d _)]
theorem isB_mem {c : Nat} (h : isB c = true) : c = 32 ∨ c = 10 := by
  have e : K_BLANKS.cps.toList = [32, 10] := by decide +kernel
  unfold isB at h
  rw [e] at h
  simpa using of_decide_eq_true h
theorem isS_mem {c : Nat} (h : isS c = true) : c ∈ [40, 41, 59, 44, 58] := by
  have e : K_SIGNS.cps.toList = [40, 41, 59, 44, 58] := by decide +kernel
  unfold isS at h
  rw [e] at h
  exact of_decide_eq_true h
theorem blank_noW {c : Nat} (h : isB c = true) : isW c = false := by
  rcases isB_mem h with rfl | rfl <;> decide +kernel
theorem hash_noW : isW 35 = false := by decide +kernel
theorem sign_noW : ∀ {c : Nat}, isS c = true → isW c = false ∧ isB c = false ∧ c ≠ 35 := by
  have k : ∀ c ∈ [40, 41, 59, 44, 58], isW c = false ∧ isB c = false ∧ c ≠ 35 := by decide +kernel
  exact fun {c} h => k _ (isS_mem h)
theorem letter_no : ∀ {c : Nat}, isL c = true → isB c = false ∧ c ≠ 35 ∧ isS c = false := by
  have k : ∀ c ∈ K_LETTERS.cps.toList, isB c = false ∧ c ≠ 35 ∧ isS c = false := by decide +kernel
  exact fun {c} h => k _ (of_decide_eq_true h)
/-- what is passed over between tokens -/
structure GapP (g : List Nat) : Prop where
  pass : ∀ (r : List Nat) (a : Nat), scanT (g ++ r) a = scanT r (a + g.length)
  head : ∀ (c : Nat) (r : List Nat), g = c :: r → isW c = false
theorem gap_blank : ∀ {g : List Nat}, g.all isB = true → GapP g
  | [], _ => ⟨fun r a => rfl, fun c r h => nomatch h⟩
  | c :: g, h => by
    rw [List.all_cons, Bool.and_eq_true] at h
    refine ⟨fun r a => ?_, fun c' r e => ?_⟩
    · rw [List.cons_append, scanT_cons, if_pos h.1, (gap_blank h.2).pass, List.length_cons]
      congr 1
      omega
    · cases e
      exact blank_noW h.1
theorem behind_app (c : Nat) : ∀ {a b : List Nat}, c ∉ a → behind c (a ++ c :: b) = a.length
  | [], b, _ => by rw [List.nil_append, behind_cons, if_pos rfl]; rfl
  | x :: a, b, h => by
    rw [List.cons_append, behind_cons, if_neg (fun e => h (by rw [e]; exact List.mem_cons_self ..)), behind_app c fun m => h (List.mem_cons_of_mem _ m)]
    rfl
theorem gap_comment {cs : List Nat} (h : 10 ∉ cs) : GapP (35 :: cs ++ [10]) := by
  refine ⟨fun r a => ?_, fun c r e => ?_⟩
  · have e : (35 :: cs ++ [10]) ++ r = 35 :: (cs ++ 10 :: r) := by simp
    rw [e, scanT_cons, if_neg (by decide +kernel), if_pos rfl, behind_app 10 h, List.drop_left, scanT_cons, if_pos (by decide +kernel)]
    congr 1
    simp
    omega
  · cases e
    exact hash_noW
def wordB : List Nat → Bool
  | c :: w => isL c && w.all isW && decide (w.length < 20)
  | [] => false
def signB : List Nat → Bool
  | [c] => isS c
  | _ => false
theorem takeWhile_app {p : Nat → Bool} : ∀ {a b : List Nat}, a.all p = true → (∀ c r, b = c :: r → p c = false) → (a ++ b).takeWhile p = a
  | [], [], _, _ => rfl
  | [], c :: r, _, h => by
    rw [List.nil_append, List.takeWhile_cons, h c r rfl]
    rfl
  | x :: a, b, ha, h => by
    rw [List.all_cons, Bool.and_eq_true] at ha
    rw [List.cons_append, List.takeWhile_cons, ha.1, takeWhile_app ha.2 h]
    rfl
theorem scan_word {w r : List Nat} {a : Nat} (h : wordB w = true) (hr : ∀ c t, r = c :: t → isW c = false) : scanT (w ++ r) a = (⟨true, w, a⟩ :: (scanT r (a + w.length)).1, (scanT r (a + w.length)).2) := by
  cases w with
  | nil => exact absurd h (by decide)
  | cons c w =>
    unfold wordB at h
    rw [Bool.and_eq_true, Bool.and_eq_true] at h
    obtain ⟨⟨h1, h2⟩, h3⟩ := h
    obtain ⟨n1, n2, n3⟩ := letter_no h1
    have e : (w ++ r).takeWhile isW = w := takeWhile_app h2 hr
    rw [List.cons_append, scanT_cons, if_neg (by rw [n1]; decide), if_neg n2, if_neg (by rw [n3]; decide), e, if_pos (by rw [h1, h3]; rfl), List.take_left, List.drop_left, List.length_cons]
    rw [show a + 1 + w.length = a + (w.length + 1) by omega]
theorem scan_sign {w r : List Nat} {a : Nat} (h : signB w = true) : scanT (w ++ r) a = (⟨false, w, a⟩ :: (scanT r (a + w.length)).1, (scanT r (a + w.length)).2) := by
  match w, h with
  | [c], h =>
    obtain ⟨n1, n2, n3⟩ := sign_noW (c := c) h
    rw [List.cons_append, List.nil_append, scanT_cons, if_neg (by rw [n2]; decide), if_neg n3, if_pos (show isS c = true from h)]
    rfl
/-- rows with what stands behind each -/
def spellT : List (List Nat × List Nat) → List Nat
  | [] => []
  | p :: t => p.1 ++ p.2 ++ spellT t
def tokensOf : List (List Nat × List Nat) → Nat → List Tk
  | [], _ => []
  | p :: t, a => ⟨!signB p.1, p.1, a⟩ :: tokensOf t (a + p.1.length + p.2.length)
def GoodS : List (List Nat × List Nat) → Prop
  | [] => True
  | p :: t => (wordB p.1 = true ∨ signB p.1 = true) ∧ GapP p.2 ∧ (signB p.1 = false → p.2 = [] → ∀ q t', t = q :: t' → signB q.1 = true) ∧ GoodS t
theorem not_both {w : List Nat} (h : wordB w = true) : signB w = false := by
  match w, h with
  | [c], h =>
    show isS c = false
    unfold wordB at h
    rw [Bool.and_eq_true, Bool.and_eq_true] at h
    exact (letter_no h.1.1).2.2
  | _ :: _ :: _, _ => rfl
theorem scan_spell : ∀ {ps : List (List Nat × List Nat)} {a : Nat}, GoodS ps → scanT (spellT ps) a = (tokensOf ps a, none)
  | [], _, _ => rfl
  | p :: t, a, h => by
    obtain ⟨h1, h2, h3, h4⟩ := h
    have ih := scan_spell (ps := t) (a := a + p.1.length + p.2.length) h4
    have e2 : scanT (p.2 ++ spellT t) (a + p.1.length) = (tokensOf t (a + p.1.length + p.2.length), none) := by rw [h2.pass, ih]
    show scanT (p.1 ++ p.2 ++ spellT t) a = (⟨!signB p.1, p.1, a⟩ :: tokensOf t (a + p.1.length + p.2.length), none)
    rw [List.append_assoc]
    rcases h1 with h1 | h1
    · rw [scan_word h1 ?_, e2, not_both h1]
      · rfl
      · intro c r e
        cases hg : p.2 with
        | cons x g =>
          rw [hg] at e
          cases e
          exact h2.head _ _ hg
        | nil =>
          rw [hg, List.nil_append] at e
          cases t with
          | nil => cases e
          | cons q t' =>
            have hq := h3 (not_both h1) hg q t' rfl
            cases hw : q.1 with
            | nil => rw [hw] at hq; exact absurd hq (by decide)
            | cons y ys =>
              have e3 : y = c := by
                have : spellT (q :: t') = q.1 ++ q.2 ++ spellT t' := rfl
                rw [this, hw] at e
                exact (List.cons.inj e).1
              match ys, hw with
              | [], hw =>
                rw [hw] at hq
                rw [← e3]
                exact (sign_noW (c := y) hq).1
              | _ :: _, hw =>
                rw [hw] at hq
                exact Bool.noConfusion hq
    · rw [scan_sign h1, e2, h1]
      rfl
theorem spell_app : ∀ (ps qs : List (List Nat × List Nat)), spellT (ps ++ qs) = spellT ps ++ spellT qs
  | [], _ => rfl
  | p :: t, qs => by
    show p.1 ++ p.2 ++ spellT (t ++ qs) = p.1 ++ p.2 ++ spellT t ++ spellT qs
    rw [spell_app t qs, ← List.append_assoc]
theorem toks_len : ∀ (ps : List (List Nat × List Nat)) (a : Nat), (tokensOf ps a).length = ps.length
  | [], _ => rfl
  | p :: t, a => congrArg Nat.succ (toks_len t _)
/-! names with a drawn frame -/
def FrameOk (l r : List Nat) : Prop := (l = [] ∧ r = []) ∨ (l.all isL = true ∧ l.length ≤ 7 ∧ ∃ r', r = 95 :: r' ∧ r'.all isW = true ∧ r'.length ≤ 7)
def mk0 : List Nat := lit "abcdefghi"
def mk1 : List Nat := lit "rstuv"
def mk2 : List Nat := lit "klmno"
def mk3 : List Nat := lit "ABCDEFGHIJKL"
def nmL (l r m : List Nat) : List (List Nat) := m.map fun c => l ++ [c] ++ r
def strsV (ns : List (List Nat)) : List V := ns.map fun n => V.str (T n)
structure NA (H : Hp) (l r : List Nat) (nm p0 p1 p2 p3 : Addr) : Prop where
  top : H nm = some (.lst [.ref p0, .ref p1, .ref p2, .ref p3])
  a0 : H p0 = some (.lst (strsV (nmL l r mk0)))
  a1 : H p1 = some (.lst (strsV (nmL l r mk1)))
  a2 : H p2 = some (.lst (strsV (nmL l r mk2)))
  a3 : H p3 = some (.lst (strsV (nmL l r mk3)))
structure AP (d nm p0 p1 p2 p3 : Addr) : Prop where
  top : nm ≠ d
  a0 : p0 ≠ d
  a1 : p1 ≠ d
  a2 : p2 ≠ d
  a3 : p3 ≠ d
theorem NA.mono {H H' : Hp} {l r : List Nat} {d nm p0 p1 p2 p3 : Addr} (h : NA H l r nm p0 p1 p2 p3) (e : SameX d H H') (a : AP d nm p0 p1 p2 p3) : NA H' l r nm p0 p1 p2 p3 :=
  ⟨e _ _ a.top h.top, e _ _ a.a0 h.a0, e _ _ a.a1 h.a1, e _ _ a.a2 h.a2, e _ _ a.a3 h.a3⟩
theorem NA.same {H H' : Hp} {l r : List Nat} {nm p0 p1 p2 p3 : Addr} (h : NA H l r nm p0 p1 p2 p3) (e : Same H H') : NA H' l r nm p0 p1 p2 p3 :=
  ⟨e _ _ h.top, e _ _ h.a0, e _ _ h.a1, e _ _ h.a2, e _ _ h.a3⟩
theorem NA.fresh {H : Hp} {l r : List Nat} {d nm p0 p1 p2 p3 : Addr} (h : NA H l r nm p0 p1 p2 p3) (n : H d = none) : AP d nm p0 p1 p2 p3 :=
  ⟨ne_of_none h.top n, ne_of_none h.a0 n, ne_of_none h.a1 n, ne_of_none h.a2 n, ne_of_none h.a3 n⟩
def spFrame : Sp := fun vs H Q _ => ∃ (d : Addr) (ds : List Int), vs = [.ref d] ∧ H d = some (.lst (ds.map V.int)) ∧ ∀ (l r : List Nat) (t : Addr) (ds' : List Int) (H' : Hp), FrameOk l r → SameX d H H' → H' d = some (.lst (ds'.map V.int)) → H' t = some (.tup [.str (T l), .str (T r)]) → Q (.ref t) H'
theorem c_law_frame {f : Addr} {fd : FuncData} (D : Df K mg "_law_frame" s_law_frame f fd ["draws"]) (c_law_take : Cl P w K mg base 1 "_law_take" spTake) (z_range : mg "range" = none) : Cl P w K mg base 2 "_law_frame" spFrame := by
  refine D.cl sc_law_frame (fun vs H Q E h => ?_) (fun cdv A outer s H vs Q E hr h => ?_)
  · obtain ⟨d, ds, rfl, _⟩ := h
    rfl
  obtain ⟨d, ds, rfl, hd, q⟩ := h
  refine ⟨_, (pss_cons (ps_if (pt_cmpR op_eq (pc c_law_take hr (by first | decide | omega) (by rfl) (pa_cons (pv 0) (pa_cons pe_int pa_nil))) pe_int (nomark _)) (pss_one (ps_ret (pe_tup (pa_cons pe_str (pa_cons pe_str pa_nil))))) pss_nil)
      (pss_cons (ps_set (i := 1) sc_law_frame.nd rfl (.inl rfl) pe_str)
      (pss_cons (ps_for PassesOwn.never rfl (pi_range1 (by rfl) z_range (pa_cons (pc c_law_take hr (by first | decide | omega) (by rfl) (pa_cons (pv 0) (pa_cons pe_int pa_nil))) pa_nil)) (pg_name (i := 2) sc_law_frame.nd rfl (.inl rfl)) (pss_one (ps_set (i := 1) sc_law_frame.nd rfl (.inl rfl) (pe_op op_add_str (pv 1) (pe_ix ix_str pe_str (pc c_law_take hr (by first | decide | omega) (by rfl) (pa_cons (pv 0) (pa_cons pe_int pa_nil))) (fun _ _ => rfl))))))
      (pss_cons (ps_set (i := 3) sc_law_frame.nd rfl (.inl rfl) pe_str)
      (pss_cons (ps_for PassesOwn.never rfl (pi_range1 (by rfl) z_range (pa_cons (pc c_law_take hr (by first | decide | omega) (by rfl) (pa_cons (pv 0) (pa_cons pe_int pa_nil))) pa_nil)) (pg_name (i := 2) sc_law_frame.nd rfl (.inl rfl)) (pss_one (ps_set (i := 3) sc_law_frame.nd rfl (.inl rfl) (pe_op op_add_str (pv 3) (pe_ix ix_str pe_str (pc c_law_take hr (by first | decide | omega) (by rfl) (pa_cons (pv 0) (pa_cons pe_int pa_nil))) (fun _ _ => rfl))))))
      (pss_one (ps_ret (pe_tup (pa_cons (pv 1) (pa_cons (pv 3) pa_nil)))))))))), ?_⟩
  walk_at "w"
  refine ⟨d, ds, 2, rfl, hd, by decide, fun r0 _ _ => ?_⟩
  have tup : ∀ (l r : List Nat) (ds : List Int), FrameOk l r → ∀ t, (upd H d (.lst (ds.map V.int))) t = none → Q (.ref t) (upd (upd H d (.lst (ds.map V.int))) t (.tup [.str (T l), .str (T r)])) := fun l r ds h t ht =>
    q l r t ds _ h ((SameX.at _).trans (SameX.new _ ht)) ((upd_ne (ne_of_none upd_same ht)).trans upd_same) upd_same
  refine ⟨rfl, _, rfl, ite2 (fun c => ?_) (fun c => ?_)⟩
  · refine ⟨by show 2 ≤ sizeLine; decide, fun t ht => ?_⟩
    rw [e_eq]
    exact tup [] [] _ (.inl ⟨rfl, rfl⟩) t ht
  walk_at "w"
  refine ⟨d, _, 8, rfl, upd_same, by decide, fun n n0 n1 => ?_⟩
  rw [upd_upd]
  walk_at "w"
  refine ⟨by omega, by omega, for_range (lo := 0) (n := n.toNat) (fun i σ' H' => ∃ (l : List Nat) (ds : List Int) (x : Option V), σ' = [some (.ref d), some (.str (T l)), x, none] ∧ l.length = i ∧ l.all isL = true ∧ upd H d (.lst (ds.map V.int)) = H') ⟨[], _, none, by rw [← e_eq]; rfl, rfl, rfl, rfl⟩ ?_ ?_⟩
  · rintro i _ _ hi ⟨l, ds, x, rfl, hl, ha, rfl⟩
    walk_at "w"
    refine ⟨d, _, 53, rfl, upd_same, by decide, fun r r0 r1 => ?_⟩
    rw [upd_upd]
    refine ix_of isL r0 (Int.lt_of_lt_of_le r1 (by decide +kernel)) (by decide +kernel) (by decide +kernel) fun c hc => ?_
    refine ⟨_, _, rfl, rfl, by rw [T_len]; exact small9 (by show l.length + 1 ≤ _; omega), l ++ [c], _, some (.int (0 + (i : Int))), ?_, by rw [List.length_append, hl]; rfl, ?_, rfl⟩
    · rw [show (sg c) = T [c] from rfl, T_cat]
      rfl
    · rw [List.all_append, ha]
      show (true && (isL c && true)) = true
      rw [hc]
      rfl
  rintro _ _ ⟨l, ds, x, rfl, hl, ha, rfl⟩
  walk_at "w"
  refine ⟨d, _, 8, rfl, upd_same, by decide, fun n2 m0 m1 => ?_⟩
  rw [upd_upd]
  walk_at "w"
  refine ⟨by omega, by omega, for_range (lo := 0) (n := n2.toNat) (fun i σ' H' => ∃ (r : List Nat) (ds : List Int) (x : Option V), σ' = [some (.ref d), some (.str (T l)), x, some (.str (T (95 :: r)))] ∧ r.length = i ∧ r.all isW = true ∧ upd H d (.lst (ds.map V.int)) = H') ⟨[], _, x, by rw [← show Str.ofString "_" = T [95] by decide +kernel]; rfl, rfl, rfl, rfl⟩ ?_ ?_⟩
  · rintro i _ _ hi ⟨r, ds, x, rfl, hl2, ha2, rfl⟩
    walk_at "w"
    refine ⟨d, _, 53, rfl, upd_same, by decide, fun y r0 r1 => ?_⟩
    rw [upd_upd]
    refine ix_of isW r0 (Int.lt_of_lt_of_le r1 (by decide +kernel)) (by decide +kernel) (by decide +kernel) fun c hc => ?_
    refine ⟨_, _, rfl, rfl, by rw [T_len]; exact small9 (by show r.length + 1 + 1 ≤ _; omega), r ++ [c], _, some (.int (0 + (i : Int))), ?_, by rw [List.length_append, hl2]; rfl, ?_, rfl⟩
    · rw [show (sg c) = T [c] from rfl, T_cat]
      rfl
    · rw [List.all_append, ha2]
      show (true && (isW c && true)) = true
      rw [hc]
      rfl
  rintro _ _ ⟨r, ds, x, rfl, hl2, ha2, rfl⟩
  walk_at "w"
  refine ⟨by show 2 ≤ sizeLine; decide, fun t ht => ?_⟩
  exact tup l (95 :: r) _ (.inr ⟨ha, by omega, r, rfl, ha2, by omega⟩) t ht
def spNames (K : PySem.W.Frag) : Sp := fun vs H Q _ => ∃ (d : Addr) (ds : List Int), vs = [.ref d] ∧ H d = some (.lst (ds.map V.int)) ∧ ∀ (l r : List Nat) (nm p0 p1 p2 p3 : Addr) (ds' : List Int) (H' : Hp), FrameOk l r → SameX d H H' → H nm = none → H' d = some (.lst (ds'.map V.int)) → NA H' l r nm p0 p1 p2 p3 → AP d nm p0 p1 p2 p3 → Q (.ref nm) H'
def mks : List (List Nat) := [mk0, mk1, mk2, mk3]
theorem c_law_names {f : Addr} {fd : FuncData} (D : Df K mg "_law_names" s_law_names f fd ["draws"]) (c_law_frame : Cl P w K mg base 2 "_law_frame" spFrame) : Cl P w K mg base 3 "_law_names" (spNames K) := by
  refine D.cl sc_law_names (fun vs H Q E h => ?_) (fun cdv A outer s H vs Q E hr h => ?_)
  · obtain ⟨d, ds, rfl, _⟩ := h
    rfl
  obtain ⟨d, ds, rfl, hd, q⟩ := h
  refine ⟨_, (pss_cons (ps_set (i := 1) sc_law_names.nd rfl (.inr rfl) (pc c_law_frame hr (by first | decide | omega) (by rfl) (pa_cons (pv 0) pa_nil)))
      (pss_cons (ps_set (i := 2) sc_law_names.nd rfl (.inl rfl) (pe_lst pa_nil))
      (pss_cons (ps_for PassesOwn.never rfl (pi_tup (pe_tup (pa_cons pe_str (pa_cons pe_str (pa_cons pe_str (pa_cons pe_str pa_nil)))))) (pg_name (i := 3) sc_law_names.nd rfl (.inl rfl)) (pss_one (ps_expr (pe_bm PySem.F.plainAttrs_list PySem.F.slot_list_append PySem.F.type_list_append mt_append (pv 2) (pa_cons (pe_lc (own := [("mark", 4)]) (g := gName 4) (tt := tYes) (by rfl) sc_law_names.nd (pi_str (pv 3)) (blkOk_by (own := [("mark", 4)]) (N := ["draws", "frame", "rows", "marks", "mark"]) (sc := defScope s_law_names) (by decide +kernel)) (fun _ _ _ _ _ => pg_name (i := 4) sc_law_names.nd rfl (.inl rfl)) (fun _ _ _ _ _ => pts_nil) (fun _ _ _ _ _ => (pe_op op_add_str (pe_op op_add_str (pe_ix (ixT (K := K)) (pv 1) pe_int (fun _ _ => rfl)) (pv 4)) (pe_ix (ixT (K := K)) (pv 1) pe_int (fun _ _ => rfl))))) pa_nil)))))
      (pss_one (ps_ret (pv 2)))))), ?_⟩
  refine ⟨_, rfl, d, ds, rfl, hd, fun l r t ds' H1 hf e1 hd1 ht => ?_⟩
  refine ⟨by show 0 ≤ sizeLine; decide, fun nm hn => ?_⟩
  refine ⟨by show 4 ≤ sizeLine; decide, fun u hu => ?_⟩
  have e2 : Same H1 (upd (upd H1 nm (.lst [])) u (.tup [.str (Str.ofString "abcdefghi"), .str (Str.ofString "rstuv"), .str (Str.ofString "klmno"), .str (Str.ofString "ABCDEFGHIJKL")])) := (Same.new _ hn).trans (Same.new _ hu)
  have nu : nm ≠ u := ne_of_none upd_same hu
  have hln : l.length ≤ 7 ∧ r.length ≤ 8 := by
    rcases hf with ⟨rfl, rfl⟩ | ⟨_, h1, r', rfl, _, h2⟩
    · exact ⟨Nat.zero_le _, Nat.zero_le _⟩
    · exact ⟨h1, by show r'.length + 1 ≤ 8; omega⟩
  refine ⟨u, rfl, ⟨_, .of upd_same⟩, ?_⟩
  refine for_tup (xs := [.str (Str.ofString "abcdefghi"), .str (Str.ofString "rstuv"), .str (Str.ofString "klmno"), .str (Str.ofString "ABCDEFGHIJKL")]) (fun i σ' H' => ∃ (as : List Addr) (x y : Option V), σ' = [some (.ref d), some (.ref t), some (.ref nm), x, y] ∧ as.length = i ∧ H' nm = some (.lst (as.map V.ref)) ∧ Same H1 H' ∧ H' u = some (.tup [.str (Str.ofString "abcdefghi"), .str (Str.ofString "rstuv"), .str (Str.ofString "klmno"), .str (Str.ofString "ABCDEFGHIJKL")]) ∧ ∀ (j : Nat) (a : Addr) (m : List Nat), as[j]? = some a → mks[j]? = some m → H1 a = none ∧ a ≠ nm ∧ H' a = some (.lst (strsV (nmL l r m)))) ?_ ?_ ?_ ?_
  · exact ⟨[], none, none, rfl, rfl, (upd_ne nu).trans upd_same, e2, upd_same, fun j a m hj => by simp at hj⟩
  · rintro i σ' H' _ ⟨as, x, y, _, _, _, _, hu', _⟩
    exact .of hu'
  · rintro i x σ' H' hx ⟨as, x0, y0, rfl, hl, hnm, e3, hu', hall⟩
    obtain ⟨m, hm, rfl, hml⟩ : ∃ m, mks[i]? = some m ∧ x = .str (T m) ∧ m.length ≤ 20 := by
      rcases i with _ | _ | _ | _ | i
      · exact ⟨mk0, rfl, (Option.some.inj hx).symm.trans (congrArg V.str (lit_T _)), by decide +kernel⟩
      · exact ⟨mk1, rfl, (Option.some.inj hx).symm.trans (congrArg V.str (lit_T _)), by decide +kernel⟩
      · exact ⟨mk2, rfl, (Option.some.inj hx).symm.trans (congrArg V.str (lit_T _)), by decide +kernel⟩
      · exact ⟨mk3, rfl, (Option.some.inj hx).symm.trans (congrArg V.str (lit_T _)), by decide +kernel⟩
      · simp at hx
    have hil : i < 4 := by
      have := (List.getElem?_eq_some_iff.mp hm).1
      exact this
    refine ⟨_, rfl, .inl ⟨rfl, _, SqL.of hnm⟩, ?_⟩
    refine ⟨_, rfl, _, rfl, fun L hL => ?_⟩
    refine lc_txt (fun j H2 => H2 = upd H' L (.lst (strsV ((m.take j).map fun c => l ++ [c] ++ r)))) rfl ?_ ?_
    · rintro j c H2 hc rfl
      refine ⟨rfl, ?_⟩
      have ht2 : (upd H' L (.lst (strsV ((m.take j).map fun c => l ++ [c] ++ r)))) t = some (.tup [.str (T l), .str (T r)]) := (upd_ne (ne_of_none (e3 _ _ ht) hL)).trans (e3 _ _ ht)
      refine ⟨_, rfl, t, _, 0, _, rfl, rfl, .of ht2, atI_nat (j := 0) rfl, _, rfl, _, _, rfl, rfl, ?_, ?_⟩
      · show (T l).length + (sg c).length ≤ _
        rw [T_len]
        exact small9 (by show l.length + 1 ≤ _; omega)
      refine ⟨_, rfl, t, _, 1, _, rfl, rfl, .of ht2, atI_nat (j := 1) rfl, _, _, rfl, rfl, ?_, ?_⟩
      · show (T l ++ T [c]).length + (T r).length ≤ _
        rw [T_cat, T_len, T_len, List.length_append]
        exact small9 (by show l.length + 1 + r.length ≤ _; omega)
      refine ⟨_, upd_same, ?_, ?_⟩
      · show (List.map _ _).length < _
        rw [List.length_map, List.length_map, List.length_take]
        exact small1000 (by omega)
      · rw [upd_upd, List.take_add_one, hc, List.map_append]
        show _ = upd H' L (.lst (strsV (_ ++ [_])))
        rw [show (sg c) = T [c] from rfl, T_cat, T_cat]
        unfold strsV
        rw [List.map_append]
        rfl
    · rintro H2 rfl
      rw [List.take_length]
      have nL : nm ≠ L := ne_of_none hnm hL
      refine ⟨nm, _, _, rfl, rfl, (upd_ne nL).trans hnm, by rw [List.length_map, hl]; exact small1000 (by omega), ?_⟩
      have e4 : Same H1 (upd (upd H' L (.lst (strsV (m.map fun c => l ++ [c] ++ r)))) nm (.lst (as.map V.ref ++ [.ref L]))) := Same.mut _ (e3.trans (Same.new _ hL)) hn
      refine ⟨as ++ [L], _, _, rfl, by rw [List.length_append, hl]; rfl, by rw [upd_same, List.map_append]; rfl, e4, (upd_ne nu.symm).trans ((upd_ne (ne_of_none hu' hL)).trans hu'), fun j a m' hj hm' => ?_⟩
      by_cases hji : j < as.length
      · rw [List.getElem?_append_left hji] at hj
        obtain ⟨k1, k2, k3⟩ := hall j a m' hj hm'
        exact ⟨k1, k2, (upd_ne k2).trans ((upd_ne (ne_of_none k3 hL)).trans k3)⟩
      · have hj2 : j = as.length := by
          have := (List.getElem?_eq_some_iff.mp hj).1
          rw [List.length_append] at this
          have : ([L] : List Addr).length = 1 := rfl
          omega
        subst hj2
        rw [List.getElem?_append_right (Nat.le_refl _), Nat.sub_self] at hj
        cases Option.some.inj hj
        rw [hl, hm] at hm'
        cases Option.some.inj hm'
        refine ⟨?_, nL.symm, (upd_ne nL.symm).trans upd_same⟩
        cases hq : H1 L with
        | none => rfl
        | some o => exact absurd (e3 _ _ hq) (by rw [hL]; exact fun z => nomatch z)
  · rintro σ' H' ⟨as, x, y, rfl, hl, hnm, e3, _, hall⟩
    obtain ⟨a0, a1, a2, a3, rfl⟩ : ∃ a0 a1 a2 a3, as = [a0, a1, a2, a3] := by
      rcases as with _ | ⟨a0, _ | ⟨a1, _ | ⟨a2, _ | ⟨a3, _ | ⟨a4, as⟩⟩⟩⟩⟩
      all_goals first | exact ⟨_, _, _, _, rfl⟩ | (simp at hl)
    refine ⟨_, rfl, ?_⟩
    obtain ⟨k0, _, m0⟩ := hall 0 a0 mk0 rfl rfl
    obtain ⟨k1, _, m1⟩ := hall 1 a1 mk1 rfl rfl
    obtain ⟨k2, _, m2⟩ := hall 2 a2 mk2 rfl rfl
    obtain ⟨k3, _, m3⟩ := hall 3 a3 mk3 rfl rfl
    refine q l r nm a0 a1 a2 a3 ds' H' hf (e1.trans (SameX.of e3)) ?_ (e3 _ _ hd1) ⟨hnm, m0, m1, m2, m3⟩ ⟨(ne_of_none hd1 hn).symm, (ne_of_none hd1 k0).symm, (ne_of_none hd1 k1).symm, (ne_of_none hd1 k2).symm, (ne_of_none hd1 k3).symm⟩
    exact e1.free (ne_of_none hd1 hn).symm hn
/-! what stands while a list is drawn from -/
structure Dr (K : PySem.W.Frag) (H : Hp) (d nm z : Addr) (l r : List Nat) : Prop where
  ok : FrameOk l r
  ex : ∃ (ds : List Int) (p0 p1 p2 p3 : Addr), H d = some (.lst (ds.map V.int)) ∧ NA H l r nm p0 p1 p2 p3 ∧ AP d nm p0 p1 p2 p3
  sz : SqT K H z [.int 9, .int 5, .int 5]
section
variable {H H' : Hp} {d nm z : Addr} {l r : List Nat} {R : VK} {σ : L2.St}
theorem Dr.same (h : Dr K H d nm z l r) (e : Same H H') : Dr K H' d nm z l r := by
  obtain ⟨ds, p0, p1, p2, p3, h1, h2, h3⟩ := h.ex
  exact ⟨h.ok, ⟨ds, p0, p1, p2, p3, e _ _ h1, h2.same e, h3⟩, Same.seqT e h.sz⟩
theorem Dr.new {p : Addr} (o : HO) (h : Dr K H d nm z l r) (n : H p = none) : Dr K (upd H p o) d nm z l r := h.same (Same.new o n)
theorem Dr.mv {D : PyData} {n : Nat} {v : V} (h : Dr K H d nm z l r) (e : SameX d H H') (t : TupN n D) (p : Dp K H v D) : Dp K H' v D := by
  obtain ⟨ds, _, _, _, _, h1, _⟩ := h.ex
  exact Dp.kt (KT.x h1 e) t p
theorem take_draw {i : Nat} {m : Int} {H : Hp} (hi : σ[i]? = some (some (.ref d))) (h : Dr K H d nm z l r) (hm : decide (0 < m) = true) (q : ∀ x H', 0 ≤ x → x < m → SameX d H H' → Dr K H' d nm z l r → R (.int x) H') : tCall spTake [] E0 (tCons (tVar i) (tCons (tC (.int m)) tNil)) σ H R := by
  obtain ⟨ds, p0, p1, p2, p3, h1, h2, h3⟩ := h.ex
  refine ⟨_, hi, d, ds, m, rfl, h1, of_decide_eq_true hm, fun x x0 x1 => ?_⟩
  have e := SameX.at (d := d) (H := H) (.lst (ds.tail.map V.int))
  exact q x _ x0 x1 e ⟨h.ok, ⟨ds.tail, p0, p1, p2, p3, upd_same, h2.mono e h3, h3⟩, KT.x h1 e _ _ h.sz⟩
theorem at_names {ns : List (List Nat)} {x : Int} (h0 : 0 ≤ x) (h1 : x < (ns.length : Int)) : ∃ s, s ∈ ns ∧ atI (strsV ns) x = some (.str (T s)) := by
  have hi : x.toNat < ns.length := by omega
  have ei : x = ((x.toNat : Nat) : Int) := by omega
  refine ⟨ns[x.toNat], List.getElem_mem hi, ?_⟩
  have := atI_nat (xs := strsV ns) (j := x.toNat) (v := .str (T ns[x.toNat])) (by show (ns.map _)[x.toNat]? = _; rw [List.getElem?_map, List.getElem?_eq_getElem hi]; rfl)
  rw [← ei] at this
  exact this
theorem NA.at {H : Hp} {p0 p1 p2 p3 : Addr} {i : Nat} {m : List Nat} (h : NA H l r nm p0 p1 p2 p3) (a : AP d nm p0 p1 p2 p3) (hm : mks[i]? = some m) : ∃ p, [V.ref p0, .ref p1, .ref p2, .ref p3][i]? = some (.ref p) ∧ p ≠ d ∧ H p = some (.lst (strsV (nmL l r m))) := by
  rcases i with _ | _ | _ | _ | i
  · cases Option.some.inj hm
    exact ⟨p0, rfl, a.a0, h.a0⟩
  · cases Option.some.inj hm
    exact ⟨p1, rfl, a.a1, h.a1⟩
  · cases Option.some.inj hm
    exact ⟨p2, rfl, a.a2, h.a2⟩
  · cases Option.some.inj hm
    exact ⟨p3, rfl, a.a3, h.a3⟩
  · simp [mks] at hm
theorem nm_draw {H : Hp} {i a b c : Nat} {m : List Nat} {n : Int} (ha : σ[a]? = some (some (.ref d))) (hb : σ[b]? = some (some (.ref nm))) (hc : σ[c]? = some (some (.ref z))) (h : Dr K H d nm z l r)
    (hz : [V.int 9, .int 5, .int 5][i]? = some (.int n)) (hn : decide (0 < n ∧ n ≤ (m.length : Int)) = true) (hm : mks[i]? = some m) (q : ∀ s H', s ∈ nmL l r m → SameX d H H' → Dr K H' d nm z l r → R (.str (T s)) H') :
    tOp (rIxL K) (tOp (rIxL K) (tVar b) (tC (.int (i : Int)))) (tCall spTake [] E0 (tCons (tVar a) (tCons (tOp (rIxT K) (tVar c) (tC (.int (i : Int)))) tNil))) σ H R := by
  obtain ⟨ds, p0, p1, p2, p3, h1, h2, h3⟩ := h.ex
  obtain ⟨p, hp, hpd, hH⟩ := h2.at h3 hm
  have hn' := of_decide_eq_true hn
  refine ⟨_, hb, nm, _, _, _, rfl, rfl, SqL.of h2.top, atI_nat hp, _, ha, _, hc, z, _, _, _, rfl, rfl, h.sz, atI_nat hz, d, ds, n, rfl, h1, hn'.1, fun x x0 x1 => ?_⟩
  have e := SameX.at (d := d) (H := H) (.lst (ds.tail.map V.int))
  obtain ⟨s, hs, hat⟩ := at_names (ns := nmL l r m) x0 (by show x < ((m.map _).length : Int); rw [List.length_map]; omega)
  exact ⟨p, _, x, _, rfl, rfl, SqL.of (e _ _ hpd hH), hat, q s _ hs e ⟨h.ok, ⟨ds.tail, p0, p1, p2, p3, upd_same, h2.mono e h3, h3⟩, KT.x h1 e _ _ h.sz⟩⟩
end
section
variable {ta tb : TT} {b1 b2 : Bool} {tt u : TS} {D : Ends} {σ : L2.St} {H : Hp}
theorem gset {i : Nat} {v : V} {Q : L2.St → Hp → Prop} (h : Q (σ.set i (some v)) H) : gName i v σ H Q := h
theorem tsq {a b : TS} (h : a { D with nx := b D } σ H) : tSeq a b D σ H := h
theorem tnx (h : D.nx σ H) : tNext D σ H := h
theorem if_or (h1 : ∀ R : Bool → Hp → Prop, R b1 H → ta σ H R) (h2 : ∀ R : Bool → Hp → Prop, R b2 H → tb σ H R) (qT : (b1 || b2) = true → tt D σ H) (qF : (b1 || b2) = false → u D σ H) : tIfS (tOr ta tb) tt u D σ H := by
  refine h1 _ ?_
  cases b1 with
  | true => exact iteT (iteT (qT rfl))
  | false =>
    refine iteF (h2 _ ?_)
    cases b2 with
    | true => exact iteT (qT rfl)
    | false => exact iteF (qF rfl)
theorem if_and (h1 : ∀ R : Bool → Hp → Prop, R b1 H → ta σ H R) (h2 : ∀ R : Bool → Hp → Prop, R b2 H → tb σ H R) (qT : (b1 && b2) = true → tt D σ H) (qF : (b1 && b2) = false → u D σ H) : tIfS (tAnd ta tb) tt u D σ H := by
  refine h1 _ ?_
  cases b1 with
  | false => exact iteF (iteF (qF rfl))
  | true =>
    refine iteT (h2 _ ?_)
    cases b2 with
    | true => exact iteT (qT rfl)
    | false => exact iteF (qF rfl)
theorem if_1 (h1 : ∀ R : Bool → Hp → Prop, R b1 H → ta σ H R) (qT : b1 = true → tt D σ H) (qF : b1 = false → u D σ H) : tIfS ta tt u D σ H := by
  refine h1 _ ?_
  cases b1 with
  | false => exact iteF (qF rfl)
  | true => exact iteT (qT rfl)
end
/-! a drawn concept -/
def Con.Ok (l r : List Nat) : Con → Prop
  | .name s => s ∈ nmL l r mk0
  | .not c => c.Ok l r
  | .both c d => c.Ok l r ∧ d.Ok l r
  | .either c d => c.Ok l r ∧ d.Ok l r
  | .some ro c => ro.1 ∈ nmL l r mk1 ∧ c.Ok l r
  | .all ro c => ro.1 ∈ nmL l r mk1 ∧ c.Ok l r
  | _ => True
theorem nm_len {l r m : List Nat} {s : List Nat} (f : FrameOk l r) (h : s ∈ nmL l r m) : s.length ≤ 16 := by
  obtain ⟨c, _, rfl⟩ := List.mem_map.mp h
  rw [List.length_append, List.length_append]
  have : [c].length = 1 := rfl
  rcases f with ⟨rfl, rfl⟩ | ⟨_, h1, r', rfl, _, h2⟩
  · show 0 + 1 + 0 ≤ 16
    decide
  · show l.length + 1 + (r'.length + 1) ≤ 16
    omega
theorem Con.sz_le {l r : List Nat} (f : FrameOk l r) : ∀ {c : Con}, c.Ok l r → c.sz + 20 ≤ 56 * 2 ^ c.dp
  | .any, _ => by decide
  | .nothing, _ => by decide
  | .name s, h => by
    have := nm_len f h
    show s.length + 20 + 20 ≤ 56 * 1
    omega
  | .not c, h => by
    have := Con.sz_le f (c := c) h
    show c.sz + 20 + 20 ≤ 56 * 2 ^ (c.dp + 1)
    rw [Nat.pow_succ]
    have : 0 < 2 ^ c.dp := Nat.pow_pos (by decide)
    omega
  | .both c d, h => by
    have h1 := Con.sz_le f h.1
    have h2 := Con.sz_le f h.2
    have k1 : 2 ^ c.dp ≤ 2 ^ max c.dp d.dp := Nat.pow_le_pow_right (by decide) (Nat.le_max_left ..)
    have k2 : 2 ^ d.dp ≤ 2 ^ max c.dp d.dp := Nat.pow_le_pow_right (by decide) (Nat.le_max_right ..)
    show c.sz + d.sz + 20 + 20 ≤ 56 * 2 ^ (max c.dp d.dp + 1)
    rw [Nat.pow_succ]
    omega
  | .either c d, h => by
    have h1 := Con.sz_le f h.1
    have h2 := Con.sz_le f h.2
    have k1 : 2 ^ c.dp ≤ 2 ^ max c.dp d.dp := Nat.pow_le_pow_right (by decide) (Nat.le_max_left ..)
    have k2 : 2 ^ d.dp ≤ 2 ^ max c.dp d.dp := Nat.pow_le_pow_right (by decide) (Nat.le_max_right ..)
    show c.sz + d.sz + 20 + 20 ≤ 56 * 2 ^ (max c.dp d.dp + 1)
    rw [Nat.pow_succ]
    omega
  | .some ro c, h => by
    have h1 := nm_len f h.1
    have h2 := Con.sz_le f h.2
    have : 0 < 2 ^ c.dp := Nat.pow_pos (by decide)
    show ro.1.length + c.sz + 40 + 20 ≤ 56 * 2 ^ (c.dp + 1)
    rw [Nat.pow_succ]
    omega
  | .all ro c, h => by
    have h1 := nm_len f h.1
    have h2 := Con.sz_le f h.2
    have : 0 < 2 ^ c.dp := Nat.pow_pos (by decide)
    show ro.1.length + c.sz + 40 + 20 ≤ 56 * 2 ^ (c.dp + 1)
    rw [Nat.pow_succ]
    omega
theorem pow_dp {n m : Nat} (h : n ≤ m) : 2 ^ n ≤ 2 ^ m := Nat.pow_le_pow_right (by decide) h
def spRolD (K : PySem.W.Frag) : Sp := fun vs H Q _ => ∃ (d nm z : Addr) (l r : List Nat), vs = [.ref d, .ref nm, .ref z] ∧ Dr K H d nm z l r ∧ ∀ (ro : Rol) (v : V) (H' : Hp), ro.1 ∈ nmL l r mk1 → Dp K H' v (rolD ro) → SameX d H H' → Dr K H' d nm z l r → Q v H'
theorem c_law_role {f : Addr} {fd : FuncData} (D : Df K mg "_law_role" s_law_role f fd ["draws", "names", "sizes"]) (c_law_take : Cl P w K mg base 1 "_law_take" spTake) : Cl P w K mg base 2 "_law_role" (spRolD K) := by
  refine D.cl sc_law_role (fun vs H Q E h => ?_) (fun cdv A outer s H vs Q E hr h => ?_)
  · obtain ⟨d, nm, z, l, r, rfl, _⟩ := h
    rfl
  obtain ⟨d, nm, z, l, r, rfl, h, q⟩ := h
  refine ⟨_, (pss_cons (ps_set (i := 3) sc_law_role.nd rfl (.inl rfl) (pe_ix ix_list (pe_ix ix_list (pv 1) pe_int (fun _ _ => rfl)) (pc c_law_take hr (by first | decide | omega) (by rfl) (pa_cons (pv 0) (pa_cons (pe_ix ix_tup (pv 2) pe_int (fun _ _ => rfl)) pa_nil))) (fun _ _ => rfl)))
      (pss_one (ps_ret (pe_tup (pa_cons (pv 3) (pa_cons (pe_cmpR op_eq (pc c_law_take hr (by first | decide | omega) (by rfl) (pa_cons (pv 0) (pa_cons pe_int pa_nil))) pe_int (nomark _)) pa_nil)))))), ?_⟩
  refine nm_draw (i := 1) rfl rfl rfl h rfl (by decide +kernel) rfl fun s H1 hs e1 h1 => ?_
  refine ⟨_, rfl, take_draw rfl h1 (by decide) fun x H2 x0 x1 e2 h2 => ⟨rfl, by show 2 ≤ sizeLine; decide, fun p hp => ?_⟩⟩
  exact q (s, decide (V.int x = V.int 0)) _ _ hs (.tup (.of upd_same) (.cons (.str _) (.cons (.bl _) .nil))) ((e1.trans e2).trans (SameX.new _ hp)) (h2.new _ hp)
def spConD (K : PySem.W.Frag) (n : Nat) : Sp := fun vs H Q _ => ∃ (d nm z : Addr) (l r : List Nat) (k : Nat), vs = [.ref d, .ref nm, .ref z, .int (k : Int)] ∧ k < n ∧ Dr K H d nm z l r ∧ ∀ (c : Con) (v : V) (H' : Hp), c.Ok l r → c.dp ≤ k → Dp K H' v c.D → SameX d H H' → Dr K H' d nm z l r → Q v H'
theorem c_law_concept {f : Addr} {fd : FuncData} (D : Df K mg "_law_concept" s_law_concept f fd ["draws", "names", "sizes", "depth"]) (c_law_take : Cl P w K mg base 1 "_law_take" spTake) (c_law_role : Cl P w K mg base 2 "_law_role" (spRolD K)) : ∀ n : Nat, Cl P w K mg base (n + 3) "_law_concept" (spConD K n)
  | 0 => by
    refine D.cl sc_law_concept (fun vs H Q E h => ?_) (fun cdv A outer s H vs Q E hr h => ?_)
    · obtain ⟨d, nm, z, l, r, k, rfl, _⟩ := h
      rfl
    · obtain ⟨d, nm, z, l, r, k, _, hk, _⟩ := h
      exact absurd hk (Nat.not_lt_zero _)
  | n + 1 => by
    have c_law_concept := c_law_concept D c_law_take c_law_role n
    refine D.cl sc_law_concept (fun vs H Q E h => ?_) (fun cdv A outer s H vs Q E hr h => ?_)
    · obtain ⟨d, nm, z, l, r, k, rfl, _⟩ := h
      rfl
    obtain ⟨d, nm, z, l, r, k, rfl, hk, h, q⟩ := h
    refine ⟨_, (pss_cons (ps_set (i := 4) sc_law_concept.nd rfl (.inl rfl) (pc c_law_take hr (by first | decide | omega) (by rfl) (pa_cons (pv 0) (pa_cons pe_int pa_nil))))
      (pss_cons (ps_if (PW.pt (pw_or (pt_cmpR op_eq (pv 3) pe_int (nomark _)) (pw_or1 (pt_cmpR op_lt (pv 4) pe_int (nomark _))))) (pss_cons (ps_if (pt_cmpR op_eq (pv 4) pe_int (nomark _)) (pss_one (ps_ret (pe_ix ix_tup (pe_tup (pa_cons (pe_tup (pa_cons pe_str pa_nil)) (pa_cons (pe_tup (pa_cons pe_str pa_nil)) pa_nil))) (pc c_law_take hr (by first | decide | omega) (by rfl) (pa_cons (pv 0) (pa_cons pe_int pa_nil))) (fun _ _ => rfl)))) pss_nil)
      (pss_one (ps_ret (pe_tup (pa_cons pe_str (pa_cons (pe_ix ix_list (pe_ix ix_list (pv 1) pe_int (fun _ _ => rfl)) (pc c_law_take hr (by first | decide | omega) (by rfl) (pa_cons (pv 0) (pa_cons (pe_ix ix_tup (pv 2) pe_int (fun _ _ => rfl)) pa_nil))) (fun _ _ => rfl)) pa_nil)))))) pss_nil)
      (pss_cons (ps_if (pt_cmpR op_lt (pv 4) pe_int (nomark _)) (pss_one (ps_ret (pe_tup (pa_cons pe_str (pa_cons (pc c_law_concept hr (by first | decide | omega) (by rfl) (pa_cons (pv 0) (pa_cons (pv 1) (pa_cons (pv 2) (pa_cons (pe_op op_sub (pv 3) pe_int) pa_nil))))) pa_nil))))) pss_nil)
      (pss_cons (ps_if (PW.pt (pw_and (pt_cmpR op_lt (pv 4) pe_int (nomark _)) (pw_and1 (pt_cmpR op_gt (pe_ix ix_tup (pv 2) pe_int (fun _ _ => rfl)) pe_int (nomark _))))) (pss_cons (ps_set (i := 5) sc_law_concept.nd rfl (.inl rfl) (pc c_law_role hr (by first | decide | omega) (by rfl) (pa_cons (pv 0) (pa_cons (pv 1) (pa_cons (pv 2) pa_nil)))))
      (pss_cons (ps_set (i := 6) sc_law_concept.nd rfl (.inl rfl) (pe_ix ix_tup (pe_tup (pa_cons pe_str (pa_cons pe_str (pa_cons pe_str pa_nil)))) (pe_op op_sub (pv 4) pe_int) (fun _ _ => rfl)))
      (pss_one (ps_ret (pe_tup (pa_cons (pv 6) (pa_cons (pv 5) (pa_cons (pc c_law_concept hr (by first | decide | omega) (by rfl) (pa_cons (pv 0) (pa_cons (pv 1) (pa_cons (pv 2) (pa_cons (pe_op op_sub (pv 3) pe_int) pa_nil))))) pa_nil)))))))) pss_nil)
      (pss_cons (ps_set (i := 7) sc_law_concept.nd rfl (.inl rfl) (pc c_law_concept hr (by first | decide | omega) (by rfl) (pa_cons (pv 0) (pa_cons (pv 1) (pa_cons (pv 2) (pa_cons (pe_op op_sub (pv 3) pe_int) pa_nil))))))
      (pss_cons (ps_set (i := 6) sc_law_concept.nd rfl (.inl rfl) (pe_ix ix_tup (pe_tup (pa_cons pe_str (pa_cons pe_str pa_nil))) (pc c_law_take hr (by first | decide | omega) (by rfl) (pa_cons (pv 0) (pa_cons pe_int pa_nil))) (fun _ _ => rfl)))
      (pss_one (ps_ret (pe_tup (pa_cons (pv 6) (pa_cons (pv 7) (pa_cons (pc c_law_concept hr (by first | decide | omega) (by rfl) (pa_cons (pv 0) (pa_cons (pv 1) (pa_cons (pv 2) (pa_cons (pe_op op_sub (pv 3) pe_int) pa_nil))))) pa_nil)))))))))))), ?_⟩
    refine take_draw rfl h (by decide) fun x H1 x0 x1 e1 h1 => ?_
    refine gset ?_
    dsimp only
    refine tsq ?_
    refine if_or (b1 := decide (V.int (k : Int) = V.int 0)) (b2 := decide (x < 4)) (fun R q => ⟨_, rfl, rfl, _, rfl, q⟩) (fun R q => ⟨_, rfl, _, _, rfl, rfl, _, rfl, q⟩) (fun _ => ?_) (fun hb => ?_)
    · refine tsq ?_
      refine if_1 (b1 := decide (V.int x = V.int 0)) (fun R q => ⟨_, rfl, rfl, _, rfl, q⟩) (fun _ => ?_) (fun _ => ?_)
      · refine ⟨by show 1 ≤ sizeLine; decide, fun p hp => ⟨by show 1 ≤ sizeLine; decide, fun p2 hp2 => ⟨by show 2 ≤ sizeLine; decide, fun p3 hp3 => ?_⟩⟩⟩
        refine take_draw rfl (((h1.new _ hp).new _ hp2).new _ hp3) (by decide) fun y H2 y0 y1 e2 h2 => ?_
        have e3 := (((e1.trans (SameX.new _ hp)).trans (SameX.new _ hp2)).trans (SameX.new _ hp3)).trans e2
        have f1 : Dp K H2 (.ref p) Con.any.D := ((h1.new _ hp).new _ hp2).new _ hp3 |>.mv e2 (Con.tn .any) (.tup (Same.seqT ((Same.new _ hp2).trans (Same.new _ hp3)) (.of upd_same)) (.cons (.str _) .nil))
        have f2 : Dp K H2 (.ref p2) Con.nothing.D := ((h1.new _ hp).new _ hp2).new _ hp3 |>.mv e2 (Con.tn .nothing) (.tup (Same.seqT (Same.new _ hp3) (.of upd_same)) (.cons (.str _) .nil))
        obtain ⟨ds, _, _, _, _, k1, _⟩ := (((h1.new _ hp).new _ hp2).new _ hp3).ex
        have f3 : SqT K H2 p3 [.ref p, .ref p2] := KT.x k1 e2 _ _ (.of upd_same)
        obtain rfl | rfl : y = 0 ∨ y = 1 := by omega
        · exact ⟨p3, _, _, _, rfl, rfl, f3, atI_nat (j := 0) rfl, q .any _ _ trivial (Nat.zero_le _) f1 e3 h2⟩
        · exact ⟨p3, _, _, _, rfl, rfl, f3, atI_nat (j := 1) rfl, q .nothing _ _ trivial (Nat.zero_le _) f2 e3 h2⟩
      · refine nm_draw (i := 0) rfl rfl rfl h1 rfl (by decide +kernel) rfl fun s H2 hs e2 h2 => ⟨by show 2 ≤ sizeLine; decide, fun p hp => ?_⟩
        exact q (.name s) _ _ hs (Nat.zero_le _) (.tup (.of upd_same) (.cons (.str _) (.cons (.str _) .nil))) ((e1.trans e2).trans (SameX.new _ hp)) (h2.new _ hp)
    rw [Bool.or_eq_false_iff] at hb
    have hk0 : k ≠ 0 := fun z => of_decide_eq_false hb.1 (by rw [z]; rfl)
    have hx4 := of_decide_eq_false hb.2
    obtain ⟨k, rfl⟩ : ∃ j, k = j + 1 := ⟨k - 1, by omega⟩
    have hkn : k < n := by omega
    have ek : ((k + 1 : Nat) : Int) - 1 = (k : Int) := by omega
    refine tnx ?_
    dsimp only
    refine tsq ?_
    refine if_1 (b1 := decide (x < 6)) (fun R q => ⟨_, rfl, _, _, rfl, rfl, _, rfl, q⟩) (fun _ => ?_) (fun hx6 => ?_)
    · refine ⟨_, rfl, _, rfl, _, rfl, _, rfl, _, _, rfl, rfl, d, nm, z, l, r, k, by rw [← ek]; rfl, hkn, h1, fun c v H2 hc hcd hv e2 h2 => ⟨by show 2 ≤ sizeLine; decide, fun p hp => ?_⟩⟩
      exact q (.not c) _ _ hc (Nat.succ_le_succ hcd) (.tup (.of upd_same) (.cons (.str _) (.cons (Dp.same (Same.new _ hp) hv) .nil))) ((e1.trans e2).trans (SameX.new _ hp)) (h2.new _ hp)
    have hx6 := of_decide_eq_false hx6
    refine tnx ?_
    dsimp only
    refine tsq ?_
    refine if_and (b1 := decide (x < 9)) (b2 := decide ((0 : Int) < 5)) (fun R q => ⟨_, rfl, _, _, rfl, rfl, _, rfl, q⟩) (fun R q => ⟨_, rfl, z, _, _, _, rfl, rfl, h1.sz, atI_nat (j := 1) rfl, _, _, rfl, rfl, _, rfl, q⟩) (fun hx9 => ?_) (fun _ => ?_)
    · rw [Bool.and_eq_true] at hx9
      have hx9 := of_decide_eq_true hx9.1
      refine ⟨_, rfl, _, rfl, _, rfl, d, nm, z, l, r, rfl, h1, fun ro v H2 hro hv e2 h2 => ?_⟩
      refine ⟨by show 3 ≤ sizeLine; decide, fun p hp => ?_⟩
      refine ⟨_, rfl, _, _, rfl, rfl, ?_⟩
      have h3 := h2.new (.tup [V.str (Str.ofString "some"), .str (Str.ofString "all"), .str (Str.ofString "some")]) hp
      obtain rfl | rfl | rfl : x = 6 ∨ x = 7 ∨ x = 8 := by omega
      · refine ⟨p, _, _, _, rfl, rfl, .of upd_same, atI_nat (j := 0) rfl, ?_⟩
        refine ⟨_, rfl, _, rfl, _, rfl, _, rfl, _, rfl, _, rfl, _, _, rfl, rfl, d, nm, z, l, r, k, by rw [← ek]; rfl, hkn, h3, fun c v' H4 hc hcd hv' e4 h4 => ⟨by show 3 ≤ sizeLine; decide, fun p2 hp2 => ?_⟩⟩
        exact q (.some ro c) _ _ ⟨hro, hc⟩ (Nat.succ_le_succ hcd) (.tup (.of upd_same) (.cons (.str _) (.cons (Dp.same (Same.new _ hp2) (h3.mv e4 (rolN ro) (Dp.same (Same.new _ hp) hv))) (.cons (Dp.same (Same.new _ hp2) hv') .nil)))) ((((e1.trans e2).trans (SameX.new _ hp)).trans e4).trans (SameX.new _ hp2)) (h4.new _ hp2)
      · refine ⟨p, _, _, _, rfl, rfl, .of upd_same, atI_nat (j := 1) rfl, ?_⟩
        refine ⟨_, rfl, _, rfl, _, rfl, _, rfl, _, rfl, _, rfl, _, _, rfl, rfl, d, nm, z, l, r, k, by rw [← ek]; rfl, hkn, h3, fun c v' H4 hc hcd hv' e4 h4 => ⟨by show 3 ≤ sizeLine; decide, fun p2 hp2 => ?_⟩⟩
        exact q (.all ro c) _ _ ⟨hro, hc⟩ (Nat.succ_le_succ hcd) (.tup (.of upd_same) (.cons (.str _) (.cons (Dp.same (Same.new _ hp2) (h3.mv e4 (rolN ro) (Dp.same (Same.new _ hp) hv))) (.cons (Dp.same (Same.new _ hp2) hv') .nil)))) ((((e1.trans e2).trans (SameX.new _ hp)).trans e4).trans (SameX.new _ hp2)) (h4.new _ hp2)
      · refine ⟨p, _, _, _, rfl, rfl, .of upd_same, atI_nat (j := 2) rfl, ?_⟩
        refine ⟨_, rfl, _, rfl, _, rfl, _, rfl, _, rfl, _, rfl, _, _, rfl, rfl, d, nm, z, l, r, k, by rw [← ek]; rfl, hkn, h3, fun c v' H4 hc hcd hv' e4 h4 => ⟨by show 3 ≤ sizeLine; decide, fun p2 hp2 => ?_⟩⟩
        exact q (.some ro c) _ _ ⟨hro, hc⟩ (Nat.succ_le_succ hcd) (.tup (.of upd_same) (.cons (.str _) (.cons (Dp.same (Same.new _ hp2) (h3.mv e4 (rolN ro) (Dp.same (Same.new _ hp) hv))) (.cons (Dp.same (Same.new _ hp2) hv') .nil)))) ((((e1.trans e2).trans (SameX.new _ hp)).trans e4).trans (SameX.new _ hp2)) (h4.new _ hp2)
    · refine ⟨_, rfl, _, rfl, _, rfl, _, rfl, _, _, rfl, rfl, d, nm, z, l, r, k, by rw [← ek]; rfl, hkn, h1, fun c v H2 hc hcd hv e2 h2 => ?_⟩
      refine ⟨by show 2 ≤ sizeLine; decide, fun p hp => ?_⟩
      have h3 := h2.new (.tup [V.str (Str.ofString "and"), .str (Str.ofString "or")]) hp
      refine take_draw rfl h3 (by decide) fun y H4 y0 y1 e4 h4 => ?_
      have hv4 := h3.mv e4 (Con.tn c) (Dp.same (Same.new _ hp) hv)
      obtain ⟨ds, _, _, _, _, k1, _⟩ := h3.ex
      have f3 : SqT K H4 p _ := KT.x k1 e4 _ _ (.of upd_same)
      obtain rfl | rfl : y = 0 ∨ y = 1 := by omega
      · refine ⟨p, _, _, _, rfl, rfl, f3, atI_nat (j := 0) rfl, ?_⟩
        refine ⟨_, rfl, _, rfl, _, rfl, _, rfl, _, rfl, _, rfl, _, _, rfl, rfl, d, nm, z, l, r, k, by rw [← ek]; rfl, hkn, h4, fun c' v' H5 hc' hcd' hv' e5 h5 => ⟨by show 3 ≤ sizeLine; decide, fun p2 hp2 => ?_⟩⟩
        exact q (.both c c') _ _ ⟨hc, hc'⟩ (by show max c.dp c'.dp + 1 ≤ k + 1; omega) (.tup (.of upd_same) (.cons (.str _) (.cons (Dp.same (Same.new _ hp2) (h4.mv e5 (Con.tn c) hv4)) (.cons (Dp.same (Same.new _ hp2) hv') .nil)))) (((((e1.trans e2).trans (SameX.new _ hp)).trans e4).trans e5).trans (SameX.new _ hp2)) (h5.new _ hp2)
      · refine ⟨p, _, _, _, rfl, rfl, f3, atI_nat (j := 1) rfl, ?_⟩
        refine ⟨_, rfl, _, rfl, _, rfl, _, rfl, _, rfl, _, rfl, _, _, rfl, rfl, d, nm, z, l, r, k, by rw [← ek]; rfl, hkn, h4, fun c' v' H5 hc' hcd' hv' e5 h5 => ⟨by show 3 ≤ sizeLine; decide, fun p2 hp2 => ?_⟩⟩
        exact q (.either c c') _ _ ⟨hc, hc'⟩ (by show max c.dp c'.dp + 1 ≤ k + 1; omega) (.tup (.of upd_same) (.cons (.str _) (.cons (Dp.same (Same.new _ hp2) (h4.mv e5 (Con.tn c) hv4)) (.cons (Dp.same (Same.new _ hp2) hv') .nil)))) (((((e1.trans e2).trans (SameX.new _ hp)).trans e4).trans e5).trans (SameX.new _ hp2)) (h5.new _ hp2)
section
variable {H : Hp} {d nm z : Addr} {l r : List Nat} {R : VK} {σ : L2.St}
theorem con_draw {n k i : Nat} (h0 : σ[0]? = some (some (.ref d))) (h1 : σ[1]? = some (some (.ref nm))) (h2 : σ[2]? = some (some (.ref z))) (h3 : σ[i]? = some (some (.int (k : Int)))) (hk : k < n) (h : Dr K H d nm z l r) (q : ∀ c v H', Con.Ok l r c → c.dp ≤ k → Dp K H' v c.D → SameX d H H' → Dr K H' d nm z l r → R v H') : tCall (spConD K n) [] E0 (tCons (tVar 0) (tCons (tVar 1) (tCons (tVar 2) (tCons (tVar i) tNil)))) σ H R :=
  ⟨_, h0, _, h1, _, h2, _, h3, d, nm, z, l, r, k, rfl, hk, h, q⟩
theorem rol_draw (h0 : σ[0]? = some (some (.ref d))) (h1 : σ[1]? = some (some (.ref nm))) (h2 : σ[2]? = some (some (.ref z))) (h : Dr K H d nm z l r) (q : ∀ (ro : Rol) v H', ro.1 ∈ nmL l r mk1 → Dp K H' v (rolD ro) → SameX d H H' → Dr K H' d nm z l r → R v H') : tCall (spRolD K) [] E0 (tCons (tVar 0) (tCons (tVar 1) (tCons (tVar 2) tNil))) σ H R :=
  ⟨_, h0, _, h1, _, h2, d, nm, z, l, r, rfl, h, q⟩
end
def Stm.Ok (l r : List Nat) : Stm → Prop
  | .below c d => c.Ok l r ∧ d.Ok l r
  | .equals c d => c.Ok l r ∧ d.Ok l r
  | .apart c d => c.Ok l r ∧ d.Ok l r
  | .domain ro c => ro.1 ∈ nmL l r mk1 ∧ c.Ok l r
  | .range ro c => ro.1 ∈ nmL l r mk1 ∧ c.Ok l r
  | .under r1 r2 => r1.1 ∈ nmL l r mk1 ∧ r2.1 ∈ nmL l r mk1
  | .inverse a b => a ∈ nmL l r mk1 ∧ b ∈ nmL l r mk1
  | .is a c => a ∈ nmL l r mk2 ∧ c.Ok l r
  | .has a b c => a ∈ nmL l r mk2 ∧ b ∈ nmL l r mk1 ∧ c ∈ nmL l r mk2
  | .never => True
theorem Stm.sz_le {l r : List Nat} (f : FrameOk l r) {s : Stm} (h : s.Ok l r) : s.sz ≤ 112 * 2 ^ s.dp + 88 := by
  cases s with
  | below c d | equals c d | apart c d =>
    have h1 := Con.sz_le f h.1
    have h2 := Con.sz_le f h.2
    have k1 := pow_dp (Nat.le_max_left c.dp d.dp)
    have k2 := pow_dp (Nat.le_max_right c.dp d.dp)
    show c.sz + d.sz + 40 ≤ 112 * 2 ^ (max c.dp d.dp) + 88
    omega
  | domain ro c | range ro c =>
    have h1 := nm_len f h.1
    have h2 := Con.sz_le f h.2
    show ro.1.length + c.sz + 40 ≤ 112 * 2 ^ c.dp + 88
    omega
  | under a b =>
    have h1 := nm_len f h.1
    have h2 := nm_len f h.2
    show a.1.length + b.1.length + 40 ≤ _
    omega
  | inverse a b =>
    have h1 := nm_len f h.1
    have h2 := nm_len f h.2
    show a.length + b.length + 40 ≤ _
    omega
  | is a c =>
    have h1 := nm_len f h.1
    have h2 := Con.sz_le f h.2
    show a.length + c.sz + 40 ≤ 112 * 2 ^ c.dp + 88
    omega
  | has a b c =>
    have h1 := nm_len f h.1
    have h2 := nm_len f h.2.1
    have h3 := nm_len f h.2.2
    show a.length + b.length + c.length + 40 ≤ _
    omega
  | never =>
    show 40 ≤ _
    omega
def spStmD (K : PySem.W.Frag) (n : Nat) : Sp := fun vs H Q _ => ∃ (d nm z : Addr) (l r : List Nat) (k : Nat), vs = [.ref d, .ref nm, .ref z, .int (k : Int)] ∧ k < n ∧ Dr K H d nm z l r ∧ ∀ (s : Stm) (v : V) (H' : Hp), s.Ok l r → s.dp ≤ k → s ≠ .never → Dp K H' v s.D → SameX d H H' → Dr K H' d nm z l r → Q v H'
theorem c_law_statement {n m : Nat} (hm : 2 ≤ m) {f : Addr} {fd : FuncData} (D : Df K mg "_law_statement" s_law_statement f fd ["draws", "names", "sizes", "depth"]) (c_law_take : Cl P w K mg base 1 "_law_take" spTake) (c_law_role : Cl P w K mg base 2 "_law_role" (spRolD K)) (c_law_concept : Cl P w K mg base m "_law_concept" (spConD K n)) (z_min : mg "min" = none) : Cl P w K mg base (m + 1) "_law_statement" (spStmD K n) := by
  refine D.cl sc_law_statement (fun vs H Q E h => ?_) (fun cdv A outer s H vs Q E hr h => ?_)
  · obtain ⟨d, nm, z, l, r, k, rfl, _⟩ := h
    rfl
  obtain ⟨d, nm, z, l, r, k, rfl, hk, h, q⟩ := h
  refine ⟨_, (pss_cons (ps_set (i := 4) sc_law_statement.nd rfl (.inl rfl) (pc c_law_take hr (by first | decide | omega) (by rfl) (pa_cons (pv 0) (pa_cons pe_int pa_nil))))
      (pss_cons (ps_if (PW.pt (pw_and (pt_cmpR op_gt (pv 4) pe_int (nomark _)) (pw_and1 (pt_cmpR op_gt (pe_ix ix_tup (pv 2) pe_int (fun _ _ => rfl)) pe_int (nomark _))))) (pss_cons (ps_set (i := 5) sc_law_statement.nd rfl (.inl rfl) (pe_ix ix_list (pe_ix ix_list (pv 1) pe_int (fun _ _ => rfl)) (pc c_law_take hr (by first | decide | omega) (by rfl) (pa_cons (pv 0) (pa_cons (pe_ix ix_tup (pv 2) pe_int (fun _ _ => rfl)) pa_nil))) (fun _ _ => rfl)))
      (pss_cons (ps_if (PW.pt (pw_and (pt_cmpR op_eq (pv 4) pe_int (nomark _)) (pw_and1 (pt_cmpR op_gt (pe_ix ix_tup (pv 2) pe_int (fun _ _ => rfl)) pe_int (nomark _))))) (pss_cons (ps_set (i := 6) sc_law_statement.nd rfl (.inl rfl) (pe_ix ix_list (pe_ix ix_list (pv 1) pe_int (fun _ _ => rfl)) (pc c_law_take hr (by first | decide | omega) (by rfl) (pa_cons (pv 0) (pa_cons (pe_ix ix_tup (pv 2) pe_int (fun _ _ => rfl)) pa_nil))) (fun _ _ => rfl)))
      (pss_one (ps_ret (pe_tup (pa_cons pe_str (pa_cons (pv 5) (pa_cons (pv 6) (pa_cons (pe_ix ix_list (pe_ix ix_list (pv 1) pe_int (fun _ _ => rfl)) (pc c_law_take hr (by first | decide | omega) (by rfl) (pa_cons (pv 0) (pa_cons (pe_ix ix_tup (pv 2) pe_int (fun _ _ => rfl)) pa_nil))) (fun _ _ => rfl)) pa_nil)))))))) pss_nil)
      (pss_one (ps_ret (pe_tup (pa_cons pe_str (pa_cons (pv 5) (pa_cons (pc c_law_concept hr (by first | decide | omega) (by rfl) (pa_cons (pv 0) (pa_cons (pv 1) (pa_cons (pv 2) (pa_cons (pv 3) pa_nil))))) pa_nil)))))))) pss_nil)
      (pss_cons (ps_if (PW.pt (pw_and (pt_cmpR op_gt (pv 4) pe_int (nomark _)) (pw_and1 (pt_cmpR op_gt (pe_ix ix_tup (pv 2) pe_int (fun _ _ => rfl)) pe_int (nomark _))))) (pss_cons (ps_set (i := 6) sc_law_statement.nd rfl (.inl rfl) (pc c_law_role hr (by first | decide | omega) (by rfl) (pa_cons (pv 0) (pa_cons (pv 1) (pa_cons (pv 2) pa_nil)))))
      (pss_cons (ps_if (pt_cmpR op_eq (pv 4) pe_int (nomark _)) (pss_one (ps_ret (pe_tup (pa_cons pe_str (pa_cons (pv 6) (pa_cons (pc c_law_concept hr (by first | decide | omega) (by rfl) (pa_cons (pv 0) (pa_cons (pv 1) (pa_cons (pv 2) (pa_cons (pv 3) pa_nil))))) pa_nil)))))) pss_nil)
      (pss_cons (ps_if (pt_cmpR op_eq (pv 4) pe_int (nomark _)) (pss_one (ps_ret (pe_tup (pa_cons pe_str (pa_cons (pv 6) (pa_cons (pc c_law_concept hr (by first | decide | omega) (by rfl) (pa_cons (pv 0) (pa_cons (pv 1) (pa_cons (pv 2) (pa_cons (pv 3) pa_nil))))) pa_nil)))))) pss_nil)
      (pss_cons (ps_if (pt_cmpR op_eq (pv 4) pe_int (nomark _)) (pss_one (ps_ret (pe_tup (pa_cons pe_str (pa_cons (pe_ix ix_tup (pv 6) pe_int (fun _ _ => rfl)) (pa_cons (pe_ix ix_list (pe_ix ix_list (pv 1) pe_int (fun _ _ => rfl)) (pc c_law_take hr (by first | decide | omega) (by rfl) (pa_cons (pv 0) (pa_cons (pe_ix ix_tup (pv 2) pe_int (fun _ _ => rfl)) pa_nil))) (fun _ _ => rfl)) pa_nil)))))) pss_nil)
      (pss_one (ps_ret (pe_tup (pa_cons pe_str (pa_cons (pv 6) (pa_cons (pc c_law_role hr (by first | decide | omega) (by rfl) (pa_cons (pv 0) (pa_cons (pv 1) (pa_cons (pv 2) pa_nil)))) pa_nil)))))))))) pss_nil)
      (pss_cons (ps_set (i := 7) sc_law_statement.nd rfl (.inl rfl) (pe_ix ix_tup (pe_tup (pa_cons pe_str (pa_cons pe_str (pa_cons pe_str (pa_cons pe_str (pa_cons pe_str pa_nil)))))) (pe_callB (call_min2 rfl) (by rfl) z_min (by decide +kernel) (pa_cons (pv 4) (pa_cons pe_int pa_nil))) (fun _ _ => rfl)))
      (pss_cons (ps_set (i := 8) sc_law_statement.nd rfl (.inl rfl) (pc c_law_concept hr (by first | decide | omega) (by rfl) (pa_cons (pv 0) (pa_cons (pv 1) (pa_cons (pv 2) (pa_cons (pv 3) pa_nil))))))
      (pss_one (ps_ret (pe_tup (pa_cons (pv 7) (pa_cons (pv 8) (pa_cons (pc c_law_concept hr (by first | decide | omega) (by rfl) (pa_cons (pv 0) (pa_cons (pv 1) (pa_cons (pv 2) (pa_cons (pv 3) pa_nil))))) pa_nil))))))))))), ?_⟩
  refine take_draw rfl h (by decide) fun x H1 x0 x1 e1 h1 => ?_
  refine gset ?_
  dsimp only
  refine tsq ?_
  refine if_and (b1 := decide (8 < x)) (b2 := decide ((0 : Int) < 5)) (fun R q => ⟨_, rfl, _, _, rfl, rfl, _, rfl, q⟩) (fun R q => ⟨_, rfl, z, _, _, _, rfl, rfl, h1.sz, atI_nat (j := 2) rfl, _, _, rfl, rfl, _, rfl, q⟩) (fun _ => ?_) (fun _ => ?_)
  · refine nm_draw (i := 2) rfl rfl rfl h1 rfl (by decide +kernel) rfl fun s1 H2 hs1 e2 h2 => ?_
    refine gset ?_
    dsimp only
    refine tsq ?_
    refine if_and (b1 := decide (V.int x = V.int 11)) (b2 := decide ((0 : Int) < 5)) (fun R q => ⟨_, rfl, rfl, _, rfl, q⟩) (fun R q => ⟨_, rfl, z, _, _, _, rfl, rfl, h2.sz, atI_nat (j := 1) rfl, _, _, rfl, rfl, _, rfl, q⟩) (fun _ => ?_) (fun _ => ?_)
    · refine nm_draw (i := 1) rfl rfl rfl h2 rfl (by decide +kernel) rfl fun s2 H3 hs2 e3 h3 => ?_
      refine ⟨_, rfl, _, rfl, nm_draw (i := 2) rfl rfl rfl h3 rfl (by decide +kernel) rfl fun s3 H4 hs3 e4 h4 => ⟨by show 4 ≤ sizeLine; decide, fun p hp => ?_⟩⟩
      exact q (.has s1 s2 s3) _ _ ⟨hs1, hs2, hs3⟩ (Nat.zero_le _) (fun z => nomatch z) (.tup (.of upd_same) (.cons (.str _) (.cons (.str _) (.cons (.str _) (.cons (.str _) .nil))))) ((((e1.trans e2).trans e3).trans e4).trans (SameX.new _ hp)) (h4.new _ hp)
    · refine tnx ?_
      refine ⟨_, rfl, con_draw rfl rfl rfl rfl hk h2 fun c v H3 hc hcd hv e3 h3 => ⟨by show 3 ≤ sizeLine; decide, fun p hp => ?_⟩⟩
      exact q (.is s1 c) _ _ ⟨hs1, hc⟩ hcd (fun z => nomatch z) (.tup (.of upd_same) (.cons (.str _) (.cons (.str _) (.cons (Dp.same (Same.new _ hp) hv) .nil)))) (((e1.trans e2).trans e3).trans (SameX.new _ hp)) (h3.new _ hp)
  refine tnx ?_
  dsimp only
  refine tsq ?_
  refine if_and (b1 := decide (4 < x)) (b2 := decide ((0 : Int) < 5)) (fun R q => ⟨_, rfl, _, _, rfl, rfl, _, rfl, q⟩) (fun R q => ⟨_, rfl, z, _, _, _, rfl, rfl, h1.sz, atI_nat (j := 1) rfl, _, _, rfl, rfl, _, rfl, q⟩) (fun _ => ?_) (fun _ => ?_)
  · refine rol_draw rfl rfl rfl h1 fun ro v H2 hro hv e2 h2 => ?_
    refine gset ?_
    dsimp only
    refine tsq ?_
    refine if_1 (b1 := decide (V.int x = V.int 5)) (fun R q => ⟨_, rfl, rfl, _, rfl, q⟩) (fun _ => ?_) (fun _ => ?_)
    · refine ⟨_, rfl, con_draw rfl rfl rfl rfl hk h2 fun c v' H3 hc hcd hv' e3 h3 => ⟨by show 3 ≤ sizeLine; decide, fun p hp => ?_⟩⟩
      exact q (.domain ro c) _ _ ⟨hro, hc⟩ hcd (fun z => nomatch z) (.tup (.of upd_same) (.cons (.str _) (.cons (Dp.same (Same.new _ hp) (h2.mv e3 (rolN ro) hv)) (.cons (Dp.same (Same.new _ hp) hv') .nil)))) (((e1.trans e2).trans e3).trans (SameX.new _ hp)) (h3.new _ hp)
    refine tnx ?_
    dsimp only
    refine tsq ?_
    refine if_1 (b1 := decide (V.int x = V.int 6)) (fun R q => ⟨_, rfl, rfl, _, rfl, q⟩) (fun _ => ?_) (fun _ => ?_)
    · refine ⟨_, rfl, con_draw rfl rfl rfl rfl hk h2 fun c v' H3 hc hcd hv' e3 h3 => ⟨by show 3 ≤ sizeLine; decide, fun p hp => ?_⟩⟩
      exact q (.range ro c) _ _ ⟨hro, hc⟩ hcd (fun z => nomatch z) (.tup (.of upd_same) (.cons (.str _) (.cons (Dp.same (Same.new _ hp) (h2.mv e3 (rolN ro) hv)) (.cons (Dp.same (Same.new _ hp) hv') .nil)))) (((e1.trans e2).trans e3).trans (SameX.new _ hp)) (h3.new _ hp)
    refine tnx ?_
    dsimp only
    refine tsq ?_
    refine if_1 (b1 := decide (V.int x = V.int 7)) (fun R q => ⟨_, rfl, rfl, _, rfl, q⟩) (fun _ => ?_) (fun _ => ?_)
    · obtain ⟨a, rfl, hs⟩ := dpRol hv
      refine ⟨_, rfl, a, _, _, _, rfl, rfl, hs, atI_nat (j := 0) rfl, nm_draw (i := 1) rfl rfl rfl h2 rfl (by decide +kernel) rfl fun s2 H3 hs2 e3 h3 => ⟨by show 3 ≤ sizeLine; decide, fun p hp => ?_⟩⟩
      exact q (.inverse ro.1 s2) _ _ ⟨hro, hs2⟩ (Nat.zero_le _) (fun z => nomatch z) (.tup (.of upd_same) (.cons (.str _) (.cons (.str _) (.cons (.str _) .nil)))) (((e1.trans e2).trans e3).trans (SameX.new _ hp)) (h3.new _ hp)
    refine tnx ?_
    refine ⟨_, rfl, rol_draw rfl rfl rfl h2 fun ro2 v' H3 hro2 hv' e3 h3 => ⟨by show 3 ≤ sizeLine; decide, fun p hp => ?_⟩⟩
    exact q (.under ro ro2) _ _ ⟨hro, hro2⟩ (Nat.zero_le _) (fun z => nomatch z) (.tup (.of upd_same) (.cons (.str _) (.cons (Dp.same (Same.new _ hp) (h2.mv e3 (rolN ro) hv)) (.cons (Dp.same (Same.new _ hp) hv') .nil)))) (((e1.trans e2).trans e3).trans (SameX.new _ hp)) (h3.new _ hp)
  refine tnx ?_
  refine ⟨by show 5 ≤ sizeLine; decide, fun p hp => ?_⟩
  have h2 := h1.new (.tup [V.str (Str.ofString "below"), .str (Str.ofString "below"), .str (Str.ofString "equals"), .str (Str.ofString "apart"), .str (Str.ofString "below")]) hp
  obtain ⟨y, hy, y0, y4⟩ : ∃ y, (if (4 : Int) < x then (4 : Int) else x) = y ∧ 0 ≤ y ∧ y ≤ 4 := ⟨_, rfl, by split <;> omega, by split <;> omega⟩
  refine ⟨_, rfl, x, 4, rfl, ?_⟩
  rw [hy]
  obtain ⟨W, mk, hW, hmk⟩ : ∃ (W : String) (mk : Con → Con → Stm), atI [V.str (Str.ofString "below"), .str (Str.ofString "below"), .str (Str.ofString "equals"), .str (Str.ofString "apart"), .str (Str.ofString "below")] y = some (.str (Str.ofString W)) ∧ ∀ c c' : Con, (mk c c').D = .tuple [.str (Str.ofString W), c.D, c'.D] ∧ (c.Ok l r ∧ c'.Ok l r → (mk c c').Ok l r) ∧ (mk c c').dp = max c.dp c'.dp ∧ mk c c' ≠ .never := by
    obtain rfl | rfl | rfl | rfl | rfl : y = 0 ∨ y = 1 ∨ y = 2 ∨ y = 3 ∨ y = 4 := by omega
    · exact ⟨_, .below, atI_nat (j := 0) rfl, fun c c' => ⟨rfl, id, rfl, fun z => nomatch z⟩⟩
    · exact ⟨_, .below, atI_nat (j := 1) rfl, fun c c' => ⟨rfl, id, rfl, fun z => nomatch z⟩⟩
    · exact ⟨_, .equals, atI_nat (j := 2) rfl, fun c c' => ⟨rfl, id, rfl, fun z => nomatch z⟩⟩
    · exact ⟨_, .apart, atI_nat (j := 3) rfl, fun c c' => ⟨rfl, id, rfl, fun z => nomatch z⟩⟩
    · exact ⟨_, .below, atI_nat (j := 4) rfl, fun c c' => ⟨rfl, id, rfl, fun z => nomatch z⟩⟩
  refine ⟨p, _, _, _, rfl, rfl, .of upd_same, hW, ?_⟩
  refine con_draw rfl rfl rfl rfl hk h2 fun c v H3 hc hcd hv e3 h3 => ?_
  refine ⟨_, rfl, _, rfl, con_draw rfl rfl rfl rfl hk h3 fun c' v' H4 hc' hcd' hv' e4 h4 => ⟨by show 3 ≤ sizeLine; decide, fun p2 hp2 => ?_⟩⟩
  obtain ⟨m1, m2, m3, m4⟩ := hmk c c'
  refine q (mk c c') _ _ (m2 ⟨hc, hc'⟩) (by rw [m3]; omega) m4 ?_ ((((e1.trans (SameX.new _ hp)).trans e3).trans e4).trans (SameX.new _ hp2)) (h4.new _ hp2)
  rw [m1]
  exact .tup (.of upd_same) (.cons (.str _) (.cons (Dp.same (Same.new _ hp2) (h3.mv e4 (Con.tn c) hv)) (.cons (Dp.same (Same.new _ hp2) hv') .nil)))
def QK : Stm → Prop
  | .never => True
  | .below _ _ => True
  | .is _ _ => True
  | .has _ _ _ => True
  | _ => False
def spQstD (K : PySem.W.Frag) (n : Nat) : Sp := fun vs H Q _ => ∃ (d nm z : Addr) (l r : List Nat) (k : Nat), vs = [.ref d, .ref nm, .ref z, .int (k : Int)] ∧ k < n ∧ Dr K H d nm z l r ∧ ∀ (s : Stm) (v : V) (H' : Hp), s.Ok l r → QK s → s.dp ≤ k → Dp K H' v s.D → SameX d H H' → Dr K H' d nm z l r → Q v H'
theorem c_law_question {n m : Nat} (hm : 2 ≤ m) {f : Addr} {fd : FuncData} (D : Df K mg "_law_question" s_law_question f fd ["draws", "names", "sizes", "depth"]) (c_law_take : Cl P w K mg base 1 "_law_take" spTake) (c_law_concept : Cl P w K mg base m "_law_concept" (spConD K n)) : Cl P w K mg base (m + 1) "_law_question" (spQstD K n) := by
  refine D.cl sc_law_question (fun vs H Q E h => ?_) (fun cdv A outer s H vs Q E hr h => ?_)
  · obtain ⟨d, nm, z, l, r, k, rfl, _⟩ := h
    rfl
  obtain ⟨d, nm, z, l, r, k, rfl, hk, h, q⟩ := h
  refine ⟨_, (pss_cons (ps_set (i := 4) sc_law_question.nd rfl (.inl rfl) (pc c_law_take hr (by first | decide | omega) (by rfl) (pa_cons (pv 0) (pa_cons pe_int pa_nil))))
      (pss_cons (ps_if (pt_cmpR op_eq (pv 4) pe_int (nomark _)) (pss_one (ps_ret (pe_tup (pa_cons pe_str pa_nil)))) pss_nil)
      (pss_cons (ps_if (PW.pt (pw_and (pt_cmpR op_gt (pv 4) pe_int (nomark _)) (pw_and1 (pt_cmpR op_gt (pe_ix ix_tup (pv 2) pe_int (fun _ _ => rfl)) pe_int (nomark _))))) (pss_cons (ps_set (i := 5) sc_law_question.nd rfl (.inl rfl) (pe_ix ix_list (pe_ix ix_list (pv 1) pe_int (fun _ _ => rfl)) (pc c_law_take hr (by first | decide | omega) (by rfl) (pa_cons (pv 0) (pa_cons (pe_ix ix_tup (pv 2) pe_int (fun _ _ => rfl)) pa_nil))) (fun _ _ => rfl)))
      (pss_cons (ps_if (PW.pt (pw_and (pt_cmpR op_eq (pv 4) pe_int (nomark _)) (pw_and1 (pt_cmpR op_gt (pe_ix ix_tup (pv 2) pe_int (fun _ _ => rfl)) pe_int (nomark _))))) (pss_cons (ps_set (i := 6) sc_law_question.nd rfl (.inl rfl) (pe_ix ix_list (pe_ix ix_list (pv 1) pe_int (fun _ _ => rfl)) (pc c_law_take hr (by first | decide | omega) (by rfl) (pa_cons (pv 0) (pa_cons (pe_ix ix_tup (pv 2) pe_int (fun _ _ => rfl)) pa_nil))) (fun _ _ => rfl)))
      (pss_one (ps_ret (pe_tup (pa_cons pe_str (pa_cons (pv 5) (pa_cons (pv 6) (pa_cons (pe_ix ix_list (pe_ix ix_list (pv 1) pe_int (fun _ _ => rfl)) (pc c_law_take hr (by first | decide | omega) (by rfl) (pa_cons (pv 0) (pa_cons (pe_ix ix_tup (pv 2) pe_int (fun _ _ => rfl)) pa_nil))) (fun _ _ => rfl)) pa_nil)))))))) pss_nil)
      (pss_one (ps_ret (pe_tup (pa_cons pe_str (pa_cons (pv 5) (pa_cons (pc c_law_concept hr (by first | decide | omega) (by rfl) (pa_cons (pv 0) (pa_cons (pv 1) (pa_cons (pv 2) (pa_cons (pv 3) pa_nil))))) pa_nil)))))))) pss_nil)
      (pss_cons (ps_set (i := 7) sc_law_question.nd rfl (.inl rfl) (pc c_law_concept hr (by first | decide | omega) (by rfl) (pa_cons (pv 0) (pa_cons (pv 1) (pa_cons (pv 2) (pa_cons (pv 3) pa_nil))))))
      (pss_one (ps_ret (pe_tup (pa_cons pe_str (pa_cons (pv 7) (pa_cons (pc c_law_concept hr (by first | decide | omega) (by rfl) (pa_cons (pv 0) (pa_cons (pv 1) (pa_cons (pv 2) (pa_cons (pv 3) pa_nil))))) pa_nil)))))))))), ?_⟩
  refine take_draw rfl h (by decide) fun x H1 x0 x1 e1 h1 => ?_
  refine gset ?_
  dsimp only
  refine tsq ?_
  refine if_1 (b1 := decide (V.int x = V.int 0)) (fun R q => ⟨_, rfl, rfl, _, rfl, q⟩) (fun _ => ?_) (fun _ => ?_)
  · refine ⟨by show 1 ≤ sizeLine; decide, fun p hp => ?_⟩
    exact q .never _ _ trivial trivial (Nat.zero_le _) (.tup (.of upd_same) (.cons (.str _) .nil)) (e1.trans (SameX.new _ hp)) (h1.new _ hp)
  refine tnx ?_
  dsimp only
  refine tsq ?_
  refine if_and (b1 := decide (6 < x)) (b2 := decide ((0 : Int) < 5)) (fun R q => ⟨_, rfl, _, _, rfl, rfl, _, rfl, q⟩) (fun R q => ⟨_, rfl, z, _, _, _, rfl, rfl, h1.sz, atI_nat (j := 2) rfl, _, _, rfl, rfl, _, rfl, q⟩) (fun _ => ?_) (fun _ => ?_)
  · refine nm_draw (i := 2) rfl rfl rfl h1 rfl (by decide +kernel) rfl fun s1 H2 hs1 e2 h2 => ?_
    refine gset ?_
    dsimp only
    refine tsq ?_
    refine if_and (b1 := decide (V.int x = V.int 9)) (b2 := decide ((0 : Int) < 5)) (fun R q => ⟨_, rfl, rfl, _, rfl, q⟩) (fun R q => ⟨_, rfl, z, _, _, _, rfl, rfl, h2.sz, atI_nat (j := 1) rfl, _, _, rfl, rfl, _, rfl, q⟩) (fun _ => ?_) (fun _ => ?_)
    · refine nm_draw (i := 1) rfl rfl rfl h2 rfl (by decide +kernel) rfl fun s2 H3 hs2 e3 h3 => ?_
      refine ⟨_, rfl, _, rfl, nm_draw (i := 2) rfl rfl rfl h3 rfl (by decide +kernel) rfl fun s3 H4 hs3 e4 h4 => ⟨by show 4 ≤ sizeLine; decide, fun p hp => ?_⟩⟩
      exact q (.has s1 s2 s3) _ _ ⟨hs1, hs2, hs3⟩ trivial (Nat.zero_le _) (.tup (.of upd_same) (.cons (.str _) (.cons (.str _) (.cons (.str _) (.cons (.str _) .nil))))) ((((e1.trans e2).trans e3).trans e4).trans (SameX.new _ hp)) (h4.new _ hp)
    · refine tnx ?_
      refine ⟨_, rfl, con_draw rfl rfl rfl rfl hk h2 fun c v H3 hc hcd hv e3 h3 => ⟨by show 3 ≤ sizeLine; decide, fun p hp => ?_⟩⟩
      exact q (.is s1 c) _ _ ⟨hs1, hc⟩ trivial hcd (.tup (.of upd_same) (.cons (.str _) (.cons (.str _) (.cons (Dp.same (Same.new _ hp) hv) .nil)))) (((e1.trans e2).trans e3).trans (SameX.new _ hp)) (h3.new _ hp)
  refine tnx ?_
  refine con_draw rfl rfl rfl rfl hk h1 fun c v H3 hc hcd hv e3 h3 => ?_
  refine ⟨_, rfl, con_draw rfl rfl rfl rfl hk h3 fun c' v' H4 hc' hcd' hv' e4 h4 => ⟨by show 3 ≤ sizeLine; decide, fun p2 hp2 => ?_⟩⟩
  exact q (.below c c') _ _ ⟨hc, hc'⟩ trivial (by show max c.dp c'.dp ≤ k; omega) (.tup (.of upd_same) (.cons (.str _) (.cons (Dp.same (Same.new _ hp2) (h3.mv e4 (Con.tn c) hv)) (.cons (Dp.same (Same.new _ hp2) hv') .nil)))) (((e1.trans e3).trans e4).trans (SameX.new _ hp2)) (h4.new _ hp2)
/-! canonical texts -/
def rolT (r : Rol) : List Nat := if r.2 then lit "inverse " ++ r.1 else r.1
def Con.rk : Con → Nat
  | .either _ _ => 0
  | .both _ _ => 1
  | _ => 2
def wrap (b : Bool) (t : List Nat) : List Nat := if b then lit "(" ++ t ++ lit ")" else t
def Con.pr : Con → List Nat
  | .any => lit "anything"
  | .nothing => lit "nothing"
  | .name s => s
  | .not c => lit "not " ++ wrap (decide (c.rk < 2)) c.pr
  | .both c d => wrap (decide (c.rk < 1)) c.pr ++ lit " " ++ lit "and" ++ lit " " ++ wrap (decide (d.rk < 2)) d.pr
  | .either c d => wrap (decide (c.rk < 0)) c.pr ++ lit " " ++ lit "or" ++ lit " " ++ wrap (decide (d.rk < 1)) d.pr
  | .some r c => lit "some" ++ lit " " ++ rolT r ++ lit " " ++ wrap (decide (c.rk < 2)) c.pr
  | .all r c => lit "all" ++ lit " " ++ rolT r ++ lit " " ++ wrap (decide (c.rk < 2)) c.pr
theorem wrap_len (b : Bool) (t : List Nat) : (wrap b t).length ≤ t.length + 2 := by
  have e1 : (lit "(").length = 1 := by decide +kernel
  have e2 : (lit ")").length = 1 := by decide +kernel
  unfold wrap
  split
  · rw [List.length_append, List.length_append, e1, e2]
    omega
  · omega
theorem rolT_len (r : Rol) : (rolT r).length ≤ r.1.length + 8 := by
  have e1 : (lit "inverse ").length = 8 := by decide +kernel
  unfold rolT
  split
  · rw [List.length_append, e1]
    omega
  · omega
theorem Con.pr_len : ∀ c : Con, c.pr.length ≤ c.sz
  | .any => by show (lit "anything").length ≤ 20; decide +kernel
  | .nothing => by show (lit "nothing").length ≤ 20; decide +kernel
  | .name s => by show s.length ≤ s.length + 20; omega
  | .not c => by
    have e1 : (lit "not ").length = 4 := by decide +kernel
    have := wrap_len (decide (c.rk < 2)) c.pr
    have := Con.pr_len c
    show (lit "not " ++ _).length ≤ c.sz + 20
    rw [List.length_append, e1]
    omega
  | .both c d => by
    have e1 : (lit " ").length = 1 := by decide +kernel
    have e2 : (lit "and").length = 3 := by decide +kernel
    have := wrap_len (decide (c.rk < 1)) c.pr
    have := wrap_len (decide (d.rk < 2)) d.pr
    have := Con.pr_len c
    have := Con.pr_len d
    show (_ ++ lit " " ++ lit "and" ++ lit " " ++ _).length ≤ c.sz + d.sz + 20
    simp only [List.length_append, e1, e2]
    omega
  | .either c d => by
    have e1 : (lit " ").length = 1 := by decide +kernel
    have e2 : (lit "or").length = 2 := by decide +kernel
    have := wrap_len (decide (c.rk < 0)) c.pr
    have := wrap_len (decide (d.rk < 1)) d.pr
    have := Con.pr_len c
    have := Con.pr_len d
    show (_ ++ lit " " ++ lit "or" ++ lit " " ++ _).length ≤ c.sz + d.sz + 20
    simp only [List.length_append, e1, e2]
    omega
  | .some r c => by
    have e1 : (lit " ").length = 1 := by decide +kernel
    have e2 : (lit "some").length = 4 := by decide +kernel
    have := wrap_len (decide (c.rk < 2)) c.pr
    have := rolT_len r
    have := Con.pr_len c
    show (lit "some" ++ lit " " ++ rolT r ++ lit " " ++ _).length ≤ r.1.length + c.sz + 40
    simp only [List.length_append, e1, e2]
    omega
  | .all r c => by
    have e1 : (lit " ").length = 1 := by decide +kernel
    have e2 : (lit "all").length = 3 := by decide +kernel
    have := wrap_len (decide (c.rk < 2)) c.pr
    have := rolT_len r
    have := Con.pr_len c
    show (lit "all" ++ lit " " ++ rolT r ++ lit " " ++ _).length ≤ r.1.length + c.sz + 40
    simp only [List.length_append, e1, e2]
    omega
def spRole (K : PySem.W.Frag) : Sp := fun vs H Q _ => ∃ (v : V) (r : Rol), vs = [v] ∧ Dp K H v (rolD r) ∧ r.1.length ≤ 100000 ∧ ∀ H', Same H H' → Q (.str (T (rolT r))) H'
theorem c_role {f : Addr} {fd : FuncData} (D : Df K mg "_role" s_role f fd ["role"]) : Cl P w K mg base 1 "_role" (spRole K) := by
  refine D.cl sc_role (fun vs H Q E h => ?_) (fun cdv A outer s H vs Q E hr h => ?_)
  · obtain ⟨v, r, rfl, _⟩ := h
    rfl
  obtain ⟨v, r, rfl, hd, hl, q⟩ := h
  obtain ⟨a, rfl, hs⟩ := dpRol hd
  refine ⟨_, (pss_cons (ps_asg (pv 0) (pg_tup (by rfl) (pgs_cons (pg_name (i := 1) sc_role.nd rfl (.inl rfl)) (pgs_cons (pg_name (i := 2) sc_role.nd rfl (.inl rfl)) pgs_nil))))
      (pss_one (ps_ret (pe_ifExp (pt_val (pv 2)) (pe_joined (PJ.cons pe_str (PJ.cons (pe_fmt (pv 1)) PJ.nil))) (pv 1))))), ?_⟩
  refine ⟨_, rfl, a, _, rfl, hs, rfl, _, _, rfl, _, _, rfl, rfl, ?_⟩
  refine ⟨_, rfl, r.2, rfl, ?_⟩
  unfold rolT at q
  cases h2 : r.2 with
  | true =>
    rw [h2] at q
    refine iteT (js_0 (js_c (by decide +kernel) (by decide) (js_e (b := r.1) (fun R hR => ⟨_, rfl, hR _ (Same.refl _)⟩) (by omega) (by decide +kernel) fun H' e => ?_)))
    exact q _ e
  | false =>
    rw [h2] at q
    exact iteF ⟨_, rfl, q _ (Same.refl _)⟩
def spRank (K : PySem.W.Frag) : Sp := fun vs H Q _ => ∃ (v : V) (c : Con), vs = [v] ∧ Dp K H v c.D ∧ Q (.int (c.rk : Int)) H
def Con.kd : Con → Str
  | .any => Str.ofString "anything"
  | .nothing => Str.ofString "nothing"
  | .name _ => Str.ofString "name"
  | .not _ => Str.ofString "not"
  | .both _ _ => Str.ofString "and"
  | .either _ _ => Str.ofString "or"
  | .some _ _ => Str.ofString "some"
  | .all _ _ => Str.ofString "all"
theorem con_kind {H : Hp} {v : V} {c : Con} (h : Dp K H v c.D) : ∃ a r, v = .ref a ∧ SqT K H a (.str c.kd :: r) := by
  cases c with
  | any => obtain ⟨a, rfl, hs⟩ := dp1 h; exact ⟨a, _, rfl, hs⟩
  | nothing => obtain ⟨a, rfl, hs⟩ := dp1 h; exact ⟨a, _, rfl, hs⟩
  | name s => obtain ⟨a, y, rfl, hs, _⟩ := dp2 h; exact ⟨a, _, rfl, hs⟩
  | not c => obtain ⟨a, y, rfl, hs, _⟩ := dp2 h; exact ⟨a, _, rfl, hs⟩
  | both c d => obtain ⟨a, y, z, rfl, hs, _⟩ := dp3 h; exact ⟨a, _, rfl, hs⟩
  | either c d => obtain ⟨a, y, z, rfl, hs, _⟩ := dp3 h; exact ⟨a, _, rfl, hs⟩
  | some r c => obtain ⟨a, y, z, rfl, hs, _⟩ := dp3 h; exact ⟨a, _, rfl, hs⟩
  | all r c => obtain ⟨a, y, z, rfl, hs, _⟩ := dp3 h; exact ⟨a, _, rfl, hs⟩
theorem dk {s t : Str} {p : Prop} {i1 : Decidable (V.str s = V.str t)} {i2 : Decidable p} (b : Bool) (h : decide (s = t) = b) (h2 : (p ↔ b = true)) : @decide _ i1 = @decide _ i2 := by
  cases b with
  | true => rw [decide_eq_true (congrArg V.str (of_decide_eq_true h)), decide_eq_true (h2.mpr rfl)]
  | false => rw [decide_eq_false (fun z => of_decide_eq_false h (V.str.inj z)), decide_eq_false (fun z => Bool.noConfusion (h2.mp z))]
theorem kd_or (c : Con) : decide (V.str c.kd = V.str (Str.ofString "or")) = decide (c.rk = 0) := by cases c <;> simp only [Con.kd, Con.rk] <;> (first | exact dk false (by decide +kernel) (by decide) | exact dk true (by decide +kernel) (by decide))
theorem kd_and (c : Con) : decide (V.str c.kd = V.str (Str.ofString "and")) = decide (c.rk = 1) := by cases c <;> simp only [Con.kd, Con.rk] <;> (first | exact dk false (by decide +kernel) (by decide) | exact dk true (by decide +kernel) (by decide))
theorem rk_le (c : Con) : c.rk ≤ 2 := by cases c <;> (simp only [Con.rk]; decide)
theorem c_rank {f : Addr} {fd : FuncData} {t0 t1 t2 : Tok} (D : Df K mg "_rank" s_rank f fd ["concept"]) (m_OR_RANK : mg "OR_RANK" = some (.int K_OR_RANK t0)) (m_AND_RANK : mg "AND_RANK" = some (.int K_AND_RANK t1)) (m_FRONT_RANK : mg "FRONT_RANK" = some (.int K_FRONT_RANK t2)) : Cl P w K mg base 1 "_rank" (spRank K) := by
  refine D.cl sc_rank (fun vs H Q E h => ?_) (fun cdv A outer s H vs Q E hr h => ?_)
  · obtain ⟨v, c, rfl, _⟩ := h
    rfl
  obtain ⟨v, c, rfl, hd, q⟩ := h
  obtain ⟨a, r, rfl, hs⟩ := con_kind hd
  refine ⟨_, (pss_cons (ps_if (pt_cmpR op_eq (pe_ix ix_tup (pv 0) pe_int (fun _ _ => rfl)) pe_str (nomark _)) (pss_one (ps_ret (pe_glob (v := .int K_OR_RANK) (by rfl) m_OR_RANK ⟨_, rfl⟩))) pss_nil)
      (pss_cons (ps_if (pt_cmpR op_eq (pe_ix ix_tup (pv 0) pe_int (fun _ _ => rfl)) pe_str (nomark _)) (pss_one (ps_ret (pe_glob (v := .int K_AND_RANK) (by rfl) m_AND_RANK ⟨_, rfl⟩))) pss_nil)
      (pss_one (ps_ret (pe_glob (v := .int K_FRONT_RANK) (by rfl) m_FRONT_RANK ⟨_, rfl⟩))))), ?_⟩
  have i0 : atI (V.str c.kd :: r) 0 = some (.str c.kd) := atI_nat (j := 0) rfl
  have hl := rk_le c
  refine ⟨_, rfl, a, _, 0, _, rfl, rfl, hs, i0, rfl, _, rfl, ?_⟩
  rw [kd_or]
  refine ite2 (fun h => ?_) (fun h => ?_)
  · rw [of_decide_eq_true h] at q
    exact q
  have h0 : c.rk ≠ 0 := fun z => h (decide_eq_true z)
  refine ⟨_, rfl, a, _, 0, _, rfl, rfl, hs, i0, rfl, _, rfl, ?_⟩
  rw [kd_and]
  refine ite2 (fun h => ?_) (fun h => ?_)
  · rw [of_decide_eq_true h] at q
    exact q
  have h1 : c.rk ≠ 1 := fun z => h (decide_eq_true z)
  rw [show c.rk = 2 by omega] at q
  exact q
def spPC (K : PySem.W.Frag) (n : Nat) : Sp := fun vs H Q _ => ∃ (v : V) (c : Con), vs = [v] ∧ Dp K H v c.D ∧ c.dp < n ∧ c.sz ≤ 100000 ∧ ∀ H', Same H H' → Q (.str (T c.pr)) H'
def spOp (K : PySem.W.Frag) (n : Nat) : Sp := fun vs H Q _ => ∃ (v : V) (c : Con) (k : Nat), vs = [v, .int (k : Int)] ∧ Dp K H v c.D ∧ c.dp < n ∧ c.sz ≤ 100000 ∧ ∀ H', Same H H' → Q (.str (T (wrap (decide (c.rk < k)) c.pr))) H'
theorem c_operand {n : Nat} {f : Addr} {fd : FuncData} (D : Df K mg "_operand" s_operand f fd ["concept", "rank"]) (c_print_concept : Cl P w K mg base (2 * n + 1) "print_concept" (spPC K n)) (c_rank : Cl P w K mg base 1 "_rank" (spRank K)) : Cl P w K mg base (2 * n + 2) "_operand" (spOp K n) := by
  refine D.cl sc_operand (fun vs H Q E h => ?_) (fun cdv A outer s H vs Q E hr h => ?_)
  · obtain ⟨v, c, k, rfl, _⟩ := h
    rfl
  obtain ⟨v, c, k, rfl, hd, hn, hz, q⟩ := h
  refine ⟨_, (pss_cons (ps_set (i := 2) sc_operand.nd rfl (.inl rfl) (pc c_print_concept hr (by first | decide | omega) (by rfl) (pa_cons (pv 0) pa_nil)))
      (pss_one (ps_ret (pe_ifExp (pt_cmpR op_lt (pc c_rank hr (by first | decide | omega) (by rfl) (pa_cons (pv 0) pa_nil)) (pv 1) (nomark _)) (pe_joined (PJ.cons pe_str (PJ.cons (pe_fmt (pv 2)) (PJ.cons pe_str PJ.nil)))) (pv 2))))), ?_⟩
  refine ⟨_, rfl, v, c, rfl, hd, hn, hz, fun H1 e1 => ?_⟩
  have hl := c.pr_len
  refine ⟨_, rfl, v, c, rfl, Dp.same e1 hd, _, rfl, _, _, rfl, rfl, _, rfl, ?_⟩
  rw [show decide ((c.rk : Int) < (k : Int)) = decide (c.rk < k) from decide_eq_decide.mpr (by omega)]
  unfold wrap at q
  cases hb : decide (c.rk < k) with
  | true =>
    rw [hb] at q
    refine iteT (js_0 (js_c (by decide +kernel) (by decide) (js_e (b := c.pr) (fun R hR => ⟨_, rfl, hR _ (Same.refl _)⟩) (by omega) (by decide +kernel) fun H' e => js_c (by decide +kernel) ?_ (js_end ?_))))
    · have : (lit "(").length = 1 := by decide +kernel
      rw [List.nil_append, List.length_append, this]
      omega
    · exact q _ (e1.trans e)
  | false =>
    rw [hb] at q
    exact iteF ⟨_, rfl, q _ e1⟩
theorem c_print_concept {f g : Addr} {fd gd : FuncData} {t1 t2 : Tok} (D : Df K mg "print_concept" s_print_concept f fd ["concept"]) (DO : Df K mg "_operand" s_operand g gd ["concept", "rank"]) (c_rank : Cl P w K mg base 1 "_rank" (spRank K)) (c_role : Cl P w K mg base 1 "_role" (spRole K)) (m_FRONT_RANK : mg "FRONT_RANK" = some (.int K_FRONT_RANK t2)) : ∀ n : Nat, Cl P w K mg base (2 * n + 1) "print_concept" (spPC K n)
  | 0 => by
    refine D.cl sc_print_concept (fun vs H Q E h => ?_) (fun cdv A outer s H vs Q E hr h => ?_)
    · obtain ⟨v, c, rfl, _⟩ := h
      rfl
    · obtain ⟨v, c, _, _, hn, _⟩ := h
      exact absurd hn (Nat.not_lt_zero _)
  | n + 1 => by
    have c_operand := c_operand DO (c_print_concept D DO c_rank c_role m_FRONT_RANK (t1 := t1) n) c_rank
    refine D.cl sc_print_concept (fun vs H Q E h => ?_) (fun cdv A outer s H vs Q E hr h => ?_)
    · obtain ⟨v, c, rfl, _⟩ := h
      rfl
    obtain ⟨v, c, rfl, hd, hn, hz, q⟩ := h
    refine ⟨_, (pss_cons (ps_set (i := 1) sc_print_concept.nd rfl (.inl rfl) (pe_ix ix_tup (pv 0) pe_int (fun _ _ => rfl)))
      (pss_cons (ps_if (pt_cmpR op_eq (pv 1) pe_str (nomark _)) (pss_one (ps_ret (pe_ix ix_tup (pv 0) pe_int (fun _ _ => rfl)))) pss_nil)
      (pss_cons (ps_if (pt_cmpR op_eq (pv 1) pe_str (nomark _)) (pss_one (ps_ret (pe_joined (PJ.cons pe_str (PJ.cons (pe_fmt (pc c_operand hr (by first | decide | omega) (by rfl) (pa_cons (pe_ix ix_tup (pv 0) pe_int (fun _ _ => rfl)) (pa_cons (pe_glob (v := .int K_FRONT_RANK) (by rfl) m_FRONT_RANK ⟨_, rfl⟩) pa_nil)))) PJ.nil))))) pss_nil)
      (pss_cons (ps_if (pt_cmpR op_in_seq (pv 1) (pe_tup (pa_cons pe_str (pa_cons pe_str pa_nil))) rfl) (pss_one (ps_ret (pe_joined (PJ.cons (pe_fmt (pv 1)) (PJ.cons pe_str (PJ.cons (pe_fmt (pc c_role hr (by first | decide | omega) (by rfl) (pa_cons (pe_ix ix_tup (pv 0) pe_int (fun _ _ => rfl)) pa_nil))) (PJ.cons pe_str (PJ.cons (pe_fmt (pc c_operand hr (by first | decide | omega) (by rfl) (pa_cons (pe_ix ix_tup (pv 0) pe_int (fun _ _ => rfl)) (pa_cons (pe_glob (v := .int K_FRONT_RANK) (by rfl) m_FRONT_RANK ⟨_, rfl⟩) pa_nil)))) PJ.nil)))))))) pss_nil)
      (pss_cons (ps_if (pt_cmpR op_in_seq (pv 1) (pe_tup (pa_cons pe_str (pa_cons pe_str pa_nil))) rfl) (pss_cons (ps_set (i := 2) sc_print_concept.nd rfl (.inl rfl) (pc c_rank hr (by first | decide | omega) (by rfl) (pa_cons (pv 0) pa_nil)))
      (pss_one (ps_ret (pe_joined (PJ.cons (pe_fmt (pc c_operand hr (by first | decide | omega) (by rfl) (pa_cons (pe_ix ix_tup (pv 0) pe_int (fun _ _ => rfl)) (pa_cons (pv 2) pa_nil)))) (PJ.cons pe_str (PJ.cons (pe_fmt (pv 1)) (PJ.cons pe_str (PJ.cons (pe_fmt (pc c_operand hr (by first | decide | omega) (by rfl) (pa_cons (pe_ix ix_tup (pv 0) pe_int (fun _ _ => rfl)) (pa_cons (pe_op op_add (pv 2) pe_int) pa_nil)))) PJ.nil))))))))) pss_nil)
      (pss_one (ps_ret (pv 1)))))))), ?_⟩
    cases c with
    | any =>
      obtain ⟨a, rfl, hs⟩ := dp1 hd
      refine ⟨_, rfl, a, _, 0, _, rfl, rfl, hs, atI_nat (j := 0) rfl, ?_⟩
      refine if_eqF rfl (by decide +kernel) (if_eqF rfl (by decide +kernel) (if_in2F rfl (by decide +kernel) fun p hp => (if_in2F rfl (by decide +kernel) fun p2 hp2 => ?_)))
      refine ⟨_, rfl, ?_⟩
      rw [lit_T "anything"]
      exact q _ ((Same.new _ hp).trans (Same.new _ hp2))
    | nothing =>
      obtain ⟨a, rfl, hs⟩ := dp1 hd
      refine ⟨_, rfl, a, _, 0, _, rfl, rfl, hs, atI_nat (j := 0) rfl, ?_⟩
      refine if_eqF rfl (by decide +kernel) (if_eqF rfl (by decide +kernel) (if_in2F rfl (by decide +kernel) fun p hp => (if_in2F rfl (by decide +kernel) fun p2 hp2 => ?_)))
      refine ⟨_, rfl, ?_⟩
      rw [lit_T "nothing"]
      exact q _ ((Same.new _ hp).trans (Same.new _ hp2))
    | name s =>
      obtain ⟨a, y, rfl, hs, hy⟩ := dp2 hd
      cases dp_str hy
      refine ⟨_, rfl, a, _, 0, _, rfl, rfl, hs, atI_nat (j := 0) rfl, ?_⟩
      refine if_eqT rfl (by decide +kernel) ?_
      exact ⟨_, rfl, a, _, 1, _, rfl, rfl, hs, atI_nat (j := 1) rfl, q _ (Same.refl _)⟩
    | not c =>
      obtain ⟨a, y, rfl, hs, hy⟩ := dp2 hd
      have hn2 : c.dp < n := Nat.lt_of_succ_lt_succ hn
      have hz2 : c.sz + 20 ≤ 100000 := hz
      refine ⟨_, rfl, a, _, 0, _, rfl, rfl, hs, atI_nat (j := 0) rfl, ?_⟩
      refine if_eqF rfl (by decide +kernel) (if_eqT rfl (by decide +kernel) ?_)
      refine js_0 (js_c (by decide +kernel) (by decide) ?_)
      refine js_e (b := wrap (decide (c.rk < 2)) c.pr) (fun R hR => ⟨_, rfl, a, _, 1, _, rfl, rfl, hs, atI_nat (j := 1) rfl, y, c, 2, rfl, hy, hn2, by omega, hR⟩) (by have := wrap_len (decide (c.rk < 2)) c.pr; have := c.pr_len; omega) (by decide +kernel) fun H3 e3 => js_end ?_
      exact q _ e3
    | both c d =>
      obtain ⟨a, y, z, rfl, hs, hy, hc⟩ := dp3 hd
      have hn1 : c.dp < n := by have : max c.dp d.dp + 1 < n + 1 := hn; omega
      have hn2 : d.dp < n := by have : max c.dp d.dp + 1 < n + 1 := hn; omega
      have hz2 : c.sz + d.sz + 20 ≤ 100000 := hz
      refine ⟨_, rfl, a, _, 0, _, rfl, rfl, hs, atI_nat (j := 0) rfl, ?_⟩
      refine if_eqF rfl (by decide +kernel) (if_eqF rfl (by decide +kernel) (if_in2F rfl (by decide +kernel) fun p hp => (if_in2T rfl (by decide +kernel) fun p2 hp2 => ?_)))
      have e0 := (Same.new (.tup [V.str (Str.ofString "some"), V.str (Str.ofString "all")]) hp).trans (Same.new (.tup [V.str (Str.ofString "and"), V.str (Str.ofString "or")]) hp2)
      refine ⟨_, rfl, _, .both c d, rfl, Dp.same e0 hd, ?_⟩
      refine js_0 (js_e (b := wrap (decide (c.rk < 1)) c.pr) (fun R hR => ⟨_, rfl, a, _, 1, _, rfl, rfl, Same.seqT e0 hs, atI_nat (j := 1) rfl, _, rfl, y, c, 1, rfl, Dp.same e0 hy, hn1, by omega, hR⟩) (by have := wrap_len (decide (c.rk < 1)) c.pr; have := c.pr_len; omega) (by decide) fun H1 e1 => ?_)
      have w1 := wrap_len (decide (c.rk < 1)) c.pr
      have w2 := c.pr_len
      have l1 : (lit " ").length = 1 := by decide +kernel
      have l2 : (lit "and").length ≤ 3 := by decide +kernel
      rw [List.nil_append]
      refine js_c (by decide +kernel) (by omega) ?_
      refine js_e (b := lit "and") (fun R hR => ⟨_, rfl, lit_T "and" ▸ hR _ (Same.refl _)⟩) (by omega) (by rw [List.length_append]; omega) fun H2 e2 => ?_
      refine js_c (by decide +kernel) (by rw [List.length_append, List.length_append]; omega) ?_
      have e3 := (e0.trans e1).trans e2
      refine js_e (b := wrap (decide (d.rk < 2)) d.pr) (fun R hR => ⟨_, rfl, a, _, 2, _, rfl, rfl, Same.seqT e3 hs, atI_nat (j := 2) rfl, _, rfl, _, _, rfl, rfl, z, d, 2, rfl, Dp.same e3 hc, hn2, by omega, hR⟩) (by have := wrap_len (decide (d.rk < 2)) d.pr; have := d.pr_len; omega) (by
        rw [List.length_append, List.length_append, List.length_append]
        omega) fun H3 e4 => js_end ?_
      exact q _ (e3.trans e4)
    | either c d =>
      obtain ⟨a, y, z, rfl, hs, hy, hc⟩ := dp3 hd
      have hn1 : c.dp < n := by have : max c.dp d.dp + 1 < n + 1 := hn; omega
      have hn2 : d.dp < n := by have : max c.dp d.dp + 1 < n + 1 := hn; omega
      have hz2 : c.sz + d.sz + 20 ≤ 100000 := hz
      refine ⟨_, rfl, a, _, 0, _, rfl, rfl, hs, atI_nat (j := 0) rfl, ?_⟩
      refine if_eqF rfl (by decide +kernel) (if_eqF rfl (by decide +kernel) (if_in2F rfl (by decide +kernel) fun p hp => (if_in2T rfl (by decide +kernel) fun p2 hp2 => ?_)))
      have e0 := (Same.new (.tup [V.str (Str.ofString "some"), V.str (Str.ofString "all")]) hp).trans (Same.new (.tup [V.str (Str.ofString "and"), V.str (Str.ofString "or")]) hp2)
      refine ⟨_, rfl, _, .either c d, rfl, Dp.same e0 hd, ?_⟩
      refine js_0 (js_e (b := wrap (decide (c.rk < 0)) c.pr) (fun R hR => ⟨_, rfl, a, _, 1, _, rfl, rfl, Same.seqT e0 hs, atI_nat (j := 1) rfl, _, rfl, y, c, 0, rfl, Dp.same e0 hy, hn1, by omega, hR⟩) (by have := wrap_len (decide (c.rk < 0)) c.pr; have := c.pr_len; omega) (by decide) fun H1 e1 => ?_)
      have w1 := wrap_len (decide (c.rk < 0)) c.pr
      have w2 := c.pr_len
      have l1 : (lit " ").length = 1 := by decide +kernel
      have l2 : (lit "or").length ≤ 3 := by decide +kernel
      rw [List.nil_append]
      refine js_c (by decide +kernel) (by omega) ?_
      refine js_e (b := lit "or") (fun R hR => ⟨_, rfl, lit_T "or" ▸ hR _ (Same.refl _)⟩) (by omega) (by rw [List.length_append]; omega) fun H2 e2 => ?_
      refine js_c (by decide +kernel) (by rw [List.length_append, List.length_append]; omega) ?_
      have e3 := (e0.trans e1).trans e2
      refine js_e (b := wrap (decide (d.rk < 1)) d.pr) (fun R hR => ⟨_, rfl, a, _, 2, _, rfl, rfl, Same.seqT e3 hs, atI_nat (j := 2) rfl, _, rfl, _, _, rfl, rfl, z, d, 1, rfl, Dp.same e3 hc, hn2, by omega, hR⟩) (by have := wrap_len (decide (d.rk < 1)) d.pr; have := d.pr_len; omega) (by
        rw [List.length_append, List.length_append, List.length_append]
        omega) fun H3 e4 => js_end ?_
      exact q _ (e3.trans e4)
    | some r c =>
      obtain ⟨a, y, z, rfl, hs, hy, hc⟩ := dp3 hd
      have hn2 : c.dp < n := Nat.lt_of_succ_lt_succ hn
      have hz2 : r.1.length + c.sz + 40 ≤ 100000 := hz
      refine ⟨_, rfl, a, _, 0, _, rfl, rfl, hs, atI_nat (j := 0) rfl, ?_⟩
      refine if_eqF rfl (by decide +kernel) (if_eqF rfl (by decide +kernel) (if_in2T rfl (by decide +kernel) fun p hp => ?_))
      have e0 := Same.new (.tup [V.str (Str.ofString "some"), V.str (Str.ofString "all")]) hp
      refine js_0 (js_e (b := lit "some") (fun R hR => ⟨_, rfl, lit_T "some" ▸ hR _ (Same.refl _)⟩) (by decide +kernel) (by decide) fun H1 e1 => ?_)
      refine js_c (by decide +kernel) (by decide +kernel) ?_
      have b1 : (([] : List Nat) ++ lit "some" ++ lit " ").length ≤ 10 := by decide +kernel
      refine js_e (b := rolT r) (fun R hR => ⟨_, rfl, a, _, 1, _, rfl, rfl, Same.seqT (e0.trans e1) hs, atI_nat (j := 1) rfl, y, r, rfl, Dp.same (e0.trans e1) hy, by omega, hR⟩) (by have := rolT_len r; omega) (by omega) fun H2 e2 => ?_
      refine js_c (by decide +kernel) (by have := rolT_len r; rw [List.length_append]; omega) ?_
      refine js_e (b := wrap (decide (c.rk < 2)) c.pr) (fun R hR => ⟨_, rfl, a, _, 2, _, rfl, rfl, Same.seqT ((e0.trans e1).trans e2) hs, atI_nat (j := 2) rfl, z, c, 2, rfl, Dp.same ((e0.trans e1).trans e2) hc, hn2, by omega, hR⟩) (by have := wrap_len (decide (c.rk < 2)) c.pr; have := c.pr_len; omega) (by
        have l1 : (lit " ").length = 1 := by decide +kernel
        have := rolT_len r
        rw [List.length_append, List.length_append, l1]
        omega) fun H3 e3 => js_end ?_
      exact q _ (((e0.trans e1).trans e2).trans e3)
    | all r c =>
      obtain ⟨a, y, z, rfl, hs, hy, hc⟩ := dp3 hd
      have hn2 : c.dp < n := Nat.lt_of_succ_lt_succ hn
      have hz2 : r.1.length + c.sz + 40 ≤ 100000 := hz
      refine ⟨_, rfl, a, _, 0, _, rfl, rfl, hs, atI_nat (j := 0) rfl, ?_⟩
      refine if_eqF rfl (by decide +kernel) (if_eqF rfl (by decide +kernel) (if_in2T rfl (by decide +kernel) fun p hp => ?_))
      have e0 := Same.new (.tup [V.str (Str.ofString "some"), V.str (Str.ofString "all")]) hp
      refine js_0 (js_e (b := lit "all") (fun R hR => ⟨_, rfl, lit_T "all" ▸ hR _ (Same.refl _)⟩) (by decide +kernel) (by decide) fun H1 e1 => ?_)
      refine js_c (by decide +kernel) (by decide +kernel) ?_
      have b1 : (([] : List Nat) ++ lit "all" ++ lit " ").length ≤ 10 := by decide +kernel
      refine js_e (b := rolT r) (fun R hR => ⟨_, rfl, a, _, 1, _, rfl, rfl, Same.seqT (e0.trans e1) hs, atI_nat (j := 1) rfl, y, r, rfl, Dp.same (e0.trans e1) hy, by omega, hR⟩) (by have := rolT_len r; omega) (by omega) fun H2 e2 => ?_
      refine js_c (by decide +kernel) (by have := rolT_len r; rw [List.length_append]; omega) ?_
      refine js_e (b := wrap (decide (c.rk < 2)) c.pr) (fun R hR => ⟨_, rfl, a, _, 2, _, rfl, rfl, Same.seqT ((e0.trans e1).trans e2) hs, atI_nat (j := 2) rfl, z, c, 2, rfl, Dp.same ((e0.trans e1).trans e2) hc, hn2, by omega, hR⟩) (by have := wrap_len (decide (c.rk < 2)) c.pr; have := c.pr_len; omega) (by
        have l1 : (lit " ").length = 1 := by decide +kernel
        have := rolT_len r
        rw [List.length_append, List.length_append, l1]
        omega) fun H3 e3 => js_end ?_
      exact q _ (((e0.trans e1).trans e2).trans e3)
def Stm.pr : Stm → List Nat
  | .below c d => c.pr ++ lit " " ++ lit "below" ++ lit " " ++ d.pr
  | .equals c d => c.pr ++ lit " " ++ lit "equals" ++ lit " " ++ d.pr
  | .apart c d => c.pr ++ lit ", " ++ d.pr ++ lit " apart"
  | .domain r c => lit "domain" ++ lit " " ++ rolT r ++ lit " " ++ c.pr
  | .range r c => lit "range" ++ lit " " ++ rolT r ++ lit " " ++ c.pr
  | .under r s => rolT r ++ lit " under " ++ rolT s
  | .inverse a b => a ++ lit " inverse " ++ b
  | .is a c => a ++ lit " is " ++ c.pr
  | .has a b c => a ++ lit " " ++ b ++ lit " " ++ c
  | .never => lit "never"
theorem Stm.pr_len (s : Stm) : s.pr.length ≤ s.sz := by
  have e1 : (lit " ").length = 1 := by decide +kernel
  have e2 : (lit "below").length = 5 := by decide +kernel
  have e3 : (lit "equals").length = 6 := by decide +kernel
  have e4 : (lit ", ").length = 2 := by decide +kernel
  have e5 : (lit " apart").length = 6 := by decide +kernel
  have e6 : (lit "domain").length = 6 := by decide +kernel
  have e7 : (lit "range").length = 5 := by decide +kernel
  have e8 : (lit " under ").length = 7 := by decide +kernel
  have e9 : (lit " inverse ").length = 9 := by decide +kernel
  have e10 : (lit " is ").length = 4 := by decide +kernel
  have e11 : (lit "never").length = 5 := by decide +kernel
  cases s with
  | below c d | equals c d | apart c d =>
    have := c.pr_len
    have := d.pr_len
    simp only [Stm.pr, Stm.sz, List.length_append, e1, e2, e3, e4, e5]
    omega
  | domain r c | range r c =>
    have := c.pr_len
    have := rolT_len r
    simp only [Stm.pr, Stm.sz, List.length_append, e1, e6, e7]
    omega
  | under r s =>
    have := rolT_len r
    have := rolT_len s
    simp only [Stm.pr, Stm.sz, List.length_append, e8]
    omega
  | inverse a b =>
    simp only [Stm.pr, Stm.sz, List.length_append, e9]
    omega
  | is a c =>
    have := c.pr_len
    simp only [Stm.pr, Stm.sz, List.length_append, e10]
    omega
  | has a b c =>
    simp only [Stm.pr, Stm.sz, List.length_append, e1]
    omega
  | never =>
    simp only [Stm.pr, Stm.sz, e11]
    omega
/-- [e1] x [e2] with written text between and behind, glued -/
theorem js3 {σ : L2.St} {H : Hp} {t1 t2 : TE} {a b : List Nat} {s : String} {Q : Str → Hp → Prop} (g1 : GT t1 σ H a) (g2 : GT t2 σ H b) (l1 : a.length ≤ 200000) (l2 : b.length ≤ 200000) (hs : decide ((lit s).length ≤ 20) = true) (q : ∀ H', Same H H' → Q (T (a ++ lit s ++ b)) H') :
    tJs [tFmt t1, tC (.str (Str.ofString s)), tFmt t2] Str.empty σ H Q :=
  js_0 (js_e (g1 H (Same.refl _)) (by omega) (by decide) fun H1 e1 => js_c hs (by rw [List.nil_append]; omega) (js_e ((g2.mono e1) H1 (Same.refl _)) (by omega) (by have := of_decide_eq_true hs; rw [List.nil_append, List.length_append]; omega) fun H2 e2 => js_end (q _ (e1.trans e2))))
theorem js5 {σ : L2.St} {H : Hp} {t1 t2 t3 : TE} {a b c : List Nat} {s s' : String} {Q : Str → Hp → Prop} (g1 : GT t1 σ H a) (g2 : GT t2 σ H b) (g3 : GT t3 σ H c) (l1 : a.length ≤ 110000) (l2 : b.length ≤ 110000) (l3 : c.length ≤ 110000) (hs : decide ((lit s).length ≤ 20) = true) (hs' : decide ((lit s').length ≤ 20) = true)
    (q : ∀ H', Same H H' → Q (T (a ++ lit s ++ b ++ lit s' ++ c)) H') : tJs [tFmt t1, tC (.str (Str.ofString s)), tFmt t2, tC (.str (Str.ofString s')), tFmt t3] Str.empty σ H Q := by
  have k1 := of_decide_eq_true hs
  have k2 := of_decide_eq_true hs'
  exact js_0 (js_e (g1 H (Same.refl _)) (by omega) (by decide) fun H1 e1 => js_c hs (by rw [List.nil_append]; omega) (js_e ((g2.mono e1) H1 (Same.refl _)) (by omega) (by rw [List.nil_append, List.length_append]; omega) fun H2 e2 =>
    js_c hs' (by rw [List.nil_append, List.length_append, List.length_append]; omega) (js_e ((g3.mono (e1.trans e2)) H2 (Same.refl _)) (by omega) (by rw [List.nil_append, List.length_append, List.length_append, List.length_append]; omega) fun H3 e3 => js_end (q _ ((e1.trans e2).trans e3)))))
/-- the i-th item of a tuple, printed -/
theorem gt_pc {n : Nat} {σ : L2.St} {H : Hp} {j : Nat} {a : Addr} {xs : List V} {i : Nat} {y : V} {c : Con} (hσ : σ[j]? = some (some (.ref a))) (hs : SqT K H a xs) (hi : xs[i]? = some y) (hd : Dp K H y c.D) (hn : c.dp < n) (hz : c.sz ≤ 100000) : GT (tCall (spPC K n) [] E0 (tCons (tOp (rIxT K) (tVar j) (tC (.int (i : Int)))) tNil)) σ H c.pr :=
  fun H1 e R r => ⟨_, hσ, a, _, _, _, rfl, rfl, Same.seqT e hs, atI_nat hi, y, c, rfl, Dp.same e hd, hn, hz, r⟩
theorem gt_role {σ : L2.St} {H : Hp} {j : Nat} {a : Addr} {xs : List V} {i : Nat} {y : V} {r : Rol} (hσ : σ[j]? = some (some (.ref a))) (hs : SqT K H a xs) (hi : xs[i]? = some y) (hd : Dp K H y (rolD r)) (hz : r.1.length ≤ 100000) : GT (tCall (spRole K) [] E0 (tCons (tOp (rIxT K) (tVar j) (tC (.int (i : Int)))) tNil)) σ H (rolT r) :=
  fun H1 e R q => ⟨_, hσ, a, _, _, _, rfl, rfl, Same.seqT e hs, atI_nat hi, y, r, rfl, Dp.same e hd, hz, q⟩
theorem gt_item {σ : L2.St} {H : Hp} {j : Nat} {a : Addr} {xs : List V} {i : Nat} {b : List Nat} (hσ : σ[j]? = some (some (.ref a))) (hs : SqT K H a xs) (hi : xs[i]? = some (.str (T b))) : GT (tOp (rIxT K) (tVar j) (tC (.int (i : Int)))) σ H b :=
  fun H1 e R q => ⟨_, hσ, a, _, _, _, rfl, rfl, Same.seqT e hs, atI_nat hi, q H1 (Same.refl _)⟩
def spPS (K : PySem.W.Frag) (n : Nat) : Sp := fun vs H Q _ => ∃ (v : V) (s : Stm), vs = [v] ∧ Dp K H v s.D ∧ s.dp < n ∧ s.sz ≤ 100000 ∧ s ≠ .never ∧ ∀ H', Same H H' → Q (.str (T s.pr)) H'
theorem c_print_statement {n k : Nat} {f : Addr} {fd : FuncData} (D : Df K mg "print_statement" s_print_statement f fd ["statement"]) (c_print_concept : Cl P w K mg base k "print_concept" (spPC K n)) (c_role : Cl P w K mg base 1 "_role" (spRole K)) (hk : 1 ≤ k) : Cl P w K mg base (k + 1) "print_statement" (spPS K n) := by
  refine D.cl sc_print_statement (fun vs H Q E h => ?_) (fun cdv A outer s H vs Q E hr h => ?_)
  · obtain ⟨v, s, rfl, _⟩ := h
    rfl
  obtain ⟨v, s, rfl, hd, hn, hz, hnev, q⟩ := h
  refine ⟨_, (pss_cons (ps_set (i := 1) sc_print_statement.nd rfl (.inl rfl) (pe_ix ix_tup (pv 0) pe_int (fun _ _ => rfl)))
      (pss_cons (ps_if (pt_cmpR op_in_seq (pv 1) (pe_tup (pa_cons pe_str (pa_cons pe_str pa_nil))) rfl) (pss_one (ps_ret (pe_joined (PJ.cons (pe_fmt (pc c_print_concept hr (by first | decide | omega) (by rfl) (pa_cons (pe_ix ix_tup (pv 0) pe_int (fun _ _ => rfl)) pa_nil))) (PJ.cons pe_str (PJ.cons (pe_fmt (pv 1)) (PJ.cons pe_str (PJ.cons (pe_fmt (pc c_print_concept hr (by first | decide | omega) (by rfl) (pa_cons (pe_ix ix_tup (pv 0) pe_int (fun _ _ => rfl)) pa_nil))) PJ.nil)))))))) pss_nil)
      (pss_cons (ps_if (pt_cmpR op_eq (pv 1) pe_str (nomark _)) (pss_one (ps_ret (pe_joined (PJ.cons (pe_fmt (pc c_print_concept hr (by first | decide | omega) (by rfl) (pa_cons (pe_ix ix_tup (pv 0) pe_int (fun _ _ => rfl)) pa_nil))) (PJ.cons pe_str (PJ.cons (pe_fmt (pc c_print_concept hr (by first | decide | omega) (by rfl) (pa_cons (pe_ix ix_tup (pv 0) pe_int (fun _ _ => rfl)) pa_nil))) (PJ.cons pe_str PJ.nil))))))) pss_nil)
      (pss_cons (ps_if (pt_cmpR op_in_seq (pv 1) (pe_tup (pa_cons pe_str (pa_cons pe_str pa_nil))) rfl) (pss_one (ps_ret (pe_joined (PJ.cons (pe_fmt (pv 1)) (PJ.cons pe_str (PJ.cons (pe_fmt (pc c_role hr (by first | decide | omega) (by rfl) (pa_cons (pe_ix ix_tup (pv 0) pe_int (fun _ _ => rfl)) pa_nil))) (PJ.cons pe_str (PJ.cons (pe_fmt (pc c_print_concept hr (by first | decide | omega) (by rfl) (pa_cons (pe_ix ix_tup (pv 0) pe_int (fun _ _ => rfl)) pa_nil))) PJ.nil)))))))) pss_nil)
      (pss_cons (ps_if (pt_cmpR op_eq (pv 1) pe_str (nomark _)) (pss_one (ps_ret (pe_joined (PJ.cons (pe_fmt (pc c_role hr (by first | decide | omega) (by rfl) (pa_cons (pe_ix ix_tup (pv 0) pe_int (fun _ _ => rfl)) pa_nil))) (PJ.cons pe_str (PJ.cons (pe_fmt (pc c_role hr (by first | decide | omega) (by rfl) (pa_cons (pe_ix ix_tup (pv 0) pe_int (fun _ _ => rfl)) pa_nil))) PJ.nil)))))) pss_nil)
      (pss_cons (ps_if (pt_cmpR op_eq (pv 1) pe_str (nomark _)) (pss_one (ps_ret (pe_joined (PJ.cons (pe_fmt (pe_ix ix_tup (pv 0) pe_int (fun _ _ => rfl))) (PJ.cons pe_str (PJ.cons (pe_fmt (pe_ix ix_tup (pv 0) pe_int (fun _ _ => rfl))) PJ.nil)))))) pss_nil)
      (pss_cons (ps_if (pt_cmpR op_eq (pv 1) pe_str (nomark _)) (pss_one (ps_ret (pe_joined (PJ.cons (pe_fmt (pe_ix ix_tup (pv 0) pe_int (fun _ _ => rfl))) (PJ.cons pe_str (PJ.cons (pe_fmt (pc c_print_concept hr (by first | decide | omega) (by rfl) (pa_cons (pe_ix ix_tup (pv 0) pe_int (fun _ _ => rfl)) pa_nil))) PJ.nil)))))) pss_nil)
      (pss_one (ps_ret (pe_join pe_str (pe_slice sl_tupA (pv 0) (po_some pe_int) po_none))))))))))), ?_⟩
  cases s with
  | never => exact absurd rfl hnev
  | below c d =>
    obtain ⟨a, y, z, rfl, hs, hy, hc⟩ := dp3 hd
    have hz2 : c.sz + d.sz + 40 ≤ 100000 := hz
    have hn2 : max c.dp d.dp < n := hn
    have l1 := c.pr_len
    have l2 := d.pr_len
    refine ⟨_, rfl, a, _, 0, _, rfl, rfl, hs, atI_nat (j := 0) rfl, ?_⟩
    refine if_in2T rfl (by decide +kernel) fun p hp => ?_
    have e0 := (Same.new (.tup [V.str (Str.ofString "below"), V.str (Str.ofString "equals")]) hp)
    refine js5 ((gt_pc (i := 1) rfl hs rfl hy (by omega) (by omega)).mono e0) (gt_varL rfl) ((gt_pc (i := 2) rfl hs rfl hc (by omega) (by omega)).mono e0) (by omega) (by decide +kernel) (by omega) (by decide +kernel) (by decide +kernel) fun H' e => ?_
    exact q _ (e0.trans e)
  | equals c d =>
    obtain ⟨a, y, z, rfl, hs, hy, hc⟩ := dp3 hd
    have hz2 : c.sz + d.sz + 40 ≤ 100000 := hz
    have hn2 : max c.dp d.dp < n := hn
    have l1 := c.pr_len
    have l2 := d.pr_len
    refine ⟨_, rfl, a, _, 0, _, rfl, rfl, hs, atI_nat (j := 0) rfl, ?_⟩
    refine if_in2T rfl (by decide +kernel) fun p hp => ?_
    have e0 := (Same.new (.tup [V.str (Str.ofString "below"), V.str (Str.ofString "equals")]) hp)
    refine js5 ((gt_pc (i := 1) rfl hs rfl hy (by omega) (by omega)).mono e0) (gt_varL rfl) ((gt_pc (i := 2) rfl hs rfl hc (by omega) (by omega)).mono e0) (by omega) (by decide +kernel) (by omega) (by decide +kernel) (by decide +kernel) fun H' e => ?_
    exact q _ (e0.trans e)
  | apart c d =>
    obtain ⟨a, y, z, rfl, hs, hy, hc⟩ := dp3 hd
    have hz2 : c.sz + d.sz + 40 ≤ 100000 := hz
    have hn2 : max c.dp d.dp < n := hn
    have l1 := c.pr_len
    have l2 := d.pr_len
    refine ⟨_, rfl, a, _, 0, _, rfl, rfl, hs, atI_nat (j := 0) rfl, ?_⟩
    refine if_in2F rfl (by decide +kernel) fun p hp => (if_eqT rfl (by decide +kernel) ?_)
    have e0 := (Same.new (.tup [V.str (Str.ofString "below"), V.str (Str.ofString "equals")]) hp)
    have lc : (lit ", ").length = 2 := by decide +kernel
    refine js_0 (js_e (((gt_pc (i := 1) rfl hs rfl hy (by omega) (by omega)).mono e0) _ (Same.refl _)) (by omega) (by decide) fun H1 e1 => js_c (by decide +kernel) (by rw [List.nil_append]; omega) (js_e (((gt_pc (i := 2) rfl hs rfl hc (by omega) (by omega)).mono (e0.trans e1)) _ (Same.refl _)) (by omega) (by rw [List.nil_append, List.length_append]; omega) fun H2 e2 => js_c (by decide +kernel) (by rw [List.nil_append, List.length_append, List.length_append]; omega) (js_end ?_)))
    exact q _ ((e0.trans e1).trans e2)
  | domain r c =>
    obtain ⟨a, y, z, rfl, hs, hy, hc⟩ := dp3 hd
    have hz2 : r.1.length + c.sz + 40 ≤ 100000 := hz
    have hn2 : c.dp < n := hn
    have l1 := c.pr_len
    have l2 := rolT_len r
    refine ⟨_, rfl, a, _, 0, _, rfl, rfl, hs, atI_nat (j := 0) rfl, ?_⟩
    refine if_in2F rfl (by decide +kernel) fun p hp => (if_eqF rfl (by decide +kernel) (if_in2T rfl (by decide +kernel) fun p2 hp2 => ?_))
    have e0 := (Same.new (.tup [V.str (Str.ofString "below"), V.str (Str.ofString "equals")]) hp).trans (Same.new (.tup [V.str (Str.ofString "domain"), V.str (Str.ofString "range")]) hp2)
    refine js5 (gt_varL rfl) ((gt_role (i := 1) rfl hs rfl hy (by omega)).mono e0) ((gt_pc (i := 2) rfl hs rfl hc (by omega) (by omega)).mono e0) (by decide +kernel) (by omega) (by omega) (by decide +kernel) (by decide +kernel) fun H' e => ?_
    exact q _ (e0.trans e)
  | range r c =>
    obtain ⟨a, y, z, rfl, hs, hy, hc⟩ := dp3 hd
    have hz2 : r.1.length + c.sz + 40 ≤ 100000 := hz
    have hn2 : c.dp < n := hn
    have l1 := c.pr_len
    have l2 := rolT_len r
    refine ⟨_, rfl, a, _, 0, _, rfl, rfl, hs, atI_nat (j := 0) rfl, ?_⟩
    refine if_in2F rfl (by decide +kernel) fun p hp => (if_eqF rfl (by decide +kernel) (if_in2T rfl (by decide +kernel) fun p2 hp2 => ?_))
    have e0 := (Same.new (.tup [V.str (Str.ofString "below"), V.str (Str.ofString "equals")]) hp).trans (Same.new (.tup [V.str (Str.ofString "domain"), V.str (Str.ofString "range")]) hp2)
    refine js5 (gt_varL rfl) ((gt_role (i := 1) rfl hs rfl hy (by omega)).mono e0) ((gt_pc (i := 2) rfl hs rfl hc (by omega) (by omega)).mono e0) (by decide +kernel) (by omega) (by omega) (by decide +kernel) (by decide +kernel) fun H' e => ?_
    exact q _ (e0.trans e)
  | under r s =>
    obtain ⟨a, y, z, rfl, hs, hy, hc⟩ := dp3 hd
    have hz2 : r.1.length + s.1.length + 40 ≤ 100000 := hz
    have l1 := rolT_len r
    have l2 := rolT_len s
    refine ⟨_, rfl, a, _, 0, _, rfl, rfl, hs, atI_nat (j := 0) rfl, ?_⟩
    refine if_in2F rfl (by decide +kernel) fun p hp => (if_eqF rfl (by decide +kernel) (if_in2F rfl (by decide +kernel) fun p2 hp2 => (if_eqT rfl (by decide +kernel) ?_)))
    have e0 := (Same.new (.tup [V.str (Str.ofString "below"), V.str (Str.ofString "equals")]) hp).trans (Same.new (.tup [V.str (Str.ofString "domain"), V.str (Str.ofString "range")]) hp2)
    refine js3 ((gt_role (i := 1) rfl hs rfl hy (by omega)).mono e0) ((gt_role (i := 2) rfl hs rfl hc (by omega)).mono e0) (by omega) (by omega) (by decide +kernel) fun H' e => ?_
    exact q _ (e0.trans e)
  | inverse b c =>
    obtain ⟨a, y, z, rfl, hs, hy, hc⟩ := dp3 hd
    cases dp_str hy
    cases dp_str hc
    have hz2 : b.length + c.length + 40 ≤ 100000 := hz
    refine ⟨_, rfl, a, _, 0, _, rfl, rfl, hs, atI_nat (j := 0) rfl, ?_⟩
    refine if_in2F rfl (by decide +kernel) fun p hp => (if_eqF rfl (by decide +kernel) (if_in2F rfl (by decide +kernel) fun p2 hp2 => (if_eqF rfl (by decide +kernel) (if_eqT rfl (by decide +kernel) ?_))))
    have e0 := (Same.new (.tup [V.str (Str.ofString "below"), V.str (Str.ofString "equals")]) hp).trans (Same.new (.tup [V.str (Str.ofString "domain"), V.str (Str.ofString "range")]) hp2)
    refine js3 ((gt_item (i := 1) rfl hs rfl).mono e0) ((gt_item (i := 2) rfl hs rfl).mono e0) (by omega) (by omega) (by decide +kernel) fun H' e => ?_
    exact q _ (e0.trans e)
  | is b c =>
    obtain ⟨a, y, z, rfl, hs, hy, hc⟩ := dp3 hd
    cases dp_str hy
    have hz2 : b.length + c.sz + 40 ≤ 100000 := hz
    have hn2 : c.dp < n := hn
    have l1 := c.pr_len
    refine ⟨_, rfl, a, _, 0, _, rfl, rfl, hs, atI_nat (j := 0) rfl, ?_⟩
    refine if_in2F rfl (by decide +kernel) fun p hp => (if_eqF rfl (by decide +kernel) (if_in2F rfl (by decide +kernel) fun p2 hp2 => (if_eqF rfl (by decide +kernel) (if_eqF rfl (by decide +kernel) (if_eqT rfl (by decide +kernel) ?_)))))
    have e0 := (Same.new (.tup [V.str (Str.ofString "below"), V.str (Str.ofString "equals")]) hp).trans (Same.new (.tup [V.str (Str.ofString "domain"), V.str (Str.ofString "range")]) hp2)
    refine js3 ((gt_item (i := 1) rfl hs rfl).mono e0) ((gt_pc (i := 2) rfl hs rfl hc (by omega) (by omega)).mono e0) (by omega) (by omega) (by decide +kernel) fun H' e => ?_
    exact q _ (e0.trans e)
  | has b c d =>
    obtain ⟨a, y, z, w, rfl, hs, hy, hc, hw⟩ := dp4 hd
    cases dp_str hy
    cases dp_str hc
    cases dp_str hw
    have hz2 : b.length + c.length + d.length + 40 ≤ 100000 := hz
    refine ⟨_, rfl, a, _, 0, _, rfl, rfl, hs, atI_nat (j := 0) rfl, ?_⟩
    refine if_in2F rfl (by decide +kernel) fun p hp => (if_eqF rfl (by decide +kernel) (if_in2F rfl (by decide +kernel) fun p2 hp2 => (if_eqF rfl (by decide +kernel) (if_eqF rfl (by decide +kernel) (if_eqF rfl (by decide +kernel) ?_)))))
    have e0 := (Same.new (.tup [V.str (Str.ofString "below"), V.str (Str.ofString "equals")]) hp).trans (Same.new (.tup [V.str (Str.ofString "domain"), V.str (Str.ofString "range")]) hp2)
    refine ⟨⟨_, rfl⟩, _, rfl, 1, rfl, a, _, rfl, Same.seqT e0 hs, fun hfull => absurd hfull.1 (show ¬ (1 : Nat) = 0 by decide), fun _ p3 hp3 => ?_⟩
    refine ⟨_, p3, [T b, T c, T d], rfl, rfl, .inr (SqT.of upd_same), ?_, ?_⟩
    · have : (Str.ofString " ").length = 1 := by decide +kernel
      rw [this]
      show (T b).length + ((T c).length + ((T d).length + 0)) + 3 * 1 ≤ _
      rw [T_len, T_len, T_len]
      omega
    · rw [lit_T, show [T b, T c, T d] = [b, c, d].map T from rfl, join_T]
      have e3 := Same.new (.tup (cutV [V.str (Str.ofString "has"), .str (T b), .str (T c), .str (T d)] (some 1) none)) hp3
      have := q _ (e0.trans e3)
      simp only [Stm.pr, List.append_assoc] at this
      simp only [TL.joinL, List.append_assoc]
      exact this
def spPQ (K : PySem.W.Frag) (n : Nat) : Sp := fun vs H Q _ => ∃ (v : V) (s : Stm), vs = [v] ∧ Dp K H v s.D ∧ s.dp < n ∧ s.sz ≤ 100000 ∧ ∀ H', Same H H' → Q (.str (T s.pr)) H'
theorem stm_kind {H : Hp} {v : V} {s : Stm} (h : Dp K H v s.D) : ∃ a k r, v = .ref a ∧ SqT K H a (.str k :: r) ∧ (s = .never → k = Str.ofString "never") ∧ (s ≠ .never → decide (k = Str.ofString "never") = false) := by
  cases s with
  | never => obtain ⟨a, rfl, hs⟩ := dp1 h; exact ⟨a, _, _, rfl, hs, fun _ => rfl, fun z => absurd rfl z⟩
  | has b c d => obtain ⟨a, y, z, w, rfl, hs, _⟩ := dp4 h; exact ⟨a, _, _, rfl, hs, (fun z => nomatch z), fun _ => by decide +kernel⟩
  | below c d => obtain ⟨a, y, z, rfl, hs, _⟩ := dp3 h; exact ⟨a, _, _, rfl, hs, (fun z => nomatch z), fun _ => by decide +kernel⟩
  | equals c d => obtain ⟨a, y, z, rfl, hs, _⟩ := dp3 h; exact ⟨a, _, _, rfl, hs, (fun z => nomatch z), fun _ => by decide +kernel⟩
  | apart c d => obtain ⟨a, y, z, rfl, hs, _⟩ := dp3 h; exact ⟨a, _, _, rfl, hs, (fun z => nomatch z), fun _ => by decide +kernel⟩
  | domain c d => obtain ⟨a, y, z, rfl, hs, _⟩ := dp3 h; exact ⟨a, _, _, rfl, hs, (fun z => nomatch z), fun _ => by decide +kernel⟩
  | range c d => obtain ⟨a, y, z, rfl, hs, _⟩ := dp3 h; exact ⟨a, _, _, rfl, hs, (fun z => nomatch z), fun _ => by decide +kernel⟩
  | under c d => obtain ⟨a, y, z, rfl, hs, _⟩ := dp3 h; exact ⟨a, _, _, rfl, hs, (fun z => nomatch z), fun _ => by decide +kernel⟩
  | inverse c d => obtain ⟨a, y, z, rfl, hs, _⟩ := dp3 h; exact ⟨a, _, _, rfl, hs, (fun z => nomatch z), fun _ => by decide +kernel⟩
  | is c d => obtain ⟨a, y, z, rfl, hs, _⟩ := dp3 h; exact ⟨a, _, _, rfl, hs, (fun z => nomatch z), fun _ => by decide +kernel⟩
theorem c_print_question {n k : Nat} {f : Addr} {fd : FuncData} (D : Df K mg "print_question" s_print_question f fd ["question"]) (c_print_statement : Cl P w K mg base k "print_statement" (spPS K n)) : Cl P w K mg base (k + 1) "print_question" (spPQ K n) := by
  refine D.cl sc_print_question (fun vs H Q E h => ?_) (fun cdv A outer s H vs Q E hr h => ?_)
  · obtain ⟨v, s, rfl, _⟩ := h
    rfl
  obtain ⟨v, s, rfl, hd, hn, hz, q⟩ := h
  obtain ⟨a, k', r, rfl, hs, h1, h2⟩ := stm_kind hd
  refine ⟨_, (pss_cons (ps_if (pt_cmpR op_eq (pe_ix ix_tup (pv 0) pe_int (fun _ _ => rfl)) pe_str (nomark _)) (pss_one (ps_ret pe_str)) pss_nil)
      (pss_one (ps_ret (pc c_print_statement hr (by first | decide | omega) (by rfl) (pa_cons (pv 0) pa_nil))))), ?_⟩
  refine ⟨_, rfl, a, _, 0, .str k', rfl, rfl, hs, atI_nat (j := 0) rfl, rfl, _, rfl, ?_⟩
  by_cases hnv : s = .never
  · rw [decide_eq_true (congrArg V.str (h1 hnv))]
    refine iteT ?_
    have := q H (Same.refl _)
    rw [hnv] at this
    exact lit_T "never" ▸ this
  · rw [decide_eq_false (fun z => of_decide_eq_false (h2 hnv) (V.str.inj z))]
    exact iteF ⟨_, rfl, .ref a, s, rfl, hd, hn, hz, hnv, q⟩
/-- items of a source -/
inductive Itm where
  | decl (k : Nat) (ns : List (List Nat))
  | ax (n : List Nat) (s : Stm)
def dkey : Nat → String
  | 0 => "concepts"
  | 1 => "roles"
  | _ => "individuals"
def dword : Nat → String
  | 0 => "concept"
  | 1 => "role"
  | _ => "individual"
def namesD (ns : List (List Nat)) : PyData := .tuple (ns.map fun n => .str (T n))
def Itm.D : Itm → PyData
  | .decl k ns => .tuple [.str (Str.ofString (dkey k)), namesD ns]
  | .ax n s => .tuple [.str (Str.ofString "axiom"), .str (T n), s.D]
def Itm.pr : Itm → List Nat
  | .decl k ns => lit (dword k) ++ lit " " ++ TL.joinL (lit ", ") ns ++ lit ";"
  | .ax n s => lit "axiom " ++ n ++ lit ": " ++ s.pr ++ lit ";"
def Itm.dp : Itm → Nat
  | .decl _ _ => 0
  | .ax _ s => s.dp
def Itm.Sz : Itm → Prop
  | .decl k ns => k < 3 ∧ ns.length ≤ 100 ∧ ∀ n ∈ ns, n.length ≤ 100
  | .ax n s => n.length ≤ 1000 ∧ s.sz ≤ 10000 ∧ s ≠ .never
theorem joinL_len {S : List Nat} {m : Nat} : ∀ {ns : List (List Nat)}, (∀ n ∈ ns, n.length ≤ m) → (TL.joinL S ns).length ≤ ns.length * (m + S.length)
  | [], _ => Nat.zero_le _
  | [p], h => by
    show p.length ≤ 1 * (m + S.length)
    have := h p (List.mem_singleton.mpr rfl)
    omega
  | p :: q :: r, h => by
    have ih := joinL_len (S := S) (m := m) (ns := q :: r) fun n hn => h n (List.mem_cons_of_mem _ hn)
    have h1 := h p (List.mem_cons_self ..)
    show (p ++ (S ++ TL.joinL S (q :: r))).length ≤ ((q :: r).length + 1) * (m + S.length)
    rw [List.length_append, List.length_append, Nat.add_mul]
    omega
theorem dp_names {H : Hp} {v : V} {ns : List (List Nat)} (h : Dp K H v (namesD ns)) : ∃ a, v = .ref a ∧ SqT K H a ((ns.map T).map V.str) := by
  obtain ⟨a, xs, rfl, hs, hd⟩ := dp_tup h
  refine ⟨a, rfl, ?_⟩
  have : ∀ (ns : List (List Nat)) (xs : List V), DpAll K H xs (ns.map fun n => .str (T n)) → xs = (ns.map T).map V.str := by
    intro ns
    induction ns with
    | nil => exact fun xs h => da_nil h
    | cons n ns ih =>
      intro xs h
      obtain ⟨y, r, rfl, h1, h2⟩ := da_cons h
      rw [ih r h2, dp_str h1]
      rfl
  rw [← this ns xs hd]
  exact hs
def spItem (K : PySem.W.Frag) (n : Nat) : Sp := fun vs H Q _ => ∃ (v : V) (i : Itm), vs = [v] ∧ Dp K H v i.D ∧ i.dp < n ∧ i.Sz ∧ ∀ H', Same H H' → Q (.str (T i.pr)) H'
theorem sum_lens {m : Nat} : ∀ {ns : List (List Nat)}, (∀ n ∈ ns, n.length ≤ m) → ((ns.map T).map (·.length)).sum ≤ ns.length * m
  | [], _ => Nat.zero_le _
  | n :: ns, h => by
    have ih := sum_lens (ns := ns) fun k hk => h k (List.mem_cons_of_mem _ hk)
    have h1 := h n (List.mem_cons_self ..)
    rw [List.map_cons, List.map_cons, List.sum_cons, T_len, List.length_cons, Nat.add_mul]
    omega
theorem c_item {n k : Nat} {f : Addr} {fd : FuncData} {rD : Addr} (D : Df K mg "_item" s_item f fd ["item"]) (c_print_statement : Cl P w K mg base k "print_statement" (spPS K n)) (m_DECLARING : mg "DECLARING" = some (.ref rD)) (hD : ∀ p ∈ K_DECLARING, KDct K w rD p.1 (.str p.2)) : Cl P w K mg base (k + 1) "_item" (spItem K n) := by
  refine D.cl sc_item (fun vs H Q E h => ?_) (fun cdv A outer s H vs Q E hr h => ?_)
  · obtain ⟨v, i, rfl, _⟩ := h
    rfl
  obtain ⟨v, i, rfl, hd, hn, hz, q⟩ := h
  refine ⟨_, (pss_cons (ps_if (pt_cmpR op_eq (pe_ix ix_tup (pv 0) pe_int (fun _ _ => rfl)) pe_str (nomark _)) (pss_one (ps_ret (pe_joined (PJ.cons pe_str (PJ.cons (pe_fmt (pe_ix ix_tup (pv 0) pe_int (fun _ _ => rfl))) (PJ.cons pe_str (PJ.cons (pe_fmt (pc c_print_statement hr (by first | decide | omega) (by rfl) (pa_cons (pe_ix ix_tup (pv 0) pe_int (fun _ _ => rfl)) pa_nil))) (PJ.cons pe_str PJ.nil)))))))) pss_nil)
      (pss_cons (ps_set (i := 1) sc_item.nd rfl (.inl rfl) (pe_join pe_str (pe_ix ix_tup (pv 0) pe_int (fun _ _ => rfl))))
      (pss_one (ps_ret (pe_joined (PJ.cons (pe_fmt (pe_ix ix_kdict (pe_glob (v := .ref _) (by rfl) m_DECLARING rfl) (pe_ix ix_tup (pv 0) pe_int (fun _ _ => rfl)) (fun _ _ => rfl))) (PJ.cons pe_str (PJ.cons (pe_fmt (pv 1)) (PJ.cons pe_str PJ.nil))))))))), ?_⟩
  have l1 : (lit "axiom ").length = 6 := by decide +kernel
  have l2 : (lit ": ").length = 2 := by decide +kernel
  have l3 : (lit " ").length = 1 := by decide +kernel
  have l4 : (lit ", ").length = 2 := by decide +kernel
  cases i with
  | ax m st =>
    obtain ⟨a, y, z, rfl, hs, hy, hc⟩ := dp3 hd
    cases dp_str hy
    obtain ⟨z1, z2, z3⟩ := hz
    refine ⟨_, rfl, a, _, 0, _, rfl, rfl, hs, atI_nat (j := 0) rfl, rfl, _, rfl, ?_⟩
    rw [decide_eq_true rfl]
    refine iteT (js_0 (js_c (by decide +kernel) (by decide) ?_))
    have lm := st.pr_len
    refine js_e (b := m) (fun R hR => ⟨_, rfl, a, _, 1, _, rfl, rfl, hs, atI_nat (j := 1) rfl, hR _ (Same.refl _)⟩) (by omega) (by rw [List.nil_append]; omega) fun H1 e1 => js_c (by decide +kernel) (by rw [List.nil_append, List.length_append]; omega) ?_
    refine js_e (b := st.pr) (fun R hR => ⟨_, rfl, a, _, 2, _, rfl, rfl, Same.seqT e1 hs, atI_nat (j := 2) rfl, z, st, rfl, Dp.same e1 hc, hn, by omega, z3, hR⟩) (by omega) (by rw [List.nil_append, List.length_append, List.length_append]; omega) fun H2 e2 => js_c (by decide +kernel) (by rw [List.nil_append, List.length_append, List.length_append, List.length_append]; omega) (js_end ?_)
    exact q _ (e1.trans e2)
  | decl kk ns =>
    obtain ⟨a, y, rfl, hs, hy⟩ := dp2 hd
    obtain ⟨b, rfl, hb⟩ := dp_names hy
    obtain ⟨z1, z2, z3⟩ := hz
    refine ⟨_, rfl, a, _, 0, _, rfl, rfl, hs, atI_nat (j := 0) rfl, rfl, _, rfl, ?_⟩
    have hk0 : decide (V.str (Str.ofString (dkey kk)) = V.str (Str.ofString "axiom")) = false := by
      obtain rfl | rfl | rfl : kk = 0 ∨ kk = 1 ∨ kk = 2 := by omega
      all_goals exact decide_eq_false (fun z => absurd (V.str.inj z) (by decide +kernel))
    rw [hk0]
    refine iteF ?_
    refine ⟨⟨_, rfl⟩, _, rfl, a, _, 1, _, rfl, rfl, hs, atI_nat (j := 1) rfl, _, b, ns.map T, rfl, rfl, .inr hb, ?_, ?_⟩
    · have := sum_lens z3
      have e : (Str.ofString ", ").length = 2 := by decide +kernel
      rw [e, List.length_map]
      have : ns.length * 100 ≤ 100 * 100 := Nat.mul_le_mul_right _ z2
      omega
    have lj : (TL.joinL (lit ", ") ns).length ≤ 10200 := by
      have := joinL_len (S := lit ", ") z3
      rw [l4] at this
      have : ns.length * 102 ≤ 100 * 102 := Nat.mul_le_mul_right _ z2
      omega
    rw [lit_T ", ", join_T]
    have hkk : ∃ p ∈ K_DECLARING, p.1 = Str.ofString (dkey kk) ∧ p.2 = Str.ofString (dword kk) := by
      obtain rfl | rfl | rfl : kk = 0 ∨ kk = 1 ∨ kk = 2 := by omega
      · exact ⟨_, List.mem_cons_self .., rfl, rfl⟩
      · exact ⟨_, List.mem_cons_of_mem _ (List.mem_cons_self ..), rfl, rfl⟩
      · exact ⟨_, List.mem_cons_of_mem _ (List.mem_cons_of_mem _ (List.mem_cons_self ..)), rfl, rfl⟩
    obtain ⟨p, hp, p1, p2⟩ := hkk
    have hK := hD p hp
    rw [p1, p2] at hK
    have ld : decide ((lit (dword kk)).length ≤ 20) = true := by
      obtain rfl | rfl | rfl : kk = 0 ∨ kk = 1 ∨ kk = 2 := by omega
      all_goals decide +kernel
    have ld2 := of_decide_eq_true ld
    refine js_0 (js_e (b := lit (dword kk)) (fun R hR => ⟨_, rfl, a, _, 0, _, rfl, rfl, hs, atI_nat (j := 0) rfl, _, _, _, rfl, rfl, hK, lit_T (dword kk) ▸ hR _ (Same.refl _)⟩) (by omega) (by decide) fun H1 e1 => js_c (by decide +kernel) (by rw [List.nil_append]; omega) ?_)
    refine js_e (b := TL.joinL (lit ", ") ns) (fun R hR => ⟨_, rfl, hR _ (Same.refl _)⟩) (by omega) (by rw [List.nil_append, List.length_append]; omega) fun H2 e2 => js_c (by decide +kernel) (by rw [List.nil_append, List.length_append, List.length_append]; omega) (js_end ?_)
    exact q _ (e1.trans e2)
theorem c_law_say_role {f : Addr} {fd : FuncData} (D : Df K mg "_law_say_role" s_law_say_role f fd ["role_v"]) : Cl P w K mg base 1 "_law_say_role" (spRole K) := by
  refine D.cl sc_law_say_role (fun vs H Q E h => ?_) (fun cdv A outer s H vs Q E hr h => ?_)
  · obtain ⟨v, r, rfl, _⟩ := h
    rfl
  obtain ⟨v, r, rfl, hd, hl, q⟩ := h
  obtain ⟨a, rfl, hs⟩ := dpRol hd
  refine ⟨_, (pss_cons (ps_if (pt_val (pe_ix ix_tup (pv 0) pe_int (fun _ _ => rfl))) (pss_one (ps_ret (pe_op op_add_str pe_str (pe_ix ix_tup (pv 0) pe_int (fun _ _ => rfl))))) pss_nil)
      (pss_one (ps_ret (pe_ix ix_tup (pv 0) pe_int (fun _ _ => rfl))))), ?_⟩
  refine ⟨_, rfl, a, _, 1, .bl r.2, rfl, rfl, hs, atI_nat (j := 1) rfl, r.2, rfl, ?_⟩
  unfold rolT at q
  cases h2 : r.2 with
  | true =>
    rw [h2] at q
    exact iteT (gt_ret (gt_add (gt_c "inverse ") (gt_item (i := 0) rfl hs rfl) (by decide +kernel) (by omega)) q)
  | false =>
    rw [h2] at q
    exact iteF ⟨_, rfl, a, _, 0, _, rfl, rfl, hs, atI_nat (j := 0) rfl, q _ (Same.refl _)⟩
def spSay (K : PySem.W.Frag) (n : Nat) : Sp := fun vs H Q _ => ∃ (v : V) (c : Con) (k : Nat), vs = [v, .int ((k : Int) + 1)] ∧ Dp K H v c.D ∧ c.dp < n ∧ c.sz ≤ 100000 ∧ ∀ H', Same H H' → Q (.str (T (wrap (decide (c.rk < k)) c.pr))) H'
theorem gt_say {n : Nat} {σ : L2.St} {H : Hp} {j : Nat} {a : Addr} {xs : List V} {i k : Nat} {y : V} {c : Con} (hσ : σ[j]? = some (some (.ref a))) (hs : SqT K H a xs) (hi : xs[i]? = some y) (hd : Dp K H y c.D) (hn : c.dp < n) (hz : c.sz ≤ 100000) : GT (tCall (spSay K n) [] E0 (tCons (tOp (rIxT K) (tVar j) (tC (.int (i : Int)))) (tCons (tC (.int ((k : Int) + 1))) tNil))) σ H (wrap (decide (c.rk < k)) c.pr) :=
  fun H1 e R r => ⟨_, hσ, a, _, _, _, rfl, rfl, Same.seqT e hs, atI_nat hi, y, c, k, rfl, Dp.same e hd, hn, hz, r⟩
theorem gt_sayR {σ : L2.St} {H : Hp} {j : Nat} {a : Addr} {xs : List V} {i : Nat} {y : V} {r : Rol} (hσ : σ[j]? = some (some (.ref a))) (hs : SqT K H a xs) (hi : xs[i]? = some y) (hd : Dp K H y (rolD r)) (hz : r.1.length ≤ 100000) : GT (tCall (spRole K) [] E0 (tCons (tOp (rIxT K) (tVar j) (tC (.int (i : Int)))) tNil)) σ H (rolT r) := gt_role hσ hs hi hd hz
theorem and_lit : lit " and " = lit " " ++ lit "and" ++ lit " " := by decide +kernel
theorem or_lit : lit " or " = lit " " ++ lit "or" ++ lit " " := by decide +kernel
local macro_rules | `(tactic| walk_at "ln") => `(tactic| first | omega | (simp only [List.length_append]; omega) | decide +kernel)
theorem kdx {x s t : Str} {b : Bool} (h : x = s) (d : decide (s = t) = b) : decide (x = t) = b := by
  rw [← d]
  subst h
  rfl
theorem kdx2 {x s t t' : Str} {b : Bool} (h : x = s) (d : (decide (s = t) || decide (s = t')) = b) : (decide (x = t) || decide (x = t')) = b := by
  rw [← d]
  subst h
  rfl
theorem c_law_say {f : Addr} {fd : FuncData} (D : Df K mg "_law_say" s_law_say f fd ["concept_v", "least"]) (c_law_say_role : Cl P w K mg base 1 "_law_say_role" (spRole K)) : ∀ n : Nat, Cl P w K mg base (n + 2) "_law_say" (spSay K n)
  | 0 => by
    refine D.cl sc_law_say (fun vs H Q E h => ?_) (fun cdv A outer s H vs Q E hr h => ?_)
    · obtain ⟨v, c, k, rfl, _⟩ := h
      rfl
    · obtain ⟨v, c, k, _, _, hn, _⟩ := h
      exact absurd hn (Nat.not_lt_zero _)
  | n + 1 => by
    have c_law_say := c_law_say D c_law_say_role n
    refine D.cl sc_law_say (fun vs H Q E h => ?_) (fun cdv A outer s H vs Q E hr h => ?_)
    · obtain ⟨v, c, k, rfl, _⟩ := h
      rfl
    obtain ⟨v, c, k, rfl, hd, hn, hz, q⟩ := h
    refine ⟨_, (pss_cons (ps_set (i := 2) sc_law_say.nd rfl (.inl rfl) (pe_ix ix_tup (pv 0) pe_int (fun _ _ => rfl)))
      (pss_cons (ps_set (i := 3) sc_law_say.nd rfl (.inl rfl) (pv 2))
      (pss_cons (ps_set (i := 4) sc_law_say.nd rfl (.inl rfl) pe_int)
      (Evl.pss_cut (ps_if (pt_cmpR op_eq (pv 2) pe_str (nomark _)) (pss_one (ps_set (i := 3) sc_law_say.nd rfl (.inl rfl) (pe_ix ix_tup (pv 0) pe_int (fun _ _ => rfl)))) (pss_one (ps_if (pt_cmpR op_eq (pv 2) pe_str (nomark _)) (pss_one (ps_set (i := 3) sc_law_say.nd rfl (.inl rfl) (pe_op op_add_str pe_str (pc c_law_say hr (by first | decide | omega) (by rfl) (pa_cons (pe_ix ix_tup (pv 0) pe_int (fun _ _ => rfl)) (pa_cons pe_int pa_nil)))))) (pss_one (ps_if (PW.pt (pw_or (pt_cmpR op_eq (pv 2) pe_str (nomark _)) (pw_or1 (pt_cmpR op_eq (pv 2) pe_str (nomark _))))) (pss_one (ps_set (i := 3) sc_law_say.nd rfl (.inl rfl) (pe_op op_add_str (pe_op op_add_str (pe_op op_add_str (pe_op op_add_str (pv 2) pe_str) (pc c_law_say_role hr (by first | decide | omega) (by rfl) (pa_cons (pe_ix ix_tup (pv 0) pe_int (fun _ _ => rfl)) pa_nil))) pe_str) (pc c_law_say hr (by first | decide | omega) (by rfl) (pa_cons (pe_ix ix_tup (pv 0) pe_int (fun _ _ => rfl)) (pa_cons pe_int pa_nil)))))) (pss_one (ps_if (pt_cmpR op_eq (pv 2) pe_str (nomark _)) (pss_cons (ps_set (i := 3) sc_law_say.nd rfl (.inl rfl) (pe_op op_add_str (pe_op op_add_str (pc c_law_say hr (by first | decide | omega) (by rfl) (pa_cons (pe_ix ix_tup (pv 0) pe_int (fun _ _ => rfl)) (pa_cons pe_int pa_nil))) pe_str) (pc c_law_say hr (by first | decide | omega) (by rfl) (pa_cons (pe_ix ix_tup (pv 0) pe_int (fun _ _ => rfl)) (pa_cons pe_int pa_nil)))))
      (pss_one (ps_set (i := 4) sc_law_say.nd rfl (.inl rfl) pe_int))) (pss_one (ps_if (pt_cmpR op_eq (pv 2) pe_str (nomark _)) (pss_cons (ps_set (i := 3) sc_law_say.nd rfl (.inl rfl) (pe_op op_add_str (pe_op op_add_str (pc c_law_say hr (by first | decide | omega) (by rfl) (pa_cons (pe_ix ix_tup (pv 0) pe_int (fun _ _ => rfl)) (pa_cons pe_int pa_nil))) pe_str) (pc c_law_say hr (by first | decide | omega) (by rfl) (pa_cons (pe_ix ix_tup (pv 0) pe_int (fun _ _ => rfl)) (pa_cons pe_int pa_nil)))))
      (pss_one (ps_set (i := 4) sc_law_say.nd rfl (.inl rfl) pe_int))) pss_nil)))))))))
      (pss_cons (ps_if (pt_cmpR op_lt (pv 4) (pv 1) (nomark _)) (pss_one (ps_ret (pe_op op_add_str (pe_op op_add_str pe_str (pv 3)) pe_str))) pss_nil)
      (pss_one (ps_ret (pv 3)))))))), ?_⟩
    obtain ⟨a, r, rfl, hs⟩ := con_kind hd
    refine ⟨_, rfl, a, _, 0, _, rfl, rfl, hs, atI_nat (j := 0) rfl, ?_⟩
    refine ⟨_, rfl, ?_⟩
    refine ⟨fun σ' H' => σ' = [some (.ref a), some (.int ((k : Int) + 1)), some (.str c.kd), some (.str (T c.pr)), some (.int ((c.rk : Int) + 1))] ∧ Same H H', ?_, ?_⟩
    · have L1 : (lit "not ").length = 4 := by decide +kernel
      have L2 : (lit " ").length = 1 := by decide +kernel
      have L3 : (lit "some").length = 4 := by decide +kernel
      have L4 : (lit "all").length = 3 := by decide +kernel
      have L5 : (lit " and ").length = 5 := by decide +kernel
      have L6 : (lit " or ").length = 4 := by decide +kernel
      cases c with
      | any => exact if_eqF rfl (kdx (s := Str.ofString "anything") rfl (by decide +kernel)) (if_eqF rfl (kdx (s := Str.ofString "anything") rfl (by decide +kernel)) (if_eq2F rfl (kdx2 (s := Str.ofString "anything") rfl (by decide +kernel)) (if_eqF rfl (kdx (s := Str.ofString "anything") rfl (by decide +kernel)) (if_eqF rfl (kdx (s := Str.ofString "anything") rfl (by decide +kernel)) ⟨by rw [show Con.any.pr = lit "anything" from rfl, ← lit_T]; rfl, Same.refl _⟩))))
      | nothing => exact if_eqF rfl (kdx (s := Str.ofString "nothing") rfl (by decide +kernel)) (if_eqF rfl (kdx (s := Str.ofString "nothing") rfl (by decide +kernel)) (if_eq2F rfl (kdx2 (s := Str.ofString "nothing") rfl (by decide +kernel)) (if_eqF rfl (kdx (s := Str.ofString "nothing") rfl (by decide +kernel)) (if_eqF rfl (kdx (s := Str.ofString "nothing") rfl (by decide +kernel)) ⟨by rw [show Con.nothing.pr = lit "nothing" from rfl, ← lit_T]; rfl, Same.refl _⟩))))
      | name s =>
        obtain ⟨a', y, e, hs', hy⟩ := dp2 hd
        cases V.ref.inj e
        cases dp_str hy
        exact if_eqT rfl (kdx (s := Str.ofString "name") rfl (by decide +kernel)) ⟨_, rfl, a, _, 1, _, rfl, rfl, hs', atI_nat (j := 1) rfl, rfl, Same.refl _⟩
      | not c =>
        obtain ⟨a', y, e, hs', hy⟩ := dp2 hd
        cases V.ref.inj e
        have hn2 : c.dp < n := Nat.lt_of_succ_lt_succ hn
        have hz2 : c.sz + 20 ≤ 100000 := hz
        have l1 := c.pr_len
        have l2 := wrap_len (decide (c.rk < 2)) c.pr
        exact if_eqF rfl (kdx (s := Str.ofString "not") rfl (by decide +kernel)) (if_eqT rfl (kdx (s := Str.ofString "not") rfl (by decide +kernel)) (gt_set (gt_add (gt_c "not ") (gt_say (i := 1) (k := 2) rfl hs' rfl hy hn2 (by omega)) (by walk_at "ln") (by walk_at "ln")) fun H' e => ⟨rfl, e⟩))
      | some ro c =>
        obtain ⟨a', y, z, e, hs', hy, hc⟩ := dp3 hd
        cases V.ref.inj e
        have hn2 : c.dp < n := Nat.lt_of_succ_lt_succ hn
        have hz2 : ro.1.length + c.sz + 40 ≤ 100000 := hz
        have l1 := c.pr_len
        have l2 := wrap_len (decide (c.rk < 2)) c.pr
        have l3 := rolT_len ro
        exact if_eqF rfl (kdx (s := Str.ofString "some") rfl (by decide +kernel)) (if_eqF rfl (kdx (s := Str.ofString "some") rfl (by decide +kernel)) (if_eq2T rfl (kdx2 (s := Str.ofString "some") rfl (by decide +kernel)) (gt_set (gt_add (gt_add (gt_add (gt_add (gt_varL (s := "some") rfl) (gt_c " ") (by walk_at "ln") (by walk_at "ln")) (gt_sayR (i := 1) rfl hs' rfl hy (by omega)) (by walk_at "ln") (by walk_at "ln")) (gt_c " ") (by walk_at "ln") (by walk_at "ln")) (gt_say (i := 2) (k := 2) rfl hs' rfl hc hn2 (by omega)) (by walk_at "ln") (by walk_at "ln")) fun H' e => ⟨rfl, e⟩)))
      | all ro c =>
        obtain ⟨a', y, z, e, hs', hy, hc⟩ := dp3 hd
        cases V.ref.inj e
        have hn2 : c.dp < n := Nat.lt_of_succ_lt_succ hn
        have hz2 : ro.1.length + c.sz + 40 ≤ 100000 := hz
        have l1 := c.pr_len
        have l2 := wrap_len (decide (c.rk < 2)) c.pr
        have l3 := rolT_len ro
        exact if_eqF rfl (kdx (s := Str.ofString "all") rfl (by decide +kernel)) (if_eqF rfl (kdx (s := Str.ofString "all") rfl (by decide +kernel)) (if_eq2T rfl (kdx2 (s := Str.ofString "all") rfl (by decide +kernel)) (gt_set (gt_add (gt_add (gt_add (gt_add (gt_varL (s := "all") rfl) (gt_c " ") (by walk_at "ln") (by walk_at "ln")) (gt_sayR (i := 1) rfl hs' rfl hy (by omega)) (by walk_at "ln") (by walk_at "ln")) (gt_c " ") (by walk_at "ln") (by walk_at "ln")) (gt_say (i := 2) (k := 2) rfl hs' rfl hc hn2 (by omega)) (by walk_at "ln") (by walk_at "ln")) fun H' e => ⟨rfl, e⟩)))
      | both c d =>
        obtain ⟨a', y, z, e, hs', hy, hc⟩ := dp3 hd
        cases V.ref.inj e
        have hn1 : c.dp < n := by have : max c.dp d.dp + 1 < n + 1 := hn; omega
        have hn2 : d.dp < n := by have : max c.dp d.dp + 1 < n + 1 := hn; omega
        have hz2 : c.sz + d.sz + 20 ≤ 100000 := hz
        have l1 := c.pr_len
        have l2 := d.pr_len
        have l3 := wrap_len (decide (c.rk < 1)) c.pr
        have l4 := wrap_len (decide (d.rk < 2)) d.pr
        refine if_eqF rfl (kdx (s := Str.ofString "and") rfl (by decide +kernel)) (if_eqF rfl (kdx (s := Str.ofString "and") rfl (by decide +kernel)) (if_eq2F rfl (kdx2 (s := Str.ofString "and") rfl (by decide +kernel)) (if_eqT rfl (kdx (s := Str.ofString "and") rfl (by decide +kernel)) (gt_set (gt_add (gt_add (gt_say (i := 1) (k := 1) rfl hs' rfl hy hn1 (by omega)) (gt_c " and ") (by walk_at "ln") (by walk_at "ln")) (gt_say (i := 2) (k := 2) rfl hs' rfl hc hn2 (by omega)) (by walk_at "ln") (by walk_at "ln")) fun H' e => ⟨?_, e⟩))))
        rw [and_lit, show wrap (decide (c.rk < 1)) c.pr ++ (lit " " ++ lit "and" ++ lit " ") ++ wrap (decide (d.rk < 2)) d.pr = (Con.both c d).pr by simp only [Con.pr, List.append_assoc]]
        rfl
      | either c d =>
        obtain ⟨a', y, z, e, hs', hy, hc⟩ := dp3 hd
        cases V.ref.inj e
        have hn1 : c.dp < n := by have : max c.dp d.dp + 1 < n + 1 := hn; omega
        have hn2 : d.dp < n := by have : max c.dp d.dp + 1 < n + 1 := hn; omega
        have hz2 : c.sz + d.sz + 20 ≤ 100000 := hz
        have l1 := c.pr_len
        have l2 := d.pr_len
        have l3 := wrap_len (decide (c.rk < 0)) c.pr
        have l4 := wrap_len (decide (d.rk < 1)) d.pr
        refine if_eqF rfl (kdx (s := Str.ofString "or") rfl (by decide +kernel)) (if_eqF rfl (kdx (s := Str.ofString "or") rfl (by decide +kernel)) (if_eq2F rfl (kdx2 (s := Str.ofString "or") rfl (by decide +kernel)) (if_eqF rfl (kdx (s := Str.ofString "or") rfl (by decide +kernel)) (if_eqT rfl (kdx (s := Str.ofString "or") rfl (by decide +kernel)) (gt_set (gt_add (gt_add (gt_say (i := 1) (k := 0) rfl hs' rfl hy hn1 (by omega)) (gt_c " or ") (by walk_at "ln") (by walk_at "ln")) (gt_say (i := 2) (k := 1) rfl hs' rfl hc hn2 (by omega)) (by walk_at "ln") (by walk_at "ln")) fun H' e => ⟨?_, e⟩)))))
        rw [or_lit, show wrap (decide (c.rk < 0)) c.pr ++ (lit " " ++ lit "or" ++ lit " ") ++ wrap (decide (d.rk < 1)) d.pr = (Con.either c d).pr by simp only [Con.pr, List.append_assoc]]
        rfl
    · rintro _ H' ⟨rfl, e⟩
      have L1 : (lit "(").length = 1 := by decide +kernel
      have L2 : (lit ")").length = 1 := by decide +kernel
      have l1 := c.pr_len
      refine ⟨_, rfl, _, rfl, _, _, rfl, rfl, _, rfl, ?_⟩
      rw [show decide ((c.rk : Int) + 1 < (k : Int) + 1) = decide (c.rk < k) from decide_eq_decide.mpr (by omega)]
      unfold wrap at q
      cases hb : decide (c.rk < k) with
      | true =>
        rw [hb] at q
        exact iteT (gt_ret (gt_add (gt_add (gt_c "(") (gt_var (i := 3) rfl) (by walk_at "ln") (by walk_at "ln")) (gt_c ")") (by walk_at "ln") (by walk_at "ln")) fun H2 e2 => q _ (e.trans e2))
      | false =>
        rw [hb] at q
        exact iteF ⟨_, rfl, q _ e⟩
theorem gt_say0 {n : Nat} {σ : L2.St} {H : Hp} {j : Nat} {a : Addr} {xs : List V} {i : Nat} {y : V} {c : Con} (hσ : σ[j]? = some (some (.ref a))) (hs : SqT K H a xs) (hi : xs[i]? = some y) (hd : Dp K H y c.D) (hn : c.dp < n) (hz : c.sz ≤ 100000) : GT (tCall (spSay K n) [] E0 (tCons (tOp (rIxT K) (tVar j) (tC (.int (i : Int)))) (tCons (tC (.int 1)) tNil))) σ H c.pr := by
  have := gt_say (K := K) (n := n) (k := 0) hσ hs hi hd hn hz
  rw [decide_eq_false (Nat.not_lt_zero _)] at this
  exact this
/-! a source, printed -/
def prSrc (is : List Itm) : List Nat := (is.map fun i => i.pr ++ [10]).flatten
theorem prSrc_app (is : List Itm) (i : Itm) : prSrc (is ++ [i]) = prSrc is ++ (i.pr ++ [10]) := by simp [prSrc]
theorem Itm.pr_len {i : Itm} (h : i.Sz) : i.pr.length ≤ 11500 := by
  have e1 : (lit " ").length = 1 := by decide +kernel
  have e2 : (lit ";").length = 1 := by decide +kernel
  have e3 : (lit "axiom ").length = 6 := by decide +kernel
  have e4 : (lit ": ").length = 2 := by decide +kernel
  have e5 : (lit ", ").length = 2 := by decide +kernel
  cases i with
  | decl k ns =>
    obtain ⟨h1, h2, h3⟩ := h
    have lj := joinL_len (S := lit ", ") h3
    rw [e5] at lj
    have : ns.length * 102 ≤ 100 * 102 := Nat.mul_le_mul_right _ h2
    have ld : (lit (dword k)).length ≤ 20 := by
      obtain rfl | rfl | rfl : k = 0 ∨ k = 1 ∨ k = 2 := by omega
      all_goals decide +kernel
    show (lit (dword k) ++ lit " " ++ TL.joinL (lit ", ") ns ++ lit ";").length ≤ 11500
    rw [List.length_append, List.length_append, List.length_append, e1, e2]
    omega
  | ax n s =>
    obtain ⟨h1, h2, h3⟩ := h
    have := s.pr_len
    show (lit "axiom " ++ n ++ lit ": " ++ s.pr ++ lit ";").length ≤ 11500
    rw [List.length_append, List.length_append, List.length_append, List.length_append, e2, e3, e4]
    omega
theorem prSrc_len : ∀ {is : List Itm}, (∀ i ∈ is, i.Sz) → (prSrc is).length ≤ is.length * 11501
  | [], _ => Nat.zero_le _
  | i :: is, h => by
    have h1 := Itm.pr_len (h i (List.mem_cons_self ..))
    have h2 := prSrc_len (is := is) fun j hj => h j (List.mem_cons_of_mem _ hj)
    show (prSrc (i :: is)).length ≤ (is.length + 1) * 11501
    rw [show prSrc (i :: is) = (i.pr ++ [10]) ++ prSrc is from rfl, List.length_append, List.length_append, Nat.add_mul]
    have : [10].length = 1 := rfl
    omega
theorem joinL_nil : ∀ xs : List (List Nat), TL.joinL [] xs = xs.flatten
  | [] => rfl
  | [p] => by simp [TL.joinL]
  | p :: q :: r => by
    have ih := joinL_nil (q :: r)
    show p ++ ([] ++ TL.joinL [] (q :: r)) = _
    rw [ih]
    simp
def spSrc (K : PySem.W.Frag) (n : Nat) : Sp := fun vs H Q _ => ∃ (t : Addr) (ws : List V) (is : List Itm), vs = [.ref t] ∧ SqT K H t ws ∧ DpAll K H ws (is.map Itm.D) ∧ is.length ≤ 10 ∧ (∀ i ∈ is, i.dp < n ∧ i.Sz) ∧ ∀ H', Same H H' → Q (.str (T (prSrc is))) H'
theorem c_print_source {n k : Nat} {f : Addr} {fd : FuncData} (D : Df K mg "print_source" s_print_source f fd ["items"]) (c_item : Cl P w K mg base k "_item" (spItem K n)) : Cl P w K mg base (k + 1) "print_source" (spSrc K n) := by
  refine D.cl sc_print_source (fun vs H Q E h => ?_) (fun cdv A outer s H vs Q E hr h => ?_)
  · obtain ⟨t, ws, is, rfl, _⟩ := h
    rfl
  obtain ⟨t, ws, is, rfl, ht, hd, hl, hok, q⟩ := h
  refine ⟨_, (pss_one (ps_ret (pe_join pe_str (pe_lc (own := [("item", 1)]) (g := gName 1) (tt := tYes) (by rfl) sc_print_source.nd (pi_tup (pv 0)) (blkOk_by (own := [("item", 1)]) (N := ["items", "item"]) (sc := defScope s_print_source) (by decide +kernel)) (fun _ _ _ _ _ => pg_name (i := 1) sc_print_source.nd rfl (.inl rfl)) (fun _ _ _ _ _ => pts_nil) (fun _ _ _ _ _ => (pe_joined (PJ.cons (pe_fmt (pc c_item hr (by first | decide | omega) (by rfl) (pa_cons (pv 1) pa_nil))) (PJ.cons pe_str PJ.nil)))))))), ?_⟩
  refine ⟨⟨_, rfl⟩, _, rfl, t, rfl, ⟨_, ht⟩, fun L hL => ?_⟩
  have hwl : ws.length = is.length := by rw [dpAll_len hd, List.length_map]
  refine lc_tup (xs := ws) (te := fun σ H Q => tJs [tFmt (tCall (spItem K n) [] E0 (tCons (tVar 1) tNil)), tC (.str (Str.ofString "\n"))] Str.empty σ H fun out H1 => Q (.str out) H1) (fun i H' => H' L = some (.lst (((is.take i).map fun i => T (i.pr ++ [10])).map V.str)) ∧ Same H H') ⟨upd_same, Same.new _ hL⟩ (fun i H' _ h => Same.seqT h.2 ht) ?_ ?_
  · rintro i x H1 hx ⟨h1, s1⟩
    refine ⟨rfl, ?_⟩
    have hi : i < is.length := by rw [← hwl]; exact (List.getElem?_eq_some_iff.mp hx).1
    have hdi : Dp K H x (is[i]).D := dpAll_at hd i x _ hx (by rw [List.getElem?_map, List.getElem?_eq_getElem hi]; rfl)
    have hoi := hok _ (List.getElem_mem hi)
    have hli := Itm.pr_len hoi.2
    refine js_0 (js_e (b := (is[i]).pr) (fun R hR => ⟨_, rfl, x, is[i], rfl, Dp.same s1 hdi, hoi.1, hoi.2, hR⟩) (by omega) (by decide) fun H2 e2 => js_c (s := "\n") (by decide +kernel) (by rw [List.nil_append]; omega) (js_end ?_))
    refine ⟨_, e2 _ _ h1, ?_, ?_, Same.mut _ (s1.trans e2) hL⟩
    · rw [List.length_map, List.length_map, List.length_take]
      exact small1000 (by omega)
    · rw [upd_same, List.take_add_one, List.getElem?_eq_getElem hi, List.map_append, List.map_append]
      rfl
  · rintro H1 ⟨h1, s1⟩
    rw [List.take_of_length_le (by omega)] at h1
    refine ⟨_, L, _, rfl, rfl, .inl (SqL.of h1), ?_, ?_⟩
    · rw [show (Str.ofString "").length = 0 by decide +kernel, Nat.mul_zero]
      have := sum_lens (m := 11501) (ns := is.map fun i => i.pr ++ [10]) (fun n hn => by
        obtain ⟨i, hi, rfl⟩ := List.mem_map.mp hn
        have := Itm.pr_len (hok i hi).2
        rw [List.length_append]
        have : [10].length = 1 := rfl
        omega)
      have e : (is.map fun i => T (i.pr ++ [10])) = (is.map fun i => i.pr ++ [10]).map T := by
        rw [List.map_map]
        rfl
      rw [List.length_map] at this
      rw [e]
      omega
    · have e := join_T [] (is.map fun i => i.pr ++ [10])
      rw [List.map_map, joinL_nil] at e
      rw [e_eq, show (is.map fun i => T (i.pr ++ [10])) = is.map (T ∘ fun i => i.pr ++ [10]) from rfl, e]
      exact q _ s1
def spWord (K : PySem.W.Frag) (C : Addr) : Sp := fun vs H Q _ => ∃ (p : Addr) (t : Str) (ds : List PyData) (i : Nat) (k x : Str), vs = [.ref p] ∧ Cu K C H p t ds i ∧ wdAt ds i k x ∧ Q (.str x) H
def spAtEnd (K : PySem.W.Frag) (C : Addr) : Sp := fun vs H Q _ => ∃ (p : Addr) (t : Str) (ds : List PyData) (i : Nat) (k x : Str), vs = [.ref p] ∧ Cu K C H p t ds i ∧ wdAt ds i k x ∧ Q (.bl (decide (V.str k = V.str "end"))) H
def spStep (K : PySem.W.Frag) (C : Addr) : Sp := fun vs H Q _ => ∃ (p : Addr) (t : Str) (ds : List PyData) (i : Nat), vs = [.ref p] ∧ Cu K C H p t ds i ∧ ∀ H', SameX p H H' → Cu K C H' p t ds (i + 1) → Q .non H'
def spExpect (K : PySem.W.Frag) (C : Addr) : Sp := fun vs H Q _ => ∃ (p : Addr) (t : Str) (ds : List PyData) (i : Nat) (k x : Str), vs = [.ref p, .str x] ∧ Cu K C H p t ds i ∧ wdAt ds i k x ∧ ∀ H', SameX p H H' → Cu K C H' p t ds (i + 1) → Q .non H'
def spTakeName (K : PySem.W.Frag) (C : Addr) : Sp := fun vs H Q _ => ∃ (p : Addr) (t : Str) (ds : List PyData) (i : Nat) (k : Str) (l : List Nat), vs = [.ref p] ∧ Cu K C H p t ds i ∧ wdAt ds i k (T l) ∧ l.length ≤ 100000 ∧ isNm l = true ∧ ∀ H', SameX p H H' → Cu K C H' p t ds (i + 1) → Q (.str (T l)) H'
def spCurInit (K : PySem.W.Frag) (C : Addr) : Sp := fun vs H Q _ => ∃ (H0 : Hp) (p dx : Addr) (l : List Nat) (ts : List Tk), vs = [.ref p, .str (T l)] ∧ Same H0 H ∧ H0 p = none ∧ H p = some (.ins C dx []) ∧ l.length ≤ 20000 ∧ scan l.length l 0 = (ts, none) ∧ ts.length ≤ 20000 ∧ ∀ H', Same H0 H' → Cu K C H' p (T l) (ts.map tkD ++ [endD l.length]) 0 → Q .non H'
section
variable {C : Addr}
theorem c_cur_word {f : Addr} {fd : FuncData} (F : Fun K "word" "Cursor.word" s_Cursor_word f fd) (T_Cursor : CurC K mg C) (M : Meth K C "word" f) (b : Binds K fd ["self"] []) : Mt P w K mg base 1 C "word" f fd ["self"] (spWord K C) := by
  refine ⟨F.ok sc_Cursor_word (fun vs H Q E h => ?_) (fun cdv A outer s H vs Q E hr h => ?_), M, b⟩
  · obtain ⟨p, t, ds, i, k, x, rfl, _⟩ := h
    rfl
  obtain ⟨p, t, ds, i, k, x, rfl, hc, ⟨o, ho⟩, q⟩ := h
  obtain ⟨dx, tk, vs, h1, h2, h3⟩ := hc.ex
  refine ⟨_, (pss_one (ps_ret (pe_ix ix_tup (pe_ix ix_tup (pe_fld (pv 0) rfl) (pe_fld (pv 0) rfl) (fun _ _ => rfl)) pe_int (fun _ _ => rfl)))), ?_⟩
  have hi : i < vs.length := by
    rw [dpAll_len h3]
    exact (List.getElem?_eq_some_iff.mp ho).1
  have hv := dpAll_at h3 i _ _ (List.getElem?_eq_getElem hi) ho
  obtain ⟨a, xs, e, hs, hd⟩ := dp_tup hv
  obtain ⟨y, r, rfl, d1, hd⟩ := da_cons hd
  obtain ⟨z, r, rfl, d2, hd⟩ := da_cons hd
  cases dp_str d1
  cases dp_str d2
  exact ⟨_, rfl, p, C, dx, _, _, rfl, h1, T_Cursor.cl, T_Cursor.nK, cf_tokens, _, rfl, p, C, dx, _, _, rfl, h1, T_Cursor.cl, T_Cursor.nA, cf_at, tk, vs, _, _, rfl, rfl, h2, (atI_nat (List.getElem?_eq_getElem hi)).trans (congrArg some e), a, _, _, _, rfl, rfl, hs, atI_nat (j := 1) rfl, q⟩
theorem c_cur_at_end {f : Addr} {fd : FuncData} (F : Fun K "at_end" "Cursor.at_end" s_Cursor_at_end f fd) (T_Cursor : CurC K mg C) (M : Meth K C "at_end" f) (b : Binds K fd ["self"] []) : Mt P w K mg base 1 C "at_end" f fd ["self"] (spAtEnd K C) := by
  refine ⟨F.ok sc_Cursor_at_end (fun vs H Q E h => ?_) (fun cdv A outer s H vs Q E hr h => ?_), M, b⟩
  · obtain ⟨p, t, ds, i, k, x, rfl, _⟩ := h
    rfl
  obtain ⟨p, t, ds, i, k, x, rfl, hc, ⟨o, ho⟩, q⟩ := h
  obtain ⟨dx, tk, vs, h1, h2, h3⟩ := hc.ex
  refine ⟨_, (pss_one (ps_ret (pe_cmpR op_eq (pe_ix ix_tup (pe_ix ix_tup (pe_fld (pv 0) rfl) (pe_fld (pv 0) rfl) (fun _ _ => rfl)) pe_int (fun _ _ => rfl)) pe_str (nomark _)))), ?_⟩
  have hi : i < vs.length := by
    rw [dpAll_len h3]
    exact (List.getElem?_eq_some_iff.mp ho).1
  have hv := dpAll_at h3 i _ _ (List.getElem?_eq_getElem hi) ho
  obtain ⟨a, xs, e, hs, hd⟩ := dp_tup hv
  obtain ⟨y, r, rfl, d1, hd⟩ := da_cons hd
  cases dp_str d1
  exact ⟨_, rfl, p, C, dx, _, _, rfl, h1, T_Cursor.cl, T_Cursor.nK, cf_tokens, _, rfl, p, C, dx, _, _, rfl, h1, T_Cursor.cl, T_Cursor.nA, cf_at, tk, vs, _, _, rfl, rfl, h2, (atI_nat (List.getElem?_eq_getElem hi)).trans (congrArg some e), a, _, _, _, rfl, rfl, hs, atI_nat (j := 0) rfl, rfl, q⟩
theorem c_cur_step {f : Addr} {fd : FuncData} (F : Fun K "step" "Cursor.step" s_Cursor_step f fd) (T_Cursor : CurC K mg C) (M : Meth K C "step" f) (b : Binds K fd ["self"] []) : Mt P w K mg base 1 C "step" f fd ["self"] (spStep K C) := by
  refine ⟨F.ok sc_Cursor_step (fun vs H Q E h => ?_) (fun cdv A outer s H vs Q E hr h => ?_), M, b⟩
  · obtain ⟨p, t, ds, i, rfl, _⟩ := h
    rfl
  obtain ⟨p, t, ds, i, rfl, hc, q⟩ := h
  obtain ⟨dx, tk, vs, h1, h2, h3⟩ := hc.ex
  refine ⟨_, (pss_one (ps_fldaug (pv 0) pe_int in_add)), ?_⟩
  refine ⟨_, rfl, p, C, dx, _, _, rfl, h1, T_Cursor.cl, T_Cursor.nA, cf_at, _, _, rfl, rfl, dx, _, h1, (by show 3 < 1000; decide), ?_⟩
  show Q .non _
  rw [cf_put]
  have e := SameX.at (d := p) (H := H) (.ins C dx (cf t tk ((i : Int) + 1)))
  have kt := KT.xi (K := K) h1 e
  refine q _ e ⟨⟨dx, tk, vs, ?_, kt _ _ h2, DpAll.kt kt hc.tn h3⟩, hc.tn⟩
  rw [upd_same]
  rfl
theorem c_cur_expect {f fw fs : Addr} {fd fdw fds : FuncData} (F : Fun K "expect" "Cursor.expect" s_Cursor_expect f fd) (T_Cursor : CurC K mg C) (M : Meth K C "expect" f) (b : Binds K fd ["self", "word"] []) (c_Cursor_word : Mt P w K mg base 1 C "word" fw fdw ["self"] (spWord K C)) (c_Cursor_step : Mt P w K mg base 1 C "step" fs fds ["self"] (spStep K C)) :
    Mt P w K mg base 2 C "expect" f fd ["self", "word"] (spExpect K C) := by
  refine ⟨F.ok sc_Cursor_expect (fun vs H Q E h => ?_) (fun cdv A outer s H vs Q E hr h => ?_), M, b⟩
  · obtain ⟨p, t, ds, i, k, x, rfl, _⟩ := h
    rfl
  obtain ⟨p, t, ds, i, k, x, rfl, hc, hw, q⟩ := h
  obtain ⟨dx, tk, vs, h1, _, _⟩ := hc.ex
  refine ⟨_, (pss_cons (ps_if (pt_cmpR op_ne (pe_meth0 (pv 0) T_Cursor.cl c_Cursor_word.M c_Cursor_word.F (hr.mono (by first | decide | omega)) c_Cursor_word.b .nil pass0) (pv 1) (nomark _)) pss_never pss_nil)
      (pss_one (ps_expr (pe_meth0 (pv 0) T_Cursor.cl c_Cursor_step.M c_Cursor_step.F (hr.mono (by first | decide | omega)) c_Cursor_step.b .nil pass0)))), ?_⟩
  refine ⟨_, rfl, p, dx, _, rfl, h1, cf_no (by decide +kernel) (by decide +kernel) (by decide +kernel), p, t, ds, i, k, x, rfl, hc, hw, _, rfl, rfl, _, rfl, ?_⟩
  rw [decide_eq_true rfl]
  refine iteF ⟨_, rfl, p, dx, _, rfl, h1, cf_no (by decide +kernel) (by decide +kernel) (by decide +kernel), p, t, ds, i, rfl, hc, fun H' e h' => q H' e h'⟩
theorem c_cur_take_name {f fw fs : Addr} {fd fdw fds : FuncData} (F : Fun K "take_name" "Cursor.take_name" s_Cursor_take_name f fd) (T_Cursor : CurC K mg C) (M : Meth K C "take_name" f) (b : Binds K fd ["self"] []) (c_is_name : Cl P w K mg base 2 "is_name" spIsName) (c_Cursor_word : Mt P w K mg base 1 C "word" fw fdw ["self"] (spWord K C)) (c_Cursor_step : Mt P w K mg base 1 C "step" fs fds ["self"] (spStep K C)) :
    Mt P w K mg base 3 C "take_name" f fd ["self"] (spTakeName K C) := by
  refine ⟨F.ok sc_Cursor_take_name (fun vs H Q E h => ?_) (fun cdv A outer s H vs Q E hr h => ?_), M, b⟩
  · obtain ⟨p, t, ds, i, k, l, rfl, _⟩ := h
    rfl
  obtain ⟨p, t, ds, i, k, l, rfl, hc, hw, hl, hn, q⟩ := h
  obtain ⟨dx, tk, vs, h1, _, _⟩ := hc.ex
  refine ⟨_, (pss_cons (ps_set (i := 1) sc_Cursor_take_name.nd rfl (.inl rfl) (pe_meth0 (pv 0) T_Cursor.cl c_Cursor_word.M c_Cursor_word.F (hr.mono (by first | decide | omega)) c_Cursor_word.b .nil pass0))
      (pss_cons (ps_if (pt_not (pt_val (pc c_is_name hr (by first | decide | omega) (by rfl) (pa_cons (pv 1) pa_nil)))) pss_never pss_nil)
      (pss_cons (ps_expr (pe_meth0 (pv 0) T_Cursor.cl c_Cursor_step.M c_Cursor_step.F (hr.mono (by first | decide | omega)) c_Cursor_step.b .nil pass0))
      (pss_one (ps_ret (pv 1)))))), ?_⟩
  refine ⟨_, rfl, p, dx, _, rfl, h1, cf_no (by decide +kernel) (by decide +kernel) (by decide +kernel), p, t, ds, i, k, T l, rfl, hc, hw, ?_⟩
  refine ⟨_, rfl, l, rfl, hl, ?_⟩
  rw [hn]
  refine ⟨true, rfl, iteF ?_⟩
  refine ⟨_, rfl, p, dx, _, rfl, h1, cf_no (by decide +kernel) (by decide +kernel) (by decide +kernel), p, t, ds, i, rfl, hc, fun H' e h' => ⟨_, rfl, q H' e h'⟩⟩
theorem c_cur_init {f : Addr} {fd : FuncData} (F : Fun K "__init__" "Cursor.__init__" s_Cursor_init f fd) (T_Cursor : CurC K mg C) (M : Mk K C f) (b : Binds K fd ["self", "text"] []) (c_split_tokens : Cl P w K mg base 3 "split_tokens" (spSplit K)) : MkC P w K mg base 4 C f fd ["self", "text"] (spCurInit K C) := by
  refine ⟨F.ok sc_Cursor_init (fun vs H Q E h => ?_) (fun cdv A outer s H vs Q E hr h => ?_), M, b⟩
  · obtain ⟨H0, p, dx, l, ts, rfl, _⟩ := h
    rfl
  obtain ⟨H0, p, dx, l, ts, rfl, s0, p0, h1, hl, hsc, htl, q⟩ := h
  refine ⟨_, (pss_cons (ps_fld (pv 0) (pv 1) rfl)
      (pss_cons (ps_fld (pv 0) (pc c_split_tokens hr (by first | decide | omega) (by rfl) (pa_cons (pv 1) pa_nil)) rfl)
      (pss_one (ps_fld (pv 0) pe_int rfl)))), ?_⟩
  refine ⟨_, rfl, _, rfl, p, C, dx, [], rfl, h1, T_Cursor.cl, T_Cursor.nT, (by show 0 < 1000; decide), ?_⟩
  refine ⟨_, rfl, l, ts, rfl, hl, hsc, fun g H1 s1 d1 => ?_⟩
  refine ⟨_, rfl, p, C, dx, _, rfl, s1 _ _ upd_same, T_Cursor.cl, T_Cursor.nK, (by show 1 < 1000; decide), _, rfl, p, C, dx, _, rfl, upd_same, T_Cursor.cl, T_Cursor.nA, (by show 2 < 1000; decide), ?_⟩
  show Q .non _
  rw [upd_upd, cf_make]
  have e1 : SameX p H1 (upd H1 p (.ins C dx (cf (T l) g 0))) := SameX.at _
  have kt := KT.xi (K := K) (s1 _ _ upd_same) e1
  have hT : ∀ d ∈ ts.map tkD ++ [endD l.length], TupN 2 d := fun d hd => by
    rcases List.mem_append.mp hd with hd | hd
    · obtain ⟨t', _, rfl⟩ := List.mem_map.mp hd
      exact tkN t'
    · rw [List.mem_singleton.mp hd]
      exact endN _
  obtain ⟨_, vs, eg, hs, hd⟩ := dp_tup d1
  cases eg
  refine q _ ?_ ⟨⟨dx, g, vs, upd_same, kt _ _ hs, DpAll.kt kt hT hd⟩, hT⟩
  have s2 : SameX p H H1 := fun b o n e => s1 _ _ ((upd_ne n).trans e)
  exact SameX.free2 s0 p0 (s2.trans e1)
end
/-! calls of a cursor -/
section
variable {C p : Addr} {t : Str} {ds : List PyData} {i j : Nat} {σ : L2.St} {H : Hp} {R : VK}
theorem m_word {k x : Str} (hσ : σ[j]? = some (some (.ref p))) (hc : Cu K C H p t ds i) (hw : wdAt ds i k x) (q : R (.str x) H) : tMeth C "word" (spWord K C) [] E0 (tVar j) tNil σ H R := by
  obtain ⟨dx, tk, vs, h1, _, _⟩ := hc.ex
  exact ⟨_, hσ, p, dx, _, rfl, h1, cf_no (by decide +kernel) (by decide +kernel) (by decide +kernel), p, t, ds, i, k, x, rfl, hc, hw, q⟩
theorem m_at_end {k x : Str} (hσ : σ[j]? = some (some (.ref p))) (hc : Cu K C H p t ds i) (hw : wdAt ds i k x) (q : R (.bl (decide (V.str k = V.str "end"))) H) : tMeth C "at_end" (spAtEnd K C) [] E0 (tVar j) tNil σ H R := by
  obtain ⟨dx, tk, vs, h1, _, _⟩ := hc.ex
  exact ⟨_, hσ, p, dx, _, rfl, h1, cf_no (by decide +kernel) (by decide +kernel) (by decide +kernel), p, t, ds, i, k, x, rfl, hc, hw, q⟩
theorem m_step (hσ : σ[j]? = some (some (.ref p))) (hc : Cu K C H p t ds i) (q : ∀ H', SameX p H H' → Cu K C H' p t ds (i + 1) → R .non H') : tMeth C "step" (spStep K C) [] E0 (tVar j) tNil σ H R := by
  obtain ⟨dx, tk, vs, h1, _, _⟩ := hc.ex
  exact ⟨_, hσ, p, dx, _, rfl, h1, cf_no (by decide +kernel) (by decide +kernel) (by decide +kernel), p, t, ds, i, rfl, hc, q⟩
theorem m_expect {k x : Str} (hσ : σ[j]? = some (some (.ref p))) (hc : Cu K C H p t ds i) (hw : wdAt ds i k x) (q : ∀ H', SameX p H H' → Cu K C H' p t ds (i + 1) → R .non H') : tMeth C "expect" (spExpect K C) [] E0 (tVar j) (tCons (tC (.str x)) tNil) σ H R := by
  obtain ⟨dx, tk, vs, h1, _, _⟩ := hc.ex
  exact ⟨_, hσ, p, dx, _, rfl, h1, cf_no (by decide +kernel) (by decide +kernel) (by decide +kernel), p, t, ds, i, k, x, rfl, hc, hw, q⟩
theorem m_take_name {k : Str} {l : List Nat} (hσ : σ[j]? = some (some (.ref p))) (hc : Cu K C H p t ds i) (hw : wdAt ds i k (T l)) (hl : l.length ≤ 100000) (hn : isNm l = true) (q : ∀ H', SameX p H H' → Cu K C H' p t ds (i + 1) → R (.str (T l)) H') : tMeth C "take_name" (spTakeName K C) [] E0 (tVar j) tNil σ H R := by
  obtain ⟨dx, tk, vs, h1, _, _⟩ := hc.ex
  exact ⟨_, hσ, p, dx, _, rfl, h1, cf_no (by decide +kernel) (by decide +kernel) (by decide +kernel), p, t, ds, i, k, l, rfl, hc, hw, hl, hn, q⟩
end
/-! words behind a place -/
def wds (ds : List PyData) (i : Nat) (ts : List (List Nat)) : Prop := ∀ j x, ts[j]? = some x → ∃ k, wdAt ds (i + j) k (T x)
def fol (Fo : Str → Prop) (ds : List PyData) (i : Nat) : Prop := ∃ k x, wdAt ds i k x ∧ Fo x
theorem wds_head {ds : List PyData} {i : Nat} {x : List Nat} {ts : List (List Nat)} (h : wds ds i (x :: ts)) : ∃ k, wdAt ds i k (T x) := h 0 x rfl
theorem wds_tail {ds : List PyData} {i : Nat} {x : List Nat} {ts : List (List Nat)} (h : wds ds i (x :: ts)) : wds ds (i + 1) ts := fun j y hy => by
  have := h (j + 1) y hy
  rw [show i + (j + 1) = i + 1 + j by omega] at this
  exact this
theorem wds_left {ds : List PyData} {i : Nat} {a b : List (List Nat)} (h : wds ds i (a ++ b)) : wds ds i a := fun j y hy => h j y (by rw [List.getElem?_append_left (List.getElem?_eq_some_iff.mp hy).1]; exact hy)
theorem wds_right {ds : List PyData} {i : Nat} {a b : List (List Nat)} (h : wds ds i (a ++ b)) : wds ds (i + a.length) b := fun j y hy => by
  have := h (a.length + j) y (by rw [List.getElem?_append_right (by omega), show a.length + j - a.length = j by omega]; exact hy)
  rw [show i + (a.length + j) = i + a.length + j by omega] at this
  exact this
/-! how a concept is written: strength, how many levels, tokens -/
def rolW (r : Rol) : List (List Nat) := if r.2 then [lit "inverse", r.1] else [r.1]
inductive Lo : Con → Nat → Nat → List (List Nat) → Prop
  | any : Lo .any 3 0 [lit "anything"]
  | nothing : Lo .nothing 3 0 [lit "nothing"]
  | name {s} : isNm s = true → s.length ≤ 1000 → Lo (.name s) 3 0 [s]
  | not {c m t} : Lo c 3 m t → Lo (.not c) 3 (m + 1) (lit "not" :: t)
  | some {r c m t} : isNm r.1 = true → r.1.length ≤ 1000 → Lo c 3 m t → Lo (.some r c) 3 (m + 1) (lit "some" :: (rolW r ++ t))
  | all {r c m t} : isNm r.1 = true → r.1.length ≤ 1000 → Lo c 3 m t → Lo (.all r c) 3 (m + 1) (lit "all" :: (rolW r ++ t))
  | both {c d k k' m m' t t'} : Lo c k m t → 2 ≤ k → Lo d k' m' t' → 3 ≤ k' → Lo (.both c d) 2 (max m m') (t ++ lit "and" :: t')
  | either {c d k k' m m' t t'} : Lo c k m t → 1 ≤ k → Lo d k' m' t' → 2 ≤ k' → Lo (.either c d) 1 (max m m') (t ++ lit "or" :: t')
  | par {c k m t} : Lo c k m t → Lo c 3 (m + 1) (lit "(" :: (t ++ [lit ")"]))
inductive Ch (Op : Con → Nat → List (List Nat) → Prop) (wd : List Nat) (mk : Con → Con → Con) : Con → Nat → List (List Nat) → Prop
  | one {c m t} : Op c m t → Ch Op wd mk c m t
  | more {c m t d m' t'} : Ch Op wd mk c m t → Op d m' t' → Ch Op wd mk (mk c d) (max m m') (t ++ wd :: t')
abbrev LoF (c : Con) (m : Nat) (t : List (List Nat)) : Prop := Lo c 3 m t
abbrev LoB : Con → Nat → List (List Nat) → Prop := Ch LoF (lit "and") .both
abbrev LoA : Con → Nat → List (List Nat) → Prop := Ch LoB (lit "or") .either
theorem Lo.k {c : Con} {k m : Nat} {t : List (List Nat)} (h : Lo c k m t) : 1 ≤ k ∧ k ≤ 3 := by cases h <;> exact ⟨by decide, by decide⟩
theorem Lo.b {c : Con} {k m : Nat} {t : List (List Nat)} (h : Lo c k m t) (hk : 2 ≤ k) : LoB c m t := by
  induction h with
  | any => exact .one .any
  | nothing => exact .one .nothing
  | name a b => exact .one (.name a b)
  | not a => exact .one (.not a)
  | some a b c => exact .one (.some a b c)
  | all a b c => exact .one (.all a b c)
  | par a => exact .one (.par a)
  | both a ha b hb iha ihb =>
    have := b.k
    obtain rfl : _ = 3 := Nat.le_antisymm this.2 hb
    exact .more (iha ha) b
  | either a ha b hb iha ihb => exact absurd hk (by decide)
theorem Lo.a {c : Con} {k m : Nat} {t : List (List Nat)} (h : Lo c k m t) : LoA c m t := by
  induction h with
  | any => exact .one (.one .any)
  | nothing => exact .one (.one .nothing)
  | name a b => exact .one (.one (.name a b))
  | not a => exact .one (.one (.not a))
  | some a b c => exact .one (.one (.some a b c))
  | all a b c => exact .one (.one (.all a b c))
  | par a => exact .one (.one (.par a))
  | both a ha b hb iha ihb => exact .one ((Lo.both a ha b hb).b (Nat.le_refl 2))
  | either a ha b hb iha ihb => exact .more iha (b.b hb)
def restT (wd : List Nat) (L : List (Con × Nat × List (List Nat))) : List (List Nat) := (L.map fun x => wd :: x.2.2).flatten
theorem Ch.list {Op : Con → Nat → List (List Nat) → Prop} {wd : List Nat} {mk : Con → Con → Con} {c : Con} {m : Nat} {t : List (List Nat)} (h : Ch Op wd mk c m t) :
    ∃ c0 m0 t0 L, Op c0 m0 t0 ∧ (∀ x ∈ L, Op x.1 x.2.1 x.2.2 ∧ x.2.1 ≤ m) ∧ m0 ≤ m ∧ c = L.foldl (fun a x => mk a x.1) c0 ∧ t = t0 ++ restT wd L := by
  induction h with
  | @one c m t a => exact ⟨c, m, t, [], a, fun x hx => by simp at hx, Nat.le_refl _, rfl, by simp [restT]⟩
  | @more c m t d m' t' a b ih =>
    obtain ⟨c0, m0, t0, L, h1, h2, h3, h4, h5⟩ := ih
    refine ⟨c0, m0, t0, L ++ [(d, m', t')], h1, fun x hx => ?_, Nat.le_trans h3 (Nat.le_max_left ..), by rw [List.foldl_append, ← h4]; rfl, by rw [h5]; simp [restT]⟩
    rcases List.mem_append.mp hx with hx | hx
    · exact ⟨(h2 x hx).1, Nat.le_trans (h2 x hx).2 (Nat.le_max_left ..)⟩
    · rw [List.mem_singleton.mp hx]
      exact ⟨b, Nat.le_max_right ..⟩
/-- a pair of a tree and its height -/
theorem dp_res {H : Hp} {v : V} {D : PyData} {h : Int} (d : Dp K H v (.tuple [D, .int h])) : ∃ a x, v = .ref a ∧ SqT K H a [x, .int h] ∧ Dp K H x D := by
  obtain ⟨a, xs, rfl, hs, hd⟩ := dp_tup d
  obtain ⟨x, r, rfl, d1, hd⟩ := da_cons hd
  obtain ⟨y, r, rfl, d2, hd⟩ := da_cons hd
  cases da_nil hd
  cases dp_int d2
  exact ⟨a, x, rfl, hs, d1⟩
/-- what a part of the grammar gives -/
def spGr (K : PySem.W.Frag) (C : Addr) (Op : Con → Nat → List (List Nat) → Prop) (Fo : Str → Prop) (n : Nat) : Sp := fun vs H Q _ => ∃ (p : Addr) (t : Str) (ds : List PyData) (i lv : Nat) (c : Con) (m : Nat) (ts : List (List Nat)), vs = [.ref p, .int (lv : Int)] ∧ Cu K C H p t ds i ∧ Op c m ts ∧ m < n ∧ lv + m ≤ 8 ∧ wds ds i ts ∧ fol Fo ds (i + ts.length) ∧
  ∀ v H', SameX p H H' → Cu K C H' p t ds (i + ts.length) → Dp K H' v (.tuple [c.D, .int (c.dp : Int)]) → Q v H'
def spChain (K : PySem.W.Frag) (C : Addr) (Op : Con → Nat → List (List Nat) → Prop) (Fo : Str → Prop) (n : Nat) (wd : List Nat) (mk : Con → Con → Con) (g : Addr) : Sp := fun vs H Q _ => ∃ (p : Addr) (t : Str) (ds : List PyData) (i lv : Nat) (c : Con) (m : Nat) (ts : List (List Nat)), vs = [.ref p, .int (lv : Int), .str (T wd), .ref g] ∧ Cu K C H p t ds i ∧ Ch Op wd mk c m ts ∧ m < n ∧ lv + m ≤ 8 ∧ wds ds i ts ∧ fol (fun x => Fo x ∧ decide (x = T wd) = false) ds (i + ts.length) ∧
  ∀ v H', SameX p H H' → Cu K C H' p t ds (i + ts.length) → Dp K H' v (.tuple [c.D, .int (c.dp : Int)]) → Q v H'
def ChW (K : PySem.W.Frag) (C : Addr) (Op : Con → Nat → List (List Nat) → Prop) (wd : List Nat) (mk : Con → Con → Con) (g p : Addr) (t : Str) (ds : List PyData) (e lv m : Nat) (c : Con) (H : Hp) (b : Nat) (σ : L2.St) (H' : Hp) : Prop := ∃ (rest : List (Con × Nat × List (List Nat))) (acc : Con) (v : V) (j : Nat) (x6 x7 : Option V), σ = [some (.ref p), some (.int (lv : Int)), some (.str (T wd)), some (.ref g), some v, some (.int (acc.dp : Int)), x6, x7] ∧ b = rest.length ∧
  (∀ x ∈ rest, Op x.1 x.2.1 x.2.2 ∧ x.2.1 ≤ m) ∧ rest.foldl (fun a x => mk a x.1) acc = c ∧ j + (restT wd rest).length = e ∧ wds ds j (restT wd rest) ∧ Cu K C H' p t ds j ∧ Dp K H' v acc.D ∧ SameX p H H'
section
variable {C : Addr}
theorem c_chain {Op : Con → Nat → List (List Nat) → Prop} {Fo : Str → Prop} {n k : Nat} {wd : List Nat} {mk : Con → Con → Con} {g : Addr} {gfd : FuncData} {gps : List Str} {f fw fs : Addr} {fd fdw fds : FuncData} (hk : 1 ≤ k) (hD : ∀ a b, (mk a b).D = .tuple [.str (T wd), a.D, b.D]) (hdp : ∀ a b, (mk a b).dp = max a.dp b.dp + 1) (hFo : Fo (T wd))
    (D : Df K mg "_chain" s_chain f fd ["cursor", "level", "word", "operand"]) (T_Cursor : CurC K mg C) (c_Cursor_word : Mt P w K mg base 1 C "word" fw fdw ["self"] (spWord K C)) (c_Cursor_step : Mt P w K mg base 1 C "step" fs fds ["self"] (spStep K C)) (c_op : Fx P w K mg base k g gfd gps (spGr K C Op Fo n)) (z_max : mg "max" = none) :
    Cl P w K mg base (k + 1) "_chain" (spChain K C Op Fo n wd mk g) := by
  refine D.cl sc_chain (fun vs H Q E h => ?_) (fun cdv A outer s H vs Q E hr h => ?_)
  · obtain ⟨p, t, ds, i, lv, c, m, ts, rfl, _⟩ := h
    rfl
  obtain ⟨p, t, ds, i, lv, c, m, ts, rfl, hc, hch, hm, hlv, hw, ⟨kf, xf, hwf, hxf⟩, q⟩ := h
  obtain ⟨c0, m0, t0, L, h1, h2, h3, h4, rfl⟩ := hch.list
  refine ⟨_, (pss_cons (ps_asg (pe_callL (i := 3) c_op.F (hr.mono (by first | decide | omega)) rfl (.inl rfl) c_op.k c_op.b .nil pass0 (pa_cons (pv 0) (pa_cons (pv 1) pa_nil))) (pg_tup (by rfl) (pgs_cons (pg_name (i := 4) sc_chain.nd rfl (.inl rfl)) (pgs_cons (pg_name (i := 5) sc_chain.nd rfl (.inl rfl)) pgs_nil))))
      (pss_cons (ps_while PassesOwn.never (pt_cmpR op_eq (pe_meth0 (pv 0) T_Cursor.cl c_Cursor_word.M c_Cursor_word.F (hr.mono (by first | decide | omega)) c_Cursor_word.b .nil pass0) (pv 2) (nomark _)) (pss_cons (ps_expr (pe_meth0 (pv 0) T_Cursor.cl c_Cursor_step.M c_Cursor_step.F (hr.mono (by first | decide | omega)) c_Cursor_step.b .nil pass0))
      (pss_cons (ps_asg (pe_callL (i := 3) c_op.F (hr.mono (by first | decide | omega)) rfl (.inl rfl) c_op.k c_op.b .nil pass0 (pa_cons (pv 0) (pa_cons (pv 1) pa_nil))) (pg_tup (by rfl) (pgs_cons (pg_name (i := 6) sc_chain.nd rfl (.inl rfl)) (pgs_cons (pg_name (i := 7) sc_chain.nd rfl (.inl rfl)) pgs_nil))))
      (pss_cons (ps_set (i := 4) sc_chain.nd rfl (.inl rfl) (pe_tup (pa_cons (pv 2) (pa_cons (pv 4) (pa_cons (pv 6) pa_nil)))))
      (pss_one (ps_set (i := 5) sc_chain.nd rfl (.inl rfl) (pe_op op_add pe_int (pe_callB (call_max2 rfl) (by rfl) z_max (by decide +kernel) (pa_cons (pv 5) (pa_cons (pv 7) pa_nil))))))))))
      (pss_one (ps_ret (pe_tup (pa_cons (pv 4) (pa_cons (pv 5) pa_nil))))))), ?_⟩
  have hfol : ∀ (L' : List (Con × Nat × List (List Nat))) (j : Nat), wds ds j (restT wd L') → j + (restT wd L').length = i + (t0 ++ restT wd L).length → fol Fo ds j := fun L' j hw' he => by
    cases L' with
    | nil =>
      rw [show j = i + (t0 ++ restT wd L).length from he]
      exact ⟨kf, xf, hwf, hxf.1⟩
    | cons x L' =>
      obtain ⟨k, hk⟩ := wds_head (x := wd) (ts := x.2.2 ++ restT wd L') hw'
      exact ⟨k, T wd, hk, hFo⟩
  refine ⟨rfl, _, rfl, _, rfl, p, t, ds, i, lv, c0, m0, t0, rfl, hc, h1, by omega, by omega, wds_left hw, hfol L _ (wds_right hw) (by rw [List.length_append]; omega), fun v H1 e1 c1 d1 => ?_⟩
  obtain ⟨a, x, rfl, hs, hx⟩ := dp_res d1
  refine ⟨a, _, rfl, hs, rfl, _, _, rfl, _, _, rfl, rfl, ?_⟩
  refine ⟨ChW K C Op wd mk g p t ds (i + (t0 ++ restT wd L).length) lv m c H, ⟨_, L, c0, x, i + t0.length, none, none, rfl, rfl, h2, h4.symm, by rw [List.length_append]; omega, wds_right hw, c1, hx, e1⟩, ?_⟩
  rintro b _ H2 ⟨rest, acc, v, j, x6, x7, rfl, rfl, hR, hf, hj, hwr, c2, d2, e2⟩
  cases rest with
  | nil =>
    have ej : j = i + (t0 ++ restT wd L).length := hj
    subst ej
    refine m_word rfl c2 hwf ⟨_, rfl, rfl, _, rfl, ?_⟩
    rw [decide_eq_false (fun z => of_decide_eq_false hxf.2 (V.str.inj z))]
    refine iteF ⟨_, rfl, _, rfl, by show 2 ≤ sizeLine; decide, fun u hu => ?_⟩
    have : acc = c := hf
    subst this
    refine q _ _ (e2.trans (SameX.new _ hu)) (c2.same (Same.new _ hu)) (.tup (.of upd_same) (.cons (Dp.same (Same.new _ hu) d2) (.cons (.int _) .nil)))
  | cons y rest =>
    obtain ⟨d, m', t'⟩ := y
    obtain ⟨kw, hkw⟩ := wds_head (x := wd) (ts := t' ++ restT wd rest) hwr
    have hwt := wds_tail (x := wd) (ts := t' ++ restT wd rest) hwr
    refine m_word rfl c2 hkw ⟨_, rfl, rfl, _, rfl, ?_⟩
    rw [decide_eq_true rfl]
    refine iteT ⟨ChW K C Op wd mk g p t ds (i + (t0 ++ restT wd L).length) lv m c H rest.length, fun σ' H' h => ⟨_, Nat.lt_succ_self _, h⟩, ?_⟩
    refine m_step rfl c2 fun H3 e3 c3 => ?_
    have hR1 := hR _ (List.mem_cons_self ..)
    have hm' : m' ≤ m := hR1.2
    have hlen : (restT wd ((d, m', t') :: rest)).length = 1 + t'.length + (restT wd rest).length := by
      show (wd :: t' ++ restT wd rest).length = _
      rw [List.length_append, List.length_cons]
      omega
    rw [hlen] at hj
    refine ⟨rfl, _, rfl, _, rfl, p, t, ds, j + 1, lv, d, m', t', rfl, c3, hR1.1, by omega, by omega, wds_left hwt, hfol rest _ (wds_right hwt) (by omega), fun v4 H4 e4 c4 d4 => ?_⟩
    obtain ⟨a4, x4, rfl, hs4, hx4⟩ := dp_res d4
    refine ⟨a4, _, rfl, hs4, rfl, _, _, rfl, _, _, rfl, rfl, ?_⟩
    refine ⟨_, rfl, _, rfl, _, rfl, by show 3 ≤ sizeLine; decide, fun u hu => ?_⟩
    refine ⟨_, rfl, _, rfl, _, _, rfl, _, _, rfl, rfl, ?_⟩
    have d2' := c2.mv (e3.trans e4) (Con.tn acc) d2
    refine ⟨rest, mk acc d, .ref u, j + 1 + t'.length, some x4, some (.int (d.dp : Int)), ?_, rfl, fun x hx => hR x (List.mem_cons_of_mem _ hx), hf, by omega, wds_right hwt, c4.same (Same.new _ hu), ?_, ((e2.trans e3).trans e4).trans (SameX.new _ hu)⟩
    · have : (1 + (if (d.dp : Int) > (acc.dp : Int) then (d.dp : Int) else (acc.dp : Int)) : Int) = ((mk acc d).dp : Int) := by
        rw [hdp]
        split <;> omega
      rw [← this]
      rfl
    · rw [hD]
      exact .tup (.of upd_same) (.cons (.str _) (.cons (Dp.same (Same.new _ hu) d2') (.cons (Dp.same (Same.new _ hu) hx4) .nil)))
end
inductive At : Con → Nat → List (List Nat) → Prop
  | any : At .any 0 [lit "anything"]
  | nothing : At .nothing 0 [lit "nothing"]
  | name {s} : isNm s = true → s.length ≤ 1000 → At (.name s) 0 [s]
  | par {c k m t} : Lo c k m t → At c (m + 1) (lit "(" :: (t ++ [lit ")"]))
theorem nm_ne {s : List Nat} (h : isNm s = true) {x : String} (hx : isNm (lit x) = false) : decide (T s = Str.ofString x) = false := decide_eq_false fun e => by
  rw [lit_T] at e
  rw [T_inj e, hx] at h
  cases h
abbrev FoT : Str → Prop := fun _ => True
abbrev FoB : Str → Prop := fun x => decide (x = T (lit "and")) = false
abbrev FoA : Str → Prop := fun x => decide (x = T (lit "and")) = false ∧ decide (x = T (lit "or")) = false
def spSD (K : PySem.W.Frag) (C : Addr) : Sp := fun vs H Q _ => ∃ (p : Addr) (t : Str) (ds : List PyData) (i lv : Nat), vs = [.ref p, .int (lv : Int)] ∧ Cu K C H p t ds i ∧ lv < 8 ∧ ∀ H', SameX p H H' → Cu K C H' p t ds (i + 1) → Q .non H'
def spRoleP (K : PySem.W.Frag) (C : Addr) : Sp := fun vs H Q _ => ∃ (p : Addr) (t : Str) (ds : List PyData) (i : Nat) (r : Rol), vs = [.ref p] ∧ Cu K C H p t ds i ∧ isNm r.1 = true ∧ r.1.length ≤ 1000 ∧ wds ds i (rolW r) ∧ ∀ v H', SameX p H H' → Cu K C H' p t ds (i + (rolW r).length) → Dp K H' v (rolD r) → Q v H'
theorem if_notin2 {σ : L2.St} {H : Hp} {i : Nat} {s t t' : Str} {tt u : TS} {D : Ends} (h : σ[i]? = some (some (.str s))) (hd : (decide (s = t) || decide (s = t')) = true) (q : ∀ p, H p = none → u D σ (upd H p (.tup [.str t, .str t']))) :
    tIfS (tTest (tOp (rIn K true) (tVar i) (tTup (tCons (tC (.str t)) (tCons (tC (.str t')) tNil))))) tt u D σ H := by
  refine ⟨_, h, by show 2 ≤ sizeLine; decide, fun p hp => ⟨p, _, rfl, .inr (SqT.of upd_same), rfl, rfl, false, ?_, iteF (q p hp)⟩⟩
  show V.bl (!(inV (.str s) [.str t, .str t'])) = .bl false
  rw [show [V.str t, V.str t'] = [t, t'].map V.str from rfl, inV_strs]
  rw [← Bool.decide_or] at hd
  rw [decide_eq_true (by simpa using of_decide_eq_true hd)]
  rfl
section
variable {C : Addr} {fw fs fe ft : Addr} {fdw fds fde fdt : FuncData}
theorem c_step_deeper {f : Addr} {fd : FuncData} {tk : Tok} (D : Df K mg "_step_deeper" s_step_deeper f fd ["cursor", "level"]) (T_Cursor : CurC K mg C) (c_Cursor_step : Mt P w K mg base 1 C "step" fs fds ["self"] (spStep K C)) (m_DEEPEST_LEVEL : mg "DEEPEST_LEVEL" = some (.int K_DEEPEST_LEVEL tk)) : Cl P w K mg base 2 "_step_deeper" (spSD K C) := by
  refine D.cl sc_step_deeper (fun vs H Q E h => ?_) (fun cdv A outer s H vs Q E hr h => ?_)
  · obtain ⟨p, t, ds, i, lv, rfl, _⟩ := h
    rfl
  obtain ⟨p, t, ds, i, lv, rfl, hc, hl, q⟩ := h
  refine ⟨_, (pss_cons (ps_if (pt_cmpR op_eq (pv 1) (pe_glob (v := .int K_DEEPEST_LEVEL) (by rfl) m_DEEPEST_LEVEL ⟨_, rfl⟩) (nomark _)) pss_never pss_nil)
      (pss_one (ps_expr (pe_meth0 (pv 0) T_Cursor.cl c_Cursor_step.M c_Cursor_step.F (hr.mono (by first | decide | omega)) c_Cursor_step.b .nil pass0)))), ?_⟩
  refine ⟨_, rfl, rfl, _, rfl, ?_⟩
  rw [decide_eq_false (fun z => by have := V.int.inj z; unfold K_DEEPEST_LEVEL at this; omega)]
  exact iteF (m_step rfl hc fun H' e h' => q H' e h')
theorem c_rolep {f : Addr} {fd : FuncData} (D : Df K mg "role" s_roleP f fd ["cursor"]) (T_Cursor : CurC K mg C) (c_Cursor_word : Mt P w K mg base 1 C "word" fw fdw ["self"] (spWord K C)) (c_Cursor_step : Mt P w K mg base 1 C "step" fs fds ["self"] (spStep K C)) (c_Cursor_take_name : Mt P w K mg base 3 C "take_name" ft fdt ["self"] (spTakeName K C)) : Cl P w K mg base 4 "role" (spRoleP K C) := by
  refine D.cl sc_roleP (fun vs H Q E h => ?_) (fun cdv A outer s H vs Q E hr h => ?_)
  · obtain ⟨p, t, ds, i, r, rfl, _⟩ := h
    rfl
  obtain ⟨p, t, ds, i, ⟨s1, b⟩, rfl, hc, hn, hl, hw, q⟩ := h
  refine ⟨_, (pss_cons (ps_set (i := 1) sc_roleP.nd rfl (.inl rfl) (pe_cmpR op_eq (pe_meth0 (pv 0) T_Cursor.cl c_Cursor_word.M c_Cursor_word.F (hr.mono (by first | decide | omega)) c_Cursor_word.b .nil pass0) pe_str (nomark _)))
      (pss_cons (ps_if (pt_val (pv 1)) (pss_one (ps_expr (pe_meth0 (pv 0) T_Cursor.cl c_Cursor_step.M c_Cursor_step.F (hr.mono (by first | decide | omega)) c_Cursor_step.b .nil pass0))) pss_nil)
      (pss_one (ps_ret (pe_tup (pa_cons (pe_meth0 (pv 0) T_Cursor.cl c_Cursor_take_name.M c_Cursor_take_name.F (hr.mono (by first | decide | omega)) c_Cursor_take_name.b .nil pass0) (pa_cons (pv 1) pa_nil))))))), ?_⟩
  cases b with
  | true =>
    obtain ⟨k1, w1⟩ := wds_head (x := lit "inverse") (ts := [s1]) hw
    obtain ⟨k2, w2⟩ := wds_head (wds_tail (x := lit "inverse") (ts := [s1]) hw)
    refine m_word rfl hc w1 ⟨rfl, ?_⟩
    rw [decide_eq_true (show V.str (T (lit "inverse")) = V.str (Str.ofString "inverse") by rw [← lit_T])]
    refine ⟨_, rfl, true, rfl, iteT ?_⟩
    refine m_step rfl hc fun H1 e1 c1 => ?_
    refine m_take_name rfl c1 w2 (Nat.le_trans hl (by decide)) hn fun H2 e2 c2 => ?_
    refine ⟨_, rfl, by show 2 ≤ sizeLine; decide, fun u hu => ?_⟩
    exact q _ _ ((e1.trans e2).trans (SameX.new _ hu)) (c2.same (Same.new _ hu)) (.tup (.of upd_same) (.cons (.str _) (.cons (.bl _) .nil)))
  | false =>
    obtain ⟨k1, w1⟩ := wds_head (x := s1) (ts := []) hw
    refine m_word rfl hc w1 ⟨rfl, ?_⟩
    rw [decide_eq_false (fun z => of_decide_eq_false (nm_ne hn (x := "inverse") (by decide +kernel)) (V.str.inj z))]
    refine ⟨_, rfl, false, rfl, iteF ?_⟩
    refine m_take_name rfl hc w1 (Nat.le_trans hl (by decide)) hn fun H2 e2 c2 => ?_
    refine ⟨_, rfl, by show 2 ≤ sizeLine; decide, fun u hu => ?_⟩
    exact q _ _ (e2.trans (SameX.new _ hu)) (c2.same (Same.new _ hu)) (.tup (.of upd_same) (.cons (.str _) (.cons (.bl _) .nil)))
theorem fx_both {n k : Nat} {f fc ff : Addr} {fd fdc fdf : FuncData} (hk : 1 ≤ k) (D : Df K mg "_both" s_both f fd ["cursor", "level"]) (DC : Df K mg "_chain" s_chain fc fdc ["cursor", "level", "word", "operand"]) (D_front : Df K mg "_front" s_front ff fdf ["cursor", "level"]) (T_Cursor : CurC K mg C) (c_Cursor_word : Mt P w K mg base 1 C "word" fw fdw ["self"] (spWord K C)) (c_Cursor_step : Mt P w K mg base 1 C "step" fs fds ["self"] (spStep K C))
    (c_front : Fx P w K mg base k ff fdf ["cursor", "level"] (spGr K C LoF FoT n)) (z_max : mg "max" = none) : Fx P w K mg base (k + 2) f fd ["cursor", "level"] (spGr K C LoB FoB n) := by
  have c_chain := c_chain (mk := .both) (wd := lit "and") hk (fun a b => by rw [← lit_T]; rfl) (fun _ _ => rfl) trivial DC T_Cursor c_Cursor_word c_Cursor_step c_front z_max
  refine D.fx sc_both (fun vs H Q E h => ?_) (fun cdv A outer s H vs Q E hr h => ?_)
  · obtain ⟨p, t, ds, i, lv, c, m, ts, rfl, _⟩ := h
    rfl
  obtain ⟨p, t, ds, i, lv, c, m, ts, rfl, hc, ho, hm, hl, hw, ⟨kf, xf, hwf, hxf⟩, q⟩ := h
  refine ⟨_, (pss_one (ps_ret (pc c_chain hr (by first | decide | omega) (by rfl) (pa_cons (pv 0) (pa_cons (pv 1) (pa_cons pe_str (pa_cons (pe_glob (v := .ref _) (by rfl) D_front.mgf rfl) pa_nil))))))), ?_⟩
  exact ⟨_, rfl, _, rfl, p, t, ds, i, lv, c, m, ts, by rw [← lit_T]; rfl, hc, ho, hm, hl, hw, ⟨kf, xf, hwf, trivial, hxf⟩, q⟩
theorem fx_alternatives {n k : Nat} {f fc ff : Addr} {fd fdc fdf : FuncData} (hk : 1 ≤ k) (D : Df K mg "_alternatives" s_alternatives f fd ["cursor", "level"]) (DC : Df K mg "_chain" s_chain fc fdc ["cursor", "level", "word", "operand"]) (D_both : Df K mg "_both" s_both ff fdf ["cursor", "level"]) (T_Cursor : CurC K mg C) (c_Cursor_word : Mt P w K mg base 1 C "word" fw fdw ["self"] (spWord K C)) (c_Cursor_step : Mt P w K mg base 1 C "step" fs fds ["self"] (spStep K C))
    (c_both : Fx P w K mg base k ff fdf ["cursor", "level"] (spGr K C LoB FoB n)) (z_max : mg "max" = none) : Fx P w K mg base (k + 2) f fd ["cursor", "level"] (spGr K C LoA FoA n) := by
  have c_chain := c_chain (mk := .either) (wd := lit "or") hk (fun a b => by rw [← lit_T]; rfl) (fun _ _ => rfl) (by decide +kernel) DC T_Cursor c_Cursor_word c_Cursor_step c_both z_max
  refine D.fx sc_alternatives (fun vs H Q E h => ?_) (fun cdv A outer s H vs Q E hr h => ?_)
  · obtain ⟨p, t, ds, i, lv, c, m, ts, rfl, _⟩ := h
    rfl
  obtain ⟨p, t, ds, i, lv, c, m, ts, rfl, hc, ho, hm, hl, hw, hf, q⟩ := h
  refine ⟨_, (pss_one (ps_ret (pc c_chain hr (by first | decide | omega) (by rfl) (pa_cons (pv 0) (pa_cons (pv 1) (pa_cons pe_str (pa_cons (pe_glob (v := .ref _) (by rfl) D_both.mgf rfl) pa_nil))))))), ?_⟩
  exact ⟨_, rfl, _, rfl, p, t, ds, i, lv, c, m, ts, by rw [← lit_T]; rfl, hc, ho, hm, hl, hw, hf, q⟩
theorem c_atom {n k : Nat} {f : Addr} {fd : FuncData} (hk : 2 ≤ k) (D : Df K mg "_atom" s_atom f fd ["cursor", "level"]) (T_Cursor : CurC K mg C) (c_Cursor_word : Mt P w K mg base 1 C "word" fw fdw ["self"] (spWord K C)) (c_Cursor_step : Mt P w K mg base 1 C "step" fs fds ["self"] (spStep K C)) (c_Cursor_expect : Mt P w K mg base 2 C "expect" fe fde ["self", "word"] (spExpect K C))
    (c_step_deeper : Cl P w K mg base 2 "_step_deeper" (spSD K C)) (c_is_name : Cl P w K mg base 2 "is_name" spIsName) (c_alternatives : Cl P w K mg base k "_alternatives" (spGr K C LoA FoA n)) : Cl P w K mg base (k + 1) "_atom" (spGr K C At FoT (n + 1)) := by
  refine D.cl sc_atom (fun vs H Q E h => ?_) (fun cdv A outer s H vs Q E hr h => ?_)
  · obtain ⟨p, t, ds, i, lv, c, m, ts, rfl, _⟩ := h
    rfl
  obtain ⟨p, t, ds, i, lv, c, m, ts, rfl, hc, ho, hm, hl, hw, hf, q⟩ := h
  refine ⟨_, (pss_cons (ps_set (i := 2) sc_atom.nd rfl (.inl rfl) (pe_meth0 (pv 0) T_Cursor.cl c_Cursor_word.M c_Cursor_word.F (hr.mono (by first | decide | omega)) c_Cursor_word.b .nil pass0))
      (pss_cons (ps_if (pt_cmpR op_eq (pv 2) pe_str (nomark _)) (pss_cons (ps_expr (pc c_step_deeper hr (by first | decide | omega) (by rfl) (pa_cons (pv 0) (pa_cons (pv 1) pa_nil))))
      (pss_cons (ps_asg (pc c_alternatives hr (by first | decide | omega) (by rfl) (pa_cons (pv 0) (pa_cons (pe_op op_add (pv 1) pe_int) pa_nil))) (pg_tup (by rfl) (pgs_cons (pg_name (i := 3) sc_atom.nd rfl (.inl rfl)) (pgs_cons (pg_name (i := 4) sc_atom.nd rfl (.inl rfl)) pgs_nil))))
      (pss_cons (ps_expr (pe_meth (pv 0) T_Cursor.cl c_Cursor_expect.M c_Cursor_expect.F (hr.mono (by first | decide | omega)) c_Cursor_expect.b .nil pass0 (pa_cons pe_str pa_nil)))
      (pss_one (ps_ret (pe_tup (pa_cons (pv 3) (pa_cons (pv 4) pa_nil)))))))) pss_nil)
      (pss_cons (ps_if (pt_val (pc c_is_name hr (by first | decide | omega) (by rfl) (pa_cons (pv 2) pa_nil))) (pss_cons (ps_expr (pe_meth0 (pv 0) T_Cursor.cl c_Cursor_step.M c_Cursor_step.F (hr.mono (by first | decide | omega)) c_Cursor_step.b .nil pass0))
      (pss_one (ps_ret (pe_tup (pa_cons (pe_tup (pa_cons pe_str (pa_cons (pv 2) pa_nil))) (pa_cons pe_int pa_nil)))))) pss_nil)
      (pss_cons (ps_if (pt_cmpR op_notIn_seq (pv 2) (pe_tup (pa_cons pe_str (pa_cons pe_str pa_nil))) rfl) pss_never pss_nil)
      (pss_cons (ps_expr (pe_meth0 (pv 0) T_Cursor.cl c_Cursor_step.M c_Cursor_step.F (hr.mono (by first | decide | omega)) c_Cursor_step.b .nil pass0))
      (pss_one (ps_ret (pe_tup (pa_cons (pe_tup (pa_cons (pv 2) pa_nil)) (pa_cons pe_int pa_nil)))))))))), ?_⟩
  have strW : ∀ (x : String) (Hx : Hp), Dp K Hx (.str (T (lit x))) (.str (Str.ofString x)) := fun x Hx => by
    rw [← lit_T]
    exact .str _
  cases ho with
  | any =>
    obtain ⟨k1, w1⟩ := wds_head hw
    refine m_word rfl hc w1 (if_eqF rfl (by decide +kernel) ?_)
    refine ⟨_, rfl, lit "anything", rfl, by decide +kernel, ?_⟩
    rw [show isNm (lit "anything") = false by decide +kernel]
    refine ⟨false, rfl, iteF (if_notin2 rfl (by decide +kernel) fun u hu => ?_)⟩
    refine m_step rfl (hc.same (Same.new _ hu)) fun H1 e1 c1 => ?_
    refine ⟨_, rfl, by show 1 ≤ sizeLine; decide, fun u1 hu1 => ⟨by show 2 ≤ sizeLine; decide, fun u2 hu2 => ?_⟩⟩
    exact q _ _ ((((SameX.new _ hu).trans e1).trans (SameX.new _ hu1)).trans (SameX.new _ hu2)) ((c1.same (Same.new _ hu1)).same (Same.new _ hu2)) (.tup (.of upd_same) (.cons (Dp.same (Same.new _ hu2) (.tup (.of upd_same) (.cons (strW _ _) .nil))) (.cons (.int _) .nil)))
  | nothing =>
    obtain ⟨k1, w1⟩ := wds_head hw
    refine m_word rfl hc w1 (if_eqF rfl (by decide +kernel) ?_)
    refine ⟨_, rfl, lit "nothing", rfl, by decide +kernel, ?_⟩
    rw [show isNm (lit "nothing") = false by decide +kernel]
    refine ⟨false, rfl, iteF (if_notin2 rfl (by decide +kernel) fun u hu => ?_)⟩
    refine m_step rfl (hc.same (Same.new _ hu)) fun H1 e1 c1 => ?_
    refine ⟨_, rfl, by show 1 ≤ sizeLine; decide, fun u1 hu1 => ⟨by show 2 ≤ sizeLine; decide, fun u2 hu2 => ?_⟩⟩
    exact q _ _ ((((SameX.new _ hu).trans e1).trans (SameX.new _ hu1)).trans (SameX.new _ hu2)) ((c1.same (Same.new _ hu1)).same (Same.new _ hu2)) (.tup (.of upd_same) (.cons (Dp.same (Same.new _ hu2) (.tup (.of upd_same) (.cons (strW _ _) .nil))) (.cons (.int _) .nil)))
  | @name s hs hsl =>
    obtain ⟨k1, w1⟩ := wds_head hw
    refine m_word rfl hc w1 (if_eqF rfl (nm_ne hs (by decide +kernel)) ?_)
    refine ⟨_, rfl, s, rfl, Nat.le_trans hsl (by decide), ?_⟩
    rw [hs]
    refine ⟨true, rfl, iteT (m_step rfl hc fun H1 e1 c1 => ?_)⟩
    refine ⟨_, rfl, by show 2 ≤ sizeLine; decide, fun u1 hu1 => ⟨by show 2 ≤ sizeLine; decide, fun u2 hu2 => ?_⟩⟩
    exact q _ _ ((e1.trans (SameX.new _ hu1)).trans (SameX.new _ hu2)) ((c1.same (Same.new _ hu1)).same (Same.new _ hu2)) (.tup (.of upd_same) (.cons (Dp.same (Same.new _ hu2) (.tup (.of upd_same) (.cons (.str _) (.cons (.str _) .nil)))) (.cons (.int _) .nil)))
  | @par _ k0 m t0 hlo =>
    obtain ⟨k1, w1⟩ := wds_head hw
    have wt := wds_tail hw
    obtain ⟨k2, w2⟩ := wds_head (wds_right wt)
    refine m_word rfl hc w1 (if_eqT rfl (by decide +kernel) ?_)
    refine ⟨_, rfl, _, rfl, p, t, ds, i, lv, rfl, hc, by omega, fun H1 e1 c1 => ?_⟩
    refine ⟨_, rfl, _, rfl, _, _, rfl, rfl, p, t, ds, i + 1, lv + 1, c, m, t0, rfl, c1, hlo.a, by omega, by omega, wds_left wt, ⟨k2, _, w2, by decide +kernel, by decide +kernel⟩, fun v H2 e2 c2 d2 => ?_⟩
    obtain ⟨a, x, rfl, hs, hx⟩ := dp_res d2
    refine ⟨a, _, rfl, hs, rfl, _, _, rfl, _, _, rfl, rfl, ?_⟩
    rw [← lit_T] at w2
    refine m_expect rfl c2 w2 fun H3 e3 c3 => ?_
    refine ⟨_, rfl, _, rfl, by show 2 ≤ sizeLine; decide, fun u hu => ?_⟩
    have hlen : i + (lit "(" :: (t0 ++ [lit ")"])).length = i + 1 + t0.length + 1 := by
      rw [List.length_cons, List.length_append]
      show i + (t0.length + 1 + 1) = _
      omega
    rw [hlen] at q
    exact q _ _ (((e1.trans e2).trans e3).trans (SameX.new _ hu)) (c3.same (Same.new _ hu)) (.tup (.of upd_same) (.cons (Dp.same (Same.new _ hu) (c2.mv e3 (Con.tn c) hx)) (.cons (.int _) .nil)))
end
theorem Lo.f {c : Con} {m : Nat} {t : List (List Nat)} (h : Lo c 3 m t) : At c m t ∨ (∃ c' m' t', c = .not c' ∧ m = m' + 1 ∧ t = lit "not" :: t' ∧ Lo c' 3 m' t') ∨
    (∃ (b : Bool) (r : Rol) (c' : Con) (m' : Nat) (t' : List (List Nat)), c = (if b then Con.some r c' else Con.all r c') ∧ m = m' + 1 ∧ t = lit (if b then "some" else "all") :: (rolW r ++ t') ∧ isNm r.1 = true ∧ r.1.length ≤ 1000 ∧ Lo c' 3 m' t') := by
  cases h with
  | any => exact .inl .any
  | nothing => exact .inl .nothing
  | name a b => exact .inl (.name a b)
  | par a => exact .inl (.par a)
  | not a => exact .inr (.inl ⟨_, _, _, rfl, rfl, rfl, a⟩)
  | some a b c => exact .inr (.inr ⟨true, _, _, _, _, rfl, rfl, rfl, a, b, c⟩)
  | all a b c => exact .inr (.inr ⟨false, _, _, _, _, rfl, rfl, rfl, a, b, c⟩)
theorem At.first {c : Con} {m : Nat} {t : List (List Nat)} (h : At c m t) : ∃ x r, t = x :: r ∧ decide (T x = Str.ofString "not") = false ∧ (decide (T x = Str.ofString "some") || decide (T x = Str.ofString "all")) = false := by
  cases h with
  | any => exact ⟨_, _, rfl, by decide +kernel, by decide +kernel⟩
  | nothing => exact ⟨_, _, rfl, by decide +kernel, by decide +kernel⟩
  | name a b => exact ⟨_, _, rfl, nm_ne a (by decide +kernel), by rw [nm_ne a (x := "some") (by decide +kernel), nm_ne a (x := "all") (by decide +kernel)]; rfl⟩
  | par a => exact ⟨_, _, rfl, by decide +kernel, by decide +kernel⟩
section
variable {C : Addr} {fw fs fe ft : Addr} {fdw fds fde fdt : FuncData}
theorem fx_front0 {k : Nat} {f : Addr} {fd : FuncData} (D : Df K mg "_front" s_front f fd ["cursor", "level"]) : Fx P w K mg base 1 f fd ["cursor", "level"] (spGr K C LoF FoT 0) := by
  refine D.fx (k := 0) sc_front (fun vs H Q E h => ?_) (fun cdv A outer s H vs Q E hr h => ?_)
  · obtain ⟨p, t, ds, i, lv, c, m, ts, rfl, _⟩ := h
    rfl
  · obtain ⟨p, t, ds, i, lv, c, m, ts, _, _, _, hm, _⟩ := h
    exact absurd hm (Nat.not_lt_zero _)
theorem fx_front1 {n k : Nat} {f : Addr} {fd : FuncData} (hk : 4 ≤ k) (D : Df K mg "_front" s_front f fd ["cursor", "level"]) (T_Cursor : CurC K mg C) (c_Cursor_word : Mt P w K mg base 1 C "word" fw fdw ["self"] (spWord K C)) (c_step_deeper : Cl P w K mg base 2 "_step_deeper" (spSD K C)) (c_roleP : Cl P w K mg base 4 "role" (spRoleP K C))
    (c_front : Cl P w K mg base k "_front" (spGr K C LoF FoT n)) (c_atom : Cl P w K mg base k "_atom" (spGr K C At FoT (n + 1))) : Fx P w K mg base (k + 1) f fd ["cursor", "level"] (spGr K C LoF FoT (n + 1)) := by
  refine D.fx sc_front (fun vs H Q E h => ?_) (fun cdv A outer s H vs Q E hr h => ?_)
  · obtain ⟨p, t, ds, i, lv, c, m, ts, rfl, _⟩ := h
    rfl
  obtain ⟨p, t, ds, i, lv, c, m, ts, rfl, hc, ho, hm, hl, hw, hf, q⟩ := h
  refine ⟨_, (pss_cons (ps_set (i := 2) sc_front.nd rfl (.inl rfl) (pe_meth0 (pv 0) T_Cursor.cl c_Cursor_word.M c_Cursor_word.F (hr.mono (by first | decide | omega)) c_Cursor_word.b .nil pass0))
      (pss_cons (ps_if (pt_cmpR op_eq (pv 2) pe_str (nomark _)) (pss_cons (ps_expr (pc c_step_deeper hr (by first | decide | omega) (by rfl) (pa_cons (pv 0) (pa_cons (pv 1) pa_nil))))
      (pss_cons (ps_asg (pc c_front hr (by first | decide | omega) (by rfl) (pa_cons (pv 0) (pa_cons (pe_op op_add (pv 1) pe_int) pa_nil))) (pg_tup (by rfl) (pgs_cons (pg_name (i := 3) sc_front.nd rfl (.inl rfl)) (pgs_cons (pg_name (i := 4) sc_front.nd rfl (.inl rfl)) pgs_nil))))
      (pss_one (ps_ret (pe_tup (pa_cons (pe_tup (pa_cons pe_str (pa_cons (pv 3) pa_nil))) (pa_cons (pe_op op_add (pv 4) pe_int) pa_nil))))))) pss_nil)
      (pss_cons (ps_if (pt_cmpR op_in_seq (pv 2) (pe_tup (pa_cons pe_str (pa_cons pe_str pa_nil))) rfl) (pss_cons (ps_expr (pc c_step_deeper hr (by first | decide | omega) (by rfl) (pa_cons (pv 0) (pa_cons (pv 1) pa_nil))))
      (pss_cons (ps_set (i := 5) sc_front.nd rfl (.inl rfl) (pc c_roleP hr (by first | decide | omega) (by rfl) (pa_cons (pv 0) pa_nil)))
      (pss_cons (ps_asg (pc c_front hr (by first | decide | omega) (by rfl) (pa_cons (pv 0) (pa_cons (pe_op op_add (pv 1) pe_int) pa_nil))) (pg_tup (by rfl) (pgs_cons (pg_name (i := 3) sc_front.nd rfl (.inl rfl)) (pgs_cons (pg_name (i := 4) sc_front.nd rfl (.inl rfl)) pgs_nil))))
      (pss_one (ps_ret (pe_tup (pa_cons (pe_tup (pa_cons (pv 2) (pa_cons (pv 5) (pa_cons (pv 3) pa_nil)))) (pa_cons (pe_op op_add (pv 4) pe_int) pa_nil)))))))) pss_nil)
      (pss_one (ps_ret (pc c_atom hr (by first | decide | omega) (by rfl) (pa_cons (pv 0) (pa_cons (pv 1) pa_nil)))))))), ?_⟩
  rcases ho.f with ha | ⟨c', m', t', rfl, rfl, rfl, h'⟩ | ⟨b, r, c', m', t', rfl, rfl, rfl, hn, hnl, h'⟩
  · obtain ⟨x, r, rfl, x1, x2⟩ := ha.first
    obtain ⟨k1, w1⟩ := wds_head hw
    refine m_word rfl hc w1 (if_eqF rfl x1 (if_in2F rfl x2 fun u hu => ?_))
    exact ⟨_, rfl, _, rfl, p, t, ds, i, lv, c, m, _, rfl, hc.same (Same.new _ hu), ha, hm, hl, hw, hf, fun v H' e c' d => q v H' ((SameX.new _ hu).trans e) c' d⟩
  · obtain ⟨k1, w1⟩ := wds_head hw
    have wt := wds_tail hw
    refine m_word rfl hc w1 (if_eqT rfl (by decide +kernel) ?_)
    refine ⟨_, rfl, _, rfl, p, t, ds, i, lv, rfl, hc, by omega, fun H1 e1 c1 => ?_⟩
    have hlen : i + (lit "not" :: t').length = i + 1 + t'.length := by
      rw [List.length_cons]
      omega
    rw [hlen] at q hf
    refine ⟨_, rfl, _, rfl, _, _, rfl, rfl, p, t, ds, i + 1, lv + 1, c', m', t', rfl, c1, h', by omega, by omega, wt, hf, fun v H2 e2 c2 d2 => ?_⟩
    obtain ⟨a, x, rfl, hs, hx⟩ := dp_res d2
    refine ⟨a, _, rfl, hs, rfl, _, _, rfl, _, _, rfl, rfl, ?_⟩
    refine ⟨_, rfl, by show 2 ≤ sizeLine; decide, fun u hu => ⟨_, rfl, _, _, rfl, rfl, by show 2 ≤ sizeLine; decide, fun u2 hu2 => ?_⟩⟩
    exact q _ _ (((e1.trans e2).trans (SameX.new _ hu)).trans (SameX.new _ hu2)) ((c2.same (Same.new _ hu)).same (Same.new _ hu2)) (.tup (.of upd_same) (.cons (Dp.same (Same.new _ hu2) (.tup (.of upd_same) (.cons (.str _) (.cons (Dp.same (Same.new _ hu) hx) .nil)))) (.cons (.int _) .nil)))
  · obtain ⟨k1, w1⟩ := wds_head hw
    have wt := wds_tail hw
    have wb : decide (T (lit (if b then "some" else "all")) = Str.ofString "not") = false ∧ (decide (T (lit (if b then "some" else "all")) = Str.ofString "some") || decide (T (lit (if b then "some" else "all")) = Str.ofString "all")) = true := by
      cases b <;> exact ⟨by decide +kernel, by decide +kernel⟩
    refine m_word rfl hc w1 (if_eqF rfl wb.1 (if_in2T rfl wb.2 fun u0 hu0 => ?_))
    refine ⟨_, rfl, _, rfl, p, t, ds, i, lv, rfl, hc.same (Same.new _ hu0), by omega, fun H1 e1 c1 => ?_⟩
    refine ⟨_, rfl, p, t, ds, i + 1, r, rfl, c1, hn, hnl, wds_left wt, fun vr H2 e2 c2 d2 => ?_⟩
    have hlen : i + (lit (if b then "some" else "all") :: (rolW r ++ t')).length = i + 1 + (rolW r).length + t'.length := by
      rw [List.length_cons, List.length_append]
      omega
    rw [hlen] at q hf
    refine ⟨_, rfl, _, rfl, _, _, rfl, rfl, p, t, ds, i + 1 + (rolW r).length, lv + 1, c', m', t', rfl, c2, h', by omega, by omega, wds_right wt, hf, fun v H3 e3 c3 d3 => ?_⟩
    obtain ⟨a, x, rfl, hs, hx⟩ := dp_res d3
    have hr3 := c2.mv e3 (rolN r) d2
    refine ⟨a, _, rfl, hs, rfl, _, _, rfl, _, _, rfl, rfl, ?_⟩
    refine ⟨_, rfl, _, rfl, _, rfl, by show 3 ≤ sizeLine; decide, fun u hu => ⟨_, rfl, _, _, rfl, rfl, by show 2 ≤ sizeLine; decide, fun u2 hu2 => ?_⟩⟩
    have S := Same.new (H := H3) (.tup [.str (T (lit (if b then "some" else "all"))), vr, x]) hu
    refine q _ _ (((((SameX.new _ hu0).trans e1).trans e2).trans e3).trans ((SameX.new _ hu).trans (SameX.new _ hu2))) ((c3.same S).same (Same.new _ hu2)) (.tup (.of upd_same) (.cons (Dp.same (Same.new _ hu2) ?_) (.cons ?_ .nil)))
    · cases b with
      | true => exact .tup (.of upd_same) (.cons (by rw [← lit_T]; exact .str _) (.cons (Dp.same S hr3) (.cons (Dp.same S hx) .nil)))
      | false => exact .tup (.of upd_same) (.cons (by rw [← lit_T]; exact .str _) (.cons (Dp.same S hr3) (.cons (Dp.same S hx) .nil)))
    · cases b <;> exact .int _
theorem fx_front {f fb fa fc : Addr} {fd fdb fda fdc : FuncData} (D : Df K mg "_front" s_front f fd ["cursor", "level"]) (DB : Df K mg "_both" s_both fb fdb ["cursor", "level"]) (DA : Df K mg "_alternatives" s_alternatives fa fda ["cursor", "level"]) (DC : Df K mg "_chain" s_chain fc fdc ["cursor", "level", "word", "operand"])
    {ga : Addr} {gda : FuncData} (DT : Df K mg "_atom" s_atom ga gda ["cursor", "level"]) (T_Cursor : CurC K mg C) (c_Cursor_word : Mt P w K mg base 1 C "word" fw fdw ["self"] (spWord K C)) (c_Cursor_step : Mt P w K mg base 1 C "step" fs fds ["self"] (spStep K C)) (c_Cursor_expect : Mt P w K mg base 2 C "expect" fe fde ["self", "word"] (spExpect K C))
    (c_step_deeper : Cl P w K mg base 2 "_step_deeper" (spSD K C)) (c_roleP : Cl P w K mg base 4 "role" (spRoleP K C)) (c_is_name : Cl P w K mg base 2 "is_name" spIsName) (z_max : mg "max" = none) : ∀ n : Nat, Fx P w K mg base (6 * n + 1) f fd ["cursor", "level"] (spGr K C LoF FoT n)
  | 0 => fx_front0 (k := 0) D
  | n + 1 => by
    have F := fx_front D DB DA DC DT T_Cursor c_Cursor_word c_Cursor_step c_Cursor_expect c_step_deeper c_roleP c_is_name z_max n
    have B := fx_both (by omega) DB DC D T_Cursor c_Cursor_word c_Cursor_step F z_max
    have A := fx_alternatives (by omega) DA DC DB T_Cursor c_Cursor_word c_Cursor_step B z_max
    have Tm := c_atom (by omega) DT T_Cursor c_Cursor_word c_Cursor_step c_Cursor_expect c_step_deeper c_is_name (DA.of A)
    exact fx_front1 (k := 6 * n + 6) (by omega) D T_Cursor c_Cursor_word c_step_deeper c_roleP ((D.of F).mono (by omega)) (Tm.mono (by omega))
theorem fx_alts {f fb fa fc : Addr} {fd fdb fda fdc : FuncData} (D : Df K mg "_front" s_front f fd ["cursor", "level"]) (DB : Df K mg "_both" s_both fb fdb ["cursor", "level"]) (DA : Df K mg "_alternatives" s_alternatives fa fda ["cursor", "level"]) (DC : Df K mg "_chain" s_chain fc fdc ["cursor", "level", "word", "operand"])
    {ga : Addr} {gda : FuncData} (DT : Df K mg "_atom" s_atom ga gda ["cursor", "level"]) (T_Cursor : CurC K mg C) (c_Cursor_word : Mt P w K mg base 1 C "word" fw fdw ["self"] (spWord K C)) (c_Cursor_step : Mt P w K mg base 1 C "step" fs fds ["self"] (spStep K C)) (c_Cursor_expect : Mt P w K mg base 2 C "expect" fe fde ["self", "word"] (spExpect K C))
    (c_step_deeper : Cl P w K mg base 2 "_step_deeper" (spSD K C)) (c_roleP : Cl P w K mg base 4 "role" (spRoleP K C)) (c_is_name : Cl P w K mg base 2 "is_name" spIsName) (z_max : mg "max" = none) (n : Nat) : Cl P w K mg base (6 * n + 5) "_alternatives" (spGr K C LoA FoA n) := by
  have F := fx_front D DB DA DC DT T_Cursor c_Cursor_word c_Cursor_step c_Cursor_expect c_step_deeper c_roleP c_is_name z_max n
  have B := fx_both (by omega) DB DC D T_Cursor c_Cursor_word c_Cursor_step F z_max
  exact DA.of (fx_alternatives (by omega) DA DC DB T_Cursor c_Cursor_word c_Cursor_step B z_max)
/-- what a form of a whole text gives -/
def spFm (K : PySem.W.Frag) (C : Addr) (G : PyData → List (List Nat) → Prop) (Fo : Str → Prop) : Sp := fun vs H Q _ => ∃ (p : Addr) (t : Str) (ds : List PyData) (i : Nat) (D : PyData) (ts : List (List Nat)), vs = [.ref p] ∧ Cu K C H p t ds i ∧ G D ts ∧ wds ds i ts ∧ fol Fo ds (i + ts.length) ∧
  ∀ v H', SameX p H H' → Cu K C H' p t ds (i + ts.length) → Dp K H' v D → Q v H'
def GCon : PyData → List (List Nat) → Prop := fun D ts => ∃ c m, D = Con.D c ∧ LoA c m ts ∧ m ≤ 8 ∧ c.dp ≤ 12
theorem fx_concept {f : Addr} {fd : FuncData} {tk : Tok} {k : Nat} (D : Df K mg "concept" s_concept f fd ["cursor"]) (c_alternatives : Cl P w K mg base k "_alternatives" (spGr K C LoA FoA 9)) (m_GREATEST_HEIGHT : mg "GREATEST_HEIGHT" = some (.int K_GREATEST_HEIGHT tk)) : Fx P w K mg base (k + 1) f fd ["cursor"] (spFm K C GCon FoA) := by
  refine D.fx sc_concept (fun vs H Q E h => ?_) (fun cdv A outer s H vs Q E hr h => ?_)
  · obtain ⟨p, t, ds, i, D, ts, rfl, _⟩ := h
    rfl
  obtain ⟨p, t, ds, i, _, ts, rfl, hc, ⟨c, m, rfl, hlo, hm, hdp⟩, hw, hf, q⟩ := h
  refine ⟨_, (pss_cons (ps_asg (pc c_alternatives hr (by first | decide | omega) (by rfl) (pa_cons (pv 0) (pa_cons pe_int pa_nil))) (pg_tup (by rfl) (pgs_cons (pg_name (i := 1) sc_concept.nd rfl (.inl rfl)) (pgs_cons (pg_name (i := 2) sc_concept.nd rfl (.inl rfl)) pgs_nil))))
      (pss_cons (ps_if (pt_cmpR op_gt (pv 2) (pe_glob (v := .int K_GREATEST_HEIGHT) (by rfl) m_GREATEST_HEIGHT ⟨_, rfl⟩) (nomark _)) pss_never pss_nil)
      (pss_one (ps_ret (pv 1))))), ?_⟩
  refine ⟨_, rfl, p, t, ds, i, 0, c, m, ts, rfl, hc, hlo, by omega, by omega, hw, hf, fun v H1 e1 c1 d1 => ?_⟩
  obtain ⟨a, x, rfl, hs, hx⟩ := dp_res d1
  refine ⟨a, _, rfl, hs, rfl, _, _, rfl, _, _, rfl, rfl, ?_⟩
  refine ⟨_, rfl, _, _, rfl, rfl, _, rfl, ?_⟩
  rw [decide_eq_false (show ¬ (K_GREATEST_HEIGHT < (c.dp : Int)) by unfold K_GREATEST_HEIGHT; omega)]
  exact iteF ⟨_, rfl, q _ _ e1 c1 hx⟩
/-- a whole text -/
def spWhole (K : PySem.W.Frag) (G : PyData → List (List Nat) → Prop) (g : Addr) : Sp := fun vs H Q _ => ∃ (l : List Nat) (tks : List Tk) (D : PyData), vs = [.str (T l), .ref g] ∧ l.length ≤ 20000 ∧ scan l.length l 0 = (tks, none) ∧ tks.length ≤ 20000 ∧ G D (tks.map Tk.s) ∧ ∀ v H', Same H H' → Dp K H' v D → Q v H'
theorem c_read_whole {G : PyData → List (List Nat) → Prop} {Fo : Str → Prop} {k : Nat} (hk : 5 ≤ k) (hFo : Fo (Str.ofString "")) {f g fi fa : Addr} {fd gfd fdi fda : FuncData} {gps : List Str} (D : Df K mg "_read_whole" s_read_whole f fd ["text", "form"]) (T_Cursor : CurC K mg C) (c_Cursor : MkC P w K mg base 4 C fi fdi ["self", "text"] (spCurInit K C))
    (c_Cursor_at_end : Mt P w K mg base 1 C "at_end" fa fda ["self"] (spAtEnd K C)) (c_op : Fx P w K mg base k g gfd gps (spFm K C G Fo)) : Cl P w K mg base (k + 1) "_read_whole" (spWhole K G g) := by
  refine D.cl sc_read_whole (fun vs H Q E h => ?_) (fun cdv A outer s H vs Q E hr h => ?_)
  · obtain ⟨l, tks, D, rfl, _⟩ := h
    rfl
  obtain ⟨l, tks, D, rfl, hl, hsc, htl, hG, q⟩ := h
  refine ⟨_, (pss_cons (ps_set (i := 2) sc_read_whole.nd rfl (.inl rfl) (pe_make c_Cursor.M c_Cursor.F (hr.mono (by first | decide | omega)) (by rfl) T_Cursor.mgC c_Cursor.b .nil pass0 (pa_cons (pv 0) pa_nil)))
      (pss_cons (ps_set (i := 3) sc_read_whole.nd rfl (.inl rfl) (pe_callL (i := 1) c_op.F (hr.mono (by first | decide | omega)) rfl (.inl rfl) c_op.k c_op.b .nil pass0 (pa_cons (pv 2) pa_nil)))
      (pss_cons (ps_if (pt_not (pt_val (pe_meth0 (pv 2) T_Cursor.cl c_Cursor_at_end.M c_Cursor_at_end.F (hr.mono (by first | decide | omega)) c_Cursor_at_end.b .nil pass0))) pss_never pss_nil)
      (pss_one (ps_ret (pv 3)))))), ?_⟩
  have hend : wdAt (tks.map tkD ++ [endD l.length]) (0 + (tks.map Tk.s).length) (Str.ofString "end") (Str.ofString "") := ⟨(l.length : Int), by
    rw [Nat.zero_add, List.length_map, List.getElem?_append_right (by rw [List.length_map]; exact Nat.le_refl _), List.length_map, Nat.sub_self]
    rfl⟩
  have hw : wds (tks.map tkD ++ [endD l.length]) 0 (tks.map Tk.s) := fun j x hj => by
    rw [List.getElem?_map] at hj
    cases ht : tks[j]? with
    | none => rw [ht] at hj; cases hj
    | some tkj =>
      rw [ht] at hj
      cases Option.some.inj hj
      refine ⟨if tkj.wd then Str.ofString "word" else Str.ofString "sign", (tkj.i : Int), ?_⟩
      rw [Nat.zero_add, List.getElem?_append_left (by rw [List.length_map]; exact (List.getElem?_eq_some_iff.mp ht).1), List.getElem?_map, ht]
      rfl
  refine ⟨_, rfl, ?_⟩
  intro x dx nx ndx nex
  have s0 : Same H (upd (upd H dx (.own x)) x (.ins C dx [])) := fun b o e => by
    rw [upd_ne (ne_of_none e nx), upd_ne (ne_of_none e ndx)]
    exact e
  refine ⟨H, x, dx, l, tks, rfl, s0, nx, upd_same, hl, hsc, htl, fun H1 s1 c1 => ⟨rfl, ?_⟩⟩
  refine ⟨rfl, _, rfl, x, T l, _, 0, D, _, rfl, c1, hG, hw, ⟨_, _, hend, hFo⟩, fun v H2 e2 c2 d2 => ?_⟩
  refine m_at_end rfl c2 hend ⟨true, ?_, iteF ⟨_, rfl, q _ _ (SameX.free2 s1 nx e2) d2⟩⟩
  rw [decide_eq_true rfl]
def spRead (K : PySem.W.Frag) (G : PyData → List (List Nat) → Prop) : Sp := fun vs H Q _ => ∃ (l : List Nat) (tks : List Tk) (D : PyData), vs = [.str (T l)] ∧ l.length ≤ 20000 ∧ scan l.length l 0 = (tks, none) ∧ tks.length ≤ 20000 ∧ G D (tks.map Tk.s) ∧ ∀ v H', Same H H' → Dp K H' v D → Q v H'
theorem c_read_concept {k : Nat} {f g : Addr} {fd gfd : FuncData} (D : Df K mg "read_concept" s_read_concept f fd ["text"]) (D_concept : Df K mg "concept" s_concept g gfd ["cursor"]) (c_read_whole : Cl P w K mg base k "_read_whole" (spWhole K GCon g)) : Cl P w K mg base (k + 1) "read_concept" (spRead K GCon) := by
  refine D.cl sc_read_concept (fun vs H Q E h => ?_) (fun cdv A outer s H vs Q E hr h => ?_)
  · obtain ⟨l, tks, D, rfl, _⟩ := h
    rfl
  obtain ⟨l, tks, D, rfl, hl, hsc, htl, hG, q⟩ := h
  refine ⟨_, (pss_one (ps_ret (pc c_read_whole hr (by first | decide | omega) (by rfl) (pa_cons (pv 0) (pa_cons (pe_glob (v := .ref _) (by rfl) D_concept.mgf rfl) pa_nil))))), ?_⟩
  exact ⟨_, rfl, l, tks, D, rfl, hl, hsc, htl, hG, q⟩
end
end
def due1 (l : List Nat) : Bool := decide (1 ≤ l.length) && decide (l.length ≤ 20) && !decide (T l ∈ K_RESERVED) && isL (l.getD 0 0)
theorem tw_all {p : Nat → Bool} : ∀ l : List Nat, decide ((l.takeWhile p).length = l.length) = l.all p
  | [] => rfl
  | c :: r => by
    have ih := tw_all (p := p) r
    rw [List.takeWhile_cons, List.all_cons, ← ih]
    cases p c with
    | true =>
      show decide ((r.takeWhile p).length + 1 = r.length + 1) = _
      rw [Bool.true_and]
      exact decide_eq_decide.mpr (by omega)
    | false => rfl
theorem isNm_due (l : List Nat) : isNm l = (due1 l && l.all isW) := by
  unfold isNm due1
  cases l with
  | nil => rfl
  | cons c r =>
    have e : wordEnd (c :: r) 0 = if isL c then 0 + 1 + (r.takeWhile isW).length else 0 := rfl
    rw [e, List.all_cons, ← tw_all]
    show _ = (decide (1 ≤ r.length + 1) && decide (r.length + 1 ≤ 20) && !decide (T (c :: r) ∈ K_RESERVED) && isL c && (isW c && _))
    cases h : isL c with
    | false =>
      rw [Bool.and_false, Bool.false_and]
      rfl
    | true =>
      have hw : isW c = true := by unfold isW; rw [h]; rfl
      have k := (List.takeWhile_prefix isW (l := r)).length_le
      rw [hw, Bool.true_and, Bool.and_true]
      show (decide (0 < 0 + 1 + (r.takeWhile isW).length) && decide (0 + 1 + (r.takeWhile isW).length ≤ 20) && decide (0 + 1 + (r.takeWhile isW).length = r.length + 1) && _) = _
      rw [decide_eq_true (show 0 < 0 + 1 + (r.takeWhile isW).length by omega), decide_eq_true (show 1 ≤ r.length + 1 by omega), Bool.true_and, Bool.true_and]
      by_cases h2 : (r.takeWhile isW).length = r.length
      · rw [h2, decide_eq_true (show 0 + 1 + r.length = r.length + 1 by omega), decide_eq_true (show r.length = r.length from rfl), Bool.and_true, Bool.and_true, show 0 + 1 + r.length = r.length + 1 by omega]
      · rw [decide_eq_false h2, decide_eq_false (show ¬ 0 + 1 + (r.takeWhile isW).length = r.length + 1 by omega), Bool.and_false, Bool.and_false, Bool.false_and]
theorem isNm_of {l : List Nat} (h1 : 1 ≤ l.length) (h2 : l.length ≤ 20) (h3 : T l ∉ K_RESERVED) (h4 : isL (l.getD 0 0) = true) (h5 : l.all isW = true) : isNm l = true := by
  rw [isNm_due]
  unfold due1
  rw [decide_eq_true h1, decide_eq_true h2, decide_eq_false h3, h4, h5]
  rfl
theorem isNm_word {l : List Nat} (h : isNm l = true) : wordB l = true := by
  rw [isNm_due] at h
  unfold due1 at h
  simp only [Bool.and_eq_true, decide_eq_true_eq] at h
  obtain ⟨⟨⟨⟨h1, h2⟩, h3⟩, h4⟩, h5⟩ := h
  cases l with
  | nil => simp at h1
  | cons c r =>
    have hl : isL c = true := h4
    rw [List.all_cons, Bool.and_eq_true] at h5
    show (isL c && r.all isW && decide (r.length < 20)) = true
    rw [hl, h5.2, decide_eq_true (show r.length < 20 by rw [List.length_cons] at h2; omega)]
    rfl
/-- a drawn name is a name -/
theorem no_us : ∀ x ∈ K_RESERVED, 95 ∉ x.cps.toList := by decide +kernel
theorem one_no : ∀ c ∈ mk0 ++ mk1 ++ mk2 ++ mk3, T [c] ∉ K_RESERVED ∧ isL c = true := by decide +kernel
theorem L_W {c : Nat} (h : isL c = true) : isW c = true := by
  unfold isW
  rw [h]
  rfl
theorem all_LW {l : List Nat} (h : l.all isL = true) : l.all isW = true := by
  rw [List.all_eq_true] at h ⊢
  exact fun x hx => L_W (h x hx)
theorem nm_ok {l r m s : List Nat} (f : FrameOk l r) (h : s ∈ nmL l r m) (hm : ∀ c ∈ m, c ∈ mk0 ++ mk1 ++ mk2 ++ mk3) : isNm s = true := by
  obtain ⟨c, hc, rfl⟩ := List.mem_map.mp h
  obtain ⟨n1, n2⟩ := one_no c (hm c hc)
  rcases f with ⟨rfl, rfl⟩ | ⟨hl, h1, r', rfl, hr, h2⟩
  · refine isNm_of (by show 1 ≤ 1; decide) (by show 1 ≤ 20; decide) n1 n2 ?_
    show (isW c && true) = true
    rw [L_W n2]
    rfl
  · refine isNm_of (by simp; omega) (by simp; omega) (fun z => ?_) ?_ ?_
    · refine no_us _ z ?_
      show 95 ∈ l ++ [c] ++ 95 :: r'
      simp
    · cases l with
      | nil => exact n2
      | cons x l' =>
        rw [List.all_cons, Bool.and_eq_true] at hl
        exact hl.1
    · rw [List.all_append, List.all_append, all_LW hl]
      show (true && (isW c && true) && (isW 95 && r'.all isW)) = true
      rw [L_W n2, hr]
      decide +kernel
/-! canonical texts as spelled tokens -/
abbrev Ps := List (List Nat × List Nat)
def parP (b : Bool) (f : List Nat → Ps) (g : List Nat) : Ps := if b then (lit "(", []) :: (f [] ++ [(lit ")", g)]) else f g
def parT (b : Bool) (t : List (List Nat)) : List (List Nat) := if b then lit "(" :: (t ++ [lit ")"]) else t
def parN (b : Bool) (m : Nat) : Nat := if b then m + 1 else m
def rolP (r : Rol) (g : List Nat) : Ps := if r.2 then [(lit "inverse", [32]), (r.1, g)] else [(r.1, g)]
def canC : Con → List Nat → Ps
  | .any, g => [(lit "anything", g)]
  | .nothing, g => [(lit "nothing", g)]
  | .name s, g => [(s, g)]
  | .not c, g => (lit "not", [32]) :: parP (decide (c.rk < 2)) (canC c) g
  | .both c d, g => parP (decide (c.rk < 1)) (canC c) [32] ++ (lit "and", [32]) :: parP (decide (d.rk < 2)) (canC d) g
  | .either c d, g => parP (decide (c.rk < 0)) (canC c) [32] ++ (lit "or", [32]) :: parP (decide (d.rk < 1)) (canC d) g
  | .some r c, g => (lit "some", [32]) :: (rolP r [32] ++ parP (decide (c.rk < 2)) (canC c) g)
  | .all r c, g => (lit "all", [32]) :: (rolP r [32] ++ parP (decide (c.rk < 2)) (canC c) g)
def tkC : Con → List (List Nat)
  | .any => [lit "anything"]
  | .nothing => [lit "nothing"]
  | .name s => [s]
  | .not c => lit "not" :: parT (decide (c.rk < 2)) (tkC c)
  | .both c d => parT (decide (c.rk < 1)) (tkC c) ++ lit "and" :: parT (decide (d.rk < 2)) (tkC d)
  | .either c d => parT (decide (c.rk < 0)) (tkC c) ++ lit "or" :: parT (decide (d.rk < 1)) (tkC d)
  | .some r c => lit "some" :: (rolW r ++ parT (decide (c.rk < 2)) (tkC c))
  | .all r c => lit "all" :: (rolW r ++ parT (decide (c.rk < 2)) (tkC c))
def neC : Con → Nat
  | .not c => parN (decide (c.rk < 2)) (neC c) + 1
  | .both c d => max (parN (decide (c.rk < 1)) (neC c)) (parN (decide (d.rk < 2)) (neC d))
  | .either c d => max (parN (decide (c.rk < 0)) (neC c)) (parN (decide (d.rk < 1)) (neC d))
  | .some _ c => parN (decide (c.rk < 2)) (neC c) + 1
  | .all _ c => parN (decide (c.rk < 2)) (neC c) + 1
  | _ => 0
def NmC (s : List Nat) : Prop := isNm s = true ∧ s.length ≤ 1000
def CNm : Con → Prop
  | .name s => NmC s
  | .not c => CNm c
  | .both c d => CNm c ∧ CNm d
  | .either c d => CNm c ∧ CNm d
  | .some r c => NmC r.1 ∧ CNm c
  | .all r c => NmC r.1 ∧ CNm c
  | _ => True
theorem sp_lit : lit " " = [32] := by decide +kernel
theorem inv_lit : lit "inverse " = lit "inverse" ++ [32] := by decide +kernel
theorem not_lit : lit "not " = lit "not" ++ [32] := by decide +kernel
theorem parP_map {b : Bool} {f : List Nat → Ps} {t : List (List Nat)} {g : List Nat} (h : ∀ g, (f g).map (·.1) = t) : (parP b f g).map (·.1) = parT b t := by
  cases b with
  | false => exact h g
  | true =>
    show lit "(" :: (f [] ++ [(lit ")", g)]).map (·.1) = _
    rw [List.map_append, h []]
    rfl
theorem rolP_map {r : Rol} {g : List Nat} : (rolP r g).map (·.1) = rolW r := by
  obtain ⟨s, b⟩ := r
  cases b <;> rfl
theorem canC_map : ∀ (c : Con) (g : List Nat), (canC c g).map (·.1) = tkC c
  | .any, _ => rfl
  | .nothing, _ => rfl
  | .name _, _ => rfl
  | .not c, g => by
    show lit "not" :: (parP _ (canC c) g).map (·.1) = _
    rw [parP_map (canC_map c)]
    rfl
  | .both c d, g => by
    show (parP _ (canC c) [32] ++ (lit "and", [32]) :: parP _ (canC d) g).map (·.1) = _
    rw [List.map_append, List.map_cons, parP_map (canC_map c), parP_map (canC_map d)]
    rfl
  | .either c d, g => by
    show (parP _ (canC c) [32] ++ (lit "or", [32]) :: parP _ (canC d) g).map (·.1) = _
    rw [List.map_append, List.map_cons, parP_map (canC_map c), parP_map (canC_map d)]
    rfl
  | .some r c, g => by
    show lit "some" :: (rolP r [32] ++ parP _ (canC c) g).map (·.1) = _
    rw [List.map_append, parP_map (canC_map c), rolP_map]
    rfl
  | .all r c, g => by
    show lit "all" :: (rolP r [32] ++ parP _ (canC c) g).map (·.1) = _
    rw [List.map_append, parP_map (canC_map c), rolP_map]
    rfl
theorem parP_spell {b : Bool} {f : List Nat → Ps} {t g : List Nat} (h : ∀ g, spellT (f g) = t ++ g) : spellT (parP b f g) = wrap b t ++ g := by
  cases b with
  | false => exact h g
  | true =>
    show lit "(" ++ [] ++ spellT (f [] ++ [(lit ")", g)]) = (lit "(" ++ t ++ lit ")") ++ g
    rw [spell_app, h []]
    simp [spellT]
theorem rolP_spell {r : Rol} {g : List Nat} : spellT (rolP r g) = rolT r ++ g := by
  obtain ⟨s, b⟩ := r
  cases b with
  | false => simp [rolP, rolT, spellT]
  | true =>
    show lit "inverse" ++ [32] ++ (s ++ g ++ []) = (lit "inverse " ++ s) ++ g
    rw [inv_lit]
    simp
theorem canC_spell : ∀ (c : Con) (g : List Nat), spellT (canC c g) = c.pr ++ g
  | .any, g => by show lit "anything" ++ g ++ [] = _; rw [List.append_nil]; rfl
  | .nothing, g => by show lit "nothing" ++ g ++ [] = _; rw [List.append_nil]; rfl
  | .name s, g => by show s ++ g ++ [] = _; rw [List.append_nil]; rfl
  | .not c, g => by
    show lit "not" ++ [32] ++ spellT (parP _ (canC c) g) = (lit "not " ++ wrap _ c.pr) ++ g
    rw [parP_spell (canC_spell c), not_lit]
    simp
  | .both c d, g => by
    show spellT (parP _ (canC c) [32] ++ (lit "and", [32]) :: parP _ (canC d) g) = (wrap _ c.pr ++ lit " " ++ lit "and" ++ lit " " ++ wrap _ d.pr) ++ g
    rw [spell_app, parP_spell (canC_spell c)]
    show _ ++ (lit "and" ++ [32] ++ spellT (parP _ (canC d) g)) = _
    rw [parP_spell (canC_spell d), sp_lit]
    simp
  | .either c d, g => by
    show spellT (parP _ (canC c) [32] ++ (lit "or", [32]) :: parP _ (canC d) g) = (wrap _ c.pr ++ lit " " ++ lit "or" ++ lit " " ++ wrap _ d.pr) ++ g
    rw [spell_app, parP_spell (canC_spell c)]
    show _ ++ (lit "or" ++ [32] ++ spellT (parP _ (canC d) g)) = _
    rw [parP_spell (canC_spell d), sp_lit]
    simp
  | .some r c, g => by
    show lit "some" ++ [32] ++ spellT (rolP r [32] ++ parP _ (canC c) g) = (lit "some" ++ lit " " ++ rolT r ++ lit " " ++ wrap _ c.pr) ++ g
    rw [spell_app, parP_spell (canC_spell c), rolP_spell, sp_lit]
    simp
  | .all r c, g => by
    show lit "all" ++ [32] ++ spellT (rolP r [32] ++ parP _ (canC c) g) = (lit "all" ++ lit " " ++ rolT r ++ lit " " ++ wrap _ c.pr) ++ g
    rw [spell_app, parP_spell (canC_spell c), rolP_spell, sp_lit]
    simp
/-! they are written as the reader wants them -/
theorem lo_par {c : Con} {k m : Nat} {t : List (List Nat)} (b : Bool) (h : Lo c k m t) : Lo c (if b then 3 else k) (parN b m) (parT b t) := by
  cases b with
  | false => exact h
  | true => exact .par h
theorem tkC_lo : ∀ {c : Con}, CNm c → Lo c (c.rk + 1) (neC c) (tkC c)
  | .any, _ => .any
  | .nothing, _ => .nothing
  | .name _, h => .name h.1 h.2
  | .not c, h => by
    have i := lo_par (decide (c.rk < 2)) (tkC_lo (c := c) h)
    have e : (if decide (c.rk < 2) = true then 3 else c.rk + 1) = 3 := by
      have := rk_le c
      split
      · rfl
      · rename_i z
        have := of_decide_eq_false (Bool.eq_false_iff.mpr z)
        omega
    rw [e] at i
    exact .not i
  | .both c d, h => by
    have i := lo_par (decide (c.rk < 1)) (tkC_lo (c := c) h.1)
    have j := lo_par (decide (d.rk < 2)) (tkC_lo (c := d) h.2)
    refine .both i ?_ j ?_
    · split
      · decide
      · rename_i z
        have := of_decide_eq_false (Bool.eq_false_iff.mpr z)
        omega
    · split
      · decide
      · rename_i z
        have := of_decide_eq_false (Bool.eq_false_iff.mpr z)
        omega
  | .either c d, h => by
    have i := lo_par (decide (c.rk < 0)) (tkC_lo (c := c) h.1)
    have j := lo_par (decide (d.rk < 1)) (tkC_lo (c := d) h.2)
    refine .either i ?_ j ?_
    · split
      · decide
      · omega
    · split
      · decide
      · rename_i z
        have := of_decide_eq_false (Bool.eq_false_iff.mpr z)
        omega
  | .some r c, h => by
    have i := lo_par (decide (c.rk < 2)) (tkC_lo (c := c) h.2)
    have e : (if decide (c.rk < 2) = true then 3 else c.rk + 1) = 3 := by
      have := rk_le c
      split
      · rfl
      · rename_i z
        have := of_decide_eq_false (Bool.eq_false_iff.mpr z)
        omega
    rw [e] at i
    exact .some h.1.1 h.1.2 i
  | .all r c, h => by
    have i := lo_par (decide (c.rk < 2)) (tkC_lo (c := c) h.2)
    have e : (if decide (c.rk < 2) = true then 3 else c.rk + 1) = 3 := by
      have := rk_le c
      split
      · rfl
      · rename_i z
        have := of_decide_eq_false (Bool.eq_false_iff.mpr z)
        omega
    rw [e] at i
    exact .all h.1.1 h.1.2 i
theorem parN_le (b : Bool) (m : Nat) : parN b m ≤ m + 1 := by
  unfold parN
  split <;> omega
theorem neC_le : ∀ c : Con, neC c ≤ 2 * c.dp
  | .any => Nat.le_refl _
  | .nothing => Nat.le_refl _
  | .name _ => Nat.le_refl _
  | .not c => by
    have := neC_le c
    have := parN_le (decide (c.rk < 2)) (neC c)
    show parN _ (neC c) + 1 ≤ 2 * (c.dp + 1)
    omega
  | .both c d => by
    have := neC_le c
    have := neC_le d
    have := parN_le (decide (c.rk < 1)) (neC c)
    have := parN_le (decide (d.rk < 2)) (neC d)
    show max (parN _ (neC c)) (parN _ (neC d)) ≤ 2 * (max c.dp d.dp + 1)
    omega
  | .either c d => by
    have := neC_le c
    have := neC_le d
    have := parN_le (decide (c.rk < 0)) (neC c)
    have := parN_le (decide (d.rk < 1)) (neC d)
    show max (parN _ (neC c)) (parN _ (neC d)) ≤ 2 * (max c.dp d.dp + 1)
    omega
  | .some r c => by
    have := neC_le c
    have := parN_le (decide (c.rk < 2)) (neC c)
    show parN _ (neC c) + 1 ≤ 2 * (c.dp + 1)
    omega
  | .all r c => by
    have := neC_le c
    have := parN_le (decide (c.rk < 2)) (neC c)
    show parN _ (neC c) + 1 ≤ 2 * (c.dp + 1)
    omega
/-! and the blanks are where they must be -/
def Nx (g : List Nat) (rest : Ps) : Prop := g = [] → ∀ q t', rest = q :: t' → signB q.1 = true
theorem good_word {w g : List Nat} {rest : Ps} (hw : wordB w = true) (hg : GapP g) (hn : Nx g rest) (hr : GoodS rest) : GoodS ((w, g) :: rest) := ⟨.inl hw, hg, fun _ e => hn e, hr⟩
theorem good_sign {w g : List Nat} {rest : Ps} (hw : signB w = true) (hg : GapP g) (hr : GoodS rest) : GoodS ((w, g) :: rest) := ⟨.inr hw, hg, (fun (e : signB w = false) => by rw [hw] at e; cases e), hr⟩
theorem gap0 : GapP [] := gap_blank (by decide)
theorem gap1 : GapP [32] := gap_blank (by decide +kernel)
theorem nx1 {rest : Ps} : Nx [32] rest := fun e => nomatch e
theorem nxS {w g : List Nat} {rest : Ps} (hw : signB w = true) : Nx [] ((w, g) :: rest) := fun _ q t' e => by
  cases e
  exact hw
theorem good_parP {b : Bool} {f : List Nat → Ps} (h : ∀ (g : List Nat) (rest : Ps), GapP g → Nx g rest → GoodS rest → GoodS (f g ++ rest)) {g : List Nat} {rest : Ps} (hg : GapP g) (hn : Nx g rest) (hr : GoodS rest) : GoodS (parP b f g ++ rest) := by
  cases b with
  | false => exact h g rest hg hn hr
  | true =>
    show GoodS ((lit "(", []) :: ((f [] ++ [(lit ")", g)]) ++ rest))
    rw [List.append_assoc]
    exact good_sign (by decide +kernel) gap0 (h [] _ gap0 (nxS (by decide +kernel)) (good_sign (by decide +kernel) hg hr))
theorem good_rolP {r : Rol} (h : NmC r.1) {g : List Nat} {rest : Ps} (hg : GapP g) (hn : Nx g rest) (hr : GoodS rest) : GoodS (rolP r g ++ rest) := by
  obtain ⟨s, b⟩ := r
  cases b with
  | false => exact good_word (isNm_word h.1) hg hn hr
  | true => exact good_word (by decide +kernel) gap1 nx1 (good_word (isNm_word h.1) hg hn hr)
theorem good_canC : ∀ {c : Con}, CNm c → ∀ (g : List Nat) (rest : Ps), GapP g → Nx g rest → GoodS rest → GoodS (canC c g ++ rest)
  | .any, _, g, rest, hg, hn, hr => good_word (by decide +kernel) hg hn hr
  | .nothing, _, g, rest, hg, hn, hr => good_word (by decide +kernel) hg hn hr
  | .name s, h, g, rest, hg, hn, hr => good_word (isNm_word h.1) hg hn hr
  | .not c, h, g, rest, hg, hn, hr => good_word (by decide +kernel) gap1 nx1 (good_parP (good_canC (c := c) h) hg hn hr)
  | .both c d, h, g, rest, hg, hn, hr => by
    show GoodS ((parP _ (canC c) [32] ++ (lit "and", [32]) :: parP _ (canC d) g) ++ rest)
    rw [List.append_assoc]
    exact good_parP (good_canC (c := c) h.1) gap1 nx1 (good_word (by decide +kernel) gap1 nx1 (good_parP (good_canC (c := d) h.2) hg hn hr))
  | .either c d, h, g, rest, hg, hn, hr => by
    show GoodS ((parP _ (canC c) [32] ++ (lit "or", [32]) :: parP _ (canC d) g) ++ rest)
    rw [List.append_assoc]
    exact good_parP (good_canC (c := c) h.1) gap1 nx1 (good_word (by decide +kernel) gap1 nx1 (good_parP (good_canC (c := d) h.2) hg hn hr))
  | .some r c, h, g, rest, hg, hn, hr => by
    show GoodS ((lit "some", [32]) :: ((rolP r [32] ++ parP _ (canC c) g) ++ rest))
    rw [List.append_assoc]
    exact good_word (by decide +kernel) gap1 nx1 (good_rolP h.1 gap1 nx1 (good_parP (good_canC (c := c) h.2) hg hn hr))
  | .all r c, h, g, rest, hg, hn, hr => by
    show GoodS ((lit "all", [32]) :: ((rolP r [32] ++ parP _ (canC c) g) ++ rest))
    rw [List.append_assoc]
    exact good_word (by decide +kernel) gap1 nx1 (good_rolP h.1 gap1 nx1 (good_parP (good_canC (c := c) h.2) hg hn hr))
theorem con_nm {l r : List Nat} (f : FrameOk l r) : ∀ {c : Con}, c.Ok l r → CNm c
  | .any, _ => trivial
  | .nothing, _ => trivial
  | .name s, h => ⟨nm_ok f h (by decide +kernel), Nat.le_trans (nm_len f h) (by decide)⟩
  | .not c, h => con_nm f (c := c) h
  | .both c d, h => ⟨con_nm f (c := c) h.1, con_nm f (c := d) h.2⟩
  | .either c d, h => ⟨con_nm f (c := c) h.1, con_nm f (c := d) h.2⟩
  | .some r c, h => ⟨⟨nm_ok f h.1 (by decide +kernel), Nat.le_trans (nm_len f h.1) (by decide)⟩, con_nm f (c := c) h.2⟩
  | .all r c, h => ⟨⟨nm_ok f h.1 (by decide +kernel), Nat.le_trans (nm_len f h.1) (by decide)⟩, con_nm f (c := c) h.2⟩
section
variable {P : Program} {w : World} {K : PySem.W.Frag} {mg : Str → Option Value} {base : Heap}
/-! the word behind, and what statements are written as -/
def spBehind (K : PySem.W.Frag) (C : Addr) : Sp := fun vs H Q _ => ∃ (p : Addr) (t : Str) (ds : List PyData) (i : Nat) (k x : Str), vs = [.ref p] ∧ Cu K C H p t ds i ∧ wdAt ds (i + 1) k x ∧ Q (.str x) H
section
variable {C : Addr}
theorem c_cur_word_behind {f : Addr} {fd : FuncData} (F : Fun K "word_behind" "Cursor.word_behind" s_Cursor_word_behind f fd) (T_Cursor : CurC K mg C) (M : Meth K C "word_behind" f) (b : Binds K fd ["self"] []) : Mt P w K mg base 1 C "word_behind" f fd ["self"] (spBehind K C) := by
  refine ⟨F.ok sc_Cursor_word_behind (fun vs H Q E h => ?_) (fun cdv A outer s H vs Q E hr h => ?_), M, b⟩
  · obtain ⟨p, t, ds, i, k, x, rfl, _⟩ := h
    rfl
  obtain ⟨p, t, ds, i, k, x, rfl, hc, ⟨o, ho⟩, q⟩ := h
  obtain ⟨dx, tk, vs, h1, h2, h3⟩ := hc.ex
  refine ⟨_, (pss_one (ps_ret (pe_ix ix_tup (pe_ix ix_tup (pe_fld (pv 0) rfl) (pe_op op_add (pe_fld (pv 0) rfl) pe_int) (fun _ _ => rfl)) pe_int (fun _ _ => rfl)))), ?_⟩
  have hi : i + 1 < vs.length := by
    rw [dpAll_len h3]
    exact (List.getElem?_eq_some_iff.mp ho).1
  have hv := dpAll_at h3 (i + 1) _ _ (List.getElem?_eq_getElem hi) ho
  obtain ⟨a, xs, e, hs, hd⟩ := dp_tup hv
  obtain ⟨y, r, rfl, d1, hd⟩ := da_cons hd
  obtain ⟨z, r, rfl, d2, hd⟩ := da_cons hd
  cases dp_str d1
  cases dp_str d2
  exact ⟨_, rfl, p, C, dx, _, _, rfl, h1, T_Cursor.cl, T_Cursor.nK, cf_tokens, _, rfl, p, C, dx, _, _, rfl, h1, T_Cursor.cl, T_Cursor.nA, cf_at, _, _, rfl, rfl, tk, vs, _, _, rfl, rfl, h2, (atI_nat (j := i + 1) (List.getElem?_eq_getElem hi)).trans (congrArg some e), a, _, _, _, rfl, rfl, hs, atI_nat (j := 1) rfl, q⟩
theorem m_behind {p : Addr} {t : Str} {ds : List PyData} {i j : Nat} {σ : L2.St} {H : Hp} {R : VK} {k x : Str} (hσ : σ[j]? = some (some (.ref p))) (hc : Cu K C H p t ds i) (hw : wdAt ds (i + 1) k x) (q : R (.str x) H) : tMeth C "word_behind" (spBehind K C) [] E0 (tVar j) tNil σ H R := by
  obtain ⟨dx, tk, vs, h1, _, _⟩ := hc.ex
  exact ⟨_, hσ, p, dx, _, rfl, h1, cf_no (by decide +kernel) (by decide +kernel) (by decide +kernel), p, t, ds, i, k, x, rfl, hc, hw, q⟩
end
def LC (c : Con) (t : List (List Nat)) : Prop := ∃ k m, Lo c k m t ∧ m ≤ 8 ∧ c.dp ≤ 12
inductive LS : Stm → List (List Nat) → Prop
  | below {c d t t'} : LC c t → LC d t' → LS (.below c d) (t ++ lit "below" :: t')
  | equals {c d t t'} : LC c t → LC d t' → LS (.equals c d) (t ++ lit "equals" :: t')
  | apart {c d t t'} : LC c t → LC d t' → LS (.apart c d) (t ++ lit "," :: (t' ++ [lit "apart"]))
  | domain {r c t} : NmC r.1 → LC c t → LS (.domain r c) (lit "domain" :: (rolW r ++ t))
  | range {r c t} : NmC r.1 → LC c t → LS (.range r c) (lit "range" :: (rolW r ++ t))
  | under {r s} : NmC r.1 → NmC s.1 → LS (.under r s) (rolW r ++ lit "under" :: rolW s)
  | inverse {a b} : NmC a → NmC b → LS (.inverse a b) [a, lit "inverse", b]
  | is {a c t} : NmC a → LC c t → LS (.is a c) (a :: lit "is" :: t)
  | has {a b c} : NmC a → NmC b → NmC c → LS (.has a b c) [a, b, c]
inductive LQ : Stm → List (List Nat) → Prop
  | never : LQ .never [lit "never"]
  | below {c d t t'} : LC c t → LC d t' → LQ (.below c d) (t ++ lit "below" :: t')
  | is {a c t} : NmC a → LC c t → LQ (.is a c) (a :: lit "is" :: t)
  | has {a b c} : NmC a → NmC b → NmC c → LQ (.has a b c) [a, b, c]
/-- the words that a concept can begin with -/
def begs : List String := ["anything", "nothing", "not", "some", "all", "("]
theorem Lo.first {c : Con} {k m : Nat} {t : List (List Nat)} (h : Lo c k m t) : ∃ x r, t = x :: r ∧ ((∃ s ∈ begs, x = lit s) ∨ (isNm x = true ∧ x.length ≤ 1000 ∧ (r = [] ∨ ∃ y r', r = y :: r' ∧ (y = lit "and" ∨ y = lit "or")))) := by
  induction h with
  | any => exact ⟨_, _, rfl, .inl ⟨_, by decide, rfl⟩⟩
  | nothing => exact ⟨_, _, rfl, .inl ⟨_, by decide, rfl⟩⟩
  | name a b => exact ⟨_, _, rfl, .inr ⟨a, b, .inl rfl⟩⟩
  | not a => exact ⟨_, _, rfl, .inl ⟨_, by decide, rfl⟩⟩
  | some a b c => exact ⟨_, _, rfl, .inl ⟨"some", by decide, rfl⟩⟩
  | all a b c => exact ⟨_, _, rfl, .inl ⟨"all", by decide, rfl⟩⟩
  | par a => exact ⟨_, _, rfl, .inl ⟨"(", by decide, rfl⟩⟩
  | both a _ b _ iha _ =>
    obtain ⟨x, r, rfl, h1 | ⟨h1, h2, h3⟩⟩ := iha
    · exact ⟨x, _, rfl, .inl h1⟩
    · refine ⟨x, _, rfl, .inr ⟨h1, h2, .inr ?_⟩⟩
      rcases h3 with rfl | ⟨y, r', rfl, hy⟩
      · exact ⟨_, _, rfl, .inl rfl⟩
      · exact ⟨_, _, rfl, hy⟩
  | either a _ b _ iha _ =>
    obtain ⟨x, r, rfl, h1 | ⟨h1, h2, h3⟩⟩ := iha
    · exact ⟨x, _, rfl, .inl h1⟩
    · refine ⟨x, _, rfl, .inr ⟨h1, h2, .inr ?_⟩⟩
      rcases h3 with rfl | ⟨y, r', rfl, hy⟩
      · exact ⟨_, _, rfl, .inr rfl⟩
      · exact ⟨_, _, rfl, hy⟩
theorem begs_no : ∀ s ∈ begs, isNm (lit s) = false ∧ decide (T (lit s) = Str.ofString "domain") = false ∧ decide (T (lit s) = Str.ofString "range") = false ∧ decide (T (lit s) = Str.ofString "inverse") = false ∧ decide (T (lit s) = Str.ofString "never") = false ∧ (lit s).length ≤ 1000 := by decide +kernel
/-- a concept's first word, and the word behind it -/
theorem LC.first {c : Con} {t : List (List Nat)} (h : LC c t) : ∃ x r, t = x :: r ∧ x.length ≤ 1000 ∧ decide (T x = Str.ofString "domain") = false ∧ decide (T x = Str.ofString "range") = false ∧ decide (T x = Str.ofString "inverse") = false ∧ decide (T x = Str.ofString "never") = false ∧ (isNm x = true → r = [] ∨ ∃ y r', r = y :: r' ∧ (y = lit "and" ∨ y = lit "or")) := by
  obtain ⟨k, m, hl, _⟩ := h
  obtain ⟨x, r, rfl, ⟨s, hs, rfl⟩ | ⟨h1, h2, h3⟩⟩ := hl.first
  · obtain ⟨n, a, b, c, d, e⟩ := begs_no s hs
    exact ⟨_, _, rfl, e, a, b, c, d, fun z => by rw [n] at z; cases z⟩
  · exact ⟨_, _, rfl, h2, nm_ne h1 (by decide +kernel), nm_ne h1 (by decide +kernel), nm_ne h1 (by decide +kernel), nm_ne h1 (by decide +kernel), fun _ => h3⟩
abbrev FoS : Str → Prop := fun x => x = Str.ofString "" ∨ x = Str.ofString ";"
theorem fos_foa {x : Str} (h : FoS x) : FoA x := by
  rcases h with rfl | rfl
  · exact ⟨by decide +kernel, by decide +kernel⟩
  · exact ⟨by decide +kernel, by decide +kernel⟩
theorem fol_imp {A B : Str → Prop} {ds : List PyData} {i : Nat} (h : ∀ x, A x → B x) (f : fol A ds i) : fol B ds i := by
  obtain ⟨k, x, h1, h2⟩ := f
  exact ⟨k, x, h1, h x h2⟩
theorem LC.g {c : Con} {t : List (List Nat)} (h : LC c t) : GCon c.D t := by
  obtain ⟨k, m, h1, h2, h3⟩ := h
  exact ⟨c, m, rfl, h1.a, h2, h3⟩
def GFact : PyData → List (List Nat) → Prop := fun D ts => (∃ a c t, D = (Stm.is a c).D ∧ ts = a :: lit "is" :: t ∧ NmC a ∧ LC c t) ∨ (∃ a b c, D = (Stm.has a b c).D ∧ ts = [a, b, c] ∧ NmC a ∧ NmC b ∧ NmC c)
def GCmp : PyData → List (List Nat) → Prop := fun D ts => ∃ c d t t', LC c t ∧ LC d t' ∧ ((D = (Stm.below c d).D ∧ ts = t ++ lit "below" :: t') ∨ (D = (Stm.equals c d).D ∧ ts = t ++ lit "equals" :: t') ∨ (D = (Stm.apart c d).D ∧ ts = t ++ lit "," :: (t' ++ [lit "apart"])))
def spNB (K : PySem.W.Frag) (C : Addr) : Sp := fun vs H Q _ => ∃ (p : Addr) (t : Str) (ds : List PyData) (i : Nat) (k k' : Str) (x : List Nat) (z y : Str), vs = [.ref p, .str y] ∧ Cu K C H p t ds i ∧ wdAt ds i k (T x) ∧ x.length ≤ 100000 ∧ wdAt ds (i + 1) k' z ∧ Q (.bl (isNm x && decide (V.str z = V.str y))) H
def spBF (K : PySem.W.Frag) (C : Addr) : Sp := fun vs H Q _ => ∃ (p : Addr) (t : Str) (ds : List PyData) (i : Nat) (k k' : Str) (x z : List Nat), vs = [.ref p] ∧ Cu K C H p t ds i ∧ wdAt ds i k (T x) ∧ x.length ≤ 100000 ∧ (isNm x = true → z.length ≤ 100000) ∧ wdAt ds (i + 1) k' (T z) ∧ Q (.bl (isNm x && (decide (V.str (T z) = V.str (Str.ofString "is")) || isNm z))) H
section
variable {C : Addr} {fw fs fe ft fv : Addr} {fdw fds fde fdt fdv : FuncData}
theorem con_call {G : PyData → List (List Nat) → Prop} {Fo : Str → Prop} {p : Addr} {t : Str} {ds : List PyData} {i j : Nat} {σ : L2.St} {H : Hp} {R : VK} {D : PyData} {ts : List (List Nat)} (hσ : σ[j]? = some (some (.ref p))) (hc : Cu K C H p t ds i) (hg : G D ts) (hw : wds ds i ts) (hf : fol Fo ds (i + ts.length))
    (q : ∀ v H', SameX p H H' → Cu K C H' p t ds (i + ts.length) → Dp K H' v D → R v H') : tCall (spFm K C G Fo) [] E0 (tCons (tVar j) tNil) σ H R := ⟨_, hσ, p, t, ds, i, D, ts, rfl, hc, hg, hw, hf, q⟩
theorem rol_call {p : Addr} {t : Str} {ds : List PyData} {i j : Nat} {σ : L2.St} {H : Hp} {R : VK} {r : Rol} (hσ : σ[j]? = some (some (.ref p))) (hc : Cu K C H p t ds i) (hn : NmC r.1) (hw : wds ds i (rolW r)) (q : ∀ v H', SameX p H H' → Cu K C H' p t ds (i + (rolW r).length) → Dp K H' v (rolD r) → R v H') : tCall (spRoleP K C) [] E0 (tCons (tVar j) tNil) σ H R :=
  ⟨_, hσ, p, t, ds, i, r, rfl, hc, hn.1, hn.2, hw, q⟩
theorem c_is_name_before {f : Addr} {fd : FuncData} (D : Df K mg "_is_name_before" s_is_name_before f fd ["cursor", "word"]) (T_Cursor : CurC K mg C) (c_is_name : Cl P w K mg base 2 "is_name" spIsName) (c_Cursor_word : Mt P w K mg base 1 C "word" fw fdw ["self"] (spWord K C)) (c_Cursor_word_behind : Mt P w K mg base 1 C "word_behind" fv fdv ["self"] (spBehind K C)) : Cl P w K mg base 3 "_is_name_before" (spNB K C) := by
  refine D.cl sc_is_name_before (fun vs H Q E h => ?_) (fun cdv A outer s H vs Q E hr h => ?_)
  · obtain ⟨p, t, ds, i, k, k', x, z, y, rfl, _⟩ := h
    rfl
  obtain ⟨p, t, ds, i, k, k', x, z, y, rfl, hc, hw, hx, hw2, q⟩ := h
  refine ⟨_, (pss_one (ps_ret (pe_and (pc c_is_name hr (by first | decide | omega) (by rfl) (pa_cons (pe_meth0 (pv 0) T_Cursor.cl c_Cursor_word.M c_Cursor_word.F (hr.mono (by first | decide | omega)) c_Cursor_word.b .nil pass0) pa_nil)) (pe_one (pe_cmpR op_eq (pe_meth0 (pv 0) T_Cursor.cl c_Cursor_word_behind.M c_Cursor_word_behind.F (hr.mono (by first | decide | omega)) c_Cursor_word_behind.b .nil pass0) (pv 1) (nomark _)))))), ?_⟩
  refine m_word rfl hc hw ⟨x, rfl, hx, ?_⟩
  cases hn : isNm x with
  | false =>
    rw [hn] at q
    exact ⟨_, rfl, iteF q⟩
  | true =>
    rw [hn] at q
    exact ⟨_, rfl, iteT (m_behind rfl hc hw2 ⟨_, rfl, rfl, q⟩)⟩
theorem c_begins_fact {f : Addr} {fd : FuncData} (D : Df K mg "_begins_fact" s_begins_fact f fd ["cursor"]) (T_Cursor : CurC K mg C) (c_is_name : Cl P w K mg base 2 "is_name" spIsName) (c_Cursor_word : Mt P w K mg base 1 C "word" fw fdw ["self"] (spWord K C)) (c_Cursor_word_behind : Mt P w K mg base 1 C "word_behind" fv fdv ["self"] (spBehind K C)) : Cl P w K mg base 3 "_begins_fact" (spBF K C) := by
  refine D.cl sc_begins_fact (fun vs H Q E h => ?_) (fun cdv A outer s H vs Q E hr h => ?_)
  · obtain ⟨p, t, ds, i, k, k', x, z, rfl, _⟩ := h
    rfl
  obtain ⟨p, t, ds, i, k, k', x, z, rfl, hc, hw, hx, hz, hw2, q⟩ := h
  refine ⟨_, (pss_cons (ps_if (pt_not (pt_val (pc c_is_name hr (by first | decide | omega) (by rfl) (pa_cons (pe_meth0 (pv 0) T_Cursor.cl c_Cursor_word.M c_Cursor_word.F (hr.mono (by first | decide | omega)) c_Cursor_word.b .nil pass0) pa_nil)))) (pss_one (ps_ret pe_bl)) pss_nil)
      (pss_cons (ps_set (i := 1) sc_begins_fact.nd rfl (.inl rfl) (pe_meth0 (pv 0) T_Cursor.cl c_Cursor_word_behind.M c_Cursor_word_behind.F (hr.mono (by first | decide | omega)) c_Cursor_word_behind.b .nil pass0))
      (pss_one (ps_ret (pe_or (pe_cmpR op_eq (pv 1) pe_str (nomark _)) (pe_one (pc c_is_name hr (by first | decide | omega) (by rfl) (pa_cons (pv 1) pa_nil)))))))), ?_⟩
  refine m_word rfl hc hw ⟨x, rfl, hx, ?_⟩
  cases hn : isNm x with
  | false =>
    rw [hn] at q
    exact ⟨_, rfl, iteT q⟩
  | true =>
    rw [hn] at q
    refine ⟨_, rfl, iteF (m_behind rfl hc hw2 ⟨_, rfl, rfl, _, rfl, ?_⟩)⟩
    cases h2 : decide (V.str (T z) = V.str (Str.ofString "is")) with
    | true =>
      rw [h2] at q
      exact iteT q
    | false =>
      rw [h2] at q
      exact iteF ⟨_, rfl, z, rfl, hz hn, q⟩
theorem c_fact {k : Nat} (hk : 3 ≤ k) {f : Addr} {fd : FuncData} (D : Df K mg "_fact" s_fact f fd ["cursor"]) (T_Cursor : CurC K mg C) (c_concept : Cl P w K mg base k "concept" (spFm K C GCon FoA)) (c_Cursor_word : Mt P w K mg base 1 C "word" fw fdw ["self"] (spWord K C)) (c_Cursor_step : Mt P w K mg base 1 C "step" fs fds ["self"] (spStep K C)) (c_Cursor_take_name : Mt P w K mg base 3 C "take_name" ft fdt ["self"] (spTakeName K C)) : Cl P w K mg base (k + 1) "_fact" (spFm K C GFact FoA) := by
  refine D.cl sc_fact (fun vs H Q E h => ?_) (fun cdv A outer s H vs Q E hr h => ?_)
  · obtain ⟨p, t, ds, i, D, ts, rfl, _⟩ := h
    rfl
  obtain ⟨p, t, ds, i, D, ts, rfl, hc, hg, hw, hf, q⟩ := h
  refine ⟨_, (pss_cons (ps_set (i := 1) sc_fact.nd rfl (.inl rfl) (pe_meth0 (pv 0) T_Cursor.cl c_Cursor_take_name.M c_Cursor_take_name.F (hr.mono (by first | decide | omega)) c_Cursor_take_name.b .nil pass0))
      (pss_cons (ps_if (pt_cmpR op_eq (pe_meth0 (pv 0) T_Cursor.cl c_Cursor_word.M c_Cursor_word.F (hr.mono (by first | decide | omega)) c_Cursor_word.b .nil pass0) pe_str (nomark _)) (pss_cons (ps_expr (pe_meth0 (pv 0) T_Cursor.cl c_Cursor_step.M c_Cursor_step.F (hr.mono (by first | decide | omega)) c_Cursor_step.b .nil pass0))
      (pss_one (ps_ret (pe_tup (pa_cons pe_str (pa_cons (pv 1) (pa_cons (pc c_concept hr (by first | decide | omega) (by rfl) (pa_cons (pv 0) pa_nil)) pa_nil))))))) pss_nil)
      (pss_cons (ps_set (i := 2) sc_fact.nd rfl (.inl rfl) (pe_meth0 (pv 0) T_Cursor.cl c_Cursor_take_name.M c_Cursor_take_name.F (hr.mono (by first | decide | omega)) c_Cursor_take_name.b .nil pass0))
      (pss_one (ps_ret (pe_tup (pa_cons pe_str (pa_cons (pv 1) (pa_cons (pv 2) (pa_cons (pe_meth0 (pv 0) T_Cursor.cl c_Cursor_take_name.M c_Cursor_take_name.F (hr.mono (by first | decide | omega)) c_Cursor_take_name.b .nil pass0) pa_nil)))))))))), ?_⟩
  rcases hg with ⟨a, c, t', rfl, rfl, ha, hlc⟩ | ⟨a, b, c, rfl, rfl, ha, hb, hcc⟩
  · obtain ⟨k1, w1⟩ := wds_head hw
    have wt := wds_tail hw
    obtain ⟨k2, w2⟩ := wds_head wt
    have wtt := wds_tail wt
    have hlen : i + (a :: lit "is" :: t').length = i + 1 + 1 + t'.length := by
      rw [List.length_cons, List.length_cons]
      omega
    rw [hlen] at hf q
    refine m_take_name rfl hc w1 (Nat.le_trans ha.2 (by decide)) ha.1 fun H1 e1 c1 => ?_
    refine m_word rfl c1 w2 ⟨rfl, _, rfl, ?_⟩
    rw [decide_eq_true (show V.str (T (lit "is")) = V.str (Str.ofString "is") by rw [← lit_T])]
    refine iteT (m_step rfl c1 fun H2 e2 c2 => ?_)
    refine ⟨_, rfl, con_call rfl c2 hlc.g wtt hf fun v H3 e3 c3 d3 => ⟨by show 3 ≤ sizeLine; decide, fun u hu => ?_⟩⟩
    exact q _ _ (((e1.trans e2).trans e3).trans (SameX.new _ hu)) (c3.same (Same.new _ hu)) (.tup (.of upd_same) (.cons (.str _) (.cons (.str _) (.cons (Dp.same (Same.new _ hu) d3) .nil))))
  · obtain ⟨k1, w1⟩ := wds_head hw
    obtain ⟨k2, w2⟩ := wds_head (wds_tail hw)
    obtain ⟨k3, w3⟩ := wds_head (wds_tail (wds_tail hw))
    refine m_take_name rfl hc w1 (Nat.le_trans ha.2 (by decide)) ha.1 fun H1 e1 c1 => ?_
    refine m_word rfl c1 w2 ⟨rfl, _, rfl, ?_⟩
    rw [decide_eq_false (fun z => of_decide_eq_false (nm_ne hb.1 (x := "is") (by decide +kernel)) (V.str.inj z))]
    refine iteF (m_take_name rfl c1 w2 (Nat.le_trans hb.2 (by decide)) hb.1 fun H2 e2 c2 => ?_)
    refine ⟨_, rfl, _, rfl, m_take_name rfl c2 w3 (Nat.le_trans hcc.2 (by decide)) hcc.1 fun H3 e3 c3 => ⟨by show 4 ≤ sizeLine; decide, fun u hu => ?_⟩⟩
    exact q _ _ (((e1.trans e2).trans e3).trans (SameX.new _ hu)) (c3.same (Same.new _ hu)) (.tup (.of upd_same) (.cons (.str _) (.cons (.str _) (.cons (.str _) (.cons (.str _) .nil)))))
theorem if_notin3 {σ : L2.St} {H : Hp} {i : Nat} {s t t' t'' : Str} {tt u : TS} {D : Ends} (h : σ[i]? = some (some (.str s))) (hd : decide (s ∈ [t, t', t'']) = true) (q : ∀ p, H p = none → u D σ (upd H p (.tup [.str t, .str t', .str t'']))) :
    tIfS (tTest (tOp (rIn K true) (tVar i) (tTup (tCons (tC (.str t)) (tCons (tC (.str t')) (tCons (tC (.str t'')) tNil)))))) tt u D σ H := by
  refine ⟨_, h, by show 3 ≤ sizeLine; decide, fun p hp => ⟨p, _, rfl, .inr (SqT.of upd_same), rfl, rfl, false, ?_, iteF (q p hp)⟩⟩
  show V.bl (!(inV (.str s) [.str t, .str t', .str t''])) = .bl false
  rw [show [V.str t, V.str t', V.str t''] = [t, t', t''].map V.str from rfl, inV_strs, hd]
  rfl
theorem c_comparison {k : Nat} (hk : 3 ≤ k) {f : Addr} {fd : FuncData} (D : Df K mg "_comparison" s_comparison f fd ["cursor"]) (T_Cursor : CurC K mg C) (c_concept : Cl P w K mg base k "concept" (spFm K C GCon FoA)) (c_Cursor_word : Mt P w K mg base 1 C "word" fw fdw ["self"] (spWord K C)) (c_Cursor_step : Mt P w K mg base 1 C "step" fs fds ["self"] (spStep K C)) (c_Cursor_expect : Mt P w K mg base 2 C "expect" fe fde ["self", "word"] (spExpect K C)) : Cl P w K mg base (k + 1) "_comparison" (spFm K C GCmp FoA) := by
  refine D.cl sc_comparison (fun vs H Q E h => ?_) (fun cdv A outer s H vs Q E hr h => ?_)
  · obtain ⟨p, t, ds, i, D, ts, rfl, _⟩ := h
    rfl
  obtain ⟨p, t, ds, i, D, ts, rfl, hc, ⟨c, d, t1, t2, h1, h2, hg⟩, hw, hf, q⟩ := h
  refine ⟨_, (pss_cons (ps_set (i := 1) sc_comparison.nd rfl (.inl rfl) (pc c_concept hr (by first | decide | omega) (by rfl) (pa_cons (pv 0) pa_nil)))
      (pss_cons (ps_set (i := 2) sc_comparison.nd rfl (.inl rfl) (pe_meth0 (pv 0) T_Cursor.cl c_Cursor_word.M c_Cursor_word.F (hr.mono (by first | decide | omega)) c_Cursor_word.b .nil pass0))
      (pss_cons (ps_if (pt_cmpR op_notIn_seq (pv 2) (pe_tup (pa_cons pe_str (pa_cons pe_str (pa_cons pe_str pa_nil)))) rfl) pss_never pss_nil)
      (pss_cons (ps_expr (pe_meth0 (pv 0) T_Cursor.cl c_Cursor_step.M c_Cursor_step.F (hr.mono (by first | decide | omega)) c_Cursor_step.b .nil pass0))
      (pss_cons (ps_set (i := 3) sc_comparison.nd rfl (.inl rfl) (pc c_concept hr (by first | decide | omega) (by rfl) (pa_cons (pv 0) pa_nil)))
      (pss_cons (ps_if (pt_cmpR op_eq (pv 2) pe_str (nomark _)) (pss_cons (ps_expr (pe_meth (pv 0) T_Cursor.cl c_Cursor_expect.M c_Cursor_expect.F (hr.mono (by first | decide | omega)) c_Cursor_expect.b .nil pass0 (pa_cons pe_str pa_nil)))
      (pss_one (ps_ret (pe_tup (pa_cons pe_str (pa_cons (pv 1) (pa_cons (pv 3) pa_nil))))))) pss_nil)
      (pss_one (ps_ret (pe_tup (pa_cons (pv 2) (pa_cons (pv 1) (pa_cons (pv 3) pa_nil)))))))))))), ?_⟩
  obtain ⟨wd, r, rfl, hwd, hr2⟩ : ∃ wd r, ts = t1 ++ lit wd :: r ∧ wd ∈ ["below", "equals", ","] ∧ r = t2 ++ (if wd = "," then [lit "apart"] else []) := by
    rcases hg with ⟨_, rfl⟩ | ⟨_, rfl⟩ | ⟨_, rfl⟩
    · exact ⟨"below", _, rfl, by decide, by simp⟩
    · exact ⟨"equals", _, rfl, by decide, by simp⟩
    · exact ⟨",", _, rfl, by decide, by simp⟩
  have w1 := wds_left hw
  have w2 := wds_right hw
  obtain ⟨k2, x2⟩ := wds_head w2
  have w3 := wds_tail w2
  have fw : ∀ s ∈ ["below", "equals", ","], FoA (T (lit s)) ∧ decide (T (lit s) ∈ [Str.ofString "below", Str.ofString "equals", Str.ofString ","]) = true ∧ decide (T (lit s) = Str.ofString ",") = decide (s = ",") := by decide +kernel
  obtain ⟨f1, f2, f3⟩ := fw wd hwd
  refine con_call rfl hc h1.g w1 ⟨k2, _, x2, f1⟩ fun v1 H1 e1 c1 d1 => ?_
  refine m_word rfl c1 x2 (if_notin3 rfl f2 fun u0 hu0 => ?_)
  refine m_step rfl (c1.same (Same.new _ hu0)) fun H2 e2 c2 => ?_
  have d2 := (c1.same (Same.new _ hu0)).mv e2 (Con.tn c) (Dp.same (Same.new (.tup [.str (Str.ofString "below"), .str (Str.ofString "equals"), .str (Str.ofString ",")]) hu0) d1)
  have E2 := (e1.trans (SameX.new (.tup [.str (Str.ofString "below"), .str (Str.ofString "equals"), .str (Str.ofString ",")]) hu0)).trans e2
  by_cases hcm : wd = ","
  · subst hcm
    rw [if_pos rfl] at hr2
    subst hr2
    obtain ⟨k4, x4⟩ := wds_head (wds_right w3)
    have hD : D = (Stm.apart c d).D := by
      rcases hg with ⟨_, h⟩ | ⟨_, h⟩ | ⟨h, _⟩
      · have := (List.append_inj h rfl).2
        exact absurd (List.cons.inj this).1 (by decide +kernel)
      · have := (List.append_inj h rfl).2
        exact absurd (List.cons.inj this).1 (by decide +kernel)
      · exact h
    subst hD
    refine con_call rfl c2 h2.g (wds_left w3) ⟨k4, _, x4, by decide +kernel, by decide +kernel⟩ fun v3 H3 e3 c3 d3 => ?_
    refine if_eqT rfl (by decide +kernel) ?_
    rw [← lit_T] at x4
    refine m_expect rfl c3 x4 fun H4 e4 c4 => ?_
    refine ⟨_, rfl, _, rfl, by show 3 ≤ sizeLine; decide, fun u hu => ?_⟩
    have hlen : i + (t1 ++ lit "," :: (t2 ++ [lit "apart"])).length = i + t1.length + 1 + t2.length + 1 := by
      rw [List.length_append, List.length_cons, List.length_append]
      show i + (t1.length + (t2.length + 1 + 1)) = _
      omega
    rw [hlen] at q
    exact q _ _ (((E2.trans e3).trans e4).trans (SameX.new _ hu)) (c4.same (Same.new _ hu)) (.tup (.of upd_same) (.cons (.str _) (.cons (Dp.same (Same.new _ hu) (c2.mv (e3.trans e4) (Con.tn c) d2)) (.cons (Dp.same (Same.new _ hu) (c3.mv e4 (Con.tn d) d3)) .nil))))
  · rw [if_neg hcm, List.append_nil] at hr2
    subst hr2
    have hlen : i + (t1 ++ lit wd :: r).length = i + t1.length + 1 + r.length := by
      rw [List.length_append, List.length_cons]
      omega
    rw [hlen] at hf q
    refine con_call rfl c2 h2.g w3 hf fun v3 H3 e3 c3 d3 => ?_
    refine if_eqF rfl (by rw [f3, decide_eq_false hcm]) ?_
    refine ⟨_, rfl, _, rfl, _, rfl, by show 3 ≤ sizeLine; decide, fun u hu => ?_⟩
    have hD : D = .tuple [.str (T (lit wd)), c.D, d.D] := by
      rcases hg with ⟨h, h'⟩ | ⟨h, h'⟩ | ⟨_, h'⟩
      · have := (List.cons.inj (List.append_inj h' rfl).2).1
        rw [h, this, ← lit_T]
        rfl
      · have := (List.cons.inj (List.append_inj h' rfl).2).1
        rw [h, this, ← lit_T]
        rfl
      · have e := (List.cons.inj (List.append_inj h' rfl).2).1
        have : decide (T (lit wd) = Str.ofString ",") = true := by
          rw [e]
          decide +kernel
        rw [f3] at this
        exact absurd (of_decide_eq_true this) hcm
    subst hD
    exact q _ _ ((E2.trans e3).trans (SameX.new _ hu)) (c3.same (Same.new _ hu)) (.tup (.of upd_same) (.cons (.str _) (.cons (Dp.same (Same.new _ hu) (c2.mv e3 (Con.tn c) d2)) (.cons (Dp.same (Same.new _ hu) d3) .nil))))
end
def GStm : PyData → List (List Nat) → Prop := fun D ts => ∃ s, D = Stm.D s ∧ LS s ts
def GQst : PyData → List (List Nat) → Prop := fun D ts => ∃ s, D = Stm.D s ∧ LQ s ts
theorem nameNb {x : List Nat} {z y : Str} (h : decide (z = y) = false) : (isNm x && decide (V.str z = V.str y)) = false := by
  rw [decide_eq_false (fun e => of_decide_eq_false h (V.str.inj e)), Bool.and_false]
theorem inv_ne {s : Str} {y : Str} (h : decide (s = y) = false) : decide (V.str s = V.str y) = false := decide_eq_false fun e => of_decide_eq_false h (V.str.inj e)
/-- the word behind a first word that is no name, or a name before a word that begins no fact -/
theorem cmp_second {c : Con} {t1 : List (List Nat)} (h : LC c t1) {ds : List PyData} {i : Nat} {y : List Nat} {ky : Str} (hw : wds ds i t1) (hy : wdAt ds (i + t1.length) ky (T y)) (hy1 : isNm y = false) (hy2 : y.length ≤ 100000) (hy3 : decide (T y = Str.ofString "under") = false) (hy4 : decide (T y = Str.ofString "inverse") = false) (hy5 : decide (T y = Str.ofString "is") = false) :
    ∃ x k1 k2 z, wdAt ds i k1 (T x) ∧ wdAt ds (i + 1) k2 (T z) ∧ x.length ≤ 100000 ∧ (isNm x = true → z.length ≤ 100000) ∧ (decide (T x = Str.ofString "domain") || decide (T x = Str.ofString "range")) = false ∧ decide (T x = Str.ofString "inverse") = false ∧ decide (T x = Str.ofString "never") = false ∧ (isNm x && decide (V.str (T z) = V.str (Str.ofString "under"))) = false ∧ (isNm x && decide (V.str (T z) = V.str (Str.ofString "inverse"))) = false ∧
      (isNm x && (decide (V.str (T z) = V.str (Str.ofString "is")) || isNm z)) = false := by
  obtain ⟨x, r, rfl, xl, x1, x2, x3, x4, x5⟩ := h.first
  obtain ⟨k1, w1⟩ := wds_head hw
  have X12 : (decide (T x = Str.ofString "domain") || decide (T x = Str.ofString "range")) = false := by rw [x1, x2]; rfl
  cases r with
  | nil =>
    refine ⟨x, k1, ky, y, w1, hy, Nat.le_trans xl (by decide), fun _ => hy2, X12, x3, x4, nameNb hy3, nameNb hy4, ?_⟩
    rw [inv_ne hy5, hy1, Bool.or_false, Bool.and_false]
  | cons z r' =>
    obtain ⟨k2, w2⟩ := wds_head (wds_tail hw)
    cases hn : isNm x with
    | false => exact ⟨x, k1, k2, z, w1, w2, Nat.le_trans xl (by decide), (fun e => by rw [hn] at e; cases e), X12, x3, x4, by rw [hn]; rfl, by rw [hn]; rfl, by rw [hn]; rfl⟩
    | true =>
      rcases x5 hn with h | ⟨y', r2, h, hy'⟩
      · cases h
      · cases h
        rcases hy' with rfl | rfl
        · exact ⟨x, k1, k2, _, w1, w2, Nat.le_trans xl (by decide), (fun _ => by decide +kernel), X12, x3, x4, nameNb (by decide +kernel), nameNb (by decide +kernel), by rw [inv_ne (show decide (T (lit "and") = Str.ofString "is") = false by decide +kernel), show isNm (lit "and") = false by decide +kernel, Bool.or_false, Bool.and_false]⟩
        · exact ⟨x, k1, k2, _, w1, w2, Nat.le_trans xl (by decide), (fun _ => by decide +kernel), X12, x3, x4, nameNb (by decide +kernel), nameNb (by decide +kernel), by rw [inv_ne (show decide (T (lit "or") = Str.ofString "is") = false by decide +kernel), show isNm (lit "or") = false by decide +kernel, Bool.or_false, Bool.and_false]⟩
theorem trt {te : TE} {D : Ends} {σ : L2.St} {H : Hp} (h : te σ H D.rt) : tRet te D σ H := h
section
variable {C : Addr} {fw fs fe ft fv : Addr} {fdw fds fde fdt fdv : FuncData}
theorem if_orL {ta tb : TT} {b1 b2 : Bool} {tt u : TS} {D : Ends} {σ : L2.St} {H : Hp} (h1 : ∀ R : Bool → Hp → Prop, R b1 H → ta σ H R) (h2 : b1 = false → ∀ R : Bool → Hp → Prop, R b2 H → tb σ H R) (qT : (b1 || b2) = true → tt D σ H) (qF : (b1 || b2) = false → u D σ H) : tIfS (tOr ta tb) tt u D σ H := by
  refine h1 _ ?_
  cases b1 with
  | true => exact iteT (iteT (qT rfl))
  | false =>
    refine iteF (h2 rfl _ ?_)
    cases b2 with
    | true => exact iteT (qT rfl)
    | false => exact iteF (qF rfl)
theorem nb_call {p : Addr} {t : Str} {ds : List PyData} {i j : Nat} {σ : L2.St} {H : Hp} {R : Bool → Hp → Prop} {k k' : Str} {x : List Nat} {z y : Str} (hσ : σ[j]? = some (some (.ref p))) (hc : Cu K C H p t ds i) (hw : wdAt ds i k (T x)) (hx : x.length ≤ 100000) (hw2 : wdAt ds (i + 1) k' z) (q : R (isNm x && decide (V.str z = V.str y)) H) :
    tB (tCall (spNB K C) [] E0 (tCons (tVar j) (tCons (tC (.str y)) tNil))) σ H R := ⟨_, hσ, p, t, ds, i, k, k', x, z, y, rfl, hc, hw, hx, hw2, _, rfl, q⟩
theorem bf_call {p : Addr} {t : Str} {ds : List PyData} {i j : Nat} {σ : L2.St} {H : Hp} {R : Bool → Hp → Prop} {k k' : Str} {x z : List Nat} (hσ : σ[j]? = some (some (.ref p))) (hc : Cu K C H p t ds i) (hw : wdAt ds i k (T x)) (hx : x.length ≤ 100000) (hz : isNm x = true → z.length ≤ 100000) (hw2 : wdAt ds (i + 1) k' (T z)) (q : R (isNm x && (decide (V.str (T z) = V.str (Str.ofString "is")) || isNm z)) H) :
    tB (tCall (spBF K C) [] E0 (tCons (tVar j) tNil)) σ H R := ⟨_, hσ, p, t, ds, i, k, k', x, z, rfl, hc, hw, hx, hz, hw2, _, rfl, q⟩
theorem fx_statement {k : Nat} (hk : 5 ≤ k) {f : Addr} {fd : FuncData} (D : Df K mg "statement" s_statement f fd ["cursor"]) (T_Cursor : CurC K mg C) (c_concept : Cl P w K mg base k "concept" (spFm K C GCon FoA)) (c_roleP : Cl P w K mg base 4 "role" (spRoleP K C)) (c_fact : Cl P w K mg base k "_fact" (spFm K C GFact FoA)) (c_comparison : Cl P w K mg base k "_comparison" (spFm K C GCmp FoA))
    (c_is_name_before : Cl P w K mg base 3 "_is_name_before" (spNB K C)) (c_begins_fact : Cl P w K mg base 3 "_begins_fact" (spBF K C)) (c_Cursor_word : Mt P w K mg base 1 C "word" fw fdw ["self"] (spWord K C)) (c_Cursor_step : Mt P w K mg base 1 C "step" fs fds ["self"] (spStep K C)) (c_Cursor_expect : Mt P w K mg base 2 C "expect" fe fde ["self", "word"] (spExpect K C)) (c_Cursor_take_name : Mt P w K mg base 3 C "take_name" ft fdt ["self"] (spTakeName K C)) :
    Fx P w K mg base (k + 1) f fd ["cursor"] (spFm K C GStm FoS) := by
  refine D.fx sc_statement (fun vs H Q E h => ?_) (fun cdv A outer s H vs Q E hr h => ?_)
  · obtain ⟨p, t, ds, i, D, ts, rfl, _⟩ := h
    rfl
  obtain ⟨p, t, ds, i, _, ts, rfl, hc, ⟨s, rfl, hls⟩, hw, hf, q⟩ := h
  refine ⟨_, (pss_cons (ps_set (i := 1) sc_statement.nd rfl (.inl rfl) (pe_meth0 (pv 0) T_Cursor.cl c_Cursor_word.M c_Cursor_word.F (hr.mono (by first | decide | omega)) c_Cursor_word.b .nil pass0))
      (pss_cons (ps_if (pt_cmpR op_in_seq (pv 1) (pe_tup (pa_cons pe_str (pa_cons pe_str pa_nil))) rfl) (pss_cons (ps_expr (pe_meth0 (pv 0) T_Cursor.cl c_Cursor_step.M c_Cursor_step.F (hr.mono (by first | decide | omega)) c_Cursor_step.b .nil pass0))
      (pss_cons (ps_set (i := 2) sc_statement.nd rfl (.inl rfl) (pc c_roleP hr (by first | decide | omega) (by rfl) (pa_cons (pv 0) pa_nil)))
      (pss_one (ps_ret (pe_tup (pa_cons (pv 1) (pa_cons (pv 2) (pa_cons (pc c_concept hr (by first | decide | omega) (by rfl) (pa_cons (pv 0) pa_nil)) pa_nil)))))))) pss_nil)
      (pss_cons (ps_if (PW.pt (pw_or (pt_cmpR op_eq (pv 1) pe_str (nomark _)) (pw_or1 (pt_val (pc c_is_name_before hr (by first | decide | omega) (by rfl) (pa_cons (pv 0) (pa_cons pe_str pa_nil))))))) (pss_cons (ps_set (i := 3) sc_statement.nd rfl (.inl rfl) (pc c_roleP hr (by first | decide | omega) (by rfl) (pa_cons (pv 0) pa_nil)))
      (pss_cons (ps_expr (pe_meth (pv 0) T_Cursor.cl c_Cursor_expect.M c_Cursor_expect.F (hr.mono (by first | decide | omega)) c_Cursor_expect.b .nil pass0 (pa_cons pe_str pa_nil)))
      (pss_one (ps_ret (pe_tup (pa_cons pe_str (pa_cons (pv 3) (pa_cons (pc c_roleP hr (by first | decide | omega) (by rfl) (pa_cons (pv 0) pa_nil)) pa_nil)))))))) pss_nil)
      (pss_cons (ps_if (pt_val (pc c_is_name_before hr (by first | decide | omega) (by rfl) (pa_cons (pv 0) (pa_cons pe_str pa_nil)))) (pss_cons (ps_set (i := 4) sc_statement.nd rfl (.inl rfl) (pe_meth0 (pv 0) T_Cursor.cl c_Cursor_take_name.M c_Cursor_take_name.F (hr.mono (by first | decide | omega)) c_Cursor_take_name.b .nil pass0))
      (pss_cons (ps_expr (pe_meth0 (pv 0) T_Cursor.cl c_Cursor_step.M c_Cursor_step.F (hr.mono (by first | decide | omega)) c_Cursor_step.b .nil pass0))
      (pss_one (ps_ret (pe_tup (pa_cons pe_str (pa_cons (pv 4) (pa_cons (pe_meth0 (pv 0) T_Cursor.cl c_Cursor_take_name.M c_Cursor_take_name.F (hr.mono (by first | decide | omega)) c_Cursor_take_name.b .nil pass0) pa_nil)))))))) pss_nil)
      (pss_cons (ps_if (pt_val (pc c_begins_fact hr (by first | decide | omega) (by rfl) (pa_cons (pv 0) pa_nil))) (pss_one (ps_ret (pc c_fact hr (by first | decide | omega) (by rfl) (pa_cons (pv 0) pa_nil)))) pss_nil)
      (pss_one (ps_ret (pc c_comparison hr (by first | decide | omega) (by rfl) (pa_cons (pv 0) pa_nil))))))))), ?_⟩
  have strW : ∀ (x : String) (Hx : Hp), Dp K Hx (.str (T (lit x))) (.str (Str.ofString x)) := fun x Hx => by
    rw [← lit_T]
    exact .str _
  cases hls with
  | @domain r c t' hr' hlc =>
    obtain ⟨k1, w1⟩ := wds_head hw
    have wt := wds_tail hw
    have hlen : i + (lit "domain" :: (rolW r ++ t')).length = i + 1 + (rolW r).length + t'.length := by
      rw [List.length_cons, List.length_append]
      omega
    rw [hlen] at hf q
    refine m_word rfl hc w1 (if_in2T rfl (by decide +kernel) fun u0 hu0 => ?_)
    refine m_step rfl (hc.same (Same.new _ hu0)) fun H1 e1 c1 => ?_
    refine rol_call rfl c1 hr' (wds_left wt) fun v1 H2 e2 c2 d1 => ?_
    refine ⟨_, rfl, _, rfl, con_call rfl c2 hlc.g (wds_right wt) (fol_imp (fun _ => fos_foa) hf) fun v2 H3 e3 c3 d2 => ⟨by show 3 ≤ sizeLine; decide, fun u hu => ?_⟩⟩
    exact q _ _ (((((SameX.new _ hu0).trans e1).trans e2).trans e3).trans (SameX.new _ hu)) (c3.same (Same.new _ hu)) (.tup (.of upd_same) (.cons (strW _ _) (.cons (Dp.same (Same.new _ hu) (c2.mv e3 (rolN r) d1)) (.cons (Dp.same (Same.new _ hu) d2) .nil))))
  | @range r c t' hr' hlc =>
    obtain ⟨k1, w1⟩ := wds_head hw
    have wt := wds_tail hw
    have hlen : i + (lit "range" :: (rolW r ++ t')).length = i + 1 + (rolW r).length + t'.length := by
      rw [List.length_cons, List.length_append]
      omega
    rw [hlen] at hf q
    refine m_word rfl hc w1 (if_in2T rfl (by decide +kernel) fun u0 hu0 => ?_)
    refine m_step rfl (hc.same (Same.new _ hu0)) fun H1 e1 c1 => ?_
    refine rol_call rfl c1 hr' (wds_left wt) fun v1 H2 e2 c2 d1 => ?_
    refine ⟨_, rfl, _, rfl, con_call rfl c2 hlc.g (wds_right wt) (fol_imp (fun _ => fos_foa) hf) fun v2 H3 e3 c3 d2 => ⟨by show 3 ≤ sizeLine; decide, fun u hu => ?_⟩⟩
    exact q _ _ (((((SameX.new _ hu0).trans e1).trans e2).trans e3).trans (SameX.new _ hu)) (c3.same (Same.new _ hu)) (.tup (.of upd_same) (.cons (strW _ _) (.cons (Dp.same (Same.new _ hu) (c2.mv e3 (rolN r) d1)) (.cons (Dp.same (Same.new _ hu) d2) .nil))))
  | @under r r2 hr1 hr2 =>
    have wl := wds_left hw
    have wr := wds_right hw
    obtain ⟨k2, w2⟩ := wds_head wr
    have wr2 := wds_tail wr
    obtain ⟨x, k1, w1, x1, x2⟩ : ∃ x k1, wdAt ds i k1 (T x) ∧ (decide (T x = Str.ofString "domain") || decide (T x = Str.ofString "range")) = false ∧ (decide (V.str (T x) = V.str (Str.ofString "inverse")) = true ∨ (decide (V.str (T x) = V.str (Str.ofString "inverse")) = false ∧ isNm x = true ∧ x.length ≤ 1000 ∧ (rolW r).length = 1)) := by
      obtain ⟨s1, b⟩ := r
      cases b with
      | true =>
        obtain ⟨k1, w1⟩ := wds_head (x := lit "inverse") (ts := [s1]) wl
        exact ⟨_, k1, w1, by decide +kernel, .inl (decide_eq_true (by rw [← lit_T]))⟩
      | false =>
        obtain ⟨k1, w1⟩ := wds_head (x := s1) (ts := []) wl
        exact ⟨_, k1, w1, by rw [nm_ne hr1.1 (x := "domain") (by decide +kernel), nm_ne hr1.1 (x := "range") (by decide +kernel)]; rfl, .inr ⟨inv_ne (nm_ne hr1.1 (by decide +kernel)), hr1.1, hr1.2, rfl⟩⟩
    have hlen : i + (rolW r ++ lit "under" :: rolW r2).length = i + (rolW r).length + 1 + (rolW r2).length := by
      rw [List.length_append, List.length_cons]
      omega
    rw [hlen] at hf q
    refine m_word rfl hc w1 (if_in2F rfl x1 fun u0 hu0 => ?_)
    have c0 := hc.same (Same.new (.tup [.str (Str.ofString "domain"), .str (Str.ofString "range")]) hu0)
    refine tnx ?_
    dsimp only
    refine tsq ?_
    refine if_orL (b1 := decide (V.str (T x) = V.str (Str.ofString "inverse"))) (b2 := true) (fun R q => ⟨_, rfl, rfl, _, rfl, q⟩) (fun e R q => ?_) (fun _ => ?_) (fun z => ?_)
    · rcases x2 with x2 | ⟨_, x3, x4, x5⟩
      · rw [e] at x2
        cases x2
      · have w2' := w2
        rw [x5] at w2'
        refine nb_call rfl c0 w1 (Nat.le_trans x4 (by decide)) w2' ?_
        rw [x3, decide_eq_true (show V.str (T (lit "under")) = V.str (Str.ofString "under") by rw [← lit_T])]
        exact q
    · refine rol_call rfl c0 hr1 wl fun v1 H1 e1 c1 d1 => ?_
      rw [← lit_T] at w2
      refine m_expect rfl c1 w2 fun H2 e2 c2 => ?_
      refine ⟨_, rfl, rol_call rfl c2 hr2 wr2 fun v2 H3 e3 c3 d2 => ⟨by show 3 ≤ sizeLine; decide, fun u hu => ?_⟩⟩
      exact q _ _ (((((SameX.new _ hu0).trans e1).trans e2).trans e3).trans (SameX.new _ hu)) (c3.same (Same.new _ hu)) (.tup (.of upd_same) (.cons (.str _) (.cons (Dp.same (Same.new _ hu) (c1.mv (e2.trans e3) (rolN r) d1)) (.cons (Dp.same (Same.new _ hu) d2) .nil))))
    · simp at z
  | @inverse a b ha hb =>
    obtain ⟨k1, w1⟩ := wds_head hw
    obtain ⟨k2, w2⟩ := wds_head (wds_tail hw)
    obtain ⟨k3, w3⟩ := wds_head (wds_tail (wds_tail hw))
    refine m_word rfl hc w1 (if_in2F rfl (by rw [nm_ne ha.1 (x := "domain") (by decide +kernel), nm_ne ha.1 (x := "range") (by decide +kernel)]; rfl) fun u0 hu0 => ?_)
    have c0 := hc.same (Same.new (.tup [.str (Str.ofString "domain"), .str (Str.ofString "range")]) hu0)
    have al : a.length ≤ 100000 := Nat.le_trans ha.2 (by decide)
    refine tnx ?_
    dsimp only
    refine tsq ?_
    refine if_orL (b1 := false) (b2 := false) (fun R q => ⟨_, rfl, rfl, _, rfl, by rw [inv_ne (nm_ne ha.1 (x := "inverse") (by decide +kernel))]; exact q⟩) (fun _ R q => nb_call rfl c0 w1 al w2 (by rw [nameNb (show decide (T (lit "inverse") = Str.ofString "under") = false by decide +kernel)]; exact q)) (fun e => nomatch e) (fun _ => ?_)
    refine tnx ?_
    dsimp only
    refine tsq ?_
    refine if_1 (b1 := true) (fun R q => nb_call rfl c0 w1 al w2 (by rw [ha.1, decide_eq_true (show V.str (T (lit "inverse")) = V.str (Str.ofString "inverse") by rw [← lit_T])]; exact q)) (fun _ => ?_) (fun e => nomatch e)
    refine m_take_name rfl c0 w1 al ha.1 fun H1 e1 c1 => ?_
    refine m_step rfl c1 fun H2 e2 c2 => ?_
    refine ⟨_, rfl, m_take_name rfl c2 w3 (Nat.le_trans hb.2 (by decide)) hb.1 fun H3 e3 c3 => ⟨by show 3 ≤ sizeLine; decide, fun u hu => ?_⟩⟩
    exact q _ _ (((((SameX.new _ hu0).trans e1).trans e2).trans e3).trans (SameX.new _ hu)) (c3.same (Same.new _ hu)) (.tup (.of upd_same) (.cons (.str _) (.cons (.str _) (.cons (.str _) .nil))))
  | @is a c t' ha hlc =>
    obtain ⟨k1, w1⟩ := wds_head hw
    obtain ⟨k2, w2⟩ := wds_head (wds_tail hw)
    refine m_word rfl hc w1 (if_in2F rfl (by rw [nm_ne ha.1 (x := "domain") (by decide +kernel), nm_ne ha.1 (x := "range") (by decide +kernel)]; rfl) fun u0 hu0 => ?_)
    have c0 := hc.same (Same.new (.tup [.str (Str.ofString "domain"), .str (Str.ofString "range")]) hu0)
    have al : a.length ≤ 100000 := Nat.le_trans ha.2 (by decide)
    refine tnx ?_
    dsimp only
    refine tsq ?_
    refine if_orL (b1 := false) (b2 := false) (fun R q => ⟨_, rfl, rfl, _, rfl, by rw [inv_ne (nm_ne ha.1 (x := "inverse") (by decide +kernel))]; exact q⟩) (fun _ R q => nb_call rfl c0 w1 al w2 (by rw [nameNb (show decide (T (lit "is") = Str.ofString "under") = false by decide +kernel)]; exact q)) (fun e => nomatch e) (fun _ => ?_)
    refine tnx ?_
    dsimp only
    refine tsq ?_
    refine if_1 (b1 := false) (fun R q => nb_call rfl c0 w1 al w2 (by rw [nameNb (show decide (T (lit "is") = Str.ofString "inverse") = false by decide +kernel)]; exact q)) (fun e => nomatch e) (fun _ => ?_)
    refine tnx ?_
    dsimp only
    refine tsq ?_
    refine if_1 (b1 := true) (fun R q => bf_call rfl c0 w1 al (fun _ => by decide +kernel) w2 (by rw [ha.1, decide_eq_true (show V.str (T (lit "is")) = V.str (Str.ofString "is") by rw [← lit_T])]; exact q)) (fun _ => ?_) (fun e => nomatch e)
    refine trt ?_
    exact con_call rfl c0 (D := (Stm.is a c).D) (.inl ⟨a, c, t', rfl, rfl, ha, hlc⟩) hw (fol_imp (fun _ => fos_foa) hf) fun v H' e c' d' => q v H' ((SameX.new _ hu0).trans e) c' d'
  | @has a b c ha hb hcc =>
    obtain ⟨k1, w1⟩ := wds_head hw
    obtain ⟨k2, w2⟩ := wds_head (wds_tail hw)
    refine m_word rfl hc w1 (if_in2F rfl (by rw [nm_ne ha.1 (x := "domain") (by decide +kernel), nm_ne ha.1 (x := "range") (by decide +kernel)]; rfl) fun u0 hu0 => ?_)
    have c0 := hc.same (Same.new (.tup [.str (Str.ofString "domain"), .str (Str.ofString "range")]) hu0)
    have al : a.length ≤ 100000 := Nat.le_trans ha.2 (by decide)
    refine tnx ?_
    dsimp only
    refine tsq ?_
    refine if_orL (b1 := false) (b2 := false) (fun R q => ⟨_, rfl, rfl, _, rfl, by rw [inv_ne (nm_ne ha.1 (x := "inverse") (by decide +kernel))]; exact q⟩) (fun _ R q => nb_call rfl c0 w1 al w2 (by rw [nameNb (nm_ne hb.1 (x := "under") (by decide +kernel))]; exact q)) (fun e => nomatch e) (fun _ => ?_)
    refine tnx ?_
    dsimp only
    refine tsq ?_
    refine if_1 (b1 := false) (fun R q => nb_call rfl c0 w1 al w2 (by rw [nameNb (nm_ne hb.1 (x := "inverse") (by decide +kernel))]; exact q)) (fun e => nomatch e) (fun _ => ?_)
    refine tnx ?_
    dsimp only
    refine tsq ?_
    refine if_1 (b1 := true) (fun R q => bf_call rfl c0 w1 al (fun _ => Nat.le_trans hb.2 (by decide)) w2 (by rw [ha.1, hb.1, Bool.or_true]; exact q)) (fun _ => ?_) (fun e => nomatch e)
    refine trt ?_
    exact con_call rfl c0 (D := (Stm.has a b c).D) (.inr ⟨a, b, c, rfl, rfl, ha, hb, hcc⟩) hw (fol_imp (fun _ => fos_foa) hf) fun v H' e c' d' => q v H' ((SameX.new _ hu0).trans e) c' d'
  | @below c d t1 t2 h1 h2 =>
    obtain ⟨ky, wy⟩ := wds_head (wds_right hw)
    obtain ⟨x, k1, k2, z, w1, w2, xl, zl, x1, x2, _, x4, x5, x6⟩ := cmp_second h1 (wds_left hw) wy (by decide +kernel) (by decide +kernel) (by decide +kernel) (by decide +kernel) (by decide +kernel)
    refine m_word rfl hc w1 (if_in2F rfl x1 fun u0 hu0 => ?_)
    have c0 := hc.same (Same.new (.tup [.str (Str.ofString "domain"), .str (Str.ofString "range")]) hu0)
    refine tnx ?_
    dsimp only
    refine tsq ?_
    refine if_orL (b1 := false) (b2 := false) (fun R q => ⟨_, rfl, rfl, _, rfl, by rw [inv_ne x2]; exact q⟩) (fun _ R q => nb_call rfl c0 w1 xl w2 (by rw [x4]; exact q)) (fun e => nomatch e) (fun _ => ?_)
    refine tnx ?_
    dsimp only
    refine tsq ?_
    refine if_1 (b1 := false) (fun R q => nb_call rfl c0 w1 xl w2 (by rw [x5]; exact q)) (fun e => nomatch e) (fun _ => ?_)
    refine tnx ?_
    dsimp only
    refine tsq ?_
    refine if_1 (b1 := false) (fun R q => bf_call rfl c0 w1 xl zl w2 (by rw [x6]; exact q)) (fun e => nomatch e) (fun _ => ?_)
    refine tnx ?_
    dsimp only
    refine trt ?_
    exact con_call rfl c0 (D := (Stm.below c d).D) ⟨c, d, t1, t2, h1, h2, .inl ⟨rfl, rfl⟩⟩ hw (fol_imp (fun _ => fos_foa) hf) fun v H' e c' d' => q v H' ((SameX.new _ hu0).trans e) c' d'
  | @equals c d t1 t2 h1 h2 =>
    obtain ⟨ky, wy⟩ := wds_head (wds_right hw)
    obtain ⟨x, k1, k2, z, w1, w2, xl, zl, x1, x2, _, x4, x5, x6⟩ := cmp_second h1 (wds_left hw) wy (by decide +kernel) (by decide +kernel) (by decide +kernel) (by decide +kernel) (by decide +kernel)
    refine m_word rfl hc w1 (if_in2F rfl x1 fun u0 hu0 => ?_)
    have c0 := hc.same (Same.new (.tup [.str (Str.ofString "domain"), .str (Str.ofString "range")]) hu0)
    refine tnx ?_
    dsimp only
    refine tsq ?_
    refine if_orL (b1 := false) (b2 := false) (fun R q => ⟨_, rfl, rfl, _, rfl, by rw [inv_ne x2]; exact q⟩) (fun _ R q => nb_call rfl c0 w1 xl w2 (by rw [x4]; exact q)) (fun e => nomatch e) (fun _ => ?_)
    refine tnx ?_
    dsimp only
    refine tsq ?_
    refine if_1 (b1 := false) (fun R q => nb_call rfl c0 w1 xl w2 (by rw [x5]; exact q)) (fun e => nomatch e) (fun _ => ?_)
    refine tnx ?_
    dsimp only
    refine tsq ?_
    refine if_1 (b1 := false) (fun R q => bf_call rfl c0 w1 xl zl w2 (by rw [x6]; exact q)) (fun e => nomatch e) (fun _ => ?_)
    refine tnx ?_
    dsimp only
    refine trt ?_
    exact con_call rfl c0 (D := (Stm.equals c d).D) ⟨c, d, t1, t2, h1, h2, .inr (.inl ⟨rfl, rfl⟩)⟩ hw (fol_imp (fun _ => fos_foa) hf) fun v H' e c' d' => q v H' ((SameX.new _ hu0).trans e) c' d'
  | @apart c d t1 t2 h1 h2 =>
    obtain ⟨ky, wy⟩ := wds_head (wds_right hw)
    obtain ⟨x, k1, k2, z, w1, w2, xl, zl, x1, x2, _, x4, x5, x6⟩ := cmp_second h1 (wds_left hw) wy (by decide +kernel) (by decide +kernel) (by decide +kernel) (by decide +kernel) (by decide +kernel)
    refine m_word rfl hc w1 (if_in2F rfl x1 fun u0 hu0 => ?_)
    have c0 := hc.same (Same.new (.tup [.str (Str.ofString "domain"), .str (Str.ofString "range")]) hu0)
    refine tnx ?_
    dsimp only
    refine tsq ?_
    refine if_orL (b1 := false) (b2 := false) (fun R q => ⟨_, rfl, rfl, _, rfl, by rw [inv_ne x2]; exact q⟩) (fun _ R q => nb_call rfl c0 w1 xl w2 (by rw [x4]; exact q)) (fun e => nomatch e) (fun _ => ?_)
    refine tnx ?_
    dsimp only
    refine tsq ?_
    refine if_1 (b1 := false) (fun R q => nb_call rfl c0 w1 xl w2 (by rw [x5]; exact q)) (fun e => nomatch e) (fun _ => ?_)
    refine tnx ?_
    dsimp only
    refine tsq ?_
    refine if_1 (b1 := false) (fun R q => bf_call rfl c0 w1 xl zl w2 (by rw [x6]; exact q)) (fun e => nomatch e) (fun _ => ?_)
    refine tnx ?_
    dsimp only
    refine trt ?_
    exact con_call rfl c0 (D := (Stm.apart c d).D) ⟨c, d, t1, t2, h1, h2, .inr (.inr ⟨rfl, rfl⟩)⟩ hw (fol_imp (fun _ => fos_foa) hf) fun v H' e c' d' => q v H' ((SameX.new _ hu0).trans e) c' d'
theorem fx_question {k : Nat} (hk : 5 ≤ k) {f : Addr} {fd : FuncData} (D : Df K mg "question" s_question f fd ["cursor"]) (T_Cursor : CurC K mg C) (c_concept : Cl P w K mg base k "concept" (spFm K C GCon FoA)) (c_fact : Cl P w K mg base k "_fact" (spFm K C GFact FoA))
    (c_begins_fact : Cl P w K mg base 3 "_begins_fact" (spBF K C)) (c_Cursor_word : Mt P w K mg base 1 C "word" fw fdw ["self"] (spWord K C)) (c_Cursor_step : Mt P w K mg base 1 C "step" fs fds ["self"] (spStep K C)) (c_Cursor_expect : Mt P w K mg base 2 C "expect" fe fde ["self", "word"] (spExpect K C)) :
    Fx P w K mg base (k + 1) f fd ["cursor"] (spFm K C GQst FoS) := by
  refine D.fx sc_question (fun vs H Q E h => ?_) (fun cdv A outer s H vs Q E hr h => ?_)
  · obtain ⟨p, t, ds, i, D, ts, rfl, _⟩ := h
    rfl
  obtain ⟨p, t, ds, i, _, ts, rfl, hc, ⟨s, rfl, hls⟩, hw, hf, q⟩ := h
  refine ⟨_, (pss_cons (ps_if (pt_cmpR op_eq (pe_meth0 (pv 0) T_Cursor.cl c_Cursor_word.M c_Cursor_word.F (hr.mono (by first | decide | omega)) c_Cursor_word.b .nil pass0) pe_str (nomark _)) (pss_cons (ps_expr (pe_meth0 (pv 0) T_Cursor.cl c_Cursor_step.M c_Cursor_step.F (hr.mono (by first | decide | omega)) c_Cursor_step.b .nil pass0))
      (pss_one (ps_ret (pe_tup (pa_cons pe_str pa_nil))))) pss_nil)
      (pss_cons (ps_if (pt_val (pc c_begins_fact hr (by first | decide | omega) (by rfl) (pa_cons (pv 0) pa_nil))) (pss_one (ps_ret (pc c_fact hr (by first | decide | omega) (by rfl) (pa_cons (pv 0) pa_nil)))) pss_nil)
      (pss_cons (ps_set (i := 1) sc_question.nd rfl (.inl rfl) (pc c_concept hr (by first | decide | omega) (by rfl) (pa_cons (pv 0) pa_nil)))
      (pss_cons (ps_expr (pe_meth (pv 0) T_Cursor.cl c_Cursor_expect.M c_Cursor_expect.F (hr.mono (by first | decide | omega)) c_Cursor_expect.b .nil pass0 (pa_cons pe_str pa_nil)))
      (pss_one (ps_ret (pe_tup (pa_cons pe_str (pa_cons (pv 1) (pa_cons (pc c_concept hr (by first | decide | omega) (by rfl) (pa_cons (pv 0) pa_nil)) pa_nil)))))))))), ?_⟩
  cases hls with
  | never =>
    obtain ⟨k1, w1⟩ := wds_head hw
    refine m_word rfl hc w1 ⟨rfl, _, rfl, ?_⟩
    rw [decide_eq_true (show V.str (T (lit "never")) = V.str (Str.ofString "never") by rw [← lit_T])]
    refine iteT (m_step rfl hc fun H1 e1 c1 => ⟨by show 1 ≤ sizeLine; decide, fun u hu => ?_⟩)
    exact q _ _ (e1.trans (SameX.new _ hu)) (c1.same (Same.new _ hu)) (.tup (.of upd_same) (.cons (.str _) .nil))
  | @below c d t1 t2 h1 h2 =>
    have wr := wds_right hw
    obtain ⟨ky, wy⟩ := wds_head wr
    obtain ⟨x, k1, k2, z, w1, w2, xl, zl, x1, x2, x3, x4, x5, x6⟩ := cmp_second h1 (wds_left hw) wy (by decide +kernel) (by decide +kernel) (by decide +kernel) (by decide +kernel) (by decide +kernel)
    have hlen : i + (t1 ++ lit "below" :: t2).length = i + t1.length + 1 + t2.length := by
      rw [List.length_append, List.length_cons]
      omega
    rw [hlen] at hf q
    refine m_word rfl hc w1 ⟨rfl, _, rfl, ?_⟩
    rw [inv_ne x3]
    refine iteF ?_
    refine tnx ?_
    dsimp only
    refine tsq ?_
    refine if_1 (b1 := false) (fun R q => bf_call rfl hc w1 xl zl w2 (by rw [x6]; exact q)) (fun e => nomatch e) (fun _ => ?_)
    refine con_call rfl hc h1.g (wds_left hw) ⟨ky, _, wy, by decide +kernel, by decide +kernel⟩ fun v1 H1 e1 c1 d1 => ?_
    rw [← lit_T] at wy
    refine m_expect rfl c1 wy fun H2 e2 c2 => ?_
    refine ⟨_, rfl, con_call rfl c2 h2.g (wds_tail wr) (fol_imp (fun _ => fos_foa) hf) fun v2 H3 e3 c3 d2 => ⟨by show 3 ≤ sizeLine; decide, fun u hu => ?_⟩⟩
    exact q _ _ (((e1.trans e2).trans e3).trans (SameX.new _ hu)) (c3.same (Same.new _ hu)) (.tup (.of upd_same) (.cons (.str _) (.cons (Dp.same (Same.new _ hu) (c1.mv (e2.trans e3) (Con.tn c) d1)) (.cons (Dp.same (Same.new _ hu) d2) .nil))))
  | @is a c t' ha hlc =>
    obtain ⟨k1, w1⟩ := wds_head hw
    obtain ⟨k2, w2⟩ := wds_head (wds_tail hw)
    have al : a.length ≤ 100000 := Nat.le_trans ha.2 (by decide)
    refine m_word rfl hc w1 ⟨rfl, _, rfl, ?_⟩
    rw [inv_ne (nm_ne ha.1 (x := "never") (by decide +kernel))]
    refine iteF ?_
    refine tnx ?_
    dsimp only
    refine tsq ?_
    refine if_1 (b1 := true) (fun R q => bf_call rfl hc w1 al (fun _ => by decide +kernel) w2 (by rw [ha.1, decide_eq_true (show V.str (T (lit "is")) = V.str (Str.ofString "is") by rw [← lit_T])]; exact q)) (fun _ => ?_) (fun e => nomatch e)
    refine trt ?_
    exact con_call rfl hc (D := (Stm.is a c).D) (.inl ⟨a, c, t', rfl, rfl, ha, hlc⟩) hw (fol_imp (fun _ => fos_foa) hf) q
  | @has a b c ha hb hcc =>
    obtain ⟨k1, w1⟩ := wds_head hw
    obtain ⟨k2, w2⟩ := wds_head (wds_tail hw)
    have al : a.length ≤ 100000 := Nat.le_trans ha.2 (by decide)
    refine m_word rfl hc w1 ⟨rfl, _, rfl, ?_⟩
    rw [inv_ne (nm_ne ha.1 (x := "never") (by decide +kernel))]
    refine iteF ?_
    refine tnx ?_
    dsimp only
    refine tsq ?_
    refine if_1 (b1 := true) (fun R q => bf_call rfl hc w1 al (fun _ => Nat.le_trans hb.2 (by decide)) w2 (by rw [ha.1, hb.1, Bool.or_true]; exact q)) (fun _ => ?_) (fun e => nomatch e)
    refine trt ?_
    exact con_call rfl hc (D := (Stm.has a b c).D) (.inr ⟨a, b, c, rfl, rfl, ha, hb, hcc⟩) hw (fol_imp (fun _ => fos_foa) hf) q
end
/-! items of a source -/
def comT (ns : List (List Nat)) : List (List Nat) := (ns.map fun n => [lit ",", n]).flatten
inductive LI : Itm → List (List Nat) → Prop
  | ax {n s ts} : NmC n → LS s ts → LI (.ax n s) (lit "axiom" :: n :: lit ":" :: (ts ++ [lit ";"]))
  | decl {k n ns} : k < 3 → NmC n → (∀ m ∈ ns, NmC m) → ns.length ≤ 100 → LI (.decl k (n :: ns)) (lit (dword k) :: n :: (comT ns ++ [lit ";"]))
def GItm : PyData → List (List Nat) → Prop := fun D ts => ∃ i, D = Itm.D i ∧ LI i ts
def GAx : PyData → List (List Nat) → Prop := fun D ts => ∃ n s t, D = Itm.D (.ax n s) ∧ NmC n ∧ LS s t ∧ ts = lit "axiom" :: n :: lit ":" :: (t ++ [lit ";"])
section
variable {C : Addr} {fw fs fe ft fv : Addr} {fdw fds fde fdt fdv : FuncData}
theorem c_axiom {k : Nat} (hk : 3 ≤ k) {f : Addr} {fd : FuncData} (D : Df K mg "_axiom" s_axiom f fd ["cursor"]) (T_Cursor : CurC K mg C) (c_statement : Cl P w K mg base k "statement" (spFm K C GStm FoS)) (c_Cursor_step : Mt P w K mg base 1 C "step" fs fds ["self"] (spStep K C)) (c_Cursor_expect : Mt P w K mg base 2 C "expect" fe fde ["self", "word"] (spExpect K C)) (c_Cursor_take_name : Mt P w K mg base 3 C "take_name" ft fdt ["self"] (spTakeName K C)) : Cl P w K mg base (k + 1) "_axiom" (spFm K C GAx FoT) := by
  refine D.cl sc_axiom (fun vs H Q E h => ?_) (fun cdv A outer s H vs Q E hr h => ?_)
  · obtain ⟨p, t, ds, i, D, ts, rfl, _⟩ := h
    rfl
  obtain ⟨p, t, ds, i, _, _, rfl, hc, ⟨n, s, t', rfl, hn, hls, rfl⟩, hw, hf, q⟩ := h
  refine ⟨_, (pss_cons (ps_expr (pe_meth0 (pv 0) T_Cursor.cl c_Cursor_step.M c_Cursor_step.F (hr.mono (by first | decide | omega)) c_Cursor_step.b .nil pass0))
      (pss_cons (ps_set (i := 1) sc_axiom.nd rfl (.inl rfl) (pe_meth0 (pv 0) T_Cursor.cl c_Cursor_take_name.M c_Cursor_take_name.F (hr.mono (by first | decide | omega)) c_Cursor_take_name.b .nil pass0))
      (pss_cons (ps_expr (pe_meth (pv 0) T_Cursor.cl c_Cursor_expect.M c_Cursor_expect.F (hr.mono (by first | decide | omega)) c_Cursor_expect.b .nil pass0 (pa_cons pe_str pa_nil)))
      (pss_cons (ps_set (i := 2) sc_axiom.nd rfl (.inl rfl) (pc c_statement hr (by first | decide | omega) (by rfl) (pa_cons (pv 0) pa_nil)))
      (pss_cons (ps_expr (pe_meth (pv 0) T_Cursor.cl c_Cursor_expect.M c_Cursor_expect.F (hr.mono (by first | decide | omega)) c_Cursor_expect.b .nil pass0 (pa_cons pe_str pa_nil)))
      (pss_one (ps_ret (pe_tup (pa_cons pe_str (pa_cons (pv 1) (pa_cons (pv 2) pa_nil))))))))))), ?_⟩
  have wt := wds_tail hw
  obtain ⟨k2, w2⟩ := wds_head wt
  have wt2 := wds_tail wt
  obtain ⟨k3, w3⟩ := wds_head wt2
  have wt3 := wds_tail wt2
  obtain ⟨k4, w4⟩ := wds_head (wds_right wt3)
  have hlen : i + (lit "axiom" :: n :: lit ":" :: (t' ++ [lit ";"])).length = i + 1 + 1 + 1 + t'.length + 1 := by
    simp only [List.length_cons, List.length_append, List.length_nil]
    omega
  rw [hlen] at q
  refine m_step rfl hc fun H1 e1 c1 => ?_
  refine m_take_name rfl c1 w2 (Nat.le_trans hn.2 (by decide)) hn.1 fun H2 e2 c2 => ?_
  rw [← lit_T] at w3 w4
  refine m_expect rfl c2 w3 fun H3 e3 c3 => ?_
  refine con_call rfl c3 ⟨s, rfl, hls⟩ (wds_left wt3) ⟨k4, _, w4, .inr rfl⟩ fun v H4 e4 c4 d4 => ?_
  refine m_expect rfl c4 w4 fun H5 e5 c5 => ?_
  refine ⟨_, rfl, _, rfl, by show 3 ≤ sizeLine; decide, fun u hu => ?_⟩
  exact q _ _ (((((e1.trans e2).trans e3).trans e4).trans e5).trans (SameX.new _ hu)) (c5.same (Same.new _ hu)) (.tup (.of upd_same) (.cons (.str _) (.cons (.str _) (.cons (Dp.same (Same.new _ hu) (c4.mv e5 (Stm.tn s) d4)) .nil))))
def ItW (K : PySem.W.Frag) (C : Addr) (p nl : Addr) (t : Str) (ds : List PyData) (x0 : Str) (n : List Nat) (ns : List (List Nat)) (e : Nat) (H : Hp) (b : Nat) (σ : L2.St) (H' : Hp) : Prop := ∃ (done rest : List (List Nat)) (j : Nat), σ = [some (.ref p), some (.str x0), some (.ref nl)] ∧ b = rest.length ∧ done ++ rest = n :: ns ∧ done ≠ [] ∧
  H' nl = some (.lst (done.map fun m => V.str (T m))) ∧ wds ds j (comT rest ++ [lit ";"]) ∧ j + (comT rest).length + 1 = e ∧ Cu K C H' p t ds j ∧ SameX p H H'
theorem fx_item {k : Nat} (hk : 3 ≤ k) {f rD : Addr} {fd : FuncData} {es : Array DictEntry} {ne : Nat} (D : Df K mg "item" s_itemP f fd ["cursor"]) (T_Cursor : CurC K mg C) (c_axiom : Cl P w K mg base k "_axiom" (spFm K C GAx FoT)) (m_DECLARATIONS : mg "DECLARATIONS" = some (.ref rD)) (KD : KDict K w rD es ne) (hD : ∀ p ∈ K_DECLARATIONS, KDct K w rD p.1 (.str p.2)) (z_tuple : mg "tuple" = none)
    (c_Cursor_word : Mt P w K mg base 1 C "word" fw fdw ["self"] (spWord K C)) (c_Cursor_step : Mt P w K mg base 1 C "step" fs fds ["self"] (spStep K C)) (c_Cursor_expect : Mt P w K mg base 2 C "expect" fe fde ["self", "word"] (spExpect K C)) (c_Cursor_take_name : Mt P w K mg base 3 C "take_name" ft fdt ["self"] (spTakeName K C)) :
    Fx P w K mg base (k + 1) f fd ["cursor"] (spFm K C GItm FoT) := by
  refine D.fx sc_itemP (fun vs H Q E h => ?_) (fun cdv A outer s H vs Q E hr h => ?_)
  · obtain ⟨p, t, ds, i, D, ts, rfl, _⟩ := h
    rfl
  obtain ⟨p, t, ds, i, _, ts, rfl, hc, ⟨it, rfl, hli⟩, hw, hf, q⟩ := h
  refine ⟨_, (pss_cons (ps_set (i := 1) sc_itemP.nd rfl (.inl rfl) (pe_meth0 (pv 0) T_Cursor.cl c_Cursor_word.M c_Cursor_word.F (hr.mono (by first | decide | omega)) c_Cursor_word.b .nil pass0))
      (pss_cons (ps_if (pt_cmpR op_eq (pv 1) pe_str (nomark _)) (pss_one (ps_ret (pc c_axiom hr (by first | decide | omega) (by rfl) (pa_cons (pv 0) pa_nil)))) pss_nil)
      (pss_cons (ps_if (pt_cmpR (op_notIn_kd KD) (pv 1) (pe_glob (v := .ref _) (by rfl) m_DECLARATIONS rfl) rfl) pss_never pss_nil)
      (pss_cons (ps_expr (pe_meth0 (pv 0) T_Cursor.cl c_Cursor_step.M c_Cursor_step.F (hr.mono (by first | decide | omega)) c_Cursor_step.b .nil pass0))
      (pss_cons (ps_set (i := 2) sc_itemP.nd rfl (.inl rfl) (pe_lst (pa_cons (pe_meth0 (pv 0) T_Cursor.cl c_Cursor_take_name.M c_Cursor_take_name.F (hr.mono (by first | decide | omega)) c_Cursor_take_name.b .nil pass0) pa_nil)))
      (pss_cons (ps_while PassesOwn.never (pt_cmpR op_eq (pe_meth0 (pv 0) T_Cursor.cl c_Cursor_word.M c_Cursor_word.F (hr.mono (by first | decide | omega)) c_Cursor_word.b .nil pass0) pe_str (nomark _)) (pss_cons (ps_expr (pe_meth0 (pv 0) T_Cursor.cl c_Cursor_step.M c_Cursor_step.F (hr.mono (by first | decide | omega)) c_Cursor_step.b .nil pass0))
      (pss_one (ps_expr (pe_bm PySem.F.plainAttrs_list PySem.F.slot_list_append PySem.F.type_list_append mt_append (pv 2) (pa_cons (pe_meth0 (pv 0) T_Cursor.cl c_Cursor_take_name.M c_Cursor_take_name.F (hr.mono (by first | decide | omega)) c_Cursor_take_name.b .nil pass0) pa_nil))))))
      (pss_cons (ps_expr (pe_meth (pv 0) T_Cursor.cl c_Cursor_expect.M c_Cursor_expect.F (hr.mono (by first | decide | omega)) c_Cursor_expect.b .nil pass0 (pa_cons pe_str pa_nil)))
      (pss_one (ps_ret (pe_tup (pa_cons (pe_ix ix_kdict (pe_glob (v := .ref _) (by rfl) m_DECLARATIONS rfl) (pv 1) (fun _ _ => rfl)) (pa_cons (pe_callTy call_tuple_of (by rfl) z_tuple (by decide +kernel) (pa_cons (pv 2) pa_nil)) pa_nil)))))))))))), ?_⟩
  cases hli with
  | @ax n s t' hn hls =>
    obtain ⟨k1, w1⟩ := wds_head hw
    refine m_word rfl hc w1 (if_eqT rfl (by decide +kernel) ?_)
    refine trt ?_
    exact con_call rfl hc (D := (Itm.ax n s).D) ⟨n, s, t', rfl, hn, hls, rfl⟩ hw hf q
  | @decl kk n ns hk3 hn hns hl =>
    obtain ⟨k1, w1⟩ := wds_head hw
    have wt := wds_tail hw
    obtain ⟨k2, w2⟩ := wds_head wt
    have hkk : ∃ p ∈ K_DECLARATIONS, p.1 = Str.ofString (dword kk) ∧ p.2 = Str.ofString (dkey kk) := by
      obtain rfl | rfl | rfl : kk = 0 ∨ kk = 1 ∨ kk = 2 := by omega
      · exact ⟨_, List.mem_cons_self .., rfl, rfl⟩
      · exact ⟨_, List.mem_cons_of_mem _ (List.mem_cons_self ..), rfl, rfl⟩
      · exact ⟨_, List.mem_cons_of_mem _ (List.mem_cons_of_mem _ (List.mem_cons_self ..)), rfl, rfl⟩
    obtain ⟨pp, hpp, pp1, pp2⟩ := hkk
    have hK := hD pp hpp
    rw [pp1, pp2, lit_T (dword kk)] at hK
    have hK2 := hK
    obtain ⟨es', ne', r', u1, u2, u3, u4⟩ := hK
    have hne : decide (T (lit (dword kk)) = Str.ofString "axiom") = false := by
      obtain rfl | rfl | rfl : kk = 0 ∨ kk = 1 ∨ kk = 2 := by omega
      all_goals decide +kernel
    refine m_word rfl hc w1 (if_eqF rfl hne ?_)
    refine ⟨_, rfl, _, some r', rfl, rfl, u3, _, rfl, iteF ?_⟩
    refine m_step rfl hc fun H1 e1 c1 => ?_
    refine m_take_name rfl c1 w2 (Nat.le_trans hn.2 (by decide)) hn.1 fun H2 e2 c2 => ⟨by show 1 ≤ sizeLine; decide, fun nl hnl => ?_⟩
    have hlen : i + (lit (dword kk) :: n :: (comT ns ++ [lit ";"])).length = i + 1 + 1 + (comT ns).length + 1 := by
      simp only [List.length_cons, List.length_append, List.length_nil]
      omega
    rw [hlen] at q
    have eH : SameX p H (upd H2 nl (.lst [.str (T n)])) := (e1.trans e2).trans (SameX.new _ hnl)
    obtain ⟨dx0, _, _, hp0, _⟩ := hc.ex
    have hpn : nl ≠ p := by
      obtain ⟨dx2, _, _, hp2, _⟩ := c2.ex
      exact (ne_of_none hp2 hnl).symm
    have hnlH : H nl = none := (e1.trans e2).free hpn hnl
    refine ⟨ItW K C p nl t ds (T (lit (dword kk))) n ns (i + 1 + 1 + (comT ns).length + 1) H, ⟨_, [n], ns, i + 1 + 1, rfl, rfl, rfl, (fun z => nomatch z), upd_same, wds_tail wt, rfl, c2.same (Same.new _ hnl), eH⟩, ?_⟩
    rintro b _ H3 ⟨done, rest, j, rfl, rfl, hdr, hdn, hnl3, hw3, hj, c3, e3⟩
    cases rest with
    | nil =>
      obtain ⟨k5, w5⟩ := wds_head (x := lit ";") (ts := []) hw3
      refine m_word rfl c3 w5 ⟨rfl, _, rfl, ?_⟩
      rw [inv_ne (show decide (T (lit ";") = Str.ofString ",") = false by decide +kernel)]
      refine iteF ?_
      rw [← lit_T] at w5
      refine m_expect rfl c3 w5 fun H4 e4 c4 => ?_
      have hnl4 := e4 _ _ hpn hnl3
      rw [List.append_nil] at hdr
      rw [hdr] at hnl4
      refine ⟨_, rfl, rD, _, _, rfl, rfl, hK2, _, rfl, nl, _, rfl, .inl ⟨SqL.of hnl4, fun u hu => ⟨by show 2 ≤ sizeLine; decide, fun u2 hu2 => ?_⟩⟩⟩
      have ej : j + 1 = i + 1 + 1 + (comT ns).length + 1 := hj
      rw [ej] at c4
      refine q _ _ (((e3.trans e4).trans (SameX.new _ hu)).trans (SameX.new _ hu2)) ((c4.same (Same.new _ hu)).same (Same.new _ hu2)) (.tup (.of upd_same) (.cons (.str _) (.cons (Dp.same (Same.new _ hu2) (.tup (.of upd_same) ?_)) .nil)))
      have : ∀ ms : List (List Nat), ∀ Hx : Hp, DpAll K Hx (ms.map fun n => V.str (T n)) (ms.map fun n => PyData.str (T n)) := fun ms Hx => by
        induction ms with
        | nil => exact .nil
        | cons n ns ih => exact .cons (.str _) ih
      exact this (n :: ns) _
    | cons m rest =>
      have hm : m ∈ ns := by
        cases done with
        | nil => exact absurd rfl hdn
        | cons d0 done =>
          have := (List.cons.inj hdr).2
          rw [← this]
          simp
      have hdl : done.length ≤ 101 := by
        have := congrArg List.length hdr
        rw [List.length_append, List.length_cons, List.length_cons] at this
        omega
      obtain ⟨k5, w5⟩ := wds_head (x := lit ",") (ts := m :: (comT rest ++ [lit ";"])) hw3
      have wt5 := wds_tail (x := lit ",") (ts := m :: (comT rest ++ [lit ";"])) hw3
      obtain ⟨k6, w6⟩ := wds_head wt5
      refine m_word rfl c3 w5 ⟨rfl, _, rfl, ?_⟩
      rw [decide_eq_true (show V.str (T (lit ",")) = V.str (Str.ofString ",") by rw [← lit_T])]
      refine iteT ⟨ItW K C p nl t ds (T (lit (dword kk))) n ns (i + 1 + 1 + (comT ns).length + 1) H rest.length, fun σ' H' h => ⟨_, Nat.lt_succ_self _, h⟩, ?_⟩
      refine m_step rfl c3 fun H4 e4 c4 => ?_
      have hnl4 := e4 _ _ hpn hnl3
      refine ⟨_, rfl, .inl ⟨rfl, _, SqL.of hnl4⟩, m_take_name rfl c4 w6 (Nat.le_trans (hns m hm).2 (by decide)) (hns m hm).1 fun H5 e5 c5 => ?_⟩
      have hnl5 := e5 _ _ hpn hnl4
      refine ⟨nl, _, _, rfl, rfl, hnl5, by rw [List.length_map]; exact small1000 (by omega), ?_⟩
      obtain ⟨dx5, tk5, vs5, g1, g2, g3⟩ := c5.ex
      have kt5 := KT.lst (K := K) (.lst (done.map (fun m => V.str (T m)) ++ [.str (T m)])) hnl5
      refine ⟨done ++ [m], rest, j + 1 + 1, rfl, rfl, by rw [List.append_assoc]; exact hdr, by simp, ?_, wds_tail wt5, ?_, ⟨⟨dx5, tk5, vs5, (upd_ne hpn.symm).trans g1, kt5 _ _ g2, DpAll.kt kt5 c5.tn g3⟩, c5.tn⟩, SameX.mut _ ((e3.trans e4).trans e5) hnlH⟩
      · rw [upd_same, List.map_append]
        rfl
      · have : (comT (m :: rest)).length = (comT rest).length + 2 := by
          show (lit "," :: m :: comT rest).length = _
          rfl
        omega
end
/-! a whole source -/
theorem ds_tok {tks : List Tk} {n j : Nat} {tk : Tk} (h : tks[j]? = some tk) : wdAt (tks.map tkD ++ [endD n]) j (if tk.wd then Str.ofString "word" else Str.ofString "sign") (T tk.s) := ⟨(tk.i : Int), by
  rw [List.getElem?_append_left (by rw [List.length_map]; exact (List.getElem?_eq_some_iff.mp h).1), List.getElem?_map, h]
  rfl⟩
theorem ds_end {tks : List Tk} {n : Nat} : wdAt (tks.map tkD ++ [endD n]) tks.length (Str.ofString "end") (Str.ofString "") := ⟨(n : Int), by
  rw [List.getElem?_append_right (by rw [List.length_map]; exact Nat.le_refl _), List.length_map, Nat.sub_self]
  rfl⟩
theorem ds_any {tks : List Tk} {n j : Nat} (h : j ≤ tks.length) : fol FoT (tks.map tkD ++ [endD n]) j := by
  by_cases h2 : j < tks.length
  · exact ⟨_, _, ds_tok (List.getElem?_eq_getElem h2), trivial⟩
  · obtain rfl : j = tks.length := by omega
    exact ⟨_, _, ds_end, trivial⟩
theorem ds_wds {tks : List Tk} {n : Nat} : wds (tks.map tkD ++ [endD n]) 0 (tks.map Tk.s) := fun j x hj => by
  rw [List.getElem?_map] at hj
  cases ht : tks[j]? with
  | none => rw [ht] at hj; cases hj
  | some tkj =>
    rw [ht] at hj
    cases Option.some.inj hj
    exact ⟨_, by rw [Nat.zero_add]; exact ds_tok ht⟩
theorem names_tn2 (ns : List (List Nat)) (h : ns.length ≤ 100000) : TupN 2 (namesD ns) := ⟨by rw [List.length_map]; exact h, fun d hd => by
  obtain ⟨n, _, rfl⟩ := List.mem_map.mp hd
  trivial⟩
theorem LS.dp {s : Stm} {t : List (List Nat)} (h : LS s t) : s.dp ≤ 12 := by
  cases h with
  | below a b | equals a b | apart a b =>
    obtain ⟨_, _, _, _, a⟩ := a
    obtain ⟨_, _, _, _, b⟩ := b
    exact Nat.max_le.mpr ⟨a, b⟩
  | domain _ b | range _ b | is _ b =>
    obtain ⟨_, _, _, _, b⟩ := b
    exact b
  | _ => exact Nat.zero_le _
theorem LI.tn {i : Itm} {t : List (List Nat)} (h : LI i t) : TupN 20 i.D := by
  cases h with
  | @ax n s ts a b => exact tup3 trivial trivial ((Stm.tn s).le (by have := b.dp; omega))
  | @decl k n ns a b c d => exact tup2 trivial ((names_tn2 (n :: ns) (by rw [List.length_cons]; omega)).le (by decide))
theorem LI.pos {i : Itm} {t : List (List Nat)} (h : LI i t) : 0 < t.length := by cases h <;> exact Nat.succ_pos _
def flT (L : List (Itm × List (List Nat))) : List (List Nat) := (L.map (·.2)).flatten
def spRdS (K : PySem.W.Frag) : Sp := fun vs H Q _ => ∃ (l : List Nat) (tks : List Tk) (L : List (Itm × List (List Nat))), vs = [.str (T l)] ∧ l.length ≤ 20000 ∧ scan l.length l 0 = (tks, none) ∧ tks.length ≤ 20000 ∧ (∀ x ∈ L, LI x.1 x.2) ∧ tks.map Tk.s = flT L ∧ L.length ≤ 100 ∧ ∀ v H', Same H H' → Dp K H' v (.tuple (L.map fun x => x.1.D)) → Q v H'
section
variable {C : Addr} {fi fa : Addr} {fdi fda : FuncData}
def SrW (K : PySem.W.Frag) (C x il : Addr) (l : List Nat) (tks : List Tk) (L : List (Itm × List (List Nat))) (H : Hp) (b : Nat) (σ : L2.St) (H' : Hp) : Prop := ∃ (done rest : List (Itm × List (List Nat))) (j : Nat) (vs : List V), σ = [some (.str (T l)), some (.ref x), some (.ref il)] ∧ b = rest.length ∧ done ++ rest = L ∧ H' il = some (.lst vs) ∧ DpAll K H' vs (done.map fun x => x.1.D) ∧
  wds (tks.map tkD ++ [endD l.length]) j (flT rest) ∧ j + (flT rest).length = tks.length ∧ Cu K C H' x (T l) (tks.map tkD ++ [endD l.length]) j ∧ Same H H'
theorem c_read_source {k : Nat} (hk : 5 ≤ k) {f : Addr} {fd : FuncData} (D : Df K mg "read_source" s_read_source f fd ["text"]) (T_Cursor : CurC K mg C) (c_Cursor : MkC P w K mg base 4 C fi fdi ["self", "text"] (spCurInit K C)) (c_Cursor_at_end : Mt P w K mg base 1 C "at_end" fa fda ["self"] (spAtEnd K C)) (c_itemP : Cl P w K mg base k "item" (spFm K C GItm FoT)) (z_tuple : mg "tuple" = none) : Cl P w K mg base (k + 1) "read_source" (spRdS K) := by
  refine D.cl sc_read_source (fun vs H Q E h => ?_) (fun cdv A outer s H vs Q E hr h => ?_)
  · obtain ⟨l, tks, L, rfl, _⟩ := h
    rfl
  obtain ⟨l, tks, L, rfl, hl, hsc, htl, hL, htk, hLl, q⟩ := h
  refine ⟨_, (pss_cons (ps_set (i := 1) sc_read_source.nd rfl (.inl rfl) (pe_make c_Cursor.M c_Cursor.F (hr.mono (by first | decide | omega)) (by rfl) T_Cursor.mgC c_Cursor.b .nil pass0 (pa_cons (pv 0) pa_nil)))
      (pss_cons (ps_set (i := 2) sc_read_source.nd rfl (.inl rfl) (pe_lst pa_nil))
      (pss_cons (ps_while PassesOwn.never (pt_not (pt_val (pe_meth0 (pv 1) T_Cursor.cl c_Cursor_at_end.M c_Cursor_at_end.F (hr.mono (by first | decide | omega)) c_Cursor_at_end.b .nil pass0))) (pss_one (ps_expr (pe_bm PySem.F.plainAttrs_list PySem.F.slot_list_append PySem.F.type_list_append mt_append (pv 2) (pa_cons (pc c_itemP hr (by first | decide | omega) (by rfl) (pa_cons (pv 1) pa_nil)) pa_nil)))))
      (pss_one (ps_ret (pe_callTy call_tuple_of (by rfl) z_tuple (by decide +kernel) (pa_cons (pv 2) pa_nil))))))), ?_⟩
  refine ⟨_, rfl, ?_⟩
  intro x dx nx ndx nex
  have s0 : Same H (upd (upd H dx (.own x)) x (.ins C dx [])) := fun b o e => by
    rw [upd_ne (ne_of_none e nx), upd_ne (ne_of_none e ndx)]
    exact e
  refine ⟨H, x, dx, l, tks, rfl, s0, nx, upd_same, hl, hsc, htl, fun H1 s1 c1 => ⟨rfl, ?_⟩⟩
  refine ⟨by show 0 ≤ sizeLine; decide, fun il hil => ?_⟩
  have hilx : il ≠ x := by
    obtain ⟨_, _, _, hx, _⟩ := c1.ex
    exact (ne_of_none hx hil).symm
  have hilH : H il = none := Same.free s1 hil
  have hw0 := ds_wds (tks := tks) (n := l.length)
  rw [htk] at hw0
  have hl0 := congrArg List.length htk
  rw [List.length_map] at hl0
  refine ⟨SrW K C x il l tks L H, ⟨_, [], L, 0, [], rfl, rfl, rfl, upd_same, .nil, hw0, by omega, c1.same (Same.new _ hil), s1.trans (Same.new _ hil)⟩, ?_⟩
  rintro b _ H2 ⟨done, rest, j, vs, rfl, rfl, hdr, hil2, hD, hw, hj, c2, s2⟩
  cases rest with
  | nil =>
    have ej : j = tks.length := hj
    subst ej
    refine m_at_end rfl c2 ds_end ⟨_, rfl, ?_⟩
    rw [decide_eq_true rfl]
    refine iteF ⟨_, rfl, il, _, rfl, .inl ⟨SqL.of hil2, fun u hu => ?_⟩⟩
    rw [List.append_nil] at hdr
    subst hdr
    exact q _ _ (s2.trans (Same.new _ hu)) (.tup (.of upd_same) (DpAll.same (Same.new _ hu) hD))
  | cons y rest =>
    obtain ⟨i, ti⟩ := y
    have hi : LI i ti := hL (i, ti) (by rw [← hdr]; simp)
    have hpos := hi.pos
    have hfl : (flT ((i, ti) :: rest)).length = ti.length + (flT rest).length := by
      show (ti ++ flT rest).length = _
      rw [List.length_append]
    rw [hfl] at hj
    have hjl : j < tks.length := by omega
    refine m_at_end rfl c2 (ds_tok (List.getElem?_eq_getElem hjl)) ⟨_, rfl, ?_⟩
    have hk : decide (V.str (if tks[j].wd then Str.ofString "word" else Str.ofString "sign") = V.str (Str.ofString "end")) = false := by
      cases tks[j].wd
      · exact inv_ne (show decide (Str.ofString "sign" = Str.ofString "end") = false by decide +kernel)
      · exact inv_ne (show decide (Str.ofString "word" = Str.ofString "end") = false by decide +kernel)
    rw [hk]
    refine iteT ⟨SrW K C x il l tks L H rest.length, fun σ' H' h => ⟨_, Nat.lt_succ_self _, h⟩, ?_⟩
    have hvl : vs.length ≤ 100 := by
      rw [dpAll_len hD, List.length_map]
      have := congrArg List.length hdr
      rw [List.length_append, List.length_cons] at this
      omega
    refine ⟨_, rfl, .inl ⟨rfl, _, SqL.of hil2⟩, con_call rfl c2 ⟨i, rfl, hi⟩ (wds_left (a := ti) (b := flT rest) hw) (ds_any (by omega)) fun v H3 e3 c3 d3 => ?_⟩
    have hil3 := e3 _ _ hilx hil2
    refine ⟨il, _, _, rfl, rfl, hil3, small1000 (by omega), ?_⟩
    have kt := KT.lst (K := K) (.lst (vs ++ [v])) hil3
    obtain ⟨dx3, tk3, vs3, g1, g2, g3⟩ := c3.ex
    have hT : ∀ d ∈ done.map (fun x => x.1.D), TupN 20 d := fun d hd => by
      obtain ⟨z, hz, rfl⟩ := List.mem_map.mp hd
      exact (hL z (by rw [← hdr]; exact List.mem_append_left _ hz)).tn
    refine ⟨done ++ [(i, ti)], rest, j + ti.length, _, rfl, rfl, by rw [List.append_assoc]; exact hdr, upd_same, ?_, wds_right (a := ti) (b := flT rest) hw, by omega, ⟨⟨dx3, tk3, vs3, (upd_ne hilx.symm).trans g1, kt _ _ g2, DpAll.kt kt c3.tn g3⟩, c3.tn⟩, Same.mut _ (SameX.free2 s2 nx e3) hilH⟩
    rw [List.map_append]
    exact dpAll_app (DpAll.kt kt hT (DpAll.kt (c2.kt e3) hT hD)) (.cons (Dp.kt kt hi.tn d3) .nil)
theorem c_read_statement {k : Nat} {f g : Addr} {fd gfd : FuncData} (D : Df K mg "read_statement" s_read_statement f fd ["text"]) (D_statement : Df K mg "statement" s_statement g gfd ["cursor"]) (c_read_whole : Cl P w K mg base k "_read_whole" (spWhole K GStm g)) : Cl P w K mg base (k + 1) "read_statement" (spRead K GStm) := by
  refine D.cl sc_read_statement (fun vs H Q E h => ?_) (fun cdv A outer s H vs Q E hr h => ?_)
  · obtain ⟨l, tks, D, rfl, _⟩ := h
    rfl
  obtain ⟨l, tks, D, rfl, hl, hsc, htl, hG, q⟩ := h
  refine ⟨_, (pss_one (ps_ret (pc c_read_whole hr (by first | decide | omega) (by rfl) (pa_cons (pv 0) (pa_cons (pe_glob (v := .ref _) (by rfl) D_statement.mgf rfl) pa_nil))))), ?_⟩
  exact ⟨_, rfl, l, tks, D, rfl, hl, hsc, htl, hG, q⟩
theorem c_read_question {k : Nat} {f g : Addr} {fd gfd : FuncData} (D : Df K mg "read_question" s_read_question f fd ["text"]) (D_question : Df K mg "question" s_question g gfd ["cursor"]) (c_read_whole : Cl P w K mg base k "_read_whole" (spWhole K GQst g)) : Cl P w K mg base (k + 1) "read_question" (spRead K GQst) := by
  refine D.cl sc_read_question (fun vs H Q E h => ?_) (fun cdv A outer s H vs Q E hr h => ?_)
  · obtain ⟨l, tks, D, rfl, _⟩ := h
    rfl
  obtain ⟨l, tks, D, rfl, hl, hsc, htl, hG, q⟩ := h
  refine ⟨_, (pss_one (ps_ret (pc c_read_whole hr (by first | decide | omega) (by rfl) (pa_cons (pv 0) (pa_cons (pe_glob (v := .ref _) (by rfl) D_question.mgf rfl) pa_nil))))), ?_⟩
  exact ⟨_, rfl, l, tks, D, rfl, hl, hsc, htl, hG, q⟩
end
end
/-! canonical statements and items as spelled tokens -/
def canS : Stm → List Nat → Ps
  | .below c d, g => canC c [32] ++ (lit "below", [32]) :: canC d g
  | .equals c d, g => canC c [32] ++ (lit "equals", [32]) :: canC d g
  | .apart c d, g => canC c [] ++ (lit ",", [32]) :: (canC d [32] ++ [(lit "apart", g)])
  | .domain r c, g => (lit "domain", [32]) :: (rolP r [32] ++ canC c g)
  | .range r c, g => (lit "range", [32]) :: (rolP r [32] ++ canC c g)
  | .under r s, g => rolP r [32] ++ (lit "under", [32]) :: rolP s g
  | .inverse a b, g => [(a, [32]), (lit "inverse", [32]), (b, g)]
  | .is a c, g => (a, [32]) :: (lit "is", [32]) :: canC c g
  | .has a b c, g => [(a, [32]), (b, [32]), (c, g)]
  | .never, g => [(lit "never", g)]
def tkS : Stm → List (List Nat)
  | .below c d => tkC c ++ lit "below" :: tkC d
  | .equals c d => tkC c ++ lit "equals" :: tkC d
  | .apart c d => tkC c ++ lit "," :: (tkC d ++ [lit "apart"])
  | .domain r c => lit "domain" :: (rolW r ++ tkC c)
  | .range r c => lit "range" :: (rolW r ++ tkC c)
  | .under r s => rolW r ++ lit "under" :: rolW s
  | .inverse a b => [a, lit "inverse", b]
  | .is a c => a :: lit "is" :: tkC c
  | .has a b c => [a, b, c]
  | .never => [lit "never"]
def SNm : Stm → Prop
  | .below c d | .equals c d | .apart c d => CNm c ∧ CNm d
  | .domain r c | .range r c => NmC r.1 ∧ CNm c
  | .under r s => NmC r.1 ∧ NmC s.1
  | .inverse a b => NmC a ∧ NmC b
  | .is a c => NmC a ∧ CNm c
  | .has a b c => NmC a ∧ NmC b ∧ NmC c
  | .never => True
theorem canS_map (s : Stm) (g : List Nat) : (canS s g).map (·.1) = tkS s := by
  cases s <;> simp [canS, tkS, canC_map, rolP_map]
theorem cm_lit : lit ", " = lit "," ++ [32] := by decide +kernel
theorem ap_lit : lit " apart" = [32] ++ lit "apart" := by decide +kernel
theorem un_lit : lit " under " = [32] ++ lit "under" ++ [32] := by decide +kernel
theorem in_lit : lit " inverse " = [32] ++ lit "inverse" ++ [32] := by decide +kernel
theorem is_lit : lit " is " = [32] ++ lit "is" ++ [32] := by decide +kernel
theorem canS_spell (s : Stm) (g : List Nat) : spellT (canS s g) = s.pr ++ g := by
  cases s <;> simp [canS, Stm.pr, spell_app, spellT, canC_spell, rolP_spell, sp_lit, cm_lit, ap_lit, un_lit, in_lit, is_lit]
theorem good_canS {s : Stm} (h : SNm s) {g : List Nat} {rest : Ps} (hg : GapP g) (hn : Nx g rest) (hr : GoodS rest) : GoodS (canS s g ++ rest) := by
  cases s with
  | below c d =>
    show GoodS ((canC c [32] ++ (lit "below", [32]) :: canC d g) ++ rest)
    rw [List.append_assoc]
    exact good_canC h.1 _ _ gap1 nx1 (good_word (by decide +kernel) gap1 nx1 (good_canC h.2 _ _ hg hn hr))
  | equals c d =>
    show GoodS ((canC c [32] ++ (lit "equals", [32]) :: canC d g) ++ rest)
    rw [List.append_assoc]
    exact good_canC h.1 _ _ gap1 nx1 (good_word (by decide +kernel) gap1 nx1 (good_canC h.2 _ _ hg hn hr))
  | apart c d =>
    show GoodS ((canC c [] ++ (lit ",", [32]) :: (canC d [32] ++ [(lit "apart", g)])) ++ rest)
    rw [List.append_assoc, List.cons_append, List.append_assoc]
    exact good_canC h.1 _ _ gap0 (nxS (by decide +kernel)) (good_sign (by decide +kernel) gap1 (good_canC h.2 _ _ gap1 nx1 (good_word (by decide +kernel) hg hn hr)))
  | domain r c =>
    show GoodS ((lit "domain", [32]) :: ((rolP r [32] ++ canC c g) ++ rest))
    rw [List.append_assoc]
    exact good_word (by decide +kernel) gap1 nx1 (good_rolP h.1 gap1 nx1 (good_canC h.2 _ _ hg hn hr))
  | range r c =>
    show GoodS ((lit "range", [32]) :: ((rolP r [32] ++ canC c g) ++ rest))
    rw [List.append_assoc]
    exact good_word (by decide +kernel) gap1 nx1 (good_rolP h.1 gap1 nx1 (good_canC h.2 _ _ hg hn hr))
  | under r s =>
    show GoodS ((rolP r [32] ++ (lit "under", [32]) :: rolP s g) ++ rest)
    rw [List.append_assoc]
    exact good_rolP h.1 gap1 nx1 (good_word (by decide +kernel) gap1 nx1 (good_rolP h.2 hg hn hr))
  | inverse a b => exact good_word (isNm_word h.1.1) gap1 nx1 (good_word (by decide +kernel) gap1 nx1 (good_word (isNm_word h.2.1) hg hn hr))
  | is a c => exact good_word (isNm_word h.1.1) gap1 nx1 (good_word (by decide +kernel) gap1 nx1 (good_canC h.2 _ _ hg hn hr))
  | has a b c => exact good_word (isNm_word h.1.1) gap1 nx1 (good_word (isNm_word h.2.1.1) gap1 nx1 (good_word (isNm_word h.2.2.1) hg hn hr))
  | never => exact good_word (by decide +kernel) hg hn hr
theorem tkC_lc {c : Con} (h : CNm c) (hd : c.dp ≤ 4) : LC c (tkC c) := ⟨_, _, tkC_lo h, by have := neC_le c; omega, by omega⟩
theorem tkS_ls {s : Stm} (h : SNm s) (hd : s.dp ≤ 4) (hv : s ≠ .never) : LS s (tkS s) := by
  cases s with
  | below c d => have hd2 : max c.dp d.dp ≤ 4 := hd; exact .below (tkC_lc h.1 (by omega)) (tkC_lc h.2 (by omega))
  | equals c d => have hd2 : max c.dp d.dp ≤ 4 := hd; exact .equals (tkC_lc h.1 (by omega)) (tkC_lc h.2 (by omega))
  | apart c d => have hd2 : max c.dp d.dp ≤ 4 := hd; exact .apart (tkC_lc h.1 (by omega)) (tkC_lc h.2 (by omega))
  | domain r c => exact .domain h.1 (tkC_lc h.2 hd)
  | range r c => exact .range h.1 (tkC_lc h.2 hd)
  | under r s => exact .under h.1 h.2
  | inverse a b => exact .inverse h.1 h.2
  | is a c => exact .is h.1 (tkC_lc h.2 hd)
  | has a b c => exact .has h.1 h.2.1 h.2.2
  | never => exact absurd rfl hv
def canI : Itm → List Nat → Ps
  | .ax n s, g => (lit "axiom", [32]) :: (n, []) :: (lit ":", [32]) :: (canS s [] ++ [(lit ";", g)])
  | .decl k ns, g => (lit (dword k), [32]) :: (ns.headD [], []) :: ((ns.tail.map fun m => [(lit ",", [32]), (m, [])]).flatten ++ [(lit ";", g)])
theorem comP_map (ns : List (List Nat)) : ((ns.map fun m => [(lit ",", [32]), (m, ([] : List Nat))]).flatten).map (·.1) = comT ns := by
  induction ns with
  | nil => rfl
  | cons n ns ih =>
    show lit "," :: n :: ((ns.map fun m => [(lit ",", [32]), (m, ([] : List Nat))]).flatten).map (·.1) = lit "," :: n :: comT ns
    rw [ih]
theorem comP_spell (n : List Nat) (ns : List (List Nat)) : n ++ spellT ((ns.map fun m => [(lit ",", [32]), (m, ([] : List Nat))]).flatten) = TL.joinL (lit ", ") (n :: ns) := by
  induction ns generalizing n with
  | nil => simp [spellT, TL.joinL]
  | cons m ns ih =>
    show n ++ (lit "," ++ [32] ++ (m ++ [] ++ spellT ((ns.map fun m => [(lit ",", [32]), (m, ([] : List Nat))]).flatten))) = n ++ (lit ", " ++ TL.joinL (lit ", ") (m :: ns))
    rw [← ih m, cm_lit]
    simp
def INm : Itm → Prop
  | .ax n s => NmC n ∧ SNm s ∧ s.dp ≤ 4 ∧ s ≠ .never
  | .decl k ns => k < 3 ∧ ns ≠ [] ∧ ns.length ≤ 100 ∧ ∀ n ∈ ns, NmC n
theorem canI_spell {i : Itm} (h : INm i) (g : List Nat) : spellT (canI i g) = i.pr ++ g := by
  cases i with
  | ax n s =>
    have e1 : lit "axiom " = lit "axiom" ++ [32] := by decide +kernel
    have e2 : lit ": " = lit ":" ++ [32] := by decide +kernel
    simp [canI, Itm.pr, spellT, spell_app, canS_spell, e1, e2]
  | decl k ns =>
    cases ns with
    | nil => exact absurd rfl h.2.1
    | cons n ns =>
      have e := comP_spell n ns
      show lit (dword k) ++ [32] ++ (n ++ [] ++ spellT ((ns.map fun m => [(lit ",", [32]), (m, [])]).flatten ++ [(lit ";", g)])) = (lit (dword k) ++ lit " " ++ TL.joinL (lit ", ") (n :: ns) ++ lit ";") ++ g
      rw [spell_app, ← e, sp_lit]
      simp [spellT]
theorem canI_li {i : Itm} (h : INm i) (g : List Nat) : LI i ((canI i g).map (·.1)) := by
  cases i with
  | ax n s =>
    obtain ⟨h1, h2, h3, h4⟩ := h
    have := LI.ax h1 (tkS_ls h2 h3 h4)
    simp only [canI, List.map_cons, List.map_append, canS_map, List.map_nil]
    exact this
  | decl k ns =>
    obtain ⟨h1, h2, h3, h4⟩ := h
    cases ns with
    | nil => exact absurd rfl h2
    | cons n ns =>
      have := LI.decl (k := k) h1 (h4 n (List.mem_cons_self ..)) (fun m hm => h4 m (List.mem_cons_of_mem _ hm)) (by rw [List.length_cons] at h3; omega)
      simp only [canI, List.map_cons, List.map_append, List.map_nil, List.headD_cons, List.tail_cons, comP_map]
      exact this
theorem good_com {ns : List (List Nat)} (h : ∀ n ∈ ns, NmC n) {rest : Ps} (hs : ∀ q t', rest = q :: t' → signB q.1 = true) (hr : GoodS rest) : GoodS ((ns.map fun m => [(lit ",", [32]), (m, ([] : List Nat))]).flatten ++ rest) ∧ ∀ q t', (ns.map fun m => [(lit ",", [32]), (m, ([] : List Nat))]).flatten ++ rest = q :: t' → signB q.1 = true := by
  induction ns with
  | nil => exact ⟨hr, hs⟩
  | cons n ns ih =>
    obtain ⟨i1, i2⟩ := ih fun m hm => h m (List.mem_cons_of_mem _ hm)
    refine ⟨good_sign (by decide +kernel) gap1 (good_word (isNm_word (h n (List.mem_cons_self ..)).1) gap0 (fun _ => i2) i1), fun q t' e => ?_⟩
    cases e
    decide +kernel
theorem good_canI {i : Itm} (h : INm i) {g : List Nat} {rest : Ps} (hg : GapP g) (hr : GoodS rest) : GoodS (canI i g ++ rest) := by
  cases i with
  | ax n s =>
    obtain ⟨h1, h2, h3, h4⟩ := h
    show GoodS ((lit "axiom", [32]) :: (n, []) :: (lit ":", [32]) :: ((canS s [] ++ [(lit ";", g)]) ++ rest))
    rw [List.append_assoc]
    exact good_word (by decide +kernel) gap1 nx1 (good_word (isNm_word h1.1) gap0 (nxS (by decide +kernel)) (good_sign (by decide +kernel) gap1 (good_canS h2 gap0 (nxS (by decide +kernel)) (good_sign (by decide +kernel) hg hr))))
  | decl k ns =>
    obtain ⟨h1, h2, h3, h4⟩ := h
    cases ns with
    | nil => exact absurd rfl h2
    | cons n ns =>
      have hw : wordB (lit (dword k)) = true := by
        obtain rfl | rfl | rfl : k = 0 ∨ k = 1 ∨ k = 2 := by omega
        all_goals decide +kernel
      show GoodS ((lit (dword k), [32]) :: (n, []) :: (((ns.map fun m => [(lit ",", [32]), (m, [])]).flatten ++ [(lit ";", g)]) ++ rest))
      rw [List.append_assoc]
      obtain ⟨i1, i2⟩ := good_com (ns := ns) (fun m hm => h4 m (List.mem_cons_of_mem _ hm)) (rest := (lit ";", g) :: rest) (fun q t' e => by cases e; exact (by decide +kernel : signB (lit ";") = true)) (good_sign (by decide +kernel) hg hr)
      exact good_word hw gap1 nx1 (good_word (isNm_word (h4 n (List.mem_cons_self ..)).1) gap0 (fun _ => i2) i1)
def canL (is : List Itm) : Ps := (is.map fun i => canI i [10]).flatten
theorem gapN : GapP [10] := gap_blank (by decide +kernel)
theorem canL_spell : ∀ {is : List Itm}, (∀ i ∈ is, INm i) → spellT (canL is) = prSrc is
  | [], _ => rfl
  | i :: is, h => by
    show spellT (canI i [10] ++ canL is) = (i.pr ++ [10]) ++ prSrc is
    rw [spell_app, canI_spell (h i (List.mem_cons_self ..)), canL_spell fun j hj => h j (List.mem_cons_of_mem _ hj)]
theorem good_canL : ∀ {is : List Itm}, (∀ i ∈ is, INm i) → GoodS (canL is)
  | [], _ => trivial
  | i :: is, h => good_canI (h i (List.mem_cons_self ..)) gapN (good_canL fun j hj => h j (List.mem_cons_of_mem _ hj))
theorem canL_map (is : List Itm) : (canL is).map (·.1) = flT (is.map fun i => (i, (canI i [10]).map (·.1))) := by
  induction is with
  | nil => rfl
  | cons i is ih =>
    show (canI i [10] ++ canL is).map (·.1) = (canI i [10]).map (·.1) ++ flT (is.map fun i => (i, (canI i [10]).map (·.1)))
    rw [List.map_append, ih]
theorem good_len : ∀ {ps : Ps}, GoodS ps → ps.length ≤ (spellT ps).length
  | [], _ => Nat.le_refl _
  | p :: t, h => by
    obtain ⟨h1, _, _, h4⟩ := h
    have ih := good_len h4
    have : 0 < p.1.length := by
      cases e : p.1 with
      | nil =>
        rw [e] at h1
        rcases h1 with h1 | h1 <;> exact absurd h1 (by decide)
      | cons a b => exact Nat.succ_pos _
    show t.length + 1 ≤ (p.1 ++ p.2 ++ spellT t).length
    rw [List.length_append, List.length_append]
    omega
theorem toks_map : ∀ (ps : Ps) (a : Nat), (tokensOf ps a).map Tk.s = ps.map (·.1)
  | [], _ => rfl
  | p :: t, a => by
    show p.1 :: (tokensOf t _).map Tk.s = p.1 :: t.map (·.1)
    rw [toks_map t]
/-- a text that is spelled by tokens -/
theorem scan_can {l : List Nat} {ps : Ps} (g : GoodS ps) (e : spellT ps = l) : scan l.length l 0 = (tokensOf ps 0, none) ∧ (tokensOf ps 0).length ≤ l.length ∧ (tokensOf ps 0).map Tk.s = ps.map (·.1) := by
  subst e
  exact ⟨scan_spell g, by rw [toks_len]; exact good_len g, toks_map ps 0⟩
theorem stm_nm {l r : List Nat} (f : FrameOk l r) {s : Stm} (h : s.Ok l r) : SNm s := by
  have nm : ∀ {m s}, s ∈ nmL l r m → (∀ c ∈ m, c ∈ mk0 ++ mk1 ++ mk2 ++ mk3) → NmC s := fun h hm => ⟨nm_ok f h hm, Nat.le_trans (nm_len f h) (by decide)⟩
  have m1 : ∀ c ∈ mk1, c ∈ mk0 ++ mk1 ++ mk2 ++ mk3 := by decide +kernel
  have m2 : ∀ c ∈ mk2, c ∈ mk0 ++ mk1 ++ mk2 ++ mk3 := by decide +kernel
  cases s with
  | below c d | equals c d | apart c d => exact ⟨con_nm f h.1, con_nm f h.2⟩
  | domain r c | range r c => exact ⟨nm h.1 m1, con_nm f h.2⟩
  | under r s => exact ⟨nm h.1 m1, nm h.2 m1⟩
  | inverse a b => exact ⟨nm h.1 m1, nm h.2 m1⟩
  | is a c => exact ⟨nm h.1 m2, con_nm f h.2⟩
  | has a b c => exact ⟨nm h.1 m2, nm h.2.1 m1, nm h.2.2 m2⟩
  | never => trivial
section
variable {P : Program} {w : World} {K : PySem.W.Frag} {mg : Str → Option Value} {base : Heap}
theorem Dr.start {H : Hp} {d nm z p0 p1 p2 p3 : Addr} {l r : List Nat} {ds : List Int} (hf : FrameOk l r) (f : H d = some (.lst (ds.map V.int))) (na : NA H l r nm p0 p1 p2 p3) (ap : AP d nm p0 p1 p2 p3) (hz : H z = none) : Dr K (upd H z (.tup [.int 9, .int 5, .int 5])) d nm z l r :=
  ⟨hf, ⟨ds, p0, p1, p2, p3, Same.new _ hz _ _ f, na.same (Same.new _ hz), ap⟩, .of upd_same⟩
theorem Dr.again {H : Hp} {d nm z z' : Addr} {l r : List Nat} (h : Dr K H d nm z l r) (hz : H z' = none) : Dr K (upd H z' (.tup [.int 9, .int 5, .int 5])) d nm z' l r := by
  obtain ⟨ds, p0, p1, p2, p3, h1, h2, h3⟩ := h.ex
  exact Dr.start h.ok h1 h2 h3 hz
section
variable {σ : L2.St} {H : Hp} {ta tb tc td : TE} {a b c d : List Nat} {tt u : TS} {D : Ends}
theorem same_txt {n : Nat} {R : VK} (ga : GT ta σ H a) (gb : GT tb σ H a) (q : ∀ H', Same H H' → R (.bl true) H') : tCall (spSame K (n + 1)) [] E0 (tCons ta (tCons tb tNil)) σ H R :=
  ga H (Same.refl _) _ fun H1 e1 => gb H1 e1 _ fun H2 e2 => ⟨_, _, .str (T a), rfl, .str _, .str _, trivial, fun H3 e3 => q H3 ((e1.trans e2).trans e3)⟩
theorem if_same1 {n : Nat} (ga : GT ta σ H a) (gb : GT tb σ H a) (q : ∀ H', Same H H' → u D σ H') : tIfS (tNot (tB (tCall (spSame K (n + 1)) [] E0 (tCons ta (tCons tb tNil))))) tt u D σ H :=
  same_txt ga gb fun H' e => ⟨true, rfl, iteF (q H' e)⟩
theorem if_same2 {n : Nat} (ga : GT ta σ H a) (gb : GT tb σ H a) (gc : GT tc σ H c) (gd : GT td σ H c) (q : ∀ H', Same H H' → u D σ H') : tIfS (tOr (tNot (tB (tCall (spSame K (n + 1)) [] E0 (tCons ta (tCons tb tNil))))) (tNot (tB (tCall (spSame K (n + 1)) [] E0 (tCons tc (tCons td tNil)))))) tt u D σ H :=
  same_txt ga gb fun H' e => ⟨true, rfl, iteF (same_txt (gc.mono e) (gd.mono e) fun H2 e2 => ⟨true, rfl, iteF (q H2 (e.trans e2))⟩)⟩
variable {v : V} {n i : Nat}
theorem gt_pcv {c : Con} (hσ : σ[i]? = some (some v)) (hd : Dp K H v c.D) (hn : c.dp < n) (hz : c.sz ≤ 100000) : GT (tCall (spPC K n) [] E0 (tCons (tVar i) tNil)) σ H c.pr := fun H1 e R r => ⟨_, hσ, v, c, rfl, Dp.same e hd, hn, hz, r⟩
theorem gt_sayv {c : Con} (hσ : σ[i]? = some (some v)) (hd : Dp K H v c.D) (hn : c.dp < n) (hz : c.sz ≤ 100000) : GT (tCall (spSay K n) [] E0 (tCons (tVar i) (tCons (tC (.int 1)) tNil))) σ H c.pr := fun H1 e R r => ⟨_, hσ, v, c, 0, rfl, Dp.same e hd, hn, hz, fun H' e' => by
  rw [decide_eq_false (Nat.not_lt_zero _)]
  exact r H' e'⟩
theorem gt_psv {s : Stm} (hσ : σ[i]? = some (some v)) (hd : Dp K H v s.D) (hn : s.dp < n) (hz : s.sz ≤ 100000) (hv : s ≠ .never) : GT (tCall (spPS K n) [] E0 (tCons (tVar i) tNil)) σ H s.pr := fun H1 e R r => ⟨_, hσ, v, s, rfl, Dp.same e hd, hn, hz, hv, r⟩
theorem gt_pqv {s : Stm} (hσ : σ[i]? = some (some v)) (hd : Dp K H v s.D) (hn : s.dp < n) (hz : s.sz ≤ 100000) : GT (tCall (spPQ K n) [] E0 (tCons (tVar i) tNil)) σ H s.pr := fun H1 e R r => ⟨_, hσ, v, s, rfl, Dp.same e hd, hn, hz, r⟩
theorem gt_word3 {s0 s1 s2 : String} {k : Nat} {s : String} (hσ : σ[i]? = some (some (.int (k : Int)))) (hk : [s0, s1, s2][k]? = some s) : GT (tOp (rIxT K) (tTup (tCons (tC (.str (Str.ofString s0))) (tCons (tC (.str (Str.ofString s1))) (tCons (tC (.str (Str.ofString s2))) tNil)))) (tVar i)) σ H (lit s) := fun H1 e R r => by
  refine ⟨by show 3 ≤ sizeLine; decide, fun p hp => ⟨_, hσ, p, _, _, .str (Str.ofString s), rfl, rfl, .of upd_same, atI_nat ?_, ?_⟩⟩
  · have := congrArg (Option.map fun x : String => V.str (Str.ofString x)) hk
    rw [← List.getElem?_map] at this
    exact this
  · have := r _ (Same.new (.tup [.str (Str.ofString s0), .str (Str.ofString s1), .str (Str.ofString s2)]) hp)
    rw [← lit_T] at this
    exact this
end
def wdS : Nat → String
  | 0 => "concept "
  | 1 => "role "
  | _ => "individual "
theorem wd_eq {k : Nat} (h : k < 3) : lit (wdS k) = lit (dword k) ++ lit " " := by
  obtain rfl | rfl | rfl : k = 0 ∨ k = 1 ∨ k = 2 := by omega
  all_goals decide +kernel
theorem wd_at {k : Nat} (h : k < 3) : ["concept ", "role ", "individual "][k]? = some (wdS k) := by
  obtain rfl | rfl | rfl : k = 0 ∨ k = 1 ∨ k = 2 := by omega
  all_goals rfl
theorem key_at {k : Nat} (h : k < 3) : ["concepts", "roles", "individuals"][k]? = some (dkey k) := by
  obtain rfl | rfl | rfl : k = 0 ∨ k = 1 ∨ k = 2 := by omega
  all_goals rfl
theorem wd_len {k : Nat} (h : k < 3) : (lit (wdS k)).length ≤ 20 := by
  obtain rfl | rfl | rfl : k = 0 ∨ k = 1 ∨ k = 2 := by omega
  all_goals decide +kernel
theorem nl_lit : lit ";\n" = lit ";" ++ [10] := by decide +kernel
theorem mks_at {k : Nat} (h : k < 4) : ∃ m, mks[k]? = some m ∧ m.length ≤ 20 := by
  obtain rfl | rfl | rfl | rfl : k = 0 ∨ k = 1 ∨ k = 2 ∨ k = 3 := by omega
  all_goals exact ⟨_, rfl, by decide +kernel⟩
theorem cutI_mem {α : Type} {ds : List α} {lo hi : Option Int} {x : α} (h : x ∈ cutI ds lo hi) : x ∈ ds := List.mem_of_mem_drop (List.mem_of_mem_take h)
theorem cutI_len {α : Type} {ds : List α} {lo hi : Option Int} : (cutI ds lo hi).length ≤ ds.length := by
  unfold cutI
  rw [List.length_take, List.length_drop]
  omega
theorem names_tn (ns : List (List Nat)) (h : ns.length ≤ 100000) : TupN 2 (namesD ns) := ⟨by rw [List.length_map]; exact h, fun d hd => by
  obtain ⟨n, _, rfl⟩ := List.mem_map.mp hd
  trivial⟩
theorem Itm.tn {i : Itm} (h : i.Sz) : TupN (i.dp + 5) i.D := by
  cases i with
  | decl k ns => exact tup2 trivial ((names_tn ns (by have := h.2.1; omega)).le (by show 2 ≤ 0 + 4; decide))
  | ax n s => exact tup3 trivial trivial (Stm.tn s)
theorem can_con {c : Con} (h : CNm c) (hd : c.dp ≤ 4) : ∃ tks, scan c.pr.length c.pr 0 = (tks, none) ∧ tks.length ≤ c.pr.length ∧ GCon c.D (tks.map Tk.s) := by
  have g := good_canC h [] [] gap0 (fun _ _ _ e => nomatch e) trivial
  rw [List.append_nil] at g
  have e := canC_spell c []
  rw [List.append_nil] at e
  obtain ⟨h1, h2, h3⟩ := scan_can g e
  refine ⟨_, h1, h2, ?_⟩
  rw [h3, canC_map]
  exact (tkC_lc h hd).g
theorem can_stm {s : Stm} (h : SNm s) (hd : s.dp ≤ 4) (hv : s ≠ .never) : ∃ tks, scan s.pr.length s.pr 0 = (tks, none) ∧ tks.length ≤ s.pr.length ∧ GStm s.D (tks.map Tk.s) := by
  have g := good_canS h gap0 (rest := []) (fun _ _ _ e => nomatch e) trivial
  rw [List.append_nil] at g
  have e := canS_spell s []
  rw [List.append_nil] at e
  obtain ⟨h1, h2, h3⟩ := scan_can g e
  refine ⟨_, h1, h2, ?_⟩
  rw [h3, canS_map]
  exact ⟨s, rfl, tkS_ls h hd hv⟩
theorem tkS_lq {s : Stm} (h : SNm s) (hd : s.dp ≤ 4) (k : QK s) : LQ s (tkS s) := by
  cases s with
  | below c d => have hd2 : max c.dp d.dp ≤ 4 := hd; exact .below (tkC_lc h.1 (by omega)) (tkC_lc h.2 (by omega))
  | is a c => exact .is h.1 (tkC_lc h.2 hd)
  | has a b c => exact .has h.1 h.2.1 h.2.2
  | never => exact .never
  | _ => exact k.elim
theorem can_qst {s : Stm} (h : SNm s) (hd : s.dp ≤ 4) (hk : QK s) : ∃ tks, scan s.pr.length s.pr 0 = (tks, none) ∧ tks.length ≤ s.pr.length ∧ GQst s.D (tks.map Tk.s) := by
  have g := good_canS h gap0 (rest := []) (fun _ _ _ e => nomatch e) trivial
  rw [List.append_nil] at g
  have e := canS_spell s []
  rw [List.append_nil] at e
  obtain ⟨h1, h2, h3⟩ := scan_can g e
  refine ⟨_, h1, h2, ?_⟩
  rw [h3, canS_map]
  exact ⟨s, rfl, tkS_lq h hd hk⟩
def RdT (is : List Itm) : List (Itm × List (List Nat)) := is.map fun i => (i, (canI i [10]).map (·.1))
theorem can_src {is : List Itm} (h : ∀ i ∈ is, INm i) : ∃ tks, scan (prSrc is).length (prSrc is) 0 = (tks, none) ∧ tks.length ≤ (prSrc is).length ∧ tks.map Tk.s = flT (RdT is) ∧ ∀ x ∈ RdT is, LI x.1 x.2 := by
  obtain ⟨h1, h2, h3⟩ := scan_can (good_canL h) (canL_spell h)
  refine ⟨_, h1, h2, h3.trans (canL_map is), fun x hx => ?_⟩
  obtain ⟨i, hi, rfl⟩ := List.mem_map.mp hx
  exact canI_li (h i hi) _
theorem RdT_D (is : List Itm) : (RdT is).map (fun x => x.1.D) = is.map Itm.D := by
  unfold RdT
  rw [List.map_map]
  rfl
theorem prSrc_le {m : Nat} : ∀ {is : List Itm}, (∀ i ∈ is, i.pr.length + 1 ≤ m) → (prSrc is).length ≤ is.length * m
  | [], _ => Nat.zero_le _
  | i :: is, h => by
    have h1 := h i (List.mem_cons_self ..)
    have h2 := prSrc_le (is := is) fun j hj => h j (List.mem_cons_of_mem _ hj)
    show (prSrc (i :: is)).length ≤ (is.length + 1) * m
    rw [show prSrc (i :: is) = (i.pr ++ [10]) ++ prSrc is from rfl, List.length_append, List.length_append, Nat.add_mul]
    have : [10].length = 1 := rfl
    omega
section
variable {σ : L2.St} {H : Hp} {ta tb : TE} {l : List Nat} {tt u : TS} {D : Ends} {v : V} {i : Nat}
/-- what is printed is read back -/
theorem if_back {G : PyData → List (List Nat) → Prop} {n m : Nat} {X : PyData} {tks : List Tk} (ga : GT ta σ H l) (hl : l.length ≤ 20000) (hs : scan l.length l 0 = (tks, none)) (ht : tks.length ≤ l.length) (hg : G X (tks.map Tk.s)) (hσ : σ[i]? = some (some v)) (hd : Dp K H v X) (tn : TupN n X) (q : ∀ H', Same H H' → u D σ H') :
    tIfS (tNot (tB (tCall (spSame K n) [] E0 (tCons (tCall (spRead K G) [] E0 (tCons ta tNil)) (tCons (tVar i) tNil))))) tt u D σ H :=
  ga H (Same.refl _) _ fun H1 e1 => ⟨l, tks, X, rfl, hl, hs, by omega, hg, fun v' H2 e2 d2 => ⟨_, hσ, v', v, X, rfl, d2, Dp.same (e1.trans e2) hd, tn, fun H3 e3 => ⟨true, rfl, iteF (q H3 ((e1.trans e2).trans e3))⟩⟩⟩
end
def spLaw (K : PySem.W.Frag) : Sp := fun vs H Q _ => ∃ (a : Addr) (ns : List Int), vs = [.ref a] ∧ SqL K H a (ns.map V.int) ∧ ns.length ≤ 63 ∧ ∀ H', Q (.bl true) H'
theorem pow_small {n : Nat} (h : n < 5) : 2 ^ n ≤ 16 := pow_dp (m := 4) (by omega)
theorem ok_law {f : Addr} {fd : FuncData} (F : Fun K "law" "law" s_law f fd) (c_law_draws : Cl P w K mg base 2 "_law_draws" (spDraws K)) (c_law_take : Cl P w K mg base 1 "_law_take" spTake) (c_law_cell : Cl P w K mg base 1 "_law_cell" (spCell K)) (c_law_names : Cl P w K mg base 3 "_law_names" (spNames K))
    (c_law_concept : Cl P w K mg base 8 "_law_concept" (spConD K 5)) (c_law_statement : Cl P w K mg base 9 "_law_statement" (spStmD K 5)) (c_law_question : Cl P w K mg base 9 "_law_question" (spQstD K 5))
    (c_law_say : Cl P w K mg base 7 "_law_say" (spSay K 5)) (c_print_concept : Cl P w K mg base 11 "print_concept" (spPC K 5)) (c_print_statement : Cl P w K mg base 12 "print_statement" (spPS K 5)) (c_print_question : Cl P w K mg base 13 "print_question" (spPQ K 5)) (c_print_source : Cl P w K mg base 14 "print_source" (spSrc K 5))
    (c_read_concept : Cl P w K mg base 80 "read_concept" (spRead K GCon)) (c_read_statement : Cl P w K mg base 80 "read_statement" (spRead K GStm)) (c_read_question : Cl P w K mg base 80 "read_question" (spRead K GQst)) (c_read_source : Cl P w K mg base 80 "read_source" (spRdS K))
    (c_law_same : Cl P w K mg base 41 "_law_same" (spSame K 40)) (z_range : mg "range" = none) (z_int : mg "int" = none) (z_tuple : mg "tuple" = none) (z_len : mg "len" = none) : FnOk P w K mg base CX0 81 f fd ["script"] (spLaw K) := by
  refine F.ok sc_law (fun vs H Q E h => ?_) (fun cdv A outer s H vs Q E hr h => ?_)
  · obtain ⟨a, ns, rfl, _⟩ := h
    rfl
  obtain ⟨a, ns, rfl, hS, h63, q⟩ := h
  refine ⟨_, (pss_cons (ps_set (i := 1) sc_law.nd rfl (.inl rfl) (pc c_law_draws hr (by first | decide | omega) (by rfl) (pa_cons (pv 0) (pa_cons pe_int (pa_cons pe_int pa_nil)))))
      (pss_cons (ps_set (i := 2) sc_law.nd rfl (.inl rfl) (pc c_law_names hr (by first | decide | omega) (by rfl) (pa_cons (pv 1) pa_nil)))
      (pss_cons (ps_set (i := 3) sc_law.nd rfl (.inl rfl) (pc c_law_concept hr (by first | decide | omega) (by rfl) (pa_cons (pv 1) (pa_cons (pv 2) (pa_cons (pe_tup (pa_cons pe_int (pa_cons pe_int (pa_cons pe_int pa_nil)))) (pa_cons (pe_op op_add pe_int (pc c_law_take hr (by first | decide | omega) (by rfl) (pa_cons (pv 1) (pa_cons pe_int pa_nil)))) pa_nil))))))
      (Evl.pss_cut (ps_if (pt_cmpR op_le (pe_callB call_len_str (by rfl) z_len PySem.boot_len (pa_cons (pc c_law_say hr (by first | decide | omega) (by rfl) (pa_cons (pv 3) (pa_cons pe_int pa_nil))) pa_nil)) pe_int (nomark _)) (pss_one (ps_if (pt_not (pt_val (pc c_law_same hr (by first | decide | omega) (by rfl) (pa_cons (pc c_read_concept hr (by first | decide | omega) (by rfl) (pa_cons (pc c_print_concept hr (by first | decide | omega) (by rfl) (pa_cons (pv 3) pa_nil)) pa_nil)) (pa_cons (pv 3) pa_nil))))) (pss_one (ps_ret pe_bl)) pss_nil)) pss_nil)
      (pss_cons (ps_set (i := 4) sc_law.nd rfl (.inl rfl) (pe_lst pa_nil))
      (pss_cons (ps_for PassesOwn.never rfl (pi_range1 (by rfl) z_range (pa_cons (pe_op op_add pe_int (pe_op op_mod (pe_callTy call_int1 (by rfl) z_int (by decide +kernel) (pa_cons (pc c_law_cell hr (by first | decide | omega) (by rfl) (pa_cons (pv 0) (pa_cons pe_int pa_nil))) pa_nil)) pe_int)) pa_nil)) (pg_name (i := 5) sc_law.nd rfl (.inl rfl)) (pss_cons (ps_set (i := 6) sc_law.nd rfl (.inl rfl) (pc c_law_draws hr (by first | decide | omega) (by rfl) (pa_cons (pv 0) (pa_cons (pe_op op_add pe_int (pv 5)) (pa_cons pe_int pa_nil)))))
      (pss_cons (ps_set (i := 7) sc_law.nd rfl (.inl rfl) (pc c_law_statement hr (by first | decide | omega) (by rfl) (pa_cons (pv 6) (pa_cons (pv 2) (pa_cons (pe_tup (pa_cons pe_int (pa_cons pe_int (pa_cons pe_int pa_nil)))) (pa_cons (pc c_law_take hr (by first | decide | omega) (by rfl) (pa_cons (pv 6) (pa_cons pe_int pa_nil))) pa_nil))))))
      (pss_cons (ps_expr (pe_bm PySem.F.plainAttrs_list PySem.F.slot_list_append PySem.F.type_list_append mt_append (pv 4) (pa_cons (pe_tup (pa_cons pe_str (pa_cons (pe_ix ix_list (pe_ix ix_list (pv 2) pe_int (fun _ _ => rfl)) (pc c_law_take hr (by first | decide | omega) (by rfl) (pa_cons (pv 6) (pa_cons pe_int pa_nil))) (fun _ _ => rfl)) (pa_cons (pv 7) pa_nil)))) pa_nil)))
      (pss_cons (ps_set (i := 8) sc_law.nd rfl (.inl rfl) (pc c_law_question hr (by first | decide | omega) (by rfl) (pa_cons (pv 6) (pa_cons (pv 2) (pa_cons (pe_tup (pa_cons pe_int (pa_cons pe_int (pa_cons pe_int pa_nil)))) (pa_cons pe_int pa_nil))))))
      (pss_cons (ps_if (pt_not (pt_val (pc c_law_same hr (by first | decide | omega) (by rfl) (pa_cons (pc c_read_statement hr (by first | decide | omega) (by rfl) (pa_cons (pc c_print_statement hr (by first | decide | omega) (by rfl) (pa_cons (pv 7) pa_nil)) pa_nil)) (pa_cons (pv 7) pa_nil))))) (pss_one (ps_ret pe_bl)) pss_nil)
      (pss_one (ps_if (pt_not (pt_val (pc c_law_same hr (by first | decide | omega) (by rfl) (pa_cons (pc c_read_question hr (by first | decide | omega) (by rfl) (pa_cons (pc c_print_question hr (by first | decide | omega) (by rfl) (pa_cons (pv 8) pa_nil)) pa_nil)) (pa_cons (pv 8) pa_nil))))) (pss_one (ps_ret pe_bl)) pss_nil))))))))
      (pss_cons (ps_expr (pe_bm PySem.F.plainAttrs_list PySem.F.slot_list_append PySem.F.type_list_append mt_append (pv 4) (pa_cons (pe_tup (pa_cons pe_str (pa_cons (pe_callTy call_tuple_of (by rfl) z_tuple (by decide +kernel) (pa_cons (pe_slice sl_list (pe_ix ix_list (pv 2) pe_int (fun _ _ => rfl)) po_none (po_some (pe_op op_add pe_int (pc c_law_take hr (by first | decide | omega) (by rfl) (pa_cons (pv 1) (pa_cons pe_int pa_nil)))))) pa_nil)) pa_nil))) pa_nil)))
      (pss_cons (ps_set (i := 9) sc_law.nd rfl (.inl rfl) (pc c_print_source hr (by first | decide | omega) (by rfl) (pa_cons (pe_callTy call_tuple_of (by rfl) z_tuple (by decide +kernel) (pa_cons (pv 4) pa_nil)) pa_nil)))
      (pss_cons (ps_set (i := 10) sc_law.nd rfl (.inl rfl) (pc c_read_source hr (by first | decide | omega) (by rfl) (pa_cons (pv 9) pa_nil)))
      (pss_one (ps_ret (pe_and (pc c_law_same hr (by first | decide | omega) (by rfl) (pa_cons (pv 10) (pa_cons (pe_callTy call_tuple_of (by rfl) z_tuple (by decide +kernel) (pa_cons (pv 4) pa_nil)) pa_nil))) (pe_one (pc c_law_same hr (by first | decide | omega) (by rfl) (pa_cons (pc c_print_source hr (by first | decide | omega) (by rfl) (pa_cons (pv 10) pa_nil)) (pa_cons (pv 9) pa_nil)))))))))))))))), ?_⟩
  refine ⟨_, rfl, a, ns, 0, 90, rfl, hS, h63, by decide, by decide, by decide, fun ds d H1 s1 n1 f1 _ => ?_⟩
  refine ⟨_, rfl, d, ds, rfl, f1, fun l r nm p0 p1 p2 p3 ds' H2 hf e2 hnm f2 na ap => ?_⟩
  refine ⟨_, rfl, _, rfl, by show 3 ≤ sizeLine; decide, fun z1 hz1 => ?_⟩
  have h3 : Dr K _ d nm z1 l r := Dr.start hf f2 na ap hz1
  refine take_draw rfl h3 (by decide) fun x H3 x0 x1 e3 h4 => ?_
  obtain ⟨x, rfl⟩ : ∃ k : Nat, x = (k : Int) := ⟨x.toNat, by omega⟩
  refine ⟨_, _, rfl, rfl, d, nm, z1, l, r, x + 1, by rw [show (((x + 1 : Nat) : Int)) = 1 + (x : Int) by omega]; rfl, by omega, h4, fun c v H4 hc hcd hv e4 h5 => ?_⟩
  have S4 : Same H H4 := SameX.free2 s1 n1 (((e2.trans (SameX.new _ hz1)).trans e3).trans e4)
  have lc := Con.sz_le hf hc
  have lcp := pow_small (n := c.dp) (by omega)
  have lpr := c.pr_len
  refine ⟨fun σ' H' => σ' = [some (.ref a), some (.ref d), some (.ref nm), some v, none, none, none, none, none, none, none] ∧ Same H4 H', ?_, ?_⟩
  · refine gt_sayv (K := K) (n := 5) (i := 3) rfl hv (by omega) (by omega) _ (Same.refl _) _ fun H5 e5 => ?_
    refine ⟨_, rfl, by rw [T_len]; exact small9 (by omega), _, _, rfl, rfl, _, rfl, ite2 (fun _ => ?_) (fun _ => ⟨rfl, e5⟩)⟩
    obtain ⟨tks, k1, k2, k3⟩ := can_con (con_nm hf hc) (by omega)
    exact if_back (m := 0) (gt_pcv rfl (Dp.same e5 hv) (by omega) (by omega)) (by omega) k1 k2 k3 rfl (Dp.same e5 hv) ((Con.tn c).le (by omega)) fun H6 e6 => ⟨rfl, e5.trans e6⟩
  rintro _ H5 ⟨rfl, e5⟩
  have h6 := h5.same e5
  have S5 := S4.trans e5
  obtain ⟨ds5, q0, q1, q2, q3, fd5, na5, ap5⟩ := h6.ex
  refine ⟨by show 0 ≤ sizeLine; decide, fun it hit => ?_⟩
  have hitH : H it = none := Same.free S5 hit
  have ndi : d ≠ it := ne_of_none fd5 hit
  refine ⟨_, rfl, a, ns, 1, rfl, (S5.trans (Same.new _ hit)).seq hS, h63, by decide, fun c0 => ?_⟩
  walk_at "w"
  refine ⟨by omega, by omega, for_range (lo := 0) (n := (1 + c0 % 6).toNat) (fun i σ' H' => ∃ (is : List Itm) (ws : List V) (x5 x6 x7 x8 : Option V), σ' = [some (.ref a), some (.ref d), some (.ref nm), some v, some (.ref it), x5, x6, x7, x8, none, none] ∧ is.length = i ∧ H' it = some (.lst ws) ∧ DpAll K H' ws (is.map Itm.D) ∧ (∀ j ∈ is, INm j ∧ j.dp < 5 ∧ j.Sz ∧ j.pr.length + 1 ≤ 2000) ∧ Same H5 H')
    ⟨[], [], none, none, none, none, rfl, rfl, upd_same, .nil, fun j h => by simp at h, Same.new _ hit⟩ ?_ ?_⟩
  · rintro i _ H6 hi ⟨is, ws, x5, x6, x7, x8, rfl, hl, hit6, hD, hok, s6⟩
    have hi6 : i < 7 := by omega
    have hT : ∀ d ∈ is.map Itm.D, TupN 20 d := fun d hd => by
      obtain ⟨j, hj, rfl⟩ := List.mem_map.mp hd
      exact (Itm.tn (hok j hj).2.2.1).le (by have := (hok j hj).2.1; omega)
    have hwl : ws.length = is.length := by rw [dpAll_len hD, List.length_map]
    refine ⟨_, rfl, _, rfl, _, _, rfl, rfl, a, ns, _, 60, rfl, (S5.trans s6).seq hS, h63, by omega, by decide, by decide, fun ds3 d3 H7 s7 n7 f7 _ => ?_⟩
    have na6 := na5.same s6
    have nit : it ≠ d3 := ne_of_none hit6 n7
    refine ⟨_, rfl, _, rfl, by show 3 ≤ sizeLine; decide, fun z3 hz3 => ?_⟩
    have h8 : Dr K _ d3 nm z3 l r := Dr.start hf f7 (na6.same s7) (na6.fresh n7) hz3
    refine take_draw rfl h8 (by decide) fun y H8 y0 y1 e8 h9 => ?_
    obtain ⟨y, rfl⟩ : ∃ k : Nat, y = (k : Int) := ⟨y.toNat, by omega⟩
    refine ⟨d3, nm, z3, l, r, y, rfl, by omega, h9, fun st v2 H9 hs hsd hnev hv2 e9 h10 => ?_⟩
    have S9 : Same H6 H9 := SameX.free2 s7 n7 (((SameX.new _ hz3).trans e8).trans e9)
    obtain ⟨dsy, _, _, _, _, f10, _, _⟩ := h10.ex
    have ap3 := na6.fresh n7
    have na9 := (na6.same s7).mono (((SameX.new (.tup [.int 9, .int 5, .int 5]) hz3).trans e8).trans e9) ap3
    refine ⟨_, rfl, .inl ⟨rfl, _, SqL.of (S9 _ _ hit6)⟩, ?_⟩
    refine ⟨_, rfl, nm, _, _, _, rfl, rfl, SqL.of na9.top, atI_nat (j := 3) rfl, _, rfl, d3, _, 12, rfl, f10, by decide, fun w0 w1 w2 => ?_⟩
    obtain ⟨nn, hnn, hat⟩ := at_names (ns := nmL l r mk3) w1 (by rw [show (nmL l r mk3).length = mk3.length from List.length_map _]; exact Int.lt_of_lt_of_le w2 (by decide +kernel))
    have x10 : SameX d3 H9 (upd H9 d3 (.lst (dsy.tail.map V.int))) := SameX.at _
    have na11 := na9.mono x10 ap3
    have hv3 := h10.mv x10 (Stm.tn st) hv2
    have S10 : Same H6 (upd H9 d3 (.lst (dsy.tail.map V.int))) := SameX.free2 s7 n7 ((((SameX.new _ hz3).trans e8).trans e9).trans x10)
    refine ⟨q3, _, w0, _, rfl, rfl, SqL.of na11.a3, hat, _, rfl, by show 3 ≤ sizeLine; decide, fun p2 hp2 => ?_⟩
    have nw := Same.new (.tup [.str (Str.ofString "axiom"), .str (T nn), v2]) hp2
    have S11 := S10.trans nw
    have hit11 := S11 _ _ hit6
    refine ⟨it, _, _, rfl, rfl, hit11, small1000 (by omega), ?_⟩
    have kt := KT.lst (K := K) (.lst (ws ++ [.ref p2])) hit11
    have hv4 := Dp.kt kt (Stm.tn st) (Dp.same nw hv3)
    have hp7 : SqT K _ p2 [.str (Str.ofString "axiom"), .str (T nn), v2] := kt _ _ (.of upd_same)
    have na12 := (na11.same nw).mono (SameX.at (.lst (ws ++ [.ref p2]))) (na5.fresh hit)
    have ndp : d3 ≠ p2 := ne_of_none upd_same hp2
    have f13 := (upd_ne (o := .lst (ws ++ [.ref p2])) nit.symm).trans ((upd_ne (o := .tup [.str (Str.ofString "axiom"), .str (T nn), v2]) ndp).trans (upd_same (H := H9) (a := d3) (o := .lst (dsy.tail.map V.int))))
    have DI : Dp K (upd (upd (upd H9 d3 (.lst (dsy.tail.map V.int))) p2 (.tup [.str (Str.ofString "axiom"), .str (T nn), v2])) it (.lst (ws ++ [.ref p2]))) (.ref p2) (Itm.ax nn st).D := .tup hp7 (.cons (.str _) (.cons (.str _) (.cons hv4 .nil)))
    have S12 : Same H5 (upd (upd (upd H9 d3 (.lst (dsy.tail.map V.int))) p2 (.tup [.str (Str.ofString "axiom"), .str (T nn), v2])) it (.lst (ws ++ [.ref p2]))) := Same.mut _ (s6.trans S11) hit
    refine ⟨_, rfl, _, rfl, by show 3 ≤ sizeLine; decide, fun z4 hz4 => ?_⟩
    have h13 : Dr K _ d3 nm z4 l r := Dr.start hf f13 na12 ap3 hz4
    have nz4 := Same.new (.tup [V.int 9, .int 5, .int 5]) hz4
    refine ⟨d3, nm, z4, l, r, 2, rfl, by decide, h13, fun as v3 H12 has hqk had hvq e12 h12 => ?_⟩
    have kt12 : KT K _ H12 := KT.x (nz4 _ _ f13) e12
    have hv5 := Dp.kt kt12 (Stm.tn st) (Dp.same nz4 hv4)
    have ls := Stm.sz_le hf hs
    have lsp : 2 ^ st.dp ≤ 4 := pow_dp (m := 2) (by omega)
    have lspr := st.pr_len
    have la := Stm.sz_le hf has
    have lap : 2 ^ as.dp ≤ 4 := pow_dp (m := 2) (by omega)
    have lapr := as.pr_len
    have hnl := nm_len hf hnn
    obtain ⟨tk1, k1, k2, k3⟩ := can_stm (stm_nm hf hs) (by omega) hnev
    obtain ⟨tk2, j1, j2, j3⟩ := can_qst (stm_nm hf has) (by omega) hqk
    refine gset ?_
    dsimp only
    refine tsq ?_
    refine if_back (m := 0) (gt_psv rfl hv5 (by omega) (by omega) hnev) (by omega) k1 k2 k3 rfl hv5 ((Stm.tn st).le (by omega)) fun H13 e13 => ?_
    refine tnx ?_
    dsimp only
    refine if_back (m := 0) (gt_pqv rfl (Dp.same e13 hvq) (by omega) (by omega)) (by omega) j1 j2 j3 rfl (Dp.same e13 hvq) ((Stm.tn as).le (by omega)) fun H14 e14 => ?_
    have hsz : Itm.Sz (.ax nn st) := ⟨by omega, by omega, hnev⟩
    have hnn2 : NmC nn := ⟨nm_ok hf hnn (by decide +kernel), by omega⟩
    have hipr : (Itm.pr (.ax nn st)).length + 1 ≤ 2000 := by
      have e1 : (lit "axiom ").length = 6 := by decide +kernel
      have e2 : (lit ": ").length = 2 := by decide +kernel
      have e3 : (lit ";").length = 1 := by decide +kernel
      show (lit "axiom " ++ nn ++ lit ": " ++ st.pr ++ lit ";").length + 1 ≤ 2000
      simp only [List.length_append, e1, e2, e3]
      omega
    have E := e13.trans e14
    refine ⟨is ++ [.ax nn st], ws ++ [.ref p2], _, _, _, _, rfl, by rw [List.length_append, hl]; rfl, E _ _ (e12 _ _ nit (nz4 _ _ upd_same)), ?_, ?_, (SameX.free2 (S12.trans nz4) (Same.free s6 n7) e12).trans E⟩
    · rw [List.map_append]
      refine DpAll.same E (DpAll.kt kt12 (n := 20) (fun d hd => ?_) (DpAll.same nz4 (dpAll_app (DpAll.kt kt hT (DpAll.same S11 hD)) (.cons DI .nil))))
      rcases List.mem_append.mp hd with hd | hd
      · exact hT d hd
      · rw [List.mem_singleton.mp hd]
        exact (Itm.tn hsz).le (by show st.dp + 5 ≤ 20; omega)
    · intro j hj
      rcases List.mem_append.mp hj with hj | hj
      · exact hok j hj
      · rw [List.mem_singleton.mp hj]
        exact ⟨⟨hnn2, stm_nm hf hs, by omega, hnev⟩, by show st.dp < 5; omega, hsz, hipr⟩
  · rintro _ H6 ⟨is, ws, x5, x6, x7, x8, rfl, hl, hit6, hD, hok, s6⟩
    have hl7 : is.length < 7 := by omega
    have na6 := na5.same s6
    have hT : ∀ d ∈ is.map Itm.D, TupN 20 d := fun d hd => by
      obtain ⟨j, hj, rfl⟩ := List.mem_map.mp hd
      exact (Itm.tn (hok j hj).2.2.1).le (by have := (hok j hj).2.1; omega)
    have hwl : ws.length = is.length := by rw [dpAll_len hD, List.length_map]
    refine ⟨_, rfl, .inl ⟨rfl, _, SqL.of hit6⟩, ?_⟩
    refine ⟨_, rfl, nm, _, _, _, rfl, rfl, SqL.of na6.top, atI_nat (j := 1) rfl, ?_⟩
    refine ⟨_, rfl, d, _, 5, rfl, s6 _ _ fd5, by decide, fun y y0 y1 => ?_⟩
    obtain ⟨y, rfl⟩ : ∃ k : Nat, y = (k : Int) := ⟨y.toNat, by omega⟩
    refine ⟨_, _, rfl, rfl, _, rfl, ?_⟩
    have x7 : SameX d H6 (upd H6 d (.lst (ds5.tail.map V.int))) := SameX.at _
    have na7 := na6.mono x7 ap5
    refine ⟨q1, _, rfl, SqL.of na7.a1, fun L hL => ?_⟩
    have hrows : ∃ rows : List (List Nat), cutV (strsV (nmL l r mk1)) none (some (1 + (y : Int))) = rows.map (fun n => V.str (T n)) ∧ rows ≠ [] ∧ rows.length ≤ 5 ∧ ∀ n ∈ rows, n ∈ nmL l r mk1 := by
      refine ⟨cutI (nmL l r mk1) none (some (1 + (y : Int))), cutV_map _ _ _ _, ?_, ?_, fun n hn => cutI_mem hn⟩
      · have e5 : (nmL l r mk1).length = 5 := by rw [show (nmL l r mk1).length = mk1.length from List.length_map _]; decide +kernel
        intro z
        have := congrArg List.length z
        unfold cutI at this
        rw [show (1 : Int) + (y : Int) = ((1 + y : Nat) : Int) by omega, HT.sIx_none, HT.sIx_nat, e5, List.drop_zero, List.length_take, e5] at this
        have z2 : min (min (1 + y) 5 - 0) 5 = 0 := this
        omega
      · have := cutI_len (ds := nmL l r mk1) (lo := none) (hi := some (1 + (y : Int)))
        have e5 : (nmL l r mk1).length = 5 := by rw [show (nmL l r mk1).length = mk1.length from List.length_map _]; decide +kernel
        omega
    obtain ⟨rows, er, hrn0, hrl, hrm⟩ := hrows
    rw [er]
    refine ⟨L, _, rfl, .inl ⟨SqL.of upd_same, fun u hu => ⟨by show 2 ≤ sizeLine; decide, fun p hp => ?_⟩⟩⟩
    have hit7 := x7 _ _ ndi.symm hit6
    have n1 := Same.new (.lst (rows.map fun n => V.str (T n))) hL
    have n2 := Same.new (.tup (rows.map fun n => V.str (T n))) hu
    have n3 := Same.new (.tup [.str (Str.ofString "roles"), .ref u]) hp
    have N := (n1.trans n2).trans n3
    have hit8 := N _ _ hit7
    refine ⟨it, _, _, rfl, rfl, hit8, small1000 (by omega), ?_⟩
    have kt7 : KT K H6 (upd H6 d (.lst (ds5.tail.map V.int))) := KT.x (s6 _ _ fd5) x7
    have kt := KT.lst (K := K) (.lst (ws ++ [.ref p])) hit8
    have hrl2 : ∀ n ∈ rows, n.length ≤ 100 := fun n hn => by have := nm_len hf (hrm n hn); omega
    have hsz : Itm.Sz (.decl 1 rows) := ⟨by decide, by omega, hrl2⟩
    have hinm : INm (.decl 1 rows) := ⟨by decide, hrn0, by omega, fun n hn => ⟨nm_ok hf (hrm n hn) (by decide +kernel), by have := hrl2 n hn; omega⟩⟩
    have hipr : (Itm.pr (.decl 1 rows)).length + 1 ≤ 2000 := by
      have e1 : (lit " ").length = 1 := by decide +kernel
      have e2 : (lit ";").length = 1 := by decide +kernel
      have e3 : (lit (dword 1)).length = 4 := by decide +kernel
      have e4 : (lit ", ").length = 2 := by decide +kernel
      have lj := joinL_len (S := lit ", ") hrl2
      rw [e4] at lj
      have : rows.length * 102 ≤ 5 * 102 := Nat.mul_le_mul_right _ hrl
      show (lit (dword 1) ++ lit " " ++ TL.joinL (lit ", ") rows ++ lit ";").length + 1 ≤ 2000
      simp only [List.length_append, e1, e2, e3]
      omega
    have all : ∀ j ∈ is ++ [Itm.decl 1 rows], INm j ∧ j.dp < 5 ∧ j.Sz ∧ j.pr.length + 1 ≤ 2000 := fun j hj => by
      rcases List.mem_append.mp hj with hj | hj
      · exact hok j hj
      · rw [List.mem_singleton.mp hj]
        exact ⟨hinm, by show 0 < 5; decide, hsz, hipr⟩
    have DI : Dp K (upd (upd (upd (upd (upd H6 d (.lst (ds5.tail.map V.int))) L (.lst (rows.map fun n => V.str (T n)))) u (.tup (rows.map fun n => V.str (T n)))) p (.tup [.str (Str.ofString "roles"), .ref u])) it (.lst (ws ++ [.ref p]))) (.ref p) (Itm.decl 1 rows).D := by
      refine Dp.kt kt (Itm.tn hsz) (.tup (.of upd_same) (.cons (.str _) (.cons (.tup (Same.seqT n3 (.of upd_same)) ?_) .nil)))
      have : ∀ ns : List (List Nat), ∀ Hx : Hp, DpAll K Hx (ns.map fun n => V.str (T n)) (ns.map fun n => PyData.str (T n)) := fun ns Hx => by
        induction ns with
        | nil => exact .nil
        | cons n ns ih => exact .cons (.str _) ih
      exact this rows _
    have DA : DpAll K (upd (upd (upd (upd (upd H6 d (.lst (ds5.tail.map V.int))) L (.lst (rows.map fun n => V.str (T n)))) u (.tup (rows.map fun n => V.str (T n)))) p (.tup [.str (Str.ofString "roles"), .ref u])) it (.lst (ws ++ [.ref p]))) (ws ++ [.ref p]) ((is ++ [Itm.decl 1 rows]).map Itm.D) := by
      rw [List.map_append]
      exact dpAll_app (DpAll.kt kt hT (DpAll.same N (DpAll.kt kt7 hT hD))) (.cons DI .nil)
    have hl2 : (is ++ [Itm.decl 1 rows]).length ≤ 7 := by
      rw [List.length_append]
      show is.length + 1 ≤ 7
      omega
    generalize (is ++ [Itm.decl 1 rows]) = is2 at DA all hl2
    refine ⟨_, rfl, it, _, rfl, .inl ⟨SqL.of upd_same, fun u2 hu2 => ⟨u2, _, is2, rfl, .of upd_same, DpAll.same (Same.new _ hu2) DA, by omega, fun j hj => ⟨(all j hj).2.1, (all j hj).2.2.1⟩, fun H12 e12 => ?_⟩⟩⟩
    obtain ⟨tks, k1, k2, k3, k4⟩ := can_src fun j hj => (all j hj).1
    have hpl := prSrc_le (m := 2000) fun j hj => (all j hj).2.2.2
    have hpl2 : is2.length * 2000 ≤ 7 * 2000 := Nat.mul_le_mul_right _ hl2
    refine ⟨_, rfl, prSrc is2, tks, RdT is2, rfl, by omega, k1, by omega, k4, k3, by unfold RdT; rw [List.length_map]; omega, fun vb H13 e13 d13 => ?_⟩
    rw [RdT_D] at d13
    have E3 := ((Same.new (.tup (ws ++ [.ref p])) hu2).trans e12).trans e13
    have hit13 := E3 _ _ upd_same
    have DA13 := DpAll.same E3 DA
    have hT2 : TupN 40 (.tuple (is2.map Itm.D)) := (tupN_of (n := 20) (by rw [List.length_map]; omega) fun d hd => by
      obtain ⟨j, hj, rfl⟩ := List.mem_map.mp hd
      exact (Itm.tn (all j hj).2.2.1).le (by have := (all j hj).2.1; omega)).le (by omega)
    obtain ⟨bb, wsb, rfl, hsb, hdb⟩ := dp_tup d13
    refine ⟨_, rfl, _, rfl, it, _, rfl, .inl ⟨SqL.of hit13, fun u3 hu3 => ⟨_, _, .tuple (is2.map Itm.D), rfl, Dp.same (Same.new _ hu3) d13, .tup (.of upd_same) (DpAll.same (Same.new _ hu3) DA13), hT2, fun H14 e14 => ⟨true, rfl, iteT ?_⟩⟩⟩⟩
    have E4 := (Same.new (.tup (ws ++ [.ref p])) hu3).trans e14
    exact same_txt (a := prSrc is2) (fun Hx ex R rr => ⟨_, rfl, bb, wsb, is2, rfl, Same.seqT (E4.trans ex) hsb, DpAll.same (E4.trans ex) hdb, by omega, fun j hj => ⟨(all j hj).2.1, (all j hj).2.2.1⟩, rr⟩) (gt_var rfl) fun H' _ => q H'
end
theorem all_mk {l : PySem.W.OpenLaw} {w : World} {K : PySem.W.Frag} {h : Heap} {mg : Str → Option Value} {fa : Addr} (X : K.In h) (G : h.Ns mainGlobals mg) (hfa : mg "law" = some (.ref fa))
    {f_print_concept : Addr} {od_print_concept an_print_concept : Option Addr} {sl_print_concept : Array (Option Value)} {oc_print_concept kV_print_concept dc_print_concept pm_print_concept cd_print_concept ct_print_concept : Value}
    {f_print_statement : Addr} {od_print_statement an_print_statement : Option Addr} {sl_print_statement : Array (Option Value)} {oc_print_statement kV_print_statement dc_print_statement pm_print_statement cd_print_statement ct_print_statement : Value}
    {f_print_question : Addr} {od_print_question an_print_question : Option Addr} {sl_print_question : Array (Option Value)} {oc_print_question kV_print_question dc_print_question pm_print_question cd_print_question ct_print_question : Value}
    {f_print_source : Addr} {od_print_source an_print_source : Option Addr} {sl_print_source : Array (Option Value)} {oc_print_source kV_print_source dc_print_source pm_print_source cd_print_source ct_print_source : Value}
    {f_item : Addr} {od_item an_item : Option Addr} {sl_item : Array (Option Value)} {oc_item kV_item dc_item pm_item cd_item ct_item : Value}
    {f_role : Addr} {od_role an_role : Option Addr} {sl_role : Array (Option Value)} {oc_role kV_role dc_role pm_role cd_role ct_role : Value}
    {f_rank : Addr} {od_rank an_rank : Option Addr} {sl_rank : Array (Option Value)} {oc_rank kV_rank dc_rank pm_rank cd_rank ct_rank : Value}
    {f_operand : Addr} {od_operand an_operand : Option Addr} {sl_operand : Array (Option Value)} {oc_operand kV_operand dc_operand pm_operand cd_operand ct_operand : Value}
    {f_place : Addr} {od_place an_place : Option Addr} {sl_place : Array (Option Value)} {oc_place kV_place dc_place pm_place cd_place ct_place : Value}
    {f_is_name : Addr} {od_is_name an_is_name : Option Addr} {sl_is_name : Array (Option Value)} {oc_is_name kV_is_name dc_is_name pm_is_name cd_is_name ct_is_name : Value}
    {f_split_tokens : Addr} {od_split_tokens an_split_tokens : Option Addr} {sl_split_tokens : Array (Option Value)} {oc_split_tokens kV_split_tokens dc_split_tokens pm_split_tokens cd_split_tokens ct_split_tokens : Value}
    {f_comment_end : Addr} {od_comment_end an_comment_end : Option Addr} {sl_comment_end : Array (Option Value)} {oc_comment_end kV_comment_end dc_comment_end pm_comment_end cd_comment_end ct_comment_end : Value}
    {f_word_at : Addr} {od_word_at an_word_at : Option Addr} {sl_word_at : Array (Option Value)} {oc_word_at kV_word_at dc_word_at pm_word_at cd_word_at ct_word_at : Value}
    {f_word_end : Addr} {od_word_end an_word_end : Option Addr} {sl_word_end : Array (Option Value)} {oc_word_end kV_word_end dc_word_end pm_word_end cd_word_end ct_word_end : Value}
    {f_itemP : Addr} {od_itemP an_itemP : Option Addr} {sl_itemP : Array (Option Value)} {oc_itemP kV_itemP dc_itemP pm_itemP cd_itemP ct_itemP : Value}
    {f_statement : Addr} {od_statement an_statement : Option Addr} {sl_statement : Array (Option Value)} {oc_statement kV_statement dc_statement pm_statement cd_statement ct_statement : Value}
    {f_question : Addr} {od_question an_question : Option Addr} {sl_question : Array (Option Value)} {oc_question kV_question dc_question pm_question cd_question ct_question : Value}
    {f_roleP : Addr} {od_roleP an_roleP : Option Addr} {sl_roleP : Array (Option Value)} {oc_roleP kV_roleP dc_roleP pm_roleP cd_roleP ct_roleP : Value}
    {f_concept : Addr} {od_concept an_concept : Option Addr} {sl_concept : Array (Option Value)} {oc_concept kV_concept dc_concept pm_concept cd_concept ct_concept : Value}
    {f_axiom : Addr} {od_axiom an_axiom : Option Addr} {sl_axiom : Array (Option Value)} {oc_axiom kV_axiom dc_axiom pm_axiom cd_axiom ct_axiom : Value}
    {f_is_name_before : Addr} {od_is_name_before an_is_name_before : Option Addr} {sl_is_name_before : Array (Option Value)} {oc_is_name_before kV_is_name_before dc_is_name_before pm_is_name_before cd_is_name_before ct_is_name_before : Value}
    {f_begins_fact : Addr} {od_begins_fact an_begins_fact : Option Addr} {sl_begins_fact : Array (Option Value)} {oc_begins_fact kV_begins_fact dc_begins_fact pm_begins_fact cd_begins_fact ct_begins_fact : Value}
    {f_fact : Addr} {od_fact an_fact : Option Addr} {sl_fact : Array (Option Value)} {oc_fact kV_fact dc_fact pm_fact cd_fact ct_fact : Value}
    {f_comparison : Addr} {od_comparison an_comparison : Option Addr} {sl_comparison : Array (Option Value)} {oc_comparison kV_comparison dc_comparison pm_comparison cd_comparison ct_comparison : Value}
    {f_alternatives : Addr} {od_alternatives an_alternatives : Option Addr} {sl_alternatives : Array (Option Value)} {oc_alternatives kV_alternatives dc_alternatives pm_alternatives cd_alternatives ct_alternatives : Value}
    {f_both : Addr} {od_both an_both : Option Addr} {sl_both : Array (Option Value)} {oc_both kV_both dc_both pm_both cd_both ct_both : Value}
    {f_chain : Addr} {od_chain an_chain : Option Addr} {sl_chain : Array (Option Value)} {oc_chain kV_chain dc_chain pm_chain cd_chain ct_chain : Value}
    {f_front : Addr} {od_front an_front : Option Addr} {sl_front : Array (Option Value)} {oc_front kV_front dc_front pm_front cd_front ct_front : Value}
    {f_atom : Addr} {od_atom an_atom : Option Addr} {sl_atom : Array (Option Value)} {oc_atom kV_atom dc_atom pm_atom cd_atom ct_atom : Value}
    {f_step_deeper : Addr} {od_step_deeper an_step_deeper : Option Addr} {sl_step_deeper : Array (Option Value)} {oc_step_deeper kV_step_deeper dc_step_deeper pm_step_deeper cd_step_deeper ct_step_deeper : Value}
    {f_read_source : Addr} {od_read_source an_read_source : Option Addr} {sl_read_source : Array (Option Value)} {oc_read_source kV_read_source dc_read_source pm_read_source cd_read_source ct_read_source : Value}
    {f_read_statement : Addr} {od_read_statement an_read_statement : Option Addr} {sl_read_statement : Array (Option Value)} {oc_read_statement kV_read_statement dc_read_statement pm_read_statement cd_read_statement ct_read_statement : Value}
    {f_read_question : Addr} {od_read_question an_read_question : Option Addr} {sl_read_question : Array (Option Value)} {oc_read_question kV_read_question dc_read_question pm_read_question cd_read_question ct_read_question : Value}
    {f_read_concept : Addr} {od_read_concept an_read_concept : Option Addr} {sl_read_concept : Array (Option Value)} {oc_read_concept kV_read_concept dc_read_concept pm_read_concept cd_read_concept ct_read_concept : Value}
    {f_read_whole : Addr} {od_read_whole an_read_whole : Option Addr} {sl_read_whole : Array (Option Value)} {oc_read_whole kV_read_whole dc_read_whole pm_read_whole cd_read_whole ct_read_whole : Value}
    {f_law_cell : Addr} {od_law_cell an_law_cell : Option Addr} {sl_law_cell : Array (Option Value)} {oc_law_cell kV_law_cell dc_law_cell pm_law_cell cd_law_cell ct_law_cell : Value}
    {f_law_draws : Addr} {od_law_draws an_law_draws : Option Addr} {sl_law_draws : Array (Option Value)} {oc_law_draws kV_law_draws dc_law_draws pm_law_draws cd_law_draws ct_law_draws : Value}
    {f_law_take : Addr} {od_law_take an_law_take : Option Addr} {sl_law_take : Array (Option Value)} {oc_law_take kV_law_take dc_law_take pm_law_take cd_law_take ct_law_take : Value}
    {f_law_frame : Addr} {od_law_frame an_law_frame : Option Addr} {sl_law_frame : Array (Option Value)} {oc_law_frame kV_law_frame dc_law_frame pm_law_frame cd_law_frame ct_law_frame : Value}
    {f_law_names : Addr} {od_law_names an_law_names : Option Addr} {sl_law_names : Array (Option Value)} {oc_law_names kV_law_names dc_law_names pm_law_names cd_law_names ct_law_names : Value}
    {f_law_role : Addr} {od_law_role an_law_role : Option Addr} {sl_law_role : Array (Option Value)} {oc_law_role kV_law_role dc_law_role pm_law_role cd_law_role ct_law_role : Value}
    {f_law_concept : Addr} {od_law_concept an_law_concept : Option Addr} {sl_law_concept : Array (Option Value)} {oc_law_concept kV_law_concept dc_law_concept pm_law_concept cd_law_concept ct_law_concept : Value}
    {f_law_statement : Addr} {od_law_statement an_law_statement : Option Addr} {sl_law_statement : Array (Option Value)} {oc_law_statement kV_law_statement dc_law_statement pm_law_statement cd_law_statement ct_law_statement : Value}
    {f_law_question : Addr} {od_law_question an_law_question : Option Addr} {sl_law_question : Array (Option Value)} {oc_law_question kV_law_question dc_law_question pm_law_question cd_law_question ct_law_question : Value}
    {f_law_say_role : Addr} {od_law_say_role an_law_say_role : Option Addr} {sl_law_say_role : Array (Option Value)} {oc_law_say_role kV_law_say_role dc_law_say_role pm_law_say_role cd_law_say_role ct_law_say_role : Value}
    {f_law_say : Addr} {od_law_say an_law_say : Option Addr} {sl_law_say : Array (Option Value)} {oc_law_say kV_law_say dc_law_say pm_law_say cd_law_say ct_law_say : Value}
    {f_law_same : Addr} {od_law_same an_law_same : Option Addr} {sl_law_same : Array (Option Value)} {oc_law_same kV_law_same dc_law_same pm_law_same cd_law_same ct_law_same : Value}
    {C_Cursor : Addr}
    {f_Cursor_init : Addr} {od_Cursor_init an_Cursor_init : Option Addr} {sl_Cursor_init : Array (Option Value)} {oc_Cursor_init kV_Cursor_init dc_Cursor_init pm_Cursor_init cd_Cursor_init ct_Cursor_init : Value}
    {f_Cursor_word : Addr} {od_Cursor_word an_Cursor_word : Option Addr} {sl_Cursor_word : Array (Option Value)} {oc_Cursor_word kV_Cursor_word dc_Cursor_word pm_Cursor_word cd_Cursor_word ct_Cursor_word : Value}
    {f_Cursor_word_behind : Addr} {od_Cursor_word_behind an_Cursor_word_behind : Option Addr} {sl_Cursor_word_behind : Array (Option Value)} {oc_Cursor_word_behind kV_Cursor_word_behind dc_Cursor_word_behind pm_Cursor_word_behind cd_Cursor_word_behind ct_Cursor_word_behind : Value}
    {f_Cursor_at_end : Addr} {od_Cursor_at_end an_Cursor_at_end : Option Addr} {sl_Cursor_at_end : Array (Option Value)} {oc_Cursor_at_end kV_Cursor_at_end dc_Cursor_at_end pm_Cursor_at_end cd_Cursor_at_end ct_Cursor_at_end : Value}
    {f_Cursor_step : Addr} {od_Cursor_step an_Cursor_step : Option Addr} {sl_Cursor_step : Array (Option Value)} {oc_Cursor_step kV_Cursor_step dc_Cursor_step pm_Cursor_step cd_Cursor_step ct_Cursor_step : Value}
    {f_Cursor_expect : Addr} {od_Cursor_expect an_Cursor_expect : Option Addr} {sl_Cursor_expect : Array (Option Value)} {oc_Cursor_expect kV_Cursor_expect dc_Cursor_expect pm_Cursor_expect cd_Cursor_expect ct_Cursor_expect : Value}
    {f_Cursor_take_name : Addr} {od_Cursor_take_name an_Cursor_take_name : Option Addr} {sl_Cursor_take_name : Array (Option Value)} {oc_Cursor_take_name kV_Cursor_take_name dc_Cursor_take_name pm_Cursor_take_name cd_Cursor_take_name ct_Cursor_take_name : Value}
    {r_DECLARING : Addr} {e_DECLARING : Array DictEntry} {n_DECLARING : Nat} {t_DECLARING0 : Tok} {t_DECLARING1 : Tok} {t_DECLARING2 : Tok}
    {t_OR_RANK : Tok}
    {t_AND_RANK : Tok}
    {t_FRONT_RANK : Tok}
    {t_BLANKS : Tok}
    {t_SIGNS : Tok}
    {t_LETTERS : Tok}
    {t_DIGITS : Tok}
    {t_LONGEST_WORD : Tok}
    {r_RESERVED : Addr} {oo_RESERVED : Option Addr} {os_RESERVED : Array (Option Value)} {i_RESERVED : Array Value} {n_RESERVED : Nat}
    {t_DEEPEST_LEVEL : Tok}
    {t_GREATEST_HEIGHT : Tok}
    {r_DECLARATIONS : Addr} {e_DECLARATIONS : Array DictEntry} {n_DECLARATIONS : Nat} {t_DECLARATIONS0 : Tok} {t_DECLARATIONS1 : Tok} {t_DECLARATIONS2 : Tok}
    {od_law an_law : Option Addr} {sl_law : Array (Option Value)} {oc_law kV_law dc_law pm_law cd_law ct_law : Value} {f_law : Addr}
    (a_print_concept : PySem.W.nsIn K mainGlobals "print_concept" = some (some (.ref f_print_concept))) (l_print_concept : K.lookup f_print_concept = some ⟨oc_print_concept, od_print_concept, .func (PySem.W.fnOf "print_concept" "print_concept" (defArgs s_print_concept) (defBody s_print_concept) (defScope s_print_concept) .none kV_print_concept dc_print_concept pm_print_concept an_print_concept cd_print_concept ct_print_concept), sl_print_concept⟩) (w_print_concept : PySem.W.codeIn K cd_print_concept "print_concept" = true) (k_print_concept : PySem.W.keepIn K (.ref f_print_concept) = true)
    (a_print_statement : PySem.W.nsIn K mainGlobals "print_statement" = some (some (.ref f_print_statement))) (l_print_statement : K.lookup f_print_statement = some ⟨oc_print_statement, od_print_statement, .func (PySem.W.fnOf "print_statement" "print_statement" (defArgs s_print_statement) (defBody s_print_statement) (defScope s_print_statement) .none kV_print_statement dc_print_statement pm_print_statement an_print_statement cd_print_statement ct_print_statement), sl_print_statement⟩) (w_print_statement : PySem.W.codeIn K cd_print_statement "print_statement" = true) (k_print_statement : PySem.W.keepIn K (.ref f_print_statement) = true)
    (a_print_question : PySem.W.nsIn K mainGlobals "print_question" = some (some (.ref f_print_question))) (l_print_question : K.lookup f_print_question = some ⟨oc_print_question, od_print_question, .func (PySem.W.fnOf "print_question" "print_question" (defArgs s_print_question) (defBody s_print_question) (defScope s_print_question) .none kV_print_question dc_print_question pm_print_question an_print_question cd_print_question ct_print_question), sl_print_question⟩) (w_print_question : PySem.W.codeIn K cd_print_question "print_question" = true) (k_print_question : PySem.W.keepIn K (.ref f_print_question) = true)
    (a_print_source : PySem.W.nsIn K mainGlobals "print_source" = some (some (.ref f_print_source))) (l_print_source : K.lookup f_print_source = some ⟨oc_print_source, od_print_source, .func (PySem.W.fnOf "print_source" "print_source" (defArgs s_print_source) (defBody s_print_source) (defScope s_print_source) .none kV_print_source dc_print_source pm_print_source an_print_source cd_print_source ct_print_source), sl_print_source⟩) (w_print_source : PySem.W.codeIn K cd_print_source "print_source" = true) (k_print_source : PySem.W.keepIn K (.ref f_print_source) = true)
    (a_item : PySem.W.nsIn K mainGlobals "_item" = some (some (.ref f_item))) (l_item : K.lookup f_item = some ⟨oc_item, od_item, .func (PySem.W.fnOf "_item" "_item" (defArgs s_item) (defBody s_item) (defScope s_item) .none kV_item dc_item pm_item an_item cd_item ct_item), sl_item⟩) (w_item : PySem.W.codeIn K cd_item "_item" = true) (k_item : PySem.W.keepIn K (.ref f_item) = true)
    (a_role : PySem.W.nsIn K mainGlobals "_role" = some (some (.ref f_role))) (l_role : K.lookup f_role = some ⟨oc_role, od_role, .func (PySem.W.fnOf "_role" "_role" (defArgs s_role) (defBody s_role) (defScope s_role) .none kV_role dc_role pm_role an_role cd_role ct_role), sl_role⟩) (w_role : PySem.W.codeIn K cd_role "_role" = true) (k_role : PySem.W.keepIn K (.ref f_role) = true)
    (a_rank : PySem.W.nsIn K mainGlobals "_rank" = some (some (.ref f_rank))) (l_rank : K.lookup f_rank = some ⟨oc_rank, od_rank, .func (PySem.W.fnOf "_rank" "_rank" (defArgs s_rank) (defBody s_rank) (defScope s_rank) .none kV_rank dc_rank pm_rank an_rank cd_rank ct_rank), sl_rank⟩) (w_rank : PySem.W.codeIn K cd_rank "_rank" = true) (k_rank : PySem.W.keepIn K (.ref f_rank) = true)
    (a_operand : PySem.W.nsIn K mainGlobals "_operand" = some (some (.ref f_operand))) (l_operand : K.lookup f_operand = some ⟨oc_operand, od_operand, .func (PySem.W.fnOf "_operand" "_operand" (defArgs s_operand) (defBody s_operand) (defScope s_operand) .none kV_operand dc_operand pm_operand an_operand cd_operand ct_operand), sl_operand⟩) (w_operand : PySem.W.codeIn K cd_operand "_operand" = true) (k_operand : PySem.W.keepIn K (.ref f_operand) = true)
    (a_place : PySem.W.nsIn K mainGlobals "place" = some (some (.ref f_place))) (l_place : K.lookup f_place = some ⟨oc_place, od_place, .func (PySem.W.fnOf "place" "place" (defArgs s_place) (defBody s_place) (defScope s_place) .none kV_place dc_place pm_place an_place cd_place ct_place), sl_place⟩) (w_place : PySem.W.codeIn K cd_place "place" = true) (k_place : PySem.W.keepIn K (.ref f_place) = true)
    (a_is_name : PySem.W.nsIn K mainGlobals "is_name" = some (some (.ref f_is_name))) (l_is_name : K.lookup f_is_name = some ⟨oc_is_name, od_is_name, .func (PySem.W.fnOf "is_name" "is_name" (defArgs s_is_name) (defBody s_is_name) (defScope s_is_name) .none kV_is_name dc_is_name pm_is_name an_is_name cd_is_name ct_is_name), sl_is_name⟩) (w_is_name : PySem.W.codeIn K cd_is_name "is_name" = true) (k_is_name : PySem.W.keepIn K (.ref f_is_name) = true)
    (a_split_tokens : PySem.W.nsIn K mainGlobals "split_tokens" = some (some (.ref f_split_tokens))) (l_split_tokens : K.lookup f_split_tokens = some ⟨oc_split_tokens, od_split_tokens, .func (PySem.W.fnOf "split_tokens" "split_tokens" (defArgs s_split_tokens) (defBody s_split_tokens) (defScope s_split_tokens) .none kV_split_tokens dc_split_tokens pm_split_tokens an_split_tokens cd_split_tokens ct_split_tokens), sl_split_tokens⟩) (w_split_tokens : PySem.W.codeIn K cd_split_tokens "split_tokens" = true) (k_split_tokens : PySem.W.keepIn K (.ref f_split_tokens) = true)
    (a_comment_end : PySem.W.nsIn K mainGlobals "_comment_end" = some (some (.ref f_comment_end))) (l_comment_end : K.lookup f_comment_end = some ⟨oc_comment_end, od_comment_end, .func (PySem.W.fnOf "_comment_end" "_comment_end" (defArgs s_comment_end) (defBody s_comment_end) (defScope s_comment_end) .none kV_comment_end dc_comment_end pm_comment_end an_comment_end cd_comment_end ct_comment_end), sl_comment_end⟩) (w_comment_end : PySem.W.codeIn K cd_comment_end "_comment_end" = true) (k_comment_end : PySem.W.keepIn K (.ref f_comment_end) = true)
    (a_word_at : PySem.W.nsIn K mainGlobals "_word_at" = some (some (.ref f_word_at))) (l_word_at : K.lookup f_word_at = some ⟨oc_word_at, od_word_at, .func (PySem.W.fnOf "_word_at" "_word_at" (defArgs s_word_at) (defBody s_word_at) (defScope s_word_at) .none kV_word_at dc_word_at pm_word_at an_word_at cd_word_at ct_word_at), sl_word_at⟩) (w_word_at : PySem.W.codeIn K cd_word_at "_word_at" = true) (k_word_at : PySem.W.keepIn K (.ref f_word_at) = true)
    (a_word_end : PySem.W.nsIn K mainGlobals "_word_end" = some (some (.ref f_word_end))) (l_word_end : K.lookup f_word_end = some ⟨oc_word_end, od_word_end, .func (PySem.W.fnOf "_word_end" "_word_end" (defArgs s_word_end) (defBody s_word_end) (defScope s_word_end) .none kV_word_end dc_word_end pm_word_end an_word_end cd_word_end ct_word_end), sl_word_end⟩) (w_word_end : PySem.W.codeIn K cd_word_end "_word_end" = true) (k_word_end : PySem.W.keepIn K (.ref f_word_end) = true)
    (a_itemP : PySem.W.nsIn K mainGlobals "item" = some (some (.ref f_itemP))) (l_itemP : K.lookup f_itemP = some ⟨oc_itemP, od_itemP, .func (PySem.W.fnOf "item" "item" (defArgs s_itemP) (defBody s_itemP) (defScope s_itemP) .none kV_itemP dc_itemP pm_itemP an_itemP cd_itemP ct_itemP), sl_itemP⟩) (w_itemP : PySem.W.codeIn K cd_itemP "item" = true) (k_itemP : PySem.W.keepIn K (.ref f_itemP) = true)
    (a_statement : PySem.W.nsIn K mainGlobals "statement" = some (some (.ref f_statement))) (l_statement : K.lookup f_statement = some ⟨oc_statement, od_statement, .func (PySem.W.fnOf "statement" "statement" (defArgs s_statement) (defBody s_statement) (defScope s_statement) .none kV_statement dc_statement pm_statement an_statement cd_statement ct_statement), sl_statement⟩) (w_statement : PySem.W.codeIn K cd_statement "statement" = true) (k_statement : PySem.W.keepIn K (.ref f_statement) = true)
    (a_question : PySem.W.nsIn K mainGlobals "question" = some (some (.ref f_question))) (l_question : K.lookup f_question = some ⟨oc_question, od_question, .func (PySem.W.fnOf "question" "question" (defArgs s_question) (defBody s_question) (defScope s_question) .none kV_question dc_question pm_question an_question cd_question ct_question), sl_question⟩) (w_question : PySem.W.codeIn K cd_question "question" = true) (k_question : PySem.W.keepIn K (.ref f_question) = true)
    (a_roleP : PySem.W.nsIn K mainGlobals "role" = some (some (.ref f_roleP))) (l_roleP : K.lookup f_roleP = some ⟨oc_roleP, od_roleP, .func (PySem.W.fnOf "role" "role" (defArgs s_roleP) (defBody s_roleP) (defScope s_roleP) .none kV_roleP dc_roleP pm_roleP an_roleP cd_roleP ct_roleP), sl_roleP⟩) (w_roleP : PySem.W.codeIn K cd_roleP "role" = true) (k_roleP : PySem.W.keepIn K (.ref f_roleP) = true)
    (a_concept : PySem.W.nsIn K mainGlobals "concept" = some (some (.ref f_concept))) (l_concept : K.lookup f_concept = some ⟨oc_concept, od_concept, .func (PySem.W.fnOf "concept" "concept" (defArgs s_concept) (defBody s_concept) (defScope s_concept) .none kV_concept dc_concept pm_concept an_concept cd_concept ct_concept), sl_concept⟩) (w_concept : PySem.W.codeIn K cd_concept "concept" = true) (k_concept : PySem.W.keepIn K (.ref f_concept) = true)
    (a_axiom : PySem.W.nsIn K mainGlobals "_axiom" = some (some (.ref f_axiom))) (l_axiom : K.lookup f_axiom = some ⟨oc_axiom, od_axiom, .func (PySem.W.fnOf "_axiom" "_axiom" (defArgs s_axiom) (defBody s_axiom) (defScope s_axiom) .none kV_axiom dc_axiom pm_axiom an_axiom cd_axiom ct_axiom), sl_axiom⟩) (w_axiom : PySem.W.codeIn K cd_axiom "_axiom" = true) (k_axiom : PySem.W.keepIn K (.ref f_axiom) = true)
    (a_is_name_before : PySem.W.nsIn K mainGlobals "_is_name_before" = some (some (.ref f_is_name_before))) (l_is_name_before : K.lookup f_is_name_before = some ⟨oc_is_name_before, od_is_name_before, .func (PySem.W.fnOf "_is_name_before" "_is_name_before" (defArgs s_is_name_before) (defBody s_is_name_before) (defScope s_is_name_before) .none kV_is_name_before dc_is_name_before pm_is_name_before an_is_name_before cd_is_name_before ct_is_name_before), sl_is_name_before⟩) (w_is_name_before : PySem.W.codeIn K cd_is_name_before "_is_name_before" = true) (k_is_name_before : PySem.W.keepIn K (.ref f_is_name_before) = true)
    (a_begins_fact : PySem.W.nsIn K mainGlobals "_begins_fact" = some (some (.ref f_begins_fact))) (l_begins_fact : K.lookup f_begins_fact = some ⟨oc_begins_fact, od_begins_fact, .func (PySem.W.fnOf "_begins_fact" "_begins_fact" (defArgs s_begins_fact) (defBody s_begins_fact) (defScope s_begins_fact) .none kV_begins_fact dc_begins_fact pm_begins_fact an_begins_fact cd_begins_fact ct_begins_fact), sl_begins_fact⟩) (w_begins_fact : PySem.W.codeIn K cd_begins_fact "_begins_fact" = true) (k_begins_fact : PySem.W.keepIn K (.ref f_begins_fact) = true)
    (a_fact : PySem.W.nsIn K mainGlobals "_fact" = some (some (.ref f_fact))) (l_fact : K.lookup f_fact = some ⟨oc_fact, od_fact, .func (PySem.W.fnOf "_fact" "_fact" (defArgs s_fact) (defBody s_fact) (defScope s_fact) .none kV_fact dc_fact pm_fact an_fact cd_fact ct_fact), sl_fact⟩) (w_fact : PySem.W.codeIn K cd_fact "_fact" = true) (k_fact : PySem.W.keepIn K (.ref f_fact) = true)
    (a_comparison : PySem.W.nsIn K mainGlobals "_comparison" = some (some (.ref f_comparison))) (l_comparison : K.lookup f_comparison = some ⟨oc_comparison, od_comparison, .func (PySem.W.fnOf "_comparison" "_comparison" (defArgs s_comparison) (defBody s_comparison) (defScope s_comparison) .none kV_comparison dc_comparison pm_comparison an_comparison cd_comparison ct_comparison), sl_comparison⟩) (w_comparison : PySem.W.codeIn K cd_comparison "_comparison" = true) (k_comparison : PySem.W.keepIn K (.ref f_comparison) = true)
    (a_alternatives : PySem.W.nsIn K mainGlobals "_alternatives" = some (some (.ref f_alternatives))) (l_alternatives : K.lookup f_alternatives = some ⟨oc_alternatives, od_alternatives, .func (PySem.W.fnOf "_alternatives" "_alternatives" (defArgs s_alternatives) (defBody s_alternatives) (defScope s_alternatives) .none kV_alternatives dc_alternatives pm_alternatives an_alternatives cd_alternatives ct_alternatives), sl_alternatives⟩) (w_alternatives : PySem.W.codeIn K cd_alternatives "_alternatives" = true) (k_alternatives : PySem.W.keepIn K (.ref f_alternatives) = true)
    (a_both : PySem.W.nsIn K mainGlobals "_both" = some (some (.ref f_both))) (l_both : K.lookup f_both = some ⟨oc_both, od_both, .func (PySem.W.fnOf "_both" "_both" (defArgs s_both) (defBody s_both) (defScope s_both) .none kV_both dc_both pm_both an_both cd_both ct_both), sl_both⟩) (w_both : PySem.W.codeIn K cd_both "_both" = true) (k_both : PySem.W.keepIn K (.ref f_both) = true)
    (a_chain : PySem.W.nsIn K mainGlobals "_chain" = some (some (.ref f_chain))) (l_chain : K.lookup f_chain = some ⟨oc_chain, od_chain, .func (PySem.W.fnOf "_chain" "_chain" (defArgs s_chain) (defBody s_chain) (defScope s_chain) .none kV_chain dc_chain pm_chain an_chain cd_chain ct_chain), sl_chain⟩) (w_chain : PySem.W.codeIn K cd_chain "_chain" = true) (k_chain : PySem.W.keepIn K (.ref f_chain) = true)
    (a_front : PySem.W.nsIn K mainGlobals "_front" = some (some (.ref f_front))) (l_front : K.lookup f_front = some ⟨oc_front, od_front, .func (PySem.W.fnOf "_front" "_front" (defArgs s_front) (defBody s_front) (defScope s_front) .none kV_front dc_front pm_front an_front cd_front ct_front), sl_front⟩) (w_front : PySem.W.codeIn K cd_front "_front" = true) (k_front : PySem.W.keepIn K (.ref f_front) = true)
    (a_atom : PySem.W.nsIn K mainGlobals "_atom" = some (some (.ref f_atom))) (l_atom : K.lookup f_atom = some ⟨oc_atom, od_atom, .func (PySem.W.fnOf "_atom" "_atom" (defArgs s_atom) (defBody s_atom) (defScope s_atom) .none kV_atom dc_atom pm_atom an_atom cd_atom ct_atom), sl_atom⟩) (w_atom : PySem.W.codeIn K cd_atom "_atom" = true) (k_atom : PySem.W.keepIn K (.ref f_atom) = true)
    (a_step_deeper : PySem.W.nsIn K mainGlobals "_step_deeper" = some (some (.ref f_step_deeper))) (l_step_deeper : K.lookup f_step_deeper = some ⟨oc_step_deeper, od_step_deeper, .func (PySem.W.fnOf "_step_deeper" "_step_deeper" (defArgs s_step_deeper) (defBody s_step_deeper) (defScope s_step_deeper) .none kV_step_deeper dc_step_deeper pm_step_deeper an_step_deeper cd_step_deeper ct_step_deeper), sl_step_deeper⟩) (w_step_deeper : PySem.W.codeIn K cd_step_deeper "_step_deeper" = true) (k_step_deeper : PySem.W.keepIn K (.ref f_step_deeper) = true)
    (a_read_source : PySem.W.nsIn K mainGlobals "read_source" = some (some (.ref f_read_source))) (l_read_source : K.lookup f_read_source = some ⟨oc_read_source, od_read_source, .func (PySem.W.fnOf "read_source" "read_source" (defArgs s_read_source) (defBody s_read_source) (defScope s_read_source) .none kV_read_source dc_read_source pm_read_source an_read_source cd_read_source ct_read_source), sl_read_source⟩) (w_read_source : PySem.W.codeIn K cd_read_source "read_source" = true) (k_read_source : PySem.W.keepIn K (.ref f_read_source) = true)
    (a_read_statement : PySem.W.nsIn K mainGlobals "read_statement" = some (some (.ref f_read_statement))) (l_read_statement : K.lookup f_read_statement = some ⟨oc_read_statement, od_read_statement, .func (PySem.W.fnOf "read_statement" "read_statement" (defArgs s_read_statement) (defBody s_read_statement) (defScope s_read_statement) .none kV_read_statement dc_read_statement pm_read_statement an_read_statement cd_read_statement ct_read_statement), sl_read_statement⟩) (w_read_statement : PySem.W.codeIn K cd_read_statement "read_statement" = true) (k_read_statement : PySem.W.keepIn K (.ref f_read_statement) = true)
    (a_read_question : PySem.W.nsIn K mainGlobals "read_question" = some (some (.ref f_read_question))) (l_read_question : K.lookup f_read_question = some ⟨oc_read_question, od_read_question, .func (PySem.W.fnOf "read_question" "read_question" (defArgs s_read_question) (defBody s_read_question) (defScope s_read_question) .none kV_read_question dc_read_question pm_read_question an_read_question cd_read_question ct_read_question), sl_read_question⟩) (w_read_question : PySem.W.codeIn K cd_read_question "read_question" = true) (k_read_question : PySem.W.keepIn K (.ref f_read_question) = true)
    (a_read_concept : PySem.W.nsIn K mainGlobals "read_concept" = some (some (.ref f_read_concept))) (l_read_concept : K.lookup f_read_concept = some ⟨oc_read_concept, od_read_concept, .func (PySem.W.fnOf "read_concept" "read_concept" (defArgs s_read_concept) (defBody s_read_concept) (defScope s_read_concept) .none kV_read_concept dc_read_concept pm_read_concept an_read_concept cd_read_concept ct_read_concept), sl_read_concept⟩) (w_read_concept : PySem.W.codeIn K cd_read_concept "read_concept" = true) (k_read_concept : PySem.W.keepIn K (.ref f_read_concept) = true)
    (a_read_whole : PySem.W.nsIn K mainGlobals "_read_whole" = some (some (.ref f_read_whole))) (l_read_whole : K.lookup f_read_whole = some ⟨oc_read_whole, od_read_whole, .func (PySem.W.fnOf "_read_whole" "_read_whole" (defArgs s_read_whole) (defBody s_read_whole) (defScope s_read_whole) .none kV_read_whole dc_read_whole pm_read_whole an_read_whole cd_read_whole ct_read_whole), sl_read_whole⟩) (w_read_whole : PySem.W.codeIn K cd_read_whole "_read_whole" = true) (k_read_whole : PySem.W.keepIn K (.ref f_read_whole) = true)
    (a_law_cell : PySem.W.nsIn K mainGlobals "_law_cell" = some (some (.ref f_law_cell))) (l_law_cell : K.lookup f_law_cell = some ⟨oc_law_cell, od_law_cell, .func (PySem.W.fnOf "_law_cell" "_law_cell" (defArgs s_law_cell) (defBody s_law_cell) (defScope s_law_cell) .none kV_law_cell dc_law_cell pm_law_cell an_law_cell cd_law_cell ct_law_cell), sl_law_cell⟩) (w_law_cell : PySem.W.codeIn K cd_law_cell "_law_cell" = true) (k_law_cell : PySem.W.keepIn K (.ref f_law_cell) = true)
    (a_law_draws : PySem.W.nsIn K mainGlobals "_law_draws" = some (some (.ref f_law_draws))) (l_law_draws : K.lookup f_law_draws = some ⟨oc_law_draws, od_law_draws, .func (PySem.W.fnOf "_law_draws" "_law_draws" (defArgs s_law_draws) (defBody s_law_draws) (defScope s_law_draws) .none kV_law_draws dc_law_draws pm_law_draws an_law_draws cd_law_draws ct_law_draws), sl_law_draws⟩) (w_law_draws : PySem.W.codeIn K cd_law_draws "_law_draws" = true) (k_law_draws : PySem.W.keepIn K (.ref f_law_draws) = true)
    (a_law_take : PySem.W.nsIn K mainGlobals "_law_take" = some (some (.ref f_law_take))) (l_law_take : K.lookup f_law_take = some ⟨oc_law_take, od_law_take, .func (PySem.W.fnOf "_law_take" "_law_take" (defArgs s_law_take) (defBody s_law_take) (defScope s_law_take) .none kV_law_take dc_law_take pm_law_take an_law_take cd_law_take ct_law_take), sl_law_take⟩) (w_law_take : PySem.W.codeIn K cd_law_take "_law_take" = true) (k_law_take : PySem.W.keepIn K (.ref f_law_take) = true)
    (a_law_frame : PySem.W.nsIn K mainGlobals "_law_frame" = some (some (.ref f_law_frame))) (l_law_frame : K.lookup f_law_frame = some ⟨oc_law_frame, od_law_frame, .func (PySem.W.fnOf "_law_frame" "_law_frame" (defArgs s_law_frame) (defBody s_law_frame) (defScope s_law_frame) .none kV_law_frame dc_law_frame pm_law_frame an_law_frame cd_law_frame ct_law_frame), sl_law_frame⟩) (w_law_frame : PySem.W.codeIn K cd_law_frame "_law_frame" = true) (k_law_frame : PySem.W.keepIn K (.ref f_law_frame) = true)
    (a_law_names : PySem.W.nsIn K mainGlobals "_law_names" = some (some (.ref f_law_names))) (l_law_names : K.lookup f_law_names = some ⟨oc_law_names, od_law_names, .func (PySem.W.fnOf "_law_names" "_law_names" (defArgs s_law_names) (defBody s_law_names) (defScope s_law_names) .none kV_law_names dc_law_names pm_law_names an_law_names cd_law_names ct_law_names), sl_law_names⟩) (w_law_names : PySem.W.codeIn K cd_law_names "_law_names" = true) (k_law_names : PySem.W.keepIn K (.ref f_law_names) = true)
    (a_law_role : PySem.W.nsIn K mainGlobals "_law_role" = some (some (.ref f_law_role))) (l_law_role : K.lookup f_law_role = some ⟨oc_law_role, od_law_role, .func (PySem.W.fnOf "_law_role" "_law_role" (defArgs s_law_role) (defBody s_law_role) (defScope s_law_role) .none kV_law_role dc_law_role pm_law_role an_law_role cd_law_role ct_law_role), sl_law_role⟩) (w_law_role : PySem.W.codeIn K cd_law_role "_law_role" = true) (k_law_role : PySem.W.keepIn K (.ref f_law_role) = true)
    (a_law_concept : PySem.W.nsIn K mainGlobals "_law_concept" = some (some (.ref f_law_concept))) (l_law_concept : K.lookup f_law_concept = some ⟨oc_law_concept, od_law_concept, .func (PySem.W.fnOf "_law_concept" "_law_concept" (defArgs s_law_concept) (defBody s_law_concept) (defScope s_law_concept) .none kV_law_concept dc_law_concept pm_law_concept an_law_concept cd_law_concept ct_law_concept), sl_law_concept⟩) (w_law_concept : PySem.W.codeIn K cd_law_concept "_law_concept" = true) (k_law_concept : PySem.W.keepIn K (.ref f_law_concept) = true)
    (a_law_statement : PySem.W.nsIn K mainGlobals "_law_statement" = some (some (.ref f_law_statement))) (l_law_statement : K.lookup f_law_statement = some ⟨oc_law_statement, od_law_statement, .func (PySem.W.fnOf "_law_statement" "_law_statement" (defArgs s_law_statement) (defBody s_law_statement) (defScope s_law_statement) .none kV_law_statement dc_law_statement pm_law_statement an_law_statement cd_law_statement ct_law_statement), sl_law_statement⟩) (w_law_statement : PySem.W.codeIn K cd_law_statement "_law_statement" = true) (k_law_statement : PySem.W.keepIn K (.ref f_law_statement) = true)
    (a_law_question : PySem.W.nsIn K mainGlobals "_law_question" = some (some (.ref f_law_question))) (l_law_question : K.lookup f_law_question = some ⟨oc_law_question, od_law_question, .func (PySem.W.fnOf "_law_question" "_law_question" (defArgs s_law_question) (defBody s_law_question) (defScope s_law_question) .none kV_law_question dc_law_question pm_law_question an_law_question cd_law_question ct_law_question), sl_law_question⟩) (w_law_question : PySem.W.codeIn K cd_law_question "_law_question" = true) (k_law_question : PySem.W.keepIn K (.ref f_law_question) = true)
    (a_law_say_role : PySem.W.nsIn K mainGlobals "_law_say_role" = some (some (.ref f_law_say_role))) (l_law_say_role : K.lookup f_law_say_role = some ⟨oc_law_say_role, od_law_say_role, .func (PySem.W.fnOf "_law_say_role" "_law_say_role" (defArgs s_law_say_role) (defBody s_law_say_role) (defScope s_law_say_role) .none kV_law_say_role dc_law_say_role pm_law_say_role an_law_say_role cd_law_say_role ct_law_say_role), sl_law_say_role⟩) (w_law_say_role : PySem.W.codeIn K cd_law_say_role "_law_say_role" = true) (k_law_say_role : PySem.W.keepIn K (.ref f_law_say_role) = true)
    (a_law_say : PySem.W.nsIn K mainGlobals "_law_say" = some (some (.ref f_law_say))) (l_law_say : K.lookup f_law_say = some ⟨oc_law_say, od_law_say, .func (PySem.W.fnOf "_law_say" "_law_say" (defArgs s_law_say) (defBody s_law_say) (defScope s_law_say) .none kV_law_say dc_law_say pm_law_say an_law_say cd_law_say ct_law_say), sl_law_say⟩) (w_law_say : PySem.W.codeIn K cd_law_say "_law_say" = true) (k_law_say : PySem.W.keepIn K (.ref f_law_say) = true)
    (a_law_same : PySem.W.nsIn K mainGlobals "_law_same" = some (some (.ref f_law_same))) (l_law_same : K.lookup f_law_same = some ⟨oc_law_same, od_law_same, .func (PySem.W.fnOf "_law_same" "_law_same" (defArgs s_law_same) (defBody s_law_same) (defScope s_law_same) .none kV_law_same dc_law_same pm_law_same an_law_same cd_law_same ct_law_same), sl_law_same⟩) (w_law_same : PySem.W.codeIn K cd_law_same "_law_same" = true) (k_law_same : PySem.W.keepIn K (.ref f_law_same) = true)
    (a_law : PySem.W.nsIn K mainGlobals "law" = some (some (.ref f_law))) (l_law : K.lookup f_law = some ⟨oc_law, od_law, .func (PySem.W.fnOf "law" "law" (defArgs s_law) (defBody s_law) (defScope s_law) .none kV_law dc_law pm_law an_law cd_law ct_law), sl_law⟩) (w_law : PySem.W.codeIn K cd_law "law" = true) (k_law : PySem.W.keepIn K (.ref f_law) = true)
    (a_Cursor : PySem.W.nsIn K mainGlobals "Cursor" = some (some (.ref C_Cursor))) (pg_Cursor : PySem.W.plainGet K C_Cursor Str.empty = true) (hd_Cursor : PySem.W.hasDictIn K C_Cursor = true) (po_Cursor : PySem.W.plainOver K C_Cursor = true) (sa_Cursor : PySem.W.findIn K (.ref C_Cursor) "__setattr__" = some (some (.builtin "object.__setattr__"))) (mk_Cursor : PySem.W.makesIn K C_Cursor = true) (kc_Cursor : PySem.W.keepIn K (.ref C_Cursor) = true)
    (n_Cursor_text : PySem.W.findIn K (.ref C_Cursor) "text" = some none)
    (n_Cursor_tokens : PySem.W.findIn K (.ref C_Cursor) "tokens" = some none)
    (n_Cursor_at : PySem.W.findIn K (.ref C_Cursor) "at" = some none)
    (a_Cursor_init : PySem.W.findIn K (.ref C_Cursor) "__init__" = some (some (.ref f_Cursor_init))) (i_Cursor_init : PySem.W.isFn K (.ref f_Cursor_init) = true) (l_Cursor_init : K.lookup f_Cursor_init = some ⟨oc_Cursor_init, od_Cursor_init, .func (PySem.W.fnOf "__init__" "Cursor.__init__" (defArgs s_Cursor_init) (defBody s_Cursor_init) (defScope s_Cursor_init) .none kV_Cursor_init dc_Cursor_init pm_Cursor_init an_Cursor_init cd_Cursor_init ct_Cursor_init), sl_Cursor_init⟩) (w_Cursor_init : PySem.W.codeIn K cd_Cursor_init "Cursor.__init__" = true) (k_Cursor_init : PySem.W.keepIn K (.ref f_Cursor_init) = true)
    (a_Cursor_word : PySem.W.findIn K (.ref C_Cursor) "word" = some (some (.ref f_Cursor_word))) (i_Cursor_word : PySem.W.isFn K (.ref f_Cursor_word) = true) (l_Cursor_word : K.lookup f_Cursor_word = some ⟨oc_Cursor_word, od_Cursor_word, .func (PySem.W.fnOf "word" "Cursor.word" (defArgs s_Cursor_word) (defBody s_Cursor_word) (defScope s_Cursor_word) .none kV_Cursor_word dc_Cursor_word pm_Cursor_word an_Cursor_word cd_Cursor_word ct_Cursor_word), sl_Cursor_word⟩) (w_Cursor_word : PySem.W.codeIn K cd_Cursor_word "Cursor.word" = true) (k_Cursor_word : PySem.W.keepIn K (.ref f_Cursor_word) = true)
    (a_Cursor_word_behind : PySem.W.findIn K (.ref C_Cursor) "word_behind" = some (some (.ref f_Cursor_word_behind))) (i_Cursor_word_behind : PySem.W.isFn K (.ref f_Cursor_word_behind) = true) (l_Cursor_word_behind : K.lookup f_Cursor_word_behind = some ⟨oc_Cursor_word_behind, od_Cursor_word_behind, .func (PySem.W.fnOf "word_behind" "Cursor.word_behind" (defArgs s_Cursor_word_behind) (defBody s_Cursor_word_behind) (defScope s_Cursor_word_behind) .none kV_Cursor_word_behind dc_Cursor_word_behind pm_Cursor_word_behind an_Cursor_word_behind cd_Cursor_word_behind ct_Cursor_word_behind), sl_Cursor_word_behind⟩) (w_Cursor_word_behind : PySem.W.codeIn K cd_Cursor_word_behind "Cursor.word_behind" = true) (k_Cursor_word_behind : PySem.W.keepIn K (.ref f_Cursor_word_behind) = true)
    (a_Cursor_at_end : PySem.W.findIn K (.ref C_Cursor) "at_end" = some (some (.ref f_Cursor_at_end))) (i_Cursor_at_end : PySem.W.isFn K (.ref f_Cursor_at_end) = true) (l_Cursor_at_end : K.lookup f_Cursor_at_end = some ⟨oc_Cursor_at_end, od_Cursor_at_end, .func (PySem.W.fnOf "at_end" "Cursor.at_end" (defArgs s_Cursor_at_end) (defBody s_Cursor_at_end) (defScope s_Cursor_at_end) .none kV_Cursor_at_end dc_Cursor_at_end pm_Cursor_at_end an_Cursor_at_end cd_Cursor_at_end ct_Cursor_at_end), sl_Cursor_at_end⟩) (w_Cursor_at_end : PySem.W.codeIn K cd_Cursor_at_end "Cursor.at_end" = true) (k_Cursor_at_end : PySem.W.keepIn K (.ref f_Cursor_at_end) = true)
    (a_Cursor_step : PySem.W.findIn K (.ref C_Cursor) "step" = some (some (.ref f_Cursor_step))) (i_Cursor_step : PySem.W.isFn K (.ref f_Cursor_step) = true) (l_Cursor_step : K.lookup f_Cursor_step = some ⟨oc_Cursor_step, od_Cursor_step, .func (PySem.W.fnOf "step" "Cursor.step" (defArgs s_Cursor_step) (defBody s_Cursor_step) (defScope s_Cursor_step) .none kV_Cursor_step dc_Cursor_step pm_Cursor_step an_Cursor_step cd_Cursor_step ct_Cursor_step), sl_Cursor_step⟩) (w_Cursor_step : PySem.W.codeIn K cd_Cursor_step "Cursor.step" = true) (k_Cursor_step : PySem.W.keepIn K (.ref f_Cursor_step) = true)
    (a_Cursor_expect : PySem.W.findIn K (.ref C_Cursor) "expect" = some (some (.ref f_Cursor_expect))) (i_Cursor_expect : PySem.W.isFn K (.ref f_Cursor_expect) = true) (l_Cursor_expect : K.lookup f_Cursor_expect = some ⟨oc_Cursor_expect, od_Cursor_expect, .func (PySem.W.fnOf "expect" "Cursor.expect" (defArgs s_Cursor_expect) (defBody s_Cursor_expect) (defScope s_Cursor_expect) .none kV_Cursor_expect dc_Cursor_expect pm_Cursor_expect an_Cursor_expect cd_Cursor_expect ct_Cursor_expect), sl_Cursor_expect⟩) (w_Cursor_expect : PySem.W.codeIn K cd_Cursor_expect "Cursor.expect" = true) (k_Cursor_expect : PySem.W.keepIn K (.ref f_Cursor_expect) = true)
    (a_Cursor_take_name : PySem.W.findIn K (.ref C_Cursor) "take_name" = some (some (.ref f_Cursor_take_name))) (i_Cursor_take_name : PySem.W.isFn K (.ref f_Cursor_take_name) = true) (l_Cursor_take_name : K.lookup f_Cursor_take_name = some ⟨oc_Cursor_take_name, od_Cursor_take_name, .func (PySem.W.fnOf "take_name" "Cursor.take_name" (defArgs s_Cursor_take_name) (defBody s_Cursor_take_name) (defScope s_Cursor_take_name) .none kV_Cursor_take_name dc_Cursor_take_name pm_Cursor_take_name an_Cursor_take_name cd_Cursor_take_name ct_Cursor_take_name), sl_Cursor_take_name⟩) (w_Cursor_take_name : PySem.W.codeIn K cd_Cursor_take_name "Cursor.take_name" = true) (k_Cursor_take_name : PySem.W.keepIn K (.ref f_Cursor_take_name) = true)
    (y_all : PySem.W.nsIn K mainGlobals "all" = some none)
    (y_bool : PySem.W.nsIn K mainGlobals "bool" = some none)
    (y_int : PySem.W.nsIn K mainGlobals "int" = some none)
    (y_isinstance : PySem.W.nsIn K mainGlobals "isinstance" = some none)
    (y_len : PySem.W.nsIn K mainGlobals "len" = some none)
    (y_max : PySem.W.nsIn K mainGlobals "max" = some none)
    (y_min : PySem.W.nsIn K mainGlobals "min" = some none)
    (y_range : PySem.W.nsIn K mainGlobals "range" = some none)
    (y_str : PySem.W.nsIn K mainGlobals "str" = some none)
    (y_tuple : PySem.W.nsIn K mainGlobals "tuple" = some none)
    (g_DECLARING : PySem.W.nsIn K mainGlobals "DECLARING" = some (some (.ref r_DECLARING))) (u_DECLARING : K.lookup r_DECLARING = some ⟨.type "dict", none, .dict e_DECLARING n_DECLARING, #[]⟩) (x_DECLARING : PySem.W.KeysLit w.params e_DECLARING.toList)
    (q_DECLARING0 : PySem.W.nsIn K r_DECLARING "concepts" = some (some (.str "concept" t_DECLARING0)))
    (q_DECLARING1 : PySem.W.nsIn K r_DECLARING "roles" = some (some (.str "role" t_DECLARING1)))
    (q_DECLARING2 : PySem.W.nsIn K r_DECLARING "individuals" = some (some (.str "individual" t_DECLARING2)))
    (g_OR_RANK : PySem.W.nsIn K mainGlobals "OR_RANK" = some (some (.int K_OR_RANK t_OR_RANK)))
    (g_AND_RANK : PySem.W.nsIn K mainGlobals "AND_RANK" = some (some (.int K_AND_RANK t_AND_RANK)))
    (g_FRONT_RANK : PySem.W.nsIn K mainGlobals "FRONT_RANK" = some (some (.int K_FRONT_RANK t_FRONT_RANK)))
    (g_BLANKS : PySem.W.nsIn K mainGlobals "BLANKS" = some (some (.str K_BLANKS t_BLANKS)))
    (g_SIGNS : PySem.W.nsIn K mainGlobals "SIGNS" = some (some (.str K_SIGNS t_SIGNS)))
    (g_LETTERS : PySem.W.nsIn K mainGlobals "LETTERS" = some (some (.str K_LETTERS t_LETTERS)))
    (g_DIGITS : PySem.W.nsIn K mainGlobals "DIGITS" = some (some (.str K_DIGITS t_DIGITS)))
    (g_LONGEST_WORD : PySem.W.nsIn K mainGlobals "LONGEST_WORD" = some (some (.int K_LONGEST_WORD t_LONGEST_WORD)))
    (g_RESERVED : PySem.W.nsIn K mainGlobals "RESERVED" = some (some (.ref r_RESERVED))) (u_RESERVED : K.lookup r_RESERVED = some ⟨.type "tuple", oo_RESERVED, .seq i_RESERVED n_RESERVED, os_RESERVED⟩)
    (v_RESERVED : StrIts i_RESERVED.toList K_RESERVED = true) (vs_RESERVED : decide (i_RESERVED.size ≤ 1000) = true)
    (g_DEEPEST_LEVEL : PySem.W.nsIn K mainGlobals "DEEPEST_LEVEL" = some (some (.int K_DEEPEST_LEVEL t_DEEPEST_LEVEL)))
    (g_GREATEST_HEIGHT : PySem.W.nsIn K mainGlobals "GREATEST_HEIGHT" = some (some (.int K_GREATEST_HEIGHT t_GREATEST_HEIGHT)))
    (g_DECLARATIONS : PySem.W.nsIn K mainGlobals "DECLARATIONS" = some (some (.ref r_DECLARATIONS))) (u_DECLARATIONS : K.lookup r_DECLARATIONS = some ⟨.type "dict", none, .dict e_DECLARATIONS n_DECLARATIONS, #[]⟩) (x_DECLARATIONS : PySem.W.KeysLit w.params e_DECLARATIONS.toList)
    (q_DECLARATIONS0 : PySem.W.nsIn K r_DECLARATIONS "concept" = some (some (.str "concepts" t_DECLARATIONS0)))
    (q_DECLARATIONS1 : PySem.W.nsIn K r_DECLARATIONS "role" = some (some (.str "roles" t_DECLARATIONS1)))
    (q_DECLARATIONS2 : PySem.W.nsIn K r_DECLARATIONS "individual" = some (some (.str "individuals" t_DECLARATIONS2)))
    (lo_DECLARATIONS : (r_DECLARATIONS == sysModules) = false) :
    ∃ fd : FuncData, (∀ (s : Shared) (v : Value), BindsTo s fd ⟨[v], []⟩ [("script", v)]) ∧ ∀ base : Heap, K.In base → base.Ns mainGlobals mg → FnOk l.prog w K mg base CX0 81 fa fd ["script"] (spLaw K) := by
  have e := hfa.symm.trans (PySem.W.mg_of X G a_law)
  cases e
  have D_print_concept : Df K mg "print_concept" s_print_concept f_print_concept _ ["concept"] := ⟨fun_mk (st := s_print_concept) l_print_concept w_print_concept k_print_concept, PySem.W.mg_of X G a_print_concept, k_print_concept, (fun_mk (st := s_print_concept) l_print_concept w_print_concept k_print_concept).binds (ps := ["concept"]) fun _ _ _ _ _ _ us hl => match us, hl with | [_], _ => rfl⟩
  have D_print_statement : Df K mg "print_statement" s_print_statement f_print_statement _ ["statement"] := ⟨fun_mk (st := s_print_statement) l_print_statement w_print_statement k_print_statement, PySem.W.mg_of X G a_print_statement, k_print_statement, (fun_mk (st := s_print_statement) l_print_statement w_print_statement k_print_statement).binds (ps := ["statement"]) fun _ _ _ _ _ _ us hl => match us, hl with | [_], _ => rfl⟩
  have D_print_question : Df K mg "print_question" s_print_question f_print_question _ ["question"] := ⟨fun_mk (st := s_print_question) l_print_question w_print_question k_print_question, PySem.W.mg_of X G a_print_question, k_print_question, (fun_mk (st := s_print_question) l_print_question w_print_question k_print_question).binds (ps := ["question"]) fun _ _ _ _ _ _ us hl => match us, hl with | [_], _ => rfl⟩
  have D_print_source : Df K mg "print_source" s_print_source f_print_source _ ["items"] := ⟨fun_mk (st := s_print_source) l_print_source w_print_source k_print_source, PySem.W.mg_of X G a_print_source, k_print_source, (fun_mk (st := s_print_source) l_print_source w_print_source k_print_source).binds (ps := ["items"]) fun _ _ _ _ _ _ us hl => match us, hl with | [_], _ => rfl⟩
  have D_item : Df K mg "_item" s_item f_item _ ["item"] := ⟨fun_mk (st := s_item) l_item w_item k_item, PySem.W.mg_of X G a_item, k_item, (fun_mk (st := s_item) l_item w_item k_item).binds (ps := ["item"]) fun _ _ _ _ _ _ us hl => match us, hl with | [_], _ => rfl⟩
  have D_role : Df K mg "_role" s_role f_role _ ["role"] := ⟨fun_mk (st := s_role) l_role w_role k_role, PySem.W.mg_of X G a_role, k_role, (fun_mk (st := s_role) l_role w_role k_role).binds (ps := ["role"]) fun _ _ _ _ _ _ us hl => match us, hl with | [_], _ => rfl⟩
  have D_rank : Df K mg "_rank" s_rank f_rank _ ["concept"] := ⟨fun_mk (st := s_rank) l_rank w_rank k_rank, PySem.W.mg_of X G a_rank, k_rank, (fun_mk (st := s_rank) l_rank w_rank k_rank).binds (ps := ["concept"]) fun _ _ _ _ _ _ us hl => match us, hl with | [_], _ => rfl⟩
  have D_operand : Df K mg "_operand" s_operand f_operand _ ["concept", "rank"] := ⟨fun_mk (st := s_operand) l_operand w_operand k_operand, PySem.W.mg_of X G a_operand, k_operand, (fun_mk (st := s_operand) l_operand w_operand k_operand).binds (ps := ["concept", "rank"]) fun _ _ _ _ _ _ us hl => match us, hl with | [_, _], _ => rfl⟩
  have D_place : Df K mg "place" s_place f_place _ ["text", "at"] := ⟨fun_mk (st := s_place) l_place w_place k_place, PySem.W.mg_of X G a_place, k_place, (fun_mk (st := s_place) l_place w_place k_place).binds (ps := ["text", "at"]) fun _ _ _ _ _ _ us hl => match us, hl with | [_, _], _ => rfl⟩
  have D_is_name : Df K mg "is_name" s_is_name f_is_name _ ["word"] := ⟨fun_mk (st := s_is_name) l_is_name w_is_name k_is_name, PySem.W.mg_of X G a_is_name, k_is_name, (fun_mk (st := s_is_name) l_is_name w_is_name k_is_name).binds (ps := ["word"]) fun _ _ _ _ _ _ us hl => match us, hl with | [_], _ => rfl⟩
  have D_split_tokens : Df K mg "split_tokens" s_split_tokens f_split_tokens _ ["text"] := ⟨fun_mk (st := s_split_tokens) l_split_tokens w_split_tokens k_split_tokens, PySem.W.mg_of X G a_split_tokens, k_split_tokens, (fun_mk (st := s_split_tokens) l_split_tokens w_split_tokens k_split_tokens).binds (ps := ["text"]) fun _ _ _ _ _ _ us hl => match us, hl with | [_], _ => rfl⟩
  have D_comment_end : Df K mg "_comment_end" s_comment_end f_comment_end _ ["text", "at"] := ⟨fun_mk (st := s_comment_end) l_comment_end w_comment_end k_comment_end, PySem.W.mg_of X G a_comment_end, k_comment_end, (fun_mk (st := s_comment_end) l_comment_end w_comment_end k_comment_end).binds (ps := ["text", "at"]) fun _ _ _ _ _ _ us hl => match us, hl with | [_, _], _ => rfl⟩
  have D_word_at : Df K mg "_word_at" s_word_at f_word_at _ ["text", "at"] := ⟨fun_mk (st := s_word_at) l_word_at w_word_at k_word_at, PySem.W.mg_of X G a_word_at, k_word_at, (fun_mk (st := s_word_at) l_word_at w_word_at k_word_at).binds (ps := ["text", "at"]) fun _ _ _ _ _ _ us hl => match us, hl with | [_, _], _ => rfl⟩
  have D_word_end : Df K mg "_word_end" s_word_end f_word_end _ ["text", "at"] := ⟨fun_mk (st := s_word_end) l_word_end w_word_end k_word_end, PySem.W.mg_of X G a_word_end, k_word_end, (fun_mk (st := s_word_end) l_word_end w_word_end k_word_end).binds (ps := ["text", "at"]) fun _ _ _ _ _ _ us hl => match us, hl with | [_, _], _ => rfl⟩
  have D_itemP : Df K mg "item" s_itemP f_itemP _ ["cursor"] := ⟨fun_mk (st := s_itemP) l_itemP w_itemP k_itemP, PySem.W.mg_of X G a_itemP, k_itemP, (fun_mk (st := s_itemP) l_itemP w_itemP k_itemP).binds (ps := ["cursor"]) fun _ _ _ _ _ _ us hl => match us, hl with | [_], _ => rfl⟩
  have D_statement : Df K mg "statement" s_statement f_statement _ ["cursor"] := ⟨fun_mk (st := s_statement) l_statement w_statement k_statement, PySem.W.mg_of X G a_statement, k_statement, (fun_mk (st := s_statement) l_statement w_statement k_statement).binds (ps := ["cursor"]) fun _ _ _ _ _ _ us hl => match us, hl with | [_], _ => rfl⟩
  have D_question : Df K mg "question" s_question f_question _ ["cursor"] := ⟨fun_mk (st := s_question) l_question w_question k_question, PySem.W.mg_of X G a_question, k_question, (fun_mk (st := s_question) l_question w_question k_question).binds (ps := ["cursor"]) fun _ _ _ _ _ _ us hl => match us, hl with | [_], _ => rfl⟩
  have D_roleP : Df K mg "role" s_roleP f_roleP _ ["cursor"] := ⟨fun_mk (st := s_roleP) l_roleP w_roleP k_roleP, PySem.W.mg_of X G a_roleP, k_roleP, (fun_mk (st := s_roleP) l_roleP w_roleP k_roleP).binds (ps := ["cursor"]) fun _ _ _ _ _ _ us hl => match us, hl with | [_], _ => rfl⟩
  have D_concept : Df K mg "concept" s_concept f_concept _ ["cursor"] := ⟨fun_mk (st := s_concept) l_concept w_concept k_concept, PySem.W.mg_of X G a_concept, k_concept, (fun_mk (st := s_concept) l_concept w_concept k_concept).binds (ps := ["cursor"]) fun _ _ _ _ _ _ us hl => match us, hl with | [_], _ => rfl⟩
  have D_axiom : Df K mg "_axiom" s_axiom f_axiom _ ["cursor"] := ⟨fun_mk (st := s_axiom) l_axiom w_axiom k_axiom, PySem.W.mg_of X G a_axiom, k_axiom, (fun_mk (st := s_axiom) l_axiom w_axiom k_axiom).binds (ps := ["cursor"]) fun _ _ _ _ _ _ us hl => match us, hl with | [_], _ => rfl⟩
  have D_is_name_before : Df K mg "_is_name_before" s_is_name_before f_is_name_before _ ["cursor", "word"] := ⟨fun_mk (st := s_is_name_before) l_is_name_before w_is_name_before k_is_name_before, PySem.W.mg_of X G a_is_name_before, k_is_name_before, (fun_mk (st := s_is_name_before) l_is_name_before w_is_name_before k_is_name_before).binds (ps := ["cursor", "word"]) fun _ _ _ _ _ _ us hl => match us, hl with | [_, _], _ => rfl⟩
  have D_begins_fact : Df K mg "_begins_fact" s_begins_fact f_begins_fact _ ["cursor"] := ⟨fun_mk (st := s_begins_fact) l_begins_fact w_begins_fact k_begins_fact, PySem.W.mg_of X G a_begins_fact, k_begins_fact, (fun_mk (st := s_begins_fact) l_begins_fact w_begins_fact k_begins_fact).binds (ps := ["cursor"]) fun _ _ _ _ _ _ us hl => match us, hl with | [_], _ => rfl⟩
  have D_fact : Df K mg "_fact" s_fact f_fact _ ["cursor"] := ⟨fun_mk (st := s_fact) l_fact w_fact k_fact, PySem.W.mg_of X G a_fact, k_fact, (fun_mk (st := s_fact) l_fact w_fact k_fact).binds (ps := ["cursor"]) fun _ _ _ _ _ _ us hl => match us, hl with | [_], _ => rfl⟩
  have D_comparison : Df K mg "_comparison" s_comparison f_comparison _ ["cursor"] := ⟨fun_mk (st := s_comparison) l_comparison w_comparison k_comparison, PySem.W.mg_of X G a_comparison, k_comparison, (fun_mk (st := s_comparison) l_comparison w_comparison k_comparison).binds (ps := ["cursor"]) fun _ _ _ _ _ _ us hl => match us, hl with | [_], _ => rfl⟩
  have D_alternatives : Df K mg "_alternatives" s_alternatives f_alternatives _ ["cursor", "level"] := ⟨fun_mk (st := s_alternatives) l_alternatives w_alternatives k_alternatives, PySem.W.mg_of X G a_alternatives, k_alternatives, (fun_mk (st := s_alternatives) l_alternatives w_alternatives k_alternatives).binds (ps := ["cursor", "level"]) fun _ _ _ _ _ _ us hl => match us, hl with | [_, _], _ => rfl⟩
  have D_both : Df K mg "_both" s_both f_both _ ["cursor", "level"] := ⟨fun_mk (st := s_both) l_both w_both k_both, PySem.W.mg_of X G a_both, k_both, (fun_mk (st := s_both) l_both w_both k_both).binds (ps := ["cursor", "level"]) fun _ _ _ _ _ _ us hl => match us, hl with | [_, _], _ => rfl⟩
  have D_chain : Df K mg "_chain" s_chain f_chain _ ["cursor", "level", "word", "operand"] := ⟨fun_mk (st := s_chain) l_chain w_chain k_chain, PySem.W.mg_of X G a_chain, k_chain, (fun_mk (st := s_chain) l_chain w_chain k_chain).binds (ps := ["cursor", "level", "word", "operand"]) fun _ _ _ _ _ _ us hl => match us, hl with | [_, _, _, _], _ => rfl⟩
  have D_front : Df K mg "_front" s_front f_front _ ["cursor", "level"] := ⟨fun_mk (st := s_front) l_front w_front k_front, PySem.W.mg_of X G a_front, k_front, (fun_mk (st := s_front) l_front w_front k_front).binds (ps := ["cursor", "level"]) fun _ _ _ _ _ _ us hl => match us, hl with | [_, _], _ => rfl⟩
  have D_atom : Df K mg "_atom" s_atom f_atom _ ["cursor", "level"] := ⟨fun_mk (st := s_atom) l_atom w_atom k_atom, PySem.W.mg_of X G a_atom, k_atom, (fun_mk (st := s_atom) l_atom w_atom k_atom).binds (ps := ["cursor", "level"]) fun _ _ _ _ _ _ us hl => match us, hl with | [_, _], _ => rfl⟩
  have D_step_deeper : Df K mg "_step_deeper" s_step_deeper f_step_deeper _ ["cursor", "level"] := ⟨fun_mk (st := s_step_deeper) l_step_deeper w_step_deeper k_step_deeper, PySem.W.mg_of X G a_step_deeper, k_step_deeper, (fun_mk (st := s_step_deeper) l_step_deeper w_step_deeper k_step_deeper).binds (ps := ["cursor", "level"]) fun _ _ _ _ _ _ us hl => match us, hl with | [_, _], _ => rfl⟩
  have D_read_source : Df K mg "read_source" s_read_source f_read_source _ ["text"] := ⟨fun_mk (st := s_read_source) l_read_source w_read_source k_read_source, PySem.W.mg_of X G a_read_source, k_read_source, (fun_mk (st := s_read_source) l_read_source w_read_source k_read_source).binds (ps := ["text"]) fun _ _ _ _ _ _ us hl => match us, hl with | [_], _ => rfl⟩
  have D_read_statement : Df K mg "read_statement" s_read_statement f_read_statement _ ["text"] := ⟨fun_mk (st := s_read_statement) l_read_statement w_read_statement k_read_statement, PySem.W.mg_of X G a_read_statement, k_read_statement, (fun_mk (st := s_read_statement) l_read_statement w_read_statement k_read_statement).binds (ps := ["text"]) fun _ _ _ _ _ _ us hl => match us, hl with | [_], _ => rfl⟩
  have D_read_question : Df K mg "read_question" s_read_question f_read_question _ ["text"] := ⟨fun_mk (st := s_read_question) l_read_question w_read_question k_read_question, PySem.W.mg_of X G a_read_question, k_read_question, (fun_mk (st := s_read_question) l_read_question w_read_question k_read_question).binds (ps := ["text"]) fun _ _ _ _ _ _ us hl => match us, hl with | [_], _ => rfl⟩
  have D_read_concept : Df K mg "read_concept" s_read_concept f_read_concept _ ["text"] := ⟨fun_mk (st := s_read_concept) l_read_concept w_read_concept k_read_concept, PySem.W.mg_of X G a_read_concept, k_read_concept, (fun_mk (st := s_read_concept) l_read_concept w_read_concept k_read_concept).binds (ps := ["text"]) fun _ _ _ _ _ _ us hl => match us, hl with | [_], _ => rfl⟩
  have D_read_whole : Df K mg "_read_whole" s_read_whole f_read_whole _ ["text", "form"] := ⟨fun_mk (st := s_read_whole) l_read_whole w_read_whole k_read_whole, PySem.W.mg_of X G a_read_whole, k_read_whole, (fun_mk (st := s_read_whole) l_read_whole w_read_whole k_read_whole).binds (ps := ["text", "form"]) fun _ _ _ _ _ _ us hl => match us, hl with | [_, _], _ => rfl⟩
  have D_law_cell : Df K mg "_law_cell" s_law_cell f_law_cell _ ["script", "k"] := ⟨fun_mk (st := s_law_cell) l_law_cell w_law_cell k_law_cell, PySem.W.mg_of X G a_law_cell, k_law_cell, (fun_mk (st := s_law_cell) l_law_cell w_law_cell k_law_cell).binds (ps := ["script", "k"]) fun _ _ _ _ _ _ us hl => match us, hl with | [_, _], _ => rfl⟩
  have D_law_draws : Df K mg "_law_draws" s_law_draws f_law_draws _ ["script", "k", "count"] := ⟨fun_mk (st := s_law_draws) l_law_draws w_law_draws k_law_draws, PySem.W.mg_of X G a_law_draws, k_law_draws, (fun_mk (st := s_law_draws) l_law_draws w_law_draws k_law_draws).binds (ps := ["script", "k", "count"]) fun _ _ _ _ _ _ us hl => match us, hl with | [_, _, _], _ => rfl⟩
  have D_law_take : Df K mg "_law_take" s_law_take f_law_take _ ["draws", "many"] := ⟨fun_mk (st := s_law_take) l_law_take w_law_take k_law_take, PySem.W.mg_of X G a_law_take, k_law_take, (fun_mk (st := s_law_take) l_law_take w_law_take k_law_take).binds (ps := ["draws", "many"]) fun _ _ _ _ _ _ us hl => match us, hl with | [_, _], _ => rfl⟩
  have D_law_frame : Df K mg "_law_frame" s_law_frame f_law_frame _ ["draws"] := ⟨fun_mk (st := s_law_frame) l_law_frame w_law_frame k_law_frame, PySem.W.mg_of X G a_law_frame, k_law_frame, (fun_mk (st := s_law_frame) l_law_frame w_law_frame k_law_frame).binds (ps := ["draws"]) fun _ _ _ _ _ _ us hl => match us, hl with | [_], _ => rfl⟩
  have D_law_names : Df K mg "_law_names" s_law_names f_law_names _ ["draws"] := ⟨fun_mk (st := s_law_names) l_law_names w_law_names k_law_names, PySem.W.mg_of X G a_law_names, k_law_names, (fun_mk (st := s_law_names) l_law_names w_law_names k_law_names).binds (ps := ["draws"]) fun _ _ _ _ _ _ us hl => match us, hl with | [_], _ => rfl⟩
  have D_law_role : Df K mg "_law_role" s_law_role f_law_role _ ["draws", "names", "sizes"] := ⟨fun_mk (st := s_law_role) l_law_role w_law_role k_law_role, PySem.W.mg_of X G a_law_role, k_law_role, (fun_mk (st := s_law_role) l_law_role w_law_role k_law_role).binds (ps := ["draws", "names", "sizes"]) fun _ _ _ _ _ _ us hl => match us, hl with | [_, _, _], _ => rfl⟩
  have D_law_concept : Df K mg "_law_concept" s_law_concept f_law_concept _ ["draws", "names", "sizes", "depth"] := ⟨fun_mk (st := s_law_concept) l_law_concept w_law_concept k_law_concept, PySem.W.mg_of X G a_law_concept, k_law_concept, (fun_mk (st := s_law_concept) l_law_concept w_law_concept k_law_concept).binds (ps := ["draws", "names", "sizes", "depth"]) fun _ _ _ _ _ _ us hl => match us, hl with | [_, _, _, _], _ => rfl⟩
  have D_law_statement : Df K mg "_law_statement" s_law_statement f_law_statement _ ["draws", "names", "sizes", "depth"] := ⟨fun_mk (st := s_law_statement) l_law_statement w_law_statement k_law_statement, PySem.W.mg_of X G a_law_statement, k_law_statement, (fun_mk (st := s_law_statement) l_law_statement w_law_statement k_law_statement).binds (ps := ["draws", "names", "sizes", "depth"]) fun _ _ _ _ _ _ us hl => match us, hl with | [_, _, _, _], _ => rfl⟩
  have D_law_question : Df K mg "_law_question" s_law_question f_law_question _ ["draws", "names", "sizes", "depth"] := ⟨fun_mk (st := s_law_question) l_law_question w_law_question k_law_question, PySem.W.mg_of X G a_law_question, k_law_question, (fun_mk (st := s_law_question) l_law_question w_law_question k_law_question).binds (ps := ["draws", "names", "sizes", "depth"]) fun _ _ _ _ _ _ us hl => match us, hl with | [_, _, _, _], _ => rfl⟩
  have D_law_say_role : Df K mg "_law_say_role" s_law_say_role f_law_say_role _ ["role_v"] := ⟨fun_mk (st := s_law_say_role) l_law_say_role w_law_say_role k_law_say_role, PySem.W.mg_of X G a_law_say_role, k_law_say_role, (fun_mk (st := s_law_say_role) l_law_say_role w_law_say_role k_law_say_role).binds (ps := ["role_v"]) fun _ _ _ _ _ _ us hl => match us, hl with | [_], _ => rfl⟩
  have D_law_say : Df K mg "_law_say" s_law_say f_law_say _ ["concept_v", "least"] := ⟨fun_mk (st := s_law_say) l_law_say w_law_say k_law_say, PySem.W.mg_of X G a_law_say, k_law_say, (fun_mk (st := s_law_say) l_law_say w_law_say k_law_say).binds (ps := ["concept_v", "least"]) fun _ _ _ _ _ _ us hl => match us, hl with | [_, _], _ => rfl⟩
  have D_law_same : Df K mg "_law_same" s_law_same f_law_same _ ["actual", "due"] := ⟨fun_mk (st := s_law_same) l_law_same w_law_same k_law_same, PySem.W.mg_of X G a_law_same, k_law_same, (fun_mk (st := s_law_same) l_law_same w_law_same k_law_same).binds (ps := ["actual", "due"]) fun _ _ _ _ _ _ us hl => match us, hl with | [_, _], _ => rfl⟩
  have T_Cursor : CurC K mg C_Cursor := ⟨⟨pg_Cursor, hd_Cursor, po_Cursor, sa_Cursor⟩, n_Cursor_text, n_Cursor_tokens, n_Cursor_at, PySem.W.mg_of X G a_Cursor⟩
  have F_Cursor_init := fun_mk (st := s_Cursor_init) l_Cursor_init w_Cursor_init k_Cursor_init
  have b_Cursor_init := F_Cursor_init.binds (ps := ["self", "text"]) fun _ _ _ _ _ _ us hl => match us, hl with | [_, _], _ => rfl
  have M_Cursor_init : Mk K C_Cursor f_Cursor_init := ⟨mk_Cursor, a_Cursor_init, i_Cursor_init, kc_Cursor⟩
  have F_Cursor_word := fun_mk (st := s_Cursor_word) l_Cursor_word w_Cursor_word k_Cursor_word
  have b_Cursor_word := F_Cursor_word.binds (ps := ["self"]) fun _ _ _ _ _ _ us hl => match us, hl with | [_], _ => rfl
  have M_Cursor_word : Meth K C_Cursor "word" f_Cursor_word := ⟨a_Cursor_word, i_Cursor_word, k_Cursor_word⟩
  have F_Cursor_word_behind := fun_mk (st := s_Cursor_word_behind) l_Cursor_word_behind w_Cursor_word_behind k_Cursor_word_behind
  have b_Cursor_word_behind := F_Cursor_word_behind.binds (ps := ["self"]) fun _ _ _ _ _ _ us hl => match us, hl with | [_], _ => rfl
  have M_Cursor_word_behind : Meth K C_Cursor "word_behind" f_Cursor_word_behind := ⟨a_Cursor_word_behind, i_Cursor_word_behind, k_Cursor_word_behind⟩
  have F_Cursor_at_end := fun_mk (st := s_Cursor_at_end) l_Cursor_at_end w_Cursor_at_end k_Cursor_at_end
  have b_Cursor_at_end := F_Cursor_at_end.binds (ps := ["self"]) fun _ _ _ _ _ _ us hl => match us, hl with | [_], _ => rfl
  have M_Cursor_at_end : Meth K C_Cursor "at_end" f_Cursor_at_end := ⟨a_Cursor_at_end, i_Cursor_at_end, k_Cursor_at_end⟩
  have F_Cursor_step := fun_mk (st := s_Cursor_step) l_Cursor_step w_Cursor_step k_Cursor_step
  have b_Cursor_step := F_Cursor_step.binds (ps := ["self"]) fun _ _ _ _ _ _ us hl => match us, hl with | [_], _ => rfl
  have M_Cursor_step : Meth K C_Cursor "step" f_Cursor_step := ⟨a_Cursor_step, i_Cursor_step, k_Cursor_step⟩
  have F_Cursor_expect := fun_mk (st := s_Cursor_expect) l_Cursor_expect w_Cursor_expect k_Cursor_expect
  have b_Cursor_expect := F_Cursor_expect.binds (ps := ["self", "word"]) fun _ _ _ _ _ _ us hl => match us, hl with | [_, _], _ => rfl
  have M_Cursor_expect : Meth K C_Cursor "expect" f_Cursor_expect := ⟨a_Cursor_expect, i_Cursor_expect, k_Cursor_expect⟩
  have F_Cursor_take_name := fun_mk (st := s_Cursor_take_name) l_Cursor_take_name w_Cursor_take_name k_Cursor_take_name
  have b_Cursor_take_name := F_Cursor_take_name.binds (ps := ["self"]) fun _ _ _ _ _ _ us hl => match us, hl with | [_], _ => rfl
  have M_Cursor_take_name : Meth K C_Cursor "take_name" f_Cursor_take_name := ⟨a_Cursor_take_name, i_Cursor_take_name, k_Cursor_take_name⟩
  have z_all : mg "all" = none := PySem.W.mg_none_of X G y_all
  have z_bool : mg "bool" = none := PySem.W.mg_none_of X G y_bool
  have z_int : mg "int" = none := PySem.W.mg_none_of X G y_int
  have z_isinstance : mg "isinstance" = none := PySem.W.mg_none_of X G y_isinstance
  have z_len : mg "len" = none := PySem.W.mg_none_of X G y_len
  have z_max : mg "max" = none := PySem.W.mg_none_of X G y_max
  have z_min : mg "min" = none := PySem.W.mg_none_of X G y_min
  have z_range : mg "range" = none := PySem.W.mg_none_of X G y_range
  have z_str : mg "str" = none := PySem.W.mg_none_of X G y_str
  have z_tuple : mg "tuple" = none := PySem.W.mg_none_of X G y_tuple
  have m_DECLARING : mg "DECLARING" = some _ := PySem.W.mg_of X G g_DECLARING
  have T_DECLARING : ∀ p ∈ K_DECLARING, KDct K w r_DECLARING p.1 (.str p.2) := fun p hp => by
    rcases List.mem_cons.mp hp with rfl | hp
    · exact ⟨_, _, _, u_DECLARING, x_DECLARING, q_DECLARING0, ⟨_, rfl⟩⟩
    rcases List.mem_cons.mp hp with rfl | hp
    · exact ⟨_, _, _, u_DECLARING, x_DECLARING, q_DECLARING1, ⟨_, rfl⟩⟩
    rw [List.mem_singleton.mp hp]
    exact ⟨_, _, _, u_DECLARING, x_DECLARING, q_DECLARING2, ⟨_, rfl⟩⟩
  have m_OR_RANK : mg "OR_RANK" = some _ := PySem.W.mg_of X G g_OR_RANK
  have m_AND_RANK : mg "AND_RANK" = some _ := PySem.W.mg_of X G g_AND_RANK
  have m_FRONT_RANK : mg "FRONT_RANK" = some _ := PySem.W.mg_of X G g_FRONT_RANK
  have m_BLANKS : mg "BLANKS" = some _ := PySem.W.mg_of X G g_BLANKS
  have m_SIGNS : mg "SIGNS" = some _ := PySem.W.mg_of X G g_SIGNS
  have m_LETTERS : mg "LETTERS" = some _ := PySem.W.mg_of X G g_LETTERS
  have m_DIGITS : mg "DIGITS" = some _ := PySem.W.mg_of X G g_DIGITS
  have m_LONGEST_WORD : mg "LONGEST_WORD" = some _ := PySem.W.mg_of X G g_LONGEST_WORD
  have m_RESERVED : mg "RESERVED" = some _ := PySem.W.mg_of X G g_RESERVED
  have T_RESERVED : ∀ H, SqT K H r_RESERVED (K_RESERVED.map V.str) := fun H => sqt_of u_RESERVED v_RESERVED vs_RESERVED
  have m_DEEPEST_LEVEL : mg "DEEPEST_LEVEL" = some _ := PySem.W.mg_of X G g_DEEPEST_LEVEL
  have m_GREATEST_HEIGHT : mg "GREATEST_HEIGHT" = some _ := PySem.W.mg_of X G g_GREATEST_HEIGHT
  have m_DECLARATIONS : mg "DECLARATIONS" = some _ := PySem.W.mg_of X G g_DECLARATIONS
  have KD_DECLARATIONS : KDict K w r_DECLARATIONS e_DECLARATIONS n_DECLARATIONS := ⟨u_DECLARATIONS, x_DECLARATIONS, lo_DECLARATIONS⟩
  have T_DECLARATIONS : ∀ p ∈ K_DECLARATIONS, KDct K w r_DECLARATIONS p.1 (.str p.2) := fun p hp => by
    rcases List.mem_cons.mp hp with rfl | hp
    · exact ⟨_, _, _, u_DECLARATIONS, x_DECLARATIONS, q_DECLARATIONS0, ⟨_, rfl⟩⟩
    rcases List.mem_cons.mp hp with rfl | hp
    · exact ⟨_, _, _, u_DECLARATIONS, x_DECLARATIONS, q_DECLARATIONS1, ⟨_, rfl⟩⟩
    rw [List.mem_singleton.mp hp]
    exact ⟨_, _, _, u_DECLARATIONS, x_DECLARATIONS, q_DECLARATIONS2, ⟨_, rfl⟩⟩
  have F_law := fun_mk (st := s_law) l_law w_law k_law
  refine ⟨PySem.W.fnOf "law" "law" (defArgs s_law) (defBody s_law) (defScope s_law) .none kV_law dc_law pm_law an_law cd_law ct_law, fun s v => .of_eq rfl, fun base _ _ => ?_⟩
  have c1 := c_law_cell (P := l.prog) (w := w) (base := base) D_law_cell z_len z_int
  have ct := c_law_take (P := l.prog) (w := w) (base := base) D_law_take z_int
  have cr := c_role (P := l.prog) (w := w) (base := base) D_role
  have ck := c_rank (P := l.prog) (w := w) (base := base) D_rank m_OR_RANK m_AND_RANK m_FRONT_RANK
  have cp := c_print_concept D_print_concept D_operand ck cr m_FRONT_RANK (t1 := 0) 5
  have cs := c_print_statement D_print_statement cp cr (by decide)
  have lr := c_law_role D_law_role ct
  have lc := c_law_concept D_law_concept ct lr 5
  have sr := c_law_say_role (P := l.prog) (w := w) (base := base) D_law_say_role
  have sy := c_law_say D_law_say sr 5
  have we := c_word_end (P := l.prog) (w := w) (base := base) D_word_end m_LETTERS m_DIGITS z_len
  have isn := c_is_name D_is_name we m_LONGEST_WORD m_RESERVED T_RESERVED z_len
  have spl := c_split_tokens D_split_tokens (c_comment_end D_comment_end z_len) (c_word_at D_word_at we m_LONGEST_WORD) m_BLANKS m_SIGNS z_len z_tuple
  have cw := c_cur_word (P := l.prog) (w := w) (base := base) F_Cursor_word T_Cursor M_Cursor_word b_Cursor_word
  have ce := c_cur_at_end (P := l.prog) (w := w) (base := base) F_Cursor_at_end T_Cursor M_Cursor_at_end b_Cursor_at_end
  have cst := c_cur_step (P := l.prog) (w := w) (base := base) F_Cursor_step T_Cursor M_Cursor_step b_Cursor_step
  have cex := c_cur_expect F_Cursor_expect T_Cursor M_Cursor_expect b_Cursor_expect cw cst
  have ctn := c_cur_take_name F_Cursor_take_name T_Cursor M_Cursor_take_name b_Cursor_take_name isn cw cst
  have cb := c_cur_word_behind (P := l.prog) (w := w) (base := base) F_Cursor_word_behind T_Cursor M_Cursor_word_behind b_Cursor_word_behind
  have ci := c_cur_init F_Cursor_init T_Cursor M_Cursor_init b_Cursor_init spl
  have sd := c_step_deeper D_step_deeper T_Cursor cst m_DEEPEST_LEVEL
  have rp := c_rolep D_roleP T_Cursor cw cst ctn
  have alt := fx_alts D_front D_both D_alternatives D_chain D_atom T_Cursor cw cst cex sd rp isn z_max 9
  have fc := fx_concept D_concept alt m_GREATEST_HEIGHT
  have con := D_concept.of fc
  have fct := c_fact (by decide) D_fact T_Cursor con cw cst ctn
  have cmp := c_comparison (by decide) D_comparison T_Cursor con cw cst cex
  have nb := c_is_name_before D_is_name_before T_Cursor isn cw cb
  have bf := c_begins_fact D_begins_fact T_Cursor isn cw cb
  have fs := fx_statement (by decide) D_statement T_Cursor (con.mono (by decide)) rp fct cmp nb bf cw cst cex ctn
  have fq := fx_question (by decide) D_question T_Cursor (con.mono (by decide)) fct bf cw cst cex
  have ax := c_axiom (by decide) D_axiom T_Cursor (D_statement.of fs) cst cex ctn
  have fi := fx_item (by decide) D_itemP T_Cursor ax m_DECLARATIONS KD_DECLARATIONS T_DECLARATIONS z_tuple cw cst cex ctn
  have rwc := c_read_whole (by decide) (Fo := FoA) ⟨by decide +kernel, by decide +kernel⟩ D_read_whole T_Cursor ci ce fc
  have rws := c_read_whole (by decide) (Fo := FoS) (.inl rfl) D_read_whole T_Cursor ci ce fs
  have rwq := c_read_whole (by decide) (Fo := FoS) (.inl rfl) D_read_whole T_Cursor ci ce fq
  have rc := c_read_concept D_read_concept D_concept rwc
  have rs := c_read_statement D_read_statement D_statement rws
  have rq := c_read_question D_read_question D_question rwq
  have rso := c_read_source (by decide) D_read_source T_Cursor ci ce (D_itemP.of fi) z_tuple
  exact ok_law F_law (c_law_draws D_law_draws c1 z_int z_range) ct c1 (c_law_names D_law_names (c_law_frame D_law_frame ct z_range)) lc (c_law_statement (by decide) D_law_statement ct lr lc z_min) (c_law_question (by decide) D_law_question ct lc)
    sy cp cs (c_print_question D_print_question cs) (c_print_source D_print_source (c_item D_item cs m_DECLARING T_DECLARING)) (rc.mono (by decide)) (rs.mono (by decide)) (rq.mono (by decide)) (rso.mono (by decide)) (c_law_same D_law_same z_isinstance z_tuple z_bool z_int z_str z_len z_all z_range 40) z_range z_int z_tuple z_len
end Pf
open PySem PySem.W PyProof.Rows
set_option maxHeartbeats 0 in
theorem PySem.Challenge.cw_ontoworks_k48_read_back_holds : PySem.Challenge.rw_ontoworks_k48_read_back.Holds := by
  w_on; o_law; k_head; (case hw => w_witness2)
  k_fill
  refine L2.walk_of (l := PySem.Challenge.rw_ontoworks_k48_read_back) (n := 63) (k := 81) (x := "script") (CX := fun _ => L2.CX0) (sp := fun w => Pf.spLaw _) rfl (by decide) rfl ⟨rfl, by decide, by decide⟩ (fun w h Y => PySem.W.kIn_of Y) ?F (fun _ _ a ns hl _ hS => ⟨a, ns, rfl, hS, hl, fun _ => rfl⟩) (fun _ _ _ _ _ h => h)
  case F =>
    intro w mg fa h KX G hmg
    refine' Pf.all_mk KX G hmg ?a_print_concept ?l_print_concept ?w_print_concept ?k_print_concept ?a_print_statement ?l_print_statement ?w_print_statement ?k_print_statement ?a_print_question ?l_print_question ?w_print_question ?k_print_question ?a_print_source ?l_print_source ?w_print_source ?k_print_source ?a_item ?l_item ?w_item ?k_item ?a_role ?l_role ?w_role ?k_role ?a_rank ?l_rank ?w_rank ?k_rank ?a_operand ?l_operand ?w_operand ?k_operand ?a_place ?l_place ?w_place ?k_place ?a_is_name ?l_is_name ?w_is_name ?k_is_name ?a_split_tokens ?l_split_tokens ?w_split_tokens ?k_split_tokens ?a_comment_end ?l_comment_end ?w_comment_end ?k_comment_end ?a_word_at ?l_word_at ?w_word_at ?k_word_at ?a_word_end ?l_word_end ?w_word_end ?k_word_end ?a_itemP ?l_itemP ?w_itemP ?k_itemP ?a_statement ?l_statement ?w_statement ?k_statement ?a_question ?l_question ?w_question ?k_question ?a_roleP ?l_roleP ?w_roleP ?k_roleP ?a_concept ?l_concept ?w_concept ?k_concept ?a_axiom ?l_axiom ?w_axiom ?k_axiom ?a_is_name_before ?l_is_name_before ?w_is_name_before ?k_is_name_before ?a_begins_fact ?l_begins_fact ?w_begins_fact ?k_begins_fact ?a_fact ?l_fact ?w_fact ?k_fact ?a_comparison ?l_comparison ?w_comparison ?k_comparison ?a_alternatives ?l_alternatives ?w_alternatives ?k_alternatives ?a_both ?l_both ?w_both ?k_both ?a_chain ?l_chain ?w_chain ?k_chain ?a_front ?l_front ?w_front ?k_front ?a_atom ?l_atom ?w_atom ?k_atom ?a_step_deeper ?l_step_deeper ?w_step_deeper ?k_step_deeper ?a_read_source ?l_read_source ?w_read_source ?k_read_source ?a_read_statement ?l_read_statement ?w_read_statement ?k_read_statement ?a_read_question ?l_read_question ?w_read_question ?k_read_question ?a_read_concept ?l_read_concept ?w_read_concept ?k_read_concept ?a_read_whole ?l_read_whole ?w_read_whole ?k_read_whole ?a_law_cell ?l_law_cell ?w_law_cell ?k_law_cell ?a_law_draws ?l_law_draws ?w_law_draws ?k_law_draws ?a_law_take ?l_law_take ?w_law_take ?k_law_take ?a_law_frame ?l_law_frame ?w_law_frame ?k_law_frame ?a_law_names ?l_law_names ?w_law_names ?k_law_names ?a_law_role ?l_law_role ?w_law_role ?k_law_role ?a_law_concept ?l_law_concept ?w_law_concept ?k_law_concept ?a_law_statement ?l_law_statement ?w_law_statement ?k_law_statement ?a_law_question ?l_law_question ?w_law_question ?k_law_question ?a_law_say_role ?l_law_say_role ?w_law_say_role ?k_law_say_role ?a_law_say ?l_law_say ?w_law_say ?k_law_say ?a_law_same ?l_law_same ?w_law_same ?k_law_same ?a_law ?l_law ?w_law ?k_law ?a_Cursor ?pg_Cursor ?hd_Cursor ?po_Cursor ?sa_Cursor ?mk_Cursor ?kc_Cursor ?n_Cursor_text ?n_Cursor_tokens ?n_Cursor_at ?a_Cursor_init ?i_Cursor_init ?l_Cursor_init ?w_Cursor_init ?k_Cursor_init ?a_Cursor_word ?i_Cursor_word ?l_Cursor_word ?w_Cursor_word ?k_Cursor_word ?a_Cursor_word_behind ?i_Cursor_word_behind ?l_Cursor_word_behind ?w_Cursor_word_behind ?k_Cursor_word_behind ?a_Cursor_at_end ?i_Cursor_at_end ?l_Cursor_at_end ?w_Cursor_at_end ?k_Cursor_at_end ?a_Cursor_step ?i_Cursor_step ?l_Cursor_step ?w_Cursor_step ?k_Cursor_step ?a_Cursor_expect ?i_Cursor_expect ?l_Cursor_expect ?w_Cursor_expect ?k_Cursor_expect ?a_Cursor_take_name ?i_Cursor_take_name ?l_Cursor_take_name ?w_Cursor_take_name ?k_Cursor_take_name ?y_all ?y_bool ?y_int ?y_isinstance ?y_len ?y_max ?y_min ?y_range ?y_str ?y_tuple ?g_DECLARING ?u_DECLARING ?x_DECLARING ?q_DECLARING0 ?q_DECLARING1 ?q_DECLARING2 ?g_OR_RANK ?g_AND_RANK ?g_FRONT_RANK ?g_BLANKS ?g_SIGNS ?g_LETTERS ?g_DIGITS ?g_LONGEST_WORD ?g_RESERVED ?u_RESERVED ?v_RESERVED ?vs_RESERVED ?g_DEEPEST_LEVEL ?g_GREATEST_HEIGHT ?g_DECLARATIONS ?u_DECLARATIONS ?x_DECLARATIONS ?q_DECLARATIONS0 ?q_DECLARATIONS1 ?q_DECLARATIONS2 ?lo_DECLARATIONS
    (case a_print_concept => k_is)
    (case l_print_concept => k_is)
    (case w_print_concept => k_is)
    (case k_print_concept => k_is)
    (case a_print_statement => k_is)
    (case l_print_statement => k_is)
    (case w_print_statement => k_is)
    (case k_print_statement => k_is)
    (case a_print_question => k_is)
    (case l_print_question => k_is)
    (case w_print_question => k_is)
    (case k_print_question => k_is)
    (case a_print_source => k_is)
    (case l_print_source => k_is)
    (case w_print_source => k_is)
    (case k_print_source => k_is)
    (case a_item => k_is)
    (case l_item => k_is)
    (case w_item => k_is)
    (case k_item => k_is)
    (case a_role => k_is)
    (case l_role => k_is)
    (case w_role => k_is)
    (case k_role => k_is)
    (case a_rank => k_is)
    (case l_rank => k_is)
    (case w_rank => k_is)
    (case k_rank => k_is)
    (case a_operand => k_is)
    (case l_operand => k_is)
    (case w_operand => k_is)
    (case k_operand => k_is)
    (case a_place => k_is)
    (case l_place => k_is)
    (case w_place => k_is)
    (case k_place => k_is)
    (case a_is_name => k_is)
    (case l_is_name => k_is)
    (case w_is_name => k_is)
    (case k_is_name => k_is)
    (case a_split_tokens => k_is)
    (case l_split_tokens => k_is)
    (case w_split_tokens => k_is)
    (case k_split_tokens => k_is)
    (case a_comment_end => k_is)
    (case l_comment_end => k_is)
    (case w_comment_end => k_is)
    (case k_comment_end => k_is)
    (case a_word_at => k_is)
    (case l_word_at => k_is)
    (case w_word_at => k_is)
    (case k_word_at => k_is)
    (case a_word_end => k_is)
    (case l_word_end => k_is)
    (case w_word_end => k_is)
    (case k_word_end => k_is)
    (case a_itemP => k_is)
    (case l_itemP => k_is)
    (case w_itemP => k_is)
    (case k_itemP => k_is)
    (case a_statement => k_is)
    (case l_statement => k_is)
    (case w_statement => k_is)
    (case k_statement => k_is)
    (case a_question => k_is)
    (case l_question => k_is)
    (case w_question => k_is)
    (case k_question => k_is)
    (case a_roleP => k_is)
    (case l_roleP => k_is)
    (case w_roleP => k_is)
    (case k_roleP => k_is)
    (case a_concept => k_is)
    (case l_concept => k_is)
    (case w_concept => k_is)
    (case k_concept => k_is)
    (case a_axiom => k_is)
    (case l_axiom => k_is)
    (case w_axiom => k_is)
    (case k_axiom => k_is)
    (case a_is_name_before => k_is)
    (case l_is_name_before => k_is)
    (case w_is_name_before => k_is)
    (case k_is_name_before => k_is)
    (case a_begins_fact => k_is)
    (case l_begins_fact => k_is)
    (case w_begins_fact => k_is)
    (case k_begins_fact => k_is)
    (case a_fact => k_is)
    (case l_fact => k_is)
    (case w_fact => k_is)
    (case k_fact => k_is)
    (case a_comparison => k_is)
    (case l_comparison => k_is)
    (case w_comparison => k_is)
    (case k_comparison => k_is)
    (case a_alternatives => k_is)
    (case l_alternatives => k_is)
    (case w_alternatives => k_is)
    (case k_alternatives => k_is)
    (case a_both => k_is)
    (case l_both => k_is)
    (case w_both => k_is)
    (case k_both => k_is)
    (case a_chain => k_is)
    (case l_chain => k_is)
    (case w_chain => k_is)
    (case k_chain => k_is)
    (case a_front => k_is)
    (case l_front => k_is)
    (case w_front => k_is)
    (case k_front => k_is)
    (case a_atom => k_is)
    (case l_atom => k_is)
    (case w_atom => k_is)
    (case k_atom => k_is)
    (case a_step_deeper => k_is)
    (case l_step_deeper => k_is)
    (case w_step_deeper => k_is)
    (case k_step_deeper => k_is)
    (case a_read_source => k_is)
    (case l_read_source => k_is)
    (case w_read_source => k_is)
    (case k_read_source => k_is)
    (case a_read_statement => k_is)
    (case l_read_statement => k_is)
    (case w_read_statement => k_is)
    (case k_read_statement => k_is)
    (case a_read_question => k_is)
    (case l_read_question => k_is)
    (case w_read_question => k_is)
    (case k_read_question => k_is)
    (case a_read_concept => k_is)
    (case l_read_concept => k_is)
    (case w_read_concept => k_is)
    (case k_read_concept => k_is)
    (case a_read_whole => k_is)
    (case l_read_whole => k_is)
    (case w_read_whole => k_is)
    (case k_read_whole => k_is)
    (case a_law_cell => k_is)
    (case l_law_cell => k_is)
    (case w_law_cell => k_is)
    (case k_law_cell => k_is)
    (case a_law_draws => k_is)
    (case l_law_draws => k_is)
    (case w_law_draws => k_is)
    (case k_law_draws => k_is)
    (case a_law_take => k_is)
    (case l_law_take => k_is)
    (case w_law_take => k_is)
    (case k_law_take => k_is)
    (case a_law_frame => k_is)
    (case l_law_frame => k_is)
    (case w_law_frame => k_is)
    (case k_law_frame => k_is)
    (case a_law_names => k_is)
    (case l_law_names => k_is)
    (case w_law_names => k_is)
    (case k_law_names => k_is)
    (case a_law_role => k_is)
    (case l_law_role => k_is)
    (case w_law_role => k_is)
    (case k_law_role => k_is)
    (case a_law_concept => k_is)
    (case l_law_concept => k_is)
    (case w_law_concept => k_is)
    (case k_law_concept => k_is)
    (case a_law_statement => k_is)
    (case l_law_statement => k_is)
    (case w_law_statement => k_is)
    (case k_law_statement => k_is)
    (case a_law_question => k_is)
    (case l_law_question => k_is)
    (case w_law_question => k_is)
    (case k_law_question => k_is)
    (case a_law_say_role => k_is)
    (case l_law_say_role => k_is)
    (case w_law_say_role => k_is)
    (case k_law_say_role => k_is)
    (case a_law_say => k_is)
    (case l_law_say => k_is)
    (case w_law_say => k_is)
    (case k_law_say => k_is)
    (case a_law_same => k_is)
    (case l_law_same => k_is)
    (case w_law_same => k_is)
    (case k_law_same => k_is)
    (case a_law => k_is)
    (case l_law => k_is)
    (case w_law => k_is)
    (case k_law => k_is)
    (case a_Cursor => k_is)
    (case pg_Cursor => k_is)
    (case hd_Cursor => k_is)
    (case po_Cursor => k_is)
    (case sa_Cursor => k_is)
    (case mk_Cursor => k_is)
    (case kc_Cursor => k_is)
    (case n_Cursor_text => k_is)
    (case n_Cursor_tokens => k_is)
    (case n_Cursor_at => k_is)
    (case a_Cursor_init => k_is)
    (case i_Cursor_init => k_is)
    (case l_Cursor_init => k_is)
    (case w_Cursor_init => k_is)
    (case k_Cursor_init => k_is)
    (case a_Cursor_word => k_is)
    (case i_Cursor_word => k_is)
    (case l_Cursor_word => k_is)
    (case w_Cursor_word => k_is)
    (case k_Cursor_word => k_is)
    (case a_Cursor_word_behind => k_is)
    (case i_Cursor_word_behind => k_is)
    (case l_Cursor_word_behind => k_is)
    (case w_Cursor_word_behind => k_is)
    (case k_Cursor_word_behind => k_is)
    (case a_Cursor_at_end => k_is)
    (case i_Cursor_at_end => k_is)
    (case l_Cursor_at_end => k_is)
    (case w_Cursor_at_end => k_is)
    (case k_Cursor_at_end => k_is)
    (case a_Cursor_step => k_is)
    (case i_Cursor_step => k_is)
    (case l_Cursor_step => k_is)
    (case w_Cursor_step => k_is)
    (case k_Cursor_step => k_is)
    (case a_Cursor_expect => k_is)
    (case i_Cursor_expect => k_is)
    (case l_Cursor_expect => k_is)
    (case w_Cursor_expect => k_is)
    (case k_Cursor_expect => k_is)
    (case a_Cursor_take_name => k_is)
    (case i_Cursor_take_name => k_is)
    (case l_Cursor_take_name => k_is)
    (case w_Cursor_take_name => k_is)
    (case k_Cursor_take_name => k_is)
    (case y_all => k_is)
    (case y_bool => k_is)
    (case y_int => k_is)
    (case y_isinstance => k_is)
    (case y_len => k_is)
    (case y_max => k_is)
    (case y_min => k_is)
    (case y_range => k_is)
    (case y_str => k_is)
    (case y_tuple => k_is)
    (case g_DECLARING => k_is); (case u_DECLARING => k_is); (case x_DECLARING => repeat (first | exact trivial | refine ⟨⟨_, _, rfl, rfl⟩, ?_⟩))
    (case q_DECLARING0 => k_is)
    (case q_DECLARING1 => k_is)
    (case q_DECLARING2 => k_is)
    (case g_OR_RANK => k_is)
    (case g_AND_RANK => k_is)
    (case g_FRONT_RANK => k_is)
    (case g_BLANKS => k_is)
    (case g_SIGNS => k_is)
    (case g_LETTERS => k_is)
    (case g_DIGITS => k_is)
    (case g_LONGEST_WORD => k_is)
    (case g_RESERVED => k_is); (case u_RESERVED => k_is)
    (case v_RESERVED => decide +kernel); (case vs_RESERVED => decide +kernel)
    (case g_DEEPEST_LEVEL => k_is)
    (case g_GREATEST_HEIGHT => k_is)
    (case g_DECLARATIONS => k_is); (case u_DECLARATIONS => k_is); (case x_DECLARATIONS => repeat (first | exact trivial | refine ⟨⟨_, _, rfl, rfl⟩, ?_⟩))
    (case q_DECLARATIONS0 => k_is)
    (case q_DECLARATIONS1 => k_is)
    (case q_DECLARATIONS2 => k_is)
    (case lo_DECLARATIONS => decide +kernel)