import PyProof.Rows.All
import Wide.All
import OpenK.AllK
import Wide.FinOn
import HandS.ForMost
import HandS.StrMore
import HandS.IsInst
import HandS.FStr
import HandS.Wide
import HandS.Flow
import HandS.TupAny
import HandS.Evl
import HandS.More
import HandS.CallLocal
import HandS.Strs
import HandS.Replace
import HandS.ReplaceList
import HandS.Deep
import HandS.Walk
import HandS.MethStar
import KE.KStar
import HandS.Conv
import HandS.TupMul
import HandS.Style
import HandS.SetBool
import HandS.Gcd
import HandS.EndTab
import KE.KRevSl
import KE.SortData
import KE.SortKeyHeap
import KE.OsSortAny
import KE.GoesMore
import KE.KMathGC
import HandS.DictComp
import HandS.Flt
import HandS.ExcInit
import HandS.ExcOwn
import HandS.WordsExc
import HandS.ExcField
import HandS.ExcIs
import KE.KExcIs
import HandS.HotCalls
import HandS.ExcCtx
import KE.KDictCopyH
import HandS.Text
import PySem.Challenge.RW_ontoworks_k50_levels_and_heights
set_option Elab.async false
set_option linter.all false
set_option maxRecDepth 100000
set_option maxHeartbeats 4000000

namespace Pf
open PySem PySem.Spec PyProof.Rows L2
/-- a def of the top under its name, bound without defaults -/
structure Df (K : PySem.W.Frag) (mg : Str → Option Value) (x : Str) (st : Stmt) (f : Addr) (fd : FuncData) (ps : List Str) : Prop where
  fn : Fun K x x st f fd
  mgf : mg x = some (.ref f)
  kp : PySem.W.keepIn K (.ref f) = true
  bd : Binds K fd ps []
/-- a def that keeps a promise, by its name -/
structure Cl (P : Program) (w : World) (K : PySem.W.Frag) (mg : Str → Option Value) (base : Heap) (k : Nat) (x : Str) (sp : Sp) : Prop where
  ex : ∃ (f : Addr) (fd : FuncData) (ps : List Str), FnOk P w K mg base CX0 k f fd ps sp ∧ mg x = some (.ref f) ∧ PySem.W.keepIn K (.ref f) = true ∧ Binds K fd ps []
section
variable {P : Program} {w : World} {K : PySem.W.Frag} {mg : Str → Option Value} {base : Heap}
theorem Df.cl {x : Str} {st : Stmt} {f : Addr} {fd : FuncData} {ps N : List Str} {k : Nat} {sp : Sp} (D : Df K mg x st f fd ps) (S : FnScope N ps (defScope st)) (len : ∀ vs H Q E, sp vs H Q E → vs.length = ps.length)
    (hbody : ∀ (cdv : Value) (A : Around) (outer : List Env) (s : Shared) (H : Hp) (vs : List V) (Q : VK) (E : XK), Room k (A.deeper (envOfC x (defScope st) s.heap.objs.size f cdv)) → sp vs H Q E →
      ∃ t, PSs (cxOf CX0 P w K mg base N x (defScope st) f cdv A outer s H E).nox (defBody st) t ∧ t { nx := fun _ H' => Q .non H', rt := Q } (start N vs) H) : Cl P w K mg base (k + 1) x sp :=
  ⟨f, fd, ps, D.fn.ok S len hbody, D.mgf, D.kp, D.bd⟩
theorem Cl.imp {x : Str} {k : Nat} {sp sp' : Sp} (c : Cl P w K mg base k x sp) (h : ∀ vs H Q E, sp' vs H Q E → sp vs H Q E) : Cl P w K mg base k x sp' := by
  obtain ⟨f, fd, ps, F, r⟩ := c.ex
  exact ⟨f, fd, ps, F.imp h, r⟩
theorem Cl.mono {x : Str} {k j : Nat} {sp : Sp} (c : Cl P w K mg base k x sp) (h : k ≤ j) : Cl P w K mg base j x sp := by
  obtain ⟨f, fd, ps, F, r⟩ := c.ex
  exact ⟨f, fd, ps, F.mono h, r⟩
end
section
variable {X : Cx} {k j : Nat} {x : Str} {sp : Sp} {p pos : Pos} {e : Expr} {es : List Expr} {t : TA}
theorem pc (c : Cl X.prog X.w X.K X.mg X.base k x sp) (hr : Room j X.A) (hk : k ≤ j) (hg : Gl X x) (ha : PA X (e :: es) t)
    (hdb : (x == ("__debug__" : Str)) = false := by decide) (he : starEach (e :: es) X.env = (false, eval e X.env) :: starEach es X.env := by rfl) (hpl : (backTo pos (starEach es X.env)).any (·.1) = false := by rfl) :
    PE X (.Call (.Name x p) (e :: es) [] pos) (tCall sp [] E0 t) := by
  obtain ⟨f, fd, ps, F, hm, kp, b⟩ := c.ex
  exact pe_call F (hr.mono hk) hg hm kp b .nil pass0 ha hdb he hpl
theorem pc0 (c : Cl X.prog X.w X.K X.mg X.base k x sp) (hr : Room j X.A) (hk : k ≤ j) (hg : Gl X x)
    (hdb : (x == ("__debug__" : Str)) = false := by decide) :
    PE X (.Call (.Name x p) [] [] pos) (tCall sp [] E0 tNil) := by
  obtain ⟨f, fd, ps, F, hm, kp, b⟩ := c.ex
  exact pe_call0 F (hr.mono hk) hg hm kp b .nil pass0 hdb
end
/-! heaps -/
theorem Same.new {H : Hp} {p : Addr} (o : HO) (h : H p = none) : Same H (upd H p o) := fun b u e => by
  rw [upd_ne (ne_of_none e h)]
  exact e
theorem Same.seqT {K : PySem.W.Frag} {H H' : Hp} {a : Addr} {xs : List V} (e : Same H H') (h : SqT K H a xs) : SqT K H' a xs := by
  rcases h with (h | ⟨o, h⟩) | h
  · exact .inl (.inl (e _ _ h))
  · exact .inl (.inr ⟨o, e _ _ h⟩)
  · exact .inr h
theorem upd_self {H : Hp} {a : Addr} {o : HO} (h : H a = some o) : upd H a o = H := by
  funext b
  unfold upd
  split
  · rename_i e
    rw [e, h]
  · rfl
/-! one short for the sign of a code -/
abbrev sg (c : Nat) : Str := ⟨#[c]⟩
/-! a written tuple of texts -/
def StrIts : List Value → List Str → Bool
  | [], [] => true
  | .str x _ :: vs, y :: ys => decide (x = y) && StrIts vs ys
  | _, _ => false
theorem strIts_vals : ∀ {vs : List Value} {ys : List Str}, StrIts vs ys = true → Vals (ys.map V.str) vs
  | [], [], _ => .nil
  | .str x t :: vs, y :: ys, h => by
    unfold StrIts at h
    rw [Bool.and_eq_true] at h
    have e := of_decide_eq_true h.1
    subst e
    exact .cons ⟨t, rfl⟩ (strIts_vals h.2)
theorem sqt_of {K : PySem.W.Frag} {H : Hp} {a : Addr} {od : Option Addr} {its : Array Value} {n : Nat} {sl : Array (Option Value)} {ys : List Str} (l : K.lookup a = some ⟨.type "tuple", od, .seq its n, sl⟩) (h : StrIts its.toList ys = true) (hs : decide (its.size ≤ 1000) = true) : SqT K H a (ys.map V.str) :=
  .inr ⟨_, its, n, l, rfl, rfl, Nat.le_trans (of_decide_eq_true hs) (by decide), strIts_vals h⟩
/-! the drawing helpers: what a caller needs of them -/
/-- _law_cell: some int -/
def spCell (K : PySem.W.Frag) : Sp := fun vs H Q _ => ∃ (a : Addr) (ns : List Int) (k : Int), vs = [.ref a, .int k] ∧ SqL K H a (ns.map V.int) ∧ ns.length ≤ 63 ∧ 0 ≤ k ∧ ∀ c : Int, Q (.int c) H
/-- _law_draws: a new list of so many ints, none below 0 -/
def spDraws (K : PySem.W.Frag) : Sp := fun vs H Q _ => ∃ (a : Addr) (ns : List Int) (k n : Int), vs = [.ref a, .int k, .int n] ∧ SqL K H a (ns.map V.int) ∧ ns.length ≤ 63 ∧ 0 ≤ k ∧ 0 ≤ n ∧ n ≤ 1000 ∧
  ∀ (ds : List Int) (p : Addr) (H' : Hp), Same H H' → H p = none → H' p = some (.lst (ds.map V.int)) → (ds.length : Int) = n → Q (.ref p) H'
/-- _law_take: an int below m; the list without its first -/
def spTake : Sp := fun vs H Q _ => ∃ (l : Addr) (ds : List Int) (m : Int), vs = [.ref l, .int m] ∧ H l = some (.lst (ds.map V.int)) ∧ 0 < m ∧ ∀ r : Int, 0 ≤ r → r < m → Q (.int r) (upd H l (.lst (ds.tail.map V.int)))
theorem map_tail {ds : List Int} : (ds.map V.int).tail = ds.tail.map V.int := by cases ds <;> rfl
theorem eraseIdx0 {α : Type} (xs : List α) : xs.eraseIdx 0 = xs.tail := by cases xs <;> rfl
/-- text * count -/
def rMulS : R2 := fun x y H Q => ∃ (z : Str) (n : Int), x = .str z ∧ y = .int n ∧ 0 ≤ n ∧ n ≤ 1000 ∧ z.length ≤ 10000 ∧ Q (.str (Txt.mul z n)) H
theorem mul_ok {z : Str} {n : Int} (h0 : 0 ≤ n) (h1 : n ≤ 1000) (hz : z.length ≤ 10000) : MulOk z n := by
  refine ⟨?_, fun h2 _ => ?_, fun _ _ => ?_⟩
  · rw [decide_eq_false (by omega), decide_eq_false (by omega)]
    rfl
  · intro h3
    have h4 : (2 ^ 63 - 1) / n ≥ (2 ^ 63 - 1) / 1000 := by
      refine Int.le_ediv_of_mul_le (by omega) ?_
      have : (2 ^ 63 - 1 : Int) / 1000 * n ≤ (2 ^ 63 - 1) / 1000 * 1000 := Int.mul_le_mul_of_nonneg_left h1 (by decide)
      exact Int.le_trans this (by decide)
    have h5 : ((2 : Int) ^ 63 - 1) / 1000 ≥ 10001 := by decide
    omega
  · unfold Builtin.Str.tooLong
    refine decide_eq_false ?_
    have : z.length * n.toNat ≤ 10000 * 1000 := Nat.mul_le_mul hz (by omega)
    have : sizeLine ≥ 10000000 := by decide
    omega
theorem op_mul_str {X : Cx} : OpR X (binaryOp .Mult) rMulS := by
  intro pins s σ H x y v u Q I rx ry h
  obtain ⟨z, n, rfl, rfl, h0, h1, hz, q⟩ := h
  obtain ⟨t, rfl⟩ := rx
  obtain ⟨t', rfl⟩ := ry
  exact PySem.SB.mul (mul_ok h0 h1 hz) fun t' k => ⟨.str (Txt.mul z n), H, I.tok _, ⟨_, rfl⟩, q⟩
/-- data of tuples, so many deep -/
def TupN : Nat → PyData → Prop
  | 0, _ => False
  | n + 1, .tuple ds => ds.length ≤ 100000 ∧ ∀ d ∈ ds, TupN n d
  | _ + 1, .list _ => False
  | _ + 1, .dict _ => False
  | _ + 1, _ => True
/-- _law_same upon the same data twice -/
def spSame (K : PySem.W.Frag) (n : Nat) : Sp := fun vs H Q _ => ∃ (x y : V) (d : PyData), vs = [x, y] ∧ Dp K H x d ∧ Dp K H y d ∧ TupN n d ∧ ∀ H', Same H H' → Q (.bl true) H'
theorem dpAll_len {K : PySem.W.Frag} {H : Hp} : ∀ {vs : List V} {ds : List PyData}, DpAll K H vs ds → vs.length = ds.length
  | _, _, .nil => rfl
  | _, _, .cons _ t => congrArg Nat.succ (dpAll_len t)
theorem dpAll_at {K : PySem.W.Frag} {H : Hp} : ∀ {vs : List V} {ds : List PyData}, DpAll K H vs ds → ∀ (i : Nat) (v : V) (d : PyData), vs[i]? = some v → ds[i]? = some d → Dp K H v d
  | _, _, .nil, i, v, d, h, _ => by simp at h
  | _, _, .cons a _, 0, v, d, h, h' => by
    simp at h h'
    rw [← h, ← h']
    exact a
  | _, _, .cons _ t, i + 1, v, d, h, h' => dpAll_at t i v d (by simpa using h) (by simpa using h')
mutual
theorem Dp.same {K : PySem.W.Frag} {H H' : Hp} (e : Same H H') : ∀ {d : PyData} {v : V}, Dp K H v d → Dp K H' v d
  | _, _, .non => .non
  | _, _, .bl b => .bl b
  | _, _, .int i => .int i
  | _, _, .str x => .str x
  | _, _, .lst h a => .lst (e.seq h) (DpAll.same e a)
  | _, _, .tup h a => .tup (Same.seqT e h) (DpAll.same e a)
theorem DpAll.same {K : PySem.W.Frag} {H H' : Hp} (e : Same H H') : ∀ {ds : List PyData} {vs : List V}, DpAll K H vs ds → DpAll K H' vs ds
  | _, _, .nil => .nil
  | _, _, .cons a t => .cons (Dp.same e a) (DpAll.same e t)
end
theorem tyT {K : PySem.W.Frag} {H : Hp} {a : Addr} {xs : List V} (h : SqT K H a xs) : TyX K H (.ref a) (.type "tuple") := by
  rcases h with (h | ⟨o, h⟩) | ⟨o, _, _, h, hc, _⟩
  · exact .base (.tup h)
  · exact .fTuple h
  · exact .kTuple h hc
theorem atI_some {α : Type} {xs : List α} {i : Nat} (h : i < xs.length) : atI xs (i : Int) = some xs[i] := atI_nat (List.getElem?_eq_getElem h)
/-- a sign that a text may have -/
def ChrOk (c : Nat) : Prop := 32 ≤ c ∧ c ≤ 126 ∧ c ≠ 37
instance (c : Nat) : Decidable (ChrOk c) := inferInstanceAs (Decidable (_ ∧ _))
def spChar : Sp := fun vs H Q _ => ∃ d : Int, vs = [.int d] ∧ ∀ c : Nat, ChrOk c → Q (.str (sg c)) H
/-! rules whose reading names the written part, said with it given (a comprehension's block wants that) -/
theorem ixT {X : Cx} {K : PySem.W.Frag} (h : X.K = K := by rfl) : IxR X (rIxT K) := by
  subst h
  exact ix_tup
theorem ixL {X : Cx} {K : PySem.W.Frag} (h : X.K = K := by rfl) : IxR X (rIxL K) := by
  subst h
  exact ix_list
def rLenQ (K : PySem.W.Frag) : List V → Hp → VK → Prop := fun xs H Q => ∃ p ys, xs = [.ref p] ∧ (SqL K H p ys ∨ SqT K H p ys) ∧ Q (.int ys.length) H
theorem lenQ {X : Cx} {K : PySem.W.Frag} (h : X.K = K := by rfl) : CallR X (.builtin "len") (rLenQ K) := by
  subst h
  exact call_len_seq
section
variable {K : PySem.W.Frag} {σ : L2.St} {H : Hp} {i : Nat} {x : V} {t T : String} {tt u : TS} {D : Ends}
theorem ev_isi {b : Bool} {Q : VK} (h : σ[i]? = some (some x)) (ty : TyX K H x (.type t)) (k : kitB t T = some b) (q : Q (.bl b) H) : tCB (rIsi K) (tCons (tVar i) (tCons (tC (.ty T)) tNil)) σ H Q := ⟨x, h, x, .ty T, _, _, b, rfl, .ty _, ty, kit_ty k, q⟩
theorem if_isiF (h : σ[i]? = some (some x)) (ty : TyX K H x (.type t)) (k : kitB t T = some false) (q : u D σ H) : tIfS (tB (tCB (rIsi K) (tCons (tVar i) (tCons (tC (.ty T)) tNil)))) tt u D σ H := ev_isi h ty k ⟨_, rfl, iteF q⟩
theorem if_isiT (h : σ[i]? = some (some x)) (ty : TyX K H x (.type t)) (k : kitB t T = some true) (q : tt D σ H) : tIfS (tB (tCB (rIsi K) (tCons (tVar i) (tCons (tC (.ty T)) tNil)))) tt u D σ H := ev_isi h ty k ⟨_, rfl, iteT q⟩
end
/-- an object that H does not know may change -/
theorem Same.mut {H H1 : Hp} {p : Addr} (o : HO) (e : Same H H1) (n : H p = none) : Same H (upd H1 p o) := fun b u h => by
  rw [upd_ne (ne_of_none h n)]
  exact e b u h
end Pf
namespace Pf
open PySem PySem.Spec PyProof.Rows L2
/-! data of tuples stands while lists change -/
def KT (K : PySem.W.Frag) (H H' : Hp) : Prop := ∀ a xs, SqT K H a xs → SqT K H' a xs
theorem KT.of {K : PySem.W.Frag} {H H' : Hp} (e : Same H H') : KT K H H' := fun _ _ h => Same.seqT e h
theorem KT.trans {K : PySem.W.Frag} {H H1 H2 : Hp} (a : KT K H H1) (b : KT K H1 H2) : KT K H H2 := fun x xs h => b x xs (a x xs h)
theorem KT.lst {K : PySem.W.Frag} {H : Hp} {l : Addr} {xs : List V} (o : HO) (h : H l = some (.lst xs)) : KT K H (upd H l o) := fun a ys q => by
  rcases q with (q | ⟨ob, q⟩) | q
  · exact .inl (.inl ((upd_ne (ne_of q h (by intro z; cases z))).trans q))
  · exact .inl (.inr ⟨ob, (upd_ne (ne_of q h (by intro z; cases z))).trans q⟩)
  · exact .inr q
theorem KT.ins {K : PySem.W.Frag} {H : Hp} {l C dx : Addr} {fs : List (Str × V)} (o : HO) (h : H l = some (.ins C dx fs)) : KT K H (upd H l o) := fun a ys q => by
  rcases q with (q | ⟨ob, q⟩) | q
  · exact .inl (.inl ((upd_ne (ne_of q h (by intro z; cases z))).trans q))
  · exact .inl (.inr ⟨ob, (upd_ne (ne_of q h (by intro z; cases z))).trans q⟩)
  · exact .inr q
theorem KT.new {K : PySem.W.Frag} {H : Hp} {l : Addr} (o : HO) (h : H l = none) : KT K H (upd H l o) := KT.of (Same.new o h)
mutual
theorem Dp.kt {K : PySem.W.Frag} {H H' : Hp} (e : KT K H H') : ∀ {n : Nat} {d : PyData} {v : V}, TupN n d → Dp K H v d → Dp K H' v d
  | _, _, _, _, .non => .non
  | _, _, _, _, .bl b => .bl b
  | _, _, _, _, .int i => .int i
  | _, _, _, _, .str x => .str x
  | 0, _, _, z, .lst _ _ => z.elim
  | _ + 1, _, _, z, .lst _ _ => z.elim
  | 0, _, _, z, .tup _ _ => z.elim
  | _ + 1, _, _, z, .tup h a => .tup (e _ _ h) (DpAll.kt e z.2 a)
theorem DpAll.kt {K : PySem.W.Frag} {H H' : Hp} (e : KT K H H') : ∀ {n : Nat} {ds : List PyData} {vs : List V}, (∀ d ∈ ds, TupN n d) → DpAll K H vs ds → DpAll K H' vs ds
  | _, _, _, _, .nil => .nil
  | _, _, _, z, .cons a t => .cons (Dp.kt e (z _ (List.mem_cons_self ..)) a) (DpAll.kt e (fun d hd => z d (List.mem_cons_of_mem _ hd)) t)
end
theorem dpAll_app {K : PySem.W.Frag} {H : Hp} : ∀ {vs ws : List V} {ds es : List PyData}, DpAll K H vs ds → DpAll K H ws es → DpAll K H (vs ++ ws) (ds ++ es)
  | _, _, _, _, .nil, h => h
  | _, _, _, _, .cons a t, h => .cons a (dpAll_app t h)
/-! a slice of a list of ints -/
def cutI {α : Type} (ds : List α) (lo hi : Option Int) : List α := (ds.drop (HT.sIx ds.length 0 lo)).take (HT.sIx ds.length ds.length hi - HT.sIx ds.length 0 lo)
theorem cutV_map {α : Type} (f : α → V) (ds : List α) (lo hi : Option Int) : cutV (ds.map f) lo hi = (cutI ds lo hi).map f := by
  unfold cutV cutI
  rw [List.length_map, List.map_take, List.map_drop]
end Pf
namespace Pf
open PySem PySem.Spec PyProof.Rows L2
/-- all but d stands -/
def SameX (d : Addr) (H H' : Hp) : Prop := ∀ b o, b ≠ d → H b = some o → H' b = some o
theorem SameX.refl (d : Addr) (H : Hp) : SameX d H H := fun _ _ _ h => h
theorem SameX.trans {d : Addr} {H H1 H2 : Hp} (a : SameX d H H1) (b : SameX d H1 H2) : SameX d H H2 := fun x o n h => b x o n (a x o n h)
theorem SameX.new {d p : Addr} {H : Hp} (o : HO) (h : H p = none) : SameX d H (upd H p o) := fun b u _ e => Same.new o h b u e
theorem SameX.at {d : Addr} {H : Hp} (o : HO) : SameX d H (upd H d o) := fun b u n e => (upd_ne n).trans e
theorem SameX.mut {d p : Addr} {H H1 : Hp} (o : HO) (e : SameX d H H1) (h : H p = none) : SameX d H (upd H1 p o) := fun b u n q => by
  rw [upd_ne (ne_of_none q h)]
  exact e b u n q
theorem SameX.of {d : Addr} {H H' : Hp} (e : Same H H') : SameX d H H' := fun b o _ h => e b o h
theorem KT.x {K : PySem.W.Frag} {d : Addr} {H H' : Hp} {xs : List V} (h : H d = some (.lst xs)) (e : SameX d H H') : KT K H H' := fun a ys q => by
  rcases q with (q | ⟨ob, q⟩) | q
  · exact .inl (.inl (e _ _ (ne_of q h (by intro z; cases z)) q))
  · exact .inl (.inr ⟨ob, e _ _ (ne_of q h (by intro z; cases z)) q⟩)
  · exact .inr q
theorem SameX.free {d p : Addr} {H H' : Hp} (e : SameX d H H') (n : p ≠ d) (h : H' p = none) : H p = none := by
  cases q : H p with
  | none => rfl
  | some o =>
    rw [e p o n q] at h
    cases h
end Pf

namespace Pf
open PySem PySem.StrLaws PySem.Builtin PySem.Builtin.Str
/-! one sign counted and sought in a text -/
theorem occ1_turn {s : Str} {c limit i : Nat} {st : Array Nat × Nat} (h1 : st.1.size < limit) (h2 : st.2 ≤ i) :
    occBody s ⟨#[c]⟩ s.length limit i st = if s.cps.toList[i]? = some c then pure (ForInStep.yield (st.1.push i, i + 1)) else pure (ForInStep.yield st) := by
  have k := subAt_one s c i
  unfold occBody
  by_cases h : s.cps.toList[i]? = some c
  · rw [if_pos h, if_pos ⟨⟨⟨h1, h2⟩, (k.mpr h).1⟩, (k.mpr h).2⟩]
    rfl
  · rw [if_neg h, if_neg fun z => h (k.mp ⟨z.1.2, z.2⟩)]
theorem count1_go (s : Str) (c : Nat) : ∀ (m a : Nat) (st : Array Nat × Nat), a + m = s.length + 1 → st.2 ≤ a → st.1.size ≤ a →
    (forIn (List.range' a m) st (occBody s ⟨#[c]⟩ s.length (s.length + 1))).run.1.size = st.1.size + (s.cps.toList.drop a).count c
  | 0, a, st, e, h1, h2 => by
    have : s.cps.toList.drop a = [] := List.drop_eq_nil_of_le (by simp [Str.length] at e ⊢; omega)
    rw [this]
    rfl
  | m + 1, a, st, e, h1, h2 => by
    rw [List.range'_succ, List.forIn_cons, occ1_turn (by omega) h1]
    by_cases h : s.cps.toList[a]? = some c
    · rw [if_pos h]
      have hl : a < s.cps.toList.length := (List.getElem?_eq_some_iff.mp h).1
      have hd := List.drop_eq_getElem_cons hl
      have hc : s.cps.toList[a] = c := (List.getElem?_eq_some_iff.mp h).2
      have ih := count1_go s c m (a + 1) (st.1.push a, a + 1) (by omega) (Nat.le_refl _) (by simp; omega)
      rw [hd, hc, List.count_cons_self]
      refine Eq.trans ih ?_
      simp
      omega
    · rw [if_neg h]
      have ih := count1_go s c m (a + 1) st (by omega) (by omega) (by omega)
      refine Eq.trans ih ?_
      by_cases hl : a < s.cps.toList.length
      · have hd := List.drop_eq_getElem_cons hl
        rw [hd, List.count_cons_of_ne]
        intro e2
        exact h (by rw [List.getElem?_eq_getElem hl, e2])
      · rw [List.drop_eq_nil_of_le (by omega), List.drop_eq_nil_of_le (by omega)]
theorem count1 (s : Str) (c : Nat) : Txt.count s ⟨#[c]⟩ = ((s.cps.toList.count c : Nat) : Int) := by
  unfold Txt.count
  rw [occ_eq, Array.length_toList, count1_go s c (s.length + 1 - 0) 0 (#[], 0) (by omega) (Nat.le_refl _) (Nat.le_refl _)]
  simp
/-- the place of the last c, as rfind tells it -/
def lastAt (c : Nat) : List Nat → Int
  | [] => -1
  | x :: l => if lastAt c l = -1 then (if x = c then 0 else -1) else lastAt c l + 1
theorem lastAt_ge (c : Nat) : ∀ l, -1 ≤ lastAt c l
  | [] => Int.le_refl _
  | x :: l => by
    have := lastAt_ge c l
    unfold lastAt
    split
    · split <;> omega
    · omega
theorem lastAt_app (c x : Nat) : ∀ l, lastAt c (l ++ [x]) = if x = c then (l.length : Int) else lastAt c l
  | [] => by
    by_cases h : x = c <;> simp [lastAt, h]
  | y :: l => by
    have ih := lastAt_app c x l
    show (if lastAt c (l ++ [x]) = -1 then (if y = c then (0 : Int) else -1) else lastAt c (l ++ [x]) + 1) = _
    rw [ih]
    by_cases h : x = c
    · rw [if_pos h, if_pos h, if_neg (by omega)]
      simp
    · rw [if_neg h, if_neg h]
      rfl
def lastBody (s sub : Str) (hi : Nat) (i : Nat) (st : Option Nat) : Id (ForInStep (Option Nat)) :=
  if i + sub.length ≤ hi ∧ subAt s sub i = true then pure (ForInStep.yield (some i)) else pure (ForInStep.yield st)
theorem last_eq (s sub : Str) (lo hi : Nat) : lastOccurrence s sub lo hi = (forIn (List.range' lo (hi + 1 - lo)) none (lastBody s sub hi)).run := by
  unfold lastOccurrence lastBody
  simp
theorem last1_go (s : Str) (c : Nat) : ∀ (m a : Nat) (st : Option Nat), a + m = s.length + 1 →
    (forIn (List.range' a m) st (lastBody s ⟨#[c]⟩ s.length)).run = if lastAt c (s.cps.toList.drop a) = -1 then st else some (a + (lastAt c (s.cps.toList.drop a)).toNat)
  | 0, a, st, e => by
    have : s.cps.toList.drop a = [] := List.drop_eq_nil_of_le (by simp [Str.length] at e ⊢; omega)
    rw [this]
    rfl
  | m + 1, a, st, e => by
    have k := subAt_one s c a
    rw [List.range'_succ, List.forIn_cons]
    by_cases h : s.cps.toList[a]? = some c
    · have e1 : lastBody s ⟨#[c]⟩ s.length a st = pure (ForInStep.yield (some a)) := if_pos (k.mpr h)
      rw [e1]
      have hl : a < s.cps.toList.length := (List.getElem?_eq_some_iff.mp h).1
      have hd := List.drop_eq_getElem_cons hl
      have hc : s.cps.toList[a] = c := (List.getElem?_eq_some_iff.mp h).2
      refine Eq.trans (last1_go s c m (a + 1) (some a) (by omega)) ?_
      rw [hd, hc]
      have g := lastAt_ge c (s.cps.toList.drop (a + 1))
      show _ = if (if lastAt c (s.cps.toList.drop (a + 1)) = -1 then (if c = c then (0 : Int) else -1) else lastAt c (s.cps.toList.drop (a + 1)) + 1) = -1 then st else some (a + (if lastAt c (s.cps.toList.drop (a + 1)) = -1 then (if c = c then (0 : Int) else -1) else lastAt c (s.cps.toList.drop (a + 1)) + 1).toNat)
      by_cases h0 : lastAt c (s.cps.toList.drop (a + 1)) = -1
      · rw [if_pos h0, if_pos h0, if_pos rfl, if_neg (by decide)]
        rfl
      · rw [if_neg h0, if_neg h0, if_neg (by omega)]
        congr 1
        omega
    · have e1 : lastBody s ⟨#[c]⟩ s.length a st = pure (ForInStep.yield st) := if_neg fun z => h (k.mp z)
      rw [e1]
      refine Eq.trans (last1_go s c m (a + 1) st (by omega)) ?_
      by_cases hl : a < s.cps.toList.length
      · have hd := List.drop_eq_getElem_cons hl
        have hc : s.cps.toList[a] ≠ c := fun e2 => h (by rw [List.getElem?_eq_getElem hl, e2])
        rw [hd]
        have g := lastAt_ge c (s.cps.toList.drop (a + 1))
        show _ = if (if lastAt c (s.cps.toList.drop (a + 1)) = -1 then (if s.cps.toList[a] = c then (0 : Int) else -1) else lastAt c (s.cps.toList.drop (a + 1)) + 1) = -1 then st else some (a + (if lastAt c (s.cps.toList.drop (a + 1)) = -1 then (if s.cps.toList[a] = c then (0 : Int) else -1) else lastAt c (s.cps.toList.drop (a + 1)) + 1).toNat)
        by_cases h0 : lastAt c (s.cps.toList.drop (a + 1)) = -1
        · rw [if_pos h0, if_pos h0, if_neg hc, if_pos rfl]
        · rw [if_neg h0, if_neg h0, if_neg (by omega)]
          congr 1
          omega
      · rw [List.drop_eq_nil_of_le (by omega), List.drop_eq_nil_of_le (by omega)]
        rfl
theorem rfind1 (s : Str) (c : Nat) : Txt.rfind s ⟨#[c]⟩ = lastAt c s.cps.toList := by
  unfold Txt.rfind
  rw [last_eq, last1_go s c (s.length + 1 - 0) 0 none (by omega), List.drop_zero]
  have g := lastAt_ge c s.cps.toList
  by_cases h0 : lastAt c s.cps.toList = -1
  · rw [if_pos h0, h0]
  · rw [if_neg h0]
    show ((0 + (lastAt c s.cps.toList).toNat : Nat) : Int) = _
    omega
end Pf

namespace Pf
open PySem PySem.StrLaws PySem.Builtin PySem.Builtin.Str
/-! the first sign from a place on -/
theorem occ_full {s : Str} {c : Nat} : ∀ (l : List Nat) (st : Array Nat × Nat), st.1.size = 1 → (forIn l st (occBody s ⟨#[c]⟩ s.length 1)).run = st
  | [], st, _ => rfl
  | a :: l, st, h => by
    rw [List.forIn_cons]
    have e : occBody s ⟨#[c]⟩ s.length 1 a st = pure (ForInStep.yield st) := if_neg fun z => by have := z.1.1.1; omega
    rw [e]
    exact occ_full l st h
def behind (c : Nat) (l : List Nat) : Nat := (l.takeWhile (fun x => decide (x ≠ c))).length
theorem behind_le (c : Nat) (l : List Nat) : behind c l ≤ l.length := (List.takeWhile_prefix _).length_le
theorem behind_cons (c x : Nat) (l : List Nat) : behind c (x :: l) = if x = c then 0 else behind c l + 1 := by
  unfold behind
  rw [List.takeWhile_cons]
  by_cases h : x = c
  · rw [if_pos h, decide_eq_false (fun z => z h)]
    rfl
  · rw [if_neg h, decide_eq_true h]
    rfl
theorem find_go (s : Str) (c : Nat) : ∀ (m a f : Nat), a + m = s.length + 1 → f ≤ a →
    (forIn (List.range' a m) ((#[] : Array Nat), f) (occBody s ⟨#[c]⟩ s.length 1)).run.1.toList = if a + behind c (s.cps.toList.drop a) < s.length then [a + behind c (s.cps.toList.drop a)] else []
  | 0, a, f, e, h => by
    rw [if_neg (by omega)]
    rfl
  | m + 1, a, f, e, h => by
    rw [List.range'_succ, List.forIn_cons, occ1_turn (Nat.zero_lt_one) h]
    have hl0 : s.cps.toList.length = s.length := by simp [Str.length]
    by_cases hc : s.cps.toList[a]? = some c
    · rw [if_pos hc]
      have hl : a < s.cps.toList.length := (List.getElem?_eq_some_iff.mp hc).1
      have hd := List.drop_eq_getElem_cons hl
      have he : s.cps.toList[a] = c := (List.getElem?_eq_some_iff.mp hc).2
      rw [hd, behind_cons, if_pos he, if_pos (by omega)]
      have k := occ_full (s := s) (c := c) (List.range' (a + 1) m) (#[a], a + 1) rfl
      show (forIn (List.range' (a + 1) m) (#[a], a + 1) (occBody s ⟨#[c]⟩ s.length 1)).run.1.toList = [a]
      rw [k]
    · rw [if_neg hc]
      refine Eq.trans (find_go s c m (a + 1) f (by omega) (by omega)) ?_
      by_cases hl : a < s.cps.toList.length
      · have hd := List.drop_eq_getElem_cons hl
        have hn : s.cps.toList[a] ≠ c := fun e2 => hc (by rw [List.getElem?_eq_getElem hl, e2])
        rw [hd, behind_cons, if_neg hn]
        have e3 : a + (behind c (s.cps.toList.drop (a + 1)) + 1) = a + 1 + behind c (s.cps.toList.drop (a + 1)) := by omega
        rw [e3]
      · rw [if_neg (by omega), if_neg (by omega)]
theorem find1 (s : Str) (c a : Nat) (h : a ≤ s.length) : Txt.find3 s ⟨#[c]⟩ (a : Int) = if a + behind c (s.cps.toList.drop a) < s.length then ((a + behind c (s.cps.toList.drop a) : Nat) : Int) else -1 := by
  unfold Txt.find3
  have ef : fromIndex s.length (a : Int) = a := by
    unfold fromIndex
    rw [if_neg (by omega)]
    omega
  rw [occ_eq, ef, find_go s c (s.length + 1 - a) a a (by omega) (Nat.le_refl _)]
  by_cases h2 : a + behind c (s.cps.toList.drop a) < s.length
  · rw [if_pos h2, if_pos h2]
  · rw [if_neg h2, if_neg h2]
end Pf

namespace Pf
open PySem PySem.Spec PyProof.Rows L2
/-! texts by the lists of their codes -/
abbrev T (l : List Nat) : Str := ⟨l.toArray⟩
theorem T_of (x : Str) : x = T x.cps.toList := TL.ext_tl rfl
theorem T_len (l : List Nat) : (T l).length = l.length := by simp [Str.length]
theorem T_cat (a b : List Nat) : T a ++ T b = T (a ++ b) := TL.ext_tl (TL.tl_append (T a) (T b))
theorem T_inj {a b : List Nat} (h : T a = T b) : a = b := congrArg (fun x : Str => x.cps.toList) h
theorem T_eq {a b : List Nat} : decide (T a = T b) = decide (a = b) := by
  by_cases h : a = b
  · rw [h, decide_eq_true rfl, decide_eq_true rfl]
  · rw [decide_eq_false h, decide_eq_false fun e => h (T_inj e)]
theorem V_eq {a b : List Nat} : decide (V.str (T a) = V.str (T b)) = decide (a = b) := by
  by_cases h : a = b
  · rw [h, decide_eq_true rfl, decide_eq_true rfl]
  · rw [decide_eq_false h, decide_eq_false fun e => h (T_inj (V.str.inj e))]
theorem cut_to (l : List Nat) (n : Nat) : cutS (T l) none (some (n : Int)) = T (l.take n) := by
  unfold cutS
  rw [HT.sIx_none, HT.sIx_nat, T_len]
  refine TL.ext_tl ?_
  show (l.drop 0).take (min n l.length - 0) = l.take n
  rw [List.drop_zero, Nat.sub_zero, ← List.take_eq_take_min]
theorem cut_from (l : List Nat) (n : Nat) : cutS (T l) (some (n : Int)) none = T (l.drop n) := by
  unfold cutS
  rw [HT.sIx_none, HT.sIx_nat, T_len]
  refine TL.ext_tl ?_
  show (l.drop (min n l.length)).take (l.length - min n l.length) = l.drop n
  by_cases h : n ≤ l.length
  · rw [Nat.min_eq_left h, List.take_of_length_le (by rw [List.length_drop]; omega)]
  · rw [Nat.min_eq_right (by omega), List.drop_eq_nil_of_le (by omega), List.drop_eq_nil_of_le (by omega), List.take_nil]
theorem cut_mid (l : List Nat) {a b : Nat} (ha : a ≤ b) (hb : b ≤ l.length) : cutS (T l) (some (a : Int)) (some (b : Int)) = T ((l.drop a).take (b - a)) := by
  unfold cutS
  rw [HT.sIx_nat, HT.sIx_nat, T_len, Nat.min_eq_left (show a ≤ l.length by omega), Nat.min_eq_left hb]
/-- a text walked by its signs -/
theorem for_txt {l : List Nat} {g : TG} {tb : TS} {D : Ends} {σ : L2.St} {H : Hp} (Pv : Nat → L2.St → Hp → Prop) (h0 : Pv 0 σ H)
    (hs : ∀ i c σ H, l[i]? = some c → Pv i σ H → g (.str (sg c)) σ H fun σ2 H2 => tb { D with nx := Pv (i + 1), ct := Pv (i + 1), bk := D.nx } σ2 H2) (hd : ∀ σ H, Pv l.length σ H → D.nx σ H) :
    ∃ W : Nat → Nat → L2.St → Hp → Prop, (∃ m, W 0 m σ H) ∧ ∀ i m σ H, W i m σ H →
      ((Its (T l)).stop i H ∧ D.nx σ H) ∨ ((Its (T l)).go i H ∧ ∃ N : L2.St → Hp → Prop, (∀ σ' H', N σ' H' → ∃ m', m' < m ∧ W (i + 1) m' σ' H') ∧ ∀ x H', (Its (T l)).yld i H x H' → g x σ H' fun σ2 H2 => tb { D with nx := N, ct := N, bk := D.nx } σ2 H2) := by
  refine ⟨fun i m σ H => m = l.length - i ∧ i ≤ l.length ∧ Pv i σ H, ⟨l.length, by simp, Nat.zero_le _, h0⟩, ?_⟩
  rintro i m σ H ⟨rfl, hi, p⟩
  by_cases hlt : i < l.length
  · refine .inr ⟨(by show i < l.toArray.size; simpa using hlt), Pv (i + 1), fun σ' H' p' => ⟨l.length - (i + 1), by omega, rfl, hlt, p'⟩, fun x H' y => ?_⟩
    obtain ⟨rfl, c, hc, rfl⟩ := y
    exact hs i c σ H' (by simpa using hc) p
  · have e : i = l.length := by omega
    subst e
    exact .inl ⟨(by show l.toArray.size ≤ l.length; simp), hd _ _ p⟩
/-- a comprehension over a text -/
theorem lc_txt {l : List Nat} {g : TG} {tt : TT} {te : TE} {vs : List Nat} {σ : L2.St} {H1 : Hp} {D : Addr} {Qd : Hp → Prop} (Pv : Nat → Hp → Prop) (h0 : Pv 0 (upd H1 D (.lst [])))
    (hs : ∀ i c H, l[i]? = some c → Pv i H → g (.str (sg c)) (wipe σ vs) H fun σ2 H2 => wipe σ2 vs = wipe σ vs ∧ tt σ2 H2 fun b H3 =>
      if b = true then te σ2 H3 fun y H4 => ∃ acc, H4 D = some (.lst acc) ∧ acc.length < sizeLine ∧ Pv (i + 1) (upd H4 D (.lst (acc ++ [y]))) else Pv (i + 1) H3) (hd : ∀ H, Pv l.length H → Qd H) :
    ∃ W : Nat → Nat → Hp → Prop, (∃ m, W 0 m (upd H1 D (.lst []))) ∧ ∀ i m H, W i m H →
      ((Its (T l)).stop i H ∧ Qd H) ∨ ((Its (T l)).go i H ∧ ∃ Nx : Hp → Prop, (∀ H', Nx H' → ∃ m', m' < m ∧ W (i + 1) m' H') ∧ ∀ x H', (Its (T l)).yld i H x H' → g x (wipe σ vs) H' fun σ2 H2 => wipe σ2 vs = wipe σ vs ∧ tt σ2 H2 fun b H3 =>
        if b = true then te σ2 H3 fun y H4 => ∃ acc, H4 D = some (.lst acc) ∧ acc.length < sizeLine ∧ Nx (upd H4 D (.lst (acc ++ [y]))) else Nx H3) := by
  refine ⟨fun i m H => m = l.length - i ∧ i ≤ l.length ∧ Pv i H, ⟨l.length, by simp, Nat.zero_le _, h0⟩, ?_⟩
  rintro i m H ⟨rfl, hi, p⟩
  by_cases hlt : i < l.length
  · refine .inr ⟨(by show i < l.toArray.size; simpa using hlt), Pv (i + 1), fun H' p' => ⟨l.length - (i + 1), by omega, rfl, hlt, p'⟩, fun x H' y => ?_⟩
    obtain ⟨rfl, c, hc, rfl⟩ := y
    exact hs i c H' (by simpa using hc) p
  · have e : i = l.length := by omega
    subst e
    exact .inl ⟨(by show l.toArray.size ≤ l.length; simp), hd _ p⟩
theorem small9 {n : Nat} (h : n ≤ 1000000) : n ≤ sizeLine := Nat.le_trans h (by decide)
/-- a sign of a text all of whose signs are of a kind -/
theorem ix_of {z : Str} {i : Int} {H : Hp} {Q : VK} (p : Nat → Bool) (h0 : 0 ≤ i) (h1 : i < (z.length : Int)) (hz : z.length ≤ sizeLine) (hc : z.cps.toList.all p = true) (q : ∀ c, p c = true → Q (.str (sg c)) H) : rIxS (.str z) (.int i) H Q := by
  have hl : z.length = z.cps.toList.length := by simp [Str.length]
  have hi : i.toNat < z.cps.toList.length := by omega
  have ei : i = ((i.toNat : Nat) : Int) := by omega
  refine ⟨z, i, z.cps.toList[i.toNat], rfl, rfl, hz, ?_, q _ (List.all_eq_true.mp hc _ (List.getElem_mem hi))⟩
  have := atI_some hi
  rw [← ei] at this
  exact this
theorem nl_eq : Str.ofString "\n" = T [10] := by decide +kernel
theorem e_eq : Str.ofString "" = T [] := by decide +kernel
theorem at_any {α : Type} {xs : List α} (p : α → Prop) {i : Int} (h0 : 0 ≤ i) (h1 : i < (xs.length : Int)) (h : ∀ x ∈ xs, p x) : ∃ v, p v ∧ atI xs i = some v := by
  have hi : i.toNat < xs.length := by omega
  have ei : i = ((i.toNat : Nat) : Int) := by omega
  refine ⟨xs[i.toNat], h _ (List.getElem_mem hi), ?_⟩
  have := atI_some hi
  rw [← ei] at this
  exact this
theorem inV_strs (x : Str) (ys : List Str) : inV (.str x) (ys.map V.str) = decide (x ∈ ys) := by
  unfold inV
  rw [List.any_map]
  induction ys with
  | nil => rfl
  | cons y ys ih =>
    rw [List.any_cons, ih]
    show ((y == x) || decide (x ∈ ys)) = decide (x ∈ y :: ys)
    by_cases h : y = x
    · subst h
      rw [beq_self_eq_true, Bool.true_or, decide_eq_true (List.mem_cons_self ..)]
    · rw [beq_false_of_ne h, Bool.false_or]
      by_cases h2 : x ∈ ys
      · rw [decide_eq_true h2, decide_eq_true (List.mem_cons_of_mem _ h2)]
      · rw [decide_eq_false h2, decide_eq_false]
        intro h3
        rcases List.mem_cons.mp h3 with h3 | h3
        · exact h h3.symm
        · exact h2 h3
theorem flat_strs (ys : List Str) : (ys.map V.str).all flatV = true := by
  rw [List.all_map, List.all_eq_true]
  intro x _
  rfl
theorem join_T (a : List Nat) (ys : List (List Nat)) : Txt.join (T a) (ys.map T) = T (TL.joinL a ys) := by
  rw [TL.join_eq]
  refine TL.ext_tl ?_
  rw [TL.tl_join, List.map_map]
  have e : ys.map (TL.tl ∘ T) = ys := by
    induction ys with
    | nil => rfl
    | cons y ys ih =>
      rw [List.map_cons, ih]
      rfl
  rw [e]
/-! the kinds of signs -/
def isL (c : Nat) : Bool := decide (c ∈ (Str.ofString "abcdefghijklmnopqrstuvwxyzABCDEFGHIJKLMNOPQRSTUVWXYZ_").cps.toList)
def isW (c : Nat) : Bool := isL c || decide (c ∈ (Str.ofString "0123456789").cps.toList)
def isB (c : Nat) : Bool := decide (c ∈ (Str.ofString " \n").cps.toList)
def isS (c : Nat) : Bool := decide (c ∈ (Str.ofString "();,:").cps.toList)
end Pf

namespace Pf
open PySem PySem.Spec PyProof.Rows L2
/-! written trees as data -/
def strsV (ns : List (List Nat)) : List V := ns.map fun n => V.str (T n)
def lit (s : String) : List Nat := (Str.ofString s).cps.toList
theorem lit_T (s : String) : Str.ofString s = T (lit s) := T_of _
abbrev Rol := List Nat × Bool
def rolD (r : Rol) : PyData := .tuple [.str (T r.1), .bool r.2]
inductive Con where
  | any | nothing
  | name (s : List Nat)
  | not (c : Con)
  | both (c d : Con)
  | either (c d : Con)
  | some (r : Rol) (c : Con)
  | all (r : Rol) (c : Con)
namespace Con
def D : Con → PyData
  | .any => .tuple [.str (Str.ofString "anything")]
  | .nothing => .tuple [.str (Str.ofString "nothing")]
  | .name s => .tuple [.str (Str.ofString "name"), .str (T s)]
  | .not c => .tuple [.str (Str.ofString "not"), c.D]
  | .both c d => .tuple [.str (Str.ofString "and"), c.D, d.D]
  | .either c d => .tuple [.str (Str.ofString "or"), c.D, d.D]
  | .some r c => .tuple [.str (Str.ofString "some"), rolD r, c.D]
  | .all r c => .tuple [.str (Str.ofString "all"), rolD r, c.D]
/-- how many trees are within one another -/
def dp : Con → Nat
  | .not c => c.dp + 1
  | .both c d => max c.dp d.dp + 1
  | .either c d => max c.dp d.dp + 1
  | .some _ c => c.dp + 1
  | .all _ c => c.dp + 1
  | _ => 0
/-- a bound of its text -/
def sz : Con → Nat
  | .name s => s.length + 20
  | .not c => c.sz + 20
  | .both c d => c.sz + d.sz + 20
  | .either c d => c.sz + d.sz + 20
  | .some r c => r.1.length + c.sz + 40
  | .all r c => r.1.length + c.sz + 40
  | _ => 20
end Con
theorem rolN (r : Rol) : TupN 2 (rolD r) := ⟨(by show 2 ≤ 100000; decide), fun d hd => by
  rcases List.mem_cons.mp hd with rfl | hd
  · trivial
  rw [List.mem_singleton.mp hd]
  trivial⟩
theorem TupN.up : ∀ {n : Nat} {d : PyData}, TupN n d → TupN (n + 1) d
  | 0, _, h => h.elim
  | n + 1, .tuple ds, h => ⟨h.1, fun d hd => TupN.up (h.2 d hd)⟩
  | _ + 1, .list _, h => h.elim
  | _ + 1, .dict _, h => h.elim
  | _ + 1, .none, _ => trivial
  | _ + 1, .bool _, _ => trivial
  | _ + 1, .int _, _ => trivial
  | _ + 1, .str _, _ => trivial
theorem TupN.le {n m : Nat} {d : PyData} (h : TupN n d) (e : n ≤ m) : TupN m d := by
  obtain ⟨k, rfl⟩ : ∃ k, m = n + k := ⟨m - n, by omega⟩
  induction k with
  | zero => exact h
  | succ k ih => exact (ih (by omega)).up
theorem tupN_of {n : Nat} {ds : List PyData} (hl : ds.length ≤ 100000) (h : ∀ d ∈ ds, TupN n d) : TupN (n + 1) (.tuple ds) := ⟨hl, h⟩
theorem tup1 {n : Nat} {a : PyData} (ha : TupN n a) : TupN (n + 1) (.tuple [a]) := ⟨(by show 1 ≤ 100000; decide), fun d hd => by
  rw [List.mem_singleton.mp hd]
  exact ha⟩
theorem tup2 {n : Nat} {a b : PyData} (ha : TupN n a) (hb : TupN n b) : TupN (n + 1) (.tuple [a, b]) := ⟨(by show 2 ≤ 100000; decide), fun d hd => by
  rcases List.mem_cons.mp hd with rfl | hd
  · exact ha
  rw [List.mem_singleton.mp hd]
  exact hb⟩
theorem tup3 {n : Nat} {a b c : PyData} (ha : TupN n a) (hb : TupN n b) (hc : TupN n c) : TupN (n + 1) (.tuple [a, b, c]) := ⟨(by show 3 ≤ 100000; decide), fun d hd => by
  rcases List.mem_cons.mp hd with rfl | hd
  · exact ha
  rcases List.mem_cons.mp hd with rfl | hd
  · exact hb
  rw [List.mem_singleton.mp hd]
  exact hc⟩
theorem tup4 {n : Nat} {a b c e : PyData} (ha : TupN n a) (hb : TupN n b) (hc : TupN n c) (he : TupN n e) : TupN (n + 1) (.tuple [a, b, c, e]) := ⟨(by show 4 ≤ 100000; decide), fun d hd => by
  rcases List.mem_cons.mp hd with rfl | hd
  · exact ha
  rcases List.mem_cons.mp hd with rfl | hd
  · exact hb
  rcases List.mem_cons.mp hd with rfl | hd
  · exact hc
  rw [List.mem_singleton.mp hd]
  exact he⟩
theorem strN (n : Nat) (x : Str) : TupN (n + 1) (.str x) := trivial
theorem Con.tn : ∀ c : Con, TupN (c.dp + 3) c.D
  | .any => tup1 trivial
  | .nothing => tup1 trivial
  | .name _ => tup2 trivial trivial
  | .not c => tup2 trivial (Con.tn c)
  | .both c d => tup3 trivial ((Con.tn c).le (by show c.dp + 3 ≤ max c.dp d.dp + 3; omega)) ((Con.tn d).le (by show d.dp + 3 ≤ max c.dp d.dp + 3; omega))
  | .either c d => tup3 trivial ((Con.tn c).le (by show c.dp + 3 ≤ max c.dp d.dp + 3; omega)) ((Con.tn d).le (by show d.dp + 3 ≤ max c.dp d.dp + 3; omega))
  | .some r c => tup3 trivial ((rolN r).le (by omega)) (Con.tn c)
  | .all r c => tup3 trivial ((rolN r).le (by omega)) (Con.tn c)
/-! data taken apart -/
section
variable {K : PySem.W.Frag} {H : Hp} {v : V}
theorem dp_tup {ds : List PyData} (h : Dp K H v (.tuple ds)) : ∃ a xs, v = .ref a ∧ SqT K H a xs ∧ DpAll K H xs ds := by
  cases h with
  | tup h a => exact ⟨_, _, rfl, h, a⟩
theorem dp_str {x : Str} (h : Dp K H v (.str x)) : v = .str x := by
  cases h
  rfl
theorem dp_bool {b : Bool} (h : Dp K H v (.bool b)) : v = .bl b := by
  cases h
  rfl
theorem dp_int {i : Int} (h : Dp K H v (.int i)) : v = .int i := by
  cases h
  rfl
theorem da_cons {xs : List V} {d : PyData} {ds : List PyData} (h : DpAll K H xs (d :: ds)) : ∃ x r, xs = x :: r ∧ Dp K H x d ∧ DpAll K H r ds := by
  cases h with
  | cons a t => exact ⟨_, _, rfl, a, t⟩
theorem da_nil {xs : List V} (h : DpAll K H xs []) : xs = [] := by
  cases h
  rfl
theorem dp1 {x : Str} (h : Dp K H v (.tuple [.str x])) : ∃ a, v = .ref a ∧ SqT K H a [.str x] := by
  obtain ⟨a, xs, rfl, hs, hd⟩ := dp_tup h
  obtain ⟨y, r, rfl, h1, hd⟩ := da_cons hd
  cases da_nil hd
  cases dp_str h1
  exact ⟨a, rfl, hs⟩
theorem dp2 {x : Str} {d : PyData} (h : Dp K H v (.tuple [.str x, d])) : ∃ a y, v = .ref a ∧ SqT K H a [.str x, y] ∧ Dp K H y d := by
  obtain ⟨a, xs, rfl, hs, hd⟩ := dp_tup h
  obtain ⟨y, r, rfl, h1, hd⟩ := da_cons hd
  obtain ⟨z, r, rfl, h2, hd⟩ := da_cons hd
  cases da_nil hd
  cases dp_str h1
  exact ⟨a, z, rfl, hs, h2⟩
theorem dp3 {x : Str} {d e : PyData} (h : Dp K H v (.tuple [.str x, d, e])) : ∃ a y z, v = .ref a ∧ SqT K H a [.str x, y, z] ∧ Dp K H y d ∧ Dp K H z e := by
  obtain ⟨a, xs, rfl, hs, hd⟩ := dp_tup h
  obtain ⟨y, r, rfl, h1, hd⟩ := da_cons hd
  obtain ⟨z, r, rfl, h2, hd⟩ := da_cons hd
  obtain ⟨w, r, rfl, h3, hd⟩ := da_cons hd
  cases da_nil hd
  cases dp_str h1
  exact ⟨a, z, w, rfl, hs, h2, h3⟩
theorem dp4 {x : Str} {d e g : PyData} (h : Dp K H v (.tuple [.str x, d, e, g])) : ∃ a y z w, v = .ref a ∧ SqT K H a [.str x, y, z, w] ∧ Dp K H y d ∧ Dp K H z e ∧ Dp K H w g := by
  obtain ⟨a, xs, rfl, hs, hd⟩ := dp_tup h
  obtain ⟨y, r, rfl, h1, hd⟩ := da_cons hd
  obtain ⟨z, r, rfl, h2, hd⟩ := da_cons hd
  obtain ⟨w, r, rfl, h3, hd⟩ := da_cons hd
  obtain ⟨u, r, rfl, h4, hd⟩ := da_cons hd
  cases da_nil hd
  cases dp_str h1
  exact ⟨a, z, w, u, rfl, hs, h2, h3, h4⟩
theorem dpRol {r : Rol} (h : Dp K H v (rolD r)) : ∃ a, v = .ref a ∧ SqT K H a [.str (T r.1), .bl r.2] := by
  obtain ⟨a, y, rfl, hs, h2⟩ := dp2 h
  cases dp_bool h2
  exact ⟨a, rfl, hs⟩
end
/-! a test whose texts are written -/
section
variable {K : PySem.W.Frag} {σ : L2.St} {H : Hp} {i : Nat} {s t t' : Str} {tt u : TS} {D : Ends}
theorem if_eqF (h : σ[i]? = some (some (.str s))) (hd : decide (s = t) = false) (q : u D σ H) : tIfS (tTest (tOp rEq (tVar i) (tC (.str t)))) tt u D σ H := ⟨_, h, rfl, _, rfl, by
  rw [decide_eq_false (fun z => of_decide_eq_false hd (V.str.inj z))]
  exact iteF q⟩
theorem if_eqT (h : σ[i]? = some (some (.str s))) (hd : decide (s = t) = true) (q : tt D σ H) : tIfS (tTest (tOp rEq (tVar i) (tC (.str t)))) tt u D σ H := ⟨_, h, rfl, _, rfl, by
  rw [decide_eq_true (congrArg V.str (of_decide_eq_true hd))]
  exact iteT q⟩
theorem if_eq2F (h : σ[i]? = some (some (.str s))) (hd : (decide (s = t) || decide (s = t')) = false) (q : u D σ H) : tIfS (tOr (tTest (tOp rEq (tVar i) (tC (.str t)))) (tTest (tOp rEq (tVar i) (tC (.str t'))))) tt u D σ H := by
  rw [Bool.or_eq_false_iff] at hd
  refine ⟨_, h, rfl, _, rfl, ?_⟩
  rw [decide_eq_false (fun z => of_decide_eq_false hd.1 (V.str.inj z))]
  refine iteF ⟨_, h, rfl, _, rfl, ?_⟩
  rw [decide_eq_false (fun z => of_decide_eq_false hd.2 (V.str.inj z))]
  exact iteF q
theorem if_eq2T (h : σ[i]? = some (some (.str s))) (hd : (decide (s = t) || decide (s = t')) = true) (q : tt D σ H) : tIfS (tOr (tTest (tOp rEq (tVar i) (tC (.str t)))) (tTest (tOp rEq (tVar i) (tC (.str t'))))) tt u D σ H := by
  refine ⟨_, h, rfl, _, rfl, ?_⟩
  by_cases e : s = t
  · rw [decide_eq_true (congrArg V.str e)]
    exact iteT (iteT q)
  · rw [decide_eq_false (fun z => e (V.str.inj z))]
    rw [decide_eq_false e, Bool.false_or] at hd
    refine iteF ⟨_, h, rfl, _, rfl, ?_⟩
    rw [decide_eq_true (congrArg V.str (of_decide_eq_true hd))]
    exact iteT q
theorem if_in2 {b : Bool} (h : σ[i]? = some (some (.str s))) (hd : (decide (s = t) || decide (s = t')) = b) (q1 : b = true → ∀ p, H p = none → tt D σ (upd H p (.tup [.str t, .str t']))) (q2 : b = false → ∀ p, H p = none → u D σ (upd H p (.tup [.str t, .str t']))) :
    tIfS (tTest (tOp (rIn K false) (tVar i) (tTup (tCons (tC (.str t)) (tCons (tC (.str t')) tNil))))) tt u D σ H := by
  refine ⟨_, h, by show 2 ≤ sizeLine; decide, fun p hp => ⟨p, _, rfl, .inr (SqT.of upd_same), rfl, rfl, b, ?_, ?_⟩⟩
  · show V.bl (inV (.str s) [.str t, .str t']) = .bl b
    rw [show [V.str t, V.str t'] = [t, t'].map V.str from rfl, inV_strs, ← hd, ← Bool.decide_or]
    exact congrArg V.bl (decide_eq_decide.mpr (by simp))
  · cases b with
    | true => exact iteT (q1 rfl p hp)
    | false => exact iteF (q2 rfl p hp)
theorem if_in2T (h : σ[i]? = some (some (.str s))) (hd : (decide (s = t) || decide (s = t')) = true) (q : ∀ p, H p = none → tt D σ (upd H p (.tup [.str t, .str t']))) :
    tIfS (tTest (tOp (rIn K false) (tVar i) (tTup (tCons (tC (.str t)) (tCons (tC (.str t')) tNil))))) tt u D σ H := if_in2 h hd (fun _ => q) (fun z => Bool.noConfusion z)
theorem if_in2F (h : σ[i]? = some (some (.str s))) (hd : (decide (s = t) || decide (s = t')) = false) (q : ∀ p, H p = none → u D σ (upd H p (.tup [.str t, .str t']))) :
    tIfS (tTest (tOp (rIn K false) (tVar i) (tTup (tCons (tC (.str t)) (tCons (tC (.str t')) tNil))))) tt u D σ H := if_in2 h hd (fun z => Bool.noConfusion z) (fun _ => q)
end
/-! texts glued in an f-string -/
section
variable {σ : L2.St} {H : Hp} {ts : List TE} {te : TE} {Q : Str → Hp → Prop}
theorem js_c {a : List Nat} {s : String} (hl : decide ((lit s).length ≤ 20) = true) (hz : a.length ≤ 400000) (q : tJs ts (T (a ++ lit s)) σ H Q) : tJs (tC (.str (Str.ofString s)) :: ts) (T a) σ H Q := by
  refine ⟨Str.ofString s, rfl, ?_, ?_⟩
  · rw [Str.length_append, lit_T, T_len, T_len]
    have := of_decide_eq_true hl
    exact small9 (by omega)
  · rw [lit_T s, T_cat]
    exact q
/-- a field whose value is a text: te gives it, the heap may have grown -/
theorem js_e {a b : List Nat} (ht : ∀ R : VK, (∀ H', Same H H' → R (.str (T b)) H') → te σ H R) (hb : b.length ≤ 400000) (hz : a.length ≤ 400000) (q : ∀ H', Same H H' → tJs ts (T (a ++ b)) σ H' Q) : tJs (tFmt te :: ts) (T a) σ H Q := by
  refine ht _ fun H' e => .inl ⟨T b, rfl, by rw [T_len]; exact small9 (by omega), T b, rfl, by rw [Str.length_append, T_len, T_len]; exact small9 (by omega), ?_⟩
  rw [T_cat]
  exact q H' e
theorem js_0 (q : tJs ts (T []) σ H Q) : tJs ts Str.empty σ H Q := q
theorem js_end {a : List Nat} (q : Q (T a) H) : tJs [] (T a) σ H Q := q
end
end Pf
namespace Pf
open PySem PySem.Spec PyProof.Rows L2
/-! what gives a text, from a heap on -/
def GT (te : TE) (σ : L2.St) (H : Hp) (b : List Nat) : Prop := ∀ H1, Same H H1 → ∀ R : VK, (∀ H', Same H1 H' → R (.str (T b)) H') → te σ H1 R
def rAddS : R2 := fun x y H Q => ∃ i j, x = V.str i ∧ y = V.str j ∧ i.length + j.length ≤ sizeLine ∧ Q (.str (i ++ j)) H
section
variable {σ : L2.St} {H H' : Hp} {ta tb te : TE} {a b : List Nat} {i : Nat}
theorem GT.mono (g : GT te σ H b) (e : Same H H') : GT te σ H' b := fun H1 e1 R r => g H1 (e.trans e1) R r
theorem gt_c (s : String) : GT (tC (.str (Str.ofString s))) σ H (lit s) := fun H1 _ R r => by
  have := r H1 (Same.refl _)
  rw [← lit_T] at this
  exact this
theorem gt_var (h : σ[i]? = some (some (.str (T b)))) : GT (tVar i) σ H b := fun H1 _ R r => ⟨_, h, r H1 (Same.refl _)⟩
theorem gt_varL {s : String} (h : σ[i]? = some (some (.str (Str.ofString s)))) : GT (tVar i) σ H (lit s) := fun H1 _ R r => ⟨_, h, by
  have := r H1 (Same.refl _)
  rw [← lit_T] at this
  exact this⟩
theorem gt_add (ha : GT ta σ H a) (hb : GT tb σ H b) (la : a.length ≤ 400000) (lb : b.length ≤ 400000) : GT (tOp rAddS ta tb) σ H (a ++ b) := fun H1 e R r =>
  ha H1 e _ fun H2 e2 => hb H2 (e.trans e2) _ fun H3 e3 => ⟨_, _, rfl, rfl, by rw [T_len, T_len]; exact small9 (by omega), by
    rw [T_cat]
    exact r H3 (e2.trans e3)⟩
theorem gt_ret {D : Ends} (h : GT te σ H b) (q : ∀ H', Same H H' → D.rt (.str (T b)) H') : tRet te D σ H := h H (Same.refl _) _ q
theorem gt_set {D : Ends} (h : GT te σ H b) (q : ∀ H', Same H H' → D.nx (σ.set i (some (.str (T b)))) H') : tAsg te (gName i) D σ H := h H (Same.refl _) _ q
end
/-! statements and questions as they are written -/
inductive Stm where
  | below (c d : Con) | equals (c d : Con) | apart (c d : Con)
  | domain (r : Rol) (c : Con) | range (r : Rol) (c : Con)
  | under (r s : Rol) | inverse (a b : List Nat) | is (a : List Nat) (c : Con) | has (a b c : List Nat) | never
namespace Stm
def D : Stm → PyData
  | .below c d => .tuple [.str (Str.ofString "below"), c.D, d.D]
  | .equals c d => .tuple [.str (Str.ofString "equals"), c.D, d.D]
  | .apart c d => .tuple [.str (Str.ofString "apart"), c.D, d.D]
  | .domain r c => .tuple [.str (Str.ofString "domain"), rolD r, c.D]
  | .range r c => .tuple [.str (Str.ofString "range"), rolD r, c.D]
  | .under r s => .tuple [.str (Str.ofString "under"), rolD r, rolD s]
  | .inverse a b => .tuple [.str (Str.ofString "inverse"), .str (T a), .str (T b)]
  | .is a c => .tuple [.str (Str.ofString "is"), .str (T a), c.D]
  | .has a b c => .tuple [.str (Str.ofString "has"), .str (T a), .str (T b), .str (T c)]
  | .never => .tuple [.str (Str.ofString "never")]
def dp : Stm → Nat
  | .below c d | .equals c d | .apart c d => max c.dp d.dp
  | .domain _ c | .range _ c | .is _ c => c.dp
  | _ => 0
def sz : Stm → Nat
  | .below c d | .equals c d | .apart c d => c.sz + d.sz + 40
  | .domain r c | .range r c => r.1.length + c.sz + 40
  | .is a c => a.length + c.sz + 40
  | .under r s => r.1.length + s.1.length + 40
  | .inverse a b => a.length + b.length + 40
  | .has a b c => a.length + b.length + c.length + 40
  | .never => 40
theorem tn : ∀ s : Stm, TupN (s.dp + 4) s.D
  | .below c d | .equals c d | .apart c d => tup3 trivial ((Con.tn c).le (by show c.dp + 3 ≤ max c.dp d.dp + 3; omega)) ((Con.tn d).le (by show d.dp + 3 ≤ max c.dp d.dp + 3; omega))
  | .domain r c | .range r c => tup3 trivial ((rolN r).le (by omega)) (Con.tn c)
  | .under r s => tup3 trivial ((rolN r).le (by omega)) ((rolN s).le (by omega))
  | .inverse a b => tup3 trivial trivial trivial
  | .is a c => tup3 trivial trivial (Con.tn c)
  | .has a b c => tup4 trivial trivial trivial trivial
  | .never => tup1 trivial
end Stm
end Pf

namespace Pf
open PySem PySem.Spec PyProof.Rows L2
/-! pure expressions: what gives a value, or data, from a heap on that only grows -/
def GV (te : TE) (σ : L2.St) (H : Hp) (v : V) : Prop := ∀ H1, Same H H1 → ∀ R : VK, (∀ H', Same H1 H' → R v H') → te σ H1 R
def GD (K : PySem.W.Frag) (te : TE) (σ : L2.St) (H : Hp) (d : PyData) : Prop := ∀ H1, Same H H1 → ∀ R : VK, (∀ v H', Same H1 H' → Dp K H' v d → R v H') → te σ H1 R
def GDs (K : PySem.W.Frag) (ta : TA) (σ : L2.St) (H : Hp) (ds : List PyData) : Prop := ∀ H1, Same H H1 → ∀ R : List V → Hp → Prop, (∀ vs H', Same H1 H' → DpAll K H' vs ds → R vs H') → ta σ H1 R
/-- a tuple whose object has no attributes of its own -/
def PlainT (o : Obj) : Prop := o.cls = .type "tuple" ∧ o.dict = none
def FzT (K : PySem.W.Frag) (H : Hp) (p : Addr) : Prop := (∃ o u, H p = some (.frz o u) ∧ PlainT o) ∨ ∃ o, K.lookup p = some o ∧ PlainT o
section
variable {X : Cx}
/-- tuple(a list), its object known -/
theorem call_tupleF : CallR X (.type "tuple") (fun xs H Q => ∃ p ys, xs = [.ref p] ∧ SqL X.K H p ys ∧ ∀ l o, H l = none → PlainT o → Q (.ref l) (upd H l (.frz o (.tup ys)))) := by
  intro pins s σ H xs us Q I rel hyp
  obtain ⟨p, ys, hx, hq, q⟩ := hyp
  subst hx
  obtain ⟨u, hu, rx⟩ := vals1 rel
  subst hu
  cases rx
  obtain ⟨its, hv, pl, hz⟩ := I.list hq
  have hl := hv.length
  refine call_tuple_list pl.isList (fun h2 kp => ?_) (by simp only [List.size_toArray] <;> omega)
  have J : Inv X pins σ H { s with heap := h2 } := I.kept (t' := s.toks) kp
  refine ⟨.ref h2.objs.size, upd H h2.objs.size (.frz { cls := .type "tuple", data := .seq its.toArray } (.tup ys)), ?_, rfl, q _ _ (J.hok.fresh (Nat.le_refl _)) ⟨rfl, rfl⟩⟩
  refine J.laid (t' := s.toks) (fun b o e => Heap.get?_push_of_some _ e) (Nat.le_refl _) ⟨Heap.get?_push_size _ rfl, ?_⟩
  exact ⟨hz, its, hv, IsTup.new _ _⟩
theorem fzT_is {pins : List (Addr × Obj)} {σ : L2.St} {H : Hp} {s : Shared} {p : Addr} (I : Inv X pins σ H s) (h : FzT X.K H p) :
    s.TypeIs (.ref p) "tuple" ∧ ∀ a, Value.ref p = .ref a → ∃ ob, s.heap.get? a = some ob ∧ ob.dict = none := by
  rcases h with ⟨o, u, h1, h2⟩ | ⟨o, h1, h2⟩
  · have h3 := (I.hok p _ h1).1
    refine ⟨⟨o, h3, h2.1⟩, fun a e => ?_⟩
    cases e
    exact ⟨o, h3, h2.2⟩
  · have h3 := I.kIn p o h1
    refine ⟨⟨o, h3, h2.1⟩, fun a e => ?_⟩
    cases e
    exact ⟨o, h3, h2.2⟩
def tBMT (K : PySem.W.Frag) (r : V → List V → Hp → VK → Prop) (to : TE) (t : TA) : TE := fun σ H Q => to σ H fun x H1 => (∃ p, x = .ref p ∧ FzT K H1 p) ∧ t σ H1 fun xs H2 => r x xs H2 Q
/-- a method of such a tuple -/
theorem pe_bmT {o e : Expr} {es : List Expr} {to : TE} {t : TA} {name : Str} {apos cpos : Pos} {id : String} {r : V → List V → Hp → VK → Prop} (slot : Slot "tuple" name id) (hty : typeOf (.builtin id) = pure (.type "method_descriptor")) (hm : MtR X id r) (ho : PE X o to) (ha : PA X (e :: es) t)
    (h1 : attributeBase o name X.env (eval o X.env) = eval o X.env := by rfl)
    (h2 : ((backTo cpos (starEach (e :: es) X.env)).all (fun x => !x.1) && (backToKw cpos (keywordEach [] X.env)).all (fun x => x.1.isSome) && decide ((e :: es).length + ([] : List Keyword).length + (if ([] : List Keyword).isEmpty then 0 else 1) < 30)) = true := by rfl)
    (h3 : (apos.endLine == cpos.line) = true := by rfl) (h4 : starEach (e :: es) X.env = (false, eval e X.env) :: starEach es X.env := by rfl) (h5 : (backTo cpos (starEach es X.env)).any (·.1) = false := by rfl) :
    PE X (.Call (.Attribute o name apos) (e :: es) [] cpos) (tBMT X.K r to t) := by
  refine ⟨fun pins s σ H Q I h => wpAny_Call_method_late h1 h2 h3 rfl (thn (ho.run pins s σ H _ I h) fun v s1 q => ?_)⟩
  obtain ⟨x, H1, I1, r1, ⟨p, ex, hp⟩, q1⟩ := q
  subst ex
  cases r1
  obtain ⟨k1, k2⟩ := fzT_is I1 hp
  refine ⟨"tuple", id, PySem.F.plainAttrs_tuple, slot, hty, k1, k2, ?_⟩
  have hA := ha.run cpos pins s1 σ H1 _ I1 q1
  rw [h4] at hA ⊢
  refine Calls.callWith_builtin (by show (false || (backTo cpos (starEach es X.env)).any (·.1)) = false; rw [h5] <;> rfl) (Calls.evalArgs_plain ?_)
  exact thn hA fun us s2 ⟨vs, H2, I2, r2, q2⟩ => hm pins s2 σ H2 (.ref p) vs (.ref p) us Q I2 rfl r2 q2
end
section
variable {K : PySem.W.Frag} {σ : L2.St} {H H' : Hp} {ta tb te tf to : TE} {tl : TA} {v : V} {d e : PyData} {ds : List PyData} {D : Ends} {i : Nat}
theorem GV.mono (g : GV te σ H v) (e : Same H H') : GV te σ H' v := fun H1 e1 R r => g H1 (e.trans e1) R r
theorem GD.mono (g : GD K te σ H d) (e : Same H H') : GD K te σ H' d := fun H1 e1 R r => g H1 (e.trans e1) R r
theorem GDs.mono (g : GDs K tl σ H ds) (e : Same H H') : GDs K tl σ H' ds := fun H1 e1 R r => g H1 (e.trans e1) R r
theorem gv_c : GV (tC v) σ H v := fun H1 _ R r => r H1 (Same.refl _)
theorem gv_var (h : σ[i]? = some (some v)) : GV (tVar i) σ H v := fun H1 _ R r => ⟨_, h, r H1 (Same.refl _)⟩
theorem gv_ixT {a : Addr} {xs : List V} {j : Int} {x : V} (h : GV te σ H (.ref a)) (hs : SqT K H a xs) (hx : atI xs j = some x) : GV (tOp (rIxT K) te (tC (.int j))) σ H x := fun H1 e R r =>
  h H1 e _ fun H2 e2 => ⟨a, _, j, _, rfl, rfl, Same.seqT (e.trans e2) hs, hx, r H2 e2⟩
theorem gv_ixL {a : Addr} {xs : List V} {j : Int} {x : V} (h : GV te σ H (.ref a)) (hs : SqL K H a xs) (hx : atI xs j = some x) : GV (tOp (rIxL K) te (tC (.int j))) σ H x := fun H1 e R r =>
  h H1 e _ fun H2 e2 => ⟨a, _, j, _, rfl, rfl, (e.trans e2).seq hs, hx, r H2 e2⟩
theorem strs_at {ns : List (List Nat)} {s : List Nat} (h : s ∈ ns) : (strsV ns)[ns.idxOf s]? = some (.str (T s)) := by
  have h1 := List.idxOf_lt_length_of_mem h
  show (ns.map _)[ns.idxOf s]? = _
  rw [List.getElem?_map, List.getElem?_eq_getElem h1, List.getElem_idxOf]
  rfl
theorem strs_ne {ns : List (List Nat)} {s t : List Nat} {m : Nat} (h : m < ns.idxOf s) (ht : ns[m]? = some t) : t ≠ s := by
  intro e
  obtain ⟨h1, h2⟩ := List.getElem?_eq_some_iff.mp ht
  have := List.not_of_lt_findIdx (p := (· == s)) (xs := ns) (i := m) h
  rw [h2, e] at this
  simp at this
theorem gv_idxL {a : Addr} {ns : List (List Nat)} {s : List Nat} (h : GV to σ H (.ref a)) (hs : SqL K H a (strsV ns)) (hx : GV te σ H (.str (T s))) (hm : s ∈ ns) : GV (tBM K "list" (rIndex K) to (tCons te tNil)) σ H (.int ((ns.idxOf s : Nat) : Int)) := fun H1 e1 R r =>
  h H1 e1 _ fun H2 e2 => ⟨.inl ⟨rfl, _, (e1.trans e2).seq hs⟩, hx H2 (e1.trans e2) _ fun H3 e3 => ⟨a, strsV ns, _, ns.idxOf s, _, rfl, rfl, ((e1.trans e2).trans e3).seq hs, rfl, by
    unfold strsV
    rw [List.all_map, List.all_eq_true]
    intro x _
    rfl, strs_at hm, beq_self_eq_true _, fun m z hml hz => by
      unfold strsV at hz
      rw [List.getElem?_map] at hz
      cases ht : ns[m]? with
      | none => rw [ht] at hz; cases hz
      | some t =>
        rw [ht] at hz
        cases hz
        exact beq_false_of_ne fun q => strs_ne hml ht (T_inj q), r H3 (e2.trans e3)⟩⟩
theorem gv_idxT {a : Addr} {ns : List (List Nat)} {s : List Nat} (h : GV to σ H (.ref a)) (hs : SqT K H a (strsV ns)) (hf : FzT K H a) (hx : GV te σ H (.str (T s))) (hm : s ∈ ns) :
    GV (tBMT K (fun x xs H Q => ∃ p, ∃ ys : List Str, ∃ z j, x = .ref p ∧ xs = [.str z] ∧ SqT K H p (ys.map V.str) ∧ ys[j]? = some z ∧ (∀ m, m < j → ys[m]? ≠ some z) ∧ Q (.int (j : Nat)) H) to (tCons te tNil)) σ H (.int ((ns.idxOf s : Nat) : Int)) := fun H1 e1 R r =>
  h H1 e1 _ fun H2 e2 => ⟨⟨a, rfl, by
    rcases hf with ⟨o, u, h1, h2⟩ | h1
    · exact .inl ⟨o, u, e2 _ _ (e1 _ _ h1), h2⟩
    · exact .inr h1⟩, hx H2 (e1.trans e2) _ fun H3 e3 => ⟨a, ns.map T, T s, ns.idxOf s, rfl, rfl, by
      rw [List.map_map]
      exact Same.seqT ((e1.trans e2).trans e3) hs, by
      have h1 := List.idxOf_lt_length_of_mem hm
      rw [List.getElem?_map, List.getElem?_eq_getElem h1, List.getElem_idxOf]
      rfl, fun m hml hz => by
      rw [List.getElem?_map] at hz
      cases ht : ns[m]? with
      | none => rw [ht] at hz; cases hz
      | some t =>
        rw [ht] at hz
        exact strs_ne hml ht (T_inj (Option.some.inj hz)), r H3 (e2.trans e3)⟩⟩
theorem gd_of (g : GV te σ H v) (h : Dp K H v d) : GD K te σ H d := fun H1 e R r => g H1 e R fun H' e' => r v H' e' (Dp.same (e.trans e') h)
theorem gd_str {s : Str} : GD K (tC (.str s)) σ H (.str s) := gd_of gv_c (.str s)
theorem gd_int {j : Int} (g : GV te σ H (.int j)) : GD K te σ H (.int j) := gd_of g (.int j)
theorem gd_bl {b : Bool} (g : GV te σ H (.bl b)) : GD K te σ H (.bool b) := gd_of g (.bl b)
theorem gd_var (h : σ[i]? = some (some v)) (hd : Dp K H v d) : GD K (tVar i) σ H d := gd_of (gv_var h) hd
theorem gds_nil : GDs K tNil σ H [] := fun H1 _ R r => r [] H1 (Same.refl _) .nil
theorem gds_cons (h : GD K te σ H d) (t : GDs K tl σ H ds) : GDs K (tCons te tl) σ H (d :: ds) := fun H1 e R r =>
  h H1 e _ fun v H2 e2 hv => t H2 (e.trans e2) _ fun vs H3 e3 hs => r (v :: vs) H3 (e2.trans e3) (.cons (Dp.same e3 hv) hs)
theorem gd_tup (h : GDs K tl σ H ds) (hl : ds.length ≤ 1000) : GD K (tTup tl) σ H (.tuple ds) := fun H1 e R r =>
  h H1 e _ fun vs H2 e2 hv => ⟨by rw [dpAll_len hv]; exact Nat.le_trans hl (by decide), fun p hp => r (.ref p) _ (e2.trans (Same.new _ hp)) (.tup (.of upd_same) (DpAll.same (Same.new _ hp) hv))⟩
theorem gd_ret (g : GD K te σ H d) (q : ∀ v H', Same H H' → Dp K H' v d → D.rt v H') : tRet te D σ H := g H (Same.refl _) _ q
theorem gd_set (g : GD K te σ H d) (q : ∀ v H', Same H H' → Dp K H' v d → D.nx (σ.set i (some v)) H') : tAsg te (gName i) D σ H := g H (Same.refl _) _ q
theorem gv_set (g : GV te σ H v) (q : ∀ H', Same H H' → D.nx (σ.set i (some v)) H') : tAsg te (gName i) D σ H := g H (Same.refl _) _ q
theorem gd_1 (h : GD K te σ H d) : GDs K (tCons te tNil) σ H [d] := gds_cons h gds_nil
theorem gd_t1 (h : GD K te σ H d) : GD K (tTup (tCons te tNil)) σ H (.tuple [d]) := gd_tup (gd_1 h) (by show 1 ≤ 1000; decide)
theorem gd_t2 (h : GD K ta σ H d) (h' : GD K tb σ H e) : GD K (tTup (tCons ta (tCons tb tNil))) σ H (.tuple [d, e]) := gd_tup (gds_cons h (gd_1 h')) (by show 2 ≤ 1000; decide)
theorem gd_t3 {e' : PyData} (h : GD K ta σ H d) (h' : GD K tb σ H e) (h2 : GD K te σ H e') : GD K (tTup (tCons ta (tCons tb (tCons te tNil)))) σ H (.tuple [d, e, e']) := gd_tup (gds_cons h (gds_cons h' (gd_1 h2))) (by show 3 ≤ 1000; decide)
theorem gd_t4 {e' e2 : PyData} (h : GD K ta σ H d) (h' : GD K tb σ H e) (h2 : GD K te σ H e') (h3 : GD K tf σ H e2) : GD K (tTup (tCons ta (tCons tb (tCons te (tCons tf tNil))))) σ H (.tuple [d, e, e', e2]) := gd_tup (gds_cons h (gds_cons h' (gds_cons h2 (gd_1 h3)))) (by show 4 ≤ 1000; decide)
theorem gv_not {b : Bool} (h : GV te σ H (.bl b)) : GV (tNotV te) σ H (.bl (!b)) := fun H1 e R r => h H1 e _ fun H2 e2 => ⟨b, rfl, r H2 e2⟩
theorem gv_eq {x y : V} (ha : GV ta σ H x) (hb : GV tb σ H y) (hs : scal x y = true) : GV (tOp rEq ta tb) σ H (.bl (decide (x = y))) := fun H1 e1 R r =>
  ha H1 e1 _ fun H2 e2 => hb H2 (e1.trans e2) _ fun H3 e3 => ⟨hs, r H3 (e2.trans e3)⟩
theorem da_strs : ∀ {ws : List Str} {vs : List V}, DpAll K H vs (ws.map PyData.str) → vs = ws.map V.str
  | [], _, h => da_nil h
  | w :: ws, _, h => by
    obtain ⟨x, r, rfl, h1, h2⟩ := da_cons h
    cases dp_str h1
    rw [da_strs h2]
    rfl
theorem if_inS {ws : List Str} {s : Str} {b : Bool} {tt u : TS} (h : σ[i]? = some (some (.str s))) (hg : GDs K tl σ H (ws.map PyData.str)) (hl : decide (ws.length ≤ 1000) = true) (hd : decide (s ∈ ws) = b) (q1 : b = true → ∀ H', Same H H' → tt D σ H') (q2 : b = false → ∀ H', Same H H' → u D σ H') :
    tIfS (tTest (tOp (rIn K false) (tVar i) (tTup tl))) tt u D σ H := by
  refine ⟨_, h, hg H (Same.refl _) _ fun vs H1 e1 hv => ?_⟩
  cases da_strs hv
  refine ⟨by rw [List.length_map]; exact Nat.le_trans (of_decide_eq_true hl) (by decide), fun p hp => ⟨p, ws.map V.str, rfl, .inr (.of upd_same), rfl, flat_strs ws, b, ?_, ?_⟩⟩
  · show V.bl (inV (.str s) (ws.map V.str)) = .bl b
    rw [inV_strs, hd]
  · cases b with
    | true => exact iteT (q1 rfl _ (e1.trans (Same.new _ hp)))
    | false => exact iteF (q2 rfl _ (e1.trans (Same.new _ hp)))
theorem if_inT {ws : List Str} {s : Str} {tt u : TS} (h : σ[i]? = some (some (.str s))) (hg : GDs K tl σ H (ws.map PyData.str)) (hl : decide (ws.length ≤ 1000) = true) (hd : decide (s ∈ ws) = true) (q : ∀ H', Same H H' → tt D σ H') :
    tIfS (tTest (tOp (rIn K false) (tVar i) (tTup tl))) tt u D σ H := if_inS h hg hl hd (fun _ => q) (fun z => Bool.noConfusion z)
theorem if_inF {ws : List Str} {s : Str} {tt u : TS} (h : σ[i]? = some (some (.str s))) (hg : GDs K tl σ H (ws.map PyData.str)) (hl : decide (ws.length ≤ 1000) = true) (hd : decide (s ∈ ws) = false) (q : ∀ H', Same H H' → u D σ H') :
    tIfS (tTest (tOp (rIn K false) (tVar i) (tTup tl))) tt u D σ H := if_inS h hg hl hd (fun z => Bool.noConfusion z) (fun _ => q)
theorem gds_2 {s t : Str} : GDs K (tCons (tC (.str s)) (tCons (tC (.str t)) tNil)) σ H ([s, t].map PyData.str) := gds_cons gd_str (gd_1 gd_str)
theorem gds_3 {s t t2 : Str} : GDs K (tCons (tC (.str s)) (tCons (tC (.str t)) (tCons (tC (.str t2)) tNil))) σ H ([s, t, t2].map PyData.str) := gds_cons gd_str (gds_cons gd_str (gd_1 gd_str))
end
/-! data of the written part -/
def datOk (K : PySem.W.Frag) : Nat → Value → PyData → Bool
  | 0, _, _ => false
  | _ + 1, .str x _, .str y => decide (x = y)
  | n + 1, .ref a, .tuple ds => match K.lookup a with
    | some ⟨.type nm, none, .seq its _, _⟩ => decide (nm = "tuple") && decide (its.size ≤ 1000) && decide (its.toList.length = ds.length) && (its.toList.zip ds).all fun p => datOk K n p.1 p.2
    | _ => false
  | _ + 1, _, _ => false
theorem datAll_of {K : PySem.W.Frag} {n : Nat} (ih : ∀ {v : Value} {d : PyData}, datOk K n v d = true → ∃ x, RelV x v ∧ ∀ H, Dp K H x d) : ∀ {vs : List Value} {ds : List PyData}, vs.length = ds.length → ((vs.zip ds).all fun p => datOk K n p.1 p.2) = true → ∃ xs, Vals xs vs ∧ ∀ H, DpAll K H xs ds
  | [], [], _, _ => ⟨[], .nil, fun _ => .nil⟩
  | [], _ :: _, h, _ => by simp at h
  | _ :: _, [], h, _ => by simp at h
  | v :: vs, d :: ds, hl, h => by
    rw [List.zip_cons_cons, List.all_cons, Bool.and_eq_true] at h
    obtain ⟨x, rx, hx⟩ := ih h.1
    obtain ⟨xs, rs, hs⟩ := datAll_of ih (by simpa using hl) h.2
    exact ⟨x :: xs, .cons rx rs, fun H => .cons (hx H) (hs H)⟩
theorem dat_of {K : PySem.W.Frag} : ∀ (n : Nat) {v : Value} {d : PyData}, datOk K n v d = true → ∃ x, RelV x v ∧ ∀ H, Dp K H x d
  | 0, _, _, h => by simp [datOk] at h
  | n + 1, v, d, h => by
    unfold datOk at h
    split at h
    · cases ‹_ + 1 = 0›
    · rw [← of_decide_eq_true h]
      exact ⟨.str _, ⟨_, rfl⟩, fun H => .str _⟩
    · split at h
      · rename_i m a ds hm o nm its k sl hk
        simp only [Bool.and_eq_true] at h
        obtain ⟨⟨⟨h1, h2⟩, h3⟩, h4⟩ := h
        cases of_decide_eq_true h1
        cases hm
        obtain ⟨xs, rs, hs⟩ := datAll_of (dat_of n) (of_decide_eq_true h3) h4
        exact ⟨.ref a, rfl, fun H => .tup (.inr ⟨_, its, k, hk, rfl, rfl, Nat.le_trans (of_decide_eq_true h2) (by decide), rs⟩) (hs H)⟩
      · cases h
    · cases h
theorem dat_ref {K : PySem.W.Frag} {n : Nat} {a : Addr} {d : PyData} (h : datOk K n (.ref a) d = true) : ∀ H, Dp K H (.ref a) d := fun H => by
  obtain ⟨x, rx, hx⟩ := dat_of n h
  cases x with
  | ref b =>
    cases rx
    exact hx H
  | _ => first | (cases rx; done) | (obtain ⟨t, z⟩ := rx; cases z)
end Pf

namespace Pf
open PySem PySem.Spec PyProof.Rows L2
/-! the data logic: what slots, own lists and passing values hold, as one fact (Ds) that each step of a reading renews -/
/-- what is known of a slot: nothing, its data, its very value -/
inductive Sl where
  | u | d (x : PyData) | v (x : V) | p (x : PyData) | t (x : PyData)
/-- what is known of an object that may change -/
inductive Od where
  | lst (ds : List PyData) | nums | box | ho (o : HO)
  | dk (kvs : List (Key × PyData)) | dt (kvs : List (List Key × PyData)) | lt (ds : List PyData)
  | tab (q : Str)
  | nt (A B C : List (List Nat))
  | bk (F : Addr → List (List Bool × Addr × Int) → HO) (kvs : List (List Bool × Int))
abbrev Own := List (Addr × Od)
/-- the value is a tuple that was made while the program ran -/
def TupM (K : PySem.W.Frag) (M : Hp) (v : V) (x : PyData) : Prop := ∃ b xs ds, v = .ref b ∧ x = .tuple ds ∧ M b = some (.tup xs) ∧ DpAll K M xs ds
def SlV (K : PySem.W.Frag) (M : Hp) (v : V) : Sl → Prop
  | .u => True
  | .d x => Dp K M v x
  | .v x => v = x
  | .p x => Dp K M v x ∧ ∃ a, v = .ref a ∧ FzT K M a
  | .t x => TupM K M v x
inductive SlVs (K : PySem.W.Frag) (M : Hp) : List V → List Sl → Prop
  | nil : SlVs K M [] []
  | cons {v : V} {vs : List V} {s : Sl} {ss : List Sl} : SlV K M v s → SlVs K M vs ss → SlVs K M (v :: vs) (s :: ss)
/-- the table at a of code objects, all of the name q -/
def TabOk (M H : Hp) (a : Addr) (q : Str) : Prop := ∃ ps : Array Value, H a = some (.tbl ps) ∧ TriplesOk ps.toList ∧ ∀ (pos : Pos) (cv : Value), codeAmong pos ps.toList = some cv → ∃ c, cv = .ref c ∧ M c = some (LamX.CodeO c q)
def OdOk (K : PySem.W.Frag) (M H : Hp) (a : Addr) : Od → Prop
  | .lst ds => ∃ vs, H a = some (.lst vs) ∧ DpAll K M vs ds
  | .nums => ∃ ns : List Int, H a = some (.lst (ns.map V.int))
  | .box => ∃ (p : Addr) (ns : List Int) (i : Int), H a = some (.lst [.ref p, .int i]) ∧ SqL K M p (ns.map V.int) ∧ 0 ≤ i
  | .ho o => H a = some o
  | .dk kvs => ∃ ws : List (Key × V), H a = some (.dK ws) ∧ Paired (fun p q => p.1 = q.1 ∧ Dp K M p.2 q.2) ws kvs
  | .dt kvs => ∃ ws : List (List Key × V), H a = some (.dT ws) ∧ Paired (fun p q => p.1 = q.1 ∧ Dp K M p.2 q.2) ws kvs
  | .tab q => TabOk M H a q
  | .lt ds => ∃ vs, H a = some (.lst vs) ∧ Paired (TupM K M) vs ds
  | .nt A B C => ∃ t0 t1 t2, H a = some (.tup [.ref t0, .ref t1, .ref t2]) ∧ (SqT K M t0 (strsV A) ∧ FzT K M t0) ∧ (SqT K M t1 (strsV B) ∧ FzT K M t1) ∧ SqT K M t2 (strsV C) ∧ FzT K M t2
  | .bk F kvs => ∃ ks, H a = some (F a ks) ∧ ks.map (fun x => (x.1, x.2.2)) = kvs ∧ ∀ x ∈ ks, M x.2.1 = some (.tup (x.1.map V.bl))
/-- from H, M to H', M': all but O stands; M, the part that never changes, has grown by new things alone -/
structure Fr (O : List Addr) (H M H' M' : Hp) : Prop where
  fr : ∀ b o, b ∉ O → H b = some o → H' b = some o
  al : ∀ b, H b ≠ none → H' b ≠ none
  sm : Same M M'
  sub : Same M' H'
  mn : ∀ b, M b = none → H b ≠ none → M' b = none
structure Fx where
  H : Hp
  M : Hp
  O : List Addr
structure Ds (K : PySem.W.Frag) (C : Fx) (B : Hp) (σ : L2.St) (H M : Hp) (ρ : List Sl) (w : Own) (tp : List (V × PyData)) : Prop where
  ln : σ.length = ρ.length
  sl : ∀ (i : Nat) (s : Sl), ρ[i]? = some s → s = .u ∨ ∃ v, σ[i]? = some (some v) ∧ SlV K M v s
  tm : ∀ p ∈ tp, Dp K M p.1 p.2
  own : ∀ p ∈ w, M p.1 = none ∧ OdOk K M H p.1 p.2
  nd : (w.map (·.1)).Nodup
  F : Fr C.O C.H C.M H M
  ow : ∀ p ∈ w, p.1 ∈ C.O ∨ C.H p.1 = none
  bs : Same B M
theorem set_self {α : Type} : ∀ {l : List α} {i : Nat} {x : α}, l[i]? = some x → l.set i x = l
  | [], _, _, h => by simp at h
  | _ :: _, 0, _, h => by
    simp at h
    rw [h]
    rfl
  | a :: l, i + 1, x, h => congrArg (a :: ·) (set_self (by simpa using h))
section
variable {K : PySem.W.Frag} {C : Fx} {B : Hp} {σ : L2.St} {H M H' M' : Hp} {ρ : List Sl} {w : Own} {tp : List (V × PyData)}
theorem OdOk.there {a : Addr} {od : Od} (h : OdOk K M H a od) : H a ≠ none := by
  cases od with
  | lst ds => obtain ⟨vs, h, _⟩ := h; rw [h]; exact fun z => nomatch z
  | nums => obtain ⟨vs, h⟩ := h; rw [h]; exact fun z => nomatch z
  | box => obtain ⟨p, ns, i, h, _⟩ := h; rw [h]; exact fun z => nomatch z
  | ho o => rw [show H a = some o from h]; exact fun z => nomatch z
  | dk kvs => obtain ⟨ws, h, _⟩ := h; rw [h]; exact fun z => nomatch z
  | dt kvs => obtain ⟨ws, h, _⟩ := h; rw [h]; exact fun z => nomatch z
  | tab q => obtain ⟨ps, h, _⟩ := h; rw [h]; exact fun z => nomatch z
  | lt ds => obtain ⟨vs, h, _⟩ := h; rw [h]; exact fun z => nomatch z
  | nt A B C => obtain ⟨_, _, _, h, _⟩ := h; rw [h]; exact fun z => nomatch z
  | bk F kvs => obtain ⟨_, h, _⟩ := h; rw [h]; exact fun z => nomatch z
theorem FzT.same {H H' : Hp} {p : Addr} (h : FzT K H p) (e : Same H H') : FzT K H' p := by
  rcases h with ⟨o, u, h1, h2⟩ | h
  · exact .inl ⟨o, u, e _ _ h1, h2⟩
  · exact .inr h
theorem OdOk.keep {a : Addr} {od : Od} (h : OdOk K M H a od) (e : Same M M') (k : ∀ o, H a = some o → H' a = some o) : OdOk K M' H' a od := by
  cases od with
  | lst ds => obtain ⟨vs, h, d⟩ := h; exact ⟨vs, k _ h, DpAll.same e d⟩
  | nums => obtain ⟨vs, h⟩ := h; exact ⟨vs, k _ h⟩
  | box => obtain ⟨p, ns, i, h, s, z⟩ := h; exact ⟨p, ns, i, k _ h, e.seq s, z⟩
  | ho o => exact k _ h
  | dk kvs => obtain ⟨ws, h, d⟩ := h; exact ⟨ws, k _ h, L2.Paired.mapP d fun _ _ z => ⟨z.1, Dp.same e z.2⟩⟩
  | dt kvs => obtain ⟨ws, h, d⟩ := h; exact ⟨ws, k _ h, L2.Paired.mapP d fun _ _ z => ⟨z.1, Dp.same e z.2⟩⟩
  | tab q =>
    obtain ⟨ps, h, t, d⟩ := h
    exact ⟨ps, k _ h, t, fun pos cv z => (d pos cv z).elim fun c z => ⟨c, z.1, e _ _ z.2⟩⟩
  | lt ds =>
    obtain ⟨vs, h, d⟩ := h
    exact ⟨vs, k _ h, L2.Paired.mapP d fun _ _ z => by
      obtain ⟨b, xs, es, h1, h2, h3, h4⟩ := z
      exact ⟨b, xs, es, h1, h2, e _ _ h3, DpAll.same e h4⟩⟩
  | nt A B C =>
    obtain ⟨t0, t1, t2, h0, ⟨h1, k1⟩, ⟨h2, k2⟩, h3, k3⟩ := h
    exact ⟨t0, t1, t2, k _ h0, ⟨Same.seqT e h1, k1.same e⟩, ⟨Same.seqT e h2, k2.same e⟩, Same.seqT e h3, k3.same e⟩
  | bk F kvs =>
    obtain ⟨ks, h0, h1, h2⟩ := h
    exact ⟨ks, k _ h0, h1, fun x hx => e _ _ (h2 x hx)⟩
theorem TupM.same {v : V} {x : PyData} (h : TupM K M v x) (e : Same M M') : TupM K M' v x := by
  obtain ⟨b, xs, ds, h1, h2, h3, h4⟩ := h
  exact ⟨b, xs, ds, h1, h2, e _ _ h3, DpAll.same e h4⟩
theorem TupM.dp {v : V} {x : PyData} (h : TupM K M v x) : Dp K M v x := by
  obtain ⟨b, xs, ds, rfl, rfl, h3, h4⟩ := h
  exact .tup (.of h3) h4
theorem SlV.same {v : V} {s : Sl} (h : SlV K M v s) (e : Same M M') : SlV K M' v s := by
  cases s with
  | u => trivial
  | d x => exact Dp.same e h
  | v x => exact h
  | p x => exact ⟨Dp.same e h.1, h.2.elim fun a z => ⟨a, z.1, z.2.same e⟩⟩
  | t x => exact TupM.same h e
theorem SlVs.same (e : Same M M') : ∀ {vs : List V} {ss : List Sl}, SlVs K M vs ss → SlVs K M' vs ss
  | _, _, .nil => .nil
  | _, _, .cons h t => .cons (h.same e) (t.same e)
theorem SlVs.length : ∀ {vs : List V} {ss : List Sl}, SlVs K M vs ss → vs.length = ss.length
  | _, _, .nil => rfl
  | _, _, .cons _ t => congrArg Nat.succ t.length
theorem SlVs.at : ∀ {vs : List V} {ss : List Sl}, SlVs K M vs ss → ∀ (i : Nat) (s : Sl), ss[i]? = some s → ∃ v, vs[i]? = some v ∧ SlV K M v s
  | _, _, .nil, i, s, h => by simp at h
  | _, _, .cons (v := v) h _, 0, s, e => by
    simp at e
    subst e
    exact ⟨v, rfl, h⟩
  | _, _, .cons _ t, i + 1, s, e => by
    obtain ⟨v, h1, h2⟩ := t.at i s (by simpa using e)
    exact ⟨v, by simpa using h1, h2⟩
theorem Fr.refl (O : List Addr) (h : Same M H) : Fr O H M H M := ⟨fun _ _ _ e => e, fun _ e => e, Same.refl _, h, fun _ e _ => e⟩
theorem Fr.trans {O O' : List Addr} {H0 M0 : Hp} (a : Fr O H0 M0 H M) (b : Fr O' H M H' M') (h : ∀ x ∈ O', x ∈ O ∨ H0 x = none) : Fr O H0 M0 H' M' where
  fr := fun x o hx e => b.fr x o (fun z => (h x z).elim hx fun q => by rw [q] at e; cases e) (a.fr x o hx e)
  al := fun x e => b.al x (a.al x e)
  sm := a.sm.trans b.sm
  sub := b.sub
  mn := fun x e f => b.mn x (a.mn x e f) (a.al x f)
/-- a step: the objects at O change, the rest stands -/
theorem Ds.step {O : List Addr} {w' : Own} (S : Ds K C B σ H M ρ w tp) (F : Fr O H M H' M') (hO : ∀ b ∈ O, b ∈ w.map (·.1)) (hw : w'.map (·.1) = w.map (·.1)) (ok : ∀ p ∈ w', OdOk K M' H' p.1 p.2) : Ds K C B σ H' M' ρ w' tp where
  ln := S.ln
  sl := fun i s h => (S.sl i s h).imp id fun ⟨v, a, b⟩ => ⟨v, a, b.same F.sm⟩
  tm := fun p h => Dp.same F.sm (S.tm p h)
  own := fun p h => by
    have h1 : p.1 ∈ w.map (·.1) := hw ▸ List.mem_map_of_mem h
    obtain ⟨q, hq, e⟩ := List.mem_map.mp h1
    refine ⟨?_, ok p h⟩
    rw [← e]
    exact F.mn _ (S.own q hq).1 (S.own q hq).2.there
  nd := hw ▸ S.nd
  F := S.F.trans F fun x hx => by
    obtain ⟨q, hq, e⟩ := List.mem_map.mp (hO x hx)
    rw [← e]
    exact S.ow q hq
  ow := fun p h => by
    have h1 : p.1 ∈ w.map (·.1) := hw ▸ List.mem_map_of_mem h
    obtain ⟨q, hq, e⟩ := List.mem_map.mp h1
    rw [← e]
    exact S.ow q hq
  bs := S.bs.trans F.sm
theorem Ds.pure (S : Ds K C B σ H M ρ w tp) (F : Fr [] H M H' M') : Ds K C B σ H' M' ρ w tp :=
  S.step F (fun _ h => nomatch h) rfl fun p h => (S.own p h).2.keep F.sm fun o e => F.fr _ o (fun z => nomatch z) e
theorem Ds.push {v : V} {d : PyData} (S : Ds K C B σ H M ρ w tp) (h : Dp K M v d) : Ds K C B σ H M ρ w ((v, d) :: tp) := by
  refine { S with tm := fun p hp => ?_ }
  rcases List.mem_cons.mp hp with rfl | hp
  · exact h
  · exact S.tm p hp
theorem Ds.clr (S : Ds K C B σ H M ρ w tp) : Ds K C B σ H M ρ w [] := { S with tm := fun _ h => nomatch h }
theorem Ds.rest {x : V × PyData} (S : Ds K C B σ H M ρ w (x :: tp)) : Ds K C B σ H M ρ w tp := { S with tm := fun p h => S.tm p (List.mem_cons_of_mem _ h) }
theorem Ds.sub (S : Ds K C B σ H M ρ w tp) : Same M H := S.F.sub
/-- a new tuple -/
theorem Ds.newT {p : Addr} {vs : List V} {ds : List PyData} (S : Ds K C B σ H M ρ w tp) (hp : H p = none) (hv : DpAll K M vs ds) : Ds K C B σ (upd H p (.tup vs)) (upd M p (.tup vs)) ρ w ((.ref p, .tuple ds) :: tp) := by
  have hm : M p = none := S.sub.free hp
  have e := Same.new (.tup vs) hm
  refine (S.pure ⟨fun b o _ h => Same.new _ hp b o h, fun b h => ?_, e, fun b o h => ?_, fun b h1 h2 => ?_⟩).push (.tup (.of upd_same) (DpAll.same e hv))
  · by_cases q : b = p
    · rw [q, upd_same]
      exact fun z => nomatch z
    · rw [upd_ne q]
      exact h
  · by_cases q : b = p
    · rw [q, upd_same] at h
      rw [q, upd_same]
      exact h
    · rw [upd_ne q] at h
      rw [upd_ne q]
      exact S.sub b o h
  · rw [upd_ne (fun q => h2 (by rw [q]; exact hp))]
    exact h1
/-- a new object that may change -/
theorem Ds.newO {p : Addr} {o : HO} {od : Od} (S : Ds K C B σ H M ρ w tp) (hp : H p = none) (ok : OdOk K M (upd H p o) p od) : Ds K C B σ (upd H p o) M ρ ((p, od) :: w) tp := by
  have hm : M p = none := S.sub.free hp
  have S' : Ds K C B σ (upd H p o) M ρ w tp := S.pure ⟨fun b o _ h => Same.new _ hp b o h, fun b h => by
    by_cases q : b = p
    · rw [q, upd_same]
      exact fun z => nomatch z
    · rw [upd_ne q]
      exact h, Same.refl _, fun b o h => (upd_ne (ne_of_none h hm)).trans (S.sub b o h), fun b h _ => h⟩
  refine { S' with own := fun q hq => ?_, nd := ?_, ow := fun q hq => ?_ }
  · rcases List.mem_cons.mp hq with rfl | hq
    · exact ⟨hm, ok⟩
    · exact S'.own q hq
  · rw [List.map_cons, List.nodup_cons]
    refine ⟨fun z => ?_, S.nd⟩
    obtain ⟨q, hq, e⟩ := List.mem_map.mp z
    exact (S.own q hq).2.there (e ▸ hp)
  · rcases List.mem_cons.mp hq with rfl | hq
    · refine .inr ?_
      show C.H p = none
      cases z : C.H p with
      | none => rfl
      | some o => exact absurd hp (S.F.al p (by rw [z]; exact fun z => nomatch z))
    · exact S.ow q hq
theorem Ds.newL {p : Addr} {vs : List V} {ds : List PyData} (S : Ds K C B σ H M ρ w tp) (hp : H p = none) (hv : DpAll K M vs ds) : Ds K C B σ (upd H p (.lst vs)) M ρ ((p, .lst ds) :: w) tp :=
  S.newO hp ⟨vs, upd_same, hv⟩
/-- the object at place j changes -/
theorem Ds.mut {j : Nat} {a : Addr} {od od' : Od} {o : HO} (S : Ds K C B σ H M ρ w tp) (hj : w[j]? = some (a, od)) (ok : OdOk K M (upd H a o) a od') : Ds K C B σ (upd H a o) M ρ (w.set j (a, od')) tp := by
  have hm := List.mem_of_getElem? hj
  have h1 := (S.own _ hm).1
  refine S.step (O := [a]) ⟨fun b u h e => ?_, fun b h => ?_, Same.refl _, fun b u h => ?_, fun b h _ => h⟩ (fun b h => ?_) ?_ fun p hp => ?_
  · rw [upd_ne (fun z => h (by rw [z]; exact List.mem_singleton_self a))]
    exact e
  · by_cases q : b = a
    · rw [q, upd_same]
      exact fun z => nomatch z
    · rw [upd_ne q]
      exact h
  · rw [upd_ne (ne_of_none h h1)]
    exact S.sub b u h
  · rw [List.mem_singleton.mp h]
    exact List.mem_map_of_mem (f := Prod.fst) hm
  · rw [List.map_set]
    have : (w.map (·.1))[j]? = some a := by rw [List.getElem?_map, hj]; rfl
    exact set_self this
  · rcases List.mem_or_eq_of_mem_set hp with hp' | rfl
    · by_cases q : p.1 = a
      · -- the same address: it is the place j
        obtain ⟨k, hk⟩ := List.getElem?_of_mem hp
        by_cases kj : k = j
        · subst kj
          rw [List.getElem?_set_self (List.getElem?_eq_some_iff.mp hj).1] at hk
          cases hk
          exact ok
        · rw [List.getElem?_set_ne (Ne.symm kj)] at hk
          have e1 : (w.map (·.1))[k]? = some a := by rw [List.getElem?_map, hk]; exact congrArg some q
          have e2 : (w.map (·.1))[j]? = some a := by rw [List.getElem?_map, hj]; rfl
          have lt := (List.getElem?_eq_some_iff.mp e1).1
          exact absurd ((List.getElem?_inj lt S.nd).mp (e1.trans e2.symm)) kj
      · exact (S.own p hp').2.keep (Same.refl _) fun u e => (upd_ne q).trans e
    · exact ok
/-- an own thing is looked at no more -/
theorem Ds.drop {x : Addr × Od} (S : Ds K C B σ H M ρ (x :: w) tp) : Ds K C B σ H M ρ w tp :=
  { S with own := fun p h => S.own p (List.mem_cons_of_mem _ h), nd := (List.nodup_cons.mp S.nd).2, ow := fun p h => S.ow p (List.mem_cons_of_mem _ h) }
/-- a list changes no more: from now on it is data -/
theorem Ds.freeze {p : Addr} {ds : List PyData} (S : Ds K C B σ H M ρ ((p, .lst ds) :: w) tp) (hO : p ∉ C.O) : ∃ M', Ds K C B σ H M' ρ w ((.ref p, .list ds) :: tp) := by
  obtain ⟨hm, vs, hp, hv⟩ := S.own (p, .lst ds) (List.mem_cons_self ..)
  have e := Same.new (.lst vs) hm
  have hn : C.H p = none := (S.ow (p, .lst ds) (List.mem_cons_self ..)).resolve_left hO
  have sub : Same (upd M p (.lst vs)) H := fun b o h => by
    by_cases q : b = p
    · rw [q, upd_same] at h
      rw [q, ← h]
      exact hp
    · rw [upd_ne q] at h
      exact S.sub b o h
  refine ⟨upd M p (.lst vs), { ln := S.ln, sl := fun i s h => (S.sl i s h).imp id fun ⟨v, a, b⟩ => ⟨v, a, b.same e⟩, tm := fun q hq => ?_, own := fun q hq => ?_, nd := (List.nodup_cons.mp S.nd).2, F := ?_, ow := fun q h => S.ow q (List.mem_cons_of_mem _ h), bs := S.bs.trans e }⟩
  · rcases List.mem_cons.mp hq with rfl | hq
    · exact .lst (.of upd_same) (DpAll.same e hv)
    · exact Dp.same e (S.tm q hq)
  · have h1 := S.own q (List.mem_cons_of_mem _ hq)
    have ne : q.1 ≠ p := fun z => (List.nodup_cons.mp S.nd).1 (by show p ∈ w.map (·.1); rw [← z]; exact List.mem_map_of_mem (f := Prod.fst) hq)
    exact ⟨(upd_ne ne).trans h1.1, h1.2.keep e fun _ z => z⟩
  · refine ⟨S.F.fr, S.F.al, S.F.sm.trans e, sub, fun b h1 h2 => ?_⟩
    rw [upd_ne (fun z => h2 (by rw [z]; exact hn))]
    exact S.F.mn b h1 h2
/-- less is known of the slots -/
inductive SlLe : List Sl → List Sl → Prop
  | nil : SlLe [] []
  | same {s : Sl} {a b : List Sl} : SlLe a b → SlLe (s :: a) (s :: b)
  | less {s : Sl} {a b : List Sl} : SlLe a b → SlLe (s :: a) (.u :: b)
theorem SlLe.refl : ∀ a : List Sl, SlLe a a
  | [] => .nil
  | _ :: r => .same (SlLe.refl r)
theorem SlLe.length : ∀ {a b : List Sl}, SlLe a b → a.length = b.length
  | _, _, .nil => rfl
  | _, _, .same t => congrArg Nat.succ t.length
  | _, _, .less t => congrArg Nat.succ t.length
theorem SlLe.at : ∀ {a b : List Sl}, SlLe a b → ∀ (i : Nat) (s : Sl), b[i]? = some s → s = .u ∨ a[i]? = some s
  | _, _, .nil, i, s, h => by simp at h
  | _, _, .same _, 0, s, h => by
    simp at h
    subst h
    exact .inr rfl
  | _, _, .less _, 0, s, h => by
    simp at h
    exact .inl h.symm
  | _, _, .same t, i + 1, s, h => by
    have := t.at i s (by simpa using h)
    simpa using this
  | _, _, .less t, i + 1, s, h => by
    have := t.at i s (by simpa using h)
    simpa using this
theorem Ds.weak {ρ' : List Sl} (S : Ds K C B σ H M ρ w tp) (h : SlLe ρ ρ') : Ds K C B σ H M ρ' w tp :=
  { S with ln := S.ln.trans h.length, sl := fun i s hs => (h.at i s hs).elim .inl fun z => S.sl i s z }
/-- a slot is set -/
theorem Ds.set {i : Nat} {v : V} {s : Sl} (S : Ds K C B σ H M ρ w tp) (h : SlV K M v s) : Ds K C B (σ.set i (some v)) H M (ρ.set i s) w tp where
  ln := by rw [List.length_set, List.length_set]; exact S.ln
  sl := fun k t ht => by
    by_cases e : k = i
    · subst e
      have lt : k < ρ.length := by
        have := (List.getElem?_eq_some_iff.mp ht).1
        rwa [List.length_set] at this
      rw [List.getElem?_set_self lt] at ht
      cases ht
      exact .inr ⟨v, List.getElem?_set_self (by rw [S.ln]; exact lt), h⟩
    · rw [List.getElem?_set_ne (Ne.symm e)] at ht ⊢
      exact S.sl k t ht
  tm := S.tm
  own := S.own
  nd := S.nd
  F := S.F
  ow := S.ow
  bs := S.bs
/-- what a slot holds is known otherwise, too -/
theorem Ds.slot {i : Nat} {v : V} {s : Sl} (S : Ds K C B σ H M ρ w tp) (hv : σ[i]? = some (some v)) (h : SlV K M v s) : Ds K C B σ H M (ρ.set i s) w tp := by
  refine { S with ln := by rw [List.length_set]; exact S.ln, sl := fun k t ht => ?_ }
  by_cases e : k = i
  · subst e
    have lt : k < ρ.length := by
      have := (List.getElem?_eq_some_iff.mp ht).1
      rwa [List.length_set] at this
    rw [List.getElem?_set_self lt] at ht
    cases ht
    exact .inr ⟨v, hv, h⟩
  · rw [List.getElem?_set_ne (Ne.symm e)] at ht
    exact S.sl k t ht
theorem Ds.get {i : Nat} {s : Sl} (S : Ds K C B σ H M ρ w tp) (h : ρ[i]? = some s) (n : s ≠ .u) : ∃ v, σ[i]? = some (some v) ∧ SlV K M v s := (S.sl i s h).resolve_left n
/-- from now on M is at least this one -/
theorem Ds.base (S : Ds K C B σ H M ρ w tp) : Ds K C M σ H M ρ w tp := { S with bs := Same.refl _ }
theorem Ds.base' {B' : Hp} (S : Ds K C B σ H M ρ w tp) (h : Same B' B) : Ds K C B' σ H M ρ w tp := { S with bs := h.trans S.bs }
end
/-! promises -/
/-- what a call gives: data or a very value, or a new list -/
inductive Rs where
  | s (x : Sl) | o (od : Od)
def RsOk (K : PySem.W.Frag) (C : Fx) (M' H' : Hp) (v : V) : Rs → Prop
  | .s x => SlV K M' v x
  | .o od => ∃ p, v = .ref p ∧ C.H p = none ∧ M' p = none ∧ OdOk K M' H' p od
structure Fin (K : PySem.W.Frag) (C : Fx) (r : Rs) (w' : Own) (v : V) (H' : Hp) : Prop where
  ex : ∃ M', Fr C.O C.H C.M H' M' ∧ w'.map (·.1) = C.O ∧ (∀ p ∈ w', OdOk K M' H' p.1 p.2) ∧ RsOk K C M' H' v r
abbrev Pre := List Sl → Own → (Rs → Own → Prop) → Prop
def spG (K : PySem.W.Frag) (pre : Pre) : Sp := fun vs H Q _ => ∃ (M : Hp) (ss : List Sl) (w : Own) (post : Rs → Own → Prop), Same M H ∧ SlVs K M vs ss ∧ (∀ p ∈ w, M p.1 = none ∧ OdOk K M H p.1 p.2) ∧ (w.map (·.1)).Nodup ∧ pre ss w post ∧
  ∀ r w' v H', post r w' → Fin K ⟨H, M, w.map (·.1)⟩ r w' v H' → Q v H'
/-- what a caller has behind a call -/
def Res (K : PySem.W.Frag) (C : Fx) (B : Hp) (σ : L2.St) (H' M' : Hp) (ρ : List Sl) (w : Own) (tp : List (V × PyData)) (v : V) : Rs → Prop
  | .s (.d x) => Ds K C B σ H' M' ρ w ((v, x) :: tp)
  | .s x => SlV K M' v x ∧ Ds K C B σ H' M' ρ w tp
  | .o od => ∃ p, v = .ref p ∧ Ds K C B σ H' M' ρ ((p, od) :: w) tp
section
variable {K : PySem.W.Frag} {C : Fx} {B : Hp} {σ : L2.St} {H M H' M' : Hp} {ρ : List Sl} {w : Own} {tp : List (V × PyData)} {Q : VK} {E : XK} {R : VK} {D : Ends}
theorem Res.of {v : V} {r : Rs} (S : Ds K C B σ H' M' ρ w tp) (hc : ∀ p, H p = none → C.H p = none) (hw : ∀ q ∈ w, H q.1 ≠ none) {O : List Addr} {M0 : Hp} (h : RsOk K ⟨H, M0, O⟩ M' H' v r) : Res K C B σ H' M' ρ w tp v r := by
  cases r with
  | s x =>
    cases x with
    | d x => exact S.push h
    | u => exact ⟨h, S⟩
    | v x => exact ⟨h, S⟩
    | p x => exact ⟨h, S⟩
    | t x => exact ⟨h, S⟩
  | o od =>
    obtain ⟨p, rfl, h1, h2, h3⟩ := h
    refine ⟨p, rfl, { S with own := fun q hq => ?_, nd := ?_, ow := fun q hq => ?_ }⟩
    · rcases List.mem_cons.mp hq with rfl | hq
      · exact ⟨h2, h3⟩
      · exact S.own q hq
    · rw [List.map_cons, List.nodup_cons]
      refine ⟨fun z => ?_, S.nd⟩
      obtain ⟨q, hq, e⟩ := List.mem_map.mp z
      exact hw q hq (e ▸ h1)
    · rcases List.mem_cons.mp hq with rfl | hq
      · exact .inr (hc p h1)
      · exact S.ow q hq
theorem Ds.new_none (S : Ds K C B σ H M ρ w tp) : ∀ p, H p = none → C.H p = none := fun p h => by
  cases z : C.H p with
  | none => rfl
  | some o => exact absurd h (S.F.al p (by rw [z]; exact fun z => nomatch z))
/-- a call that changes nothing -/
theorem x_call0 {pre : Pre} {vs : List V} {ss : List Sl} {post : Rs → Own → Prop} (S : Ds K C B σ H M ρ w tp) (hv : SlVs K M vs ss) (hp : pre ss [] post)
    (q : ∀ r w', post r w' → ∀ v H' M', Res K C B σ H' M' ρ w tp v r → Q v H') : spG K pre vs H Q E :=
  ⟨M, ss, [], post, S.sub, hv, (fun _ h => nomatch h), List.nodup_nil, hp, fun r w' v H' hr hf => by
    obtain ⟨M', F, _, _, ho⟩ := hf.ex
    exact q r w' hr v H' M' (Res.of (S.pure F) S.new_none (fun z hz => (S.own z hz).2.there) ho)⟩
/-- a call that may change the own object at place j -/
theorem x_call1 {pre : Pre} {vs : List V} {ss : List Sl} {post : Rs → Own → Prop} {a : Addr} {od : Od} (j : Nat) (S : Ds K C B σ H M ρ w tp) (hj : w[j]? = some (a, od)) (hv : SlVs K M vs ss) (hp : pre ss [(a, od)] post)
    (q : ∀ r od', post r [(a, od')] → ∀ v H' M', Res K C B σ H' M' ρ (w.set j (a, od')) tp v r → Q v H') : spG K pre vs H Q E := by
  have hm := List.mem_of_getElem? hj
  refine ⟨M, ss, [(a, od)], post, S.sub, hv, fun p hp => List.mem_singleton.mp hp ▸ S.own _ hm, List.nodup_cons.mpr ⟨(fun z => nomatch z), List.nodup_nil⟩, hp, fun r w' v H' hr hf => ?_⟩
  obtain ⟨M', F, hw, ok, ho⟩ := hf.ex
  have F : Fr [a] H M H' M' := F
  obtain ⟨od', rfl⟩ : ∃ od', w' = [(a, od')] := by
    match w', hw with
    | [x], e => exact ⟨x.2, by have : x.1 = a := List.head_eq_of_cons_eq e; rw [← this]⟩
  have okA : OdOk K M' H' a od' := ok _ (List.mem_singleton_self _)
  have es : (w.set j (a, od')).map (·.1) = w.map (·.1) := by
    rw [List.map_set]
    exact set_self (by rw [List.getElem?_map, hj]; rfl)
  refine q r od' hr v H' M' (Res.of (S.step F (fun b h => ?_) es fun p hp => ?_) S.new_none (fun z hz => ?_) ho)
  · rw [List.mem_singleton.mp h]
    exact List.mem_map_of_mem (f := Prod.fst) hm
  · rcases List.mem_or_eq_of_mem_set hp with hp' | rfl
    · by_cases q : p.1 = a
      · obtain ⟨k, hk⟩ := List.getElem?_of_mem hp
        by_cases kj : k = j
        · subst kj
          rw [List.getElem?_set_self (List.getElem?_eq_some_iff.mp hj).1] at hk
          cases hk
          exact okA
        · rw [List.getElem?_set_ne (Ne.symm kj)] at hk
          have e1 : (w.map (·.1))[k]? = some a := by rw [List.getElem?_map, hk]; exact congrArg some q
          have e2 : (w.map (·.1))[j]? = some a := by rw [List.getElem?_map, hj]; rfl
          exact absurd ((List.getElem?_inj (List.getElem?_eq_some_iff.mp e1).1 S.nd).mp (e1.trans e2.symm)) kj
      · exact (S.own p hp').2.keep F.sm fun u e => F.fr _ u (fun z => q (List.mem_singleton.mp z)) e
    · exact okA
  · have h1 : z.1 ∈ w.map (·.1) := es ▸ List.mem_map_of_mem hz
    obtain ⟨y, hy, e⟩ := List.mem_map.mp h1
    rw [← e]
    exact (S.own y hy).2.there
/-- what a def may assume at its start -/
theorem Ds.init {vs : List V} {ss : List Sl} {N : List Str} (hs : Same M H) (hv : SlVs K M vs ss) (hw : ∀ p ∈ w, M p.1 = none ∧ OdOk K M H p.1 p.2) (nd : (w.map (·.1)).Nodup) :
    Ds K ⟨H, M, w.map (·.1)⟩ M (L2.start N vs) H M (ss ++ List.replicate (N.length - ss.length) .u) w [] where
  ln := by
    unfold L2.start
    rw [List.length_append, List.length_append, List.length_map, List.length_replicate, List.length_replicate, hv.length]
  sl := fun i s h => by
    by_cases lt : i < ss.length
    · rw [List.getElem?_append_left lt] at h
      obtain ⟨v, h1, h2⟩ := hv.at i s h
      refine .inr ⟨v, ?_, h2⟩
      unfold L2.start
      rw [List.getElem?_append_left (by rw [List.length_map, hv.length]; exact lt), List.getElem?_map, h1]
      rfl
    · rw [List.getElem?_append_right (by omega)] at h
      exact .inl (List.eq_of_mem_replicate (List.mem_of_getElem? h))
  tm := fun _ h => nomatch h
  own := hw
  nd := nd
  F := Fr.refl _ hs
  ow := fun p h => .inl (List.mem_map_of_mem h)
  bs := Same.refl _
/-- a def hands back: the own things that are its caller's, and the result -/
theorem Ds.fin {r : Rs} {w' : Own} {v : V} (S : Ds K C B σ H M ρ w tp) (hw : w'.map (·.1) = C.O) (hs : ∀ p ∈ w', p ∈ w) (h : RsOk K C M H v r) : Fin K C r w' v H :=
  ⟨M, S.F, hw, fun p hp => (S.own p (hs p hp)).2, h⟩
end
end Pf

namespace Pf
open PySem PySem.Spec PyProof.Rows L2
/-! steps of readings over Ds -/
inductive Tm (tp : List (V × PyData)) : V → PyData → Prop
  | i (j : Int) : Tm tp (.int j) (.int j)
  | b (c : Bool) : Tm tp (.bl c) (.bool c)
  | s (x : Str) : Tm tp (.str x) (.str x)
  | n : Tm tp .non .none
  | m {v : V} {d : PyData} : (v, d) ∈ tp → Tm tp v d
inductive TmAll (tp : List (V × PyData)) : List V → List PyData → Prop
  | nil : TmAll tp [] []
  | cons {v : V} {vs : List V} {d : PyData} {ds : List PyData} : Tm tp v d → TmAll tp vs ds → TmAll tp (v :: vs) (d :: ds)
inductive SlT (K : PySem.W.Frag) (M : Hp) (tp : List (V × PyData)) : List V → List Sl → Prop
  | nil : SlT K M tp [] []
  | d {v : V} {vs : List V} {x : PyData} {ss : List Sl} : Tm tp v x → SlT K M tp vs ss → SlT K M tp (v :: vs) (.d x :: ss)
  | p {a : Addr} {vs : List V} {x : PyData} {ss : List Sl} : FzT K M a → Tm tp (.ref a) x → SlT K M tp vs ss → SlT K M tp (.ref a :: vs) (.p x :: ss)
  | v {v : V} {vs : List V} {ss : List Sl} : SlT K M tp vs ss → SlT K M tp (v :: vs) (.v v :: ss)
inductive SetAt {α : Type} : List α → Nat → α → List α → Prop
  | z {a x : α} {l : List α} : SetAt (a :: l) 0 x (x :: l)
  | s {a x : α} {l l' : List α} {n : Nat} : SetAt l n x l' → SetAt (a :: l) (n + 1) x (a :: l')
theorem SetAt.eq {α : Type} : ∀ {l l' : List α} {n : Nat} {x : α}, SetAt l n x l' → l' = l.set n x
  | _, _, _, _, .z => rfl
  | _, _, _, _, .s h => congrArg (_ :: ·) h.eq
theorem SetAt.of {α : Type} {l : List α} {n : Nat} {x : α} (h : n < l.length) : SetAt l n x (l.set n x) := by
  induction l generalizing n with
  | nil => simp at h
  | cons a l ih =>
    cases n with
    | zero => exact .z
    | succ n => exact .s (ih (by simpa using h))
def Giv (K : PySem.W.Frag) (M H : Hp) (R : VK) (d : PyData) : Prop := ∀ v, Dp K M v d → R v H
def rIsNo : R2 := fun x y H Q => y = .non ∧ Q (.bl (decide (x = .non))) H
def rNotNo : R2 := fun x y H Q => y = .non ∧ Q (.bl (!decide (x = .non))) H
def rInt1 : List V → Hp → VK → Prop := fun xs H Q => (∃ i, xs = [.int i] ∧ Q (.int i) H) ∨ ∃ k, xs = [.bl k] ∧ Q (.int (if k then 1 else 0)) H
def rLstOf (K : PySem.W.Frag) : List V → Hp → VK → Prop := fun xs H Q => ∃ p ys, xs = [.ref p] ∧ (SqL K H p ys ∨ SqT K H p ys) ∧ ∀ l, H l = none → Q (.ref l) (upd H l (.lst ys))
def rTupOf (K : PySem.W.Frag) : List V → Hp → VK → Prop := fun xs H Q => ∃ p ys, xs = [.ref p] ∧ ((SqL K H p ys ∧ ∀ l, H l = none → Q (.ref l) (upd H l (.tup ys))) ∨ (SqT K H p ys ∧ Q (.ref p) H))
section
variable {X : Cx}
theorem op_isNo : OpR X (compareOp .Is) rIsNo := op_isN
theorem op_notNo : OpR X (compareOp .IsNot) rNotNo := op_notN
theorem call_intD : CallR X (.type "int") rInt1 := call_int1
theorem call_lstD {K : PySem.W.Frag} (h : X.K = K := by rfl) : CallR X (.type "list") (rLstOf K) := by
  subst h
  exact call_list_of
theorem call_tupD {K : PySem.W.Frag} (h : X.K = K := by rfl) : CallR X (.type "tuple") (rTupOf K) := by
  subst h
  exact call_tuple_of
theorem inD {K : PySem.W.Frag} (h : X.K = K := by rfl) : OpR X (compareOp .In) (rIn K false) := by
  subst h
  exact op_in_seq
theorem notInD {K : PySem.W.Frag} (h : X.K = K := by rfl) : OpR X (compareOp .NotIn) (rIn K true) := by
  subst h
  exact op_notIn_seq
end
def TupK (Q : VK) (xs : List V) (H1 : Hp) : Prop := xs.length ≤ sizeLine ∧ ∀ p, H1 p = none → Q (.ref p) (upd H1 p (.tup xs))
def LstK (Q : VK) (xs : List V) (H1 : Hp) : Prop := xs.length ≤ sizeLine ∧ ∀ p, H1 p = none → Q (.ref p) (upd H1 p (.lst xs))
def AppK (K : PySem.W.Frag) (Q : VK) (x y : V) (H2 : Hp) : Prop := rAppend x [y] H2 Q
section
variable {K : PySem.W.Frag} {C : Fx} {B : Hp} {σ : L2.St} {H M H' M' : Hp} {ρ ρ' : List Sl} {w w' : Own} {tp : List (V × PyData)} {Q R : VK} {QB : Bool → Hp → Prop} {D : Ends} {E : XK}
variable {i j n : Nat} {a b : Int} {v x y : V} {d e : PyData} {ds es : List PyData} {te ta tb : TE} {t u : TS} {tt tu : TT} {tl : TA} {g : TG} {p : Addr}
theorem Tm.dp (S : Ds K C B σ H M ρ w tp) (h : Tm tp v d) : Dp K M v d := by
  cases h with
  | i j => exact .int j
  | b c => exact .bl c
  | s x => exact .str x
  | n => exact .non
  | m h => exact S.tm _ h
theorem TmAll.dp (S : Ds K C B σ H M ρ w tp) : ∀ {vs : List V} {ds : List PyData}, TmAll tp vs ds → DpAll K M vs ds
  | _, _, .nil => .nil
  | _, _, .cons h t => .cons (h.dp S) (t.dp S)
theorem SlT.dp (S : Ds K C B σ H M ρ w tp) : ∀ {vs : List V} {ss : List Sl}, SlT K M tp vs ss → SlVs K M vs ss
  | _, _, .nil => .nil
  | _, _, .d h t => .cons (h.dp S) (t.dp S)
  | _, _, .p f h t => .cons ⟨h.dp S, _, rfl, f⟩ (t.dp S)
  | _, _, .v t => .cons rfl (t.dp S)
theorem DpAll.up (e : Same M H) {vs : List V} {ds : List PyData} (h : DpAll K M vs ds) : DpAll K H vs ds := DpAll.same e h
/-! what a part gives -/
theorem x_gI (h : R (.int a) H) : Giv K M H R (.int a) := fun v e => by cases e; exact h
theorem x_gB {c : Bool} (h : R (.bl c) H) : Giv K M H R (.bool c) := fun v e => by cases e; exact h
theorem x_gS {s : Str} (h : R (.str s) H) : Giv K M H R (.str s) := fun v e => by cases e; exact h
theorem x_gN (h : R .non H) : Giv K M H R .none := fun v e => by cases e; exact h
theorem x_gP (S : Ds K C B σ H M ρ w tp) (h : ∀ v, Ds K C B σ H M ρ w ((v, d) :: tp) → R v H) : Giv K M H R d := fun v e => h v (S.push e)
/-! expressions -/
theorem x_var (S : Ds K C B σ H M ρ w tp) (h : ρ[i]? = some (.d d)) (q : Giv K M H R d) : tVar i σ H R := by
  obtain ⟨v, h1, h2⟩ := S.get h (fun z => nomatch z)
  exact ⟨v, h1, q v h2⟩
theorem x_varP (S : Ds K C B σ H M ρ w tp) (h : ρ[i]? = some (.p d)) (q : ∀ a, FzT K M a → Ds K C B σ H M ρ w ((.ref a, d) :: tp) → R (.ref a) H) : tVar i σ H R := by
  obtain ⟨v, h1, h2, a, rfl, h3⟩ := S.get h (fun z => nomatch z)
  exact ⟨_, h1, q a h3 (S.push h2)⟩
theorem x_varV (S : Ds K C B σ H M ρ w tp) (h : ρ[i]? = some (.v x)) (q : R x H) : tVar i σ H R := by
  obtain ⟨v, h1, h2⟩ := S.get h (fun z => nomatch z)
  exact ⟨x, by rw [h1, show v = x from h2], q⟩
theorem x_c (q : R v H) : tC v σ H R := q
theorem x_cR {r : Addr} (S : Ds K C B σ H M ρ w tp) (h : ∀ M, Dp K M (.ref r) d) (q : Ds K C B σ H M ρ w ((.ref r, d) :: tp) → R (.ref r) H) : tC (.ref r) σ H R := q (S.push (h M))
theorem x_op {r : R2} (h : ta σ H fun x H1 => tb σ H1 fun y H2 => r x y H2 R) : tOp r ta tb σ H R := h
theorem x_un {r : V → Hp → VK → Prop} (h : ta σ H fun x H1 => r x H1 R) : tUn r ta σ H R := h
theorem x_U {gg : Int → V} (h : R (gg a) H) : rU gg (.int a) H R := ⟨a, rfl, h⟩
theorem x_I0 {gg : Int → Int → V} (h : R (gg a b) H) : rI0 gg (.int a) (.int b) H R := ⟨a, b, rfl, rfl, h⟩
theorem x_I {cc : Int → Int → Prop} {gg : Int → Int → V} (hc : cc a b) (h : R (gg a b) H) : rI cc gg (.int a) (.int b) H R := ⟨a, b, rfl, rfl, hc, h⟩
theorem x_eqI (h : R (.bl (decide (a = b))) H) : rEq (.int a) (.int b) H R := ⟨rfl, by rw [show decide (V.int a = V.int b) = decide (a = b) from decide_eq_decide.mpr ⟨V.int.inj, congrArg _⟩]; exact h⟩
theorem x_eqS {s s' : Str} (h : R (.bl (decide (s = s'))) H) : rEq (.str s) (.str s') H R := ⟨rfl, by rw [show decide (V.str s = V.str s') = decide (s = s') from decide_eq_decide.mpr ⟨V.str.inj, congrArg _⟩]; exact h⟩
theorem x_eqB {c c' : Bool} (h : R (.bl (decide (c = c'))) H) : rEq (.bl c) (.bl c') H R := ⟨rfl, by rw [show decide (V.bl c = V.bl c') = decide (c = c') from decide_eq_decide.mpr ⟨V.bl.inj, congrArg _⟩]; exact h⟩
theorem x_neI (h : R (.bl (!decide (a = b))) H) : rNe (.int a) (.int b) H R := ⟨rfl, by rw [show decide (V.int a = V.int b) = decide (a = b) from decide_eq_decide.mpr ⟨V.int.inj, congrArg _⟩]; exact h⟩
theorem x_neS {s s' : Str} (h : R (.bl (!decide (s = s'))) H) : rNe (.str s) (.str s') H R := ⟨rfl, by rw [show decide (V.str s = V.str s') = decide (s = s') from decide_eq_decide.mpr ⟨V.str.inj, congrArg _⟩]; exact h⟩
theorem x_neB {c c' : Bool} (h : R (.bl (!decide (c = c'))) H) : rNe (.bl c) (.bl c') H R := ⟨rfl, by rw [show decide (V.bl c = V.bl c') = decide (c = c') from decide_eq_decide.mpr ⟨V.bl.inj, congrArg _⟩]; exact h⟩
theorem x_isNoR {r : Addr} (h : R (.bl false) H) : rIsNo (.ref r) .non H R := ⟨rfl, h⟩
theorem x_isNoN (h : R (.bl true) H) : rIsNo .non .non H R := ⟨rfl, h⟩
theorem x_isNoI (h : R (.bl false) H) : rIsNo (.int a) .non H R := ⟨rfl, h⟩
theorem x_notNoR {r : Addr} (h : R (.bl true) H) : rNotNo (.ref r) .non H R := ⟨rfl, h⟩
theorem x_notNoN (h : R (.bl false) H) : rNotNo .non .non H R := ⟨rfl, h⟩
theorem x_notNoI (h : R (.bl true) H) : rNotNo (.int a) .non H R := ⟨rfl, h⟩
def isNo : PyData → Bool
  | .none => true
  | _ => false
theorem dp_isNo (h : Dp K M v d) : decide (v = .non) = isNo d := by
  cases h <;> simp [isNo]
theorem x_isNoD (S : Ds K C B σ H M ρ w tp) (ht : Tm tp v d) (h : R (.bl (isNo d)) H) : rIsNo v .non H R := ⟨rfl, by rw [dp_isNo (ht.dp S)]; exact h⟩
theorem x_notNoD (S : Ds K C B σ H M ρ w tp) (ht : Tm tp v d) (h : R (.bl (!isNo d)) H) : rNotNo v .non H R := ⟨rfl, by rw [dp_isNo (ht.dp S)]; exact h⟩
/-! places -/
theorem dpAll_get : ∀ {vs : List V} {ds : List PyData}, DpAll K M vs ds → ∀ (i : Nat) (d : PyData), ds[i]? = some d → ∃ v, vs[i]? = some v ∧ Dp K M v d
  | _, _, .nil, i, d, h => by simp at h
  | _, _, .cons (v := v) a _, 0, d, h => by
    simp at h
    subst h
    exact ⟨v, rfl, a⟩
  | _, _, .cons _ t, i + 1, d, h => by
    obtain ⟨v, h1, h2⟩ := dpAll_get t i d (by simpa using h)
    exact ⟨v, by simpa using h1, h2⟩
theorem dpAll_atI {vs : List V} (h : DpAll K M vs ds) (hi : atI ds a = some d) : ∃ v, atI vs a = some v ∧ Dp K M v d := by
  unfold atI at hi ⊢
  rw [← dpAll_len h] at hi
  cases e : ixN vs.length a with
  | none => rw [e] at hi; cases hi
  | some j =>
    rw [e] at hi
    obtain ⟨v, h1, h2⟩ := dpAll_get h j d hi
    exact ⟨v, h1, h2⟩
theorem x_ixT (S : Ds K C B σ H M ρ w tp) (ht : Tm tp v (.tuple ds)) (hi : atI ds a = some d) (q : Giv K M H R d) : rIxT K v (.int a) H R := by
  obtain ⟨p, xs, rfl, h1, h2⟩ := dp_tup (ht.dp S)
  obtain ⟨v, h3, h4⟩ := dpAll_atI h2 hi
  exact ⟨p, xs, a, v, rfl, rfl, Same.seqT S.sub h1, h3, q v h4⟩
theorem dp_lst (h : Dp K M v (.list ds)) : ∃ p xs, v = .ref p ∧ SqL K M p xs ∧ DpAll K M xs ds := by
  cases h with
  | lst h a => exact ⟨_, _, rfl, h, a⟩
theorem x_ixL (S : Ds K C B σ H M ρ w tp) (ht : Tm tp v (.list ds)) (hi : atI ds a = some d) (q : Giv K M H R d) : rIxL K v (.int a) H R := by
  obtain ⟨p, xs, rfl, h1, h2⟩ := dp_lst (ht.dp S)
  obtain ⟨v, h3, h4⟩ := dpAll_atI h2 hi
  exact ⟨p, xs, a, v, rfl, rfl, S.sub.seq h1, h3, q v h4⟩
/-- of an own list, at place j -/
theorem x_ixO (j : Nat) (S : Ds K C B σ H M ρ w tp) (hj : w[j]? = some (p, .lst ds)) (hi : atI ds a = some d) (q : Giv K M H R d) : rIxL K (.ref p) (.int a) H R := by
  obtain ⟨_, vs, h1, h2⟩ := S.own _ (List.mem_of_getElem? hj)
  obtain ⟨v, h3, h4⟩ := dpAll_atI h2 hi
  exact ⟨p, vs, a, v, rfl, rfl, .of h1, h3, q v h4⟩
theorem x_ixSt {s : Str} {c : Nat} (hz : s.length ≤ sizeLine) (hi : atI s.cps.toList a = some c) (q : R (.str ⟨#[c]⟩) H) : rIxS (.str s) (.int a) H R := ⟨s, a, c, rfl, rfl, hz, hi, q⟩
/-! tests -/
theorem x_test (h : te σ H fun x H1 => ∃ k, x = .bl k ∧ QB k H1) : tTest te σ H QB := h
theorem x_tB (h : te σ H fun x H1 => ∃ k, x = .bl k ∧ QB k H1) : tB te σ H QB := h
theorem x_exB {q : Bool → Prop} {c : Bool} (h : q c) : ∃ k, V.bl c = .bl k ∧ q k := ⟨c, rfl, h⟩
theorem x_not (h : tt σ H fun c H1 => QB (!c) H1) : tNot tt σ H QB := h
theorem x_and (h : tt σ H fun c H1 => if c = true then tu σ H1 QB else QB false H1) : tAnd tt tu σ H QB := h
theorem x_or (h : tt σ H fun c H1 => if c = true then QB true H1 else tu σ H1 QB) : tOr tt tu σ H QB := h
theorem x_andV (h : ta σ H fun x H1 => ∃ c, x = .bl c ∧ if c = true then tb σ H1 Q else Q (.bl false) H1) : tAndV ta tb σ H Q := h
theorem x_orV (h : ta σ H fun x H1 => ∃ c, x = .bl c ∧ if c = true then Q (.bl true) H1 else tb σ H1 Q) : tOrV ta tb σ H Q := h
theorem x_notV (h : ta σ H fun x H1 => ∃ c, x = .bl c ∧ Q (.bl (!c)) H1) : tNotV ta σ H Q := h
theorem x_ifE (h : tt σ H fun c H1 => if c = true then ta σ H1 Q else tb σ H1 Q) : tIf tt ta tb σ H Q := h
theorem x_if {c : Bool} {A B : Prop} (h1 : c = true → A) (h2 : c = false → B) : if c = true then A else B := by
  cases c with
  | true => exact h1 rfl
  | false => exact h2 rfl
theorem x_ifT {c : Bool} {A B : Prop} (h : c = true) (h1 : A) : if c = true then A else B := by rw [if_pos h]; exact h1
theorem x_ifF {c : Bool} {A B : Prop} (h : c = false) (h1 : B) : if c = true then A else B := by rw [if_neg (by rw [h]; decide)]; exact h1
/-- truth of a value -/
theorem x_notT (h : ta σ H fun x H1 => ∃ k, TruV K x H1 k ∧ Q (.bl (!k)) H1) : tNotT K ta σ H Q := h
theorem x_truI {q : Bool → Prop} (h : q (a != 0)) : ∃ k, TruV K (.int a) H k ∧ q k := ⟨_, rfl, h⟩
theorem x_truB {q : Bool → Prop} {c : Bool} (h : q c) : ∃ k, TruV K (.bl c) H k ∧ q k := ⟨_, rfl, h⟩
theorem dpAll_emp {vs : List V} (h : DpAll K M vs ds) : (!vs.isEmpty) = !ds.isEmpty := by cases h <;> rfl
theorem x_truT {q : Bool → Prop} (S : Ds K C B σ H M ρ w tp) (ht : Tm tp v (.tuple ds)) (h : q (!ds.isEmpty)) : ∃ k, TruV K v H k ∧ q k := by
  obtain ⟨p, xs, rfl, h1, h2⟩ := dp_tup (ht.dp S)
  exact ⟨_, .inr (.inl ⟨xs, Same.seqT S.sub h1, rfl⟩), by rw [dpAll_emp h2]; exact h⟩
theorem x_truL {q : Bool → Prop} (S : Ds K C B σ H M ρ w tp) (ht : Tm tp v (.list ds)) (h : q (!ds.isEmpty)) : ∃ k, TruV K v H k ∧ q k := by
  obtain ⟨p, xs, rfl, h1, h2⟩ := dp_lst (ht.dp S)
  exact ⟨_, .inl ⟨xs, S.sub.seq h1, rfl⟩, by rw [dpAll_emp h2]; exact h⟩
theorem x_truO {q : Bool → Prop} (j : Nat) (S : Ds K C B σ H M ρ w tp) (hj : w[j]? = some (p, .lst ds)) (h : q (!ds.isEmpty)) : ∃ k, TruV K (.ref p) H k ∧ q k := by
  obtain ⟨_, vs, h1, h2⟩ := S.own _ (List.mem_of_getElem? hj)
  exact ⟨_, .inl ⟨vs, .of h1, rfl⟩, by rw [dpAll_emp h2]; exact h⟩
/-! tuples, lists, arguments -/
theorem x_nil {qa : List V → Hp → Prop} (h : qa [] H) : tNil σ H qa := h
theorem x_cons {qa : List V → Hp → Prop} (h : ta σ H fun x H1 => tl σ H1 fun xs H2 => qa (x :: xs) H2) : tCons ta tl σ H qa := h
theorem x_tup (h : tl σ H fun xs H1 => TupK Q xs H1) : tTup tl σ H Q := h
theorem x_lst (h : tl σ H fun xs H1 => LstK Q xs H1) : tLst tl σ H Q := h
theorem TmAll.len : ∀ {vs : List V} {ds : List PyData}, TmAll tp vs ds → vs.length = ds.length
  | _, _, .nil => rfl
  | _, _, .cons _ t => congrArg Nat.succ t.len
theorem x_tupK {vs : List V} (S : Ds K C B σ H M ρ w tp) (ht : TmAll tp vs ds) (hl : decide (vs.length ≤ 1000) = true) (q : ∀ p H' M', Ds K C B σ H' M' ρ w ((.ref p, .tuple ds) :: tp) → Q (.ref p) H') : TupK Q vs H :=
  ⟨Nat.le_trans (of_decide_eq_true hl) (by decide), fun p hp => q p _ _ (S.newT hp (ht.dp S))⟩
theorem x_lstK {vs : List V} (S : Ds K C B σ H M ρ w tp) (ht : TmAll tp vs ds) (hl : decide (vs.length ≤ 1000) = true) (q : ∀ p H', Ds K C B σ H' M ρ ((p, .lst ds) :: w) tp → Q (.ref p) H') : LstK Q vs H :=
  ⟨Nat.le_trans (of_decide_eq_true hl) (by decide), fun p hp => q p _ (S.newL hp (ht.dp S))⟩
theorem x_cb {r : List V → Hp → VK → Prop} (h : tl σ H fun vs H1 => r vs H1 Q) : tCB r tl σ H Q := h
theorem x_tcall {sp : Sp} (h : tl σ H fun vs H1 => sp vs H1 Q E) : tCall sp [] E tl σ H Q := by
  unfold tCall
  simp only [List.append_nil]
  exact h
theorem x_lenT (S : Ds K C B σ H M ρ w tp) (ht : Tm tp v (.tuple ds)) (q : R (.int ds.length) H) : rLenQ K [v] H R := by
  obtain ⟨p, xs, rfl, h1, h2⟩ := dp_tup (ht.dp S)
  exact ⟨p, xs, rfl, .inr (Same.seqT S.sub h1), by rw [dpAll_len h2]; exact q⟩
theorem x_lenL (S : Ds K C B σ H M ρ w tp) (ht : Tm tp v (.list ds)) (q : R (.int ds.length) H) : rLenQ K [v] H R := by
  obtain ⟨p, xs, rfl, h1, h2⟩ := dp_lst (ht.dp S)
  exact ⟨p, xs, rfl, .inl (S.sub.seq h1), by rw [dpAll_len h2]; exact q⟩
theorem x_lenO (j : Nat) (S : Ds K C B σ H M ρ w tp) (hj : w[j]? = some (p, .lst ds)) (q : R (.int ds.length) H) : rLenQ K [.ref p] H R := by
  obtain ⟨_, vs, h1, h2⟩ := S.own _ (List.mem_of_getElem? hj)
  exact ⟨p, vs, rfl, .inl (.of h1), by rw [dpAll_len h2]; exact q⟩
theorem x_int (q : R (.int a) H) : rInt1 [.int a] H R := .inl ⟨a, rfl, q⟩
theorem x_intB {c : Bool} (q : R (.int (if c then 1 else 0)) H) : rInt1 [.bl c] H R := .inr ⟨c, rfl, q⟩
/-- tuple(an own list), tuple(data) -/
theorem x_tupO (j : Nat) (S : Ds K C B σ H M ρ w tp) (hj : w[j]? = some (p, .lst ds)) (q : ∀ l H' M', Ds K C B σ H' M' ρ w ((.ref l, .tuple ds) :: tp) → R (.ref l) H') : rTupOf K [.ref p] H R := by
  obtain ⟨_, vs, h1, h2⟩ := S.own _ (List.mem_of_getElem? hj)
  exact ⟨p, vs, rfl, .inl ⟨.of h1, fun l hl => q l _ _ (S.newT hl h2)⟩⟩
theorem x_tupL (S : Ds K C B σ H M ρ w tp) (ht : Tm tp v (.list ds)) (q : ∀ l H' M', Ds K C B σ H' M' ρ w ((.ref l, .tuple ds) :: tp) → R (.ref l) H') : rTupOf K [v] H R := by
  obtain ⟨p, xs, rfl, h1, h2⟩ := dp_lst (ht.dp S)
  exact ⟨p, xs, rfl, .inl ⟨S.sub.seq h1, fun l hl => q l _ _ (S.newT hl h2)⟩⟩
theorem x_tupT (S : Ds K C B σ H M ρ w tp) (ht : Tm tp v (.tuple ds)) (q : R v H) : rTupOf K [v] H R := by
  obtain ⟨p, xs, rfl, h1, h2⟩ := dp_tup (ht.dp S)
  exact ⟨p, xs, rfl, .inr ⟨Same.seqT S.sub h1, q⟩⟩
/-- list(data), list(an own list): a new list -/
theorem x_lsT (S : Ds K C B σ H M ρ w tp) (ht : Tm tp v (.tuple ds)) (q : ∀ l H', Ds K C B σ H' M ρ ((l, .lst ds) :: w) tp → R (.ref l) H') : rLstOf K [v] H R := by
  obtain ⟨p, xs, rfl, h1, h2⟩ := dp_tup (ht.dp S)
  exact ⟨p, xs, rfl, .inr (Same.seqT S.sub h1), fun l hl => q l _ (S.newL hl h2)⟩
theorem x_lsL (S : Ds K C B σ H M ρ w tp) (ht : Tm tp v (.list ds)) (q : ∀ l H', Ds K C B σ H' M ρ ((l, .lst ds) :: w) tp → R (.ref l) H') : rLstOf K [v] H R := by
  obtain ⟨p, xs, rfl, h1, h2⟩ := dp_lst (ht.dp S)
  exact ⟨p, xs, rfl, .inl (S.sub.seq h1), fun l hl => q l _ (S.newL hl h2)⟩
theorem x_lsO (j : Nat) (S : Ds K C B σ H M ρ w tp) (hj : w[j]? = some (p, .lst ds)) (q : ∀ l H', Ds K C B σ H' M ρ ((l, .lst ds) :: w) tp → R (.ref l) H') : rLstOf K [.ref p] H R := by
  obtain ⟨_, vs, h1, h2⟩ := S.own _ (List.mem_of_getElem? hj)
  exact ⟨p, vs, rfl, .inl (.of h1), fun l hl => q l _ (S.newL hl h2)⟩
/-! in -/
def flatD : PyData → Bool
  | .none => true
  | .bool _ => true
  | .int _ => true
  | .str _ => true
  | _ => false
theorem dp_flat (h : Dp K M v d) (f : flatD d = true) : flatV v = true := by
  cases h <;> first | rfl | exact absurd f (by simp [flatD])
theorem dpAll_flat : ∀ {vs : List V} {ds : List PyData}, DpAll K M vs ds → (∀ d ∈ ds, flatD d = true) → vs.all flatV = true
  | _, _, .nil, _ => rfl
  | _, _, .cons a t, f => by
    rw [List.all_cons, dp_flat a (f _ (List.mem_cons_self ..)), dpAll_flat t fun d h => f d (List.mem_cons_of_mem _ h)]
    rfl
theorem dpAll_ints : ∀ {ns : List Int} {vs : List V}, DpAll K M vs (ns.map .int) → vs = ns.map .int
  | [], _, .nil => rfl
  | n :: ns, _, .cons a t => by
    cases a
    rw [dpAll_ints t]
    rfl
theorem dpAll_strs : ∀ {ns : List Str} {vs : List V}, DpAll K M vs (ns.map .str) → vs = ns.map .str
  | [], _, .nil => rfl
  | n :: ns, _, .cons a t => by
    cases a
    rw [dpAll_strs t]
    rfl
theorem dpAll_bools : ∀ {ns : List Bool} {vs : List V}, DpAll K M vs (ns.map .bool) → vs = ns.map .bl
  | [], _, .nil => rfl
  | n :: ns, _, .cons a t => by
    cases a
    rw [dpAll_bools t]
    rfl
theorem inV_int {ns : List Int} : inV (.int a) (ns.map .int) = decide (a ∈ ns) := by
  unfold inV
  rw [List.any_map, Bool.eq_iff_iff, List.any_eq_true, decide_eq_true_iff]
  constructor
  · rintro ⟨x, h1, h2⟩
    have : x = a := by simpa [eqV] using h2
    exact this ▸ h1
  · exact fun h => ⟨a, h, by simp [eqV]⟩
theorem flat_ints {ns : List Int} : (ns.map V.int).all flatV = true := by
  rw [List.all_map, List.all_eq_true]
  exact fun _ _ => rfl
theorem bl_not {neg : Bool} {c : Bool} : (if neg = true then !c else c) = (c != neg) := by cases neg <;> cases c <;> rfl
theorem x_inIT {neg : Bool} {ns : List Int} (S : Ds K C B σ H M ρ w tp) (ht : Tm tp v (.tuple (ns.map .int))) (q : R (.bl (if neg then !decide (a ∈ ns) else decide (a ∈ ns))) H) : rIn K neg (.int a) v H R := by
  obtain ⟨p, xs, rfl, h1, h2⟩ := dp_tup (ht.dp S)
  cases dpAll_ints h2
  exact ⟨p, _, rfl, .inr (Same.seqT S.sub h1), rfl, flat_ints, by rw [inV_int]; exact q⟩
theorem x_inIL {neg : Bool} {ns : List Int} (S : Ds K C B σ H M ρ w tp) (ht : Tm tp v (.list (ns.map .int))) (q : R (.bl (if neg then !decide (a ∈ ns) else decide (a ∈ ns))) H) : rIn K neg (.int a) v H R := by
  obtain ⟨p, xs, rfl, h1, h2⟩ := dp_lst (ht.dp S)
  cases dpAll_ints h2
  exact ⟨p, _, rfl, .inl (S.sub.seq h1), rfl, flat_ints, by rw [inV_int]; exact q⟩
theorem x_inIO {neg : Bool} {ns : List Int} (j : Nat) (S : Ds K C B σ H M ρ w tp) (hj : w[j]? = some (p, .lst (ns.map .int))) (q : R (.bl (if neg then !decide (a ∈ ns) else decide (a ∈ ns))) H) : rIn K neg (.int a) (.ref p) H R := by
  obtain ⟨_, vs, h1, h2⟩ := S.own _ (List.mem_of_getElem? hj)
  cases dpAll_ints h2
  exact ⟨p, _, rfl, .inl (.of h1), rfl, flat_ints, by rw [inV_int]; exact q⟩
theorem x_inST {neg : Bool} {ns : List Str} {s : Str} (S : Ds K C B σ H M ρ w tp) (ht : Tm tp v (.tuple (ns.map .str))) (q : R (.bl (if neg then !decide (s ∈ ns) else decide (s ∈ ns))) H) : rIn K neg (.str s) v H R := by
  obtain ⟨p, xs, rfl, h1, h2⟩ := dp_tup (ht.dp S)
  cases dpAll_strs h2
  exact ⟨p, _, rfl, .inr (Same.seqT S.sub h1), rfl, flat_strs ns, by rw [inV_strs]; exact q⟩
/-! == of data -/
theorem x_eqD (S : Ds K C B σ H M ρ w tp) (h1 : Tm tp x d) (h2 : Tm tp y e) (s1 : SeqAt.shaped d = true) (s2 : SeqAt.shaped e = true) (q : R (.bl (PyData.eqv d e)) H) : rEqD K x y H R :=
  ⟨d, e, Dp.same S.sub (h1.dp S), Dp.same S.sub (h2.dp S), s1, s2, q⟩
theorem x_neD (S : Ds K C B σ H M ρ w tp) (h1 : Tm tp x d) (h2 : Tm tp y e) (s1 : SeqAt.shaped d = true) (s2 : SeqAt.shaped e = true) (q : R (.bl (!PyData.eqv d e)) H) : rNeD K x y H R :=
  ⟨d, e, Dp.same S.sub (h1.dp S), Dp.same S.sub (h2.dp S), s1, s2, q⟩
/-! statements -/
theorem x_seq (h : t { D with nx := u D } σ H) : tSeq t u D σ H := h
theorem x_seqN {u : TS} (h : ∀ N : L2.St → Hp → Prop, (∀ σ H, u D σ H → N σ H) → t { nx := N, rt := D.rt, bk := D.bk, ct := D.ct } σ H) : tSeq t u D σ H := h (u D) fun _ _ z => z
theorem x_N {N P : L2.St → Hp → Prop} (hN : ∀ σ H, P σ H → N σ H) (h : P σ H) : N σ H := hN σ H h
theorem x_asg (h : te σ H fun x H1 => g x σ H1 D.nx) : tAsg te g D σ H := h
theorem x_ret (h : te σ H D.rt) : tRet te D σ H := h
theorem x_ifS (h : tt σ H fun c H1 => if c = true then t D σ H1 else u D σ H1) : tIfS tt t u D σ H := h
theorem x_drop (h : te σ H fun _ H1 => D.nx σ H1) : tDrop te D σ H := h
theorem x_next (h : D.nx σ H) : tNext D σ H := h
theorem x_cont (h : D.ct σ H) : tCont D σ H := h
theorem x_break (h : D.bk σ H) : tBreak D σ H := h
theorem x_clr (S : Ds K C B σ H M ρ w tp) {P : Prop} (h : Ds K C B σ H M ρ w [] → P) : P := h S.clr
theorem x_gn {q : L2.St → Hp → Prop} (S : Ds K C B σ H M ρ w tp) (ht : Tm tp v d) (hs : SetAt ρ i (.d d) ρ') (h : ∀ σ', Ds K C B σ' H M ρ' w tp → q σ' H) : gName i v σ H q :=
  h _ (hs.eq ▸ S.set (ht.dp S))
theorem x_gnV {q : L2.St → Hp → Prop} (S : Ds K C B σ H M ρ w tp) (hs : SetAt ρ i (.v v) ρ') (h : ∀ σ', Ds K C B σ' H M ρ' w tp → q σ' H) : gName i v σ H q :=
  h _ (hs.eq ▸ S.set (s := .v v) rfl)
theorem x_gT2 {t1 t2 : TG} {d1 d2 : PyData} {q : L2.St → Hp → Prop} (S : Ds K C B σ H M ρ w tp) (ht : Tm tp v (.tuple [d1, d2])) (h : ∀ x y, Ds K C B σ H M ρ w ((x, d1) :: (y, d2) :: tp) → t1 x σ H fun σ' H' => t2 y σ' H' q) : gTup K 2 (gCons t1 (gCons t2 gNil)) v σ H q := by
  obtain ⟨p, xs, rfl, h1, h2⟩ := dp_tup (ht.dp S)
  obtain ⟨x, r, rfl, k1, h2⟩ := da_cons h2
  obtain ⟨y, r, rfl, k2, h2⟩ := da_cons h2
  cases da_nil h2
  refine ⟨p, _, rfl, Same.seqT S.sub h1, rfl, x, _, rfl, ?_⟩
  have hc : (fun σ' H' => t2 y σ' H' q) = fun σ' H' => gCons t2 gNil [y] σ' H' q := by
    funext σ' H'
    refine propext ⟨fun z => ⟨y, [], rfl, ?_⟩, fun z => ?_⟩
    · have e : q = fun σ2 H2 => gNil [] σ2 H2 q := by
        funext σ2 H2
        exact propext ⟨fun z => ⟨rfl, z⟩, fun z => z.2⟩
      rw [e] at z
      exact z
    · obtain ⟨v, r, e1, z⟩ := z
      cases e1
      have e : q = fun σ2 H2 => gNil [] σ2 H2 q := by
        funext σ2 H2
        exact propext ⟨fun z => ⟨rfl, z⟩, fun z => z.2⟩
      rw [e]
      exact z
  exact hc ▸ h x y ((S.push k2).push k1)
theorem gcons_eq {t2 : TG} {r : List V} {us : TGs} {q : L2.St → Hp → Prop} : (fun σ' H' => gCons t2 us (y :: r) σ' H' q) = fun σ' H' => t2 y σ' H' fun σ2 H2 => us r σ2 H2 q := by
  funext σ' H'
  exact propext ⟨fun ⟨v, r, e1, z⟩ => by cases e1; exact z, fun z => ⟨y, r, rfl, z⟩⟩
theorem gnil_eq {q : L2.St → Hp → Prop} : (fun σ2 H2 => gNil [] σ2 H2 q) = q := by
  funext σ2 H2
  exact propext ⟨fun z => z.2, fun z => ⟨rfl, z⟩⟩
theorem x_gT3 {t1 t2 t3 : TG} {d1 d2 d3 : PyData} {q : L2.St → Hp → Prop} (S : Ds K C B σ H M ρ w tp) (ht : Tm tp v (.tuple [d1, d2, d3])) (h : ∀ x y z, Ds K C B σ H M ρ w ((x, d1) :: (y, d2) :: (z, d3) :: tp) → t1 x σ H fun σ' H' => t2 y σ' H' fun σ2 H2 => t3 z σ2 H2 q) :
    gTup K 3 (gCons t1 (gCons t2 (gCons t3 gNil))) v σ H q := by
  obtain ⟨p, xs, rfl, h1, h2⟩ := dp_tup (ht.dp S)
  obtain ⟨x, r, rfl, k1, h2⟩ := da_cons h2
  obtain ⟨y, r, rfl, k2, h2⟩ := da_cons h2
  obtain ⟨z, r, rfl, k3, h2⟩ := da_cons h2
  cases da_nil h2
  refine ⟨p, _, rfl, Same.seqT S.sub h1, rfl, x, _, rfl, ?_⟩
  rw [gcons_eq]
  have e : (fun σ2 H2 => gCons t3 gNil [z] σ2 H2 q) = fun σ2 H2 => t3 z σ2 H2 q := by rw [gcons_eq, gnil_eq]
  rw [e]
  exact h x y z (((S.push k3).push k2).push k1)
theorem x_gT4 {t1 t2 t3 t4 : TG} {d1 d2 d3 d4 : PyData} {q : L2.St → Hp → Prop} (S : Ds K C B σ H M ρ w tp) (ht : Tm tp v (.tuple [d1, d2, d3, d4])) (h : ∀ x y z u, Ds K C B σ H M ρ w ((x, d1) :: (y, d2) :: (z, d3) :: (u, d4) :: tp) → t1 x σ H fun σ' H' => t2 y σ' H' fun σ2 H2 => t3 z σ2 H2 fun σ3 H3 => t4 u σ3 H3 q) :
    gTup K 4 (gCons t1 (gCons t2 (gCons t3 (gCons t4 gNil)))) v σ H q := by
  obtain ⟨p, xs, rfl, h1, h2⟩ := dp_tup (ht.dp S)
  obtain ⟨x, r, rfl, k1, h2⟩ := da_cons h2
  obtain ⟨y, r, rfl, k2, h2⟩ := da_cons h2
  obtain ⟨z, r, rfl, k3, h2⟩ := da_cons h2
  obtain ⟨u, r, rfl, k4, h2⟩ := da_cons h2
  cases da_nil h2
  refine ⟨p, _, rfl, Same.seqT S.sub h1, rfl, x, _, rfl, ?_⟩
  rw [gcons_eq]
  have e : (fun σ2 H2 => gCons t3 (gCons t4 gNil) [z, u] σ2 H2 q) = fun σ2 H2 => t3 z σ2 H2 fun σ3 H3 => t4 u σ3 H3 q := by rw [gcons_eq, gcons_eq, gnil_eq]
  rw [e]
  exact h x y z u ((((S.push k4).push k3).push k2).push k1)
/-- x += e -/
theorem x_augI {f : Int → Int → Int} (S : Ds K C B σ H M ρ w tp) (h : ρ[i]? = some (.d (.int a))) (q : te σ H fun y H1 => ipI f (.int a) y H1 fun z H2 => D.nx (σ.set i (some z)) H2) : tAug i te (ipI f) D σ H := by
  obtain ⟨v, h1, h2⟩ := S.get h (fun z => nomatch z)
  cases h2
  exact ⟨.int a, h1, q⟩
theorem x_ipI {f : Int → Int → Int} (S : Ds K C B σ H M ρ w tp) (hs : SetAt ρ i (.d (.int (f a b))) ρ') (h : ∀ σ', Ds K C B σ' H M ρ' w tp → D.nx σ' H) : ipI f (.int a) (.int b) H fun z H2 => D.nx (σ.set i (some z)) H2 :=
  ⟨a, b, rfl, rfl, h _ (hs.eq ▸ S.set (.int _))⟩
/-- xs.append(e), xs an own list -/
theorem x_app (S : Ds K C B σ H M ρ w tp) (h : ρ[i]? = some (.v (.ref p))) (j : Nat) (hj : w[j]? = some (p, .lst ds)) (q : te σ H fun y H2 => AppK K Q (.ref p) y H2) : tBM K "list" rAppend (tVar i) (tCons te tNil) σ H Q := by
  obtain ⟨v, h1, h2⟩ := S.get h (fun z => nomatch z)
  cases (show v = .ref p from h2)
  obtain ⟨_, vs, h3, _⟩ := S.own _ (List.mem_of_getElem? hj)
  exact ⟨_, h1, .inl ⟨rfl, vs, .of h3⟩, q⟩
theorem x_appK (j : Nat) (S : Ds K C B σ H M ρ w tp) (hj : w[j]? = some (p, .lst ds)) (ht : Tm tp y e) (hl : ds.length < sizeLine) (hw : SetAt w j (p, .lst (ds ++ [e])) w') (q : ∀ H', Ds K C B σ H' M ρ w' tp → Q .non H') : AppK K Q (.ref p) y H := by
  obtain ⟨_, vs, h1, h2⟩ := S.own _ (List.mem_of_getElem? hj)
  refine ⟨p, vs, y, rfl, rfl, h1, by rw [dpAll_len h2]; exact hl, q _ ?_⟩
  rw [hw.eq]
  exact S.mut hj ⟨_, upd_same, dpAll_app h2 (.cons (ht.dp S) .nil)⟩
end
/-! loops -/
/-- what a turn reaches: I at the turn's number -/
def Nx (K : PySem.W.Frag) (C : Fx) (B : Hp) (I : Nat → List Sl → Own → Prop) (i : Nat) : L2.St → Hp → Prop := fun σ H => ∃ M ρ w, I i ρ w ∧ Ds K C B σ H M ρ w []
def ForT (K : PySem.W.Frag) (R : It → Hp → Prop) (x : V) (H1 : Hp) : Prop := ∃ a, x = .ref a ∧ (∃ xs, SqT K H1 a xs) ∧ R (Itt K a) H1
def ForL (K : PySem.W.Frag) (R : It → Hp → Prop) (x : V) (H1 : Hp) : Prop := ∃ a, x = .ref a ∧ (∃ xs, SqL K H1 a xs) ∧ R (Itl K a) H1
/-- the for behind its iterable -/
def ForB (g : TG) (tb : TS) (D : Ends) (σ0 : L2.St) (J : It) (H1 : Hp) : Prop := ∃ W : Nat → Nat → L2.St → Hp → Prop, (∃ m, W 0 m σ0 H1) ∧ ∀ i m σ H, W i m σ H →
  (J.stop i H ∧ D.nx σ H) ∨ (J.go i H ∧ ∃ N : L2.St → Hp → Prop, (∀ σ' H', N σ' H' → ∃ m', m' < m ∧ W (i + 1) m' σ' H') ∧ ∀ x H', J.yld i H x H' → g x σ H' fun σ2 H2 => tb { D with nx := N, ct := N, bk := D.nx } σ2 H2)
section
variable {K : PySem.W.Frag} {C : Fx} {B : Hp} {σ : L2.St} {H M H' M' : Hp} {ρ ρ' : List Sl} {w w' : Own} {tp : List (V × PyData)} {D : Ends} {te : TE} {tb : TS} {tl : TA} {g : TG} {v : V} {ds : List PyData} {p : Addr}
theorem x_fT (h : te σ H fun x H1 => ForT K (ForB g tb D σ) x H1) : tFor (iTup K te) g tb D σ H := h
theorem x_fL (h : te σ H fun x H1 => ForL K (ForB g tb D σ) x H1) : tFor (iList K te) g tb D σ H := h
theorem x_forT (I : Nat → List Sl → Own → Prop) (S : Ds K C B σ H M ρ w tp) (ht : Tm tp v (.tuple ds)) (h0 : I 0 ρ w)
    (hs : ∀ i d ρ1 w1, ds[i]? = some d → I i ρ1 w1 → ∀ u σ1 H1 M1, Ds K C M σ1 H1 M1 ρ1 w1 [(u, d)] → g u σ1 H1 fun σ2 H2 => tb { D with nx := Nx K C M I (i + 1), ct := Nx K C M I (i + 1), bk := D.nx } σ2 H2)
    (hd : ∀ ρ1 w1, I ds.length ρ1 w1 → ∀ σ1 H1 M1, Ds K C B σ1 H1 M1 ρ1 w1 [] → D.nx σ1 H1) : ForT K (ForB g tb D σ) v H := by
  obtain ⟨p, xs, rfl, h1, h2⟩ := dp_tup (ht.dp S)
  refine ⟨p, rfl, ⟨xs, Same.seqT S.sub h1⟩, for_tup (xs := xs) (Nx K C M I) ⟨M, ρ, w, h0, S.base.clr⟩ (fun i σ1 H1 _ q => ?_) (fun i x σ1 H1 hx q => ?_) (fun σ1 H1 q => ?_)⟩
  · obtain ⟨M1, ρ1, w1, _, S1⟩ := q
    exact Same.seqT (S1.bs.trans S1.sub) h1
  · obtain ⟨M1, ρ1, w1, q, S1⟩ := q
    have hi : i < ds.length := by rw [← dpAll_len h2]; exact (List.getElem?_eq_some_iff.mp hx).1
    have e := List.getElem?_eq_getElem hi
    exact hs i _ ρ1 w1 e q x σ1 H1 M1 (S1.push (Dp.same S1.bs (dpAll_at h2 i x _ hx e)))
  · obtain ⟨M1, ρ1, w1, q, S1⟩ := q
    exact hd ρ1 w1 (dpAll_len h2 ▸ q) σ1 H1 M1 (S1.base' S.bs)
theorem x_forL (I : Nat → List Sl → Own → Prop) (S : Ds K C B σ H M ρ w tp) (ht : Tm tp v (.list ds)) (h0 : I 0 ρ w)
    (hs : ∀ i d ρ1 w1, ds[i]? = some d → I i ρ1 w1 → ∀ u σ1 H1 M1, Ds K C M σ1 H1 M1 ρ1 w1 [(u, d)] → g u σ1 H1 fun σ2 H2 => tb { D with nx := Nx K C M I (i + 1), ct := Nx K C M I (i + 1), bk := D.nx } σ2 H2)
    (hd : ∀ ρ1 w1, I ds.length ρ1 w1 → ∀ σ1 H1 M1, Ds K C B σ1 H1 M1 ρ1 w1 [] → D.nx σ1 H1) : ForL K (ForB g tb D σ) v H := by
  obtain ⟨p, xs, rfl, h1, h2⟩ := dp_lst (ht.dp S)
  refine ⟨p, rfl, ⟨xs, S.sub.seq h1⟩, for_list (xs := xs) (Nx K C M I) ⟨M, ρ, w, h0, S.base.clr⟩ (fun i σ1 H1 _ q => ?_) (fun i x σ1 H1 hx q => ?_) (fun σ1 H1 q => ?_)⟩
  · obtain ⟨M1, ρ1, w1, _, S1⟩ := q
    exact (S1.bs.trans S1.sub).seq h1
  · obtain ⟨M1, ρ1, w1, q, S1⟩ := q
    have hi : i < ds.length := by rw [← dpAll_len h2]; exact (List.getElem?_eq_some_iff.mp hx).1
    have e := List.getElem?_eq_getElem hi
    exact hs i _ ρ1 w1 e q x σ1 H1 M1 (S1.push (Dp.same S1.bs (dpAll_at h2 i x _ hx e)))
  · obtain ⟨M1, ρ1, w1, q, S1⟩ := q
    exact hd ρ1 w1 (dpAll_len h2 ▸ q) σ1 H1 M1 (S1.base' S.bs)
end
end Pf
namespace Pf
open PySem PySem.Spec PyProof.Rows L2
/-! readings with the written part told by its name -/
def tTruD (K : PySem.W.Frag) (ta : TE) : TT := fun σ H Q => ta σ H fun x H' => ∃ k, TruV K x H' k ∧ Q k H'
section
variable {X : Cx} {K : PySem.W.Frag} {e : Expr} {tg : Expr}
theorem kBM {T : String} {r : V → List V → Hp → VK → Prop} {to : TE} {t : TA} (p : PE X e (tBM X.K T r to t)) (h : X.K = K := by rfl) : PE X e (tBM K T r to t) := h ▸ p
theorem kBM0 {T : String} {r : V → List V → Hp → VK → Prop} {to : TE} (p : PE X e (tBM0 X.K T r to)) (h : X.K = K := by rfl) : PE X e (tBM0 K T r to) := h ▸ p
theorem kNotT {ta : TE} (p : PE X e (tNotT X.K ta)) (h : X.K = K := by rfl) : PE X e (tNotT K ta) := h ▸ p
theorem kTru {ta : TE} (p : PT X e (fun σ H Q => ta σ H fun x H' => ∃ k, TruV X.K x H' k ∧ Q k H')) (h : X.K = K := by rfl) : PT X e (tTruD K ta) := by
  subst h
  exact p
theorem kIT {te : TE} (p : PI X tg e (iTup X.K te)) (h : X.K = K := by rfl) : PI X tg e (iTup K te) := h ▸ p
theorem kIL {te : TE} (p : PI X tg e (iList X.K te)) (h : X.K = K := by rfl) : PI X tg e (iList K te) := h ▸ p
theorem kGT {n : Nat} {t : TGs} (p : PG X e (gTup X.K n t)) (h : X.K = K := by rfl) : PG X e (gTup K n t) := h ▸ p
theorem kFld {ta : TE} {f : Str} (p : PE X e (tFld X.K ta f)) (h : X.K = K := by rfl) : PE X e (tFld K ta f) := h ▸ p
theorem kEqD (hu : X.A.units + 64 < cLine) (h : X.K = K := by rfl) : OpR X (compareOp .Eq) (rEqD K) := h ▸ op_eqD hu
theorem kNeD (hu : X.A.units + 64 < cLine) (h : X.K = K := by rfl) : OpR X (compareOp .NotEq) (rNeD K) := h ▸ op_neD hu
theorem kAny (hc : X.calm = true) (h : X.K = K := by rfl) : CallR X (.builtin "any") (rAny K) := h ▸ cr_any hc
theorem kAll (hc : X.calm = true) (h : X.K = K := by rfl) : CallR X (.builtin "all") (rAll K) := h ▸ cr_all hc
theorem kSum (hc : X.calm = true) (h : X.K = K := by rfl) : CallR X (.builtin "sum") (rSum K) := h ▸ cr_sum hc
theorem kIsi (h : X.K = K := by rfl) : CallR X (.builtin "isinstance") (rIsi K) := h ▸ call_isi
theorem kCatA (h : X.K = K := by rfl) : OpR X (binaryOp .Add) (rCatA K) := h ▸ op_catA
theorem kSlA (h : X.K = K := by rfl) : SlR X (rSlA K) := h ▸ sl_tupA
theorem kSlL (h : X.K = K := by rfl) : SlR X (rSlL K) := h ▸ sl_list
end
section
variable {K : PySem.W.Frag} {C : Fx} {B : Hp} {σ : L2.St} {H M H' M' : Hp} {ρ ρ' : List Sl} {w w' : Own} {tp : List (V × PyData)} {Q R : VK} {QB : Bool → Hp → Prop} {D : Ends} {te ta : TE}
theorem x_truD (h : ta σ H fun x H' => ∃ k, TruV K x H' k ∧ QB k H') : tTruD K ta σ H QB := h
end
end Pf
namespace Pf
open PySem PySem.Spec PyProof.Rows L2
/-! the heads alone -/
section
variable {K : PySem.W.Frag} {σ : L2.St} {H M : Hp} {Q R : VK} {D : Ends} {i n : Nat} {a b : Int} {v x y : V} {d : PyData} {te ta tb : TE} {tl : TA} {vs : List V} {q : L2.St → Hp → Prop} {qb : Bool → Prop} {t : TGs} {cc : Int → Int → Prop} {gg : Int → Int → V} {f : Int → Int → Int} {r : Addr} {k : L2.St → V → Hp → Prop}
theorem h_var (h : tVar i σ H R) : tVar i σ H R := h
theorem h_ite {c : Bool} {A B : Prop} (h : if c = true then A else B) : if c = true then A else B := h
theorem h_cR (h : tC (.ref r) σ H R) : tC (.ref r) σ H R := h
theorem h_giv (h : Giv K M H R d) : Giv K M H R d := h
theorem h_tupK (h : TupK Q vs H) : TupK Q vs H := h
theorem h_lstK (h : LstK Q vs H) : LstK Q vs H := h
theorem h_ixT (h : rIxT K x y H R) : rIxT K x y H R := h
theorem h_ixL (h : rIxL K x y H R) : rIxL K x y H R := h
theorem h_I (h : rI cc gg x y H R) : rI cc gg x y H R := h
theorem h_gn (h : gName i v σ H q) : gName i v σ H q := h
theorem h_gT (h : gTup K n t v σ H q) : gTup K n t v σ H q := h
theorem h_tru (h : ∃ k, TruV K v H k ∧ qb k) : ∃ k, TruV K v H k ∧ qb k := h
theorem h_len (h : rLenQ K vs H R) : rLenQ K vs H R := h
theorem h_tupOf (h : rTupOf K vs H R) : rTupOf K vs H R := h
theorem h_lstOf (h : rLstOf K vs H R) : rLstOf K vs H R := h
theorem h_aug (h : tAug i te (ipI f) D σ H) : tAug i te (ipI f) D σ H := h
theorem h_ip {P : V → Hp → Prop} (h : ipI f x y H P) : ipI f x y H P := h
theorem h_app (h : tBM K "list" rAppend ta tl σ H Q) : tBM K "list" rAppend ta tl σ H Q := h
theorem h_isNo (h : rIsNo x y H R) : rIsNo x y H R := h
theorem h_notNo (h : rNotNo x y H R) : rNotNo x y H R := h
theorem h_eq (h : rEq x y H R) : rEq x y H R := h
theorem h_ne (h : rNe x y H R) : rNe x y H R := h
end
end Pf

namespace Pf
open PySem PySem.Spec PyProof.Rows L2
/-! == , in and index of data at any depth -/
def rInX (K : PySem.W.Frag) (neg : Bool) : R2 := fun x y H Q => ∃ d ds, Dp K H x d ∧ (Dp K H y (.list ds) ∨ Dp K H y (.tuple ds)) ∧ d.canLay0 = true ∧ d.depth ≤ 64 ∧ PyData.canLayAll0 ds = true ∧ Q (.bl (if neg then !ds.any (fun z => PyData.eqv z d) else ds.any fun z => PyData.eqv z d)) H
def rTupIx (K : PySem.W.Frag) : V → List V → Hp → VK → Prop := fun x xs H Q => ∃ (a : Addr) (y : V) (d : PyData) (ds : List PyData) (j : Nat) (z : PyData), x = V.ref a ∧ xs = [y] ∧ Dp K H (V.ref a) (.tuple ds) ∧ Dp K H y d ∧ d.canLay0 = true ∧ d.depth ≤ 64 ∧ PyData.canLayAll0 ds = true ∧
  ds[j]? = some z ∧ PyData.eqv z d = true ∧ (∀ (m : Nat) (z' : PyData), m < j → ds[m]? = some z' → PyData.eqv z' d = false) ∧ Q (.int (j : Nat)) H
section
variable {X : Cx}
theorem in_room {A : Around} {d : PyData} {ds : List PyData} (h : d.depth ≤ 64) (hu : A.units + 65 < cLine) : A.units + 1 + min (PyData.depthAll ds) d.depth < cLine := by
  have h2 : min (PyData.depthAll ds) d.depth ≤ d.depth := Nat.min_le_right _ _
  omega
theorem op_inX (hu : X.A.units + 65 < cLine) : OpR X (compareOp .In) (rInX X.K false) := by
  intro pins s σ H x y v u Q I rx ry h
  obtain ⟨d, ds, hd, he, l1, l2, l3, q⟩ := h
  obtain ⟨as, r1⟩ := Dp.reads I d x v hd rx
  rcases he with he | he
  · obtain ⟨bs, r2⟩ := Dp.reads I _ y u he ry
    exact SeqAt.in_list_reads r2 r1 l3 l1 (in_room l2 hu) ⟨.bl _, H, I, rfl, q⟩
  · obtain ⟨bs, r2⟩ := Dp.reads I _ y u he ry
    exact SeqAt.in_tuple_reads r2 r1 l3 l1 (in_room l2 hu) ⟨.bl _, H, I, rfl, q⟩
theorem op_notInX (hu : X.A.units + 65 < cLine) : OpR X (compareOp .NotIn) (rInX X.K true) := by
  intro pins s σ H x y v u Q I rx ry h
  obtain ⟨d, ds, hd, he, l1, l2, l3, q⟩ := h
  obtain ⟨as, r1⟩ := Dp.reads I d x v hd rx
  rcases he with he | he
  · obtain ⟨bs, r2⟩ := Dp.reads I _ y u he ry
    exact SeqAt.notIn_list_reads r2 r1 l3 l1 (in_room l2 hu) ⟨.bl _, H, I, rfl, q⟩
  · obtain ⟨bs, r2⟩ := Dp.reads I _ y u he ry
    exact SeqAt.notIn_tuple_reads r2 r1 l3 l1 (in_room l2 hu) ⟨.bl _, H, I, rfl, q⟩
theorem mt_tupIx (hu : X.A.units + 65 < cLine) : MtR X "tuple.index" (rTupIx X.K) := by
  intro pins s σ H x xs v us Q I rx rxs h
  obtain ⟨p, y, d, ds, j, z, rfl, rfl, hl, hy, l1, l2, l3, hz, hzj, hno, q⟩ := h
  cases rx
  obtain ⟨uy, rfl, ry⟩ := vals1 rxs
  obtain ⟨bs, r1⟩ := Dp.reads I d y uy hy ry
  cases hl with
  | tup hs ha =>
    obtain ⟨its, rv, pl, hlen⟩ := I.tuple hs
    obtain ⟨⟨cls, dd, dt, sl⟩, ho, hc, n, hd⟩ := pl
    simp only at hc hd
    subst hc
    subst hd
    obtain ⟨as, h4⟩ := Dp.readsAll I ds _ its ha rv
    have hn := SeqAt.ReadsAll.length ds its as h4
    have hmap := SeqAt.readsAll_map ds its as l3 h4
    have hjd := (List.getElem?_eq_some_iff.mp hz).1
    have hj : j < its.toArray.size := by rw [List.size_toArray]; omega
    have tell : ∀ (m : Nat) (hm : m < its.toArray.size) (z' : PyData), ds[m]? = some z' → SeqAt.readOf s.heap its.toArray[m] = z' := fun m hm z' hz' => by
      have hml : m < its.length := by rw [← List.size_toArray]; exact hm
      rw [← hmap, List.getElem?_map, List.getElem?_eq_getElem hml] at hz'
      have e1 := Option.some.inj hz'
      rw [← e1]
      simp
    refine call_meets PySem.F.slot_tuple_index ⟨_, ho, rfl⟩ PySem.F.entry_tuple_index (PySem.F.args_tuple_index_2 _ _)
      (TI.tuple_indexAt p its.toArray n dd sl uy (fun u => PyData.eqv (SeqAt.readOf s.heap u) d) j hj ?_ ?_) ⟨ho, ?_, ?_⟩
    · show PyData.eqv _ d = true
      rw [tell j hj z hz]
      exact hzj
    · intro m hm hmj
      have hmd : m < ds.length := by omega
      show PyData.eqv _ d = false
      rw [tell m hm _ (List.getElem?_eq_getElem hmd)]
      exact hno m _ hmj (List.getElem?_eq_getElem hmd)
    · exact SeqAt.items_eqAt (vs := its.toArray) h4 r1 l3 l1 (in_room l2 hu)
    · exact ⟨.int (j : Nat), H, I.tok _, ⟨_, rfl⟩, q⟩
end
/-! data that == tells apart: each is one of a kind of its own -/
structure Enc {α : Type} [DecidableEq α] (f : α → PyData) : Prop where
  eq : ∀ a b, PyData.eqv (f a) (f b) = decide (a = b)
  lay : ∀ a, (f a).canLay0 = true
theorem Enc.any {α : Type} [DecidableEq α] {f : α → PyData} (e : Enc f) (xs : List α) (x : α) : ((xs.map f).any fun z => PyData.eqv z (f x)) = decide (x ∈ xs) := by
  rw [List.any_map, Bool.eq_iff_iff, List.any_eq_true, decide_eq_true_iff]
  constructor
  · rintro ⟨y, h1, h2⟩
    have h3 : PyData.eqv (f y) (f x) = true := h2
    rw [e.eq] at h3
    exact of_decide_eq_true h3 ▸ h1
  · intro h
    refine ⟨x, h, ?_⟩
    show PyData.eqv (f x) (f x) = true
    rw [e.eq]
    exact decide_eq_true rfl
theorem Enc.layAll {α : Type} [DecidableEq α] {f : α → PyData} (e : Enc f) : ∀ xs : List α, PyData.canLayAll0 (xs.map f) = true
  | [] => rfl
  | x :: xs => by
    show (PyData.canLay0 (f x) && PyData.canLayAll0 (xs.map f)) = true
    rw [e.lay, e.layAll xs]
    rfl
theorem Enc.idx {α : Type} [DecidableEq α] {f : α → PyData} (e : Enc f) {xs : List α} {x : α} (h : x ∈ xs) : (xs.map f)[xs.idxOf x]? = some (f x) ∧ ∀ (m : Nat) (z : PyData), m < xs.idxOf x → (xs.map f)[m]? = some z → PyData.eqv z (f x) = false := by
  have h1 := List.idxOf_lt_length_of_mem h
  refine ⟨by rw [List.getElem?_map, List.getElem?_eq_getElem h1, List.getElem_idxOf]; rfl, fun m z hm hz => ?_⟩
  have hl : m < xs.length := by omega
  rw [List.getElem?_map, List.getElem?_eq_getElem hl] at hz
  cases hz
  rw [e.eq]
  refine decide_eq_false fun q => ?_
  have h2 := List.not_of_lt_findIdx (p := (· == x)) (xs := xs) (i := m) hm
  rw [q] at h2
  simp at h2
section
variable {K : PySem.W.Frag} {C : Fx} {B : Hp} {σ : L2.St} {H M H' M' : Hp} {ρ ρ' : List Sl} {w w' : Own} {tp : List (V × PyData)} {Q R : VK} {te ta : TE} {v x y : V} {a : Addr}
variable {α : Type} [DecidableEq α] {f : α → PyData} {xs : List α} {c : α} {neg : Bool}
theorem x_inXT (e : Enc f) (S : Ds K C B σ H M ρ w tp) (hx : Tm tp x (f c)) (hy : Tm tp y (.tuple (xs.map f))) (hd : (f c).depth ≤ 64) (q : R (.bl (if neg then !decide (c ∈ xs) else decide (c ∈ xs))) H) : rInX K neg x y H R :=
  ⟨f c, xs.map f, Dp.same S.sub (hx.dp S), .inr (Dp.same S.sub (hy.dp S)), e.lay c, hd, e.layAll xs, by rw [e.any]; exact q⟩
theorem x_inXL (e : Enc f) (S : Ds K C B σ H M ρ w tp) (hx : Tm tp x (f c)) (hy : Tm tp y (.list (xs.map f))) (hd : (f c).depth ≤ 64) (q : R (.bl (if neg then !decide (c ∈ xs) else decide (c ∈ xs))) H) : rInX K neg x y H R :=
  ⟨f c, xs.map f, Dp.same S.sub (hx.dp S), .inl (Dp.same S.sub (hy.dp S)), e.lay c, hd, e.layAll xs, by rw [e.any]; exact q⟩
theorem x_inXO (e : Enc f) (j : Nat) (S : Ds K C B σ H M ρ w tp) (hj : w[j]? = some (a, .lst (xs.map f))) (hx : Tm tp x (f c)) (hd : (f c).depth ≤ 64) (q : R (.bl (if neg then !decide (c ∈ xs) else decide (c ∈ xs))) H) : rInX K neg x (.ref a) H R := by
  obtain ⟨_, vs, h1, h2⟩ := S.own _ (List.mem_of_getElem? hj)
  exact ⟨f c, xs.map f, Dp.same S.sub (hx.dp S), .inl (.lst (.of h1) (DpAll.same S.sub h2)), e.lay c, hd, e.layAll xs, by rw [e.any]; exact q⟩
theorem x_eqX (e : Enc f) {d : α} (S : Ds K C B σ H M ρ w tp) (hx : Tm tp x (f c)) (hy : Tm tp y (f d)) (h1 : (f c).depth ≤ 64) (h2 : (f d).depth ≤ 64) (q : R (.bl (decide (c = d))) H) : rEqD K x y H R :=
  ⟨f c, f d, Dp.same S.sub (hx.dp S), Dp.same S.sub (hy.dp S), by unfold SeqAt.shaped; rw [e.lay, decide_eq_true h1]; rfl, by unfold SeqAt.shaped; rw [e.lay, decide_eq_true h2]; rfl, by rw [e.eq]; exact q⟩
/-- t.index(x), t a plain tuple -/
theorem x_tix (h : ta σ H fun x H1 => (∃ p, x = .ref p ∧ FzT K H1 p) ∧ te σ H1 fun y H2 => rTupIx K x [y] H2 Q) : tBMT K (rTupIx K) ta (tCons te tNil) σ H Q := h
theorem h_tixF {A : Prop} (h : (∃ p, V.ref a = .ref p ∧ FzT K H p) ∧ A) : (∃ p, V.ref a = .ref p ∧ FzT K H p) ∧ A := h
theorem x_tixF {A : Prop} (S : Ds K C B σ H M ρ w tp) (hf : FzT K M a) (h : A) : (∃ p, V.ref a = .ref p ∧ FzT K H p) ∧ A := ⟨⟨a, rfl, hf.same S.sub⟩, h⟩
theorem x_tixK (e : Enc f) (S : Ds K C B σ H M ρ w tp) (hx : Tm tp (.ref a) (.tuple (xs.map f))) (hy : Tm tp y (f c)) (hd : (f c).depth ≤ 64) (hm : c ∈ xs) (q : Q (.int (xs.idxOf c : Nat)) H) : rTupIx K (.ref a) [y] H Q :=
  ⟨a, y, f c, xs.map f, xs.idxOf c, f c, rfl, rfl, Dp.same S.sub (hx.dp S), Dp.same S.sub (hy.dp S), e.lay c, hd, e.layAll xs, (e.idx hm).1, by rw [e.eq]; exact decide_eq_true rfl, (e.idx hm).2, q⟩
/-- l.index(x) -/
theorem x_lix (h : ta σ H fun x H1 => tyV K "list" x H1 ∧ te σ H1 fun y H2 => rIndexD K x [y] H2 Q) : tBM K "list" (rIndexD K) ta (tCons te tNil) σ H Q := h
theorem h_lixF {A : Prop} (h : tyV K "list" v H ∧ A) : tyV K "list" v H ∧ A := h
theorem x_lixF {A : Prop} {ds : List PyData} (S : Ds K C B σ H M ρ w tp) (hx : Tm tp v (.list ds)) (h : A) : tyV K "list" v H ∧ A := by
  obtain ⟨p, ys, rfl, h1, _⟩ := dp_lst (hx.dp S)
  exact ⟨.inl ⟨rfl, ys, S.sub.seq h1⟩, h⟩
theorem x_lixK (e : Enc f) (S : Ds K C B σ H M ρ w tp) (hx : Tm tp v (.list (xs.map f))) (hy : Tm tp y (f c)) (hd : (f c).depth ≤ 64) (hd2 : ∀ x ∈ xs, (f x).depth ≤ 63) (hm : c ∈ xs) (q : Q (.int (xs.idxOf c : Nat)) H) : rIndexD K v [y] H Q := by
  obtain ⟨a, ys, rfl, h1, h2⟩ := dp_lst (hx.dp S)
  refine ⟨a, y, f c, xs.map f, xs.idxOf c, f c, rfl, rfl, Dp.same S.sub (.lst h1 h2), Dp.same S.sub (hy.dp S), ?_, by unfold SeqAt.shaped; rw [e.lay, decide_eq_true hd]; rfl, (e.idx hm).1, by rw [e.eq]; exact decide_eq_true rfl, (e.idx hm).2, q⟩
  have hs : ∀ ys : List α, (∀ x ∈ ys, (f x).depth ≤ 63) → PyData.depthAll (ys.map f) ≤ 63 := fun ys => by
    induction ys with
    | nil => exact fun _ => Nat.zero_le _
    | cons y ys ih =>
      intro h
      have h1 := h y (List.mem_cons_self ..)
      have h2 := ih fun x hx => h x (List.mem_cons_of_mem _ hx)
      show max (f y).depth (PyData.depthAll (ys.map f)) ≤ 63
      omega
  unfold SeqAt.shaped
  have h3 := hs xs hd2
  have h4 : (PyData.list (xs.map f)).canLay0 = true := e.layAll xs
  rw [h4, Bool.true_and]
  refine decide_eq_true ?_
  show PyData.depthAll (xs.map f) + 1 ≤ 64
  omega
end
section
variable {X : Cx} {K : PySem.W.Frag} {e : Expr}
theorem kInX (hu : X.A.units + 65 < cLine) (h : X.K = K := by rfl) : OpR X (compareOp .In) (rInX K false) := h ▸ op_inX hu
theorem kNotInX (hu : X.A.units + 65 < cLine) (h : X.K = K := by rfl) : OpR X (compareOp .NotIn) (rInX K true) := h ▸ op_notInX hu
theorem kTupIx (hu : X.A.units + 65 < cLine) (h : X.K = K := by rfl) : MtR X "tuple.index" (rTupIx K) := h ▸ mt_tupIx hu
theorem kLstIx (hu : X.A.units + 65 < cLine) (h : X.K = K := by rfl) : MtR X "list.index" (rIndexD K) := h ▸ mt_indexD hu
theorem kBMT {r : V → List V → Hp → VK → Prop} {to : TE} {t : TA} (p : PE X e (tBMT X.K r to t)) (h : X.K = K := by rfl) : PE X e (tBMT K r to t) := h ▸ p
end
end Pf
namespace Pf
open PySem PySem.Spec PyProof.Rows L2
/-! a def that keeps a promise over Ds -/
section
variable {P : Program} {w : World} {K : PySem.W.Frag} {mg : Str → Option Value} {base : Heap}
theorem Df.go {x : Str} {st : Stmt} {f : Addr} {fd : FuncData} {ps N : List Str} {k : Nat} (D : Df K mg x st f fd ps) (S : FnScope N ps (defScope st)) (pre : Pre) (len : ∀ ss u post, pre ss u post → ss.length = ps.length)
    (hbody : ∀ (cdv : Value) (A : Around) (outer : List Env) (s : Shared) (H M : Hp) (vs : List V) (Q : VK) (E : XK) (ss : List Sl) (u : Own) (post : Rs → Own → Prop), Room k (A.deeper (envOfC x (defScope st) s.heap.objs.size f cdv)) → pre ss u post →
      Ds K ⟨H, M, u.map (·.1)⟩ M (L2.start N vs) H M (ss ++ List.replicate (N.length - ss.length) .u) u [] → (∀ r u' v H', post r u' → Fin K ⟨H, M, u.map (·.1)⟩ r u' v H' → Q v H') →
      ∃ t, PSs (cxOf CX0 P w K mg base N x (defScope st) f cdv A outer s H E).nox (defBody st) t ∧ t { nx := fun _ H' => Q .non H', rt := Q } (L2.start N vs) H) : Cl P w K mg base (k + 1) x (spG K pre) := by
  refine D.cl S (fun vs H Q E h => ?_) (fun cdv A outer s H vs Q E hr h => ?_)
  · obtain ⟨M, ss, u, post, _, h2, _, _, h5, _⟩ := h
    exact h2.length.trans (len _ _ _ h5)
  · obtain ⟨M, ss, u, post, h1, h2, h3, h4, h5, q⟩ := h
    exact hbody cdv A outer s H M vs Q E ss u post hr h5 (Ds.init h1 h2 h3 h4) q
end
section
variable {K : PySem.W.Frag} {B : Hp} {σ : L2.St} {H M H0 M0 : Hp} {ρ : List Sl} {w : Own} {tp : List (V × PyData)} {Q : VK} {post : Rs → Own → Prop} {v : V} {d : PyData} {p a : Addr} {od : Od}
theorem x_ret0 (S : Ds K ⟨H0, M0, []⟩ B σ H M ρ w tp) (hq : ∀ r w' v H', post r w' → Fin K ⟨H0, M0, []⟩ r w' v H' → Q v H') (ht : Tm tp v d) (hp : post (.s (.d d)) []) : Q v H :=
  hq _ _ v H hp (S.fin rfl (fun _ h => nomatch h) (ht.dp S))
theorem x_retO0 (S : Ds K ⟨H0, M0, []⟩ B σ H M ρ w tp) (hq : ∀ r w' v H', post r w' → Fin K ⟨H0, M0, []⟩ r w' v H' → Q v H') (j : Nat) (hj : w[j]? = some (p, od)) (hp : post (.o od) []) : Q (.ref p) H := by
  have hm := List.mem_of_getElem? hj
  exact hq _ _ _ H hp (S.fin rfl (fun _ h => nomatch h) ⟨p, rfl, (S.ow _ hm).resolve_left (fun z => nomatch z), (S.own _ hm).1, (S.own _ hm).2⟩)
theorem x_ret1 (S : Ds K ⟨H0, M0, [a]⟩ B σ H M ρ w tp) (hq : ∀ r w' v H', post r w' → Fin K ⟨H0, M0, [a]⟩ r w' v H' → Q v H') (ht : Tm tp v d) (j : Nat) (hj : w[j]? = some (a, od)) (hp : post (.s (.d d)) [(a, od)]) : Q v H :=
  hq _ _ v H hp (S.fin rfl (fun x h => by rw [List.mem_singleton.mp h]; exact List.mem_of_getElem? hj) (ht.dp S))
end
/-! range -/
def ForR (R : It → Hp → Prop) (vs : List V) (H1 : Hp) : Prop := ∃ j : Int, vs = [.int j] ∧ -(2 ^ 62) ≤ j ∧ j < 2 ^ 62 ∧ R (Itr 0 j.toNat) H1
def ForR2 (R : It → Hp → Prop) (vs : List V) (H1 : Hp) : Prop := ∃ i j : Int, vs = [.int i, .int j] ∧ (-(2 ^ 62) ≤ i ∧ i < 2 ^ 62 ∧ -(2 ^ 62) ≤ j ∧ j < 2 ^ 62) ∧ R (Itr i (j - i).toNat) H1
section
variable {K : PySem.W.Frag} {C : Fx} {B : Hp} {σ : L2.St} {H M H' M' : Hp} {ρ ρ' : List Sl} {w w' : Own} {tp : List (V × PyData)} {D : Ends} {te : TE} {tb : TS} {tl : TA} {g : TG} {v : V} {ds : List PyData} {p : Addr} {a : Int}
theorem x_fR (h : tl σ H fun vs H1 => ForR (ForB g tb D σ) vs H1) : tFor (iRng1 tl) g tb D σ H := h
theorem x_fR2 (h : tl σ H fun vs H1 => ForR2 (ForB g tb D σ) vs H1) : tFor (iRng2 tl) g tb D σ H := h
theorem x_forR (I : Nat → List Sl → Own → Prop) (S : Ds K C B σ H M ρ w tp) (b1 : -(2 ^ 62) ≤ a) (b2 : a < 2 ^ 62) (h0 : I 0 ρ w)
    (hs : ∀ i ρ1 w1, i < a.toNat → I i ρ1 w1 → ∀ σ1 H1 M1, Ds K C M σ1 H1 M1 ρ1 w1 [] → g (.int (i : Int)) σ1 H1 fun σ2 H2 => tb { D with nx := Nx K C M I (i + 1), ct := Nx K C M I (i + 1), bk := D.nx } σ2 H2)
    (hd : ∀ ρ1 w1, I a.toNat ρ1 w1 → ∀ σ1 H1 M1, Ds K C B σ1 H1 M1 ρ1 w1 [] → D.nx σ1 H1) : ForR (ForB g tb D σ) [.int a] H := by
  refine ⟨a, rfl, b1, b2, for_range (lo := 0) (n := a.toNat) (Nx K C M I) ⟨M, ρ, w, h0, S.base.clr⟩ (fun i σ1 H1 hi q => ?_) (fun σ1 H1 q => ?_)⟩
  · obtain ⟨M1, ρ1, w1, q, S1⟩ := q
    rw [Int.zero_add]
    exact hs i ρ1 w1 hi q σ1 H1 M1 S1
  · obtain ⟨M1, ρ1, w1, q, S1⟩ := q
    exact hd ρ1 w1 q σ1 H1 M1 (S1.base' S.bs)
/-- the slots and own things are functions of the turn -/
abbrev At (P : Nat → List Sl) (W : Nat → Own) : Nat → List Sl → Own → Prop := fun i ρ w => ρ = P i ∧ w = W i
theorem Nx.at {I : Nat → List Sl → Own → Prop} {i : Nat} (S : Ds K C B σ H M ρ w tp) (hl : SlLe ρ ρ') (h : I i ρ' w) : Nx K C B I i σ H := ⟨M, ρ', w, h, S.clr.weak hl⟩
end
end Pf
namespace Pf
open PySem PySem.Spec PyProof.Rows L2
/-! what holds between two statements -/
def Md (K : PySem.W.Frag) (C : Fx) (B : Hp) (I : List Sl → Own → Prop) : L2.St → Hp → Prop := fun σ H => ∃ M ρ w, I ρ w ∧ Ds K C B σ H M ρ w []
section
variable {K : PySem.W.Frag} {C : Fx} {B : Hp} {σ : L2.St} {H M H' M' : Hp} {ρ ρ' : List Sl} {w w' : Own} {tp : List (V × PyData)} {D : Ends} {t u : TS}
theorem x_cut (I : List Sl → Own → Prop) (S : Ds K C B σ H M ρ w tp) (h1 : t { D with nx := Md K C B I } σ H) (h2 : ∀ M σ H ρ w, I ρ w → Ds K C B σ H M ρ w [] → u D σ H) : Evl.tCut t u D σ H :=
  ⟨_, h1, fun σ' H' ⟨M, ρ, w, a, b⟩ => h2 M σ' H' ρ w a b⟩
theorem Md.at {I : List Sl → Own → Prop} (S : Ds K C B σ H M ρ w tp) (hl : SlLe ρ ρ') (h : I ρ' w) : Md K C B I σ H := ⟨M, ρ', w, h, S.clr.weak hl⟩
end
end Pf
namespace Pf
open PySem
theorem map_snoc {α β : Type} {f : α → β} {xs : List α} {x : α} : xs.map f ++ [f x] = (xs ++ [x]).map f := by
  rw [List.map_append]
  rfl
theorem own_snoc {α : Type} {f : α → PyData} {xs : List α} {x : α} {p : Addr} {w : Own} : (p, Od.lst (xs.map f ++ [f x])) :: w = (p, Od.lst ((xs ++ [x]).map f)) :: w := by rw [map_snoc]
end Pf
namespace Pf
open PySem PySem.Spec PyProof.Rows L2
/-! promises of usual forms -/
/-- data -/
abbrev pD (P : PyData → Prop) : Rs → Own → Prop := fun r u => u = [] ∧ ∃ d, P d ∧ r = .s (.d d)
/-- a new own object -/
abbrev pO (P : Od → Prop) : Rs → Own → Prop := fun r u => u = [] ∧ ∃ od, P od ∧ r = .o od
/-- data, and the own object that was handed over -/
abbrev pD1 (a : Addr) (P : PyData → Od → Prop) : Rs → Own → Prop := fun r u => ∃ d od, P d od ∧ r = .s (.d d) ∧ u = [(a, od)]
section
variable {K : PySem.W.Frag} {C : Fx} {B : Hp} {σ : L2.St} {H M H0 M0 : Hp} {ρ : List Sl} {w : Own} {tp : List (V × PyData)} {Q : VK} {E : XK} {v : V} {d : PyData} {p a : Addr} {od : Od} {P : PyData → Prop} {PO : Od → Prop} {P1 : PyData → Od → Prop} {pre : Pre} {vs : List V} {ss : List Sl}
theorem x_cD (S : Ds K C B σ H M ρ w tp) (hs : SlT K M tp vs ss) (hp : pre ss [] (pD P)) (q : ∀ d, P d → ∀ H' M', Ds K C B σ H' M' ρ w tp → Giv K M' H' Q d) : spG K pre vs H Q E :=
  x_call0 S (hs.dp S) hp fun r u hr v H' M' R => by
    obtain ⟨_, d, hd, rfl⟩ := hr
    have R : Ds K C B σ H' M' ρ w ((v, d) :: tp) := R
    exact q d hd H' M' R.rest v (R.tm _ (List.mem_cons_self ..))
theorem x_cO (S : Ds K C B σ H M ρ w tp) (hs : SlT K M tp vs ss) (hp : pre ss [] (pO PO)) (q : ∀ od, PO od → ∀ p H' M', Ds K C B σ H' M' ρ ((p, od) :: w) tp → Q (.ref p) H') : spG K pre vs H Q E :=
  x_call0 S (hs.dp S) hp fun r u hr v H' M' R => by
    obtain ⟨_, od, hd, rfl⟩ := hr
    obtain ⟨p, rfl, R⟩ : ∃ p, v = .ref p ∧ Ds K C B σ H' M' ρ ((p, od) :: w) tp := R
    exact q od hd p H' M' R
theorem x_c1 (j : Nat) (S : Ds K C B σ H M ρ w tp) (hj : w[j]? = some (a, od)) (hs : SlT K M tp vs ss) (hp : pre ss [(a, od)] (pD1 a P1)) (q : ∀ d od', P1 d od' → ∀ H' M' w', SetAt w j (a, od') w' → Ds K C B σ H' M' ρ w' tp → Giv K M' H' Q d) : spG K pre vs H Q E :=
  x_call1 j S hj (hs.dp S) hp fun r od1 hr v H' M' R => by
    obtain ⟨d, od', hd, rfl, e⟩ := hr
    obtain rfl : od1 = od' := by
      have := List.head_eq_of_cons_eq e
      exact congrArg Prod.snd this
    have R : Ds K C B σ H' M' ρ (w.set j (a, od1)) ((v, d) :: tp) := R
    exact q d od1 hd H' M' _ (.of (List.getElem?_eq_some_iff.mp hj).1) R.rest v (R.tm _ (List.mem_cons_self ..))
theorem x_rD (S : Ds K ⟨H0, M0, []⟩ B σ H M ρ w tp) (hq : ∀ r w' v H', pD P r w' → Fin K ⟨H0, M0, []⟩ r w' v H' → Q v H') (ht : Tm tp v d) (hp : P d) : Q v H := x_ret0 S hq ht ⟨rfl, d, hp, rfl⟩
theorem x_rO (S : Ds K ⟨H0, M0, []⟩ B σ H M ρ w tp) (hq : ∀ r w' v H', pO PO r w' → Fin K ⟨H0, M0, []⟩ r w' v H' → Q v H') (j : Nat) (hj : w[j]? = some (p, od)) (hp : PO od) : Q (.ref p) H := x_retO0 S hq j hj ⟨rfl, od, hp, rfl⟩
theorem x_r1 (S : Ds K ⟨H0, M0, [a]⟩ B σ H M ρ w tp) (hq : ∀ r w' v H', pD1 a P1 r w' → Fin K ⟨H0, M0, [a]⟩ r w' v H' → Q v H') (ht : Tm tp v d) (j : Nat) (hj : w[j]? = some (a, od)) (hp : P1 d od) : Q v H := x_ret1 S hq ht j hj ⟨d, od, hp, rfl, rfl⟩
end
end Pf
namespace Pf
open PySem PySem.Spec PyProof.Rows L2
/-! objects known to the letter -/
section
variable {K : PySem.W.Frag} {C : Fx} {B : Hp} {σ : L2.St} {H M : Hp} {ρ : List Sl} {w w' : Own} {tp : List (V × PyData)} {Q R : VK} {p a : Addr} {i : Int} {xs : List V} {v x : V} {od od' : Od} {to ti : TE} {t : TSet} {q : L2.St → Hp → Prop}
theorem Ds.reOd {j : Nat} (S : Ds K C B σ H M ρ w tp) (hj : w[j]? = some (a, od)) (ok : OdOk K M H a od') : Ds K C B σ H M ρ (w.set j (a, od')) tp := by
  have hm := List.mem_of_getElem? hj
  refine S.step (O := []) (Fr.refl _ S.sub) (fun _ h => nomatch h) ?_ fun y hy => ?_
  · rw [List.map_set]
    exact set_self (by rw [List.getElem?_map, hj]; rfl)
  · rcases List.mem_or_eq_of_mem_set hy with h | rfl
    · exact (S.own y h).2
    · exact ok
theorem x_ixH (j : Nat) (S : Ds K C B σ H M ρ w tp) (hj : w[j]? = some (p, .ho (.lst xs))) (hi : atI xs i = some v) (q : R v H) : rIxL K (.ref p) (.int i) H R :=
  ⟨p, xs, i, v, rfl, rfl, .of (S.own _ (List.mem_of_getElem? hj)).2, hi, q⟩
theorem x_gSub (h : to σ H fun o H1 => ti σ H1 fun i H2 => t o i v H2 fun H3 => q σ H3) : gSub to ti t v σ H q := h
theorem h_setL {P : Hp → Prop} {o k : V} (h : rSetL o k v H P) : rSetL o k v H P := h
theorem x_setH {P : Hp → Prop} {k : Nat} (j : Nat) (S : Ds K C B σ H M ρ w tp) (hj : w[j]? = some (p, .ho (.lst xs))) (hk : ixN xs.length i = some k) (hw : SetAt w j (p, .ho (.lst (xs.set k v))) w') (q : ∀ H', Ds K C B σ H' M ρ w' tp → P H') : rSetL (.ref p) (.int i) v H P :=
  ⟨p, xs, i, k, rfl, rfl, (S.own _ (List.mem_of_getElem? hj)).2, hk, q _ (hw.eq ▸ S.mut hj upd_same)⟩
theorem x_open (j : Nat) {A : Prop} (S : Ds K C B σ H M ρ w tp) (hj : w[j]? = some (a, .box)) (q : ∀ (p : Addr) (ns : List Int) (i : Int) (w' : Own), 0 ≤ i → SetAt w j (a, .ho (.lst [.ref p, .int i])) w' → Ds K C B σ H M ρ w' ((.ref p, .list (ns.map .int)) :: tp) → A) : A := by
  obtain ⟨_, p, ns, i, h1, h2, h3⟩ := S.own _ (List.mem_of_getElem? hj)
  refine q p ns i _ h3 (.of (List.getElem?_eq_some_iff.mp hj).1) ((S.reOd (od' := .ho (.lst [.ref p, .int i])) hj h1).push (.lst h2 ?_))
  have hs : ∀ ns : List Int, DpAll K M (ns.map V.int) (ns.map PyData.int) := fun ns => by
    induction ns with
    | nil => exact .nil
    | cons n ns ih => exact .cons (.int n) ih
  exact hs ns
theorem Ds.close {j : Nat} {ns : List Int} (S : Ds K C B σ H M ρ w tp) (hj : w[j]? = some (a, .ho (.lst [.ref p, .int i]))) (h0 : 0 ≤ i) (ht : Tm tp (.ref p) (.list (ns.map .int))) : Ds K C B σ H M ρ (w.set j (a, .box)) tp := by
  obtain ⟨p', ys, e, h1, h2⟩ := dp_lst (ht.dp S)
  cases e
  cases dpAll_ints h2
  exact S.reOd hj ⟨p, ns, i, (S.own _ (List.mem_of_getElem? hj)).2, h1, h0⟩
end
/-! boxes of digits -/
section
variable {K : PySem.W.Frag} {C : Fx} {B : Hp} {σ : L2.St} {H M : Hp} {ρ : List Sl} {w w' : Own} {tp : List (V × PyData)} {Q : VK} {p a : Addr} {i : Int} {ns : List Int}
theorem x_lstBox (S : Ds K C B σ H M ρ ((p, .lst (ns.map .int)) :: w) tp) (hO : p ∉ C.O) (hz : 0 ≤ i) (q : ∀ b H' M', Ds K C B σ H' M' ρ ((b, .box) :: w) tp → Q (.ref b) H') : LstK Q [.ref p, .int i] H := by
  refine ⟨by show 2 ≤ sizeLine; decide, fun b hb => ?_⟩
  obtain ⟨M', S'⟩ := S.freeze hO
  have h1 := S'.tm (.ref p, .list (ns.map .int)) (List.mem_cons_self ..)
  obtain ⟨p', xs, e, h2, h3⟩ := dp_lst h1
  cases e
  cases dpAll_ints h3
  exact q b _ M' (S'.newO (od := .box) hb ⟨p, ns, i, upd_same, h2, hz⟩).rest
end
end Pf
namespace Pf
open PySem PySem.Spec PyProof.Rows L2
section
variable {P : Program} {w : World} {K : PySem.W.Frag} {mg : Str → Option Value} {base : Heap}
theorem Df.vain {x : Str} {st : Stmt} {f : Addr} {fd : FuncData} {ps N : List Str} {k : Nat} (D : Df K mg x st f fd ps) (S : FnScope N ps (defScope st)) (pre : Pre) (h : ∀ ss u post, ¬ pre ss u post) : Cl P w K mg base (k + 1) x (spG K pre) :=
  D.go S pre (fun ss u post z => (h _ _ _ z).elim) fun cdv A outer s H M vs Q E ss u post hr z _ _ => (h _ _ _ z).elim
end
end Pf
namespace Pf
open PySem PySem.Spec PyProof.Rows L2
/-! more steps -/
theorem u65 {k : Nat} {A : Around} (r : Room k A) : A.units + 65 < cLine := by have := r.un; omega
section
variable {K : PySem.W.Frag} {C : Fx} {B : Hp} {σ : L2.St} {H M : Hp} {ρ : List Sl} {w w' : Own} {tp : List (V × PyData)} {Q R : VK} {p a : Addr} {i : Int} {v x y : V} {te : TE} {tl th : TO} {ds es : List PyData} {lo hi : Option Int} {neg : Bool} {s s1 s2 s3 s4 : Str}
theorem h_in (h : rIn K neg x y H R) : rIn K neg x y H R := h
theorem x_inS2 (S : Ds K C B σ H M ρ w tp) (ht : Tm tp y (.tuple [.str s1, .str s2])) (q : R (.bl (if neg then !decide (s ∈ [s1, s2]) else decide (s ∈ [s1, s2]))) H) : rIn K neg (.str s) y H R := x_inST (ns := [s1, s2]) S ht q
theorem x_inS3 (S : Ds K C B σ H M ρ w tp) (ht : Tm tp y (.tuple [.str s1, .str s2, .str s3])) (q : R (.bl (if neg then !decide (s ∈ [s1, s2, s3]) else decide (s ∈ [s1, s2, s3]))) H) : rIn K neg (.str s) y H R := x_inST (ns := [s1, s2, s3]) S ht q
theorem x_inI2 {a b c : Int} (S : Ds K C B σ H M ρ w tp) (ht : Tm tp y (.tuple [.int a, .int b])) (q : R (.bl (if neg then !decide (c ∈ [a, b]) else decide (c ∈ [a, b]))) H) : rIn K neg (.int c) y H R := x_inIT (ns := [a, b]) S ht q
theorem x_inI3 {a b d c : Int} (S : Ds K C B σ H M ρ w tp) (ht : Tm tp y (.tuple [.int a, .int b, .int d])) (q : R (.bl (if neg then !decide (c ∈ [a, b, d]) else decide (c ∈ [a, b, d]))) H) : rIn K neg (.int c) y H R := x_inIT (ns := [a, b, d]) S ht q
theorem x_sl {r : V → Option Int → Option Int → Hp → VK → Prop} (h : te σ H fun x H1 => tl σ H1 fun l H2 => th σ H2 fun u H3 => r x l u H3 Q) : tSl r te tl th σ H Q := h
theorem x_noPart {q : Option Int → Hp → Prop} (h : q none H) : tNoPart σ H q := h
theorem x_part {q : Option Int → Hp → Prop} (h : te σ H fun x H1 => ∃ i, x = .int i ∧ q (some i) H1) : tPart te σ H q := h
theorem x_exI {q : Int → Prop} (h : q i) : ∃ j, V.int i = .int j ∧ q j := ⟨i, rfl, h⟩
theorem dpAll_cut {vs : List V} (h : DpAll K M vs ds) : DpAll K M (cutV vs lo hi) (cutI ds lo hi) := by
  have hd : ∀ (n : Nat) {vs : List V} {ds : List PyData}, DpAll K M vs ds → DpAll K M (vs.drop n) (ds.drop n) := fun n => by
    induction n with
    | zero => exact fun h => h
    | succ n ih =>
      intro vs ds h
      cases h with
      | nil => exact .nil
      | cons _ t => exact ih t
  have ht : ∀ (n : Nat) {vs : List V} {ds : List PyData}, DpAll K M vs ds → DpAll K M (vs.take n) (ds.take n) := fun n => by
    induction n with
    | zero => exact fun _ => .nil
    | succ n ih =>
      intro vs ds h
      cases h with
      | nil => exact .nil
      | cons a t => exact .cons a (ih t)
  unfold cutV cutI
  rw [dpAll_len h]
  exact ht _ (hd _ h)
theorem cutI_all {α : Type} {ds : List α} (h : HT.sIx ds.length 0 lo = 0 ∧ HT.sIx ds.length ds.length hi = ds.length) : cutI ds lo hi = ds := by
  unfold cutI
  rw [h.1, h.2]
  simp
theorem h_slA (h : rSlA K v lo hi H R) : rSlA K v lo hi H R := h
theorem x_slA (S : Ds K C B σ H M ρ w tp) (ht : Tm tp v (.tuple ds)) (hc : cutI ds lo hi = es) (q : ∀ u H' M', Ds K C B σ H' M' ρ w ((u, .tuple es) :: tp) → R u H') : rSlA K v lo hi H R := by
  obtain ⟨p, xs, rfl, h1, h2⟩ := dp_tup (ht.dp S)
  have hl := dpAll_len h2
  refine ⟨p, xs, rfl, Same.seqT S.sub h1, fun hw => ?_, fun hw b hb => ?_⟩
  · rw [hl] at hw
    rw [cutI_all hw] at hc
    subst hc
    exact q _ H M (S.push (.tup h1 h2))
  · exact q _ _ _ (S.newT hb (hc ▸ dpAll_cut h2))
theorem h_slL (h : rSlL K v lo hi H R) : rSlL K v lo hi H R := h
/-- a list's slice: a new list -/
theorem x_slL (S : Ds K C B σ H M ρ w tp) (ht : Tm tp v (.list ds)) (hc : cutI ds lo hi = es) (q : ∀ p H', Ds K C B σ H' M ρ ((p, .lst es) :: w) tp → R (.ref p) H') : rSlL K v lo hi H R := by
  obtain ⟨p, xs, rfl, h1, h2⟩ := dp_lst (ht.dp S)
  exact ⟨p, xs, rfl, S.sub.seq h1, fun b hb => q b _ (S.newL hb (hc ▸ dpAll_cut h2))⟩
end
end Pf
namespace Pf
open PySem PySem.Spec PyProof.Rows L2
/-! in, not in, one by one -/
section
variable {K : PySem.W.Frag} {C : Fx} {B : Hp} {σ : L2.St} {H M : Hp} {ρ : List Sl} {w w' : Own} {tp : List (V × PyData)} {Q R : VK} {p a : Addr} {v x y : V}
variable {α : Type} [DecidableEq α] {f : α → PyData} {xs : List α} {c : α} {ns : List Int} {k k1 k2 k3 : Int} {ss : List Str} {s s1 s2 s3 : Str}
theorem y_inT (e : Enc f) (S : Ds K C B σ H M ρ w tp) (hx : Tm tp x (f c)) (hy : Tm tp y (.tuple (xs.map f))) (hd : (f c).depth ≤ 64) (q : R (.bl (decide (c ∈ xs))) H) : rInX K false x y H R := x_inXT e S hx hy hd q
theorem y_niT (e : Enc f) (S : Ds K C B σ H M ρ w tp) (hx : Tm tp x (f c)) (hy : Tm tp y (.tuple (xs.map f))) (hd : (f c).depth ≤ 64) (q : R (.bl (!decide (c ∈ xs))) H) : rInX K true x y H R := x_inXT e S hx hy hd q
theorem y_inL (e : Enc f) (S : Ds K C B σ H M ρ w tp) (hx : Tm tp x (f c)) (hy : Tm tp y (.list (xs.map f))) (hd : (f c).depth ≤ 64) (q : R (.bl (decide (c ∈ xs))) H) : rInX K false x y H R := x_inXL e S hx hy hd q
theorem y_niL (e : Enc f) (S : Ds K C B σ H M ρ w tp) (hx : Tm tp x (f c)) (hy : Tm tp y (.list (xs.map f))) (hd : (f c).depth ≤ 64) (q : R (.bl (!decide (c ∈ xs))) H) : rInX K true x y H R := x_inXL e S hx hy hd q
theorem y_inO (e : Enc f) (j : Nat) (S : Ds K C B σ H M ρ w tp) (hj : w[j]? = some (a, .lst (xs.map f))) (hx : Tm tp x (f c)) (hd : (f c).depth ≤ 64) (q : R (.bl (decide (c ∈ xs))) H) : rInX K false x (.ref a) H R := x_inXO e j S hj hx hd q
theorem y_niO (e : Enc f) (j : Nat) (S : Ds K C B σ H M ρ w tp) (hj : w[j]? = some (a, .lst (xs.map f))) (hx : Tm tp x (f c)) (hd : (f c).depth ≤ 64) (q : R (.bl (!decide (c ∈ xs))) H) : rInX K true x (.ref a) H R := x_inXO e j S hj hx hd q
theorem i_inT (S : Ds K C B σ H M ρ w tp) (ht : Tm tp y (.tuple (ns.map .int))) (q : R (.bl (decide (k ∈ ns))) H) : rIn K false (.int k) y H R := x_inIT S ht q
theorem i_niT (S : Ds K C B σ H M ρ w tp) (ht : Tm tp y (.tuple (ns.map .int))) (q : R (.bl (!decide (k ∈ ns))) H) : rIn K true (.int k) y H R := x_inIT S ht q
theorem i_inL (S : Ds K C B σ H M ρ w tp) (ht : Tm tp y (.list (ns.map .int))) (q : R (.bl (decide (k ∈ ns))) H) : rIn K false (.int k) y H R := x_inIL S ht q
theorem i_niL (S : Ds K C B σ H M ρ w tp) (ht : Tm tp y (.list (ns.map .int))) (q : R (.bl (!decide (k ∈ ns))) H) : rIn K true (.int k) y H R := x_inIL S ht q
theorem i_inO (j : Nat) (S : Ds K C B σ H M ρ w tp) (hj : w[j]? = some (p, .lst (ns.map .int))) (q : R (.bl (decide (k ∈ ns))) H) : rIn K false (.int k) (.ref p) H R := x_inIO j S hj q
theorem i_niO (j : Nat) (S : Ds K C B σ H M ρ w tp) (hj : w[j]? = some (p, .lst (ns.map .int))) (q : R (.bl (!decide (k ∈ ns))) H) : rIn K true (.int k) (.ref p) H R := x_inIO j S hj q
theorem s_inT (S : Ds K C B σ H M ρ w tp) (ht : Tm tp y (.tuple (ss.map .str))) (q : R (.bl (decide (s ∈ ss))) H) : rIn K false (.str s) y H R := x_inST S ht q
theorem s_in2 (S : Ds K C B σ H M ρ w tp) (ht : Tm tp y (.tuple [.str s1, .str s2])) (q : R (.bl (decide (s ∈ [s1, s2]))) H) : rIn K false (.str s) y H R := x_inST (ns := [s1, s2]) S ht q
theorem s_ni2 (S : Ds K C B σ H M ρ w tp) (ht : Tm tp y (.tuple [.str s1, .str s2])) (q : R (.bl (!decide (s ∈ [s1, s2]))) H) : rIn K true (.str s) y H R := x_inST (ns := [s1, s2]) S ht q
theorem s_in3 (S : Ds K C B σ H M ρ w tp) (ht : Tm tp y (.tuple [.str s1, .str s2, .str s3])) (q : R (.bl (decide (s ∈ [s1, s2, s3]))) H) : rIn K false (.str s) y H R := x_inST (ns := [s1, s2, s3]) S ht q
theorem i_in1 (S : Ds K C B σ H M ρ w tp) (ht : Tm tp y (.tuple [.int k1])) (q : R (.bl (decide (k ∈ [k1]))) H) : rIn K false (.int k) y H R := x_inIT (ns := [k1]) S ht q
theorem i_in2 (S : Ds K C B σ H M ρ w tp) (ht : Tm tp y (.tuple [.int k1, .int k2])) (q : R (.bl (decide (k ∈ [k1, k2]))) H) : rIn K false (.int k) y H R := x_inIT (ns := [k1, k2]) S ht q
theorem i_ni2 (S : Ds K C B σ H M ρ w tp) (ht : Tm tp y (.tuple [.int k1, .int k2])) (q : R (.bl (!decide (k ∈ [k1, k2]))) H) : rIn K true (.int k) y H R := x_inIT (ns := [k1, k2]) S ht q
theorem i_in3 (S : Ds K C B σ H M ρ w tp) (ht : Tm tp y (.tuple [.int k1, .int k2, .int k3])) (q : R (.bl (decide (k ∈ [k1, k2, k3]))) H) : rIn K false (.int k) y H R := x_inIT (ns := [k1, k2, k3]) S ht q
end
end Pf
namespace Pf
open PySem PySem.Spec PyProof.Rows L2
/-! comprehensions -/
/-- what a turn reaches: the new list at D holds acc -/
def LcN (K : PySem.W.Frag) (C : Fx) (B : Hp) (I : Nat → List PyData → Own → Prop) (σ : L2.St) (ρ : List Sl) (D : Addr) (i : Nat) : Hp → Prop := fun H => ∃ M acc w, I i acc w ∧ Ds K C B σ H M ρ ((D, .lst acc) :: w) []
def LcA (N : Hp → Prop) (D : Addr) (y : V) (H4 : Hp) : Prop := ∃ acc, H4 D = some (.lst acc) ∧ acc.length < sizeLine ∧ N (upd H4 D (.lst (acc ++ [y])))
/-- a comprehension behind its iterable -/
def LcB (g : TG) (tt : TT) (te : TE) (vs : List Nat) (Q : VK) (σ : L2.St) (J : It) (H1 : Hp) : Prop := ∀ D, H1 D = none → ∃ W : Nat → Nat → Hp → Prop, (∃ m, W 0 m (upd H1 D (.lst []))) ∧ ∀ i m H, W i m H →
  (J.stop i H ∧ Q (.ref D) H) ∨ (J.go i H ∧ ∃ N : Hp → Prop, (∀ H', N H' → ∃ m', m' < m ∧ W (i + 1) m' H') ∧ ∀ x H', J.yld i H x H' → g x (wipe σ vs) H' fun σ2 H2 => wipe σ2 vs = wipe σ vs ∧ tt σ2 H2 fun b H3 =>
    if b = true then te σ2 H3 (LcA N D) else N H3)
section
variable {K : PySem.W.Frag} {C : Fx} {B : Hp} {σ : L2.St} {H M H' M' : Hp} {ρ ρ' ρ2 : List Sl} {w w' : Own} {tp : List (V × PyData)} {Q : VK} {te : TE} {tt : TT} {tl : TA} {g : TG} {v y : V} {ds acc : List PyData} {e : PyData} {D p : Addr} {a : Int} {vs : List Nat} {k : Nat} {i : Nat} {I : Nat → List PyData → Own → Prop}
theorem x_lcT (h : te σ H fun x H1 => ForT K (LcB g tt tb vs Q σ) x H1) : tLc (iTup K te) g tt tb vs σ H Q := h
theorem x_lcL (h : te σ H fun x H1 => ForL K (LcB g tt tb vs Q σ) x H1) : tLc (iList K te) g tt tb vs σ H Q := h
theorem x_lcR (h : tl σ H fun x H1 => ForR (LcB g tt tb vs Q σ) x H1) : tLc (iRng1 tl) g tt tb vs σ H Q := h
theorem x_lcR2 (h : tl σ H fun x H1 => ForR2 (LcB g tt tb vs Q σ) x H1) : tLc (iRng2 tl) g tt tb vs σ H Q := h
theorem x_yes {q : Bool → Hp → Prop} (h : q true H) : tYes σ H q := h
/-- the state within the block: the slots of its own wiped -/
theorem Ds.wiped (S : Ds K C B σ H M ρ w tp) : ∀ vs : List Nat, Ds K C B (wipe σ vs) H M (vs.foldr (fun k r => r.set k .u) ρ) w tp
  | [] => S
  | k :: vs => by
    have S1 := Ds.wiped S vs
    have h : ∀ {σ : L2.St} {ρ : List Sl}, Ds K C B σ H M ρ w tp → Ds K C B (σ.set k none) H M (ρ.set k .u) w tp := fun {σ ρ} S => by
      refine { S with ln := by rw [List.length_set, List.length_set]; exact S.ln, sl := fun j s hj => ?_ }
      by_cases q : j = k
      · subst q
        have lt : j < ρ.length := by
          have := (List.getElem?_eq_some_iff.mp hj).1
          rwa [List.length_set] at this
        rw [List.getElem?_set_self lt] at hj
        cases hj
        exact .inl rfl
      · rw [List.getElem?_set_ne (Ne.symm q)] at hj ⊢
        exact S.sl j s hj
    exact h S1
/-- from a turn's state back to the block's -/
def Rew (K : PySem.W.Frag) (C : Fx) (B : Hp) (σ1 : L2.St) (ρ1 : List Sl) (σ0 : L2.St) (ρ0 : List Sl) : Prop := ∀ {H M : Hp} {w : Own} {tp : List (V × PyData)}, Ds K C B σ1 H M ρ1 w tp → Ds K C B σ0 H M ρ0 w []
theorem x_lcA {σ0 : L2.St} (S : Ds K C B σ H M ρ ((D, .lst acc) :: w) tp) (hr : Rew K C B σ ρ σ0 ρ2) (ht : Tm tp y e) (hl : acc.length < sizeLine) (hI : I (i + 1) (acc ++ [e]) w) : LcA (LcN K C B I σ0 ρ2 D (i + 1)) D y H := by
  obtain ⟨_, us, h1, h2⟩ := S.own _ (List.mem_cons_self ..)
  exact ⟨us, h1, by rw [dpAll_len h2]; exact hl, M, acc ++ [e], w, hI, hr (S.mut (j := 0) (od' := .lst (acc ++ [e])) rfl ⟨_, upd_same, dpAll_app h2 (.cons (ht.dp S) .nil)⟩)⟩
theorem x_lcN {σ0 : L2.St} (S : Ds K C B σ H M ρ ((D, .lst acc) :: w) tp) (hr : Rew K C B σ ρ σ0 ρ2) (hI : I (i + 1) acc w) : LcN K C B I σ0 ρ2 D (i + 1) H := ⟨M, acc, w, hI, hr S⟩
/-- out of the block: the slots as they were ahead of it -/
theorem Ds.outof {σ1 : L2.St} {ρ1 : List Sl} {H1 M1 : Hp} {w1 : Own} (S : Ds K C B σ H M ρ w tp) (S1 : Ds K C M σ1 H1 M1 ρ1 w1 []) : Ds K C B σ H1 M1 ρ w1 tp where
  ln := S.ln
  sl := fun i s h => (S.sl i s h).imp id fun ⟨v, a, b⟩ => ⟨v, a, b.same S1.bs⟩
  tm := fun p h => Dp.same S1.bs (S.tm p h)
  own := S1.own
  nd := S1.nd
  F := S1.F
  ow := S1.ow
  bs := S.bs.trans S1.bs
theorem wipe1 {x : V} : wipe ((wipe σ [k]).set k (some x)) [k] = wipe σ [k] := by
  show ((σ.set k none).set k (some x)).set k none = σ.set k none
  rw [List.set_set, List.set_set]
theorem rew1 {B : Hp} {x : V} {s : Sl} : Rew K C B ((wipe σ [k]).set k (some x)) (ρ.set k s) (wipe σ [k]) (ρ.set k .u) := fun S => by
  have S1 := S.clr.wiped [k]
  rw [wipe1] at S1
  have h : (ρ.set k s).set k .u = ρ.set k .u := List.set_set ..
  exact h ▸ S1
/-- over a tuple, one name -/
theorem x_lc1T (I : Nat → List PyData → Own → Prop) (S : Ds K C B σ H M ρ w tp) (ht : Tm tp v (.tuple ds)) (h0 : I 0 [] w)
    (hs : ∀ i d acc w1, ds[i]? = some d → I i acc w1 → ∀ D σ1 H1 M1, Rew K C M σ1 (ρ.set k (.d d)) (wipe σ [k]) (ρ.set k .u) → Ds K C M σ1 H1 M1 (ρ.set k (.d d)) ((D, .lst acc) :: w1) [] → tt σ1 H1 fun b H3 => if b = true then te σ1 H3 (LcA (LcN K C M I (wipe σ [k]) (ρ.set k .u) D (i + 1)) D) else LcN K C M I (wipe σ [k]) (ρ.set k .u) D (i + 1) H3)
    (hd : ∀ acc w1, I ds.length acc w1 → ∀ D H1 M1, Ds K C B σ H1 M1 ρ ((D, .lst acc) :: w1) tp → Q (.ref D) H1) : ForT K (LcB (gName k) tt te [k] Q σ) v H := by
  obtain ⟨p, xs, rfl, h1, h2⟩ := dp_tup (ht.dp S)
  refine ⟨p, rfl, ⟨xs, Same.seqT S.sub h1⟩, fun D hD => lc_tup (xs := xs) (LcN K C M I (wipe σ [k]) (ρ.set k .u) D) ?_ (fun i H1 _ q => ?_) (fun i x H1 hx q => ?_) (fun H1 q => ?_)⟩
  · exact ⟨M, [], w, h0, (S.base.clr.wiped [k]).newL hD .nil⟩
  · obtain ⟨M1, acc, w1, _, S1⟩ := q
    exact Same.seqT (S1.bs.trans S1.sub) h1
  · obtain ⟨M1, acc, w1, q, S1⟩ := q
    have hi : i < ds.length := by rw [← dpAll_len h2]; exact (List.getElem?_eq_some_iff.mp hx).1
    have e := List.getElem?_eq_getElem hi
    have d1 : Dp K M1 x ds[i] := Dp.same S1.bs (dpAll_at h2 i x _ hx e)
    have S2 := S1.set (i := k) (v := x) (s := .d ds[i]) d1
    rw [List.set_set] at S2
    exact ⟨wipe1, hs i _ acc w1 e q D _ H1 M1 rew1 S2⟩
  · obtain ⟨M1, acc, w1, q, S1⟩ := q
    exact hd acc w1 (dpAll_len h2 ▸ q) D H1 M1 (S.outof S1)
theorem x_lc1L (I : Nat → List PyData → Own → Prop) (S : Ds K C B σ H M ρ w tp) (ht : Tm tp v (.list ds)) (h0 : I 0 [] w)
    (hs : ∀ i d acc w1, ds[i]? = some d → I i acc w1 → ∀ D σ1 H1 M1, Rew K C M σ1 (ρ.set k (.d d)) (wipe σ [k]) (ρ.set k .u) → Ds K C M σ1 H1 M1 (ρ.set k (.d d)) ((D, .lst acc) :: w1) [] → tt σ1 H1 fun b H3 => if b = true then te σ1 H3 (LcA (LcN K C M I (wipe σ [k]) (ρ.set k .u) D (i + 1)) D) else LcN K C M I (wipe σ [k]) (ρ.set k .u) D (i + 1) H3)
    (hd : ∀ acc w1, I ds.length acc w1 → ∀ D H1 M1, Ds K C B σ H1 M1 ρ ((D, .lst acc) :: w1) tp → Q (.ref D) H1) : ForL K (LcB (gName k) tt te [k] Q σ) v H := by
  obtain ⟨p, xs, rfl, h1, h2⟩ := dp_lst (ht.dp S)
  refine ⟨p, rfl, ⟨xs, S.sub.seq h1⟩, fun D hD => lc_list (xs := xs) (LcN K C M I (wipe σ [k]) (ρ.set k .u) D) ?_ (fun i H1 _ q => ?_) (fun i x H1 hx q => ?_) (fun H1 q => ?_)⟩
  · exact ⟨M, [], w, h0, (S.base.clr.wiped [k]).newL hD .nil⟩
  · obtain ⟨M1, acc, w1, _, S1⟩ := q
    exact (S1.bs.trans S1.sub).seq h1
  · obtain ⟨M1, acc, w1, q, S1⟩ := q
    have hi : i < ds.length := by rw [← dpAll_len h2]; exact (List.getElem?_eq_some_iff.mp hx).1
    have e := List.getElem?_eq_getElem hi
    have d1 : Dp K M1 x ds[i] := Dp.same S1.bs (dpAll_at h2 i x _ hx e)
    have S2 := S1.set (i := k) (v := x) (s := .d ds[i]) d1
    rw [List.set_set] at S2
    exact ⟨wipe1, hs i _ acc w1 e q D _ H1 M1 rew1 S2⟩
  · obtain ⟨M1, acc, w1, q, S1⟩ := q
    exact hd acc w1 (dpAll_len h2 ▸ q) D H1 M1 (S.outof S1)
theorem x_lc1R (I : Nat → List PyData → Own → Prop) (S : Ds K C B σ H M ρ w tp) (b1 : -(2 ^ 62) ≤ a) (b2 : a < 2 ^ 62) (h0 : I 0 [] w)
    (hs : ∀ (i : Nat) acc w1, i < a.toNat → I i acc w1 → ∀ D σ1 H1 M1, Rew K C M σ1 (ρ.set k (.d (.int i))) (wipe σ [k]) (ρ.set k .u) → Ds K C M σ1 H1 M1 (ρ.set k (.d (.int i))) ((D, .lst acc) :: w1) [] → tt σ1 H1 fun b H3 => if b = true then te σ1 H3 (LcA (LcN K C M I (wipe σ [k]) (ρ.set k .u) D (i + 1)) D) else LcN K C M I (wipe σ [k]) (ρ.set k .u) D (i + 1) H3)
    (hd : ∀ acc w1, I a.toNat acc w1 → ∀ D H1 M1, Ds K C B σ H1 M1 ρ ((D, .lst acc) :: w1) tp → Q (.ref D) H1) : ForR (LcB (gName k) tt te [k] Q σ) [.int a] H := by
  refine ⟨a, rfl, b1, b2, fun D hD => lc_range (lo := 0) (n := a.toNat) (LcN K C M I (wipe σ [k]) (ρ.set k .u) D) ?_ (fun i H1 hi q => ?_) (fun H1 q => ?_)⟩
  · exact ⟨M, [], w, h0, (S.base.clr.wiped [k]).newL hD .nil⟩
  · obtain ⟨M1, acc, w1, q, S1⟩ := q
    rw [Int.zero_add]
    have S2 := S1.set (i := k) (v := .int i) (s := .d (.int i)) (.int _)
    rw [List.set_set] at S2
    exact ⟨wipe1, hs i acc w1 hi q D _ H1 M1 rew1 S2⟩
  · obtain ⟨M1, acc, w1, q, S1⟩ := q
    exact hd acc w1 q D H1 M1 (S.outof S1)
end
end Pf
namespace Pf
open PySem PySem.Spec PyProof.Rows L2
/-! isinstance -/
section
variable {K : PySem.W.Frag} {C : Fx} {B : Hp} {σ : L2.St} {H M : Hp} {ρ : List Sl} {w w' : Own} {tp : List (V × PyData)} {Q R : VK} {v : V} {b : Bool} {T : String} {vs : List V} {ds : List PyData} {c : Bool} {i : Int} {s : Str}
theorem h_isi (h : rIsi K vs H R) : rIsi K vs H R := h
theorem x_isiB (k : kitB "bool" T = some b) (q : R (.bl b) H) : rIsi K [.bl c, .ty T] H R := ⟨.bl c, .ty T, _, _, b, rfl, .ty _, .base (.bl c), kit_ty k, q⟩
theorem x_isiI (k : kitB "int" T = some b) (q : R (.bl b) H) : rIsi K [.int i, .ty T] H R := ⟨.int i, .ty T, _, _, b, rfl, .ty _, .base (.int i), kit_ty k, q⟩
theorem x_isiS (k : kitB "str" T = some b) (q : R (.bl b) H) : rIsi K [.str s, .ty T] H R := ⟨.str s, .ty T, _, _, b, rfl, .ty _, .base (.str s), kit_ty k, q⟩
theorem x_isiN (k : kitB "NoneType" T = some b) (q : R (.bl b) H) : rIsi K [.non, .ty T] H R := ⟨.non, .ty T, _, _, b, rfl, .ty _, .base .non, kit_ty k, q⟩
theorem x_isiT (S : Ds K C B σ H M ρ w tp) (ht : Tm tp v (.tuple ds)) (k : kitB "tuple" T = some b) (q : R (.bl b) H) : rIsi K [v, .ty T] H R := by
  obtain ⟨p, xs, rfl, h1, h2⟩ := dp_tup (ht.dp S)
  exact ⟨.ref p, .ty T, _, _, b, rfl, .ty _, tyT (Same.seqT S.sub h1), kit_ty k, q⟩
end
end Pf
namespace Pf
open PySem PySem.Spec PyProof.Rows L2
/-! the law -/
def spLaw (K : PySem.W.Frag) : Sp := fun vs H Q _ => ∃ (a : Addr) (ns : List Int), vs = [.ref a] ∧ SqL K H a (ns.map V.int) ∧ ns.length ≤ 63 ∧ ∀ H', Q (.bl true) H'
section
variable {P : Program} {w : World} {K : PySem.W.Frag} {mg : Str → Option Value} {base : Heap}
theorem law_go {x qual : Str} {st : Stmt} {f : Addr} {fd : FuncData} {N : List Str} {k : Nat} (F : Fun K x qual st f fd) (S : FnScope N ["script"] (defScope st))
    (hbody : ∀ (cdv : Value) (A : Around) (outer : List Env) (s : Shared) (H : Hp) (vs : List V) (Q : VK) (E : XK) (ns : List Int), Room k (A.deeper (envOfC qual (defScope st) s.heap.objs.size f cdv)) → ns.length ≤ 63 →
      Ds K ⟨H, H, []⟩ H (L2.start N vs) H H ([.d (.list (ns.map .int))] ++ List.replicate (N.length - [Sl.d (.list (ns.map .int))].length) .u) [] [] → (∀ H', Q (.bl true) H') →
      ∃ t, PSs (cxOf CX0 P w K mg base N qual (defScope st) f cdv A outer s H E).nox (defBody st) t ∧ t { nx := fun _ H' => Q .non H', rt := Q } (L2.start N vs) H) : FnOk P w K mg base CX0 (k + 1) f fd ["script"] (spLaw K) := by
  refine F.ok S (fun vs H Q E h => ?_) (fun cdv A outer s H vs Q E hr h => ?_)
  · obtain ⟨a, ns, rfl, _⟩ := h
    rfl
  · obtain ⟨a, ns, rfl, hS, h63, q⟩ := h
    have hs : ∀ ns : List Int, DpAll K H (ns.map V.int) (ns.map PyData.int) := fun ns => by
      induction ns with
      | nil => exact .nil
      | cons n ns ih => exact .cons (.int n) ih
    exact hbody cdv A outer s H _ Q E ns hr h63 (Ds.init (w := []) (Same.refl _) (.cons (Dp.lst hS (hs ns)) .nil) (fun _ h => nomatch h) List.nodup_nil) q
end
/-! a plain tuple of a list -/
def rTupF (K : PySem.W.Frag) : List V → Hp → VK → Prop := fun xs H Q => ∃ p ys, xs = [.ref p] ∧ SqL K H p ys ∧ ∀ l o, H l = none → PlainT o → Q (.ref l) (upd H l (.frz o (.tup ys)))
theorem call_tupFD {X : Cx} {K : PySem.W.Frag} (h : X.K = K := by rfl) : CallR X (.type "tuple") (rTupF K) := by
  subst h
  exact call_tupleF
section
variable {K : PySem.W.Frag} {C : Fx} {B : Hp} {σ : L2.St} {H M : Hp} {ρ : List Sl} {w w' : Own} {tp : List (V × PyData)} {Q R : VK} {v : V} {ds : List PyData} {p : Addr}
theorem h_tupF {vs : List V} (h : rTupF K vs H R) : rTupF K vs H R := h
theorem Ds.newF {p : Addr} {o : Obj} {vs : List V} (S : Ds K C B σ H M ρ w tp) (hp : H p = none) (hv : DpAll K M vs ds) : Ds K C B σ (upd H p (.frz o (.tup vs))) (upd M p (.frz o (.tup vs))) ρ w ((.ref p, .tuple ds) :: tp) := by
  have hm : M p = none := S.sub.free hp
  have e := Same.new (.frz o (.tup vs)) hm
  refine (S.pure ⟨fun b u _ h => Same.new _ hp b u h, fun b h => ?_, e, fun b u h => ?_, fun b h1 h2 => ?_⟩).push (.tup (.inl (.inr ⟨o, upd_same⟩)) (DpAll.same e hv))
  · by_cases q : b = p
    · rw [q, upd_same]
      exact fun z => nomatch z
    · rw [upd_ne q]
      exact h
  · by_cases q : b = p
    · rw [q, upd_same] at h
      rw [q, upd_same]
      exact h
    · rw [upd_ne q] at h
      rw [upd_ne q]
      exact S.sub b u h
  · rw [upd_ne (fun q => h2 (by rw [q]; exact hp))]
    exact h1
theorem x_tupFL (S : Ds K C B σ H M ρ w tp) (ht : Tm tp v (.list ds)) (q : ∀ l H' M', FzT K M' l → Ds K C B σ H' M' ρ w ((.ref l, .tuple ds) :: tp) → R (.ref l) H') : rTupF K [v] H R := by
  obtain ⟨p, xs, rfl, h1, h2⟩ := dp_lst (ht.dp S)
  exact ⟨p, xs, rfl, S.sub.seq h1, fun l o hl ho => q l _ _ (.inl ⟨o, _, upd_same, ho⟩) (S.newF hl h2)⟩
/-- an own list in a slot is data from now on -/
theorem Ds.frozen {i : Nat} (S : Ds K C B σ H M ρ ((p, .lst ds) :: w) tp) (hi : ρ[i]? = some (.v (.ref p))) (hO : p ∉ C.O) : ∃ M', Ds K C B σ H M' (ρ.set i (.d (.list ds))) w [] := by
  obtain ⟨v, h1, h2⟩ := S.get hi (fun z => nomatch z)
  cases (show v = .ref p from h2)
  obtain ⟨M', S'⟩ := S.freeze hO
  exact ⟨M', S'.clr.slot h1 (S'.tm (.ref p, .list ds) (List.mem_cons_self ..))⟩
end
end Pf
namespace Pf
open PySem PySem.Spec PyProof.Rows L2
/-! a list or a tuple that is walked -/
def iSeq (K : PySem.W.Frag) (te : TE) : TI := fun σ H R => iList K te σ H R ∨ iTup K te σ H R
theorem pi_seqD {X : Cx} {tg l : Expr} {tl : TE} {K : PySem.W.Frag} (hl : PE X l tl) (h : X.K = K := by rfl) : PI X tg l (iSeq K tl) := by
  subst h
  exact ⟨fun pins s σ H R I q => q.elim ((pi_list hl).run pins s σ H R I) ((pi_tup hl).run pins s σ H R I)⟩
section
variable {K : PySem.W.Frag} {σ : L2.St} {H : Hp} {Q : VK} {te : TE} {tt : TT} {g : TG} {t : TS} {tb : TE} {vs : List Nat} {D : Ends}
theorem x_fSL (h : tFor (iList K te) g t D σ H) : tFor (iSeq K te) g t D σ H := .inl h
theorem x_fST (h : tFor (iTup K te) g t D σ H) : tFor (iSeq K te) g t D σ H := .inr h
theorem x_lcSL (h : tLc (iList K te) g tt tb vs σ H Q) : tLc (iSeq K te) g tt tb vs σ H Q := .inl h
theorem x_lcST (h : tLc (iTup K te) g tt tb vs σ H Q) : tLc (iSeq K te) g tt tb vs σ H Q := .inr h
end
/-- a list's or a tuple's data -/
def seqD : Bool → List PyData → PyData
  | true, ds => .tuple ds
  | false, ds => .list ds
end Pf

namespace Pf
open PySem PySem.Spec PyProof.Rows L2
/-! further data rules: own lists put together, a list or a tuple of a slot -/
section
variable {K : PySem.W.Frag} {C : Fx} {B : Hp} {σ : L2.St} {H M H' M' : Hp} {ρ ρ' : List Sl} {w w' : Own} {tp : List (V × PyData)} {Q R : VK} {D : Ends} {te : TE} {tb : TS} {g : TG} {v : V} {ds es : List PyData} {p q : Addr} {b : Bool} {i : Nat}
theorem Ds.subw (S : Ds K C B σ H M ρ w tp) (h : w'.Sublist w) : Ds K C B σ H M ρ w' tp :=
  { S with own := fun p hp => S.own p (h.subset hp), nd := (h.map (·.1)).nodup S.nd, ow := fun p hp => S.ow p (h.subset hp) }
theorem Ds.perm (S : Ds K C B σ H M ρ w tp) (h : w'.Perm w) : Ds K C B σ H M ρ w' tp :=
  { S with own := fun p hp => S.own p (h.mem_iff.mp hp), nd := (h.map (·.1)).nodup_iff.mpr S.nd, ow := fun p hp => S.ow p (h.mem_iff.mp hp) }
theorem dpAll_cat : ∀ {vs us : List V} {ds es : List PyData}, DpAll K M vs ds → DpAll K M us es → DpAll K M (vs ++ us) (ds ++ es)
  | _, _, _, _, .nil, h => h
  | _, _, _, _, .cons a t, h => .cons a (dpAll_cat t h)
theorem x_cat (j k : Nat) (S : Ds K C B σ H M ρ w tp) (hj : w[j]? = some (p, .lst ds)) (hk : w[k]? = some (q, .lst es)) (hl : ds.length + es.length ≤ sizeLine)
    (z : ∀ a H', Ds K C B σ H' M ρ ((a, .lst (ds ++ es)) :: w) tp → R (.ref a) H') : rCat (.ref p) (.ref q) H R := by
  obtain ⟨_, xs, h1, h2⟩ := S.own _ (List.mem_of_getElem? hj)
  obtain ⟨_, ys, h3, h4⟩ := S.own _ (List.mem_of_getElem? hk)
  exact ⟨p, q, xs, ys, rfl, rfl, h1, h3, by rw [dpAll_len h2, dpAll_len h4]; exact hl, fun a ha => z a _ (S.newL ha (dpAll_cat h2 h4))⟩
theorem h_lsOf {vs : List V} (h : rLstOf K vs H R) : rLstOf K vs H R := h
theorem x_lsS (S : Ds K C B σ H M ρ w tp) (ht : Tm tp v (seqD b ds)) (q : ∀ l H', Ds K C B σ H' M ρ ((l, .lst ds) :: w) tp → R (.ref l) H') : rLstOf K [v] H R := by
  cases b with
  | true => exact x_lsT S ht q
  | false => exact x_lsL S ht q
theorem x_forSV (I : Nat → List Sl → Own → Prop) (S : Ds K C B σ H M ρ w tp) (hi : ρ[i]? = some (.d (seqD b ds))) (h0 : I 0 ρ w)
    (hs : ∀ i d ρ1 w1, ds[i]? = some d → I i ρ1 w1 → ∀ u σ1 H1 M1, Ds K C M σ1 H1 M1 ρ1 w1 [(u, d)] → g u σ1 H1 fun σ2 H2 => tb { D with nx := Nx K C M I (i + 1), ct := Nx K C M I (i + 1), bk := D.nx } σ2 H2)
    (hd : ∀ ρ1 w1, I ds.length ρ1 w1 → ∀ σ1 H1 M1, Ds K C B σ1 H1 M1 ρ1 w1 [] → D.nx σ1 H1) : tFor (iSeq K (tVar i)) g tb D σ H := by
  cases b with
  | true => exact x_fST (x_fT (x_var S hi (x_gP S fun v S => x_forT I S (.m (List.mem_cons_self ..)) h0 hs hd)))
  | false => exact x_fSL (x_fL (x_var S hi (x_gP S fun v S => x_forL I S (.m (List.mem_cons_self ..)) h0 hs hd)))
end
end Pf
namespace Pf
open PySem PySem.Spec PyProof.Rows L2
/-! lists and tuples of such data are such data -/
section
variable {α : Type} [DecidableEq α] {f : α → PyData}
theorem Enc.eqs (e : Enc f) : ∀ xs ys : List α, PyData.eqv (.list (xs.map f)) (.list (ys.map f)) = decide (xs = ys)
  | [], [] => by
    show true = _
    exact (decide_eq_true rfl).symm
  | [], _ :: _ => by rfl
  | _ :: _, [] => by rfl
  | x :: xs, y :: ys => by
    show (PyData.eqv (f x) (f y) && PyData.eqv (.list (xs.map f)) (.list (ys.map f))) = _
    rw [e.eq, eqs e xs ys]
    simp
theorem Enc.eqt (e : Enc f) : ∀ xs ys : List α, PyData.eqv (.tuple (xs.map f)) (.tuple (ys.map f)) = decide (xs = ys)
  | [], [] => by
    show true = _
    exact (decide_eq_true rfl).symm
  | [], _ :: _ => by rfl
  | _ :: _, [] => by rfl
  | x :: xs, y :: ys => by
    show (PyData.eqv (f x) (f y) && PyData.eqv (.tuple (xs.map f)) (.tuple (ys.map f))) = _
    rw [e.eq, eqt e xs ys]
    simp
theorem Enc.list (e : Enc f) : Enc (fun xs : List α => PyData.list (xs.map f)) := ⟨e.eqs, e.layAll⟩
theorem Enc.tuple (e : Enc f) : Enc (fun xs : List α => PyData.tuple (xs.map f)) := ⟨e.eqt, e.layAll⟩
theorem Enc.int : Enc PyData.int := ⟨fun a b => by
  show (a == b) = _
  rw [Bool.eq_iff_iff]
  simp, fun _ => rfl⟩
theorem depth_all {n : Nat} : ∀ {xs : List α}, (∀ x ∈ xs, (f x).depth ≤ n) → PyData.depthAll (xs.map f) ≤ n
  | [], _ => Nat.zero_le _
  | x :: xs, h => by
    have h1 := h x (List.mem_cons_self ..)
    have h2 := depth_all fun y hy => h y (List.mem_cons_of_mem _ hy)
    show max (f x).depth (PyData.depthAll (xs.map f)) ≤ n
    omega
theorem depth_list {n : Nat} {xs : List α} (h : ∀ x ∈ xs, (f x).depth ≤ n) : (PyData.list (xs.map f)).depth ≤ n + 1 := Nat.succ_le_succ (depth_all h)
theorem depth_tuple {n : Nat} {xs : List α} (h : ∀ x ∈ xs, (f x).depth ≤ n) : (PyData.tuple (xs.map f)).depth ≤ n + 1 := Nat.succ_le_succ (depth_all h)
end
end Pf

namespace Pf
open PySem PySem.Spec PyProof.Rows L2
/-! while, pop, extend, any and all, comprehensions with two names -/
theorem fold_get {α : Type} (a : α) : ∀ (vs : List Nat) (l : List α) (j : Nat), (vs.foldr (fun k r => r.set k a) l)[j]? = if j ∈ vs then (l[j]?).map (fun _ => a) else l[j]?
  | [], l, j => by simp
  | v :: vs, l, j => by
    show ((vs.foldr (fun k r => r.set k a) l).set v a)[j]? = _
    rw [List.getElem?_set]
    have ih := fold_get a vs l
    have hl : (vs.foldr (fun k r => r.set k a) l).length = l.length := by
      clear ih
      induction vs with
      | nil => rfl
      | cons v vs ih => show ((vs.foldr (fun k r => r.set k a) l).set v a).length = _; rw [List.length_set, ih]
    by_cases e : v = j
    · subst e
      rw [if_pos rfl, if_pos (List.mem_cons_self ..), hl]
      by_cases h : v < l.length
      · rw [if_pos h, List.getElem?_eq_getElem h]
        rfl
      · rw [if_neg h, List.getElem?_eq_none (by omega)]
        rfl
    · rw [if_neg e, ih]
      have : (j ∈ v :: vs) ↔ j ∈ vs := by
        rw [List.mem_cons]
        exact ⟨fun z => z.resolve_left fun q => e q.symm, .inr⟩
      by_cases h : j ∈ vs
      · rw [if_pos h, if_pos (this.mpr h)]
      · rw [if_neg h, if_neg fun z => h (this.mp z)]
theorem fold_set {α : Type} {a x : α} {vs : List Nat} {k : Nat} {l : List α} (h : k ∈ vs) : vs.foldr (fun k r => r.set k a) (l.set k x) = vs.foldr (fun k r => r.set k a) l := by
  apply List.ext_getElem?
  intro j
  rw [fold_get, fold_get]
  by_cases e : j ∈ vs
  · rw [if_pos e, if_pos e, List.getElem?_set]
    by_cases q : k = j
    · subst q
      rw [if_pos rfl]
      by_cases h2 : k < l.length
      · rw [if_pos h2, List.getElem?_eq_getElem h2]
        rfl
      · rw [if_neg h2, List.getElem?_eq_none (by omega)]
    · rw [if_neg q]
  · rw [if_neg e, if_neg e, List.getElem?_set_ne (fun (q : k = j) => e (q ▸ h))]
theorem fold_fold {α : Type} {a : α} {vs : List Nat} {l : List α} : vs.foldr (fun k r => r.set k a) (vs.foldr (fun k r => r.set k a) l) = vs.foldr (fun k r => r.set k a) l := by
  apply List.ext_getElem?
  intro j
  rw [fold_get, fold_get]
  by_cases e : j ∈ vs
  · rw [if_pos e, if_pos e, Option.map_map]
    rfl
  · rw [if_neg e, if_neg e]
theorem wipe_fold {σ : L2.St} : ∀ vs : List Nat, wipe σ vs = vs.foldr (fun k r => r.set k none) σ
  | [] => rfl
  | v :: vs => by
    show (wipe σ vs).set v none = (vs.foldr (fun k r => r.set k none) σ).set v none
    rw [wipe_fold vs]
/-- the own names of a block know nothing -/
def uset (vs : List Nat) (ρ : List Sl) : List Sl := vs.foldr (fun k r => r.set k .u) ρ
def WhB (K : PySem.W.Frag) (C : Fx) (B : Hp) (I : Nat → List Sl → Own → Prop) (m : Nat) (tb : TS) (D : Ends) (σ1 : L2.St) (b : Bool) (H1 : Hp) : Prop :=
  if b = true then ∃ N : L2.St → Hp → Prop, (∀ σ' H', N σ' H' → ∃ m', m' < m ∧ ∃ M ρ w, I m' ρ w ∧ Ds K C B σ' H' M ρ w []) ∧ tb { D with nx := N, ct := N, bk := D.nx } σ1 H1 else D.nx σ1 H1
/-- what a turn of a while reaches -/
def Wx (K : PySem.W.Frag) (C : Fx) (B : Hp) (I : Nat → List Sl → Own → Prop) (m : Nat) : L2.St → Hp → Prop := fun σ' H' => ∃ m', m' < m ∧ ∃ M ρ w, I m' ρ w ∧ Ds K C B σ' H' M ρ w []
section
variable {K : PySem.W.Frag} {C : Fx} {B : Hp} {σ : L2.St} {H M H' M' : Hp} {ρ ρ' ρ2 : List Sl} {w w' : Own} {tp : List (V × PyData)} {Q R : VK} {D : Ends} {te : TE} {tt : TT} {tb : TS} {g : TG} {v y : V} {ds es acc : List PyData} {d : PyData} {p q : Addr} {b : Bool} {i m m' : Nat} {I : Nat → List Sl → Own → Prop} {vs : List Nat}
theorem x_while (I : Nat → List Sl → Own → Prop) (m : Nat) (S : Ds K C B σ H M ρ w tp) (h0 : I m ρ w)
    (hs : ∀ m ρ1 w1, I m ρ1 w1 → ∀ σ1 H1 M1, Ds K C B σ1 H1 M1 ρ1 w1 [] → tt σ1 H1 (WhB K C B I m tb D σ1)) : tWhile tt tb D σ H := by
  refine ⟨fun m σ H => ∃ M ρ w, I m ρ w ∧ Ds K C B σ H M ρ w [], ⟨m, M, ρ, w, h0, S.clr⟩, ?_⟩
  rintro m σ1 H1 ⟨M1, ρ1, w1, h, S1⟩
  exact hs m ρ1 w1 h σ1 H1 M1 S1
theorem x_whB (h1 : b = true → tb { D with nx := Wx K C B I m, ct := Wx K C B I m, bk := D.nx } σ H) (h2 : b = false → D.nx σ H) : WhB K C B I m tb D σ b H := by
  unfold WhB
  cases b with
  | true => exact ⟨Wx K C B I m, fun _ _ h => h, h1 rfl⟩
  | false => exact h2 rfl
theorem Wx.at {ρ' : List Sl} (m' : Nat) (S : Ds K C B σ H M ρ w tp) (hl : SlLe ρ ρ') (hm : m' < m) (h : I m' ρ' w) : Wx K C B I m σ H := ⟨m', hm, M, ρ', w, h, S.clr.weak hl⟩
theorem dpAll_dropLast : ∀ {xs : List V} {ds : List PyData}, DpAll K M xs ds → DpAll K M xs.dropLast ds.dropLast
  | _, _, .nil => .nil
  | _, _, .cons _ .nil => .nil
  | _, _, .cons a (.cons b t) => .cons a (dpAll_dropLast (.cons b t))
theorem dpAll_snoc {xs : List V} (h : DpAll K M xs (ds ++ [d])) : ∃ v, xs[xs.length - 1]? = some v ∧ Dp K M v d := by
  have h1 := dpAll_len h
  rw [List.length_append, List.length_singleton] at h1
  obtain ⟨v, h2, h3⟩ := dpAll_get h (xs.length - 1) d (by rw [show xs.length - 1 = ds.length by omega, List.getElem?_append_right (Nat.le_refl _), Nat.sub_self]; rfl)
  exact ⟨v, h2, h3⟩
/-- p.pop(), p an own list in a slot -/
theorem x_pop (j : Nat) (S : Ds K C B σ H M ρ w tp) (h : ρ[i]? = some (.v (.ref p))) (hj : w[j]? = some (p, .lst (ds ++ [d]))) (hw : SetAt w j (p, .lst ds) w') (z : ∀ v H', Ds K C B σ H' M ρ w' ((v, d) :: tp) → Q v H') : tBM0 K "list" rPop (tVar i) σ H Q := by
  obtain ⟨v, h1, h2⟩ := S.get h (fun z => nomatch z)
  cases (show v = .ref p from h2)
  obtain ⟨_, xs, h3, h4⟩ := S.own _ (List.mem_of_getElem? hj)
  obtain ⟨v, h5, h6⟩ := dpAll_snoc h4
  have h7 := dpAll_dropLast h4
  rw [List.dropLast_concat] at h7
  refine ⟨_, h1, .inl ⟨rfl, xs, .of h3⟩, p, xs, v, rfl, rfl, h3, h5, z v _ ?_⟩
  rw [hw.eq]
  exact (S.mut (od' := .lst ds) hj ⟨_, upd_same, h7⟩).push h6
def ExtK (Q : VK) (x y : V) (H2 : Hp) : Prop := rExtend x [y] H2 Q
theorem x_ext (S : Ds K C B σ H M ρ w tp) (h : ρ[i]? = some (.v (.ref p))) (j : Nat) (hj : w[j]? = some (p, .lst ds)) (z : te σ H fun y H2 => ExtK Q (.ref p) y H2) : tBM K "list" rExtend (tVar i) (tCons te tNil) σ H Q := by
  obtain ⟨v, h1, h2⟩ := S.get h (fun z => nomatch z)
  cases (show v = .ref p from h2)
  obtain ⟨_, vs, h3, _⟩ := S.own _ (List.mem_of_getElem? hj)
  exact ⟨_, h1, .inl ⟨rfl, vs, .of h3⟩, z⟩
theorem h_ext (h : tBM K "list" rExtend (tVar i) (tCons te tNil) σ H Q) : tBM K "list" rExtend (tVar i) (tCons te tNil) σ H Q := h
theorem x_extK (j k : Nat) (S : Ds K C B σ H M ρ w tp) (hj : w[j]? = some (p, .lst ds)) (hk : w[k]? = some (q, .lst es)) (hl : ds.length + es.length ≤ sizeLine) (hw : SetAt w j (p, .lst (ds ++ es)) w') (z : ∀ H', Ds K C B σ H' M ρ w' tp → Q .non H') : ExtK Q (.ref p) (.ref q) H := by
  obtain ⟨_, xs, h1, h2⟩ := S.own _ (List.mem_of_getElem? hj)
  obtain ⟨_, ys, h3, h4⟩ := S.own _ (List.mem_of_getElem? hk)
  refine ⟨p, q, xs, ys, rfl, rfl, h1, h3, by rw [dpAll_len h2, dpAll_len h4]; exact hl, z _ ?_⟩
  rw [hw.eq]
  exact S.mut hj ⟨_, upd_same, dpAll_cat h2 h4⟩
theorem dpAll_bls : ∀ {xs : List V} {bs : List Bool}, DpAll K M xs (bs.map .bool) → xs = bs.map V.bl
  | _, [], .nil => rfl
  | _, _ :: _, .cons h t => by
    cases h
    rw [dpAll_bls t]
    rfl
theorem h_any {vs : List V} (h : rAny K vs H R) : rAny K vs H R := h
theorem h_all {vs : List V} (h : rAll K vs H R) : rAll K vs H R := h
theorem x_anyO {bs : List Bool} (j : Nat) (S : Ds K C B σ H M ρ w tp) (hj : w[j]? = some (p, .lst (bs.map .bool))) (z : R (.bl (bs.any id)) H) : rAny K [.ref p] H R := by
  obtain ⟨_, xs, h1, h2⟩ := S.own _ (List.mem_of_getElem? hj)
  rw [dpAll_bls h2] at h1
  exact ⟨p, bs, rfl, .of h1, z⟩
theorem x_allO {bs : List Bool} (j : Nat) (S : Ds K C B σ H M ρ w tp) (hj : w[j]? = some (p, .lst (bs.map .bool))) (z : R (.bl (bs.all id)) H) : rAll K [.ref p] H R := by
  obtain ⟨_, xs, h1, h2⟩ := S.own _ (List.mem_of_getElem? hj)
  rw [dpAll_bls h2] at h1
  exact ⟨p, bs, rfl, .of h1, z⟩
theorem x_anyL {bs : List Bool} (S : Ds K C B σ H M ρ w tp) (ht : Tm tp v (.list (bs.map .bool))) (z : R (.bl (bs.any id)) H) : rAny K [v] H R := by
  obtain ⟨p, xs, rfl, h1, h2⟩ := dp_lst (ht.dp S)
  rw [dpAll_bls h2] at h1
  exact ⟨p, bs, rfl, S.sub.seq h1, z⟩
theorem x_allL {bs : List Bool} (S : Ds K C B σ H M ρ w tp) (ht : Tm tp v (.list (bs.map .bool))) (z : R (.bl (bs.all id)) H) : rAll K [v] H R := by
  obtain ⟨p, xs, rfl, h1, h2⟩ := dp_lst (ht.dp S)
  rw [dpAll_bls h2] at h1
  exact ⟨p, bs, rfl, S.sub.seq h1, z⟩
/-! comprehensions with two names -/
theorem rew2 {B : Hp} {k1 k2 : Nat} {x y : V} {s t : Sl} (m1 : k1 ∈ vs) (m2 : k2 ∈ vs) : Rew K C B (((wipe σ vs).set k1 (some x)).set k2 (some y)) (((uset vs ρ).set k1 s).set k2 t) (wipe σ vs) (uset vs ρ) := fun S => by
  have S1 := S.clr.wiped vs
  rw [wipe_fold, wipe_fold, fold_set m2, fold_set m1, fold_fold, fold_set m2, fold_set m1] at S1
  rw [wipe_fold]
  have : uset vs (uset vs ρ) = uset vs ρ := fold_fold
  exact this ▸ S1
theorem wipe2 {k1 k2 : Nat} {x y : Option V} (m1 : k1 ∈ vs) (m2 : k2 ∈ vs) : wipe (((wipe σ vs).set k1 x).set k2 y) vs = wipe σ vs := by
  rw [wipe_fold, wipe_fold, fold_set m2, fold_set m1, fold_fold]
theorem x_lc2T {k1 k2 : Nat} (I : Nat → List PyData → Own → Prop) (m1 : k1 ∈ vs) (m2 : k2 ∈ vs) (S : Ds K C B σ H M ρ w tp) (ht : Tm tp v (.tuple ds)) (hd2 : ∀ d ∈ ds, ∃ d1 d2, d = .tuple [d1, d2]) (h0 : I 0 [] w)
    (hs : ∀ i d1 d2 acc w1, ds[i]? = some (.tuple [d1, d2]) → I i acc w1 → ∀ D σ1 H1 M1, Rew K C M σ1 (((uset vs ρ).set k1 (.d d1)).set k2 (.d d2)) (wipe σ vs) (uset vs ρ) → Ds K C M σ1 H1 M1 (((uset vs ρ).set k1 (.d d1)).set k2 (.d d2)) ((D, .lst acc) :: w1) [] → tt σ1 H1 fun b H3 => if b = true then te σ1 H3 (LcA (LcN K C M I (wipe σ vs) (uset vs ρ) D (i + 1)) D) else LcN K C M I (wipe σ vs) (uset vs ρ) D (i + 1) H3)
    (hd : ∀ acc w1, I ds.length acc w1 → ∀ D H1 M1, Ds K C B σ H1 M1 ρ ((D, .lst acc) :: w1) tp → Q (.ref D) H1) : ForT K (LcB (gTup K 2 (gCons (gName k1) (gCons (gName k2) gNil))) tt te vs Q σ) v H := by
  obtain ⟨p, xs, rfl, h1, h2⟩ := dp_tup (ht.dp S)
  refine ⟨p, rfl, ⟨xs, Same.seqT S.sub h1⟩, fun D hD => lc_tup (xs := xs) (LcN K C M I (wipe σ vs) (uset vs ρ) D) ?_ (fun i H1 _ q => ?_) (fun i x H1 hx q => ?_) (fun H1 q => ?_)⟩
  · exact ⟨M, [], w, h0, (S.base.clr.wiped vs).newL hD .nil⟩
  · obtain ⟨M1, acc, w1, _, S1⟩ := q
    exact Same.seqT (S1.bs.trans S1.sub) h1
  · obtain ⟨M1, acc, w1, q, S1⟩ := q
    have hi : i < ds.length := by rw [← dpAll_len h2]; exact (List.getElem?_eq_some_iff.mp hx).1
    have e := List.getElem?_eq_getElem hi
    have dd : Dp K M1 x ds[i] := Dp.same S1.bs (dpAll_at h2 i x _ hx e)
    obtain ⟨d1, d2, e2⟩ := hd2 ds[i] (List.getElem_mem hi)
    rw [e2] at dd e
    refine x_gT2 (S1.push dd) (.m (List.mem_cons_self ..)) fun y z S2 => ?_
    have hy : Dp K M1 y d1 := S2.tm (y, d1) (List.mem_cons_self ..)
    have hz : Dp K M1 z d2 := S2.tm (z, d2) (List.mem_cons_of_mem _ (List.mem_cons_self ..))
    have S3 := ((S2.clr.set (i := k1) (v := y) (s := .d d1) hy).set (i := k2) (v := z) (s := .d d2) hz)
    exact ⟨wipe2 m1 m2, hs i d1 d2 acc w1 e q D _ H1 M1 (rew2 m1 m2) S3⟩
  · obtain ⟨M1, acc, w1, q, S1⟩ := q
    exact hd acc w1 (dpAll_len h2 ▸ q) D H1 M1 (S.outof S1)
end
abbrev memD {α : Type} [DecidableEq α] (x : α) (xs : List α) : Bool := decide (x ∈ xs)
section
variable {K : PySem.W.Frag} {C : Fx} {B : Hp} {σ : L2.St} {H M H' M' : Hp} {ρ ρ' : List Sl} {w w' : Own} {tp : List (V × PyData)} {Q R : VK} {te ta : TE} {v x y : V} {a : Addr}
variable {α : Type} [DecidableEq α] {f : α → PyData} {xs : List α} {c : α} {b : Bool}
theorem z_inT (e : Enc f) (S : Ds K C B σ H M ρ w tp) (hx : Tm tp x (f c)) (hy : Tm tp y (.tuple (xs.map f))) (hd : (f c).depth ≤ 64) (hb : memD c xs = b) (q : R (.bl b) H) : rInX K false x y H R := y_inT e S hx hy hd (by rw [show decide (c ∈ xs) = b from hb]; exact q)
theorem z_inL (e : Enc f) (S : Ds K C B σ H M ρ w tp) (hx : Tm tp x (f c)) (hy : Tm tp y (.list (xs.map f))) (hd : (f c).depth ≤ 64) (hb : memD c xs = b) (q : R (.bl b) H) : rInX K false x y H R := y_inL e S hx hy hd (by rw [show decide (c ∈ xs) = b from hb]; exact q)
theorem z_inO (e : Enc f) (j : Nat) (S : Ds K C B σ H M ρ w tp) (hj : w[j]? = some (a, .lst (xs.map f))) (hx : Tm tp x (f c)) (hd : (f c).depth ≤ 64) (hb : memD c xs = b) (q : R (.bl b) H) : rInX K false x (.ref a) H R := y_inO e j S hj hx hd (by rw [show decide (c ∈ xs) = b from hb]; exact q)
theorem x_sel {ys : List α} {i j : Nat} (S : Ds K C B σ H M ρ w tp) (h1 : ρ[i]? = some (.d (.list (xs.map f)))) (h2 : ρ[j]? = some (.d (.list (ys.map f)))) (q : Giv K M H R (.list ((if b = true then xs else ys).map f))) : if b = true then tVar i σ H R else tVar j σ H R := by
  cases b with
  | true => exact x_var S h1 q
  | false => exact x_var S h2 q
end
end Pf

namespace Pf
open PySem PySem.Spec PyProof.Rows L2
/-- a method that keeps a promise -/
structure Mt (P : Program) (w : World) (K : PySem.W.Frag) (mg : Str → Option Value) (base : Heap) (k : Nat) (C : Addr) (m : Str) (f : Addr) (fd : FuncData) (ps : List Str) (sp : Sp) : Prop where
  F : FnOk P w K mg base CX0 k f fd ps sp
  M : Meth K C m f
  b : Binds K fd ps []
/-- a class that is made by an __init__ that keeps a promise -/
structure MkC (P : Program) (w : World) (K : PySem.W.Frag) (mg : Str → Option Value) (base : Heap) (k : Nat) (C : Addr) (f : Addr) (fd : FuncData) (ps : List Str) (sp : Sp) : Prop where
  F : FnOk P w K mg base CX0 k f fd ps sp
  M : Mk K C f
  b : Binds K fd ps []
/-- a def that a name may hold -/
structure Fxx (P : Program) (w : World) (K : PySem.W.Frag) (mg : Str → Option Value) (base : Heap) (k : Nat) (f : Addr) (fd : FuncData) (ps : List Str) (sp : Sp) : Prop where
  F : FnOk P w K mg base CX0 k f fd ps sp
  k : PySem.W.keepIn K (.ref f) = true
  b : Binds K fd ps []
theorem Df.fx {P : Program} {w : World} {K : PySem.W.Frag} {mg : Str → Option Value} {base : Heap} {x : Str} {st : Stmt} {f : Addr} {fd : FuncData} {ps N : List Str} {k : Nat} {sp : Sp} (D : Df K mg x st f fd ps) (S : FnScope N ps (defScope st)) (len : ∀ vs H Q E, sp vs H Q E → vs.length = ps.length)
    (hbody : ∀ (cdv : Value) (A : Around) (outer : List Env) (s : Shared) (H : Hp) (vs : List V) (Q : VK) (E : XK), Room k (A.deeper (envOfC x (defScope st) s.heap.objs.size f cdv)) → sp vs H Q E →
      ∃ t, PSs (cxOf CX0 P w K mg base N x (defScope st) f cdv A outer s H E).nox (defBody st) t ∧ t { nx := fun _ H' => Q .non H', rt := Q } (start N vs) H) : Fxx P w K mg base (k + 1) f fd ps sp :=
  ⟨D.fn.ok S len hbody, D.kp, D.bd⟩
theorem Df.of {P : Program} {w : World} {K : PySem.W.Frag} {mg : Str → Option Value} {base : Heap} {x : Str} {st : Stmt} {f : Addr} {fd : FuncData} {ps : List Str} {k : Nat} {sp : Sp} (D : Df K mg x st f fd ps) (h : Fxx P w K mg base k f fd ps sp) : Cl P w K mg base k x sp := ⟨f, fd, ps, h.F, D.mgf, h.k, h.b⟩
structure CurC (K : PySem.W.Frag) (mg : Str → Option Value) (C : Addr) : Prop where
  cl : Cls K C
  nT : NoAttr K C "text"
  nK : NoAttr K C "tokens"
  nA : NoAttr K C "at"
  mgC : mg "Cursor" = some (.ref C)
theorem SameX.free2 {d : Addr} {H H1 H' : Hp} (s : Same H H1) (n : H d = none) (e : SameX d H1 H') : Same H H' := fun b u q => e b u (ne_of_none q n) (s b u q)
theorem lk_skip {a b : Str} {v : V} {r : List (Str × V)} (h : decide (a = b) = false) : List.lookup a ((b, v) :: r) = List.lookup a r := by
  rw [List.lookup_cons, show (a == b) = false from beq_false_of_ne (of_decide_eq_false h)]
theorem lk_hit {a : Str} {v : V} {r : List (Str × V)} : List.lookup a ((a, v) :: r) = some v := List.lookup_cons_self
def cf (t : Str) (tk : Addr) (i : Int) : List (Str × V) := [("text", .str t), ("tokens", .ref tk), ("at", .int i)]
section
variable {t : Str} {tk : Addr} {i j : Int}
theorem cf_text : (cf t tk i).lookup ("text" : Str) = some (.str t) := lk_hit
theorem cf_tokens : (cf t tk i).lookup ("tokens" : Str) = some (.ref tk) := (lk_skip (by decide +kernel)).trans lk_hit
theorem cf_at : (cf t tk i).lookup ("at" : Str) = some (.int i) := ((lk_skip (by decide +kernel)).trans (lk_skip (by decide +kernel))).trans lk_hit
theorem cf_no {m : Str} (h1 : decide (m = "text") = false) (h2 : decide (m = "tokens") = false) (h3 : decide (m = "at") = false) : (cf t tk i).lookup m = none := ((lk_skip h1).trans (lk_skip h2)).trans (lk_skip h3)
theorem tx_tk : ¬ (("text" : Str) = "tokens") := by decide +kernel
theorem tx_at : ¬ (("text" : Str) = "at") := by decide +kernel
theorem tk_at : ¬ (("tokens" : Str) = "at") := by decide +kernel
theorem cf_put : putF "at" (.int j) (cf t tk i) = cf t tk j := by
  show (if ("text" : Str) = "at" then _ else (("text" : Str), V.str t) :: (if ("tokens" : Str) = "at" then _ else (("tokens" : Str), V.ref tk) :: (if ("at" : Str) = "at" then [(("at" : Str), V.int j)] else _))) = _
  rw [if_neg tx_at, if_neg tk_at, if_pos rfl]
  rfl
theorem cf_make : putF "at" (.int i) (putF "tokens" (.ref tk) (putF "text" (.str t) [])) = cf t tk i := by
  show (putF "at" (.int i) (if ("text" : Str) = "tokens" then _ else (("text" : Str), V.str t) :: [(("tokens" : Str), V.ref tk)])) = _
  rw [if_neg tx_tk]
  show (if ("text" : Str) = "at" then _ else (("text" : Str), V.str t) :: (if ("tokens" : Str) = "at" then _ else (("tokens" : Str), V.ref tk) :: [(("at" : Str), V.int i)])) = _
  rw [if_neg tx_at, if_neg tk_at]
  rfl
end
/-- a cursor at p: the tokens ds, the place i -/
structure Cu (K : PySem.W.Frag) (C : Addr) (H : Hp) (p : Addr) (t : Str) (ds : List PyData) (i : Nat) : Prop where
  ex : ∃ (dx tk : Addr) (vs : List V), H p = some (.ins C dx (cf t tk (i : Int))) ∧ SqT K H tk vs ∧ DpAll K H vs ds
  tn : ∀ d ∈ ds, TupN 2 d
section
variable {K : PySem.W.Frag} {C : Addr} {H H' : Hp} {p : Addr} {t : Str} {ds : List PyData} {i : Nat}
theorem Cu.same (h : Cu K C H p t ds i) (e : Same H H') : Cu K C H' p t ds i := by
  obtain ⟨dx, tk, vs, h1, h2, h3⟩ := h.ex
  exact ⟨⟨dx, tk, vs, e _ _ h1, Same.seqT e h2, DpAll.same e h3⟩, h.tn⟩
theorem KT.xi {C dx : Addr} {fs : List (Str × V)} (h : H p = some (.ins C dx fs)) (e : SameX p H H') : KT K H H' := fun a ys q => by
  rcases q with (q | ⟨ob, q⟩) | q
  · exact .inl (.inl (e _ _ (ne_of q h (by intro z; cases z)) q))
  · exact .inl (.inr ⟨ob, e _ _ (ne_of q h (by intro z; cases z)) q⟩)
  · exact .inr q
theorem Cu.kt (h : Cu K C H p t ds i) (e : SameX p H H') : KT K H H' := by
  obtain ⟨dx, tk, vs, h1, _⟩ := h.ex
  exact KT.xi h1 e
/-- a tree that stands while the cursor moves -/
theorem Cu.mv {D : PyData} {n : Nat} {v : V} (h : Cu K C H p t ds i) (e : SameX p H H') (tn : TupN n D) (q : Dp K H v D) : Dp K H' v D := Dp.kt (h.kt e) tn q
end
/-- the word of the token at i -/
def wdAt (ds : List PyData) (i : Nat) (k w : Str) : Prop := ∃ o : Int, ds[i]? = some (.tuple [.str k, .str w, .int o])
end Pf

namespace Pf
open PySem PySem.Spec PyProof.Rows L2
/-! for sign in "..": text = text.replace(sign, " " + sign + " ") -/
section
variable {X : Cx} {pins : List (Addr × Obj)} {σ : L2.St} {H : Hp} {s : Shared}
theorem nsKeep {h h' : Heap} {L : Addr} {b : Addr} {o : Obj} (hs : Heap.SameBut L h h') (n : b ≠ L) (e : h.get? b = some o) : h'.get? b = some o := (hs.2 b n).trans e
/-- a local name's value, exactly known, is written -/
theorem inv_store {i : Nat} {x : Str} {v : V} {u : Value} {m : Str → Option Value} {h' : Heap} {tk : Nat} (I : Inv X pins σ H s) (hN : X.N.Nodup) (hi : X.N[i]? = some x) (hk : X.env.kindOf x = some .local) (r : RelV v u)
    (hl : ∀ (j : Nat) (y : Str) (z : V), X.N[j]? = some y → σ[j]? = some (some z) → Vis X.env.scope y → ∃ a, RelV z a ∧ Look X.env s.heap m y a)
    (hn : h'.Ns X.env.locals fun y => if y = x then some u else m y) (hs : Heap.SameBut X.env.locals s.heap h') : Inv X pins (σ.set i (some v)) H { s with heap := h', toks := tk } := by
  have lo : ∀ {b : Addr} {o : Obj}, X.s_0.heap.get? b = some o → b ≠ X.env.locals := fun e => Nat.ne_of_lt (Nat.lt_of_lt_of_le (Heap.lt_size e) I.ok.above)
  have cn := I.cne
  refine { ok := I.ok, os := I.os, bare := I.bare, base := ?_, loc := ⟨_, hn, ?_⟩, cell := ?_, free := I.free, freeC := I.freeC, pin := ?_, hok := ?_, len := ?_ }
  · refine { keep := ?_, slot := ?_, free := I.base.free, there := ?_, tups := I.base.tups, frzs := I.base.frzs, tbls := I.base.tbls }
    · exact fun b o e n1 n2 n3 => nsKeep hs (lo e) (I.base.keep b o e n1 n2 n3)
    · intro b o e n1 n2 n3
      obtain ⟨sl, q⟩ := I.base.slot b o e n1 n2 n3
      exact ⟨sl, nsKeep hs (lo e) q⟩
    · intro b o e n1
      obtain ⟨o', q⟩ := I.base.there b o e n1
      exact ⟨o', nsKeep hs (lo e) q⟩
  · intro j y z e1 e2 e3
    by_cases c : j = i
    · subst c
      cases hi.symm.trans e1
      rw [List.getElem?_set_self (by rw [I.len]; exact (List.getElem?_eq_some_iff.mp hi).1)] at e2
      cases e2
      exact ⟨u, r, .inl ⟨hk, if_pos rfl⟩⟩
    · rw [List.getElem?_set_ne (Ne.symm c)] at e2
      obtain ⟨a, ra, q⟩ := hl j y z e1 e2 e3
      have ny : y ≠ x := fun q => c (nodup_ix hN e1 (q ▸ hi))
      refine ⟨a, ra, ?_⟩
      rcases q with ⟨k, q⟩ | ⟨k, cc, q, w⟩
      · exact .inl ⟨k, (if_neg ny).trans q⟩
      · exact .inr ⟨k, cc, q, w.sameBut hs (cn y cc q)⟩
  · intro y c e
    obtain ⟨z, q⟩ := I.cell y c e
    exact ⟨z, q.sameBut hs (cn y c e)⟩
  · intro p hp
    obtain ⟨a, b, c, d, e⟩ := I.pin p hp
    exact ⟨nsKeep hs c a, b, c, d, e⟩
  · intro a o e
    refine (I.hok a o e).stay (fun c z hc q => (hs.2 c ?_).trans q) (fun _ q => q) fun _ _ q => q
    intro q
    rcases hc with hc | hc
    · rw [← hc, q, I.free] at e
      cases e
    · rw [q, I.free] at hc
      cases hc
  · show (σ.set i (some v)).length = _
    rw [List.length_set]
    exact I.len
/-- what text.replace leaves, sign by sign -/
def repS (x : Str) (c : Nat) : Str := Txt.replace x ⟨#[c]⟩ (Str.ofString " " ++ ⟨#[c]⟩ ++ Str.ofString " ")
def repAll (x : Str) (cs : List Nat) : Str := cs.foldl repS x
def tForRep (it ig : Nat) (cs : List Nat) : TS := fun D σ H => ∃ x, σ[it]? = some (some (.str x)) ∧ (∀ i, i ≤ cs.length → (repAll x (cs.take i)).length ≤ 4000000) ∧
  ∀ σ' : L2.St, σ'.length = σ.length → σ'[it]? = some (some (.str (repAll x cs))) → (∀ j, j ≠ it → j ≠ ig → σ'[j]? = σ[j]?) → D.nx σ' H
theorem repAll_step {x : Str} {cs : List Nat} {i c : Nat} (h : cs[i]? = some c) : repS (repAll x (cs.take i)) c = repAll x (cs.take (i + 1)) := by
  unfold repAll
  rw [List.take_add_one, h, List.foldl_append]
  rfl
theorem ps_forrep {it ig : Nat} {tx gx : Str} {cs : Str} {k k2 k3 : Nat} {p1 p2 p3 p4 p5 cp c2 c3 b1 b2 ap p6 ap2 pos : Pos} (hN : X.N.Nodup) (hne : it ≠ ig) (hp : PassesOwn (model X.prog X.w) X.A X.env X.xe) (hc : X.calm = true) (ht : X.N[it]? = some tx) (hg : X.N[ig]? = some gx)
    (kt : X.env.kindOf tx = some .local) (kg : X.env.kindOf gx = some .local) (vt : Vis X.env.scope tx) (vg : Vis X.env.scope gx) (asc : cs.cps.all (· < 128) = true)
    (dt : (tx == ("__debug__" : Str)) = false := by decide) (dg : (gx == ("__debug__" : Str)) = false := by decide) (ct : (tx == ("__classdict__" : Str)) = false := by decide)
    (h1 : attributeBase (.Name tx p3) "replace" X.env (eval (.Name tx p3) X.env) = eval (.Name tx p3) X.env := by rfl)
    (h2 : starEach [.Name gx p4, .BinOp (.BinOp (.Constant (.str (Str.ofString " ")) k2 c2) .Add (.Name gx p5) b1) .Add (.Constant (.str (Str.ofString " ")) k3 c3) b2] X.env = [(false, eval (.Name gx p4) X.env), (false, eval (.BinOp (.BinOp (.Constant (.str (Str.ofString " ")) k2 c2) .Add (.Name gx p5) b1) .Add (.Constant (.str (Str.ofString " ")) k3 c3) b2) X.env)] := by rfl)
    (h3 : (ap.endLine == p6.line) = true := by rfl) (h4 : ∀ x, foldedSetIterable (.Constant (.str cs) k cp) X.env x = pure x := by intro _; rfl)
    (h5 : swapsWith (.Call (.Attribute (.Name tx p3) "replace" ap) [.Name gx p4, .BinOp (.BinOp (.Constant (.str (Str.ofString " ")) k2 c2) .Add (.Name gx p5) b1) .Add (.Constant (.str (Str.ofString " ")) k3 c3) b2] [] p6) (some (.Name tx p2)) ap2.line X.env = pure false := by rfl) :
    PS X (.For (.Name gx p1) (.Constant (.str cs) k cp) [.Assign [.Name tx p2] (.Call (.Attribute (.Name tx p3) "replace" ap) [.Name gx p4, .BinOp (.BinOp (.Constant (.str (Str.ofString " ")) k2 c2) .Add (.Name gx p5) b1) .Add (.Constant (.str (Str.ofString " ")) k3 c3) b2] [] p6) ap2] [] pos) (tForRep it ig cs.cps.toList) := by
  refine ⟨fun pins s σ H D I hq => ?_⟩
  obtain ⟨x, hx, hb, q⟩ := hq
  have fp : FpOk X pins H s.heap.objs.size := I.fpOk (Nat.le_refl _) (I.hok.fresh (Nat.le_refl _))
  obtain ⟨f0, f1, f2, f3, f4, f5⟩ := fp
  have hcls : (X.env.scope.kind == .class || (X.env.scope.kind == .module && X.env.locals != X.env.globals)) = false := by rw [I.ok.kind]; rfl
  have lsp : (Str.ofString " ").length = 1 := by decide +kernel
  have l1 : ∀ c : Nat, (⟨#[c]⟩ : Str).length = 1 := fun c => rfl
  refine wpAny_For (Calls.Constant_str (wpAny_pyIter_ascii asc ?_)) h4
  generalize hitr : s.heap.objs.size = itr at *
  refine codeAny_forLoop_any (fun n s' => ∃ i σ', n = cs.cps.size - i ∧ i ≤ cs.cps.size ∧ Inv X pins σ' H s' ∧ s'.heap.IsStrIter itr "str_ascii_iterator" cs s.toks i ∧ 1 ≤ s'.toks ∧ σ'.length = σ.length ∧
    σ'[it]? = some (some (.str (repAll x (cs.cps.toList.take i)))) ∧ ∀ j, j ≠ it → j ≠ ig → σ'[j]? = σ[j]?) ?_ cs.cps.size
    ⟨0, σ, rfl, Nat.zero_le _, I.kept (fun b u e => Heap.get?_push_of_some _ e), ⟨{ cls := .type "str_ascii_iterator", data := .fields #[.str cs s.toks, .int 0 0] }, by rw [← hitr]; exact Heap.get?_push_size _ rfl, rfl, rfl⟩, by show 1 ≤ s.toks + 1; omega, rfl, hx, fun _ _ _ => rfl⟩
  rintro n s3 ⟨i, σ3, rfl, hi, I3, st, t3, l3, x3, o3⟩
  by_cases hlt : i < cs.cps.size
  · refine wpAny_passesOwn hp (wpAny_pyNext_ascii_item st (c := cs.cps[i]) (by simp [hlt]) fun h6 st4 sb4 => ?_)
    have I4 : Inv X pins σ3 H { s3 with heap := h6, toks := s3.toks + 1 } := I3.turned (fun b o hb e => sb4.extBut b o hb e) f0 f1 f3 f4 f5
    obtain ⟨m, hn, hl⟩ := I4.loc
    show wpAny _ _ (pure ()) _ _ _
    refine wpAny_pure (wpAny_passesOwn hp (wpAny_assign_Name (wpAny_storeName_local kg hn (fun h7 hn7 sb7 => ?_) hcls)))
    have I5 := inv_store (tk := s3.toks + 1 + 1) I4 hN hg kg (v := .str ⟨#[cs.cps[i]]⟩) (u := .str ⟨#[cs.cps[i]]⟩ s3.toks) ⟨_, rfl⟩ hl hn7 sb7
    have x5 : (σ3.set ig (some (V.str ⟨#[cs.cps[i]]⟩)))[it]? = some (some (.str (repAll x (cs.cps.toList.take i)))) := by rw [List.getElem?_set_ne (Ne.symm hne)]; exact x3
    refine wpAny_passesOwn hp (wpAny_execs_cons (wpAny_Assign_Name ?_ h5))
    refine PySem.Call_method2 h1 h2 h3 (raw_name ht vt I5 x5 (fun v r => ?_) dt ct)
    obtain ⟨tv, e⟩ := r
    subst e
    refine ⟨"str", _, F.plainAttrs_str, F.slot_str_replace, F.type_str_replace, typeIs_str _ _ _, (fun _ e => nomatch e), Calls.callWith_builtin rfl (Calls.evalArgs_plain (Calls.spliced_cons ?_))⟩
    refine wpAny_Name (wpAny_loadName_local I.ok.kind kg hn7 (if_pos rfl) ?_) dg
    refine Calls.spliced_cons (wpAny_BinOp (wpAny_BinOp (Calls.Constant_str (wpAny_Name (wpAny_loadName_local I.ok.kind kg hn7 (if_pos rfl) ?_) dg))))
    refine P.add_str ?_
    rw [lsp, l1]
    refine ⟨by rw [Str.length_append, lsp, l1]; decide, Calls.Constant_str (P.add_str ?_)⟩
    rw [show (Str.ofString " " ++ (⟨#[cs.cps[i]]⟩ : Str)).length = 2 by rw [Str.length_append, lsp, l1], lsp]
    refine ⟨by rw [Str.length_append, Str.length_append, lsp, l1]; decide, Calls.spliced_nil ?_⟩
    have hget : cs.cps.toList[i]? = some cs.cps[i] := by simp [hlt]
    have hlen := hb i (by simpa using hi)
    have ho1 := o3
    refine PySem.SC.replace (u := s3.toks) (v := s3.toks + 1 + 1 + 1 + 1 + 1) (Nat.ne_of_gt t3) (by show s3.toks + 1 + 1 + 1 + 1 + 1 ≠ 0; omega) (by show s3.toks ≠ s3.toks + 1 + 1 + 1 + 1 + 1; omega) ?_ ?_ fun t' k => ?_
    · refine beq_false_of_ne fun e => ?_
      have := congrArg Str.length e
      rw [Str.length_append, Str.length_append, lsp, l1] at this
      omega
    · rw [Str.length_append, Str.length_append, lsp, l1]
      omega
    obtain ⟨m5, hn5, hl5⟩ := I5.loc
    refine wpAny_storeName_local kt hn5 (fun h8 hn8 sb8 => ?_) hcls
    have I8 := inv_store (tk := k + 1) I5 hN ht kt (v := .str (repS (repAll x (cs.cps.toList.take i)) cs.cps[i])) (u := .str (repS (repAll x (cs.cps.toList.take i)) cs.cps[i]) t') ⟨_, rfl⟩ hl5 hn8 sb8
    rw [repAll_step hget] at I8
    obtain ⟨o, ho, hr⟩ := st4
    refine wpAny_execs_nil ⟨cs.cps.size - (i + 1), by omega, i + 1, _, rfl, hlt, I8, ⟨o, nsKeep sb8 f1 (nsKeep sb7 f1 ho), hr⟩, by show 1 ≤ k + 1; omega, ?_, ?_, ?_⟩
    · rw [List.length_set, List.length_set, l3]
    · rw [List.getElem?_set_self]
      rw [List.length_set, I3.len]
      exact (List.getElem?_eq_some_iff.mp ht).1
    · intro j n1 n2
      rw [List.getElem?_set_ne (Ne.symm n1), List.getElem?_set_ne (Ne.symm n2)]
      exact o3 j n1 n2
  · have e : i = cs.cps.size := by omega
    subst e
    refine wpAny_passesOwn hp (wpAny_pyNext_ascii_end (I.ok.hd hc) st (by simp) fun h6 ex6 => ?_)
    have I4 : Inv X pins σ3 H { s3 with heap := h6 } := I3.turned (t' := s3.toks) (fun b o hb e => ex6 b o hb e) f0 f1 f3 f4 f5
    refine wpAny_execs_nil ⟨σ3, H, I4, q σ3 l3 ?_ o3⟩
    rw [List.take_of_length_le (by simp)] at x3
    exact x3
end
end Pf

namespace Pf
open PySem PySem.Spec PyProof.Rows L2
/-! the tokens of a text with blanks and signs, as words between blanks -/
def SG : List Nat := (Str.ofString "();,:").cps.toList
def pad (S l : List Nat) : List Nat := l.flatMap fun d => if d ∈ S then [32, d, 32] else [d]
theorem repl_one (c : Nat) (z : List Nat) : ∀ l : List Nat, StrLaws.replL [c] z l = l.flatMap fun d => if d = c then z else [d]
  | [] => StrLaws.replL_nil
  | d :: r => by
    rw [List.flatMap_cons]
    by_cases h : d = c
    · subst h
      rw [if_pos rfl, StrLaws.replL_hit (by simp) (by simp)]
      exact congrArg (z ++ ·) (repl_one d z r)
    · rw [if_neg h, StrLaws.replL_miss (by simpa using h), repl_one c z r]
      rfl
theorem repS_T (l : List Nat) (c : Nat) : repS (T l) c = T (l.flatMap fun d => if d = c then [32, c, 32] else [d]) := by
  refine TL.ext_tl ?_
  show (Txt.replace (T l) _ _).cps.toList = _
  rw [StrLaws.replace_list (by show 1 ≤ 1; decide)]
  rw [show ((⟨#[c]⟩ : Str).cps.toList) = [c] from rfl, repl_one]
  rw [show (Str.ofString " " ++ (⟨#[c]⟩ : Str) ++ Str.ofString " ").cps.toList = [32, c, 32] by
    rw [show Str.ofString " " = T [32] by decide +kernel, show (⟨#[c]⟩ : Str) = T [c] from rfl, T_cat, T_cat]
    rfl]
theorem pad_nil (l : List Nat) : pad [] l = l := by
  unfold pad
  induction l with
  | nil => rfl
  | cons d r ih =>
    rw [List.flatMap_cons, ih]
    simp
theorem pad_more {S : List Nat} {c : Nat} (hc : c ∉ S) (h32 : c ≠ 32) (l : List Nat) : ((pad S l).flatMap fun d => if d = c then [32, c, 32] else [d]) = pad (S ++ [c]) l := by
  unfold pad
  rw [List.flatMap_assoc]
  congr 1
  funext d
  by_cases h : d ∈ S
  · have hd : d ≠ c := fun e => hc (e ▸ h)
    rw [if_pos h, if_pos (List.mem_append_left _ h)]
    simp [hd, Ne.symm h32]
  · rw [if_neg h]
    by_cases e : d = c
    · subst e
      rw [if_pos (by simp)]
      simp
    · rw [if_neg (by simp [h, e])]
      simp [e]
theorem repAll_pad (l : List Nat) : ∀ (n : Nat), n ≤ SG.length → repAll (T l) (SG.take n) = T (pad (SG.take n) l)
  | 0, _ => by
    rw [List.take_zero, pad_nil]
    rfl
  | n + 1, h => by
    have ih := repAll_pad l n (by omega)
    have hg : SG[n]? = some SG[n] := List.getElem?_eq_getElem h
    rw [← repAll_step hg, ih, repS_T, List.take_add_one, hg]
    congr 1
    refine pad_more ?_ ?_ l
    · have nd : SG.Nodup := by decide +kernel
      intro hm
      obtain ⟨j, hj, e⟩ := List.mem_take_iff_getElem.mp hm
      have := (List.getElem_inj nd).mp e
      omega
    · have : ∀ c ∈ SG, c ≠ 32 := by decide +kernel
      exact this _ (List.getElem_mem _)
theorem pad_len (S l : List Nat) : (pad S l).length ≤ 3 * l.length := by
  unfold pad
  induction l with
  | nil => exact Nat.zero_le _
  | cons d r ih =>
    rw [List.flatMap_cons, List.length_append, List.length_cons]
    have : (if d ∈ S then [32, d, 32] else [d]).length ≤ 3 := by split <;> simp
    omega
theorem pad_app (S a b : List Nat) : pad S (a ++ b) = pad S a ++ pad S b := List.flatMap_append
/-! words -/
abbrev wf (l : List Nat) : List (List Nat) × List Nat := l.foldl TL.wstep ([], [])
theorem wfold_from : ∀ (l : List Nat) (ws : List (List Nat)) (u : List Nat), l.foldl TL.wstep (ws, u) = (ws ++ (l.foldl TL.wstep ([], u)).1, (l.foldl TL.wstep ([], u)).2)
  | [], ws, u => by simp
  | c :: r, ws, u => by
    rw [List.foldl_cons, List.foldl_cons]
    by_cases hc : Unicode.isSpace c = true
    · by_cases hu : u = []
      · subst hu
        rw [show TL.wstep (ws, []) c = (ws, []) from (if_pos hc).trans (if_pos rfl), show TL.wstep ([], []) c = ([], []) from (if_pos hc).trans (if_pos rfl)]
        exact wfold_from r ws []
      · rw [show TL.wstep (ws, u) c = (ws ++ [u], []) from (if_pos hc).trans (if_neg hu), show TL.wstep ([], u) c = ([] ++ [u], []) from (if_pos hc).trans (if_neg hu)]
        rw [wfold_from r (ws ++ [u]) [], wfold_from r ([] ++ [u]) []]
        simp
    · rw [show TL.wstep (ws, u) c = (ws, u ++ [c]) from if_neg hc, show TL.wstep ([], u) c = ([], u ++ [c]) from if_neg hc]
      exact wfold_from r ws (u ++ [c])
theorem sp32 : Unicode.isSpace 32 = true := by decide +kernel
theorem wstep32 (st : List (List Nat) × List Nat) : TL.wstep st 32 = (TL.wfin st, []) := by
  obtain ⟨ws, u⟩ := st
  show (if Unicode.isSpace 32 = true then _ else _) = _
  rw [if_pos sp32]
  unfold TL.wfin
  by_cases hu : u = []
  · subst hu
    simp
  · simp [hu]
theorem wfin_from (l : List Nat) (ws : List (List Nat)) : TL.wfin (l.foldl TL.wstep (ws, [])) = ws ++ TL.wfin (wf l) := by
  rw [wfold_from l ws []]
  unfold TL.wfin
  by_cases h : (wf l).2 = []
  · rw [if_pos h, if_pos h]
  · rw [if_neg h, if_neg h, List.append_assoc]
/-- the tokens -/
def tkl (l : List Nat) : List (List Nat) := TL.wfin (wf (pad SG l))
theorem no32 : 32 ∉ SG := by decide +kernel
theorem tkl_sp (a b : List Nat) : tkl (a ++ 32 :: b) = tkl a ++ tkl b := by
  unfold tkl wf
  rw [pad_app, show pad SG (32 :: b) = 32 :: pad SG b by unfold pad; rw [List.flatMap_cons, if_neg no32]; rfl]
  rw [List.foldl_append, List.foldl_cons, wstep32, wfin_from]
theorem sg_no : ∀ c ∈ SG, Unicode.isSpace c = false := by decide +kernel
theorem tkl_sg {c : Nat} (hc : c ∈ SG) (a b : List Nat) : tkl (a ++ c :: b) = tkl a ++ [c] :: tkl b := by
  have e : pad SG (c :: b) = 32 :: c :: 32 :: pad SG b := by unfold pad; rw [List.flatMap_cons, if_pos hc]; rfl
  unfold tkl wf
  rw [pad_app, e, List.foldl_append, List.foldl_cons, wstep32, List.foldl_cons]
  rw [show ∀ ws, TL.wstep (ws, []) c = (ws, [c]) from fun ws => (if_neg (by rw [sg_no c hc]; exact Bool.false_ne_true)).trans rfl]
  rw [List.foldl_cons, wstep32, wfin_from]
  unfold TL.wfin
  simp
theorem tkl_nil : tkl [] = [] := rfl
theorem tkl_word {w : List Nat} (h0 : w ≠ []) (h : ∀ c ∈ w, Unicode.isSpace c = false ∧ c ∉ SG) : tkl w = [w] := by
  have e : pad SG w = w := by
    unfold pad
    have : ∀ l : List Nat, (∀ c ∈ l, c ∉ SG) → (l.flatMap fun d => if d ∈ SG then [32, d, 32] else [d]) = l := fun l => by
      induction l with
      | nil => intro _; rfl
      | cons d r ih =>
        intro hl
        rw [List.flatMap_cons, if_neg (hl d (List.mem_cons_self ..)), ih fun c hc => hl c (List.mem_cons_of_mem _ hc)]
        rfl
    exact this w fun c hc => (h c hc).2
  unfold tkl wf
  rw [e, TL.wfold_word w [] [] fun c hc => (h c hc).1]
  unfold TL.wfin
  simp [h0]
theorem words_T (l : List Nat) : (Txt.words (repAll (T l) SG)) = (tkl l).map T := by
  have h := repAll_pad l SG.length (Nat.le_refl _)
  rw [List.take_length] at h
  rw [h]
  have e := TL.words_tl (T (pad SG l))
  have e2 : ∀ ws : List Str, ws = (ws.map TL.tl).map T := fun ws => by
    induction ws with
    | nil => rfl
    | cons x r ih =>
      rw [List.map_cons, List.map_cons, ← ih]
  rw [e2 (Txt.words _), e]
  rfl
end Pf

namespace Pf
open PySem PySem.Spec PyProof.Rows L2
/-! the greatest of three numbers -/
def rM3 : List V → Hp → VK → Prop := fun xs H Q => ∃ i j k : Int, xs = [.int i, .int j, .int k] ∧ ∀ m : Int, i ≤ m → j ≤ m → k ≤ m → Q (.int m) H
theorem call_max3I {X : Cx} (hc : X.calm = true) : CallR X (.builtin "max") rM3 := by
  intro pins s σ H xs us Q I r h
  obtain ⟨i, j, k, rfl, q⟩ := h
  refine call_max3Nu hc pins s σ H _ us Q I r ⟨_, _, _, .int (if (if i < j then j else i) < k then k else (if i < j then j else i)), rfl, ?_, q _ ?_ ?_ ?_⟩
  · by_cases h1 : i < j
    · by_cases h2 : j < k <;> simp [nuMax3, nuMax2, nuLt, nuCB, h1, h2]
    · by_cases h2 : i < k <;> simp [nuMax3, nuMax2, nuLt, nuCB, h1, h2]
  all_goals
    by_cases h1 : i < j
    · by_cases h2 : j < k <;> simp only [h1, h2, if_true, if_false] <;> omega
    · by_cases h2 : i < k <;> simp only [h1, h2, if_true, if_false] <;> omega
end Pf

namespace Pf
open PySem PySem.Spec PyProof.Rows L2
/-! errors whose context is None: raised where nothing is handled, so that their handler may call on -/
theorem takes0N {X : Cx} : L2N.Takes X (fun _ _ _ _ => False) := fun _ _ h => by
  obtain ⟨_, _, _, _, _, _, _, _, _, _, _, _, _, _, _, _, q⟩ := h
  first
  | exact q.elim
  | exact q.2.elim
theorem _root_.L2.Fun.okN {P : Program} {w : World} {K : PySem.W.Frag} {mg : Str → Option Value} {base : Heap} {x qual : Str} {st : Stmt} {f : Addr} {fd : FuncData} {N ps : List Str} {k : Nat} {sp : Sp} (F : Fun K x qual st f fd) (S : FnScope N ps (defScope st)) (len : ∀ vs H Q E, sp vs H Q E → vs.length = ps.length)
    (hb : ∀ (cdv : Value) (A : Around) (outer : List Env) (s : Shared) (H : Hp) (vs : List V) (Q : VK) (E : XK), Room k (A.deeper (envOfC qual (defScope st) s.heap.objs.size f cdv)) → sp vs H Q E →
      ∃ t, PSs (cxOf (L2N.CX P w) P w K mg base N qual (defScope st) f cdv A outer s H E) (defBody st) t ∧ t { nx := fun _ H' => Q .non H', rt := Q } (start N vs) H) : FnOk P w K mg base (L2N.CX P w) (k + 1) f fd ps sp := by
  obtain ⟨_, _, _, _, _, _, cdv, _, _, rfl, lk, hcd⟩ := F.ex
  exact fn_of lk hcd S len fun A outer s H vs Q E => hb cdv A outer s H vs Q E
/-- C(e, ..), C an error's class whose __init__ takes the arguments -/
theorem pmk_oexN {X : Cx} {CX : CXT} {x : Str} {e : Expr} {es : List Expr} {ta : TA} {p pos : Pos} {C fI : Addr} {k : Nat} {fd : FuncData} {ps : List Str} {sp : Sp} {ds : List Value} {dvs : List V} (T : OexC X.K C) (iC : PySem.W.findIn X.K (.ref C) "__init__" = some (some (.ref fI)))
    (tI : PySem.W.typeIn X.K (.ref fI) = some (.type "function")) (F1 : FnOk X.prog X.w X.K X.mg X.base CX k fI fd ps sp) (hr : Room (k + 1) X.A) (hb : Binds X.K fd ps ds) (hd : Vals dvs ds) (hx : Passes CX X (fun _ _ _ => False)) (hg : Gl X x) (hm : X.mg x = some (.ref C)) (ha : PA X (e :: es) ta)
    (hdb : (x == ("__debug__" : Str)) = false := by decide) (he : starEach (e :: es) X.env = (false, eval e X.env) :: starEach es X.env := by rfl) (hpl : (backTo pos (starEach es X.env)).any (·.1) = false := by rfl) :
    L2N.PMk X (.Call (.Name x p) (e :: es) [] pos) (tMkO C sp dvs ta) := by
  intro pins s σ H Q I h
  obtain ⟨_, _, _, _, bm, _, _, _, _, _, _, _, _, _, _, hC, hbm⟩ := T.cls
  refine wpAny_Call_Name_kw (ld_glob I hg hm (PySem.W.callWith_K (h₀ := X.base) I.ok.mod.kin T.kC (thn (ha.run pos pins s σ H _ I h) fun us s1 ⟨vs, H1, I1, r1, hz, q1⟩ => ⟨I1.kIn, ?_⟩) he hpl) hdb)
  obtain ⟨hp, g, dr, tk, os⟩ := s1
  have new : H1 (hp.objs.size + 1) = none := I1.hok.fresh (Nat.le_succ _)
  have hq := q1 _ new
  have kk : ∀ b o, hp.get? b = some o → ((hp.push (PySem.W.kdv_tup us)).push (PySem.HandSPX.excO C hp.objs.size)).get? b = some o := fun b o z => Heap.get?_push_of_some _ (Heap.get?_push_of_some _ z)
  have I2 := I1.laid (t' := tk) (a := hp.objs.size + 1) (o := exo (hp.objs.size + 1) C none) (h' := (hp.push (PySem.W.kdv_tup us)).push (PySem.HandSPX.excO C hp.objs.size)) kk (Nat.le_succ _) (exo_ok (by heap_get))
  have r2 : Vals (V.ref (hp.objs.size + 1) :: (vs ++ dvs)) (Value.ref (hp.objs.size + 1) :: (us ++ ds)) := .cons rfl (r1.append hd)
  have hl : (Value.ref (hp.objs.size + 1) :: us ++ ds).length = ps.length := r2.length.symm.trans (F1.len _ _ _ _ hq)
  have hus : us.length ≤ sizeLine := by
    rw [← Paired.length r1, sizeLine_eq]
    omega
  refine wpAny_call (PySem.HandSPX.call_own F.excBase_ValueError (fun Y => PySem.HandSPX.refsVE_contains Y bm hbm) (I1.kIn _ _ hC) (PySem.W.looks_findIn I1.kIn iC) (fun self => PySem.W.bind_fn I1.kIn self tI) hus
    (codeAny_mono (F1.run _ X.stack _ _ ⟨Value.ref (hp.objs.size + 1) :: us, []⟩ (Value.ref (hp.objs.size + 1) :: (us ++ ds)) _ _ (fun _ _ _ => False) (hr.make C us []) (I2.env0.make C us []) (hb _ (Value.ref (hp.objs.size + 1) :: us) I2.kIn hl) r2 hq) fun r s' g' => ?_))
  match r, g' with
  | .error er, g' => exact hx pins σ _ _ er s' I2 g'
  | .ok (.ret u), g' =>
    obtain ⟨v, H2, os2, bare2, un2, hok2, rv, ev, d, fs, ea, ed, hd1, q2⟩ := g'
    subst ev
    obtain ⟨h2, g2, d2, t2, os'⟩ := s'
    obtain ⟨t0, G, J, kG, ge, hoe, na⟩ := mk_end0 (d2 := d2) (t2 := t2) I1 (Nat.le_succ _) kk un2 hok2 os2 bare2 ea ed hd1
    exact ⟨rv, hp.objs.size + 1, _, _, ⟨G, g2, d2, t2, os'⟩, _, .ref C, some d, rfl, J, kG, ge, hoe, ⟨rfl, rfl, fun vs hv => by cases hv; rfl⟩, rfl, rfl, na, rfl, bare2, raises_own T.exC T.tyC, q2⟩
  | .ok .next, g' => exact g'.elim
  | .ok .brk, g' => exact g'.elim
  | .ok .cont, g' => exact g'.elim
end Pf
namespace Pf
open PySem PySem.Spec PyProof.Rows L2
/-! defs that may raise -/
/-- a def that keeps a promise and may raise, by its name -/
structure ClX (P : Program) (w : World) (K : PySem.W.Frag) (mg : Str → Option Value) (base : Heap) (k : Nat) (x : Str) (sp : Sp) : Prop where
  ex : ∃ (f : Addr) (fd : FuncData) (ps : List Str), FnOk P w K mg base (L2N.CX P w) k f fd ps sp ∧ mg x = some (.ref f) ∧ PySem.W.keepIn K (.ref f) = true ∧ Binds K fd ps []
section
variable {P : Program} {w : World} {K : PySem.W.Frag} {mg : Str → Option Value} {base : Heap}
theorem Df.clX {x : Str} {st : Stmt} {f : Addr} {fd : FuncData} {ps N : List Str} {k : Nat} {sp : Sp} (D : Df K mg x st f fd ps) (S : FnScope N ps (defScope st)) (len : ∀ vs H Q E, sp vs H Q E → vs.length = ps.length)
    (hbody : ∀ (cdv : Value) (A : Around) (outer : List Env) (s : Shared) (H : Hp) (vs : List V) (Q : VK) (E : XK), Room k (A.deeper (envOfC x (defScope st) s.heap.objs.size f cdv)) → sp vs H Q E →
      ∃ t, PSs (cxOf (L2N.CX P w) P w K mg base N x (defScope st) f cdv A outer s H E) (defBody st) t ∧ t { nx := fun _ H' => Q .non H', rt := Q } (start N vs) H) : ClX P w K mg base (k + 1) x sp :=
  ⟨f, fd, ps, D.fn.okN S len hbody, D.mgf, D.kp, D.bd⟩
theorem ClX.mono {x : Str} {k j : Nat} {sp : Sp} (c : ClX P w K mg base k x sp) (h : k ≤ j) : ClX P w K mg base j x sp := by
  obtain ⟨f, fd, ps, F, r⟩ := c.ex
  exact ⟨f, fd, ps, F.mono h, r⟩
end
section
variable {X : Cx} {k j : Nat} {x : Str} {sp : Sp} {e : Expr} {es : List Expr} {t : TA} {p pos : Pos} {W : WX}
/-- f(..) where f may raise -/
theorem pcX (c : ClX X.prog X.w X.K X.mg X.base k x sp) (tk : L2N.Takes X W) (hr : Room j X.A) (hk : k ≤ j) (hg : Gl X x) (ha : PA X (e :: es) t)
    (hdb : (x == ("__debug__" : Str)) = false := by decide) (he : starEach (e :: es) X.env = (false, eval e X.env) :: starEach es X.env := by rfl) (hpl : (backTo pos (starEach es X.env)).any (·.1) = false := by rfl) :
    PE X (.Call (.Name x p) (e :: es) [] pos) (tCallS sp (WE W) t) := by
  obtain ⟨f, fd, ps, F, hm, kp, b⟩ := c.ex
  exact pe_callS F (hr.mono hk) hg hm kp b (fun σ => L2N.passAt tk σ) ha hdb he hpl
end
/-- of several defs that a slot may hold, and that may raise -/
structure HeldX (P : Program) (w : World) (K : PySem.W.Frag) (mg : Str → Option Value) (base : Heap) (k : Nat) (f : Addr) (sp : Sp) : Prop where
  ex : ∃ (fd : FuncData) (ps : List Str), FnOk P w K mg base (L2N.CX P w) k f fd ps sp ∧ PySem.W.keepIn K (.ref f) = true ∧ Binds K fd ps []
def tCallAX (i : Nat) (S : Addr → Option Sp) (E : L2.St → XK) (t : TA) : TE := fun σ H Q => ∃ f sp, σ[i]? = some (some (.ref f)) ∧ S f = some sp ∧ t σ H fun vs H1 => sp vs H1 Q (E σ)
section
variable {X : Cx} {k j i : Nat} {x : Str} {e : Expr} {es : List Expr} {t : TA} {p pos : Pos} {W : WX}
theorem pe_callAX {S : Addr → Option Sp} (A : ∀ f sp, S f = some sp → HeldX X.prog X.w X.K X.mg X.base k f sp) (tk : L2N.Takes X W) (hr : Room j X.A) (hk : k ≤ j) (hN : X.N[i]? = some x) (hv : Vis X.env.scope x) (ha : PA X (e :: es) t)
    (hdb : (x == ("__debug__" : Str)) = false := by decide) (hcd : (x == ("__classdict__" : Str)) = false := by decide)
    (he : starEach (e :: es) X.env = (false, eval e X.env) :: starEach es X.env := by rfl) (hpl : (backTo pos (starEach es X.env)).any (·.1) = false := by rfl) : PE X (.Call (.Name x p) (e :: es) [] pos) (tCallAX i S (WE W) t) := by
  refine ⟨fun pins s σ H Q I h => ?_⟩
  obtain ⟨f, sp, hs, hS, ht⟩ := h
  obtain ⟨fd, ps, F, hkp, hb⟩ := (A f sp hS).ex
  refine wpAny_Call_Name_kw (thn ((pe_var (pos := p) hN hv hdb hcd).run pins s σ H (fun v H1 => v = .ref f ∧ H1 = H) I ⟨.ref f, hs, rfl, rfl⟩) fun u s1 ⟨v, H1, I1, r1, q1⟩ => ?_)
  obtain ⟨rfl, rfl⟩ := q1
  cases r1
  refine PySem.W.callWith_K (h₀ := X.base) I.ok.mod.kin hkp (thn (ha.run pos pins s1 σ _ _ I1 ht) fun us s2 ⟨vs, H2, I2, r, q⟩ => ⟨I2.kIn, ?_⟩) he hpl
  exact run_fnS F (hr.mono hk) hb (L2N.passAt tk σ) I2 r q
end
/-! the error of a text -/
def ftF (x y z : V) : List (Str × V) := [("reason", z), ("column", y), ("line", x)]
/-- FaultyText.__init__ -/
def spFt (K : PySem.W.Frag) : Sp := fun vs H Q _ => ∃ (a C : Addr) (x y z : V), vs = [.ref a, x, y, z] ∧ OexC K C ∧ H a = some (exo a C none) ∧ PySem.W.findIn K (.ref C) "line" = some none ∧ PySem.W.findIn K (.ref C) "column" = some none ∧ PySem.W.findIn K (.ref C) "reason" = some none ∧
  ∀ (d : Addr) (H' : Hp), H d = none → d ≠ a → H' a = some (exo a C (some d)) → H' d = some (exd d (ftF x y z)) → (∀ b, b ≠ a → b ≠ d → H' b = H b) → Q .non H'
/-- the class FaultyText -/
structure FtC (P : Program) (w : World) (K : PySem.W.Frag) (mg : Str → Option Value) (base : Heap) (C : Addr) : Prop where
  T : OexC K C
  ini : ∃ (fI : Addr) (fd : FuncData), PySem.W.findIn K (.ref C) "__init__" = some (some (.ref fI)) ∧ PySem.W.typeIn K (.ref fI) = some (.type "function") ∧ FnOk P w K mg base CX0 1 fI fd ["self", "line", "column", "reason"] (spFt K) ∧ Binds K fd ["self", "line", "column", "reason"] []
  nl : PySem.W.findIn K (.ref C) "line" = some none
  nc : PySem.W.findIn K (.ref C) "column" = some none
  nr : PySem.W.findIn K (.ref C) "reason" = some none
  mgC : mg "FaultyText" = some (.ref C)
theorem mk_ft {X : Cx} {C : Addr} {j : Nat} {e : Expr} {es : List Expr} {ta : TA} {p pos : Pos} (c : FtC X.prog X.w X.K X.mg X.base C) (hr : Room j X.A) (hj : 2 ≤ j) (hg : Gl X "FaultyText") (ha : PA X (e :: es) ta)
    (he : starEach (e :: es) X.env = (false, eval e X.env) :: starEach es X.env := by rfl) (hpl : (backTo pos (starEach es X.env)).any (·.1) = false := by rfl) :
    L2N.PMk X (.Call (.Name "FaultyText" p) (e :: es) [] pos) (tMkO C (spFt X.K) [] ta) := by
  obtain ⟨fI, fd, h1, h2, h3, h4⟩ := c.ini
  exact pmk_oexN c.T h1 h2 h3 (hr.mono hj) h4 .nil pass0 hg c.mgC ha (by decide) he hpl
/-- what raise FaultyText(x, y, z) comes to -/
theorem x_ft {K : PySem.W.Frag} {C : Addr} {x y z : V} {H : Hp} {Q : XK} (T : OexC K C) (nl : PySem.W.findIn K (.ref C) "line" = some none) (nc : PySem.W.findIn K (.ref C) "column" = some none) (nr : PySem.W.findIn K (.ref C) "reason" = some none)
    (q : ∀ d, H d = none → Q (.ref C) (some d) (upd H d (.xd (ftF x y z)))) : ([x, y, z] : List V).length ≤ 1000 ∧ ∀ a, H a = none → spFt K (.ref a :: ([x, y, z] ++ [])) (upd H a (exo a C none))
      (fun v H2 => v = .non ∧ ∃ (d : Addr) (fs : List (Str × V)), H2 a = some (exo a C (some d)) ∧ H2 d = some (exd d fs) ∧ H d = none ∧ Q (.ref C) (some d) (upd (del H2 a) d (.xd fs))) (fun _ _ _ => False) := by
  refine ⟨by show 3 ≤ 1000; decide, fun a ha => ⟨a, C, x, y, z, rfl, T, upd_same, nl, nc, nr, fun d H' hd hda h1 h2 h3 => ⟨rfl, d, _, h1, h2, ?_, ?_⟩⟩⟩
  · rwa [upd_ne hda] at hd
  · have hd' : H d = none := by rwa [upd_ne hda] at hd
    have e : upd (del H' a) d (.xd (ftF x y z)) = upd H d (.xd (ftF x y z)) := by
      funext b
      by_cases hbd : b = d
      · rw [hbd, upd_same, upd_same]
      · rw [upd_ne hbd, upd_ne hbd]
        by_cases hba : b = a
        · rw [hba, del_same, ha]
        · rw [del_ne hba, h3 b hba hbd, upd_ne hba]
    rw [e]
    exact q d hd'
end Pf

namespace Pf
open PySem PySem.Spec PyProof.Rows L2
/-! C(..) where C.__init__ may raise -/
def tMakeS (C : Addr) (sp : Sp) (E : L2.St → XK) (t : TA) : TE := fun σ H Q => t σ H fun vs H1 => ∀ x dx, H1 x = none → H1 dx = none → dx ≠ x → sp (.ref x :: vs) (upd (upd H1 dx (.own x)) x (.ins C dx [])) (fun v H2 => v = .non ∧ Q (.ref x) H2) (E σ)
section
variable {X : Cx} {CX : CXT} {k : Nat} {f C : Addr} {fd : FuncData} {ps : List Str} {sp : Sp} {x : Str} {p pos : Pos} {e : Expr} {es : List Expr} {t : TA}
theorem made_init {pins : List (Addr × Obj)} {σ : L2.St} {E : XK} {H : Hp} {s : Shared} {Q : VK} {us : List Value} {vs : List V} (M : Mk X.K C f) (F : FnOk X.prog X.w X.K X.mg X.base CX k f fd ps sp) (hr : Room (k + 1) X.A) (hb : Binds X.K fd ps [])
    (hx : PassesAt CX X σ E) (I : Inv X pins σ H s) (r : Vals vs us)
    (h : ∀ x dx, H x = none → H dx = none → dx ≠ x → sp (.ref x :: vs) (upd (upd H dx (.own x)) x (.ins C dx [])) (fun v H2 => v = .non ∧ Q (.ref x) H2) E) : wpAny (model X.prog X.w) X.A (call (.ref C) us) (EP X pins σ Q) X.xe s := by
  have h1 := h (s.heap.objs.size + 1) s.heap.objs.size (I.hok.fresh (Nat.le_succ _)) (I.hok.fresh (Nat.le_refl _)) fun z => absurd z (Nat.ne_of_lt (Nat.lt_succ_self _))
  have J := Inv.made (C := C) I; have rr : Vals (V.ref (s.heap.objs.size + 1) :: vs) (Value.ref (s.heap.objs.size + 1) :: us) := .cons rfl r
  have hl : (Value.ref (s.heap.objs.size + 1) :: us).length = ps.length := rr.length.symm.trans (F.len _ _ _ _ h1)
  have bb := hb _ (Value.ref (s.heap.objs.size + 1) :: us) J.kIn (by rw [List.append_nil]; exact hl)
  rw [List.append_nil] at bb
  refine wpAny_call (make_map (f := f) I.kIn M.makes M.init (beq_iff_eq.mp M.fn) (codeAny_mono (F.run _ X.stack _ _ ⟨Value.ref (s.heap.objs.size + 1) :: us, []⟩ (Value.ref (s.heap.objs.size + 1) :: us) _ _ E (hr.make C us []) (J.env0.make C us []) bb rr h1) fun r s' g => ?_))
  match r, g with
  | .error e, g => exact hx pins _ _ e s' J g
  | .ok (.ret u), g =>
    obtain ⟨v, H', J2, rv, ev, q⟩ := J.after g
    cases ev
    exact ⟨rv, ⟨V.ref (s.heap.objs.size + 1), H', J2, rfl, q⟩⟩
  | .ok .next, g => exact g.elim
  | .ok .brk, g => exact g.elim
  | .ok .cont, g => exact g.elim
theorem pe_makeS {E : L2.St → XK} (M : Mk X.K C f) (F : FnOk X.prog X.w X.K X.mg X.base CX k f fd ps sp) (hr : Room (k + 1) X.A) (hg : Gl X x) (hm : X.mg x = some (.ref C)) (hb : Binds X.K fd ps []) (hx : ∀ σ, PassesAt CX X σ (E σ)) (ha : PA X (e :: es) t)
    (hdb : (x == ("__debug__" : Str)) = false := by decide) (he : starEach (e :: es) X.env = (false, eval e X.env) :: starEach es X.env := by rfl) (hpl : (backTo pos (starEach es X.env)).any (·.1) = false := by rfl) : PE X (.Call (.Name x p) (e :: es) [] pos) (tMakeS C sp E t) :=
  ⟨fun pins s σ H Q I h => wpAny_Call_Name_kw (ld_glob I hg hm (PySem.W.callWith_K (h₀ := X.base) I.ok.mod.kin M.kp (thn (ha.run pos pins s σ H _ I h) fun us s1 ⟨vs, H1, I1, r, q⟩ => ⟨I1.kIn, made_init M F hr hb (hx σ) I1 r q⟩) he hpl) hdb)⟩
end
/-- what is never reached -/
def tDead : TS := fun _ _ _ => False
end Pf

namespace Pf
open PySem PySem.Spec PyProof.Rows L2 L2H
/-! defs that are called while an error is handled -/
structure ClH (P : Program) (w : World) (K : PySem.W.Frag) (mg : Str → Option Value) (base : Heap) (k : Nat) (x : Str) (sp : Sp) : Prop where
  ex : ∃ (f : Addr) (fd : FuncData) (ps : List Str), FnH P w K mg base (L2.CX P w) k f fd ps sp ∧ mg x = some (.ref f) ∧ PySem.W.keepIn K (.ref f) = true ∧ Binds K fd ps []
theorem FnH.lift {P : Program} {w : World} {K : PySem.W.Frag} {mg : Str → Option Value} {base : Heap} {CX : CXT} {j k : Nat} {f : Addr} {fd : FuncData} {ps : List Str} {sp : Sp} (F : FnH P w K mg base CX j f fd ps sp) (h : j ≤ k) : FnH P w K mg base CX k f fd ps sp :=
  ⟨F.len, fun A outer s H args us vs Q E p hr => F.run A outer s H args us vs Q E p (hr.mono h)⟩
section
variable {P : Program} {w : World} {K : PySem.W.Frag} {mg : Str → Option Value} {base : Heap}
theorem Df.clH {x : Str} {st : Stmt} {f : Addr} {fd : FuncData} {ps N : List Str} {k : Nat} {sp : Sp} (D : Df K mg x st f fd ps) (S : FnScope N ps (defScope st)) (len : ∀ vs H Q E, sp vs H Q E → vs.length = ps.length)
    (hb : ∀ (cdv : Value) (A : Around) (outer : List Env) (s : Shared) (H : Hp) (vs : List V) (Q : VK) (E : XK) (p : Addr × Obj), HotC (cxH (L2.CX P w) P w K mg base N x (defScope st) f cdv A outer s H E p) → RoomH k (A.deeper (envOfC x (defScope st) s.heap.objs.size f cdv)) → sp vs H Q E →
      ∃ t, PSs (cxH (L2.CX P w) P w K mg base N x (defScope st) f cdv A outer s H E p) (defBody st) t ∧ t { nx := fun _ H' => Q .non H', rt := Q } (L2.start N vs) H) : ClH P w K mg base (k + 1) x sp := by
  obtain ⟨_, _, _, _, _, _, cdv, _, _, rfl, lk, hcd⟩ := D.fn.ex
  exact ⟨f, _, ps, fn_ofH lk hcd S len fun A outer s H vs Q E p hot hr hsp => hb cdv A outer s H vs Q E p ⟨p, hot, List.mem_singleton.mpr rfl⟩ hr hsp, D.mgf, D.kp, D.bd⟩
end
section
variable {X : Cx} {k j i : Nat} {x : Str} {sp : Sp} {e : Expr} {es : List Expr} {t : TA} {p pos : Pos} {W : WX}
theorem pcH (c : ClH X.prog X.w X.K X.mg X.base k x sp) (tk : Takes X W) (hr : RoomH j X.A) (hc : HotC X) (hk : k ≤ j) (hg : Gl X x) (ha : PA X (e :: es) t)
    (hdb : (x == ("__debug__" : Str)) = false := by decide) (he : starEach (e :: es) X.env = (false, eval e X.env) :: starEach es X.env := by rfl) (hpl : (backTo pos (starEach es X.env)).any (·.1) = false := by rfl) :
    PE X (.Call (.Name x p) (e :: es) [] pos) (tCallS sp (WE W) t) := by
  obtain ⟨f, fd, ps, F, hm, kp, b⟩ := c.ex
  exact pe_callH F (hr.mono hk) hc hg hm kp b (fun σ => passAt tk σ) ha hdb he hpl
/-- of several defs that a slot may hold -/
structure HeldH (P : Program) (w : World) (K : PySem.W.Frag) (mg : Str → Option Value) (base : Heap) (k : Nat) (f : Addr) (sp : Sp) : Prop where
  ex : ∃ (fd : FuncData) (ps : List Str), FnH P w K mg base (L2.CX P w) k f fd ps sp ∧ PySem.W.keepIn K (.ref f) = true ∧ Binds K fd ps []
theorem pe_callAH {S : Addr → Option Sp} (A : ∀ f sp, S f = some sp → HeldH X.prog X.w X.K X.mg X.base k f sp) (tk : Takes X W) (hr : RoomH j X.A) (hc : HotC X) (hk : k ≤ j) (hN : X.N[i]? = some x) (hv : Vis X.env.scope x) (ha : PA X (e :: es) t)
    (hdb : (x == ("__debug__" : Str)) = false := by decide) (hcd : (x == ("__classdict__" : Str)) = false := by decide)
    (he : starEach (e :: es) X.env = (false, eval e X.env) :: starEach es X.env := by rfl) (hpl : (backTo pos (starEach es X.env)).any (·.1) = false := by rfl) : PE X (.Call (.Name x p) (e :: es) [] pos) (tCallAX i S (WE W) t) := by
  refine ⟨fun pins s σ H Q I h => ?_⟩
  obtain ⟨f, sp, hs, hS, ht⟩ := h
  obtain ⟨fd, ps, F, hkp, hb⟩ := (A f sp hS).ex
  refine wpAny_Call_Name_kw (thn ((pe_var (pos := p) hN hv hdb hcd).run pins s σ H (fun v H1 => v = .ref f ∧ H1 = H) I ⟨.ref f, hs, rfl, rfl⟩) fun u s1 ⟨v, H1, I1, r1, q1⟩ => ?_)
  obtain ⟨rfl, rfl⟩ := q1
  cases r1
  refine PySem.W.callWith_K (h₀ := X.base) I.ok.mod.kin hkp (thn (ha.run pos pins s1 σ _ _ I1 ht) fun us s2 ⟨vs, H2, I2, r, q⟩ => ⟨I2.kIn, ?_⟩) he hpl
  exact run_fnH F (hr.mono hk) hc hb (passAt tk σ) I2 r q
end
/-- in the suite of a handler whose error was raised where nothing was handled -/
theorem hot_suite {X : Cx} {a : Addr} {oe : Obj} {cls : Value} {d : Option Addr} {pn : List (Addr × Obj)} (hz : L2N.Zn cls d oe) (hf : ∃ vs, oe.data = .fields vs) : HotC (X.suite a ((a, oe) :: pn)) := by
  obtain ⟨vs, hv⟩ := hf
  exact ⟨(a, oe), ⟨rfl, vs, hv, hz.2.2 vs hv⟩, List.mem_cons_self⟩
theorem room_suite {X : Cx} {a : Addr} {pn : List (Addr × Obj)} {k : Nat} (hr : Room k X.A) : RoomH k (X.suite a pn).A := ⟨hr.dp, hr.un⟩
/-- nothing is raised: what never leaves -/
theorem takesF {X : Cx} : Takes X (fun _ _ _ _ => False) := fun _ _ h => by
  obtain ⟨_, _, _, _, _, _, _, _, _, _, _, _, _, _, _, _, q⟩ := h
  first
  | exact q.elim
  | exact q.2.elim
end Pf

namespace Pf
open PySem PySem.Spec PyProof.Rows L2
/-! isinstance(e, C) of the exception that a handler holds, with fields of its own -/
def rIsG (K : PySem.W.Frag) (cls : Value) (d : Option Addr) (a : Addr) : List V → Hp → VK → Prop := fun xs H Q => ∃ (D dd : Addr) (fs : List (Str × V)) (c : V) (cv : Value) (b : Bool), cls = .ref D ∧ d = some dd ∧ ExcC K D ∧ H dd = some (.xd fs) ∧ xs = [.ref a, c] ∧ (∀ u, RelV c u → u = cv) ∧ PySem.W.kitOne K (.ref D) cv = some b ∧ Q (.bl b) H
theorem call_isG {X : Cx} {a : Addr} {cls : Value} {d : Option Addr} {oe : Obj} {pn : List (Addr × Obj)} (hz : Zc cls d oe) (hf : ∃ vs, oe.data = .fields vs) : CallR (X.suite a ((a, oe) :: pn)) (.builtin "isinstance") (rIsG X.K cls d a) := by
  intro pins s σ H xs us Q I r h
  obtain ⟨D, dd, fs, c, cv, b, rfl, rfl, C, hd, rfl, hcv, e, q⟩ := h
  obtain ⟨u1, rest, rfl, r1, r2⟩ : ∃ u1 rest, us = u1 :: rest ∧ RelV (.ref a) u1 ∧ Vals [c] rest := by
    cases r with
    | cons rx rr => exact ⟨_, _, rfl, rx, rr⟩
  obtain ⟨u2, rfl, ru⟩ := r2.one
  cases r1
  obtain rfl := hcv _ ru
  obtain ⟨ha, _⟩ := I.pin (a, oe) (List.mem_append.mpr (.inl List.mem_cons_self))
  obtain ⟨vs, hv⟩ := hf
  have hx : ObjOk X.prog X.w H s.heap dd (.xd fs) := I.hok dd _ hd
  obtain ⟨mA, hns, _⟩ := hx
  obtain ⟨od, ho, _⟩ := lookIn_ns hns
  have J : PySem.W.InstAt s.heap a oe D (some od) := ⟨ha, hz.1, by unfold PySem.W.notCls; rw [hv] <;> rfl, by rw [hz.2]; exact ho⟩
  have hcl : (PySem.W.clsIn X.K D).isSome = true := by
    have := C.hd
    unfold PySem.W.hasDictIn at this
    revert this
    cases PySem.W.clsIn X.K D with
    | none => intro z; first | cases z | exact z
    | some _ => intro _; rfl
  exact PySem.W.kia_one (PySem.W.kitx_exc hcl C.hg C.hk C.hs C.ha C.hn C.ht C.hm) I.kIn J e (fun z => nomatch z) fun tk => ⟨.bl b, H, I.kept (t' := tk) fun _ _ z => z, rfl, q⟩
end Pf

namespace Pf
open PySem PySem.Spec PyProof.Rows L2
def topS (i : Nat) : Stmt := PySem.Challenge.pw_ontoworks_k50_levels_and_heights.main.body.getD i (.Pass ⟨0, 0, 0, 0⟩)
abbrev K_BLANKS : Str := Str.ofString " \n"
abbrev K_SIGNS : Str := Str.ofString "();,:"
abbrev K_LETTERS : Str := Str.ofString "abcdefghijklmnopqrstuvwxyzABCDEFGHIJKLMNOPQRSTUVWXYZ_"
abbrev K_DIGITS : Str := Str.ofString "0123456789"
abbrev K_LONGEST_WORD : Int := 20
abbrev K_RESERVED : List Str := [Str.ofString "concept", Str.ofString "role", Str.ofString "individual", Str.ofString "axiom", Str.ofString "below", Str.ofString "equals", Str.ofString "apart", Str.ofString "domain", Str.ofString "range", Str.ofString "under", Str.ofString "inverse", Str.ofString "is", Str.ofString "and", Str.ofString "or", Str.ofString "not", Str.ofString "some", Str.ofString "all", Str.ofString "anything", Str.ofString "nothing", Str.ofString "never"]
abbrev K_DEEPEST_LEVEL : Int := 8
abbrev K_GREATEST_HEIGHT : Int := 12
abbrev s_place : Stmt := topS 10
theorem sc_place : FnScope ["text", "at", "before"] ["text", "at"] (defScope s_place) := ⟨rfl, rfl, rfl, by decide +kernel, rfl, by decide +kernel, by decide +kernel⟩
abbrev s_is_name : Stmt := topS 11
theorem sc_is_name : FnScope ["word", "end"] ["word"] (defScope s_is_name) := ⟨rfl, rfl, rfl, by decide +kernel, rfl, by decide +kernel, by decide +kernel⟩
abbrev s_split_tokens : Stmt := topS 12
theorem sc_split_tokens : FnScope ["text", "tokens", "at", "word"] ["text"] (defScope s_split_tokens) := ⟨rfl, rfl, rfl, by decide +kernel, rfl, by decide +kernel, by decide +kernel⟩
abbrev s_comment_end : Stmt := topS 13
theorem sc_comment_end : FnScope ["text", "at", "end"] ["text", "at"] (defScope s_comment_end) := ⟨rfl, rfl, rfl, by decide +kernel, rfl, by decide +kernel, by decide +kernel⟩
abbrev s_word_at : Stmt := topS 14
theorem sc_word_at : FnScope ["text", "at", "end", "line", "column"] ["text", "at"] (defScope s_word_at) := ⟨rfl, rfl, rfl, by decide +kernel, rfl, by decide +kernel, by decide +kernel⟩
abbrev s_word_end : Stmt := topS 15
theorem sc_word_end : FnScope ["text", "at", "end"] ["text", "at"] (defScope s_word_end) := ⟨rfl, rfl, rfl, by decide +kernel, rfl, by decide +kernel, by decide +kernel⟩
abbrev s_statement : Stmt := topS 21
theorem sc_statement : FnScope ["cursor", "word", "side", "first", "name"] ["cursor"] (defScope s_statement) := ⟨rfl, rfl, rfl, by decide +kernel, rfl, by decide +kernel, by decide +kernel⟩
abbrev s_role : Stmt := topS 22
theorem sc_role : FnScope ["cursor", "back"] ["cursor"] (defScope s_role) := ⟨rfl, rfl, rfl, by decide +kernel, rfl, by decide +kernel, by decide +kernel⟩
abbrev s_concept : Stmt := topS 23
theorem sc_concept : FnScope ["cursor", "tree", "height"] ["cursor"] (defScope s_concept) := ⟨rfl, rfl, rfl, by decide +kernel, rfl, by decide +kernel, by decide +kernel⟩
abbrev s_is_name_before : Stmt := topS 24
theorem sc_is_name_before : FnScope ["cursor", "word"] ["cursor", "word"] (defScope s_is_name_before) := ⟨rfl, rfl, rfl, by decide +kernel, rfl, by decide +kernel, by decide +kernel⟩
abbrev s_begins_fact : Stmt := topS 25
theorem sc_begins_fact : FnScope ["cursor", "behind"] ["cursor"] (defScope s_begins_fact) := ⟨rfl, rfl, rfl, by decide +kernel, rfl, by decide +kernel, by decide +kernel⟩
abbrev s_fact : Stmt := topS 26
theorem sc_fact : FnScope ["cursor", "name", "link"] ["cursor"] (defScope s_fact) := ⟨rfl, rfl, rfl, by decide +kernel, rfl, by decide +kernel, by decide +kernel⟩
abbrev s_comparison : Stmt := topS 27
theorem sc_comparison : FnScope ["cursor", "first", "word", "second"] ["cursor"] (defScope s_comparison) := ⟨rfl, rfl, rfl, by decide +kernel, rfl, by decide +kernel, by decide +kernel⟩
abbrev s_alternatives : Stmt := topS 28
theorem sc_alternatives : FnScope ["cursor", "level"] ["cursor", "level"] (defScope s_alternatives) := ⟨rfl, rfl, rfl, by decide +kernel, rfl, by decide +kernel, by decide +kernel⟩
abbrev s_both : Stmt := topS 29
theorem sc_both : FnScope ["cursor", "level"] ["cursor", "level"] (defScope s_both) := ⟨rfl, rfl, rfl, by decide +kernel, rfl, by decide +kernel, by decide +kernel⟩
abbrev s_chain : Stmt := topS 30
theorem sc_chain : FnScope ["cursor", "level", "word", "operand", "tree", "height", "second", "other"] ["cursor", "level", "word", "operand"] (defScope s_chain) := ⟨rfl, rfl, rfl, by decide +kernel, rfl, by decide +kernel, by decide +kernel⟩
abbrev s_front : Stmt := topS 31
theorem sc_front : FnScope ["cursor", "level", "word", "tree", "height", "way"] ["cursor", "level"] (defScope s_front) := ⟨rfl, rfl, rfl, by decide +kernel, rfl, by decide +kernel, by decide +kernel⟩
abbrev s_atom : Stmt := topS 32
theorem sc_atom : FnScope ["cursor", "level", "word", "tree", "height"] ["cursor", "level"] (defScope s_atom) := ⟨rfl, rfl, rfl, by decide +kernel, rfl, by decide +kernel, by decide +kernel⟩
abbrev s_step_deeper : Stmt := topS 33
theorem sc_step_deeper : FnScope ["cursor", "level"] ["cursor", "level"] (defScope s_step_deeper) := ⟨rfl, rfl, rfl, by decide +kernel, rfl, by decide +kernel, by decide +kernel⟩
abbrev s_read_statement : Stmt := topS 35
theorem sc_read_statement : FnScope ["text"] ["text"] (defScope s_read_statement) := ⟨rfl, rfl, rfl, by decide +kernel, rfl, by decide +kernel, by decide +kernel⟩
abbrev s_read_concept : Stmt := topS 36
theorem sc_read_concept : FnScope ["text"] ["text"] (defScope s_read_concept) := ⟨rfl, rfl, rfl, by decide +kernel, rfl, by decide +kernel, by decide +kernel⟩
abbrev s_read_whole : Stmt := topS 37
theorem sc_read_whole : FnScope ["text", "form", "cursor", "tree"] ["text", "form"] (defScope s_read_whole) := ⟨rfl, rfl, rfl, by decide +kernel, rfl, by decide +kernel, by decide +kernel⟩
abbrev s_law_cell : Stmt := topS 39
theorem sc_law_cell : FnScope ["script", "k"] ["script", "k"] (defScope s_law_cell) := ⟨rfl, rfl, rfl, by decide +kernel, rfl, by decide +kernel, by decide +kernel⟩
abbrev s_law_draws : Stmt := topS 40
theorem sc_law_draws : FnScope ["script", "k", "count", "cell", "rest", "seed", "found", "at"] ["script", "k", "count"] (defScope s_law_draws) := ⟨rfl, rfl, rfl, by decide +kernel, rfl, by decide +kernel, by decide +kernel⟩
abbrev s_law_take : Stmt := topS 41
theorem sc_law_take : FnScope ["draws", "many"] ["draws", "many"] (defScope s_law_take) := ⟨rfl, rfl, rfl, by decide +kernel, rfl, by decide +kernel, by decide +kernel⟩
abbrev s_law_same : Stmt := topS 42
theorem sc_law_same : FnScope ["actual", "due", "k"] ["actual", "due"] (defScope s_law_same) := ⟨rfl, rfl, rfl, by decide +kernel, rfl, by decide +kernel, by decide +kernel⟩
abbrev s_law_fault : Stmt := topS 43
theorem sc_law_fault : FnScope ["read", "text", "e"] ["read", "text"] (defScope s_law_fault) := ⟨rfl, rfl, rfl, by decide +kernel, rfl, by decide +kernel, by decide +kernel⟩
abbrev s_law : Stmt := topS 44
theorem sc_law : FnScope ["script", "draws", "count", "text", "behind", "due", "k", "kind", "size", "word", "chain"] ["script"] (defScope s_law) := ⟨rfl, rfl, rfl, by decide +kernel, rfl, by decide +kernel, by decide +kernel⟩
abbrev s_FaultyText_init : Stmt := inClass (topS 2) 0
theorem sc_FaultyText_init : FnScope ["self", "line", "column", "reason", "text"] ["self", "line", "column", "reason"] (defScope s_FaultyText_init) := ⟨rfl, rfl, rfl, by decide +kernel, rfl, by decide +kernel, by decide +kernel⟩
abbrev s_Cursor_init : Stmt := inClass (topS 17) 0
theorem sc_Cursor_init : FnScope ["self", "text"] ["self", "text"] (defScope s_Cursor_init) := ⟨rfl, rfl, rfl, by decide +kernel, rfl, by decide +kernel, by decide +kernel⟩
abbrev s_Cursor_word : Stmt := inClass (topS 17) 1
theorem sc_Cursor_word : FnScope ["self"] ["self"] (defScope s_Cursor_word) := ⟨rfl, rfl, rfl, by decide +kernel, rfl, by decide +kernel, by decide +kernel⟩
abbrev s_Cursor_word_behind : Stmt := inClass (topS 17) 2
theorem sc_Cursor_word_behind : FnScope ["self"] ["self"] (defScope s_Cursor_word_behind) := ⟨rfl, rfl, rfl, by decide +kernel, rfl, by decide +kernel, by decide +kernel⟩
abbrev s_Cursor_at_end : Stmt := inClass (topS 17) 3
theorem sc_Cursor_at_end : FnScope ["self"] ["self"] (defScope s_Cursor_at_end) := ⟨rfl, rfl, rfl, by decide +kernel, rfl, by decide +kernel, by decide +kernel⟩
abbrev s_Cursor_step : Stmt := inClass (topS 17) 4
theorem sc_Cursor_step : FnScope ["self"] ["self"] (defScope s_Cursor_step) := ⟨rfl, rfl, rfl, by decide +kernel, rfl, by decide +kernel, by decide +kernel⟩
abbrev s_Cursor_expect : Stmt := inClass (topS 17) 5
theorem sc_Cursor_expect : FnScope ["self", "word"] ["self", "word"] (defScope s_Cursor_expect) := ⟨rfl, rfl, rfl, by decide +kernel, rfl, by decide +kernel, by decide +kernel⟩
abbrev s_Cursor_take_name : Stmt := inClass (topS 17) 6
theorem sc_Cursor_take_name : FnScope ["self", "word"] ["self"] (defScope s_Cursor_take_name) := ⟨rfl, rfl, rfl, by decide +kernel, rfl, by decide +kernel, by decide +kernel⟩
abbrev s_Cursor_here : Stmt := inClass (topS 17) 7
theorem sc_Cursor_here : FnScope ["self"] ["self"] (defScope s_Cursor_here) := ⟨rfl, rfl, rfl, by decide +kernel, rfl, by decide +kernel, by decide +kernel⟩
abbrev s_Cursor_fail : Stmt := inClass (topS 17) 8
theorem sc_Cursor_fail : FnScope ["self", "reason", "line", "column"] ["self", "reason"] (defScope s_Cursor_fail) := ⟨rfl, rfl, rfl, by decide +kernel, rfl, by decide +kernel, by decide +kernel⟩
local macro_rules | `(tactic| walk_at "w") => `(tactic| repeat (first
  | refine ⟨_, rfl, ?_⟩
  | refine ⟨_, _, rfl, rfl, .inr ⟨by decide, by decide⟩, ?_⟩
  | refine ⟨_, _, rfl, rfl, .inl ⟨by decide, by decide⟩, ?_⟩
  | refine ⟨_, _, rfl, rfl, ⟨by decide, by decide⟩, ?_⟩
  | refine ⟨_, _, rfl, rfl, ⟨by decide, by decide, by decide⟩, ?_⟩
  | refine ⟨_, _, rfl, rfl, (by show (0 : Int) < _; decide), ?_⟩
  | refine ⟨_, _, rfl, rfl, ?_⟩
  | refine .inl ⟨_, rfl, ?_⟩))
section
variable {P : Program} {w : World} {K : PySem.W.Frag} {mg : Str → Option Value} {base : Heap}
theorem at_int {ns : List Int} {k : Int} (h0 : 0 ≤ k) (h : k < ((ns.map V.int).length : Int)) : ∃ c, atI (ns.map V.int) k = some (.int c) := by
  have hk : k.toNat < ns.length := by rw [List.length_map] at h; omega
  have ek : k = ((k.toNat : Nat) : Int) := by omega
  have q : atI (ns.map V.int) ((k.toNat : Nat) : Int) = some (.int ns[k.toNat]) := atI_nat (by rw [List.getElem?_map, List.getElem?_eq_getElem hk] <;> rfl)
  rw [← ek] at q
  exact ⟨_, q⟩
theorem c_law_cell {f : Addr} {fd : FuncData} (D : Df K mg "_law_cell" s_law_cell f fd ["script", "k"]) (z_len : mg "len" = none) (z_int : mg "int" = none) : Cl P w K mg base 1 "_law_cell" (spCell K) := by
  refine D.cl sc_law_cell (fun vs H Q E h => ?_) (fun cdv A outer s H vs Q E hr h => ?_)
  · obtain ⟨a, ns, k, rfl, _⟩ := h
    rfl
  obtain ⟨a, ns, k, rfl, hS, h63, h0, q⟩ := h
  refine ⟨_, (pss_cons (ps_if (pt_cmpR op_lt (pv 1) (pe_callB call_len_seq (by rfl) z_len PySem.boot_len (pa_cons (pv 0) pa_nil)) (nomark _)) (pss_one (ps_ret (pe_callTy call_int1 (by rfl) z_int (by decide +kernel) (pa_cons (pe_ix ix_list (pv 0) (pv 1) (fun _ _ => rfl)) pa_nil)))) pss_nil)
      (pss_one (ps_ret pe_int))), ?_⟩
  refine ⟨_, rfl, _, rfl, a, _, rfl, .inl hS, _, _, rfl, rfl, _, rfl, ite2 (fun c => ?_) (fun c => ?_)⟩
  · obtain ⟨v, hv⟩ := at_int (ns := ns) h0 (of_decide_eq_true c)
    exact ⟨_, rfl, _, rfl, a, _, _, _, rfl, rfl, hS, hv, .inl ⟨_, rfl, q v⟩⟩
  · exact q 0
theorem c_law_take {f : Addr} {fd : FuncData} (D : Df K mg "_law_take" s_law_take f fd ["draws", "many"]) (z_int : mg "int" = none) : Cl P w K mg base 1 "_law_take" spTake := by
  refine D.cl sc_law_take (fun vs H Q E h => ?_) (fun cdv A outer s H vs Q E hr h => ?_)
  · obtain ⟨l, ds, m, rfl, _⟩ := h
    rfl
  obtain ⟨l, ds, m, rfl, hl, hm, q⟩ := h
  refine ⟨_, (pss_cons (ps_if (pt_not (pt_truth (pv 0) (by intro _; rfl))) (pss_one (ps_ret pe_int)) pss_nil)
      (pss_one (ps_ret (pe_op op_mod (pe_callTy call_int1 (by rfl) z_int (by decide +kernel) (pa_cons (pe_bm PySem.F.plainAttrs_list PySem.F.slot_list_pop PySem.F.type_list_pop mt_popAt (pv 0) (pa_cons pe_int pa_nil)) pa_nil)) (pv 1))))), ?_⟩
  cases ds with
  | nil =>
    refine ⟨_, rfl, false, .inl ⟨_, SqL.of hl, rfl⟩, iteT ?_⟩
    have := q 0 (Int.le_refl 0) hm
    rw [show upd H l (.lst (([] : List Int).tail.map V.int)) = H from upd_self hl] at this
    exact this
  | cons d r =>
    refine ⟨_, rfl, true, .inl ⟨_, SqL.of hl, rfl⟩, iteF ?_⟩
    refine ⟨_, rfl, .inl ⟨rfl, _, SqL.of hl⟩, l, _, _, 0, .int d, rfl, rfl, hl, by decide, by decide, seqIndex?_zero (Nat.succ_pos _), rfl, .inl ⟨_, rfl, _, rfl, _, _, rfl, rfl, hm, ?_⟩⟩
    exact q (d % m) (Int.emod_nonneg _ (by omega)) (Int.emod_lt_of_pos _ hm)
theorem c_law_draws {f : Addr} {fd : FuncData} (D : Df K mg "_law_draws" s_law_draws f fd ["script", "k", "count"]) (c_law_cell : Cl P w K mg base 1 "_law_cell" (spCell K)) (z_int : mg "int" = none) (z_range : mg "range" = none) : Cl P w K mg base 2 "_law_draws" (spDraws K) := by
  refine D.cl sc_law_draws (fun vs H Q E h => ?_) (fun cdv A outer s H vs Q E hr h => ?_)
  · obtain ⟨a, ns, k, n, rfl, _⟩ := h
    rfl
  obtain ⟨a, ns, k, n, rfl, hS, h63, h0, hn0, hn, q⟩ := h
  refine ⟨_, (pss_cons (ps_set (i := 3) sc_law_draws.nd rfl (.inl rfl) (pc c_law_cell hr (by first | decide | omega) (by rfl) (pa_cons (pv 0) (pa_cons (pv 1) pa_nil))))
      (pss_cons (ps_set (i := 4) sc_law_draws.nd rfl (.inl rfl) pe_int)
      (Evl.pss_cut (ps_if (pt_cmpR op_ge (pv 3) (pe_op op_pow pe_int pe_int) (nomark _)) (pss_one (ps_set (i := 4) sc_law_draws.nd rfl (.inl rfl) (pe_op op_fdivW (pv 3) (pe_op op_pow pe_int pe_int)))) pss_nil)
      (pss_cons (ps_set (i := 5) sc_law_draws.nd rfl (.inl rfl) (pe_op op_mod (pe_callTy call_int1 (by rfl) z_int (by decide +kernel) (pa_cons (pe_op op_add (pe_op op_add (pe_op op_mul (pv 3) pe_int) (pe_op op_mul (pv 1) pe_int)) pe_int) pa_nil)) pe_int))
      (pss_cons (ps_set (i := 6) sc_law_draws.nd rfl (.inl rfl) (pe_lst pa_nil))
      (pss_cons (ps_for PassesOwn.never rfl (pi_range1 (by rfl) z_range (pa_cons (pv 2) pa_nil)) (pg_name (i := 7) sc_law_draws.nd rfl (.inl rfl)) (pss_cons (ps_set (i := 5) sc_law_draws.nd rfl (.inl rfl) (pe_op op_mod (pe_callTy call_int1 (by rfl) z_int (by decide +kernel) (pa_cons (pe_op op_add (pe_op op_add (pe_op op_mul (pv 5) pe_int) (pe_op op_mul (pv 7) pe_int)) pe_int) pa_nil)) pe_int))
      (pss_one (ps_if (pt_cmpR op_gt (pv 4) pe_int (nomark _)) (pss_cons (ps_expr (pe_bm PySem.F.plainAttrs_list PySem.F.slot_list_append PySem.F.type_list_append mt_append (pv 6) (pa_cons (pe_op op_mod (pe_callTy call_int1 (by rfl) z_int (by decide +kernel) (pa_cons (pv 4) pa_nil)) pe_int) pa_nil)))
      (pss_one (ps_set (i := 4) sc_law_draws.nd rfl (.inl rfl) (pe_op op_fdiv (pv 4) pe_int)))) (pss_one (ps_expr (pe_bm PySem.F.plainAttrs_list PySem.F.slot_list_append PySem.F.type_list_append mt_append (pv 6) (pa_cons (pe_op op_mod (pe_callTy call_int1 (by rfl) z_int (by decide +kernel) (pa_cons (pe_op op_fdiv (pv 5) pe_int) pa_nil)) pe_int) pa_nil))))))))
      (pss_one (ps_ret (pv 6))))))))), ?_⟩
  refine ⟨_, rfl, _, rfl, a, ns, k, rfl, hS, h63, h0, fun c => ?_⟩
  walk_at "w"
  refine ⟨fun σ' H' => ∃ r : Int, σ' = [some (.ref a), some (.int k), some (.int n), some (.int c), some (.int r), none, none, none] ∧ H = H', ?_, ?_⟩
  · walk_at "w"
    refine ite2 (fun c1 => ?_) (fun c1 => ?_)
    · walk_at "w"
      exact rfl
    · exact ⟨0, rfl, rfl⟩
  rintro _ _ ⟨r, rfl, rfl⟩
  walk_at "w"
  refine ⟨Nat.zero_le _, fun p hp => ?_⟩
  walk_at "w"
  refine ⟨by omega, by omega, for_range (lo := 0) (n := n.toNat) (fun i σ' H' => ∃ (r sd : Int) (x : Option V) (ds : List Int), σ' = [some (.ref a), some (.int k), some (.int n), some (.int c), some (.int r), some (.int sd), some (.ref p), x] ∧ ds.length = i ∧ H' = upd H p (.lst (ds.map V.int))) ⟨_, _, none, [], rfl, rfl, rfl⟩ ?_ ?_⟩
  · rintro i _ _ hi ⟨r, sd, x, ds, rfl, hd, rfl⟩
    have hz : (ds.map V.int).length < sizeLine := by
      rw [List.length_map]
      exact small1000 (by omega)
    have e1 : ∀ y : Int, upd (upd H p (.lst (ds.map V.int))) p (.lst (ds.map V.int ++ [V.int y])) = upd H p (.lst ((ds ++ [y]).map V.int)) := fun y => by
      rw [upd_upd, List.map_append]
      rfl
    walk_at "w"
    refine ite2 (fun c1 => ?_) (fun c1 => ?_)
    · walk_at "w"
      refine ⟨.inl ⟨rfl, _, SqL.of upd_same⟩, ?_⟩
      walk_at "w"
      refine ⟨p, _, _, rfl, rfl, upd_same, hz, ?_⟩
      walk_at "w"
      exact ⟨_, _, _, ds ++ [_], rfl, by rw [List.length_append, hd]; rfl, e1 _⟩
    · walk_at "w"
      refine ⟨.inl ⟨rfl, _, SqL.of upd_same⟩, ?_⟩
      walk_at "w"
      refine ⟨p, _, _, rfl, rfl, upd_same, hz, ?_⟩
      exact ⟨_, _, _, ds ++ [_], rfl, by rw [List.length_append, hd]; rfl, e1 _⟩
  · rintro _ _ ⟨r, sd, x, ds, rfl, hd, rfl⟩
    exact ⟨_, rfl, q ds p _ (Same.new _ hp) hp upd_same (by omega)⟩
theorem c_law_same {f : Addr} {fd : FuncData} (D : Df K mg "_law_same" s_law_same f fd ["actual", "due"]) (z_isinstance : mg "isinstance" = none) (z_tuple : mg "tuple" = none) (z_bool : mg "bool" = none) (z_int : mg "int" = none) (z_str : mg "str" = none)
    (z_len : mg "len" = none) (z_all : mg "all" = none) (z_range : mg "range" = none) : ∀ n : Nat, Cl P w K mg base (n + 1) "_law_same" (spSame K n)
  | 0 => by
    refine D.cl sc_law_same (fun vs H Q E h => ?_) (fun cdv A outer s H vs Q E hr h => ?_)
    · obtain ⟨x, y, d, rfl, _⟩ := h
      rfl
    · obtain ⟨x, y, d, rfl, _, _, z, _⟩ := h
      exact z.elim
  | n + 1 => by
    have c_law_same := c_law_same D z_isinstance z_tuple z_bool z_int z_str z_len z_all z_range n
    refine D.cl sc_law_same (fun vs H Q E h => ?_) (fun cdv A outer s H vs Q E hr h => ?_)
    · obtain ⟨x, y, d, rfl, _⟩ := h
      rfl
    obtain ⟨x, y, d, rfl, hx, hy, hd, q⟩ := h
    refine ⟨_, (pss_cons (ps_if (pt_val (pe_callB call_isi (by rfl) z_isinstance (by decide +kernel) (pa_cons (pv 1) (pa_cons (pe_bltn (v := .ty "tuple") (u := .type "tuple") (by rfl) z_tuple (by decide +kernel) rfl) pa_nil)))) (pss_cons (ps_if (PW.pt (pw_or (pt_not (pt_val (pe_callB call_isi (by rfl) z_isinstance (by decide +kernel) (pa_cons (pv 0) (pa_cons (pe_bltn (v := .ty "tuple") (u := .type "tuple") (by rfl) z_tuple (by decide +kernel) rfl) pa_nil))))) (pw_or1 (pt_cmpR op_ne (pe_callB call_len_seq (by rfl) z_len PySem.boot_len (pa_cons (pv 0) pa_nil)) (pe_callB call_len_seq (by rfl) z_len PySem.boot_len (pa_cons (pv 1) pa_nil)) (nomark _))))) (pss_one (ps_ret pe_bl)) pss_nil)
      (pss_one (ps_ret (pe_callB (cr_all rfl) (by rfl) z_all (by decide +kernel) (pa_cons (pe_lc (own := [("k", 2)]) (g := gName 2) (tt := tYes) (by rfl) sc_law_same.nd (pi_range1 (by rfl) z_range (pa_cons (pe_callB call_len_seq (by rfl) z_len PySem.boot_len (pa_cons (pv 1) pa_nil)) pa_nil)) (blkOk_by (own := [("k", 2)]) (N := ["actual", "due", "k"]) (sc := defScope s_law_same) (by decide +kernel)) (fun _ _ _ _ _ => pg_name (i := 2) sc_law_same.nd rfl (.inl rfl)) (fun _ _ _ _ _ => pts_nil) (fun _ _ _ _ _ => (pc c_law_same hr (by first | decide | omega) (by rfl) (pa_cons (pe_ix (ixT (K := K)) (pv 0) (pv 2) (fun _ _ => rfl)) (pa_cons (pe_ix (ixT (K := K)) (pv 1) (pv 2) (fun _ _ => rfl)) pa_nil))))) pa_nil))))) pss_nil)
      (pss_cons (ps_if (pt_val (pe_callB call_isi (by rfl) z_isinstance (by decide +kernel) (pa_cons (pv 1) (pa_cons (pe_bltn (v := .ty "bool") (u := .type "bool") (by rfl) z_bool (by decide +kernel) rfl) pa_nil)))) (pss_one (ps_ret (pe_and (pe_callB call_isi (by rfl) z_isinstance (by decide +kernel) (pa_cons (pv 0) (pa_cons (pe_bltn (v := .ty "bool") (u := .type "bool") (by rfl) z_bool (by decide +kernel) rfl) pa_nil))) (pe_one (pe_cmpR op_eq (pv 0) (pv 1) (nomark _)))))) pss_nil)
      (pss_cons (ps_if (pt_val (pe_callB call_isi (by rfl) z_isinstance (by decide +kernel) (pa_cons (pv 1) (pa_cons (pe_bltn (v := .ty "int") (u := .type "int") (by rfl) z_int (by decide +kernel) rfl) pa_nil)))) (pss_one (ps_ret (pe_and (pe_callB call_isi (by rfl) z_isinstance (by decide +kernel) (pa_cons (pv 0) (pa_cons (pe_bltn (v := .ty "int") (u := .type "int") (by rfl) z_int (by decide +kernel) rfl) pa_nil))) (pe_and (pe_not (pe_callB call_isi (by rfl) z_isinstance (by decide +kernel) (pa_cons (pv 0) (pa_cons (pe_bltn (v := .ty "bool") (u := .type "bool") (by rfl) z_bool (by decide +kernel) rfl) pa_nil)))) (pe_one (pe_cmpR op_eq (pv 0) (pv 1) (nomark _))))))) pss_nil)
      (pss_cons (ps_if (pt_val (pe_callB call_isi (by rfl) z_isinstance (by decide +kernel) (pa_cons (pv 1) (pa_cons (pe_bltn (v := .ty "str") (u := .type "str") (by rfl) z_str (by decide +kernel) rfl) pa_nil)))) (pss_one (ps_ret (pe_and (pe_callB call_isi (by rfl) z_isinstance (by decide +kernel) (pa_cons (pv 0) (pa_cons (pe_bltn (v := .ty "str") (u := .type "str") (by rfl) z_str (by decide +kernel) rfl) pa_nil))) (pe_one (pe_cmpR op_eq (pv 0) (pv 1) (nomark _)))))) pss_nil)
      (pss_one (ps_ret (pe_cmpR op_isN (pv 0) pe_non (nomark _)))))))), ?_⟩
    cases d with
    | none =>
      cases hx
      cases hy
      refine if_isiF rfl (.base .non) (by decide +kernel) (if_isiF rfl (.base .non) (by decide +kernel) (if_isiF rfl (.base .non) (by decide +kernel) (if_isiF rfl (.base .non) (by decide +kernel) ?_)))
      exact ⟨_, rfl, rfl, q _ (Same.refl _)⟩
    | bool b =>
      cases hx
      cases hy
      refine if_isiF rfl (.base (.bl b)) (by decide +kernel) (if_isiT rfl (.base (.bl b)) (by decide +kernel) (ev_isi (b := true) rfl (.base (.bl b)) (by decide +kernel) ⟨_, rfl, iteT ?_⟩))
      refine ⟨_, rfl, _, rfl, rfl, ?_⟩
      rw [decide_eq_true rfl]
      exact q _ (Same.refl _)
    | int i =>
      cases hx
      cases hy
      refine if_isiF rfl (.base (.int i)) (by decide +kernel) (if_isiF rfl (.base (.int i)) (by decide +kernel) (if_isiT rfl (.base (.int i)) (by decide +kernel) (ev_isi (b := true) rfl (.base (.int i)) (by decide +kernel) ⟨_, rfl, iteT (ev_isi (b := false) rfl (.base (.int i)) (by decide +kernel) ⟨_, rfl, _, rfl, iteT ?_⟩)⟩)))
      refine ⟨_, rfl, _, rfl, rfl, ?_⟩
      rw [decide_eq_true rfl]
      exact q _ (Same.refl _)
    | str z =>
      cases hx
      cases hy
      refine if_isiF rfl (.base (.str z)) (by decide +kernel) (if_isiF rfl (.base (.str z)) (by decide +kernel) (if_isiF rfl (.base (.str z)) (by decide +kernel) (if_isiT rfl (.base (.str z)) (by decide +kernel) (ev_isi (b := true) rfl (.base (.str z)) (by decide +kernel) ⟨_, rfl, iteT ?_⟩))))
      refine ⟨_, rfl, _, rfl, rfl, ?_⟩
      rw [decide_eq_true rfl]
      exact q _ (Same.refl _)
    | list ds => exact hd.elim
    | dict ds => exact hd.elim
    | tuple ds =>
      cases hx with
      | @tup a xs _ hS hA =>
      cases hy with
      | @tup b ys _ hT hB =>
      have l1 := dpAll_len hA
      have l2 := dpAll_len hB
      refine if_isiT rfl (tyT hT) (by decide +kernel) ?_
      -- not isinstance(actual, tuple) or len(actual) != len(due)
      refine ev_isi (b := true) rfl (tyT hS) (by decide +kernel) ⟨_, rfl, iteF ?_⟩
      refine ⟨_, rfl, a, _, rfl, .inr hS, _, rfl, b, _, rfl, .inr hT, rfl, _, rfl, ?_⟩
      rw [l1, l2, decide_eq_true rfl]
      refine iteF ?_
      -- all of a list of True
      refine ⟨_, rfl, b, _, rfl, .inr hT, _, rfl, by have := hd.1; omega, by have := hd.1; omega, fun L hL => ?_⟩
      refine lc_range (lo := 0) (n := _) (fun i H' => Same H H' ∧ H L = none ∧ H' L = some (.lst ((List.replicate i true).map V.bl))) ⟨Same.new _ hL, hL, upd_same⟩ ?_ ?_
      · rintro i H' hi ⟨e, hn, hl⟩
        have hi' : i < ds.length := by rw [← l2]; exact hi
        have g1 : i < xs.length := by omega
        have g2 : i < _ := hi
        have ei : (0 : Int) + (i : Int) = ((i : Nat) : Int) := by omega
        refine ⟨rfl, ?_⟩
        refine ⟨_, rfl, _, rfl, a, _, _, _, rfl, rfl, Same.seqT e hS, (by rw [ei]; exact atI_some g1), _, rfl, _, rfl, b, _, _, _, rfl, rfl, Same.seqT e hT, (by rw [ei]; exact atI_some g2), ?_⟩
        refine ⟨_, _, ds[i], rfl, Dp.same e (dpAll_at hA i _ _ (List.getElem?_eq_getElem g1) (List.getElem?_eq_getElem hi')), Dp.same e (dpAll_at hB i _ _ (List.getElem?_eq_getElem g2) (List.getElem?_eq_getElem hi')), hd.2 _ (List.getElem_mem hi'), fun H2 e2 => ?_⟩
        refine ⟨_, e2 _ _ hl, ?_, ?_⟩
        · rw [List.length_map, List.length_replicate]
          have := hd.1
          exact Nat.lt_of_lt_of_le (show i < 100001 by omega) (by decide)
        · refine ⟨fun z o hz => ?_, hn, ?_⟩
          · rw [upd_ne (ne_of_none hz hn)]
            exact e2 _ _ (e _ _ hz)
          · rw [upd_same, List.replicate_succ', List.map_append]
            rfl
      · rintro H' ⟨e, hn, hl⟩
        refine ⟨L, _, rfl, SqL.of hl, ?_⟩
        have ea : ∀ n : Nat, (List.replicate n true).all id = true := fun n => by
          induction n with
          | zero => rfl
          | succ n ih => rw [List.replicate_succ, List.all_cons, ih]; rfl
        rw [ea]
        exact q _ e
/-- the index behind the word at an index -/
def wordEnd (l : List Nat) (a : Nat) : Nat := match l.drop a with
  | [] => a
  | c :: r => if isL c then a + 1 + (r.takeWhile isW).length else a
def spWordEnd : Sp := fun vs H Q _ => ∃ (l : List Nat) (a : Nat), vs = [.str (T l), .int (a : Int)] ∧ a ≤ l.length ∧ l.length ≤ 100000 ∧ Q (.int (wordEnd l a : Nat)) H
theorem wordEnd_le {l : List Nat} {a : Nat} (h : a ≤ l.length) : a ≤ wordEnd l a ∧ wordEnd l a ≤ l.length := by
  unfold wordEnd
  have hl : (l.drop a).length = l.length - a := List.length_drop
  cases e : l.drop a with
  | nil => exact ⟨Nat.le_refl _, h⟩
  | cons c r =>
    rw [e, List.length_cons] at hl
    have := (List.takeWhile_prefix isW (l := r)).length_le
    show a ≤ (if isL c then a + 1 + (r.takeWhile isW).length else a) ∧ (if isL c then a + 1 + (r.takeWhile isW).length else a) ≤ l.length
    split <;> omega
theorem c_word_end {f : Addr} {fd : FuncData} {tL tD : Tok} (D : Df K mg "_word_end" s_word_end f fd ["text", "at"]) (m_LETTERS : mg "LETTERS" = some (.str K_LETTERS tL)) (m_DIGITS : mg "DIGITS" = some (.str K_DIGITS tD)) (z_len : mg "len" = none) : Cl P w K mg base 1 "_word_end" spWordEnd := by
  refine D.cl sc_word_end (fun vs H Q E h => ?_) (fun cdv A outer s H vs Q E hr h => ?_)
  · obtain ⟨l, a, rfl, _⟩ := h
    rfl
  obtain ⟨l, a, rfl, ha, hl, q⟩ := h
  refine ⟨_, (pss_cons (ps_if (PW.pt (pw_or (pt_cmpR op_eq (pv 1) (pe_callB call_len_str (by rfl) z_len PySem.boot_len (pa_cons (pv 0) pa_nil)) (nomark _)) (pw_or1 (pt_cmpR op_notIn_sign (pe_ix ix_str (pv 0) (pv 1) (fun _ _ => rfl)) (pe_glob (v := .str K_LETTERS) (by rfl) m_LETTERS ⟨_, rfl⟩) rfl)))) (pss_one (ps_ret (pv 1))) pss_nil)
      (pss_cons (ps_set (i := 2) sc_word_end.nd rfl (.inl rfl) (pe_op op_add (pv 1) pe_int))
      (pss_cons (ps_while PassesOwn.never (PW.pt (pw_and (pt_cmpR op_lt (pv 2) (pe_callB call_len_str (by rfl) z_len PySem.boot_len (pa_cons (pv 0) pa_nil)) (nomark _)) (pw_and1 (PW.pt (pw_or (pt_cmpR op_in_sign (pe_ix ix_str (pv 0) (pv 2) (fun _ _ => rfl)) (pe_glob (v := .str K_LETTERS) (by rfl) m_LETTERS ⟨_, rfl⟩) rfl) (pw_or1 (pt_cmpR op_in_sign (pe_ix ix_str (pv 0) (pv 2) (fun _ _ => rfl)) (pe_glob (v := .str K_DIGITS) (by rfl) m_DIGITS ⟨_, rfl⟩) rfl))))))) (pss_one (ps_aug (i := 2) sc_word_end.nd rfl (.inl rfl) pe_int ip_add)))
      (pss_one (ps_ret (pv 2)))))), ?_⟩
  have hz : (T l).length ≤ sizeLine := by rw [T_len]; exact small9 (by omega)
  have item : ∀ i : Nat, i < l.length → atI (T l).cps.toList (i : Int) = some (l.getD i 0) := fun i hi => by
    have := atI_some (xs := l) hi
    rw [List.getD_eq_getElem?_getD, List.getElem?_eq_getElem hi]
    exact this
  walk_at "w"
  refine ⟨hz, rfl, _, rfl, ?_⟩
  rw [T_len]
  show if decide (V.int (a : Int) = V.int (l.length : Int)) = true then _ else _
  by_cases he : a = l.length
  · rw [he, decide_eq_true rfl]
    refine iteT (iteT ?_)
    refine ⟨_, rfl, ?_⟩
    have := q
    unfold wordEnd at this
    rw [List.drop_eq_nil_of_le (by omega)] at this
    rw [← he]
    exact this
  rw [decide_eq_false (fun z => he (by have := V.int.inj z; omega))]
  refine iteF ?_
  have hlt : a < l.length := by omega
  have hd := List.drop_eq_getElem_cons hlt
  have hg : l.getD a 0 = l[a] := by rw [List.getD_eq_getElem?_getD, List.getElem?_eq_getElem hlt]; rfl
  refine ⟨_, rfl, _, rfl, _, _, _, rfl, rfl, hz, item a hlt, _, _, rfl, rfl, _, rfl, ?_⟩
  rw [hg]
  show if (!isL l[a]) = true then _ else _
  have q2 : Q (.int ((if isL l[a] then a + 1 + ((l.drop (a + 1)).takeWhile isW).length else a : Nat) : Int)) H := by
    unfold wordEnd at q
    rw [hd] at q
    exact q
  cases hL : isL l[a] with
  | false =>
    rw [hL] at q2
    exact iteT ⟨_, rfl, q2⟩
  | true =>
    rw [hL] at q2
    refine iteF ?_
    walk_at "w"
    refine ⟨fun m σ' H' => ∃ e : Nat, σ' = [some (.str (T l)), some (.int (a : Int)), some (.int (e : Int))] ∧ H = H' ∧ m = l.length - e ∧ e ≤ l.length ∧ e + ((l.drop e).takeWhile isW).length = a + 1 + ((l.drop (a + 1)).takeWhile isW).length, ⟨_, a + 1, rfl, rfl, rfl, by omega, rfl⟩, ?_⟩
    rintro m _ _ ⟨e, rfl, rfl, rfl, hel, hee⟩
    have fin : (l.drop e).takeWhile isW = [] → Q (.int (e : Int)) H := fun z => by
      rw [z] at hee
      have e2 : e = a + 1 + ((l.drop (a + 1)).takeWhile isW).length := by simpa using hee
      rw [e2]
      exact q2
    walk_at "w"
    refine ⟨hz, ?_⟩
    walk_at "w"
    rw [T_len]
    by_cases h1 : e < l.length
    · have hd1 := List.drop_eq_getElem_cons h1
      have hg1 : l.getD e 0 = l[e] := by rw [List.getD_eq_getElem?_getD, List.getElem?_eq_getElem h1]; rfl
      rw [decide_eq_true (show (e : Int) < (l.length : Int) by omega)]
      refine iteT ?_
      refine ⟨_, rfl, _, rfl, _, _, _, rfl, rfl, hz, item e h1, _, _, rfl, rfl, _, rfl, ?_⟩
      rw [hg1]
      have go : isW l[e] = true → ∃ m' : Nat, m' < l.length - e ∧ ∃ e' : Nat, ([some (.str (T l)), some (.int (a : Int)), some (.int ((e : Int) + 1))] : L2.St) = [some (.str (T l)), some (.int (a : Int)), some (.int (e' : Int))] ∧ H = H ∧ m' = l.length - e' ∧ e' ≤ l.length ∧ e' + ((l.drop e').takeWhile isW).length = a + 1 + ((l.drop (a + 1)).takeWhile isW).length := fun hw => by
        refine ⟨l.length - (e + 1), by omega, e + 1, rfl, rfl, rfl, by omega, ?_⟩
        rw [hd1, List.takeWhile_cons, hw] at hee
        rw [← hee]
        show e + 1 + _ = e + (((l.drop (e + 1)).takeWhile isW).length + 1)
        omega
      show if isL l[e] = true then _ else _
      cases hl2 : isL l[e] with
      | true =>
        refine iteT (iteT ⟨_, fun σ' H' n => n, ?_⟩)
        walk_at "w"
        exact go (by unfold isW; rw [hl2]; rfl)
      | false =>
        refine iteF ?_
        refine ⟨_, rfl, _, rfl, _, _, _, rfl, rfl, hz, item e h1, _, _, rfl, rfl, _, rfl, ?_⟩
        rw [hg1]
        cases hd2 : decide (l[e] ∈ K_DIGITS.cps.toList) with
        | true =>
          refine iteT ⟨_, fun σ' H' n => n, ?_⟩
          walk_at "w"
          exact go (by unfold isW; rw [hl2, hd2]; rfl)
        | false =>
          refine iteF ⟨_, rfl, fin ?_⟩
          rw [hd1, List.takeWhile_cons]
          have : isW l[e] = false := by unfold isW; rw [hl2, hd2]; rfl
          rw [this]
          rfl
    · rw [decide_eq_false (show ¬ (e : Int) < (l.length : Int) by omega)]
      refine iteF (iteF ⟨_, rfl, fin ?_⟩)
      rw [List.drop_eq_nil_of_le (by omega)]
      rfl
/-- a word that is a name -/
def isNm (l : List Nat) : Bool := decide (0 < wordEnd l 0) && decide (wordEnd l 0 ≤ 20) && decide (wordEnd l 0 = l.length) && !decide (T l ∈ K_RESERVED)
def spIsName : Sp := fun vs H Q _ => ∃ l : List Nat, vs = [.str (T l)] ∧ l.length ≤ 100000 ∧ Q (.bl (isNm l)) H
theorem c_is_name {f : Addr} {fd : FuncData} {r : Addr} {t : Tok} (D : Df K mg "is_name" s_is_name f fd ["word"]) (c_word_end : Cl P w K mg base 1 "_word_end" spWordEnd) (m_LONGEST_WORD : mg "LONGEST_WORD" = some (.int K_LONGEST_WORD t)) (m_RESERVED : mg "RESERVED" = some (.ref r)) (hR : ∀ H, SqT K H r (K_RESERVED.map V.str)) (z_len : mg "len" = none) : Cl P w K mg base 2 "is_name" spIsName := by
  refine D.cl sc_is_name (fun vs H Q E h => ?_) (fun cdv A outer s H vs Q E hr h => ?_)
  · obtain ⟨l, rfl, _⟩ := h
    rfl
  obtain ⟨l, rfl, hl, q⟩ := h
  refine ⟨_, (pss_cons (ps_set (i := 1) sc_is_name.nd rfl (.inl rfl) (pc c_word_end hr (by first | decide | omega) (by rfl) (pa_cons (pv 0) (pa_cons pe_int pa_nil))))
      (pss_one (ps_ret (pe_and (pe_chain op_lt op_le pe_int (pv 1) (pe_glob (v := .int K_LONGEST_WORD) (by rfl) m_LONGEST_WORD ⟨_, rfl⟩)) (pe_and (pe_cmpR op_eq (pv 1) (pe_callB call_len_str (by rfl) z_len PySem.boot_len (pa_cons (pv 0) pa_nil)) (nomark _)) (pe_one (pe_cmpR op_notIn_seq (pv 0) (pe_glob (v := .ref _) (by rfl) m_RESERVED rfl) rfl))))))), ?_⟩
  have hz : (T l).length ≤ sizeLine := by rw [T_len]; exact small9 (by omega)
  walk_at "w"
  refine ⟨l, 0, rfl, Nat.zero_le _, hl, ?_⟩
  walk_at "w"
  have c1 : decide ((0 : Int) < ((wordEnd l 0 : Nat) : Int)) = decide (0 < wordEnd l 0) := decide_eq_decide.mpr (by omega)
  have c2 : decide (((wordEnd l 0 : Nat) : Int) ≤ K_LONGEST_WORD) = decide (wordEnd l 0 ≤ 20) := decide_eq_decide.mpr (by show ((wordEnd l 0 : Nat) : Int) ≤ 20 ↔ _; omega)
  have c3 : decide (V.int ((wordEnd l 0 : Nat) : Int) = V.int (l.length : Int)) = decide (wordEnd l 0 = l.length) := decide_eq_decide.mpr ⟨fun z => by have := V.int.inj z; omega, fun z => by rw [z]⟩
  unfold isNm at q
  rw [c1]
  cases d1 : decide (0 < wordEnd l 0) with
  | false =>
    rw [d1] at q
    exact iteF ⟨_, rfl, iteF q⟩
  | true =>
    rw [d1] at q
    refine iteT ?_
    refine ⟨_, _, rfl, rfl, _, rfl, ?_⟩
    rw [c2]
    cases d2 : decide (wordEnd l 0 ≤ 20) with
    | false =>
      rw [d2] at q
      exact iteF q
    | true =>
      rw [d2] at q
      refine iteT ⟨_, rfl, _, rfl, _, rfl, hz, rfl, ?_⟩
      rw [T_len, c3]
      refine ⟨_, rfl, ?_⟩
      cases d3 : decide (wordEnd l 0 = l.length) with
      | false =>
        rw [d3] at q
        exact iteF q
      | true =>
        rw [d3] at q
        refine iteT ⟨_, rfl, r, _, rfl, .inr (hR H), rfl, flat_strs _, ?_⟩
        rw [inV_strs]
        exact q
/-- a token: is it a word, its codes, its index -/
structure Tk where
  wd : Bool
  s : List Nat
  i : Nat
def tkD (t : Tk) : PyData := .tuple [.str (if t.wd then Str.ofString "word" else Str.ofString "sign"), .str (T t.s), .int (t.i : Int)]
def endD (n : Nat) : PyData := .tuple [.str (Str.ofString "end"), .str (Str.ofString ""), .int (n : Int)]
/-- the tokens of what is left from an index on, and the index of a place where none begins -/
def scan : Nat → List Nat → Nat → List Tk × Option Nat
  | 0, _, _ => ([], none)
  | _ + 1, [], _ => ([], none)
  | n + 1, c :: r, a =>
    if isB c then scan n r (a + 1)
    else if c = 35 then scan n (r.drop (behind 10 r)) (a + 1 + behind 10 r)
    else if isS c then (⟨false, [c], a⟩ :: (scan n r (a + 1)).1, (scan n r (a + 1)).2)
    else if isL c && decide ((r.takeWhile isW).length < 20) then
      (⟨true, c :: r.take (r.takeWhile isW).length, a⟩ :: (scan n (r.drop (r.takeWhile isW).length) (a + 1 + (r.takeWhile isW).length)).1, (scan n (r.drop (r.takeWhile isW).length) (a + 1 + (r.takeWhile isW).length)).2)
    else ([], some a)
theorem ok_ft {f : Addr} {fd : FuncData} (F : Fun K "__init__" "FaultyText.__init__" s_FaultyText_init f fd) : FnOk P w K mg base CX0 1 f fd ["self", "line", "column", "reason"] (spFt K) := by
  refine F.ok sc_FaultyText_init (fun vs H Q E h => ?_) (fun cdv A outer s H vs Q E hr h => ?_)
  · obtain ⟨a, C, x, y, z, rfl, _⟩ := h
    rfl
  obtain ⟨a, C, x, y, z, rfl, T, ha, nl, nc, nr, q⟩ := h
  refine ⟨_, (pss_cons (ps_ost (pv 0) (pv 1))
      (pss_cons (ps_ost (pv 0) (pv 2))
      (pss_one (ps_ost (pv 0) (pv 3))))), ?_⟩
  refine ⟨_, rfl, _, rfl, a, C, rfl, T, nl, .inl ⟨ha, fun d hd hda => ?_⟩⟩
  refine ⟨_, rfl, _, rfl, a, C, rfl, T, nc, .inr ⟨d, _, upd_same, (upd_ne hda).trans upd_same, by show 1 ≤ 900; decide, ?_⟩⟩
  refine ⟨_, rfl, _, rfl, a, C, rfl, T, nr, .inr ⟨d, _, (upd_ne hda.symm).trans upd_same, upd_same, by show 2 ≤ 900; decide, ?_⟩⟩
  refine q d _ hd hda ?_ upd_same fun b h1 h2 => ?_
  · rw [upd_ne hda.symm, upd_ne hda.symm, upd_same]
  · rw [upd_ne h2, upd_ne h2, upd_ne h1, upd_ne h2]
def lineOf (l : List Nat) : Int := ((l.count 10 : Nat) : Int) + 1
def colOf (l : List Nat) : Int := (l.length : Int) - lastAt 10 l
def spPlace (K : PySem.W.Frag) : Sp := fun vs H Q _ => ∃ (l : List Nat) (a : Nat), vs = [.str (T l), .int (a : Int)] ∧ a ≤ l.length ∧ l.length ≤ 100000 ∧ ∀ (p : Addr) (H' : Hp), Same H H' → H' p = some (.tup [.int (lineOf (l.take a)), .int (colOf (l.take a))]) → Q (.ref p) H'
theorem c_place {f : Addr} {fd : FuncData} (D : Df K mg "place" s_place f fd ["text", "at"]) : Cl P w K mg base 1 "place" (spPlace K) := by
  refine D.cl sc_place (fun vs H Q E h => ?_) (fun cdv A outer s H vs Q E hr h => ?_)
  · obtain ⟨l, a, rfl, _⟩ := h
    rfl
  obtain ⟨l, a, rfl, ha, hl, q⟩ := h
  refine ⟨_, (pss_cons (ps_set (i := 2) sc_place.nd rfl (.inl rfl) (pe_slice sl_str (pv 0) po_none (po_some (pv 1))))
      (pss_one (ps_ret (pe_tup (pa_cons (pe_op op_add (pe_m1 PySem.F.slot_str_count PySem.F.type_str_count mt_count (pv 2) pe_str) pe_int) (pa_cons (pe_op op_sub (pv 1) (pe_m1 PySem.F.slot_str_rfind PySem.F.type_str_rfind mt_rfind (pv 2) pe_str)) pa_nil)))))), ?_⟩
  walk_at "w"
  refine ⟨by rw [T_len]; exact small9 (by omega), ?_⟩
  rw [cut_to]
  walk_at "w"
  refine ⟨⟨_, rfl⟩, _, _, rfl, rfl, ?_⟩
  walk_at "w"
  refine ⟨⟨_, rfl⟩, _, _, rfl, rfl, ?_⟩
  walk_at "w"
  refine ⟨by show 2 ≤ sizeLine; decide, fun p hp => ?_⟩
  refine q p _ (Same.new _ hp) ?_
  rw [upd_same, nl_eq]
  show some (HO.tup [V.int (Txt.count (T (l.take a)) ⟨#[10]⟩ + 1), V.int (((a : Nat) : Int) - Txt.rfind (T (l.take a)) ⟨#[10]⟩)]) = _
  rw [count1, rfind1]
  have e : colOf (l.take a) = (a : Int) - lastAt 10 (l.take a) := by
    unfold colOf
    rw [List.length_take, Nat.min_eq_left ha]
  rw [e]
  rfl
section
variable {ta tb : TT} {b1 b2 : Bool} {tt u : TS} {D : Ends} {σ : L2.St} {H : Hp}
theorem if_orX (h1 : ∀ R : Bool → Hp → Prop, R b1 H → ta σ H R) (h2 : ∀ R : Bool → Hp → Prop, R b2 H → tb σ H R) (qT : (b1 || b2) = true → tt D σ H) (qF : (b1 || b2) = false → u D σ H) : tIfS (tOr ta tb) tt u D σ H := by
  refine h1 _ ?_
  cases b1 with
  | true => exact iteT (iteT (qT rfl))
  | false =>
    refine iteF (h2 _ ?_)
    cases b2 with
    | true => exact iteT (qT rfl)
    | false => exact iteF (qF rfl)
theorem gsetX {i : Nat} {v : V} {Q : L2.St → Hp → Prop} (h : Q (σ.set i (some v)) H) : gName i v σ H Q := h
theorem tsqX {a b : TS} (h : a { D with nx := b D } σ H) : tSeq a b D σ H := h
end
/-- the error of an unknown character -/
def ucF (l : List Nat) (a : Nat) : List (Str × V) := ftF (.int (lineOf (l.take a))) (.int (colOf (l.take a))) (.str (Str.ofString "unknown character"))
def spWordAtX (C : Addr) : Sp := fun vs H Q E => ∃ (l : List Nat) (a : Nat) (c : Nat) (r : List Nat), vs = [.str (T l), .int (a : Int)] ∧ l.length ≤ 100000 ∧ l.drop a = c :: r ∧
  ((isL c && decide ((r.takeWhile isW).length < 20)) = true → Q (.str (T (c :: r.take (r.takeWhile isW).length))) H) ∧
  ((isL c && decide ((r.takeWhile isW).length < 20)) = false → ∀ d H', Same H H' → H d = none → H' d = some (.xd (ucF l a)) → E (.ref C) (some d) H')
theorem c_word_atX {C : Addr} {f : Addr} {fd : FuncData} {t : Tok} (D : Df K mg "_word_at" s_word_at f fd ["text", "at"]) (c_FaultyText : FtC P w K mg base C) (c_word_end : Cl P w K mg base 1 "_word_end" spWordEnd) (c_place : Cl P w K mg base 1 "place" (spPlace K)) (m_LONGEST_WORD : mg "LONGEST_WORD" = some (.int K_LONGEST_WORD t)) : ClX P w K mg base 3 "_word_at" (spWordAtX C) := by
  refine D.clX sc_word_at (fun vs H Q E h => ?_) (fun cdv A outer s H vs Q E hr h => ?_)
  · obtain ⟨l, a, c, r, rfl, _⟩ := h
    rfl
  obtain ⟨l, a, c, r, rfl, hl, hd, q, qe⟩ := h
  refine ⟨_, (pss_cons (ps_set (i := 2) sc_word_at.nd rfl (.inl rfl) (pc c_word_end hr (by first | decide | omega) (by rfl) (pa_cons (pv 0) (pa_cons (pv 1) pa_nil))))
      (pss_cons (ps_if (PW.pt (pw_or (pt_cmpR op_eq (pv 2) (pv 1) (nomark _)) (pw_or1 (pt_cmpR op_gt (pe_op op_sub (pv 2) (pv 1)) (pe_glob (v := .int K_LONGEST_WORD) (by rfl) m_LONGEST_WORD ⟨_, rfl⟩) (nomark _))))) (pss_cons (ps_asg (pc c_place hr (by first | decide | omega) (by rfl) (pa_cons (pv 0) (pa_cons (pv 1) pa_nil))) (pg_tup (by rfl) (pgs_cons (pg_name (i := 3) sc_word_at.nd rfl (.inl rfl)) (pgs_cons (pg_name (i := 4) sc_word_at.nd rfl (.inl rfl)) pgs_nil))))
      (pss_one (L2N.ps_raise rfl (L2N.takes_of rfl rfl rfl rfl) (mk_ft c_FaultyText hr (by decide) (by rfl) (pa_cons (pv 3) (pa_cons (pv 4) (pa_cons pe_str pa_nil))))))) pss_nil)
      (pss_one (ps_ret (pe_slice sl_str (pv 0) (po_some (pv 1)) (po_some (pv 2))))))), ?_⟩
  have hz : (T l).length ≤ sizeLine := by rw [T_len]; exact small9 (by omega)
  have hlen : (l.drop a).length = l.length - a := List.length_drop
  rw [hd, List.length_cons] at hlen
  have hk := (List.takeWhile_prefix isW (l := r)).length_le
  refine ⟨_, rfl, _, rfl, l, a, rfl, by omega, hl, ?_⟩
  unfold wordEnd
  rw [hd]
  show gName 2 (.int ((if isL c then a + 1 + (r.takeWhile isW).length else a : Nat) : Int)) _ _ _
  by_cases hb : (isL c && decide ((r.takeWhile isW).length < 20)) = true
  · rw [Bool.and_eq_true] at hb
    have hc := hb.1
    have hw := of_decide_eq_true hb.2
    rw [if_pos hc]
    walk_at "w"
    refine ⟨rfl, _, rfl, ?_⟩
    rw [decide_eq_false (fun z => by have := V.int.inj z; omega)]
    refine iteF ?_
    walk_at "w"
    rw [decide_eq_false (show ¬ K_LONGEST_WORD < ((a + 1 + (r.takeWhile isW).length : Nat) : Int) - (a : Int) by show ¬ (20 : Int) < _; omega)]
    refine iteF ?_
    walk_at "w"
    refine ⟨hz, ?_⟩
    rw [cut_mid l (by omega) (by omega), hd, show a + 1 + (r.takeWhile isW).length - a = (r.takeWhile isW).length + 1 by omega]
    exact q (by rw [Bool.and_eq_true]; exact hb)
  · have hb' := eq_false_of_ne_true hb
    have hbad : (a : Int) = ((if isL c then a + 1 + (r.takeWhile isW).length else a : Nat) : Int) ∨ (20 : Int) < ((if isL c then a + 1 + (r.takeWhile isW).length else a : Nat) : Int) - (a : Int) := by
      cases hc : isL c with
      | false => exact .inl (by simp)
      | true =>
        rw [hc, Bool.true_and] at hb'
        have := of_decide_eq_false hb'
        rw [if_pos rfl]
        exact .inr (by omega)
    generalize (if isL c then a + 1 + (r.takeWhile isW).length else a) = e at hbad
    refine gsetX ?_
    dsimp only
    refine tsqX ?_
    refine if_orX (b1 := decide ((e : Int) = (a : Int))) (b2 := decide ((20 : Int) < (e : Int) - (a : Int))) (fun R k => ⟨_, rfl, _, rfl, rfl, _, ?_, k⟩) (fun R k => ⟨_, rfl, _, rfl, _, _, rfl, rfl, _, _, rfl, rfl, _, rfl, k⟩) (fun _ => ?_) (fun hf => ?_)
    · exact congrArg V.bl (decide_eq_decide.mpr ⟨fun z => V.int.inj z, fun z => by rw [z]⟩)
    · refine ⟨_, rfl, _, rfl, l, a, rfl, by omega, hl, fun p H1 e1 hp => ?_⟩
      refine ⟨p, _, rfl, .of hp, rfl, _, _, rfl, _, _, rfl, rfl, ?_⟩
      refine ⟨_, rfl, _, rfl, x_ft c_FaultyText.T c_FaultyText.nl c_FaultyText.nc c_FaultyText.nr fun d hd1 => ?_⟩
      exact qe hb' d _ (e1.trans (Same.new _ hd1)) (Same.free e1 hd1) upd_same
    · rw [Bool.or_eq_false_iff] at hf
      have f1 := of_decide_eq_false hf.1
      have f2 := of_decide_eq_false hf.2
      rcases hbad with h | h
      · exact absurd h.symm f1
      · exact absurd h f2
theorem tkN (t : Tk) : TupN 2 (tkD t) := ⟨(by show 3 ≤ 100000; decide), fun d hd => by
  rcases List.mem_cons.mp hd with rfl | hd
  · trivial
  rcases List.mem_cons.mp hd with rfl | hd
  · trivial
  rw [List.mem_singleton.mp hd]
  trivial⟩
theorem endN (n : Nat) : TupN 2 (endD n) := ⟨(by show 3 ≤ 100000; decide), fun d hd => by
  rcases List.mem_cons.mp hd with rfl | hd
  · trivial
  rcases List.mem_cons.mp hd with rfl | hd
  · trivial
  rw [List.mem_singleton.mp hd]
  trivial⟩
def spCommentEnd : Sp := fun vs H Q _ => ∃ (l : List Nat) (a : Nat), vs = [.str (T l), .int (a : Int)] ∧ a ≤ l.length ∧ l.length ≤ 100000 ∧ Q (.int ((a + behind 10 (l.drop a) : Nat) : Int)) H
theorem c_comment_end {f : Addr} {fd : FuncData} (D : Df K mg "_comment_end" s_comment_end f fd ["text", "at"]) (z_len : mg "len" = none) : Cl P w K mg base 1 "_comment_end" spCommentEnd := by
  refine D.cl sc_comment_end (fun vs H Q E h => ?_) (fun cdv A outer s H vs Q E hr h => ?_)
  · obtain ⟨l, a, rfl, _⟩ := h
    rfl
  obtain ⟨l, a, rfl, ha, hl, q⟩ := h
  refine ⟨_, (pss_cons (ps_set (i := 2) sc_comment_end.nd rfl (.inl rfl) (pe_bm PySem.F.plainAttrs_str PySem.F.slot_str_find PySem.F.type_str_find mt_find3 (pv 0) (pa_cons pe_str (pa_cons (pv 1) pa_nil))))
      (pss_one (ps_ret (pe_ifExp (pt_cmpR op_lt (pv 2) pe_int (nomark _)) (pe_callB call_len_str (by rfl) z_len PySem.boot_len (pa_cons (pv 0) pa_nil)) (pv 2))))), ?_⟩
  have hz : (T l).length ≤ sizeLine := by rw [T_len]; exact small9 (by omega)
  refine ⟨_, rfl, rfl, _, rfl, _, _, _, rfl, rfl, ?_⟩
  rw [nl_eq]
  show gName 2 (.int (Txt.find3 (T l) ⟨#[10]⟩ (a : Int))) _ _ _
  rw [find1 (T l) 10 a (by rw [T_len]; exact ha), T_len]
  have hb := behind_le 10 (l.drop a)
  rw [List.length_drop] at hb
  show gName 2 (.int (if a + behind 10 (l.drop a) < l.length then ((a + behind 10 (l.drop a) : Nat) : Int) else -1)) _ _ _
  by_cases h : a + behind 10 (l.drop a) < l.length
  · rw [if_pos h]
    walk_at "w"
    exact q
  · rw [if_neg h]
    walk_at "w"
    refine ⟨hz, ?_⟩
    rw [T_len, show l.length = a + behind 10 (l.drop a) by omega]
    rw [show a + behind 10 (l.drop a) = l.length by omega] at q ⊢
    exact q
/-- a word that may be one -/
def wordOk (l : List Nat) (a : Nat) : Prop := ∃ c r, l.drop a = c :: r ∧ isL c = true ∧ (r.takeWhile isW).length < 20
theorem wordEnd_ok {l : List Nat} {a : Nat} {c : Nat} {r : List Nat} (h : l.drop a = c :: r) (hc : isL c = true) : wordEnd l a = a + 1 + (r.takeWhile isW).length := by
  unfold wordEnd
  rw [h]
  show (if isL c then a + 1 + (r.takeWhile isW).length else a) = _
  rw [if_pos hc]
def spSplitX (K : PySem.W.Frag) (C : Addr) : Sp := fun vs H Q E => ∃ (l : List Nat) (ts : List Tk) (er : Option Nat), vs = [.str (T l)] ∧ l.length ≤ 20000 ∧ scan l.length l 0 = (ts, er) ∧
  (er = none → ∀ p H', Same H H' → Dp K H' (.ref p) (.tuple (ts.map tkD ++ [endD l.length])) → Q (.ref p) H') ∧
  (∀ a, er = some a → ∀ d H', Same H H' → H d = none → H' d = some (.xd (ucF l a)) → E (.ref C) (some d) H')
theorem c_split_tokensX {C : Addr} {f : Addr} {fd : FuncData} {tB tS : Tok} (D : Df K mg "split_tokens" s_split_tokens f fd ["text"]) (c_comment_end : Cl P w K mg base 1 "_comment_end" spCommentEnd) (c_word_at : ClX P w K mg base 3 "_word_at" (spWordAtX C))
    (m_BLANKS : mg "BLANKS" = some (.str K_BLANKS tB)) (m_SIGNS : mg "SIGNS" = some (.str K_SIGNS tS)) (z_len : mg "len" = none) (z_tuple : mg "tuple" = none) : ClX P w K mg base 4 "split_tokens" (spSplitX K C) := by
  refine D.clX sc_split_tokens (fun vs H Q E h => ?_) (fun cdv A outer s H vs Q E hr h => ?_)
  · obtain ⟨l, ts, eo, rfl, _⟩ := h
    rfl
  obtain ⟨l, ts, eo, rfl, hl, hs, q, qe⟩ := h
  refine ⟨_, (pss_cons (ps_set (i := 1) sc_split_tokens.nd rfl (.inl rfl) (pe_lst pa_nil))
      (pss_cons (ps_set (i := 2) sc_split_tokens.nd rfl (.inl rfl) pe_int)
      (pss_cons (ps_while (passes_of rfl) (pt_cmpR op_lt (pv 2) (pe_callB call_len_str (by rfl) z_len PySem.boot_len (pa_cons (pv 0) pa_nil)) (nomark _)) (pss_one (ps_if (pt_cmpR op_in_sign (pe_ix ix_str (pv 0) (pv 2) (fun _ _ => rfl)) (pe_glob (v := .str K_BLANKS) (by rfl) m_BLANKS ⟨_, rfl⟩) rfl) (pss_one (ps_aug (i := 2) sc_split_tokens.nd rfl (.inl rfl) pe_int ip_add)) (pss_one (ps_if (pt_cmpR op_eq (pe_ix ix_str (pv 0) (pv 2) (fun _ _ => rfl)) pe_str (nomark _)) (pss_one (ps_set (i := 2) sc_split_tokens.nd rfl (.inl rfl) (pc c_comment_end hr (by first | decide | omega) (by rfl) (pa_cons (pv 0) (pa_cons (pv 2) pa_nil))))) (pss_one (ps_if (pt_cmpR op_in_sign (pe_ix ix_str (pv 0) (pv 2) (fun _ _ => rfl)) (pe_glob (v := .str K_SIGNS) (by rfl) m_SIGNS ⟨_, rfl⟩) rfl) (pss_cons (ps_expr (pe_bm PySem.F.plainAttrs_list PySem.F.slot_list_append PySem.F.type_list_append mt_append (pv 1) (pa_cons (pe_tup (pa_cons pe_str (pa_cons (pe_ix ix_str (pv 0) (pv 2) (fun _ _ => rfl)) (pa_cons (pv 2) pa_nil)))) pa_nil)))
      (pss_one (ps_aug (i := 2) sc_split_tokens.nd rfl (.inl rfl) pe_int ip_add))) (pss_cons (ps_set (i := 3) sc_split_tokens.nd rfl (.inl rfl) (pcX c_word_at (L2N.takes_of rfl rfl rfl rfl) hr (by decide) (by rfl) (pa_cons (pv 0) (pa_cons (pv 2) pa_nil))))
      (pss_cons (ps_expr (pe_bm PySem.F.plainAttrs_list PySem.F.slot_list_append PySem.F.type_list_append mt_append (pv 1) (pa_cons (pe_tup (pa_cons pe_str (pa_cons (pv 3) (pa_cons (pv 2) pa_nil)))) pa_nil)))
      (pss_one (ps_aug (i := 2) sc_split_tokens.nd rfl (.inl rfl) (pe_callB call_len_str (by rfl) z_len PySem.boot_len (pa_cons (pv 3) pa_nil)) ip_add)))))))))))
      (pss_cons (ps_expr (pe_bm PySem.F.plainAttrs_list PySem.F.slot_list_append PySem.F.type_list_append mt_append (pv 1) (pa_cons (pe_tup (pa_cons pe_str (pa_cons pe_str (pa_cons (pe_callB call_len_str (by rfl) z_len PySem.boot_len (pa_cons (pv 0) pa_nil)) pa_nil)))) pa_nil)))
      (pss_one (ps_ret (pe_callTy call_tuple_of (by rfl) z_tuple (by decide +kernel) (pa_cons (pv 1) pa_nil)))))))), ?_⟩
  have hz : (T l).length ≤ sizeLine := by rw [T_len]; exact small9 (by omega)
  have item : ∀ (i c : Nat) (r : List Nat), l.drop i = c :: r → atI (T l).cps.toList (i : Int) = some c := fun i c r hd => atI_nat (by
    show l[i]? = some c
    rw [← List.head?_drop, hd]
    rfl)
  refine ⟨Nat.zero_le _, fun tk htk => ?_⟩
  walk_at "w"
  refine ⟨fun m σ' H' => ∃ (n a : Nat) (acc rest : List Tk) (vs : List V) (x : Option V), σ' = [some (.str (T l)), some (.ref tk), some (.int (a : Int)), x] ∧ m = l.length - a ∧ a ≤ l.length ∧ l.length - a ≤ n ∧ scan n (l.drop a) a = (rest, eo) ∧ acc ++ rest = ts ∧ acc.length ≤ a ∧ H' tk = some (.lst vs) ∧ DpAll K H' vs (acc.map tkD) ∧ Same H H',
    ⟨_, l.length, 0, [], ts, [], none, rfl, rfl, Nat.zero_le _, Nat.le_refl _, hs, rfl, Nat.le_refl _, upd_same, .nil, Same.new _ htk⟩, ?_⟩
  rintro m _ H1 ⟨n, a, acc, rest, vs, x, rfl, rfl, hal, hn, hsc, hts, hacc, hk, hD, hS⟩
  have hvl : vs.length = acc.length := by rw [dpAll_len hD, List.length_map]
  have hsz : vs.length < sizeLine := Nat.lt_of_le_of_lt (show vs.length ≤ 20000 by omega) (by decide)
  have hsh : ∀ (t : Tk) , TupN 2 (tkD t) := tkN
  -- what a turn reaches
  have go : ∀ (n' a' : Nat) (acc' rest' : List Tk) (vs' : List V) (x' : Option V) (H' : Hp), a < a' → a' ≤ l.length → l.length - a' ≤ n' → scan n' (l.drop a') a' = (rest', eo) → acc' ++ rest' = ts → acc'.length ≤ a' → H' tk = some (.lst vs') → DpAll K H' vs' (acc'.map tkD) → Same H H' →
      ∃ m', m' < l.length - a ∧ ∃ (n a : Nat) (acc rest : List Tk) (vs : List V) (x : Option V), ([some (.str (T l)), some (.ref tk), some (.int (a' : Int)), x'] : L2.St) = [some (.str (T l)), some (.ref tk), some (.int (a : Int)), x] ∧ m' = l.length - a ∧ a ≤ l.length ∧ l.length - a ≤ n ∧ scan n (l.drop a) a = (rest, eo) ∧ acc ++ rest = ts ∧ acc.length ≤ a ∧ H' tk = some (.lst vs) ∧ DpAll K H' vs (acc.map tkD) ∧ Same H H' :=
    fun n' a' acc' rest' vs' x' H' h1 h2 h3 h4 h5 h6 h7 h8 h9 => ⟨_, by omega, n', a', acc', rest', vs', x', rfl, rfl, h2, h3, h4, h5, h6, h7, h8, h9⟩
  -- a new token behind
  have new : ∀ (t : Tk) (p : Addr), H1 p = none → DpAll K (upd (upd H1 p (.tup [.str (if t.wd then Str.ofString "word" else Str.ofString "sign"), .str (T t.s), .int (t.i : Int)])) tk (.lst (vs ++ [.ref p]))) (vs ++ [.ref p]) ((acc ++ [t]).map tkD) := fun t p hp => by
    have np : tk ≠ p := ne_of_none hk hp
    have k1 : KT K H1 (upd H1 p (.tup [.str (if t.wd then Str.ofString "word" else Str.ofString "sign"), .str (T t.s), .int (t.i : Int)])) := KT.new _ hp
    have k2 : KT K (upd H1 p (.tup [.str (if t.wd then Str.ofString "word" else Str.ofString "sign"), .str (T t.s), .int (t.i : Int)])) (upd (upd H1 p (.tup [.str (if t.wd then Str.ofString "word" else Str.ofString "sign"), .str (T t.s), .int (t.i : Int)])) tk (.lst (vs ++ [.ref p]))) := KT.lst _ ((upd_ne np).trans hk)
    rw [List.map_append]
    refine dpAll_app (DpAll.kt (k1.trans k2) (n := 2) (fun d hd => ?_) hD) (.cons (.tup (k2 _ _ (SqT.of upd_same)) (.cons (.str _) (.cons (.str _) (.cons (.int _) .nil)))) .nil)
    obtain ⟨t', _, rfl⟩ := List.mem_map.mp hd
    exact tkN t'
  have newS : ∀ (p : Addr) (o o' : HO), H1 p = none → Same H (upd (upd H1 p o) tk o') := fun p o o' hp => Same.mut _ (hS.trans (Same.new _ hp)) htk
  walk_at "w"
  refine ⟨hz, ?_⟩
  walk_at "w"
  rw [T_len]
  by_cases h1 : a < l.length
  · obtain ⟨c, r, hd⟩ : ∃ c r, l.drop a = c :: r := ⟨_, _, List.drop_eq_getElem_cons h1⟩
    have hr1 : l.drop (a + 1) = r := by rw [← List.drop_drop, hd]; rfl
    have hrl : r.length = l.length - (a + 1) := by rw [← hr1, List.length_drop]
    obtain ⟨n, rfl⟩ : ∃ k, n = k + 1 := ⟨n - 1, by omega⟩
    rw [hd] at hsc
    unfold scan at hsc
    rw [decide_eq_true (show (a : Int) < (l.length : Int) by omega)]
    refine iteT ⟨_, fun σ' H' n => n, ?_⟩
    refine ⟨_, rfl, _, rfl, _, _, _, rfl, rfl, hz, item a c r hd, _, _, rfl, rfl, _, rfl, ?_⟩
    show if isB c = true then _ else _
    by_cases hB : isB c = true
    · rw [if_pos hB] at hsc ⊢
      walk_at "w"
      exact go n (a + 1) acc rest vs x H1 (by omega) (by omega) (by omega) (by rw [hr1]; exact hsc) hts (by omega) hk hD hS
    rw [if_neg hB] at hsc ⊢
    refine ⟨_, rfl, _, rfl, _, _, _, rfl, rfl, hz, item a c r hd, rfl, _, rfl, ?_⟩
    rw [show Str.ofString "#" = T [35] by decide +kernel]
    show if decide (V.str (T [c]) = V.str (T [35])) = true then _ else _
    rw [V_eq]
    by_cases hC : c = 35
    · rw [if_pos hC] at hsc
      rw [decide_eq_true (show [c] = [35] by rw [hC])]
      refine iteT ?_
      refine ⟨_, rfl, _, rfl, l, a, rfl, hal, by omega, ?_⟩
      have hb := behind_le 10 r
      rw [hd, behind_cons, if_neg (show c ≠ 10 by omega), show a + (behind 10 r + 1) = a + 1 + behind 10 r by omega]
      walk_at "w"
      refine go n (a + 1 + behind 10 r) acc rest vs x H1 (by omega) (by omega) (by omega) ?_ hts (by omega) hk hD hS
      rw [← List.drop_drop, hr1]
      exact hsc
    rw [if_neg hC] at hsc
    rw [decide_eq_false (fun z => hC (List.head_eq_of_cons_eq z))]
    refine iteF ?_
    refine ⟨_, rfl, _, rfl, _, _, _, rfl, rfl, hz, item a c r hd, _, _, rfl, rfl, _, rfl, ?_⟩
    show if isS c = true then _ else _
    by_cases hG : isS c = true
    · rw [if_pos hG] at hsc
      rw [if_pos hG]
      refine ⟨_, rfl, .inl ⟨rfl, _, SqL.of hk⟩, _, rfl, _, rfl, _, _, _, rfl, rfl, hz, item a c r hd, _, rfl, by show 3 ≤ sizeLine; decide, fun p hp => ?_⟩
      have np : tk ≠ p := ne_of_none hk hp
      refine ⟨tk, _, _, rfl, rfl, (upd_ne np).trans hk, hsz, ?_⟩
      walk_at "w"
      have e1 := (Prod.mk.inj hsc).1
      have e2 := (Prod.mk.inj hsc).2
      exact go n (a + 1) (acc ++ [(Tk.mk false [c] a)]) (scan n r (a + 1)).1 _ x _ (by omega) (by omega) (by omega) (by rw [hr1, ← e2]) (by rw [List.append_assoc, ← hts, ← e1]; rfl) (by rw [List.length_append]; show _ + 1 ≤ _; omega) upd_same (new (Tk.mk false [c] a) p hp) (newS p _ _ hp)
    rw [if_neg hG] at hsc
    rw [if_neg hG]
    refine ⟨_, rfl, _, rfl, l, a, c, r, rfl, by omega, hd, fun hW => ?_, fun hW d H2 e2 hd2 hx2 => ?_⟩
    · rw [if_pos hW] at hsc
      rw [Bool.and_eq_true] at hW
      have hk2 := (List.takeWhile_prefix isW (l := r)).length_le
      walk_at "w"
      refine ⟨.inl ⟨rfl, _, SqL.of hk⟩, ?_⟩
      walk_at "w"
      refine ⟨by show 3 ≤ sizeLine; decide, fun p hp => ?_⟩
      have np : tk ≠ p := ne_of_none hk hp
      refine ⟨tk, _, _, rfl, rfl, (upd_ne np).trans hk, hsz, ?_⟩
      walk_at "w"
      have hwl : (c :: r.take (r.takeWhile isW).length).length = (r.takeWhile isW).length + 1 := by rw [List.length_cons, List.length_take, Nat.min_eq_left hk2]
      refine ⟨by rw [T_len, hwl]; exact small9 (by omega), ?_⟩
      rw [T_len, hwl]
      walk_at "w"
      have e1 := (Prod.mk.inj hsc).1
      have e2 := (Prod.mk.inj hsc).2
      have ea : a + ((r.takeWhile isW).length + 1) = a + 1 + (r.takeWhile isW).length := by omega
      refine go n (a + ((r.takeWhile isW).length + 1)) (acc ++ [(Tk.mk true (c :: r.take (r.takeWhile isW).length) a)]) (scan n (r.drop (r.takeWhile isW).length) (a + 1 + (r.takeWhile isW).length)).1 _ _ _ (by omega) (by omega) (by omega) ?_ (by rw [List.append_assoc, ← hts, ← e1]; rfl) (by rw [List.length_append]; show _ + 1 ≤ _; omega) upd_same (new (Tk.mk true (c :: r.take (r.takeWhile isW).length) a) p hp) (newS p _ _ hp)
      rw [ea, ← List.drop_drop, hr1, ← e2]
    · rw [if_neg (by rw [hW]; exact Bool.noConfusion)] at hsc
      exact qe a (Prod.mk.inj hsc).2.symm d H2 (hS.trans e2) (Same.free hS hd2) hx2
  · rw [decide_eq_false (show ¬ (a : Int) < (l.length : Int) by omega)]
    refine iteF ?_
    have ea : a = l.length := by omega
    have e0 : eo = none := by
      rw [List.drop_eq_nil_of_le (by omega)] at hsc
      cases n with
      | zero => exact (Prod.mk.inj hsc).2.symm
      | succ n => exact (Prod.mk.inj hsc).2.symm
    have er : rest = [] := by
      rw [List.drop_eq_nil_of_le (by omega)] at hsc
      cases n with
      | zero => exact (Prod.mk.inj hsc).1.symm
      | succ n => exact (Prod.mk.inj hsc).1.symm
    rw [er, List.append_nil] at hts
    refine ⟨_, rfl, .inl ⟨rfl, _, SqL.of hk⟩, _, rfl, _, rfl, hz, by show 3 ≤ sizeLine; decide, fun p hp => ?_⟩
    have np : tk ≠ p := ne_of_none hk hp
    refine ⟨tk, _, _, rfl, rfl, (upd_ne np).trans hk, hsz, ?_⟩
    rw [T_len]
    refine ⟨_, rfl, tk, _, rfl, .inl ⟨SqL.of upd_same, fun g hg => ?_⟩⟩
    have k1 : KT K H1 (upd H1 p (.tup [.str (Str.ofString "end"), .str (Str.ofString ""), .int (l.length : Int)])) := KT.new _ hp
    have k2 := KT.lst (K := K) (.lst (vs ++ [.ref p])) ((upd_ne (o := .tup [.str (Str.ofString "end"), .str (Str.ofString ""), .int (l.length : Int)]) np).trans hk)
    have k3 := KT.new (K := K) (.tup (vs ++ [.ref p])) hg
    refine q e0 g _ ((newS p _ _ hp).trans (Same.new _ hg)) (.tup (SqT.of upd_same) (dpAll_app (DpAll.kt ((k1.trans k2).trans k3) (n := 2) (fun d hd => ?_) (hts ▸ hD)) (.cons (.tup ((k2.trans k3) _ _ (SqT.of upd_same)) (.cons (.str _) (.cons (.str _) (.cons (.int _) .nil)))) .nil)))
    obtain ⟨t', _, rfl⟩ := List.mem_map.mp hd
    exact tkN t'
end
end Pf
namespace Pf
open PySem PySem.Spec PyProof.Rows L2
section
variable {P : Program} {w : World} {K : PySem.W.Frag} {mg : Str → Option Value} {base : Heap}
/-! reading, as a function of the words -/
inductive R (α : Type) where
  | ok (x : α) (j : Nat)
  | er (e : Nat) (m : Str)
def R.bind {α β : Type} : R α → (α → Nat → R β) → R β
  | .ok x j, f => f x j
  | .er e m, _ => .er e m
theorem R.bind_ok {α β : Type} {x : α} {j : Nat} {f : α → Nat → R β} : (R.ok x j).bind f = f x j := rfl
theorem R.bind_er {α β : Type} {e : Nat} {m : Str} {f : α → Nat → R β} : (R.er e m : R α).bind f = .er e m := rfl
section
variable (wd : Nat → List Nat) (N : Nat)
def rTake (i : Nat) : R (List Nat) := if isNm (wd i) = true then .ok (wd i) (i + 1) else .er i (Str.ofString "expected a name")
def rExp (s : String) (i : Nat) : R Unit := if wd i = lit s then .ok () (i + 1) else .er i (Str.ofString ("expected " ++ s))
def rRole (i : Nat) : R Rol := if wd i = lit "inverse" then (rTake wd (i + 1)).bind fun s j => .ok (s, true) j else (rTake wd i).bind fun s j => .ok (s, false) j
def rChainL (op : Nat → R Con) (x : List Nat) (mk : Con → Con → Con) : Nat → Con → Nat → R Con
  | 0, c, j => .ok c j
  | n + 1, c, j => if wd j = x then (op (j + 1)).bind fun d k => rChainL op x mk n (mk c d) k else .ok c j
def rChain (op : Nat → R Con) (x : List Nat) (mk : Con → Con → Con) (i : Nat) : R Con := (op i).bind fun c j => rChainL wd op x mk (N + 1) c j
def rBoth (op : Nat → R Con) (i : Nat) : R Con := rChain wd N op (lit "and") .both i
def rAlt (op : Nat → R Con) (i : Nat) : R Con := rChain wd N (rBoth wd N op) (lit "or") .either i
def rStep (b : Bool) (i : Nat) : R Unit := if b = true then .ok () (i + 1) else .er i (Str.ofString "nested too deeply")
def rAtom (b : Bool) (f : Nat → R Con) (i : Nat) : R Con :=
  if wd i = lit "(" then (rStep b i).bind fun _ j => (rAlt wd N f j).bind fun c k => (rExp wd ")" k).bind fun _ m => .ok c m
  else if isNm (wd i) = true then .ok (.name (wd i)) (i + 1)
  else if wd i = lit "anything" then .ok .any (i + 1)
  else if wd i = lit "nothing" then .ok .nothing (i + 1)
  else .er i (Str.ofString "expected a concept")
def rFrontG (b : Bool) (f : Nat → R Con) (i : Nat) : R Con :=
  if wd i = lit "not" then (rStep b i).bind fun _ j => (f j).bind fun c k => .ok (.not c) k
  else if wd i = lit "some" then (rStep b i).bind fun _ j => (rRole wd j).bind fun r k => (f k).bind fun c m => .ok (.some r c) m
  else if wd i = lit "all" then (rStep b i).bind fun _ j => (rRole wd j).bind fun r k => (f k).bind fun c m => .ok (.all r c) m
  else rAtom wd N b f i
/-- a front, with so many levels left -/
def rFront : Nat → Nat → R Con
  | 0 => rFrontG wd N false (fun i => .er i (Str.ofString "nested too deeply"))
  | r + 1 => rFrontG wd N true (rFront r)
def rConcept (i : Nat) : R Con := (rAlt wd N (rFront wd N 8) i).bind fun c j => if 12 < c.dp then .er j (Str.ofString "too many operators") else .ok c j
def nameB (s : String) (i : Nat) : Bool := isNm (wd i) && decide (wd (i + 1) = lit s)
def factB (i : Nat) : Bool := isNm (wd i) && (decide (wd (i + 1) = lit "is") || isNm (wd (i + 1)))
def rFact (i : Nat) : R Stm := (rTake wd i).bind fun s j => if wd j = lit "is" then (rConcept wd N (j + 1)).bind fun c k => .ok (.is s c) k else (rTake wd j).bind fun l k => (rTake wd k).bind fun o m => .ok (.has s l o) m
def rComp (i : Nat) : R Stm := (rConcept wd N i).bind fun a j =>
  if wd j = lit "below" then (rConcept wd N (j + 1)).bind fun b k => .ok (.below a b) k
  else if wd j = lit "equals" then (rConcept wd N (j + 1)).bind fun b k => .ok (.equals a b) k
  else if wd j = lit "," then (rConcept wd N (j + 1)).bind fun b k => (rExp wd "apart" k).bind fun _ m => .ok (.apart a b) m
  else .er j (Str.ofString "expected below, equals or ,")
def rStm (i : Nat) : R Stm :=
  if wd i = lit "domain" then (rRole wd (i + 1)).bind fun r j => (rConcept wd N j).bind fun c k => .ok (.domain r c) k
  else if wd i = lit "range" then (rRole wd (i + 1)).bind fun r j => (rConcept wd N j).bind fun c k => .ok (.range r c) k
  else if (decide (wd i = lit "inverse") || nameB wd "under" i) = true then (rRole wd i).bind fun r j => (rExp wd "under" j).bind fun _ k => (rRole wd k).bind fun s m => .ok (.under r s) m
  else if nameB wd "inverse" i = true then (rTake wd (i + 2)).bind fun s m => .ok (.inverse (wd i) s) m
  else if factB wd i = true then rFact wd N i
  else rComp wd N i
def rQst (i : Nat) : R Stm :=
  if wd i = lit "never" then .ok .never (i + 1)
  else if factB wd i = true then rFact wd N i
  else (rConcept wd N i).bind fun a j => (rExp wd "below" j).bind fun _ k => (rConcept wd N k).bind fun b m => .ok (.below a b) m
end
/-! where reading ends -/
/-- a place that reading from i may come to -/
def Bd {α : Type} (N i : Nat) : R α → Prop
  | .ok _ j => i ≤ j ∧ j ≤ N
  | .er e _ => i ≤ e ∧ e ≤ N
def Bs {α : Type} (N i : Nat) : R α → Prop
  | .ok _ j => i < j ∧ j ≤ N
  | .er e _ => i ≤ e ∧ e ≤ N
theorem Bs.bd {α : Type} {N i : Nat} {r : R α} (h : Bs N i r) : Bd N i r := by
  cases r with
  | ok x j => exact ⟨Nat.le_of_lt h.1, h.2⟩
  | er e m => exact h
theorem Bd.bind {α β : Type} {N i : Nat} {r : R α} {f : α → Nat → R β} (h : Bd N i r) (g : ∀ x j, i ≤ j → j ≤ N → Bd N j (f x j)) : Bd N i (r.bind f) := by
  cases r with
  | ok x j =>
    have := g x j h.1 h.2
    rw [R.bind_ok]
    cases e : f x j with
    | ok y k => rw [e] at this; exact ⟨Nat.le_trans h.1 this.1, this.2⟩
    | er k m => rw [e] at this; exact ⟨Nat.le_trans h.1 this.1, this.2⟩
  | er e m => exact h
theorem Bs.bind {α β : Type} {N i : Nat} {r : R α} {f : α → Nat → R β} (h : Bs N i r) (g : ∀ x j, i < j → j ≤ N → Bd N j (f x j)) : Bs N i (r.bind f) := by
  cases r with
  | ok x j =>
    have := g x j h.1 h.2
    rw [R.bind_ok]
    cases e : f x j with
    | ok y k => rw [e] at this; exact ⟨Nat.lt_of_lt_of_le h.1 this.1, this.2⟩
    | er k m => rw [e] at this; exact ⟨Nat.le_trans (Nat.le_of_lt h.1) this.1, this.2⟩
  | er e m => exact h
theorem Bd.ok {α : Type} {N j : Nat} {x : α} (h : j ≤ N) : Bd N j (R.ok x j) := ⟨Nat.le_refl _, h⟩
theorem isNm_nil : isNm [] = false := by decide +kernel
section
variable {wd : Nat → List Nat} {N : Nat} (hw : ∀ i, N ≤ i → wd i = [])
include hw
theorem wd_lt {i : Nat} (h : wd i ≠ []) : i < N := Nat.lt_of_not_le fun z => h (hw i z)
theorem nm_lt {i : Nat} (h : isNm (wd i) = true) : i < N := wd_lt hw fun z => by rw [z, isNm_nil] at h; cases h
theorem lit_lt {i : Nat} {s : String} (h : wd i = lit s) (hs : lit s ≠ [] := by decide +kernel) : i < N := wd_lt hw (h ▸ hs)
theorem bs_take {i : Nat} (hi : i ≤ N) : Bs N i (rTake wd i) := by
  unfold rTake
  split
  · next h => exact ⟨Nat.lt_succ_self _, nm_lt hw h⟩
  · exact ⟨Nat.le_refl _, hi⟩
theorem bs_exp {i : Nat} {s : String} (hi : i ≤ N) (hs : lit s ≠ [] := by decide +kernel) : Bs N i (rExp wd s i) := by
  unfold rExp
  split
  · next h => exact ⟨Nat.lt_succ_self _, lit_lt hw h hs⟩
  · exact ⟨Nat.le_refl _, hi⟩
theorem bs_role {i : Nat} (hi : i ≤ N) : Bs N i (rRole wd i) := by
  unfold rRole
  split
  · next h =>
    have := (bs_take hw (lit_lt hw h)).bind (f := fun s j => R.ok (s, true) j) fun x j _ hj => Bd.ok hj
    cases e : (rTake wd (i + 1)).bind fun s j => R.ok (s, true) j with
    | ok y k => rw [e] at this; exact ⟨Nat.lt_of_succ_lt this.1, this.2⟩
    | er k m => rw [e] at this; exact ⟨Nat.le_of_succ_le this.1, this.2⟩
  · exact (bs_take hw hi).bind fun x j _ hj => Bd.ok hj
theorem Bs.up {α : Type} {i k : Nat} {r : R α} (h : Bd N k r) (hk : i < k) : Bs N i r := by
  cases r with
  | ok x j => exact ⟨Nat.lt_of_lt_of_le hk h.1, h.2⟩
  | er e m => exact ⟨Nat.le_trans (Nat.le_of_lt hk) h.1, h.2⟩
theorem bd_chainL {op : Nat → R Con} {x : List Nat} {mk : Con → Con → Con} (hx : x ≠ []) (ho : ∀ i, i ≤ N → Bs N i (op i)) : ∀ (n : Nat) (c : Con) (j : Nat), j ≤ N → Bd N j (rChainL wd op x mk n c j)
  | 0, c, j, hj => Bd.ok hj
  | n + 1, c, j, hj => by
    unfold rChainL
    split
    · next h =>
      have hl : j < N := wd_lt hw (h ▸ hx)
      exact (Bs.up hw (((ho (j + 1) hl).bind fun d k _ hk => bd_chainL hx ho n _ k hk).bd) (Nat.lt_succ_self j)).bd
    · exact Bd.ok hj
theorem bs_chain {op : Nat → R Con} {x : List Nat} {mk : Con → Con → Con} (hx : x ≠ []) (ho : ∀ i, i ≤ N → Bs N i (op i)) {i : Nat} (hi : i ≤ N) : Bs N i (rChain wd N op x mk i) := (ho i hi).bind fun c j _ hj => bd_chainL hw hx ho _ _ _ hj
theorem bs_both {op : Nat → R Con} (ho : ∀ i, i ≤ N → Bs N i (op i)) {i : Nat} (hi : i ≤ N) : Bs N i (rBoth wd N op i) := bs_chain hw (by decide +kernel) ho hi
theorem bs_alt {op : Nat → R Con} (ho : ∀ i, i ≤ N → Bs N i (op i)) {i : Nat} (hi : i ≤ N) : Bs N i (rAlt wd N op i) := bs_chain hw (by decide +kernel) (fun _ => bs_both hw ho) hi
theorem bs_step {b : Bool} {i : Nat} (hi : i < N) : Bs N i (rStep b i) := by
  unfold rStep
  split
  · exact ⟨Nat.lt_succ_self _, hi⟩
  · exact ⟨Nat.le_refl _, Nat.le_of_lt hi⟩
theorem bs_atom {b : Bool} {f : Nat → R Con} (ho : ∀ i, i ≤ N → Bd N i (f i)) (hs : b = true → ∀ i, i ≤ N → Bs N i (f i)) {i : Nat} (hi : i ≤ N) : Bs N i (rAtom wd N b f i) := by
  unfold rAtom
  split
  · next h =>
    cases b with
    | false => exact ⟨Nat.le_refl _, hi⟩
    | true => exact (bs_step hw (lit_lt hw h)).bind fun _ j _ hj => (bs_alt hw (hs rfl) hj).bd.bind fun c k _ hk => (bs_exp hw hk).bd.bind fun _ m _ hm => Bd.ok hm
  split
  · next h => exact ⟨Nat.lt_succ_self _, nm_lt hw h⟩
  split
  · next h => exact ⟨Nat.lt_succ_self _, lit_lt hw h⟩
  split
  · next h => exact ⟨Nat.lt_succ_self _, lit_lt hw h⟩
  · exact ⟨Nat.le_refl _, hi⟩
theorem bs_frontG {b : Bool} {f : Nat → R Con} (ho : ∀ i, i ≤ N → Bd N i (f i)) (hs : b = true → ∀ i, i ≤ N → Bs N i (f i)) {i : Nat} (hi : i ≤ N) : Bs N i (rFrontG wd N b f i) := by
  unfold rFrontG
  split
  · next h => exact (bs_step hw (lit_lt hw h)).bind fun _ j _ hj => (ho j hj).bind fun c k _ hk => Bd.ok hk
  split
  · next h => exact (bs_step hw (lit_lt hw h)).bind fun _ j _ hj => (bs_role hw hj).bd.bind fun r k _ hk => (ho k hk).bind fun c m _ hm => Bd.ok hm
  split
  · next h => exact (bs_step hw (lit_lt hw h)).bind fun _ j _ hj => (bs_role hw hj).bd.bind fun r k _ hk => (ho k hk).bind fun c m _ hm => Bd.ok hm
  · exact bs_atom hw ho hs hi
theorem bs_front : ∀ (r : Nat) {i : Nat}, i ≤ N → Bs N i (rFront wd N r i)
  | 0, i, hi => bs_frontG (b := false) (f := fun i => .er i (Str.ofString "nested too deeply")) hw (fun i hi => ⟨Nat.le_refl _, hi⟩) (fun z => nomatch z) hi
  | r + 1, i, hi => bs_frontG (b := true) (f := rFront wd N r) hw (fun i hi => (bs_front r hi).bd) (fun _ i hi => bs_front r hi) hi
theorem bs_concept {i : Nat} (hi : i ≤ N) : Bs N i (rConcept wd N i) := (bs_alt hw (fun _ => bs_front hw 8) hi).bind fun c j _ hj => by
  split
  · exact ⟨Nat.le_refl _, hj⟩
  · exact Bd.ok hj
theorem bs_fact {i : Nat} (hi : i ≤ N) : Bs N i (rFact wd N i) := (bs_take hw hi).bind fun s j _ hj => by
  split
  · next h => exact (Bs.up hw ((bs_concept hw (lit_lt hw h)).bind fun c k _ hk => Bd.ok hk).bd (Nat.lt_succ_self _)).bd
  · exact (bs_take hw hj).bd.bind fun l k _ hk => (bs_take hw hk).bd.bind fun o m _ hm => Bd.ok hm
theorem bs_comp {i : Nat} (hi : i ≤ N) : Bs N i (rComp wd N i) := (bs_concept hw hi).bind fun a j _ hj => by
  split
  · next h => exact (Bs.up hw ((bs_concept hw (lit_lt hw h)).bind fun c k _ hk => Bd.ok hk).bd (Nat.lt_succ_self _)).bd
  split
  · next h => exact (Bs.up hw ((bs_concept hw (lit_lt hw h)).bind fun c k _ hk => Bd.ok hk).bd (Nat.lt_succ_self _)).bd
  split
  · next h => exact (Bs.up hw ((bs_concept hw (lit_lt hw h)).bind fun c k _ hk => (bs_exp hw hk).bd.bind fun _ m _ hm => Bd.ok hm).bd (Nat.lt_succ_self _)).bd
  · exact ⟨Nat.le_refl _, hj⟩
theorem bs_stm {i : Nat} (hi : i ≤ N) : Bs N i (rStm wd N i) := by
  unfold rStm
  split
  · next h => exact Bs.up hw ((bs_role hw (lit_lt hw h)).bd.bind fun r j _ hj => (bs_concept hw hj).bd.bind fun c k _ hk => Bd.ok hk) (Nat.lt_succ_self _)
  split
  · next h => exact Bs.up hw ((bs_role hw (lit_lt hw h)).bd.bind fun r j _ hj => (bs_concept hw hj).bd.bind fun c k _ hk => Bd.ok hk) (Nat.lt_succ_self _)
  split
  · exact (bs_role hw hi).bind fun r j _ hj => (bs_exp hw hj).bd.bind fun _ k _ hk => (bs_role hw hk).bd.bind fun s m _ hm => Bd.ok hm
  split
  · next h =>
    have h2 : wd (i + 1) = lit "inverse" := of_decide_eq_true (Bool.and_eq_true_iff.mp h).2
    exact Bs.up hw ((bs_take hw (lit_lt hw h2)).bd.bind fun s m _ hm => Bd.ok hm) (by omega)
  split
  · exact bs_fact hw hi
  · exact bs_comp hw hi
theorem bs_qst {i : Nat} (hi : i ≤ N) : Bs N i (rQst wd N i) := by
  unfold rQst
  split
  · next h => exact ⟨Nat.lt_succ_self _, lit_lt hw h⟩
  split
  · exact bs_fact hw hi
  · exact (bs_concept hw hi).bind fun a j _ hj => (bs_exp hw hj).bd.bind fun _ k _ hk => (bs_concept hw hk).bd.bind fun b m _ hm => Bd.ok hm
end
end
end Pf
namespace Pf
open PySem PySem.Spec PyProof.Rows L2
section
variable {P : Program} {w : World} {K : PySem.W.Frag} {mg : Str → Option Value} {base : Heap}
def spWord (K : PySem.W.Frag) (C : Addr) : Sp := fun vs H Q _ => ∃ (p : Addr) (t : Str) (ds : List PyData) (i : Nat) (k x : Str), vs = [.ref p] ∧ Cu K C H p t ds i ∧ wdAt ds i k x ∧ Q (.str x) H
def spAtEnd (K : PySem.W.Frag) (C : Addr) : Sp := fun vs H Q _ => ∃ (p : Addr) (t : Str) (ds : List PyData) (i : Nat) (k x : Str), vs = [.ref p] ∧ Cu K C H p t ds i ∧ wdAt ds i k x ∧ Q (.bl (decide (V.str k = V.str "end"))) H
def spStep (K : PySem.W.Frag) (C : Addr) : Sp := fun vs H Q _ => ∃ (p : Addr) (t : Str) (ds : List PyData) (i : Nat), vs = [.ref p] ∧ Cu K C H p t ds i ∧ ∀ H', SameX p H H' → Cu K C H' p t ds (i + 1) → Q .non H'
def spBehind (K : PySem.W.Frag) (C : Addr) : Sp := fun vs H Q _ => ∃ (p : Addr) (t : Str) (ds : List PyData) (i : Nat) (k x : Str), vs = [.ref p] ∧ Cu K C H p t ds i ∧ wdAt ds (i + 1) k x ∧ Q (.str x) H
section
variable {C : Addr}
theorem c_cur_word {f : Addr} {fd : FuncData} (F : Fun K "word" "Cursor.word" s_Cursor_word f fd) (T_Cursor : CurC K mg C) (M : Meth K C "word" f) (b : Binds K fd ["self"] []) : Mt P w K mg base 1 C "word" f fd ["self"] (spWord K C) := by
  refine ⟨F.ok sc_Cursor_word (fun vs H Q E h => ?_) (fun cdv A outer s H vs Q E hr h => ?_), M, b⟩
  · obtain ⟨p, t, ds, i, k, x, rfl, _⟩ := h
    rfl
  obtain ⟨p, t, ds, i, k, x, rfl, hc, ⟨o, ho⟩, q⟩ := h
  obtain ⟨dx, tk, vs, h1, h2, h3⟩ := hc.ex
  refine ⟨_, (pss_one (ps_ret (pe_ix ix_tup (pe_ix ix_tup (pe_fld (pv 0) rfl) (pe_fld (pv 0) rfl) (fun _ _ => rfl)) pe_int (fun _ _ => rfl)))), ?_⟩
  have hi : i < vs.length := by
    rw [dpAll_len h3]
    exact (List.getElem?_eq_some_iff.mp ho).1
  have hv := dpAll_at h3 i _ _ (List.getElem?_eq_getElem hi) ho
  obtain ⟨a, xs, e, hs, hd⟩ := dp_tup hv
  obtain ⟨y, r, rfl, d1, hd⟩ := da_cons hd
  obtain ⟨z, r, rfl, d2, hd⟩ := da_cons hd
  cases dp_str d1
  cases dp_str d2
  exact ⟨_, rfl, p, C, dx, _, _, rfl, h1, T_Cursor.cl, T_Cursor.nK, cf_tokens, _, rfl, p, C, dx, _, _, rfl, h1, T_Cursor.cl, T_Cursor.nA, cf_at, tk, vs, _, _, rfl, rfl, h2, (atI_nat (List.getElem?_eq_getElem hi)).trans (congrArg some e), a, _, _, _, rfl, rfl, hs, atI_nat (j := 1) rfl, q⟩
theorem c_cur_at_end {f : Addr} {fd : FuncData} (F : Fun K "at_end" "Cursor.at_end" s_Cursor_at_end f fd) (T_Cursor : CurC K mg C) (M : Meth K C "at_end" f) (b : Binds K fd ["self"] []) : Mt P w K mg base 1 C "at_end" f fd ["self"] (spAtEnd K C) := by
  refine ⟨F.ok sc_Cursor_at_end (fun vs H Q E h => ?_) (fun cdv A outer s H vs Q E hr h => ?_), M, b⟩
  · obtain ⟨p, t, ds, i, k, x, rfl, _⟩ := h
    rfl
  obtain ⟨p, t, ds, i, k, x, rfl, hc, ⟨o, ho⟩, q⟩ := h
  obtain ⟨dx, tk, vs, h1, h2, h3⟩ := hc.ex
  refine ⟨_, (pss_one (ps_ret (pe_cmpR op_eq (pe_ix ix_tup (pe_ix ix_tup (pe_fld (pv 0) rfl) (pe_fld (pv 0) rfl) (fun _ _ => rfl)) pe_int (fun _ _ => rfl)) pe_str (nomark _)))), ?_⟩
  have hi : i < vs.length := by
    rw [dpAll_len h3]
    exact (List.getElem?_eq_some_iff.mp ho).1
  have hv := dpAll_at h3 i _ _ (List.getElem?_eq_getElem hi) ho
  obtain ⟨a, xs, e, hs, hd⟩ := dp_tup hv
  obtain ⟨y, r, rfl, d1, hd⟩ := da_cons hd
  cases dp_str d1
  exact ⟨_, rfl, p, C, dx, _, _, rfl, h1, T_Cursor.cl, T_Cursor.nK, cf_tokens, _, rfl, p, C, dx, _, _, rfl, h1, T_Cursor.cl, T_Cursor.nA, cf_at, tk, vs, _, _, rfl, rfl, h2, (atI_nat (List.getElem?_eq_getElem hi)).trans (congrArg some e), a, _, _, _, rfl, rfl, hs, atI_nat (j := 0) rfl, rfl, q⟩
theorem c_cur_step {f : Addr} {fd : FuncData} (F : Fun K "step" "Cursor.step" s_Cursor_step f fd) (T_Cursor : CurC K mg C) (M : Meth K C "step" f) (b : Binds K fd ["self"] []) : Mt P w K mg base 1 C "step" f fd ["self"] (spStep K C) := by
  refine ⟨F.ok sc_Cursor_step (fun vs H Q E h => ?_) (fun cdv A outer s H vs Q E hr h => ?_), M, b⟩
  · obtain ⟨p, t, ds, i, rfl, _⟩ := h
    rfl
  obtain ⟨p, t, ds, i, rfl, hc, q⟩ := h
  obtain ⟨dx, tk, vs, h1, h2, h3⟩ := hc.ex
  refine ⟨_, (pss_one (ps_fldaug (pv 0) pe_int in_add)), ?_⟩
  refine ⟨_, rfl, p, C, dx, _, _, rfl, h1, T_Cursor.cl, T_Cursor.nA, cf_at, _, _, rfl, rfl, dx, _, h1, (by show 3 < 1000; decide), ?_⟩
  show Q .non _
  rw [cf_put]
  have e := SameX.at (d := p) (H := H) (.ins C dx (cf t tk ((i : Int) + 1)))
  have kt := KT.xi (K := K) h1 e
  refine q _ e ⟨⟨dx, tk, vs, ?_, kt _ _ h2, DpAll.kt kt hc.tn h3⟩, hc.tn⟩
  rw [upd_same]
  rfl
theorem c_cur_word_behind {f : Addr} {fd : FuncData} (F : Fun K "word_behind" "Cursor.word_behind" s_Cursor_word_behind f fd) (T_Cursor : CurC K mg C) (M : Meth K C "word_behind" f) (b : Binds K fd ["self"] []) : Mt P w K mg base 1 C "word_behind" f fd ["self"] (spBehind K C) := by
  refine ⟨F.ok sc_Cursor_word_behind (fun vs H Q E h => ?_) (fun cdv A outer s H vs Q E hr h => ?_), M, b⟩
  · obtain ⟨p, t, ds, i, k, x, rfl, _⟩ := h
    rfl
  obtain ⟨p, t, ds, i, k, x, rfl, hc, ⟨o, ho⟩, q⟩ := h
  obtain ⟨dx, tk, vs, h1, h2, h3⟩ := hc.ex
  refine ⟨_, (pss_one (ps_ret (pe_ix ix_tup (pe_ix ix_tup (pe_fld (pv 0) rfl) (pe_op op_add (pe_fld (pv 0) rfl) pe_int) (fun _ _ => rfl)) pe_int (fun _ _ => rfl)))), ?_⟩
  have hi : i + 1 < vs.length := by
    rw [dpAll_len h3]
    exact (List.getElem?_eq_some_iff.mp ho).1
  have hv := dpAll_at h3 (i + 1) _ _ (List.getElem?_eq_getElem hi) ho
  obtain ⟨a, xs, e, hs, hd⟩ := dp_tup hv
  obtain ⟨y, r, rfl, d1, hd⟩ := da_cons hd
  obtain ⟨z, r, rfl, d2, hd⟩ := da_cons hd
  cases dp_str d1
  cases dp_str d2
  exact ⟨_, rfl, p, C, dx, _, _, rfl, h1, T_Cursor.cl, T_Cursor.nK, cf_tokens, _, rfl, p, C, dx, _, _, rfl, h1, T_Cursor.cl, T_Cursor.nA, cf_at, _, _, rfl, rfl, tk, vs, _, _, rfl, rfl, h2, (atI_nat (j := i + 1) (List.getElem?_eq_getElem hi)).trans (congrArg some e), a, _, _, _, rfl, rfl, hs, atI_nat (j := 1) rfl, q⟩
end
section
variable {C p : Addr} {t : Str} {ds : List PyData} {i j : Nat} {σ : L2.St} {H : Hp} {R : VK}
theorem m_word {k x : Str} (hσ : σ[j]? = some (some (.ref p))) (hc : Cu K C H p t ds i) (hw : wdAt ds i k x) (q : R (.str x) H) : tMeth C "word" (spWord K C) [] E0 (tVar j) tNil σ H R := by
  obtain ⟨dx, tk, vs, h1, _, _⟩ := hc.ex
  exact ⟨_, hσ, p, dx, _, rfl, h1, cf_no (by decide +kernel) (by decide +kernel) (by decide +kernel), p, t, ds, i, k, x, rfl, hc, hw, q⟩
theorem m_at_end {k x : Str} (hσ : σ[j]? = some (some (.ref p))) (hc : Cu K C H p t ds i) (hw : wdAt ds i k x) (q : R (.bl (decide (V.str k = V.str "end"))) H) : tMeth C "at_end" (spAtEnd K C) [] E0 (tVar j) tNil σ H R := by
  obtain ⟨dx, tk, vs, h1, _, _⟩ := hc.ex
  exact ⟨_, hσ, p, dx, _, rfl, h1, cf_no (by decide +kernel) (by decide +kernel) (by decide +kernel), p, t, ds, i, k, x, rfl, hc, hw, q⟩
theorem m_step (hσ : σ[j]? = some (some (.ref p))) (hc : Cu K C H p t ds i) (q : ∀ H', SameX p H H' → Cu K C H' p t ds (i + 1) → R .non H') : tMeth C "step" (spStep K C) [] E0 (tVar j) tNil σ H R := by
  obtain ⟨dx, tk, vs, h1, _, _⟩ := hc.ex
  exact ⟨_, hσ, p, dx, _, rfl, h1, cf_no (by decide +kernel) (by decide +kernel) (by decide +kernel), p, t, ds, i, rfl, hc, q⟩
end
theorem m_behind {p : Addr} {t : Str} {ds : List PyData} {i j : Nat} {σ : L2.St} {H : Hp} {R : VK} {k x : Str} (hσ : σ[j]? = some (some (.ref p))) (hc : Cu K C H p t ds i) (hw : wdAt ds (i + 1) k x) (q : R (.str x) H) : tMeth C "word_behind" (spBehind K C) [] E0 (tVar j) tNil σ H R := by
  obtain ⟨dx, tk, vs, h1, _, _⟩ := hc.ex
  exact ⟨_, hσ, p, dx, _, rfl, h1, cf_no (by decide +kernel) (by decide +kernel) (by decide +kernel), p, t, ds, i, k, x, rfl, hc, hw, q⟩
theorem passE {X : Cx} {E : XK} (hs : X.stack = X.env :: X.outer) (hf : X.env.frame = some X.env.locals) (hex : X.ex = []) {E₁ : Value → Shared → Prop}
    (hx : X.xe = fun e s' => wpAny (model X.prog X.w) X.A (leaving X.env e) (fun _ s'' => L2N.CX X.prog X.w X.outer X.H_0 X.s_0 E e s'') E₁ s') : Passes (L2N.CX X.prog X.w) X E :=
  fun pins σ _ s e s' I c => L2N.passAt (L2N.takes_of hs hf hex hx) σ pins _ s e s' I c
/-- a method that keeps a promise and may raise -/
structure MtX (P : Program) (w : World) (K : PySem.W.Frag) (mg : Str → Option Value) (base : Heap) (k : Nat) (C : Addr) (m : Str) (f : Addr) (fd : FuncData) (ps : List Str) (sp : Sp) : Prop where
  F : FnOk P w K mg base (L2N.CX P w) k f fd ps sp
  M : Meth K C m f
  b : Binds K fd ps []
/-- a def that a name may hold and that may raise -/
structure FxX (P : Program) (w : World) (K : PySem.W.Frag) (mg : Str → Option Value) (base : Heap) (k : Nat) (f : Addr) (fd : FuncData) (ps : List Str) (sp : Sp) : Prop where
  F : FnOk P w K mg base (L2N.CX P w) k f fd ps sp
  k : PySem.W.keepIn K (.ref f) = true
  b : Binds K fd ps []
theorem Df.fxX {x : Str} {st : Stmt} {f : Addr} {fd : FuncData} {ps N : List Str} {k : Nat} {sp : Sp} (D : Df K mg x st f fd ps) (S : FnScope N ps (defScope st)) (len : ∀ vs H Q E, sp vs H Q E → vs.length = ps.length)
    (hbody : ∀ (cdv : Value) (A : Around) (outer : List Env) (s : Shared) (H : Hp) (vs : List V) (Q : VK) (E : XK), Room k (A.deeper (envOfC x (defScope st) s.heap.objs.size f cdv)) → sp vs H Q E →
      ∃ t, PSs (cxOf (L2N.CX P w) P w K mg base N x (defScope st) f cdv A outer s H E) (defBody st) t ∧ t { nx := fun _ H' => Q .non H', rt := Q } (start N vs) H) : FxX P w K mg base (k + 1) f fd ps sp :=
  ⟨D.fn.okN S len hbody, D.kp, D.bd⟩
theorem Df.ofX {x : Str} {st : Stmt} {f : Addr} {fd : FuncData} {ps : List Str} {k : Nat} {sp : Sp} (D : Df K mg x st f fd ps) (h : FxX P w K mg base k f fd ps sp) : ClX P w K mg base k x sp := ⟨f, fd, ps, h.F, D.mgf, h.k, h.b⟩
/-! a cursor upon tokens -/
def wdW (W : List Tk) (i : Nat) : List Nat := match W[i]? with | some t => t.s | none => []
def ofW (n : Nat) (W : List Tk) (i : Nat) : Nat := match W[i]? with | some t => t.i | none => n
/-- the tokens of a text -/
structure OkW (l : List Nat) (W : List Tk) : Prop where
  ln : l.length ≤ 20000
  ix : ∀ t ∈ W, t.i ≤ l.length
  sz : ∀ t ∈ W, t.s.length ≤ 20000
theorem wdW_end {W : List Tk} : ∀ i, W.length ≤ i → wdW W i = [] := fun i h => by
  unfold wdW
  rw [List.getElem?_eq_none h]
theorem OkW.wd {l : List Nat} {W : List Tk} (h : OkW l W) (i : Nat) : (wdW W i).length ≤ 20000 := by
  unfold wdW
  split
  · next t e => exact h.sz t (List.mem_of_getElem? e)
  · exact Nat.zero_le _
theorem OkW.of {l : List Nat} {W : List Tk} (h : OkW l W) (i : Nat) : ofW l.length W i ≤ l.length := by
  unfold ofW
  split
  · next t e => exact h.ix t (List.mem_of_getElem? e)
  · exact Nat.le_refl _
/-- the error of a place -/
def erF (l : List Nat) (W : List Tk) (e : Nat) (m : Str) : List (Str × V) := ftF (.int (lineOf (l.take (ofW l.length W e)))) (.int (colOf (l.take (ofW l.length W e)))) (.str m)
abbrev tksD (l : List Nat) (W : List Tk) : List PyData := W.map tkD ++ [endD l.length]
structure Rdr (K : PySem.W.Frag) (C : Addr) (H : Hp) (p : Addr) (l : List Nat) (W : List Tk) (i : Nat) : Prop where
  cu : Cu K C H p (T l) (tksD l W) i
  ok : OkW l W
  le : i ≤ W.length
theorem tks_at {l : List Nat} {W : List Tk} {i : Nat} (h : i ≤ W.length) : ∃ k, (tksD l W)[i]? = some (.tuple [.str k, .str (T (wdW W i)), .int ((ofW l.length W i : Nat) : Int)]) := by
  unfold tksD wdW ofW
  by_cases q : i < W.length
  · refine ⟨if (W[i]).wd then Str.ofString "word" else Str.ofString "sign", ?_⟩
    rw [List.getElem?_append_left (by rw [List.length_map]; exact q), List.getElem?_map, List.getElem?_eq_getElem q]
    rfl
  · obtain rfl : i = W.length := by omega
    refine ⟨Str.ofString "end", ?_⟩
    rw [List.getElem?_append_right (by rw [List.length_map]; exact Nat.le_refl _), List.length_map, Nat.sub_self, List.getElem?_eq_none (Nat.le_refl _)]
    show some (endD l.length) = _
    rfl
theorem Rdr.wat {C : Addr} {H : Hp} {p : Addr} {l : List Nat} {W : List Tk} {i : Nat} (h : Rdr K C H p l W i) : ∃ k, wdAt (tksD l W) i k (T (wdW W i)) := by
  obtain ⟨k, e⟩ := tks_at (l := l) h.le
  exact ⟨k, _, e⟩
theorem Rdr.wat1 {C : Addr} {H : Hp} {p : Addr} {l : List Nat} {W : List Tk} {i : Nat} (_ : Rdr K C H p l W i) (q : i < W.length) : ∃ k, wdAt (tksD l W) (i + 1) k (T (wdW W (i + 1))) := by
  obtain ⟨k, e⟩ := tks_at (l := l) (W := W) (i := i + 1) q
  exact ⟨k, _, e⟩
theorem Rdr.same {C : Addr} {H H' : Hp} {p : Addr} {l : List Nat} {W : List Tk} {i : Nat} (h : Rdr K C H p l W i) (e : Same H H') : Rdr K C H' p l W i := ⟨h.cu.same e, h.ok, h.le⟩
/-- how reading ends -/
def PostR {α : Type} (K : PySem.W.Frag) (C F : Addr) (l : List Nat) (W : List Tk) (p : Addr) (H : Hp) (Q : VK) (E : XK) (tr : α → PyData) : R α → Prop
  | .ok x j => ∀ v H', SameX p H H' → Rdr K C H' p l W j → Dp K H' v (tr x) → Q v H'
  | .er e m => ∀ d H', SameX p H H' → H d = none → H' d = some (.xd (erF l W e m)) → E (.ref F) (some d) H'
theorem PostR.up {α : Type} {C F : Addr} {l : List Nat} {W : List Tk} {p : Addr} {H H1 : Hp} {Q : VK} {E : XK} {tr : α → PyData} {r : R α} {i : Nat} (h : PostR K C F l W p H Q E tr r) (s : SameX p H H1) (c : Rdr K C H1 p l W i) : PostR K C F l W p H1 Q E tr r := by
  cases r with
  | ok x j => exact fun v H' e => h v H' (s.trans e)
  | er e m =>
    refine fun d H' e' hd => h d H' (s.trans e') (SameX.free s (fun z => ?_) hd)
    obtain ⟨_, _, _, hp, _⟩ := c.cu.ex
    rw [z, hp] at hd
    cases hd
/-- a part is read, then the rest -/
theorem PostR.call {α β : Type} {C F : Addr} {l : List Nat} {W : List Tk} {p : Addr} {H : Hp} {Q Q' : VK} {E : XK} {tr : β → PyData} {ta : α → PyData} {r : R α} {f : α → Nat → R β} (h : PostR K C F l W p H Q E tr (r.bind f))
    (g : ∀ x j v H', SameX p H H' → Rdr K C H' p l W j → Dp K H' v (ta x) → PostR K C F l W p H' Q E tr (f x j) → Q' v H') : PostR K C F l W p H Q' E ta r := by
  cases r with
  | ok x j => exact fun v H' e c d => g x j v H' e c d (PostR.up (r := f x j) h e c)
  | er e m => exact h
abbrev tU : Unit → PyData := fun _ => .none
theorem dp_non {H : Hp} {v : V} (h : Dp K H v .none) : v = .non := by cases h; rfl
theorem wq {x : List Nat} {s : String} (h : x = lit s) : decide (T x = Str.ofString s) = true := decide_eq_true (by rw [h, lit_T])
theorem wn {x : List Nat} {s : String} (h : ¬ x = lit s) : decide (T x = Str.ofString s) = false := decide_eq_false fun e => h (T_inj (e.trans (lit_T s)))
theorem wqV {x : List Nat} {s : String} (h : x = lit s) : decide (V.str (T x) = V.str (Str.ofString s)) = true := decide_eq_true (by rw [h, lit_T])
theorem wnV {x : List Nat} {s : String} (h : ¬ x = lit s) : decide (V.str (T x) = V.str (Str.ofString s)) = false := decide_eq_false fun e => h (T_inj ((V.str.inj e).trans (lit_T s)))
/-! calls of a cursor upon tokens -/
section
variable {C p : Addr} {l : List Nat} {W : List Tk} {i j : Nat} {σ : L2.St} {H : Hp} {R : VK}
theorem rd_word (hσ : σ[j]? = some (some (.ref p))) (c : Rdr K C H p l W i) (q : R (.str (T (wdW W i))) H) : tMeth C "word" (spWord K C) [] E0 (tVar j) tNil σ H R := by
  obtain ⟨k, hw⟩ := c.wat
  exact m_word hσ c.cu hw q
theorem rd_behind (hσ : σ[j]? = some (some (.ref p))) (c : Rdr K C H p l W i) (lt : i < W.length) (q : R (.str (T (wdW W (i + 1)))) H) : tMeth C "word_behind" (spBehind K C) [] E0 (tVar j) tNil σ H R := by
  obtain ⟨k, hw⟩ := c.wat1 lt
  exact m_behind hσ c.cu hw q
theorem rd_at_end (hσ : σ[j]? = some (some (.ref p))) (c : Rdr K C H p l W i) (q : R (.bl (decide (W.length ≤ i))) H) : tMeth C "at_end" (spAtEnd K C) [] E0 (tVar j) tNil σ H R := by
  by_cases h : i < W.length
  · have hw : wdAt (tksD l W) i (if (W[i]).wd then Str.ofString "word" else Str.ofString "sign") (T (W[i]).s) := ⟨((W[i]).i : Int), by
      unfold tksD
      rw [List.getElem?_append_left (by rw [List.length_map]; exact h), List.getElem?_map, List.getElem?_eq_getElem h]
      rfl⟩
    refine m_at_end hσ c.cu hw ?_
    rw [decide_eq_false (show ¬ W.length ≤ i by omega)] at q
    have e : decide (V.str (if (W[i]).wd then Str.ofString "word" else Str.ofString "sign") = V.str "end") = false := by
      split
      · decide +kernel
      · decide +kernel
    rw [e]
    exact q
  · have e : i = W.length := Nat.le_antisymm c.le (Nat.le_of_not_lt h)
    have hw : wdAt (tksD l W) i (Str.ofString "end") (Str.ofString "") := ⟨(l.length : Int), by
      unfold tksD
      rw [List.getElem?_append_right (by rw [List.length_map]; omega), List.length_map, e, Nat.sub_self]
      rfl⟩
    refine m_at_end hσ c.cu hw ?_
    rw [decide_eq_true (show W.length ≤ i by omega)] at q
    rw [decide_eq_true (show V.str (Str.ofString "end") = V.str "end" from rfl)]
    exact q
theorem rd_step (hσ : σ[j]? = some (some (.ref p))) (c : Rdr K C H p l W i) (lt : i < W.length) (q : ∀ H', SameX p H H' → Rdr K C H' p l W (i + 1) → R .non H') : tMeth C "step" (spStep K C) [] E0 (tVar j) tNil σ H R :=
  m_step hσ c.cu fun H' e h' => q H' e ⟨h', c.ok, lt⟩
end
/-- a word that may be expected -/
structure ExpW (s : String) : Prop where
  ne : lit s ≠ []
  ln : decide ((lit s).length ≤ 20) = true
  eq : lit "expected " ++ lit s = lit ("expected " ++ s)
def spHereX (K : PySem.W.Frag) (C : Addr) : Sp := fun vs H Q _ => ∃ (p : Addr) (l : List Nat) (W : List Tk) (i : Nat), vs = [.ref p] ∧ Rdr K C H p l W i ∧ ∀ (u : Addr) (H' : Hp), Same H H' → H' u = some (.tup [.int (lineOf (l.take (ofW l.length W i))), .int (colOf (l.take (ofW l.length W i)))]) → Q (.ref u) H'
def spFailX (K : PySem.W.Frag) (C F : Addr) : Sp := fun vs H _ E => ∃ (p : Addr) (l : List Nat) (W : List Tk) (i : Nat) (m : Str), vs = [.ref p, .str m] ∧ Rdr K C H p l W i ∧ ∀ d H', SameX p H H' → H d = none → H' d = some (.xd (erF l W i m)) → E (.ref F) (some d) H'
def spExpX (K : PySem.W.Frag) (C F : Addr) : Sp := fun vs H Q E => ∃ (p : Addr) (l : List Nat) (W : List Tk) (i : Nat) (s : String), vs = [.ref p, .str (Str.ofString s)] ∧ Rdr K C H p l W i ∧ ExpW s ∧ PostR K C F l W p H Q E tU (rExp (wdW W) s i)
def spTakeX (K : PySem.W.Frag) (C F : Addr) : Sp := fun vs H Q E => ∃ (p : Addr) (l : List Nat) (W : List Tk) (i : Nat), vs = [.ref p] ∧ Rdr K C H p l W i ∧ PostR K C F l W p H Q E (fun x => .str (T x)) (rTake (wdW W) i)
section
variable {C F : Addr}
theorem c_cur_hereX {f : Addr} {fd : FuncData} (Fn : Fun K "here" "Cursor.here" s_Cursor_here f fd) (T_Cursor : CurC K mg C) (M : Meth K C "here" f) (b : Binds K fd ["self"] []) (c_place : Cl P w K mg base 1 "place" (spPlace K)) : Mt P w K mg base 2 C "here" f fd ["self"] (spHereX K C) := by
  refine ⟨Fn.ok sc_Cursor_here (fun vs H Q E h => ?_) (fun cdv A outer s H vs Q E hr h => ?_), M, b⟩
  · obtain ⟨p, l, W, i, rfl, _⟩ := h
    rfl
  obtain ⟨p, l, W, i, rfl, hc, q⟩ := h
  obtain ⟨dx, tk, vs, h1, h2, h3⟩ := hc.cu.ex
  refine ⟨_, (pss_one (ps_ret (pc c_place hr (by first | decide | omega) (by rfl) (pa_cons (pe_fld (pv 0) rfl) (pa_cons (pe_ix ix_tup (pe_ix ix_tup (pe_fld (pv 0) rfl) (pe_fld (pv 0) rfl) (fun _ _ => rfl)) pe_int (fun _ _ => rfl)) pa_nil))))), ?_⟩
  obtain ⟨k, ho⟩ := tks_at (l := l) hc.le
  have hi : i < vs.length := by
    rw [dpAll_len h3]
    exact (List.getElem?_eq_some_iff.mp ho).1
  have hv := dpAll_at h3 i _ _ (List.getElem?_eq_getElem hi) ho
  obtain ⟨a, xs, e, hs, hd⟩ := dp_tup hv
  obtain ⟨y, r, rfl, d1, hd⟩ := da_cons hd
  obtain ⟨z, r, rfl, d2, hd⟩ := da_cons hd
  obtain ⟨z3, r, rfl, d3, hd⟩ := da_cons hd
  have e3 : z3 = .int ((ofW l.length W i : Nat) : Int) := by cases d3; rfl
  subst e3
  exact ⟨_, rfl, p, C, dx, _, _, rfl, h1, T_Cursor.cl, T_Cursor.nT, cf_text, _, rfl, p, C, dx, _, _, rfl, h1, T_Cursor.cl, T_Cursor.nK, cf_tokens, _, rfl, p, C, dx, _, _, rfl, h1, T_Cursor.cl, T_Cursor.nA, cf_at, tk, vs, _, _, rfl, rfl, h2, (atI_nat (List.getElem?_eq_getElem hi)).trans (congrArg some e), a, _, _, _, rfl, rfl, hs, atI_nat (j := 2) rfl, l, _, rfl, hc.ok.of i, Nat.le_trans hc.ok.ln (by decide), fun u H' s hu => q u H' s hu⟩
theorem c_cur_fail {f fh : Addr} {fd fdh : FuncData} (Fn : Fun K "fail" "Cursor.fail" s_Cursor_fail f fd) (T_Cursor : CurC K mg C) (M : Meth K C "fail" f) (b : Binds K fd ["self", "reason"] []) (c_FaultyText : FtC P w K mg base F) (c_Cursor_here : Mt P w K mg base 2 C "here" fh fdh ["self"] (spHereX K C)) : MtX P w K mg base 4 C "fail" f fd ["self", "reason"] (spFailX K C F) := by
  refine ⟨Fn.okN sc_Cursor_fail (fun vs H Q E h => ?_) (fun cdv A outer s H vs Q E hr h => ?_), M, b⟩
  · obtain ⟨p, l, W, i, m, rfl, _⟩ := h
    rfl
  obtain ⟨p, l, W, i, m, rfl, hc, q⟩ := h
  obtain ⟨dx, tk, vs, h1, h2, h3⟩ := hc.cu.ex
  refine ⟨_, (pss_cons (ps_asg (pe_meth0 (pv 0) T_Cursor.cl c_Cursor_here.M c_Cursor_here.F (hr.mono (by first | decide | omega)) c_Cursor_here.b .nil pass0) (pg_tup (by rfl) (pgs_cons (pg_name (i := 2) sc_Cursor_fail.nd rfl (.inl rfl)) (pgs_cons (pg_name (i := 3) sc_Cursor_fail.nd rfl (.inl rfl)) pgs_nil))))
      (pss_one (L2N.ps_raise rfl (L2N.takes_of rfl rfl rfl rfl) (mk_ft c_FaultyText hr (by decide) (by rfl) (pa_cons (pv 2) (pa_cons (pv 3) (pa_cons (pv 1) pa_nil))))))), ?_⟩
  refine ⟨_, rfl, p, dx, _, rfl, h1, cf_no (by decide +kernel) (by decide +kernel) (by decide +kernel), p, l, W, i, rfl, hc, fun u H1 s1 hu => ?_⟩
  refine ⟨u, _, rfl, .inl (.inl hu), rfl, _, _, rfl, _, _, rfl, rfl, ?_⟩
  refine ⟨_, rfl, _, rfl, _, rfl, x_ft c_FaultyText.T c_FaultyText.nl c_FaultyText.nc c_FaultyText.nr fun d hd => ?_⟩
  refine q d _ ?_ (Same.free s1 hd) upd_same
  exact SameX.of (Same.mut _ s1 (Same.free s1 hd))
theorem rd_fail {p : Addr} {l : List Nat} {W : List Tk} {i j : Nat} {σ : L2.St} {H : Hp} {R : VK} {E : XK} {m : Str} {te : TE} (hσ : σ[j]? = some (some (.ref p))) (c : Rdr K C H p l W i) (he : ∀ Z : VK, Z (.str m) H → te σ H Z) (q : ∀ d H', SameX p H H' → H d = none → H' d = some (.xd (erF l W i m)) → E (.ref F) (some d) H') : tMeth C "fail" (spFailX K C F) [] E (tVar j) (tCons te tNil) σ H R := by
  obtain ⟨dx, tk, vs, h1, _, _⟩ := c.cu.ex
  exact ⟨_, hσ, p, dx, _, rfl, h1, cf_no (by decide +kernel) (by decide +kernel) (by decide +kernel), he _ ⟨p, l, W, i, m, rfl, c, q⟩⟩
theorem c_cur_expectX {f fw fs ff : Addr} {fd fdw fds fdf : FuncData} (Fn : Fun K "expect" "Cursor.expect" s_Cursor_expect f fd) (T_Cursor : CurC K mg C) (M : Meth K C "expect" f) (b : Binds K fd ["self", "word"] []) (c_Cursor_word : Mt P w K mg base 1 C "word" fw fdw ["self"] (spWord K C)) (c_Cursor_step : Mt P w K mg base 1 C "step" fs fds ["self"] (spStep K C)) (c_Cursor_fail : MtX P w K mg base 4 C "fail" ff fdf ["self", "reason"] (spFailX K C F)) :
    MtX P w K mg base 5 C "expect" f fd ["self", "word"] (spExpX K C F) := by
  refine ⟨Fn.okN sc_Cursor_expect (fun vs H Q E h => ?_) (fun cdv A outer s H vs Q E hr h => ?_), M, b⟩
  · obtain ⟨p, l, W, i, s, rfl, _⟩ := h
    rfl
  obtain ⟨p, l, W, i, s, rfl, hc, hs, q⟩ := h
  refine ⟨_, (pss_cons (ps_if (pt_cmpR op_ne (pe_meth0 (pv 0) T_Cursor.cl c_Cursor_word.M c_Cursor_word.F (hr.mono (by first | decide | omega)) c_Cursor_word.b .nil pass0) (pv 1) (nomark _)) (pss_one (ps_expr (pe_meth (pv 0) T_Cursor.cl c_Cursor_fail.M c_Cursor_fail.F (hr.mono (by first | decide | omega)) c_Cursor_fail.b .nil (passE rfl rfl rfl rfl) (pa_cons (pe_joined (PJ.cons pe_str (PJ.cons (pe_fmt (pv 1)) PJ.nil))) pa_nil)))) pss_nil)
      (pss_one (ps_expr (pe_meth0 (pv 0) T_Cursor.cl c_Cursor_step.M c_Cursor_step.F (hr.mono (by first | decide | omega)) c_Cursor_step.b .nil pass0)))), ?_⟩
  unfold rExp at q
  refine rd_word rfl hc ⟨_, rfl, rfl, _, rfl, ?_⟩
  split at q
  · next h =>
    rw [wqV h]
    exact iteF (rd_step rfl hc (lit_lt wdW_end h hs.ne) fun H1 e1 c1 => q _ _ e1 c1 .non)
  · next h =>
    rw [wnV h]
    refine iteT (rd_fail rfl hc (fun Z z => ?_) q)
    rw [lit_T, ← hs.eq] at z
    have hl := of_decide_eq_true hs.ln
    have h9 : (lit "expected ").length = 9 := by decide +kernel
    have hL : (T ([] ++ lit "expected ") ++ Str.ofString s).length ≤ sizeLine := by
      rw [lit_T s, Str.length_append, T_len, T_len, List.nil_append, h9]
      exact small9 (by omega)
    have hL2 : (Str.ofString s).length ≤ sizeLine := by
      rw [lit_T, T_len]
      exact small9 (by omega)
    refine js_0 (js_c (by decide +kernel) (by decide) ⟨_, rfl, .inl ⟨Str.ofString s, rfl, hL2, Str.ofString s, rfl, hL, ?_⟩⟩)
    rw [lit_T s, T_cat]
    exact z
theorem c_cur_takeX {f fw fs ff : Addr} {fd fdw fds fdf : FuncData} (Fn : Fun K "take_name" "Cursor.take_name" s_Cursor_take_name f fd) (T_Cursor : CurC K mg C) (M : Meth K C "take_name" f) (b : Binds K fd ["self"] []) (c_is_name : Cl P w K mg base 2 "is_name" spIsName) (c_Cursor_word : Mt P w K mg base 1 C "word" fw fdw ["self"] (spWord K C)) (c_Cursor_step : Mt P w K mg base 1 C "step" fs fds ["self"] (spStep K C))
    (c_Cursor_fail : MtX P w K mg base 4 C "fail" ff fdf ["self", "reason"] (spFailX K C F)) : MtX P w K mg base 5 C "take_name" f fd ["self"] (spTakeX K C F) := by
  refine ⟨Fn.okN sc_Cursor_take_name (fun vs H Q E h => ?_) (fun cdv A outer s H vs Q E hr h => ?_), M, b⟩
  · obtain ⟨p, l, W, i, rfl, _⟩ := h
    rfl
  obtain ⟨p, l, W, i, rfl, hc, q⟩ := h
  refine ⟨_, (pss_cons (ps_set (i := 1) sc_Cursor_take_name.nd rfl (.inl rfl) (pe_meth0 (pv 0) T_Cursor.cl c_Cursor_word.M c_Cursor_word.F (hr.mono (by first | decide | omega)) c_Cursor_word.b .nil pass0))
      (pss_cons (ps_if (pt_not (pt_val (pc c_is_name hr (by first | decide | omega) (by rfl) (pa_cons (pv 1) pa_nil)))) (pss_one (ps_expr (pe_meth (pv 0) T_Cursor.cl c_Cursor_fail.M c_Cursor_fail.F (hr.mono (by first | decide | omega)) c_Cursor_fail.b .nil (passE rfl rfl rfl rfl) (pa_cons pe_str pa_nil)))) pss_nil)
      (pss_cons (ps_expr (pe_meth0 (pv 0) T_Cursor.cl c_Cursor_step.M c_Cursor_step.F (hr.mono (by first | decide | omega)) c_Cursor_step.b .nil pass0))
      (pss_one (ps_ret (pv 1)))))), ?_⟩
  unfold rTake at q
  refine rd_word rfl hc ⟨_, rfl, wdW W i, rfl, Nat.le_trans (hc.ok.wd i) (by decide), ?_⟩
  split at q
  · next h =>
    rw [h]
    exact ⟨true, rfl, iteF (rd_step rfl hc (nm_lt wdW_end h) fun H1 e1 c1 => ⟨_, rfl, q _ _ e1 c1 (.str _)⟩)⟩
  · next h =>
    rw [Bool.eq_false_iff.mpr h]
    exact ⟨false, rfl, iteT (rd_fail rfl hc (fun Z z => z) q)⟩
end
end
end Pf
namespace Pf
open PySem PySem.Spec PyProof.Rows L2
section
variable {P : Program} {w : World} {K : PySem.W.Frag} {mg : Str → Option Value} {base : Heap}
/-- a pair of a tree and its height -/
theorem dp_res {H : Hp} {v : V} {D : PyData} {h : Int} (d : Dp K H v (.tuple [D, .int h])) : ∃ a x, v = .ref a ∧ SqT K H a [x, .int h] ∧ Dp K H x D := by
  obtain ⟨a, xs, rfl, hs, hd⟩ := dp_tup d
  obtain ⟨x, r, rfl, d1, hd⟩ := da_cons hd
  obtain ⟨y, r, rfl, d2, hd⟩ := da_cons hd
  cases da_nil hd
  cases dp_int d2
  exact ⟨a, x, rfl, hs, d1⟩
/-! the parts of a concept -/
abbrev cD2 : Con → PyData := fun c => .tuple [c.D, .int (c.dp : Int)]
abbrev rfW (W : List Tk) (r : Nat) : Nat → R Con := rFront (wdW W) W.length r
def spSDX (K : PySem.W.Frag) (C F : Addr) : Sp := fun vs H Q E => ∃ (p : Addr) (l : List Nat) (W : List Tk) (i lv : Nat), vs = [.ref p, .int (lv : Int)] ∧ Rdr K C H p l W i ∧ i < W.length ∧ lv ≤ 8 ∧ PostR K C F l W p H Q E tU (rStep (decide (lv ≠ 8)) i)
def spRoleX (K : PySem.W.Frag) (C F : Addr) : Sp := fun vs H Q E => ∃ (p : Addr) (l : List Nat) (W : List Tk) (i : Nat), vs = [.ref p] ∧ Rdr K C H p l W i ∧ PostR K C F l W p H Q E rolD (rRole (wdW W) i)
theorem if_notin2' {σ : L2.St} {H : Hp} {i : Nat} {s t t' : Str} {tt u : TS} {D : Ends} (h : σ[i]? = some (some (.str s))) (hd : (decide (s = t) || decide (s = t')) = true) (q : ∀ p, H p = none → u D σ (upd H p (.tup [.str t, .str t']))) :
    tIfS (tTest (tOp (rIn K true) (tVar i) (tTup (tCons (tC (.str t)) (tCons (tC (.str t')) tNil))))) tt u D σ H := by
  refine ⟨_, h, by show 2 ≤ sizeLine; decide, fun p hp => ⟨p, _, rfl, .inr (SqT.of upd_same), rfl, rfl, false, ?_, iteF (q p hp)⟩⟩
  show V.bl (!(inV (.str s) [.str t, .str t'])) = .bl false
  rw [show [V.str t, V.str t'] = [t, t'].map V.str from rfl, inV_strs]
  rw [← Bool.decide_or] at hd
  rw [decide_eq_true (by simpa using of_decide_eq_true hd)]
  rfl
theorem if_notin2F {σ : L2.St} {H : Hp} {i : Nat} {s t t' : Str} {tt u : TS} {D : Ends} (h : σ[i]? = some (some (.str s))) (h1 : decide (s = t) = false) (h2 : decide (s = t') = false) (q : ∀ p, H p = none → tt D σ (upd H p (.tup [.str t, .str t']))) :
    tIfS (tTest (tOp (rIn K true) (tVar i) (tTup (tCons (tC (.str t)) (tCons (tC (.str t')) tNil))))) tt u D σ H := by
  refine ⟨_, h, by show 2 ≤ sizeLine; decide, fun p hp => ⟨p, _, rfl, .inr (SqT.of upd_same), rfl, rfl, true, ?_, iteT (q p hp)⟩⟩
  show V.bl (!(inV (.str s) [.str t, .str t'])) = .bl true
  rw [show [V.str t, V.str t'] = [t, t'].map V.str from rfl, inV_strs]
  rw [decide_eq_false (fun z => by
    rcases List.mem_cons.mp z with z | z
    · exact of_decide_eq_false h1 z
    · exact of_decide_eq_false h2 (List.mem_singleton.mp z))]
  rfl
/-- a part of the grammar at a level -/
def spLvX (K : PySem.W.Frag) (C F : Addr) (lv : Nat) (f : List Tk → Nat → R Con) : Sp := fun vs H Q E => ∃ (p : Addr) (l : List Nat) (W : List Tk) (i : Nat), vs = [.ref p, .int (lv : Int)] ∧ Rdr K C H p l W i ∧ PostR K C F l W p H Q E cD2 (f W i)
/-- operands with a word between each two of them -/
def spChX (K : PySem.W.Frag) (C F : Addr) (lv : Nat) (f : List Tk → Nat → R Con) (x : List Nat) (mk : Con → Con → Con) (g : Addr) : Sp := fun vs H Q E => ∃ (p : Addr) (l : List Nat) (W : List Tk) (i : Nat), vs = [.ref p, .int (lv : Int), .str (T x), .ref g] ∧ Rdr K C H p l W i ∧ PostR K C F l W p H Q E cD2 (rChain (wdW W) W.length (f W) x mk i)
def ChWX (K : PySem.W.Frag) (C F : Addr) (f : List Tk → Nat → R Con) (x : List Nat) (mk : Con → Con → Con) (g p : Addr) (l : List Nat) (W : List Tk) (lv : Nat) (Q : VK) (E : XK) (b : Nat) (σ : L2.St) (H' : Hp) : Prop := ∃ (acc : Con) (v : V) (j : Nat) (x6 x7 : Option V), σ = [some (.ref p), some (.int (lv : Int)), some (.str (T x)), some (.ref g), some v, some (.int (acc.dp : Int)), x6, x7] ∧
  W.length + 1 = b + j ∧ Rdr K C H' p l W j ∧ Dp K H' v acc.D ∧ ∃ n, W.length < j + n ∧ PostR K C F l W p H' Q E cD2 (rChainL (wdW W) (f W) x mk n acc j)
theorem PostR.fin {α : Type} {C F : Addr} {l : List Nat} {W : List Tk} {p : Addr} {H H' : Hp} {Q : VK} {E : XK} {tr : α → PyData} {x : α} {j : Nat} {v : V} (h : PostR K C F l W p H Q E tr (.ok x j)) (e : SameX p H H') (c : Rdr K C H' p l W j) (d : Dp K H' v (tr x)) : Q v H' := h v H' e c d
/-- a part is read, which comes to a place behind, then the rest -/
theorem PostR.callB {α β : Type} {C F : Addr} {l : List Nat} {W : List Tk} {p : Addr} {H : Hp} {Q Q' : VK} {E : XK} {tr : β → PyData} {ta : α → PyData} {r : R α} {f : α → Nat → R β} {i : Nat} (hb : Bs W.length i r) (h : PostR K C F l W p H Q E tr (r.bind f))
    (g : ∀ x j v H', i < j → SameX p H H' → Rdr K C H' p l W j → Dp K H' v (ta x) → PostR K C F l W p H' Q E tr (f x j) → Q' v H') : PostR K C F l W p H Q' E ta r := by
  cases r with
  | ok x j => exact fun v H' e c d => g x j v H' hb.1 e c d (PostR.up (r := f x j) h e c)
  | er e m => exact h
theorem PostR.callE {α β : Type} {C F : Addr} {l : List Nat} {W : List Tk} {p : Addr} {H : Hp} {Q Q' : VK} {E : XK} {tr : β → PyData} {ta : α → PyData} {r : R α} {f : α → Nat → R β} (h : PostR K C F l W p H Q E tr (r.bind f))
    (g : ∀ x j v H', r = .ok x j → SameX p H H' → Rdr K C H' p l W j → Dp K H' v (ta x) → PostR K C F l W p H' Q E tr (f x j) → Q' v H') : PostR K C F l W p H Q' E ta r := by
  cases r with
  | ok x j => exact fun v H' e c d => g x j v H' rfl e c d (PostR.up (r := f x j) h e c)
  | er e m => exact h
theorem rStep_ok {b : Bool} {i j : Nat} {x : Unit} (h : rStep b i = .ok x j) : b = true := by
  cases b with
  | true => rfl
  | false => cases h
theorem Df.noX {x : Str} {st : Stmt} {f : Addr} {fd : FuncData} {ps N : List Str} (D : Df K mg x st f fd ps) (S : FnScope N ps (defScope st)) : ClX P w K mg base 1 x (fun _ _ _ _ => False) := D.clX S (fun _ _ _ _ h => h.elim) fun _ _ _ _ _ _ _ _ _ h => h.elim
section
variable {C F : Addr} {fw fs fe ft ff : Addr} {fdw fds fde fdt fdf : FuncData}
theorem rd_mv {p : Addr} {l : List Nat} {W : List Tk} {i : Nat} {H H' : Hp} {v : V} {c : Con} (h : Rdr K C H p l W i) (e : SameX p H H') (d : Dp K H v c.D) : Dp K H' v c.D := h.cu.mv e (Con.tn c) d
theorem c_step_deeperX {f : Addr} {fd : FuncData} {tk : Tok} (D : Df K mg "_step_deeper" s_step_deeper f fd ["cursor", "level"]) (T_Cursor : CurC K mg C) (c_Cursor_step : Mt P w K mg base 1 C "step" fs fds ["self"] (spStep K C)) (c_Cursor_fail : MtX P w K mg base 4 C "fail" ff fdf ["self", "reason"] (spFailX K C F)) (m_DEEPEST_LEVEL : mg "DEEPEST_LEVEL" = some (.int K_DEEPEST_LEVEL tk)) : ClX P w K mg base 5 "_step_deeper" (spSDX K C F) := by
  refine D.clX sc_step_deeper (fun vs H Q E h => ?_) (fun cdv A outer s H vs Q E hr h => ?_)
  · obtain ⟨p, l, W, i, lv, rfl, _⟩ := h
    rfl
  obtain ⟨p, l, W, i, lv, rfl, hc, hi, hl, q⟩ := h
  refine ⟨_, (pss_cons (ps_if (pt_cmpR op_eq (pv 1) (pe_glob (v := .int K_DEEPEST_LEVEL) (by rfl) m_DEEPEST_LEVEL ⟨_, rfl⟩) (nomark _)) (pss_one (ps_expr (pe_meth (pv 0) T_Cursor.cl c_Cursor_fail.M c_Cursor_fail.F (hr.mono (by first | decide | omega)) c_Cursor_fail.b .nil (passE rfl rfl rfl rfl) (pa_cons pe_str pa_nil)))) pss_nil)
      (pss_one (ps_expr (pe_meth0 (pv 0) T_Cursor.cl c_Cursor_step.M c_Cursor_step.F (hr.mono (by first | decide | omega)) c_Cursor_step.b .nil pass0)))), ?_⟩
  refine ⟨_, rfl, rfl, _, rfl, ?_⟩
  unfold rStep at q
  by_cases h : lv = 8
  · rw [h]
    rw [h] at q
    rw [decide_eq_true (show V.int ((8 : Nat) : Int) = V.int K_DEEPEST_LEVEL from rfl)]
    exact iteT (rd_fail rfl hc (fun Z z => z) q)
  · rw [decide_eq_false (fun z => by have := V.int.inj z; unfold K_DEEPEST_LEVEL at this; omega)]
    rw [decide_eq_true h, if_pos rfl] at q
    exact iteF (rd_step rfl hc hi fun H' e h' => q _ _ e h' .non)
theorem rd_take {p : Addr} {l : List Nat} {W : List Tk} {i j : Nat} {σ : L2.St} {H : Hp} {R : VK} {E : XK} (hσ : σ[j]? = some (some (.ref p))) (c : Rdr K C H p l W i) (q : PostR K C F l W p H R E (fun x => .str (T x)) (rTake (wdW W) i)) : tMeth C "take_name" (spTakeX K C F) [] E (tVar j) tNil σ H R := by
  obtain ⟨dx, tk, vs, h1, _, _⟩ := c.cu.ex
  exact ⟨_, hσ, p, dx, _, rfl, h1, cf_no (by decide +kernel) (by decide +kernel) (by decide +kernel), p, l, W, i, rfl, c, q⟩
theorem rd_exp {p : Addr} {l : List Nat} {W : List Tk} {i j : Nat} {σ : L2.St} {H : Hp} {R : VK} {E : XK} {s : String} (hσ : σ[j]? = some (some (.ref p))) (c : Rdr K C H p l W i) (hs : ExpW s) (q : PostR K C F l W p H R E tU (rExp (wdW W) s i)) : tMeth C "expect" (spExpX K C F) [] E (tVar j) (tCons (tC (.str (Str.ofString s))) tNil) σ H R := by
  obtain ⟨dx, tk, vs, h1, _, _⟩ := c.cu.ex
  exact ⟨_, hσ, p, dx, _, rfl, h1, cf_no (by decide +kernel) (by decide +kernel) (by decide +kernel), p, l, W, i, s, rfl, c, hs, q⟩
theorem dp_text {H : Hp} {v : V} {x : List Nat} (d : Dp K H v (.str (T x))) : v = .str (T x) := (dp_str d).symm ▸ rfl
theorem c_rolepX {f : Addr} {fd : FuncData} (D : Df K mg "role" s_role f fd ["cursor"]) (T_Cursor : CurC K mg C) (c_Cursor_word : Mt P w K mg base 1 C "word" fw fdw ["self"] (spWord K C)) (c_Cursor_step : Mt P w K mg base 1 C "step" fs fds ["self"] (spStep K C)) (c_Cursor_take_name : MtX P w K mg base 5 C "take_name" ft fdt ["self"] (spTakeX K C F)) : ClX P w K mg base 6 "role" (spRoleX K C F) := by
  refine D.clX sc_role (fun vs H Q E h => ?_) (fun cdv A outer s H vs Q E hr h => ?_)
  · obtain ⟨p, l, W, i, rfl, _⟩ := h
    rfl
  obtain ⟨p, l, W, i, rfl, hc, q⟩ := h
  refine ⟨_, (pss_cons (ps_set (i := 1) sc_role.nd rfl (.inl rfl) (pe_cmpR op_eq (pe_meth0 (pv 0) T_Cursor.cl c_Cursor_word.M c_Cursor_word.F (hr.mono (by first | decide | omega)) c_Cursor_word.b .nil pass0) pe_str (nomark _)))
      (pss_cons (ps_if (pt_val (pv 1)) (pss_one (ps_expr (pe_meth0 (pv 0) T_Cursor.cl c_Cursor_step.M c_Cursor_step.F (hr.mono (by first | decide | omega)) c_Cursor_step.b .nil pass0))) pss_nil)
      (pss_one (ps_ret (pe_tup (pa_cons (pe_meth0 (pv 0) T_Cursor.cl c_Cursor_take_name.M c_Cursor_take_name.F (hr.mono (by first | decide | omega)) c_Cursor_take_name.b .nil (passE rfl rfl rfl rfl)) (pa_cons (pv 1) pa_nil))))))), ?_⟩
  unfold rRole at q
  refine rd_word rfl hc ⟨rfl, ?_⟩
  split at q
  · next h =>
    rw [wqV h]
    refine ⟨_, rfl, true, rfl, iteT (rd_step rfl hc (lit_lt wdW_end h) fun H1 e1 c1 => ?_)⟩
    refine rd_take rfl c1 ((q.up e1 c1).call fun x j v H2 e2 c2 d2 q2 => ?_)
    obtain rfl := dp_text d2
    refine ⟨_, rfl, by show 2 ≤ sizeLine; decide, fun u hu => ?_⟩
    exact q2.fin (SameX.new _ hu) (c2.same (Same.new _ hu)) (.tup (.of upd_same) (.cons (.str _) (.cons (.bl _) .nil)))
  · next h =>
    rw [wnV h]
    refine ⟨_, rfl, false, rfl, iteF ?_⟩
    refine rd_take rfl hc (q.call fun x j v H2 e2 c2 d2 q2 => ?_)
    obtain rfl := dp_text d2
    refine ⟨_, rfl, by show 2 ≤ sizeLine; decide, fun u hu => ?_⟩
    exact q2.fin (SameX.new _ hu) (c2.same (Same.new _ hu)) (.tup (.of upd_same) (.cons (.str _) (.cons (.bl _) .nil)))
theorem c_chainX {k lv : Nat} {f : List Tk → Nat → R Con} {x : List Nat} {mk : Con → Con → Con} {g : Addr} {gfd : FuncData} {gps : List Str} {fa : Addr} {fd : FuncData} (hk : 1 ≤ k) (hx : x ≠ []) (ho : ∀ W i, i ≤ W.length → Bs W.length i (f W i)) (hD : ∀ a b, (mk a b).D = .tuple [.str (T x), a.D, b.D]) (hdp : ∀ a b, (mk a b).dp = max a.dp b.dp + 1)
    (D : Df K mg "_chain" s_chain fa fd ["cursor", "level", "word", "operand"]) (T_Cursor : CurC K mg C) (c_Cursor_word : Mt P w K mg base 1 C "word" fw fdw ["self"] (spWord K C)) (c_Cursor_step : Mt P w K mg base 1 C "step" fs fds ["self"] (spStep K C)) (c_op : FxX P w K mg base k g gfd gps (spLvX K C F lv f)) (z_max : mg "max" = none) :
    ClX P w K mg base (k + 1) "_chain" (spChX K C F lv f x mk g) := by
  refine D.clX sc_chain (fun vs H Q E h => ?_) (fun cdv A outer s H vs Q E hr h => ?_)
  · obtain ⟨p, l, W, i, rfl, _⟩ := h
    rfl
  obtain ⟨p, l, W, i, rfl, hc, q⟩ := h
  refine ⟨_, (pss_cons (ps_asg (pe_callL (i := 3) c_op.F (hr.mono (by first | decide | omega)) rfl (.inl rfl) c_op.k c_op.b .nil (passE rfl rfl rfl rfl) (pa_cons (pv 0) (pa_cons (pv 1) pa_nil))) (pg_tup (by rfl) (pgs_cons (pg_name (i := 4) sc_chain.nd rfl (.inl rfl)) (pgs_cons (pg_name (i := 5) sc_chain.nd rfl (.inl rfl)) pgs_nil))))
      (pss_cons (ps_while (passes_of rfl) (pt_cmpR op_eq (pe_meth0 (pv 0) T_Cursor.cl c_Cursor_word.M c_Cursor_word.F (hr.mono (by first | decide | omega)) c_Cursor_word.b .nil pass0) (pv 2) (nomark _)) (pss_cons (ps_expr (pe_meth0 (pv 0) T_Cursor.cl c_Cursor_step.M c_Cursor_step.F (hr.mono (by first | decide | omega)) c_Cursor_step.b .nil pass0))
      (pss_cons (ps_asg (pe_callL (i := 3) c_op.F (hr.mono (by first | decide | omega)) rfl (.inl rfl) c_op.k c_op.b .nil (passE rfl rfl rfl rfl) (pa_cons (pv 0) (pa_cons (pv 1) pa_nil))) (pg_tup (by rfl) (pgs_cons (pg_name (i := 6) sc_chain.nd rfl (.inl rfl)) (pgs_cons (pg_name (i := 7) sc_chain.nd rfl (.inl rfl)) pgs_nil))))
      (pss_cons (ps_set (i := 4) sc_chain.nd rfl (.inl rfl) (pe_tup (pa_cons (pv 2) (pa_cons (pv 4) (pa_cons (pv 6) pa_nil)))))
      (pss_one (ps_set (i := 5) sc_chain.nd rfl (.inl rfl) (pe_op op_add pe_int (pe_callB (call_max2 rfl) (by rfl) z_max (by decide +kernel) (pa_cons (pv 5) (pa_cons (pv 7) pa_nil))))))))))
      (pss_one (ps_ret (pe_tup (pa_cons (pv 4) (pa_cons (pv 5) pa_nil))))))), ?_⟩
  refine ⟨rfl, _, rfl, _, rfl, p, l, W, i, rfl, hc, PostR.call q fun c j v H1 e1 c1 d1 q1 => ?_⟩
  obtain ⟨a, y, rfl, hs, hy⟩ := dp_res d1
  refine ⟨a, _, rfl, hs, rfl, _, _, rfl, _, _, rfl, rfl, ?_⟩
  refine ⟨ChWX K C F f x mk g p l W lv Q E, ⟨W.length + 1 - j, c, y, j, none, none, rfl, by have := c1.le; omega, c1, hy, _, by omega, q1⟩, ?_⟩
  rintro b _ H2 ⟨acc, v, j, x6, x7, rfl, hb, c2, d2, n, hn, q2⟩
  refine rd_word rfl c2 ⟨_, rfl, rfl, _, rfl, ?_⟩
  have hj := c2.le
  cases n with
  | zero => omega
  | succ n =>
  unfold rChainL at q2
  split at q2
  · next h =>
    have hl : j < W.length := wd_lt wdW_end (h ▸ hx)
    rw [decide_eq_true (show V.str (T (wdW W j)) = V.str (T x) by rw [h])]
    refine iteT ⟨fun σ' H' => ∃ b', b' < b ∧ ChWX K C F f x mk g p l W lv Q E b' σ' H', fun σ' H' h => h, ?_⟩
    refine rd_step rfl c2 hl fun H3 e3 c3 => ?_
    refine ⟨rfl, _, rfl, _, rfl, p, l, W, j + 1, rfl, c3, (q2.up e3 c3).callB (ho W (j + 1) hl) fun c j' v4 H4 hjj e4 c4 d4 q4 => ?_⟩
    obtain ⟨a4, x4, rfl, hs4, hx4⟩ := dp_res d4
    refine ⟨a4, _, rfl, hs4, rfl, _, _, rfl, _, _, rfl, rfl, ?_⟩
    refine ⟨_, rfl, _, rfl, _, rfl, by show 3 ≤ sizeLine; decide, fun u hu => ?_⟩
    refine ⟨_, rfl, _, rfl, _, _, rfl, _, _, rfl, rfl, ?_⟩
    have d2' := rd_mv c2 (e3.trans e4) d2
    refine ⟨W.length + 1 - j', by have := c4.le; omega, mk acc c, .ref u, j', some x4, some (.int (c.dp : Int)), ?_, by have := c4.le; omega, c4.same (Same.new _ hu), ?_, n, by omega, q4.up (SameX.new _ hu) (c4.same (Same.new _ hu))⟩
    · have : (1 + (if (c.dp : Int) > (acc.dp : Int) then (c.dp : Int) else (acc.dp : Int)) : Int) = ((mk acc c).dp : Int) := by
        rw [hdp]
        split <;> omega
      rw [← this]
      rfl
    · rw [hD]
      exact .tup (.of upd_same) (.cons (.str _) (.cons (Dp.same (Same.new _ hu) d2') (.cons (Dp.same (Same.new _ hu) hx4) .nil)))
  · next h =>
    rw [decide_eq_false (fun z => h (T_inj (V.str.inj z)))]
    refine iteF ⟨_, rfl, _, rfl, by show 2 ≤ sizeLine; decide, fun u hu => ?_⟩
    exact q2.fin (SameX.new _ hu) (c2.same (Same.new _ hu)) (.tup (.of upd_same) (.cons (Dp.same (Same.new _ hu) d2) (.cons (.int _) .nil)))
theorem fx_bothX {r k lv : Nat} {f fc fo : Addr} {fd fdc fdo : FuncData} (hk : 1 ≤ k) (D : Df K mg "_both" s_both f fd ["cursor", "level"]) (DC : Df K mg "_chain" s_chain fc fdc ["cursor", "level", "word", "operand"]) (D_front : Df K mg "_front" s_front fo fdo ["cursor", "level"]) (T_Cursor : CurC K mg C) (c_Cursor_word : Mt P w K mg base 1 C "word" fw fdw ["self"] (spWord K C)) (c_Cursor_step : Mt P w K mg base 1 C "step" fs fds ["self"] (spStep K C))
    (c_front : FxX P w K mg base k fo fdo ["cursor", "level"] (spLvX K C F lv fun W => rfW W r)) (z_max : mg "max" = none) : FxX P w K mg base (k + 2) f fd ["cursor", "level"] (spLvX K C F lv fun W => rBoth (wdW W) W.length (rfW W r)) := by
  have c_chain := c_chainX (mk := .both) (x := lit "and") hk (by decide +kernel) (fun W i hi => bs_front wdW_end r hi) (fun a b => by rw [← lit_T]; rfl) (fun _ _ => rfl) DC T_Cursor c_Cursor_word c_Cursor_step c_front z_max
  refine D.fxX sc_both (fun vs H Q E h => ?_) (fun cdv A outer s H vs Q E hr h => ?_)
  · obtain ⟨p, l, W, i, rfl, _⟩ := h
    rfl
  obtain ⟨p, l, W, i, rfl, hc, q⟩ := h
  refine ⟨_, (pss_one (ps_ret (pcX c_chain (L2N.takes_of rfl rfl rfl rfl) hr (by first | decide | omega) (by rfl) (pa_cons (pv 0) (pa_cons (pv 1) (pa_cons pe_str (pa_cons (pe_glob (v := .ref _) (by rfl) D_front.mgf rfl) pa_nil))))))), ?_⟩
  exact ⟨_, rfl, _, rfl, p, l, W, i, by rw [← lit_T], hc, q⟩
theorem fx_altX {r k lv : Nat} {f fc fo : Addr} {fd fdc fdo : FuncData} (hk : 1 ≤ k) (D : Df K mg "_alternatives" s_alternatives f fd ["cursor", "level"]) (DC : Df K mg "_chain" s_chain fc fdc ["cursor", "level", "word", "operand"]) (D_both : Df K mg "_both" s_both fo fdo ["cursor", "level"]) (T_Cursor : CurC K mg C) (c_Cursor_word : Mt P w K mg base 1 C "word" fw fdw ["self"] (spWord K C)) (c_Cursor_step : Mt P w K mg base 1 C "step" fs fds ["self"] (spStep K C))
    (c_both : FxX P w K mg base k fo fdo ["cursor", "level"] (spLvX K C F lv fun W => rBoth (wdW W) W.length (rfW W r))) (z_max : mg "max" = none) : FxX P w K mg base (k + 2) f fd ["cursor", "level"] (spLvX K C F lv fun W => rAlt (wdW W) W.length (rfW W r)) := by
  have c_chain := c_chainX (mk := .either) (x := lit "or") hk (by decide +kernel) (fun W i hi => bs_both wdW_end (fun i hi => bs_front wdW_end r hi) hi) (fun a b => by rw [← lit_T]; rfl) (fun _ _ => rfl) DC T_Cursor c_Cursor_word c_Cursor_step c_both z_max
  refine D.fxX sc_alternatives (fun vs H Q E h => ?_) (fun cdv A outer s H vs Q E hr h => ?_)
  · obtain ⟨p, l, W, i, rfl, _⟩ := h
    rfl
  obtain ⟨p, l, W, i, rfl, hc, q⟩ := h
  refine ⟨_, (pss_one (ps_ret (pcX c_chain (L2N.takes_of rfl rfl rfl rfl) hr (by first | decide | omega) (by rfl) (pa_cons (pv 0) (pa_cons (pv 1) (pa_cons pe_str (pa_cons (pe_glob (v := .ref _) (by rfl) D_both.mgf rfl) pa_nil))))))), ?_⟩
  exact ⟨_, rfl, _, rfl, p, l, W, i, by rw [← lit_T], hc, q⟩
theorem c_atomX {k lv : Nat} {b : Bool} {f : Addr} {fd : FuncData} (hk : 5 ≤ k) (hlv : lv ≤ 8) (hb : decide (lv ≠ 8) = b) (D : Df K mg "_atom" s_atom f fd ["cursor", "level"]) (T_Cursor : CurC K mg C) (c_Cursor_word : Mt P w K mg base 1 C "word" fw fdw ["self"] (spWord K C)) (c_Cursor_step : Mt P w K mg base 1 C "step" fs fds ["self"] (spStep K C)) (c_Cursor_expect : MtX P w K mg base 5 C "expect" fe fde ["self", "word"] (spExpX K C F)) (c_Cursor_fail : MtX P w K mg base 4 C "fail" ff fdf ["self", "reason"] (spFailX K C F))
    (c_step_deeper : ClX P w K mg base 5 "_step_deeper" (spSDX K C F)) (c_is_name : Cl P w K mg base 2 "is_name" spIsName) (g : List Tk → Nat → R Con) {spa : Sp} (ha : b = true → spa = spLvX K C F (lv + 1) fun W => rAlt (wdW W) W.length (g W)) (c_alternatives : ClX P w K mg base k "_alternatives" spa) : ClX P w K mg base (k + 1) "_atom" (spLvX K C F lv fun W => rAtom (wdW W) W.length b (g W)) := by
  refine D.clX sc_atom (fun vs H Q E h => ?_) (fun cdv A outer s H vs Q E hr h => ?_)
  · obtain ⟨p, l, W, i, rfl, _⟩ := h
    rfl
  obtain ⟨p, l, W, i, rfl, hc, q⟩ := h
  refine ⟨_, (pss_cons (ps_set (i := 2) sc_atom.nd rfl (.inl rfl) (pe_meth0 (pv 0) T_Cursor.cl c_Cursor_word.M c_Cursor_word.F (hr.mono (by first | decide | omega)) c_Cursor_word.b .nil pass0))
      (pss_cons (ps_if (pt_cmpR op_eq (pv 2) pe_str (nomark _)) (pss_cons (ps_expr (pcX c_step_deeper (L2N.takes_of rfl rfl rfl rfl) hr (by first | decide | omega) (by rfl) (pa_cons (pv 0) (pa_cons (pv 1) pa_nil))))
      (pss_cons (ps_asg (pcX c_alternatives (L2N.takes_of rfl rfl rfl rfl) hr (by first | decide | omega) (by rfl) (pa_cons (pv 0) (pa_cons (pe_op op_add (pv 1) pe_int) pa_nil))) (pg_tup (by rfl) (pgs_cons (pg_name (i := 3) sc_atom.nd rfl (.inl rfl)) (pgs_cons (pg_name (i := 4) sc_atom.nd rfl (.inl rfl)) pgs_nil))))
      (pss_cons (ps_expr (pe_meth (pv 0) T_Cursor.cl c_Cursor_expect.M c_Cursor_expect.F (hr.mono (by first | decide | omega)) c_Cursor_expect.b .nil (passE rfl rfl rfl rfl) (pa_cons pe_str pa_nil)))
      (pss_one (ps_ret (pe_tup (pa_cons (pv 3) (pa_cons (pv 4) pa_nil)))))))) pss_nil)
      (pss_cons (ps_if (pt_val (pc c_is_name hr (by first | decide | omega) (by rfl) (pa_cons (pv 2) pa_nil))) (pss_cons (ps_expr (pe_meth0 (pv 0) T_Cursor.cl c_Cursor_step.M c_Cursor_step.F (hr.mono (by first | decide | omega)) c_Cursor_step.b .nil pass0))
      (pss_one (ps_ret (pe_tup (pa_cons (pe_tup (pa_cons pe_str (pa_cons (pv 2) pa_nil))) (pa_cons pe_int pa_nil)))))) pss_nil)
      (pss_cons (ps_if (pt_cmpR op_notIn_seq (pv 2) (pe_tup (pa_cons pe_str (pa_cons pe_str pa_nil))) rfl) (pss_one (ps_expr (pe_meth (pv 0) T_Cursor.cl c_Cursor_fail.M c_Cursor_fail.F (hr.mono (by first | decide | omega)) c_Cursor_fail.b .nil (passE rfl rfl rfl rfl) (pa_cons pe_str pa_nil)))) pss_nil)
      (pss_cons (ps_expr (pe_meth0 (pv 0) T_Cursor.cl c_Cursor_step.M c_Cursor_step.F (hr.mono (by first | decide | omega)) c_Cursor_step.b .nil pass0))
      (pss_one (ps_ret (pe_tup (pa_cons (pe_tup (pa_cons (pv 2) pa_nil)) (pa_cons pe_int pa_nil)))))))))), ?_⟩
  have q : PostR K C F l W p H Q E cD2 (rAtom (wdW W) W.length b (g W) i) := q
  unfold rAtom at q
  have strW : ∀ (x : String) (Hx : Hp), Dp K Hx (.str (T (lit x))) (.str (Str.ofString x)) := fun x Hx => by
    rw [← lit_T]
    exact .str _
  refine rd_word rfl hc ?_
  split at q
  · next h =>
    refine if_eqT rfl (wq h) ?_
    refine ⟨_, rfl, _, rfl, p, l, W, i, lv, rfl, hc, lit_lt wdW_end h, hlv, ?_⟩
    rw [hb]
    refine q.callE fun _ j v H1 hok e1 c1 d1 q1 => ?_
    refine ⟨_, rfl, _, rfl, _, _, rfl, rfl, ?_⟩
    rw [ha (rStep_ok hok)]
    refine ⟨p, l, W, j, rfl, c1, q1.call fun c j2 v2 H2 e2 c2 d2 q2 => ?_⟩
    obtain ⟨a, x, rfl, hs, hx⟩ := dp_res d2
    refine ⟨a, _, rfl, hs, rfl, _, _, rfl, _, _, rfl, rfl, ?_⟩
    refine rd_exp rfl c2 ⟨by decide +kernel, by decide +kernel, by decide +kernel⟩ (q2.call fun _ j3 v3 H3 e3 c3 d3 q3 => ?_)
    refine ⟨_, rfl, _, rfl, by show 2 ≤ sizeLine; decide, fun u hu => ?_⟩
    exact q3.fin (SameX.new _ hu) (c3.same (Same.new _ hu)) (.tup (.of upd_same) (.cons (Dp.same (Same.new _ hu) (rd_mv c2 e3 hx)) (.cons (.int _) .nil)))
  next h1 =>
  refine if_eqF rfl (wn h1) ?_
  refine ⟨_, rfl, wdW W i, rfl, Nat.le_trans (hc.ok.wd i) (by decide), ?_⟩
  split at q
  · next h =>
    rw [h]
    refine ⟨true, rfl, iteT (rd_step rfl hc (nm_lt wdW_end h) fun H1 e1 c1 => ?_)⟩
    refine ⟨_, rfl, by show 2 ≤ sizeLine; decide, fun u1 hu1 => ⟨by show 2 ≤ sizeLine; decide, fun u2 hu2 => ?_⟩⟩
    exact q.fin ((e1.trans (SameX.new _ hu1)).trans (SameX.new _ hu2)) ((c1.same (Same.new _ hu1)).same (Same.new _ hu2)) (.tup (.of upd_same) (.cons (Dp.same (Same.new _ hu2) (.tup (.of upd_same) (.cons (.str _) (.cons (.str _) .nil)))) (.cons (.int _) .nil)))
  next h2 =>
  rw [Bool.eq_false_iff.mpr h2]
  refine ⟨false, rfl, iteF ?_⟩
  split at q
  · next h =>
    refine if_notin2' rfl (by rw [wq h]; rfl) fun u hu => ?_
    refine rd_step rfl (hc.same (Same.new _ hu)) (lit_lt wdW_end h) fun H1 e1 c1 => ?_
    refine ⟨_, rfl, by show 1 ≤ sizeLine; decide, fun u1 hu1 => ⟨by show 2 ≤ sizeLine; decide, fun u2 hu2 => ?_⟩⟩
    rw [h] at hu2 ⊢
    exact q.fin ((((SameX.new _ hu).trans e1).trans (SameX.new _ hu1)).trans (SameX.new _ hu2)) ((c1.same (Same.new _ hu1)).same (Same.new _ hu2)) (.tup (.of upd_same) (.cons (Dp.same (Same.new _ hu2) (.tup (.of upd_same) (.cons (strW _ _) .nil))) (.cons (.int _) .nil)))
  next h3 =>
  split at q
  · next h =>
    refine if_notin2' rfl (by rw [wq h, Bool.or_true]) fun u hu => ?_
    refine rd_step rfl (hc.same (Same.new _ hu)) (lit_lt wdW_end h) fun H1 e1 c1 => ?_
    refine ⟨_, rfl, by show 1 ≤ sizeLine; decide, fun u1 hu1 => ⟨by show 2 ≤ sizeLine; decide, fun u2 hu2 => ?_⟩⟩
    rw [h] at hu2 ⊢
    exact q.fin ((((SameX.new _ hu).trans e1).trans (SameX.new _ hu1)).trans (SameX.new _ hu2)) ((c1.same (Same.new _ hu1)).same (Same.new _ hu2)) (.tup (.of upd_same) (.cons (Dp.same (Same.new _ hu2) (.tup (.of upd_same) (.cons (strW _ _) .nil))) (.cons (.int _) .nil)))
  next h4 =>
  refine if_notin2F rfl (wn h3) (wn h4) fun u hu => ?_
  exact rd_fail rfl (hc.same (Same.new _ hu)) (fun Z z => z) (PostR.up (r := R.er (α := Con) i (Str.ofString "expected a concept")) q (SameX.new _ hu) (hc.same (Same.new _ hu)))
theorem if_in2T2 {σ : L2.St} {H : Hp} {i : Nat} {s t t' : Str} {tt u : TS} {D : Ends} (h : σ[i]? = some (some (.str s))) (hd : (decide (s = t) || decide (s = t')) = true) (q : ∀ p, H p = none → tt D σ (upd H p (.tup [.str t, .str t']))) :
    tIfS (tTest (tOp (rIn K false) (tVar i) (tTup (tCons (tC (.str t)) (tCons (tC (.str t')) tNil))))) tt u D σ H := if_in2T h hd q
theorem c_frontX {k lv : Nat} {b : Bool} {f : Addr} {fd : FuncData} (hk : 6 ≤ k) (hlv : lv ≤ 8) (hb : decide (lv ≠ 8) = b) (D : Df K mg "_front" s_front f fd ["cursor", "level"]) (T_Cursor : CurC K mg C) (c_Cursor_word : Mt P w K mg base 1 C "word" fw fdw ["self"] (spWord K C))
    (c_step_deeper : ClX P w K mg base 5 "_step_deeper" (spSDX K C F)) (c_role : ClX P w K mg base 6 "role" (spRoleX K C F)) (g : List Tk → Nat → R Con) {spf : Sp} (hf : b = true → spf = spLvX K C F (lv + 1) g) (c_front : ClX P w K mg base k "_front" spf) (c_atom : ClX P w K mg base k "_atom" (spLvX K C F lv fun W => rAtom (wdW W) W.length b (g W))) : FxX P w K mg base (k + 1) f fd ["cursor", "level"] (spLvX K C F lv fun W => rFrontG (wdW W) W.length b (g W)) := by
  refine D.fxX sc_front (fun vs H Q E h => ?_) (fun cdv A outer s H vs Q E hr h => ?_)
  · obtain ⟨p, l, W, i, rfl, _⟩ := h
    rfl
  obtain ⟨p, l, W, i, rfl, hc, q⟩ := h
  refine ⟨_, (pss_cons (ps_set (i := 2) sc_front.nd rfl (.inl rfl) (pe_meth0 (pv 0) T_Cursor.cl c_Cursor_word.M c_Cursor_word.F (hr.mono (by first | decide | omega)) c_Cursor_word.b .nil pass0))
      (pss_cons (ps_if (pt_cmpR op_eq (pv 2) pe_str (nomark _)) (pss_cons (ps_expr (pcX c_step_deeper (L2N.takes_of rfl rfl rfl rfl) hr (by first | decide | omega) (by rfl) (pa_cons (pv 0) (pa_cons (pv 1) pa_nil))))
      (pss_cons (ps_asg (pcX c_front (L2N.takes_of rfl rfl rfl rfl) hr (by first | decide | omega) (by rfl) (pa_cons (pv 0) (pa_cons (pe_op op_add (pv 1) pe_int) pa_nil))) (pg_tup (by rfl) (pgs_cons (pg_name (i := 3) sc_front.nd rfl (.inl rfl)) (pgs_cons (pg_name (i := 4) sc_front.nd rfl (.inl rfl)) pgs_nil))))
      (pss_one (ps_ret (pe_tup (pa_cons (pe_tup (pa_cons pe_str (pa_cons (pv 3) pa_nil))) (pa_cons (pe_op op_add (pv 4) pe_int) pa_nil))))))) pss_nil)
      (pss_cons (ps_if (pt_cmpR op_in_seq (pv 2) (pe_tup (pa_cons pe_str (pa_cons pe_str pa_nil))) rfl) (pss_cons (ps_expr (pcX c_step_deeper (L2N.takes_of rfl rfl rfl rfl) hr (by first | decide | omega) (by rfl) (pa_cons (pv 0) (pa_cons (pv 1) pa_nil))))
      (pss_cons (ps_set (i := 5) sc_front.nd rfl (.inl rfl) (pcX c_role (L2N.takes_of rfl rfl rfl rfl) hr (by first | decide | omega) (by rfl) (pa_cons (pv 0) pa_nil)))
      (pss_cons (ps_asg (pcX c_front (L2N.takes_of rfl rfl rfl rfl) hr (by first | decide | omega) (by rfl) (pa_cons (pv 0) (pa_cons (pe_op op_add (pv 1) pe_int) pa_nil))) (pg_tup (by rfl) (pgs_cons (pg_name (i := 3) sc_front.nd rfl (.inl rfl)) (pgs_cons (pg_name (i := 4) sc_front.nd rfl (.inl rfl)) pgs_nil))))
      (pss_one (ps_ret (pe_tup (pa_cons (pe_tup (pa_cons (pv 2) (pa_cons (pv 5) (pa_cons (pv 3) pa_nil)))) (pa_cons (pe_op op_add (pv 4) pe_int) pa_nil)))))))) pss_nil)
      (pss_one (ps_ret (pcX c_atom (L2N.takes_of rfl rfl rfl rfl) hr (by first | decide | omega) (by rfl) (pa_cons (pv 0) (pa_cons (pv 1) pa_nil)))))))), ?_⟩
  have q : PostR K C F l W p H Q E cD2 (rFrontG (wdW W) W.length b (g W) i) := q
  unfold rFrontG at q
  refine rd_word rfl hc ?_
  split at q
  · next h =>
    refine if_eqT rfl (wq h) ?_
    refine ⟨_, rfl, _, rfl, p, l, W, i, lv, rfl, hc, lit_lt wdW_end h, hlv, ?_⟩
    rw [hb]
    refine q.callE fun _ j v H1 hok e1 c1 d1 q1 => ?_
    refine ⟨_, rfl, _, rfl, _, _, rfl, rfl, ?_⟩
    rw [hf (rStep_ok hok)]
    refine ⟨p, l, W, j, rfl, c1, q1.call fun c j2 v2 H2 e2 c2 d2 q2 => ?_⟩
    obtain ⟨a, x, rfl, hs, hx⟩ := dp_res d2
    refine ⟨a, _, rfl, hs, rfl, _, _, rfl, _, _, rfl, rfl, ?_⟩
    refine ⟨_, rfl, by show 2 ≤ sizeLine; decide, fun u hu => ⟨_, rfl, _, _, rfl, rfl, by show 2 ≤ sizeLine; decide, fun u2 hu2 => ?_⟩⟩
    exact q2.fin ((SameX.new _ hu).trans (SameX.new _ hu2)) ((c2.same (Same.new _ hu)).same (Same.new _ hu2)) (.tup (.of upd_same) (.cons (Dp.same (Same.new _ hu2) (.tup (.of upd_same) (.cons (.str _) (.cons (Dp.same (Same.new _ hu) hx) .nil)))) (.cons (.int _) .nil)))
  next h1 =>
  refine if_eqF rfl (wn h1) ?_
  split at q
  · next h =>
    refine if_in2T rfl (by rw [wq h]; rfl) fun u0 hu0 => ?_
    refine ⟨_, rfl, _, rfl, p, l, W, i, lv, rfl, hc.same (Same.new _ hu0), lit_lt wdW_end h, hlv, ?_⟩
    rw [hb]
    refine (q.up (SameX.new _ hu0) (hc.same (Same.new _ hu0))).callE fun _ j v H1 hok e1 c1 d1 q1 => ?_
    refine ⟨_, rfl, p, l, W, j, rfl, c1, q1.call fun r k vr H2 e2 c2 d2 q2 => ?_⟩
    refine ⟨_, rfl, _, rfl, _, _, rfl, rfl, ?_⟩
    rw [hf (rStep_ok hok)]
    refine ⟨p, l, W, k, rfl, c2, q2.call fun c j3 v3 H3 e3 c3 d3 q3 => ?_⟩
    obtain ⟨a, x, rfl, hs, hx⟩ := dp_res d3
    have hr3 := c2.cu.mv e3 (rolN r) d2
    refine ⟨a, _, rfl, hs, rfl, _, _, rfl, _, _, rfl, rfl, ?_⟩
    refine ⟨_, rfl, _, rfl, _, rfl, by show 3 ≤ sizeLine; decide, fun u hu => ⟨_, rfl, _, _, rfl, rfl, by show 2 ≤ sizeLine; decide, fun u2 hu2 => ?_⟩⟩
    rw [h] at hu2 ⊢
    refine q3.fin ((SameX.new _ hu).trans (SameX.new _ hu2)) ((c3.same (Same.new _ hu)).same (Same.new _ hu2)) (.tup (.of upd_same) (.cons (Dp.same (Same.new _ hu2) (.tup (.of upd_same) (.cons ?_ (.cons (Dp.same (Same.new _ hu) hr3) (.cons (Dp.same (Same.new _ hu) hx) .nil))))) (.cons (.int _) .nil)))
    rw [← lit_T]
    exact .str _
  next h2 =>
  split at q
  · next h =>
    refine if_in2T rfl (by rw [wq h, Bool.or_true]) fun u0 hu0 => ?_
    refine ⟨_, rfl, _, rfl, p, l, W, i, lv, rfl, hc.same (Same.new _ hu0), lit_lt wdW_end h, hlv, ?_⟩
    rw [hb]
    refine (q.up (SameX.new _ hu0) (hc.same (Same.new _ hu0))).callE fun _ j v H1 hok e1 c1 d1 q1 => ?_
    refine ⟨_, rfl, p, l, W, j, rfl, c1, q1.call fun r k vr H2 e2 c2 d2 q2 => ?_⟩
    refine ⟨_, rfl, _, rfl, _, _, rfl, rfl, ?_⟩
    rw [hf (rStep_ok hok)]
    refine ⟨p, l, W, k, rfl, c2, q2.call fun c j3 v3 H3 e3 c3 d3 q3 => ?_⟩
    obtain ⟨a, x, rfl, hs, hx⟩ := dp_res d3
    have hr3 := c2.cu.mv e3 (rolN r) d2
    refine ⟨a, _, rfl, hs, rfl, _, _, rfl, _, _, rfl, rfl, ?_⟩
    refine ⟨_, rfl, _, rfl, _, rfl, by show 3 ≤ sizeLine; decide, fun u hu => ⟨_, rfl, _, _, rfl, rfl, by show 2 ≤ sizeLine; decide, fun u2 hu2 => ?_⟩⟩
    rw [h] at hu2 ⊢
    refine q3.fin ((SameX.new _ hu).trans (SameX.new _ hu2)) ((c3.same (Same.new _ hu)).same (Same.new _ hu2)) (.tup (.of upd_same) (.cons (Dp.same (Same.new _ hu2) (.tup (.of upd_same) (.cons ?_ (.cons (Dp.same (Same.new _ hu) hr3) (.cons (Dp.same (Same.new _ hu) hx) .nil))))) (.cons (.int _) .nil)))
    rw [← lit_T]
    exact .str _
  next h3 =>
  refine if_in2F rfl (by rw [wn h2, wn h3]; rfl) fun u hu => ?_
  exact ⟨_, rfl, _, rfl, p, l, W, i, rfl, hc.same (Same.new _ hu), q.up (SameX.new _ hu) (hc.same (Same.new _ hu))⟩
/-- the front and what it calls, with so many levels left -/
theorem fx_frontsX {f fA fB fC : Addr} {fd fdA fdB fdC : FuncData} {fT : Addr} {fdT : FuncData} (D : Df K mg "_front" s_front f fd ["cursor", "level"]) (DB : Df K mg "_both" s_both fB fdB ["cursor", "level"]) (DA : Df K mg "_alternatives" s_alternatives fA fdA ["cursor", "level"]) (DC : Df K mg "_chain" s_chain fC fdC ["cursor", "level", "word", "operand"]) (DT : Df K mg "_atom" s_atom fT fdT ["cursor", "level"])
    (T_Cursor : CurC K mg C) (c_Cursor_word : Mt P w K mg base 1 C "word" fw fdw ["self"] (spWord K C)) (c_Cursor_step : Mt P w K mg base 1 C "step" fs fds ["self"] (spStep K C)) (c_Cursor_expect : MtX P w K mg base 5 C "expect" fe fde ["self", "word"] (spExpX K C F)) (c_Cursor_fail : MtX P w K mg base 4 C "fail" ff fdf ["self", "reason"] (spFailX K C F))
    (c_step_deeper : ClX P w K mg base 5 "_step_deeper" (spSDX K C F)) (c_role : ClX P w K mg base 6 "role" (spRoleX K C F)) (c_is_name : Cl P w K mg base 2 "is_name" spIsName) (z_max : mg "max" = none) : ∀ (r lv : Nat), lv + r = 8 → FxX P w K mg base (8 + 6 * r) f fd ["cursor", "level"] (spLvX K C F lv fun W => rfW W r)
  | 0, lv, h => by
    have at0 := c_atomX (k := 5) (lv := lv) (b := false) (Nat.le_refl _) (by omega) (by rw [show lv = 8 by omega]; rfl) DT T_Cursor c_Cursor_word c_Cursor_step c_Cursor_expect c_Cursor_fail c_step_deeper c_is_name (fun _ i => .er i (Str.ofString "nested too deeply")) (fun z => nomatch z) ((DA.noX sc_alternatives).mono (by decide))
    exact c_frontX (k := 7) (by decide) (by omega) (by rw [show lv = 8 by omega]; rfl) D T_Cursor c_Cursor_word c_step_deeper c_role (fun _ i => .er i (Str.ofString "nested too deeply")) (fun z => nomatch z) ((D.noX sc_front).mono (by decide)) (at0.mono (by decide))
  | r + 1, lv, h => by
    have fr := fx_frontsX D DB DA DC DT T_Cursor c_Cursor_word c_Cursor_step c_Cursor_expect c_Cursor_fail c_step_deeper c_role c_is_name z_max r (lv + 1) (by omega)
    have bo := fx_bothX (by omega) DB DC D T_Cursor c_Cursor_word c_Cursor_step fr z_max
    have al := fx_altX (by omega) DA DC DB T_Cursor c_Cursor_word c_Cursor_step bo z_max
    have hb : decide (lv ≠ 8) = true := decide_eq_true (by omega)
    have at0 := c_atomX (by omega) (by omega) hb DT T_Cursor c_Cursor_word c_Cursor_step c_Cursor_expect c_Cursor_fail c_step_deeper c_is_name (fun W => rfW W r) (fun _ => rfl) (DA.ofX al)
    exact (c_frontX (k := 8 + 6 * r + 5) (by omega) (by omega) hb D T_Cursor c_Cursor_word c_step_deeper c_role (fun W => rfW W r) (fun _ => rfl) ((D.ofX fr).mono (by omega)) (at0.mono (by omega)))
/-- a form of the grammar -/
def spFmX {α : Type} (K : PySem.W.Frag) (C F : Addr) (f : List Tk → Nat → R α) (tr : α → PyData) : Sp := fun vs H Q E => ∃ (p : Addr) (l : List Nat) (W : List Tk) (i : Nat), vs = [.ref p] ∧ Rdr K C H p l W i ∧ PostR K C F l W p H Q E tr (f W i)
abbrev spCnX (K : PySem.W.Frag) (C F : Addr) : Sp := spFmX K C F (fun W => rConcept (wdW W) W.length) Con.D
theorem fx_conceptX {k : Nat} {f : Addr} {fd : FuncData} {tk : Tok} (hk : 4 ≤ k) (D : Df K mg "concept" s_concept f fd ["cursor"]) (T_Cursor : CurC K mg C) (c_Cursor_fail : MtX P w K mg base 4 C "fail" ff fdf ["self", "reason"] (spFailX K C F)) (c_alternatives : ClX P w K mg base k "_alternatives" (spLvX K C F 0 fun W => rAlt (wdW W) W.length (rfW W 8))) (m_GREATEST_HEIGHT : mg "GREATEST_HEIGHT" = some (.int K_GREATEST_HEIGHT tk)) : FxX P w K mg base (k + 1) f fd ["cursor"] (spCnX K C F) := by
  refine D.fxX sc_concept (fun vs H Q E h => ?_) (fun cdv A outer s H vs Q E hr h => ?_)
  · obtain ⟨p, l, W, i, rfl, _⟩ := h
    rfl
  obtain ⟨p, l, W, i, rfl, hc, q⟩ := h
  refine ⟨_, (pss_cons (ps_asg (pcX c_alternatives (L2N.takes_of rfl rfl rfl rfl) hr (by first | decide | omega) (by rfl) (pa_cons (pv 0) (pa_cons pe_int pa_nil))) (pg_tup (by rfl) (pgs_cons (pg_name (i := 1) sc_concept.nd rfl (.inl rfl)) (pgs_cons (pg_name (i := 2) sc_concept.nd rfl (.inl rfl)) pgs_nil))))
      (pss_cons (ps_if (pt_cmpR op_gt (pv 2) (pe_glob (v := .int K_GREATEST_HEIGHT) (by rfl) m_GREATEST_HEIGHT ⟨_, rfl⟩) (nomark _)) (pss_one (ps_expr (pe_meth (pv 0) T_Cursor.cl c_Cursor_fail.M c_Cursor_fail.F (hr.mono (by first | decide | omega)) c_Cursor_fail.b .nil (passE rfl rfl rfl rfl) (pa_cons pe_str pa_nil)))) pss_nil)
      (pss_one (ps_ret (pv 1))))), ?_⟩
  have q : PostR K C F l W p H Q E Con.D (rConcept (wdW W) W.length i) := q
  unfold rConcept at q
  refine ⟨_, rfl, p, l, W, i, rfl, hc, PostR.call q fun c j v H1 e1 c1 d1 q1 => ?_⟩
  obtain ⟨a, x, rfl, hs, hx⟩ := dp_res d1
  refine ⟨a, _, rfl, hs, rfl, _, _, rfl, _, _, rfl, rfl, ?_⟩
  refine ⟨_, rfl, _, _, rfl, rfl, _, rfl, ?_⟩
  split at q1
  · next h =>
    rw [decide_eq_true (show K_GREATEST_HEIGHT < (c.dp : Int) by unfold K_GREATEST_HEIGHT; omega)]
    exact iteT (rd_fail rfl c1 (fun Z z => z) q1)
  · next h =>
    rw [decide_eq_false (show ¬ (K_GREATEST_HEIGHT < (c.dp : Int)) by unfold K_GREATEST_HEIGHT; omega)]
    exact iteF ⟨_, rfl, q1.fin (SameX.refl _ _) c1 hx⟩
end
end
end Pf
namespace Pf
open PySem PySem.Spec PyProof.Rows L2
section
variable {P : Program} {w : World} {K : PySem.W.Frag} {mg : Str → Option Value} {base : Heap}
/-! facts, comparisons, statements, questions -/
def spNBX (K : PySem.W.Frag) (C : Addr) : Sp := fun vs H Q _ => ∃ (p : Addr) (l : List Nat) (W : List Tk) (i : Nat) (s : String), vs = [.ref p, .str (Str.ofString s)] ∧ Rdr K C H p l W i ∧ Q (.bl (nameB (wdW W) s i)) H
def spBFX (K : PySem.W.Frag) (C : Addr) : Sp := fun vs H Q _ => ∃ (p : Addr) (l : List Nat) (W : List Tk) (i : Nat), vs = [.ref p] ∧ Rdr K C H p l W i ∧ Q (.bl (factB (wdW W) i)) H
/-- a form that gives a statement -/
abbrev spStX (K : PySem.W.Frag) (C F : Addr) (f : List Tk → Nat → R Stm) : Sp := spFmX K C F f Stm.D
theorem decV {a b : List Nat} : decide (V.str (T a) = V.str (T b)) = decide (a = b) := by
  by_cases h : a = b
  · rw [h, decide_eq_true rfl, decide_eq_true rfl]
  · rw [decide_eq_false h, decide_eq_false fun z => h (T_inj (V.str.inj z))]
theorem if_notin3 {σ : L2.St} {H : Hp} {i : Nat} {s t t' t'' : Str} {tt u : TS} {D : Ends} (h : σ[i]? = some (some (.str s))) (hd : decide (s ∈ [t, t', t'']) = true) (q : ∀ p, H p = none → u D σ (upd H p (.tup [.str t, .str t', .str t'']))) :
    tIfS (tTest (tOp (rIn K true) (tVar i) (tTup (tCons (tC (.str t)) (tCons (tC (.str t')) (tCons (tC (.str t'')) tNil)))))) tt u D σ H := by
  refine ⟨_, h, by show 3 ≤ sizeLine; decide, fun p hp => ⟨p, _, rfl, .inr (SqT.of upd_same), rfl, rfl, false, ?_, iteF (q p hp)⟩⟩
  show V.bl (!(inV (.str s) [.str t, .str t', .str t''])) = .bl false
  rw [show [V.str t, V.str t', V.str t''] = [t, t', t''].map V.str from rfl, inV_strs, hd]
  rfl
theorem if_notin3F {σ : L2.St} {H : Hp} {i : Nat} {s t t' t'' : Str} {tt u : TS} {D : Ends} (h : σ[i]? = some (some (.str s))) (h1 : decide (s = t) = false) (h2 : decide (s = t') = false) (h3 : decide (s = t'') = false) (q : ∀ p, H p = none → tt D σ (upd H p (.tup [.str t, .str t', .str t'']))) :
    tIfS (tTest (tOp (rIn K true) (tVar i) (tTup (tCons (tC (.str t)) (tCons (tC (.str t')) (tCons (tC (.str t'')) tNil)))))) tt u D σ H := by
  refine ⟨_, h, by show 3 ≤ sizeLine; decide, fun p hp => ⟨p, _, rfl, .inr (SqT.of upd_same), rfl, rfl, true, ?_, iteT (q p hp)⟩⟩
  show V.bl (!(inV (.str s) [.str t, .str t', .str t''])) = .bl true
  rw [show [V.str t, V.str t', V.str t''] = [t, t', t''].map V.str from rfl, inV_strs]
  rw [decide_eq_false (fun z => by
    rcases List.mem_cons.mp z with z | z
    · exact of_decide_eq_false h1 z
    rcases List.mem_cons.mp z with z | z
    · exact of_decide_eq_false h2 z
    · exact of_decide_eq_false h3 (List.mem_singleton.mp z))]
  rfl
theorem if_orL {ta tb : TT} {b1 b2 : Bool} {tt u : TS} {D : Ends} {σ : L2.St} {H : Hp} (h1 : ∀ R : Bool → Hp → Prop, R b1 H → ta σ H R) (h2 : b1 = false → ∀ R : Bool → Hp → Prop, R b2 H → tb σ H R) (qT : (b1 || b2) = true → tt D σ H) (qF : (b1 || b2) = false → u D σ H) : tIfS (tOr ta tb) tt u D σ H := by
  refine h1 _ ?_
  cases b1 with
  | true => exact iteT (iteT (qT rfl))
  | false =>
    refine iteF (h2 rfl _ ?_)
    cases b2 with
    | true => exact iteT (qT rfl)
    | false => exact iteF (qF rfl)
theorem tnx {D : Ends} {σ : L2.St} {H : Hp} (h : D.nx σ H) : tNext D σ H := h
theorem tsq {a b : TS} {D : Ends} {σ : L2.St} {H : Hp} (h : a { D with nx := b D } σ H) : tSeq a b D σ H := h
theorem nb_callX {C p : Addr} {l : List Nat} {W : List Tk} {i j : Nat} {σ : L2.St} {H : Hp} {R : Bool → Hp → Prop} {s : String} (hσ : σ[j]? = some (some (.ref p))) (hc : Rdr K C H p l W i) (q : R (nameB (wdW W) s i) H) : tB (tCall (spNBX K C) [] E0 (tCons (tVar j) (tCons (tC (.str (Str.ofString s))) tNil))) σ H R := ⟨_, hσ, p, l, W, i, s, rfl, hc, _, rfl, q⟩
theorem bf_callX {C p : Addr} {l : List Nat} {W : List Tk} {i j : Nat} {σ : L2.St} {H : Hp} {R : Bool → Hp → Prop} (hσ : σ[j]? = some (some (.ref p))) (hc : Rdr K C H p l W i) (q : R (factB (wdW W) i) H) : tB (tCall (spBFX K C) [] E0 (tCons (tVar j) tNil)) σ H R := ⟨_, hσ, p, l, W, i, rfl, hc, _, rfl, q⟩
theorem if_1 {ta : TT} {b1 : Bool} {tt u : TS} {D : Ends} {σ : L2.St} {H : Hp} (h1 : ∀ R : Bool → Hp → Prop, R b1 H → ta σ H R) (qT : b1 = true → tt D σ H) (qF : b1 = false → u D σ H) : tIfS ta tt u D σ H := by
  refine h1 _ ?_
  cases b1 with
  | true => exact iteT (qT rfl)
  | false => exact iteF (qF rfl)
section
variable {C F : Addr} {fw fs fe ft ff fv : Addr} {fdw fds fde fdt fdf fdv : FuncData}
theorem c_is_name_beforeX {f : Addr} {fd : FuncData} (D : Df K mg "_is_name_before" s_is_name_before f fd ["cursor", "word"]) (T_Cursor : CurC K mg C) (c_is_name : Cl P w K mg base 2 "is_name" spIsName) (c_Cursor_word : Mt P w K mg base 1 C "word" fw fdw ["self"] (spWord K C)) (c_Cursor_word_behind : Mt P w K mg base 1 C "word_behind" fv fdv ["self"] (spBehind K C)) : Cl P w K mg base 3 "_is_name_before" (spNBX K C) := by
  refine D.cl sc_is_name_before (fun vs H Q E h => ?_) (fun cdv A outer s H vs Q E hr h => ?_)
  · obtain ⟨p, l, W, i, s, rfl, _⟩ := h
    rfl
  obtain ⟨p, l, W, i, s, rfl, hc, q⟩ := h
  refine ⟨_, (pss_one (ps_ret (pe_and (pc c_is_name hr (by first | decide | omega) (by rfl) (pa_cons (pe_meth0 (pv 0) T_Cursor.cl c_Cursor_word.M c_Cursor_word.F (hr.mono (by first | decide | omega)) c_Cursor_word.b .nil pass0) pa_nil)) (pe_one (pe_cmpR op_eq (pe_meth0 (pv 0) T_Cursor.cl c_Cursor_word_behind.M c_Cursor_word_behind.F (hr.mono (by first | decide | omega)) c_Cursor_word_behind.b .nil pass0) (pv 1) (nomark _)))))), ?_⟩
  refine rd_word rfl hc ⟨_, rfl, Nat.le_trans (hc.ok.wd i) (by decide), ?_⟩
  unfold nameB at q
  cases hn : isNm (wdW W i) with
  | false =>
    rw [hn] at q
    exact ⟨_, rfl, iteF q⟩
  | true =>
    rw [hn, ← decV, ← lit_T] at q
    exact ⟨_, rfl, iteT (rd_behind rfl hc (nm_lt wdW_end hn) ⟨_, rfl, rfl, q⟩)⟩
theorem c_begins_factX {f : Addr} {fd : FuncData} (D : Df K mg "_begins_fact" s_begins_fact f fd ["cursor"]) (T_Cursor : CurC K mg C) (c_is_name : Cl P w K mg base 2 "is_name" spIsName) (c_Cursor_word : Mt P w K mg base 1 C "word" fw fdw ["self"] (spWord K C)) (c_Cursor_word_behind : Mt P w K mg base 1 C "word_behind" fv fdv ["self"] (spBehind K C)) : Cl P w K mg base 3 "_begins_fact" (spBFX K C) := by
  refine D.cl sc_begins_fact (fun vs H Q E h => ?_) (fun cdv A outer s H vs Q E hr h => ?_)
  · obtain ⟨p, l, W, i, rfl, _⟩ := h
    rfl
  obtain ⟨p, l, W, i, rfl, hc, q⟩ := h
  refine ⟨_, (pss_cons (ps_if (pt_not (pt_val (pc c_is_name hr (by first | decide | omega) (by rfl) (pa_cons (pe_meth0 (pv 0) T_Cursor.cl c_Cursor_word.M c_Cursor_word.F (hr.mono (by first | decide | omega)) c_Cursor_word.b .nil pass0) pa_nil)))) (pss_one (ps_ret pe_bl)) pss_nil)
      (pss_cons (ps_set (i := 1) sc_begins_fact.nd rfl (.inl rfl) (pe_meth0 (pv 0) T_Cursor.cl c_Cursor_word_behind.M c_Cursor_word_behind.F (hr.mono (by first | decide | omega)) c_Cursor_word_behind.b .nil pass0))
      (pss_one (ps_ret (pe_or (pe_cmpR op_eq (pv 1) pe_str (nomark _)) (pe_one (pc c_is_name hr (by first | decide | omega) (by rfl) (pa_cons (pv 1) pa_nil)))))))), ?_⟩
  refine rd_word rfl hc ⟨_, rfl, Nat.le_trans (hc.ok.wd i) (by decide), ?_⟩
  unfold factB at q
  cases hn : isNm (wdW W i) with
  | false =>
    rw [hn] at q
    exact ⟨_, rfl, iteT q⟩
  | true =>
    rw [hn, Bool.true_and] at q
    refine ⟨_, rfl, iteF (rd_behind rfl hc (nm_lt wdW_end hn) ⟨_, rfl, rfl, _, rfl, ?_⟩)⟩
    rw [lit_T "is", decV]
    cases h2 : decide (wdW W (i + 1) = lit "is") with
    | true =>
      rw [h2] at q
      exact iteT q
    | false =>
      rw [h2] at q
      exact iteF ⟨_, rfl, _, rfl, Nat.le_trans (hc.ok.wd _) (by decide), q⟩
theorem rd_con {p : Addr} {l : List Nat} {W : List Tk} {i j : Nat} {σ : L2.St} {H : Hp} {R : VK} {E : L2.St → XK} (hσ : σ[j]? = some (some (.ref p))) (c : Rdr K C H p l W i) (q : PostR K C F l W p H R (E σ) Con.D (rConcept (wdW W) W.length i)) : tCallS (spCnX K C F) E (tCons (tVar j) tNil) σ H R := ⟨_, hσ, p, l, W, i, rfl, c, q⟩
theorem rd_rol {p : Addr} {l : List Nat} {W : List Tk} {i j : Nat} {σ : L2.St} {H : Hp} {R : VK} {E : L2.St → XK} (hσ : σ[j]? = some (some (.ref p))) (c : Rdr K C H p l W i) (q : PostR K C F l W p H R (E σ) rolD (rRole (wdW W) i)) : tCallS (spRoleX K C F) E (tCons (tVar j) tNil) σ H R := ⟨_, hσ, p, l, W, i, rfl, c, q⟩
theorem strL {s : String} {H : Hp} : Dp K H (.str (T (lit s))) (.str (Str.ofString s)) := by
  rw [← lit_T]
  exact .str _
theorem c_factX {k : Nat} (hk : 5 ≤ k) {f : Addr} {fd : FuncData} (D : Df K mg "_fact" s_fact f fd ["cursor"]) (T_Cursor : CurC K mg C) (c_concept : ClX P w K mg base k "concept" (spCnX K C F)) (c_Cursor_word : Mt P w K mg base 1 C "word" fw fdw ["self"] (spWord K C)) (c_Cursor_step : Mt P w K mg base 1 C "step" fs fds ["self"] (spStep K C)) (c_Cursor_take_name : MtX P w K mg base 5 C "take_name" ft fdt ["self"] (spTakeX K C F)) : ClX P w K mg base (k + 1) "_fact" (spStX K C F (fun W => rFact (wdW W) W.length)) := by
  refine D.clX sc_fact (fun vs H Q E h => ?_) (fun cdv A outer s H vs Q E hr h => ?_)
  · obtain ⟨p, l, W, i, rfl, _⟩ := h
    rfl
  obtain ⟨p, l, W, i, rfl, hc, q⟩ := h
  refine ⟨_, (pss_cons (ps_set (i := 1) sc_fact.nd rfl (.inl rfl) (pe_meth0 (pv 0) T_Cursor.cl c_Cursor_take_name.M c_Cursor_take_name.F (hr.mono (by first | decide | omega)) c_Cursor_take_name.b .nil (passE rfl rfl rfl rfl)))
      (pss_cons (ps_if (pt_cmpR op_eq (pe_meth0 (pv 0) T_Cursor.cl c_Cursor_word.M c_Cursor_word.F (hr.mono (by first | decide | omega)) c_Cursor_word.b .nil pass0) pe_str (nomark _)) (pss_cons (ps_expr (pe_meth0 (pv 0) T_Cursor.cl c_Cursor_step.M c_Cursor_step.F (hr.mono (by first | decide | omega)) c_Cursor_step.b .nil pass0))
      (pss_one (ps_ret (pe_tup (pa_cons pe_str (pa_cons (pv 1) (pa_cons (pcX c_concept (L2N.takes_of rfl rfl rfl rfl) hr (by first | decide | omega) (by rfl) (pa_cons (pv 0) pa_nil)) pa_nil))))))) pss_nil)
      (pss_cons (ps_set (i := 2) sc_fact.nd rfl (.inl rfl) (pe_meth0 (pv 0) T_Cursor.cl c_Cursor_take_name.M c_Cursor_take_name.F (hr.mono (by first | decide | omega)) c_Cursor_take_name.b .nil (passE rfl rfl rfl rfl)))
      (pss_one (ps_ret (pe_tup (pa_cons pe_str (pa_cons (pv 1) (pa_cons (pv 2) (pa_cons (pe_meth0 (pv 0) T_Cursor.cl c_Cursor_take_name.M c_Cursor_take_name.F (hr.mono (by first | decide | omega)) c_Cursor_take_name.b .nil (passE rfl rfl rfl rfl)) pa_nil)))))))))), ?_⟩
  have q : PostR K C F l W p H Q E Stm.D (rFact (wdW W) W.length i) := q
  unfold rFact at q
  refine rd_take rfl hc (q.call fun x j v H1 e1 c1 d1 q1 => ?_)
  obtain rfl := dp_text d1
  refine rd_word rfl c1 ⟨rfl, _, rfl, ?_⟩
  split at q1
  · next h =>
    rw [wqV h]
    refine iteT (rd_step rfl c1 (lit_lt wdW_end h) fun H2 e2 c2 => ?_)
    refine ⟨_, rfl, rd_con rfl c2 ((q1.up e2 c2).call fun c j3 v3 H3 e3 c3 d3 q3 => ?_)⟩
    refine ⟨by show 3 ≤ sizeLine; decide, fun u hu => ?_⟩
    exact q3.fin (SameX.new _ hu) (c3.same (Same.new _ hu)) (.tup (.of upd_same) (.cons (.str _) (.cons (.str _) (.cons (Dp.same (Same.new _ hu) d3) .nil))))
  · next h =>
    rw [wnV h]
    refine iteF (rd_take rfl c1 (q1.call fun x2 j2 v2 H2 e2 c2 d2 q2 => ?_))
    obtain rfl := dp_text d2
    refine ⟨_, rfl, _, rfl, rd_take rfl c2 (q2.call fun x3 j3 v3 H3 e3 c3 d3 q3 => ?_)⟩
    obtain rfl := dp_text d3
    refine ⟨by show 4 ≤ sizeLine; decide, fun u hu => ?_⟩
    exact q3.fin (SameX.new _ hu) (c3.same (Same.new _ hu)) (.tup (.of upd_same) (.cons (.str _) (.cons (.str _) (.cons (.str _) (.cons (.str _) .nil)))))
theorem c_comparisonX {k : Nat} (hk : 5 ≤ k) {f : Addr} {fd : FuncData} (D : Df K mg "_comparison" s_comparison f fd ["cursor"]) (T_Cursor : CurC K mg C) (c_concept : ClX P w K mg base k "concept" (spCnX K C F)) (c_Cursor_word : Mt P w K mg base 1 C "word" fw fdw ["self"] (spWord K C)) (c_Cursor_step : Mt P w K mg base 1 C "step" fs fds ["self"] (spStep K C)) (c_Cursor_expect : MtX P w K mg base 5 C "expect" fe fde ["self", "word"] (spExpX K C F)) (c_Cursor_fail : MtX P w K mg base 4 C "fail" ff fdf ["self", "reason"] (spFailX K C F)) : ClX P w K mg base (k + 1) "_comparison" (spStX K C F (fun W => rComp (wdW W) W.length)) := by
  refine D.clX sc_comparison (fun vs H Q E h => ?_) (fun cdv A outer s H vs Q E hr h => ?_)
  · obtain ⟨p, l, W, i, rfl, _⟩ := h
    rfl
  obtain ⟨p, l, W, i, rfl, hc, q⟩ := h
  refine ⟨_, (pss_cons (ps_set (i := 1) sc_comparison.nd rfl (.inl rfl) (pcX c_concept (L2N.takes_of rfl rfl rfl rfl) hr (by first | decide | omega) (by rfl) (pa_cons (pv 0) pa_nil)))
      (pss_cons (ps_set (i := 2) sc_comparison.nd rfl (.inl rfl) (pe_meth0 (pv 0) T_Cursor.cl c_Cursor_word.M c_Cursor_word.F (hr.mono (by first | decide | omega)) c_Cursor_word.b .nil pass0))
      (pss_cons (ps_if (pt_cmpR op_notIn_seq (pv 2) (pe_tup (pa_cons pe_str (pa_cons pe_str (pa_cons pe_str pa_nil)))) rfl) (pss_one (ps_expr (pe_meth (pv 0) T_Cursor.cl c_Cursor_fail.M c_Cursor_fail.F (hr.mono (by first | decide | omega)) c_Cursor_fail.b .nil (passE rfl rfl rfl rfl) (pa_cons pe_str pa_nil)))) pss_nil)
      (pss_cons (ps_expr (pe_meth0 (pv 0) T_Cursor.cl c_Cursor_step.M c_Cursor_step.F (hr.mono (by first | decide | omega)) c_Cursor_step.b .nil pass0))
      (pss_cons (ps_set (i := 3) sc_comparison.nd rfl (.inl rfl) (pcX c_concept (L2N.takes_of rfl rfl rfl rfl) hr (by first | decide | omega) (by rfl) (pa_cons (pv 0) pa_nil)))
      (pss_cons (ps_if (pt_cmpR op_eq (pv 2) pe_str (nomark _)) (pss_cons (ps_expr (pe_meth (pv 0) T_Cursor.cl c_Cursor_expect.M c_Cursor_expect.F (hr.mono (by first | decide | omega)) c_Cursor_expect.b .nil (passE rfl rfl rfl rfl) (pa_cons pe_str pa_nil)))
      (pss_one (ps_ret (pe_tup (pa_cons pe_str (pa_cons (pv 1) (pa_cons (pv 3) pa_nil))))))) pss_nil)
      (pss_one (ps_ret (pe_tup (pa_cons (pv 2) (pa_cons (pv 1) (pa_cons (pv 3) pa_nil)))))))))))), ?_⟩
  have q : PostR K C F l W p H Q E Stm.D (rComp (wdW W) W.length i) := q
  unfold rComp at q
  refine rd_con rfl hc (q.call fun a j v H1 e1 c1 d1 q1 => ?_)
  refine rd_word rfl c1 ?_
  split at q1
  · next h =>
    refine if_notin3 rfl (by rw [h]; decide +kernel) fun u0 hu0 => ?_
    refine rd_step rfl (c1.same (Same.new _ hu0)) (lit_lt wdW_end h) fun H2 e2 c2 => ?_
    refine rd_con rfl c2 ((q1.up ((SameX.new _ hu0).trans e2) c2).call fun b j3 v3 H3 e3 c3 d3 q3 => ?_)
    refine if_eqF rfl (by rw [h]; decide +kernel) ?_
    have d1' := rd_mv c1 ((SameX.new _ hu0).trans (e2.trans e3)) d1
    refine ⟨_, rfl, _, rfl, _, rfl, by show 3 ≤ sizeLine; decide, fun u hu => ?_⟩
    rw [h]
    exact q3.fin (SameX.new _ hu) (c3.same (Same.new _ hu)) (.tup (.of upd_same) (.cons strL (.cons (Dp.same (Same.new _ hu) d1') (.cons (Dp.same (Same.new _ hu) d3) .nil))))
  next hbelow =>
  split at q1
  · next h =>
    refine if_notin3 rfl (by rw [h]; decide +kernel) fun u0 hu0 => ?_
    refine rd_step rfl (c1.same (Same.new _ hu0)) (lit_lt wdW_end h) fun H2 e2 c2 => ?_
    refine rd_con rfl c2 ((q1.up ((SameX.new _ hu0).trans e2) c2).call fun b j3 v3 H3 e3 c3 d3 q3 => ?_)
    refine if_eqF rfl (by rw [h]; decide +kernel) ?_
    have d1' := rd_mv c1 ((SameX.new _ hu0).trans (e2.trans e3)) d1
    refine ⟨_, rfl, _, rfl, _, rfl, by show 3 ≤ sizeLine; decide, fun u hu => ?_⟩
    rw [h]
    exact q3.fin (SameX.new _ hu) (c3.same (Same.new _ hu)) (.tup (.of upd_same) (.cons strL (.cons (Dp.same (Same.new _ hu) d1') (.cons (Dp.same (Same.new _ hu) d3) .nil))))
  next hequals =>
  split at q1
  · next h =>
    refine if_notin3 rfl (by rw [h]; decide +kernel) fun u0 hu0 => ?_
    refine rd_step rfl (c1.same (Same.new _ hu0)) (lit_lt wdW_end h) fun H2 e2 c2 => ?_
    refine rd_con rfl c2 ((q1.up ((SameX.new _ hu0).trans e2) c2).call fun b j3 v3 H3 e3 c3 d3 q3 => ?_)
    refine if_eqT rfl (by rw [h]; decide +kernel) ?_
    refine rd_exp rfl c3 ⟨by decide +kernel, by decide +kernel, by decide +kernel⟩ (q3.call fun _ j4 v4 H4 e4 c4 d4 q4 => ?_)
    have d1' := rd_mv c1 ((SameX.new _ hu0).trans (e2.trans (e3.trans e4))) d1
    have d3' := rd_mv c3 e4 d3
    refine ⟨_, rfl, _, rfl, by show 3 ≤ sizeLine; decide, fun u hu => ?_⟩
    exact q4.fin (SameX.new _ hu) (c4.same (Same.new _ hu)) (.tup (.of upd_same) (.cons (.str _) (.cons (Dp.same (Same.new _ hu) d1') (.cons (Dp.same (Same.new _ hu) d3') .nil))))
  next h3 =>
  refine if_notin3F rfl (wn hbelow) (wn hequals) (wn h3) fun u hu => ?_
  exact rd_fail rfl (c1.same (Same.new _ hu)) (fun Z z => z) (PostR.up (r := R.er (α := Stm) j (Str.ofString "expected below, equals or ,")) q1 (SameX.new _ hu) (c1.same (Same.new _ hu)))
theorem fx_statementX {k : Nat} (hk : 6 ≤ k) {f : Addr} {fd : FuncData} (D : Df K mg "statement" s_statement f fd ["cursor"]) (T_Cursor : CurC K mg C) (c_concept : ClX P w K mg base k "concept" (spCnX K C F)) (c_role : ClX P w K mg base 6 "role" (spRoleX K C F)) (c_fact : ClX P w K mg base k "_fact" (spStX K C F (fun W => rFact (wdW W) W.length))) (c_comparison : ClX P w K mg base k "_comparison" (spStX K C F (fun W => rComp (wdW W) W.length)))
    (c_is_name_before : Cl P w K mg base 3 "_is_name_before" (spNBX K C)) (c_begins_fact : Cl P w K mg base 3 "_begins_fact" (spBFX K C)) (c_Cursor_word : Mt P w K mg base 1 C "word" fw fdw ["self"] (spWord K C)) (c_Cursor_step : Mt P w K mg base 1 C "step" fs fds ["self"] (spStep K C)) (c_Cursor_expect : MtX P w K mg base 5 C "expect" fe fde ["self", "word"] (spExpX K C F)) (c_Cursor_take_name : MtX P w K mg base 5 C "take_name" ft fdt ["self"] (spTakeX K C F)) :
    FxX P w K mg base (k + 1) f fd ["cursor"] (spStX K C F (fun W => rStm (wdW W) W.length)) := by
  refine D.fxX sc_statement (fun vs H Q E h => ?_) (fun cdv A outer s H vs Q E hr h => ?_)
  · obtain ⟨p, l, W, i, rfl, _⟩ := h
    rfl
  obtain ⟨p, l, W, i, rfl, hc, q⟩ := h
  refine ⟨_, (pss_cons (ps_set (i := 1) sc_statement.nd rfl (.inl rfl) (pe_meth0 (pv 0) T_Cursor.cl c_Cursor_word.M c_Cursor_word.F (hr.mono (by first | decide | omega)) c_Cursor_word.b .nil pass0))
      (pss_cons (ps_if (pt_cmpR op_in_seq (pv 1) (pe_tup (pa_cons pe_str (pa_cons pe_str pa_nil))) rfl) (pss_cons (ps_expr (pe_meth0 (pv 0) T_Cursor.cl c_Cursor_step.M c_Cursor_step.F (hr.mono (by first | decide | omega)) c_Cursor_step.b .nil pass0))
      (pss_cons (ps_set (i := 2) sc_statement.nd rfl (.inl rfl) (pcX c_role (L2N.takes_of rfl rfl rfl rfl) hr (by first | decide | omega) (by rfl) (pa_cons (pv 0) pa_nil)))
      (pss_one (ps_ret (pe_tup (pa_cons (pv 1) (pa_cons (pv 2) (pa_cons (pcX c_concept (L2N.takes_of rfl rfl rfl rfl) hr (by first | decide | omega) (by rfl) (pa_cons (pv 0) pa_nil)) pa_nil)))))))) pss_nil)
      (pss_cons (ps_if (PW.pt (pw_or (pt_cmpR op_eq (pv 1) pe_str (nomark _)) (pw_or1 (pt_val (pc c_is_name_before hr (by first | decide | omega) (by rfl) (pa_cons (pv 0) (pa_cons pe_str pa_nil))))))) (pss_cons (ps_set (i := 3) sc_statement.nd rfl (.inl rfl) (pcX c_role (L2N.takes_of rfl rfl rfl rfl) hr (by first | decide | omega) (by rfl) (pa_cons (pv 0) pa_nil)))
      (pss_cons (ps_expr (pe_meth (pv 0) T_Cursor.cl c_Cursor_expect.M c_Cursor_expect.F (hr.mono (by first | decide | omega)) c_Cursor_expect.b .nil (passE rfl rfl rfl rfl) (pa_cons pe_str pa_nil)))
      (pss_one (ps_ret (pe_tup (pa_cons pe_str (pa_cons (pv 3) (pa_cons (pcX c_role (L2N.takes_of rfl rfl rfl rfl) hr (by first | decide | omega) (by rfl) (pa_cons (pv 0) pa_nil)) pa_nil)))))))) pss_nil)
      (pss_cons (ps_if (pt_val (pc c_is_name_before hr (by first | decide | omega) (by rfl) (pa_cons (pv 0) (pa_cons pe_str pa_nil)))) (pss_cons (ps_set (i := 4) sc_statement.nd rfl (.inl rfl) (pe_meth0 (pv 0) T_Cursor.cl c_Cursor_take_name.M c_Cursor_take_name.F (hr.mono (by first | decide | omega)) c_Cursor_take_name.b .nil (passE rfl rfl rfl rfl)))
      (pss_cons (ps_expr (pe_meth0 (pv 0) T_Cursor.cl c_Cursor_step.M c_Cursor_step.F (hr.mono (by first | decide | omega)) c_Cursor_step.b .nil pass0))
      (pss_one (ps_ret (pe_tup (pa_cons pe_str (pa_cons (pv 4) (pa_cons (pe_meth0 (pv 0) T_Cursor.cl c_Cursor_take_name.M c_Cursor_take_name.F (hr.mono (by first | decide | omega)) c_Cursor_take_name.b .nil (passE rfl rfl rfl rfl)) pa_nil)))))))) pss_nil)
      (pss_cons (ps_if (pt_val (pc c_begins_fact hr (by first | decide | omega) (by rfl) (pa_cons (pv 0) pa_nil))) (pss_one (ps_ret (pcX c_fact (L2N.takes_of rfl rfl rfl rfl) hr (by first | decide | omega) (by rfl) (pa_cons (pv 0) pa_nil)))) pss_nil)
      (pss_one (ps_ret (pcX c_comparison (L2N.takes_of rfl rfl rfl rfl) hr (by first | decide | omega) (by rfl) (pa_cons (pv 0) pa_nil))))))))), ?_⟩
  have q : PostR K C F l W p H Q E Stm.D (rStm (wdW W) W.length i) := q
  unfold rStm at q
  refine rd_word rfl hc ?_
  split at q
  · next h =>
    refine if_in2T rfl (by rw [wq h]; rfl) fun u0 hu0 => ?_
    refine rd_step rfl (hc.same (Same.new _ hu0)) (lit_lt wdW_end h) fun H1 e1 c1 => ?_
    refine rd_rol rfl c1 ((q.up ((SameX.new _ hu0).trans e1) c1).call fun r j v1 H2 e2 c2 d1 q1 => ?_)
    refine ⟨_, rfl, _, rfl, rd_con rfl c2 (q1.call fun c j2 v2 H3 e3 c3 d2 q2 => ⟨by show 3 ≤ sizeLine; decide, fun u hu => ?_⟩)⟩
    rw [h]
    exact q2.fin (SameX.new _ hu) (c3.same (Same.new _ hu)) (.tup (.of upd_same) (.cons strL (.cons (Dp.same (Same.new _ hu) (c2.cu.mv e3 (rolN r) d1)) (.cons (Dp.same (Same.new _ hu) d2) .nil))))
  next hdomain =>
  split at q
  · next h =>
    refine if_in2T rfl (by rw [wq h, Bool.or_true]) fun u0 hu0 => ?_
    refine rd_step rfl (hc.same (Same.new _ hu0)) (lit_lt wdW_end h) fun H1 e1 c1 => ?_
    refine rd_rol rfl c1 ((q.up ((SameX.new _ hu0).trans e1) c1).call fun r j v1 H2 e2 c2 d1 q1 => ?_)
    refine ⟨_, rfl, _, rfl, rd_con rfl c2 (q1.call fun c j2 v2 H3 e3 c3 d2 q2 => ⟨by show 3 ≤ sizeLine; decide, fun u hu => ?_⟩)⟩
    rw [h]
    exact q2.fin (SameX.new _ hu) (c3.same (Same.new _ hu)) (.tup (.of upd_same) (.cons strL (.cons (Dp.same (Same.new _ hu) (c2.cu.mv e3 (rolN r) d1)) (.cons (Dp.same (Same.new _ hu) d2) .nil))))
  next hrange =>
  refine if_in2F rfl (by rw [wn hdomain, wn hrange]; rfl) fun u0 hu0 => ?_
  have c0 := hc.same (Same.new (.tup [.str (Str.ofString "domain"), .str (Str.ofString "range")]) hu0)
  have q := PostR.up q (SameX.new (.tup [.str (Str.ofString "domain"), .str (Str.ofString "range")]) hu0) c0
  refine tnx ?_
  dsimp only
  refine tsq ?_
  refine if_orL (b1 := decide (wdW W i = lit "inverse")) (b2 := nameB (wdW W) "under" i) (fun R q => ⟨_, rfl, rfl, _, rfl, by rw [lit_T "inverse", decV]; exact q⟩) (fun e R q => nb_callX rfl c0 q) (fun z => ?_) (fun z => ?_)
  · rw [if_pos z] at q
    refine rd_rol rfl c0 (q.call fun r j v1 H1 e1 c1 d1 q1 => ?_)
    refine rd_exp rfl c1 ⟨by decide +kernel, by decide +kernel, by decide +kernel⟩ (q1.call fun _ j2 v2 H2 e2 c2 _ q2 => ?_)
    refine ⟨_, rfl, rd_rol rfl c2 (q2.call fun r3 j3 v3 H3 e3 c3 d3 q3 => ⟨by show 3 ≤ sizeLine; decide, fun u hu => ?_⟩)⟩
    exact q3.fin (SameX.new _ hu) (c3.same (Same.new _ hu)) (.tup (.of upd_same) (.cons (.str _) (.cons (Dp.same (Same.new _ hu) (c1.cu.mv (e2.trans e3) (rolN r) d1)) (.cons (Dp.same (Same.new _ hu) d3) .nil))))
  · rw [if_neg (by rw [z]; exact Bool.false_ne_true)] at q
    refine tnx ?_
    dsimp only
    refine tsq ?_
    refine if_1 (b1 := nameB (wdW W) "inverse" i) (fun R q => nb_callX rfl c0 q) (fun z => ?_) (fun z => ?_)
    · rw [if_pos z] at q
      have hz := Bool.and_eq_true_iff.mp z
      have hw1 := of_decide_eq_true hz.2
      refine rd_take rfl c0 ?_
      rw [show rTake (wdW W) i = .ok (wdW W i) (i + 1) from if_pos hz.1]
      intro v1 H1 e1 c1 d1
      obtain rfl := dp_text d1
      refine rd_step rfl c1 (lit_lt wdW_end hw1) fun H2 e2 c2 => ?_
      refine ⟨_, rfl, rd_take rfl c2 ((q.up (e1.trans e2) c2).call fun x3 j3 v3 H3 e3 c3 d3 q3 => ?_)⟩
      obtain rfl := dp_text d3
      refine ⟨by show 3 ≤ sizeLine; decide, fun u hu => ?_⟩
      exact q3.fin (SameX.new _ hu) (c3.same (Same.new _ hu)) (.tup (.of upd_same) (.cons (.str _) (.cons (.str _) (.cons (.str _) .nil))))
    rw [if_neg (by rw [z]; exact Bool.false_ne_true)] at q
    refine tnx ?_
    dsimp only
    refine tsq ?_
    refine if_1 (b1 := factB (wdW W) i) (fun R q => bf_callX rfl c0 q) (fun z => ?_) (fun z => ?_)
    · rw [if_pos z] at q
      exact ⟨_, rfl, p, l, W, i, rfl, c0, q⟩
    rw [if_neg (by rw [z]; exact Bool.false_ne_true)] at q
    exact ⟨_, rfl, p, l, W, i, rfl, c0, q⟩
end
end
end Pf
namespace Pf
open PySem PySem.Spec PyProof.Rows L2
section
variable {P : Program} {w : World} {K : PySem.W.Frag} {mg : Str → Option Value} {base : Heap}
/-- what raising a text's error asks of the heap -/
def RaiseUc (C : Addr) (l : List Nat) (a : Nat) (H : Hp) (E : XK) : Prop := ∀ d H', Same H H' → H d = none → H' d = some (.xd (ucF l a)) → E (.ref C) (some d) H'
/-! a whole text -/
theorem scan_ok : ∀ (n : Nat) (l : List Nat) (a : Nat) (t : Tk), t ∈ (scan n l a).1 → t.i < a + l.length ∧ t.s.length ≤ l.length
  | 0, _, _, _, h => nomatch h
  | _ + 1, [], _, _, h => nomatch h
  | n + 1, c :: r, a, t, h => by
    have go : ∀ k, t ∈ (scan n (r.drop k) (a + 1 + k)).1 → t.i < a + (c :: r).length ∧ t.s.length ≤ (c :: r).length := fun k h => by
      by_cases q : k ≤ r.length
      · have := scan_ok n (r.drop k) (a + 1 + k) t h
        rw [List.length_drop] at this
        rw [List.length_cons]
        omega
      · rw [List.drop_eq_nil_of_le (by omega)] at h
        cases n <;> cases h
    have g0 : t ∈ (scan n r (a + 1)).1 → t.i < a + (c :: r).length ∧ t.s.length ≤ (c :: r).length := fun h => go 0 (by rw [List.drop_zero]; exact h)
    unfold scan at h
    split at h
    · exact g0 h
    split at h
    · exact go _ h
    split at h
    · rcases List.mem_cons.mp h with rfl | h
      · exact ⟨by show a < a + (r.length + 1); omega, by show 1 ≤ r.length + 1; omega⟩
      · exact g0 h
    split at h
    · rcases List.mem_cons.mp h with rfl | h
      · refine ⟨by show a < a + (r.length + 1); omega, ?_⟩
        show (r.take _).length + 1 ≤ r.length + 1
        rw [List.length_take]
        omega
      · exact go _ h
    · cases h
theorem okW {l : List Nat} (h : l.length ≤ 20000) : OkW l (scan l.length l 0).1 := ⟨h, fun t ht => by have := (scan_ok _ _ _ t ht).1; omega, fun t ht => Nat.le_trans (scan_ok _ _ _ t ht).2 h⟩
/-- how reading a text ends -/
def OutR {α : Type} (K : PySem.W.Frag) (F : Addr) (l : List Nat) (H : Hp) (Q : VK) (E : XK) (tr : α → PyData) (r : R α) : Prop := match (scan l.length l 0).2 with
  | some a => RaiseUc F l a H E
  | none => match r with
    | .ok x _ => ∀ v H', Same H H' → Dp K H' v (tr x) → Q v H'
    | .er e m => ∀ d H', Same H H' → H d = none → H' d = some (.xd (erF l (scan l.length l 0).1 e m)) → E (.ref F) (some d) H'
def spCurInitG (K : PySem.W.Frag) (C F : Addr) : Sp := fun vs H Q E => ∃ (H0 : Hp) (p dx : Addr) (l : List Nat), vs = [.ref p, .str (T l)] ∧ Same H0 H ∧ H0 p = none ∧ H p = some (.ins C dx []) ∧ l.length ≤ 20000 ∧
  ((scan l.length l 0).2 = none → ∀ H', Same H0 H' → Rdr K C H' p l (scan l.length l 0).1 0 → Q .non H') ∧ (∀ a, (scan l.length l 0).2 = some a → RaiseUc F l a H0 E)
section
variable {C F : Addr} {fa ff : Addr} {fda fdf : FuncData}
theorem c_cur_initG {f : Addr} {fd : FuncData} (Fn : Fun K "__init__" "Cursor.__init__" s_Cursor_init f fd) (T_Cursor : CurC K mg C) (c_split_tokens : ClX P w K mg base 4 "split_tokens" (spSplitX K F)) : FnOk P w K mg base (L2N.CX P w) 5 f fd ["self", "text"] (spCurInitG K C F) := by
  refine Fn.okN sc_Cursor_init (fun vs H Q E h => ?_) (fun cdv A outer s H vs Q E hr h => ?_)
  · obtain ⟨H0, p, dx, l, rfl, _⟩ := h
    rfl
  obtain ⟨H0, p, dx, l, rfl, s0, p0, h1, hl, q, qe⟩ := h
  refine ⟨_, (pss_cons (ps_fld (pv 0) (pv 1) rfl)
      (pss_cons (ps_fld (pv 0) (pcX c_split_tokens (L2N.takes_of rfl rfl rfl rfl) hr (by decide) (by rfl) (pa_cons (pv 1) pa_nil)) rfl)
      (pss_one (ps_fld (pv 0) pe_int rfl)))), ?_⟩
  refine ⟨_, rfl, _, rfl, p, C, dx, [], rfl, h1, T_Cursor.cl, T_Cursor.nT, (by show 0 < 1000; decide), ?_⟩
  have e1 : SameX p H (upd H p (.ins C dx (putF "text" (.str (T l)) []))) := SameX.at _
  have s1 := SameX.free2 s0 p0 e1
  refine ⟨_, rfl, l, (scan l.length l 0).1, (scan l.length l 0).2, rfl, hl, rfl, fun hn g H1 s2 d1 => ?_, fun a ha d H' s2 hd hx => qe a ha d H' (s1.trans s2) (Same.free s1 hd) hx⟩
  refine ⟨_, rfl, p, C, dx, _, rfl, s2 _ _ upd_same, T_Cursor.cl, T_Cursor.nK, (by show 1 < 1000; decide), _, rfl, p, C, dx, _, rfl, upd_same, T_Cursor.cl, T_Cursor.nA, (by show 2 < 1000; decide), ?_⟩
  show Q .non _
  rw [upd_upd, cf_make]
  have e2 : SameX p H1 (upd H1 p (.ins C dx (cf (T l) g 0))) := SameX.at _
  have kt := KT.xi (K := K) (s2 _ _ upd_same) e2
  have hT : ∀ d ∈ tksD l (scan l.length l 0).1, TupN 2 d := fun d hd => by
    rcases List.mem_append.mp hd with hd | hd
    · obtain ⟨t', _, rfl⟩ := List.mem_map.mp hd
      exact tkN t'
    · rw [List.mem_singleton.mp hd]
      exact endN _
  obtain ⟨_, vs, eg, hs, hd⟩ := dp_tup d1
  cases eg
  refine q hn _ ?_ ⟨⟨⟨dx, g, vs, upd_same, kt _ _ hs, DpAll.kt kt hT hd⟩, hT⟩, okW hl, Nat.zero_le _⟩
  have s3 : SameX p H H1 := fun b o n e => s2 _ _ ((upd_ne n).trans e)
  exact SameX.free2 s0 p0 (s3.trans e2)
/-- nothing but one form -/
def rWhole {α : Type} (f : List Tk → Nat → R α) (W : List Tk) : R α := (f W 0).bind fun x j => if W.length ≤ j then .ok x j else .er j (Str.ofString "expected the end")
def spWholeX {α : Type} (K : PySem.W.Frag) (F g : Addr) (f : List Tk → Nat → R α) (tr : α → PyData) : Sp := fun vs H Q E => ∃ (l : List Nat), vs = [.str (T l), .ref g] ∧ l.length ≤ 20000 ∧ OutR K F l H Q E tr (rWhole f (scan l.length l 0).1)
/-- reading a text -/
def spTxX {α : Type} (K : PySem.W.Frag) (F : Addr) (f : List Tk → R α) (tr : α → PyData) : Sp := fun vs H Q E => ∃ (l : List Nat), vs = [.str (T l)] ∧ l.length ≤ 20000 ∧ OutR K F l H Q E tr (f (scan l.length l 0).1)
/-- the class Cursor, made of a text -/
structure MkX (P : Program) (w : World) (K : PySem.W.Frag) (mg : Str → Option Value) (base : Heap) (k : Nat) (C : Addr) (f : Addr) (fd : FuncData) (ps : List Str) (sp : Sp) : Prop where
  F : FnOk P w K mg base (L2N.CX P w) k f fd ps sp
  M : Mk K C f
  b : Binds K fd ps []
theorem PostR.whole {α : Type} {l : List Nat} {W : List Tk} {p : Addr} {H H1 : Hp} {Q : VK} {E : XK} {tr : α → PyData} {r : R α} (s1 : Same H H1) (hx : H p = none) (q : match r with
    | .ok x _ => ∀ v H', Same H H' → Dp K H' v (tr x) → Q v H'
    | .er e m => ∀ d H', Same H H' → H d = none → H' d = some (.xd (erF l W e m)) → E (.ref F) (some d) H') : PostR K C F l W p H1 Q E tr r := by
  cases r with
  | ok x j => exact fun v H' e _ d => q v H' (SameX.free2 s1 hx e) d
  | er e m => exact fun d H' e' hd hd' => q d H' (SameX.free2 s1 hx e') (Same.free s1 hd) hd'
theorem c_read_wholeX {α : Type} {fr : List Tk → Nat → R α} {tr : α → PyData} {k : Nat} (hk : 6 ≤ k) {f g fi : Addr} {fd gfd fdi : FuncData} {gps : List Str} (D : Df K mg "_read_whole" s_read_whole f fd ["text", "form"]) (T_Cursor : CurC K mg C) (c_Cursor : MkX P w K mg base 5 C fi fdi ["self", "text"] (spCurInitG K C F))
    (c_Cursor_at_end : Mt P w K mg base 1 C "at_end" fa fda ["self"] (spAtEnd K C)) (c_Cursor_fail : MtX P w K mg base 4 C "fail" ff fdf ["self", "reason"] (spFailX K C F)) (c_op : FxX P w K mg base k g gfd gps (spFmX K C F fr tr)) : ClX P w K mg base (k + 1) "_read_whole" (spWholeX K F g fr tr) := by
  refine D.clX sc_read_whole (fun vs H Q E h => ?_) (fun cdv A outer s H vs Q E hr h => ?_)
  · obtain ⟨l, rfl, _⟩ := h
    rfl
  obtain ⟨l, rfl, hl, q⟩ := h
  refine ⟨_, (pss_cons (ps_set (i := 2) sc_read_whole.nd rfl (.inl rfl) (pe_make c_Cursor.M c_Cursor.F (hr.mono (by first | decide | omega)) (by rfl) T_Cursor.mgC c_Cursor.b .nil (passE rfl rfl rfl rfl) (pa_cons (pv 0) pa_nil)))
      (pss_cons (ps_set (i := 3) sc_read_whole.nd rfl (.inl rfl) (pe_callL (i := 1) c_op.F (hr.mono (by first | decide | omega)) rfl (.inl rfl) c_op.k c_op.b .nil (passE rfl rfl rfl rfl) (pa_cons (pv 2) pa_nil)))
      (pss_cons (ps_if (pt_not (pt_val (pe_meth0 (pv 2) T_Cursor.cl c_Cursor_at_end.M c_Cursor_at_end.F (hr.mono (by first | decide | omega)) c_Cursor_at_end.b .nil pass0))) (pss_one (ps_expr (pe_meth (pv 2) T_Cursor.cl c_Cursor_fail.M c_Cursor_fail.F (hr.mono (by first | decide | omega)) c_Cursor_fail.b .nil (passE rfl rfl rfl rfl) (pa_cons pe_str pa_nil)))) pss_nil)
      (pss_one (ps_ret (pv 3)))))), ?_⟩
  refine ⟨_, rfl, fun x dx hx hdx hne => ⟨H, x, dx, l, rfl, fun b o e => ?_, hx, upd_same, hl, fun hn H1 s1 c1 => ⟨rfl, ?_⟩, fun a ha => ?_⟩⟩
  · rw [upd_ne (ne_of_none e hx), upd_ne (ne_of_none e hdx)]
    exact e
  · unfold OutR at q
    rw [hn] at q
    have q : PostR K C F l (scan l.length l 0).1 x H1 Q E tr (rWhole fr (scan l.length l 0).1) := PostR.whole s1 hx q
    unfold rWhole at q
    refine ⟨rfl, _, rfl, x, l, _, 0, rfl, c1, q.call fun y j v H2 e2 c2 d2 q2 => ?_⟩
    refine rd_at_end rfl c2 ?_
    split at q2
    · next h =>
      rw [decide_eq_true h]
      exact ⟨_, rfl, iteF ⟨_, rfl, q2.fin (SameX.refl _ _) c2 d2⟩⟩
    · next h =>
      rw [decide_eq_false h]
      exact ⟨_, rfl, iteT (rd_fail rfl c2 (fun Z z => z) q2)⟩
  · unfold OutR at q
    rw [ha] at q
    exact q
theorem c_read_conceptX {k : Nat} {f g : Addr} {fd gfd : FuncData} (D : Df K mg "read_concept" s_read_concept f fd ["text"]) (D_concept : Df K mg "concept" s_concept g gfd ["cursor"]) (c_read_whole : ClX P w K mg base k "_read_whole" (spWholeX K F g (fun W => rConcept (wdW W) W.length) Con.D)) : ClX P w K mg base (k + 1) "read_concept" (spTxX K F (rWhole fun W => rConcept (wdW W) W.length) Con.D) := by
  refine D.clX sc_read_concept (fun vs H Q E h => ?_) (fun cdv A outer s H vs Q E hr h => ?_)
  · obtain ⟨l, rfl, _⟩ := h
    rfl
  obtain ⟨l, rfl, hl, q⟩ := h
  refine ⟨_, (pss_one (ps_ret (pcX c_read_whole (L2N.takes_of rfl rfl rfl rfl) hr (by first | decide | omega) (by rfl) (pa_cons (pv 0) (pa_cons (pe_glob (v := .ref _) (by rfl) D_concept.mgf rfl) pa_nil))))), ?_⟩
  exact ⟨_, rfl, l, rfl, hl, q⟩
theorem c_read_statementX {k : Nat} {f g : Addr} {fd gfd : FuncData} (D : Df K mg "read_statement" s_read_statement f fd ["text"]) (D_statement : Df K mg "statement" s_statement g gfd ["cursor"]) (c_read_whole : ClX P w K mg base k "_read_whole" (spWholeX K F g (fun W => rStm (wdW W) W.length) Stm.D)) : ClX P w K mg base (k + 1) "read_statement" (spTxX K F (rWhole fun W => rStm (wdW W) W.length) Stm.D) := by
  refine D.clX sc_read_statement (fun vs H Q E h => ?_) (fun cdv A outer s H vs Q E hr h => ?_)
  · obtain ⟨l, rfl, _⟩ := h
    rfl
  obtain ⟨l, rfl, hl, q⟩ := h
  refine ⟨_, (pss_one (ps_ret (pcX c_read_whole (L2N.takes_of rfl rfl rfl rfl) hr (by first | decide | omega) (by rfl) (pa_cons (pv 0) (pa_cons (pe_glob (v := .ref _) (by rfl) D_statement.mgf rfl) pa_nil))))), ?_⟩
  exact ⟨_, rfl, l, rfl, hl, q⟩
end
end
end Pf
namespace Pf
open PySem PySem.Spec PyProof.Rows L2
section
variable {P : Program} {w : World} {K : PySem.W.Frag} {mg : Str → Option Value} {base : Heap}
/-! how a concept is written: strength, how many levels, tokens -/
def rolW (r : Rol) : List (List Nat) := if r.2 then [lit "inverse", r.1] else [r.1]
inductive Lo : Con → Nat → Nat → List (List Nat) → Prop
  | any : Lo .any 3 0 [lit "anything"]
  | nothing : Lo .nothing 3 0 [lit "nothing"]
  | name {s} : isNm s = true → s.length ≤ 1000 → Lo (.name s) 3 0 [s]
  | not {c m t} : Lo c 3 m t → Lo (.not c) 3 (m + 1) (lit "not" :: t)
  | some {r c m t} : isNm r.1 = true → r.1.length ≤ 1000 → Lo c 3 m t → Lo (.some r c) 3 (m + 1) (lit "some" :: (rolW r ++ t))
  | all {r c m t} : isNm r.1 = true → r.1.length ≤ 1000 → Lo c 3 m t → Lo (.all r c) 3 (m + 1) (lit "all" :: (rolW r ++ t))
  | both {c d k k' m m' t t'} : Lo c k m t → 2 ≤ k → Lo d k' m' t' → 3 ≤ k' → Lo (.both c d) 2 (max m m') (t ++ lit "and" :: t')
  | either {c d k k' m m' t t'} : Lo c k m t → 1 ≤ k → Lo d k' m' t' → 2 ≤ k' → Lo (.either c d) 1 (max m m') (t ++ lit "or" :: t')
  | par {c k m t} : Lo c k m t → Lo c 3 (m + 1) (lit "(" :: (t ++ [lit ")"]))
inductive Ch (Op : Con → Nat → List (List Nat) → Prop) (wd : List Nat) (mk : Con → Con → Con) : Con → Nat → List (List Nat) → Prop
  | one {c m t} : Op c m t → Ch Op wd mk c m t
  | more {c m t d m' t'} : Ch Op wd mk c m t → Op d m' t' → Ch Op wd mk (mk c d) (max m m') (t ++ wd :: t')
abbrev LoF (c : Con) (m : Nat) (t : List (List Nat)) : Prop := Lo c 3 m t
abbrev LoB : Con → Nat → List (List Nat) → Prop := Ch LoF (lit "and") .both
abbrev LoA : Con → Nat → List (List Nat) → Prop := Ch LoB (lit "or") .either
theorem Lo.k {c : Con} {k m : Nat} {t : List (List Nat)} (h : Lo c k m t) : 1 ≤ k ∧ k ≤ 3 := by cases h <;> exact ⟨by decide, by decide⟩
theorem Lo.b {c : Con} {k m : Nat} {t : List (List Nat)} (h : Lo c k m t) (hk : 2 ≤ k) : LoB c m t := by
  induction h with
  | any => exact .one .any
  | nothing => exact .one .nothing
  | name a b => exact .one (.name a b)
  | not a => exact .one (.not a)
  | some a b c => exact .one (.some a b c)
  | all a b c => exact .one (.all a b c)
  | par a => exact .one (.par a)
  | both a ha b hb iha ihb =>
    have := b.k
    obtain rfl : _ = 3 := Nat.le_antisymm this.2 hb
    exact .more (iha ha) b
  | either a ha b hb iha ihb => exact absurd hk (by decide)
theorem Lo.a {c : Con} {k m : Nat} {t : List (List Nat)} (h : Lo c k m t) : LoA c m t := by
  induction h with
  | any => exact .one (.one .any)
  | nothing => exact .one (.one .nothing)
  | name a b => exact .one (.one (.name a b))
  | not a => exact .one (.one (.not a))
  | some a b c => exact .one (.one (.some a b c))
  | all a b c => exact .one (.one (.all a b c))
  | par a => exact .one (.one (.par a))
  | both a ha b hb iha ihb => exact .one ((Lo.both a ha b hb).b (Nat.le_refl 2))
  | either a ha b hb iha ihb => exact .more iha (b.b hb)
def restT (wd : List Nat) (L : List (Con × Nat × List (List Nat))) : List (List Nat) := (L.map fun x => wd :: x.2.2).flatten
theorem Ch.list {Op : Con → Nat → List (List Nat) → Prop} {wd : List Nat} {mk : Con → Con → Con} {c : Con} {m : Nat} {t : List (List Nat)} (h : Ch Op wd mk c m t) :
    ∃ c0 m0 t0 L, Op c0 m0 t0 ∧ (∀ x ∈ L, Op x.1 x.2.1 x.2.2 ∧ x.2.1 ≤ m) ∧ m0 ≤ m ∧ c = L.foldl (fun a x => mk a x.1) c0 ∧ t = t0 ++ restT wd L := by
  induction h with
  | @one c m t a => exact ⟨c, m, t, [], a, fun x hx => by simp at hx, Nat.le_refl _, rfl, by simp [restT]⟩
  | @more c m t d m' t' a b ih =>
    obtain ⟨c0, m0, t0, L, h1, h2, h3, h4, h5⟩ := ih
    refine ⟨c0, m0, t0, L ++ [(d, m', t')], h1, fun x hx => ?_, Nat.le_trans h3 (Nat.le_max_left ..), by rw [List.foldl_append, ← h4]; rfl, by rw [h5]; simp [restT]⟩
    rcases List.mem_append.mp hx with hx | hx
    · exact ⟨(h2 x hx).1, Nat.le_trans (h2 x hx).2 (Nat.le_max_left ..)⟩
    · rw [List.mem_singleton.mp hx]
      exact ⟨b, Nat.le_max_right ..⟩
/-! what is written is read -/
def WAt (wd : Nat → List Nat) (i : Nat) (ts : List (List Nat)) : Prop := ∀ j x, ts[j]? = some x → wd (i + j) = x
section
variable {wd : Nat → List Nat} {N : Nat}
theorem WAt.head {i : Nat} {x : List Nat} {ts : List (List Nat)} (h : WAt wd i (x :: ts)) : wd i = x := h 0 x rfl
theorem WAt.tail {i : Nat} {x : List Nat} {ts : List (List Nat)} (h : WAt wd i (x :: ts)) : WAt wd (i + 1) ts := fun j y hy => by
  have := h (j + 1) y hy
  rw [show i + (j + 1) = i + 1 + j by omega] at this
  exact this
theorem WAt.left {i : Nat} {a b : List (List Nat)} (h : WAt wd i (a ++ b)) : WAt wd i a := fun j y hy => h j y (by rw [List.getElem?_append_left (List.getElem?_eq_some_iff.mp hy).1]; exact hy)
theorem WAt.right {i : Nat} {a b : List (List Nat)} (h : WAt wd i (a ++ b)) : WAt wd (i + a.length) b := fun j y hy => by
  have := h (a.length + j) y (by rw [List.getElem?_append_right (by omega), show a.length + j - a.length = j by omega]; exact hy)
  rw [show i + (a.length + j) = i + a.length + j by omega] at this
  exact this
theorem nm_lit {x : List Nat} {s : String} (h : isNm x = true) (hs : isNm (lit s) = false := by decide +kernel) : ¬ x = lit s := fun e => by rw [e, hs] at h; cases h
theorem role_at {r : Rol} {i : Nat} (hn : isNm r.1 = true) (h : WAt wd i (rolW r)) : rRole wd i = .ok r (i + (rolW r).length) := by
  obtain ⟨s, b⟩ := r
  unfold rRole rTake
  cases b with
  | true =>
    have h : WAt wd i [lit "inverse", s] := h
    have e1 : wd (i + 1) = s := h.tail.head
    rw [if_pos h.head, e1, if_pos hn]
    rfl
  | false =>
    have h : WAt wd i [s] := h
    rw [h.head, if_neg (nm_lit hn), if_pos hn]
    rfl
/-- operands with a word between each two of them -/
theorem chainL_at {op : Nat → R Con} {Op : Con → Nat → List (List Nat) → Prop} {x : List Nat} {mk : Con → Con → Con} {m : Nat} (Fo : Nat → Prop) (hF : ∀ j, wd j = x → Fo j)
    (hop : ∀ c k t i, Op c k t → k ≤ m → WAt wd i t → i + t.length ≤ N → Fo (i + t.length) → op i = .ok c (i + t.length)) :
    ∀ (L : List (Con × Nat × List (List Nat))) (n : Nat) (c : Con) (j : Nat), (∀ y ∈ L, Op y.1 y.2.1 y.2.2 ∧ y.2.1 ≤ m) → WAt wd j (restT x L) → j + (restT x L).length ≤ N → L.length ≤ n → Fo (j + (restT x L).length) → ¬ wd (j + (restT x L).length) = x →
      rChainL wd op x mk n c j = .ok (L.foldl (fun a y => mk a y.1) c) (j + (restT x L).length)
  | [], n, c, j, _, _, _, _, _, hx => by
    have hx : ¬ wd j = x := hx
    cases n with
    | zero => rfl
    | succ n =>
      unfold rChainL
      rw [if_neg hx]
      rfl
  | (d, k, t) :: L, n, c, j, hL, hw, hN, hn, hf, hx => by
    cases n with
    | zero => exact absurd hn (by rw [List.length_cons]; omega)
    | succ n =>
      have e : restT x ((d, k, t) :: L) = x :: (t ++ restT x L) := rfl
      rw [e] at hw hN hf hx ⊢
      have hl : (x :: (t ++ restT x L)).length = 1 + t.length + (restT x L).length := by
        rw [List.length_cons, List.length_append]
        omega
      rw [hl] at hN hf hx ⊢
      have hw1 := hw.tail.left
      have hw2 := hw.tail.right
      have hd := hL _ (List.mem_cons_self ..)
      have hfo : Fo (j + 1 + t.length) := by
        cases L with
        | nil =>
          have : restT x [] = [] := rfl
          rw [this] at hf
          rw [show j + 1 + t.length = j + (1 + t.length + ([] : List (List Nat)).length) by rw [List.length_nil]; omega]
          exact hf
        | cons y L => exact hF _ (WAt.head (x := x) (ts := y.2.2 ++ restT x L) hw2)
      unfold rChainL
      rw [if_pos hw.head, hop d k t (j + 1) hd.1 hd.2 hw1 (by omega) hfo, R.bind_ok]
      have := chainL_at (mk := mk) Fo hF hop L n (mk c d) (j + 1 + t.length) (fun y hy => hL y (List.mem_cons_of_mem _ hy)) hw2 (by omega) (by rw [List.length_cons] at hn; omega) (by rw [show j + 1 + t.length + (restT x L).length = j + (1 + t.length + (restT x L).length) by omega]; exact hf) (by rw [show j + 1 + t.length + (restT x L).length = j + (1 + t.length + (restT x L).length) by omega]; exact hx)
      rw [this, show j + 1 + t.length + (restT x L).length = j + (1 + t.length + (restT x L).length) by omega]
      rfl
theorem rest_len (x : List Nat) : ∀ L : List (Con × Nat × List (List Nat)), L.length ≤ (restT x L).length
  | [] => Nat.zero_le _
  | (d, k, t) :: L => by
    have e : restT x ((d, k, t) :: L) = x :: (t ++ restT x L) := rfl
    have := rest_len x L
    rw [e, List.length_cons, List.length_cons, List.length_append]
    omega
theorem chain_at {op : Nat → R Con} {Op : Con → Nat → List (List Nat) → Prop} {x : List Nat} {mk : Con → Con → Con} {m r : Nat} {c : Con} {ts : List (List Nat)} {i : Nat} (Fo : Nat → Prop) (hF : ∀ j, wd j = x → Fo j) (hm : m ≤ r)
    (hop : ∀ c k t i, Op c k t → k ≤ r → WAt wd i t → i + t.length ≤ N → Fo (i + t.length) → op i = .ok c (i + t.length)) (h : Ch Op x mk c m ts) (hw : WAt wd i ts) (hN : i + ts.length ≤ N) (hf : Fo (i + ts.length)) (hx : ¬ wd (i + ts.length) = x) : rChain wd N op x mk i = .ok c (i + ts.length) := by
  obtain ⟨c0, m0, t0, L, h1, h2, h3, rfl, rfl⟩ := h.list
  rw [List.length_append] at hN hf hx ⊢
  unfold rChain
  have hfo : Fo (i + t0.length) := by
    cases L with
    | nil =>
      have : restT x [] = [] := rfl
      rw [this] at hf
      exact hf
    | cons y L => exact hF _ (WAt.head (x := x) (ts := y.2.2 ++ restT x L) hw.right)
  rw [hop c0 m0 t0 i h1 (by omega) hw.left (by omega) hfo, R.bind_ok]
  have hl := rest_len x L
  have := chainL_at (mk := mk) Fo hF hop L (N + 1) c0 (i + t0.length) (fun y hy => ⟨(h2 y hy).1, Nat.le_trans (h2 y hy).2 hm⟩) hw.right (by omega) (by omega) (by rw [show i + t0.length + (restT x L).length = i + (t0.length + (restT x L).length) by omega]; exact hf) (by rw [show i + t0.length + (restT x L).length = i + (t0.length + (restT x L).length) by omega]; exact hx)
  rw [this, show i + t0.length + (restT x L).length = i + (t0.length + (restT x L).length) by omega]
theorem alt_at {r : Nat} (hfr : ∀ c m t i, Lo c 3 m t → m ≤ r → WAt wd i t → i + t.length ≤ N → rFront wd N r i = .ok c (i + t.length)) {c : Con} {k m : Nat} {ts : List (List Nat)} {i : Nat} (h : Lo c k m ts) (hm : m ≤ r) (hw : WAt wd i ts) (hN : i + ts.length ≤ N) (ha : ¬ wd (i + ts.length) = lit "and") (ho : ¬ wd (i + ts.length) = lit "or") :
    rAlt wd N (rFront wd N r) i = .ok c (i + ts.length) := by
  refine chain_at (fun j => ¬ wd j = lit "and") (fun j e => by rw [e]; decide +kernel) hm (fun c k t i h hk hw hN hf => ?_) h.a hw hN ha ho
  exact chain_at (fun _ => True) (fun _ _ => trivial) hk (fun c k t i h hk hw hN _ => hfr c k t i h hk hw hN) h hw hN trivial hf
theorem front_at : ∀ (r : Nat) (c : Con) (m : Nat) (t : List (List Nat)) (i : Nat), Lo c 3 m t → m ≤ r → WAt wd i t → i + t.length ≤ N → rFront wd N r i = .ok c (i + t.length) := by
  have base : ∀ (b : Bool) (f : Nat → R Con) (c : Con) (t : List (List Nat)) (i : Nat), (c = .any ∧ t = [lit "anything"] ∨ c = .nothing ∧ t = [lit "nothing"] ∨ ∃ s, c = .name s ∧ t = [s] ∧ isNm s = true) → WAt wd i t → rFrontG wd N b f i = .ok c (i + t.length) := fun b f c t i h hw => by
    rcases h with ⟨rfl, rfl⟩ | ⟨rfl, rfl⟩ | ⟨s, rfl, rfl, hs⟩
    · have e := hw.head
      unfold rFrontG rAtom
      rw [e, if_neg (by decide +kernel), if_neg (by decide +kernel), if_neg (by decide +kernel), if_neg (by decide +kernel), if_neg (by decide +kernel), if_pos rfl]
      rfl
    · have e := hw.head
      unfold rFrontG rAtom
      rw [e, if_neg (by decide +kernel), if_neg (by decide +kernel), if_neg (by decide +kernel), if_neg (by decide +kernel), if_neg (by decide +kernel), if_neg (by decide +kernel), if_pos rfl]
      rfl
    · have e := hw.head
      unfold rFrontG rAtom
      rw [e, if_neg (nm_lit hs), if_neg (nm_lit hs), if_neg (nm_lit hs), if_neg (nm_lit hs), if_pos hs]
      rfl
  have main : ∀ (r : Nat), (∀ s, s < r → ∀ (c : Con) (m : Nat) (t : List (List Nat)) (i : Nat), Lo c 3 m t → m ≤ s → WAt wd i t → i + t.length ≤ N → rFront wd N s i = .ok c (i + t.length)) → ∀ (c : Con) (m : Nat) (t : List (List Nat)) (i : Nat), Lo c 3 m t → m ≤ r → WAt wd i t → i + t.length ≤ N → rFront wd N r i = .ok c (i + t.length) := fun r ih c m t i h hm hw hN => by
    have e0 : ∃ b f, rFront wd N r = rFrontG wd N b f := by
      cases r with
      | zero => exact ⟨_, _, rfl⟩
      | succ r => exact ⟨_, _, rfl⟩
    cases h with
    | any => obtain ⟨b, f, e⟩ := e0; rw [e]; exact base b f _ _ i (.inl ⟨rfl, rfl⟩) hw
    | nothing => obtain ⟨b, f, e⟩ := e0; rw [e]; exact base b f _ _ i (.inr (.inl ⟨rfl, rfl⟩)) hw
    | name hs _ => obtain ⟨b, f, e⟩ := e0; rw [e]; exact base b f _ _ i (.inr (.inr ⟨_, rfl, rfl, hs⟩)) hw
    | @not c m t h =>
      cases r with
      | zero => exact absurd hm (by omega)
      | succ r =>
        show rFrontG wd N true (rFront wd N r) i = _
        unfold rFrontG
        rw [List.length_cons] at hN ⊢
        rw [if_pos hw.head, rStep, if_pos rfl, R.bind_ok, ih r (Nat.lt_succ_self r) c m t (i + 1) h (by omega) hw.tail (by omega), R.bind_ok, show i + 1 + t.length = i + (t.length + 1) by omega]
    | @some ro c m t hn hl h =>
      cases r with
      | zero => exact absurd hm (by omega)
      | succ r =>
        show rFrontG wd N true (rFront wd N r) i = _
        unfold rFrontG
        rw [List.length_cons, List.length_append] at hN ⊢
        rw [hw.head, if_neg (by decide +kernel), if_pos rfl, rStep, if_pos rfl, R.bind_ok, role_at hn hw.tail.left, R.bind_ok, ih r (Nat.lt_succ_self r) c m t _ h (by omega) hw.tail.right (by omega), R.bind_ok, show i + 1 + (rolW ro).length + t.length = i + ((rolW ro).length + t.length + 1) by omega]
    | @all ro c m t hn hl h =>
      cases r with
      | zero => exact absurd hm (by omega)
      | succ r =>
        show rFrontG wd N true (rFront wd N r) i = _
        unfold rFrontG
        rw [List.length_cons, List.length_append] at hN ⊢
        rw [hw.head, if_neg (by decide +kernel), if_neg (by decide +kernel), if_pos rfl, rStep, if_pos rfl, R.bind_ok, role_at hn hw.tail.left, R.bind_ok, ih r (Nat.lt_succ_self r) c m t _ h (by omega) hw.tail.right (by omega), R.bind_ok, show i + 1 + (rolW ro).length + t.length = i + ((rolW ro).length + t.length + 1) by omega]
    | @par c k m t h =>
      cases r with
      | zero => exact absurd hm (by omega)
      | succ r =>
        show rFrontG wd N true (rFront wd N r) i = _
        have hz : wd (i + 1 + t.length) = lit ")" := hw.tail.right.head
        unfold rFrontG rAtom
        rw [List.length_cons, List.length_append, List.length_singleton] at hN ⊢
        rw [hw.head, if_neg (by decide +kernel), if_neg (by decide +kernel), if_neg (by decide +kernel), if_pos rfl, rStep, if_pos rfl, R.bind_ok, alt_at (fun c m t i => ih r (Nat.lt_succ_self r) c m t i) h (by omega) hw.tail.left (by omega) (by rw [hz]; decide +kernel) (by rw [hz]; decide +kernel), R.bind_ok, rExp, if_pos hz, R.bind_ok, show i + 1 + t.length + 1 = i + (t.length + 1 + 1) by omega]
  intro r
  induction r using Nat.strongRecOn with
  | ind r ih => exact main r ih
/-- a concept is read, if it is not too high -/
theorem concept_at {c : Con} {k m : Nat} {ts : List (List Nat)} {i : Nat} (h : Lo c k m ts) (hm : m ≤ 8) (hw : WAt wd i ts) (hN : i + ts.length ≤ N) (ha : ¬ wd (i + ts.length) = lit "and") (ho : ¬ wd (i + ts.length) = lit "or") :
    rConcept wd N i = if 12 < c.dp then .er (i + ts.length) (Str.ofString "too many operators") else .ok c (i + ts.length) := by
  unfold rConcept
  rw [alt_at (fun c m t i => front_at 8 c m t i) h hm hw hN ha ho, R.bind_ok]
end
/-! the law's spelling, by lists of codes -/
theorem scan_fuel : ∀ (n m : Nat) (l : List Nat) (a : Nat), l.length ≤ n → l.length ≤ m → scan n l a = scan m l a
  | 0, 0, _, _, _, _ => rfl
  | 0, m + 1, [], _, _, _ => rfl
  | 0, _ + 1, _ :: _, _, h, _ => by simp at h
  | n + 1, 0, [], _, _, _ => rfl
  | _ + 1, 0, _ :: _, _, _, h => by simp at h
  | n + 1, m + 1, [], _, _, _ => rfl
  | n + 1, m + 1, c :: r, a, h1, h2 => by
    have k1 : r.length ≤ n := Nat.le_of_succ_le_succ h1
    have k2 : r.length ≤ m := Nat.le_of_succ_le_succ h2
    have d : ∀ k, (r.drop k).length ≤ r.length := fun k => by rw [List.length_drop]; omega
    unfold scan
    rw [scan_fuel n m r (a + 1) k1 k2, scan_fuel n m (r.drop (behind 10 r)) _ (Nat.le_trans (d _) k1) (Nat.le_trans (d _) k2), scan_fuel n m (r.drop (r.takeWhile isW).length) _ (Nat.le_trans (d _) k1) (Nat.le_trans (d _) k2)]
/-- the tokens of what is left -/
def scanT (l : List Nat) (a : Nat) : List Tk × Option Nat := scan l.length l a
theorem scanT_eq {n : Nat} {l : List Nat} {a : Nat} (h : l.length ≤ n) : scan n l a = scanT l a := scan_fuel n l.length l a h (Nat.le_refl _)
theorem scanT_cons (c : Nat) (r : List Nat) (a : Nat) : scanT (c :: r) a =
    if isB c then scanT r (a + 1)
    else if c = 35 then scanT (r.drop (behind 10 r)) (a + 1 + behind 10 r)
    else if isS c then (⟨false, [c], a⟩ :: (scanT r (a + 1)).1, (scanT r (a + 1)).2)
    else if isL c && decide ((r.takeWhile isW).length < 20) then
      (⟨true, c :: r.take (r.takeWhile isW).length, a⟩ :: (scanT (r.drop (r.takeWhile isW).length) (a + 1 + (r.takeWhile isW).length)).1, (scanT (r.drop (r.takeWhile isW).length) (a + 1 + (r.takeWhile isW).length)).2)
    else ([], some a) := by
  have d : ∀ k, (r.drop k).length ≤ r.length := fun k => by rw [List.length_drop]; omega
  show scan (r.length + 1) (c :: r) a = _
  unfold scan
  rw [scanT_eq (Nat.le_refl _), scanT_eq (d _), scanT_eq (d _)]
theorem isB_mem {c : Nat} (h : isB c = true) : c = 32 ∨ c = 10 := by
  have e : K_BLANKS.cps.toList = [32, 10] := by decide +kernel
  unfold isB at h
  rw [e] at h
  simpa using of_decide_eq_true h
theorem isS_mem {c : Nat} (h : isS c = true) : c ∈ [40, 41, 59, 44, 58] := by
  have e : K_SIGNS.cps.toList = [40, 41, 59, 44, 58] := by decide +kernel
  unfold isS at h
  rw [e] at h
  exact of_decide_eq_true h
theorem blank_noW {c : Nat} (h : isB c = true) : isW c = false := by
  rcases isB_mem h with rfl | rfl <;> decide +kernel
theorem hash_noW : isW 35 = false := by decide +kernel
theorem sign_noW : ∀ {c : Nat}, isS c = true → isW c = false ∧ isB c = false ∧ c ≠ 35 := by
  have k : ∀ c ∈ [40, 41, 59, 44, 58], isW c = false ∧ isB c = false ∧ c ≠ 35 := by decide +kernel
  exact fun {c} h => k _ (isS_mem h)
theorem letter_no : ∀ {c : Nat}, isL c = true → isB c = false ∧ c ≠ 35 ∧ isS c = false := by
  have k : ∀ c ∈ K_LETTERS.cps.toList, isB c = false ∧ c ≠ 35 ∧ isS c = false := by decide +kernel
  exact fun {c} h => k _ (of_decide_eq_true h)
/-- what is passed over between tokens -/
structure GapP (g : List Nat) : Prop where
  pass : ∀ (r : List Nat) (a : Nat), scanT (g ++ r) a = scanT r (a + g.length)
  head : ∀ (c : Nat) (r : List Nat), g = c :: r → isW c = false
theorem gap_blank : ∀ {g : List Nat}, g.all isB = true → GapP g
  | [], _ => ⟨fun r a => rfl, fun c r h => nomatch h⟩
  | c :: g, h => by
    rw [List.all_cons, Bool.and_eq_true] at h
    refine ⟨fun r a => ?_, fun c' r e => ?_⟩
    · rw [List.cons_append, scanT_cons, if_pos h.1, (gap_blank h.2).pass, List.length_cons]
      congr 1
      omega
    · cases e
      exact blank_noW h.1
theorem behind_app (c : Nat) : ∀ {a b : List Nat}, c ∉ a → behind c (a ++ c :: b) = a.length
  | [], b, _ => by rw [List.nil_append, behind_cons, if_pos rfl]; rfl
  | x :: a, b, h => by
    rw [List.cons_append, behind_cons, if_neg (fun e => h (by rw [e]; exact List.mem_cons_self ..)), behind_app c fun m => h (List.mem_cons_of_mem _ m)]
    rfl
theorem gap_comment {cs : List Nat} (h : 10 ∉ cs) : GapP (35 :: cs ++ [10]) := by
  refine ⟨fun r a => ?_, fun c r e => ?_⟩
  · have e : (35 :: cs ++ [10]) ++ r = 35 :: (cs ++ 10 :: r) := by simp
    rw [e, scanT_cons, if_neg (by decide +kernel), if_pos rfl, behind_app 10 h, List.drop_left, scanT_cons, if_pos (by decide +kernel)]
    congr 1
    simp
    omega
  · cases e
    exact hash_noW
def wordB : List Nat → Bool
  | c :: w => isL c && w.all isW && decide (w.length < 20)
  | [] => false
def signB : List Nat → Bool
  | [c] => isS c
  | _ => false
theorem takeWhile_app {p : Nat → Bool} : ∀ {a b : List Nat}, a.all p = true → (∀ c r, b = c :: r → p c = false) → (a ++ b).takeWhile p = a
  | [], [], _, _ => rfl
  | [], c :: r, _, h => by
    rw [List.nil_append, List.takeWhile_cons, h c r rfl]
    rfl
  | x :: a, b, ha, h => by
    rw [List.all_cons, Bool.and_eq_true] at ha
    rw [List.cons_append, List.takeWhile_cons, ha.1, takeWhile_app ha.2 h]
    rfl
theorem scan_word {w r : List Nat} {a : Nat} (h : wordB w = true) (hr : ∀ c t, r = c :: t → isW c = false) : scanT (w ++ r) a = (⟨true, w, a⟩ :: (scanT r (a + w.length)).1, (scanT r (a + w.length)).2) := by
  cases w with
  | nil => exact absurd h (by decide)
  | cons c w =>
    unfold wordB at h
    rw [Bool.and_eq_true, Bool.and_eq_true] at h
    obtain ⟨⟨h1, h2⟩, h3⟩ := h
    obtain ⟨n1, n2, n3⟩ := letter_no h1
    have e : (w ++ r).takeWhile isW = w := takeWhile_app h2 hr
    rw [List.cons_append, scanT_cons, if_neg (by rw [n1]; decide), if_neg n2, if_neg (by rw [n3]; decide), e, if_pos (by rw [h1, h3]; rfl), List.take_left, List.drop_left, List.length_cons]
    rw [show a + 1 + w.length = a + (w.length + 1) by omega]
theorem scan_sign {w r : List Nat} {a : Nat} (h : signB w = true) : scanT (w ++ r) a = (⟨false, w, a⟩ :: (scanT r (a + w.length)).1, (scanT r (a + w.length)).2) := by
  match w, h with
  | [c], h =>
    obtain ⟨n1, n2, n3⟩ := sign_noW (c := c) h
    rw [List.cons_append, List.nil_append, scanT_cons, if_neg (by rw [n2]; decide), if_neg n3, if_pos (show isS c = true from h)]
    rfl
/-- rows with what stands behind each -/
def spellT : List (List Nat × List Nat) → List Nat
  | [] => []
  | p :: t => p.1 ++ p.2 ++ spellT t
def tokensOf : List (List Nat × List Nat) → Nat → List Tk
  | [], _ => []
  | p :: t, a => ⟨!signB p.1, p.1, a⟩ :: tokensOf t (a + p.1.length + p.2.length)
def GoodS : List (List Nat × List Nat) → Prop
  | [] => True
  | p :: t => (wordB p.1 = true ∨ signB p.1 = true) ∧ GapP p.2 ∧ (signB p.1 = false → p.2 = [] → ∀ q t', t = q :: t' → signB q.1 = true) ∧ GoodS t
theorem not_both {w : List Nat} (h : wordB w = true) : signB w = false := by
  match w, h with
  | [c], h =>
    show isS c = false
    unfold wordB at h
    rw [Bool.and_eq_true, Bool.and_eq_true] at h
    exact (letter_no h.1.1).2.2
  | _ :: _ :: _, _ => rfl
theorem scan_spell : ∀ {ps : List (List Nat × List Nat)} {a : Nat}, GoodS ps → scanT (spellT ps) a = (tokensOf ps a, none)
  | [], _, _ => rfl
  | p :: t, a, h => by
    obtain ⟨h1, h2, h3, h4⟩ := h
    have ih := scan_spell (ps := t) (a := a + p.1.length + p.2.length) h4
    have e2 : scanT (p.2 ++ spellT t) (a + p.1.length) = (tokensOf t (a + p.1.length + p.2.length), none) := by rw [h2.pass, ih]
    show scanT (p.1 ++ p.2 ++ spellT t) a = (⟨!signB p.1, p.1, a⟩ :: tokensOf t (a + p.1.length + p.2.length), none)
    rw [List.append_assoc]
    rcases h1 with h1 | h1
    · rw [scan_word h1 ?_, e2, not_both h1]
      · rfl
      · intro c r e
        cases hg : p.2 with
        | cons x g =>
          rw [hg] at e
          cases e
          exact h2.head _ _ hg
        | nil =>
          rw [hg, List.nil_append] at e
          cases t with
          | nil => cases e
          | cons q t' =>
            have hq := h3 (not_both h1) hg q t' rfl
            cases hw : q.1 with
            | nil => rw [hw] at hq; exact absurd hq (by decide)
            | cons y ys =>
              have e3 : y = c := by
                have : spellT (q :: t') = q.1 ++ q.2 ++ spellT t' := rfl
                rw [this, hw] at e
                exact (List.cons.inj e).1
              match ys, hw with
              | [], hw =>
                rw [hw] at hq
                rw [← e3]
                exact (sign_noW (c := y) hq).1
              | _ :: _, hw =>
                rw [hw] at hq
                exact Bool.noConfusion hq
    · rw [scan_sign h1, e2, h1]
      rfl
theorem spell_app : ∀ (ps qs : List (List Nat × List Nat)), spellT (ps ++ qs) = spellT ps ++ spellT qs
  | [], _ => rfl
  | p :: t, qs => by
    show p.1 ++ p.2 ++ spellT (t ++ qs) = p.1 ++ p.2 ++ spellT t ++ spellT qs
    rw [spell_app t qs, ← List.append_assoc]
theorem toks_len : ∀ (ps : List (List Nat × List Nat)) (a : Nat), (tokensOf ps a).length = ps.length
  | [], _ => rfl
  | p :: t, a => congrArg Nat.succ (toks_len t _)
end
end Pf
namespace Pf
open PySem PySem.Spec PyProof.Rows L2
section
variable {P : Program} {w : World} {K : PySem.W.Frag} {mg : Str → Option Value} {base : Heap}
abbrev Ps := List (List Nat × List Nat)
def NxT (g : List Nat) (rest : Ps) : Prop := g = [] → ∀ q t', rest = q :: t' → signB q.1 = true
theorem good_word {w g : List Nat} {rest : Ps} (hw : wordB w = true) (hg : GapP g) (hn : NxT g rest) (hr : GoodS rest) : GoodS ((w, g) :: rest) := ⟨.inl hw, hg, fun _ e => hn e, hr⟩
theorem good_sign {w g : List Nat} {rest : Ps} (hw : signB w = true) (hg : GapP g) (hr : GoodS rest) : GoodS ((w, g) :: rest) := ⟨.inr hw, hg, (fun (e : signB w = false) => by rw [hw] at e; cases e), hr⟩
theorem gap0 : GapP [] := gap_blank (by decide)
theorem gap1 : GapP [32] := gap_blank (by decide +kernel)
theorem nx1 {rest : Ps} : NxT [32] rest := fun e => nomatch e
theorem nxS {w g : List Nat} {rest : Ps} (hw : signB w = true) : NxT [] ((w, g) :: rest) := fun _ q t' e => by
  cases e
  exact hw
theorem good_len : ∀ {ps : Ps}, GoodS ps → ps.length ≤ (spellT ps).length
  | [], _ => Nat.le_refl _
  | p :: t, h => by
    obtain ⟨h1, _, _, h4⟩ := h
    have ih := good_len h4
    have : 0 < p.1.length := by
      cases e : p.1 with
      | nil =>
        rw [e] at h1
        rcases h1 with h1 | h1 <;> exact absurd h1 (by decide)
      | cons a b => exact Nat.succ_pos _
    show t.length + 1 ≤ (p.1 ++ p.2 ++ spellT t).length
    rw [List.length_append, List.length_append]
    omega
theorem toks_map : ∀ (ps : Ps) (a : Nat), (tokensOf ps a).map Tk.s = ps.map (·.1)
  | [], _ => rfl
  | p :: t, a => by
    show p.1 :: (tokensOf t _).map Tk.s = p.1 :: t.map (·.1)
    rw [toks_map t]
/-- a text that is spelled by tokens -/
theorem scan_can {l : List Nat} {ps : Ps} (g : GoodS ps) (e : spellT ps = l) : scan l.length l 0 = (tokensOf ps 0, none) ∧ (tokensOf ps 0).length ≤ l.length ∧ (tokensOf ps 0).map Tk.s = ps.map (·.1) := by
  subst e
  exact ⟨scan_spell g, by rw [toks_len]; exact good_len g, toks_map ps 0⟩
/-! tokens that are spelled -/
theorem tokW {ps : Ps} : WAt (wdW (tokensOf ps 0)) 0 (ps.map (·.1)) := fun j x h => by
  rw [Nat.zero_add]
  unfold wdW
  rw [← toks_map ps 0, List.getElem?_map] at h
  cases e : (tokensOf ps 0)[j]? with
  | none => rw [e] at h; cases h
  | some t => rw [e] at h; exact Option.some.inj h
theorem tokW_end {ps : Ps} {j : Nat} (h : ps.length ≤ j) : wdW (tokensOf ps 0) j = [] := wdW_end j (by rw [toks_len]; exact h)
theorem tok_ix : ∀ (ps : Ps) (a j : Nat) (t : Tk), (tokensOf ps a)[j]? = some t → t.i = a + (spellT (ps.take j)).length
  | [], _, _, _, h => by cases h
  | p :: ps, a, 0, t, h => by
    cases h
    rfl
  | p :: ps, a, j + 1, t, h => by
    have := tok_ix ps _ j t h
    rw [this, List.take_succ_cons]
    show _ = a + (p.1 ++ p.2 ++ spellT (ps.take j)).length
    rw [List.length_append, List.length_append]
    omega
/-- the index of a token, or the end -/
theorem tok_of {ps : Ps} {j : Nat} {n : Nat} (hn : n = (spellT ps).length) : ofW n (tokensOf ps 0) j = (spellT (ps.take j)).length := by
  unfold ofW
  by_cases h : j < ps.length
  · have hl : j < (tokensOf ps 0).length := by rw [toks_len]; exact h
    rw [List.getElem?_eq_getElem hl]
    have := tok_ix ps 0 j _ (List.getElem?_eq_getElem hl)
    rw [Nat.zero_add] at this
    exact this
  · rw [List.getElem?_eq_none (by rw [toks_len]; omega), List.take_of_length_le (by omega)]
    exact hn
theorem last_none : ∀ {l : List Nat}, 10 ∉ l → lastAt 10 l = -1
  | [], _ => rfl
  | x :: l, h => by
    unfold lastAt
    rw [last_none (l := l) fun z => h (List.mem_cons_of_mem _ z), if_pos rfl, if_neg (show ¬ x = 10 from fun z => h (by rw [z]; exact List.mem_cons_self))]
theorem line_one {l : List Nat} (h : 10 ∉ l) : lineOf l = 1 := by
  unfold lineOf
  rw [List.count_eq_zero.mpr h]
  rfl
theorem col_of {l : List Nat} (h : 10 ∉ l) : colOf l = (l.length : Int) + 1 := by
  unfold colOf
  rw [last_none h]
  omega
/-- the error of a place in a text of one line -/
theorem er_one {ps : Ps} {e : Nat} {m : Str} (h : 10 ∉ spellT ps) : erF (spellT ps) (tokensOf ps 0) e m = ftF (.int 1) (.int (((spellT (ps.take e)).length : Nat) + 1 : Int)) (.str m) := by
  have hp : spellT (ps.take e) ++ spellT (ps.drop e) = spellT ps := by rw [← spell_app, List.take_append_drop]
  unfold erF
  rw [tok_of rfl]
  have ht : (spellT ps).take (spellT (ps.take e)).length = spellT (ps.take e) := by
    rw [← hp, List.take_left]
  have h' : 10 ∉ spellT (ps.take e) := fun z => h (by rw [← hp]; exact List.mem_append.mpr (.inl z))
  rw [ht, line_one h', col_of h']
/-! what the law writes -/
def opW : Nat → Ps
  | 0 => [(lit "not", [32])]
  | 1 => [(lit "some", [32]), (lit "r", [32])]
  | 2 => [(lit "all", [32]), (lit "inverse", [32]), (lit "r", [32])]
  | _ => [(lit "(", [])]
def opT : Nat → List Nat
  | 0 => lit "not "
  | 1 => lit "some r "
  | 2 => lit "all inverse r "
  | _ => lit "("
theorem opW_spell : ∀ k, spellT (opW k) = opT k
  | 0 => by decide +kernel
  | 1 => by decide +kernel
  | 2 => by decide +kernel
  | _ + 3 => by show lit "(" ++ [] ++ [] = lit "("; rw [List.append_nil, List.append_nil]
def opsP (ks : List Nat) : Ps := (ks.map opW).flatten
def opsT (ks : List Nat) : List Nat := (ks.map opT).flatten
theorem opsP_cons (k : Nat) (ks : List Nat) : opsP (k :: ks) = opW k ++ opsP ks := by simp [opsP]
theorem opsT_cons (k : Nat) (ks : List Nat) : opsT (k :: ks) = opT k ++ opsT ks := by simp [opsT]
theorem opsT_snoc (k : Nat) (ks : List Nat) : opsT (ks ++ [k]) = opsT ks ++ opT k := by simp [opsT]
theorem opsP_app (a b : List Nat) : opsP (a ++ b) = opsP a ++ opsP b := by simp [opsP]
theorem opsP_spell : ∀ ks, spellT (opsP ks) = opsT ks
  | [] => rfl
  | k :: ks => by rw [opsP_cons, spell_app, opsP_spell ks, opsT_cons, opW_spell]
def npar (ks : List Nat) : Nat := ks.countP fun k => decide (3 ≤ k)
def cloP (n : Nat) : Ps := List.replicate n (lit ")", [])
def conP (ks : List Nat) : Ps := opsP ks ++ (lit "a", []) :: cloP (npar ks)
theorem cloP_spell : ∀ n, spellT (cloP n) = List.replicate n 41
  | 0 => rfl
  | n + 1 => by
    show lit ")" ++ [] ++ spellT (cloP n) = 41 :: List.replicate n 41
    rw [cloP_spell n, show lit ")" = [41] by decide +kernel]
    rfl
def conT (ks : List Nat) : List Nat := opsT ks ++ lit "a" ++ List.replicate (npar ks) 41
theorem conP_spell (ks : List Nat) : spellT (conP ks) = conT ks := by
  show spellT (opsP ks ++ (lit "a", []) :: cloP (npar ks)) = _
  rw [spell_app, opsP_spell]
  show opsT ks ++ (lit "a" ++ [] ++ spellT (cloP (npar ks))) = _
  rw [cloP_spell, List.append_nil, ← List.append_assoc]
  rfl
theorem good_clo : ∀ n, GoodS (cloP n)
  | 0 => trivial
  | n + 1 => good_sign (by decide +kernel) gap0 (good_clo n)
theorem good_op : ∀ {k : Nat} {rest : Ps}, GoodS rest → GoodS (opW k ++ rest)
  | 0, _, h => good_word (by decide +kernel) gap1 nx1 h
  | 1, _, h => good_word (by decide +kernel) gap1 nx1 (good_word (by decide +kernel) gap1 nx1 h)
  | 2, _, h => good_word (by decide +kernel) gap1 nx1 (good_word (by decide +kernel) gap1 nx1 (good_word (by decide +kernel) gap1 nx1 h))
  | _ + 3, _, h => good_sign (by decide +kernel) gap0 h
theorem good_ops : ∀ {ks : List Nat} {rest : Ps}, GoodS rest → GoodS (opsP ks ++ rest)
  | [], _, h => h
  | k :: ks, rest, h => by
    rw [opsP_cons, List.append_assoc]
    exact good_op (good_ops h)
theorem clo_sign {n : Nat} : ∀ q t', cloP n = q :: t' → signB q.1 = true := fun q t' e => by
  cases n with
  | zero => cases e
  | succ n =>
    obtain ⟨rfl, _⟩ := List.cons.inj (show (lit ")", []) :: cloP n = q :: t' from e)
    decide +kernel
theorem good_con (ks : List Nat) : GoodS (conP ks) := good_ops (good_word (by decide +kernel) gap0 (fun _ => clo_sign) (good_clo _))
theorem op10 : ∀ k, 10 ∉ opT k
  | 0 => by decide +kernel
  | 1 => by decide +kernel
  | 2 => by decide +kernel
  | _ + 3 => by show 10 ∉ lit "("; decide +kernel
theorem ops10 (ks : List Nat) : 10 ∉ opsT ks := fun h => by
  obtain ⟨t, ht, h⟩ := List.mem_flatten.mp h
  obtain ⟨k, _, rfl⟩ := List.mem_map.mp ht
  exact op10 k h
theorem con10 (ks : List Nat) : 10 ∉ conT ks := fun h => by
  rcases List.mem_append.mp h with h | h
  · rcases List.mem_append.mp h with h | h
    · exact ops10 ks h
    · revert h
      decide +kernel
  · exact absurd (List.eq_of_mem_replicate h) (by decide)
/-- the concept that is written -/
def cN : List Nat → Con
  | [] => .name (lit "a")
  | 0 :: ks => .not (cN ks)
  | 1 :: ks => .some (lit "r", false) (cN ks)
  | 2 :: ks => .all (lit "r", true) (cN ks)
  | _ :: ks => cN ks
def tN : List Nat → List (List Nat)
  | [] => [lit "a"]
  | 0 :: ks => lit "not" :: tN ks
  | 1 :: ks => lit "some" :: (rolW (lit "r", false) ++ tN ks)
  | 2 :: ks => lit "all" :: (rolW (lit "r", true) ++ tN ks)
  | _ :: ks => lit "(" :: (tN ks ++ [lit ")"])
theorem tN_lo : ∀ ks, Lo (cN ks) 3 ks.length (tN ks)
  | [] => .name (by decide +kernel) (by decide +kernel)
  | 0 :: ks => .not (tN_lo ks)
  | 1 :: ks => .some (by decide +kernel) (by decide +kernel) (tN_lo ks)
  | 2 :: ks => .all (by decide +kernel) (by decide +kernel) (tN_lo ks)
  | (_ + 3) :: ks => .par (tN_lo ks)
theorem rep_snoc {α : Type} (x : α) : ∀ n, List.replicate n x ++ [x] = List.replicate (n + 1) x
  | 0 => rfl
  | n + 1 => by rw [List.replicate_succ, List.cons_append, rep_snoc x n]; rfl
theorem conP_map : ∀ ks, (conP ks).map (·.1) = tN ks
  | [] => rfl
  | 0 :: ks => congrArg (lit "not" :: ·) (conP_map ks)
  | 1 :: ks => congrArg (fun t => lit "some" :: lit "r" :: t) (conP_map ks)
  | 2 :: ks => congrArg (fun t => lit "all" :: lit "inverse" :: lit "r" :: t) (conP_map ks)
  | (k + 3) :: ks => by
    have ih := conP_map ks
    have hn : npar ((k + 3) :: ks) = npar ks + 1 := by
      unfold npar
      rw [List.countP_cons_of_pos (p := fun k => decide (3 ≤ k)) (decide_eq_true (by omega))]
    show ((opsP ((k + 3) :: ks)) ++ (lit "a", []) :: cloP (npar ((k + 3) :: ks))).map (·.1) = lit "(" :: (tN ks ++ [lit ")"])
    rw [hn, opsP_cons, ← ih]
    show ((lit "(", ([] : List Nat)) :: (opsP ks ++ (lit "a", []) :: List.replicate (npar ks + 1) (lit ")", ([] : List Nat)))).map (·.1) = lit "(" :: ((opsP ks ++ (lit "a", []) :: cloP (npar ks)).map (·.1) ++ [lit ")"])
    rw [← rep_snoc, List.map_cons, List.map_append, List.map_append, List.map_cons, List.map_cons, List.map_append]
    show _ :: (_ ++ (_ :: (_ ++ [lit ")"]))) = _ :: ((_ ++ (_ :: _)) ++ [lit ")"])
    rw [List.append_assoc, List.cons_append]
    rfl
theorem cN_dp : ∀ ks, (cN ks).dp ≤ ks.length
  | [] => Nat.le_refl _
  | 0 :: ks => Nat.succ_le_succ (cN_dp ks)
  | 1 :: ks => Nat.succ_le_succ (cN_dp ks)
  | 2 :: ks => Nat.succ_le_succ (cN_dp ks)
  | (_ + 3) :: ks => Nat.le_succ_of_le (cN_dp ks)
/-- too deep a concept -/
theorem front_deep {wd : Nat → List Nat} {N : Nat} : ∀ (r : Nat) (ks : List Nat) (i : Nat), r < ks.length → WAt wd i ((opsP ks).map (·.1)) → rFront wd N r i = .er (i + (opsP (ks.take r)).length) (Str.ofString "nested too deeply")
  | 0, k :: ks, i, _, hw => by
    show rFrontG wd N false _ i = .er (i + 0) _
    rw [opsP_cons, List.map_append] at hw
    have hw := hw.left
    unfold rFrontG rAtom
    match k, hw with
    | 0, hw => rw [show wd i = lit "not" from hw.head, if_pos rfl]; rfl
    | 1, hw => rw [show wd i = lit "some" from WAt.head (ts := [lit "r"]) hw, if_neg (by decide +kernel), if_pos rfl]; rfl
    | 2, hw => rw [show wd i = lit "all" from WAt.head (ts := [lit "inverse", lit "r"]) hw, if_neg (by decide +kernel), if_neg (by decide +kernel), if_pos rfl]; rfl
    | _ + 3, hw => rw [show wd i = lit "(" from WAt.head (ts := []) hw, if_neg (by decide +kernel), if_neg (by decide +kernel), if_neg (by decide +kernel), if_pos rfl]; rfl
  | r + 1, k :: ks, i, hr, hw => by
    show rFrontG wd N true (rFront wd N r) i = _
    rw [List.take_succ_cons, opsP_cons, List.length_append]
    rw [opsP_cons, List.map_append] at hw
    have hw1 := hw.left
    have hw2 := hw.right
    rw [List.length_map] at hw2
    have ih := front_deep (N := N) r ks _ (by rw [List.length_cons] at hr; omega) hw2
    rw [Nat.add_assoc] at ih
    unfold rFrontG rAtom
    match k, hw1, ih with
    | 0, hw1, ih => rw [show wd i = lit "not" from hw1.head, if_pos rfl, rStep, if_pos rfl, R.bind_ok, show i + 1 = i + (opW 0).length from rfl, ih]; rfl
    | 1, hw1, ih =>
      rw [show wd i = lit "some" from WAt.head (ts := [lit "r"]) hw1, if_neg (by decide +kernel), if_pos rfl, rStep, if_pos rfl, R.bind_ok, role_at (r := (lit "r", false)) (by decide +kernel) (WAt.tail (x := lit "some") (ts := [lit "r"]) hw1), R.bind_ok, show i + 1 + (rolW (lit "r", false)).length = i + (opW 1).length from rfl, ih]
      rfl
    | 2, hw1, ih =>
      rw [show wd i = lit "all" from WAt.head (ts := [lit "inverse", lit "r"]) hw1, if_neg (by decide +kernel), if_neg (by decide +kernel), if_pos rfl, rStep, if_pos rfl, R.bind_ok, role_at (r := (lit "r", true)) (by decide +kernel) (WAt.tail (x := lit "all") (ts := [lit "inverse", lit "r"]) hw1), R.bind_ok, show i + 1 + (rolW (lit "r", true)).length = i + (opW 2).length from rfl, ih]
      rfl
    | _ + 3, hw1, ih =>
      rw [show wd i = lit "(" from WAt.head (ts := []) hw1, if_neg (by decide +kernel), if_neg (by decide +kernel), if_neg (by decide +kernel), if_pos rfl, rStep, if_pos rfl, R.bind_ok, rAlt, rChain, rBoth, rChain, show i + 1 = i + (opW 3).length from rfl]
      rw [show rFront wd N r (i + (opW 3).length) = _ from ih]
      rfl
/-- how reading the law's first text ends -/
theorem con_read (ks : List Nat) : rWhole (fun W => rConcept (wdW W) W.length) (tokensOf (conP ks) 0) = if 8 < ks.length then .er (opsP (ks.take 8)).length (Str.ofString "nested too deeply") else .ok (cN ks) (conP ks).length := by
  have hL : (tokensOf (conP ks) 0).length = (conP ks).length := toks_len _ _
  unfold rWhole
  by_cases h : 8 < ks.length
  · rw [if_pos h]
    have hw : WAt (wdW (tokensOf (conP ks) 0)) 0 ((opsP ks).map (·.1)) := by
      have := tokW (ps := conP ks)
      unfold conP at this
      rw [List.map_append] at this
      exact this.left
    have := front_deep (N := (tokensOf (conP ks) 0).length) 8 ks 0 h hw
    rw [Nat.zero_add] at this
    show (rConcept _ _ 0).bind _ = _
    unfold rConcept rAlt rChain rBoth rChain
    rw [this]
    rfl
  · rw [if_neg h]
    have hw := tokW (ps := conP ks)
    rw [conP_map] at hw
    have hl : (tN ks).length = (conP ks).length := by rw [← conP_map, List.length_map]
    have he : wdW (tokensOf (conP ks) 0) (0 + (tN ks).length) = [] := by rw [Nat.zero_add, hl]; exact tokW_end (Nat.le_refl _)
    show (rConcept _ _ 0).bind _ = _
    rw [concept_at (tN_lo ks) (by omega) hw (by rw [hL, ← hl, Nat.zero_add]; exact Nat.le_refl _) (by rw [he]; decide +kernel) (by rw [he]; decide +kernel), if_neg (by have := cN_dp ks; omega), R.bind_ok, if_pos (by rw [hL, hl, Nat.zero_add]; exact Nat.le_refl _), Nat.zero_add, hl]
end
end Pf
namespace Pf
open PySem PySem.Spec PyProof.Rows L2
section
variable {P : Program} {w : World} {K : PySem.W.Frag} {mg : Str → Option Value} {base : Heap}
/-! a chain of operands -/
def wdb (b : Bool) : List Nat := if b then lit "and" else lit "or"
def mkb (b : Bool) : Con → Con → Con := if b then .both else .either
def chC (b : Bool) : Nat → Con
  | 0 => .name (lit "b")
  | n + 1 => mkb b (chC b n) (.name (lit "c"))
def chK (b : Bool) : Nat → List (List Nat)
  | 0 => [lit "b"]
  | n + 1 => chK b n ++ wdb b :: [lit "c"]
def chP (b : Bool) : Nat → List Nat → Ps
  | 0, g => [(lit "b", g)]
  | n + 1, g => chP b n [32] ++ [(wdb b, [32]), (lit "c", g)]
def wdS (b : Bool) : List Nat := if b then lit " and " else lit " or "
def chT (b : Bool) (n : Nat) : List Nat := lit "b" ++ (List.replicate n (wdS b ++ lit "c")).flatten
theorem chT_succ (b : Bool) (n : Nat) : chT b (n + 1) = chT b n ++ (wdS b ++ lit "c") := by
  unfold chT
  rw [← rep_snoc, List.flatten_append, List.append_assoc]
  simp
theorem chP_spell (b : Bool) : ∀ n g, spellT (chP b n g) = chT b n ++ g
  | 0, g => by
    show lit "b" ++ g ++ [] = lit "b" ++ [] ++ g
    rw [List.append_nil, List.append_nil]
  | n + 1, g => by
    show spellT (chP b n [32] ++ [(wdb b, [32]), (lit "c", g)]) = _
    rw [spell_app, chP_spell b n, chT_succ]
    show chT b n ++ [32] ++ (wdb b ++ [32] ++ (lit "c" ++ g ++ [])) = _
    have e : wdS b = [32] ++ wdb b ++ [32] := by cases b <;> decide +kernel
    rw [e]
    simp [List.append_assoc]
theorem chP_map (b : Bool) : ∀ n g, (chP b n g).map (·.1) = chK b n
  | 0, _ => rfl
  | n + 1, g => by
    show (chP b n [32] ++ [(wdb b, [32]), (lit "c", g)]).map (·.1) = chK b n ++ wdb b :: [lit "c"]
    rw [List.map_append, chP_map b n]
    rfl
theorem wdb_word (b : Bool) : wordB (wdb b) = true := by cases b <;> decide +kernel
theorem good_ch (b : Bool) : ∀ (n : Nat) (g : List Nat) (rest : Ps), GapP g → NxT g rest → GoodS rest → GoodS (chP b n g ++ rest)
  | 0, g, rest, hg, hn, hr => good_word (by decide +kernel) hg hn hr
  | n + 1, g, rest, hg, hn, hr => by
    show GoodS (chP b n [32] ++ [(wdb b, [32]), (lit "c", g)] ++ rest)
    rw [List.append_assoc]
    exact good_ch b n [32] _ gap1 nx1 (good_word (wdb_word b) gap1 nx1 (good_word (by decide +kernel) hg hn hr))
theorem chC_dp (b : Bool) : ∀ n, (chC b n).dp = n
  | 0 => rfl
  | n + 1 => by
    have := chC_dp b n
    cases b
    · show max (chC false n).dp 0 + 1 = n + 1
      omega
    · show max (chC true n).dp 0 + 1 = n + 1
      omega
theorem ch_lo (b : Bool) : ∀ n, ∃ k, Lo (chC b n) k 0 (chK b n) ∧ (if b then 2 else 1) ≤ k
  | 0 => ⟨3, .name (by decide +kernel) (by decide +kernel), by cases b <;> decide⟩
  | n + 1 => by
    obtain ⟨k, h, hk⟩ := ch_lo b n
    cases b with
    | true => exact ⟨2, .both h hk (.name (by decide +kernel) (by decide +kernel)) (Nat.le_refl _), Nat.le_refl _⟩
    | false => exact ⟨1, .either h hk (.name (by decide +kernel) (by decide +kernel)) (by decide), Nat.le_refl _⟩
theorem ch10 (b : Bool) (n : Nat) : 10 ∉ chT b n := fun h => by
  rcases List.mem_append.mp h with h | h
  · revert h
    decide +kernel
  · obtain ⟨t, ht, h⟩ := List.mem_flatten.mp h
    rw [List.eq_of_mem_replicate ht] at h
    revert h
    cases b <;> decide +kernel
/-- in parentheses or not -/
def cpP (par b : Bool) (n : Nat) (g : List Nat) : Ps := if par then (lit "(", []) :: (lit "(", []) :: (chP b n [] ++ [(lit ")", []), (lit ")", g)]) else chP b n g
def cpT (par b : Bool) (n : Nat) : List Nat := if par then lit "((" ++ chT b n ++ lit "))" else chT b n
def cpK (par b : Bool) (n : Nat) : List (List Nat) := if par then lit "(" :: ((lit "(" :: (chK b n ++ [lit ")"])) ++ [lit ")"]) else chK b n
theorem cpP_spell (par b : Bool) (n : Nat) (g : List Nat) : spellT (cpP par b n g) = cpT par b n ++ g := by
  cases par with
  | false => exact chP_spell b n g
  | true =>
    show lit "(" ++ [] ++ (lit "(" ++ [] ++ spellT (chP b n [] ++ [(lit ")", []), (lit ")", g)])) = lit "((" ++ chT b n ++ lit "))" ++ g
    rw [spell_app, chP_spell]
    show lit "(" ++ [] ++ (lit "(" ++ [] ++ (chT b n ++ [] ++ (lit ")" ++ [] ++ (lit ")" ++ g ++ [])))) = _
    rw [show lit "((" = lit "(" ++ lit "(" by decide +kernel, show lit "))" = lit ")" ++ lit ")" by decide +kernel]
    simp [List.append_assoc]
theorem cpP_map (par b : Bool) (n : Nat) (g : List Nat) : (cpP par b n g).map (·.1) = cpK par b n := by
  cases par with
  | false => exact chP_map b n g
  | true =>
    show lit "(" :: lit "(" :: (chP b n [] ++ [(lit ")", []), (lit ")", g)]).map (·.1) = lit "(" :: (lit "(" :: (chK b n ++ [lit ")"]) ++ [lit ")"])
    rw [List.map_append, chP_map]
    simp
theorem good_cp (par b : Bool) (n : Nat) (g : List Nat) (rest : Ps) (hg : GapP g) (hn : NxT g rest) (hr : GoodS rest) : GoodS (cpP par b n g ++ rest) := by
  cases par with
  | false => exact good_ch b n g rest hg hn hr
  | true =>
    refine good_sign (by decide +kernel) gap0 (good_sign (by decide +kernel) gap0 ?_)
    show GoodS ((chP b n [] ++ [(lit ")", []), (lit ")", g)]) ++ rest)
    rw [List.append_assoc]
    exact good_ch b n [] _ gap0 (nxS (by decide +kernel)) (good_sign (by decide +kernel) gap0 (good_sign (by decide +kernel) hg hr))
theorem cp_lo (par b : Bool) (n : Nat) : ∃ k m, Lo (chC b n) k m (cpK par b n) ∧ m ≤ 8 := by
  obtain ⟨k, h, _⟩ := ch_lo b n
  cases par with
  | false => exact ⟨k, 0, h, by decide⟩
  | true => exact ⟨3, 2, .par (.par h), by decide⟩
theorem cp10 (par b : Bool) (n : Nat) : 10 ∉ cpT par b n := by
  cases par with
  | false => exact ch10 b n
  | true =>
    intro h
    rcases List.mem_append.mp h with h | h
    · rcases List.mem_append.mp h with h | h
      · revert h
        decide +kernel
      · exact ch10 b n h
    · revert h
      decide +kernel
/-- what a chain begins with -/
theorem cp_first (par b : Bool) (n : Nat) : (∃ r, cpK par b (n + 1) = lit "(" :: r) ∨ ∃ r, cpK par b (n + 1) = lit "b" :: wdb b :: r := by
  cases par with
  | true => exact .inl ⟨_, rfl⟩
  | false =>
    refine .inr ?_
    show ∃ r, chK b (n + 1) = _
    induction n with
    | zero => exact ⟨_, rfl⟩
    | succ n ih =>
      obtain ⟨r, e⟩ := ih
      exact ⟨r ++ wdb b :: [lit "c"], by show chK b (n + 1) ++ _ = _; rw [e]; rfl⟩
def tx1 (par b : Bool) (n : Nat) : Ps := cpP par b n [32] ++ [(lit "below", [32]), (lit "b", [])]
def tx2 (par b : Bool) (n : Nat) : Ps := (lit "b", [32]) :: (lit "below", [32]) :: cpP par b n []
theorem tx1_spell (par b : Bool) (n : Nat) : spellT (tx1 par b n) = cpT par b n ++ lit " below b" := by
  show spellT (cpP par b n [32] ++ [(lit "below", [32]), (lit "b", [])]) = _
  rw [spell_app, cpP_spell, show lit " below b" = [32] ++ spellT [(lit "below", [32]), (lit "b", [])] by decide +kernel, List.append_assoc]
theorem tx2_spell (par b : Bool) (n : Nat) : spellT (tx2 par b n) = lit "b below " ++ cpT par b n := by
  show lit "b" ++ [32] ++ (lit "below" ++ [32] ++ spellT (cpP par b n [])) = _
  rw [cpP_spell, List.append_nil, show lit "b below " = lit "b" ++ [32] ++ (lit "below" ++ [32]) by decide +kernel]
  simp [List.append_assoc]
theorem good_tx1 (par b : Bool) (n : Nat) : GoodS (tx1 par b n) := good_cp par b n [32] _ gap1 nx1 (good_word (by decide +kernel) gap1 nx1 (good_word (by decide +kernel) gap0 (fun _ _ _ e => nomatch e) trivial))
theorem good_tx2 (par b : Bool) (n : Nat) : GoodS (tx2 par b n) := good_word (by decide +kernel) gap1 nx1 (good_word (by decide +kernel) gap1 nx1 (by
  have := good_cp par b n [] [] gap0 (fun _ _ _ e => nomatch e) trivial
  rwa [List.append_nil] at this))
theorem tx1_10 (par b : Bool) (n : Nat) : 10 ∉ spellT (tx1 par b n) := by
  rw [tx1_spell]
  intro h
  rcases List.mem_append.mp h with h | h
  · exact cp10 par b n h
  · revert h
    decide +kernel
theorem tx2_10 (par b : Bool) (n : Nat) : 10 ∉ spellT (tx2 par b n) := by
  rw [tx2_spell]
  intro h
  rcases List.mem_append.mp h with h | h
  · revert h
    decide +kernel
  · exact cp10 par b n h
section
variable {wd : Nat → List Nat} {N : Nat}
/-- a statement that is a comparison -/
theorem stm_comp (h : wd 0 = lit "(" ∨ wd 0 = lit "b" ∧ (wd 1 = lit "and" ∨ wd 1 = lit "or" ∨ wd 1 = lit "below")) : rStm wd N 0 = rComp wd N 0 := by
  unfold rStm nameB factB
  rcases h with h | ⟨h, h1⟩
  · rw [h, if_neg (by decide +kernel), if_neg (by decide +kernel), show isNm (lit "(") = false by decide +kernel, Bool.false_and, Bool.false_and, Bool.false_and, if_neg (by decide +kernel), if_neg (by decide), if_neg (by decide)]
  · rw [h, if_neg (by decide +kernel), if_neg (by decide +kernel), show isNm (lit "b") = true by decide +kernel, Bool.true_and, Bool.true_and, Bool.true_and]
    show (if (decide _ || decide (wd 1 = _)) = true then _ else if decide (wd 1 = _) = true then _ else if (decide (wd 1 = _) || isNm (wd 1)) = true then _ else _) = _
    rcases h1 with h1 | h1 | h1 <;> rw [h1, if_neg (by decide +kernel), if_neg (by decide +kernel), if_neg (by decide +kernel)]
end
theorem wdb_cases (b : Bool) : wdb b = lit "and" ∨ wdb b = lit "or" := by
  cases b
  · exact .inr rfl
  · exact .inl rfl
/-- how reading the law's other texts ends -/
theorem tx1_read (par b : Bool) (n : Nat) : rWhole (fun W => rStm (wdW W) W.length) (tokensOf (tx1 par b (n + 1)) 0) = if 12 < n + 1 then .er (cpP par b (n + 1) [32]).length (Str.ofString "too many operators") else .ok (.below (chC b (n + 1)) (.name (lit "b"))) (tx1 par b (n + 1)).length := by
  have hL : (tokensOf (tx1 par b (n + 1)) 0).length = (tx1 par b (n + 1)).length := toks_len _ _
  have hm : (tx1 par b (n + 1)).map (·.1) = cpK par b (n + 1) ++ [lit "below", lit "b"] := by
    unfold tx1
    rw [List.map_append, cpP_map]
    rfl
  have hw := tokW (ps := tx1 par b (n + 1))
  rw [hm] at hw
  have hk : (cpK par b (n + 1)).length = (cpP par b (n + 1) [32]).length := by rw [← cpP_map par b (n + 1) [32], List.length_map]
  have hl : (tx1 par b (n + 1)).length = (cpK par b (n + 1)).length + 2 := by
    unfold tx1
    rw [List.length_append, hk]
    rfl
  have h1 := hw.left
  have h2 : WAt (wdW (tokensOf (tx1 par b (n + 1)) 0)) (0 + (cpK par b (n + 1)).length) [lit "below", lit "b"] := hw.right
  obtain ⟨k, m, lo, hm⟩ := cp_lo par b (n + 1)
  have hs : rStm (wdW (tokensOf (tx1 par b (n + 1)) 0)) (tokensOf (tx1 par b (n + 1)) 0).length 0 = rComp (wdW (tokensOf (tx1 par b (n + 1)) 0)) (tokensOf (tx1 par b (n + 1)) 0).length 0 := by
    refine stm_comp ?_
    rcases cp_first par b n with ⟨r, e⟩ | ⟨r, e⟩
    · rw [e] at h1
      exact .inl h1.head
    · rw [e] at h1
      refine .inr ⟨h1.head, ?_⟩
      rcases wdb_cases b with q | q
      · exact .inl (by rw [← q]; exact h1.tail.head)
      · exact .inr (.inl (by rw [← q]; exact h1.tail.head))
  have hb := h2.head
  unfold rWhole
  show (rStm _ _ 0).bind _ = _
  rw [hs]
  unfold rComp
  rw [concept_at lo hm h1 (by omega) (by rw [hb]; decide +kernel) (by rw [hb]; decide +kernel), chC_dp]
  by_cases h : 12 < n + 1
  · rw [if_pos h, if_pos h, Nat.zero_add, hk]
    rfl
  · have e3 := h2.tail
    have hend : wdW (tokensOf (tx1 par b (n + 1)) 0) (0 + (cpK par b (n + 1)).length + 1 + [lit "b"].length) = [] := tokW_end (by rw [hl]; simp)
    rw [if_neg h, if_neg h, R.bind_ok, if_pos hb, concept_at (Lo.name (s := lit "b") (by decide +kernel) (by decide +kernel)) (by decide) e3 (by rw [hL, hl]; simp) (by rw [hend]; decide +kernel) (by rw [hend]; decide +kernel), if_neg (show ¬ 12 < (Con.name (lit "b")).dp by decide), R.bind_ok, R.bind_ok, if_pos (by rw [hL, hl]; simp), hl]
    simp
theorem tx2_read (par b : Bool) (n : Nat) : rWhole (fun W => rStm (wdW W) W.length) (tokensOf (tx2 par b (n + 1)) 0) = if 12 < n + 1 then .er (tx2 par b (n + 1)).length (Str.ofString "too many operators") else .ok (.below (.name (lit "b")) (chC b (n + 1))) (tx2 par b (n + 1)).length := by
  have hL : (tokensOf (tx2 par b (n + 1)) 0).length = (tx2 par b (n + 1)).length := toks_len _ _
  have hw := tokW (ps := tx2 par b (n + 1))
  have hw : WAt (wdW (tokensOf (tx2 par b (n + 1)) 0)) 0 (lit "b" :: lit "below" :: cpK par b (n + 1)) := by rw [← cpP_map par b (n + 1) []]; exact hw
  have hk : (cpK par b (n + 1)).length = (cpP par b (n + 1) []).length := by rw [← cpP_map par b (n + 1) [], List.length_map]
  have hl : (tx2 par b (n + 1)).length = (cpK par b (n + 1)).length + 2 := by rw [hk]; rfl
  obtain ⟨k, m, lo, hm⟩ := cp_lo par b (n + 1)
  have hb := hw.tail.head
  have hs : rStm (wdW (tokensOf (tx2 par b (n + 1)) 0)) (tokensOf (tx2 par b (n + 1)) 0).length 0 = rComp (wdW (tokensOf (tx2 par b (n + 1)) 0)) (tokensOf (tx2 par b (n + 1)) 0).length 0 := stm_comp (.inr ⟨hw.head, .inr (.inr hb)⟩)
  unfold rWhole
  show (rStm _ _ 0).bind _ = _
  rw [hs]
  unfold rComp
  have h1 : WAt (wdW (tokensOf (tx2 par b (n + 1)) 0)) 0 [lit "b"] := WAt.left (b := lit "below" :: cpK par b (n + 1)) hw
  have hb0 : wdW (tokensOf (tx2 par b (n + 1)) 0) (0 + [lit "b"].length) = lit "below" := hb
  have hend : wdW (tokensOf (tx2 par b (n + 1)) 0) (0 + [lit "b"].length + 1 + (cpK par b (n + 1)).length) = [] := tokW_end (by rw [hl]; simp; omega)
  rw [concept_at (Lo.name (s := lit "b") (by decide +kernel) (by decide +kernel)) (by decide) h1 (by rw [hL, hl]; simp) (by rw [hb0]; decide +kernel) (by rw [hb0]; decide +kernel), if_neg (show ¬ 12 < (Con.name (lit "b")).dp by decide), R.bind_ok, if_pos hb0]
  have h3 : WAt (wdW (tokensOf (tx2 par b (n + 1)) 0)) (0 + [lit "b"].length + 1) (cpK par b (n + 1)) := hw.tail.tail
  rw [concept_at lo hm h3 (by rw [hL, hl]; simp; omega) (by rw [hend]; decide +kernel) (by rw [hend]; decide +kernel), chC_dp]
  have e2 : 0 + [lit "b"].length + 1 + (cpK par b (n + 1)).length = (tx2 par b (n + 1)).length := by rw [hl]; simp; omega
  rw [e2]
  by_cases h : 12 < n + 1
  · rw [if_pos h, if_pos h]
    rfl
  · rw [if_neg h, if_neg h, R.bind_ok, R.bind_ok, if_pos (by rw [hL]; exact Nat.le_refl _)]
end
end Pf
namespace Pf
open PySem PySem.Spec PyProof.Rows L2
section
variable {P : Program} {w : World} {K : PySem.W.Frag} {mg : Str → Option Value} {base : Heap}
local macro_rules | `(tactic| walk_at "w") => `(tactic| repeat (first
  | refine ⟨_, rfl, ?_⟩
  | refine ⟨_, _, rfl, rfl, .inr ⟨by decide, by decide⟩, ?_⟩
  | refine ⟨_, _, rfl, rfl, .inl ⟨by decide, by decide⟩, ?_⟩
  | refine ⟨_, _, rfl, rfl, ⟨by decide, by decide⟩, ?_⟩
  | refine ⟨_, _, rfl, rfl, ⟨by decide, by decide, by decide⟩, ?_⟩
  | refine ⟨_, _, rfl, rfl, (by show (0 : Int) < _; decide), ?_⟩
  | refine ⟨_, _, rfl, rfl, ?_⟩
  | refine .inl ⟨_, rfl, ?_⟩))

theorem kIsiX {X : Cx} {K : PySem.W.Frag} (h : X.K = K := by rfl) : CallR X (.builtin "isinstance") (rIsi K) := h ▸ call_isi
theorem ev_fld {K : PySem.W.Frag} {a C dd : Addr} {fs : List (Str × V)} {nm : Str} {w : V} {T ty : String} {i : Nat} {σ : L2.St} {H : Hp} {R : VK} (h1 : σ[i]? = some (some (.ref a))) (h2 : fs.lookup nm = some w) (hdd : H dd = some (.xd fs)) (h3 : TyX K H w (.type ty)) (h4 : kitB ty T = some true) (h5 : R (.bl true) H) :
    tCB (rIsi K) (tCons (tXf a (.ref C) (some dd) C nm (tVar i)) (tCons (tC (.ty T)) tNil)) σ H R := by
  have e := ev_isi (σ := [some w]) (i := 0) (Q := R) rfl h3 h4 h5
  obtain ⟨x, hx, r⟩ := e
  cases hx
  exact ⟨_, h1, rfl, rfl, dd, fs, _, rfl, hdd, h2, r⟩
/-! the law's own handler -/
def spFault (K : PySem.W.Frag) (C : Addr) (S : Addr → Option Sp) : Sp := fun vs H Q _ => ∃ (f : Addr) (sp : Sp) (z : Str), vs = [.ref f, .str z] ∧ S f = some sp ∧
  ∀ (Q' : VK) (E' : XK), (∀ v H', Q .non H' → Q' v H') → (∀ cls d H', (cls = .ref C ∧ ∃ (dd : Addr) (m n : Int) (t : Str), d = some dd ∧ H' dd = some (.xd (ftF (.int m) (.int n) (.str t))) ∧ ∀ p, H' p = none → Q (.ref p) (upd H' p (.tup [.int m, .int n, .str t]))) → E' cls d H') → sp [.str z] H Q' E'
theorem c_law_fault {k : Nat} {C : Addr} {S : Addr → Option Sp} {f : Addr} {fd : FuncData} (D : Df K mg "_law_fault" s_law_fault f fd ["read", "text"]) (A_ : ∀ f sp, S f = some sp → HeldX P w K mg base k f sp) (c_FaultyText : FtC P w K mg base C) (x_FaultyText : XfC K C) (x_exm : PySem.W.exmOne K (.ref C) (.ref C) = some true) (z_isinstance : mg "isinstance" = none) (z_int : mg "int" = none) (z_str : mg "str" = none) : Cl P w K mg base (k + 1) "_law_fault" (spFault K C S) := by
  refine D.cl sc_law_fault (fun vs H Q E h => ?_) (fun cdv A outer s H vs Q E hr h => ?_)
  · obtain ⟨f, sp, z, rfl, _⟩ := h
    rfl
  obtain ⟨g, sp, z, rfl, hS, q⟩ := h
  refine ⟨_, (pss_cons (L2N.ps_try_as (i := 2) rfl rfl sc_law_fault.nd rfl rfl ⟨rfl, by decide, .inl c_FaultyText.mgC⟩ takes0N (fun W pn xe tk _ => (pss_one (ps_expr (pe_callAX (i := 0) A_ tk hr (Nat.le_refl _) rfl (.inl rfl) (pa_cons (pv 1) pa_nil))))) (fun a oe cls d pn hz hf => (pss_cons (ps_if (PW.pt (pw_or (pt_not (pt_val (pe_callB (kIsiX (K := K)) (by rfl) z_isinstance (by decide +kernel) (pa_cons (pe_xf x_FaultyText c_FaultyText.nl hz.zc hf (pv 2)) (pa_cons (pe_bltn (v := .ty "int") (u := .type "int") (by rfl) z_int (by decide +kernel) rfl) pa_nil))))) (pw_or (pt_not (pt_val (pe_callB (kIsiX (K := K)) (by rfl) z_isinstance (by decide +kernel) (pa_cons (pe_xf x_FaultyText c_FaultyText.nc hz.zc hf (pv 2)) (pa_cons (pe_bltn (v := .ty "int") (u := .type "int") (by rfl) z_int (by decide +kernel) rfl) pa_nil))))) (pw_or1 (pt_not (pt_val (pe_callB (kIsiX (K := K)) (by rfl) z_isinstance (by decide +kernel) (pa_cons (pe_xf x_FaultyText c_FaultyText.nr hz.zc hf (pv 2)) (pa_cons (pe_bltn (v := .ty "str") (u := .type "str") (by rfl) z_str (by decide +kernel) rfl) pa_nil))))))))) (pss_one (ps_ret (pe_tup (pa_cons pe_str pa_nil)))) pss_nil)
      (pss_one (ps_ret (pe_tup (pa_cons (pe_xf x_FaultyText c_FaultyText.nl hz.zc hf (pv 2)) (pa_cons (pe_xf x_FaultyText c_FaultyText.nc hz.zc hf (pv 2)) (pa_cons (pe_xf x_FaultyText c_FaultyText.nr hz.zc hf (pv 2)) pa_nil)))))))))
      (pss_one (ps_ret pe_non))), ?_⟩
  refine ⟨g, sp, rfl, hS, _, rfl, q _ _ (fun v H1 h1 => h1) fun cls d H1 h1 => ?_⟩
  obtain ⟨rfl, dd, m, n, t, rfl, hdd, qp⟩ := h1
  refine ⟨true, x_exm, fun _ a ha => ?_, fun z => Bool.noConfusion z⟩
  have one : ∀ {T ty : String} {nm : Str} {w : V} {σ : L2.St} {R : VK}, σ[2]? = some (some (.ref a)) → (ftF (.int m) (.int n) (.str t)).lookup nm = some w → TyX K H1 w (.type ty) → kitB ty T = some true → R (.bl true) H1 →
      tCB (rIsi K) (tCons (tXf a (.ref C) (some dd) C nm (tVar 2)) (tCons (tC (.ty T)) tNil)) σ H1 R := fun h1 h2 h3 h4 h5 =>
    ev_fld h1 h2 hdd h3 h4 h5
  refine one rfl rfl (.base (.int m)) (by decide +kernel) ⟨_, rfl, iteF (one rfl rfl (.base (.int n)) (by decide +kernel) ⟨_, rfl, iteF (one rfl rfl (.base (.str t)) (by decide +kernel) ⟨_, rfl, iteF ?_⟩)⟩)⟩
  exact ⟨_, rfl, rfl, rfl, dd, _, _, rfl, hdd, rfl, _, rfl, rfl, rfl, dd, _, _, rfl, hdd, rfl, _, rfl, rfl, rfl, dd, _, _, rfl, hdd, rfl, by show 3 ≤ sizeLine; decide, fun p hp => qp p hp⟩
/-- what is due: an error at a column of the first line, or nothing -/
def dueD (b : Bool) (c : Int) (m : Str) : PyData := if b then .tuple [.int 1, .int c, .str m] else .none
theorem fold_app (a : Array Nat) : ∀ (n : Nat) (b : Array Nat), ((List.replicate n a).foldl (· ++ ·) b).toList = b.toList ++ (List.replicate n a.toList).flatten
  | 0, b => by simp
  | n + 1, b => by
    rw [List.replicate_succ, List.foldl_cons, fold_app a n, Array.toList_append, List.replicate_succ, List.flatten_cons, List.append_assoc]
theorem mul_T (w : List Nat) (n : Int) : Txt.mul (T w) n = T (List.replicate n.toNat w).flatten := by
  refine TL.ext_tl ?_
  unfold Txt.mul
  split
  · next h =>
    rw [show n.toNat = 0 by omega]
    rfl
  split
  · next h1 h =>
    rcases (Bool.or_eq_true _ _).mp h with h | h
    · rw [show n.toNat = 1 by have := beq_iff_eq.mp h; omega]
      show w = (T [w].flatten).cps.toList
      simp [T]
    · have : w.length = 0 := by rw [← T_len]; exact beq_iff_eq.mp h
      rw [List.length_eq_zero_iff.mp this]
      show [] = (T _).cps.toList
      simp [T]
  · show ((List.replicate n.toNat (T w).cps).foldl (· ++ ·) #[]).toList = _
    rw [fold_app]
    simp [T]
theorem opT_len : ∀ k, (opT k).length ≤ 14
  | 0 => by decide +kernel
  | 1 => by decide +kernel
  | 2 => by decide +kernel
  | _ + 3 => by show (lit "(").length ≤ 14; decide +kernel
theorem opsT_len (ks : List Nat) : (opsT ks).length ≤ 14 * ks.length := by
  induction ks with
  | nil => exact Nat.le_refl _
  | cons k ks ih =>
    have := opT_len k
    rw [opsT_cons, List.length_append, List.length_cons]
    omega
theorem npar_le (ks : List Nat) : npar ks ≤ ks.length := List.countP_le_length
theorem op_at {kd : Int} (h0 : 0 ≤ kd) (h1 : kd < 4) : atI [V.str (Str.ofString "not "), .str (Str.ofString "some r "), .str (Str.ofString "all inverse r "), .str (Str.ofString "(")] kd = some (.str (T (opT kd.toNat))) := by
  obtain rfl | rfl | rfl | rfl : kd = 0 ∨ kd = 1 ∨ kd = 2 ∨ kd = 3 := by omega
  · rw [show T (opT (0 : Int).toNat) = Str.ofString "not " from (lit_T _).symm]; rfl
  · rw [show T (opT (1 : Int).toNat) = Str.ofString "some r " from (lit_T _).symm]; rfl
  · rw [show T (opT (2 : Int).toNat) = Str.ofString "all inverse r " from (lit_T _).symm]; rfl
  · rw [show T (opT (3 : Int).toNat) = Str.ofString "(" from (lit_T _).symm]; rfl
def spLaw50 (K : PySem.W.Frag) : Sp := fun vs H Q _ => ∃ (a : Addr) (ns : List Int), vs = [.ref a] ∧ SqL K H a (ns.map V.int) ∧ ns.length ≤ 63 ∧ ∀ H', Q (.bl true) H'
theorem dueN {b : Bool} {c : Int} {m : Str} : TupN 3 (dueD b c m) := by
  cases b with
  | false => trivial
  | true => exact ⟨(by show 3 ≤ 100000; decide), fun d hd => by
    rcases List.mem_cons.mp hd with rfl | hd
    · trivial
    rcases List.mem_cons.mp hd with rfl | hd
    · trivial
    rw [List.mem_singleton.mp hd]
    trivial⟩
theorem x_fault {α : Type} {f : List Tk → R α} {tr : α → PyData} {ps : Ps} {C g : Addr} {S : Addr → Option Sp} {te : TE} {σ : L2.St} {H : Hp} {R : VK} {b : Bool} {col : Int} {m : Str} (hg : GoodS ps) (hl : (spellT ps).length ≤ 20000) (h10 : 10 ∉ spellT ps) (hS : S g = some (spTxX K C f tr)) (hte : ∀ Z : VK, Z (.str (T (spellT ps))) H → te σ H Z)
    (hr : b = true → ∃ e, f (tokensOf ps 0) = .er e m ∧ col = ((spellT (ps.take e)).length : Nat) + 1) (hn : b = false → ∃ x j, f (tokensOf ps 0) = .ok x j) (q : ∀ v H', Same H H' → Dp K H' v (dueD b col m) → R v H') : tCall (spFault K C S) [] E0 (tCons (tC (.ref g)) (tCons te tNil)) σ H R := by
  refine hte _ ⟨g, _, _, rfl, hS, fun Q' E' hQ hE => ⟨spellT ps, rfl, hl, ?_⟩⟩
  unfold OutR
  rw [(scan_can hg rfl).1]
  cases b with
  | true =>
    obtain ⟨e, h1, rfl⟩ := hr rfl
    show match f (tokensOf ps 0) with | .ok x _ => _ | .er e m => _
    rw [h1]
    refine fun d H' s1 hd hx => hE _ _ _ ⟨rfl, d, 1, _, m, rfl, by rw [er_one h10] at hx; exact hx, fun p hp => ?_⟩
    exact q _ _ (s1.trans (Same.new _ hp)) (.tup (.of upd_same) (.cons (.int _) (.cons (.int _) (.cons (.str _) .nil))))
  | false =>
    obtain ⟨x, j, h1⟩ := hn rfl
    show match f (tokensOf ps 0) with | .ok x _ => _ | .er e m => _
    rw [h1]
    exact fun v H' s1 _ => hQ _ _ (q _ _ s1 .non)
theorem if_fault {α : Type} {f : List Tk → R α} {tr : α → PyData} {ps : Ps} {C g : Addr} {S : Addr → Option Sp} {te : TE} {σ : L2.St} {H : Hp} {b : Bool} {col : Int} {m : Str} {i : Nat} {v : V} {tt u : TS} {D : Ends} (hg : GoodS ps) (hl : (spellT ps).length ≤ 20000) (h10 : 10 ∉ spellT ps) (hS : S g = some (spTxX K C f tr)) (hte : ∀ Z : VK, Z (.str (T (spellT ps))) H → te σ H Z)
    (hr : b = true → ∃ e, f (tokensOf ps 0) = .er e m ∧ col = ((spellT (ps.take e)).length : Nat) + 1) (hn : b = false → ∃ x j, f (tokensOf ps 0) = .ok x j) (hσ : σ[i]? = some (some v)) (hd : Dp K H v (dueD b col m)) (q : ∀ H', Same H H' → u D σ H') :
    tIfS (tNot (tB (tCall (spSame K 3) [] E0 (tCons (tCall (spFault K C S) [] E0 (tCons (tC (.ref g)) (tCons te tNil))) (tCons (tVar i) tNil))))) tt u D σ H :=
  x_fault hg hl h10 hS hte hr hn fun v' H2 e2 d2 => ⟨_, hσ, v', v, _, rfl, d2, Dp.same e2 hd, dueN, fun H3 e3 => ⟨true, rfl, iteF (q H3 (e2.trans e3))⟩⟩
theorem ok_law {k : Nat} {f : Addr} {fd : FuncData} {C fC fS : Addr} {fdC fdS : FuncData} {S : Addr → Option Sp} (F : Fun K "law" "law" s_law f fd) (c_law_draws : Cl P w K mg base 2 "_law_draws" (spDraws K)) (c_law_take : Cl P w K mg base 1 "_law_take" spTake) (c_law_fault : Cl P w K mg base 70 "_law_fault" (spFault K C S)) (c_law_same : Cl P w K mg base 4 "_law_same" (spSame K 3))
    (D_read_concept : Df K mg "read_concept" s_read_concept fC fdC ["text"]) (D_read_statement : Df K mg "read_statement" s_read_statement fS fdS ["text"]) (hC : S fC = some (spTxX K C (rWhole fun W => rConcept (wdW W) W.length) Con.D)) (hS : S fS = some (spTxX K C (rWhole fun W => rStm (wdW W) W.length) Stm.D)) (z_range : mg "range" = none) (z_int : mg "int" = none) (z_len : mg "len" = none) : FnOk P w K mg base CX0 72 f fd ["script"] (spLaw50 K) := by
  refine F.ok sc_law (fun vs H Q E h => ?_) (fun cdv A outer s H vs Q E hr h => ?_)
  · obtain ⟨a, ns, rfl, _⟩ := h
    rfl
  obtain ⟨a, ns, rfl, hA, h63, q⟩ := h
  refine ⟨_, (pss_cons (ps_set (i := 1) sc_law.nd rfl (.inl rfl) (pc c_law_draws hr (by first | decide | omega) (by rfl) (pa_cons (pv 0) (pa_cons pe_int (pa_cons pe_int pa_nil)))))
      (pss_cons (ps_set (i := 2) sc_law.nd rfl (.inl rfl) (pc c_law_take hr (by first | decide | omega) (by rfl) (pa_cons (pv 1) (pa_cons pe_int pa_nil))))
      (pss_cons (ps_set (i := 3) sc_law.nd rfl (.inl rfl) pe_str)
      (pss_cons (ps_set (i := 4) sc_law.nd rfl (.inl rfl) pe_str)
      (pss_cons (ps_set (i := 5) sc_law.nd rfl (.inl rfl) pe_non)
      (pss_cons (ps_for PassesOwn.never rfl (pi_range1 (by rfl) z_range (pa_cons (pv 2) pa_nil)) (pg_name (i := 6) sc_law.nd rfl (.inl rfl)) (pss_cons (ps_set (i := 7) sc_law.nd rfl (.inl rfl) (pc c_law_take hr (by first | decide | omega) (by rfl) (pa_cons (pv 1) (pa_cons pe_int pa_nil))))
      (Evl.pss_cut (ps_if (pt_cmpR op_eq (pv 6) pe_int (nomark _)) (pss_one (ps_set (i := 5) sc_law.nd rfl (.inl rfl) (pe_tup (pa_cons pe_int (pa_cons (pe_op op_add (pe_callB call_len_str (by rfl) z_len PySem.boot_len (pa_cons (pv 3) pa_nil)) pe_int) (pa_cons pe_str pa_nil)))))) pss_nil)
      (pss_cons (ps_set (i := 3) sc_law.nd rfl (.inl rfl) (pe_op op_add_str (pv 3) (pe_ix ix_tup (pe_tup (pa_cons pe_str (pa_cons pe_str (pa_cons pe_str (pa_cons pe_str pa_nil))))) (pv 7) (fun _ _ => rfl))))
      (pss_one (ps_set (i := 4) sc_law.nd rfl (.inl rfl) (pe_op op_add_str (pv 4) (pe_op op_mul_str pe_str (pe_callTy call_int1 (by rfl) z_int (by decide +kernel) (pa_cons (pe_cmpR op_eq (pv 7) pe_int (nomark _)) pa_nil))))))))))
      (pss_cons (ps_set (i := 3) sc_law.nd rfl (.inl rfl) (pe_op op_add_str (pe_op op_add_str (pv 3) pe_str) (pv 4)))
      (pss_cons (ps_if (pt_not (pt_val (pc c_law_same hr (by first | decide | omega) (by rfl) (pa_cons (pc c_law_fault hr (by first | decide | omega) (by rfl) (pa_cons (pe_glob (v := .ref _) (by rfl) D_read_concept.mgf rfl) (pa_cons (pv 3) pa_nil))) (pa_cons (pv 5) pa_nil))))) (pss_one (ps_ret pe_bl)) pss_nil)
      (pss_cons (ps_set (i := 8) sc_law.nd rfl (.inl rfl) (pe_op op_add pe_int (pc c_law_take hr (by first | decide | omega) (by rfl) (pa_cons (pv 1) (pa_cons pe_int pa_nil)))))
      (pss_cons (ps_set (i := 9) sc_law.nd rfl (.inl rfl) (pe_ix ix_tup (pe_tup (pa_cons pe_str (pa_cons pe_str pa_nil))) (pc c_law_take hr (by first | decide | omega) (by rfl) (pa_cons (pv 1) (pa_cons pe_int pa_nil))) (fun _ _ => rfl)))
      (pss_cons (ps_set (i := 10) sc_law.nd rfl (.inl rfl) (pe_op op_add_str pe_str (pe_op op_mul_str (pe_op op_add_str (pv 9) pe_str) (pe_op op_sub (pv 8) pe_int))))
      (Evl.pss_cut (ps_if (pt_cmpR op_eq (pc c_law_take hr (by first | decide | omega) (by rfl) (pa_cons (pv 1) (pa_cons pe_int pa_nil))) pe_int (nomark _)) (pss_one (ps_set (i := 10) sc_law.nd rfl (.inl rfl) (pe_op op_add_str (pe_op op_add_str pe_str (pv 10)) pe_str))) pss_nil)
      (pss_cons (ps_set (i := 3) sc_law.nd rfl (.inl rfl) (pe_op op_add_str (pv 10) pe_str))
      (pss_cons (ps_set (i := 5) sc_law.nd rfl (.inl rfl) pe_non)
      (Evl.pss_cut (ps_if (pt_cmpR op_gt (pe_op op_sub (pv 8) pe_int) pe_int (nomark _)) (pss_one (ps_set (i := 5) sc_law.nd rfl (.inl rfl) (pe_tup (pa_cons pe_int (pa_cons (pe_op op_add (pe_callB call_len_str (by rfl) z_len PySem.boot_len (pa_cons (pv 10) pa_nil)) pe_int) (pa_cons pe_str pa_nil)))))) pss_nil)
      (pss_cons (ps_if (pt_not (pt_val (pc c_law_same hr (by first | decide | omega) (by rfl) (pa_cons (pc c_law_fault hr (by first | decide | omega) (by rfl) (pa_cons (pe_glob (v := .ref _) (by rfl) D_read_statement.mgf rfl) (pa_cons (pv 3) pa_nil))) (pa_cons (pv 5) pa_nil))))) (pss_one (ps_ret pe_bl)) pss_nil)
      (Evl.pss_cut (ps_if (pt_cmpR op_gt (pe_op op_sub (pv 8) pe_int) pe_int (nomark _)) (pss_one (ps_set (i := 5) sc_law.nd rfl (.inl rfl) (pe_tup (pa_cons pe_int (pa_cons (pe_op op_add (pe_callB call_len_str (by rfl) z_len PySem.boot_len (pa_cons (pv 10) pa_nil)) pe_int) (pa_cons pe_str pa_nil)))))) pss_nil)
      (pss_one (ps_ret (pc c_law_same hr (by first | decide | omega) (by rfl) (pa_cons (pc c_law_fault hr (by first | decide | omega) (by rfl) (pa_cons (pe_glob (v := .ref _) (by rfl) D_read_statement.mgf rfl) (pa_cons (pe_op op_add_str pe_str (pv 10)) pa_nil))) (pa_cons (pv 5) pa_nil)))))))))))))))))))))), ?_⟩
  refine ⟨_, rfl, a, ns, 0, 70, rfl, hA, h63, by decide, by decide, by decide, fun ds p H1 s1 n1 f1 _ => ?_⟩
  walk_at "w"
  refine ⟨p, ds, 15, rfl, f1, by decide, fun c0 h0 h1 => ?_⟩
  walk_at "w"
  refine ⟨by omega, by omega, for_range (lo := 0) (n := c0.toNat) (fun i σ' H' => ∃ (ks : List Nat) (ds : List Int) (du : V) (x6 x7 : Option V), σ' = [some (.ref a), some (.ref p), some (.int c0), some (.str (T (opsT ks))), some (.str (T (List.replicate (npar ks) 41))), some du, x6, x7, none, none, none] ∧ ks.length = i ∧ H' p = some (.lst (ds.map V.int)) ∧ Same H H' ∧ Dp K H' du (dueD (decide (8 < i)) (((opsT (ks.take 8)).length : Nat) + 1 : Int) (Str.ofString "nested too deeply")))
    ⟨[], _, .non, none, none, rfl, rfl, upd_same, Same.mut _ s1 n1, .non⟩ ?_ ?_⟩
  · rintro i _ H2 hi ⟨ks, ds, du, x6, x7, rfl, hl, hp, s2, hdu⟩
    refine ⟨_, rfl, p, ds, 4, rfl, hp, by decide, fun kd k0 k1 => ?_⟩
    have s3 : Same H (upd H2 p (.lst (ds.tail.map V.int))) := Same.mut _ s2 n1
    have kt : KT K H2 (upd H2 p (.lst (ds.tail.map V.int))) := KT.lst _ hp
    have hn := opsT_len ks
    refine ⟨fun σ' H' => ∃ du', σ' = [some (.ref a), some (.ref p), some (.int c0), some (.str (T (opsT ks))), some (.str (T (List.replicate (npar ks) 41))), some du', some (.int (0 + (i : Int))), some (.int kd), none, none, none] ∧ H' p = some (.lst (ds.tail.map V.int)) ∧ Same H H' ∧ Dp K H' du' (dueD (decide (8 < i + 1)) (((opsT ((ks ++ [kd.toNat]).take 8)).length : Nat) + 1 : Int) (Str.ofString "nested too deeply")), ?_, ?_⟩
    · refine ⟨_, rfl, rfl, _, rfl, ite2 (fun e => ?_) (fun e => ?_)⟩
      · have e8 : i = 8 := by have := V.int.inj (of_decide_eq_true e); omega
        have t8 : (ks ++ [kd.toNat]).take 8 = ks := by rw [← e8, ← hl, List.take_left]
        have hb : decide (8 < i + 1) = true := decide_eq_true (by omega)
        rw [hb, t8]
        refine ⟨_, rfl, ⟨_, rfl, by rw [T_len]; exact small9 (by omega), _, _, rfl, rfl, by show 3 ≤ sizeLine; decide, fun u hu => ?_⟩⟩
        have npu : p ≠ u := ne_of_none (H := upd H2 p (.lst (ds.tail.map V.int))) upd_same hu
        refine ⟨_, rfl, (upd_ne npu).trans upd_same, s3.trans (Same.new _ hu), ?_⟩
        rw [T_len]
        exact .tup (.of upd_same) (.cons (.int _) (.cons (.int _) (.cons (.str _) .nil)))
      · have e8 : i ≠ 8 := fun z => by rw [z] at e; exact absurd e (by decide)
        refine ⟨du, rfl, upd_same, s3, ?_⟩
        have h9 : decide (8 < i + 1) = decide (8 < i) := decide_eq_decide.mpr ⟨fun z => by omega, fun z => by omega⟩
        rw [h9]
        by_cases h8 : 8 < i
        · rw [List.take_append_of_le_length (by omega)]
          exact Dp.kt kt dueN hdu
        · rw [decide_eq_false h8] at hdu ⊢
          exact Dp.kt kt (n := 3) dueN hdu
    · rintro _ H4 ⟨du', rfl, hp4, s4, hdu4⟩
      have hz := npar_le ks
      refine ⟨_, rfl, by show 4 ≤ sizeLine; decide, fun t ht => ?_⟩
      refine ⟨_, rfl, t, _, _, _, rfl, rfl, .of upd_same, op_at k0 k1, _, _, rfl, rfl, ?_⟩
      have ho := opT_len kd.toNat
      refine ⟨by rw [T_len, T_len]; exact small9 (by omega), ?_⟩
      rw [T_cat, ← opsT_snoc]
      refine ⟨_, rfl, _, rfl, rfl, .inr ⟨_, rfl, ?_⟩⟩
      have hk : npar (ks ++ [kd.toNat]) = npar ks + (if kd = 3 then 1 else 0) := by
        unfold npar
        rw [List.countP_append, List.countP_singleton]
        by_cases h3 : kd = 3
        · rw [if_pos h3, if_pos (decide_eq_true (by omega))]
        · rw [if_neg h3, if_neg (by rw [decide_eq_false (by omega)]; exact Bool.false_ne_true)]
      have hi2 : (ks ++ [kd.toNat]).length = i + 1 := by rw [List.length_append, hl]; rfl
      have he : (if decide (V.int kd = V.int 3) = true then (1 : Int) else 0) = ((if kd = 3 then 1 else 0 : Nat) : Int) := by
        by_cases h3 : kd = 3
        · rw [decide_eq_true (show V.int kd = V.int 3 by rw [h3]), if_pos rfl, if_pos h3]
          rfl
        · rw [decide_eq_false (show ¬ V.int kd = V.int 3 from fun z => h3 (V.int.inj z)), if_neg Bool.false_ne_true, if_neg h3]
          rfl
      rw [he]
      have h1 : (if kd = 3 then 1 else 0 : Nat) ≤ 1 := by split <;> omega
      generalize (if kd = 3 then 1 else 0 : Nat) = n at hk h1
      refine ⟨_, _, rfl, rfl, by omega, by omega, by decide +kernel, ?_⟩
      rw [lit_T ")", show lit ")" = [41] by decide +kernel, mul_T, show ((n : Int)).toNat = n by omega, show (List.replicate n [41]).flatten = List.replicate n 41 by simp]
      refine ⟨_, _, rfl, rfl, by rw [T_len, T_len, List.length_replicate, List.length_replicate]; exact small9 (by omega), ?_⟩
      rw [T_cat, List.replicate_append_replicate, ← hk]
      exact ⟨_, _, _, _, _, rfl, hi2, (upd_ne (ne_of_none hp4 ht)).trans hp4, s4.trans (Same.new _ ht), Dp.same (Same.new _ ht) hdu4⟩
  · rintro _ H2 ⟨ks, ds, du, x6, x7, rfl, hl, hp, s2, hdu⟩
    have hn := opsT_len ks
    have hz := npar_le ks
    refine ⟨_, rfl, _, _, rfl, rfl, by rw [T_len]; exact small9 (by show _ + 1 ≤ _; omega), ?_⟩
    rw [lit_T "a", T_cat]
    refine ⟨_, rfl, _, _, rfl, rfl, by rw [T_len, T_len, List.length_append, List.length_replicate]; exact small9 (by show _ + 1 + _ ≤ _; omega), ?_⟩
    rw [T_cat]
    have hct : opsT ks ++ lit "a" ++ List.replicate (npar ks) 41 = spellT (conP ks) := (conP_spell ks).symm
    have hcl : (spellT (conP ks)).length ≤ 20000 := by
      rw [← hct, List.length_append, List.length_append, List.length_replicate]
      show _ + 1 + _ ≤ _
      omega
    rw [hct]
    have hkl : ks.length ≤ 14 := by omega
    refine if_fault (te := tVar 3) (i := 5) (b := decide (8 < c0.toNat)) (col := ((opsT (ks.take 8)).length : Nat) + 1) (m := Str.ofString "nested too deeply") (good_con ks) hcl (by rw [conP_spell]; exact con10 ks) hC (fun Z z => ⟨_, rfl, z⟩) (fun hb => ?_) (fun hb => ?_) rfl hdu fun H3 s3 => ?_
    · have hb := of_decide_eq_true hb
      refine ⟨_, (con_read ks).trans (if_pos (by omega)), ?_⟩
      have ht : (conP ks).take (opsP (ks.take 8)).length = opsP (ks.take 8) := by
        unfold conP
        rw [show opsP ks = opsP (ks.take 8) ++ opsP (ks.drop 8) by rw [← opsP_app, List.take_append_drop], List.append_assoc, List.take_left]
      rw [ht, opsP_spell]
    · have hb := of_decide_eq_false hb
      exact ⟨_, _, (con_read ks).trans (if_neg (by omega))⟩
    have hp3 := s3 _ _ hp
    have s4 := s2.trans s3
    refine ⟨_, rfl, p, ds, 29, rfl, hp3, by decide, fun z z0 z1 => ?_⟩
    have s5 : Same H (upd H3 p (.lst (ds.tail.map V.int))) := Same.mut _ s4 n1
    refine ⟨_, _, rfl, rfl, ?_⟩
    refine ⟨by show 2 ≤ sizeLine; decide, fun t ht => ?_⟩
    have npt : p ≠ t := ne_of_none (H := upd H3 p (.lst (ds.tail.map V.int))) upd_same ht
    refine ⟨_, rfl, p, ds.tail, 2, rfl, (upd_ne npt).trans upd_same, by decide, fun wk w0 w1 => ?_⟩
    obtain ⟨bb, hbb⟩ : ∃ bb : Bool, atI [V.str (Str.ofString " and "), .str (Str.ofString " or ")] wk = some (.str (T (wdS bb))) := by
      obtain rfl | rfl : wk = 0 ∨ wk = 1 := by omega
      · exact ⟨true, by rw [show T (wdS true) = Str.ofString " and " from (lit_T _).symm]; rfl⟩
      · exact ⟨false, by rw [show T (wdS false) = Str.ofString " or " from (lit_T _).symm]; rfl⟩
    refine ⟨t, _, _, _, rfl, rfl, .of ((upd_ne npt.symm).trans upd_same), hbb, ?_⟩
    have s6 : ∀ o, Same H (upd (upd (upd H3 p (.lst (ds.tail.map V.int))) t (.tup [V.str (Str.ofString " and "), .str (Str.ofString " or ")])) p o) := fun o => Same.mut o (s5.trans (Same.new _ ht)) n1
    obtain ⟨m, rfl⟩ : ∃ m : Nat, z = (m : Int) := ⟨z.toNat, by omega⟩
    have hm : m ≤ 28 := by omega
    have hwl : (wdS bb).length ≤ 5 := by cases bb <;> decide +kernel
    have hw1 : (wdS bb ++ lit "c").length ≤ 6 := by rw [List.length_append]; show _ + 1 ≤ 6; omega
    have hcl2 : (chT bb (m + 1)).length ≤ 1 + 29 * 6 := by
      unfold chT
      rw [List.length_append, List.length_flatten, List.map_replicate, List.sum_replicate_nat]
      show 1 + (m + 1) * _ ≤ _
      have := Nat.mul_le_mul (show m + 1 ≤ 29 by omega) hw1
      omega
    refine ⟨_, rfl, _, _, rfl, rfl, by rw [T_len]; exact small9 (by show _ + 1 ≤ _; omega), ?_⟩
    refine ⟨_, rfl, _, _, rfl, rfl, ?_⟩
    rw [lit_T "c", T_cat]
    refine ⟨_, _, rfl, rfl, by omega, by omega, by rw [T_len]; omega, ?_⟩
    rw [mul_T, show (2 + (m : Int) - 1).toNat = m + 1 by omega]
    have hfl : (List.replicate (m + 1) (wdS bb ++ lit "c")).flatten.length ≤ 29 * 6 := by
      rw [List.length_flatten, List.map_replicate, List.sum_replicate_nat]
      exact Nat.mul_le_mul (show m + 1 ≤ 29 by omega) hw1
    refine ⟨_, _, rfl, rfl, by rw [lit_T "b", T_len, T_len]; exact small9 (by show 1 + (List.replicate (m + 1) (wdS bb ++ lit "c")).flatten.length ≤ _; omega), ?_⟩
    rw [lit_T "b", T_cat, show lit "b" ++ (List.replicate (m + 1) (wdS bb ++ lit "c")).flatten = chT bb (m + 1) from rfl]
    refine ⟨fun σ' H' => ∃ (par : Bool) (ds : List Int), σ' = [some (.ref a), some (.ref p), some (.int c0), some (.str (T (spellT (conP ks)))), some (.str (T (List.replicate (npar ks) 41))), some du, x6, x7, some (.int (2 + (m : Int))), some (.str (T (wdS bb))), some (.str (T (cpT par bb (m + 1))))] ∧ H' p = some (.lst (ds.map V.int)) ∧ Same H H', ?_, ?_⟩
    · refine ⟨_, rfl, p, _, 2, rfl, upd_same, by decide, fun r r0 r1 => ⟨rfl, _, rfl, ite2 (fun e => ?_) (fun e => ?_)⟩⟩
      · refine ⟨_, rfl, _, _, rfl, rfl, by rw [lit_T "((", T_len, T_len]; exact small9 (by show 2 + (chT bb (m + 1)).length ≤ _; omega), ?_⟩
        rw [lit_T "((", T_cat]
        refine ⟨_, _, rfl, rfl, by rw [lit_T "))", T_len, T_len, List.length_append]; exact small9 (by show 2 + (chT bb (m + 1)).length + 2 ≤ _; omega), ?_⟩
        rw [lit_T "))", T_cat, upd_upd]
        exact ⟨true, _, rfl, upd_same, s6 _⟩
      · rw [upd_upd]
        exact ⟨false, _, rfl, upd_same, s6 _⟩
    rintro _ H5 ⟨par, ds2, rfl, hp5, s7⟩
    have hpl : (cpT par bb (m + 1)).length ≤ 1 + 29 * 6 + 4 := by
      cases par with
      | false => show (chT bb (m + 1)).length ≤ _; omega
      | true =>
        show (lit "((" ++ chT bb (m + 1) ++ lit "))").length ≤ _
        rw [List.length_append, List.length_append]
        show 2 + _ + 2 ≤ _
        omega
    refine ⟨_, rfl, _, _, rfl, rfl, by rw [T_len]; exact small9 (by show _ + 8 ≤ _; omega), ?_⟩
    rw [lit_T " below b", T_cat, ← tx1_spell]
    have hd12 : decide ((2 + (m : Int) - 1) > 12) = decide (12 < m + 1) := decide_eq_decide.mpr ⟨fun z => by omega, fun z => by omega⟩
    have due : ∀ (j : Nat) (c : Int) (σ : L2.St) (H6 : Hp) (D : Ends) (l : List Nat), σ[8]? = some (some (.int (2 + (m : Int)))) → σ[10]? = some (some (.str (T (cpT par bb (m + 1))))) → Same H H6 → H6 p = some (.lst (ds2.map V.int)) → c = ((cpT par bb (m + 1)).length : Nat) + j →
        (12 < m + 1 → ∀ u, H6 u = none → D.nx (σ.set 5 (some (.ref u))) (upd H6 u (.tup [.int 1, .int c, .str (Str.ofString "too many operators")]))) → (¬ 12 < m + 1 → D.nx σ H6) →
        tIfS (tTest (tOp (rI0 fun i j => V.bl (decide (j < i))) (tOp (rI0 fun i j => V.int (i - j)) (tVar 8) (tC (.int 1))) (tC (.int 12)))) (tAsg (tTup (tCons (tC (.int 1)) (tCons (tOp (rI0 fun i j => V.int (i + j)) (tCB (fun xs H Q => ∃ z, xs = [V.str z] ∧ z.length ≤ sizeLine ∧ Q (V.int ↑z.length) H) (tCons (tVar 10) tNil)) (tC (.int (j : Int)))) (tCons (tC (.str (Str.ofString "too many operators"))) tNil)))) (gName 5)) tNext D σ H6 := fun j c σ H6 D l h8 h10 s8 hp8 hc qT qF => by
      refine ⟨_, h8, _, _, rfl, rfl, _, _, rfl, rfl, _, rfl, ite2 (fun e => ?_) (fun e => ?_)⟩
      · have h12 : 12 < m + 1 := by have := of_decide_eq_true e; omega
        refine ⟨_, h10, ⟨_, rfl, by rw [T_len]; exact small9 (by omega), _, _, rfl, rfl, by show 3 ≤ sizeLine; decide, fun u hu => ?_⟩⟩
        have e2 : (fun i j => V.int (i + j)) (((T (cpT par bb (m + 1))).length : Nat) : Int) (j : Int) = V.int c := by rw [T_len, hc]
        rw [e2]
        exact qT h12 u hu
      · exact qF fun z => by exact e (decide_eq_true (show (12 : Int) < 2 + (m : Int) - 1 by omega))
    have hl1 : (spellT (tx1 par bb (m + 1))).length ≤ 20000 := by
      rw [tx1_spell, List.length_append]
      show _ + 8 ≤ _
      omega
    have hl2 : (spellT (tx2 par bb (m + 1))).length ≤ 20000 := by
      rw [tx2_spell, List.length_append]
      show 8 + _ ≤ _
      omega
    have r1 : ∀ b : Bool, b = decide (12 < m + 1) → b = true → ∃ e, rWhole (fun W => rStm (wdW W) W.length) (tokensOf (tx1 par bb (m + 1)) 0) = .er e (Str.ofString "too many operators") ∧ (((cpT par bb (m + 1)).length : Nat) + (2 : Nat) : Int) = ((spellT ((tx1 par bb (m + 1)).take e)).length : Nat) + 1 := fun b hb hb1 => by
      refine ⟨_, (tx1_read par bb m).trans (if_pos (of_decide_eq_true (hb.symm.trans hb1))), ?_⟩
      unfold tx1
      rw [List.take_left, cpP_spell, List.length_append]
      show _ = (((cpT par bb (m + 1)).length + 1 : Nat) : Int) + 1
      omega
    have r2 : ∀ b : Bool, b = decide (12 < m + 1) → b = true → ∃ e, rWhole (fun W => rStm (wdW W) W.length) (tokensOf (tx2 par bb (m + 1)) 0) = .er e (Str.ofString "too many operators") ∧ (((cpT par bb (m + 1)).length : Nat) + (9 : Nat) : Int) = ((spellT ((tx2 par bb (m + 1)).take e)).length : Nat) + 1 := fun b hb hb1 => by
      refine ⟨_, (tx2_read par bb m).trans (if_pos (of_decide_eq_true (hb.symm.trans hb1))), ?_⟩
      rw [List.take_length, tx2_spell, List.length_append]
      show _ = ((8 + (cpT par bb (m + 1)).length : Nat) : Int) + 1
      omega
    have n1' : ∀ b : Bool, b = decide (12 < m + 1) → b = false → ∃ x j, rWhole (fun W => rStm (wdW W) W.length) (tokensOf (tx1 par bb (m + 1)) 0) = .ok x j := fun b hb hb1 => ⟨_, _, (tx1_read par bb m).trans (if_neg (of_decide_eq_false (hb.symm.trans hb1)))⟩
    have n2' : ∀ b : Bool, b = decide (12 < m + 1) → b = false → ∃ x j, rWhole (fun W => rStm (wdW W) W.length) (tokensOf (tx2 par bb (m + 1)) 0) = .ok x j := fun b hb hb1 => ⟨_, _, (tx2_read par bb m).trans (if_neg (of_decide_eq_false (hb.symm.trans hb1)))⟩
    refine ⟨fun σ' H' => ∃ (v : V), σ' = [some (.ref a), some (.ref p), some (.int c0), some (.str (T (spellT (tx1 par bb (m + 1))))), some (.str (T (List.replicate (npar ks) 41))), some v, x6, x7, some (.int (2 + (m : Int))), some (.str (T (wdS bb))), some (.str (T (cpT par bb (m + 1))))] ∧ H' p = some (.lst (ds2.map V.int)) ∧ Same H H' ∧ Dp K H' v (dueD (decide (12 < m + 1)) (((cpT par bb (m + 1)).length : Nat) + (2 : Nat) : Int) (Str.ofString "too many operators")), ?_, ?_⟩
    · refine due 2 _ _ _ _ [] rfl rfl s7 hp5 rfl (fun h u hu => ?_) (fun h => ?_)
      · rw [decide_eq_true h]
        exact ⟨_, rfl, (upd_ne (ne_of_none hp5 hu)).trans hp5, s7.trans (Same.new _ hu), .tup (.of upd_same) (.cons (.int _) (.cons (.int _) (.cons (.str _) .nil)))⟩
      · rw [decide_eq_false h]
        exact ⟨_, rfl, hp5, s7, .non⟩
    rintro _ H6 ⟨v, rfl, hp6, s8, hv⟩
    refine if_fault (te := tVar 3) (i := 5) (good_tx1 par bb (m + 1)) hl1 (tx1_10 par bb (m + 1)) hS (fun Z z => ⟨_, rfl, z⟩) (r1 _ rfl) (n1' _ rfl) rfl hv fun H7 s9 => ?_
    have s10 := s8.trans s9
    have hp7 := s9 _ _ hp6
    refine ⟨fun σ' H' => ∃ (v : V) (x3 : Option V), σ' = [some (.ref a), some (.ref p), some (.int c0), x3, some (.str (T (List.replicate (npar ks) 41))), some v, x6, x7, some (.int (2 + (m : Int))), some (.str (T (wdS bb))), some (.str (T (cpT par bb (m + 1))))] ∧ Dp K H' v (dueD (decide (12 < m + 1)) (((cpT par bb (m + 1)).length : Nat) + (9 : Nat) : Int) (Str.ofString "too many operators")), ?_, ?_⟩
    · refine due 9 _ _ _ _ [] rfl rfl s10 hp7 rfl (fun h u hu => ?_) (fun h => ?_)
      · rw [decide_eq_true h]
        exact ⟨_, _, rfl, .tup (.of upd_same) (.cons (.int _) (.cons (.int _) (.cons (.str _) .nil)))⟩
      · rw [decide_eq_false h] at hv ⊢
        exact ⟨_, _, rfl, Dp.same s9 hv⟩
    rintro _ H8 ⟨v2, x3, rfl, hv2⟩
    refine x_fault (good_tx2 par bb (m + 1)) hl2 (tx2_10 par bb (m + 1)) hS (fun Z z => ?_) (r2 _ rfl) (n2' _ rfl) fun v' H9 e9 d9 => ?_
    · refine ⟨_, rfl, _, _, rfl, rfl, by rw [lit_T "b below ", T_len, T_len]; exact small9 (by show 8 + _ ≤ _; omega), ?_⟩
      rw [lit_T "b below ", T_cat, ← tx2_spell]
      exact z
    · exact ⟨_, rfl, v', v2, _, rfl, d9, Dp.same e9 hv2, dueN, fun H10 _ => q H10⟩
end
end Pf
namespace Pf
open PySem PySem.Spec PyProof.Rows L2
/-! several defs that a slot may hold -/
def sTwo (a b : Addr) (s t : Sp) : Addr → Option Sp := fun x => if x = a then some s else if x = b then some t else none
theorem sTwo_a {a b : Addr} {s t : Sp} : sTwo a b s t a = some s := if_pos rfl
theorem sTwo_b {a b : Addr} {s t : Sp} (h : b ≠ a) : sTwo a b s t b = some t := (if_neg h).trans (if_pos rfl)
def sOne (a : Addr) (s : Sp) : Addr → Option Sp := fun x => if x = a then some s else none
theorem sOne_a {a : Addr} {s : Sp} : sOne a s a = some s := if_pos rfl
theorem ClX.held {P : Program} {w : World} {K : PySem.W.Frag} {mg : Str → Option Value} {base : Heap} {k : Nat} {x : Str} {f : Addr} {sp : Sp} (c : ClX P w K mg base k x sp) (h : mg x = some (.ref f)) : HeldX P w K mg base k f sp := by
  obtain ⟨f', fd, ps, F, hm, kp, b⟩ := c.ex
  rw [h] at hm
  cases hm
  exact ⟨fd, ps, F, kp, b⟩
theorem ClH.held {P : Program} {w : World} {K : PySem.W.Frag} {mg : Str → Option Value} {base : Heap} {k : Nat} {x : Str} {f : Addr} {sp : Sp} (c : ClH P w K mg base k x sp) (h : mg x = some (.ref f)) : HeldH P w K mg base k f sp := by
  obtain ⟨f', fd, ps, F, hm, kp, b⟩ := c.ex
  rw [h] at hm
  cases hm
  exact ⟨fd, ps, F, kp, b⟩
theorem two_held {P : Program} {w : World} {K : PySem.W.Frag} {mg : Str → Option Value} {base : Heap} {k : Nat} {a b : Addr} {s t : Sp} (h1 : HeldX P w K mg base k a s) (h2 : HeldX P w K mg base k b t) (f : Addr) (sp : Sp) (h : sTwo a b s t f = some sp) : HeldX P w K mg base k f sp := by
  unfold sTwo at h
  split at h
  · next e => cases h; rw [e]; exact h1
  · split at h
    · next e => cases h; rw [e]; exact h2
    · cases h
theorem one_heldH {P : Program} {w : World} {K : PySem.W.Frag} {mg : Str → Option Value} {base : Heap} {k : Nat} {a : Addr} {s : Sp} (h1 : HeldH P w K mg base k a s) (f : Addr) (sp : Sp) (h : sOne a s f = some sp) : HeldH P w K mg base k f sp := by
  unfold sOne at h
  split at h
  · next e => cases h; rw [e]; exact h1
  · cases h
theorem all_mk {l : PySem.W.OpenLaw} {w : World} {K : PySem.W.Frag} {h : Heap} {mg : Str → Option Value} {fa : Addr} (X : K.In h) (G : h.Ns mainGlobals mg) (hfa : mg "law" = some (.ref fa))
    {f_place : Addr} {od_place an_place : Option Addr} {sl_place : Array (Option Value)} {oc_place kV_place dc_place pm_place cd_place ct_place : Value}
    {f_is_name : Addr} {od_is_name an_is_name : Option Addr} {sl_is_name : Array (Option Value)} {oc_is_name kV_is_name dc_is_name pm_is_name cd_is_name ct_is_name : Value}
    {f_split_tokens : Addr} {od_split_tokens an_split_tokens : Option Addr} {sl_split_tokens : Array (Option Value)} {oc_split_tokens kV_split_tokens dc_split_tokens pm_split_tokens cd_split_tokens ct_split_tokens : Value}
    {f_comment_end : Addr} {od_comment_end an_comment_end : Option Addr} {sl_comment_end : Array (Option Value)} {oc_comment_end kV_comment_end dc_comment_end pm_comment_end cd_comment_end ct_comment_end : Value}
    {f_word_at : Addr} {od_word_at an_word_at : Option Addr} {sl_word_at : Array (Option Value)} {oc_word_at kV_word_at dc_word_at pm_word_at cd_word_at ct_word_at : Value}
    {f_word_end : Addr} {od_word_end an_word_end : Option Addr} {sl_word_end : Array (Option Value)} {oc_word_end kV_word_end dc_word_end pm_word_end cd_word_end ct_word_end : Value}
    {f_statement : Addr} {od_statement an_statement : Option Addr} {sl_statement : Array (Option Value)} {oc_statement kV_statement dc_statement pm_statement cd_statement ct_statement : Value}
    {f_role : Addr} {od_role an_role : Option Addr} {sl_role : Array (Option Value)} {oc_role kV_role dc_role pm_role cd_role ct_role : Value}
    {f_concept : Addr} {od_concept an_concept : Option Addr} {sl_concept : Array (Option Value)} {oc_concept kV_concept dc_concept pm_concept cd_concept ct_concept : Value}
    {f_is_name_before : Addr} {od_is_name_before an_is_name_before : Option Addr} {sl_is_name_before : Array (Option Value)} {oc_is_name_before kV_is_name_before dc_is_name_before pm_is_name_before cd_is_name_before ct_is_name_before : Value}
    {f_begins_fact : Addr} {od_begins_fact an_begins_fact : Option Addr} {sl_begins_fact : Array (Option Value)} {oc_begins_fact kV_begins_fact dc_begins_fact pm_begins_fact cd_begins_fact ct_begins_fact : Value}
    {f_fact : Addr} {od_fact an_fact : Option Addr} {sl_fact : Array (Option Value)} {oc_fact kV_fact dc_fact pm_fact cd_fact ct_fact : Value}
    {f_comparison : Addr} {od_comparison an_comparison : Option Addr} {sl_comparison : Array (Option Value)} {oc_comparison kV_comparison dc_comparison pm_comparison cd_comparison ct_comparison : Value}
    {f_alternatives : Addr} {od_alternatives an_alternatives : Option Addr} {sl_alternatives : Array (Option Value)} {oc_alternatives kV_alternatives dc_alternatives pm_alternatives cd_alternatives ct_alternatives : Value}
    {f_both : Addr} {od_both an_both : Option Addr} {sl_both : Array (Option Value)} {oc_both kV_both dc_both pm_both cd_both ct_both : Value}
    {f_chain : Addr} {od_chain an_chain : Option Addr} {sl_chain : Array (Option Value)} {oc_chain kV_chain dc_chain pm_chain cd_chain ct_chain : Value}
    {f_front : Addr} {od_front an_front : Option Addr} {sl_front : Array (Option Value)} {oc_front kV_front dc_front pm_front cd_front ct_front : Value}
    {f_atom : Addr} {od_atom an_atom : Option Addr} {sl_atom : Array (Option Value)} {oc_atom kV_atom dc_atom pm_atom cd_atom ct_atom : Value}
    {f_step_deeper : Addr} {od_step_deeper an_step_deeper : Option Addr} {sl_step_deeper : Array (Option Value)} {oc_step_deeper kV_step_deeper dc_step_deeper pm_step_deeper cd_step_deeper ct_step_deeper : Value}
    {f_read_statement : Addr} {od_read_statement an_read_statement : Option Addr} {sl_read_statement : Array (Option Value)} {oc_read_statement kV_read_statement dc_read_statement pm_read_statement cd_read_statement ct_read_statement : Value}
    {f_read_concept : Addr} {od_read_concept an_read_concept : Option Addr} {sl_read_concept : Array (Option Value)} {oc_read_concept kV_read_concept dc_read_concept pm_read_concept cd_read_concept ct_read_concept : Value}
    {f_read_whole : Addr} {od_read_whole an_read_whole : Option Addr} {sl_read_whole : Array (Option Value)} {oc_read_whole kV_read_whole dc_read_whole pm_read_whole cd_read_whole ct_read_whole : Value}
    {f_law_cell : Addr} {od_law_cell an_law_cell : Option Addr} {sl_law_cell : Array (Option Value)} {oc_law_cell kV_law_cell dc_law_cell pm_law_cell cd_law_cell ct_law_cell : Value}
    {f_law_draws : Addr} {od_law_draws an_law_draws : Option Addr} {sl_law_draws : Array (Option Value)} {oc_law_draws kV_law_draws dc_law_draws pm_law_draws cd_law_draws ct_law_draws : Value}
    {f_law_take : Addr} {od_law_take an_law_take : Option Addr} {sl_law_take : Array (Option Value)} {oc_law_take kV_law_take dc_law_take pm_law_take cd_law_take ct_law_take : Value}
    {f_law_same : Addr} {od_law_same an_law_same : Option Addr} {sl_law_same : Array (Option Value)} {oc_law_same kV_law_same dc_law_same pm_law_same cd_law_same ct_law_same : Value}
    {f_law_fault : Addr} {od_law_fault an_law_fault : Option Addr} {sl_law_fault : Array (Option Value)} {oc_law_fault kV_law_fault dc_law_fault pm_law_fault cd_law_fault ct_law_fault : Value}
    {C_OntoError : Addr}
    {C_FaultyText : Addr} {nm_FaultyText} {qn_FaultyText} {N_FaultyText} {bs_FaultyText} {bm_FaultyText} {sn_FaultyText} {sub_FaultyText} {ab_FaultyText} {col_FaultyText} {dd_FaultyText} {k0_FaultyText} {k1_FaultyText} {k2_FaultyText} {k3_FaultyText} {k5_FaultyText}
    {f_FaultyText_init : Addr} {od_FaultyText_init an_FaultyText_init : Option Addr} {sl_FaultyText_init : Array (Option Value)} {oc_FaultyText_init kV_FaultyText_init dc_FaultyText_init pm_FaultyText_init cd_FaultyText_init ct_FaultyText_init : Value}
    {C_Cursor : Addr}
    {f_Cursor_init : Addr} {od_Cursor_init an_Cursor_init : Option Addr} {sl_Cursor_init : Array (Option Value)} {oc_Cursor_init kV_Cursor_init dc_Cursor_init pm_Cursor_init cd_Cursor_init ct_Cursor_init : Value}
    {f_Cursor_word : Addr} {od_Cursor_word an_Cursor_word : Option Addr} {sl_Cursor_word : Array (Option Value)} {oc_Cursor_word kV_Cursor_word dc_Cursor_word pm_Cursor_word cd_Cursor_word ct_Cursor_word : Value}
    {f_Cursor_word_behind : Addr} {od_Cursor_word_behind an_Cursor_word_behind : Option Addr} {sl_Cursor_word_behind : Array (Option Value)} {oc_Cursor_word_behind kV_Cursor_word_behind dc_Cursor_word_behind pm_Cursor_word_behind cd_Cursor_word_behind ct_Cursor_word_behind : Value}
    {f_Cursor_at_end : Addr} {od_Cursor_at_end an_Cursor_at_end : Option Addr} {sl_Cursor_at_end : Array (Option Value)} {oc_Cursor_at_end kV_Cursor_at_end dc_Cursor_at_end pm_Cursor_at_end cd_Cursor_at_end ct_Cursor_at_end : Value}
    {f_Cursor_step : Addr} {od_Cursor_step an_Cursor_step : Option Addr} {sl_Cursor_step : Array (Option Value)} {oc_Cursor_step kV_Cursor_step dc_Cursor_step pm_Cursor_step cd_Cursor_step ct_Cursor_step : Value}
    {f_Cursor_expect : Addr} {od_Cursor_expect an_Cursor_expect : Option Addr} {sl_Cursor_expect : Array (Option Value)} {oc_Cursor_expect kV_Cursor_expect dc_Cursor_expect pm_Cursor_expect cd_Cursor_expect ct_Cursor_expect : Value}
    {f_Cursor_take_name : Addr} {od_Cursor_take_name an_Cursor_take_name : Option Addr} {sl_Cursor_take_name : Array (Option Value)} {oc_Cursor_take_name kV_Cursor_take_name dc_Cursor_take_name pm_Cursor_take_name cd_Cursor_take_name ct_Cursor_take_name : Value}
    {f_Cursor_here : Addr} {od_Cursor_here an_Cursor_here : Option Addr} {sl_Cursor_here : Array (Option Value)} {oc_Cursor_here kV_Cursor_here dc_Cursor_here pm_Cursor_here cd_Cursor_here ct_Cursor_here : Value}
    {f_Cursor_fail : Addr} {od_Cursor_fail an_Cursor_fail : Option Addr} {sl_Cursor_fail : Array (Option Value)} {oc_Cursor_fail kV_Cursor_fail dc_Cursor_fail pm_Cursor_fail cd_Cursor_fail ct_Cursor_fail : Value}
    {t_BLANKS : Tok}
    {t_SIGNS : Tok}
    {t_LETTERS : Tok}
    {t_DIGITS : Tok}
    {t_LONGEST_WORD : Tok}
    {r_RESERVED : Addr} {oo_RESERVED : Option Addr} {os_RESERVED : Array (Option Value)} {i_RESERVED : Array Value} {n_RESERVED : Nat}
    {t_DEEPEST_LEVEL : Tok}
    {t_GREATEST_HEIGHT : Tok}
    {od_law an_law : Option Addr} {sl_law : Array (Option Value)} {oc_law kV_law dc_law pm_law cd_law ct_law : Value} {f_law : Addr}
    (a_place : PySem.W.nsIn K mainGlobals "place" = some (some (.ref f_place))) (l_place : K.lookup f_place = some ⟨oc_place, od_place, .func (PySem.W.fnOf "place" "place" (defArgs s_place) (defBody s_place) (defScope s_place) .none kV_place dc_place pm_place an_place cd_place ct_place), sl_place⟩) (w_place : PySem.W.codeIn K cd_place "place" = true) (k_place : PySem.W.keepIn K (.ref f_place) = true)
    (a_is_name : PySem.W.nsIn K mainGlobals "is_name" = some (some (.ref f_is_name))) (l_is_name : K.lookup f_is_name = some ⟨oc_is_name, od_is_name, .func (PySem.W.fnOf "is_name" "is_name" (defArgs s_is_name) (defBody s_is_name) (defScope s_is_name) .none kV_is_name dc_is_name pm_is_name an_is_name cd_is_name ct_is_name), sl_is_name⟩) (w_is_name : PySem.W.codeIn K cd_is_name "is_name" = true) (k_is_name : PySem.W.keepIn K (.ref f_is_name) = true)
    (a_split_tokens : PySem.W.nsIn K mainGlobals "split_tokens" = some (some (.ref f_split_tokens))) (l_split_tokens : K.lookup f_split_tokens = some ⟨oc_split_tokens, od_split_tokens, .func (PySem.W.fnOf "split_tokens" "split_tokens" (defArgs s_split_tokens) (defBody s_split_tokens) (defScope s_split_tokens) .none kV_split_tokens dc_split_tokens pm_split_tokens an_split_tokens cd_split_tokens ct_split_tokens), sl_split_tokens⟩) (w_split_tokens : PySem.W.codeIn K cd_split_tokens "split_tokens" = true) (k_split_tokens : PySem.W.keepIn K (.ref f_split_tokens) = true)
    (a_comment_end : PySem.W.nsIn K mainGlobals "_comment_end" = some (some (.ref f_comment_end))) (l_comment_end : K.lookup f_comment_end = some ⟨oc_comment_end, od_comment_end, .func (PySem.W.fnOf "_comment_end" "_comment_end" (defArgs s_comment_end) (defBody s_comment_end) (defScope s_comment_end) .none kV_comment_end dc_comment_end pm_comment_end an_comment_end cd_comment_end ct_comment_end), sl_comment_end⟩) (w_comment_end : PySem.W.codeIn K cd_comment_end "_comment_end" = true) (k_comment_end : PySem.W.keepIn K (.ref f_comment_end) = true)
    (a_word_at : PySem.W.nsIn K mainGlobals "_word_at" = some (some (.ref f_word_at))) (l_word_at : K.lookup f_word_at = some ⟨oc_word_at, od_word_at, .func (PySem.W.fnOf "_word_at" "_word_at" (defArgs s_word_at) (defBody s_word_at) (defScope s_word_at) .none kV_word_at dc_word_at pm_word_at an_word_at cd_word_at ct_word_at), sl_word_at⟩) (w_word_at : PySem.W.codeIn K cd_word_at "_word_at" = true) (k_word_at : PySem.W.keepIn K (.ref f_word_at) = true)
    (a_word_end : PySem.W.nsIn K mainGlobals "_word_end" = some (some (.ref f_word_end))) (l_word_end : K.lookup f_word_end = some ⟨oc_word_end, od_word_end, .func (PySem.W.fnOf "_word_end" "_word_end" (defArgs s_word_end) (defBody s_word_end) (defScope s_word_end) .none kV_word_end dc_word_end pm_word_end an_word_end cd_word_end ct_word_end), sl_word_end⟩) (w_word_end : PySem.W.codeIn K cd_word_end "_word_end" = true) (k_word_end : PySem.W.keepIn K (.ref f_word_end) = true)
    (a_statement : PySem.W.nsIn K mainGlobals "statement" = some (some (.ref f_statement))) (l_statement : K.lookup f_statement = some ⟨oc_statement, od_statement, .func (PySem.W.fnOf "statement" "statement" (defArgs s_statement) (defBody s_statement) (defScope s_statement) .none kV_statement dc_statement pm_statement an_statement cd_statement ct_statement), sl_statement⟩) (w_statement : PySem.W.codeIn K cd_statement "statement" = true) (k_statement : PySem.W.keepIn K (.ref f_statement) = true)
    (a_role : PySem.W.nsIn K mainGlobals "role" = some (some (.ref f_role))) (l_role : K.lookup f_role = some ⟨oc_role, od_role, .func (PySem.W.fnOf "role" "role" (defArgs s_role) (defBody s_role) (defScope s_role) .none kV_role dc_role pm_role an_role cd_role ct_role), sl_role⟩) (w_role : PySem.W.codeIn K cd_role "role" = true) (k_role : PySem.W.keepIn K (.ref f_role) = true)
    (a_concept : PySem.W.nsIn K mainGlobals "concept" = some (some (.ref f_concept))) (l_concept : K.lookup f_concept = some ⟨oc_concept, od_concept, .func (PySem.W.fnOf "concept" "concept" (defArgs s_concept) (defBody s_concept) (defScope s_concept) .none kV_concept dc_concept pm_concept an_concept cd_concept ct_concept), sl_concept⟩) (w_concept : PySem.W.codeIn K cd_concept "concept" = true) (k_concept : PySem.W.keepIn K (.ref f_concept) = true)
    (a_is_name_before : PySem.W.nsIn K mainGlobals "_is_name_before" = some (some (.ref f_is_name_before))) (l_is_name_before : K.lookup f_is_name_before = some ⟨oc_is_name_before, od_is_name_before, .func (PySem.W.fnOf "_is_name_before" "_is_name_before" (defArgs s_is_name_before) (defBody s_is_name_before) (defScope s_is_name_before) .none kV_is_name_before dc_is_name_before pm_is_name_before an_is_name_before cd_is_name_before ct_is_name_before), sl_is_name_before⟩) (w_is_name_before : PySem.W.codeIn K cd_is_name_before "_is_name_before" = true) (k_is_name_before : PySem.W.keepIn K (.ref f_is_name_before) = true)
    (a_begins_fact : PySem.W.nsIn K mainGlobals "_begins_fact" = some (some (.ref f_begins_fact))) (l_begins_fact : K.lookup f_begins_fact = some ⟨oc_begins_fact, od_begins_fact, .func (PySem.W.fnOf "_begins_fact" "_begins_fact" (defArgs s_begins_fact) (defBody s_begins_fact) (defScope s_begins_fact) .none kV_begins_fact dc_begins_fact pm_begins_fact an_begins_fact cd_begins_fact ct_begins_fact), sl_begins_fact⟩) (w_begins_fact : PySem.W.codeIn K cd_begins_fact "_begins_fact" = true) (k_begins_fact : PySem.W.keepIn K (.ref f_begins_fact) = true)
    (a_fact : PySem.W.nsIn K mainGlobals "_fact" = some (some (.ref f_fact))) (l_fact : K.lookup f_fact = some ⟨oc_fact, od_fact, .func (PySem.W.fnOf "_fact" "_fact" (defArgs s_fact) (defBody s_fact) (defScope s_fact) .none kV_fact dc_fact pm_fact an_fact cd_fact ct_fact), sl_fact⟩) (w_fact : PySem.W.codeIn K cd_fact "_fact" = true) (k_fact : PySem.W.keepIn K (.ref f_fact) = true)
    (a_comparison : PySem.W.nsIn K mainGlobals "_comparison" = some (some (.ref f_comparison))) (l_comparison : K.lookup f_comparison = some ⟨oc_comparison, od_comparison, .func (PySem.W.fnOf "_comparison" "_comparison" (defArgs s_comparison) (defBody s_comparison) (defScope s_comparison) .none kV_comparison dc_comparison pm_comparison an_comparison cd_comparison ct_comparison), sl_comparison⟩) (w_comparison : PySem.W.codeIn K cd_comparison "_comparison" = true) (k_comparison : PySem.W.keepIn K (.ref f_comparison) = true)
    (a_alternatives : PySem.W.nsIn K mainGlobals "_alternatives" = some (some (.ref f_alternatives))) (l_alternatives : K.lookup f_alternatives = some ⟨oc_alternatives, od_alternatives, .func (PySem.W.fnOf "_alternatives" "_alternatives" (defArgs s_alternatives) (defBody s_alternatives) (defScope s_alternatives) .none kV_alternatives dc_alternatives pm_alternatives an_alternatives cd_alternatives ct_alternatives), sl_alternatives⟩) (w_alternatives : PySem.W.codeIn K cd_alternatives "_alternatives" = true) (k_alternatives : PySem.W.keepIn K (.ref f_alternatives) = true)
    (a_both : PySem.W.nsIn K mainGlobals "_both" = some (some (.ref f_both))) (l_both : K.lookup f_both = some ⟨oc_both, od_both, .func (PySem.W.fnOf "_both" "_both" (defArgs s_both) (defBody s_both) (defScope s_both) .none kV_both dc_both pm_both an_both cd_both ct_both), sl_both⟩) (w_both : PySem.W.codeIn K cd_both "_both" = true) (k_both : PySem.W.keepIn K (.ref f_both) = true)
    (a_chain : PySem.W.nsIn K mainGlobals "_chain" = some (some (.ref f_chain))) (l_chain : K.lookup f_chain = some ⟨oc_chain, od_chain, .func (PySem.W.fnOf "_chain" "_chain" (defArgs s_chain) (defBody s_chain) (defScope s_chain) .none kV_chain dc_chain pm_chain an_chain cd_chain ct_chain), sl_chain⟩) (w_chain : PySem.W.codeIn K cd_chain "_chain" = true) (k_chain : PySem.W.keepIn K (.ref f_chain) = true)
    (a_front : PySem.W.nsIn K mainGlobals "_front" = some (some (.ref f_front))) (l_front : K.lookup f_front = some ⟨oc_front, od_front, .func (PySem.W.fnOf "_front" "_front" (defArgs s_front) (defBody s_front) (defScope s_front) .none kV_front dc_front pm_front an_front cd_front ct_front), sl_front⟩) (w_front : PySem.W.codeIn K cd_front "_front" = true) (k_front : PySem.W.keepIn K (.ref f_front) = true)
    (a_atom : PySem.W.nsIn K mainGlobals "_atom" = some (some (.ref f_atom))) (l_atom : K.lookup f_atom = some ⟨oc_atom, od_atom, .func (PySem.W.fnOf "_atom" "_atom" (defArgs s_atom) (defBody s_atom) (defScope s_atom) .none kV_atom dc_atom pm_atom an_atom cd_atom ct_atom), sl_atom⟩) (w_atom : PySem.W.codeIn K cd_atom "_atom" = true) (k_atom : PySem.W.keepIn K (.ref f_atom) = true)
    (a_step_deeper : PySem.W.nsIn K mainGlobals "_step_deeper" = some (some (.ref f_step_deeper))) (l_step_deeper : K.lookup f_step_deeper = some ⟨oc_step_deeper, od_step_deeper, .func (PySem.W.fnOf "_step_deeper" "_step_deeper" (defArgs s_step_deeper) (defBody s_step_deeper) (defScope s_step_deeper) .none kV_step_deeper dc_step_deeper pm_step_deeper an_step_deeper cd_step_deeper ct_step_deeper), sl_step_deeper⟩) (w_step_deeper : PySem.W.codeIn K cd_step_deeper "_step_deeper" = true) (k_step_deeper : PySem.W.keepIn K (.ref f_step_deeper) = true)
    (a_read_statement : PySem.W.nsIn K mainGlobals "read_statement" = some (some (.ref f_read_statement))) (l_read_statement : K.lookup f_read_statement = some ⟨oc_read_statement, od_read_statement, .func (PySem.W.fnOf "read_statement" "read_statement" (defArgs s_read_statement) (defBody s_read_statement) (defScope s_read_statement) .none kV_read_statement dc_read_statement pm_read_statement an_read_statement cd_read_statement ct_read_statement), sl_read_statement⟩) (w_read_statement : PySem.W.codeIn K cd_read_statement "read_statement" = true) (k_read_statement : PySem.W.keepIn K (.ref f_read_statement) = true)
    (a_read_concept : PySem.W.nsIn K mainGlobals "read_concept" = some (some (.ref f_read_concept))) (l_read_concept : K.lookup f_read_concept = some ⟨oc_read_concept, od_read_concept, .func (PySem.W.fnOf "read_concept" "read_concept" (defArgs s_read_concept) (defBody s_read_concept) (defScope s_read_concept) .none kV_read_concept dc_read_concept pm_read_concept an_read_concept cd_read_concept ct_read_concept), sl_read_concept⟩) (w_read_concept : PySem.W.codeIn K cd_read_concept "read_concept" = true) (k_read_concept : PySem.W.keepIn K (.ref f_read_concept) = true)
    (a_read_whole : PySem.W.nsIn K mainGlobals "_read_whole" = some (some (.ref f_read_whole))) (l_read_whole : K.lookup f_read_whole = some ⟨oc_read_whole, od_read_whole, .func (PySem.W.fnOf "_read_whole" "_read_whole" (defArgs s_read_whole) (defBody s_read_whole) (defScope s_read_whole) .none kV_read_whole dc_read_whole pm_read_whole an_read_whole cd_read_whole ct_read_whole), sl_read_whole⟩) (w_read_whole : PySem.W.codeIn K cd_read_whole "_read_whole" = true) (k_read_whole : PySem.W.keepIn K (.ref f_read_whole) = true)
    (a_law_cell : PySem.W.nsIn K mainGlobals "_law_cell" = some (some (.ref f_law_cell))) (l_law_cell : K.lookup f_law_cell = some ⟨oc_law_cell, od_law_cell, .func (PySem.W.fnOf "_law_cell" "_law_cell" (defArgs s_law_cell) (defBody s_law_cell) (defScope s_law_cell) .none kV_law_cell dc_law_cell pm_law_cell an_law_cell cd_law_cell ct_law_cell), sl_law_cell⟩) (w_law_cell : PySem.W.codeIn K cd_law_cell "_law_cell" = true) (k_law_cell : PySem.W.keepIn K (.ref f_law_cell) = true)
    (a_law_draws : PySem.W.nsIn K mainGlobals "_law_draws" = some (some (.ref f_law_draws))) (l_law_draws : K.lookup f_law_draws = some ⟨oc_law_draws, od_law_draws, .func (PySem.W.fnOf "_law_draws" "_law_draws" (defArgs s_law_draws) (defBody s_law_draws) (defScope s_law_draws) .none kV_law_draws dc_law_draws pm_law_draws an_law_draws cd_law_draws ct_law_draws), sl_law_draws⟩) (w_law_draws : PySem.W.codeIn K cd_law_draws "_law_draws" = true) (k_law_draws : PySem.W.keepIn K (.ref f_law_draws) = true)
    (a_law_take : PySem.W.nsIn K mainGlobals "_law_take" = some (some (.ref f_law_take))) (l_law_take : K.lookup f_law_take = some ⟨oc_law_take, od_law_take, .func (PySem.W.fnOf "_law_take" "_law_take" (defArgs s_law_take) (defBody s_law_take) (defScope s_law_take) .none kV_law_take dc_law_take pm_law_take an_law_take cd_law_take ct_law_take), sl_law_take⟩) (w_law_take : PySem.W.codeIn K cd_law_take "_law_take" = true) (k_law_take : PySem.W.keepIn K (.ref f_law_take) = true)
    (a_law_same : PySem.W.nsIn K mainGlobals "_law_same" = some (some (.ref f_law_same))) (l_law_same : K.lookup f_law_same = some ⟨oc_law_same, od_law_same, .func (PySem.W.fnOf "_law_same" "_law_same" (defArgs s_law_same) (defBody s_law_same) (defScope s_law_same) .none kV_law_same dc_law_same pm_law_same an_law_same cd_law_same ct_law_same), sl_law_same⟩) (w_law_same : PySem.W.codeIn K cd_law_same "_law_same" = true) (k_law_same : PySem.W.keepIn K (.ref f_law_same) = true)
    (a_law_fault : PySem.W.nsIn K mainGlobals "_law_fault" = some (some (.ref f_law_fault))) (l_law_fault : K.lookup f_law_fault = some ⟨oc_law_fault, od_law_fault, .func (PySem.W.fnOf "_law_fault" "_law_fault" (defArgs s_law_fault) (defBody s_law_fault) (defScope s_law_fault) .none kV_law_fault dc_law_fault pm_law_fault an_law_fault cd_law_fault ct_law_fault), sl_law_fault⟩) (w_law_fault : PySem.W.codeIn K cd_law_fault "_law_fault" = true) (k_law_fault : PySem.W.keepIn K (.ref f_law_fault) = true)
    (a_law : PySem.W.nsIn K mainGlobals "law" = some (some (.ref f_law))) (l_law : K.lookup f_law = some ⟨oc_law, od_law, .func (PySem.W.fnOf "law" "law" (defArgs s_law) (defBody s_law) (defScope s_law) .none kV_law dc_law pm_law an_law cd_law ct_law), sl_law⟩) (w_law : PySem.W.codeIn K cd_law "law" = true) (k_law : PySem.W.keepIn K (.ref f_law) = true)
    (a_OntoError : PySem.W.nsIn K mainGlobals "OntoError" = some (some (.ref C_OntoError)))
    (a_FaultyText : PySem.W.nsIn K mainGlobals "FaultyText" = some (some (.ref C_FaultyText)))
    (xl_FaultyText : K.lookup C_FaultyText = some (excClassObj nm_FaultyText qn_FaultyText C_FaultyText N_FaultyText bs_FaultyText bm_FaultyText true sn_FaultyText sub_FaultyText ab_FaultyText col_FaultyText dd_FaultyText k0_FaultyText k1_FaultyText k2_FaultyText k3_FaultyText k5_FaultyText "ValueError.__new__"))
    (rv_FaultyText : PySem.HandSPX.refsVE bm_FaultyText = true)
    (sa_FaultyText : PySem.W.findIn K (.ref C_FaultyText) "__setattr__" = some (some (.builtin "object.__setattr__")))
    (ex_FaultyText : PySem.W.subIn K (.ref C_FaultyText) (.type "BaseException") = some true)
    (ty_FaultyText : PySem.W.typeIn K (.ref C_FaultyText) = some (.type "type"))
    (kc_FaultyText : PySem.W.keepIn K (.ref C_FaultyText) = true)
    (ga_FaultyText : PySem.W.findIn K (.ref C_FaultyText) "__getattribute__" = some (some (.builtin "BaseException.__getattribute__")))
    (gg_FaultyText : PySem.W.findIn K (.ref C_FaultyText) "__getattr__" = some none)
    (hd_FaultyText : PySem.W.hasDictIn K C_FaultyText = true)
    (hc_FaultyText : PySem.W.findIn K (.ref C_FaultyText) "__class__" = some (some (.builtin "object.__class__")))
    (hn_FaultyText : PySem.W.specialIn K (.builtin "object.__class__") "__get__" = some (some (.builtin "getset_descriptor.__get__")))
    (ht_FaultyText : PySem.W.takesIn K (.builtin "object.__class__") = some true)
    (hm_FaultyText : PySem.W.mroIn K C_FaultyText (.type "object") = some true)
    (ss_FaultyText : PySem.W.subIn K (.ref C_FaultyText) (.ref C_FaultyText) = some true)
    (n_line_FaultyText : PySem.W.findIn K (.ref C_FaultyText) "line" = some none)
    (n_column_FaultyText : PySem.W.findIn K (.ref C_FaultyText) "column" = some none)
    (n_reason_FaultyText : PySem.W.findIn K (.ref C_FaultyText) "reason" = some none)
    (us_OntoError_FaultyText : PySem.W.subIn K (.ref C_FaultyText) (.ref C_OntoError) = some true)
    (ue_OntoError_FaultyText : PySem.W.subIn K (.ref C_OntoError) (.type "BaseException") = some true)
    (uh_OntoError_FaultyText : PySem.W.hasDictIn K C_OntoError = true)
    (ut_OntoError_FaultyText : PySem.W.typeIn K (.ref C_OntoError) = some (.type "type"))
    (i_FaultyText : PySem.W.findIn K (.ref C_FaultyText) "__init__" = some (some (.ref f_FaultyText_init)))
    (ti_FaultyText : PySem.W.typeIn K (.ref f_FaultyText_init) = some (.type "function"))
    (li_FaultyText : K.lookup f_FaultyText_init = some ⟨oc_FaultyText_init, od_FaultyText_init, .func (PySem.W.fnOf "__init__" "FaultyText.__init__" (defArgs s_FaultyText_init) (defBody s_FaultyText_init) (defScope s_FaultyText_init) .none kV_FaultyText_init dc_FaultyText_init pm_FaultyText_init an_FaultyText_init cd_FaultyText_init ct_FaultyText_init), sl_FaultyText_init⟩)
    (wi_FaultyText : PySem.W.codeIn K cd_FaultyText_init "FaultyText.__init__" = true)
    (kk_FaultyText : PySem.W.keepIn K (.ref f_FaultyText_init) = true)
    (a_Cursor : PySem.W.nsIn K mainGlobals "Cursor" = some (some (.ref C_Cursor))) (pg_Cursor : PySem.W.plainGet K C_Cursor Str.empty = true) (hd_Cursor : PySem.W.hasDictIn K C_Cursor = true) (po_Cursor : PySem.W.plainOver K C_Cursor = true) (sa_Cursor : PySem.W.findIn K (.ref C_Cursor) "__setattr__" = some (some (.builtin "object.__setattr__"))) (mk_Cursor : PySem.W.makesIn K C_Cursor = true) (kc_Cursor : PySem.W.keepIn K (.ref C_Cursor) = true)
    (n_Cursor_text : PySem.W.findIn K (.ref C_Cursor) "text" = some none)
    (n_Cursor_tokens : PySem.W.findIn K (.ref C_Cursor) "tokens" = some none)
    (n_Cursor_at : PySem.W.findIn K (.ref C_Cursor) "at" = some none)
    (a_Cursor_init : PySem.W.findIn K (.ref C_Cursor) "__init__" = some (some (.ref f_Cursor_init))) (i_Cursor_init : PySem.W.isFn K (.ref f_Cursor_init) = true) (l_Cursor_init : K.lookup f_Cursor_init = some ⟨oc_Cursor_init, od_Cursor_init, .func (PySem.W.fnOf "__init__" "Cursor.__init__" (defArgs s_Cursor_init) (defBody s_Cursor_init) (defScope s_Cursor_init) .none kV_Cursor_init dc_Cursor_init pm_Cursor_init an_Cursor_init cd_Cursor_init ct_Cursor_init), sl_Cursor_init⟩) (w_Cursor_init : PySem.W.codeIn K cd_Cursor_init "Cursor.__init__" = true) (k_Cursor_init : PySem.W.keepIn K (.ref f_Cursor_init) = true)
    (a_Cursor_word : PySem.W.findIn K (.ref C_Cursor) "word" = some (some (.ref f_Cursor_word))) (i_Cursor_word : PySem.W.isFn K (.ref f_Cursor_word) = true) (l_Cursor_word : K.lookup f_Cursor_word = some ⟨oc_Cursor_word, od_Cursor_word, .func (PySem.W.fnOf "word" "Cursor.word" (defArgs s_Cursor_word) (defBody s_Cursor_word) (defScope s_Cursor_word) .none kV_Cursor_word dc_Cursor_word pm_Cursor_word an_Cursor_word cd_Cursor_word ct_Cursor_word), sl_Cursor_word⟩) (w_Cursor_word : PySem.W.codeIn K cd_Cursor_word "Cursor.word" = true) (k_Cursor_word : PySem.W.keepIn K (.ref f_Cursor_word) = true)
    (a_Cursor_word_behind : PySem.W.findIn K (.ref C_Cursor) "word_behind" = some (some (.ref f_Cursor_word_behind))) (i_Cursor_word_behind : PySem.W.isFn K (.ref f_Cursor_word_behind) = true) (l_Cursor_word_behind : K.lookup f_Cursor_word_behind = some ⟨oc_Cursor_word_behind, od_Cursor_word_behind, .func (PySem.W.fnOf "word_behind" "Cursor.word_behind" (defArgs s_Cursor_word_behind) (defBody s_Cursor_word_behind) (defScope s_Cursor_word_behind) .none kV_Cursor_word_behind dc_Cursor_word_behind pm_Cursor_word_behind an_Cursor_word_behind cd_Cursor_word_behind ct_Cursor_word_behind), sl_Cursor_word_behind⟩) (w_Cursor_word_behind : PySem.W.codeIn K cd_Cursor_word_behind "Cursor.word_behind" = true) (k_Cursor_word_behind : PySem.W.keepIn K (.ref f_Cursor_word_behind) = true)
    (a_Cursor_at_end : PySem.W.findIn K (.ref C_Cursor) "at_end" = some (some (.ref f_Cursor_at_end))) (i_Cursor_at_end : PySem.W.isFn K (.ref f_Cursor_at_end) = true) (l_Cursor_at_end : K.lookup f_Cursor_at_end = some ⟨oc_Cursor_at_end, od_Cursor_at_end, .func (PySem.W.fnOf "at_end" "Cursor.at_end" (defArgs s_Cursor_at_end) (defBody s_Cursor_at_end) (defScope s_Cursor_at_end) .none kV_Cursor_at_end dc_Cursor_at_end pm_Cursor_at_end an_Cursor_at_end cd_Cursor_at_end ct_Cursor_at_end), sl_Cursor_at_end⟩) (w_Cursor_at_end : PySem.W.codeIn K cd_Cursor_at_end "Cursor.at_end" = true) (k_Cursor_at_end : PySem.W.keepIn K (.ref f_Cursor_at_end) = true)
    (a_Cursor_step : PySem.W.findIn K (.ref C_Cursor) "step" = some (some (.ref f_Cursor_step))) (i_Cursor_step : PySem.W.isFn K (.ref f_Cursor_step) = true) (l_Cursor_step : K.lookup f_Cursor_step = some ⟨oc_Cursor_step, od_Cursor_step, .func (PySem.W.fnOf "step" "Cursor.step" (defArgs s_Cursor_step) (defBody s_Cursor_step) (defScope s_Cursor_step) .none kV_Cursor_step dc_Cursor_step pm_Cursor_step an_Cursor_step cd_Cursor_step ct_Cursor_step), sl_Cursor_step⟩) (w_Cursor_step : PySem.W.codeIn K cd_Cursor_step "Cursor.step" = true) (k_Cursor_step : PySem.W.keepIn K (.ref f_Cursor_step) = true)
    (a_Cursor_expect : PySem.W.findIn K (.ref C_Cursor) "expect" = some (some (.ref f_Cursor_expect))) (i_Cursor_expect : PySem.W.isFn K (.ref f_Cursor_expect) = true) (l_Cursor_expect : K.lookup f_Cursor_expect = some ⟨oc_Cursor_expect, od_Cursor_expect, .func (PySem.W.fnOf "expect" "Cursor.expect" (defArgs s_Cursor_expect) (defBody s_Cursor_expect) (defScope s_Cursor_expect) .none kV_Cursor_expect dc_Cursor_expect pm_Cursor_expect an_Cursor_expect cd_Cursor_expect ct_Cursor_expect), sl_Cursor_expect⟩) (w_Cursor_expect : PySem.W.codeIn K cd_Cursor_expect "Cursor.expect" = true) (k_Cursor_expect : PySem.W.keepIn K (.ref f_Cursor_expect) = true)
    (a_Cursor_take_name : PySem.W.findIn K (.ref C_Cursor) "take_name" = some (some (.ref f_Cursor_take_name))) (i_Cursor_take_name : PySem.W.isFn K (.ref f_Cursor_take_name) = true) (l_Cursor_take_name : K.lookup f_Cursor_take_name = some ⟨oc_Cursor_take_name, od_Cursor_take_name, .func (PySem.W.fnOf "take_name" "Cursor.take_name" (defArgs s_Cursor_take_name) (defBody s_Cursor_take_name) (defScope s_Cursor_take_name) .none kV_Cursor_take_name dc_Cursor_take_name pm_Cursor_take_name an_Cursor_take_name cd_Cursor_take_name ct_Cursor_take_name), sl_Cursor_take_name⟩) (w_Cursor_take_name : PySem.W.codeIn K cd_Cursor_take_name "Cursor.take_name" = true) (k_Cursor_take_name : PySem.W.keepIn K (.ref f_Cursor_take_name) = true)
    (a_Cursor_here : PySem.W.findIn K (.ref C_Cursor) "here" = some (some (.ref f_Cursor_here))) (i_Cursor_here : PySem.W.isFn K (.ref f_Cursor_here) = true) (l_Cursor_here : K.lookup f_Cursor_here = some ⟨oc_Cursor_here, od_Cursor_here, .func (PySem.W.fnOf "here" "Cursor.here" (defArgs s_Cursor_here) (defBody s_Cursor_here) (defScope s_Cursor_here) .none kV_Cursor_here dc_Cursor_here pm_Cursor_here an_Cursor_here cd_Cursor_here ct_Cursor_here), sl_Cursor_here⟩) (w_Cursor_here : PySem.W.codeIn K cd_Cursor_here "Cursor.here" = true) (k_Cursor_here : PySem.W.keepIn K (.ref f_Cursor_here) = true)
    (a_Cursor_fail : PySem.W.findIn K (.ref C_Cursor) "fail" = some (some (.ref f_Cursor_fail))) (i_Cursor_fail : PySem.W.isFn K (.ref f_Cursor_fail) = true) (l_Cursor_fail : K.lookup f_Cursor_fail = some ⟨oc_Cursor_fail, od_Cursor_fail, .func (PySem.W.fnOf "fail" "Cursor.fail" (defArgs s_Cursor_fail) (defBody s_Cursor_fail) (defScope s_Cursor_fail) .none kV_Cursor_fail dc_Cursor_fail pm_Cursor_fail an_Cursor_fail cd_Cursor_fail ct_Cursor_fail), sl_Cursor_fail⟩) (w_Cursor_fail : PySem.W.codeIn K cd_Cursor_fail "Cursor.fail" = true) (k_Cursor_fail : PySem.W.keepIn K (.ref f_Cursor_fail) = true)
    (ne_read_statement_read_concept : f_read_statement ≠ f_read_concept)
    (y_all : PySem.W.nsIn K mainGlobals "all" = some none)
    (y_bool : PySem.W.nsIn K mainGlobals "bool" = some none)
    (y_int : PySem.W.nsIn K mainGlobals "int" = some none)
    (y_isinstance : PySem.W.nsIn K mainGlobals "isinstance" = some none)
    (y_len : PySem.W.nsIn K mainGlobals "len" = some none)
    (y_max : PySem.W.nsIn K mainGlobals "max" = some none)
    (y_range : PySem.W.nsIn K mainGlobals "range" = some none)
    (y_str : PySem.W.nsIn K mainGlobals "str" = some none)
    (y_tuple : PySem.W.nsIn K mainGlobals "tuple" = some none)
    (g_BLANKS : PySem.W.nsIn K mainGlobals "BLANKS" = some (some (.str K_BLANKS t_BLANKS)))
    (g_SIGNS : PySem.W.nsIn K mainGlobals "SIGNS" = some (some (.str K_SIGNS t_SIGNS)))
    (g_LETTERS : PySem.W.nsIn K mainGlobals "LETTERS" = some (some (.str K_LETTERS t_LETTERS)))
    (g_DIGITS : PySem.W.nsIn K mainGlobals "DIGITS" = some (some (.str K_DIGITS t_DIGITS)))
    (g_LONGEST_WORD : PySem.W.nsIn K mainGlobals "LONGEST_WORD" = some (some (.int K_LONGEST_WORD t_LONGEST_WORD)))
    (g_RESERVED : PySem.W.nsIn K mainGlobals "RESERVED" = some (some (.ref r_RESERVED))) (u_RESERVED : K.lookup r_RESERVED = some ⟨.type "tuple", oo_RESERVED, .seq i_RESERVED n_RESERVED, os_RESERVED⟩)
    (v_RESERVED : StrIts i_RESERVED.toList K_RESERVED = true) (vs_RESERVED : decide (i_RESERVED.size ≤ 1000) = true)
    (g_DEEPEST_LEVEL : PySem.W.nsIn K mainGlobals "DEEPEST_LEVEL" = some (some (.int K_DEEPEST_LEVEL t_DEEPEST_LEVEL)))
    (g_GREATEST_HEIGHT : PySem.W.nsIn K mainGlobals "GREATEST_HEIGHT" = some (some (.int K_GREATEST_HEIGHT t_GREATEST_HEIGHT))) :
    ∃ fd : FuncData, (∀ (s : Shared) (v : Value), BindsTo s fd ⟨[v], []⟩ [("script", v)]) ∧ ∀ base : Heap, K.In base → base.Ns mainGlobals mg → FnOk l.prog w K mg base CX0 72 fa fd ["script"] (spLaw50 K) := by
  have e := hfa.symm.trans (PySem.W.mg_of X G a_law)
  cases e
  have D_place : Df K mg "place" s_place f_place _ ["text", "at"] := ⟨fun_mk (st := s_place) l_place w_place k_place, PySem.W.mg_of X G a_place, k_place, (fun_mk (st := s_place) l_place w_place k_place).binds (ps := ["text", "at"]) fun _ _ _ _ _ _ us hl => match us, hl with | [_, _], _ => rfl⟩
  have D_is_name : Df K mg "is_name" s_is_name f_is_name _ ["word"] := ⟨fun_mk (st := s_is_name) l_is_name w_is_name k_is_name, PySem.W.mg_of X G a_is_name, k_is_name, (fun_mk (st := s_is_name) l_is_name w_is_name k_is_name).binds (ps := ["word"]) fun _ _ _ _ _ _ us hl => match us, hl with | [_], _ => rfl⟩
  have D_split_tokens : Df K mg "split_tokens" s_split_tokens f_split_tokens _ ["text"] := ⟨fun_mk (st := s_split_tokens) l_split_tokens w_split_tokens k_split_tokens, PySem.W.mg_of X G a_split_tokens, k_split_tokens, (fun_mk (st := s_split_tokens) l_split_tokens w_split_tokens k_split_tokens).binds (ps := ["text"]) fun _ _ _ _ _ _ us hl => match us, hl with | [_], _ => rfl⟩
  have D_comment_end : Df K mg "_comment_end" s_comment_end f_comment_end _ ["text", "at"] := ⟨fun_mk (st := s_comment_end) l_comment_end w_comment_end k_comment_end, PySem.W.mg_of X G a_comment_end, k_comment_end, (fun_mk (st := s_comment_end) l_comment_end w_comment_end k_comment_end).binds (ps := ["text", "at"]) fun _ _ _ _ _ _ us hl => match us, hl with | [_, _], _ => rfl⟩
  have D_word_at : Df K mg "_word_at" s_word_at f_word_at _ ["text", "at"] := ⟨fun_mk (st := s_word_at) l_word_at w_word_at k_word_at, PySem.W.mg_of X G a_word_at, k_word_at, (fun_mk (st := s_word_at) l_word_at w_word_at k_word_at).binds (ps := ["text", "at"]) fun _ _ _ _ _ _ us hl => match us, hl with | [_, _], _ => rfl⟩
  have D_word_end : Df K mg "_word_end" s_word_end f_word_end _ ["text", "at"] := ⟨fun_mk (st := s_word_end) l_word_end w_word_end k_word_end, PySem.W.mg_of X G a_word_end, k_word_end, (fun_mk (st := s_word_end) l_word_end w_word_end k_word_end).binds (ps := ["text", "at"]) fun _ _ _ _ _ _ us hl => match us, hl with | [_, _], _ => rfl⟩
  have D_statement : Df K mg "statement" s_statement f_statement _ ["cursor"] := ⟨fun_mk (st := s_statement) l_statement w_statement k_statement, PySem.W.mg_of X G a_statement, k_statement, (fun_mk (st := s_statement) l_statement w_statement k_statement).binds (ps := ["cursor"]) fun _ _ _ _ _ _ us hl => match us, hl with | [_], _ => rfl⟩
  have D_role : Df K mg "role" s_role f_role _ ["cursor"] := ⟨fun_mk (st := s_role) l_role w_role k_role, PySem.W.mg_of X G a_role, k_role, (fun_mk (st := s_role) l_role w_role k_role).binds (ps := ["cursor"]) fun _ _ _ _ _ _ us hl => match us, hl with | [_], _ => rfl⟩
  have D_concept : Df K mg "concept" s_concept f_concept _ ["cursor"] := ⟨fun_mk (st := s_concept) l_concept w_concept k_concept, PySem.W.mg_of X G a_concept, k_concept, (fun_mk (st := s_concept) l_concept w_concept k_concept).binds (ps := ["cursor"]) fun _ _ _ _ _ _ us hl => match us, hl with | [_], _ => rfl⟩
  have D_is_name_before : Df K mg "_is_name_before" s_is_name_before f_is_name_before _ ["cursor", "word"] := ⟨fun_mk (st := s_is_name_before) l_is_name_before w_is_name_before k_is_name_before, PySem.W.mg_of X G a_is_name_before, k_is_name_before, (fun_mk (st := s_is_name_before) l_is_name_before w_is_name_before k_is_name_before).binds (ps := ["cursor", "word"]) fun _ _ _ _ _ _ us hl => match us, hl with | [_, _], _ => rfl⟩
  have D_begins_fact : Df K mg "_begins_fact" s_begins_fact f_begins_fact _ ["cursor"] := ⟨fun_mk (st := s_begins_fact) l_begins_fact w_begins_fact k_begins_fact, PySem.W.mg_of X G a_begins_fact, k_begins_fact, (fun_mk (st := s_begins_fact) l_begins_fact w_begins_fact k_begins_fact).binds (ps := ["cursor"]) fun _ _ _ _ _ _ us hl => match us, hl with | [_], _ => rfl⟩
  have D_fact : Df K mg "_fact" s_fact f_fact _ ["cursor"] := ⟨fun_mk (st := s_fact) l_fact w_fact k_fact, PySem.W.mg_of X G a_fact, k_fact, (fun_mk (st := s_fact) l_fact w_fact k_fact).binds (ps := ["cursor"]) fun _ _ _ _ _ _ us hl => match us, hl with | [_], _ => rfl⟩
  have D_comparison : Df K mg "_comparison" s_comparison f_comparison _ ["cursor"] := ⟨fun_mk (st := s_comparison) l_comparison w_comparison k_comparison, PySem.W.mg_of X G a_comparison, k_comparison, (fun_mk (st := s_comparison) l_comparison w_comparison k_comparison).binds (ps := ["cursor"]) fun _ _ _ _ _ _ us hl => match us, hl with | [_], _ => rfl⟩
  have D_alternatives : Df K mg "_alternatives" s_alternatives f_alternatives _ ["cursor", "level"] := ⟨fun_mk (st := s_alternatives) l_alternatives w_alternatives k_alternatives, PySem.W.mg_of X G a_alternatives, k_alternatives, (fun_mk (st := s_alternatives) l_alternatives w_alternatives k_alternatives).binds (ps := ["cursor", "level"]) fun _ _ _ _ _ _ us hl => match us, hl with | [_, _], _ => rfl⟩
  have D_both : Df K mg "_both" s_both f_both _ ["cursor", "level"] := ⟨fun_mk (st := s_both) l_both w_both k_both, PySem.W.mg_of X G a_both, k_both, (fun_mk (st := s_both) l_both w_both k_both).binds (ps := ["cursor", "level"]) fun _ _ _ _ _ _ us hl => match us, hl with | [_, _], _ => rfl⟩
  have D_chain : Df K mg "_chain" s_chain f_chain _ ["cursor", "level", "word", "operand"] := ⟨fun_mk (st := s_chain) l_chain w_chain k_chain, PySem.W.mg_of X G a_chain, k_chain, (fun_mk (st := s_chain) l_chain w_chain k_chain).binds (ps := ["cursor", "level", "word", "operand"]) fun _ _ _ _ _ _ us hl => match us, hl with | [_, _, _, _], _ => rfl⟩
  have D_front : Df K mg "_front" s_front f_front _ ["cursor", "level"] := ⟨fun_mk (st := s_front) l_front w_front k_front, PySem.W.mg_of X G a_front, k_front, (fun_mk (st := s_front) l_front w_front k_front).binds (ps := ["cursor", "level"]) fun _ _ _ _ _ _ us hl => match us, hl with | [_, _], _ => rfl⟩
  have D_atom : Df K mg "_atom" s_atom f_atom _ ["cursor", "level"] := ⟨fun_mk (st := s_atom) l_atom w_atom k_atom, PySem.W.mg_of X G a_atom, k_atom, (fun_mk (st := s_atom) l_atom w_atom k_atom).binds (ps := ["cursor", "level"]) fun _ _ _ _ _ _ us hl => match us, hl with | [_, _], _ => rfl⟩
  have D_step_deeper : Df K mg "_step_deeper" s_step_deeper f_step_deeper _ ["cursor", "level"] := ⟨fun_mk (st := s_step_deeper) l_step_deeper w_step_deeper k_step_deeper, PySem.W.mg_of X G a_step_deeper, k_step_deeper, (fun_mk (st := s_step_deeper) l_step_deeper w_step_deeper k_step_deeper).binds (ps := ["cursor", "level"]) fun _ _ _ _ _ _ us hl => match us, hl with | [_, _], _ => rfl⟩
  have D_read_statement : Df K mg "read_statement" s_read_statement f_read_statement _ ["text"] := ⟨fun_mk (st := s_read_statement) l_read_statement w_read_statement k_read_statement, PySem.W.mg_of X G a_read_statement, k_read_statement, (fun_mk (st := s_read_statement) l_read_statement w_read_statement k_read_statement).binds (ps := ["text"]) fun _ _ _ _ _ _ us hl => match us, hl with | [_], _ => rfl⟩
  have D_read_concept : Df K mg "read_concept" s_read_concept f_read_concept _ ["text"] := ⟨fun_mk (st := s_read_concept) l_read_concept w_read_concept k_read_concept, PySem.W.mg_of X G a_read_concept, k_read_concept, (fun_mk (st := s_read_concept) l_read_concept w_read_concept k_read_concept).binds (ps := ["text"]) fun _ _ _ _ _ _ us hl => match us, hl with | [_], _ => rfl⟩
  have D_read_whole : Df K mg "_read_whole" s_read_whole f_read_whole _ ["text", "form"] := ⟨fun_mk (st := s_read_whole) l_read_whole w_read_whole k_read_whole, PySem.W.mg_of X G a_read_whole, k_read_whole, (fun_mk (st := s_read_whole) l_read_whole w_read_whole k_read_whole).binds (ps := ["text", "form"]) fun _ _ _ _ _ _ us hl => match us, hl with | [_, _], _ => rfl⟩
  have D_law_cell : Df K mg "_law_cell" s_law_cell f_law_cell _ ["script", "k"] := ⟨fun_mk (st := s_law_cell) l_law_cell w_law_cell k_law_cell, PySem.W.mg_of X G a_law_cell, k_law_cell, (fun_mk (st := s_law_cell) l_law_cell w_law_cell k_law_cell).binds (ps := ["script", "k"]) fun _ _ _ _ _ _ us hl => match us, hl with | [_, _], _ => rfl⟩
  have D_law_draws : Df K mg "_law_draws" s_law_draws f_law_draws _ ["script", "k", "count"] := ⟨fun_mk (st := s_law_draws) l_law_draws w_law_draws k_law_draws, PySem.W.mg_of X G a_law_draws, k_law_draws, (fun_mk (st := s_law_draws) l_law_draws w_law_draws k_law_draws).binds (ps := ["script", "k", "count"]) fun _ _ _ _ _ _ us hl => match us, hl with | [_, _, _], _ => rfl⟩
  have D_law_take : Df K mg "_law_take" s_law_take f_law_take _ ["draws", "many"] := ⟨fun_mk (st := s_law_take) l_law_take w_law_take k_law_take, PySem.W.mg_of X G a_law_take, k_law_take, (fun_mk (st := s_law_take) l_law_take w_law_take k_law_take).binds (ps := ["draws", "many"]) fun _ _ _ _ _ _ us hl => match us, hl with | [_, _], _ => rfl⟩
  have D_law_same : Df K mg "_law_same" s_law_same f_law_same _ ["actual", "due"] := ⟨fun_mk (st := s_law_same) l_law_same w_law_same k_law_same, PySem.W.mg_of X G a_law_same, k_law_same, (fun_mk (st := s_law_same) l_law_same w_law_same k_law_same).binds (ps := ["actual", "due"]) fun _ _ _ _ _ _ us hl => match us, hl with | [_, _], _ => rfl⟩
  have D_law_fault : Df K mg "_law_fault" s_law_fault f_law_fault _ ["read", "text"] := ⟨fun_mk (st := s_law_fault) l_law_fault w_law_fault k_law_fault, PySem.W.mg_of X G a_law_fault, k_law_fault, (fun_mk (st := s_law_fault) l_law_fault w_law_fault k_law_fault).binds (ps := ["read", "text"]) fun _ _ _ _ _ _ us hl => match us, hl with | [_, _], _ => rfl⟩
  have g_OntoError : mg "OntoError" = some _ := PySem.W.mg_of X G a_OntoError
  have O_FaultyText : OexC K C_FaultyText := ⟨⟨_, _, _, _, _, _, _, _, _, _, _, _, _, _, _, xl_FaultyText, rv_FaultyText⟩, sa_FaultyText, ex_FaultyText, ty_FaultyText, kc_FaultyText⟩
  have X_FaultyText : XfC K C_FaultyText := ⟨ga_FaultyText, gg_FaultyText, ex_FaultyText, hd_FaultyText⟩
  have E_FaultyText : ExcC K C_FaultyText := ⟨ga_FaultyText, gg_FaultyText, ex_FaultyText, hd_FaultyText, hc_FaultyText, hn_FaultyText, ht_FaultyText, hm_FaultyText⟩
  have xx_FaultyText : PySem.W.exmOne K (.ref C_FaultyText) (.ref C_FaultyText) = some true := PySem.W.exm_ref ex_FaultyText hd_FaultyText ty_FaultyText ss_FaultyText
  have ki_FaultyText : PySem.W.kitOne K (.ref C_FaultyText) (.ref C_FaultyText) = some true := if_pos (beq_iff_eq.mpr rfl)
  have x_OntoError_FaultyText : PySem.W.exmOne K (.ref C_FaultyText) (.ref C_OntoError) = some true := PySem.W.exm_ref ue_OntoError_FaultyText uh_OntoError_FaultyText ut_OntoError_FaultyText us_OntoError_FaultyText
  have g_FaultyText : mg "FaultyText" = some _ := PySem.W.mg_of X G a_FaultyText
  have F_FaultyText_init := fun_mk (st := s_FaultyText_init) li_FaultyText wi_FaultyText kk_FaultyText
  have b_FaultyText_init := F_FaultyText_init.binds (ps := ["self", "line", "column", "reason"]) fun _ _ _ _ _ _ us hl => match us, hl with | [_, _, _, _], _ => rfl
  have T_Cursor : CurC K mg C_Cursor := ⟨⟨pg_Cursor, hd_Cursor, po_Cursor, sa_Cursor⟩, n_Cursor_text, n_Cursor_tokens, n_Cursor_at, PySem.W.mg_of X G a_Cursor⟩
  have F_Cursor_init := fun_mk (st := s_Cursor_init) l_Cursor_init w_Cursor_init k_Cursor_init
  have b_Cursor_init := F_Cursor_init.binds (ps := ["self", "text"]) fun _ _ _ _ _ _ us hl => match us, hl with | [_, _], _ => rfl
  have M_Cursor_init : Mk K C_Cursor f_Cursor_init := ⟨mk_Cursor, a_Cursor_init, i_Cursor_init, kc_Cursor⟩
  have F_Cursor_word := fun_mk (st := s_Cursor_word) l_Cursor_word w_Cursor_word k_Cursor_word
  have b_Cursor_word := F_Cursor_word.binds (ps := ["self"]) fun _ _ _ _ _ _ us hl => match us, hl with | [_], _ => rfl
  have M_Cursor_word : Meth K C_Cursor "word" f_Cursor_word := ⟨a_Cursor_word, i_Cursor_word, k_Cursor_word⟩
  have F_Cursor_word_behind := fun_mk (st := s_Cursor_word_behind) l_Cursor_word_behind w_Cursor_word_behind k_Cursor_word_behind
  have b_Cursor_word_behind := F_Cursor_word_behind.binds (ps := ["self"]) fun _ _ _ _ _ _ us hl => match us, hl with | [_], _ => rfl
  have M_Cursor_word_behind : Meth K C_Cursor "word_behind" f_Cursor_word_behind := ⟨a_Cursor_word_behind, i_Cursor_word_behind, k_Cursor_word_behind⟩
  have F_Cursor_at_end := fun_mk (st := s_Cursor_at_end) l_Cursor_at_end w_Cursor_at_end k_Cursor_at_end
  have b_Cursor_at_end := F_Cursor_at_end.binds (ps := ["self"]) fun _ _ _ _ _ _ us hl => match us, hl with | [_], _ => rfl
  have M_Cursor_at_end : Meth K C_Cursor "at_end" f_Cursor_at_end := ⟨a_Cursor_at_end, i_Cursor_at_end, k_Cursor_at_end⟩
  have F_Cursor_step := fun_mk (st := s_Cursor_step) l_Cursor_step w_Cursor_step k_Cursor_step
  have b_Cursor_step := F_Cursor_step.binds (ps := ["self"]) fun _ _ _ _ _ _ us hl => match us, hl with | [_], _ => rfl
  have M_Cursor_step : Meth K C_Cursor "step" f_Cursor_step := ⟨a_Cursor_step, i_Cursor_step, k_Cursor_step⟩
  have F_Cursor_expect := fun_mk (st := s_Cursor_expect) l_Cursor_expect w_Cursor_expect k_Cursor_expect
  have b_Cursor_expect := F_Cursor_expect.binds (ps := ["self", "word"]) fun _ _ _ _ _ _ us hl => match us, hl with | [_, _], _ => rfl
  have M_Cursor_expect : Meth K C_Cursor "expect" f_Cursor_expect := ⟨a_Cursor_expect, i_Cursor_expect, k_Cursor_expect⟩
  have F_Cursor_take_name := fun_mk (st := s_Cursor_take_name) l_Cursor_take_name w_Cursor_take_name k_Cursor_take_name
  have b_Cursor_take_name := F_Cursor_take_name.binds (ps := ["self"]) fun _ _ _ _ _ _ us hl => match us, hl with | [_], _ => rfl
  have M_Cursor_take_name : Meth K C_Cursor "take_name" f_Cursor_take_name := ⟨a_Cursor_take_name, i_Cursor_take_name, k_Cursor_take_name⟩
  have F_Cursor_here := fun_mk (st := s_Cursor_here) l_Cursor_here w_Cursor_here k_Cursor_here
  have b_Cursor_here := F_Cursor_here.binds (ps := ["self"]) fun _ _ _ _ _ _ us hl => match us, hl with | [_], _ => rfl
  have M_Cursor_here : Meth K C_Cursor "here" f_Cursor_here := ⟨a_Cursor_here, i_Cursor_here, k_Cursor_here⟩
  have F_Cursor_fail := fun_mk (st := s_Cursor_fail) l_Cursor_fail w_Cursor_fail k_Cursor_fail
  have b_Cursor_fail := F_Cursor_fail.binds (ps := ["self", "reason"]) fun _ _ _ _ _ _ us hl => match us, hl with | [_, _], _ => rfl
  have M_Cursor_fail : Meth K C_Cursor "fail" f_Cursor_fail := ⟨a_Cursor_fail, i_Cursor_fail, k_Cursor_fail⟩
  have z_all : mg "all" = none := PySem.W.mg_none_of X G y_all
  have z_bool : mg "bool" = none := PySem.W.mg_none_of X G y_bool
  have z_int : mg "int" = none := PySem.W.mg_none_of X G y_int
  have z_isinstance : mg "isinstance" = none := PySem.W.mg_none_of X G y_isinstance
  have z_len : mg "len" = none := PySem.W.mg_none_of X G y_len
  have z_max : mg "max" = none := PySem.W.mg_none_of X G y_max
  have z_range : mg "range" = none := PySem.W.mg_none_of X G y_range
  have z_str : mg "str" = none := PySem.W.mg_none_of X G y_str
  have z_tuple : mg "tuple" = none := PySem.W.mg_none_of X G y_tuple
  have m_BLANKS : mg "BLANKS" = some _ := PySem.W.mg_of X G g_BLANKS
  have m_SIGNS : mg "SIGNS" = some _ := PySem.W.mg_of X G g_SIGNS
  have m_LETTERS : mg "LETTERS" = some _ := PySem.W.mg_of X G g_LETTERS
  have m_DIGITS : mg "DIGITS" = some _ := PySem.W.mg_of X G g_DIGITS
  have m_LONGEST_WORD : mg "LONGEST_WORD" = some _ := PySem.W.mg_of X G g_LONGEST_WORD
  have m_RESERVED : mg "RESERVED" = some _ := PySem.W.mg_of X G g_RESERVED
  have T_RESERVED : ∀ H, SqT K H r_RESERVED (K_RESERVED.map V.str) := fun H => sqt_of u_RESERVED v_RESERVED vs_RESERVED
  have m_DEEPEST_LEVEL : mg "DEEPEST_LEVEL" = some _ := PySem.W.mg_of X G g_DEEPEST_LEVEL
  have m_GREATEST_HEIGHT : mg "GREATEST_HEIGHT" = some _ := PySem.W.mg_of X G g_GREATEST_HEIGHT
  have F_law := fun_mk (st := s_law) l_law w_law k_law
  refine ⟨PySem.W.fnOf "law" "law" (defArgs s_law) (defBody s_law) (defScope s_law) .none kV_law dc_law pm_law an_law cd_law ct_law, fun s v => .of_eq rfl, fun base _ _ => ?_⟩
  have c1 := c_law_cell (P := l.prog) (w := w) (base := base) D_law_cell z_len z_int
  have ct := c_law_take (P := l.prog) (w := w) (base := base) D_law_take z_int
  have we := c_word_end (P := l.prog) (w := w) (base := base) D_word_end m_LETTERS m_DIGITS z_len
  have isn := c_is_name D_is_name we m_LONGEST_WORD m_RESERVED T_RESERVED z_len
  have cf : FtC l.prog w K mg base C_FaultyText := ⟨O_FaultyText, ⟨_, _, i_FaultyText, ti_FaultyText, ok_ft F_FaultyText_init, b_FaultyText_init⟩, n_line_FaultyText, n_column_FaultyText, n_reason_FaultyText, g_FaultyText⟩
  have cpl := c_place (P := l.prog) (w := w) (base := base) D_place
  have cst := c_split_tokensX D_split_tokens (c_comment_end D_comment_end z_len) (c_word_atX D_word_at cf we cpl m_LONGEST_WORD) m_BLANKS m_SIGNS z_len z_tuple
  have cw := c_cur_word (P := l.prog) (w := w) (base := base) F_Cursor_word T_Cursor M_Cursor_word b_Cursor_word
  have ce := c_cur_at_end (P := l.prog) (w := w) (base := base) F_Cursor_at_end T_Cursor M_Cursor_at_end b_Cursor_at_end
  have csp := c_cur_step (P := l.prog) (w := w) (base := base) F_Cursor_step T_Cursor M_Cursor_step b_Cursor_step
  have cb := c_cur_word_behind (P := l.prog) (w := w) (base := base) F_Cursor_word_behind T_Cursor M_Cursor_word_behind b_Cursor_word_behind
  have chr := c_cur_hereX F_Cursor_here T_Cursor M_Cursor_here b_Cursor_here cpl
  have cfa := c_cur_fail F_Cursor_fail T_Cursor M_Cursor_fail b_Cursor_fail cf chr
  have cex := c_cur_expectX F_Cursor_expect T_Cursor M_Cursor_expect b_Cursor_expect cw csp cfa
  have ctn := c_cur_takeX F_Cursor_take_name T_Cursor M_Cursor_take_name b_Cursor_take_name isn cw csp cfa
  have ci : MkX l.prog w K mg base 5 C_Cursor _ _ ["self", "text"] (spCurInitG K C_Cursor C_FaultyText) := ⟨c_cur_initG F_Cursor_init T_Cursor cst, M_Cursor_init, b_Cursor_init⟩
  have sd := c_step_deeperX D_step_deeper T_Cursor csp cfa m_DEEPEST_LEVEL
  have ro := c_rolepX D_role T_Cursor cw csp ctn
  have fr := fx_frontsX D_front D_both D_alternatives D_chain D_atom T_Cursor cw csp cex cfa sd ro isn z_max 8 0 rfl
  have bo := fx_bothX (by decide) D_both D_chain D_front T_Cursor cw csp fr z_max
  have al := fx_altX (by decide) D_alternatives D_chain D_both T_Cursor cw csp bo z_max
  have cn := fx_conceptX (k := 60) (by decide) D_concept T_Cursor cfa (D_alternatives.ofX al) m_GREATEST_HEIGHT
  have con := D_concept.ofX cn
  have fct := c_factX (by decide) D_fact T_Cursor con cw csp ctn
  have cmp := c_comparisonX (by decide) D_comparison T_Cursor con cw csp cex cfa
  have st := fx_statementX (k := 62) (by decide) D_statement T_Cursor (con.mono (by decide)) ro fct cmp (c_is_name_beforeX D_is_name_before T_Cursor isn cw cb) (c_begins_factX D_begins_fact T_Cursor isn cw cb) cw csp cex ctn
  have rwc := c_read_wholeX (by decide) D_read_whole T_Cursor ci ce cfa cn
  have rws := c_read_wholeX (by decide) D_read_whole T_Cursor ci ce cfa st
  have rc := c_read_conceptX D_read_concept D_concept rwc
  have rs := c_read_statementX D_read_statement D_statement rws
  have cfl := c_law_fault D_law_fault (two_held ((rc.mono (j := 69) (by decide)).held D_read_concept.mgf) ((rs.mono (j := 69) (by decide)).held D_read_statement.mgf)) cf X_FaultyText xx_FaultyText z_isinstance z_int z_str
  exact ok_law (k := 0) F_law (c_law_draws D_law_draws c1 z_int z_range) ct cfl (c_law_same D_law_same z_isinstance z_tuple z_bool z_int z_str z_len z_all z_range 3) D_read_concept D_read_statement sTwo_a (sTwo_b ne_read_statement_read_concept) z_range z_int z_len
end Pf
open PySem PySem.W PyProof.Rows
set_option maxHeartbeats 0 in
theorem PySem.Challenge.cw_ontoworks_k50_levels_and_heights_holds : PySem.Challenge.rw_ontoworks_k50_levels_and_heights.Holds := by
  w_on; o_law; k_head; (case hw => w_witness2)
  k_fill
  refine L2.walk_of (l := PySem.Challenge.rw_ontoworks_k50_levels_and_heights) (n := 63) (k := 72) (x := "script") (CX := fun _ => L2.CX0) (sp := fun w => Pf.spLaw50 _) rfl (by decide) rfl ⟨rfl, by decide, by decide⟩ (fun w h Y => PySem.W.kIn_of Y) ?F (fun _ _ a ns hl _ hS => ⟨a, ns, rfl, hS, hl, fun _ => rfl⟩) (fun _ _ _ _ _ h => h)
  case F =>
    intro w mg fa h KX G hmg
    refine' Pf.all_mk KX G hmg ?a_place ?l_place ?w_place ?k_place ?a_is_name ?l_is_name ?w_is_name ?k_is_name ?a_split_tokens ?l_split_tokens ?w_split_tokens ?k_split_tokens ?a_comment_end ?l_comment_end ?w_comment_end ?k_comment_end ?a_word_at ?l_word_at ?w_word_at ?k_word_at ?a_word_end ?l_word_end ?w_word_end ?k_word_end ?a_statement ?l_statement ?w_statement ?k_statement ?a_role ?l_role ?w_role ?k_role ?a_concept ?l_concept ?w_concept ?k_concept ?a_is_name_before ?l_is_name_before ?w_is_name_before ?k_is_name_before ?a_begins_fact ?l_begins_fact ?w_begins_fact ?k_begins_fact ?a_fact ?l_fact ?w_fact ?k_fact ?a_comparison ?l_comparison ?w_comparison ?k_comparison ?a_alternatives ?l_alternatives ?w_alternatives ?k_alternatives ?a_both ?l_both ?w_both ?k_both ?a_chain ?l_chain ?w_chain ?k_chain ?a_front ?l_front ?w_front ?k_front ?a_atom ?l_atom ?w_atom ?k_atom ?a_step_deeper ?l_step_deeper ?w_step_deeper ?k_step_deeper ?a_read_statement ?l_read_statement ?w_read_statement ?k_read_statement ?a_read_concept ?l_read_concept ?w_read_concept ?k_read_concept ?a_read_whole ?l_read_whole ?w_read_whole ?k_read_whole ?a_law_cell ?l_law_cell ?w_law_cell ?k_law_cell ?a_law_draws ?l_law_draws ?w_law_draws ?k_law_draws ?a_law_take ?l_law_take ?w_law_take ?k_law_take ?a_law_same ?l_law_same ?w_law_same ?k_law_same ?a_law_fault ?l_law_fault ?w_law_fault ?k_law_fault ?a_law ?l_law ?w_law ?k_law ?a_OntoError ?a_FaultyText ?xl_FaultyText ?rv_FaultyText ?sa_FaultyText ?ex_FaultyText ?ty_FaultyText ?kc_FaultyText ?ga_FaultyText ?gg_FaultyText ?hd_FaultyText ?hc_FaultyText ?hn_FaultyText ?ht_FaultyText ?hm_FaultyText ?ss_FaultyText ?n_line_FaultyText ?n_column_FaultyText ?n_reason_FaultyText ?us_OntoError_FaultyText ?ue_OntoError_FaultyText ?uh_OntoError_FaultyText ?ut_OntoError_FaultyText ?i_FaultyText ?ti_FaultyText ?li_FaultyText ?wi_FaultyText ?kk_FaultyText ?a_Cursor ?pg_Cursor ?hd_Cursor ?po_Cursor ?sa_Cursor ?mk_Cursor ?kc_Cursor ?n_Cursor_text ?n_Cursor_tokens ?n_Cursor_at ?a_Cursor_init ?i_Cursor_init ?l_Cursor_init ?w_Cursor_init ?k_Cursor_init ?a_Cursor_word ?i_Cursor_word ?l_Cursor_word ?w_Cursor_word ?k_Cursor_word ?a_Cursor_word_behind ?i_Cursor_word_behind ?l_Cursor_word_behind ?w_Cursor_word_behind ?k_Cursor_word_behind ?a_Cursor_at_end ?i_Cursor_at_end ?l_Cursor_at_end ?w_Cursor_at_end ?k_Cursor_at_end ?a_Cursor_step ?i_Cursor_step ?l_Cursor_step ?w_Cursor_step ?k_Cursor_step ?a_Cursor_expect ?i_Cursor_expect ?l_Cursor_expect ?w_Cursor_expect ?k_Cursor_expect ?a_Cursor_take_name ?i_Cursor_take_name ?l_Cursor_take_name ?w_Cursor_take_name ?k_Cursor_take_name ?a_Cursor_here ?i_Cursor_here ?l_Cursor_here ?w_Cursor_here ?k_Cursor_here ?a_Cursor_fail ?i_Cursor_fail ?l_Cursor_fail ?w_Cursor_fail ?k_Cursor_fail ?ne_read_statement_read_concept ?y_all ?y_bool ?y_int ?y_isinstance ?y_len ?y_max ?y_range ?y_str ?y_tuple ?g_BLANKS ?g_SIGNS ?g_LETTERS ?g_DIGITS ?g_LONGEST_WORD ?g_RESERVED ?u_RESERVED ?v_RESERVED ?vs_RESERVED ?g_DEEPEST_LEVEL ?g_GREATEST_HEIGHT
    (case a_place => k_is)
    (case l_place => k_is)
    (case w_place => k_is)
    (case k_place => k_is)
    (case a_is_name => k_is)
    (case l_is_name => k_is)
    (case w_is_name => k_is)
    (case k_is_name => k_is)
    (case a_split_tokens => k_is)
    (case l_split_tokens => k_is)
    (case w_split_tokens => k_is)
    (case k_split_tokens => k_is)
    (case a_comment_end => k_is)
    (case l_comment_end => k_is)
    (case w_comment_end => k_is)
    (case k_comment_end => k_is)
    (case a_word_at => k_is)
    (case l_word_at => k_is)
    (case w_word_at => k_is)
    (case k_word_at => k_is)
    (case a_word_end => k_is)
    (case l_word_end => k_is)
    (case w_word_end => k_is)
    (case k_word_end => k_is)
    (case a_statement => k_is)
    (case l_statement => k_is)
    (case w_statement => k_is)
    (case k_statement => k_is)
    (case a_role => k_is)
    (case l_role => k_is)
    (case w_role => k_is)
    (case k_role => k_is)
    (case a_concept => k_is)
    (case l_concept => k_is)
    (case w_concept => k_is)
    (case k_concept => k_is)
    (case a_is_name_before => k_is)
    (case l_is_name_before => k_is)
    (case w_is_name_before => k_is)
    (case k_is_name_before => k_is)
    (case a_begins_fact => k_is)
    (case l_begins_fact => k_is)
    (case w_begins_fact => k_is)
    (case k_begins_fact => k_is)
    (case a_fact => k_is)
    (case l_fact => k_is)
    (case w_fact => k_is)
    (case k_fact => k_is)
    (case a_comparison => k_is)
    (case l_comparison => k_is)
    (case w_comparison => k_is)
    (case k_comparison => k_is)
    (case a_alternatives => k_is)
    (case l_alternatives => k_is)
    (case w_alternatives => k_is)
    (case k_alternatives => k_is)
    (case a_both => k_is)
    (case l_both => k_is)
    (case w_both => k_is)
    (case k_both => k_is)
    (case a_chain => k_is)
    (case l_chain => k_is)
    (case w_chain => k_is)
    (case k_chain => k_is)
    (case a_front => k_is)
    (case l_front => k_is)
    (case w_front => k_is)
    (case k_front => k_is)
    (case a_atom => k_is)
    (case l_atom => k_is)
    (case w_atom => k_is)
    (case k_atom => k_is)
    (case a_step_deeper => k_is)
    (case l_step_deeper => k_is)
    (case w_step_deeper => k_is)
    (case k_step_deeper => k_is)
    (case a_read_statement => k_is)
    (case l_read_statement => k_is)
    (case w_read_statement => k_is)
    (case k_read_statement => k_is)
    (case a_read_concept => k_is)
    (case l_read_concept => k_is)
    (case w_read_concept => k_is)
    (case k_read_concept => k_is)
    (case a_read_whole => k_is)
    (case l_read_whole => k_is)
    (case w_read_whole => k_is)
    (case k_read_whole => k_is)
    (case a_law_cell => k_is)
    (case l_law_cell => k_is)
    (case w_law_cell => k_is)
    (case k_law_cell => k_is)
    (case a_law_draws => k_is)
    (case l_law_draws => k_is)
    (case w_law_draws => k_is)
    (case k_law_draws => k_is)
    (case a_law_take => k_is)
    (case l_law_take => k_is)
    (case w_law_take => k_is)
    (case k_law_take => k_is)
    (case a_law_same => k_is)
    (case l_law_same => k_is)
    (case w_law_same => k_is)
    (case k_law_same => k_is)
    (case a_law_fault => k_is)
    (case l_law_fault => k_is)
    (case w_law_fault => k_is)
    (case k_law_fault => k_is)
    (case a_law => k_is)
    (case l_law => k_is)
    (case w_law => k_is)
    (case k_law => k_is)
    (case a_OntoError => k_is)
    (case a_FaultyText => k_is)
    (case xl_FaultyText => k_is)
    (case rv_FaultyText => decide +kernel)
    (case sa_FaultyText => k_is)
    (case ex_FaultyText => k_is)
    (case ty_FaultyText => k_is)
    (case kc_FaultyText => k_is)
    (case ga_FaultyText => k_is)
    (case gg_FaultyText => k_is)
    (case hd_FaultyText => k_is)
    (case hc_FaultyText => k_is)
    (case hn_FaultyText => k_is)
    (case ht_FaultyText => k_is)
    (case hm_FaultyText => k_is)
    (case ss_FaultyText => k_is)
    (case n_line_FaultyText => k_is)
    (case n_column_FaultyText => k_is)
    (case n_reason_FaultyText => k_is)
    (case us_OntoError_FaultyText => k_is)
    (case ue_OntoError_FaultyText => k_is)
    (case uh_OntoError_FaultyText => k_is)
    (case ut_OntoError_FaultyText => k_is)
    (case i_FaultyText => k_is)
    (case ti_FaultyText => k_is)
    (case li_FaultyText => k_is)
    (case wi_FaultyText => k_is)
    (case kk_FaultyText => k_is)
    (case a_Cursor => k_is)
    (case pg_Cursor => k_is)
    (case hd_Cursor => k_is)
    (case po_Cursor => k_is)
    (case sa_Cursor => k_is)
    (case mk_Cursor => k_is)
    (case kc_Cursor => k_is)
    (case n_Cursor_text => k_is)
    (case n_Cursor_tokens => k_is)
    (case n_Cursor_at => k_is)
    (case a_Cursor_init => k_is)
    (case i_Cursor_init => k_is)
    (case l_Cursor_init => k_is)
    (case w_Cursor_init => k_is)
    (case k_Cursor_init => k_is)
    (case a_Cursor_word => k_is)
    (case i_Cursor_word => k_is)
    (case l_Cursor_word => k_is)
    (case w_Cursor_word => k_is)
    (case k_Cursor_word => k_is)
    (case a_Cursor_word_behind => k_is)
    (case i_Cursor_word_behind => k_is)
    (case l_Cursor_word_behind => k_is)
    (case w_Cursor_word_behind => k_is)
    (case k_Cursor_word_behind => k_is)
    (case a_Cursor_at_end => k_is)
    (case i_Cursor_at_end => k_is)
    (case l_Cursor_at_end => k_is)
    (case w_Cursor_at_end => k_is)
    (case k_Cursor_at_end => k_is)
    (case a_Cursor_step => k_is)
    (case i_Cursor_step => k_is)
    (case l_Cursor_step => k_is)
    (case w_Cursor_step => k_is)
    (case k_Cursor_step => k_is)
    (case a_Cursor_expect => k_is)
    (case i_Cursor_expect => k_is)
    (case l_Cursor_expect => k_is)
    (case w_Cursor_expect => k_is)
    (case k_Cursor_expect => k_is)
    (case a_Cursor_take_name => k_is)
    (case i_Cursor_take_name => k_is)
    (case l_Cursor_take_name => k_is)
    (case w_Cursor_take_name => k_is)
    (case k_Cursor_take_name => k_is)
    (case a_Cursor_here => k_is)
    (case i_Cursor_here => k_is)
    (case l_Cursor_here => k_is)
    (case w_Cursor_here => k_is)
    (case k_Cursor_here => k_is)
    (case a_Cursor_fail => k_is)
    (case i_Cursor_fail => k_is)
    (case l_Cursor_fail => k_is)
    (case w_Cursor_fail => k_is)
    (case k_Cursor_fail => k_is)
    (case ne_read_statement_read_concept => decide +kernel)
    (case y_all => k_is)
    (case y_bool => k_is)
    (case y_int => k_is)
    (case y_isinstance => k_is)
    (case y_len => k_is)
    (case y_max => k_is)
    (case y_range => k_is)
    (case y_str => k_is)
    (case y_tuple => k_is)
    (case g_BLANKS => k_is)
    (case g_SIGNS => k_is)
    (case g_LETTERS => k_is)
    (case g_DIGITS => k_is)
    (case g_LONGEST_WORD => k_is)
    (case g_RESERVED => k_is); (case u_RESERVED => k_is)
    (case v_RESERVED => decide +kernel); (case vs_RESERVED => decide +kernel)
    (case g_DEEPEST_LEVEL => k_is)
    (case g_GREATEST_HEIGHT => k_is)