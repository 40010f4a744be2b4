import PyProof.Rows.All
import Wide.All
import OpenK.AllK
import Wide.FinOn
import HandS.ForMost
import HandS.StrMore
import HandS.IsInst
import HandS.FStr
import HandS.Wide
import HandS.Flow
import HandS.TupAny
import HandS.Evl
import HandS.More
import HandS.CallLocal
import HandS.Strs
import HandS.Replace
import HandS.ReplaceList
import HandS.Deep
import HandS.Walk
import HandS.MethStar
import KE.KStar
import HandS.Conv
import HandS.TupMul
import HandS.Style
import HandS.SetBool
import HandS.Gcd
import HandS.EndTab
import KE.KRevSl
import KE.SortData
import KE.SortKeyHeap
import KE.OsSortAny
import KE.GoesMore
import KE.KMathGC
import HandS.DictComp
import HandS.Flt
import HandS.ExcInit
import HandS.ExcOwn
import HandS.WordsExc
import HandS.ExcField
import KE.KDictCopyH
import PySem.Challenge.RW_ontoworks_k31_right_lines_hold_in_models
set_option Elab.async false
set_option linter.all false
set_option maxRecDepth 100000
set_option maxHeartbeats 4000000

namespace Pf
open PySem PySem.Spec PyProof.Rows L2
def Gate (p : Prop) : Prop := p
theorem Gate.out {p : Prop} (h : Gate p) : p := h
theorem Gate.lem {p : Prop} (h : p) : Gate p = True := eq_true h
/-- a def of the top under its name, bound without defaults -/
structure Df (K : PySem.W.Frag) (mg : Str → Option Value) (x : Str) (st : Stmt) (f : Addr) (fd : FuncData) (ps : List Str) : Prop where
  fn : Fun K x x st f fd
  mgf : mg x = some (.ref f)
  kp : PySem.W.keepIn K (.ref f) = true
  bd : Binds K fd ps []
/-- a def that keeps a promise, by its name -/
structure Cl (P : Program) (w : World) (K : PySem.W.Frag) (mg : Str → Option Value) (base : Heap) (k : Nat) (x : Str) (sp : Sp) : Prop where
  ex : ∃ (f : Addr) (fd : FuncData) (ps : List Str), FnOk P w K mg base CX0 k f fd ps sp ∧ mg x = some (.ref f) ∧ PySem.W.keepIn K (.ref f) = true ∧ Binds K fd ps []
section
variable {P : Program} {w : World} {K : PySem.W.Frag} {mg : Str → Option Value} {base : Heap}
theorem Df.cl {x : Str} {st : Stmt} {f : Addr} {fd : FuncData} {ps N : List Str} {k : Nat} {sp : Sp} (D : Df K mg x st f fd ps) (S : FnScope N ps (defScope st)) (len : ∀ vs H Q E, sp vs H Q E → vs.length = ps.length)
    (hbody : ∀ (cdv : Value) (A : Around) (outer : List Env) (s : Shared) (H : Hp) (vs : List V) (Q : VK) (E : XK), Room k (A.deeper (envOfC x (defScope st) s.heap.objs.size f cdv)) → sp vs H Q E →
      ∃ t, PSs (cxOf CX0 P w K mg base N x (defScope st) f cdv A outer s H E).nox (defBody st) t ∧ t { nx := fun _ H' => Q .non H', rt := Q } (start N vs) H) : Cl P w K mg base (k + 1) x sp :=
  ⟨f, fd, ps, D.fn.ok S len hbody, D.mgf, D.kp, D.bd⟩
theorem Cl.imp {x : Str} {k : Nat} {sp sp' : Sp} (c : Cl P w K mg base k x sp) (h : ∀ vs H Q E, sp' vs H Q E → sp vs H Q E) : Cl P w K mg base k x sp' := by
  obtain ⟨f, fd, ps, F, r⟩ := c.ex
  exact ⟨f, fd, ps, F.imp h, r⟩
theorem Cl.mono {x : Str} {k j : Nat} {sp : Sp} (c : Cl P w K mg base k x sp) (h : k ≤ j) : Cl P w K mg base j x sp := by
  obtain ⟨f, fd, ps, F, r⟩ := c.ex
  exact ⟨f, fd, ps, F.mono h, r⟩
end
section
variable {X : Cx} {k j : Nat} {x : Str} {sp : Sp} {p pos : Pos} {e : Expr} {es : List Expr} {t : TA}
theorem pc (c : Cl X.prog X.w X.K X.mg X.base k x sp) (hr : Room j X.A) (hk : k ≤ j) (hg : Gl X x) (ha : PA X (e :: es) t)
    (hdb : (x == ("__debug__" : Str)) = false := by decide) (he : starEach (e :: es) X.env = (false, eval e X.env) :: starEach es X.env := by rfl) (hpl : (backTo pos (starEach es X.env)).any (·.1) = false := by rfl) :
    PE X (.Call (.Name x p) (e :: es) [] pos) (tCall sp [] E0 t) := by
  obtain ⟨f, fd, ps, F, hm, kp, b⟩ := c.ex
  exact pe_call F (hr.mono hk) hg hm kp b .nil pass0 ha hdb he hpl
theorem pc0 (c : Cl X.prog X.w X.K X.mg X.base k x sp) (hr : Room j X.A) (hk : k ≤ j) (hg : Gl X x)
    (hdb : (x == ("__debug__" : Str)) = false := by decide) :
    PE X (.Call (.Name x p) [] [] pos) (tCall sp [] E0 tNil) := by
  obtain ⟨f, fd, ps, F, hm, kp, b⟩ := c.ex
  exact pe_call0 F (hr.mono hk) hg hm kp b .nil pass0 hdb
end
/-! heaps -/
theorem Same.new {H : Hp} {p : Addr} (o : HO) (h : H p = none) : Same H (upd H p o) := fun b u e => by
  rw [upd_ne (ne_of_none e h)]
  exact e
theorem Same.seqT {K : PySem.W.Frag} {H H' : Hp} {a : Addr} {xs : List V} (e : Same H H') (h : SqT K H a xs) : SqT K H' a xs := by
  rcases h with (h | ⟨o, h⟩) | h
  · exact .inl (.inl (e _ _ h))
  · exact .inl (.inr ⟨o, e _ _ h⟩)
  · exact .inr h
theorem upd_self {H : Hp} {a : Addr} {o : HO} (h : H a = some o) : upd H a o = H := by
  funext b
  unfold upd
  split
  · rename_i e
    rw [e, h]
  · rfl
/-! one short for the sign of a code -/
abbrev sg (c : Nat) : Str := ⟨#[c]⟩
/-! a written tuple of texts -/
def StrIts : List Value → List Str → Bool
  | [], [] => true
  | .str x _ :: vs, y :: ys => decide (x = y) && StrIts vs ys
  | _, _ => false
theorem strIts_vals : ∀ {vs : List Value} {ys : List Str}, StrIts vs ys = true → Vals (ys.map V.str) vs
  | [], [], _ => .nil
  | .str x t :: vs, y :: ys, h => by
    unfold StrIts at h
    rw [Bool.and_eq_true] at h
    have e := of_decide_eq_true h.1
    subst e
    exact .cons ⟨t, rfl⟩ (strIts_vals h.2)
theorem sqt_of {K : PySem.W.Frag} {H : Hp} {a : Addr} {od : Option Addr} {its : Array Value} {n : Nat} {sl : Array (Option Value)} {ys : List Str} (l : K.lookup a = some ⟨.type "tuple", od, .seq its n, sl⟩) (h : StrIts its.toList ys = true) (hs : decide (its.size ≤ 1000) = true) : SqT K H a (ys.map V.str) :=
  .inr ⟨_, its, n, l, rfl, rfl, Nat.le_trans (of_decide_eq_true hs) (by decide), strIts_vals h⟩
/-! the drawing helpers: what a caller needs of them -/
/-- _law_cell: some int -/
def spCell (K : PySem.W.Frag) : Sp := fun vs H Q _ => ∃ (a : Addr) (ns : List Int) (k : Int), vs = [.ref a, .int k] ∧ SqL K H a (ns.map V.int) ∧ ns.length ≤ 63 ∧ 0 ≤ k ∧ ∀ c : Int, Q (.int c) H
/-- _law_draws: a new list of so many ints, none below 0 -/
def spDraws (K : PySem.W.Frag) : Sp := fun vs H Q _ => ∃ (a : Addr) (ns : List Int) (k n : Int), vs = [.ref a, .int k, .int n] ∧ SqL K H a (ns.map V.int) ∧ ns.length ≤ 63 ∧ 0 ≤ k ∧ 0 ≤ n ∧ n ≤ 1000 ∧
  ∀ (ds : List Int) (p : Addr) (H' : Hp), Same H H' → H p = none → H' p = some (.lst (ds.map V.int)) → (ds.length : Int) = n → Q (.ref p) H'
/-- _law_take: an int below m; the list without its first -/
def spTake : Sp := fun vs H Q _ => ∃ (l : Addr) (ds : List Int) (m : Int), vs = [.ref l, .int m] ∧ H l = some (.lst (ds.map V.int)) ∧ 0 < m ∧ ∀ r : Int, 0 ≤ r → r < m → Q (.int r) (upd H l (.lst (ds.tail.map V.int)))
theorem map_tail {ds : List Int} : (ds.map V.int).tail = ds.tail.map V.int := by cases ds <;> rfl
theorem eraseIdx0 {α : Type} (xs : List α) : xs.eraseIdx 0 = xs.tail := by cases xs <;> rfl
/-- text * count -/
def rMulS : R2 := fun x y H Q => ∃ (z : Str) (n : Int), x = .str z ∧ y = .int n ∧ 0 ≤ n ∧ n ≤ 1000 ∧ z.length ≤ 10000 ∧ Q (.str (Txt.mul z n)) H
theorem mul_ok {z : Str} {n : Int} (h0 : 0 ≤ n) (h1 : n ≤ 1000) (hz : z.length ≤ 10000) : MulOk z n := by
  refine ⟨?_, fun h2 _ => ?_, fun _ _ => ?_⟩
  · rw [decide_eq_false (by omega), decide_eq_false (by omega)]
    rfl
  · intro h3
    have h4 : (2 ^ 63 - 1) / n ≥ (2 ^ 63 - 1) / 1000 := by
      refine Int.le_ediv_of_mul_le (by omega) ?_
      have : (2 ^ 63 - 1 : Int) / 1000 * n ≤ (2 ^ 63 - 1) / 1000 * 1000 := Int.mul_le_mul_of_nonneg_left h1 (by decide)
      exact Int.le_trans this (by decide)
    have h5 : ((2 : Int) ^ 63 - 1) / 1000 ≥ 10001 := by decide
    omega
  · unfold Builtin.Str.tooLong
    refine decide_eq_false ?_
    have : z.length * n.toNat ≤ 10000 * 1000 := Nat.mul_le_mul hz (by omega)
    have : sizeLine ≥ 10000000 := by decide
    omega
theorem op_mul_str {X : Cx} : OpR X (binaryOp .Mult) rMulS := by
  intro pins s σ H x y v u Q I rx ry h
  obtain ⟨z, n, rfl, rfl, h0, h1, hz, q⟩ := h
  obtain ⟨t, rfl⟩ := rx
  obtain ⟨t', rfl⟩ := ry
  exact PySem.SB.mul (mul_ok h0 h1 hz) fun t' k => ⟨.str (Txt.mul z n), H, I.tok _, ⟨_, rfl⟩, q⟩
/-- data of tuples, so many deep -/
def TupN : Nat → PyData → Prop
  | 0, _ => False
  | n + 1, .tuple ds => ds.length ≤ 100000 ∧ ∀ d ∈ ds, TupN n d
  | _ + 1, .list _ => False
  | _ + 1, .dict _ => False
  | _ + 1, _ => True
/-- _law_same upon the same data twice -/
def spSame (K : PySem.W.Frag) (n : Nat) : Sp := fun vs H Q _ => ∃ (x y : V) (d : PyData), vs = [x, y] ∧ Dp K H x d ∧ Dp K H y d ∧ TupN n d ∧ ∀ H', Same H H' → Q (.bl true) H'
theorem dpAll_len {K : PySem.W.Frag} {H : Hp} : ∀ {vs : List V} {ds : List PyData}, DpAll K H vs ds → vs.length = ds.length
  | _, _, .nil => rfl
  | _, _, .cons _ t => congrArg Nat.succ (dpAll_len t)
theorem dpAll_at {K : PySem.W.Frag} {H : Hp} : ∀ {vs : List V} {ds : List PyData}, DpAll K H vs ds → ∀ (i : Nat) (v : V) (d : PyData), vs[i]? = some v → ds[i]? = some d → Dp K H v d
  | _, _, .nil, i, v, d, h, _ => by simp at h
  | _, _, .cons a _, 0, v, d, h, h' => by
    simp at h h'
    rw [← h, ← h']
    exact a
  | _, _, .cons _ t, i + 1, v, d, h, h' => dpAll_at t i v d (by simpa using h) (by simpa using h')
mutual
theorem Dp.same {K : PySem.W.Frag} {H H' : Hp} (e : Same H H') : ∀ {d : PyData} {v : V}, Dp K H v d → Dp K H' v d
  | _, _, .non => .non
  | _, _, .bl b => .bl b
  | _, _, .int i => .int i
  | _, _, .str x => .str x
  | _, _, .lst h a => .lst (e.seq h) (DpAll.same e a)
  | _, _, .tup h a => .tup (Same.seqT e h) (DpAll.same e a)
theorem DpAll.same {K : PySem.W.Frag} {H H' : Hp} (e : Same H H') : ∀ {ds : List PyData} {vs : List V}, DpAll K H vs ds → DpAll K H' vs ds
  | _, _, .nil => .nil
  | _, _, .cons a t => .cons (Dp.same e a) (DpAll.same e t)
end
theorem tyT {K : PySem.W.Frag} {H : Hp} {a : Addr} {xs : List V} (h : SqT K H a xs) : TyX K H (.ref a) (.type "tuple") := by
  rcases h with (h | ⟨o, h⟩) | ⟨o, _, _, h, hc, _⟩
  · exact .base (.tup h)
  · exact .fTuple h
  · exact .kTuple h hc
theorem atI_some {α : Type} {xs : List α} {i : Nat} (h : i < xs.length) : atI xs (i : Int) = some xs[i] := atI_nat (List.getElem?_eq_getElem h)
/-- a sign that a text may have -/
def ChrOk (c : Nat) : Prop := 32 ≤ c ∧ c ≤ 126 ∧ c ≠ 37
instance (c : Nat) : Decidable (ChrOk c) := inferInstanceAs (Decidable (_ ∧ _))
def spChar : Sp := fun vs H Q _ => ∃ d : Int, vs = [.int d] ∧ ∀ c : Nat, ChrOk c → Q (.str (sg c)) H
/-! rules whose reading names the written part, said with it given (a comprehension's block wants that) -/
theorem ixT {X : Cx} {K : PySem.W.Frag} (h : X.K = K := by rfl) : IxR X (rIxT K) := by
  subst h
  exact ix_tup
theorem ixL {X : Cx} {K : PySem.W.Frag} (h : X.K = K := by rfl) : IxR X (rIxL K) := by
  subst h
  exact ix_list
def rLenQ (K : PySem.W.Frag) : List V → Hp → VK → Prop := fun xs H Q => ∃ p ys, xs = [.ref p] ∧ (SqL K H p ys ∨ SqT K H p ys) ∧ Q (.int ys.length) H
theorem lenQ {X : Cx} {K : PySem.W.Frag} (h : X.K = K := by rfl) : CallR X (.builtin "len") (rLenQ K) := by
  subst h
  exact call_len_seq
section
variable {K : PySem.W.Frag} {σ : L2.St} {H : Hp} {i : Nat} {x : V} {t T : String} {tt u : TS} {D : Ends}
theorem ev_isi {b : Bool} {Q : VK} (h : σ[i]? = some (some x)) (ty : TyX K H x (.type t)) (k : kitB t T = some b) (q : Q (.bl b) H) : tCB (rIsi K) (tCons (tVar i) (tCons (tC (.ty T)) tNil)) σ H Q := ⟨x, h, x, .ty T, _, _, b, rfl, .ty _, ty, kit_ty k, q⟩
theorem if_isiF (h : σ[i]? = some (some x)) (ty : TyX K H x (.type t)) (k : kitB t T = some false) (q : u D σ H) : tIfS (tB (tCB (rIsi K) (tCons (tVar i) (tCons (tC (.ty T)) tNil)))) tt u D σ H := ev_isi h ty k ⟨_, rfl, iteF q⟩
theorem if_isiT (h : σ[i]? = some (some x)) (ty : TyX K H x (.type t)) (k : kitB t T = some true) (q : tt D σ H) : tIfS (tB (tCB (rIsi K) (tCons (tVar i) (tCons (tC (.ty T)) tNil)))) tt u D σ H := ev_isi h ty k ⟨_, rfl, iteT q⟩
end
/-- an object that H does not know may change -/
theorem Same.mut {H H1 : Hp} {p : Addr} (o : HO) (e : Same H H1) (n : H p = none) : Same H (upd H1 p o) := fun b u h => by
  rw [upd_ne (ne_of_none h n)]
  exact e b u h
end Pf
namespace Pf
open PySem PySem.Spec PyProof.Rows L2
/-! data of tuples stands while lists change -/
def KT (K : PySem.W.Frag) (H H' : Hp) : Prop := ∀ a xs, SqT K H a xs → SqT K H' a xs
theorem KT.of {K : PySem.W.Frag} {H H' : Hp} (e : Same H H') : KT K H H' := fun _ _ h => Same.seqT e h
theorem KT.trans {K : PySem.W.Frag} {H H1 H2 : Hp} (a : KT K H H1) (b : KT K H1 H2) : KT K H H2 := fun x xs h => b x xs (a x xs h)
theorem KT.lst {K : PySem.W.Frag} {H : Hp} {l : Addr} {xs : List V} (o : HO) (h : H l = some (.lst xs)) : KT K H (upd H l o) := fun a ys q => by
  rcases q with (q | ⟨ob, q⟩) | q
  · exact .inl (.inl ((upd_ne (ne_of q h (by intro z; cases z))).trans q))
  · exact .inl (.inr ⟨ob, (upd_ne (ne_of q h (by intro z; cases z))).trans q⟩)
  · exact .inr q
theorem KT.ins {K : PySem.W.Frag} {H : Hp} {l C dx : Addr} {fs : List (Str × V)} (o : HO) (h : H l = some (.ins C dx fs)) : KT K H (upd H l o) := fun a ys q => by
  rcases q with (q | ⟨ob, q⟩) | q
  · exact .inl (.inl ((upd_ne (ne_of q h (by intro z; cases z))).trans q))
  · exact .inl (.inr ⟨ob, (upd_ne (ne_of q h (by intro z; cases z))).trans q⟩)
  · exact .inr q
theorem KT.new {K : PySem.W.Frag} {H : Hp} {l : Addr} (o : HO) (h : H l = none) : KT K H (upd H l o) := KT.of (Same.new o h)
mutual
theorem Dp.kt {K : PySem.W.Frag} {H H' : Hp} (e : KT K H H') : ∀ {n : Nat} {d : PyData} {v : V}, TupN n d → Dp K H v d → Dp K H' v d
  | _, _, _, _, .non => .non
  | _, _, _, _, .bl b => .bl b
  | _, _, _, _, .int i => .int i
  | _, _, _, _, .str x => .str x
  | 0, _, _, z, .lst _ _ => z.elim
  | _ + 1, _, _, z, .lst _ _ => z.elim
  | 0, _, _, z, .tup _ _ => z.elim
  | _ + 1, _, _, z, .tup h a => .tup (e _ _ h) (DpAll.kt e z.2 a)
theorem DpAll.kt {K : PySem.W.Frag} {H H' : Hp} (e : KT K H H') : ∀ {n : Nat} {ds : List PyData} {vs : List V}, (∀ d ∈ ds, TupN n d) → DpAll K H vs ds → DpAll K H' vs ds
  | _, _, _, _, .nil => .nil
  | _, _, _, z, .cons a t => .cons (Dp.kt e (z _ (List.mem_cons_self ..)) a) (DpAll.kt e (fun d hd => z d (List.mem_cons_of_mem _ hd)) t)
end
theorem dpAll_app {K : PySem.W.Frag} {H : Hp} : ∀ {vs ws : List V} {ds es : List PyData}, DpAll K H vs ds → DpAll K H ws es → DpAll K H (vs ++ ws) (ds ++ es)
  | _, _, _, _, .nil, h => h
  | _, _, _, _, .cons a t, h => .cons a (dpAll_app t h)
/-! a slice of a list of ints -/
def cutI {α : Type} (ds : List α) (lo hi : Option Int) : List α := (ds.drop (HT.sIx ds.length 0 lo)).take (HT.sIx ds.length ds.length hi - HT.sIx ds.length 0 lo)
theorem cutV_map {α : Type} (f : α → V) (ds : List α) (lo hi : Option Int) : cutV (ds.map f) lo hi = (cutI ds lo hi).map f := by
  unfold cutV cutI
  rw [List.length_map, List.map_take, List.map_drop]
end Pf
namespace Pf
open PySem PySem.Spec PyProof.Rows L2
/-- all but d stands -/
def SameX (d : Addr) (H H' : Hp) : Prop := ∀ b o, b ≠ d → H b = some o → H' b = some o
theorem SameX.refl (d : Addr) (H : Hp) : SameX d H H := fun _ _ _ h => h
theorem SameX.trans {d : Addr} {H H1 H2 : Hp} (a : SameX d H H1) (b : SameX d H1 H2) : SameX d H H2 := fun x o n h => b x o n (a x o n h)
theorem SameX.new {d p : Addr} {H : Hp} (o : HO) (h : H p = none) : SameX d H (upd H p o) := fun b u _ e => Same.new o h b u e
theorem SameX.at {d : Addr} {H : Hp} (o : HO) : SameX d H (upd H d o) := fun b u n e => (upd_ne n).trans e
theorem SameX.mut {d p : Addr} {H H1 : Hp} (o : HO) (e : SameX d H H1) (h : H p = none) : SameX d H (upd H1 p o) := fun b u n q => by
  rw [upd_ne (ne_of_none q h)]
  exact e b u n q
theorem SameX.of {d : Addr} {H H' : Hp} (e : Same H H') : SameX d H H' := fun b o _ h => e b o h
theorem KT.x {K : PySem.W.Frag} {d : Addr} {H H' : Hp} {xs : List V} (h : H d = some (.lst xs)) (e : SameX d H H') : KT K H H' := fun a ys q => by
  rcases q with (q | ⟨ob, q⟩) | q
  · exact .inl (.inl (e _ _ (ne_of q h (by intro z; cases z)) q))
  · exact .inl (.inr ⟨ob, e _ _ (ne_of q h (by intro z; cases z)) q⟩)
  · exact .inr q
theorem SameX.free {d p : Addr} {H H' : Hp} (e : SameX d H H') (n : p ≠ d) (h : H' p = none) : H p = none := by
  cases q : H p with
  | none => rfl
  | some o =>
    rw [e p o n q] at h
    cases h
end Pf

namespace Pf
open PySem PySem.Spec PyProof.Rows L2
/-! texts by the lists of their codes -/
abbrev T (l : List Nat) : Str := ⟨l.toArray⟩
theorem T_of (x : Str) : x = T x.cps.toList := TL.ext_tl rfl
theorem T_len (l : List Nat) : (T l).length = l.length := by simp [Str.length]
theorem T_cat (a b : List Nat) : T a ++ T b = T (a ++ b) := TL.ext_tl (TL.tl_append (T a) (T b))
theorem T_inj {a b : List Nat} (h : T a = T b) : a = b := congrArg (fun x : Str => x.cps.toList) h
theorem T_eq {a b : List Nat} : decide (T a = T b) = decide (a = b) := by
  by_cases h : a = b
  · rw [h, decide_eq_true rfl, decide_eq_true rfl]
  · rw [decide_eq_false h, decide_eq_false fun e => h (T_inj e)]
theorem V_eq {a b : List Nat} : decide (V.str (T a) = V.str (T b)) = decide (a = b) := by
  by_cases h : a = b
  · rw [h, decide_eq_true rfl, decide_eq_true rfl]
  · rw [decide_eq_false h, decide_eq_false fun e => h (T_inj (V.str.inj e))]
theorem cut_to (l : List Nat) (n : Nat) : cutS (T l) none (some (n : Int)) = T (l.take n) := by
  unfold cutS
  rw [HT.sIx_none, HT.sIx_nat, T_len]
  refine TL.ext_tl ?_
  show (l.drop 0).take (min n l.length - 0) = l.take n
  rw [List.drop_zero, Nat.sub_zero, ← List.take_eq_take_min]
theorem cut_from (l : List Nat) (n : Nat) : cutS (T l) (some (n : Int)) none = T (l.drop n) := by
  unfold cutS
  rw [HT.sIx_none, HT.sIx_nat, T_len]
  refine TL.ext_tl ?_
  show (l.drop (min n l.length)).take (l.length - min n l.length) = l.drop n
  by_cases h : n ≤ l.length
  · rw [Nat.min_eq_left h, List.take_of_length_le (by rw [List.length_drop]; omega)]
  · rw [Nat.min_eq_right (by omega), List.drop_eq_nil_of_le (by omega), List.drop_eq_nil_of_le (by omega), List.take_nil]
theorem cut_mid (l : List Nat) {a b : Nat} (ha : a ≤ b) (hb : b ≤ l.length) : cutS (T l) (some (a : Int)) (some (b : Int)) = T ((l.drop a).take (b - a)) := by
  unfold cutS
  rw [HT.sIx_nat, HT.sIx_nat, T_len, Nat.min_eq_left (show a ≤ l.length by omega), Nat.min_eq_left hb]
/-- a text walked by its signs -/
theorem for_txt {l : List Nat} {g : TG} {tb : TS} {D : Ends} {σ : L2.St} {H : Hp} (Pv : Nat → L2.St → Hp → Prop) (h0 : Pv 0 σ H)
    (hs : ∀ i c σ H, l[i]? = some c → Pv i σ H → g (.str (sg c)) σ H fun σ2 H2 => tb { D with nx := Pv (i + 1), ct := Pv (i + 1), bk := D.nx } σ2 H2) (hd : ∀ σ H, Pv l.length σ H → D.nx σ H) :
    ∃ W : Nat → Nat → L2.St → Hp → Prop, (∃ m, W 0 m σ H) ∧ ∀ i m σ H, W i m σ H →
      ((Its (T l)).stop i H ∧ D.nx σ H) ∨ ((Its (T l)).go i H ∧ ∃ N : L2.St → Hp → Prop, (∀ σ' H', N σ' H' → ∃ m', m' < m ∧ W (i + 1) m' σ' H') ∧ ∀ x H', (Its (T l)).yld i H x H' → g x σ H' fun σ2 H2 => tb { D with nx := N, ct := N, bk := D.nx } σ2 H2) := by
  refine ⟨fun i m σ H => m = l.length - i ∧ i ≤ l.length ∧ Pv i σ H, ⟨l.length, by simp, Nat.zero_le _, h0⟩, ?_⟩
  rintro i m σ H ⟨rfl, hi, p⟩
  by_cases hlt : i < l.length
  · refine .inr ⟨(by show i < l.toArray.size; simpa using hlt), Pv (i + 1), fun σ' H' p' => ⟨l.length - (i + 1), by omega, rfl, hlt, p'⟩, fun x H' y => ?_⟩
    obtain ⟨rfl, c, hc, rfl⟩ := y
    exact hs i c σ H' (by simpa using hc) p
  · have e : i = l.length := by omega
    subst e
    exact .inl ⟨(by show l.toArray.size ≤ l.length; simp), hd _ _ p⟩
/-- a comprehension over a text -/
theorem lc_txt {l : List Nat} {g : TG} {tt : TT} {te : TE} {vs : List Nat} {σ : L2.St} {H1 : Hp} {D : Addr} {Qd : Hp → Prop} (Pv : Nat → Hp → Prop) (h0 : Pv 0 (upd H1 D (.lst [])))
    (hs : ∀ i c H, l[i]? = some c → Pv i H → g (.str (sg c)) (wipe σ vs) H fun σ2 H2 => wipe σ2 vs = wipe σ vs ∧ tt σ2 H2 fun b H3 =>
      if b = true then te σ2 H3 fun y H4 => ∃ acc, H4 D = some (.lst acc) ∧ acc.length < sizeLine ∧ Pv (i + 1) (upd H4 D (.lst (acc ++ [y]))) else Pv (i + 1) H3) (hd : ∀ H, Pv l.length H → Qd H) :
    ∃ W : Nat → Nat → Hp → Prop, (∃ m, W 0 m (upd H1 D (.lst []))) ∧ ∀ i m H, W i m H →
      ((Its (T l)).stop i H ∧ Qd H) ∨ ((Its (T l)).go i H ∧ ∃ Nx : Hp → Prop, (∀ H', Nx H' → ∃ m', m' < m ∧ W (i + 1) m' H') ∧ ∀ x H', (Its (T l)).yld i H x H' → g x (wipe σ vs) H' fun σ2 H2 => wipe σ2 vs = wipe σ vs ∧ tt σ2 H2 fun b H3 =>
        if b = true then te σ2 H3 fun y H4 => ∃ acc, H4 D = some (.lst acc) ∧ acc.length < sizeLine ∧ Nx (upd H4 D (.lst (acc ++ [y]))) else Nx H3) := by
  refine ⟨fun i m H => m = l.length - i ∧ i ≤ l.length ∧ Pv i H, ⟨l.length, by simp, Nat.zero_le _, h0⟩, ?_⟩
  rintro i m H ⟨rfl, hi, p⟩
  by_cases hlt : i < l.length
  · refine .inr ⟨(by show i < l.toArray.size; simpa using hlt), Pv (i + 1), fun H' p' => ⟨l.length - (i + 1), by omega, rfl, hlt, p'⟩, fun x H' y => ?_⟩
    obtain ⟨rfl, c, hc, rfl⟩ := y
    exact hs i c H' (by simpa using hc) p
  · have e : i = l.length := by omega
    subst e
    exact .inl ⟨(by show l.toArray.size ≤ l.length; simp), hd _ p⟩
theorem small9 {n : Nat} (h : n ≤ 1000000) : n ≤ sizeLine := Nat.le_trans h (by decide)
/-- a sign of a text all of whose signs are of a kind -/
theorem ix_of {z : Str} {i : Int} {H : Hp} {Q : VK} (p : Nat → Bool) (h0 : 0 ≤ i) (h1 : i < (z.length : Int)) (hz : z.length ≤ sizeLine) (hc : z.cps.toList.all p = true) (q : ∀ c, p c = true → Q (.str (sg c)) H) : rIxS (.str z) (.int i) H Q := by
  have hl : z.length = z.cps.toList.length := by simp [Str.length]
  have hi : i.toNat < z.cps.toList.length := by omega
  have ei : i = ((i.toNat : Nat) : Int) := by omega
  refine ⟨z, i, z.cps.toList[i.toNat], rfl, rfl, hz, ?_, q _ (List.all_eq_true.mp hc _ (List.getElem_mem hi))⟩
  have := atI_some hi
  rw [← ei] at this
  exact this
theorem nl_eq : Str.ofString "\n" = T [10] := by decide +kernel
theorem e_eq : Str.ofString "" = T [] := by decide +kernel
theorem at_any {α : Type} {xs : List α} (p : α → Prop) {i : Int} (h0 : 0 ≤ i) (h1 : i < (xs.length : Int)) (h : ∀ x ∈ xs, p x) : ∃ v, p v ∧ atI xs i = some v := by
  have hi : i.toNat < xs.length := by omega
  have ei : i = ((i.toNat : Nat) : Int) := by omega
  refine ⟨xs[i.toNat], h _ (List.getElem_mem hi), ?_⟩
  have := atI_some hi
  rw [← ei] at this
  exact this
theorem inV_strs (x : Str) (ys : List Str) : inV (.str x) (ys.map V.str) = decide (x ∈ ys) := by
  refine Pf.Gate.out ?_
  simp (disch := (with_unfolding_all (
      unfold inV
      rw [List.any_map]
      induction ys with
      | nil => rfl
      | cons y ys ih =>
        rw [List.any_cons, ih]
        show ((y == x) || decide (x ∈ ys)) = decide (x ∈ y :: ys)
        by_cases h : y = x
        · subst h
          rw [beq_self_eq_true, Bool.true_or, decide_eq_true (List.mem_cons_self ..)]
        · rw [beq_false_of_ne h, Bool.false_or]
          by_cases h2 : x ∈ ys
          · rw [decide_eq_true h2, decide_eq_true (List.mem_cons_of_mem _ h2)]
          · rw [decide_eq_false h2, decide_eq_false]
            intro h3
            rcases List.mem_cons.mp h3 with h3 | h3
            · exact h h3.symm
            · exact h2 h3
    ))) only [↓Pf.Gate.lem]
theorem flat_strs (ys : List Str) : (ys.map V.str).all flatV = true := by
  rw [List.all_map, List.all_eq_true]
  intro x _
  rfl
theorem join_T (a : List Nat) (ys : List (List Nat)) : Txt.join (T a) (ys.map T) = T (TL.joinL a ys) := by
  rw [TL.join_eq]
  refine TL.ext_tl ?_
  rw [TL.tl_join, List.map_map]
  have e : ys.map (TL.tl ∘ T) = ys := by
    induction ys with
    | nil => rfl
    | cons y ys ih =>
      rw [List.map_cons, ih]
      rfl
  rw [e]
/-! the kinds of signs -/
def isL (c : Nat) : Bool := decide (c ∈ (Str.ofString "abcdefghijklmnopqrstuvwxyzABCDEFGHIJKLMNOPQRSTUVWXYZ_").cps.toList)
def isW (c : Nat) : Bool := isL c || decide (c ∈ (Str.ofString "0123456789").cps.toList)
def isB (c : Nat) : Bool := decide (c ∈ (Str.ofString " \n").cps.toList)
def isS (c : Nat) : Bool := decide (c ∈ (Str.ofString "();,:").cps.toList)
end Pf

namespace Pf
open PySem PySem.Spec PyProof.Rows L2
/-! written trees as data -/
def strsV (ns : List (List Nat)) : List V := ns.map fun n => V.str (T n)
def lit (s : String) : List Nat := (Str.ofString s).cps.toList
theorem lit_T (s : String) : Str.ofString s = T (lit s) := T_of _
abbrev Rol := List Nat × Bool
def rolD (r : Rol) : PyData := .tuple [.str (T r.1), .bool r.2]
inductive Con where
  | any | nothing
  | name (s : List Nat)
  | not (c : Con)
  | both (c d : Con)
  | either (c d : Con)
  | some (r : Rol) (c : Con)
  | all (r : Rol) (c : Con)
namespace Con
def D : Con → PyData
  | .any => .tuple [.str (Str.ofString "anything")]
  | .nothing => .tuple [.str (Str.ofString "nothing")]
  | .name s => .tuple [.str (Str.ofString "name"), .str (T s)]
  | .not c => .tuple [.str (Str.ofString "not"), c.D]
  | .both c d => .tuple [.str (Str.ofString "and"), c.D, d.D]
  | .either c d => .tuple [.str (Str.ofString "or"), c.D, d.D]
  | .some r c => .tuple [.str (Str.ofString "some"), rolD r, c.D]
  | .all r c => .tuple [.str (Str.ofString "all"), rolD r, c.D]
/-- how many trees are within one another -/
def dp : Con → Nat
  | .not c => c.dp + 1
  | .both c d => max c.dp d.dp + 1
  | .either c d => max c.dp d.dp + 1
  | .some _ c => c.dp + 1
  | .all _ c => c.dp + 1
  | _ => 0
/-- a bound of its text -/
def sz : Con → Nat
  | .name s => s.length + 20
  | .not c => c.sz + 20
  | .both c d => c.sz + d.sz + 20
  | .either c d => c.sz + d.sz + 20
  | .some r c => r.1.length + c.sz + 40
  | .all r c => r.1.length + c.sz + 40
  | _ => 20
end Con
theorem rolN (r : Rol) : TupN 2 (rolD r) := ⟨(by show 2 ≤ 100000; decide), fun d hd => by
  rcases List.mem_cons.mp hd with rfl | hd
  · trivial
  rw [List.mem_singleton.mp hd]
  trivial⟩
theorem TupN.up : ∀ {n : Nat} {d : PyData}, TupN n d → TupN (n + 1) d
  | 0, _, h => h.elim
  | n + 1, .tuple ds, h => ⟨h.1, fun d hd => TupN.up (h.2 d hd)⟩
  | _ + 1, .list _, h => h.elim
  | _ + 1, .dict _, h => h.elim
  | _ + 1, .none, _ => trivial
  | _ + 1, .bool _, _ => trivial
  | _ + 1, .int _, _ => trivial
  | _ + 1, .str _, _ => trivial
theorem TupN.le {n m : Nat} {d : PyData} (h : TupN n d) (e : n ≤ m) : TupN m d := by
  obtain ⟨k, rfl⟩ : ∃ k, m = n + k := ⟨m - n, by omega⟩
  induction k with
  | zero => exact h
  | succ k ih => exact (ih (by omega)).up
theorem tupN_of {n : Nat} {ds : List PyData} (hl : ds.length ≤ 100000) (h : ∀ d ∈ ds, TupN n d) : TupN (n + 1) (.tuple ds) := ⟨hl, h⟩
theorem tup1 {n : Nat} {a : PyData} (ha : TupN n a) : TupN (n + 1) (.tuple [a]) := ⟨(by show 1 ≤ 100000; decide), fun d hd => by
  rw [List.mem_singleton.mp hd]
  exact ha⟩
theorem tup2 {n : Nat} {a b : PyData} (ha : TupN n a) (hb : TupN n b) : TupN (n + 1) (.tuple [a, b]) := ⟨(by show 2 ≤ 100000; decide), fun d hd => by
  rcases List.mem_cons.mp hd with rfl | hd
  · exact ha
  rw [List.mem_singleton.mp hd]
  exact hb⟩
theorem tup3 {n : Nat} {a b c : PyData} (ha : TupN n a) (hb : TupN n b) (hc : TupN n c) : TupN (n + 1) (.tuple [a, b, c]) := ⟨(by show 3 ≤ 100000; decide), fun d hd => by
  rcases List.mem_cons.mp hd with rfl | hd
  · exact ha
  rcases List.mem_cons.mp hd with rfl | hd
  · exact hb
  rw [List.mem_singleton.mp hd]
  exact hc⟩
theorem tup4 {n : Nat} {a b c e : PyData} (ha : TupN n a) (hb : TupN n b) (hc : TupN n c) (he : TupN n e) : TupN (n + 1) (.tuple [a, b, c, e]) := ⟨(by show 4 ≤ 100000; decide), fun d hd => by
  rcases List.mem_cons.mp hd with rfl | hd
  · exact ha
  rcases List.mem_cons.mp hd with rfl | hd
  · exact hb
  rcases List.mem_cons.mp hd with rfl | hd
  · exact hc
  rw [List.mem_singleton.mp hd]
  exact he⟩
theorem strN (n : Nat) (x : Str) : TupN (n + 1) (.str x) := trivial
theorem Con.tn : ∀ c : Con, TupN (c.dp + 3) c.D
  | .any => tup1 trivial
  | .nothing => tup1 trivial
  | .name _ => tup2 trivial trivial
  | .not c => tup2 trivial (Con.tn c)
  | .both c d => tup3 trivial ((Con.tn c).le (by show c.dp + 3 ≤ max c.dp d.dp + 3; omega)) ((Con.tn d).le (by show d.dp + 3 ≤ max c.dp d.dp + 3; omega))
  | .either c d => tup3 trivial ((Con.tn c).le (by show c.dp + 3 ≤ max c.dp d.dp + 3; omega)) ((Con.tn d).le (by show d.dp + 3 ≤ max c.dp d.dp + 3; omega))
  | .some r c => tup3 trivial ((rolN r).le (by omega)) (Con.tn c)
  | .all r c => tup3 trivial ((rolN r).le (by omega)) (Con.tn c)
/-! data taken apart -/
section
variable {K : PySem.W.Frag} {H : Hp} {v : V}
theorem dp_tup {ds : List PyData} (h : Dp K H v (.tuple ds)) : ∃ a xs, v = .ref a ∧ SqT K H a xs ∧ DpAll K H xs ds := by
  cases h with
  | tup h a => exact ⟨_, _, rfl, h, a⟩
theorem dp_str {x : Str} (h : Dp K H v (.str x)) : v = .str x := by
  cases h
  rfl
theorem dp_bool {b : Bool} (h : Dp K H v (.bool b)) : v = .bl b := by
  cases h
  rfl
theorem dp_int {i : Int} (h : Dp K H v (.int i)) : v = .int i := by
  cases h
  rfl
theorem da_cons {xs : List V} {d : PyData} {ds : List PyData} (h : DpAll K H xs (d :: ds)) : ∃ x r, xs = x :: r ∧ Dp K H x d ∧ DpAll K H r ds := by
  cases h with
  | cons a t => exact ⟨_, _, rfl, a, t⟩
theorem da_nil {xs : List V} (h : DpAll K H xs []) : xs = [] := by
  cases h
  rfl
theorem dp1 {x : Str} (h : Dp K H v (.tuple [.str x])) : ∃ a, v = .ref a ∧ SqT K H a [.str x] := by
  obtain ⟨a, xs, rfl, hs, hd⟩ := dp_tup h
  obtain ⟨y, r, rfl, h1, hd⟩ := da_cons hd
  cases da_nil hd
  cases dp_str h1
  exact ⟨a, rfl, hs⟩
theorem dp2 {x : Str} {d : PyData} (h : Dp K H v (.tuple [.str x, d])) : ∃ a y, v = .ref a ∧ SqT K H a [.str x, y] ∧ Dp K H y d := by
  obtain ⟨a, xs, rfl, hs, hd⟩ := dp_tup h
  obtain ⟨y, r, rfl, h1, hd⟩ := da_cons hd
  obtain ⟨z, r, rfl, h2, hd⟩ := da_cons hd
  cases da_nil hd
  cases dp_str h1
  exact ⟨a, z, rfl, hs, h2⟩
theorem dp3 {x : Str} {d e : PyData} (h : Dp K H v (.tuple [.str x, d, e])) : ∃ a y z, v = .ref a ∧ SqT K H a [.str x, y, z] ∧ Dp K H y d ∧ Dp K H z e := by
  obtain ⟨a, xs, rfl, hs, hd⟩ := dp_tup h
  obtain ⟨y, r, rfl, h1, hd⟩ := da_cons hd
  obtain ⟨z, r, rfl, h2, hd⟩ := da_cons hd
  obtain ⟨w, r, rfl, h3, hd⟩ := da_cons hd
  cases da_nil hd
  cases dp_str h1
  exact ⟨a, z, w, rfl, hs, h2, h3⟩
theorem dp4 {x : Str} {d e g : PyData} (h : Dp K H v (.tuple [.str x, d, e, g])) : ∃ a y z w, v = .ref a ∧ SqT K H a [.str x, y, z, w] ∧ Dp K H y d ∧ Dp K H z e ∧ Dp K H w g := by
  obtain ⟨a, xs, rfl, hs, hd⟩ := dp_tup h
  obtain ⟨y, r, rfl, h1, hd⟩ := da_cons hd
  obtain ⟨z, r, rfl, h2, hd⟩ := da_cons hd
  obtain ⟨w, r, rfl, h3, hd⟩ := da_cons hd
  obtain ⟨u, r, rfl, h4, hd⟩ := da_cons hd
  cases da_nil hd
  cases dp_str h1
  exact ⟨a, z, w, u, rfl, hs, h2, h3, h4⟩
theorem dpRol {r : Rol} (h : Dp K H v (rolD r)) : ∃ a, v = .ref a ∧ SqT K H a [.str (T r.1), .bl r.2] := by
  obtain ⟨a, y, rfl, hs, h2⟩ := dp2 h
  cases dp_bool h2
  exact ⟨a, rfl, hs⟩
end
/-! a test whose texts are written -/
section
variable {K : PySem.W.Frag} {σ : L2.St} {H : Hp} {i : Nat} {s t t' : Str} {tt u : TS} {D : Ends}
theorem if_eqF (h : σ[i]? = some (some (.str s))) (hd : decide (s = t) = false) (q : u D σ H) : tIfS (tTest (tOp rEq (tVar i) (tC (.str t)))) tt u D σ H := ⟨_, h, rfl, _, rfl, by
  rw [decide_eq_false (fun z => of_decide_eq_false hd (V.str.inj z))]
  exact iteF q⟩
theorem if_eqT (h : σ[i]? = some (some (.str s))) (hd : decide (s = t) = true) (q : tt D σ H) : tIfS (tTest (tOp rEq (tVar i) (tC (.str t)))) tt u D σ H := ⟨_, h, rfl, _, rfl, by
  rw [decide_eq_true (congrArg V.str (of_decide_eq_true hd))]
  exact iteT q⟩
theorem if_eq2F (h : σ[i]? = some (some (.str s))) (hd : (decide (s = t) || decide (s = t')) = false) (q : u D σ H) : tIfS (tOr (tTest (tOp rEq (tVar i) (tC (.str t)))) (tTest (tOp rEq (tVar i) (tC (.str t'))))) tt u D σ H := by
  rw [Bool.or_eq_false_iff] at hd
  refine ⟨_, h, rfl, _, rfl, ?_⟩
  rw [decide_eq_false (fun z => of_decide_eq_false hd.1 (V.str.inj z))]
  refine iteF ⟨_, h, rfl, _, rfl, ?_⟩
  rw [decide_eq_false (fun z => of_decide_eq_false hd.2 (V.str.inj z))]
  exact iteF q
theorem if_eq2T (h : σ[i]? = some (some (.str s))) (hd : (decide (s = t) || decide (s = t')) = true) (q : tt D σ H) : tIfS (tOr (tTest (tOp rEq (tVar i) (tC (.str t)))) (tTest (tOp rEq (tVar i) (tC (.str t'))))) tt u D σ H := by
  refine ⟨_, h, rfl, _, rfl, ?_⟩
  by_cases e : s = t
  · rw [decide_eq_true (congrArg V.str e)]
    exact iteT (iteT q)
  · rw [decide_eq_false (fun z => e (V.str.inj z))]
    rw [decide_eq_false e, Bool.false_or] at hd
    refine iteF ⟨_, h, rfl, _, rfl, ?_⟩
    rw [decide_eq_true (congrArg V.str (of_decide_eq_true hd))]
    exact iteT q
theorem if_in2 {b : Bool} (h : σ[i]? = some (some (.str s))) (hd : (decide (s = t) || decide (s = t')) = b) (q1 : b = true → ∀ p, H p = none → tt D σ (upd H p (.tup [.str t, .str t']))) (q2 : b = false → ∀ p, H p = none → u D σ (upd H p (.tup [.str t, .str t']))) :
    tIfS (tTest (tOp (rIn K false) (tVar i) (tTup (tCons (tC (.str t)) (tCons (tC (.str t')) tNil))))) tt u D σ H := by
  refine ⟨_, h, by show 2 ≤ sizeLine; decide, fun p hp => ⟨p, _, rfl, .inr (SqT.of upd_same), rfl, rfl, b, ?_, ?_⟩⟩
  · show V.bl (inV (.str s) [.str t, .str t']) = .bl b
    rw [show [V.str t, V.str t'] = [t, t'].map V.str from rfl, inV_strs, ← hd, ← Bool.decide_or]
    exact congrArg V.bl (decide_eq_decide.mpr (by simp))
  · cases b with
    | true => exact iteT (q1 rfl p hp)
    | false => exact iteF (q2 rfl p hp)
theorem if_in2T (h : σ[i]? = some (some (.str s))) (hd : (decide (s = t) || decide (s = t')) = true) (q : ∀ p, H p = none → tt D σ (upd H p (.tup [.str t, .str t']))) :
    tIfS (tTest (tOp (rIn K false) (tVar i) (tTup (tCons (tC (.str t)) (tCons (tC (.str t')) tNil))))) tt u D σ H := if_in2 h hd (fun _ => q) (fun z => Bool.noConfusion z)
theorem if_in2F (h : σ[i]? = some (some (.str s))) (hd : (decide (s = t) || decide (s = t')) = false) (q : ∀ p, H p = none → u D σ (upd H p (.tup [.str t, .str t']))) :
    tIfS (tTest (tOp (rIn K false) (tVar i) (tTup (tCons (tC (.str t)) (tCons (tC (.str t')) tNil))))) tt u D σ H := if_in2 h hd (fun z => Bool.noConfusion z) (fun _ => q)
end
/-! texts glued in an f-string -/
section
variable {σ : L2.St} {H : Hp} {ts : List TE} {te : TE} {Q : Str → Hp → Prop}
theorem js_c {a : List Nat} {s : String} (hl : decide ((lit s).length ≤ 20) = true) (hz : a.length ≤ 400000) (q : tJs ts (T (a ++ lit s)) σ H Q) : tJs (tC (.str (Str.ofString s)) :: ts) (T a) σ H Q := by
  refine ⟨Str.ofString s, rfl, ?_, ?_⟩
  · rw [Str.length_append, lit_T, T_len, T_len]
    have := of_decide_eq_true hl
    exact small9 (by omega)
  · rw [lit_T s, T_cat]
    exact q
/-- a field whose value is a text: te gives it, the heap may have grown -/
theorem js_e {a b : List Nat} (ht : ∀ R : VK, (∀ H', Same H H' → R (.str (T b)) H') → te σ H R) (hb : b.length ≤ 400000) (hz : a.length ≤ 400000) (q : ∀ H', Same H H' → tJs ts (T (a ++ b)) σ H' Q) : tJs (tFmt te :: ts) (T a) σ H Q := by
  refine ht _ fun H' e => .inl ⟨T b, rfl, by rw [T_len]; exact small9 (by omega), T b, rfl, by rw [Str.length_append, T_len, T_len]; exact small9 (by omega), ?_⟩
  rw [T_cat]
  exact q H' e
theorem js_0 (q : tJs ts (T []) σ H Q) : tJs ts Str.empty σ H Q := q
theorem js_end {a : List Nat} (q : Q (T a) H) : tJs [] (T a) σ H Q := q
end
end Pf
namespace Pf
open PySem PySem.Spec PyProof.Rows L2
/-! what gives a text, from a heap on -/
def GT (te : TE) (σ : L2.St) (H : Hp) (b : List Nat) : Prop := ∀ H1, Same H H1 → ∀ R : VK, (∀ H', Same H1 H' → R (.str (T b)) H') → te σ H1 R
def rAddS : R2 := fun x y H Q => ∃ i j, x = V.str i ∧ y = V.str j ∧ i.length + j.length ≤ sizeLine ∧ Q (.str (i ++ j)) H
section
variable {σ : L2.St} {H H' : Hp} {ta tb te : TE} {a b : List Nat} {i : Nat}
theorem GT.mono (g : GT te σ H b) (e : Same H H') : GT te σ H' b := fun H1 e1 R r => g H1 (e.trans e1) R r
theorem gt_c (s : String) : GT (tC (.str (Str.ofString s))) σ H (lit s) := fun H1 _ R r => by
  have := r H1 (Same.refl _)
  rw [← lit_T] at this
  exact this
theorem gt_var (h : σ[i]? = some (some (.str (T b)))) : GT (tVar i) σ H b := fun H1 _ R r => ⟨_, h, r H1 (Same.refl _)⟩
theorem gt_varL {s : String} (h : σ[i]? = some (some (.str (Str.ofString s)))) : GT (tVar i) σ H (lit s) := fun H1 _ R r => ⟨_, h, by
  have := r H1 (Same.refl _)
  rw [← lit_T] at this
  exact this⟩
theorem gt_add (ha : GT ta σ H a) (hb : GT tb σ H b) (la : a.length ≤ 400000) (lb : b.length ≤ 400000) : GT (tOp rAddS ta tb) σ H (a ++ b) := fun H1 e R r =>
  ha H1 e _ fun H2 e2 => hb H2 (e.trans e2) _ fun H3 e3 => ⟨_, _, rfl, rfl, by rw [T_len, T_len]; exact small9 (by omega), by
    rw [T_cat]
    exact r H3 (e2.trans e3)⟩
theorem gt_ret {D : Ends} (h : GT te σ H b) (q : ∀ H', Same H H' → D.rt (.str (T b)) H') : tRet te D σ H := h H (Same.refl _) _ q
theorem gt_set {D : Ends} (h : GT te σ H b) (q : ∀ H', Same H H' → D.nx (σ.set i (some (.str (T b)))) H') : tAsg te (gName i) D σ H := h H (Same.refl _) _ q
end
/-! statements and questions as they are written -/
inductive Stm where
  | below (c d : Con) | equals (c d : Con) | apart (c d : Con)
  | domain (r : Rol) (c : Con) | range (r : Rol) (c : Con)
  | under (r s : Rol) | inverse (a b : List Nat) | is (a : List Nat) (c : Con) | has (a b c : List Nat) | never
namespace Stm
def D : Stm → PyData
  | .below c d => .tuple [.str (Str.ofString "below"), c.D, d.D]
  | .equals c d => .tuple [.str (Str.ofString "equals"), c.D, d.D]
  | .apart c d => .tuple [.str (Str.ofString "apart"), c.D, d.D]
  | .domain r c => .tuple [.str (Str.ofString "domain"), rolD r, c.D]
  | .range r c => .tuple [.str (Str.ofString "range"), rolD r, c.D]
  | .under r s => .tuple [.str (Str.ofString "under"), rolD r, rolD s]
  | .inverse a b => .tuple [.str (Str.ofString "inverse"), .str (T a), .str (T b)]
  | .is a c => .tuple [.str (Str.ofString "is"), .str (T a), c.D]
  | .has a b c => .tuple [.str (Str.ofString "has"), .str (T a), .str (T b), .str (T c)]
  | .never => .tuple [.str (Str.ofString "never")]
def dp : Stm → Nat
  | .below c d | .equals c d | .apart c d => max c.dp d.dp
  | .domain _ c | .range _ c | .is _ c => c.dp
  | _ => 0
def sz : Stm → Nat
  | .below c d | .equals c d | .apart c d => c.sz + d.sz + 40
  | .domain r c | .range r c => r.1.length + c.sz + 40
  | .is a c => a.length + c.sz + 40
  | .under r s => r.1.length + s.1.length + 40
  | .inverse a b => a.length + b.length + 40
  | .has a b c => a.length + b.length + c.length + 40
  | .never => 40
theorem tn : ∀ s : Stm, TupN (s.dp + 4) s.D
  | .below c d | .equals c d | .apart c d => tup3 trivial ((Con.tn c).le (by show c.dp + 3 ≤ max c.dp d.dp + 3; omega)) ((Con.tn d).le (by show d.dp + 3 ≤ max c.dp d.dp + 3; omega))
  | .domain r c | .range r c => tup3 trivial ((rolN r).le (by omega)) (Con.tn c)
  | .under r s => tup3 trivial ((rolN r).le (by omega)) ((rolN s).le (by omega))
  | .inverse a b => tup3 trivial trivial trivial
  | .is a c => tup3 trivial trivial (Con.tn c)
  | .has a b c => tup4 trivial trivial trivial trivial
  | .never => tup1 trivial
end Stm
end Pf

namespace Pf
open PySem PySem.Spec PyProof.Rows L2
/-! pure expressions: what gives a value, or data, from a heap on that only grows -/
def GV (te : TE) (σ : L2.St) (H : Hp) (v : V) : Prop := ∀ H1, Same H H1 → ∀ R : VK, (∀ H', Same H1 H' → R v H') → te σ H1 R
def GD (K : PySem.W.Frag) (te : TE) (σ : L2.St) (H : Hp) (d : PyData) : Prop := ∀ H1, Same H H1 → ∀ R : VK, (∀ v H', Same H1 H' → Dp K H' v d → R v H') → te σ H1 R
def GDs (K : PySem.W.Frag) (ta : TA) (σ : L2.St) (H : Hp) (ds : List PyData) : Prop := ∀ H1, Same H H1 → ∀ R : List V → Hp → Prop, (∀ vs H', Same H1 H' → DpAll K H' vs ds → R vs H') → ta σ H1 R
/-- a tuple whose object has no attributes of its own -/
def PlainT (o : Obj) : Prop := o.cls = .type "tuple" ∧ o.dict = none
def FzT (K : PySem.W.Frag) (H : Hp) (p : Addr) : Prop := (∃ o u, H p = some (.frz o u) ∧ PlainT o) ∨ ∃ o, K.lookup p = some o ∧ PlainT o
section
variable {X : Cx}
/-- tuple(a list), its object known -/
theorem call_tupleF : CallR X (.type "tuple") (fun xs H Q => ∃ p ys, xs = [.ref p] ∧ SqL X.K H p ys ∧ ∀ l o, H l = none → PlainT o → Q (.ref l) (upd H l (.frz o (.tup ys)))) := by
  intro pins s σ H xs us Q I rel hyp
  obtain ⟨p, ys, hx, hq, q⟩ := hyp
  subst hx
  obtain ⟨u, hu, rx⟩ := vals1 rel
  subst hu
  cases rx
  obtain ⟨its, hv, pl, hz⟩ := I.list hq
  have hl := hv.length
  refine call_tuple_list pl.isList (fun h2 kp => ?_) (by simp only [List.size_toArray] <;> omega)
  have J : Inv X pins σ H { s with heap := h2 } := I.kept (t' := s.toks) kp
  refine ⟨.ref h2.objs.size, upd H h2.objs.size (.frz { cls := .type "tuple", data := .seq its.toArray } (.tup ys)), ?_, rfl, q _ _ (J.hok.fresh (Nat.le_refl _)) ⟨rfl, rfl⟩⟩
  refine J.laid (t' := s.toks) (fun b o e => Heap.get?_push_of_some _ e) (Nat.le_refl _) ⟨Heap.get?_push_size _ rfl, ?_⟩
  exact ⟨hz, its, hv, IsTup.new _ _⟩
theorem fzT_is {pins : List (Addr × Obj)} {σ : L2.St} {H : Hp} {s : Shared} {p : Addr} (I : Inv X pins σ H s) (h : FzT X.K H p) :
    s.TypeIs (.ref p) "tuple" ∧ ∀ a, Value.ref p = .ref a → ∃ ob, s.heap.get? a = some ob ∧ ob.dict = none := by
  rcases h with ⟨o, u, h1, h2⟩ | ⟨o, h1, h2⟩
  · have h3 := (I.hok p _ h1).1
    refine ⟨⟨o, h3, h2.1⟩, fun a e => ?_⟩
    cases e
    exact ⟨o, h3, h2.2⟩
  · have h3 := I.kIn p o h1
    refine ⟨⟨o, h3, h2.1⟩, fun a e => ?_⟩
    cases e
    exact ⟨o, h3, h2.2⟩
def tBMT (K : PySem.W.Frag) (r : V → List V → Hp → VK → Prop) (to : TE) (t : TA) : TE := fun σ H Q => to σ H fun x H1 => (∃ p, x = .ref p ∧ FzT K H1 p) ∧ t σ H1 fun xs H2 => r x xs H2 Q
/-- a method of such a tuple -/
theorem pe_bmT {o e : Expr} {es : List Expr} {to : TE} {t : TA} {name : Str} {apos cpos : Pos} {id : String} {r : V → List V → Hp → VK → Prop} (slot : Slot "tuple" name id) (hty : typeOf (.builtin id) = pure (.type "method_descriptor")) (hm : MtR X id r) (ho : PE X o to) (ha : PA X (e :: es) t)
    (h1 : attributeBase o name X.env (eval o X.env) = eval o X.env := by rfl)
    (h2 : ((backTo cpos (starEach (e :: es) X.env)).all (fun x => !x.1) && (backToKw cpos (keywordEach [] X.env)).all (fun x => x.1.isSome) && decide ((e :: es).length + ([] : List Keyword).length + (if ([] : List Keyword).isEmpty then 0 else 1) < 30)) = true := by rfl)
    (h3 : (apos.endLine == cpos.line) = true := by rfl) (h4 : starEach (e :: es) X.env = (false, eval e X.env) :: starEach es X.env := by rfl) (h5 : (backTo cpos (starEach es X.env)).any (·.1) = false := by rfl) :
    PE X (.Call (.Attribute o name apos) (e :: es) [] cpos) (tBMT X.K r to t) := by
  refine ⟨fun pins s σ H Q I h => wpAny_Call_method_late h1 h2 h3 rfl (thn (ho.run pins s σ H _ I h) fun v s1 q => ?_)⟩
  obtain ⟨x, H1, I1, r1, ⟨p, ex, hp⟩, q1⟩ := q
  subst ex
  cases r1
  obtain ⟨k1, k2⟩ := fzT_is I1 hp
  refine ⟨"tuple", id, PySem.F.plainAttrs_tuple, slot, hty, k1, k2, ?_⟩
  have hA := ha.run cpos pins s1 σ H1 _ I1 q1
  rw [h4] at hA ⊢
  refine Calls.callWith_builtin (by show (false || (backTo cpos (starEach es X.env)).any (·.1)) = false; rw [h5] <;> rfl) (Calls.evalArgs_plain ?_)
  exact thn hA fun us s2 ⟨vs, H2, I2, r2, q2⟩ => hm pins s2 σ H2 (.ref p) vs (.ref p) us Q I2 rfl r2 q2
end
section
variable {K : PySem.W.Frag} {σ : L2.St} {H H' : Hp} {ta tb te tf to : TE} {tl : TA} {v : V} {d e : PyData} {ds : List PyData} {D : Ends} {i : Nat}
theorem GV.mono (g : GV te σ H v) (e : Same H H') : GV te σ H' v := fun H1 e1 R r => g H1 (e.trans e1) R r
theorem GD.mono (g : GD K te σ H d) (e : Same H H') : GD K te σ H' d := fun H1 e1 R r => g H1 (e.trans e1) R r
theorem GDs.mono (g : GDs K tl σ H ds) (e : Same H H') : GDs K tl σ H' ds := fun H1 e1 R r => g H1 (e.trans e1) R r
theorem gv_c : GV (tC v) σ H v := fun H1 _ R r => r H1 (Same.refl _)
theorem gv_var (h : σ[i]? = some (some v)) : GV (tVar i) σ H v := fun H1 _ R r => ⟨_, h, r H1 (Same.refl _)⟩
theorem gv_ixT {a : Addr} {xs : List V} {j : Int} {x : V} (h : GV te σ H (.ref a)) (hs : SqT K H a xs) (hx : atI xs j = some x) : GV (tOp (rIxT K) te (tC (.int j))) σ H x := fun H1 e R r =>
  h H1 e _ fun H2 e2 => ⟨a, _, j, _, rfl, rfl, Same.seqT (e.trans e2) hs, hx, r H2 e2⟩
theorem gv_ixL {a : Addr} {xs : List V} {j : Int} {x : V} (h : GV te σ H (.ref a)) (hs : SqL K H a xs) (hx : atI xs j = some x) : GV (tOp (rIxL K) te (tC (.int j))) σ H x := fun H1 e R r =>
  h H1 e _ fun H2 e2 => ⟨a, _, j, _, rfl, rfl, (e.trans e2).seq hs, hx, r H2 e2⟩
theorem strs_at {ns : List (List Nat)} {s : List Nat} (h : s ∈ ns) : (strsV ns)[ns.idxOf s]? = some (.str (T s)) := by
  have h1 := List.idxOf_lt_length_of_mem h
  show (ns.map _)[ns.idxOf s]? = _
  rw [List.getElem?_map, List.getElem?_eq_getElem h1, List.getElem_idxOf]
  rfl
theorem strs_ne {ns : List (List Nat)} {s t : List Nat} {m : Nat} (h : m < ns.idxOf s) (ht : ns[m]? = some t) : t ≠ s := by
  intro e
  obtain ⟨h1, h2⟩ := List.getElem?_eq_some_iff.mp ht
  have := List.not_of_lt_findIdx (p := (· == s)) (xs := ns) (i := m) h
  rw [h2, e] at this
  simp at this
theorem gv_idxL {a : Addr} {ns : List (List Nat)} {s : List Nat} (h : GV to σ H (.ref a)) (hs : SqL K H a (strsV ns)) (hx : GV te σ H (.str (T s))) (hm : s ∈ ns) : GV (tBM K "list" (rIndex K) to (tCons te tNil)) σ H (.int ((ns.idxOf s : Nat) : Int)) := fun H1 e1 R r =>
  h H1 e1 _ fun H2 e2 => ⟨.inl ⟨rfl, _, (e1.trans e2).seq hs⟩, hx H2 (e1.trans e2) _ fun H3 e3 => ⟨a, strsV ns, _, ns.idxOf s, _, rfl, rfl, ((e1.trans e2).trans e3).seq hs, rfl, by
    unfold strsV
    rw [List.all_map, List.all_eq_true]
    intro x _
    rfl, strs_at hm, beq_self_eq_true _, fun m z hml hz => by
      unfold strsV at hz
      rw [List.getElem?_map] at hz
      cases ht : ns[m]? with
      | none => rw [ht] at hz; cases hz
      | some t =>
        rw [ht] at hz
        cases hz
        exact beq_false_of_ne fun q => strs_ne hml ht (T_inj q), r H3 (e2.trans e3)⟩⟩
theorem gv_idxT {a : Addr} {ns : List (List Nat)} {s : List Nat} (h : GV to σ H (.ref a)) (hs : SqT K H a (strsV ns)) (hf : FzT K H a) (hx : GV te σ H (.str (T s))) (hm : s ∈ ns) :
    GV (tBMT K (fun x xs H Q => ∃ p, ∃ ys : List Str, ∃ z j, x = .ref p ∧ xs = [.str z] ∧ SqT K H p (ys.map V.str) ∧ ys[j]? = some z ∧ (∀ m, m < j → ys[m]? ≠ some z) ∧ Q (.int (j : Nat)) H) to (tCons te tNil)) σ H (.int ((ns.idxOf s : Nat) : Int)) := fun H1 e1 R r =>
  h H1 e1 _ fun H2 e2 => ⟨⟨a, rfl, by
    rcases hf with ⟨o, u, h1, h2⟩ | h1
    · exact .inl ⟨o, u, e2 _ _ (e1 _ _ h1), h2⟩
    · exact .inr h1⟩, hx H2 (e1.trans e2) _ fun H3 e3 => ⟨a, ns.map T, T s, ns.idxOf s, rfl, rfl, by
      rw [List.map_map]
      exact Same.seqT ((e1.trans e2).trans e3) hs, by
      have h1 := List.idxOf_lt_length_of_mem hm
      rw [List.getElem?_map, List.getElem?_eq_getElem h1, List.getElem_idxOf]
      rfl, fun m hml hz => by
      rw [List.getElem?_map] at hz
      cases ht : ns[m]? with
      | none => rw [ht] at hz; cases hz
      | some t =>
        rw [ht] at hz
        exact strs_ne hml ht (T_inj (Option.some.inj hz)), r H3 (e2.trans e3)⟩⟩
theorem gd_of (g : GV te σ H v) (h : Dp K H v d) : GD K te σ H d := fun H1 e R r => g H1 e R fun H' e' => r v H' e' (Dp.same (e.trans e') h)
theorem gd_str {s : Str} : GD K (tC (.str s)) σ H (.str s) := gd_of gv_c (.str s)
theorem gd_int {j : Int} (g : GV te σ H (.int j)) : GD K te σ H (.int j) := gd_of g (.int j)
theorem gd_bl {b : Bool} (g : GV te σ H (.bl b)) : GD K te σ H (.bool b) := gd_of g (.bl b)
theorem gd_var (h : σ[i]? = some (some v)) (hd : Dp K H v d) : GD K (tVar i) σ H d := gd_of (gv_var h) hd
theorem gds_nil : GDs K tNil σ H [] := fun H1 _ R r => r [] H1 (Same.refl _) .nil
theorem gds_cons (h : GD K te σ H d) (t : GDs K tl σ H ds) : GDs K (tCons te tl) σ H (d :: ds) := fun H1 e R r =>
  h H1 e _ fun v H2 e2 hv => t H2 (e.trans e2) _ fun vs H3 e3 hs => r (v :: vs) H3 (e2.trans e3) (.cons (Dp.same e3 hv) hs)
theorem gd_tup (h : GDs K tl σ H ds) (hl : ds.length ≤ 1000) : GD K (tTup tl) σ H (.tuple ds) := fun H1 e R r =>
  h H1 e _ fun vs H2 e2 hv => ⟨by rw [dpAll_len hv]; exact Nat.le_trans hl (by decide), fun p hp => r (.ref p) _ (e2.trans (Same.new _ hp)) (.tup (.of upd_same) (DpAll.same (Same.new _ hp) hv))⟩
theorem gd_ret (g : GD K te σ H d) (q : ∀ v H', Same H H' → Dp K H' v d → D.rt v H') : tRet te D σ H := g H (Same.refl _) _ q
theorem gd_set (g : GD K te σ H d) (q : ∀ v H', Same H H' → Dp K H' v d → D.nx (σ.set i (some v)) H') : tAsg te (gName i) D σ H := g H (Same.refl _) _ q
theorem gv_set (g : GV te σ H v) (q : ∀ H', Same H H' → D.nx (σ.set i (some v)) H') : tAsg te (gName i) D σ H := g H (Same.refl _) _ q
theorem gd_1 (h : GD K te σ H d) : GDs K (tCons te tNil) σ H [d] := gds_cons h gds_nil
theorem gd_t1 (h : GD K te σ H d) : GD K (tTup (tCons te tNil)) σ H (.tuple [d]) := gd_tup (gd_1 h) (by show 1 ≤ 1000; decide)
theorem gd_t2 (h : GD K ta σ H d) (h' : GD K tb σ H e) : GD K (tTup (tCons ta (tCons tb tNil))) σ H (.tuple [d, e]) := gd_tup (gds_cons h (gd_1 h')) (by show 2 ≤ 1000; decide)
theorem gd_t3 {e' : PyData} (h : GD K ta σ H d) (h' : GD K tb σ H e) (h2 : GD K te σ H e') : GD K (tTup (tCons ta (tCons tb (tCons te tNil)))) σ H (.tuple [d, e, e']) := gd_tup (gds_cons h (gds_cons h' (gd_1 h2))) (by show 3 ≤ 1000; decide)
theorem gd_t4 {e' e2 : PyData} (h : GD K ta σ H d) (h' : GD K tb σ H e) (h2 : GD K te σ H e') (h3 : GD K tf σ H e2) : GD K (tTup (tCons ta (tCons tb (tCons te (tCons tf tNil))))) σ H (.tuple [d, e, e', e2]) := gd_tup (gds_cons h (gds_cons h' (gds_cons h2 (gd_1 h3)))) (by show 4 ≤ 1000; decide)
theorem gv_not {b : Bool} (h : GV te σ H (.bl b)) : GV (tNotV te) σ H (.bl (!b)) := fun H1 e R r => h H1 e _ fun H2 e2 => ⟨b, rfl, r H2 e2⟩
theorem gv_eq {x y : V} (ha : GV ta σ H x) (hb : GV tb σ H y) (hs : scal x y = true) : GV (tOp rEq ta tb) σ H (.bl (decide (x = y))) := fun H1 e1 R r =>
  ha H1 e1 _ fun H2 e2 => hb H2 (e1.trans e2) _ fun H3 e3 => ⟨hs, r H3 (e2.trans e3)⟩
theorem da_strs : ∀ {ws : List Str} {vs : List V}, DpAll K H vs (ws.map PyData.str) → vs = ws.map V.str
  | [], _, h => da_nil h
  | w :: ws, _, h => by
    obtain ⟨x, r, rfl, h1, h2⟩ := da_cons h
    cases dp_str h1
    rw [da_strs h2]
    rfl
theorem if_inS {ws : List Str} {s : Str} {b : Bool} {tt u : TS} (h : σ[i]? = some (some (.str s))) (hg : GDs K tl σ H (ws.map PyData.str)) (hl : decide (ws.length ≤ 1000) = true) (hd : decide (s ∈ ws) = b) (q1 : b = true → ∀ H', Same H H' → tt D σ H') (q2 : b = false → ∀ H', Same H H' → u D σ H') :
    tIfS (tTest (tOp (rIn K false) (tVar i) (tTup tl))) tt u D σ H := by
  refine ⟨_, h, hg H (Same.refl _) _ fun vs H1 e1 hv => ?_⟩
  cases da_strs hv
  refine ⟨by rw [List.length_map]; exact Nat.le_trans (of_decide_eq_true hl) (by decide), fun p hp => ⟨p, ws.map V.str, rfl, .inr (.of upd_same), rfl, flat_strs ws, b, ?_, ?_⟩⟩
  · show V.bl (inV (.str s) (ws.map V.str)) = .bl b
    rw [inV_strs, hd]
  · cases b with
    | true => exact iteT (q1 rfl _ (e1.trans (Same.new _ hp)))
    | false => exact iteF (q2 rfl _ (e1.trans (Same.new _ hp)))
theorem if_inT {ws : List Str} {s : Str} {tt u : TS} (h : σ[i]? = some (some (.str s))) (hg : GDs K tl σ H (ws.map PyData.str)) (hl : decide (ws.length ≤ 1000) = true) (hd : decide (s ∈ ws) = true) (q : ∀ H', Same H H' → tt D σ H') :
    tIfS (tTest (tOp (rIn K false) (tVar i) (tTup tl))) tt u D σ H := if_inS h hg hl hd (fun _ => q) (fun z => Bool.noConfusion z)
theorem if_inF {ws : List Str} {s : Str} {tt u : TS} (h : σ[i]? = some (some (.str s))) (hg : GDs K tl σ H (ws.map PyData.str)) (hl : decide (ws.length ≤ 1000) = true) (hd : decide (s ∈ ws) = false) (q : ∀ H', Same H H' → u D σ H') :
    tIfS (tTest (tOp (rIn K false) (tVar i) (tTup tl))) tt u D σ H := if_inS h hg hl hd (fun z => Bool.noConfusion z) (fun _ => q)
theorem gds_2 {s t : Str} : GDs K (tCons (tC (.str s)) (tCons (tC (.str t)) tNil)) σ H ([s, t].map PyData.str) := gds_cons gd_str (gd_1 gd_str)
theorem gds_3 {s t t2 : Str} : GDs K (tCons (tC (.str s)) (tCons (tC (.str t)) (tCons (tC (.str t2)) tNil))) σ H ([s, t, t2].map PyData.str) := gds_cons gd_str (gds_cons gd_str (gd_1 gd_str))
end
/-! data of the written part -/
def datOk (K : PySem.W.Frag) : Nat → Value → PyData → Bool
  | 0, _, _ => false
  | _ + 1, .str x _, .str y => decide (x = y)
  | n + 1, .ref a, .tuple ds => match K.lookup a with
    | some ⟨.type nm, none, .seq its _, _⟩ => decide (nm = "tuple") && decide (its.size ≤ 1000) && decide (its.toList.length = ds.length) && (its.toList.zip ds).all fun p => datOk K n p.1 p.2
    | _ => false
  | _ + 1, _, _ => false
theorem datAll_of {K : PySem.W.Frag} {n : Nat} (ih : ∀ {v : Value} {d : PyData}, datOk K n v d = true → ∃ x, RelV x v ∧ ∀ H, Dp K H x d) : ∀ {vs : List Value} {ds : List PyData}, vs.length = ds.length → ((vs.zip ds).all fun p => datOk K n p.1 p.2) = true → ∃ xs, Vals xs vs ∧ ∀ H, DpAll K H xs ds
  | [], [], _, _ => ⟨[], .nil, fun _ => .nil⟩
  | [], _ :: _, h, _ => by simp at h
  | _ :: _, [], h, _ => by simp at h
  | v :: vs, d :: ds, hl, h => by
    rw [List.zip_cons_cons, List.all_cons, Bool.and_eq_true] at h
    obtain ⟨x, rx, hx⟩ := ih h.1
    obtain ⟨xs, rs, hs⟩ := datAll_of ih (by simpa using hl) h.2
    exact ⟨x :: xs, .cons rx rs, fun H => .cons (hx H) (hs H)⟩
theorem dat_of {K : PySem.W.Frag} : ∀ (n : Nat) {v : Value} {d : PyData}, datOk K n v d = true → ∃ x, RelV x v ∧ ∀ H, Dp K H x d
  | 0, _, _, h => by simp [datOk] at h
  | n + 1, v, d, h => by
    unfold datOk at h
    split at h
    · cases ‹_ + 1 = 0›
    · rw [← of_decide_eq_true h]
      exact ⟨.str _, ⟨_, rfl⟩, fun H => .str _⟩
    · split at h
      · rename_i m a ds hm o nm its k sl hk
        simp only [Bool.and_eq_true] at h
        obtain ⟨⟨⟨h1, h2⟩, h3⟩, h4⟩ := h
        cases of_decide_eq_true h1
        cases hm
        obtain ⟨xs, rs, hs⟩ := datAll_of (dat_of n) (of_decide_eq_true h3) h4
        exact ⟨.ref a, rfl, fun H => .tup (.inr ⟨_, its, k, hk, rfl, rfl, Nat.le_trans (of_decide_eq_true h2) (by decide), rs⟩) (hs H)⟩
      · cases h
    · cases h
theorem dat_ref {K : PySem.W.Frag} {n : Nat} {a : Addr} {d : PyData} (h : datOk K n (.ref a) d = true) : ∀ H, Dp K H (.ref a) d := fun H => by
  obtain ⟨x, rx, hx⟩ := dat_of n h
  cases x with
  | ref b =>
    cases rx
    exact hx H
  | _ => first | (cases rx; done) | (obtain ⟨t, z⟩ := rx; cases z)
end Pf

namespace Pf
open PySem PySem.Spec PyProof.Rows L2
/-! the data logic: what slots, own lists and passing values hold, as one fact (Ds) that each step of a reading renews -/
/-- what is known of a slot: nothing, its data, its very value -/
inductive Sl where
  | u | d (x : PyData) | v (x : V) | p (x : PyData) | t (x : PyData)
/-- what is known of an object that may change -/
inductive Od where
  | lst (ds : List PyData) | nums | box | ho (o : HO)
  | dk (kvs : List (Key × PyData)) | dt (kvs : List (List Key × PyData)) | lt (ds : List PyData)
  | tab (q : Str)
  | nt (A B C : List (List Nat))
  | bk (F : Addr → List (List Bool × Addr × Int) → HO) (kvs : List (List Bool × Int))
abbrev Own := List (Addr × Od)
/-- the value is a tuple that was made while the program ran -/
def TupM (K : PySem.W.Frag) (M : Hp) (v : V) (x : PyData) : Prop := ∃ b xs ds, v = .ref b ∧ x = .tuple ds ∧ M b = some (.tup xs) ∧ DpAll K M xs ds
def SlV (K : PySem.W.Frag) (M : Hp) (v : V) : Sl → Prop
  | .u => True
  | .d x => Dp K M v x
  | .v x => v = x
  | .p x => Dp K M v x ∧ ∃ a, v = .ref a ∧ FzT K M a
  | .t x => TupM K M v x
inductive SlVs (K : PySem.W.Frag) (M : Hp) : List V → List Sl → Prop
  | nil : SlVs K M [] []
  | cons {v : V} {vs : List V} {s : Sl} {ss : List Sl} : SlV K M v s → SlVs K M vs ss → SlVs K M (v :: vs) (s :: ss)
/-- the table at a of code objects, all of the name q -/
def TabOk (M H : Hp) (a : Addr) (q : Str) : Prop := ∃ ps : Array Value, H a = some (.tbl ps) ∧ TriplesOk ps.toList ∧ ∀ (pos : Pos) (cv : Value), codeAmong pos ps.toList = some cv → ∃ c, cv = .ref c ∧ M c = some (LamX.CodeO c q)
def OdOk (K : PySem.W.Frag) (M H : Hp) (a : Addr) : Od → Prop
  | .lst ds => ∃ vs, H a = some (.lst vs) ∧ DpAll K M vs ds
  | .nums => ∃ ns : List Int, H a = some (.lst (ns.map V.int))
  | .box => ∃ (p : Addr) (ns : List Int) (i : Int), H a = some (.lst [.ref p, .int i]) ∧ SqL K M p (ns.map V.int) ∧ 0 ≤ i
  | .ho o => H a = some o
  | .dk kvs => ∃ ws : List (Key × V), H a = some (.dK ws) ∧ Paired (fun p q => p.1 = q.1 ∧ Dp K M p.2 q.2) ws kvs
  | .dt kvs => ∃ ws : List (List Key × V), H a = some (.dT ws) ∧ Paired (fun p q => p.1 = q.1 ∧ Dp K M p.2 q.2) ws kvs
  | .tab q => TabOk M H a q
  | .lt ds => ∃ vs, H a = some (.lst vs) ∧ Paired (TupM K M) vs ds
  | .nt A B C => ∃ t0 t1 t2, H a = some (.tup [.ref t0, .ref t1, .ref t2]) ∧ (SqT K M t0 (strsV A) ∧ FzT K M t0) ∧ (SqT K M t1 (strsV B) ∧ FzT K M t1) ∧ SqT K M t2 (strsV C) ∧ FzT K M t2
  | .bk F kvs => ∃ ks, H a = some (F a ks) ∧ ks.map (fun x => (x.1, x.2.2)) = kvs ∧ ∀ x ∈ ks, M x.2.1 = some (.tup (x.1.map V.bl))
/-- from H, M to H', M': all but O stands; M, the part that never changes, has grown by new things alone -/
structure Fr (O : List Addr) (H M H' M' : Hp) : Prop where
  fr : ∀ b o, b ∉ O → H b = some o → H' b = some o
  al : ∀ b, H b ≠ none → H' b ≠ none
  sm : Same M M'
  sub : Same M' H'
  mn : ∀ b, M b = none → H b ≠ none → M' b = none
structure Fx where
  H : Hp
  M : Hp
  O : List Addr
structure Ds (K : PySem.W.Frag) (C : Fx) (B : Hp) (σ : L2.St) (H M : Hp) (ρ : List Sl) (w : Own) (tp : List (V × PyData)) : Prop where
  ln : σ.length = ρ.length
  sl : ∀ (i : Nat) (s : Sl), ρ[i]? = some s → s = .u ∨ ∃ v, σ[i]? = some (some v) ∧ SlV K M v s
  tm : ∀ p ∈ tp, Dp K M p.1 p.2
  own : ∀ p ∈ w, M p.1 = none ∧ OdOk K M H p.1 p.2
  nd : (w.map (·.1)).Nodup
  F : Fr C.O C.H C.M H M
  ow : ∀ p ∈ w, p.1 ∈ C.O ∨ C.H p.1 = none
  bs : Same B M
theorem set_self {α : Type} : ∀ {l : List α} {i : Nat} {x : α}, l[i]? = some x → l.set i x = l
  | [], _, _, h => by simp at h
  | _ :: _, 0, _, h => by
    simp at h
    rw [h]
    rfl
  | a :: l, i + 1, x, h => congrArg (a :: ·) (set_self (by simpa using h))
section
variable {K : PySem.W.Frag} {C : Fx} {B : Hp} {σ : L2.St} {H M H' M' : Hp} {ρ : List Sl} {w : Own} {tp : List (V × PyData)}
theorem OdOk.there {a : Addr} {od : Od} (h : OdOk K M H a od) : H a ≠ none := by
  cases od with
  | lst ds => obtain ⟨vs, h, _⟩ := h; rw [h]; exact fun z => nomatch z
  | nums => obtain ⟨vs, h⟩ := h; rw [h]; exact fun z => nomatch z
  | box => obtain ⟨p, ns, i, h, _⟩ := h; rw [h]; exact fun z => nomatch z
  | ho o => rw [show H a = some o from h]; exact fun z => nomatch z
  | dk kvs => obtain ⟨ws, h, _⟩ := h; rw [h]; exact fun z => nomatch z
  | dt kvs => obtain ⟨ws, h, _⟩ := h; rw [h]; exact fun z => nomatch z
  | tab q => obtain ⟨ps, h, _⟩ := h; rw [h]; exact fun z => nomatch z
  | lt ds => obtain ⟨vs, h, _⟩ := h; rw [h]; exact fun z => nomatch z
  | nt A B C => obtain ⟨_, _, _, h, _⟩ := h; rw [h]; exact fun z => nomatch z
  | bk F kvs => obtain ⟨_, h, _⟩ := h; rw [h]; exact fun z => nomatch z
theorem FzT.same {H H' : Hp} {p : Addr} (h : FzT K H p) (e : Same H H') : FzT K H' p := by
  rcases h with ⟨o, u, h1, h2⟩ | h
  · exact .inl ⟨o, u, e _ _ h1, h2⟩
  · exact .inr h
theorem OdOk.keep {a : Addr} {od : Od} (h : OdOk K M H a od) (e : Same M M') (k : ∀ o, H a = some o → H' a = some o) : OdOk K M' H' a od := by
  refine Pf.Gate.out ?_
  simp (disch := (with_unfolding_all (
      cases od with
      | lst ds => obtain ⟨vs, h, d⟩ := h; exact ⟨vs, k _ h, DpAll.same e d⟩
      | nums => obtain ⟨vs, h⟩ := h; exact ⟨vs, k _ h⟩
      | box => obtain ⟨p, ns, i, h, s, z⟩ := h; exact ⟨p, ns, i, k _ h, e.seq s, z⟩
      | ho o => exact k _ h
      | dk kvs => obtain ⟨ws, h, d⟩ := h; exact ⟨ws, k _ h, L2.Paired.mapP d fun _ _ z => ⟨z.1, Dp.same e z.2⟩⟩
      | dt kvs => obtain ⟨ws, h, d⟩ := h; exact ⟨ws, k _ h, L2.Paired.mapP d fun _ _ z => ⟨z.1, Dp.same e z.2⟩⟩
      | tab q =>
        obtain ⟨ps, h, t, d⟩ := h
        exact ⟨ps, k _ h, t, fun pos cv z => (d pos cv z).elim fun c z => ⟨c, z.1, e _ _ z.2⟩⟩
      | lt ds =>
        obtain ⟨vs, h, d⟩ := h
        exact ⟨vs, k _ h, L2.Paired.mapP d fun _ _ z => by
          obtain ⟨b, xs, es, h1, h2, h3, h4⟩ := z
          exact ⟨b, xs, es, h1, h2, e _ _ h3, DpAll.same e h4⟩⟩
      | nt A B C =>
        obtain ⟨t0, t1, t2, h0, ⟨h1, k1⟩, ⟨h2, k2⟩, h3, k3⟩ := h
        exact ⟨t0, t1, t2, k _ h0, ⟨Same.seqT e h1, k1.same e⟩, ⟨Same.seqT e h2, k2.same e⟩, Same.seqT e h3, k3.same e⟩
      | bk F kvs =>
        obtain ⟨ks, h0, h1, h2⟩ := h
        exact ⟨ks, k _ h0, h1, fun x hx => e _ _ (h2 x hx)⟩
    ))) only [↓Pf.Gate.lem]
theorem TupM.same {v : V} {x : PyData} (h : TupM K M v x) (e : Same M M') : TupM K M' v x := by
  obtain ⟨b, xs, ds, h1, h2, h3, h4⟩ := h
  exact ⟨b, xs, ds, h1, h2, e _ _ h3, DpAll.same e h4⟩
theorem TupM.dp {v : V} {x : PyData} (h : TupM K M v x) : Dp K M v x := by
  obtain ⟨b, xs, ds, rfl, rfl, h3, h4⟩ := h
  exact .tup (.of h3) h4
theorem SlV.same {v : V} {s : Sl} (h : SlV K M v s) (e : Same M M') : SlV K M' v s := by
  cases s with
  | u => trivial
  | d x => exact Dp.same e h
  | v x => exact h
  | p x => exact ⟨Dp.same e h.1, h.2.elim fun a z => ⟨a, z.1, z.2.same e⟩⟩
  | t x => exact TupM.same h e
theorem SlVs.same (e : Same M M') : ∀ {vs : List V} {ss : List Sl}, SlVs K M vs ss → SlVs K M' vs ss
  | _, _, .nil => .nil
  | _, _, .cons h t => .cons (h.same e) (t.same e)
theorem SlVs.length : ∀ {vs : List V} {ss : List Sl}, SlVs K M vs ss → vs.length = ss.length
  | _, _, .nil => rfl
  | _, _, .cons _ t => congrArg Nat.succ t.length
theorem SlVs.at : ∀ {vs : List V} {ss : List Sl}, SlVs K M vs ss → ∀ (i : Nat) (s : Sl), ss[i]? = some s → ∃ v, vs[i]? = some v ∧ SlV K M v s
  | _, _, .nil, i, s, h => by simp at h
  | _, _, .cons (v := v) h _, 0, s, e => by
    simp at e
    subst e
    exact ⟨v, rfl, h⟩
  | _, _, .cons _ t, i + 1, s, e => by
    obtain ⟨v, h1, h2⟩ := t.at i s (by simpa using e)
    exact ⟨v, by simpa using h1, h2⟩
theorem Fr.refl (O : List Addr) (h : Same M H) : Fr O H M H M := ⟨fun _ _ _ e => e, fun _ e => e, Same.refl _, h, fun _ e _ => e⟩
theorem Fr.trans {O O' : List Addr} {H0 M0 : Hp} (a : Fr O H0 M0 H M) (b : Fr O' H M H' M') (h : ∀ x ∈ O', x ∈ O ∨ H0 x = none) : Fr O H0 M0 H' M' where
  fr := fun x o hx e => b.fr x o (fun z => (h x z).elim hx fun q => by rw [q] at e; cases e) (a.fr x o hx e)
  al := fun x e => b.al x (a.al x e)
  sm := a.sm.trans b.sm
  sub := b.sub
  mn := fun x e f => b.mn x (a.mn x e f) (a.al x f)
/-- a step: the objects at O change, the rest stands -/
theorem Ds.step {O : List Addr} {w' : Own} (S : Ds K C B σ H M ρ w tp) (F : Fr O H M H' M') (hO : ∀ b ∈ O, b ∈ w.map (·.1)) (hw : w'.map (·.1) = w.map (·.1)) (ok : ∀ p ∈ w', OdOk K M' H' p.1 p.2) : Ds K C B σ H' M' ρ w' tp where
  ln := S.ln
  sl := fun i s h => (S.sl i s h).imp id fun ⟨v, a, b⟩ => ⟨v, a, b.same F.sm⟩
  tm := fun p h => Dp.same F.sm (S.tm p h)
  own := fun p h => by
    have h1 : p.1 ∈ w.map (·.1) := hw ▸ List.mem_map_of_mem h
    obtain ⟨q, hq, e⟩ := List.mem_map.mp h1
    refine ⟨?_, ok p h⟩
    rw [← e]
    exact F.mn _ (S.own q hq).1 (S.own q hq).2.there
  nd := hw ▸ S.nd
  F := S.F.trans F fun x hx => by
    obtain ⟨q, hq, e⟩ := List.mem_map.mp (hO x hx)
    rw [← e]
    exact S.ow q hq
  ow := fun p h => by
    have h1 : p.1 ∈ w.map (·.1) := hw ▸ List.mem_map_of_mem h
    obtain ⟨q, hq, e⟩ := List.mem_map.mp h1
    rw [← e]
    exact S.ow q hq
  bs := S.bs.trans F.sm
theorem Ds.pure (S : Ds K C B σ H M ρ w tp) (F : Fr [] H M H' M') : Ds K C B σ H' M' ρ w tp :=
  S.step F (fun _ h => nomatch h) rfl fun p h => (S.own p h).2.keep F.sm fun o e => F.fr _ o (fun z => nomatch z) e
theorem Ds.push {v : V} {d : PyData} (S : Ds K C B σ H M ρ w tp) (h : Dp K M v d) : Ds K C B σ H M ρ w ((v, d) :: tp) := by
  refine { S with tm := fun p hp => ?_ }
  rcases List.mem_cons.mp hp with rfl | hp
  · exact h
  · exact S.tm p hp
theorem Ds.clr (S : Ds K C B σ H M ρ w tp) : Ds K C B σ H M ρ w [] := { S with tm := fun _ h => nomatch h }
theorem Ds.rest {x : V × PyData} (S : Ds K C B σ H M ρ w (x :: tp)) : Ds K C B σ H M ρ w tp := { S with tm := fun p h => S.tm p (List.mem_cons_of_mem _ h) }
theorem Ds.sub (S : Ds K C B σ H M ρ w tp) : Same M H := S.F.sub
/-- a new tuple -/
theorem Ds.newT {p : Addr} {vs : List V} {ds : List PyData} (S : Ds K C B σ H M ρ w tp) (hp : H p = none) (hv : DpAll K M vs ds) : Ds K C B σ (upd H p (.tup vs)) (upd M p (.tup vs)) ρ w ((.ref p, .tuple ds) :: tp) := by
  refine Pf.Gate.out ?_
  simp (disch := (with_unfolding_all (
      have hm : M p = none := S.sub.free hp
      have e := Same.new (.tup vs) hm
      refine (S.pure ⟨fun b o _ h => Same.new _ hp b o h, fun b h => ?_, e, fun b o h => ?_, fun b h1 h2 => ?_⟩).push (.tup (.of upd_same) (DpAll.same e hv))
      · by_cases q : b = p
        · rw [q, upd_same]
          exact fun z => nomatch z
        · rw [upd_ne q]
          exact h
      · by_cases q : b = p
        · rw [q, upd_same] at h
          rw [q, upd_same]
          exact h
        · rw [upd_ne q] at h
          rw [upd_ne q]
          exact S.sub b o h
      · rw [upd_ne (fun q => h2 (by rw [q]; exact hp))]
        exact h1
    ))) only [↓Pf.Gate.lem]
/-- a new object that may change -/
theorem Ds.newO {p : Addr} {o : HO} {od : Od} (S : Ds K C B σ H M ρ w tp) (hp : H p = none) (ok : OdOk K M (upd H p o) p od) : Ds K C B σ (upd H p o) M ρ ((p, od) :: w) tp := by
  refine Pf.Gate.out ?_
  simp (disch := (with_unfolding_all (
      have hm : M p = none := S.sub.free hp
      have S' : Ds K C B σ (upd H p o) M ρ w tp := S.pure ⟨fun b o _ h => Same.new _ hp b o h, fun b h => by
        by_cases q : b = p
        · rw [q, upd_same]
          exact fun z => nomatch z
        · rw [upd_ne q]
          exact h, Same.refl _, fun b o h => (upd_ne (ne_of_none h hm)).trans (S.sub b o h), fun b h _ => h⟩
      refine { S' with own := fun q hq => ?_, nd := ?_, ow := fun q hq => ?_ }
      · rcases List.mem_cons.mp hq with rfl | hq
        · exact ⟨hm, ok⟩
        · exact S'.own q hq
      · rw [List.map_cons, List.nodup_cons]
        refine ⟨fun z => ?_, S.nd⟩
        obtain ⟨q, hq, e⟩ := List.mem_map.mp z
        exact (S.own q hq).2.there (e ▸ hp)
      · rcases List.mem_cons.mp hq with rfl | hq
        · refine .inr ?_
          show C.H p = none
          cases z : C.H p with
          | none => rfl
          | some o => exact absurd hp (S.F.al p (by rw [z]; exact fun z => nomatch z))
        · exact S.ow q hq
    ))) only [↓Pf.Gate.lem]
theorem Ds.newL {p : Addr} {vs : List V} {ds : List PyData} (S : Ds K C B σ H M ρ w tp) (hp : H p = none) (hv : DpAll K M vs ds) : Ds K C B σ (upd H p (.lst vs)) M ρ ((p, .lst ds) :: w) tp :=
  S.newO hp ⟨vs, upd_same, hv⟩
/-- the object at place j changes -/
theorem Ds.mut {j : Nat} {a : Addr} {od od' : Od} {o : HO} (S : Ds K C B σ H M ρ w tp) (hj : w[j]? = some (a, od)) (ok : OdOk K M (upd H a o) a od') : Ds K C B σ (upd H a o) M ρ (w.set j (a, od')) tp := by
  refine Pf.Gate.out ?_
  simp (disch := (with_unfolding_all (
      have hm := List.mem_of_getElem? hj
      have h1 := (S.own _ hm).1
      refine S.step (O := [a]) ⟨fun b u h e => ?_, fun b h => ?_, Same.refl _, fun b u h => ?_, fun b h _ => h⟩ (fun b h => ?_) ?_ fun p hp => ?_
      · rw [upd_ne (fun z => h (by rw [z]; exact List.mem_singleton_self a))]
        exact e
      · by_cases q : b = a
        · rw [q, upd_same]
          exact fun z => nomatch z
        · rw [upd_ne q]
          exact h
      · rw [upd_ne (ne_of_none h h1)]
        exact S.sub b u h
      · rw [List.mem_singleton.mp h]
        exact List.mem_map_of_mem (f := Prod.fst) hm
      · rw [List.map_set]
        have : (w.map (·.1))[j]? = some a := by rw [List.getElem?_map, hj]; rfl
        exact set_self this
      · rcases List.mem_or_eq_of_mem_set hp with hp' | rfl
        · by_cases q : p.1 = a
          · -- the same address: it is the place j
            obtain ⟨k, hk⟩ := List.getElem?_of_mem hp
            by_cases kj : k = j
            · subst kj
              rw [List.getElem?_set_self (List.getElem?_eq_some_iff.mp hj).1] at hk
              cases hk
              exact ok
            · rw [List.getElem?_set_ne (Ne.symm kj)] at hk
              have e1 : (w.map (·.1))[k]? = some a := by rw [List.getElem?_map, hk]; exact congrArg some q
              have e2 : (w.map (·.1))[j]? = some a := by rw [List.getElem?_map, hj]; rfl
              have lt := (List.getElem?_eq_some_iff.mp e1).1
              exact absurd ((List.getElem?_inj lt S.nd).mp (e1.trans e2.symm)) kj
          · exact (S.own p hp').2.keep (Same.refl _) fun u e => (upd_ne q).trans e
        · exact ok
    ))) only [↓Pf.Gate.lem]
/-- an own thing is looked at no more -/
theorem Ds.drop {x : Addr × Od} (S : Ds K C B σ H M ρ (x :: w) tp) : Ds K C B σ H M ρ w tp :=
  { S with own := fun p h => S.own p (List.mem_cons_of_mem _ h), nd := (List.nodup_cons.mp S.nd).2, ow := fun p h => S.ow p (List.mem_cons_of_mem _ h) }
/-- a list changes no more: from now on it is data -/
theorem Ds.freeze {p : Addr} {ds : List PyData} (S : Ds K C B σ H M ρ ((p, .lst ds) :: w) tp) (hO : p ∉ C.O) : ∃ M', Ds K C B σ H M' ρ w ((.ref p, .list ds) :: tp) := by
  refine Pf.Gate.out ?_
  simp (disch := (with_unfolding_all (
      obtain ⟨hm, vs, hp, hv⟩ := S.own (p, .lst ds) (List.mem_cons_self ..)
      have e := Same.new (.lst vs) hm
      have hn : C.H p = none := (S.ow (p, .lst ds) (List.mem_cons_self ..)).resolve_left hO
      have sub : Same (upd M p (.lst vs)) H := fun b o h => by
        by_cases q : b = p
        · rw [q, upd_same] at h
          rw [q, ← h]
          exact hp
        · rw [upd_ne q] at h
          exact S.sub b o h
      refine ⟨upd M p (.lst vs), { ln := S.ln, sl := fun i s h => (S.sl i s h).imp id fun ⟨v, a, b⟩ => ⟨v, a, b.same e⟩, tm := fun q hq => ?_, own := fun q hq => ?_, nd := (List.nodup_cons.mp S.nd).2, F := ?_, ow := fun q h => S.ow q (List.mem_cons_of_mem _ h), bs := S.bs.trans e }⟩
      · rcases List.mem_cons.mp hq with rfl | hq
        · exact .lst (.of upd_same) (DpAll.same e hv)
        · exact Dp.same e (S.tm q hq)
      · have h1 := S.own q (List.mem_cons_of_mem _ hq)
        have ne : q.1 ≠ p := fun z => (List.nodup_cons.mp S.nd).1 (by show p ∈ w.map (·.1); rw [← z]; exact List.mem_map_of_mem (f := Prod.fst) hq)
        exact ⟨(upd_ne ne).trans h1.1, h1.2.keep e fun _ z => z⟩
      · refine ⟨S.F.fr, S.F.al, S.F.sm.trans e, sub, fun b h1 h2 => ?_⟩
        rw [upd_ne (fun z => h2 (by rw [z]; exact hn))]
        exact S.F.mn b h1 h2
    ))) only [↓Pf.Gate.lem]
/-- less is known of the slots -/
inductive SlLe : List Sl → List Sl → Prop
  | nil : SlLe [] []
  | same {s : Sl} {a b : List Sl} : SlLe a b → SlLe (s :: a) (s :: b)
  | less {s : Sl} {a b : List Sl} : SlLe a b → SlLe (s :: a) (.u :: b)
theorem SlLe.refl : ∀ a : List Sl, SlLe a a
  | [] => .nil
  | _ :: r => .same (SlLe.refl r)
theorem SlLe.length : ∀ {a b : List Sl}, SlLe a b → a.length = b.length
  | _, _, .nil => rfl
  | _, _, .same t => congrArg Nat.succ t.length
  | _, _, .less t => congrArg Nat.succ t.length
theorem SlLe.at : ∀ {a b : List Sl}, SlLe a b → ∀ (i : Nat) (s : Sl), b[i]? = some s → s = .u ∨ a[i]? = some s
  | _, _, .nil, i, s, h => by simp at h
  | _, _, .same _, 0, s, h => by
    simp at h
    subst h
    exact .inr rfl
  | _, _, .less _, 0, s, h => by
    simp at h
    exact .inl h.symm
  | _, _, .same t, i + 1, s, h => by
    have := t.at i s (by simpa using h)
    simpa using this
  | _, _, .less t, i + 1, s, h => by
    have := t.at i s (by simpa using h)
    simpa using this
theorem Ds.weak {ρ' : List Sl} (S : Ds K C B σ H M ρ w tp) (h : SlLe ρ ρ') : Ds K C B σ H M ρ' w tp :=
  { S with ln := S.ln.trans h.length, sl := fun i s hs => (h.at i s hs).elim .inl fun z => S.sl i s z }
/-- a slot is set -/
theorem Ds.set {i : Nat} {v : V} {s : Sl} (S : Ds K C B σ H M ρ w tp) (h : SlV K M v s) : Ds K C B (σ.set i (some v)) H M (ρ.set i s) w tp where
  ln := by rw [List.length_set, List.length_set]; exact S.ln
  sl := fun k t ht => by
    by_cases e : k = i
    · subst e
      have lt : k < ρ.length := by
        have := (List.getElem?_eq_some_iff.mp ht).1
        rwa [List.length_set] at this
      rw [List.getElem?_set_self lt] at ht
      cases ht
      exact .inr ⟨v, List.getElem?_set_self (by rw [S.ln]; exact lt), h⟩
    · rw [List.getElem?_set_ne (Ne.symm e)] at ht ⊢
      exact S.sl k t ht
  tm := S.tm
  own := S.own
  nd := S.nd
  F := S.F
  ow := S.ow
  bs := S.bs
/-- what a slot holds is known otherwise, too -/
theorem Ds.slot {i : Nat} {v : V} {s : Sl} (S : Ds K C B σ H M ρ w tp) (hv : σ[i]? = some (some v)) (h : SlV K M v s) : Ds K C B σ H M (ρ.set i s) w tp := by
  refine { S with ln := by rw [List.length_set]; exact S.ln, sl := fun k t ht => ?_ }
  by_cases e : k = i
  · subst e
    have lt : k < ρ.length := by
      have := (List.getElem?_eq_some_iff.mp ht).1
      rwa [List.length_set] at this
    rw [List.getElem?_set_self lt] at ht
    cases ht
    exact .inr ⟨v, hv, h⟩
  · rw [List.getElem?_set_ne (Ne.symm e)] at ht
    exact S.sl k t ht
theorem Ds.get {i : Nat} {s : Sl} (S : Ds K C B σ H M ρ w tp) (h : ρ[i]? = some s) (n : s ≠ .u) : ∃ v, σ[i]? = some (some v) ∧ SlV K M v s := (S.sl i s h).resolve_left n
/-- from now on M is at least this one -/
theorem Ds.base (S : Ds K C B σ H M ρ w tp) : Ds K C M σ H M ρ w tp := { S with bs := Same.refl _ }
theorem Ds.base' {B' : Hp} (S : Ds K C B σ H M ρ w tp) (h : Same B' B) : Ds K C B' σ H M ρ w tp := { S with bs := h.trans S.bs }
end
/-! promises -/
/-- what a call gives: data or a very value, or a new list -/
inductive Rs where
  | s (x : Sl) | o (od : Od)
def RsOk (K : PySem.W.Frag) (C : Fx) (M' H' : Hp) (v : V) : Rs → Prop
  | .s x => SlV K M' v x
  | .o od => ∃ p, v = .ref p ∧ C.H p = none ∧ M' p = none ∧ OdOk K M' H' p od
structure Fin (K : PySem.W.Frag) (C : Fx) (r : Rs) (w' : Own) (v : V) (H' : Hp) : Prop where
  ex : ∃ M', Fr C.O C.H C.M H' M' ∧ w'.map (·.1) = C.O ∧ (∀ p ∈ w', OdOk K M' H' p.1 p.2) ∧ RsOk K C M' H' v r
abbrev Pre := List Sl → Own → (Rs → Own → Prop) → Prop
def spG (K : PySem.W.Frag) (pre : Pre) : Sp := fun vs H Q _ => ∃ (M : Hp) (ss : List Sl) (w : Own) (post : Rs → Own → Prop), Same M H ∧ SlVs K M vs ss ∧ (∀ p ∈ w, M p.1 = none ∧ OdOk K M H p.1 p.2) ∧ (w.map (·.1)).Nodup ∧ pre ss w post ∧
  ∀ r w' v H', post r w' → Fin K ⟨H, M, w.map (·.1)⟩ r w' v H' → Q v H'
/-- what a caller has behind a call -/
def Res (K : PySem.W.Frag) (C : Fx) (B : Hp) (σ : L2.St) (H' M' : Hp) (ρ : List Sl) (w : Own) (tp : List (V × PyData)) (v : V) : Rs → Prop
  | .s (.d x) => Ds K C B σ H' M' ρ w ((v, x) :: tp)
  | .s x => SlV K M' v x ∧ Ds K C B σ H' M' ρ w tp
  | .o od => ∃ p, v = .ref p ∧ Ds K C B σ H' M' ρ ((p, od) :: w) tp
section
variable {K : PySem.W.Frag} {C : Fx} {B : Hp} {σ : L2.St} {H M H' M' : Hp} {ρ : List Sl} {w : Own} {tp : List (V × PyData)} {Q : VK} {E : XK} {R : VK} {D : Ends}
theorem Res.of {v : V} {r : Rs} (S : Ds K C B σ H' M' ρ w tp) (hc : ∀ p, H p = none → C.H p = none) (hw : ∀ q ∈ w, H q.1 ≠ none) {O : List Addr} {M0 : Hp} (h : RsOk K ⟨H, M0, O⟩ M' H' v r) : Res K C B σ H' M' ρ w tp v r := by
  refine Pf.Gate.out ?_
  simp (disch := (with_unfolding_all (
      cases r with
      | s x =>
        cases x with
        | d x => exact S.push h
        | u => exact ⟨h, S⟩
        | v x => exact ⟨h, S⟩
        | p x => exact ⟨h, S⟩
        | t x => exact ⟨h, S⟩
      | o od =>
        obtain ⟨p, rfl, h1, h2, h3⟩ := h
        refine ⟨p, rfl, { S with own := fun q hq => ?_, nd := ?_, ow := fun q hq => ?_ }⟩
        · rcases List.mem_cons.mp hq with rfl | hq
          · exact ⟨h2, h3⟩
          · exact S.own q hq
        · rw [List.map_cons, List.nodup_cons]
          refine ⟨fun z => ?_, S.nd⟩
          obtain ⟨q, hq, e⟩ := List.mem_map.mp z
          exact hw q hq (e ▸ h1)
        · rcases List.mem_cons.mp hq with rfl | hq
          · exact .inr (hc p h1)
          · exact S.ow q hq
    ))) only [↓Pf.Gate.lem]
theorem Ds.new_none (S : Ds K C B σ H M ρ w tp) : ∀ p, H p = none → C.H p = none := fun p h => by
  cases z : C.H p with
  | none => rfl
  | some o => exact absurd h (S.F.al p (by rw [z]; exact fun z => nomatch z))
/-- a call that changes nothing -/
theorem x_call0 {pre : Pre} {vs : List V} {ss : List Sl} {post : Rs → Own → Prop} (S : Ds K C B σ H M ρ w tp) (hv : SlVs K M vs ss) (hp : pre ss [] post)
    (q : ∀ r w', post r w' → ∀ v H' M', Res K C B σ H' M' ρ w tp v r → Q v H') : spG K pre vs H Q E :=
  ⟨M, ss, [], post, S.sub, hv, (fun _ h => nomatch h), List.nodup_nil, hp, fun r w' v H' hr hf => by
    obtain ⟨M', F, _, _, ho⟩ := hf.ex
    exact q r w' hr v H' M' (Res.of (S.pure F) S.new_none (fun z hz => (S.own z hz).2.there) ho)⟩
/-- a call that may change the own object at place j -/
theorem x_call1 {pre : Pre} {vs : List V} {ss : List Sl} {post : Rs → Own → Prop} {a : Addr} {od : Od} (j : Nat) (S : Ds K C B σ H M ρ w tp) (hj : w[j]? = some (a, od)) (hv : SlVs K M vs ss) (hp : pre ss [(a, od)] post)
    (q : ∀ r od', post r [(a, od')] → ∀ v H' M', Res K C B σ H' M' ρ (w.set j (a, od')) tp v r → Q v H') : spG K pre vs H Q E := by
  have hm := List.mem_of_getElem? hj
  refine ⟨M, ss, [(a, od)], post, S.sub, hv, fun p hp => List.mem_singleton.mp hp ▸ S.own _ hm, List.nodup_cons.mpr ⟨(fun z => nomatch z), List.nodup_nil⟩, hp, fun r w' v H' hr hf => ?_⟩
  obtain ⟨M', F, hw, ok, ho⟩ := hf.ex
  have F : Fr [a] H M H' M' := F
  obtain ⟨od', rfl⟩ : ∃ od', w' = [(a, od')] := by
    match w', hw with
    | [x], e => exact ⟨x.2, by have : x.1 = a := List.head_eq_of_cons_eq e; rw [← this]⟩
  have okA : OdOk K M' H' a od' := ok _ (List.mem_singleton_self _)
  have es : (w.set j (a, od')).map (·.1) = w.map (·.1) := by
    rw [List.map_set]
    exact set_self (by rw [List.getElem?_map, hj]; rfl)
  refine q r od' hr v H' M' (Res.of (S.step F (fun b h => ?_) es fun p hp => ?_) S.new_none (fun z hz => ?_) ho)
  · rw [List.mem_singleton.mp h]
    exact List.mem_map_of_mem (f := Prod.fst) hm
  · rcases List.mem_or_eq_of_mem_set hp with hp' | rfl
    · by_cases q : p.1 = a
      · obtain ⟨k, hk⟩ := List.getElem?_of_mem hp
        by_cases kj : k = j
        · subst kj
          rw [List.getElem?_set_self (List.getElem?_eq_some_iff.mp hj).1] at hk
          cases hk
          exact okA
        · rw [List.getElem?_set_ne (Ne.symm kj)] at hk
          have e1 : (w.map (·.1))[k]? = some a := by rw [List.getElem?_map, hk]; exact congrArg some q
          have e2 : (w.map (·.1))[j]? = some a := by rw [List.getElem?_map, hj]; rfl
          exact absurd ((List.getElem?_inj (List.getElem?_eq_some_iff.mp e1).1 S.nd).mp (e1.trans e2.symm)) kj
      · exact (S.own p hp').2.keep F.sm fun u e => F.fr _ u (fun z => q (List.mem_singleton.mp z)) e
    · exact okA
  · have h1 : z.1 ∈ w.map (·.1) := es ▸ List.mem_map_of_mem hz
    obtain ⟨y, hy, e⟩ := List.mem_map.mp h1
    rw [← e]
    exact (S.own y hy).2.there
/-- what a def may assume at its start -/
theorem Ds.init {vs : List V} {ss : List Sl} {N : List Str} (hs : Same M H) (hv : SlVs K M vs ss) (hw : ∀ p ∈ w, M p.1 = none ∧ OdOk K M H p.1 p.2) (nd : (w.map (·.1)).Nodup) :
    Ds K ⟨H, M, w.map (·.1)⟩ M (L2.start N vs) H M (ss ++ List.replicate (N.length - ss.length) .u) w [] where
  ln := by
    unfold L2.start
    rw [List.length_append, List.length_append, List.length_map, List.length_replicate, List.length_replicate, hv.length]
  sl := fun i s h => by
    by_cases lt : i < ss.length
    · rw [List.getElem?_append_left lt] at h
      obtain ⟨v, h1, h2⟩ := hv.at i s h
      refine .inr ⟨v, ?_, h2⟩
      unfold L2.start
      rw [List.getElem?_append_left (by rw [List.length_map, hv.length]; exact lt), List.getElem?_map, h1]
      rfl
    · rw [List.getElem?_append_right (by omega)] at h
      exact .inl (List.eq_of_mem_replicate (List.mem_of_getElem? h))
  tm := fun _ h => nomatch h
  own := hw
  nd := nd
  F := Fr.refl _ hs
  ow := fun p h => .inl (List.mem_map_of_mem h)
  bs := Same.refl _
/-- a def hands back: the own things that are its caller's, and the result -/
theorem Ds.fin {r : Rs} {w' : Own} {v : V} (S : Ds K C B σ H M ρ w tp) (hw : w'.map (·.1) = C.O) (hs : ∀ p ∈ w', p ∈ w) (h : RsOk K C M H v r) : Fin K C r w' v H :=
  ⟨M, S.F, hw, fun p hp => (S.own p (hs p hp)).2, h⟩
end
end Pf

namespace Pf
open PySem PySem.Spec PyProof.Rows L2
/-! steps of readings over Ds -/
inductive Tm (tp : List (V × PyData)) : V → PyData → Prop
  | i (j : Int) : Tm tp (.int j) (.int j)
  | b (c : Bool) : Tm tp (.bl c) (.bool c)
  | s (x : Str) : Tm tp (.str x) (.str x)
  | n : Tm tp .non .none
  | m {v : V} {d : PyData} : (v, d) ∈ tp → Tm tp v d
inductive TmAll (tp : List (V × PyData)) : List V → List PyData → Prop
  | nil : TmAll tp [] []
  | cons {v : V} {vs : List V} {d : PyData} {ds : List PyData} : Tm tp v d → TmAll tp vs ds → TmAll tp (v :: vs) (d :: ds)
inductive SlT (K : PySem.W.Frag) (M : Hp) (tp : List (V × PyData)) : List V → List Sl → Prop
  | nil : SlT K M tp [] []
  | d {v : V} {vs : List V} {x : PyData} {ss : List Sl} : Tm tp v x → SlT K M tp vs ss → SlT K M tp (v :: vs) (.d x :: ss)
  | p {a : Addr} {vs : List V} {x : PyData} {ss : List Sl} : FzT K M a → Tm tp (.ref a) x → SlT K M tp vs ss → SlT K M tp (.ref a :: vs) (.p x :: ss)
  | v {v : V} {vs : List V} {ss : List Sl} : SlT K M tp vs ss → SlT K M tp (v :: vs) (.v v :: ss)
inductive SetAt {α : Type} : List α → Nat → α → List α → Prop
  | z {a x : α} {l : List α} : SetAt (a :: l) 0 x (x :: l)
  | s {a x : α} {l l' : List α} {n : Nat} : SetAt l n x l' → SetAt (a :: l) (n + 1) x (a :: l')
theorem SetAt.eq {α : Type} : ∀ {l l' : List α} {n : Nat} {x : α}, SetAt l n x l' → l' = l.set n x
  | _, _, _, _, .z => rfl
  | _, _, _, _, .s h => congrArg (_ :: ·) h.eq
theorem SetAt.of {α : Type} {l : List α} {n : Nat} {x : α} (h : n < l.length) : SetAt l n x (l.set n x) := by
  induction l generalizing n with
  | nil => simp at h
  | cons a l ih =>
    cases n with
    | zero => exact .z
    | succ n => exact .s (ih (by simpa using h))
def Giv (K : PySem.W.Frag) (M H : Hp) (R : VK) (d : PyData) : Prop := ∀ v, Dp K M v d → R v H
def rIsNo : R2 := fun x y H Q => y = .non ∧ Q (.bl (decide (x = .non))) H
def rNotNo : R2 := fun x y H Q => y = .non ∧ Q (.bl (!decide (x = .non))) H
def rInt1 : List V → Hp → VK → Prop := fun xs H Q => (∃ i, xs = [.int i] ∧ Q (.int i) H) ∨ ∃ k, xs = [.bl k] ∧ Q (.int (if k then 1 else 0)) H
def rLstOf (K : PySem.W.Frag) : List V → Hp → VK → Prop := fun xs H Q => ∃ p ys, xs = [.ref p] ∧ (SqL K H p ys ∨ SqT K H p ys) ∧ ∀ l, H l = none → Q (.ref l) (upd H l (.lst ys))
def rTupOf (K : PySem.W.Frag) : List V → Hp → VK → Prop := fun xs H Q => ∃ p ys, xs = [.ref p] ∧ ((SqL K H p ys ∧ ∀ l, H l = none → Q (.ref l) (upd H l (.tup ys))) ∨ (SqT K H p ys ∧ Q (.ref p) H))
section
variable {X : Cx}
theorem op_isNo : OpR X (compareOp .Is) rIsNo := op_isN
theorem op_notNo : OpR X (compareOp .IsNot) rNotNo := op_notN
theorem call_intD : CallR X (.type "int") rInt1 := call_int1
theorem call_lstD {K : PySem.W.Frag} (h : X.K = K := by rfl) : CallR X (.type "list") (rLstOf K) := by
  subst h
  exact call_list_of
theorem call_tupD {K : PySem.W.Frag} (h : X.K = K := by rfl) : CallR X (.type "tuple") (rTupOf K) := by
  subst h
  exact call_tuple_of
theorem inD {K : PySem.W.Frag} (h : X.K = K := by rfl) : OpR X (compareOp .In) (rIn K false) := by
  subst h
  exact op_in_seq
theorem notInD {K : PySem.W.Frag} (h : X.K = K := by rfl) : OpR X (compareOp .NotIn) (rIn K true) := by
  subst h
  exact op_notIn_seq
end
def TupK (Q : VK) (xs : List V) (H1 : Hp) : Prop := xs.length ≤ sizeLine ∧ ∀ p, H1 p = none → Q (.ref p) (upd H1 p (.tup xs))
def LstK (Q : VK) (xs : List V) (H1 : Hp) : Prop := xs.length ≤ sizeLine ∧ ∀ p, H1 p = none → Q (.ref p) (upd H1 p (.lst xs))
def AppK (K : PySem.W.Frag) (Q : VK) (x y : V) (H2 : Hp) : Prop := rAppend x [y] H2 Q
section
variable {K : PySem.W.Frag} {C : Fx} {B : Hp} {σ : L2.St} {H M H' M' : Hp} {ρ ρ' : List Sl} {w w' : Own} {tp : List (V × PyData)} {Q R : VK} {QB : Bool → Hp → Prop} {D : Ends} {E : XK}
variable {i j n : Nat} {a b : Int} {v x y : V} {d e : PyData} {ds es : List PyData} {te ta tb : TE} {t u : TS} {tt tu : TT} {tl : TA} {g : TG} {p : Addr}
theorem Tm.dp (S : Ds K C B σ H M ρ w tp) (h : Tm tp v d) : Dp K M v d := by
  cases h with
  | i j => exact .int j
  | b c => exact .bl c
  | s x => exact .str x
  | n => exact .non
  | m h => exact S.tm _ h
theorem TmAll.dp (S : Ds K C B σ H M ρ w tp) : ∀ {vs : List V} {ds : List PyData}, TmAll tp vs ds → DpAll K M vs ds
  | _, _, .nil => .nil
  | _, _, .cons h t => .cons (h.dp S) (t.dp S)
theorem SlT.dp (S : Ds K C B σ H M ρ w tp) : ∀ {vs : List V} {ss : List Sl}, SlT K M tp vs ss → SlVs K M vs ss
  | _, _, .nil => .nil
  | _, _, .d h t => .cons (h.dp S) (t.dp S)
  | _, _, .p f h t => .cons ⟨h.dp S, _, rfl, f⟩ (t.dp S)
  | _, _, .v t => .cons rfl (t.dp S)
theorem DpAll.up (e : Same M H) {vs : List V} {ds : List PyData} (h : DpAll K M vs ds) : DpAll K H vs ds := DpAll.same e h
/-! what a part gives -/
theorem x_gI (h : R (.int a) H) : Giv K M H R (.int a) := fun v e => by cases e; exact h
theorem x_gB {c : Bool} (h : R (.bl c) H) : Giv K M H R (.bool c) := fun v e => by cases e; exact h
theorem x_gS {s : Str} (h : R (.str s) H) : Giv K M H R (.str s) := fun v e => by cases e; exact h
theorem x_gN (h : R .non H) : Giv K M H R .none := fun v e => by cases e; exact h
theorem x_gP (S : Ds K C B σ H M ρ w tp) (h : ∀ v, Ds K C B σ H M ρ w ((v, d) :: tp) → R v H) : Giv K M H R d := fun v e => h v (S.push e)
/-! expressions -/
theorem x_var (S : Ds K C B σ H M ρ w tp) (h : ρ[i]? = some (.d d)) (q : Giv K M H R d) : tVar i σ H R := by
  obtain ⟨v, h1, h2⟩ := S.get h (fun z => nomatch z)
  exact ⟨v, h1, q v h2⟩
theorem x_varP (S : Ds K C B σ H M ρ w tp) (h : ρ[i]? = some (.p d)) (q : ∀ a, FzT K M a → Ds K C B σ H M ρ w ((.ref a, d) :: tp) → R (.ref a) H) : tVar i σ H R := by
  obtain ⟨v, h1, h2, a, rfl, h3⟩ := S.get h (fun z => nomatch z)
  exact ⟨_, h1, q a h3 (S.push h2)⟩
theorem x_varV (S : Ds K C B σ H M ρ w tp) (h : ρ[i]? = some (.v x)) (q : R x H) : tVar i σ H R := by
  obtain ⟨v, h1, h2⟩ := S.get h (fun z => nomatch z)
  exact ⟨x, by rw [h1, show v = x from h2], q⟩
theorem x_c (q : R v H) : tC v σ H R := q
theorem x_cR {r : Addr} (S : Ds K C B σ H M ρ w tp) (h : ∀ M, Dp K M (.ref r) d) (q : Ds K C B σ H M ρ w ((.ref r, d) :: tp) → R (.ref r) H) : tC (.ref r) σ H R := q (S.push (h M))
theorem x_op {r : R2} (h : ta σ H fun x H1 => tb σ H1 fun y H2 => r x y H2 R) : tOp r ta tb σ H R := h
theorem x_un {r : V → Hp → VK → Prop} (h : ta σ H fun x H1 => r x H1 R) : tUn r ta σ H R := h
theorem x_U {gg : Int → V} (h : R (gg a) H) : rU gg (.int a) H R := ⟨a, rfl, h⟩
theorem x_I0 {gg : Int → Int → V} (h : R (gg a b) H) : rI0 gg (.int a) (.int b) H R := ⟨a, b, rfl, rfl, h⟩
theorem x_I {cc : Int → Int → Prop} {gg : Int → Int → V} (hc : cc a b) (h : R (gg a b) H) : rI cc gg (.int a) (.int b) H R := ⟨a, b, rfl, rfl, hc, h⟩
theorem x_eqI (h : R (.bl (decide (a = b))) H) : rEq (.int a) (.int b) H R := ⟨rfl, by rw [show decide (V.int a = V.int b) = decide (a = b) from decide_eq_decide.mpr ⟨V.int.inj, congrArg _⟩]; exact h⟩
theorem x_eqS {s s' : Str} (h : R (.bl (decide (s = s'))) H) : rEq (.str s) (.str s') H R := ⟨rfl, by rw [show decide (V.str s = V.str s') = decide (s = s') from decide_eq_decide.mpr ⟨V.str.inj, congrArg _⟩]; exact h⟩
theorem x_eqB {c c' : Bool} (h : R (.bl (decide (c = c'))) H) : rEq (.bl c) (.bl c') H R := ⟨rfl, by rw [show decide (V.bl c = V.bl c') = decide (c = c') from decide_eq_decide.mpr ⟨V.bl.inj, congrArg _⟩]; exact h⟩
theorem x_neI (h : R (.bl (!decide (a = b))) H) : rNe (.int a) (.int b) H R := ⟨rfl, by rw [show decide (V.int a = V.int b) = decide (a = b) from decide_eq_decide.mpr ⟨V.int.inj, congrArg _⟩]; exact h⟩
theorem x_neS {s s' : Str} (h : R (.bl (!decide (s = s'))) H) : rNe (.str s) (.str s') H R := ⟨rfl, by rw [show decide (V.str s = V.str s') = decide (s = s') from decide_eq_decide.mpr ⟨V.str.inj, congrArg _⟩]; exact h⟩
theorem x_neB {c c' : Bool} (h : R (.bl (!decide (c = c'))) H) : rNe (.bl c) (.bl c') H R := ⟨rfl, by rw [show decide (V.bl c = V.bl c') = decide (c = c') from decide_eq_decide.mpr ⟨V.bl.inj, congrArg _⟩]; exact h⟩
theorem x_isNoR {r : Addr} (h : R (.bl false) H) : rIsNo (.ref r) .non H R := ⟨rfl, h⟩
theorem x_isNoN (h : R (.bl true) H) : rIsNo .non .non H R := ⟨rfl, h⟩
theorem x_isNoI (h : R (.bl false) H) : rIsNo (.int a) .non H R := ⟨rfl, h⟩
theorem x_notNoR {r : Addr} (h : R (.bl true) H) : rNotNo (.ref r) .non H R := ⟨rfl, h⟩
theorem x_notNoN (h : R (.bl false) H) : rNotNo .non .non H R := ⟨rfl, h⟩
theorem x_notNoI (h : R (.bl true) H) : rNotNo (.int a) .non H R := ⟨rfl, h⟩
def isNo : PyData → Bool
  | .none => true
  | _ => false
theorem dp_isNo (h : Dp K M v d) : decide (v = .non) = isNo d := by
  cases h <;> simp [isNo]
theorem x_isNoD (S : Ds K C B σ H M ρ w tp) (ht : Tm tp v d) (h : R (.bl (isNo d)) H) : rIsNo v .non H R := ⟨rfl, by rw [dp_isNo (ht.dp S)]; exact h⟩
theorem x_notNoD (S : Ds K C B σ H M ρ w tp) (ht : Tm tp v d) (h : R (.bl (!isNo d)) H) : rNotNo v .non H R := ⟨rfl, by rw [dp_isNo (ht.dp S)]; exact h⟩
/-! places -/
theorem dpAll_get : ∀ {vs : List V} {ds : List PyData}, DpAll K M vs ds → ∀ (i : Nat) (d : PyData), ds[i]? = some d → ∃ v, vs[i]? = some v ∧ Dp K M v d
  | _, _, .nil, i, d, h => by simp at h
  | _, _, .cons (v := v) a _, 0, d, h => by
    simp at h
    subst h
    exact ⟨v, rfl, a⟩
  | _, _, .cons _ t, i + 1, d, h => by
    obtain ⟨v, h1, h2⟩ := dpAll_get t i d (by simpa using h)
    exact ⟨v, by simpa using h1, h2⟩
theorem dpAll_atI {vs : List V} (h : DpAll K M vs ds) (hi : atI ds a = some d) : ∃ v, atI vs a = some v ∧ Dp K M v d := by
  unfold atI at hi ⊢
  rw [← dpAll_len h] at hi
  cases e : ixN vs.length a with
  | none => rw [e] at hi; cases hi
  | some j =>
    rw [e] at hi
    obtain ⟨v, h1, h2⟩ := dpAll_get h j d hi
    exact ⟨v, h1, h2⟩
theorem x_ixT (S : Ds K C B σ H M ρ w tp) (ht : Tm tp v (.tuple ds)) (hi : atI ds a = some d) (q : Giv K M H R d) : rIxT K v (.int a) H R := by
  obtain ⟨p, xs, rfl, h1, h2⟩ := dp_tup (ht.dp S)
  obtain ⟨v, h3, h4⟩ := dpAll_atI h2 hi
  exact ⟨p, xs, a, v, rfl, rfl, Same.seqT S.sub h1, h3, q v h4⟩
theorem dp_lst (h : Dp K M v (.list ds)) : ∃ p xs, v = .ref p ∧ SqL K M p xs ∧ DpAll K M xs ds := by
  cases h with
  | lst h a => exact ⟨_, _, rfl, h, a⟩
theorem x_ixL (S : Ds K C B σ H M ρ w tp) (ht : Tm tp v (.list ds)) (hi : atI ds a = some d) (q : Giv K M H R d) : rIxL K v (.int a) H R := by
  obtain ⟨p, xs, rfl, h1, h2⟩ := dp_lst (ht.dp S)
  obtain ⟨v, h3, h4⟩ := dpAll_atI h2 hi
  exact ⟨p, xs, a, v, rfl, rfl, S.sub.seq h1, h3, q v h4⟩
/-- of an own list, at place j -/
theorem x_ixO (j : Nat) (S : Ds K C B σ H M ρ w tp) (hj : w[j]? = some (p, .lst ds)) (hi : atI ds a = some d) (q : Giv K M H R d) : rIxL K (.ref p) (.int a) H R := by
  obtain ⟨_, vs, h1, h2⟩ := S.own _ (List.mem_of_getElem? hj)
  obtain ⟨v, h3, h4⟩ := dpAll_atI h2 hi
  exact ⟨p, vs, a, v, rfl, rfl, .of h1, h3, q v h4⟩
theorem x_ixSt {s : Str} {c : Nat} (hz : s.length ≤ sizeLine) (hi : atI s.cps.toList a = some c) (q : R (.str ⟨#[c]⟩) H) : rIxS (.str s) (.int a) H R := ⟨s, a, c, rfl, rfl, hz, hi, q⟩
/-! tests -/
theorem x_test (h : te σ H fun x H1 => ∃ k, x = .bl k ∧ QB k H1) : tTest te σ H QB := h
theorem x_tB (h : te σ H fun x H1 => ∃ k, x = .bl k ∧ QB k H1) : tB te σ H QB := h
theorem x_exB {q : Bool → Prop} {c : Bool} (h : q c) : ∃ k, V.bl c = .bl k ∧ q k := ⟨c, rfl, h⟩
theorem x_not (h : tt σ H fun c H1 => QB (!c) H1) : tNot tt σ H QB := h
theorem x_and (h : tt σ H fun c H1 => if c = true then tu σ H1 QB else QB false H1) : tAnd tt tu σ H QB := h
theorem x_or (h : tt σ H fun c H1 => if c = true then QB true H1 else tu σ H1 QB) : tOr tt tu σ H QB := h
theorem x_andV (h : ta σ H fun x H1 => ∃ c, x = .bl c ∧ if c = true then tb σ H1 Q else Q (.bl false) H1) : tAndV ta tb σ H Q := h
theorem x_orV (h : ta σ H fun x H1 => ∃ c, x = .bl c ∧ if c = true then Q (.bl true) H1 else tb σ H1 Q) : tOrV ta tb σ H Q := h
theorem x_notV (h : ta σ H fun x H1 => ∃ c, x = .bl c ∧ Q (.bl (!c)) H1) : tNotV ta σ H Q := h
theorem x_ifE (h : tt σ H fun c H1 => if c = true then ta σ H1 Q else tb σ H1 Q) : tIf tt ta tb σ H Q := h
theorem x_if {c : Bool} {A B : Prop} (h1 : c = true → A) (h2 : c = false → B) : if c = true then A else B := by
  cases c with
  | true => exact h1 rfl
  | false => exact h2 rfl
theorem x_ifT {c : Bool} {A B : Prop} (h : c = true) (h1 : A) : if c = true then A else B := by rw [if_pos h]; exact h1
theorem x_ifF {c : Bool} {A B : Prop} (h : c = false) (h1 : B) : if c = true then A else B := by rw [if_neg (by rw [h]; decide)]; exact h1
/-- truth of a value -/
theorem x_notT (h : ta σ H fun x H1 => ∃ k, TruV K x H1 k ∧ Q (.bl (!k)) H1) : tNotT K ta σ H Q := h
theorem x_truI {q : Bool → Prop} (h : q (a != 0)) : ∃ k, TruV K (.int a) H k ∧ q k := ⟨_, rfl, h⟩
theorem x_truB {q : Bool → Prop} {c : Bool} (h : q c) : ∃ k, TruV K (.bl c) H k ∧ q k := ⟨_, rfl, h⟩
theorem dpAll_emp {vs : List V} (h : DpAll K M vs ds) : (!vs.isEmpty) = !ds.isEmpty := by cases h <;> rfl
theorem x_truT {q : Bool → Prop} (S : Ds K C B σ H M ρ w tp) (ht : Tm tp v (.tuple ds)) (h : q (!ds.isEmpty)) : ∃ k, TruV K v H k ∧ q k := by
  obtain ⟨p, xs, rfl, h1, h2⟩ := dp_tup (ht.dp S)
  exact ⟨_, .inr (.inl ⟨xs, Same.seqT S.sub h1, rfl⟩), by rw [dpAll_emp h2]; exact h⟩
theorem x_truL {q : Bool → Prop} (S : Ds K C B σ H M ρ w tp) (ht : Tm tp v (.list ds)) (h : q (!ds.isEmpty)) : ∃ k, TruV K v H k ∧ q k := by
  obtain ⟨p, xs, rfl, h1, h2⟩ := dp_lst (ht.dp S)
  exact ⟨_, .inl ⟨xs, S.sub.seq h1, rfl⟩, by rw [dpAll_emp h2]; exact h⟩
theorem x_truO {q : Bool → Prop} (j : Nat) (S : Ds K C B σ H M ρ w tp) (hj : w[j]? = some (p, .lst ds)) (h : q (!ds.isEmpty)) : ∃ k, TruV K (.ref p) H k ∧ q k := by
  obtain ⟨_, vs, h1, h2⟩ := S.own _ (List.mem_of_getElem? hj)
  exact ⟨_, .inl ⟨vs, .of h1, rfl⟩, by rw [dpAll_emp h2]; exact h⟩
/-! tuples, lists, arguments -/
theorem x_nil {qa : List V → Hp → Prop} (h : qa [] H) : tNil σ H qa := h
theorem x_cons {qa : List V → Hp → Prop} (h : ta σ H fun x H1 => tl σ H1 fun xs H2 => qa (x :: xs) H2) : tCons ta tl σ H qa := h
theorem x_tup (h : tl σ H fun xs H1 => TupK Q xs H1) : tTup tl σ H Q := h
theorem x_lst (h : tl σ H fun xs H1 => LstK Q xs H1) : tLst tl σ H Q := h
theorem TmAll.len : ∀ {vs : List V} {ds : List PyData}, TmAll tp vs ds → vs.length = ds.length
  | _, _, .nil => rfl
  | _, _, .cons _ t => congrArg Nat.succ t.len
theorem x_tupK {vs : List V} (S : Ds K C B σ H M ρ w tp) (ht : TmAll tp vs ds) (hl : decide (vs.length ≤ 1000) = true) (q : ∀ p H' M', Ds K C B σ H' M' ρ w ((.ref p, .tuple ds) :: tp) → Q (.ref p) H') : TupK Q vs H :=
  ⟨Nat.le_trans (of_decide_eq_true hl) (by decide), fun p hp => q p _ _ (S.newT hp (ht.dp S))⟩
theorem x_lstK {vs : List V} (S : Ds K C B σ H M ρ w tp) (ht : TmAll tp vs ds) (hl : decide (vs.length ≤ 1000) = true) (q : ∀ p H', Ds K C B σ H' M ρ ((p, .lst ds) :: w) tp → Q (.ref p) H') : LstK Q vs H :=
  ⟨Nat.le_trans (of_decide_eq_true hl) (by decide), fun p hp => q p _ (S.newL hp (ht.dp S))⟩
theorem x_cb {r : List V → Hp → VK → Prop} (h : tl σ H fun vs H1 => r vs H1 Q) : tCB r tl σ H Q := h
theorem x_tcall {sp : Sp} (h : tl σ H fun vs H1 => sp vs H1 Q E) : tCall sp [] E tl σ H Q := by
  unfold tCall
  simp only [List.append_nil]
  exact h
theorem x_lenT (S : Ds K C B σ H M ρ w tp) (ht : Tm tp v (.tuple ds)) (q : R (.int ds.length) H) : rLenQ K [v] H R := by
  obtain ⟨p, xs, rfl, h1, h2⟩ := dp_tup (ht.dp S)
  exact ⟨p, xs, rfl, .inr (Same.seqT S.sub h1), by rw [dpAll_len h2]; exact q⟩
theorem x_lenL (S : Ds K C B σ H M ρ w tp) (ht : Tm tp v (.list ds)) (q : R (.int ds.length) H) : rLenQ K [v] H R := by
  obtain ⟨p, xs, rfl, h1, h2⟩ := dp_lst (ht.dp S)
  exact ⟨p, xs, rfl, .inl (S.sub.seq h1), by rw [dpAll_len h2]; exact q⟩
theorem x_lenO (j : Nat) (S : Ds K C B σ H M ρ w tp) (hj : w[j]? = some (p, .lst ds)) (q : R (.int ds.length) H) : rLenQ K [.ref p] H R := by
  obtain ⟨_, vs, h1, h2⟩ := S.own _ (List.mem_of_getElem? hj)
  exact ⟨p, vs, rfl, .inl (.of h1), by rw [dpAll_len h2]; exact q⟩
theorem x_int (q : R (.int a) H) : rInt1 [.int a] H R := .inl ⟨a, rfl, q⟩
theorem x_intB {c : Bool} (q : R (.int (if c then 1 else 0)) H) : rInt1 [.bl c] H R := .inr ⟨c, rfl, q⟩
/-- tuple(an own list), tuple(data) -/
theorem x_tupO (j : Nat) (S : Ds K C B σ H M ρ w tp) (hj : w[j]? = some (p, .lst ds)) (q : ∀ l H' M', Ds K C B σ H' M' ρ w ((.ref l, .tuple ds) :: tp) → R (.ref l) H') : rTupOf K [.ref p] H R := by
  obtain ⟨_, vs, h1, h2⟩ := S.own _ (List.mem_of_getElem? hj)
  exact ⟨p, vs, rfl, .inl ⟨.of h1, fun l hl => q l _ _ (S.newT hl h2)⟩⟩
theorem x_tupL (S : Ds K C B σ H M ρ w tp) (ht : Tm tp v (.list ds)) (q : ∀ l H' M', Ds K C B σ H' M' ρ w ((.ref l, .tuple ds) :: tp) → R (.ref l) H') : rTupOf K [v] H R := by
  obtain ⟨p, xs, rfl, h1, h2⟩ := dp_lst (ht.dp S)
  exact ⟨p, xs, rfl, .inl ⟨S.sub.seq h1, fun l hl => q l _ _ (S.newT hl h2)⟩⟩
theorem x_tupT (S : Ds K C B σ H M ρ w tp) (ht : Tm tp v (.tuple ds)) (q : R v H) : rTupOf K [v] H R := by
  obtain ⟨p, xs, rfl, h1, h2⟩ := dp_tup (ht.dp S)
  exact ⟨p, xs, rfl, .inr ⟨Same.seqT S.sub h1, q⟩⟩
/-- list(data), list(an own list): a new list -/
theorem x_lsT (S : Ds K C B σ H M ρ w tp) (ht : Tm tp v (.tuple ds)) (q : ∀ l H', Ds K C B σ H' M ρ ((l, .lst ds) :: w) tp → R (.ref l) H') : rLstOf K [v] H R := by
  obtain ⟨p, xs, rfl, h1, h2⟩ := dp_tup (ht.dp S)
  exact ⟨p, xs, rfl, .inr (Same.seqT S.sub h1), fun l hl => q l _ (S.newL hl h2)⟩
theorem x_lsL (S : Ds K C B σ H M ρ w tp) (ht : Tm tp v (.list ds)) (q : ∀ l H', Ds K C B σ H' M ρ ((l, .lst ds) :: w) tp → R (.ref l) H') : rLstOf K [v] H R := by
  obtain ⟨p, xs, rfl, h1, h2⟩ := dp_lst (ht.dp S)
  exact ⟨p, xs, rfl, .inl (S.sub.seq h1), fun l hl => q l _ (S.newL hl h2)⟩
theorem x_lsO (j : Nat) (S : Ds K C B σ H M ρ w tp) (hj : w[j]? = some (p, .lst ds)) (q : ∀ l H', Ds K C B σ H' M ρ ((l, .lst ds) :: w) tp → R (.ref l) H') : rLstOf K [.ref p] H R := by
  obtain ⟨_, vs, h1, h2⟩ := S.own _ (List.mem_of_getElem? hj)
  exact ⟨p, vs, rfl, .inl (.of h1), fun l hl => q l _ (S.newL hl h2)⟩
/-! in -/
def flatD : PyData → Bool
  | .none => true
  | .bool _ => true
  | .int _ => true
  | .str _ => true
  | _ => false
theorem dp_flat (h : Dp K M v d) (f : flatD d = true) : flatV v = true := by
  cases h <;> first | rfl | exact absurd f (by simp [flatD])
theorem dpAll_flat : ∀ {vs : List V} {ds : List PyData}, DpAll K M vs ds → (∀ d ∈ ds, flatD d = true) → vs.all flatV = true
  | _, _, .nil, _ => rfl
  | _, _, .cons a t, f => by
    rw [List.all_cons, dp_flat a (f _ (List.mem_cons_self ..)), dpAll_flat t fun d h => f d (List.mem_cons_of_mem _ h)]
    rfl
theorem dpAll_ints : ∀ {ns : List Int} {vs : List V}, DpAll K M vs (ns.map .int) → vs = ns.map .int
  | [], _, .nil => rfl
  | n :: ns, _, .cons a t => by
    cases a
    rw [dpAll_ints t]
    rfl
theorem dpAll_strs : ∀ {ns : List Str} {vs : List V}, DpAll K M vs (ns.map .str) → vs = ns.map .str
  | [], _, .nil => rfl
  | n :: ns, _, .cons a t => by
    cases a
    rw [dpAll_strs t]
    rfl
theorem dpAll_bools : ∀ {ns : List Bool} {vs : List V}, DpAll K M vs (ns.map .bool) → vs = ns.map .bl
  | [], _, .nil => rfl
  | n :: ns, _, .cons a t => by
    cases a
    rw [dpAll_bools t]
    rfl
theorem inV_int {ns : List Int} : inV (.int a) (ns.map .int) = decide (a ∈ ns) := by
  unfold inV
  rw [List.any_map, Bool.eq_iff_iff, List.any_eq_true, decide_eq_true_iff]
  constructor
  · rintro ⟨x, h1, h2⟩
    have : x = a := by simpa [eqV] using h2
    exact this ▸ h1
  · exact fun h => ⟨a, h, by simp [eqV]⟩
theorem flat_ints {ns : List Int} : (ns.map V.int).all flatV = true := by
  rw [List.all_map, List.all_eq_true]
  exact fun _ _ => rfl
theorem bl_not {neg : Bool} {c : Bool} : (if neg = true then !c else c) = (c != neg) := by cases neg <;> cases c <;> rfl
theorem x_inIT {neg : Bool} {ns : List Int} (S : Ds K C B σ H M ρ w tp) (ht : Tm tp v (.tuple (ns.map .int))) (q : R (.bl (if neg then !decide (a ∈ ns) else decide (a ∈ ns))) H) : rIn K neg (.int a) v H R := by
  obtain ⟨p, xs, rfl, h1, h2⟩ := dp_tup (ht.dp S)
  cases dpAll_ints h2
  exact ⟨p, _, rfl, .inr (Same.seqT S.sub h1), rfl, flat_ints, by rw [inV_int]; exact q⟩
theorem x_inIL {neg : Bool} {ns : List Int} (S : Ds K C B σ H M ρ w tp) (ht : Tm tp v (.list (ns.map .int))) (q : R (.bl (if neg then !decide (a ∈ ns) else decide (a ∈ ns))) H) : rIn K neg (.int a) v H R := by
  obtain ⟨p, xs, rfl, h1, h2⟩ := dp_lst (ht.dp S)
  cases dpAll_ints h2
  exact ⟨p, _, rfl, .inl (S.sub.seq h1), rfl, flat_ints, by rw [inV_int]; exact q⟩
theorem x_inIO {neg : Bool} {ns : List Int} (j : Nat) (S : Ds K C B σ H M ρ w tp) (hj : w[j]? = some (p, .lst (ns.map .int))) (q : R (.bl (if neg then !decide (a ∈ ns) else decide (a ∈ ns))) H) : rIn K neg (.int a) (.ref p) H R := by
  obtain ⟨_, vs, h1, h2⟩ := S.own _ (List.mem_of_getElem? hj)
  cases dpAll_ints h2
  exact ⟨p, _, rfl, .inl (.of h1), rfl, flat_ints, by rw [inV_int]; exact q⟩
theorem x_inST {neg : Bool} {ns : List Str} {s : Str} (S : Ds K C B σ H M ρ w tp) (ht : Tm tp v (.tuple (ns.map .str))) (q : R (.bl (if neg then !decide (s ∈ ns) else decide (s ∈ ns))) H) : rIn K neg (.str s) v H R := by
  obtain ⟨p, xs, rfl, h1, h2⟩ := dp_tup (ht.dp S)
  cases dpAll_strs h2
  exact ⟨p, _, rfl, .inr (Same.seqT S.sub h1), rfl, flat_strs ns, by rw [inV_strs]; exact q⟩
/-! == of data -/
theorem x_eqD (S : Ds K C B σ H M ρ w tp) (h1 : Tm tp x d) (h2 : Tm tp y e) (s1 : SeqAt.shaped d = true) (s2 : SeqAt.shaped e = true) (q : R (.bl (PyData.eqv d e)) H) : rEqD K x y H R :=
  ⟨d, e, Dp.same S.sub (h1.dp S), Dp.same S.sub (h2.dp S), s1, s2, q⟩
theorem x_neD (S : Ds K C B σ H M ρ w tp) (h1 : Tm tp x d) (h2 : Tm tp y e) (s1 : SeqAt.shaped d = true) (s2 : SeqAt.shaped e = true) (q : R (.bl (!PyData.eqv d e)) H) : rNeD K x y H R :=
  ⟨d, e, Dp.same S.sub (h1.dp S), Dp.same S.sub (h2.dp S), s1, s2, q⟩
/-! statements -/
theorem x_seq (h : t { D with nx := u D } σ H) : tSeq t u D σ H := h
theorem x_seqN {u : TS} (h : ∀ N : L2.St → Hp → Prop, (∀ σ H, u D σ H → N σ H) → t { nx := N, rt := D.rt, bk := D.bk, ct := D.ct } σ H) : tSeq t u D σ H := h (u D) fun _ _ z => z
theorem x_N {N P : L2.St → Hp → Prop} (hN : ∀ σ H, P σ H → N σ H) (h : P σ H) : N σ H := hN σ H h
theorem x_asg (h : te σ H fun x H1 => g x σ H1 D.nx) : tAsg te g D σ H := h
theorem x_ret (h : te σ H D.rt) : tRet te D σ H := h
theorem x_ifS (h : tt σ H fun c H1 => if c = true then t D σ H1 else u D σ H1) : tIfS tt t u D σ H := h
theorem x_drop (h : te σ H fun _ H1 => D.nx σ H1) : tDrop te D σ H := h
theorem x_next (h : D.nx σ H) : tNext D σ H := h
theorem x_cont (h : D.ct σ H) : tCont D σ H := h
theorem x_break (h : D.bk σ H) : tBreak D σ H := h
theorem x_clr (S : Ds K C B σ H M ρ w tp) {P : Prop} (h : Ds K C B σ H M ρ w [] → P) : P := h S.clr
theorem x_gn {q : L2.St → Hp → Prop} (S : Ds K C B σ H M ρ w tp) (ht : Tm tp v d) (hs : SetAt ρ i (.d d) ρ') (h : ∀ σ', Ds K C B σ' H M ρ' w tp → q σ' H) : gName i v σ H q :=
  h _ (hs.eq ▸ S.set (ht.dp S))
theorem x_gnV {q : L2.St → Hp → Prop} (S : Ds K C B σ H M ρ w tp) (hs : SetAt ρ i (.v v) ρ') (h : ∀ σ', Ds K C B σ' H M ρ' w tp → q σ' H) : gName i v σ H q :=
  h _ (hs.eq ▸ S.set (s := .v v) rfl)
theorem x_gT2 {t1 t2 : TG} {d1 d2 : PyData} {q : L2.St → Hp → Prop} (S : Ds K C B σ H M ρ w tp) (ht : Tm tp v (.tuple [d1, d2])) (h : ∀ x y, Ds K C B σ H M ρ w ((x, d1) :: (y, d2) :: tp) → t1 x σ H fun σ' H' => t2 y σ' H' q) : gTup K 2 (gCons t1 (gCons t2 gNil)) v σ H q := by
  refine Pf.Gate.out ?_
  simp (disch := (with_unfolding_all (
      obtain ⟨p, xs, rfl, h1, h2⟩ := dp_tup (ht.dp S)
      obtain ⟨x, r, rfl, k1, h2⟩ := da_cons h2
      obtain ⟨y, r, rfl, k2, h2⟩ := da_cons h2
      cases da_nil h2
      refine ⟨p, _, rfl, Same.seqT S.sub h1, rfl, x, _, rfl, ?_⟩
      have hc : (fun σ' H' => t2 y σ' H' q) = fun σ' H' => gCons t2 gNil [y] σ' H' q := by
        funext σ' H'
        refine propext ⟨fun z => ⟨y, [], rfl, ?_⟩, fun z => ?_⟩
        · have e : q = fun σ2 H2 => gNil [] σ2 H2 q := by
            funext σ2 H2
            exact propext ⟨fun z => ⟨rfl, z⟩, fun z => z.2⟩
          rw [e] at z
          exact z
        · obtain ⟨v, r, e1, z⟩ := z
          cases e1
          have e : q = fun σ2 H2 => gNil [] σ2 H2 q := by
            funext σ2 H2
            exact propext ⟨fun z => ⟨rfl, z⟩, fun z => z.2⟩
          rw [e]
          exact z
      exact hc ▸ h x y ((S.push k2).push k1)
    ))) only [↓Pf.Gate.lem]
theorem gcons_eq {t2 : TG} {r : List V} {us : TGs} {q : L2.St → Hp → Prop} : (fun σ' H' => gCons t2 us (y :: r) σ' H' q) = fun σ' H' => t2 y σ' H' fun σ2 H2 => us r σ2 H2 q := by
  funext σ' H'
  exact propext ⟨fun ⟨v, r, e1, z⟩ => by cases e1; exact z, fun z => ⟨y, r, rfl, z⟩⟩
theorem gnil_eq {q : L2.St → Hp → Prop} : (fun σ2 H2 => gNil [] σ2 H2 q) = q := by
  funext σ2 H2
  exact propext ⟨fun z => z.2, fun z => ⟨rfl, z⟩⟩
theorem x_gT3 {t1 t2 t3 : TG} {d1 d2 d3 : PyData} {q : L2.St → Hp → Prop} (S : Ds K C B σ H M ρ w tp) (ht : Tm tp v (.tuple [d1, d2, d3])) (h : ∀ x y z, Ds K C B σ H M ρ w ((x, d1) :: (y, d2) :: (z, d3) :: tp) → t1 x σ H fun σ' H' => t2 y σ' H' fun σ2 H2 => t3 z σ2 H2 q) :
    gTup K 3 (gCons t1 (gCons t2 (gCons t3 gNil))) v σ H q := by
  obtain ⟨p, xs, rfl, h1, h2⟩ := dp_tup (ht.dp S)
  obtain ⟨x, r, rfl, k1, h2⟩ := da_cons h2
  obtain ⟨y, r, rfl, k2, h2⟩ := da_cons h2
  obtain ⟨z, r, rfl, k3, h2⟩ := da_cons h2
  cases da_nil h2
  refine ⟨p, _, rfl, Same.seqT S.sub h1, rfl, x, _, rfl, ?_⟩
  rw [gcons_eq]
  have e : (fun σ2 H2 => gCons t3 gNil [z] σ2 H2 q) = fun σ2 H2 => t3 z σ2 H2 q := by rw [gcons_eq, gnil_eq]
  rw [e]
  exact h x y z (((S.push k3).push k2).push k1)
theorem x_gT4 {t1 t2 t3 t4 : TG} {d1 d2 d3 d4 : PyData} {q : L2.St → Hp → Prop} (S : Ds K C B σ H M ρ w tp) (ht : Tm tp v (.tuple [d1, d2, d3, d4])) (h : ∀ x y z u, Ds K C B σ H M ρ w ((x, d1) :: (y, d2) :: (z, d3) :: (u, d4) :: tp) → t1 x σ H fun σ' H' => t2 y σ' H' fun σ2 H2 => t3 z σ2 H2 fun σ3 H3 => t4 u σ3 H3 q) :
    gTup K 4 (gCons t1 (gCons t2 (gCons t3 (gCons t4 gNil)))) v σ H q := by
  obtain ⟨p, xs, rfl, h1, h2⟩ := dp_tup (ht.dp S)
  obtain ⟨x, r, rfl, k1, h2⟩ := da_cons h2
  obtain ⟨y, r, rfl, k2, h2⟩ := da_cons h2
  obtain ⟨z, r, rfl, k3, h2⟩ := da_cons h2
  obtain ⟨u, r, rfl, k4, h2⟩ := da_cons h2
  cases da_nil h2
  refine ⟨p, _, rfl, Same.seqT S.sub h1, rfl, x, _, rfl, ?_⟩
  rw [gcons_eq]
  have e : (fun σ2 H2 => gCons t3 (gCons t4 gNil) [z, u] σ2 H2 q) = fun σ2 H2 => t3 z σ2 H2 fun σ3 H3 => t4 u σ3 H3 q := by rw [gcons_eq, gcons_eq, gnil_eq]
  rw [e]
  exact h x y z u ((((S.push k4).push k3).push k2).push k1)
/-- x += e -/
theorem x_augI {f : Int → Int → Int} (S : Ds K C B σ H M ρ w tp) (h : ρ[i]? = some (.d (.int a))) (q : te σ H fun y H1 => ipI f (.int a) y H1 fun z H2 => D.nx (σ.set i (some z)) H2) : tAug i te (ipI f) D σ H := by
  obtain ⟨v, h1, h2⟩ := S.get h (fun z => nomatch z)
  cases h2
  exact ⟨.int a, h1, q⟩
theorem x_ipI {f : Int → Int → Int} (S : Ds K C B σ H M ρ w tp) (hs : SetAt ρ i (.d (.int (f a b))) ρ') (h : ∀ σ', Ds K C B σ' H M ρ' w tp → D.nx σ' H) : ipI f (.int a) (.int b) H fun z H2 => D.nx (σ.set i (some z)) H2 :=
  ⟨a, b, rfl, rfl, h _ (hs.eq ▸ S.set (.int _))⟩
/-- xs.append(e), xs an own list -/
theorem x_app (S : Ds K C B σ H M ρ w tp) (h : ρ[i]? = some (.v (.ref p))) (j : Nat) (hj : w[j]? = some (p, .lst ds)) (q : te σ H fun y H2 => AppK K Q (.ref p) y H2) : tBM K "list" rAppend (tVar i) (tCons te tNil) σ H Q := by
  obtain ⟨v, h1, h2⟩ := S.get h (fun z => nomatch z)
  cases (show v = .ref p from h2)
  obtain ⟨_, vs, h3, _⟩ := S.own _ (List.mem_of_getElem? hj)
  exact ⟨_, h1, .inl ⟨rfl, vs, .of h3⟩, q⟩
theorem x_appK (j : Nat) (S : Ds K C B σ H M ρ w tp) (hj : w[j]? = some (p, .lst ds)) (ht : Tm tp y e) (hl : ds.length < sizeLine) (hw : SetAt w j (p, .lst (ds ++ [e])) w') (q : ∀ H', Ds K C B σ H' M ρ w' tp → Q .non H') : AppK K Q (.ref p) y H := by
  obtain ⟨_, vs, h1, h2⟩ := S.own _ (List.mem_of_getElem? hj)
  refine ⟨p, vs, y, rfl, rfl, h1, by rw [dpAll_len h2]; exact hl, q _ ?_⟩
  rw [hw.eq]
  exact S.mut hj ⟨_, upd_same, dpAll_app h2 (.cons (ht.dp S) .nil)⟩
end
/-! loops -/
/-- what a turn reaches: I at the turn's number -/
def Nx (K : PySem.W.Frag) (C : Fx) (B : Hp) (I : Nat → List Sl → Own → Prop) (i : Nat) : L2.St → Hp → Prop := fun σ H => ∃ M ρ w, I i ρ w ∧ Ds K C B σ H M ρ w []
def ForT (K : PySem.W.Frag) (R : It → Hp → Prop) (x : V) (H1 : Hp) : Prop := ∃ a, x = .ref a ∧ (∃ xs, SqT K H1 a xs) ∧ R (Itt K a) H1
def ForL (K : PySem.W.Frag) (R : It → Hp → Prop) (x : V) (H1 : Hp) : Prop := ∃ a, x = .ref a ∧ (∃ xs, SqL K H1 a xs) ∧ R (Itl K a) H1
/-- the for behind its iterable -/
def ForB (g : TG) (tb : TS) (D : Ends) (σ0 : L2.St) (J : It) (H1 : Hp) : Prop := ∃ W : Nat → Nat → L2.St → Hp → Prop, (∃ m, W 0 m σ0 H1) ∧ ∀ i m σ H, W i m σ H →
  (J.stop i H ∧ D.nx σ H) ∨ (J.go i H ∧ ∃ N : L2.St → Hp → Prop, (∀ σ' H', N σ' H' → ∃ m', m' < m ∧ W (i + 1) m' σ' H') ∧ ∀ x H', J.yld i H x H' → g x σ H' fun σ2 H2 => tb { D with nx := N, ct := N, bk := D.nx } σ2 H2)
section
variable {K : PySem.W.Frag} {C : Fx} {B : Hp} {σ : L2.St} {H M H' M' : Hp} {ρ ρ' : List Sl} {w w' : Own} {tp : List (V × PyData)} {D : Ends} {te : TE} {tb : TS} {tl : TA} {g : TG} {v : V} {ds : List PyData} {p : Addr}
theorem x_fT (h : te σ H fun x H1 => ForT K (ForB g tb D σ) x H1) : tFor (iTup K te) g tb D σ H := h
theorem x_fL (h : te σ H fun x H1 => ForL K (ForB g tb D σ) x H1) : tFor (iList K te) g tb D σ H := h
theorem x_forT (I : Nat → List Sl → Own → Prop) (S : Ds K C B σ H M ρ w tp) (ht : Tm tp v (.tuple ds)) (h0 : I 0 ρ w)
    (hs : ∀ i d ρ1 w1, ds[i]? = some d → I i ρ1 w1 → ∀ u σ1 H1 M1, Ds K C M σ1 H1 M1 ρ1 w1 [(u, d)] → g u σ1 H1 fun σ2 H2 => tb { D with nx := Nx K C M I (i + 1), ct := Nx K C M I (i + 1), bk := D.nx } σ2 H2)
    (hd : ∀ ρ1 w1, I ds.length ρ1 w1 → ∀ σ1 H1 M1, Ds K C B σ1 H1 M1 ρ1 w1 [] → D.nx σ1 H1) : ForT K (ForB g tb D σ) v H := by
  obtain ⟨p, xs, rfl, h1, h2⟩ := dp_tup (ht.dp S)
  refine ⟨p, rfl, ⟨xs, Same.seqT S.sub h1⟩, for_tup (xs := xs) (Nx K C M I) ⟨M, ρ, w, h0, S.base.clr⟩ (fun i σ1 H1 _ q => ?_) (fun i x σ1 H1 hx q => ?_) (fun σ1 H1 q => ?_)⟩
  · obtain ⟨M1, ρ1, w1, _, S1⟩ := q
    exact Same.seqT (S1.bs.trans S1.sub) h1
  · obtain ⟨M1, ρ1, w1, q, S1⟩ := q
    have hi : i < ds.length := by rw [← dpAll_len h2]; exact (List.getElem?_eq_some_iff.mp hx).1
    have e := List.getElem?_eq_getElem hi
    exact hs i _ ρ1 w1 e q x σ1 H1 M1 (S1.push (Dp.same S1.bs (dpAll_at h2 i x _ hx e)))
  · obtain ⟨M1, ρ1, w1, q, S1⟩ := q
    exact hd ρ1 w1 (dpAll_len h2 ▸ q) σ1 H1 M1 (S1.base' S.bs)
theorem x_forL (I : Nat → List Sl → Own → Prop) (S : Ds K C B σ H M ρ w tp) (ht : Tm tp v (.list ds)) (h0 : I 0 ρ w)
    (hs : ∀ i d ρ1 w1, ds[i]? = some d → I i ρ1 w1 → ∀ u σ1 H1 M1, Ds K C M σ1 H1 M1 ρ1 w1 [(u, d)] → g u σ1 H1 fun σ2 H2 => tb { D with nx := Nx K C M I (i + 1), ct := Nx K C M I (i + 1), bk := D.nx } σ2 H2)
    (hd : ∀ ρ1 w1, I ds.length ρ1 w1 → ∀ σ1 H1 M1, Ds K C B σ1 H1 M1 ρ1 w1 [] → D.nx σ1 H1) : ForL K (ForB g tb D σ) v H := by
  obtain ⟨p, xs, rfl, h1, h2⟩ := dp_lst (ht.dp S)
  refine ⟨p, rfl, ⟨xs, S.sub.seq h1⟩, for_list (xs := xs) (Nx K C M I) ⟨M, ρ, w, h0, S.base.clr⟩ (fun i σ1 H1 _ q => ?_) (fun i x σ1 H1 hx q => ?_) (fun σ1 H1 q => ?_)⟩
  · obtain ⟨M1, ρ1, w1, _, S1⟩ := q
    exact (S1.bs.trans S1.sub).seq h1
  · obtain ⟨M1, ρ1, w1, q, S1⟩ := q
    have hi : i < ds.length := by rw [← dpAll_len h2]; exact (List.getElem?_eq_some_iff.mp hx).1
    have e := List.getElem?_eq_getElem hi
    exact hs i _ ρ1 w1 e q x σ1 H1 M1 (S1.push (Dp.same S1.bs (dpAll_at h2 i x _ hx e)))
  · obtain ⟨M1, ρ1, w1, q, S1⟩ := q
    exact hd ρ1 w1 (dpAll_len h2 ▸ q) σ1 H1 M1 (S1.base' S.bs)
end
end Pf
namespace Pf
open PySem PySem.Spec PyProof.Rows L2
/-! readings with the written part told by its name -/
def tTruD (K : PySem.W.Frag) (ta : TE) : TT := fun σ H Q => ta σ H fun x H' => ∃ k, TruV K x H' k ∧ Q k H'
section
variable {X : Cx} {K : PySem.W.Frag} {e : Expr} {tg : Expr}
theorem kBM {T : String} {r : V → List V → Hp → VK → Prop} {to : TE} {t : TA} (p : PE X e (tBM X.K T r to t)) (h : X.K = K := by rfl) : PE X e (tBM K T r to t) := h ▸ p
theorem kBM0 {T : String} {r : V → List V → Hp → VK → Prop} {to : TE} (p : PE X e (tBM0 X.K T r to)) (h : X.K = K := by rfl) : PE X e (tBM0 K T r to) := h ▸ p
theorem kNotT {ta : TE} (p : PE X e (tNotT X.K ta)) (h : X.K = K := by rfl) : PE X e (tNotT K ta) := h ▸ p
theorem kTru {ta : TE} (p : PT X e (fun σ H Q => ta σ H fun x H' => ∃ k, TruV X.K x H' k ∧ Q k H')) (h : X.K = K := by rfl) : PT X e (tTruD K ta) := by
  subst h
  exact p
theorem kIT {te : TE} (p : PI X tg e (iTup X.K te)) (h : X.K = K := by rfl) : PI X tg e (iTup K te) := h ▸ p
theorem kIL {te : TE} (p : PI X tg e (iList X.K te)) (h : X.K = K := by rfl) : PI X tg e (iList K te) := h ▸ p
theorem kGT {n : Nat} {t : TGs} (p : PG X e (gTup X.K n t)) (h : X.K = K := by rfl) : PG X e (gTup K n t) := h ▸ p
theorem kFld {ta : TE} {f : Str} (p : PE X e (tFld X.K ta f)) (h : X.K = K := by rfl) : PE X e (tFld K ta f) := h ▸ p
theorem kEqD (hu : X.A.units + 64 < cLine) (h : X.K = K := by rfl) : OpR X (compareOp .Eq) (rEqD K) := h ▸ op_eqD hu
theorem kNeD (hu : X.A.units + 64 < cLine) (h : X.K = K := by rfl) : OpR X (compareOp .NotEq) (rNeD K) := h ▸ op_neD hu
theorem kAny (hc : X.calm = true) (h : X.K = K := by rfl) : CallR X (.builtin "any") (rAny K) := h ▸ cr_any hc
theorem kAll (hc : X.calm = true) (h : X.K = K := by rfl) : CallR X (.builtin "all") (rAll K) := h ▸ cr_all hc
theorem kSum (hc : X.calm = true) (h : X.K = K := by rfl) : CallR X (.builtin "sum") (rSum K) := h ▸ cr_sum hc
theorem kIsi (h : X.K = K := by rfl) : CallR X (.builtin "isinstance") (rIsi K) := h ▸ call_isi
theorem kCatA (h : X.K = K := by rfl) : OpR X (binaryOp .Add) (rCatA K) := h ▸ op_catA
theorem kSlA (h : X.K = K := by rfl) : SlR X (rSlA K) := h ▸ sl_tupA
theorem kSlL (h : X.K = K := by rfl) : SlR X (rSlL K) := h ▸ sl_list
end
section
variable {K : PySem.W.Frag} {C : Fx} {B : Hp} {σ : L2.St} {H M H' M' : Hp} {ρ ρ' : List Sl} {w w' : Own} {tp : List (V × PyData)} {Q R : VK} {QB : Bool → Hp → Prop} {D : Ends} {te ta : TE}
theorem x_truD (h : ta σ H fun x H' => ∃ k, TruV K x H' k ∧ QB k H') : tTruD K ta σ H QB := h
end
end Pf
namespace Pf
open PySem PySem.Spec PyProof.Rows L2
/-! the heads alone -/
section
variable {K : PySem.W.Frag} {σ : L2.St} {H M : Hp} {Q R : VK} {D : Ends} {i n : Nat} {a b : Int} {v x y : V} {d : PyData} {te ta tb : TE} {tl : TA} {vs : List V} {q : L2.St → Hp → Prop} {qb : Bool → Prop} {t : TGs} {cc : Int → Int → Prop} {gg : Int → Int → V} {f : Int → Int → Int} {r : Addr} {k : L2.St → V → Hp → Prop}
theorem h_var (h : tVar i σ H R) : tVar i σ H R := h
theorem h_ite {c : Bool} {A B : Prop} (h : if c = true then A else B) : if c = true then A else B := h
theorem h_cR (h : tC (.ref r) σ H R) : tC (.ref r) σ H R := h
theorem h_giv (h : Giv K M H R d) : Giv K M H R d := h
theorem h_tupK (h : TupK Q vs H) : TupK Q vs H := h
theorem h_lstK (h : LstK Q vs H) : LstK Q vs H := h
theorem h_ixT (h : rIxT K x y H R) : rIxT K x y H R := h
theorem h_ixL (h : rIxL K x y H R) : rIxL K x y H R := h
theorem h_I (h : rI cc gg x y H R) : rI cc gg x y H R := h
theorem h_gn (h : gName i v σ H q) : gName i v σ H q := h
theorem h_gT (h : gTup K n t v σ H q) : gTup K n t v σ H q := h
theorem h_tru (h : ∃ k, TruV K v H k ∧ qb k) : ∃ k, TruV K v H k ∧ qb k := h
theorem h_len (h : rLenQ K vs H R) : rLenQ K vs H R := h
theorem h_tupOf (h : rTupOf K vs H R) : rTupOf K vs H R := h
theorem h_lstOf (h : rLstOf K vs H R) : rLstOf K vs H R := h
theorem h_aug (h : tAug i te (ipI f) D σ H) : tAug i te (ipI f) D σ H := h
theorem h_ip {P : V → Hp → Prop} (h : ipI f x y H P) : ipI f x y H P := h
theorem h_app (h : tBM K "list" rAppend ta tl σ H Q) : tBM K "list" rAppend ta tl σ H Q := h
theorem h_isNo (h : rIsNo x y H R) : rIsNo x y H R := h
theorem h_notNo (h : rNotNo x y H R) : rNotNo x y H R := h
theorem h_eq (h : rEq x y H R) : rEq x y H R := h
theorem h_ne (h : rNe x y H R) : rNe x y H R := h
end
end Pf

namespace Pf
open PySem PySem.Spec PyProof.Rows L2
/-! == , in and index of data at any depth -/
def rInX (K : PySem.W.Frag) (neg : Bool) : R2 := fun x y H Q => ∃ d ds, Dp K H x d ∧ (Dp K H y (.list ds) ∨ Dp K H y (.tuple ds)) ∧ d.canLay0 = true ∧ d.depth ≤ 64 ∧ PyData.canLayAll0 ds = true ∧ Q (.bl (if neg then !ds.any (fun z => PyData.eqv z d) else ds.any fun z => PyData.eqv z d)) H
def rTupIx (K : PySem.W.Frag) : V → List V → Hp → VK → Prop := fun x xs H Q => ∃ (a : Addr) (y : V) (d : PyData) (ds : List PyData) (j : Nat) (z : PyData), x = V.ref a ∧ xs = [y] ∧ Dp K H (V.ref a) (.tuple ds) ∧ Dp K H y d ∧ d.canLay0 = true ∧ d.depth ≤ 64 ∧ PyData.canLayAll0 ds = true ∧
  ds[j]? = some z ∧ PyData.eqv z d = true ∧ (∀ (m : Nat) (z' : PyData), m < j → ds[m]? = some z' → PyData.eqv z' d = false) ∧ Q (.int (j : Nat)) H
section
variable {X : Cx}
theorem in_room {A : Around} {d : PyData} {ds : List PyData} (h : d.depth ≤ 64) (hu : A.units + 65 < cLine) : A.units + 1 + min (PyData.depthAll ds) d.depth < cLine := by
  have h2 : min (PyData.depthAll ds) d.depth ≤ d.depth := Nat.min_le_right _ _
  omega
theorem op_inX (hu : X.A.units + 65 < cLine) : OpR X (compareOp .In) (rInX X.K false) := by
  intro pins s σ H x y v u Q I rx ry h
  obtain ⟨d, ds, hd, he, l1, l2, l3, q⟩ := h
  obtain ⟨as, r1⟩ := Dp.reads I d x v hd rx
  rcases he with he | he
  · obtain ⟨bs, r2⟩ := Dp.reads I _ y u he ry
    exact SeqAt.in_list_reads r2 r1 l3 l1 (in_room l2 hu) ⟨.bl _, H, I, rfl, q⟩
  · obtain ⟨bs, r2⟩ := Dp.reads I _ y u he ry
    exact SeqAt.in_tuple_reads r2 r1 l3 l1 (in_room l2 hu) ⟨.bl _, H, I, rfl, q⟩
theorem op_notInX (hu : X.A.units + 65 < cLine) : OpR X (compareOp .NotIn) (rInX X.K true) := by
  intro pins s σ H x y v u Q I rx ry h
  obtain ⟨d, ds, hd, he, l1, l2, l3, q⟩ := h
  obtain ⟨as, r1⟩ := Dp.reads I d x v hd rx
  rcases he with he | he
  · obtain ⟨bs, r2⟩ := Dp.reads I _ y u he ry
    exact SeqAt.notIn_list_reads r2 r1 l3 l1 (in_room l2 hu) ⟨.bl _, H, I, rfl, q⟩
  · obtain ⟨bs, r2⟩ := Dp.reads I _ y u he ry
    exact SeqAt.notIn_tuple_reads r2 r1 l3 l1 (in_room l2 hu) ⟨.bl _, H, I, rfl, q⟩
theorem mt_tupIx (hu : X.A.units + 65 < cLine) : MtR X "tuple.index" (rTupIx X.K) := by
  intro pins s σ H x xs v us Q I rx rxs h
  obtain ⟨p, y, d, ds, j, z, rfl, rfl, hl, hy, l1, l2, l3, hz, hzj, hno, q⟩ := h
  cases rx
  obtain ⟨uy, rfl, ry⟩ := vals1 rxs
  obtain ⟨bs, r1⟩ := Dp.reads I d y uy hy ry
  cases hl with
  | tup hs ha =>
    obtain ⟨its, rv, pl, hlen⟩ := I.tuple hs
    obtain ⟨⟨cls, dd, dt, sl⟩, ho, hc, n, hd⟩ := pl
    simp only at hc hd
    subst hc
    subst hd
    obtain ⟨as, h4⟩ := Dp.readsAll I ds _ its ha rv
    have hn := SeqAt.ReadsAll.length ds its as h4
    have hmap := SeqAt.readsAll_map ds its as l3 h4
    have hjd := (List.getElem?_eq_some_iff.mp hz).1
    have hj : j < its.toArray.size := by rw [List.size_toArray]; omega
    have tell : ∀ (m : Nat) (hm : m < its.toArray.size) (z' : PyData), ds[m]? = some z' → SeqAt.readOf s.heap its.toArray[m] = z' := fun m hm z' hz' => by
      have hml : m < its.length := by rw [← List.size_toArray]; exact hm
      rw [← hmap, List.getElem?_map, List.getElem?_eq_getElem hml] at hz'
      have e1 := Option.some.inj hz'
      rw [← e1]
      simp
    refine call_meets PySem.F.slot_tuple_index ⟨_, ho, rfl⟩ PySem.F.entry_tuple_index (PySem.F.args_tuple_index_2 _ _)
      (TI.tuple_indexAt p its.toArray n dd sl uy (fun u => PyData.eqv (SeqAt.readOf s.heap u) d) j hj ?_ ?_) ⟨ho, ?_, ?_⟩
    · show PyData.eqv _ d = true
      rw [tell j hj z hz]
      exact hzj
    · intro m hm hmj
      have hmd : m < ds.length := by omega
      show PyData.eqv _ d = false
      rw [tell m hm _ (List.getElem?_eq_getElem hmd)]
      exact hno m _ hmj (List.getElem?_eq_getElem hmd)
    · exact SeqAt.items_eqAt (vs := its.toArray) h4 r1 l3 l1 (in_room l2 hu)
    · exact ⟨.int (j : Nat), H, I.tok _, ⟨_, rfl⟩, q⟩
end
/-! data that == tells apart: each is one of a kind of its own -/
structure Enc {α : Type} [DecidableEq α] (f : α → PyData) : Prop where
  eq : ∀ a b, PyData.eqv (f a) (f b) = decide (a = b)
  lay : ∀ a, (f a).canLay0 = true
theorem Enc.any {α : Type} [DecidableEq α] {f : α → PyData} (e : Enc f) (xs : List α) (x : α) : ((xs.map f).any fun z => PyData.eqv z (f x)) = decide (x ∈ xs) := by
  rw [List.any_map, Bool.eq_iff_iff, List.any_eq_true, decide_eq_true_iff]
  constructor
  · rintro ⟨y, h1, h2⟩
    have h3 : PyData.eqv (f y) (f x) = true := h2
    rw [e.eq] at h3
    exact of_decide_eq_true h3 ▸ h1
  · intro h
    refine ⟨x, h, ?_⟩
    show PyData.eqv (f x) (f x) = true
    rw [e.eq]
    exact decide_eq_true rfl
theorem Enc.layAll {α : Type} [DecidableEq α] {f : α → PyData} (e : Enc f) : ∀ xs : List α, PyData.canLayAll0 (xs.map f) = true
  | [] => rfl
  | x :: xs => by
    show (PyData.canLay0 (f x) && PyData.canLayAll0 (xs.map f)) = true
    rw [e.lay, e.layAll xs]
    rfl
theorem Enc.idx {α : Type} [DecidableEq α] {f : α → PyData} (e : Enc f) {xs : List α} {x : α} (h : x ∈ xs) : (xs.map f)[xs.idxOf x]? = some (f x) ∧ ∀ (m : Nat) (z : PyData), m < xs.idxOf x → (xs.map f)[m]? = some z → PyData.eqv z (f x) = false := by
  have h1 := List.idxOf_lt_length_of_mem h
  refine ⟨by rw [List.getElem?_map, List.getElem?_eq_getElem h1, List.getElem_idxOf]; rfl, fun m z hm hz => ?_⟩
  have hl : m < xs.length := by omega
  rw [List.getElem?_map, List.getElem?_eq_getElem hl] at hz
  cases hz
  rw [e.eq]
  refine decide_eq_false fun q => ?_
  have h2 := List.not_of_lt_findIdx (p := (· == x)) (xs := xs) (i := m) hm
  rw [q] at h2
  simp at h2
section
variable {K : PySem.W.Frag} {C : Fx} {B : Hp} {σ : L2.St} {H M H' M' : Hp} {ρ ρ' : List Sl} {w w' : Own} {tp : List (V × PyData)} {Q R : VK} {te ta : TE} {v x y : V} {a : Addr}
variable {α : Type} [DecidableEq α] {f : α → PyData} {xs : List α} {c : α} {neg : Bool}
theorem x_inXT (e : Enc f) (S : Ds K C B σ H M ρ w tp) (hx : Tm tp x (f c)) (hy : Tm tp y (.tuple (xs.map f))) (hd : (f c).depth ≤ 64) (q : R (.bl (if neg then !decide (c ∈ xs) else decide (c ∈ xs))) H) : rInX K neg x y H R :=
  ⟨f c, xs.map f, Dp.same S.sub (hx.dp S), .inr (Dp.same S.sub (hy.dp S)), e.lay c, hd, e.layAll xs, by rw [e.any]; exact q⟩
theorem x_inXL (e : Enc f) (S : Ds K C B σ H M ρ w tp) (hx : Tm tp x (f c)) (hy : Tm tp y (.list (xs.map f))) (hd : (f c).depth ≤ 64) (q : R (.bl (if neg then !decide (c ∈ xs) else decide (c ∈ xs))) H) : rInX K neg x y H R :=
  ⟨f c, xs.map f, Dp.same S.sub (hx.dp S), .inl (Dp.same S.sub (hy.dp S)), e.lay c, hd, e.layAll xs, by rw [e.any]; exact q⟩
theorem x_inXO (e : Enc f) (j : Nat) (S : Ds K C B σ H M ρ w tp) (hj : w[j]? = some (a, .lst (xs.map f))) (hx : Tm tp x (f c)) (hd : (f c).depth ≤ 64) (q : R (.bl (if neg then !decide (c ∈ xs) else decide (c ∈ xs))) H) : rInX K neg x (.ref a) H R := by
  obtain ⟨_, vs, h1, h2⟩ := S.own _ (List.mem_of_getElem? hj)
  exact ⟨f c, xs.map f, Dp.same S.sub (hx.dp S), .inl (.lst (.of h1) (DpAll.same S.sub h2)), e.lay c, hd, e.layAll xs, by rw [e.any]; exact q⟩
theorem x_eqX (e : Enc f) {d : α} (S : Ds K C B σ H M ρ w tp) (hx : Tm tp x (f c)) (hy : Tm tp y (f d)) (h1 : (f c).depth ≤ 64) (h2 : (f d).depth ≤ 64) (q : R (.bl (decide (c = d))) H) : rEqD K x y H R :=
  ⟨f c, f d, Dp.same S.sub (hx.dp S), Dp.same S.sub (hy.dp S), by unfold SeqAt.shaped; rw [e.lay, decide_eq_true h1]; rfl, by unfold SeqAt.shaped; rw [e.lay, decide_eq_true h2]; rfl, by rw [e.eq]; exact q⟩
/-- t.index(x), t a plain tuple -/
theorem x_tix (h : ta σ H fun x H1 => (∃ p, x = .ref p ∧ FzT K H1 p) ∧ te σ H1 fun y H2 => rTupIx K x [y] H2 Q) : tBMT K (rTupIx K) ta (tCons te tNil) σ H Q := h
theorem h_tixF {A : Prop} (h : (∃ p, V.ref a = .ref p ∧ FzT K H p) ∧ A) : (∃ p, V.ref a = .ref p ∧ FzT K H p) ∧ A := h
theorem x_tixF {A : Prop} (S : Ds K C B σ H M ρ w tp) (hf : FzT K M a) (h : A) : (∃ p, V.ref a = .ref p ∧ FzT K H p) ∧ A := ⟨⟨a, rfl, hf.same S.sub⟩, h⟩
theorem x_tixK (e : Enc f) (S : Ds K C B σ H M ρ w tp) (hx : Tm tp (.ref a) (.tuple (xs.map f))) (hy : Tm tp y (f c)) (hd : (f c).depth ≤ 64) (hm : c ∈ xs) (q : Q (.int (xs.idxOf c : Nat)) H) : rTupIx K (.ref a) [y] H Q :=
  ⟨a, y, f c, xs.map f, xs.idxOf c, f c, rfl, rfl, Dp.same S.sub (hx.dp S), Dp.same S.sub (hy.dp S), e.lay c, hd, e.layAll xs, (e.idx hm).1, by rw [e.eq]; exact decide_eq_true rfl, (e.idx hm).2, q⟩
/-- l.index(x) -/
theorem x_lix (h : ta σ H fun x H1 => tyV K "list" x H1 ∧ te σ H1 fun y H2 => rIndexD K x [y] H2 Q) : tBM K "list" (rIndexD K) ta (tCons te tNil) σ H Q := h
theorem h_lixF {A : Prop} (h : tyV K "list" v H ∧ A) : tyV K "list" v H ∧ A := h
theorem x_lixF {A : Prop} {ds : List PyData} (S : Ds K C B σ H M ρ w tp) (hx : Tm tp v (.list ds)) (h : A) : tyV K "list" v H ∧ A := by
  obtain ⟨p, ys, rfl, h1, _⟩ := dp_lst (hx.dp S)
  exact ⟨.inl ⟨rfl, ys, S.sub.seq h1⟩, h⟩
theorem x_lixK (e : Enc f) (S : Ds K C B σ H M ρ w tp) (hx : Tm tp v (.list (xs.map f))) (hy : Tm tp y (f c)) (hd : (f c).depth ≤ 64) (hd2 : ∀ x ∈ xs, (f x).depth ≤ 63) (hm : c ∈ xs) (q : Q (.int (xs.idxOf c : Nat)) H) : rIndexD K v [y] H Q := by
  refine Pf.Gate.out ?_
  simp (disch := (with_unfolding_all (
      obtain ⟨a, ys, rfl, h1, h2⟩ := dp_lst (hx.dp S)
      refine ⟨a, y, f c, xs.map f, xs.idxOf c, f c, rfl, rfl, Dp.same S.sub (.lst h1 h2), Dp.same S.sub (hy.dp S), ?_, by unfold SeqAt.shaped; rw [e.lay, decide_eq_true hd]; rfl, (e.idx hm).1, by rw [e.eq]; exact decide_eq_true rfl, (e.idx hm).2, q⟩
      have hs : ∀ ys : List α, (∀ x ∈ ys, (f x).depth ≤ 63) → PyData.depthAll (ys.map f) ≤ 63 := fun ys => by
        induction ys with
        | nil => exact fun _ => Nat.zero_le _
        | cons y ys ih =>
          intro h
          have h1 := h y (List.mem_cons_self ..)
          have h2 := ih fun x hx => h x (List.mem_cons_of_mem _ hx)
          show max (f y).depth (PyData.depthAll (ys.map f)) ≤ 63
          omega
      unfold SeqAt.shaped
      have h3 := hs xs hd2
      have h4 : (PyData.list (xs.map f)).canLay0 = true := e.layAll xs
      rw [h4, Bool.true_and]
      refine decide_eq_true ?_
      show PyData.depthAll (xs.map f) + 1 ≤ 64
      omega
    ))) only [↓Pf.Gate.lem]
end
section
variable {X : Cx} {K : PySem.W.Frag} {e : Expr}
theorem kInX (hu : X.A.units + 65 < cLine) (h : X.K = K := by rfl) : OpR X (compareOp .In) (rInX K false) := h ▸ op_inX hu
theorem kNotInX (hu : X.A.units + 65 < cLine) (h : X.K = K := by rfl) : OpR X (compareOp .NotIn) (rInX K true) := h ▸ op_notInX hu
theorem kTupIx (hu : X.A.units + 65 < cLine) (h : X.K = K := by rfl) : MtR X "tuple.index" (rTupIx K) := h ▸ mt_tupIx hu
theorem kLstIx (hu : X.A.units + 65 < cLine) (h : X.K = K := by rfl) : MtR X "list.index" (rIndexD K) := h ▸ mt_indexD hu
theorem kBMT {r : V → List V → Hp → VK → Prop} {to : TE} {t : TA} (p : PE X e (tBMT X.K r to t)) (h : X.K = K := by rfl) : PE X e (tBMT K r to t) := h ▸ p
end
end Pf
namespace Pf
open PySem PySem.Spec PyProof.Rows L2
/-! a def that keeps a promise over Ds -/
section
variable {P : Program} {w : World} {K : PySem.W.Frag} {mg : Str → Option Value} {base : Heap}
theorem Df.go {x : Str} {st : Stmt} {f : Addr} {fd : FuncData} {ps N : List Str} {k : Nat} (D : Df K mg x st f fd ps) (S : FnScope N ps (defScope st)) (pre : Pre) (len : ∀ ss u post, pre ss u post → ss.length = ps.length)
    (hbody : ∀ (cdv : Value) (A : Around) (outer : List Env) (s : Shared) (H M : Hp) (vs : List V) (Q : VK) (E : XK) (ss : List Sl) (u : Own) (post : Rs → Own → Prop), Room k (A.deeper (envOfC x (defScope st) s.heap.objs.size f cdv)) → pre ss u post →
      Ds K ⟨H, M, u.map (·.1)⟩ M (L2.start N vs) H M (ss ++ List.replicate (N.length - ss.length) .u) u [] → (∀ r u' v H', post r u' → Fin K ⟨H, M, u.map (·.1)⟩ r u' v H' → Q v H') →
      ∃ t, PSs (cxOf CX0 P w K mg base N x (defScope st) f cdv A outer s H E).nox (defBody st) t ∧ t { nx := fun _ H' => Q .non H', rt := Q } (L2.start N vs) H) : Cl P w K mg base (k + 1) x (spG K pre) := by
  refine D.cl S (fun vs H Q E h => ?_) (fun cdv A outer s H vs Q E hr h => ?_)
  · obtain ⟨M, ss, u, post, _, h2, _, _, h5, _⟩ := h
    exact h2.length.trans (len _ _ _ h5)
  · obtain ⟨M, ss, u, post, h1, h2, h3, h4, h5, q⟩ := h
    exact hbody cdv A outer s H M vs Q E ss u post hr h5 (Ds.init h1 h2 h3 h4) q
end
section
variable {K : PySem.W.Frag} {B : Hp} {σ : L2.St} {H M H0 M0 : Hp} {ρ : List Sl} {w : Own} {tp : List (V × PyData)} {Q : VK} {post : Rs → Own → Prop} {v : V} {d : PyData} {p a : Addr} {od : Od}
theorem x_ret0 (S : Ds K ⟨H0, M0, []⟩ B σ H M ρ w tp) (hq : ∀ r w' v H', post r w' → Fin K ⟨H0, M0, []⟩ r w' v H' → Q v H') (ht : Tm tp v d) (hp : post (.s (.d d)) []) : Q v H :=
  hq _ _ v H hp (S.fin rfl (fun _ h => nomatch h) (ht.dp S))
theorem x_retO0 (S : Ds K ⟨H0, M0, []⟩ B σ H M ρ w tp) (hq : ∀ r w' v H', post r w' → Fin K ⟨H0, M0, []⟩ r w' v H' → Q v H') (j : Nat) (hj : w[j]? = some (p, od)) (hp : post (.o od) []) : Q (.ref p) H := by
  have hm := List.mem_of_getElem? hj
  exact hq _ _ _ H hp (S.fin rfl (fun _ h => nomatch h) ⟨p, rfl, (S.ow _ hm).resolve_left (fun z => nomatch z), (S.own _ hm).1, (S.own _ hm).2⟩)
theorem x_ret1 (S : Ds K ⟨H0, M0, [a]⟩ B σ H M ρ w tp) (hq : ∀ r w' v H', post r w' → Fin K ⟨H0, M0, [a]⟩ r w' v H' → Q v H') (ht : Tm tp v d) (j : Nat) (hj : w[j]? = some (a, od)) (hp : post (.s (.d d)) [(a, od)]) : Q v H :=
  hq _ _ v H hp (S.fin rfl (fun x h => by rw [List.mem_singleton.mp h]; exact List.mem_of_getElem? hj) (ht.dp S))
end
/-! range -/
def ForR (R : It → Hp → Prop) (vs : List V) (H1 : Hp) : Prop := ∃ j : Int, vs = [.int j] ∧ -(2 ^ 62) ≤ j ∧ j < 2 ^ 62 ∧ R (Itr 0 j.toNat) H1
def ForR2 (R : It → Hp → Prop) (vs : List V) (H1 : Hp) : Prop := ∃ i j : Int, vs = [.int i, .int j] ∧ (-(2 ^ 62) ≤ i ∧ i < 2 ^ 62 ∧ -(2 ^ 62) ≤ j ∧ j < 2 ^ 62) ∧ R (Itr i (j - i).toNat) H1
section
variable {K : PySem.W.Frag} {C : Fx} {B : Hp} {σ : L2.St} {H M H' M' : Hp} {ρ ρ' : List Sl} {w w' : Own} {tp : List (V × PyData)} {D : Ends} {te : TE} {tb : TS} {tl : TA} {g : TG} {v : V} {ds : List PyData} {p : Addr} {a : Int}
theorem x_fR (h : tl σ H fun vs H1 => ForR (ForB g tb D σ) vs H1) : tFor (iRng1 tl) g tb D σ H := h
theorem x_fR2 (h : tl σ H fun vs H1 => ForR2 (ForB g tb D σ) vs H1) : tFor (iRng2 tl) g tb D σ H := h
theorem x_forR (I : Nat → List Sl → Own → Prop) (S : Ds K C B σ H M ρ w tp) (b1 : -(2 ^ 62) ≤ a) (b2 : a < 2 ^ 62) (h0 : I 0 ρ w)
    (hs : ∀ i ρ1 w1, i < a.toNat → I i ρ1 w1 → ∀ σ1 H1 M1, Ds K C M σ1 H1 M1 ρ1 w1 [] → g (.int (i : Int)) σ1 H1 fun σ2 H2 => tb { D with nx := Nx K C M I (i + 1), ct := Nx K C M I (i + 1), bk := D.nx } σ2 H2)
    (hd : ∀ ρ1 w1, I a.toNat ρ1 w1 → ∀ σ1 H1 M1, Ds K C B σ1 H1 M1 ρ1 w1 [] → D.nx σ1 H1) : ForR (ForB g tb D σ) [.int a] H := by
  refine ⟨a, rfl, b1, b2, for_range (lo := 0) (n := a.toNat) (Nx K C M I) ⟨M, ρ, w, h0, S.base.clr⟩ (fun i σ1 H1 hi q => ?_) (fun σ1 H1 q => ?_)⟩
  · obtain ⟨M1, ρ1, w1, q, S1⟩ := q
    rw [Int.zero_add]
    exact hs i ρ1 w1 hi q σ1 H1 M1 S1
  · obtain ⟨M1, ρ1, w1, q, S1⟩ := q
    exact hd ρ1 w1 q σ1 H1 M1 (S1.base' S.bs)
/-- the slots and own things are functions of the turn -/
abbrev At (P : Nat → List Sl) (W : Nat → Own) : Nat → List Sl → Own → Prop := fun i ρ w => ρ = P i ∧ w = W i
theorem Nx.at {I : Nat → List Sl → Own → Prop} {i : Nat} (S : Ds K C B σ H M ρ w tp) (hl : SlLe ρ ρ') (h : I i ρ' w) : Nx K C B I i σ H := ⟨M, ρ', w, h, S.clr.weak hl⟩
end
end Pf
namespace Pf
open PySem PySem.Spec PyProof.Rows L2
/-! what holds between two statements -/
def Md (K : PySem.W.Frag) (C : Fx) (B : Hp) (I : List Sl → Own → Prop) : L2.St → Hp → Prop := fun σ H => ∃ M ρ w, I ρ w ∧ Ds K C B σ H M ρ w []
section
variable {K : PySem.W.Frag} {C : Fx} {B : Hp} {σ : L2.St} {H M H' M' : Hp} {ρ ρ' : List Sl} {w w' : Own} {tp : List (V × PyData)} {D : Ends} {t u : TS}
theorem x_cut (I : List Sl → Own → Prop) (S : Ds K C B σ H M ρ w tp) (h1 : t { D with nx := Md K C B I } σ H) (h2 : ∀ M σ H ρ w, I ρ w → Ds K C B σ H M ρ w [] → u D σ H) : Evl.tCut t u D σ H :=
  ⟨_, h1, fun σ' H' ⟨M, ρ, w, a, b⟩ => h2 M σ' H' ρ w a b⟩
theorem Md.at {I : List Sl → Own → Prop} (S : Ds K C B σ H M ρ w tp) (hl : SlLe ρ ρ') (h : I ρ' w) : Md K C B I σ H := ⟨M, ρ', w, h, S.clr.weak hl⟩
end
end Pf
namespace Pf
open PySem
theorem map_snoc {α β : Type} {f : α → β} {xs : List α} {x : α} : xs.map f ++ [f x] = (xs ++ [x]).map f := by
  rw [List.map_append]
  rfl
theorem own_snoc {α : Type} {f : α → PyData} {xs : List α} {x : α} {p : Addr} {w : Own} : (p, Od.lst (xs.map f ++ [f x])) :: w = (p, Od.lst ((xs ++ [x]).map f)) :: w := by rw [map_snoc]
end Pf
namespace Pf
open PySem PySem.Spec PyProof.Rows L2
/-! promises of usual forms -/
/-- data -/
abbrev pD (P : PyData → Prop) : Rs → Own → Prop := fun r u => u = [] ∧ ∃ d, P d ∧ r = .s (.d d)
/-- a new own object -/
abbrev pO (P : Od → Prop) : Rs → Own → Prop := fun r u => u = [] ∧ ∃ od, P od ∧ r = .o od
/-- data, and the own object that was handed over -/
abbrev pD1 (a : Addr) (P : PyData → Od → Prop) : Rs → Own → Prop := fun r u => ∃ d od, P d od ∧ r = .s (.d d) ∧ u = [(a, od)]
section
variable {K : PySem.W.Frag} {C : Fx} {B : Hp} {σ : L2.St} {H M H0 M0 : Hp} {ρ : List Sl} {w : Own} {tp : List (V × PyData)} {Q : VK} {E : XK} {v : V} {d : PyData} {p a : Addr} {od : Od} {P : PyData → Prop} {PO : Od → Prop} {P1 : PyData → Od → Prop} {pre : Pre} {vs : List V} {ss : List Sl}
theorem x_cD (S : Ds K C B σ H M ρ w tp) (hs : SlT K M tp vs ss) (hp : pre ss [] (pD P)) (q : ∀ d, P d → ∀ H' M', Ds K C B σ H' M' ρ w tp → Giv K M' H' Q d) : spG K pre vs H Q E :=
  x_call0 S (hs.dp S) hp fun r u hr v H' M' R => by
    obtain ⟨_, d, hd, rfl⟩ := hr
    have R : Ds K C B σ H' M' ρ w ((v, d) :: tp) := R
    exact q d hd H' M' R.rest v (R.tm _ (List.mem_cons_self ..))
theorem x_cO (S : Ds K C B σ H M ρ w tp) (hs : SlT K M tp vs ss) (hp : pre ss [] (pO PO)) (q : ∀ od, PO od → ∀ p H' M', Ds K C B σ H' M' ρ ((p, od) :: w) tp → Q (.ref p) H') : spG K pre vs H Q E :=
  x_call0 S (hs.dp S) hp fun r u hr v H' M' R => by
    obtain ⟨_, od, hd, rfl⟩ := hr
    obtain ⟨p, rfl, R⟩ : ∃ p, v = .ref p ∧ Ds K C B σ H' M' ρ ((p, od) :: w) tp := R
    exact q od hd p H' M' R
theorem x_c1 (j : Nat) (S : Ds K C B σ H M ρ w tp) (hj : w[j]? = some (a, od)) (hs : SlT K M tp vs ss) (hp : pre ss [(a, od)] (pD1 a P1)) (q : ∀ d od', P1 d od' → ∀ H' M' w', SetAt w j (a, od') w' → Ds K C B σ H' M' ρ w' tp → Giv K M' H' Q d) : spG K pre vs H Q E :=
  x_call1 j S hj (hs.dp S) hp fun r od1 hr v H' M' R => by
    obtain ⟨d, od', hd, rfl, e⟩ := hr
    obtain rfl : od1 = od' := by
      have := List.head_eq_of_cons_eq e
      exact congrArg Prod.snd this
    have R : Ds K C B σ H' M' ρ (w.set j (a, od1)) ((v, d) :: tp) := R
    exact q d od1 hd H' M' _ (.of (List.getElem?_eq_some_iff.mp hj).1) R.rest v (R.tm _ (List.mem_cons_self ..))
theorem x_rD (S : Ds K ⟨H0, M0, []⟩ B σ H M ρ w tp) (hq : ∀ r w' v H', pD P r w' → Fin K ⟨H0, M0, []⟩ r w' v H' → Q v H') (ht : Tm tp v d) (hp : P d) : Q v H := x_ret0 S hq ht ⟨rfl, d, hp, rfl⟩
theorem x_rO (S : Ds K ⟨H0, M0, []⟩ B σ H M ρ w tp) (hq : ∀ r w' v H', pO PO r w' → Fin K ⟨H0, M0, []⟩ r w' v H' → Q v H') (j : Nat) (hj : w[j]? = some (p, od)) (hp : PO od) : Q (.ref p) H := x_retO0 S hq j hj ⟨rfl, od, hp, rfl⟩
theorem x_r1 (S : Ds K ⟨H0, M0, [a]⟩ B σ H M ρ w tp) (hq : ∀ r w' v H', pD1 a P1 r w' → Fin K ⟨H0, M0, [a]⟩ r w' v H' → Q v H') (ht : Tm tp v d) (j : Nat) (hj : w[j]? = some (a, od)) (hp : P1 d od) : Q v H := x_ret1 S hq ht j hj ⟨d, od, hp, rfl, rfl⟩
end
end Pf
namespace Pf
open PySem PySem.Spec PyProof.Rows L2
/-! objects known to the letter -/
section
variable {K : PySem.W.Frag} {C : Fx} {B : Hp} {σ : L2.St} {H M : Hp} {ρ : List Sl} {w w' : Own} {tp : List (V × PyData)} {Q R : VK} {p a : Addr} {i : Int} {xs : List V} {v x : V} {od od' : Od} {to ti : TE} {t : TSet} {q : L2.St → Hp → Prop}
theorem Ds.reOd {j : Nat} (S : Ds K C B σ H M ρ w tp) (hj : w[j]? = some (a, od)) (ok : OdOk K M H a od') : Ds K C B σ H M ρ (w.set j (a, od')) tp := by
  have hm := List.mem_of_getElem? hj
  refine S.step (O := []) (Fr.refl _ S.sub) (fun _ h => nomatch h) ?_ fun y hy => ?_
  · rw [List.map_set]
    exact set_self (by rw [List.getElem?_map, hj]; rfl)
  · rcases List.mem_or_eq_of_mem_set hy with h | rfl
    · exact (S.own y h).2
    · exact ok
theorem x_ixH (j : Nat) (S : Ds K C B σ H M ρ w tp) (hj : w[j]? = some (p, .ho (.lst xs))) (hi : atI xs i = some v) (q : R v H) : rIxL K (.ref p) (.int i) H R :=
  ⟨p, xs, i, v, rfl, rfl, .of (S.own _ (List.mem_of_getElem? hj)).2, hi, q⟩
theorem x_gSub (h : to σ H fun o H1 => ti σ H1 fun i H2 => t o i v H2 fun H3 => q σ H3) : gSub to ti t v σ H q := h
theorem h_setL {P : Hp → Prop} {o k : V} (h : rSetL o k v H P) : rSetL o k v H P := h
theorem x_setH {P : Hp → Prop} {k : Nat} (j : Nat) (S : Ds K C B σ H M ρ w tp) (hj : w[j]? = some (p, .ho (.lst xs))) (hk : ixN xs.length i = some k) (hw : SetAt w j (p, .ho (.lst (xs.set k v))) w') (q : ∀ H', Ds K C B σ H' M ρ w' tp → P H') : rSetL (.ref p) (.int i) v H P :=
  ⟨p, xs, i, k, rfl, rfl, (S.own _ (List.mem_of_getElem? hj)).2, hk, q _ (hw.eq ▸ S.mut hj upd_same)⟩
theorem x_open (j : Nat) {A : Prop} (S : Ds K C B σ H M ρ w tp) (hj : w[j]? = some (a, .box)) (q : ∀ (p : Addr) (ns : List Int) (i : Int) (w' : Own), 0 ≤ i → SetAt w j (a, .ho (.lst [.ref p, .int i])) w' → Ds K C B σ H M ρ w' ((.ref p, .list (ns.map .int)) :: tp) → A) : A := by
  obtain ⟨_, p, ns, i, h1, h2, h3⟩ := S.own _ (List.mem_of_getElem? hj)
  refine q p ns i _ h3 (.of (List.getElem?_eq_some_iff.mp hj).1) ((S.reOd (od' := .ho (.lst [.ref p, .int i])) hj h1).push (.lst h2 ?_))
  have hs : ∀ ns : List Int, DpAll K M (ns.map V.int) (ns.map PyData.int) := fun ns => by
    induction ns with
    | nil => exact .nil
    | cons n ns ih => exact .cons (.int n) ih
  exact hs ns
theorem Ds.close {j : Nat} {ns : List Int} (S : Ds K C B σ H M ρ w tp) (hj : w[j]? = some (a, .ho (.lst [.ref p, .int i]))) (h0 : 0 ≤ i) (ht : Tm tp (.ref p) (.list (ns.map .int))) : Ds K C B σ H M ρ (w.set j (a, .box)) tp := by
  obtain ⟨p', ys, e, h1, h2⟩ := dp_lst (ht.dp S)
  cases e
  cases dpAll_ints h2
  exact S.reOd hj ⟨p, ns, i, (S.own _ (List.mem_of_getElem? hj)).2, h1, h0⟩
end
/-! boxes of digits -/
section
variable {K : PySem.W.Frag} {C : Fx} {B : Hp} {σ : L2.St} {H M : Hp} {ρ : List Sl} {w w' : Own} {tp : List (V × PyData)} {Q : VK} {p a : Addr} {i : Int} {ns : List Int}
theorem x_lstBox (S : Ds K C B σ H M ρ ((p, .lst (ns.map .int)) :: w) tp) (hO : p ∉ C.O) (hz : 0 ≤ i) (q : ∀ b H' M', Ds K C B σ H' M' ρ ((b, .box) :: w) tp → Q (.ref b) H') : LstK Q [.ref p, .int i] H := by
  refine ⟨by show 2 ≤ sizeLine; decide, fun b hb => ?_⟩
  obtain ⟨M', S'⟩ := S.freeze hO
  have h1 := S'.tm (.ref p, .list (ns.map .int)) (List.mem_cons_self ..)
  obtain ⟨p', xs, e, h2, h3⟩ := dp_lst h1
  cases e
  cases dpAll_ints h3
  exact q b _ M' (S'.newO (od := .box) hb ⟨p, ns, i, upd_same, h2, hz⟩).rest
end
end Pf
namespace Pf
open PySem PySem.Spec PyProof.Rows L2
section
variable {P : Program} {w : World} {K : PySem.W.Frag} {mg : Str → Option Value} {base : Heap}
theorem Df.vain {x : Str} {st : Stmt} {f : Addr} {fd : FuncData} {ps N : List Str} {k : Nat} (D : Df K mg x st f fd ps) (S : FnScope N ps (defScope st)) (pre : Pre) (h : ∀ ss u post, ¬ pre ss u post) : Cl P w K mg base (k + 1) x (spG K pre) :=
  D.go S pre (fun ss u post z => (h _ _ _ z).elim) fun cdv A outer s H M vs Q E ss u post hr z _ _ => (h _ _ _ z).elim
end
end Pf
namespace Pf
open PySem PySem.Spec PyProof.Rows L2
/-! more steps -/
theorem u65 {k : Nat} {A : Around} (r : Room k A) : A.units + 65 < cLine := by have := r.un; omega
section
variable {K : PySem.W.Frag} {C : Fx} {B : Hp} {σ : L2.St} {H M : Hp} {ρ : List Sl} {w w' : Own} {tp : List (V × PyData)} {Q R : VK} {p a : Addr} {i : Int} {v x y : V} {te : TE} {tl th : TO} {ds es : List PyData} {lo hi : Option Int} {neg : Bool} {s s1 s2 s3 s4 : Str}
theorem h_in (h : rIn K neg x y H R) : rIn K neg x y H R := h
theorem x_inS2 (S : Ds K C B σ H M ρ w tp) (ht : Tm tp y (.tuple [.str s1, .str s2])) (q : R (.bl (if neg then !decide (s ∈ [s1, s2]) else decide (s ∈ [s1, s2]))) H) : rIn K neg (.str s) y H R := x_inST (ns := [s1, s2]) S ht q
theorem x_inS3 (S : Ds K C B σ H M ρ w tp) (ht : Tm tp y (.tuple [.str s1, .str s2, .str s3])) (q : R (.bl (if neg then !decide (s ∈ [s1, s2, s3]) else decide (s ∈ [s1, s2, s3]))) H) : rIn K neg (.str s) y H R := x_inST (ns := [s1, s2, s3]) S ht q
theorem x_inI2 {a b c : Int} (S : Ds K C B σ H M ρ w tp) (ht : Tm tp y (.tuple [.int a, .int b])) (q : R (.bl (if neg then !decide (c ∈ [a, b]) else decide (c ∈ [a, b]))) H) : rIn K neg (.int c) y H R := x_inIT (ns := [a, b]) S ht q
theorem x_inI3 {a b d c : Int} (S : Ds K C B σ H M ρ w tp) (ht : Tm tp y (.tuple [.int a, .int b, .int d])) (q : R (.bl (if neg then !decide (c ∈ [a, b, d]) else decide (c ∈ [a, b, d]))) H) : rIn K neg (.int c) y H R := x_inIT (ns := [a, b, d]) S ht q
theorem x_sl {r : V → Option Int → Option Int → Hp → VK → Prop} (h : te σ H fun x H1 => tl σ H1 fun l H2 => th σ H2 fun u H3 => r x l u H3 Q) : tSl r te tl th σ H Q := h
theorem x_noPart {q : Option Int → Hp → Prop} (h : q none H) : tNoPart σ H q := h
theorem x_part {q : Option Int → Hp → Prop} (h : te σ H fun x H1 => ∃ i, x = .int i ∧ q (some i) H1) : tPart te σ H q := h
theorem x_exI {q : Int → Prop} (h : q i) : ∃ j, V.int i = .int j ∧ q j := ⟨i, rfl, h⟩
theorem dpAll_cut {vs : List V} (h : DpAll K M vs ds) : DpAll K M (cutV vs lo hi) (cutI ds lo hi) := by
  refine Pf.Gate.out ?_
  simp (disch := (with_unfolding_all (
      have hd : ∀ (n : Nat) {vs : List V} {ds : List PyData}, DpAll K M vs ds → DpAll K M (vs.drop n) (ds.drop n) := fun n => by
        induction n with
        | zero => exact fun h => h
        | succ n ih =>
          intro vs ds h
          cases h with
          | nil => exact .nil
          | cons _ t => exact ih t
      have ht : ∀ (n : Nat) {vs : List V} {ds : List PyData}, DpAll K M vs ds → DpAll K M (vs.take n) (ds.take n) := fun n => by
        induction n with
        | zero => exact fun _ => .nil
        | succ n ih =>
          intro vs ds h
          cases h with
          | nil => exact .nil
          | cons a t => exact .cons a (ih t)
      unfold cutV cutI
      rw [dpAll_len h]
      exact ht _ (hd _ h)
    ))) only [↓Pf.Gate.lem]
theorem cutI_all {α : Type} {ds : List α} (h : HT.sIx ds.length 0 lo = 0 ∧ HT.sIx ds.length ds.length hi = ds.length) : cutI ds lo hi = ds := by
  unfold cutI
  rw [h.1, h.2]
  simp
theorem h_slA (h : rSlA K v lo hi H R) : rSlA K v lo hi H R := h
theorem x_slA (S : Ds K C B σ H M ρ w tp) (ht : Tm tp v (.tuple ds)) (hc : cutI ds lo hi = es) (q : ∀ u H' M', Ds K C B σ H' M' ρ w ((u, .tuple es) :: tp) → R u H') : rSlA K v lo hi H R := by
  obtain ⟨p, xs, rfl, h1, h2⟩ := dp_tup (ht.dp S)
  have hl := dpAll_len h2
  refine ⟨p, xs, rfl, Same.seqT S.sub h1, fun hw => ?_, fun hw b hb => ?_⟩
  · rw [hl] at hw
    rw [cutI_all hw] at hc
    subst hc
    exact q _ H M (S.push (.tup h1 h2))
  · exact q _ _ _ (S.newT hb (hc ▸ dpAll_cut h2))
theorem h_slL (h : rSlL K v lo hi H R) : rSlL K v lo hi H R := h
/-- a list's slice: a new list -/
theorem x_slL (S : Ds K C B σ H M ρ w tp) (ht : Tm tp v (.list ds)) (hc : cutI ds lo hi = es) (q : ∀ p H', Ds K C B σ H' M ρ ((p, .lst es) :: w) tp → R (.ref p) H') : rSlL K v lo hi H R := by
  obtain ⟨p, xs, rfl, h1, h2⟩ := dp_lst (ht.dp S)
  exact ⟨p, xs, rfl, S.sub.seq h1, fun b hb => q b _ (S.newL hb (hc ▸ dpAll_cut h2))⟩
end
end Pf
namespace Pf
open PySem PySem.Spec PyProof.Rows L2
/-! in, not in, one by one -/
section
variable {K : PySem.W.Frag} {C : Fx} {B : Hp} {σ : L2.St} {H M : Hp} {ρ : List Sl} {w w' : Own} {tp : List (V × PyData)} {Q R : VK} {p a : Addr} {v x y : V}
variable {α : Type} [DecidableEq α] {f : α → PyData} {xs : List α} {c : α} {ns : List Int} {k k1 k2 k3 : Int} {ss : List Str} {s s1 s2 s3 : Str}
theorem y_inT (e : Enc f) (S : Ds K C B σ H M ρ w tp) (hx : Tm tp x (f c)) (hy : Tm tp y (.tuple (xs.map f))) (hd : (f c).depth ≤ 64) (q : R (.bl (decide (c ∈ xs))) H) : rInX K false x y H R := x_inXT e S hx hy hd q
theorem y_niT (e : Enc f) (S : Ds K C B σ H M ρ w tp) (hx : Tm tp x (f c)) (hy : Tm tp y (.tuple (xs.map f))) (hd : (f c).depth ≤ 64) (q : R (.bl (!decide (c ∈ xs))) H) : rInX K true x y H R := x_inXT e S hx hy hd q
theorem y_inL (e : Enc f) (S : Ds K C B σ H M ρ w tp) (hx : Tm tp x (f c)) (hy : Tm tp y (.list (xs.map f))) (hd : (f c).depth ≤ 64) (q : R (.bl (decide (c ∈ xs))) H) : rInX K false x y H R := x_inXL e S hx hy hd q
theorem y_niL (e : Enc f) (S : Ds K C B σ H M ρ w tp) (hx : Tm tp x (f c)) (hy : Tm tp y (.list (xs.map f))) (hd : (f c).depth ≤ 64) (q : R (.bl (!decide (c ∈ xs))) H) : rInX K true x y H R := x_inXL e S hx hy hd q
theorem y_inO (e : Enc f) (j : Nat) (S : Ds K C B σ H M ρ w tp) (hj : w[j]? = some (a, .lst (xs.map f))) (hx : Tm tp x (f c)) (hd : (f c).depth ≤ 64) (q : R (.bl (decide (c ∈ xs))) H) : rInX K false x (.ref a) H R := x_inXO e j S hj hx hd q
theorem y_niO (e : Enc f) (j : Nat) (S : Ds K C B σ H M ρ w tp) (hj : w[j]? = some (a, .lst (xs.map f))) (hx : Tm tp x (f c)) (hd : (f c).depth ≤ 64) (q : R (.bl (!decide (c ∈ xs))) H) : rInX K true x (.ref a) H R := x_inXO e j S hj hx hd q
theorem i_inT (S : Ds K C B σ H M ρ w tp) (ht : Tm tp y (.tuple (ns.map .int))) (q : R (.bl (decide (k ∈ ns))) H) : rIn K false (.int k) y H R := x_inIT S ht q
theorem i_niT (S : Ds K C B σ H M ρ w tp) (ht : Tm tp y (.tuple (ns.map .int))) (q : R (.bl (!decide (k ∈ ns))) H) : rIn K true (.int k) y H R := x_inIT S ht q
theorem i_inL (S : Ds K C B σ H M ρ w tp) (ht : Tm tp y (.list (ns.map .int))) (q : R (.bl (decide (k ∈ ns))) H) : rIn K false (.int k) y H R := x_inIL S ht q
theorem i_niL (S : Ds K C B σ H M ρ w tp) (ht : Tm tp y (.list (ns.map .int))) (q : R (.bl (!decide (k ∈ ns))) H) : rIn K true (.int k) y H R := x_inIL S ht q
theorem i_inO (j : Nat) (S : Ds K C B σ H M ρ w tp) (hj : w[j]? = some (p, .lst (ns.map .int))) (q : R (.bl (decide (k ∈ ns))) H) : rIn K false (.int k) (.ref p) H R := x_inIO j S hj q
theorem i_niO (j : Nat) (S : Ds K C B σ H M ρ w tp) (hj : w[j]? = some (p, .lst (ns.map .int))) (q : R (.bl (!decide (k ∈ ns))) H) : rIn K true (.int k) (.ref p) H R := x_inIO j S hj q
theorem s_inT (S : Ds K C B σ H M ρ w tp) (ht : Tm tp y (.tuple (ss.map .str))) (q : R (.bl (decide (s ∈ ss))) H) : rIn K false (.str s) y H R := x_inST S ht q
theorem s_in2 (S : Ds K C B σ H M ρ w tp) (ht : Tm tp y (.tuple [.str s1, .str s2])) (q : R (.bl (decide (s ∈ [s1, s2]))) H) : rIn K false (.str s) y H R := x_inST (ns := [s1, s2]) S ht q
theorem s_ni2 (S : Ds K C B σ H M ρ w tp) (ht : Tm tp y (.tuple [.str s1, .str s2])) (q : R (.bl (!decide (s ∈ [s1, s2]))) H) : rIn K true (.str s) y H R := x_inST (ns := [s1, s2]) S ht q
theorem s_in3 (S : Ds K C B σ H M ρ w tp) (ht : Tm tp y (.tuple [.str s1, .str s2, .str s3])) (q : R (.bl (decide (s ∈ [s1, s2, s3]))) H) : rIn K false (.str s) y H R := x_inST (ns := [s1, s2, s3]) S ht q
theorem i_in1 (S : Ds K C B σ H M ρ w tp) (ht : Tm tp y (.tuple [.int k1])) (q : R (.bl (decide (k ∈ [k1]))) H) : rIn K false (.int k) y H R := x_inIT (ns := [k1]) S ht q
theorem i_in2 (S : Ds K C B σ H M ρ w tp) (ht : Tm tp y (.tuple [.int k1, .int k2])) (q : R (.bl (decide (k ∈ [k1, k2]))) H) : rIn K false (.int k) y H R := x_inIT (ns := [k1, k2]) S ht q
theorem i_ni2 (S : Ds K C B σ H M ρ w tp) (ht : Tm tp y (.tuple [.int k1, .int k2])) (q : R (.bl (!decide (k ∈ [k1, k2]))) H) : rIn K true (.int k) y H R := x_inIT (ns := [k1, k2]) S ht q
theorem i_in3 (S : Ds K C B σ H M ρ w tp) (ht : Tm tp y (.tuple [.int k1, .int k2, .int k3])) (q : R (.bl (decide (k ∈ [k1, k2, k3]))) H) : rIn K false (.int k) y H R := x_inIT (ns := [k1, k2, k3]) S ht q
end
end Pf
namespace Pf
open PySem PySem.Spec PyProof.Rows L2
/-! comprehensions -/
/-- what a turn reaches: the new list at D holds acc -/
def LcN (K : PySem.W.Frag) (C : Fx) (B : Hp) (I : Nat → List PyData → Own → Prop) (σ : L2.St) (ρ : List Sl) (D : Addr) (i : Nat) : Hp → Prop := fun H => ∃ M acc w, I i acc w ∧ Ds K C B σ H M ρ ((D, .lst acc) :: w) []
def LcA (N : Hp → Prop) (D : Addr) (y : V) (H4 : Hp) : Prop := ∃ acc, H4 D = some (.lst acc) ∧ acc.length < sizeLine ∧ N (upd H4 D (.lst (acc ++ [y])))
/-- a comprehension behind its iterable -/
def LcB (g : TG) (tt : TT) (te : TE) (vs : List Nat) (Q : VK) (σ : L2.St) (J : It) (H1 : Hp) : Prop := ∀ D, H1 D = none → ∃ W : Nat → Nat → Hp → Prop, (∃ m, W 0 m (upd H1 D (.lst []))) ∧ ∀ i m H, W i m H →
  (J.stop i H ∧ Q (.ref D) H) ∨ (J.go i H ∧ ∃ N : Hp → Prop, (∀ H', N H' → ∃ m', m' < m ∧ W (i + 1) m' H') ∧ ∀ x H', J.yld i H x H' → g x (wipe σ vs) H' fun σ2 H2 => wipe σ2 vs = wipe σ vs ∧ tt σ2 H2 fun b H3 =>
    if b = true then te σ2 H3 (LcA N D) else N H3)
section
variable {K : PySem.W.Frag} {C : Fx} {B : Hp} {σ : L2.St} {H M H' M' : Hp} {ρ ρ' ρ2 : List Sl} {w w' : Own} {tp : List (V × PyData)} {Q : VK} {te : TE} {tt : TT} {tl : TA} {g : TG} {v y : V} {ds acc : List PyData} {e : PyData} {D p : Addr} {a : Int} {vs : List Nat} {k : Nat} {i : Nat} {I : Nat → List PyData → Own → Prop}
theorem x_lcT (h : te σ H fun x H1 => ForT K (LcB g tt tb vs Q σ) x H1) : tLc (iTup K te) g tt tb vs σ H Q := h
theorem x_lcL (h : te σ H fun x H1 => ForL K (LcB g tt tb vs Q σ) x H1) : tLc (iList K te) g tt tb vs σ H Q := h
theorem x_lcR (h : tl σ H fun x H1 => ForR (LcB g tt tb vs Q σ) x H1) : tLc (iRng1 tl) g tt tb vs σ H Q := h
theorem x_lcR2 (h : tl σ H fun x H1 => ForR2 (LcB g tt tb vs Q σ) x H1) : tLc (iRng2 tl) g tt tb vs σ H Q := h
theorem x_yes {q : Bool → Hp → Prop} (h : q true H) : tYes σ H q := h
/-- the state within the block: the slots of its own wiped -/
theorem Ds.wiped (S : Ds K C B σ H M ρ w tp) : ∀ vs : List Nat, Ds K C B (wipe σ vs) H M (vs.foldr (fun k r => r.set k .u) ρ) w tp
  | [] => S
  | k :: vs => by
    have S1 := Ds.wiped S vs
    have h : ∀ {σ : L2.St} {ρ : List Sl}, Ds K C B σ H M ρ w tp → Ds K C B (σ.set k none) H M (ρ.set k .u) w tp := fun {σ ρ} S => by
      refine { S with ln := by rw [List.length_set, List.length_set]; exact S.ln, sl := fun j s hj => ?_ }
      by_cases q : j = k
      · subst q
        have lt : j < ρ.length := by
          have := (List.getElem?_eq_some_iff.mp hj).1
          rwa [List.length_set] at this
        rw [List.getElem?_set_self lt] at hj
        cases hj
        exact .inl rfl
      · rw [List.getElem?_set_ne (Ne.symm q)] at hj ⊢
        exact S.sl j s hj
    exact h S1
/-- from a turn's state back to the block's -/
def Rew (K : PySem.W.Frag) (C : Fx) (B : Hp) (σ1 : L2.St) (ρ1 : List Sl) (σ0 : L2.St) (ρ0 : List Sl) : Prop := ∀ {H M : Hp} {w : Own} {tp : List (V × PyData)}, Ds K C B σ1 H M ρ1 w tp → Ds K C B σ0 H M ρ0 w []
theorem x_lcA {σ0 : L2.St} (S : Ds K C B σ H M ρ ((D, .lst acc) :: w) tp) (hr : Rew K C B σ ρ σ0 ρ2) (ht : Tm tp y e) (hl : acc.length < sizeLine) (hI : I (i + 1) (acc ++ [e]) w) : LcA (LcN K C B I σ0 ρ2 D (i + 1)) D y H := by
  obtain ⟨_, us, h1, h2⟩ := S.own _ (List.mem_cons_self ..)
  exact ⟨us, h1, by rw [dpAll_len h2]; exact hl, M, acc ++ [e], w, hI, hr (S.mut (j := 0) (od' := .lst (acc ++ [e])) rfl ⟨_, upd_same, dpAll_app h2 (.cons (ht.dp S) .nil)⟩)⟩
theorem x_lcN {σ0 : L2.St} (S : Ds K C B σ H M ρ ((D, .lst acc) :: w) tp) (hr : Rew K C B σ ρ σ0 ρ2) (hI : I (i + 1) acc w) : LcN K C B I σ0 ρ2 D (i + 1) H := ⟨M, acc, w, hI, hr S⟩
/-- out of the block: the slots as they were ahead of it -/
theorem Ds.outof {σ1 : L2.St} {ρ1 : List Sl} {H1 M1 : Hp} {w1 : Own} (S : Ds K C B σ H M ρ w tp) (S1 : Ds K C M σ1 H1 M1 ρ1 w1 []) : Ds K C B σ H1 M1 ρ w1 tp where
  ln := S.ln
  sl := fun i s h => (S.sl i s h).imp id fun ⟨v, a, b⟩ => ⟨v, a, b.same S1.bs⟩
  tm := fun p h => Dp.same S1.bs (S.tm p h)
  own := S1.own
  nd := S1.nd
  F := S1.F
  ow := S1.ow
  bs := S.bs.trans S1.bs
theorem wipe1 {x : V} : wipe ((wipe σ [k]).set k (some x)) [k] = wipe σ [k] := by
  show ((σ.set k none).set k (some x)).set k none = σ.set k none
  rw [List.set_set, List.set_set]
theorem rew1 {B : Hp} {x : V} {s : Sl} : Rew K C B ((wipe σ [k]).set k (some x)) (ρ.set k s) (wipe σ [k]) (ρ.set k .u) := fun S => by
  have S1 := S.clr.wiped [k]
  rw [wipe1] at S1
  have h : (ρ.set k s).set k .u = ρ.set k .u := List.set_set ..
  exact h ▸ S1
/-- over a tuple, one name -/
theorem x_lc1T (I : Nat → List PyData → Own → Prop) (S : Ds K C B σ H M ρ w tp) (ht : Tm tp v (.tuple ds)) (h0 : I 0 [] w)
    (hs : ∀ i d acc w1, ds[i]? = some d → I i acc w1 → ∀ D σ1 H1 M1, Rew K C M σ1 (ρ.set k (.d d)) (wipe σ [k]) (ρ.set k .u) → Ds K C M σ1 H1 M1 (ρ.set k (.d d)) ((D, .lst acc) :: w1) [] → tt σ1 H1 fun b H3 => if b = true then te σ1 H3 (LcA (LcN K C M I (wipe σ [k]) (ρ.set k .u) D (i + 1)) D) else LcN K C M I (wipe σ [k]) (ρ.set k .u) D (i + 1) H3)
    (hd : ∀ acc w1, I ds.length acc w1 → ∀ D H1 M1, Ds K C B σ H1 M1 ρ ((D, .lst acc) :: w1) tp → Q (.ref D) H1) : ForT K (LcB (gName k) tt te [k] Q σ) v H := by
  refine Pf.Gate.out ?_
  simp (disch := (with_unfolding_all (
      obtain ⟨p, xs, rfl, h1, h2⟩ := dp_tup (ht.dp S)
      refine ⟨p, rfl, ⟨xs, Same.seqT S.sub h1⟩, fun D hD => lc_tup (xs := xs) (LcN K C M I (wipe σ [k]) (ρ.set k .u) D) ?_ (fun i H1 _ q => ?_) (fun i x H1 hx q => ?_) (fun H1 q => ?_)⟩
      · exact ⟨M, [], w, h0, (S.base.clr.wiped [k]).newL hD .nil⟩
      · obtain ⟨M1, acc, w1, _, S1⟩ := q
        exact Same.seqT (S1.bs.trans S1.sub) h1
      · obtain ⟨M1, acc, w1, q, S1⟩ := q
        have hi : i < ds.length := by rw [← dpAll_len h2]; exact (List.getElem?_eq_some_iff.mp hx).1
        have e := List.getElem?_eq_getElem hi
        have d1 : Dp K M1 x ds[i] := Dp.same S1.bs (dpAll_at h2 i x _ hx e)
        have S2 := S1.set (i := k) (v := x) (s := .d ds[i]) d1
        rw [List.set_set] at S2
        exact ⟨wipe1, hs i _ acc w1 e q D _ H1 M1 rew1 S2⟩
      · obtain ⟨M1, acc, w1, q, S1⟩ := q
        exact hd acc w1 (dpAll_len h2 ▸ q) D H1 M1 (S.outof S1)
    ))) only [↓Pf.Gate.lem]
theorem x_lc1L (I : Nat → List PyData → Own → Prop) (S : Ds K C B σ H M ρ w tp) (ht : Tm tp v (.list ds)) (h0 : I 0 [] w)
    (hs : ∀ i d acc w1, ds[i]? = some d → I i acc w1 → ∀ D σ1 H1 M1, Rew K C M σ1 (ρ.set k (.d d)) (wipe σ [k]) (ρ.set k .u) → Ds K C M σ1 H1 M1 (ρ.set k (.d d)) ((D, .lst acc) :: w1) [] → tt σ1 H1 fun b H3 => if b = true then te σ1 H3 (LcA (LcN K C M I (wipe σ [k]) (ρ.set k .u) D (i + 1)) D) else LcN K C M I (wipe σ [k]) (ρ.set k .u) D (i + 1) H3)
    (hd : ∀ acc w1, I ds.length acc w1 → ∀ D H1 M1, Ds K C B σ H1 M1 ρ ((D, .lst acc) :: w1) tp → Q (.ref D) H1) : ForL K (LcB (gName k) tt te [k] Q σ) v H := by
  refine Pf.Gate.out ?_
  simp (disch := (with_unfolding_all (
      obtain ⟨p, xs, rfl, h1, h2⟩ := dp_lst (ht.dp S)
      refine ⟨p, rfl, ⟨xs, S.sub.seq h1⟩, fun D hD => lc_list (xs := xs) (LcN K C M I (wipe σ [k]) (ρ.set k .u) D) ?_ (fun i H1 _ q => ?_) (fun i x H1 hx q => ?_) (fun H1 q => ?_)⟩
      · exact ⟨M, [], w, h0, (S.base.clr.wiped [k]).newL hD .nil⟩
      · obtain ⟨M1, acc, w1, _, S1⟩ := q
        exact (S1.bs.trans S1.sub).seq h1
      · obtain ⟨M1, acc, w1, q, S1⟩ := q
        have hi : i < ds.length := by rw [← dpAll_len h2]; exact (List.getElem?_eq_some_iff.mp hx).1
        have e := List.getElem?_eq_getElem hi
        have d1 : Dp K M1 x ds[i] := Dp.same S1.bs (dpAll_at h2 i x _ hx e)
        have S2 := S1.set (i := k) (v := x) (s := .d ds[i]) d1
        rw [List.set_set] at S2
        exact ⟨wipe1, hs i _ acc w1 e q D _ H1 M1 rew1 S2⟩
      · obtain ⟨M1, acc, w1, q, S1⟩ := q
        exact hd acc w1 (dpAll_len h2 ▸ q) D H1 M1 (S.outof S1)
    ))) only [↓Pf.Gate.lem]
theorem x_lc1R (I : Nat → List PyData → Own → Prop) (S : Ds K C B σ H M ρ w tp) (b1 : -(2 ^ 62) ≤ a) (b2 : a < 2 ^ 62) (h0 : I 0 [] w)
    (hs : ∀ (i : Nat) acc w1, i < a.toNat → I i acc w1 → ∀ D σ1 H1 M1, Rew K C M σ1 (ρ.set k (.d (.int i))) (wipe σ [k]) (ρ.set k .u) → Ds K C M σ1 H1 M1 (ρ.set k (.d (.int i))) ((D, .lst acc) :: w1) [] → tt σ1 H1 fun b H3 => if b = true then te σ1 H3 (LcA (LcN K C M I (wipe σ [k]) (ρ.set k .u) D (i + 1)) D) else LcN K C M I (wipe σ [k]) (ρ.set k .u) D (i + 1) H3)
    (hd : ∀ acc w1, I a.toNat acc w1 → ∀ D H1 M1, Ds K C B σ H1 M1 ρ ((D, .lst acc) :: w1) tp → Q (.ref D) H1) : ForR (LcB (gName k) tt te [k] Q σ) [.int a] H := by
  refine ⟨a, rfl, b1, b2, fun D hD => lc_range (lo := 0) (n := a.toNat) (LcN K C M I (wipe σ [k]) (ρ.set k .u) D) ?_ (fun i H1 hi q => ?_) (fun H1 q => ?_)⟩
  · exact ⟨M, [], w, h0, (S.base.clr.wiped [k]).newL hD .nil⟩
  · obtain ⟨M1, acc, w1, q, S1⟩ := q
    rw [Int.zero_add]
    have S2 := S1.set (i := k) (v := .int i) (s := .d (.int i)) (.int _)
    rw [List.set_set] at S2
    exact ⟨wipe1, hs i acc w1 hi q D _ H1 M1 rew1 S2⟩
  · obtain ⟨M1, acc, w1, q, S1⟩ := q
    exact hd acc w1 q D H1 M1 (S.outof S1)
end
end Pf
namespace Pf
open PySem PySem.Spec PyProof.Rows L2
/-! isinstance -/
section
variable {K : PySem.W.Frag} {C : Fx} {B : Hp} {σ : L2.St} {H M : Hp} {ρ : List Sl} {w w' : Own} {tp : List (V × PyData)} {Q R : VK} {v : V} {b : Bool} {T : String} {vs : List V} {ds : List PyData} {c : Bool} {i : Int} {s : Str}
theorem h_isi (h : rIsi K vs H R) : rIsi K vs H R := h
theorem x_isiB (k : kitB "bool" T = some b) (q : R (.bl b) H) : rIsi K [.bl c, .ty T] H R := ⟨.bl c, .ty T, _, _, b, rfl, .ty _, .base (.bl c), kit_ty k, q⟩
theorem x_isiI (k : kitB "int" T = some b) (q : R (.bl b) H) : rIsi K [.int i, .ty T] H R := ⟨.int i, .ty T, _, _, b, rfl, .ty _, .base (.int i), kit_ty k, q⟩
theorem x_isiS (k : kitB "str" T = some b) (q : R (.bl b) H) : rIsi K [.str s, .ty T] H R := ⟨.str s, .ty T, _, _, b, rfl, .ty _, .base (.str s), kit_ty k, q⟩
theorem x_isiN (k : kitB "NoneType" T = some b) (q : R (.bl b) H) : rIsi K [.non, .ty T] H R := ⟨.non, .ty T, _, _, b, rfl, .ty _, .base .non, kit_ty k, q⟩
theorem x_isiT (S : Ds K C B σ H M ρ w tp) (ht : Tm tp v (.tuple ds)) (k : kitB "tuple" T = some b) (q : R (.bl b) H) : rIsi K [v, .ty T] H R := by
  obtain ⟨p, xs, rfl, h1, h2⟩ := dp_tup (ht.dp S)
  exact ⟨.ref p, .ty T, _, _, b, rfl, .ty _, tyT (Same.seqT S.sub h1), kit_ty k, q⟩
end
end Pf
namespace Pf
open PySem PySem.Spec PyProof.Rows L2
/-! the law -/
def spLaw (K : PySem.W.Frag) : Sp := fun vs H Q _ => ∃ (a : Addr) (ns : List Int), vs = [.ref a] ∧ SqL K H a (ns.map V.int) ∧ ns.length ≤ 63 ∧ ∀ H', Q (.bl true) H'
section
variable {P : Program} {w : World} {K : PySem.W.Frag} {mg : Str → Option Value} {base : Heap}
theorem law_go {x qual : Str} {st : Stmt} {f : Addr} {fd : FuncData} {N : List Str} {k : Nat} (F : Fun K x qual st f fd) (S : FnScope N ["script"] (defScope st))
    (hbody : ∀ (cdv : Value) (A : Around) (outer : List Env) (s : Shared) (H : Hp) (vs : List V) (Q : VK) (E : XK) (ns : List Int), Room k (A.deeper (envOfC qual (defScope st) s.heap.objs.size f cdv)) → ns.length ≤ 63 →
      Ds K ⟨H, H, []⟩ H (L2.start N vs) H H ([.d (.list (ns.map .int))] ++ List.replicate (N.length - [Sl.d (.list (ns.map .int))].length) .u) [] [] → (∀ H', Q (.bl true) H') →
      ∃ t, PSs (cxOf CX0 P w K mg base N qual (defScope st) f cdv A outer s H E).nox (defBody st) t ∧ t { nx := fun _ H' => Q .non H', rt := Q } (L2.start N vs) H) : FnOk P w K mg base CX0 (k + 1) f fd ["script"] (spLaw K) := by
  refine F.ok S (fun vs H Q E h => ?_) (fun cdv A outer s H vs Q E hr h => ?_)
  · obtain ⟨a, ns, rfl, _⟩ := h
    rfl
  · obtain ⟨a, ns, rfl, hS, h63, q⟩ := h
    have hs : ∀ ns : List Int, DpAll K H (ns.map V.int) (ns.map PyData.int) := fun ns => by
      induction ns with
      | nil => exact .nil
      | cons n ns ih => exact .cons (.int n) ih
    exact hbody cdv A outer s H _ Q E ns hr h63 (Ds.init (w := []) (Same.refl _) (.cons (Dp.lst hS (hs ns)) .nil) (fun _ h => nomatch h) List.nodup_nil) q
end
/-! a plain tuple of a list -/
def rTupF (K : PySem.W.Frag) : List V → Hp → VK → Prop := fun xs H Q => ∃ p ys, xs = [.ref p] ∧ SqL K H p ys ∧ ∀ l o, H l = none → PlainT o → Q (.ref l) (upd H l (.frz o (.tup ys)))
theorem call_tupFD {X : Cx} {K : PySem.W.Frag} (h : X.K = K := by rfl) : CallR X (.type "tuple") (rTupF K) := by
  subst h
  exact call_tupleF
section
variable {K : PySem.W.Frag} {C : Fx} {B : Hp} {σ : L2.St} {H M : Hp} {ρ : List Sl} {w w' : Own} {tp : List (V × PyData)} {Q R : VK} {v : V} {ds : List PyData} {p : Addr}
theorem h_tupF {vs : List V} (h : rTupF K vs H R) : rTupF K vs H R := h
theorem Ds.newF {p : Addr} {o : Obj} {vs : List V} (S : Ds K C B σ H M ρ w tp) (hp : H p = none) (hv : DpAll K M vs ds) : Ds K C B σ (upd H p (.frz o (.tup vs))) (upd M p (.frz o (.tup vs))) ρ w ((.ref p, .tuple ds) :: tp) := by
  refine Pf.Gate.out ?_
  simp (disch := (with_unfolding_all (
      have hm : M p = none := S.sub.free hp
      have e := Same.new (.frz o (.tup vs)) hm
      refine (S.pure ⟨fun b u _ h => Same.new _ hp b u h, fun b h => ?_, e, fun b u h => ?_, fun b h1 h2 => ?_⟩).push (.tup (.inl (.inr ⟨o, upd_same⟩)) (DpAll.same e hv))
      · by_cases q : b = p
        · rw [q, upd_same]
          exact fun z => nomatch z
        · rw [upd_ne q]
          exact h
      · by_cases q : b = p
        · rw [q, upd_same] at h
          rw [q, upd_same]
          exact h
        · rw [upd_ne q] at h
          rw [upd_ne q]
          exact S.sub b u h
      · rw [upd_ne (fun q => h2 (by rw [q]; exact hp))]
        exact h1
    ))) only [↓Pf.Gate.lem]
theorem x_tupFL (S : Ds K C B σ H M ρ w tp) (ht : Tm tp v (.list ds)) (q : ∀ l H' M', FzT K M' l → Ds K C B σ H' M' ρ w ((.ref l, .tuple ds) :: tp) → R (.ref l) H') : rTupF K [v] H R := by
  obtain ⟨p, xs, rfl, h1, h2⟩ := dp_lst (ht.dp S)
  exact ⟨p, xs, rfl, S.sub.seq h1, fun l o hl ho => q l _ _ (.inl ⟨o, _, upd_same, ho⟩) (S.newF hl h2)⟩
/-- an own list in a slot is data from now on -/
theorem Ds.frozen {i : Nat} (S : Ds K C B σ H M ρ ((p, .lst ds) :: w) tp) (hi : ρ[i]? = some (.v (.ref p))) (hO : p ∉ C.O) : ∃ M', Ds K C B σ H M' (ρ.set i (.d (.list ds))) w [] := by
  obtain ⟨v, h1, h2⟩ := S.get hi (fun z => nomatch z)
  cases (show v = .ref p from h2)
  obtain ⟨M', S'⟩ := S.freeze hO
  exact ⟨M', S'.clr.slot h1 (S'.tm (.ref p, .list ds) (List.mem_cons_self ..))⟩
end
end Pf
namespace Pf
open PySem PySem.Spec PyProof.Rows L2
/-! a list or a tuple that is walked -/
def iSeq (K : PySem.W.Frag) (te : TE) : TI := fun σ H R => iList K te σ H R ∨ iTup K te σ H R
theorem pi_seqD {X : Cx} {tg l : Expr} {tl : TE} {K : PySem.W.Frag} (hl : PE X l tl) (h : X.K = K := by rfl) : PI X tg l (iSeq K tl) := by
  subst h
  exact ⟨fun pins s σ H R I q => q.elim ((pi_list hl).run pins s σ H R I) ((pi_tup hl).run pins s σ H R I)⟩
section
variable {K : PySem.W.Frag} {σ : L2.St} {H : Hp} {Q : VK} {te : TE} {tt : TT} {g : TG} {t : TS} {tb : TE} {vs : List Nat} {D : Ends}
theorem x_fSL (h : tFor (iList K te) g t D σ H) : tFor (iSeq K te) g t D σ H := .inl h
theorem x_fST (h : tFor (iTup K te) g t D σ H) : tFor (iSeq K te) g t D σ H := .inr h
theorem x_lcSL (h : tLc (iList K te) g tt tb vs σ H Q) : tLc (iSeq K te) g tt tb vs σ H Q := .inl h
theorem x_lcST (h : tLc (iTup K te) g tt tb vs σ H Q) : tLc (iSeq K te) g tt tb vs σ H Q := .inr h
end
/-- a list's or a tuple's data -/
def seqD : Bool → List PyData → PyData
  | true, ds => .tuple ds
  | false, ds => .list ds
end Pf

namespace Pf
open PySem PySem.Spec PyProof.Rows L2
/-! further data rules: own lists put together, a list or a tuple of a slot -/
section
variable {K : PySem.W.Frag} {C : Fx} {B : Hp} {σ : L2.St} {H M H' M' : Hp} {ρ ρ' : List Sl} {w w' : Own} {tp : List (V × PyData)} {Q R : VK} {D : Ends} {te : TE} {tb : TS} {g : TG} {v : V} {ds es : List PyData} {p q : Addr} {b : Bool} {i : Nat}
theorem Ds.subw (S : Ds K C B σ H M ρ w tp) (h : w'.Sublist w) : Ds K C B σ H M ρ w' tp :=
  { S with own := fun p hp => S.own p (h.subset hp), nd := (h.map (·.1)).nodup S.nd, ow := fun p hp => S.ow p (h.subset hp) }
theorem Ds.perm (S : Ds K C B σ H M ρ w tp) (h : w'.Perm w) : Ds K C B σ H M ρ w' tp :=
  { S with own := fun p hp => S.own p (h.mem_iff.mp hp), nd := (h.map (·.1)).nodup_iff.mpr S.nd, ow := fun p hp => S.ow p (h.mem_iff.mp hp) }
theorem dpAll_cat : ∀ {vs us : List V} {ds es : List PyData}, DpAll K M vs ds → DpAll K M us es → DpAll K M (vs ++ us) (ds ++ es)
  | _, _, _, _, .nil, h => h
  | _, _, _, _, .cons a t, h => .cons a (dpAll_cat t h)
theorem x_cat (j k : Nat) (S : Ds K C B σ H M ρ w tp) (hj : w[j]? = some (p, .lst ds)) (hk : w[k]? = some (q, .lst es)) (hl : ds.length + es.length ≤ sizeLine)
    (z : ∀ a H', Ds K C B σ H' M ρ ((a, .lst (ds ++ es)) :: w) tp → R (.ref a) H') : rCat (.ref p) (.ref q) H R := by
  obtain ⟨_, xs, h1, h2⟩ := S.own _ (List.mem_of_getElem? hj)
  obtain ⟨_, ys, h3, h4⟩ := S.own _ (List.mem_of_getElem? hk)
  exact ⟨p, q, xs, ys, rfl, rfl, h1, h3, by rw [dpAll_len h2, dpAll_len h4]; exact hl, fun a ha => z a _ (S.newL ha (dpAll_cat h2 h4))⟩
theorem h_lsOf {vs : List V} (h : rLstOf K vs H R) : rLstOf K vs H R := h
theorem x_lsS (S : Ds K C B σ H M ρ w tp) (ht : Tm tp v (seqD b ds)) (q : ∀ l H', Ds K C B σ H' M ρ ((l, .lst ds) :: w) tp → R (.ref l) H') : rLstOf K [v] H R := by
  cases b with
  | true => exact x_lsT S ht q
  | false => exact x_lsL S ht q
theorem x_forSV (I : Nat → List Sl → Own → Prop) (S : Ds K C B σ H M ρ w tp) (hi : ρ[i]? = some (.d (seqD b ds))) (h0 : I 0 ρ w)
    (hs : ∀ i d ρ1 w1, ds[i]? = some d → I i ρ1 w1 → ∀ u σ1 H1 M1, Ds K C M σ1 H1 M1 ρ1 w1 [(u, d)] → g u σ1 H1 fun σ2 H2 => tb { D with nx := Nx K C M I (i + 1), ct := Nx K C M I (i + 1), bk := D.nx } σ2 H2)
    (hd : ∀ ρ1 w1, I ds.length ρ1 w1 → ∀ σ1 H1 M1, Ds K C B σ1 H1 M1 ρ1 w1 [] → D.nx σ1 H1) : tFor (iSeq K (tVar i)) g tb D σ H := by
  cases b with
  | true => exact x_fST (x_fT (x_var S hi (x_gP S fun v S => x_forT I S (.m (List.mem_cons_self ..)) h0 hs hd)))
  | false => exact x_fSL (x_fL (x_var S hi (x_gP S fun v S => x_forL I S (.m (List.mem_cons_self ..)) h0 hs hd)))
end
end Pf
namespace Pf
open PySem PySem.Spec PyProof.Rows L2
/-! lists and tuples of such data are such data -/
section
variable {α : Type} [DecidableEq α] {f : α → PyData}
theorem Enc.eqs (e : Enc f) : ∀ xs ys : List α, PyData.eqv (.list (xs.map f)) (.list (ys.map f)) = decide (xs = ys)
  | [], [] => by
    show true = _
    exact (decide_eq_true rfl).symm
  | [], _ :: _ => by rfl
  | _ :: _, [] => by rfl
  | x :: xs, y :: ys => by
    show (PyData.eqv (f x) (f y) && PyData.eqv (.list (xs.map f)) (.list (ys.map f))) = _
    rw [e.eq, eqs e xs ys]
    simp
theorem Enc.eqt (e : Enc f) : ∀ xs ys : List α, PyData.eqv (.tuple (xs.map f)) (.tuple (ys.map f)) = decide (xs = ys)
  | [], [] => by
    show true = _
    exact (decide_eq_true rfl).symm
  | [], _ :: _ => by rfl
  | _ :: _, [] => by rfl
  | x :: xs, y :: ys => by
    show (PyData.eqv (f x) (f y) && PyData.eqv (.tuple (xs.map f)) (.tuple (ys.map f))) = _
    rw [e.eq, eqt e xs ys]
    simp
theorem Enc.list (e : Enc f) : Enc (fun xs : List α => PyData.list (xs.map f)) := ⟨e.eqs, e.layAll⟩
theorem Enc.tuple (e : Enc f) : Enc (fun xs : List α => PyData.tuple (xs.map f)) := ⟨e.eqt, e.layAll⟩
theorem Enc.int : Enc PyData.int := ⟨fun a b => by
  show (a == b) = _
  rw [Bool.eq_iff_iff]
  simp, fun _ => rfl⟩
theorem depth_all {n : Nat} : ∀ {xs : List α}, (∀ x ∈ xs, (f x).depth ≤ n) → PyData.depthAll (xs.map f) ≤ n
  | [], _ => Nat.zero_le _
  | x :: xs, h => by
    have h1 := h x (List.mem_cons_self ..)
    have h2 := depth_all fun y hy => h y (List.mem_cons_of_mem _ hy)
    show max (f x).depth (PyData.depthAll (xs.map f)) ≤ n
    omega
theorem depth_list {n : Nat} {xs : List α} (h : ∀ x ∈ xs, (f x).depth ≤ n) : (PyData.list (xs.map f)).depth ≤ n + 1 := Nat.succ_le_succ (depth_all h)
theorem depth_tuple {n : Nat} {xs : List α} (h : ∀ x ∈ xs, (f x).depth ≤ n) : (PyData.tuple (xs.map f)).depth ≤ n + 1 := Nat.succ_le_succ (depth_all h)
end
end Pf

namespace Pf
open PySem PySem.Spec PyProof.Rows L2
/-! while, pop, extend, any and all, comprehensions with two names -/
theorem fold_get {α : Type} (a : α) : ∀ (vs : List Nat) (l : List α) (j : Nat), (vs.foldr (fun k r => r.set k a) l)[j]? = if j ∈ vs then (l[j]?).map (fun _ => a) else l[j]?
  | [], l, j => by simp
  | v :: vs, l, j => by
    show ((vs.foldr (fun k r => r.set k a) l).set v a)[j]? = _
    rw [List.getElem?_set]
    have ih := fold_get a vs l
    have hl : (vs.foldr (fun k r => r.set k a) l).length = l.length := by
      clear ih
      induction vs with
      | nil => rfl
      | cons v vs ih => show ((vs.foldr (fun k r => r.set k a) l).set v a).length = _; rw [List.length_set, ih]
    by_cases e : v = j
    · subst e
      rw [if_pos rfl, if_pos (List.mem_cons_self ..), hl]
      by_cases h : v < l.length
      · rw [if_pos h, List.getElem?_eq_getElem h]
        rfl
      · rw [if_neg h, List.getElem?_eq_none (by omega)]
        rfl
    · rw [if_neg e, ih]
      have : (j ∈ v :: vs) ↔ j ∈ vs := by
        rw [List.mem_cons]
        exact ⟨fun z => z.resolve_left fun q => e q.symm, .inr⟩
      by_cases h : j ∈ vs
      · rw [if_pos h, if_pos (this.mpr h)]
      · rw [if_neg h, if_neg fun z => h (this.mp z)]
theorem fold_set {α : Type} {a x : α} {vs : List Nat} {k : Nat} {l : List α} (h : k ∈ vs) : vs.foldr (fun k r => r.set k a) (l.set k x) = vs.foldr (fun k r => r.set k a) l := by
  refine Pf.Gate.out ?_
  simp (disch := (with_unfolding_all (
      apply List.ext_getElem?
      intro j
      rw [fold_get, fold_get]
      by_cases e : j ∈ vs
      · rw [if_pos e, if_pos e, List.getElem?_set]
        by_cases q : k = j
        · subst q
          rw [if_pos rfl]
          by_cases h2 : k < l.length
          · rw [if_pos h2, List.getElem?_eq_getElem h2]
            rfl
          · rw [if_neg h2, List.getElem?_eq_none (by omega)]
        · rw [if_neg q]
      · rw [if_neg e, if_neg e, List.getElem?_set_ne (fun (q : k = j) => e (q ▸ h))]
    ))) only [↓Pf.Gate.lem]
theorem fold_fold {α : Type} {a : α} {vs : List Nat} {l : List α} : vs.foldr (fun k r => r.set k a) (vs.foldr (fun k r => r.set k a) l) = vs.foldr (fun k r => r.set k a) l := by
  apply List.ext_getElem?
  intro j
  rw [fold_get, fold_get]
  by_cases e : j ∈ vs
  · rw [if_pos e, if_pos e, Option.map_map]
    rfl
  · rw [if_neg e, if_neg e]
theorem wipe_fold {σ : L2.St} : ∀ vs : List Nat, wipe σ vs = vs.foldr (fun k r => r.set k none) σ
  | [] => rfl
  | v :: vs => by
    show (wipe σ vs).set v none = (vs.foldr (fun k r => r.set k none) σ).set v none
    rw [wipe_fold vs]
/-- the own names of a block know nothing -/
def uset (vs : List Nat) (ρ : List Sl) : List Sl := vs.foldr (fun k r => r.set k .u) ρ
def WhB (K : PySem.W.Frag) (C : Fx) (B : Hp) (I : Nat → List Sl → Own → Prop) (m : Nat) (tb : TS) (D : Ends) (σ1 : L2.St) (b : Bool) (H1 : Hp) : Prop :=
  if b = true then ∃ N : L2.St → Hp → Prop, (∀ σ' H', N σ' H' → ∃ m', m' < m ∧ ∃ M ρ w, I m' ρ w ∧ Ds K C B σ' H' M ρ w []) ∧ tb { D with nx := N, ct := N, bk := D.nx } σ1 H1 else D.nx σ1 H1
/-- what a turn of a while reaches -/
def Wx (K : PySem.W.Frag) (C : Fx) (B : Hp) (I : Nat → List Sl → Own → Prop) (m : Nat) : L2.St → Hp → Prop := fun σ' H' => ∃ m', m' < m ∧ ∃ M ρ w, I m' ρ w ∧ Ds K C B σ' H' M ρ w []
section
variable {K : PySem.W.Frag} {C : Fx} {B : Hp} {σ : L2.St} {H M H' M' : Hp} {ρ ρ' ρ2 : List Sl} {w w' : Own} {tp : List (V × PyData)} {Q R : VK} {D : Ends} {te : TE} {tt : TT} {tb : TS} {g : TG} {v y : V} {ds es acc : List PyData} {d : PyData} {p q : Addr} {b : Bool} {i m m' : Nat} {I : Nat → List Sl → Own → Prop} {vs : List Nat}
theorem x_while (I : Nat → List Sl → Own → Prop) (m : Nat) (S : Ds K C B σ H M ρ w tp) (h0 : I m ρ w)
    (hs : ∀ m ρ1 w1, I m ρ1 w1 → ∀ σ1 H1 M1, Ds K C B σ1 H1 M1 ρ1 w1 [] → tt σ1 H1 (WhB K C B I m tb D σ1)) : tWhile tt tb D σ H := by
  refine ⟨fun m σ H => ∃ M ρ w, I m ρ w ∧ Ds K C B σ H M ρ w [], ⟨m, M, ρ, w, h0, S.clr⟩, ?_⟩
  rintro m σ1 H1 ⟨M1, ρ1, w1, h, S1⟩
  exact hs m ρ1 w1 h σ1 H1 M1 S1
theorem x_whB (h1 : b = true → tb { D with nx := Wx K C B I m, ct := Wx K C B I m, bk := D.nx } σ H) (h2 : b = false → D.nx σ H) : WhB K C B I m tb D σ b H := by
  unfold WhB
  cases b with
  | true => exact ⟨Wx K C B I m, fun _ _ h => h, h1 rfl⟩
  | false => exact h2 rfl
theorem Wx.at {ρ' : List Sl} (m' : Nat) (S : Ds K C B σ H M ρ w tp) (hl : SlLe ρ ρ') (hm : m' < m) (h : I m' ρ' w) : Wx K C B I m σ H := ⟨m', hm, M, ρ', w, h, S.clr.weak hl⟩
theorem dpAll_dropLast : ∀ {xs : List V} {ds : List PyData}, DpAll K M xs ds → DpAll K M xs.dropLast ds.dropLast
  | _, _, .nil => .nil
  | _, _, .cons _ .nil => .nil
  | _, _, .cons a (.cons b t) => .cons a (dpAll_dropLast (.cons b t))
theorem dpAll_snoc {xs : List V} (h : DpAll K M xs (ds ++ [d])) : ∃ v, xs[xs.length - 1]? = some v ∧ Dp K M v d := by
  have h1 := dpAll_len h
  rw [List.length_append, List.length_singleton] at h1
  obtain ⟨v, h2, h3⟩ := dpAll_get h (xs.length - 1) d (by rw [show xs.length - 1 = ds.length by omega, List.getElem?_append_right (Nat.le_refl _), Nat.sub_self]; rfl)
  exact ⟨v, h2, h3⟩
/-- p.pop(), p an own list in a slot -/
theorem x_pop (j : Nat) (S : Ds K C B σ H M ρ w tp) (h : ρ[i]? = some (.v (.ref p))) (hj : w[j]? = some (p, .lst (ds ++ [d]))) (hw : SetAt w j (p, .lst ds) w') (z : ∀ v H', Ds K C B σ H' M ρ w' ((v, d) :: tp) → Q v H') : tBM0 K "list" rPop (tVar i) σ H Q := by
  obtain ⟨v, h1, h2⟩ := S.get h (fun z => nomatch z)
  cases (show v = .ref p from h2)
  obtain ⟨_, xs, h3, h4⟩ := S.own _ (List.mem_of_getElem? hj)
  obtain ⟨v, h5, h6⟩ := dpAll_snoc h4
  have h7 := dpAll_dropLast h4
  rw [List.dropLast_concat] at h7
  refine ⟨_, h1, .inl ⟨rfl, xs, .of h3⟩, p, xs, v, rfl, rfl, h3, h5, z v _ ?_⟩
  rw [hw.eq]
  exact (S.mut (od' := .lst ds) hj ⟨_, upd_same, h7⟩).push h6
def ExtK (Q : VK) (x y : V) (H2 : Hp) : Prop := rExtend x [y] H2 Q
theorem x_ext (S : Ds K C B σ H M ρ w tp) (h : ρ[i]? = some (.v (.ref p))) (j : Nat) (hj : w[j]? = some (p, .lst ds)) (z : te σ H fun y H2 => ExtK Q (.ref p) y H2) : tBM K "list" rExtend (tVar i) (tCons te tNil) σ H Q := by
  obtain ⟨v, h1, h2⟩ := S.get h (fun z => nomatch z)
  cases (show v = .ref p from h2)
  obtain ⟨_, vs, h3, _⟩ := S.own _ (List.mem_of_getElem? hj)
  exact ⟨_, h1, .inl ⟨rfl, vs, .of h3⟩, z⟩
theorem h_ext (h : tBM K "list" rExtend (tVar i) (tCons te tNil) σ H Q) : tBM K "list" rExtend (tVar i) (tCons te tNil) σ H Q := h
theorem x_extK (j k : Nat) (S : Ds K C B σ H M ρ w tp) (hj : w[j]? = some (p, .lst ds)) (hk : w[k]? = some (q, .lst es)) (hl : ds.length + es.length ≤ sizeLine) (hw : SetAt w j (p, .lst (ds ++ es)) w') (z : ∀ H', Ds K C B σ H' M ρ w' tp → Q .non H') : ExtK Q (.ref p) (.ref q) H := by
  obtain ⟨_, xs, h1, h2⟩ := S.own _ (List.mem_of_getElem? hj)
  obtain ⟨_, ys, h3, h4⟩ := S.own _ (List.mem_of_getElem? hk)
  refine ⟨p, q, xs, ys, rfl, rfl, h1, h3, by rw [dpAll_len h2, dpAll_len h4]; exact hl, z _ ?_⟩
  rw [hw.eq]
  exact S.mut hj ⟨_, upd_same, dpAll_cat h2 h4⟩
theorem dpAll_bls : ∀ {xs : List V} {bs : List Bool}, DpAll K M xs (bs.map .bool) → xs = bs.map V.bl
  | _, [], .nil => rfl
  | _, _ :: _, .cons h t => by
    cases h
    rw [dpAll_bls t]
    rfl
theorem h_any {vs : List V} (h : rAny K vs H R) : rAny K vs H R := h
theorem h_all {vs : List V} (h : rAll K vs H R) : rAll K vs H R := h
theorem x_anyO {bs : List Bool} (j : Nat) (S : Ds K C B σ H M ρ w tp) (hj : w[j]? = some (p, .lst (bs.map .bool))) (z : R (.bl (bs.any id)) H) : rAny K [.ref p] H R := by
  obtain ⟨_, xs, h1, h2⟩ := S.own _ (List.mem_of_getElem? hj)
  rw [dpAll_bls h2] at h1
  exact ⟨p, bs, rfl, .of h1, z⟩
theorem x_allO {bs : List Bool} (j : Nat) (S : Ds K C B σ H M ρ w tp) (hj : w[j]? = some (p, .lst (bs.map .bool))) (z : R (.bl (bs.all id)) H) : rAll K [.ref p] H R := by
  obtain ⟨_, xs, h1, h2⟩ := S.own _ (List.mem_of_getElem? hj)
  rw [dpAll_bls h2] at h1
  exact ⟨p, bs, rfl, .of h1, z⟩
theorem x_anyL {bs : List Bool} (S : Ds K C B σ H M ρ w tp) (ht : Tm tp v (.list (bs.map .bool))) (z : R (.bl (bs.any id)) H) : rAny K [v] H R := by
  obtain ⟨p, xs, rfl, h1, h2⟩ := dp_lst (ht.dp S)
  rw [dpAll_bls h2] at h1
  exact ⟨p, bs, rfl, S.sub.seq h1, z⟩
theorem x_allL {bs : List Bool} (S : Ds K C B σ H M ρ w tp) (ht : Tm tp v (.list (bs.map .bool))) (z : R (.bl (bs.all id)) H) : rAll K [v] H R := by
  obtain ⟨p, xs, rfl, h1, h2⟩ := dp_lst (ht.dp S)
  rw [dpAll_bls h2] at h1
  exact ⟨p, bs, rfl, S.sub.seq h1, z⟩
/-! comprehensions with two names -/
theorem rew2 {B : Hp} {k1 k2 : Nat} {x y : V} {s t : Sl} (m1 : k1 ∈ vs) (m2 : k2 ∈ vs) : Rew K C B (((wipe σ vs).set k1 (some x)).set k2 (some y)) (((uset vs ρ).set k1 s).set k2 t) (wipe σ vs) (uset vs ρ) := fun S => by
  have S1 := S.clr.wiped vs
  rw [wipe_fold, wipe_fold, fold_set m2, fold_set m1, fold_fold, fold_set m2, fold_set m1] at S1
  rw [wipe_fold]
  have : uset vs (uset vs ρ) = uset vs ρ := fold_fold
  exact this ▸ S1
theorem wipe2 {k1 k2 : Nat} {x y : Option V} (m1 : k1 ∈ vs) (m2 : k2 ∈ vs) : wipe (((wipe σ vs).set k1 x).set k2 y) vs = wipe σ vs := by
  rw [wipe_fold, wipe_fold, fold_set m2, fold_set m1, fold_fold]
theorem x_lc2T {k1 k2 : Nat} (I : Nat → List PyData → Own → Prop) (m1 : k1 ∈ vs) (m2 : k2 ∈ vs) (S : Ds K C B σ H M ρ w tp) (ht : Tm tp v (.tuple ds)) (hd2 : ∀ d ∈ ds, ∃ d1 d2, d = .tuple [d1, d2]) (h0 : I 0 [] w)
    (hs : ∀ i d1 d2 acc w1, ds[i]? = some (.tuple [d1, d2]) → I i acc w1 → ∀ D σ1 H1 M1, Rew K C M σ1 (((uset vs ρ).set k1 (.d d1)).set k2 (.d d2)) (wipe σ vs) (uset vs ρ) → Ds K C M σ1 H1 M1 (((uset vs ρ).set k1 (.d d1)).set k2 (.d d2)) ((D, .lst acc) :: w1) [] → tt σ1 H1 fun b H3 => if b = true then te σ1 H3 (LcA (LcN K C M I (wipe σ vs) (uset vs ρ) D (i + 1)) D) else LcN K C M I (wipe σ vs) (uset vs ρ) D (i + 1) H3)
    (hd : ∀ acc w1, I ds.length acc w1 → ∀ D H1 M1, Ds K C B σ H1 M1 ρ ((D, .lst acc) :: w1) tp → Q (.ref D) H1) : ForT K (LcB (gTup K 2 (gCons (gName k1) (gCons (gName k2) gNil))) tt te vs Q σ) v H := by
  refine Pf.Gate.out ?_
  simp (disch := (with_unfolding_all (
      obtain ⟨p, xs, rfl, h1, h2⟩ := dp_tup (ht.dp S)
      refine ⟨p, rfl, ⟨xs, Same.seqT S.sub h1⟩, fun D hD => lc_tup (xs := xs) (LcN K C M I (wipe σ vs) (uset vs ρ) D) ?_ (fun i H1 _ q => ?_) (fun i x H1 hx q => ?_) (fun H1 q => ?_)⟩
      · exact ⟨M, [], w, h0, (S.base.clr.wiped vs).newL hD .nil⟩
      · obtain ⟨M1, acc, w1, _, S1⟩ := q
        exact Same.seqT (S1.bs.trans S1.sub) h1
      · obtain ⟨M1, acc, w1, q, S1⟩ := q
        have hi : i < ds.length := by rw [← dpAll_len h2]; exact (List.getElem?_eq_some_iff.mp hx).1
        have e := List.getElem?_eq_getElem hi
        have dd : Dp K M1 x ds[i] := Dp.same S1.bs (dpAll_at h2 i x _ hx e)
        obtain ⟨d1, d2, e2⟩ := hd2 ds[i] (List.getElem_mem hi)
        rw [e2] at dd e
        refine x_gT2 (S1.push dd) (.m (List.mem_cons_self ..)) fun y z S2 => ?_
        have hy : Dp K M1 y d1 := S2.tm (y, d1) (List.mem_cons_self ..)
        have hz : Dp K M1 z d2 := S2.tm (z, d2) (List.mem_cons_of_mem _ (List.mem_cons_self ..))
        have S3 := ((S2.clr.set (i := k1) (v := y) (s := .d d1) hy).set (i := k2) (v := z) (s := .d d2) hz)
        exact ⟨wipe2 m1 m2, hs i d1 d2 acc w1 e q D _ H1 M1 (rew2 m1 m2) S3⟩
      · obtain ⟨M1, acc, w1, q, S1⟩ := q
        exact hd acc w1 (dpAll_len h2 ▸ q) D H1 M1 (S.outof S1)
    ))) only [↓Pf.Gate.lem]
end
abbrev memD {α : Type} [DecidableEq α] (x : α) (xs : List α) : Bool := decide (x ∈ xs)
section
variable {K : PySem.W.Frag} {C : Fx} {B : Hp} {σ : L2.St} {H M H' M' : Hp} {ρ ρ' : List Sl} {w w' : Own} {tp : List (V × PyData)} {Q R : VK} {te ta : TE} {v x y : V} {a : Addr}
variable {α : Type} [DecidableEq α] {f : α → PyData} {xs : List α} {c : α} {b : Bool}
theorem z_inT (e : Enc f) (S : Ds K C B σ H M ρ w tp) (hx : Tm tp x (f c)) (hy : Tm tp y (.tuple (xs.map f))) (hd : (f c).depth ≤ 64) (hb : memD c xs = b) (q : R (.bl b) H) : rInX K false x y H R := y_inT e S hx hy hd (by rw [show decide (c ∈ xs) = b from hb]; exact q)
theorem z_inL (e : Enc f) (S : Ds K C B σ H M ρ w tp) (hx : Tm tp x (f c)) (hy : Tm tp y (.list (xs.map f))) (hd : (f c).depth ≤ 64) (hb : memD c xs = b) (q : R (.bl b) H) : rInX K false x y H R := y_inL e S hx hy hd (by rw [show decide (c ∈ xs) = b from hb]; exact q)
theorem z_inO (e : Enc f) (j : Nat) (S : Ds K C B σ H M ρ w tp) (hj : w[j]? = some (a, .lst (xs.map f))) (hx : Tm tp x (f c)) (hd : (f c).depth ≤ 64) (hb : memD c xs = b) (q : R (.bl b) H) : rInX K false x (.ref a) H R := y_inO e j S hj hx hd (by rw [show decide (c ∈ xs) = b from hb]; exact q)
theorem x_sel {ys : List α} {i j : Nat} (S : Ds K C B σ H M ρ w tp) (h1 : ρ[i]? = some (.d (.list (xs.map f)))) (h2 : ρ[j]? = some (.d (.list (ys.map f)))) (q : Giv K M H R (.list ((if b = true then xs else ys).map f))) : if b = true then tVar i σ H R else tVar j σ H R := by
  cases b with
  | true => exact x_var S h1 q
  | false => exact x_var S h2 q
end
end Pf

namespace Pf
open PySem PySem.Spec PyProof.Rows L2
/-! dicts with keys that are integers or texts, as own things -/
def valD (kvs : List (Key × PyData)) (k : Key) : Option PyData := (kvs.find? fun kv => decide (kv.1 = k)).map (·.2)
def putD (kvs : List (Key × PyData)) (k : Key) (d : PyData) : List (Key × PyData) :=
  if (kvs.any fun kv => decide (kv.1 = k)) = true then kvs.map (fun kv => if kv.1 = k then (kv.1, d) else kv) else kvs ++ [(k, d)]
theorem valD_nil {k : Key} : valD [] k = none := rfl
theorem valD_cons {p : Key × PyData} {r : List (Key × PyData)} {k : Key} : valD (p :: r) k = if p.1 = k then some p.2 else valD r k := by
  unfold valD
  rw [List.find?_cons]
  by_cases h : p.1 = k
  · simp [h]
  · simp [h]
theorem valD_any (k : Key) : ∀ kvs : List (Key × PyData), (kvs.any fun kv => decide (kv.1 = k)) = (valD kvs k).isSome
  | [] => rfl
  | p :: r => by
    rw [List.any_cons, valD_any k r, valD_cons]
    by_cases h : p.1 = k
    · simp [h]
    · simp [h]
theorem valD_put {kvs : List (Key × PyData)} {k k' : Key} {d : PyData} : valD (putD kvs k d) k' = if k' = k then some d else valD kvs k' := by
  refine Pf.Gate.out ?_
  simp (disch := (with_unfolding_all (
      unfold putD
      split
      · rename_i h
        induction kvs with
        | nil => simp at h
        | cons p r ih =>
          rw [List.map_cons, valD_cons, valD_cons]
          by_cases e : p.1 = k
          · rw [if_pos e]
            by_cases e2 : k' = k
            · rw [if_pos e2]
              simp [e, e2]
            · rw [if_neg e2]
              have e3 : ¬ p.1 = k' := fun z => e2 (z.symm.trans e)
              rw [if_neg e3, if_neg e3]
              by_cases h2 : (r.any fun kv => decide (kv.1 = k)) = true
              · rw [ih h2, if_neg e2]
              · have : r.map (fun kv => if kv.1 = k then (kv.1, d) else kv) = r := by
                  rw [List.map_congr_left (g := id), List.map_id]
                  intro x hx
                  have : ¬ x.1 = k := fun z => h2 (List.any_eq_true.mpr ⟨x, hx, decide_eq_true z⟩)
                  rw [if_neg this]
                  rfl
                rw [this]
          · rw [if_neg e]
            rw [List.any_cons, decide_eq_false e, Bool.false_or] at h
            rw [ih h]
            by_cases e2 : k' = k
            · have e3 : ¬ p.1 = k' := fun z => e (z.trans e2)
              rw [if_neg e3, if_pos e2, if_pos e2]
            · rw [if_neg e2, if_neg e2]
      · rename_i h0
        have h : valD kvs k = none := by
          rw [valD_any] at h0
          cases e : valD kvs k with
          | none => rfl
          | some x => rw [e] at h0; exact absurd rfl h0
        clear h0
        induction kvs with
        | nil =>
          show valD [(k, d)] k' = _
          rw [valD_cons, valD_nil]
          by_cases e : k' = k
          · rw [if_pos e, if_pos e.symm]
          · rw [if_neg e, if_neg fun z => e z.symm]
        | cons p r ih =>
          rw [valD_cons] at h
          by_cases e : p.1 = k
          · rw [if_pos e] at h
            cases h
          · rw [if_neg e] at h
            rw [List.cons_append, valD_cons, valD_cons, ih h]
            by_cases e2 : k' = k
            · have e3 : ¬ p.1 = k' := fun z => e (z.trans e2)
              rw [if_neg e3, if_pos e2, if_pos e2]
            · rw [if_neg e2, if_neg e2]
    ))) only [↓Pf.Gate.lem]
section
variable {K : PySem.W.Frag} {C : Fx} {B : Hp} {σ : L2.St} {H M H' M' : Hp} {ρ ρ' : List Sl} {w w' : Own} {tp : List (V × PyData)} {Q R : VK} {D : Ends} {te td ty tv : TE} {v y : V} {d : PyData} {p : Addr} {kvs : List (Key × PyData)} {k : Key} {ws : List (Key × V)}
abbrev PK (K : PySem.W.Frag) (M : Hp) : Key × V → Key × PyData → Prop := fun p q => p.1 = q.1 ∧ Dp K M p.2 q.2
theorem pk_val : ∀ {ws : List (Key × V)} {kvs : List (Key × PyData)}, Paired (PK K M) ws kvs → ∀ k : Key, (valV ws k = none ∧ valD kvs k = none) ∨ ∃ v d, valV ws k = some v ∧ valD kvs k = some d ∧ Dp K M v d
  | _, _, .nil, k => .inl ⟨rfl, rfl⟩
  | a :: _, b :: _, .cons h t, k => by
    obtain ⟨e, hd⟩ := h
    by_cases q : b.1 = k
    · exact .inr ⟨a.2, b.2, valV_pos (e.trans q), by rw [valD_cons, if_pos q], hd⟩
    · rw [valV_neg (fun z => q (e.symm.trans z)), valD_cons, if_neg q]
      exact pk_val t k
theorem pk_map (hd : Dp K M v d) : ∀ {ws : List (Key × V)} {kvs : List (Key × PyData)}, Paired (PK K M) ws kvs → Paired (PK K M) (ws.map (fun kv => if kv.1 = k then (kv.1, v) else kv)) (kvs.map (fun kv => if kv.1 = k then (kv.1, d) else kv))
  | _, _, .nil => .nil
  | a :: _, b :: _, .cons h t => by
    refine .cons ?_ (pk_map hd t)
    obtain ⟨e, hd2⟩ := h
    show PK K M (if a.1 = k then (a.1, v) else a) (if b.1 = k then (b.1, d) else b)
    by_cases q : b.1 = k
    · rw [if_pos q, if_pos (e.trans q)]
      exact ⟨e, hd⟩
    · rw [if_neg q, if_neg fun z => q (e.symm.trans z)]
      exact ⟨e, hd2⟩
theorem pk_len (h : Paired (PK K M) ws kvs) : ws.length = kvs.length := by
  induction h with
  | nil => rfl
  | cons _ _ ih => exact congrArg Nat.succ ih
theorem pk_put (h : Paired (PK K M) ws kvs) (hd : Dp K M v d) : Paired (PK K M) (putK ws k v) (putD kvs k d) := by
  refine Pf.Gate.out ?_
  simp (disch := (with_unfolding_all (
      have he : (ws.any fun kv => decide (kv.1 = k)) = kvs.any fun kv => decide (kv.1 = k) := by
        rw [valV_any, valD_any]
        rcases pk_val h k with ⟨a, b⟩ | ⟨_, _, a, b, _⟩
        · rw [a, b]
          rfl
        · rw [a, b]
          rfl
      unfold putK putD
      rw [he]
      split
      · exact pk_map hd h
      · exact h.snoc ⟨rfl, hd⟩
    ))) only [↓Pf.Gate.lem]
theorem x_dnew (q : ∀ p H', Ds K C B σ H' M ρ ((p, .dk []) :: w) tp → Q (.ref p) H') (S : Ds K C B σ H M ρ w tp) : tDNewK σ H Q := fun p hp => q p _ (S.newO hp ⟨[], upd_same, .nil⟩)
def DgK (Q : VK) (x y : V) (H : Hp) : Prop := ∃ a v, x = .ref a ∧ DGet H a y (some v) ∧ Q v H
def DnK (Q : VK) (x y : V) (H : Hp) : Prop := ∃ a o, x = .ref a ∧ DGet H a y o ∧ Q (.bl (!o.isSome)) H
def DiK (Q : VK) (x y : V) (H : Hp) : Prop := ∃ a o, x = .ref a ∧ DGet H a y o ∧ Q (.bl o.isSome) H
def DsK (D : Ends) (σ : L2.St) (x y v : V) (H : Hp) : Prop := ∃ a H4, x = .ref a ∧ DPut H a y v H4 ∧ D.nx σ H4
theorem x_dg (h : td σ H fun x H1 => ty σ H1 fun y H2 => DgK Q x y H2) : tDGet td ty σ H Q := h
theorem x_dn (h : ty σ H fun y H1 => td σ H1 fun x H2 => DnK Q x y H2) : tDNotIn ty td σ H Q := h
theorem x_di (h : ty σ H fun y H1 => td σ H1 fun x H2 => DiK Q x y H2) : tDIn ty td σ H Q := h
theorem x_ds (h : tv σ H fun v H1 => td σ H1 fun x H2 => ty σ H2 fun y H3 => DsK D σ x y v H3) : sDPut td ty tv D σ H := h
theorem x_dgK {i : Int} (j : Nat) (S : Ds K C B σ H M ρ w tp) (hj : w[j]? = some (p, .dk kvs)) (hv : valD kvs (.inl i) = some d) (q : Giv K M H Q d) : DgK Q (.ref p) (.int i) H := by
  obtain ⟨_, ws, h1, h2⟩ := S.own _ (List.mem_of_getElem? hj)
  rcases pk_val h2 (.inl i) with ⟨_, b⟩ | ⟨v, d', a, b, c⟩
  · rw [b] at hv
    cases hv
  · rw [b] at hv
    cases hv
    exact ⟨p, v, rfl, a ▸ DGet.k (k := .inl i) h1, q v c⟩
theorem x_dnK {i : Int} (j : Nat) (S : Ds K C B σ H M ρ w tp) (hj : w[j]? = some (p, .dk kvs)) (q : Q (.bl (!(valD kvs (.inl i)).isSome)) H) : DnK Q (.ref p) (.int i) H := by
  obtain ⟨_, ws, h1, h2⟩ := S.own _ (List.mem_of_getElem? hj)
  have e : (valV ws (.inl i)).isSome = (valD kvs (.inl i)).isSome := by
    rcases pk_val h2 (.inl i) with ⟨a, b⟩ | ⟨v, d', a, b, c⟩
    · rw [a, b]
      rfl
    · rw [a, b]
      rfl
  exact ⟨p, _, rfl, DGet.k (k := .inl i) h1, by rw [e]; exact q⟩
theorem x_dsK {i : Int} (j : Nat) (S : Ds K C B σ H M ρ w tp) (hj : w[j]? = some (p, .dk kvs)) (ht : Tm tp v d) (hl : kvs.length < sizeLine) (hw : SetAt w j (p, .dk (putD kvs (.inl i) d)) w') (q : ∀ H', Ds K C B σ H' M ρ w' tp → D.nx σ H') : DsK D σ (.ref p) (.int i) v H := by
  obtain ⟨_, ws, h1, h2⟩ := S.own _ (List.mem_of_getElem? hj)
  refine ⟨p, _, rfl, DPut.k (k := .inl i) h1 (by rw [pk_len h2]; exact hl), q _ ?_⟩
  rw [hw.eq]
  exact S.mut (od' := .dk (putD kvs (.inl i) d)) hj ⟨_, upd_same, pk_put h2 (ht.dp S)⟩
end
theorem u1 {k : Nat} {A : Around} (r : Room k A) : A.units + 1 < cLine := by have := r.un; omega
theorem memD_true {α : Type} [DecidableEq α] {x : α} {xs : List α} (h : x ∈ xs) : memD x xs = true := decide_eq_true h
section
variable {K : PySem.W.Frag} {C : Fx} {B : Hp} {σ : L2.St} {H M : Hp} {ρ : List Sl} {w : Own} {tp : List (V × PyData)} {ds : List PyData} {p : Addr}
/-- an own list in a slot is data from now on; the temps stay -/
theorem Ds.frz2 {i : Nat} (S : Ds K C B σ H M ρ ((p, .lst ds) :: w) tp) (hi : ρ[i]? = some (.v (.ref p))) (hO : p ∉ C.O) : ∃ M', Ds K C B σ H M' (ρ.set i (.d (.list ds))) w ((.ref p, .list ds) :: tp) := by
  obtain ⟨v, h1, h2⟩ := S.get hi (fun z => nomatch z)
  cases (show v = .ref p from h2)
  obtain ⟨M', S'⟩ := S.freeze hO
  exact ⟨M', S'.slot h1 (S'.tm (.ref p, .list ds) (List.mem_cons_self ..))⟩
end
theorem memD_in {α : Type} [DecidableEq α] {x : α} {xs : List α} (h : memD x xs = true) : x ∈ xs := of_decide_eq_true h
theorem memD_no {α : Type} [DecidableEq α] {x : α} {xs : List α} (h : memD x xs = false) : x ∉ xs := of_decide_eq_false h
section
variable {K : PySem.W.Frag} {C : Fx} {B : Hp} {σ : L2.St} {H M : Hp} {ρ : List Sl} {w : Own} {tp : List (V × PyData)} {R : VK} {x y : V} {a : Addr}
variable {α : Type} [DecidableEq α] {f : α → PyData} {xs : List α} {c : α} {b : Bool}
theorem z_niT (e : Enc f) (S : Ds K C B σ H M ρ w tp) (hx : Tm tp x (f c)) (hy : Tm tp y (.tuple (xs.map f))) (hd : (f c).depth ≤ 64) (hb : memD c xs = b) (q : R (.bl (!b)) H) : rInX K true x y H R := y_niT e S hx hy hd (by rw [show decide (c ∈ xs) = b from hb]; exact q)
theorem z_niL (e : Enc f) (S : Ds K C B σ H M ρ w tp) (hx : Tm tp x (f c)) (hy : Tm tp y (.list (xs.map f))) (hd : (f c).depth ≤ 64) (hb : memD c xs = b) (q : R (.bl (!b)) H) : rInX K true x y H R := y_niL e S hx hy hd (by rw [show decide (c ∈ xs) = b from hb]; exact q)
theorem z_niO (e : Enc f) (j : Nat) (S : Ds K C B σ H M ρ w tp) (hj : w[j]? = some (a, .lst (xs.map f))) (hx : Tm tp x (f c)) (hd : (f c).depth ≤ 64) (hb : memD c xs = b) (q : R (.bl (!b)) H) : rInX K true x (.ref a) H R := y_niO e j S hj hx hd (by rw [show decide (c ∈ xs) = b from hb]; exact q)
theorem x_neX (e : Enc f) {d : α} (S : Ds K C B σ H M ρ w tp) (hx : Tm tp x (f c)) (hy : Tm tp y (f d)) (h1 : (f c).depth ≤ 64) (h2 : (f d).depth ≤ 64) (q : R (.bl (!decide (c = d))) H) : rNeD K x y H R :=
  x_neD S hx hy (by unfold SeqAt.shaped; rw [e.lay, decide_eq_true h1]; rfl) (by unfold SeqAt.shaped; rw [e.lay, decide_eq_true h2]; rfl) (by rw [e.eq]; exact q)
end
end Pf

namespace Pf
open PySem PySem.Spec PyProof.Rows L2
/-! sorted of lists of data that can be ordered -/
def rSortedX (K : PySem.W.Frag) : List V → Hp → VK → Prop := fun vs H Q => ∃ (T : V → PyData → Prop) (a : Addr) (xs : List V) (ds : List PyData), vs = [V.ref a] ∧ (∀ x d, T x d → Dp K H x d) ∧ SqL K H a xs ∧ Paired T xs ds ∧ PySem.W.AllAlike ds ∧ PySem.W.Sortable ds ∧ (∀ d ∈ ds, d.depth ≤ 60) ∧
  ∀ ys p, H p = none → Paired T ys (ds.mergeSort (PySem.W.dataLe false id)) → Q (.ref p) (upd H p (.lst ys))
theorem dp_paired {K : PySem.W.Frag} {M : Hp} : ∀ {xs : List V} {ds : List PyData}, DpAll K M xs ds → Paired (Dp K M) xs ds
  | _, _, .nil => .nil
  | _, _, .cons h t => .cons h (dp_paired t)
theorem paired_dp {K : PySem.W.Frag} {M : Hp} : ∀ {xs : List V} {ds : List PyData}, Paired (Dp K M) xs ds → DpAll K M xs ds
  | _, _, .nil => .nil
  | _, _, .cons h t => .cons h (paired_dp t)
section
variable {X : Cx}
theorem each_of {T : V → PyData → Prop} {xs : List V} {its : List Value} {ds : List PyData} (r : Vals xs its) (h : Paired T xs ds) : PySem.W.EachIs (fun v d => ∃ x, RelV x v ∧ T x d) its ds := by
  induction r generalizing ds with
  | nil =>
    cases h
    exact .nil
  | cons r _ ih =>
    cases h with
    | cons h t => exact .cons ⟨_, r, h⟩ (ih t)
theorem each_back {T : V → PyData → Prop} {out : List Value} {ds : List PyData} (e : PySem.W.EachIs (fun v d => ∃ x, RelV x v ∧ T x d) out ds) : ∃ ys, Vals ys out ∧ Paired T ys ds := by
  induction e with
  | nil => exact ⟨[], .nil, .nil⟩
  | cons h _ ih =>
    obtain ⟨x, r, h⟩ := h
    obtain ⟨ys, a, b⟩ := ih
    exact ⟨x :: ys, .cons r a, .cons h b⟩
theorem cr_sortedX (hu : X.A.units + 65 < cLine) : CallR X (.builtin "sorted") (rSortedX X.K) := by
  intro pins s σ H vs us Q I r h
  obtain ⟨T, a, xs, ds, rfl, sm, hs, ha, hal, hk, hd, q⟩ := h
  obtain ⟨its, rv, pl, hz⟩ := I.list hs
  rw [Vals.ref1 r]
  have e := each_of rv ha
  have er : PySem.W.EachIs (fun v d => ∃ as, Reads s.heap v (id d) as) its ds := e.mono fun v d ⟨x, rx, h⟩ => Dp.reads I d x v (sm x d h) rx
  have hlen : ds.length = its.length := by rw [← Paired.length ha]; exact rv.length
  refine PySem.W.sorted_data (enc := id) pl.isList e er (by rw [List.map_id]; exact hal) (by rw [List.map_id]; exact hk) (by rw [hlen, ← rv.length]; exact hz) (fun d h => ?_) fun out ho eo => ?_
  · have := hd d h
    show X.A.units + 2 + d.depth < cLine
    omega
  · obtain ⟨ys, k1, k2⟩ := each_back eo
    obtain ⟨ep, he'⟩ := PyProof.Rows.sortedAll_at s.heap its out.toArray
    exact ⟨.ref _, upd H (s.heap.objs.size + 1) (.lst ys), I.laid (t' := s.toks) (fun _ _ => PyProof.Rows.sortedAll_old) (Nat.le_succ _) ⟨by rw [k1.length, ho, hlen, ← rv.length]; exact hz, out, ep, k1, he'⟩, rfl, q ys _ (I.hok.fresh (Nat.le_succ _)) k2⟩
theorem kSorted {K : PySem.W.Frag} (hu : X.A.units + 65 < cLine) (h : X.K = K := by rfl) : CallR X (.builtin "sorted") (rSortedX K) := h ▸ cr_sortedX hu
end
/-- what sorted gives -/
def srt (ds : List PyData) : List PyData := ds.mergeSort (PySem.W.dataLe false id)
theorem srt_perm (ds : List PyData) : (srt ds).Perm ds := List.mergeSort_perm ..
section
variable {K : PySem.W.Frag} {C : Fx} {B : Hp} {σ : L2.St} {H M H' M' : Hp} {ρ : List Sl} {w : Own} {tp : List (V × PyData)} {R : VK} {v : V} {ds : List PyData} {p : Addr}
theorem x_sortO (j : Nat) (S : Ds K C B σ H M ρ w tp) (hj : w[j]? = some (p, .lst ds)) (h1 : PySem.W.AllAlike ds) (h2 : PySem.W.Sortable ds) (h3 : ∀ d ∈ ds, d.depth ≤ 60) (q : ∀ l H', Ds K C B σ H' M ρ ((l, .lst (srt ds)) :: w) tp → R (.ref l) H') : rSortedX K [.ref p] H R := by
  obtain ⟨_, vs, a, b⟩ := S.own _ (List.mem_of_getElem? hj)
  exact ⟨Dp K M, p, vs, ds, rfl, fun _ _ => Dp.same S.sub, .of a, dp_paired b, h1, h2, h3, fun ys l hl hy => q l _ (S.newL hl (paired_dp hy))⟩
theorem x_sortL (S : Ds K C B σ H M ρ w tp) (ht : Tm tp v (.list ds)) (h1 : PySem.W.AllAlike ds) (h2 : PySem.W.Sortable ds) (h3 : ∀ d ∈ ds, d.depth ≤ 60) (q : ∀ l H', Ds K C B σ H' M ρ ((l, .lst (srt ds)) :: w) tp → R (.ref l) H') : rSortedX K [v] H R := by
  obtain ⟨p, xs, rfl, a, b⟩ := dp_lst (ht.dp S)
  exact ⟨Dp K M, p, xs, ds, rfl, fun _ _ => Dp.same S.sub, S.sub.seq a, dp_paired b, h1, h2, h3, fun ys l hl hy => q l _ (S.newL hl (paired_dp hy))⟩
end
end Pf

namespace Pf
open PySem PySem.Spec PyProof.Rows L2
/-! tuples put together, lists repeated, items set, comprehensions over anything with any names, enumerate -/
section
variable {K : PySem.W.Frag} {C : Fx} {B : Hp} {σ : L2.St} {H M H' M' : Hp} {ρ ρ' : List Sl} {w w' : Own} {tp : List (V × PyData)} {Q R : VK} {D : Ends} {te : TE} {tt : TT} {tb : TS} {tl : TA} {g : TG} {v x y : V} {ds es : List PyData} {d d1 d2 d3 : PyData} {p q : Addr} {b : Bool} {k k1 k2 k3 : Nat} {vs : List Nat} {i : Int}
theorem h_catA (h : rCatA K x y H R) : rCatA K x y H R := h
theorem x_catT (S : Ds K C B σ H M ρ w tp) (h1 : Tm tp x (.tuple ds)) (h2 : Tm tp y (.tuple es)) (hl : ds.length + es.length ≤ sizeLine) (q : ∀ u H' M', Ds K C B σ H' M' ρ w ((u, .tuple (ds ++ es)) :: tp) → R u H') : rCatA K x y H R := by
  obtain ⟨p, xs, rfl, a1, a2⟩ := dp_tup (h1.dp S)
  obtain ⟨p', ys, rfl, b1, b2⟩ := dp_tup (h2.dp S)
  refine ⟨p, p', xs, ys, rfl, rfl, Same.seqT S.sub a1, Same.seqT S.sub b1, by rw [dpAll_len a2, dpAll_len b2]; exact hl, fun e => ?_, fun _ e => ?_, fun _ _ l hl => ?_⟩
  · subst e
    cases a2
    exact q _ H M (S.push (.tup b1 b2))
  · subst e
    cases b2
    rw [List.append_nil] at q
    exact q _ H M (S.push (.tup a1 a2))
  · exact q _ _ _ (S.newT hl (dpAll_cat a2 b2))
theorem dpAll_set : ∀ {us : List V} {ds : List PyData} (k : Nat), DpAll K M us ds → Dp K M v d → DpAll K M (us.set k v) (ds.set k d)
  | _, _, _, .nil, _ => .nil
  | _, _, 0, .cons _ t, h => .cons h t
  | _, _, k + 1, .cons a t, h => .cons a (dpAll_set k t h)
theorem x_setO {P : Hp → Prop} {k : Nat} (j : Nat) (S : Ds K C B σ H M ρ w tp) (hj : w[j]? = some (p, .lst ds)) (hk : ixN ds.length i = some k) (ht : Tm tp v d) (hw : SetAt w j (p, .lst (ds.set k d)) w') (q : ∀ H', Ds K C B σ H' M ρ w' tp → P H') : rSetL (.ref p) (.int i) v H P := by
  obtain ⟨_, us, h1, h2⟩ := S.own _ (List.mem_of_getElem? hj)
  refine ⟨p, us, i, k, rfl, rfl, h1, by rw [dpAll_len h2]; exact hk, q _ ?_⟩
  rw [hw.eq]
  exact S.mut (od' := .lst (ds.set k d)) hj ⟨_, upd_same, dpAll_set k h2 (ht.dp S)⟩
theorem dpAll_rep {us : List V} {ds : List PyData} (h : DpAll K M us ds) : ∀ n : Nat, DpAll K M (List.replicate n us).flatten (List.replicate n ds).flatten
  | 0 => .nil
  | n + 1 => by
    rw [List.replicate_succ, List.replicate_succ, List.flatten_cons, List.flatten_cons]
    exact dpAll_cat h (dpAll_rep h n)
theorem h_rep (h : rRep x y H R) : rRep x y H R := h
theorem x_repO (j : Nat) (S : Ds K C B σ H M ρ w tp) (hj : w[j]? = some (p, .lst ds)) (h0 : -(2 ^ 63) ≤ i) (h1 : i < 2 ^ 63) (hz : ds.length * i.toNat ≤ sizeLine) (q : ∀ l H', Ds K C B σ H' M ρ ((l, .lst (List.replicate i.toNat ds).flatten) :: w) tp → R (.ref l) H') : rRep (.ref p) (.int i) H R := by
  obtain ⟨_, us, h2, h3⟩ := S.own _ (List.mem_of_getElem? hj)
  exact ⟨p, i, us, rfl, rfl, h2, h0, h1, by rw [dpAll_len h3]; exact hz, fun l hl => q l _ (S.newL hl (dpAll_rep h3 _))⟩
theorem h_repT (h : rRepT K x y H R) : rRepT K x y H R := h
theorem x_repT (S : Ds K C B σ H M ρ w tp) (ht : Tm tp x (.tuple ds)) (hne : ds ≠ []) (h0 : 2 ≤ i) (h1 : i ≤ 1000) (hz : ds.length ≤ 1000) (q : ∀ l H' M', Ds K C B σ H' M' ρ w ((.ref l, .tuple (List.replicate i.toNat ds).flatten) :: tp) → R (.ref l) H') : rRepT K x (.int i) H R := by
  obtain ⟨p, xs, rfl, a1, a2⟩ := dp_tup (ht.dp S)
  exact ⟨p, i, xs, rfl, rfl, Same.seqT S.sub a1, (fun e => by subst e; cases a2; exact hne rfl), h0, h1, by rw [dpAll_len a2]; exact hz, fun l hl => q l _ _ (S.newT hl (dpAll_rep a2 _))⟩
theorem x_ifNoT {ds : List PyData} {A B : Prop} (h : B) : if isNo (.tuple ds) = true then A else B := by rw [if_neg (show ¬ isNo (.tuple ds) = true from fun z => nomatch z)]; exact h
theorem x_ifNoF {ds : List PyData} {A B : Prop} (h : A) : if (!isNo (.tuple ds)) = true then A else B := by rw [if_pos (show (!isNo (.tuple ds)) = true from rfl)]; exact h
/-! names of a block bound -/
theorem wipe_in1 {x : Option V} (m1 : k1 ∈ vs) : wipe ((wipe σ vs).set k1 x) vs = wipe σ vs := by
  rw [wipe_fold, wipe_fold, fold_set m1, fold_fold]
theorem wipe_in3 {x y z : Option V} (m1 : k1 ∈ vs) (m2 : k2 ∈ vs) (m3 : k3 ∈ vs) : wipe ((((wipe σ vs).set k1 x).set k2 y).set k3 z) vs = wipe σ vs := by
  rw [wipe_fold, wipe_fold, fold_set m3, fold_set m2, fold_set m1, fold_fold]
theorem rew_in1 {B : Hp} {x : V} {s : Sl} (m1 : k1 ∈ vs) : Rew K C B ((wipe σ vs).set k1 (some x)) ((uset vs ρ).set k1 s) (wipe σ vs) (uset vs ρ) := fun S => by
  have S1 := S.clr.wiped vs
  rw [wipe_fold, wipe_fold, fold_set m1, fold_fold, fold_set m1] at S1
  rw [wipe_fold]
  have : uset vs (uset vs ρ) = uset vs ρ := fold_fold
  exact this ▸ S1
theorem rew_in3 {B : Hp} {x y z : V} {s t u : Sl} (m1 : k1 ∈ vs) (m2 : k2 ∈ vs) (m3 : k3 ∈ vs) : Rew K C B ((((wipe σ vs).set k1 (some x)).set k2 (some y)).set k3 (some z)) ((((uset vs ρ).set k1 s).set k2 t).set k3 u) (wipe σ vs) (uset vs ρ) := fun S => by
  have S1 := S.clr.wiped vs
  rw [wipe_fold, wipe_fold, fold_set m3, fold_set m2, fold_set m1, fold_fold, fold_set m3, fold_set m2, fold_set m1] at S1
  rw [wipe_fold]
  have : uset vs (uset vs ρ) = uset vs ρ := fold_fold
  exact this ▸ S1
theorem x_b1 {Z : L2.St → Hp → Prop} (S : Ds K C B (wipe σ vs) H M (uset vs ρ) w ((x, d1) :: tp)) (m1 : k1 ∈ vs)
    (q : ∀ σ1, Rew K C B σ1 ((uset vs ρ).set k1 (.d d1)) (wipe σ vs) (uset vs ρ) → Ds K C B σ1 H M ((uset vs ρ).set k1 (.d d1)) w [] → Z σ1 H) : gName k1 x (wipe σ vs) H fun σ2 H2 => wipe σ2 vs = wipe σ vs ∧ Z σ2 H2 :=
  ⟨wipe_in1 m1, q _ (rew_in1 m1) (S.clr.set (s := .d d1) (S.tm (x, d1) (List.mem_cons_self ..)))⟩
theorem x_b2 {Z : L2.St → Hp → Prop} (S : Ds K C B (wipe σ vs) H M (uset vs ρ) w ((x, .tuple [d1, d2]) :: tp)) (m1 : k1 ∈ vs) (m2 : k2 ∈ vs)
    (q : ∀ σ1, Rew K C B σ1 (((uset vs ρ).set k1 (.d d1)).set k2 (.d d2)) (wipe σ vs) (uset vs ρ) → Ds K C B σ1 H M (((uset vs ρ).set k1 (.d d1)).set k2 (.d d2)) w [] → Z σ1 H) :
    gTup K 2 (gCons (gName k1) (gCons (gName k2) gNil)) x (wipe σ vs) H fun σ2 H2 => wipe σ2 vs = wipe σ vs ∧ Z σ2 H2 := by
  refine x_gT2 S (.m (List.mem_cons_self ..)) fun y z S2 => ?_
  have hy : Dp K M y d1 := S2.tm (y, d1) (List.mem_cons_self ..)
  have hz : Dp K M z d2 := S2.tm (z, d2) (List.mem_cons_of_mem _ (List.mem_cons_self ..))
  exact ⟨wipe2 m1 m2, q _ (rew2 m1 m2) ((S2.clr.set (i := k1) (v := y) (s := .d d1) hy).set (i := k2) (v := z) (s := .d d2) hz)⟩
theorem x_b3 {Z : L2.St → Hp → Prop} (S : Ds K C B (wipe σ vs) H M (uset vs ρ) w ((x, .tuple [d1, d2, d3]) :: tp)) (m1 : k1 ∈ vs) (m2 : k2 ∈ vs) (m3 : k3 ∈ vs)
    (q : ∀ σ1, Rew K C B σ1 ((((uset vs ρ).set k1 (.d d1)).set k2 (.d d2)).set k3 (.d d3)) (wipe σ vs) (uset vs ρ) → Ds K C B σ1 H M ((((uset vs ρ).set k1 (.d d1)).set k2 (.d d2)).set k3 (.d d3)) w [] → Z σ1 H) :
    gTup K 3 (gCons (gName k1) (gCons (gName k2) (gCons (gName k3) gNil))) x (wipe σ vs) H fun σ2 H2 => wipe σ2 vs = wipe σ vs ∧ Z σ2 H2 := by
  refine x_gT3 S (.m (List.mem_cons_self ..)) fun y z u S2 => ?_
  have hy : Dp K M y d1 := S2.tm (y, d1) (List.mem_cons_self ..)
  have hz : Dp K M z d2 := S2.tm (z, d2) (List.mem_cons_of_mem _ (List.mem_cons_self ..))
  have hu : Dp K M u d3 := S2.tm (u, d3) (List.mem_cons_of_mem _ (List.mem_cons_of_mem _ (List.mem_cons_self ..)))
  exact ⟨wipe_in3 m1 m2 m3, q _ (rew_in3 m1 m2 m3) (((S2.clr.set (i := k1) (v := y) (s := .d d1) hy).set (i := k2) (v := z) (s := .d d2) hz).set (i := k3) (v := u) (s := .d d3) hu)⟩
/-! comprehensions over tuples, lists, enumerate -/
abbrev LcStep (K : PySem.W.Frag) (C : Fx) (B : Hp) (I : Nat → List PyData → Own → Prop) (σ : L2.St) (ρ : List Sl) (g : TG) (tt : TT) (te : TE) (vs : List Nat) (D : Addr) (i : Nat) (u : V) (H : Hp) : Prop :=
  g u (wipe σ vs) H fun σ2 H2 => wipe σ2 vs = wipe σ vs ∧ tt σ2 H2 fun b H3 => if b = true then te σ2 H3 (LcA (LcN K C B I (wipe σ vs) (uset vs ρ) D (i + 1)) D) else LcN K C B I (wipe σ vs) (uset vs ρ) D (i + 1) H3
theorem x_wlcT (I : Nat → List PyData → Own → Prop) (S : Ds K C B σ H M ρ w tp) (ht : Tm tp v (.tuple ds)) (h0 : I 0 [] w)
    (hs : ∀ i d acc w1, ds[i]? = some d → I i acc w1 → ∀ D u H1 M1, Ds K C M (wipe σ vs) H1 M1 (uset vs ρ) ((D, .lst acc) :: w1) [(u, d)] → LcStep K C M I σ ρ g tt te vs D i u H1)
    (hd : ∀ acc w1, I ds.length acc w1 → ∀ D H1 M1, Ds K C B σ H1 M1 ρ ((D, .lst acc) :: w1) tp → Q (.ref D) H1) : ForT K (LcB g tt te vs Q σ) v H := by
  obtain ⟨p, xs, rfl, h1, h2⟩ := dp_tup (ht.dp S)
  refine ⟨p, rfl, ⟨xs, Same.seqT S.sub h1⟩, fun D hD => lc_tup (xs := xs) (LcN K C M I (wipe σ vs) (uset vs ρ) D) ?_ (fun i H1 _ q => ?_) (fun i x H1 hx q => ?_) (fun H1 q => ?_)⟩
  · exact ⟨M, [], w, h0, (S.base.clr.wiped vs).newL hD .nil⟩
  · obtain ⟨M1, acc, w1, _, S1⟩ := q
    exact Same.seqT (S1.bs.trans S1.sub) h1
  · obtain ⟨M1, acc, w1, q, S1⟩ := q
    have hi : i < ds.length := by rw [← dpAll_len h2]; exact (List.getElem?_eq_some_iff.mp hx).1
    have e := List.getElem?_eq_getElem hi
    exact hs i _ acc w1 e q D x H1 M1 (S1.push (Dp.same S1.bs (dpAll_at h2 i x _ hx e)))
  · obtain ⟨M1, acc, w1, q, S1⟩ := q
    exact hd acc w1 (dpAll_len h2 ▸ q) D H1 M1 (S.outof S1)
theorem x_wlcL (I : Nat → List PyData → Own → Prop) (S : Ds K C B σ H M ρ w tp) (ht : Tm tp v (.list ds)) (h0 : I 0 [] w)
    (hs : ∀ i d acc w1, ds[i]? = some d → I i acc w1 → ∀ D u H1 M1, Ds K C M (wipe σ vs) H1 M1 (uset vs ρ) ((D, .lst acc) :: w1) [(u, d)] → LcStep K C M I σ ρ g tt te vs D i u H1)
    (hd : ∀ acc w1, I ds.length acc w1 → ∀ D H1 M1, Ds K C B σ H1 M1 ρ ((D, .lst acc) :: w1) tp → Q (.ref D) H1) : ForL K (LcB g tt te vs Q σ) v H := by
  obtain ⟨p, xs, rfl, h1, h2⟩ := dp_lst (ht.dp S)
  refine ⟨p, rfl, ⟨xs, S.sub.seq h1⟩, fun D hD => lc_list (xs := xs) (LcN K C M I (wipe σ vs) (uset vs ρ) D) ?_ (fun i H1 _ q => ?_) (fun i x H1 hx q => ?_) (fun H1 q => ?_)⟩
  · exact ⟨M, [], w, h0, (S.base.clr.wiped vs).newL hD .nil⟩
  · obtain ⟨M1, acc, w1, _, S1⟩ := q
    exact (S1.bs.trans S1.sub).seq h1
  · obtain ⟨M1, acc, w1, q, S1⟩ := q
    have hi : i < ds.length := by rw [← dpAll_len h2]; exact (List.getElem?_eq_some_iff.mp hx).1
    have e := List.getElem?_eq_getElem hi
    exact hs i _ acc w1 e q D x H1 M1 (S1.push (Dp.same S1.bs (dpAll_at h2 i x _ hx e)))
  · obtain ⟨M1, acc, w1, q, S1⟩ := q
    exact hd acc w1 (dpAll_len h2 ▸ q) D H1 M1 (S.outof S1)
def ForE (K : PySem.W.Frag) (R : It → Hp → Prop) (us : List V) (H1 : Hp) : Prop := ∃ a xs, us = [.ref a] ∧ SqL K H1 a xs ∧ R (Ite K a) H1
theorem x_fE (h : tl σ H fun us H1 => ForE K (ForB g tb D σ) us H1) : tFor (iEnum K tl) g tb D σ H := h
theorem x_lcE (h : tl σ H fun us H1 => ForE K (LcB g tt te vs Q σ) us H1) : tLc (iEnum K tl) g tt te vs σ H Q := h
theorem x_wlcE (I : Nat → List PyData → Own → Prop) (S : Ds K C B σ H M ρ w tp) (ht : Tm tp v (.list ds)) (h0 : I 0 [] w)
    (hs : ∀ i d acc w1, ds[i]? = some d → I i acc w1 → ∀ D u H1 M1, Ds K C M (wipe σ vs) H1 M1 (uset vs ρ) ((D, .lst acc) :: w1) [(u, .tuple [.int (i : Nat), d])] → LcStep K C M I σ ρ g tt te vs D i u H1)
    (hd : ∀ acc w1, I ds.length acc w1 → ∀ D H1 M1, Ds K C B σ H1 M1 ρ ((D, .lst acc) :: w1) tp → Q (.ref D) H1) : ForE K (LcB g tt te vs Q σ) [v] H := by
  refine Pf.Gate.out ?_
  simp (disch := (with_unfolding_all (
      obtain ⟨p, xs, rfl, h1, h2⟩ := dp_lst (ht.dp S)
      refine ⟨p, xs, rfl, S.sub.seq h1, fun D hD => lc_it (walk_enum (K := K) (a := p) (xs := xs)) (LcN K C M I (wipe σ vs) (uset vs ρ) D) ?_ (fun i H1 _ q => ?_) (fun i x H1 H2 hx q y => ?_) (fun H1 q => ?_)⟩
      · exact ⟨M, [], w, h0, (S.base.clr.wiped vs).newL hD .nil⟩
      · obtain ⟨M1, acc, w1, _, S1⟩ := q
        exact (S1.bs.trans S1.sub).seq h1
      · obtain ⟨M1, acc, w1, q, S1⟩ := q
        obtain ⟨T, x1, x2, rfl, hT, rfl, e1, e2⟩ := y
        cases e1
        have hi : i < ds.length := by rw [← dpAll_len h2]; exact hx
        have e := List.getElem?_eq_getElem hi
        exact hs i _ acc w1 e q D _ _ _ (S1.newT hT (.cons (.int _) (.cons (Dp.same S1.bs (dpAll_at h2 i x2 _ e2 e)) .nil)))
      · obtain ⟨M1, acc, w1, q, S1⟩ := q
        exact hd acc w1 (dpAll_len h2 ▸ q) D H1 M1 (S.outof S1)
    ))) only [↓Pf.Gate.lem]
theorem x_forE (I : Nat → List Sl → Own → Prop) (S : Ds K C B σ H M ρ w tp) (ht : Tm tp v (.list ds)) (h0 : I 0 ρ w)
    (hs : ∀ i d ρ1 w1, ds[i]? = some d → I i ρ1 w1 → ∀ u σ1 H1 M1, Ds K C M σ1 H1 M1 ρ1 w1 [(u, .tuple [.int (i : Nat), d])] → g u σ1 H1 fun σ2 H2 => tb { D with nx := Nx K C M I (i + 1), ct := Nx K C M I (i + 1), bk := D.nx } σ2 H2)
    (hd : ∀ ρ1 w1, I ds.length ρ1 w1 → ∀ σ1 H1 M1, Ds K C B σ1 H1 M1 ρ1 w1 [] → D.nx σ1 H1) : ForE K (ForB g tb D σ) [v] H := by
  refine Pf.Gate.out ?_
  simp (disch := (with_unfolding_all (
      obtain ⟨p, xs, rfl, h1, h2⟩ := dp_lst (ht.dp S)
      refine ⟨p, xs, rfl, S.sub.seq h1, for_it (walk_enum (K := K) (a := p) (xs := xs)) (Nx K C M I) ⟨M, ρ, w, h0, S.base.clr⟩ (fun i σ1 H1 _ q => ?_) (fun i x σ1 H1 H2 hx q y => ?_) (fun σ1 H1 q => ?_)⟩
      · obtain ⟨M1, ρ1, w1, _, S1⟩ := q
        exact (S1.bs.trans S1.sub).seq h1
      · obtain ⟨M1, ρ1, w1, q, S1⟩ := q
        obtain ⟨T, x1, x2, rfl, hT, rfl, e1, e2⟩ := y
        cases e1
        have hi : i < ds.length := by rw [← dpAll_len h2]; exact hx
        have e := List.getElem?_eq_getElem hi
        exact hs i _ ρ1 w1 e q _ σ1 _ _ (S1.newT hT (.cons (.int _) (.cons (Dp.same S1.bs (dpAll_at h2 i x2 _ e2 e)) .nil)))
      · obtain ⟨M1, ρ1, w1, q, S1⟩ := q
        exact hd ρ1 w1 (dpAll_len h2 ▸ q) σ1 H1 M1 (S1.base' S.bs)
    ))) only [↓Pf.Gate.lem]
end
section
variable {X : Cx} {K : PySem.W.Frag} {tg e : Expr}
theorem kRepT (h : X.K = K := by rfl) : OpR X (binaryOp .Mult) (rRepT K) := h ▸ op_repT
theorem kIE {tl : TA} (p : PI X tg e (iEnum X.K tl)) (h : X.K = K := by rfl) : PI X tg e (iEnum K tl) := h ▸ p
end
end Pf

namespace Pf
open PySem PySem.Spec PyProof.Rows L2 HT
/-! t[::-1] of a tuple -/
section
variable {prog : Program} {w : World} {A : Around} {E : Value → Shared → Prop} {s : Shared}
theorem adjust_rev (n : Nat) : Builtin.Slice.sliceAdjust none none (-1) (n : Int) = ((n : Int) - 1, -1) := by
  unfold Builtin.Slice.sliceAdjust
  rfl
theorem places_rev (n : Nat) : Builtin.Slice.slicePlaces ((n : Int) - 1) (-1) (-1) = n := by
  unfold Builtin.Slice.slicePlaces
  have h1 : ¬ ((-1 : Int) > 0) := by omega
  simp only [h1, if_false]
  split
  · rw [show (- -1 : Int) = 1 by decide, Int.ediv_one]
    omega
  · omega
theorem sliceApplied_rev {sl : Addr} {vl vu vs : Value} {n : Nat} {Q : Int × Int × Nat → Shared → Prop} (hs : s.heap.IsSliceOf sl vl vu vs) (pl : IsPart vl none) (pu : IsPart vu none) (ps : IsPart vs (some (-1)))
    (h : Q ((n : Int) - 1, -1, n) s) : wpAny (model prog w) A (Builtin.Slice.sliceApplied (.ref sl) (pure (n : Int))) Q E s := by
  refine Pf.Gate.out ?_
  simp (disch := (with_unfolding_all (
      obtain ⟨os, hos, hcs, hds⟩ := id hs
      unfold Builtin.Slice.sliceApplied Builtin.Slice.sliceFields
      refine wpAny_bind (wpAny_bind (wpAny_field hos hds (x := vl) rfl (wpAny_bind (wpAny_field hos hds (x := vu) rfl (wpAny_bind (wpAny_field hos hds (x := vs) rfl (wpAny_pure ?_)))))))
      refine wpAny_bind (slicePart_ ps ?_)
      show wpAny _ _ (if ((-1 : Int) == 0) = true then _ else _) _ _ s
      rw [if_neg (by decide)]
      refine wpAny_bind (slicePart_ pl (wpAny_bind (slicePart_ pu (wpAny_bind (wpAny_pure ?_)))))
      show wpAny _ _ (match Builtin.Slice.sliceAdjust none none (-1) (n : Int) with | (lo, hi) => pure (lo, (-1 : Int), Builtin.Slice.slicePlaces lo hi (-1))) _ _ s
      rw [adjust_rev n]
      show wpAny _ _ (pure ((n : Int) - 1, (-1 : Int), Builtin.Slice.slicePlaces ((n : Int) - 1) (-1) (-1))) _ _ s
      rw [places_rev]
      exact wpAny_pure h
    ))) only [↓Pf.Gate.lem]
theorem fm_congr {α β : Type} {f g : α → Option β} : ∀ {l : List α}, (∀ x ∈ l, f x = g x) → l.filterMap f = l.filterMap g
  | [], _ => rfl
  | x :: l, h => by
    rw [List.filterMap_cons, List.filterMap_cons, h x (List.mem_cons_self ..), fm_congr fun y hy => h y (List.mem_cons_of_mem _ hy)]
theorem pick_rev (xs : Array Value) : ((List.range xs.size).filterMap fun (m : Nat) => xs[((xs.size : Int) - 1 + (m : Int) * -1).toNat]?).toArray = xs.toList.reverse.toArray := by
  have e : (List.range xs.size).filterMap (fun (m : Nat) => xs[((xs.size : Int) - 1 + (m : Int) * -1).toNat]?) = ((List.range xs.size).map fun k => xs.size - 1 - k).filterMap (xs[·]?) := by
    rw [List.filterMap_map]
    refine fm_congr fun m hm => ?_
    have := List.mem_range.mp hm
    have e2 : ((xs.size : Int) - 1 + (m : Int) * -1).toNat = xs.size - 1 - m := by omega
    rw [e2]
    rfl
  rw [e, PySem.W.krv_range, List.filterMap_reverse, PySem.W.krv_all]
theorem getItem_tuple_rev {t sl : Addr} {items : Array Value} {vl vu vs : Value} {Q : Value → Shared → Prop} (ht : IsTup s.heap t items) (hs : s.heap.IsSliceOf sl vl vu vs) (pl : IsPart vl none) (pu : IsPart vu none) (ps : IsPart vs (some (-1)))
    (h : Q (.ref s.heap.objs.size) { s with heap := s.heap.push { cls := .type "tuple", data := .seq items.toList.reverse.toArray } })
    (hsz : items.size ≤ sizeLine) : wpAny (model prog w) A (getItem (.ref t) (.ref sl)) Q E s := by
  refine Pf.Gate.out ?_
  simp (disch := (with_unfolding_all (
      have htake : sizeOk (.seq items.toList.reverse.toArray) := by
        show items.toList.reverse.toArray.size ≤ sizeLine
        rw [List.size_toArray, List.length_reverse, Array.length_toList]
        exact hsz
      obtain ⟨os, hos, hcs, hds⟩ := id hs
      have hTs : s.TypeIs (.ref sl) "slice" := ⟨os, hos, hcs⟩
      unfold getItem
      try with_reducible refine wpAny_holding ?_
      first | refine wpAny_bind (wpAny_pure ?_) | skip
      refine wpAny_bind (wpAny_sequenceKey ht.typeIs (by decide) ?_)
      refine wpAny_bind (wpAny_callSpecial?_slot (name := Str.ofString "__getitem__") ht.typeIs PyProof.Rows.slot_tuple_getitem
        (wpAny_call_entry PyProof.Rows.slot_tuple_getitem ht.typeIs entry_tuple_getitem ?_ (args_tuple_getitem _ _)))
      show wpAny _ _ (Builtin.Tuple.tupleItemsOf (.ref t) >>= _) _ _ s
      refine wpAny_bind (tupleItemsOf_ ht ?_)
      refine wpAny_bind (wpAny_typeOf hTs ?_)
      rw [if_pos (by decide)]
      refine wpAny_bind (sliceApplied_rev hs pl pu ps ?_)
      have hno : ¬ ((((items.size : Int) - 1) == 0 && (-1 : Int) == 1 && items.size == items.size) = true) := by
        intro q
        rw [Bool.and_eq_true, Bool.and_eq_true] at q
        exact absurd q.1.2 (by decide)
      show wpAny _ _ (if (((items.size : Int) - 1) == 0 && (-1 : Int) == 1 && items.size == items.size) = true then _ else _) _ _ s
      rw [if_neg hno, pick_rev]
      first
        | exact wpAny_bind (m := Builtin.Tuple.tupleExact _) (wpAny_newObj_type (wpAny_pure ⟨_, rfl, wpAny_pure h⟩) htake)
        | exact wpAny_bind (m := Builtin.Tuple.tupleExact _) (wpAny_newObj_type (wpAny_bind (wpAny_pure (wpAny_pure ⟨_, rfl, wpAny_pure h⟩))) htake)
        | exact wpAny_bind (wpAny_bind (m := Builtin.Tuple.tupleExact _) (wpAny_newObj_type (wpAny_pure (wpAny_pure ⟨_, rfl, wpAny_pure h⟩)) htake))
        | exact wpAny_bind (wpAny_bind (m := Builtin.Tuple.tupleExact _) (wpAny_newObj_type (wpAny_pure ⟨_, rfl, wpAny_pure h⟩) htake))
    ))) only [↓Pf.Gate.lem]
end
section
variable {X : Cx}
def rRevT (K : PySem.W.Frag) (Q : VK) (x : V) (H1 : Hp) : Prop := ∃ a xs, x = .ref a ∧ SqT K H1 a xs ∧ ∀ p, H1 p = none → Q (.ref p) (upd H1 p (.tup xs.reverse))
def tRevT (K : PySem.W.Frag) (te : TE) : TE := fun σ H Q => te σ H fun x H1 => rRevT K Q x H1
theorem pe_revT {e : Expr} {te : TE} {K : PySem.W.Frag} {k : Nat} {p1 p2 p3 pos : Pos} (he : PE X e te) (hK : X.K = K := by rfl) : PE X (.Subscript e (.Slice none none (some (.UnaryOp .USub (.Constant (.int 1) k p1) p2)) p3) pos) (tRevT K te) := by
  refine Pf.Gate.out ?_
  simp (disch := (with_unfolding_all (
      subst hK
      refine ⟨fun pins s σ H Q I h => ?_⟩
      refine Subscript_ (thn (he.run pins s σ H _ I h) fun v s1 ⟨x, H1, I1, r1, q1⟩ => ?_)
      obtain ⟨a, xs, ex, hx, q⟩ := q1
      subst ex
      cases r1
      have hst : PO X (some (.UnaryOp .USub (.Constant (.int 1) k p1) p2)) (tPart (tUn (rU fun i => .int (-i)) (tC (.int 1)))) := po_some (pe_un un_neg pe_int)
      refine wpAny_Slice (thn (po_none.run pins s1 σ H1 (fun o H2 => o = none ∧ H2 = H1) I1 ⟨rfl, rfl⟩) fun vl s2 ⟨l, H2, I2, pl, el, e2⟩ => ?_)
      subst el e2
      refine thn (po_none.run pins s2 σ H2 (fun o H3 => o = none ∧ H3 = H2) I2 ⟨rfl, rfl⟩) fun vu s3 ⟨u, H3, I3, pu, eu, e3⟩ => ?_
      subst eu e3
      refine thn (hst.run pins s3 σ H3 (fun o H4 => o = some (-1) ∧ H4 = H3) I3 ⟨1, rfl, -1, rfl, rfl, rfl⟩) fun vs s4 ⟨o, H4, I4, ps, eo, e4⟩ => ?_
      subst eo e4
      have I5 : Inv X pins σ H4 { s4 with heap := s4.heap.push { cls := .type "slice", data := .fields #[vl, vu, vs] } } := I4.kept (t' := s4.toks) fun b ob q => Heap.get?_push_of_some _ q
      obtain ⟨its, r, ht, hz⟩ := I5.tuple hx
      have hlen := r.length
      show wpAny (model X.prog X.w) X.A (subscriptTail e (.Slice none none (some (.UnaryOp .USub (.Constant (.int 1) k p1) p2)) p3) (.ref a) (.ref s4.heap.objs.size)) (EP X pins σ Q) X.xe { s4 with heap := s4.heap.push { cls := .type "slice", data := .fields #[vl, vu, vs] } }
      refine tail_any (ops := [.ref a, .ref s4.heap.objs.size]) ht.typeIs (PyProof.Rows.slot_tuple_getitem.lookup) ?_ (by with_unfolding_all rfl)
      refine getItem_tuple_rev ht (Heap.IsSliceOf.new _ vl vu vs) pl pu ps ?_ (by rw [List.size_toArray]; omega)
      refine ⟨.ref _, _, I5.laid (t' := s4.toks) (o := .tup xs.reverse) (fun b ob q => Heap.get?_push_of_some _ q) (Nat.le_refl _) ?_, rfl, q _ (I5.hok.fresh (Nat.le_refl _))⟩
      exact ⟨by rw [List.length_reverse]; exact hz, _, r.reverse, IsTup.new _ _⟩
    ))) only [↓Pf.Gate.lem]
end
section
variable {K : PySem.W.Frag} {C : Fx} {B : Hp} {σ : L2.St} {H M : Hp} {ρ : List Sl} {w : Own} {tp : List (V × PyData)} {Q : VK} {te : TE} {v : V} {ds es : List PyData}
theorem dpAll_rev {vs : List V} {ds : List PyData} (h : DpAll K M vs ds) : DpAll K M vs.reverse ds.reverse := by
  induction vs generalizing ds with
  | nil =>
    cases h
    exact .nil
  | cons v vs ih =>
    cases h with
    | cons a t =>
      rw [List.reverse_cons, List.reverse_cons]
      exact dpAll_app (ih t) (.cons a .nil)
theorem x_revT (h : te σ H fun x H1 => rRevT K Q x H1) : tRevT K te σ H Q := h
theorem h_revT (h : rRevT K Q v H) : rRevT K Q v H := h
theorem x_revK (S : Ds K C B σ H M ρ w tp) (ht : Tm tp v (.tuple ds)) (q : ∀ p H' M', Ds K C B σ H' M' ρ w ((.ref p, .tuple ds.reverse) :: tp) → Q (.ref p) H') : rRevT K Q v H := by
  obtain ⟨p, xs, rfl, h1, h2⟩ := dp_tup (ht.dp S)
  exact ⟨p, xs, rfl, Same.seqT S.sub h1, fun l hl => q l _ _ (S.newT hl (dpAll_rev h2))⟩
end
end Pf

namespace Pf
open PySem PySem.Spec PyProof.Rows L2
/-! list(range(n)), tuple(range(n)) -/
/-- 0 .. n - 1 -/
def rng (n : Nat) : List Int := (List.range n).map fun (i : Nat) => (i : Int)
theorem rng_len {n : Nat} : (rng n).length = n := by unfold rng; rw [List.length_map, List.length_range]
theorem rng_mem {n : Nat} {i : Int} : i ∈ rng n ↔ 0 ≤ i ∧ i < n := by
  unfold rng
  rw [List.mem_map]
  constructor
  · rintro ⟨j, h, rfl⟩
    have := List.mem_range.mp h
    omega
  · rintro ⟨h0, h1⟩
    exact ⟨i.toNat, List.mem_range.mpr (by omega), by omega⟩
theorem rng_at {n k : Nat} (h : k < n) : (rng n)[k]? = some (k : Int) := by
  unfold rng
  rw [List.getElem?_map, List.getElem?_range h]
  rfl
theorem rng_at' {n k : Nat} {i : Int} (h : (rng n)[k]? = some i) : k < n ∧ i = (k : Int) := by
  have h1 := (List.getElem?_eq_some_iff.mp h).1
  rw [rng_len] at h1
  rw [rng_at h1] at h
  exact ⟨h1, (Option.some.inj h).symm⟩
theorem rng_succ {n : Nat} : rng (n + 1) = rng n ++ [(n : Int)] := by
  unfold rng
  rw [List.range_succ, List.map_append]
  rfl
theorem rng_sorted {n : Nat} : (rng n).Pairwise (· < ·) := by
  unfold rng
  rw [List.pairwise_map]
  exact (List.pairwise_lt_range).imp fun h => by omega
def LrK (Q : VK) (a b : Int) (H : Hp) : Prop := RgOk a b ∧ ∀ q, H q = none → Q (.ref q) (upd H q (.lst (rgV a b)))
def TrK (Q : VK) (a b : Int) (H : Hp) : Prop := RgOk a b ∧ ∀ q, H q = none → Q (.ref q) (upd H q (.tup (rgV a b)))
def R1K (R : Int → Int → Hp → Prop) (x : V) (H : Hp) : Prop := ∃ n, x = .int n ∧ R 0 n H
def R2K (R : Int → Int → Hp → Prop) (x y : V) (H : Hp) : Prop := ∃ i j, x = .int i ∧ y = .int j ∧ R i j H
section
variable {K : PySem.W.Frag} {C : Fx} {B : Hp} {σ : L2.St} {H M : Hp} {ρ : List Sl} {w : Own} {tp : List (V × PyData)} {Q : VK} {te ta : TE} {n m : Int} {R : Int → Int → Hp → Prop} {t : L2.St → Hp → (Int → Int → Hp → Prop) → Prop}
theorem x_lrg (h : t σ H fun a b H1 => LrK Q a b H1) : tLstRg t σ H Q := h
theorem x_trg (h : t σ H fun a b H1 => TrK Q a b H1) : tTupRg t σ H Q := h
theorem x_rg1 (h : te σ H fun x H1 => R1K R x H1) : tRg1 te σ H R := h
theorem x_rg2 (h : te σ H fun x H1 => ta σ H1 fun y H2 => R2K R x y H2) : tRg2 te ta σ H R := h
theorem x_r1K (h : R 0 n H) : R1K R (.int n) H := ⟨n, rfl, h⟩
theorem x_r2K (h : R n m H) : R2K R (.int n) (.int m) H := ⟨n, m, rfl, rfl, h⟩
theorem dp_rg (n : Int) : DpAll K M (rgV 0 n) ((rng n.toNat).map .int) := by
  unfold rgV rng
  rw [Int.sub_zero, List.map_map]
  generalize n.toNat = k
  induction k with
  | zero => exact .nil
  | succ k ih =>
    rw [List.range_succ, List.map_append, List.map_append]
    refine dpAll_cat ih (.cons ?_ .nil)
    show Dp K M (V.int (0 + (k : Int))) (PyData.int (k : Int))
    rw [Int.zero_add]
    exact .int _
theorem h_lrK {a b : Int} (h : LrK Q a b H) : LrK Q a b H := h
theorem x_lrK (S : Ds K C B σ H M ρ w tp) (h0 : 0 ≤ n) (h1 : n ≤ 16777216) (q : ∀ p H', Ds K C B σ H' M ρ ((p, .lst ((rng n.toNat).map .int)) :: w) tp → Q (.ref p) H') : LrK Q 0 n H :=
  ⟨.of_le (by decide) h1 (by decide) h0, fun l hl => q l _ (S.newL hl (dp_rg n))⟩
theorem x_trK (S : Ds K C B σ H M ρ w tp) (h0 : 0 ≤ n) (h1 : n ≤ 16777216) (q : ∀ p H' M', Ds K C B σ H' M' ρ w ((.ref p, .tuple ((rng n.toNat).map .int)) :: tp) → Q (.ref p) H') : TrK Q 0 n H :=
  ⟨.of_le (by decide) h1 (by decide) h0, fun l hl => q l _ _ (S.newT hl (dp_rg n))⟩
end
end Pf

namespace Pf
open PySem PySem.Spec PyProof.Rows L2
/-! tuples that are keys, dicts with such keys, instances, calls that change several own things -/
def tTupR (tl : TA) : TE := tTup tl
def TupKR (Q : VK) (xs : List V) (H1 : Hp) : Prop := TupK Q xs H1
theorem pe_tupR {X : Cx} {es : List Expr} {t : TA} {x1 : Nat} {pos : Pos} (h : PA X es t) : PE X (.Tuple es x1 pos) (tTupR t) := pe_tup h
/-! dicts by any keys -/
section
variable {κ : Type} [DecidableEq κ]
def valG (kvs : List (κ × PyData)) (k : κ) : Option PyData := (kvs.find? fun kv => decide (kv.1 = k)).map (·.2)
def putG (kvs : List (κ × PyData)) (k : κ) (d : PyData) : List (κ × PyData) :=
  if (kvs.any fun kv => decide (kv.1 = k)) = true then kvs.map (fun kv => if kv.1 = k then (kv.1, d) else kv) else kvs ++ [(k, d)]
theorem valG_nil {k : κ} : valG ([] : List (κ × PyData)) k = none := rfl
theorem valG_cons {p : κ × PyData} {r : List (κ × PyData)} {k : κ} : valG (p :: r) k = if p.1 = k then some p.2 else valG r k := by
  unfold valG
  rw [List.find?_cons]
  by_cases h : p.1 = k
  · simp [h]
  · simp [h]
theorem valG_any (k : κ) : ∀ kvs : List (κ × PyData), (kvs.any fun kv => decide (kv.1 = k)) = (valG kvs k).isSome
  | [] => rfl
  | p :: r => by
    rw [List.any_cons, valG_any k r, valG_cons]
    by_cases h : p.1 = k
    · simp [h]
    · simp [h]
theorem putG_new {kvs : List (κ × PyData)} {k : κ} {d : PyData} (h : valG kvs k = none) : putG kvs k d = kvs ++ [(k, d)] := by
  unfold putG
  rw [valG_any, h]
  rfl
theorem valG_app {kvs ls : List (κ × PyData)} {k : κ} : valG (kvs ++ ls) k = (valG kvs k).or (valG ls k) := by
  induction kvs with
  | nil => rfl
  | cons p r ih =>
    rw [List.cons_append, valG_cons, valG_cons, ih]
    by_cases h : p.1 = k
    · simp [h]
    · simp [h]
theorem valG_map {kvs : List (κ × PyData)} {k k' : κ} {d : PyData} : valG (kvs.map fun kv => if kv.1 = k then (kv.1, d) else kv) k' = if k' = k then (valG kvs k').map fun _ => d else valG kvs k' := by
  refine Pf.Gate.out ?_
  simp (disch := (with_unfolding_all (
      induction kvs with
      | nil => rw [List.map_nil, valG_nil]; split <;> rfl
      | cons p r ih =>
        rw [List.map_cons, valG_cons, valG_cons, ih]
        by_cases e : p.1 = k
        · rw [if_pos e]
          by_cases e2 : k' = k
          · have e3 : p.1 = k' := e.trans e2.symm
            rw [if_pos e3, if_pos e2, if_pos e3]
            rfl
          · have e3 : ¬ p.1 = k' := fun z => e2 (z.symm.trans e)
            rw [if_neg e3, if_neg e2, if_neg e2, if_neg e3]
        · rw [if_neg e]
          by_cases e2 : k' = k
          · have e3 : ¬ p.1 = k' := fun z => e (z.trans e2)
            rw [if_neg e3, if_pos e2, if_pos e2, if_neg e3]
          · rw [if_neg e2, if_neg e2]
    ))) only [↓Pf.Gate.lem]
theorem valG_put {kvs : List (κ × PyData)} {k k' : κ} {d : PyData} : valG (putG kvs k d) k' = if k' = k then some d else valG kvs k' := by
  refine Pf.Gate.out ?_
  simp (disch := (with_unfolding_all (
      unfold putG
      rw [valG_any]
      cases h : valG kvs k with
      | some x =>
        rw [if_pos (show (some x).isSome = true from rfl), valG_map]
        by_cases e : k' = k
        · rw [if_pos e, if_pos e, e, h]
          rfl
        · rw [if_neg e, if_neg e]
      | none =>
        rw [if_neg (show ¬ (none : Option PyData).isSome = true from fun z => nomatch z), valG_app, valG_cons, valG_nil]
        by_cases e : k' = k
        · rw [if_pos e, e, h, if_pos rfl]
          rfl
        · rw [if_neg e, if_neg fun z => e z.symm]
          cases valG kvs k' <;> rfl
    ))) only [↓Pf.Gate.lem]
theorem putG_len {kvs : List (κ × PyData)} {k : κ} {d : PyData} : (putG kvs k d).length ≤ kvs.length + 1 := by
  unfold putG
  split
  · rw [List.length_map]
    omega
  · rw [List.length_append]
    exact Nat.le_refl _
theorem valG_one {k k' : κ} {d : PyData} : valG [(k, d)] k' = if k = k' then some d else none := by
  rw [valG_cons, valG_nil]
end
def keyD : Key → PyData
  | .inl i => .int i
  | .inr s => .str s
section
variable {K : PySem.W.Frag} {C : Fx} {B : Hp} {σ : L2.St} {H M H' M' : Hp} {ρ ρ' : List Sl} {w w' : Own} {tp : List (V × PyData)} {Q R : VK} {E : XK} {D : Ends} {te td ty tv : TE} {tl : TA} {v x y : V} {d : PyData} {ds : List PyData} {p b : Addr} {kvs : List (List Key × PyData)} {ks : List Key} {ws : List (List Key × V)} {i : Nat}
theorem x_tupR (h : tl σ H fun xs H1 => TupKR Q xs H1) : tTupR tl σ H Q := h
theorem h_tupR {xs : List V} (h : TupKR Q xs H) : TupKR Q xs H := h
theorem x_tupRK {us : List V} (S : Ds K C B σ H M ρ w tp) (ht : TmAll tp us ds) (hl : decide (us.length ≤ 1000) = true) (q : ∀ p H' M', TupM K M' (.ref p) (.tuple ds) → Ds K C B σ H' M' ρ w ((.ref p, .tuple ds) :: tp) → Q (.ref p) H') : TupKR Q us H :=
  ⟨Nat.le_trans (of_decide_eq_true hl) (by decide), fun p hp => q p _ _ ⟨p, us, ds, rfl, rfl, upd_same, DpAll.same (Same.new _ (S.sub.free hp)) (ht.dp S)⟩ (S.newT hp (ht.dp S))⟩
theorem x_gnT {q : L2.St → Hp → Prop} (S : Ds K C B σ H M ρ w tp) (ht : TupM K M v d) (hs : SetAt ρ i (.t d) ρ') (h : ∀ σ', Ds K C B σ' H M ρ' w tp → q σ' H) : gName i v σ H q :=
  h _ (hs.eq ▸ S.set (s := .t d) ht)
theorem x_varT (S : Ds K C B σ H M ρ w tp) (h : ρ[i]? = some (.t d)) (q : ∀ a, TupM K M (.ref a) d → Ds K C B σ H M ρ w ((.ref a, d) :: tp) → R (.ref a) H) : tVar i σ H R := by
  obtain ⟨v, h1, h2⟩ := S.get h (fun z => nomatch z)
  have h3 : TupM K M v d := h2
  obtain ⟨a, xs, es, rfl, _⟩ := id h3
  exact ⟨_, h1, q a h3 (S.push h3.dp)⟩
theorem dpAll_keys : ∀ {ks : List Key} {us : List V}, DpAll K M us (ks.map keyD) → us = ks.map kV
  | [], _, .nil => rfl
  | .inl i :: ks, _, .cons h t => by
    cases h
    rw [dpAll_keys t]
    rfl
  | .inr i :: ks, _, .cons h t => by
    cases h
    rw [dpAll_keys t]
    rfl
theorem TupM.key (h : TupM K M (.ref b) (.tuple (ks.map keyD))) (e : Same M H) : H b = some (.tup (ks.map kV)) := by
  obtain ⟨b', xs, es, e1, e2, h3, h4⟩ := h
  cases e1
  cases e2
  rw [dpAll_keys h4] at h3
  exact e _ _ h3
abbrev PT (K : PySem.W.Frag) (M : Hp) : List Key × V → List Key × PyData → Prop := fun p q => p.1 = q.1 ∧ Dp K M p.2 q.2
theorem ptk_val : ∀ {ws : List (List Key × V)} {kvs : List (List Key × PyData)}, Paired (PT K M) ws kvs → ∀ k : List Key, (valV ws k = none ∧ valG kvs k = none) ∨ ∃ v d, valV ws k = some v ∧ valG kvs k = some d ∧ Dp K M v d
  | _, _, .nil, k => .inl ⟨rfl, rfl⟩
  | a :: _, b :: _, .cons h t, k => by
    obtain ⟨e, hd⟩ := h
    by_cases q : b.1 = k
    · exact .inr ⟨a.2, b.2, valV_pos (e.trans q), by rw [valG_cons, if_pos q], hd⟩
    · rw [valV_neg (fun z => q (e.symm.trans z)), valG_cons, if_neg q]
      exact ptk_val t k
theorem ptk_map (hd : Dp K M v d) : ∀ {ws : List (List Key × V)} {kvs : List (List Key × PyData)}, Paired (PT K M) ws kvs → Paired (PT K M) (ws.map (fun kv => if kv.1 = ks then (kv.1, v) else kv)) (kvs.map (fun kv => if kv.1 = ks then (kv.1, d) else kv))
  | _, _, .nil => .nil
  | a :: _, b :: _, .cons h t => by
    refine .cons ?_ (ptk_map hd t)
    obtain ⟨e, hd2⟩ := h
    show PT K M (if a.1 = ks then (a.1, v) else a) (if b.1 = ks then (b.1, d) else b)
    by_cases q : b.1 = ks
    · rw [if_pos q, if_pos (e.trans q)]
      exact ⟨e, hd⟩
    · rw [if_neg q, if_neg fun z => q (e.symm.trans z)]
      exact ⟨e, hd2⟩
theorem ptk_len (h : Paired (PT K M) ws kvs) : ws.length = kvs.length := by
  induction h with
  | nil => rfl
  | cons _ _ ih => exact congrArg Nat.succ ih
theorem ptk_put (h : Paired (PT K M) ws kvs) (hd : Dp K M v d) : Paired (PT K M) (putK ws ks v) (putG kvs ks d) := by
  refine Pf.Gate.out ?_
  simp (disch := (with_unfolding_all (
      have he : (ws.any fun kv => decide (kv.1 = ks)) = kvs.any fun kv => decide (kv.1 = ks) := by
        rw [valV_any, valG_any]
        rcases ptk_val h ks with ⟨a, b⟩ | ⟨_, _, a, b, _⟩
        · rw [a, b]
          rfl
        · rw [a, b]
          rfl
      unfold putK putG
      rw [he]
      split
      · exact ptk_map hd h
      · exact h.snoc ⟨rfl, hd⟩
    ))) only [↓Pf.Gate.lem]
theorem x_dnewT (q : ∀ p H', Ds K C B σ H' M ρ ((p, .dt []) :: w) tp → Q (.ref p) H') (S : Ds K C B σ H M ρ w tp) : tDNewT σ H Q := fun p hp => q p _ (S.newO hp ⟨[], upd_same, .nil⟩)
theorem x_dtg (j : Nat) (S : Ds K C B σ H M ρ w tp) (hj : w[j]? = some (p, .dt kvs)) (hb : TupM K M (.ref b) (.tuple (ks.map keyD))) (hv : valG kvs ks = some d) (q : Giv K M H Q d) : DgK Q (.ref p) (.ref b) H := by
  obtain ⟨_, ws, h1, h2⟩ := S.own _ (List.mem_of_getElem? hj)
  rcases ptk_val h2 ks with ⟨_, b⟩ | ⟨v, d', a, b, c⟩
  · rw [b] at hv
    cases hv
  · rw [b] at hv
    cases hv
    exact ⟨p, v, rfl, a ▸ DGet.t h1 (hb.key S.sub), q v c⟩
theorem x_dtn (j : Nat) (S : Ds K C B σ H M ρ w tp) (hj : w[j]? = some (p, .dt kvs)) (hb : TupM K M (.ref b) (.tuple (ks.map keyD))) (q : Q (.bl (!(valG kvs ks).isSome)) H) : DnK Q (.ref p) (.ref b) H := by
  obtain ⟨_, ws, h1, h2⟩ := S.own _ (List.mem_of_getElem? hj)
  have e : (valV ws ks).isSome = (valG kvs ks).isSome := by
    rcases ptk_val h2 ks with ⟨a, b⟩ | ⟨v, d', a, b, c⟩
    · rw [a, b]
      rfl
    · rw [a, b]
      rfl
  exact ⟨p, _, rfl, DGet.t h1 (hb.key S.sub), by rw [e]; exact q⟩
theorem x_dts (j : Nat) (S : Ds K C B σ H M ρ w tp) (hj : w[j]? = some (p, .dt kvs)) (hb : TupM K M (.ref b) (.tuple (ks.map keyD))) (ht : Tm tp v d) (hl : kvs.length < sizeLine) (hw : SetAt w j (p, .dt (putG kvs ks d)) w') (q : ∀ H', Ds K C B σ H' M ρ w' tp → D.nx σ H') : DsK D σ (.ref p) (.ref b) v H := by
  obtain ⟨_, ws, h1, h2⟩ := S.own _ (List.mem_of_getElem? hj)
  refine ⟨p, _, rfl, DPut.t h1 (hb.key S.sub) (by rw [ptk_len h2]; exact hl), q _ ?_⟩
  rw [hw.eq]
  exact S.mut (od' := .dt (putG kvs ks d)) hj ⟨_, upd_same, ptk_put h2 (ht.dp S)⟩
theorem x_diK {i : Int} {kvs : List (Key × PyData)} (j : Nat) (S : Ds K C B σ H M ρ w tp) (hj : w[j]? = some (p, .dk kvs)) (q : Q (.bl (valD kvs (.inl i)).isSome) H) : DiK Q (.ref p) (.int i) H := by
  obtain ⟨_, ws, h1, h2⟩ := S.own _ (List.mem_of_getElem? hj)
  have e : (valV ws (.inl i)).isSome = (valD kvs (.inl i)).isSome := by
    rcases pk_val h2 (.inl i) with ⟨a, b⟩ | ⟨v, d', a, b, c⟩
    · rw [a, b]
      rfl
    · rw [a, b]
      rfl
  exact ⟨p, _, rfl, DGet.k (k := .inl i) h1, by rw [e]; exact q⟩
theorem x_ifSn {A B : Prop} (h : B) : if (!(some d).isSome) = true then A else B := by rw [if_neg (show ¬ (!(some d).isSome) = true from fun z => nomatch z)]; exact h
theorem x_ifSs {A B : Prop} (h : A) : if (some d).isSome = true then A else B := by rw [if_pos (show (some d).isSome = true from rfl)]; exact h
/-! a dict that is written down -/
def DspK (p : Addr) (Q : VK) (ps : List (V × V)) (H2 : Hp) : Prop := H2 p = some (.dK []) ∧ ∃ kvs : List (Key × V), ps = kvs.map (fun kv => (kV kv.1, kv.2)) ∧ kvs.length ≤ 15 ∧ Q (.ref p) (upd H2 p (.dK (mergeK [] kvs)))
theorem x_disp {trs : List (TE × TE)} (S : Ds K C B σ H M ρ w tp) (q : ∀ p H', Ds K C B σ H' M ρ ((p, .dk []) :: w) tp → tPairs trs σ H' (DspK p Q)) : tDisp trs σ H Q := fun p hp => q p _ (S.newO hp ⟨[], upd_same, .nil⟩)
theorem x_prC {trs : List (TE × TE)} {q : List (V × V) → Hp → Prop} (h : td σ H fun x H1 => tv σ H1 fun y H2 => tPairs trs σ H2 fun ps H3 => q ((x, y) :: ps) H3) : tPairs ((td, tv) :: trs) σ H q := h
theorem x_prN {q : List (V × V) → Hp → Prop} (h : q [] H) : tPairs [] σ H q := h
theorem x_dsp2 {i1 i2 : Int} {v1 v2 : V} {d1 d2 : PyData} (S : Ds K C B σ H M ρ ((p, .dk []) :: w) tp) (h1 : Tm tp v1 d1) (h2 : Tm tp v2 d2) (q : ∀ H', Ds K C B σ H' M ρ ((p, .dk (putD (putD [] (.inl i1) d1) (.inl i2) d2)) :: w) tp → Q (.ref p) H') : DspK p Q [(.int i1, v1), (.int i2, v2)] H := by
  obtain ⟨_, ws, a, b⟩ := S.own _ (List.mem_cons_self ..)
  cases b
  refine ⟨a, [(.inl i1, v1), (.inl i2, v2)], rfl, by show 2 ≤ 15; decide, q _ ?_⟩
  exact S.mut (j := 0) (od' := .dk (putD (putD [] (.inl i1) d1) (.inl i2) d2)) rfl ⟨_, upd_same, pk_put (pk_put .nil (h1.dp S)) (h2.dp S)⟩
/-! min of an own list of ints -/
theorem x_minO {ns : List Int} (j : Nat) (S : Ds K C B σ H M ρ w tp) (hj : w[j]? = some (p, .lst (ns.map .int))) (h0 : 0 < ns.length) (q : ∀ m, m ∈ ns → (∀ y ∈ ns, m ≤ y) → R (.int m) H) : rMin K [.ref p] H R := by
  obtain ⟨_, us, h1, h2⟩ := S.own _ (List.mem_of_getElem? hj)
  rw [dpAll_ints h2] at h1
  exact ⟨p, ns, rfl, .of h1, h0, q⟩
/-! fields and methods -/
def FldK (K : PySem.W.Frag) (f : Str) (R : VK) (x : V) (H : Hp) : Prop := ∃ a C dx fs v, x = .ref a ∧ H a = some (.ins C dx fs) ∧ Cls K C ∧ NoAttr K C f ∧ fs.lookup f = some v ∧ R v H
theorem x_fld {f : Str} (h : te σ H fun x H1 => FldK K f R x H1) : tFld K te f σ H R := h
theorem x_fldK {f : Str} {A dx : Addr} {fs : List (Str × V)} (j : Nat) (S : Ds K C B σ H M ρ w tp) (hj : w[j]? = some (p, .ho (.ins A dx fs))) (c : Cls K A) (n : NoAttr K A f) (l : fs.lookup f = some v) (q : R v H) : FldK K f R (.ref p) H :=
  ⟨p, A, dx, fs, v, rfl, (S.own _ (List.mem_of_getElem? hj)).2, c, n, l, q⟩
def SFldK (K : PySem.W.Frag) (f : Str) (D : Ends) (σ : L2.St) (y x : V) (H2 : Hp) : Prop := ∃ a C dx fs, x = .ref a ∧ H2 a = some (.ins C dx fs) ∧ Cls K C ∧ NoAttr K C f ∧ fs.length < 1000 ∧ D.nx σ (upd H2 a (.ins C dx (putF f y fs)))
theorem x_sfld {f : Str} (h : tv σ H fun y H1 => te σ H1 fun x H2 => SFldK K f D σ y x H2) : sFld K te tv f D σ H := h
theorem x_sfldK {f : Str} {A dx : Addr} {fs : List (Str × V)} (j : Nat) (S : Ds K C B σ H M ρ w tp) (hj : w[j]? = some (p, .ho (.ins A dx fs))) (c : Cls K A) (n : NoAttr K A f) (l : fs.length < 1000) (hw : SetAt w j (p, .ho (.ins A dx (putF f y fs))) w') (q : ∀ H', Ds K C B σ H' M ρ w' tp → D.nx σ H') : SFldK K f D σ y (.ref p) H :=
  ⟨p, A, dx, fs, rfl, (S.own _ (List.mem_of_getElem? hj)).2, c, n, l, q _ (hw.eq ▸ S.mut hj upd_same)⟩
theorem x_meth {sp : Sp} {A dx : Addr} {m : Str} {fs : List (Str × V)} (j : Nat) (S : Ds K C B σ H M ρ w tp) (h : ρ[i]? = some (.v (.ref p))) (hj : w[j]? = some (p, .ho (.ins A dx fs))) (l : fs.lookup m = none) (q : tl σ H fun us H2 => sp (.ref p :: us) H2 Q E) : tMeth A m sp [] E (tVar i) tl σ H Q := by
  obtain ⟨v, h1, h2⟩ := S.get h (fun z => nomatch z)
  cases (show v = .ref p from h2)
  refine ⟨_, h1, p, dx, fs, rfl, (S.own _ (List.mem_of_getElem? hj)).2, l, ?_⟩
  simp only [List.append_nil]
  exact q
end
/-! calls that may change several own things -/
/-- data, by what became of the own things -/
abbrev pW (P : PyData → Own → Prop) : Rs → Own → Prop := fun r u => ∃ d, P d u ∧ r = .s (.d d)
section
variable {K : PySem.W.Frag} {C : Fx} {B : Hp} {σ : L2.St} {H M H' M' H0 M0 : Hp} {ρ : List Sl} {w u u' : Own} {tp : List (V × PyData)} {Q : VK} {E : XK} {v : V} {d : PyData} {P : PyData → Own → Prop} {pre : Pre} {vs : List V} {ss : List Sl} {O : List Addr}
theorem x_callW {post : Rs → Own → Prop} (w1 u w2 : Own) (S : Ds K C B σ H M ρ w tp) (hw : w = w1 ++ (u ++ w2)) (hv : SlVs K M vs ss) (hp : pre ss u post)
    (q : ∀ r u', post r u' → u'.map (·.1) = u.map (·.1) → ∀ v H' M', Res K C B σ H' M' ρ (w1 ++ (u' ++ w2)) tp v r → Q v H') : spG K pre vs H Q E := by
  refine Pf.Gate.out ?_
  simp (disch := (with_unfolding_all (
      subst hw
      have hu : ∀ p ∈ u, p ∈ w1 ++ (u ++ w2) := fun p h => List.mem_append.mpr (.inr (List.mem_append.mpr (.inl h)))
      have hn := S.nd
      rw [List.map_append, List.map_append] at hn
      have hn2 := (List.nodup_append.mp hn).2.1
      refine ⟨M, ss, u, post, S.sub, hv, fun p h => S.own p (hu p h), (List.nodup_append.mp hn2).1, hp, fun r u' v H' hr hf => ?_⟩
      obtain ⟨M', F, hw, ok, ho⟩ := hf.ex
      have F : Fr (u.map (·.1)) H M H' M' := F
      have hw : u'.map (·.1) = u.map (·.1) := hw
      have apart : ∀ p ∈ w1 ++ (u' ++ w2), OdOk K M' H' p.1 p.2 := fun p h => by
        rcases List.mem_append.mp h with h | h
        · refine (S.own p (List.mem_append.mpr (.inl h))).2.keep F.sm fun o e => F.fr _ o (fun z => ?_) e
          exact (List.nodup_append.mp hn).2.2 p.1 (List.mem_map_of_mem h) p.1 (List.mem_append.mpr (.inl z)) rfl
        · rcases List.mem_append.mp h with h | h
          · exact ok p h
          · refine (S.own p (List.mem_append.mpr (.inr (List.mem_append.mpr (.inr h))))).2.keep F.sm fun o e => F.fr _ o (fun z => ?_) e
            exact (List.nodup_append.mp hn2).2.2 p.1 z p.1 (List.mem_map_of_mem h) rfl
      have em : (w1 ++ (u' ++ w2)).map (·.1) = (w1 ++ (u ++ w2)).map (·.1) := by simp only [List.map_append, hw]
      refine q r u' hr hw v H' M' (Res.of (S.step F (fun b h => ?_) em apart) S.new_none (fun z hz => ?_) ho)
      · obtain ⟨p, h1, rfl⟩ := List.mem_map.mp h
        exact List.mem_map_of_mem (hu p h1)
      · have h1 : z.1 ∈ (w1 ++ (u ++ w2)).map (·.1) := em ▸ List.mem_map_of_mem hz
        obtain ⟨y, hy, e⟩ := List.mem_map.mp h1
        rw [← e]
        exact (S.own y hy).2.there
    ))) only [↓Pf.Gate.lem]
theorem x_cW (w1 u w2 : Own) (S : Ds K C B σ H M ρ w tp) (hw : w = w1 ++ (u ++ w2)) (hs : SlT K M tp vs ss) (hp : pre ss u (pW P)) (q : ∀ d u', P d u' → ∀ H' M', Ds K C B σ H' M' ρ (w1 ++ (u' ++ w2)) tp → Giv K M' H' Q d) : spG K pre vs H Q E :=
  x_callW w1 u w2 S hw (hs.dp S) hp fun r u' hr hm v H' M' R => by
    obtain ⟨d, hd, rfl⟩ := hr
    have R : Ds K C B σ H' M' ρ (w1 ++ (u' ++ w2)) ((v, d) :: tp) := R
    exact q d u' hd H' M' R.rest v (R.tm _ (List.mem_cons_self ..))
theorem x_rW (S : Ds K ⟨H0, M0, O⟩ B σ H M ρ w tp) (hq : ∀ r w' v H', pW P r w' → Fin K ⟨H0, M0, O⟩ r w' v H' → Q v H') (ht : Tm tp v d) (u' : Own) (hu : u'.map (·.1) = O) (hs : ∀ p ∈ u', p ∈ w) (hp : P d u') : Q v H :=
  hq _ u' v H ⟨d, hp, rfl⟩ (S.fin hu hs (ht.dp S))
/-! promises that hand out new own things -/
structure FinX (K : PySem.W.Frag) (C : Fx) (u' ex : Own) (v : V) (H' : Hp) : Prop where
  ex : ∃ M', Fr C.O C.H C.M H' M' ∧ u'.map (·.1) = C.O ∧ (∀ p ∈ u', OdOk K M' H' p.1 p.2) ∧ (∀ p ∈ ex, C.H p.1 = none ∧ M' p.1 = none ∧ OdOk K M' H' p.1 p.2) ∧ (ex.map (·.1)).Nodup ∧ v = .non
def spX (K : PySem.W.Frag) (pre : List Sl → Own → (Own → Own → Prop) → Prop) : Sp := fun vs H Q _ => ∃ (M : Hp) (ss : List Sl) (w : Own) (post : Own → Own → Prop), Same M H ∧ SlVs K M vs ss ∧ (∀ p ∈ w, M p.1 = none ∧ OdOk K M H p.1 p.2) ∧ (w.map (·.1)).Nodup ∧ pre ss w post ∧
  ∀ u' ex v H', post u' ex → FinX K ⟨H, M, w.map (·.1)⟩ u' ex v H' → Q v H'
theorem x_retX {C : Fx} {post : Own → Own → Prop} (S : Ds K C B σ H M ρ w tp) (hq : ∀ u' ex v H', post u' ex → FinX K C u' ex v H' → Q v H') (u' ex : Own) (hw : (u' ++ ex).Perm w) (hu : u'.map (·.1) = C.O) (hp : post u' ex) : Q .non H := by
  have S2 := S.perm hw
  have hn := S2.nd
  rw [List.map_append] at hn
  refine hq u' ex _ H hp ⟨M, S2.F, hu, fun p h => (S2.own p (List.mem_append.mpr (.inl h))).2, fun p h => ?_, (List.nodup_append.mp hn).2.1, rfl⟩
  have h1 := S2.own p (List.mem_append.mpr (.inr h))
  refine ⟨(S2.ow p (List.mem_append.mpr (.inr h))).resolve_left fun z => ?_, h1.1, h1.2⟩
  rw [← hu] at z
  exact (List.nodup_append.mp hn).2.2 p.1 z p.1 (List.mem_map_of_mem h) rfl
/-- a new instance, its __init__ run -/
theorem x_make {A : Addr} {pre : List Sl → Own → (Own → Own → Prop) → Prop} {post : Addr → Addr → Own → Own → Prop} (S : Ds K C B σ H M ρ w tp) (hp : ∀ x dx, pre [.v (.ref x)] [(x, .ho (.ins A dx []))] (post x dx))
    (q : ∀ x dx u' ex H' M', post x dx u' ex → Ds K C B σ H' M' ρ (ex ++ (u' ++ w)) tp → Q (.ref x) H') : tMake A (spX K pre) [] E tNil σ H Q := by
  intro x dx hx hdx hne
  have S1 := S.newO (od := .ho (.own x)) (o := .own x) hdx upd_same
  have hx1 : upd H dx (.own x) x = none := by rw [upd_ne (fun e => hne e.symm)]; exact hx
  have S2 := (S1.newO (od := .ho (.ins A dx [])) (o := .ins A dx []) hx1 upd_same).subw (w' := (x, .ho (.ins A dx [])) :: w) (.cons_cons _ (.cons _ (.refl _)))
  generalize upd (upd H dx (.own x)) x (.ins A dx []) = H1 at S2
  refine ⟨M, [.v (.ref x)], [(x, .ho (.ins A dx []))], post x dx, S2.sub, .cons rfl .nil, fun p h => List.mem_singleton.mp h ▸ S2.own _ (List.mem_cons_self ..), List.nodup_cons.mpr ⟨(fun z => nomatch z), List.nodup_nil⟩, hp x dx, fun u' ex v H' hpost hf => ?_⟩
  obtain ⟨M', F, hw, ok, oke, nde, rfl⟩ := hf.ex
  refine ⟨rfl, q x dx u' ex H' M' hpost ?_⟩
  have F : Fr [x] H1 M H' M' := F
  have hw : u'.map (·.1) = [x] := hw
  have S3 : Ds K C B σ H' M' ρ (u' ++ w) tp := by
    refine S2.step F (fun b h => by rw [List.mem_singleton.mp h]; exact List.mem_cons_self ..) (by rw [List.map_append, hw]; rfl) fun p h => ?_
    rcases List.mem_append.mp h with h | h
    · exact ok p h
    · refine (S2.own p (List.mem_cons_of_mem _ h)).2.keep F.sm fun o e => F.fr _ o (fun z => ?_) e
      have := S2.nd
      rw [List.map_cons, List.nodup_cons] at this
      refine this.1 ?_
      show x ∈ w.map (·.1)
      rw [← List.mem_singleton.mp z]
      exact List.mem_map_of_mem (f := Prod.fst) h
  refine { S3 with own := fun p h => ?_, nd := ?_, ow := fun p h => ?_ }
  · rcases List.mem_append.mp h with h | h
    · exact (oke p h).2
    · exact S3.own p h
  · rw [List.map_append]
    refine List.nodup_append.mpr ⟨nde, S3.nd, fun a ha b hb e => ?_⟩
    subst e
    obtain ⟨p, h1, rfl⟩ := List.mem_map.mp ha
    obtain ⟨p2, h2, e2⟩ := List.mem_map.mp hb
    have h3 : H1 p.1 = none := (oke p h1).1
    have h4 : p2.1 ∈ ((x, Od.ho (.ins A dx [])) :: w).map (·.1) := by
      have : p2.1 ∈ (u' ++ w).map (·.1) := List.mem_map_of_mem h2
      rw [List.map_append, hw] at this
      exact this
    obtain ⟨p3, h5, e3⟩ := List.mem_map.mp h4
    exact (S2.own p3 h5).2.there (by rw [e3, e2]; exact h3)
  · rcases List.mem_append.mp h with h | h
    · exact .inr (S2.new_none _ (oke p h).1)
    · exact S3.ow p h
end
section
variable {P : Program} {w : World} {K : PySem.W.Frag} {mg : Str → Option Value} {base : Heap}
/-- a method that keeps a promise -/
structure Mt (P : Program) (w : World) (K : PySem.W.Frag) (mg : Str → Option Value) (base : Heap) (k : Nat) (C : Addr) (m : Str) (f : Addr) (fd : FuncData) (ps : List Str) (sp : Sp) : Prop where
  F : FnOk P w K mg base CX0 k f fd ps sp
  M : Meth K C m f
  b : Binds K fd ps []
/-- a class that is made by an __init__ that keeps a promise -/
structure MkC (P : Program) (w : World) (K : PySem.W.Frag) (mg : Str → Option Value) (base : Heap) (k : Nat) (C : Addr) (f : Addr) (fd : FuncData) (ps : List Str) (sp : Sp) : Prop where
  F : FnOk P w K mg base CX0 k f fd ps sp
  M : Mk K C f
  b : Binds K fd ps []
theorem Fun.go {x qual : Str} {st : Stmt} {f : Addr} {fd : FuncData} {ps N : List Str} {k : Nat} (F : Fun K x qual st f fd) (S : FnScope N ps (defScope st)) (pre : Pre) (len : ∀ ss u post, pre ss u post → ss.length = ps.length)
    (hbody : ∀ (cdv : Value) (A : Around) (outer : List Env) (s : Shared) (H M : Hp) (vs : List V) (Q : VK) (E : XK) (ss : List Sl) (u : Own) (post : Rs → Own → Prop), Room k (A.deeper (envOfC qual (defScope st) s.heap.objs.size f cdv)) → pre ss u post →
      Ds K ⟨H, M, u.map (·.1)⟩ M (L2.start N vs) H M (ss ++ List.replicate (N.length - ss.length) .u) u [] → (∀ r u' v H', post r u' → Fin K ⟨H, M, u.map (·.1)⟩ r u' v H' → Q v H') →
      ∃ t, PSs (cxOf CX0 P w K mg base N qual (defScope st) f cdv A outer s H E).nox (defBody st) t ∧ t { nx := fun _ H' => Q .non H', rt := Q } (L2.start N vs) H) : FnOk P w K mg base CX0 (k + 1) f fd ps (spG K pre) := by
  refine F.ok S (fun vs H Q E h => ?_) (fun cdv A outer s H vs Q E hr h => ?_)
  · obtain ⟨M, ss, u, post, _, h2, _, _, h5, _⟩ := h
    exact h2.length.trans (len _ _ _ h5)
  · obtain ⟨M, ss, u, post, h1, h2, h3, h4, h5, q⟩ := h
    exact hbody cdv A outer s H M vs Q E ss u post hr h5 (Ds.init h1 h2 h3 h4) q
theorem Fun.vain {x qual : Str} {st : Stmt} {f : Addr} {fd : FuncData} {ps N : List Str} {k : Nat} (F : Fun K x qual st f fd) (S : FnScope N ps (defScope st)) (pre : Pre) (h : ∀ ss u post, ¬ pre ss u post) : FnOk P w K mg base CX0 (k + 1) f fd ps (spG K pre) :=
  Fun.go F S pre (fun ss u post z => (h _ _ _ z).elim) fun cdv A outer s H M vs Q E ss u post hr z _ _ => (h _ _ _ z).elim
theorem Fun.goX {x qual : Str} {st : Stmt} {f : Addr} {fd : FuncData} {ps N : List Str} {k : Nat} (F : Fun K x qual st f fd) (S : FnScope N ps (defScope st)) (pre : List Sl → Own → (Own → Own → Prop) → Prop) (len : ∀ ss u post, pre ss u post → ss.length = ps.length)
    (hbody : ∀ (cdv : Value) (A : Around) (outer : List Env) (s : Shared) (H M : Hp) (vs : List V) (Q : VK) (E : XK) (ss : List Sl) (u : Own) (post : Own → Own → Prop), Room k (A.deeper (envOfC qual (defScope st) s.heap.objs.size f cdv)) → pre ss u post →
      Ds K ⟨H, M, u.map (·.1)⟩ M (L2.start N vs) H M (ss ++ List.replicate (N.length - ss.length) .u) u [] → (∀ u' ex v H', post u' ex → FinX K ⟨H, M, u.map (·.1)⟩ u' ex v H' → Q v H') →
      ∃ t, PSs (cxOf CX0 P w K mg base N qual (defScope st) f cdv A outer s H E).nox (defBody st) t ∧ t { nx := fun _ H' => Q .non H', rt := Q } (L2.start N vs) H) : FnOk P w K mg base CX0 (k + 1) f fd ps (spX K pre) := by
  refine F.ok S (fun vs H Q E h => ?_) (fun cdv A outer s H vs Q E hr h => ?_)
  · obtain ⟨M, ss, u, post, _, h2, _, _, h5, _⟩ := h
    exact h2.length.trans (len _ _ _ h5)
  · obtain ⟨M, ss, u, post, h1, h2, h3, h4, h5, q⟩ := h
    exact hbody cdv A outer s H M vs Q E ss u post hr h5 (Ds.init h1 h2 h3 h4) q
end
/-! xs.append(e), xs anything -/
def AppG (K : PySem.W.Frag) (te : TE) (σ : L2.St) (Q : VK) (x : V) (H1 : Hp) : Prop := tyV K "list" x H1 ∧ te σ H1 fun y H2 => AppK K Q x y H2
section
variable {K : PySem.W.Frag} {C : Fx} {B : Hp} {σ : L2.St} {H M : Hp} {ρ : List Sl} {w : Own} {tp : List (V × PyData)} {Q : VK} {te ta : TE} {p : Addr} {ds : List PyData} {v : V}
theorem x_appG (h : ta σ H fun x H1 => AppG K te σ Q x H1) : tBM K "list" rAppend ta (tCons te tNil) σ H Q := h
theorem h_appG (h : AppG K te σ Q v H) : AppG K te σ Q v H := h
theorem x_appGK (j : Nat) (S : Ds K C B σ H M ρ w tp) (hj : w[j]? = some (p, .lst ds)) (q : te σ H fun y H2 => AppK K Q (.ref p) y H2) : AppG K te σ Q (.ref p) H := by
  obtain ⟨_, us, h1, _⟩ := S.own _ (List.mem_of_getElem? hj)
  exact ⟨.inl ⟨rfl, us, .of h1⟩, q⟩
end
section
variable {X : Cx} {K : PySem.W.Frag} {st : Stmt}
theorem kSF {ta tv : TE} {f : Str} (p : PS X st (sFld X.K ta tv f)) (h : X.K = K := by rfl) : PS X st (sFld K ta tv f) := h ▸ p
theorem kMin (hc : X.calm = true) (h : X.K = K := by rfl) : CallR X (.builtin "min") (rMin K) := h ▸ cr_min hc
theorem kMax (hc : X.calm = true) (h : X.K = K := by rfl) : CallR X (.builtin "max") (rMax K) := h ▸ cr_max hc
end
section
variable {P : Program} {w : World} {K : PySem.W.Frag} {mg : Str → Option Value} {base : Heap}
theorem Mt.fr {k : Nat} {C f : Addr} {m : Str} {fd : FuncData} {ps : List Str} {sp : Sp} (t : Mt P w K mg base k C m f fd ps sp) : FnR P w K mg base CX0 k f sp :=
  (t.F.raw t.b .nil).imp fun vs H Q E h => by rw [List.append_nil]; exact h
end
/-! o.m(*y) -/
section
variable {X : Cx} {o e2 : Expr} {m : Str} {p apos pos : Pos} {A g : Addr} {sp : Sp} {ta t2 : TE}
def tMethS (A : Addr) (m : Str) (K : PySem.W.Frag) (g : Addr) (sp : Sp) (E : XK) (ta t2 : TE) : TE := fun σ H Q => ta σ H fun x H1 => ∃ a dx fs, x = .ref a ∧ H1 a = some (.ins A dx fs) ∧ fs.lookup m = none ∧
  ∀ q, H1 q = none → t2 σ (upd H1 q (.met g a)) fun y2 H2 => ∃ b vs, y2 = .ref b ∧ (SqT K H2 b vs ∨ SqL K H2 b vs) ∧ H2 q = some (.met g a) ∧ sp (.ref a :: vs) H2 Q E
theorem pe_methS {CX : CXT} {k : Nat} {K : PySem.W.Frag} {E : XK} (he : PE X o ta) (c : Cls X.K A) (b : BMeth X.K A m g) (F : FnR X.prog X.w X.K X.mg X.base CX k g sp) (hr : Room k X.A) (hx : Passes CX X E) (h2 : PE X e2 t2) (hK : X.K = K := by rfl) (hbase : attributeBase o m X.env (eval o X.env) = eval o X.env := by rfl)
    (hst : starEach [.Starred e2 p] X.env = [(true, eval e2 X.env)] := by rfl) : PE X (.Call (.Attribute o m apos) [.Starred e2 p] [] pos) (tMethS A m K g sp E ta t2) := by
  refine Pf.Gate.out ?_
  simp (disch := (with_unfolding_all (
      subst hK
      refine ⟨fun pins s σ H Q I h => ?_⟩
      have hke : backToKw pos (keywordEach [] X.env) = [] := rfl
      have hform : methodCallForm ([Expr.Starred e2 p].length + ([] : List Keyword).length) (backTo pos [(true, eval e2 X.env)]) [] = false := rfl
      have hcal : ∀ ov, calleeOf false o X.env ov m = (getAttr ov m true >>= fun v => pure (v, [])) := fun _ => rfl
      rw [arm_eval_Call, hbase, hst, hke]
      refine wpAny_bind (thn (he.run pins s σ H _ I h) fun u s1 ⟨x, H1, I1, rx, a, dx, fs, ex, ea, l, q⟩ => ?_)
      subst ex
      obtain rfl : u = Value.ref a := rx
      refine wpAny_bind (wpAny_standAt ?_)
      unfold methodCall
      rw [hform, show methodCallPos false o X.env apos pos = pure pos from rfl, hcal]
      refine wpAny_bind (wpAny_holding (wpAny_bind (getbound_ok I1 ea c b l fun q1 s2 hq1 I2 => wpAny_pure ?_)))
      refine wpAny_bind (wpAny_pure ?_)
      refine PySem.W.ks_call (P := PySem.W.MethP X.K q1 g (.ref a)) rfl (PySem.W.keeps_M b.fi) (PySem.W.ks_lone (thn (h2.run pins s2 σ _ _ I2 (q q1 hq1)) fun v2 s4 ⟨y2, H3, I4, ry2, t, vs, ey, ht, hm, hsp⟩ => ?_))
      subst ey
      obtain rfl : v2 = Value.ref t := ry2
      refine StX.star_any I4 ht fun us s5 I5 rv => ?_
      exact ⟨met_P I5 hm, wpAny_call (PySem.W.method_call (met_P I5 hm).1 (run_fnR (us := Value.ref a :: us) (vs := V.ref a :: vs) F hr hx I5 (.cons rfl rv) hsp))⟩
    ))) only [↓Pf.Gate.lem]
end
section
variable {K : PySem.W.Frag} {C : Fx} {B : Hp} {σ : L2.St} {H M : Hp} {ρ : List Sl} {w : Own} {tp : List (V × PyData)} {Q : VK} {E : XK} {t2 : TE} {i : Nat} {p A g dx : Addr} {m : Str} {sp : Sp} {fs : List (Str × V)} {ds : List PyData}
def StarK (K : PySem.W.Frag) (g a q : Addr) (sp : Sp) (E : XK) (Q : VK) (y2 : V) (H2 : Hp) : Prop := ∃ b vs, y2 = .ref b ∧ (SqT K H2 b vs ∨ SqL K H2 b vs) ∧ H2 q = some (.met g a) ∧ sp (.ref a :: vs) H2 Q E
theorem x_methS (j : Nat) (S : Ds K C B σ H M ρ w tp) (h : ρ[i]? = some (.v (.ref p))) (hj : w[j]? = some (p, .ho (.ins A dx fs))) (l : fs.lookup m = none) (q : ∀ q H', Ds K C B σ H' M ρ ((q, .ho (.met g p)) :: w) tp → t2 σ H' (StarK K g p q sp E Q)) : tMethS A m K g sp E (tVar i) t2 σ H Q := by
  obtain ⟨v, h1, h2⟩ := S.get h (fun z => nomatch z)
  cases (show v = .ref p from h2)
  exact ⟨_, h1, p, dx, fs, rfl, (S.own _ (List.mem_of_getElem? hj)).2, l, fun q' hq => q q' _ (S.newO (od := .ho (.met g p)) hq upd_same)⟩
/-- the list that is handed on, an own one of three ints -/
theorem x_star3 {q b : Addr} {a1 a2 a3 : Int} (j : Nat) (S : Ds K C B σ H M ρ ((q, .ho (.met g p)) :: w) tp) (hj : w[j]? = some (b, .lst [.int a1, .int a2, .int a3])) (h : sp [.ref p, .int a1, .int a2, .int a3] H Q E) : StarK K g p q sp E Q (.ref b) H := by
  obtain ⟨_, us, h1, h2⟩ := S.own _ (List.mem_cons_of_mem _ (List.mem_of_getElem? hj))
  rw [dpAll_ints (ns := [a1, a2, a3]) h2] at h1
  exact ⟨b, _, rfl, .inr (.of h1), (S.own _ (List.mem_cons_self ..)).2, h⟩
end
end Pf

namespace Pf
open PySem PySem.Spec PyProof.Rows L2
/-! lists of tuples that were made while the program ran; dicts that a comprehension makes of them -/
section
variable {K : PySem.W.Frag} {C : Fx} {B : Hp} {σ : L2.St} {H M H' M' : Hp} {ρ ρ' ρ2 : List Sl} {w w' w1 : Own} {tp : List (V × PyData)} {Q R : VK} {te tk tv : TE} {tt : TT} {g : TG} {v y x : V} {ds acc : List PyData} {e d : PyData} {p a b Z : Addr} {vs : List Nat} {i : Nat} {D : Addr} {kvs : List (List Key × PyData)} {ks : List Key}
theorem tups_dp (h : Paired (TupM K M) (us : List V) ds) : DpAll K M us ds := paired_dp (L2.Paired.mapP h fun _ _ z => z.dp)
/-- such a list is a list -/
theorem Ds.ofLt (j : Nat) (S : Ds K C B σ H M ρ w tp) (hj : w[j]? = some (a, .lt ds)) (hw : SetAt w j (a, .lst ds) w') : Ds K C B σ H M ρ w' tp := by
  have e := hw.eq
  subst e
  refine S.step (O := []) (Fr.refl [] S.sub) (fun _ h => nomatch h) ?_ fun q hq => ?_
  · rw [List.map_set]
    exact set_self (by rw [List.getElem?_map, hj]; rfl)
  · rcases List.mem_or_eq_of_mem_set hq with hq | rfl
    · exact (S.own q hq).2
    · obtain ⟨us, h1, h2⟩ := (S.own _ (List.mem_of_getElem? hj)).2
      exact ⟨us, h1, tups_dp h2⟩
/-- what a turn of a comprehension reaches -/
def LcNt (K : PySem.W.Frag) (C : Fx) (B : Hp) (I : Nat → List PyData → Own → Prop) (σ : L2.St) (ρ : List Sl) (D : Addr) (i : Nat) : Hp → Prop := fun H => ∃ M acc w, I i acc w ∧ Ds K C B σ H M ρ ((D, .lt acc) :: w) []
abbrev LcStepT (K : PySem.W.Frag) (C : Fx) (B : Hp) (I : Nat → List PyData → Own → Prop) (σ : L2.St) (ρ : List Sl) (g : TG) (tt : TT) (te : TE) (vs : List Nat) (D : Addr) (i : Nat) (u : V) (H : Hp) : Prop :=
  g u (wipe σ vs) H fun σ2 H2 => wipe σ2 vs = wipe σ vs ∧ tt σ2 H2 fun b H3 => if b = true then te σ2 H3 (LcA (LcNt K C B I (wipe σ vs) (uset vs ρ) D (i + 1)) D) else LcNt K C B I (wipe σ vs) (uset vs ρ) D (i + 1) H3
theorem x_wlcTt (I : Nat → List PyData → Own → Prop) (S : Ds K C B σ H M ρ w tp) (ht : Tm tp v (.tuple ds)) (h0 : I 0 [] w)
    (hs : ∀ i d acc w1, ds[i]? = some d → I i acc w1 → ∀ D u H1 M1, Ds K C M (wipe σ vs) H1 M1 (uset vs ρ) ((D, .lt acc) :: w1) [(u, d)] → LcStepT K C M I σ ρ g tt te vs D i u H1)
    (hd : ∀ acc w1, I ds.length acc w1 → ∀ D H1 M1, Ds K C B σ H1 M1 ρ ((D, .lt acc) :: w1) tp → Q (.ref D) H1) : ForT K (LcB g tt te vs Q σ) v H := by
  obtain ⟨p, xs, rfl, h1, h2⟩ := dp_tup (ht.dp S)
  refine ⟨p, rfl, ⟨xs, Same.seqT S.sub h1⟩, fun D hD => lc_tup (xs := xs) (LcNt K C M I (wipe σ vs) (uset vs ρ) D) ?_ (fun i H1 _ q => ?_) (fun i x H1 hx q => ?_) (fun H1 q => ?_)⟩
  · exact ⟨M, [], w, h0, (S.base.clr.wiped vs).newO (od := .lt []) hD ⟨[], upd_same, .nil⟩⟩
  · obtain ⟨M1, acc, w1, _, S1⟩ := q
    exact Same.seqT (S1.bs.trans S1.sub) h1
  · obtain ⟨M1, acc, w1, q, S1⟩ := q
    have hi : i < ds.length := by rw [← dpAll_len h2]; exact (List.getElem?_eq_some_iff.mp hx).1
    have e := List.getElem?_eq_getElem hi
    exact hs i _ acc w1 e q D x H1 M1 (S1.push (Dp.same S1.bs (dpAll_at h2 i x _ hx e)))
  · obtain ⟨M1, acc, w1, q, S1⟩ := q
    exact hd acc w1 (dpAll_len h2 ▸ q) D H1 M1 (S.outof S1)
theorem x_wlcLt (I : Nat → List PyData → Own → Prop) (S : Ds K C B σ H M ρ w tp) (ht : Tm tp v (.list ds)) (h0 : I 0 [] w)
    (hs : ∀ i d acc w1, ds[i]? = some d → I i acc w1 → ∀ D u H1 M1, Ds K C M (wipe σ vs) H1 M1 (uset vs ρ) ((D, .lt acc) :: w1) [(u, d)] → LcStepT K C M I σ ρ g tt te vs D i u H1)
    (hd : ∀ acc w1, I ds.length acc w1 → ∀ D H1 M1, Ds K C B σ H1 M1 ρ ((D, .lt acc) :: w1) tp → Q (.ref D) H1) : ForL K (LcB g tt te vs Q σ) v H := by
  obtain ⟨p, xs, rfl, h1, h2⟩ := dp_lst (ht.dp S)
  refine ⟨p, rfl, ⟨xs, S.sub.seq h1⟩, fun D hD => lc_list (xs := xs) (LcNt K C M I (wipe σ vs) (uset vs ρ) D) ?_ (fun i H1 _ q => ?_) (fun i x H1 hx q => ?_) (fun H1 q => ?_)⟩
  · exact ⟨M, [], w, h0, (S.base.clr.wiped vs).newO (od := .lt []) hD ⟨[], upd_same, .nil⟩⟩
  · obtain ⟨M1, acc, w1, _, S1⟩ := q
    exact (S1.bs.trans S1.sub).seq h1
  · obtain ⟨M1, acc, w1, q, S1⟩ := q
    have hi : i < ds.length := by rw [← dpAll_len h2]; exact (List.getElem?_eq_some_iff.mp hx).1
    have e := List.getElem?_eq_getElem hi
    exact hs i _ acc w1 e q D x H1 M1 (S1.push (Dp.same S1.bs (dpAll_at h2 i x _ hx e)))
  · obtain ⟨M1, acc, w1, q, S1⟩ := q
    exact hd acc w1 (dpAll_len h2 ▸ q) D H1 M1 (S.outof S1)
theorem x_lcAt {I : Nat → List PyData → Own → Prop} {σ0 : L2.St} (S : Ds K C B σ H M ρ ((D, .lt acc) :: w) tp) (hr : Rew K C B σ ρ σ0 ρ2) (ht : TupM K M y e) (hl : acc.length < sizeLine) (hI : I (i + 1) (acc ++ [e]) w) : LcA (LcNt K C B I σ0 ρ2 D (i + 1)) D y H := by
  obtain ⟨_, us, h1, h2⟩ := S.own _ (List.mem_cons_self ..)
  exact ⟨us, h1, by rw [Paired.length h2]; exact hl, M, acc ++ [e], w, hI, hr (S.mut (j := 0) (od' := .lt (acc ++ [e])) rfl ⟨_, upd_same, h2.snoc ht⟩)⟩
theorem x_lcNt {I : Nat → List PyData → Own → Prop} {σ0 : L2.St} (S : Ds K C B σ H M ρ ((D, .lt acc) :: w) tp) (hr : Rew K C B σ ρ σ0 ρ2) (hI : I (i + 1) acc w) : LcNt K C B I σ0 ρ2 D (i + 1) H := ⟨M, acc, w, hI, hr S⟩
theorem x_sortT (j : Nat) (S : Ds K C B σ H M ρ w tp) (hj : w[j]? = some (p, .lt ds)) (h1 : PySem.W.AllAlike ds) (h2 : PySem.W.Sortable ds) (h3 : ∀ d ∈ ds, d.depth ≤ 60) (q : ∀ l H', Ds K C B σ H' M ρ ((l, .lt (srt ds)) :: w) tp → R (.ref l) H') : rSortedX K [.ref p] H R := by
  obtain ⟨_, us, c, d⟩ := S.own _ (List.mem_of_getElem? hj)
  exact ⟨TupM K M, p, us, ds, rfl, fun _ _ z => Dp.same S.sub z.dp, .of c, d, h1, h2, h3, fun ys l hl hy => q l _ (S.newO (od := .lt (srt ds)) hl ⟨ys, upd_same, hy⟩)⟩
end
theorem paired_at {α β : Type} {F : α → β → Prop} : ∀ {l : List α} {m : List β} {i : Nat} {x : α} {y : β}, Paired F l m → l[i]? = some x → m[i]? = some y → F x y
  | _, _, i, _, _, .nil, h, _ => by simp at h
  | _, _, 0, _, _, .cons h _, h1, h2 => by
    simp at h1 h2
    subst h1
    subst h2
    exact h
  | _, _, i + 1, _, _, .cons _ t, h1, h2 => paired_at t (by simpa using h1) (by simpa using h2)
theorem u0 {k : Nat} {A : Around} (r : Room k A) : A.units < cLine := by have := r.un; omega
/-! a dict by a comprehension, its keys tuples -/
def DcA (Z : Addr) (N : Hp → Prop) (y z : V) (H : Hp) : Prop := ∃ (b : Addr) (kvs : List (List Key × V)) (k : List Key), y = .ref b ∧ H b = some (.tup (k.map kV)) ∧ H Z = some (.dT kvs) ∧ kvs.length < sizeLine ∧ N (upd H Z (.dT (putK kvs k z)))
def DcB (g : TG) (tk tv : TE) (vs : List Nat) (Q : VK) (σ : L2.St) (J : It) (H1 : Hp) : Prop := ∀ Z, H1 Z = none → ∃ U : Nat → Nat → Hp → Prop, (∃ m, U 0 m (upd H1 Z (.dT []))) ∧ ∀ i m H, U i m H →
  (J.stop i H ∧ Q (.ref Z) H) ∨ (J.go i H ∧ ∃ N : Hp → Prop, (∀ H', N H' → ∃ m', m' < m ∧ U (i + 1) m' H') ∧ ∀ x H', J.yld i H x H' → g x (wipe σ vs) H' fun σ2 H2 => wipe σ2 vs = wipe σ vs ∧ tk σ2 H2 fun y H3 => tv σ2 H3 (DcA Z N y))
def tDct (wi : TI) (g : TG) (tk tv : TE) (vs : List Nat) : TE := fun σ H Q => wi σ H (DcB g tk tv vs Q σ)
section
variable {X : Cx}
theorem d_setT {pins : List (Addr × Obj)} {σ : L2.St} {H : Hp} {s : Shared} {E : Value → Shared → Prop} {Z b : Addr} {kvs : List (List Key × V)} {k : List Key} {v : V} {r : Value} {Q : Unit → Shared → Prop} (hu : X.A.units < cLine) (I : Inv X pins σ H s) (hZ : H Z = some (.dT kvs)) (l : kvs.length < sizeLine)
    (eb : H b = some (.tup (k.map kV))) (rv : RelV v r) (h : ∀ s', Inv X pins σ (upd H Z (.dT (putK kvs k v))) s' → Q () s') : wpAny (model X.prog X.w) X.A (dictSet Z (.ref b) r) Q E s := by
  obtain ⟨z, hd, xs, rel, dd⟩ := dt_of I.hok hZ
  have hz : xs.length ≤ sizeLine := by rw [← Paired.length rel]; exact z
  have hl : (putK kvs k v).length ≤ sizeLine := by have := length_putK kvs k v; omega
  refine wpAny_dictSet_heap (hsz := hz) (knd := tupleKind (mixKind X.prog X.w)) hu (key_of I.hok eb) dd fun h' dd' hs => h _ ?_
  obtain ⟨q, es, ep, hq, h2, h3, h4, _, h5⟩ := dd'
  refine d_write I (by rw [hZ]; exact True.intro) hs ⟨q, hq⟩ ⟨hl, hd, _, (rel.put k eb rv).keeps fun c ys ec => ?_, q, es, ep, hq, h2, h3, h4, h5⟩
  rw [upd_ne (ne_of ec hZ (fun z => nomatch z))]
  exact ec
theorem dct_core {pins : List (Addr × Obj)} {s : Shared} {σ : L2.St} {H : Hp} {Q : VK} {use : Option (Value → Sem Unit)} {Qf : Value → Shared → Prop} {pos' : Pos} {ke ve tg iter : Expr} {scope : Scope} {own : List (Str × Nat)} {pos : Pos} {wi : TI} {g : TG} {tk tv : TE} (calm : X.calm = true) (hu : X.A.units < cLine) (nd : X.N.Nodup) (I : Inv X pins σ H s) (pit : PI X tg iter wi) (blk : BlkOk X.N X.env.scope scope own)
    (ptg : ∀ s H C cl fp, PG (X.blk s H scope (compEnvC scope cl C X.env) fp) tg g) (pke : ∀ s H C cl fp, PE (X.blk s H scope (compEnvC scope cl C X.env) fp) ke tk) (pve : ∀ s H C cl fp, PE (X.blk s H scope (compEnvC scope cl C X.env) fp) ve tv) (fold : ∀ x, foldedSetIterable iter X.env x = pure x) (start : tDct wi g tk tv (own.map (·.2)) σ H Q)
    (ends : ∀ Z C s' m H', Inv X pins σ H' s' → Q (.ref Z) H' → s'.heap.Ns C m → FpOk X pins H' C → compPost (model X.prog X.w) X.A X.xe use Qf (.ref Z) C (.ok .next) s') :
    wpAny (model X.prog X.w) X.A (comprehension (.DictComp ke ve [⟨tg, iter, [], 0⟩] scope pos) scope X.env pos' newDict false (eval iter X.env) use) Qf X.xe s := by
  refine Pf.Gate.out ?_
  simp (disch := (with_unfolding_all (
      have clo : ∀ y ∈ scope.names, y.2 = .free → ∃ c, X.env.cells.lookup y.1 = some c := fun y hy e => (blk.free y hy e).elim (fun k => I.ok.has _ (.inl k)) (fun k => I.ok.has _ (.inr k))
      refine wpAny_comprehension_free (use := use) rfl fold (closure_ok clo) blk.kind (fun y hy e => by rw [blk.uniq y hy, e]) (thn (pit.run pins s σ H _ I start) fun _ _ got => thn got fun _ s2 ⟨it, fp, tn, J, H2, e, I2, T, st2, f2, body⟩ => ?_)
      subst e
      refine wpAny_newObj_type (newEnv_comp ?_)
      generalize hz : s2.heap.objs.size = Z
      have zn : H2 Z = none := I2.hok.fresh (Nat.le_of_eq hz)
      obtain ⟨U, ⟨m0, u0⟩, turns⟩ := body Z zn
      generalize h3 : ({ s2 with heap := s2.heap.push { cls := .type "dict", data := .dict #[] } } : Shared) = s3
      have hp3 : s3.heap = s2.heap.push { cls := .type "dict", data := .dict #[] } := by subst h3; rfl
      have old : ∀ b o, s2.heap.get? b = some o → s3.heap.get? b = some o := fun b o q => by rw [hp3]; exact Heap.get?_push_of_some _ q
      have I3 : Inv X pins σ (upd H2 Z (.dT [])) s3 := by
        subst h3
        subst hz
        exact I2.laid (t' := s2.toks) (fun _ _ q => Heap.get?_push_of_some _ q) (Nat.le_refl _) (dt_empty s2.heap I2.big)
      have f3 : ∀ b ∈ fp, FpOk X pins (upd H2 Z (.dT [])) b ∧ b < s3.heap.objs.size := fun b hb => by
        obtain ⟨o, q, _⟩ := T.obj _ _ st2 b hb
        have lt := Heap.lt_size q
        exact ⟨⟨(upd_ne (hz ▸ Nat.ne_of_lt lt)).trans (f2 b hb).1, (f2 b hb).2⟩, by rw [hp3, Heap.size_push]; exact Nat.lt_succ_of_lt lt⟩
      have st3 := T.keep _ _ _ st2 fun b _ => old b
      have I4 := block_start I3 blk nd f3
      have ptg := ptg s3 (upd H2 Z (.dT [])) s3.heap.objs.size (cellsFrom (s3.heap.objs.size + 1) scope.names (cloFrom X.env.cells scope.names [])) fp
      have pke := pke s3 (upd H2 Z (.dT [])) s3.heap.objs.size (cellsFrom (s3.heap.objs.size + 1) scope.names (cloFrom X.env.cells scope.names [])) fp
      have pve := pve s3 (upd H2 Z (.dT [])) s3.heap.objs.size (cellsFrom (s3.heap.objs.size + 1) scope.names (cloFrom X.env.cells scope.names [])) fp
      have z3 : ∀ b ∈ fp, (upd H2 Z (.dT [])) b = none := fun b hb => (f3 b hb).1.1
      show codeAny _ _ (.compStart _ 0 (.ref it) (.ref Z) (compEnvC scope (cellsFrom (s3.heap.objs.size + 1) scope.names (cloFrom X.env.cells scope.names [])) s3.heap.objs.size X.env)) (compPost _ X.A X.xe use _ (.ref Z) s3.heap.objs.size) { s3 with heap := pushCells (s3.heap.push { cls := .type "dict", data := .dict #[] }) scope.names }
      generalize hce : compEnvC scope (cellsFrom (s3.heap.objs.size + 1) scope.names (cloFrom X.env.cells scope.names [])) s3.heap.objs.size X.env = ce at I4 ptg pke pve ⊢
      have loc : ce.locals = s3.heap.objs.size := by subst hce; rfl
      generalize upd H2 Z (.dT []) = H3 at I3 I4 ptg pke pve u0 z3 f3
      have st4 : tn 0 (pushCells (s3.heap.push { cls := .type "dict", data := .dict #[] }) scope.names) := T.keep _ _ _ st3 fun b _ o q => pushCells_keeps _ _ _ _ (Heap.get?_push_of_some _ q)
      generalize h4 : ({ s3 with heap := pushCells (s3.heap.push { cls := .type "dict", data := .dict #[] }) scope.names } : Shared) = s4 at I4 ⊢
      have st4 : tn 0 s4.heap := by subst h4; exact st4
      have fps : ∀ {σ' : L2.St} {H' : Hp} {s' : Shared}, Inv (X.blk s3 H3 scope ce fp) [] σ' H' s' → (∀ b ∈ fp, H' b = none) → ∀ b ∈ fp, FpOk (X.blk s3 H3 scope ce fp) [] H' b := fun {_ _ _} J n b hb =>
        ⟨n b hb, (J.ok.exf b hb).1, J.ok.exfs b hb, .inl hb, fun x c q => (J.ok.exf b hb).2 x c q, fun p hp => by cases (show p ∈ ([] : List (Addr × Obj)) from hp)⟩
      have run : codeAny (model X.prog X.w) X.A (.compLoop (.DictComp ke ve [⟨tg, iter, [], 0⟩] scope pos) 0 (.ref it) (.ref Z) ce) (compPost (model X.prog X.w) X.A X.xe use Qf (.ref Z) s3.heap.objs.size) s4 := by
        refine compLoop_anyD (fun n s' => ∃ i H', Inv (X.blk s3 H3 scope ce fp) [] (wipe σ (own.map (·.2))) H' s' ∧ tn i s'.heap ∧ (∀ b ∈ fp, H' b = none) ∧ U i n H') ?_ m0 ⟨0, H3, I4, st4, z3, u0⟩
        rintro n s5 ⟨i, H5, I5, st5, z5, u5⟩
        rcases turns i n H5 u5 with ⟨stop, fin⟩ | ⟨go, N, less, step⟩
        · refine thnF (T.done (X.blk s3 H3 scope ce fp) rfl rfl rfl calm i [] s5 _ H5 (fun _ _ => False) I5 (fps I5 z5) st5 stop) fun r s6 ⟨hr, I6⟩ => ?_
          subst hr
          have fr : H5 s3.heap.objs.size = none := loc ▸ I6.free
          have I7 : Inv X pins σ H5 s6 := I3.call' (ch := fp) I6.os I6.base I6.hok I6.bare fun b hb => by
            obtain ⟨⟨_, q1, q2, q3, q4, q5⟩, _⟩ := f3 b hb
            exact ⟨q3, q1, q4, q5⟩
          obtain ⟨m, hn, _⟩ := I6.loc
          exact ends Z s3.heap.objs.size s6 m H5 I7 fin (loc ▸ (show s6.heap.Ns ce.locals m from hn)) (I3.fpOk (Nat.le_refl _) fr)
        · refine thnF (T.item (X.blk s3 H3 scope ce fp) rfl rfl rfl calm i [] s5 _ H5 (fun _ _ => False) I5 (fps I5 z5) st5 go) fun r s6 ⟨u, hr, h6⟩ => ?_
          subst hr
          refine thnF h6 fun _ s7 ⟨x, H7, I7, r7, y7, st7, z7⟩ => ?_
          refine thnF (ptg.run _ s7 _ H7 x u _ (I7.pinned (fps I7 z7) (T.obj _ _ st7)) r7 (step x H7 y7)) fun _ s8 ⟨σ8, H8, I8, w8, q8⟩ => ?_
          refine thnF ((pts_nil (X := X.blk s3 H3 scope ce fp)).run _ s8 σ8 H8 (fun c H' => c = true ∧ H' = H8) I8 ⟨rfl, rfl⟩) fun b s9 ⟨H9, I9, hb, e9⟩ => ?_
          subst hb
          subst e9
          rw [if_pos rfl]
          refine thnF (pke.run _ s9 σ8 H9 _ I9 q8) fun z s10 ⟨yk, H10, I10, r10, q10⟩ => ?_
          refine thnF (pve.run _ s10 σ8 H10 _ I10 q10) fun z2 s11 ⟨yv, H11, I11, r11, kb, kvs, k, ek, hk, hZ, room, nx⟩ => ?_
          subst ek
          obtain rfl : z = Value.ref kb := r10
          refine d_setT (X := X.blk s3 H3 scope ce fp) hu I11 hZ room hk r11 fun s12 I12 => ?_
          obtain ⟨m', lt, u'⟩ := less _ nx
          have keep : ∀ b ∈ fp, ∀ o, s7.heap.get? b = some o → s12.heap.get? b = some o ∧ (upd H11 Z (.dT (putK kvs k yv))) b = none := fun b hb o q =>
            have := I12.pin (b, o) (List.mem_append_right _ (List.mem_append_right _ (mem_pinsAt hb q)))
            ⟨this.1, this.2.1⟩
          refine ⟨m', lt, i + 1, _, (I12.unpinned (pins := [])).weak (by rw [← w8, wipe_length]) (fun j v q => (wipe_some (w8 ▸ q)).1), T.keep _ _ _ st7 fun b hb o q => (keep b hb o q).1, fun b hb => ?_, u'⟩
          obtain ⟨o, q, _⟩ := T.obj _ _ st7 b hb
          exact (keep b hb o q).2
      exact codeAny_compStart_dict run (T.self X.A 0 _ _ _ st4 run)
    ))) only [↓Pf.Gate.lem]
theorem pe_dct {ke ve tg iter : Expr} {scope : Scope} {own : List (Str × Nat)} {pos : Pos} {wi : TI} {g : TG} {tk tv : TE} (calm : X.calm = true) (hu : X.A.units < cLine) (nd : X.N.Nodup) (pit : PI X tg iter wi) (blk : BlkOk X.N X.env.scope scope own)
    (ptg : ∀ s H C cl fp, PG (X.blk s H scope (compEnvC scope cl C X.env) fp) tg g) (pke : ∀ s H C cl fp, PE (X.blk s H scope (compEnvC scope cl C X.env) fp) ke tk) (pve : ∀ s H C cl fp, PE (X.blk s H scope (compEnvC scope cl C X.env) fp) ve tv) (fold : ∀ x, foldedSetIterable iter X.env x = pure x := by intro _; rfl) :
    PE X (.DictComp ke ve [⟨tg, iter, [], 0⟩] scope pos) (tDct wi g tk tv (own.map (·.2))) := by
  refine ⟨fun pins s σ H Q I start => ?_⟩
  rw [arm_eval_DictComp]
  refine dct_core calm hu nd I pit blk ptg pke pve fold start fun Z C s' m H' I' q hn f => ⟨m, hn, fun h'' sb => ?_⟩
  obtain ⟨g0, g1, g2, g3, g4, g5⟩ := f
  exact ⟨.ref Z, H', I'.turned (t' := s'.toks) (fun b o hb q => (sb.2 b hb).trans q) g0 g1 g3 g4 g5, rfl, q⟩
theorem swD {ke ve : Expr} {gs : List Comprehension} {scope : Scope} {pos py : Pos} {y : Str} {l : Nat} {env : Env} (fn : env.scope.kind = .function) (lo : env.scope.names.lookup y = some .local) (row : (py.line == pos.line) = true)
    (free : (scope.names.any fun (n, k) => n == y && (k == .local || k == .cell)) = false) : swapsWith (.DictComp ke ve gs scope pos) (some (.Name y py)) l env = pure true := by
  have e1 : env.kindOf y = some .local := lo
  have e2 : env.blockKind = .function := by
    unfold Env.blockKind
    rw [fn]
    rfl
  unfold swapsWith
  simp only [e1, e2, free, Expr.pos, row]
  rfl
/-- y = {k: v for ..} -/
theorem ps_setDct {i : Nat} {y : Str} {py spos : Pos} {ke ve tg iter : Expr} {scope : Scope} {own : List (Str × Nat)} {pos : Pos} {wi : TI} {g : TG} {tk tv : TE} (calm : X.calm = true) (hu : X.A.units < cLine) (nd : X.N.Nodup) (at_ : X.N[i]? = some y) (lo : X.env.scope.names.lookup y = some .local)
    (sw : swapsWith (.DictComp ke ve [⟨tg, iter, [], 0⟩] scope pos) (some (.Name y py)) spos.line X.env = pure true) (pit : PI X tg iter wi) (blk : BlkOk X.N X.env.scope scope own)
    (ptg : ∀ s H C cl fp, PG (X.blk s H scope (compEnvC scope cl C X.env) fp) tg g) (pke : ∀ s H C cl fp, PE (X.blk s H scope (compEnvC scope cl C X.env) fp) ke tk) (pve : ∀ s H C cl fp, PE (X.blk s H scope (compEnvC scope cl C X.env) fp) ve tv) (fold : ∀ x, foldedSetIterable iter X.env x = pure x := by intro _; rfl) :
    PS X (.Assign [.Name y py] (.DictComp ke ve [⟨tg, iter, [], 0⟩] scope pos) spos) (tAsg (tDct wi g tk tv (own.map (·.2))) (gName i)) := by
  refine ⟨fun pins s σ H D I start => ?_⟩
  rw [exec_Assign_Name_used _ _ _ _ sw]
  refine wpAny_bind (wpAny_standAt (wpAny_bind ?_))
  show wpAny _ X.A (do let _ ← comprehension (.DictComp ke ve [⟨tg, iter, [], 0⟩] scope pos) scope X.env (firstIterPos [⟨tg, iter, [], 0⟩] pos) newDict false (eval iter X.env) (some (assign (.Name y py) X.env))) _ _ s
  refine wpAny_bind (thn (dct_core (Qf := fun _ s' => SP X pins D .next s') (Q := fun x H1 => gName i x σ H1 D.nx) calm hu nd I pit blk ptg pke pve fold start fun Z C s' m H' I' q hn f => ?_) fun _ s' hq => wpAny_pure (wpAny_pure hq))
  show wpAny _ _ (assign (.Name y py) X.env (.ref Z)) _ _ _
  refine wpAny_assign_Name (store_ok2 (v := V.ref Z) I' nd at_ (.inl lo) rfl (fun s2 I2 ⟨c, sb, hc⟩ => ?_) (.inr lo))
  obtain ⟨g0, g1, g2, g3, g4, g5⟩ := f
  have ne : C ≠ c := hc.elim (fun z => z ▸ g1) fun z e => g4 y c z e.symm
  exact ⟨m, hn.sameBut sb ne, fun h3 sb3 => ⟨_, H', I2.turned (t' := s2.toks) (fun b o hb e => (sb3.2 b hb).trans e) g0 g1 g3 g4 g5, q⟩⟩
/-- y not in d, y any tuple -/
def tDniS (K : PySem.W.Frag) (ty td : TE) : TE := fun σ H Q => ty σ H fun y H1 => td σ H1 fun x H2 => ∃ a b kvs k, x = .ref a ∧ y = .ref b ∧ H2 a = some (.dT kvs) ∧ SqT K H2 b (k.map kV) ∧ Q (.bl (!(valV kvs k).isSome)) H2
theorem pc_dniS {o i : Expr} {td ty : TE} (hu : X.A.units + 1 < cLine) (hi : PE X i ty) (ho : PE X o td) : PC X .NotIn i o (tDniS X.K ty td) := by
  refine Pf.Gate.out ?_
  simp (disch := (with_unfolding_all (
      refine ⟨fun pins s σ H Q I h => ?_⟩
      refine thn (hi.run pins s σ H _ I h) fun iv s1 ⟨y, H1, I1, ry, q1⟩ => thn (ho.run pins s1 σ H1 _ I1 q1) fun u s2 ⟨x, H2, I2, rx, a, b, kvs, k, ex, ey, ha, hb, q2⟩ => ?_
      subst ex
      subst ey
      obtain rfl : u = Value.ref a := rx
      obtain rfl : iv = Value.ref b := ry
      obtain ⟨z, hd, xs, rel, dd⟩ := dt_of I2.hok ha
      obtain ⟨its, r, ⟨ob, h1, h2, n, h3⟩, _⟩ := I2.tuple hb
      refine wpAny_notIn_heap (knd := tupleKind (mixKind X.prog X.w)) (tupleKind_room_in1 hu) (show (tupleKind (mixKind X.prog X.w)).is s2.heap k b from ⟨ob, its.toArray, n, h1, h2, h3, by simpa using items_are r⟩) hd dd ?_
      have q := (rel.val k).isSome_eq
      rw [Option.isSome_map] at q
      rw [← q]
      exact ⟨.bl _, H2, I2.tok _, rfl, q2⟩
    ))) only [↓Pf.Gate.lem]
theorem kDni {K : PySem.W.Frag} {o i : Expr} {td ty : TE} (p : PC X .NotIn i o (tDniS X.K ty td)) (h : X.K = K := by rfl) : PC X .NotIn i o (tDniS K ty td) := h ▸ p
end
def DcN (K : PySem.W.Frag) (C : Fx) (B : Hp) (I : Nat → List (List Key × PyData) → Own → Prop) (σ : L2.St) (ρ : List Sl) (Z : Addr) (i : Nat) : Hp → Prop := fun H => ∃ M kvs w, I i kvs w ∧ Ds K C B σ H M ρ ((Z, .dt kvs) :: w) []
section
variable {K : PySem.W.Frag} {C : Fx} {B : Hp} {σ : L2.St} {H M H' M' : Hp} {ρ ρ' ρ2 : List Sl} {w w' w1 : Own} {tp : List (V × PyData)} {Q R : VK} {te tk tv ty td : TE} {tt : TT} {g : TG} {v y x : V} {ds acc : List PyData} {e d : PyData} {p a b Z : Addr} {vs : List Nat} {i : Nat} {D : Addr} {kvs : List (List Key × PyData)} {ks : List Key}
theorem x_dctL (h : te σ H fun x H1 => ForL K (DcB g tk tv vs Q σ) x H1) : tDct (iList K te) g tk tv vs σ H Q := h
/-- over an own list of tuples that were made at run time, one name -/
theorem x_dctO {k : Nat} (j : Nat) (I : Nat → List (List Key × PyData) → Prop) (S : Ds K C B σ H M ρ w tp) (hj : w[j]? = some (p, .lt ds)) (h0 : I 0 [])
    (hs : ∀ i d kvs, ds[i]? = some d → I i kvs → ∀ Z σ1 H1 M1, Rew K C M σ1 (ρ.set k (.t d)) (wipe σ [k]) (ρ.set k .u) → Ds K C M σ1 H1 M1 (ρ.set k (.t d)) ((Z, .dt kvs) :: w) [] → tk σ1 H1 fun y H3 => tv σ1 H3 (DcA Z (DcN K C M (fun i kvs w1 => I i kvs ∧ w1 = w) (wipe σ [k]) (ρ.set k .u) Z (i + 1)) y))
    (hd : ∀ kvs, I ds.length kvs → ∀ Z H1 M1, Ds K C B σ H1 M1 ρ ((Z, .dt kvs) :: w) tp → Q (.ref Z) H1) : ForL K (DcB (gName k) tk tv [k] Q σ) (.ref p) H := by
  refine Pf.Gate.out ?_
  simp (disch := (with_unfolding_all (
      obtain ⟨_, xs, h1, h2⟩ := S.own _ (List.mem_of_getElem? hj)
      have hlen : xs.length = ds.length := Paired.length h2
      have live : ∀ {σ2 : L2.St} {H1 M1 : Hp} {kvs : List (List Key × PyData)} {Z : Addr} {ρ2 : List Sl}, Ds K C M σ2 H1 M1 ρ2 ((Z, .dt kvs) :: w) [] → ∃ xs, H1 p = some (.lst xs) ∧ Paired (TupM K M1) xs ds := fun S1 => by
        obtain ⟨_, ys, a, b⟩ := S1.own _ (List.mem_of_getElem? (l := (_, .dt _) :: w) (i := j + 1) (by simpa using hj))
        exact ⟨ys, a, b⟩
      refine ⟨p, rfl, ⟨xs, .of h1⟩, fun Z hZ => ⟨fun i m H1 => m = ds.length - i ∧ i ≤ ds.length ∧ DcN K C M (fun i kvs w1 => I i kvs ∧ w1 = w) (wipe σ [k]) (ρ.set k .u) Z i H1, ⟨ds.length, rfl, Nat.zero_le _, M, [], w, ⟨h0, rfl⟩, (S.base.clr.wiped [k]).newO (od := .dt []) hZ ⟨[], upd_same, .nil⟩⟩, ?_⟩⟩
      rintro i m H1 ⟨rfl, hi, M1, kvs, w1, ⟨hI, rfl⟩, S1⟩
      obtain ⟨ys, hy, hp⟩ := live S1
      have hl2 : ys.length = ds.length := Paired.length hp
      have sq : SqL K H1 p ys := .of hy
      by_cases lt : i < ds.length
      · refine .inr ⟨⟨ys, ys[i]'(by omega), sq, List.getElem?_eq_getElem (by omega)⟩, DcN K C M (fun i kvs w2 => I i kvs ∧ w2 = w1) (wipe σ [k]) (ρ.set k .u) Z (i + 1), fun H' q => ⟨ds.length - (i + 1), by omega, rfl, lt, q⟩, ?_⟩
        rintro x H' ⟨rfl, yl⟩
        have hx := yl ys sq
        have e := List.getElem?_eq_getElem lt
        have ht : TupM K M1 x ds[i] := paired_at hp hx e
        have S2 := S1.set (i := k) (v := x) (s := .t ds[i]) ht
        rw [List.set_set] at S2
        exact ⟨wipe1, hs i _ kvs e hI Z _ _ M1 rew1 S2⟩
      · have e : i = ds.length := by omega
        exact .inl ⟨⟨ys, sq, by omega⟩, hd kvs (e ▸ hI) Z H1 M1 (S.outof S1)⟩
    ))) only [↓Pf.Gate.lem]
theorem x_dcA {I : Nat → List (List Key × PyData) → Own → Prop} {σ0 : L2.St} (S : Ds K C B σ H M ρ ((Z, .dt kvs) :: w) tp) (hr : Rew K C B σ ρ σ0 ρ2) (hb : TupM K M (.ref b) (.tuple (ks.map keyD))) (ht : Tm tp v d) (hl : kvs.length < sizeLine) (hI : I (i + 1) (putG kvs ks d) w) : DcA Z (DcN K C B I σ0 ρ2 Z (i + 1)) (.ref b) v H := by
  obtain ⟨_, ws, h1, h2⟩ := S.own _ (List.mem_cons_self ..)
  exact ⟨b, ws, ks, rfl, hb.key S.sub, h1, by rw [ptk_len h2]; exact hl, M, _, w, hI, hr (S.mut (j := 0) (od' := .dt (putG kvs ks d)) rfl ⟨_, upd_same, ptk_put h2 (ht.dp S)⟩)⟩
def DnsK (K : PySem.W.Frag) (Q : VK) (x y : V) (H : Hp) : Prop := ∃ a b kvs k, x = .ref a ∧ y = .ref b ∧ H a = some (.dT kvs) ∧ SqT K H b (k.map kV) ∧ Q (.bl (!(valV kvs k).isSome)) H
theorem x_dns (h : ty σ H fun y H1 => td σ H1 fun x H2 => DnsK K Q x y H2) : tDniS K ty td σ H Q := h
theorem x_dnsK (j : Nat) (S : Ds K C B σ H M ρ w tp) (hj : w[j]? = some (p, .dt kvs)) (hy : Tm tp y (.tuple (ks.map keyD))) (q : Q (.bl (!(valG kvs ks).isSome)) H) : DnsK K Q (.ref p) y H := by
  obtain ⟨_, ws, h1, h2⟩ := S.own _ (List.mem_of_getElem? hj)
  obtain ⟨b, xs, rfl, h3, h4⟩ := dp_tup (hy.dp S)
  rw [dpAll_keys h4] at h3
  have e : (valV ws ks).isSome = (valG kvs ks).isSome := by
    rcases ptk_val h2 ks with ⟨a, b⟩ | ⟨v, d', a, b, c⟩
    · rw [a, b]
      rfl
    · rw [a, b]
      rfl
  exact ⟨p, b, ws, ks, rfl, rfl, h1, Same.seqT S.sub h3, by rw [e]; exact q⟩
end
end Pf

namespace L2
open PySem PySem.Spec PyProof PyProof.Rows
variable {X : Cx}
/-- list + list, whatever they are -/
def rCatL (K : PySem.W.Frag) : R2 := fun x y H Q => ∃ a b xs ys, x = .ref a ∧ y = .ref b ∧ SqL K H a xs ∧ SqL K H b ys ∧ xs.length + ys.length ≤ sizeLine ∧ ∀ p, H p = none → Q (.ref p) (upd H p (.lst (xs ++ ys)))
theorem op_catL : OpR X (binaryOp .Add) (rCatL X.K) := by
  intro pins s σ H x y v u Q I rx ry h
  obtain ⟨a, b, xs, ys, rfl, rfl, ha, hb, hz, q⟩ := h
  cases rx
  cases ry
  obtain ⟨its, r, p1, _⟩ := I.list ha
  obtain ⟨its2, r2, p2, _⟩ := I.list hb
  obtain ⟨⟨cls, dd, data, sl⟩, ho, hc, n, hd⟩ := p1.isList
  obtain ⟨⟨cls2, dd2, data2, sl2⟩, ho2, hc2, n2, hd2⟩ := p2.isList
  simp only at hc hd hc2 hd2
  subst hc hd hc2 hd2
  have e1 := r.length
  have e2 := r2.length
  have ea : its.toArray ++ its2.toArray = (its ++ its2).toArray := by simp
  refine concat_meets ⟨_, ho, rfl⟩ ⟨_, ho2, rfl⟩ noFill_list_add seq_list_add PySem.F.slot_list_add PySem.F.entry_list_add (PySem.F.args_list_add_2 _ _) (list_addW a b its.toArray its2.toArray n n2 dd dd2 sl sl2 (by simp; omega)) ⟨ho, ho2, ?_⟩
  rw [ea]
  exact ⟨.ref _, _, I.lnew (t' := s.toks) (r.append r2) (by rw [List.length_append]; omega), rfl, q _ I.fresh⟩
end L2
namespace Pf
open PySem PySem.Spec PyProof.Rows L2
theorem kCatL {X : Cx} {K : PySem.W.Frag} (h : X.K = K := by rfl) : OpR X (binaryOp .Add) (rCatL K) := h ▸ op_catL
section
variable {K : PySem.W.Frag} {C : Fx} {B : Hp} {σ : L2.St} {H M : Hp} {ρ : List Sl} {w : Own} {tp : List (V × PyData)} {R : VK} {x : V} {p : Addr} {ds es : List PyData}
theorem x_catLO (j : Nat) (S : Ds K C B σ H M ρ w tp) (ht : Tm tp x (.list ds)) (hj : w[j]? = some (p, .lst es)) (hl : ds.length + es.length ≤ sizeLine)
    (z : ∀ a H', Ds K C B σ H' M ρ ((a, .lst (ds ++ es)) :: w) tp → R (.ref a) H') : rCatL K x (.ref p) H R := by
  obtain ⟨q, xs, rfl, h1, h2⟩ := dp_lst (ht.dp S)
  obtain ⟨_, ys, h3, h4⟩ := S.own _ (List.mem_of_getElem? hj)
  exact ⟨q, p, xs, ys, rfl, rfl, S.sub.seq h1, .of h3, by rw [dpAll_len h2, dpAll_len h4]; exact hl, fun a ha => z a _ (S.newL ha (dpAll_cat h2 h4))⟩
theorem x_chain {r r' : R2} {ta tb tc : TE} {Q : VK} (h : ta σ H fun x H1 => tb σ H1 fun y H2 => r x y H2 fun z H3 => ∃ k, z = .bl k ∧ (if k = true then tc σ H3 fun w' H4 => r' y w' H4 Q else Q (.bl false) H3)) : tChain r r' ta tb tc σ H Q := h
end
end Pf

namespace Pf
open PySem PySem.Spec PyProof.Rows L2
/-! concepts with numbers -/
inductive Cp where
  | any | name (n : Int) | not (c : Cp) | both (c d : Cp) | some (r : Int) (b : Bool) (c : Cp)
  deriving DecidableEq
abbrev sK (s : String) : PyData := .str (Str.ofString s)
abbrev roD (r : Int) (b : Bool) : PyData := .tuple [.int r, .bool b]
namespace Cp
def D : Cp → PyData
  | .any => .tuple [sK "any"]
  | .name n => .tuple [sK "name", .int n]
  | .not c => .tuple [sK "not", c.D]
  | .both c d => .tuple [sK "and", c.D, d.D]
  | .some r b c => .tuple [sK "some", roD r b, c.D]
def dp : Cp → Nat
  | .not c => c.dp + 1
  | .both c d => max c.dp d.dp + 1
  | .some _ _ c => c.dp + 1
  | _ => 0
def kind : Cp → String
  | .any => "any"
  | .name _ => "name"
  | .not _ => "not"
  | .both _ _ => "and"
  | .some _ _ _ => "some"
theorem lay : ∀ c : Cp, c.D.canLay0 = true
  | .any => by decide +kernel
  | .name n => by
    show (PyData.canLay0 (sK "name") && (true && true)) = true
    decide +kernel
  | .not c => by
    show (PyData.canLay0 (sK "not") && (c.D.canLay0 && true)) = true
    rw [lay c]
    decide +kernel
  | .both c d => by
    show (PyData.canLay0 (sK "and") && (c.D.canLay0 && (d.D.canLay0 && true))) = true
    rw [lay c, lay d]
    decide +kernel
  | .some r b c => by
    show (PyData.canLay0 (sK "some") && (PyData.canLay0 (roD r b) && (c.D.canLay0 && true))) = true
    rw [lay c, show PyData.canLay0 (roD r b) = true from rfl]
    decide +kernel
theorem depth : ∀ c : Cp, c.D.depth ≤ c.dp + 2
  | .any => by decide
  | .name n => by
    show max 0 (max 0 0) + 1 ≤ 0 + 2
    decide
  | .not c => by
    have := depth c
    show max 0 (max c.D.depth 0) + 1 ≤ c.dp + 1 + 2
    omega
  | .both c d => by
    have h1 := depth c
    have h2 := depth d
    show max 0 (max c.D.depth (max d.D.depth 0)) + 1 ≤ max c.dp d.dp + 1 + 2
    omega
  | .some r b c => by
    have h1 := depth c
    show max 0 (max 1 (max c.D.depth 0)) + 1 ≤ c.dp + 1 + 2
    omega
theorem eqS {s t : Str} : PyData.eqv (.str s) (.str t) = decide (s = t) := by
  show (s == t) = _
  rw [Bool.eq_iff_iff]
  simp
theorem eqI {a b : Int} : PyData.eqv (.int a) (.int b) = decide (a = b) := by
  show (a == b) = _
  rw [Bool.eq_iff_iff]
  simp
theorem eqB {a b : Bool} : PyData.eqv (.bool a) (.bool b) = decide (a = b) := by
  show (a == b) = _
  rw [Bool.eq_iff_iff]
  simp
theorem eqRo {r r' : Int} {b b' : Bool} : PyData.eqv (roD r b) (roD r' b') = (decide (r = r') && decide (b = b')) := by
  show (PyData.eqv (.int r) (.int r') && (PyData.eqv (.bool b) (.bool b') && true)) = _
  rw [eqI, eqB, Bool.and_true]
theorem kindEq {s t : String} (h : s = t) : PyData.eqv (sK s) (sK t) = true := by
  rw [h, eqS]
  exact decide_eq_true rfl
theorem eq : ∀ c d : Cp, PyData.eqv c.D d.D = decide (c = d)
  | .any, .any => by decide +kernel
  | .any, .name _ => by rfl
  | .any, .not _ => by rfl
  | .any, .both _ _ => by rfl
  | .any, .some _ _ _ => by rfl
  | .name _, .any => by rfl
  | .name m, .name n => by
    show (PyData.eqv (sK "name") (sK "name") && (PyData.eqv (.int m) (.int n) && true)) = _
    rw [kindEq rfl, eqI]
    simp
  | .name _, .not _ => by rfl
  | .name _, .both _ _ => by rfl
  | .name _, .some _ _ _ => by rfl
  | .not _, .any => by rfl
  | .not _, .name _ => by rfl
  | .not c, .not d => by
    show (PyData.eqv (sK "not") (sK "not") && (PyData.eqv c.D d.D && true)) = _
    rw [kindEq rfl, eq c d]
    simp
  | .not _, .both _ _ => by rfl
  | .not _, .some _ _ _ => by rfl
  | .both _ _, .any => by rfl
  | .both _ _, .name _ => by rfl
  | .both _ _, .not _ => by rfl
  | .both c c', .both d d' => by
    show (PyData.eqv (sK "and") (sK "and") && (PyData.eqv c.D d.D && (PyData.eqv c'.D d'.D && true))) = _
    rw [kindEq rfl, eq c d, eq c' d']
    simp
  | .both _ _, .some _ _ _ => by rfl
  | .some _ _ _, .any => by rfl
  | .some _ _ _, .name _ => by rfl
  | .some _ _ _, .not _ => by rfl
  | .some _ _ _, .both _ _ => by rfl
  | .some r b c, .some r' b' c' => by
    show (PyData.eqv (sK "some") (sK "some") && (PyData.eqv (roD r b) (roD r' b') && (PyData.eqv c.D c'.D && true))) = _
    rw [kindEq rfl, eqRo, eq c c']
    simp [Bool.and_assoc]
theorem enc : Enc Cp.D := ⟨eq, lay⟩
/-- names and roles are there -/
def Ok (s0 s1 : Int) : Cp → Prop
  | .any => True
  | .name n => 0 ≤ n ∧ n < s0
  | .not c => c.Ok s0 s1
  | .both c d => c.Ok s0 s1 ∧ d.Ok s0 s1
  | .some r _ c => (0 ≤ r ∧ r < s1) ∧ c.Ok s0 s1
end Cp
abbrev szD (a b c : Int) : PyData := .tuple [.int a, .int b, .int c]
end Pf

namespace Pf
open PySem PySem.Spec PyProof.Rows L2
/-! parts of axioms, and questions -/
inductive Pt where
  | below (c d : Cp) | under (r : Int) (b : Bool) (s : Int) (b' : Bool) | is (a : Int) (c : Cp) | has (a n b : Int) | never
  deriving DecidableEq
namespace Pt
def D : Pt → PyData
  | .below c d => .tuple [sK "below", c.D, d.D]
  | .under r b s b' => .tuple [sK "under", roD r b, roD s b']
  | .is a c => .tuple [sK "is", .int a, c.D]
  | .has a n b => .tuple [sK "has", .int a, .int n, .int b]
  | .never => .tuple [sK "never"]
end Pt
abbrev axD (ps : List Pt) : PyData := .tuple (ps.map Pt.D)
/-- names, roles, individuals are there; the concepts are at most so deep -/
def Pt.Ok (s0 s1 s2 : Int) (n : Nat) : Pt → Prop
  | .below c d => (c.Ok s0 s1 ∧ c.dp ≤ n) ∧ d.Ok s0 s1 ∧ d.dp ≤ n
  | .under r _ s _ => (0 ≤ r ∧ r < s1) ∧ 0 ≤ s ∧ s < s1
  | .is a c => (0 ≤ a ∧ a < s2) ∧ c.Ok s0 s1 ∧ c.dp ≤ n
  | .has a r b => (0 ≤ a ∧ a < s2) ∧ (0 ≤ r ∧ r < s1) ∧ 0 ≤ b ∧ b < s2
  | .never => True
def Pt.IsUnder (s1 : Int) : Pt → Prop
  | .under r _ s _ => (0 ≤ r ∧ r < s1) ∧ 0 ≤ s ∧ s < s1
  | _ => False
end Pf

namespace Pf
open PySem PySem.Spec PyProof.Rows L2
open AutoSeq1 (wpAny_loadPart')
/-! enumerate of a tuple -/
theorem meets_enumT (l : Addr) (items : Array Value) (n : Nat) (dct : Option Addr) (sl : Array (Option Value)) :
    Meets (Builtin.«enumerate.__new__» ⟨[.type "enumerate", .ref l], []⟩) (fun _ R s => s.heap.get? l = some { cls := .type "tuple", dict := dct, data := .seq items n, slots := sl } ∧
      R (.ok (.ret (.ref (s.heap.push { cls := .type "tuple_iterator", data := .fields #[.ref l, .int 0 0] }).objs.size)))
        { s with heap := (s.heap.push { cls := .type "tuple_iterator", data := .fields #[.ref l, .int 0 0] }).push { cls := .type "enumerate", data := .fields #[.none, .bool false, .ref s.heap.objs.size, rawInt 0, .none, .none] } }) :=
  .of_wp fun prog w A R s h => by
    obtain ⟨hp, g, d, tk, os⟩ := s
    obtain ⟨hl, h⟩ := h
    have hsub := sub_enumerate
    have hL : Heap.IsTuple (Shared.heap ⟨hp, g, d, tk, os⟩) l items := ⟨_, hl, rfl, n, rfl⟩
    wp_walk using wpAny_loadPart' hl
    refine wpAny_stack_any fun st => wpAny_pure ?_
    split
    · rename_i c _ _ _ _ _
      cases (c == Value.type "enumerate")
      · wp_walk using wpAny_loadPart' hl, wpAny_pyIter_tuple hL
        exact ⟨_, rfl, h⟩
      · wp_walk using wpAny_loadPart' hl, wpAny_pyIter_tuple hL
        exact ⟨_, rfl, h⟩
    · wp_walk using wpAny_loadPart' hl, wpAny_pyIter_tuple hL
      exact ⟨_, rfl, h⟩
theorem call_enumT {prog : Program} {w : World} {A : Around} {E : Value → Shared → Prop} {s : Shared} {l : Addr} {items : Array Value} {Q : Value → Shared → Prop} (hL : s.heap.IsTuple l items)
    (h : ∀ h', IsEnum h' (s.heap.objs.size + 1) s.heap.objs.size 0 .none → h'.IsTupleIter s.heap.objs.size l 0 → (∀ b o, s.heap.get? b = some o → h'.get? b = some o) → Q (.ref (s.heap.objs.size + 1)) { s with heap := h' }) :
    wpAny (model prog w) A (call (.type "enumerate") [.ref l]) Q E s := by
  refine Pf.Gate.out ?_
  simp (disch := (with_unfolding_all (
      obtain ⟨⟨c, dct, dt, sl⟩, hl, hc, n, hd⟩ := hL
      replace hc : c = .type "tuple" := hc
      replace hd : dt = .seq items n := hd
      subst hc hd
      refine callType_new F.called_enumerate (by decide) (F.typeCall_enumerate_1 _) (F.newCall_enumerate_1 _) (fun obj => F.args_object_init_2 obj _) F.entry_enumerate_new (meets_enumT l items n dct sl) ⟨hl, ?_⟩
      have hz : (s.heap.push { cls := .type "tuple_iterator", data := .fields #[.ref l, .int 0 0] }).objs.size = s.heap.objs.size + 1 := Heap.size_push ..
      show _ ∧ _
      rw [hz]
      have he : IsEnum ((s.heap.push { cls := .type "tuple_iterator", data := .fields #[.ref l, .int 0 0] }).push { cls := .type "enumerate", data := .fields #[.none, .bool false, .ref s.heap.objs.size, rawInt 0, .none, .none] }) (s.heap.objs.size + 1) s.heap.objs.size 0 .none := by
        have := Heap.get?_push_size (s.heap.push { cls := .type "tuple_iterator", data := .fields #[.ref l, .int 0 0] }) (o := { cls := .type "enumerate", data := .fields #[.none, .bool false, .ref s.heap.objs.size, rawInt 0, .none, .none] }) rfl
        rw [hz] at this
        exact this
      exact ⟨⟨_, he, rfl⟩, h _ he ⟨_, Heap.get?_push_of_some _ (Heap.get?_push_size _ rfl), rfl, rfl⟩ fun b o x => Heap.get?_push_of_some _ (Heap.get?_push_of_some _ x)⟩
    ))) only [↓Pf.Gate.lem]
/-- the tuple at a, each item in a new pair -/
def IteT (K : PySem.W.Frag) (a : Addr) : It :=
  ⟨fun i H => ∃ (xs : List V) (x : V), SqT K H a xs ∧ xs[i]? = some x, fun i H v H' => ∃ T x, v = .ref T ∧ H T = none ∧ H' = upd H T (.tup [.int (i : Nat), x]) ∧ ∀ xs, SqT K H a xs → xs[i]? = some x, fun i H => ∃ xs : List V, SqT K H a xs ∧ xs.length = i⟩
theorem tup_apart {h : Heap} {a it : Addr} {i : Nat} {its : Array Value} (p : h.IsTuple a its) (hit : h.IsTupleIter it a i) : a ≠ it := fun z => by
  obtain ⟨o, e1, c1, _⟩ := p
  obtain ⟨o', e2, c2, _⟩ := hit
  rw [z] at e1
  rw [e1] at e2
  cases e2
  rw [c1] at c2
  exact absurd c2 (by decide)
theorem turn_enumT {P : Program} {w : World} {K : PySem.W.Frag} {elts : List Expr} {kk : Nat} {tpos : Pos} (a e it : Addr) :
    Turn P w K (.Tuple elts kk tpos) (IteT K a) [e, it] e (fun i h => (∃ old, IsEnum h e it ((i : Nat) : Int) old) ∧ h.IsTupleIter it a i ∧ e ≠ it) where
  mem := by simp
  obj := fun i h st b hb => by
    obtain ⟨⟨old, he⟩, ⟨o, ho, hc, hd⟩, _⟩ := st
    rcases List.mem_cons.mp hb with z | z
    · rw [z]
      exact ⟨_, he, fun v q => nomatch q⟩
    · rw [List.mem_singleton.mp z]
      exact ⟨o, ho, fun v q => by rw [hd] at q; cases q⟩
  keep := fun i h h' st k => let ⟨⟨old, he⟩, hi, hne⟩ := st; ⟨⟨old, k e (by simp) _ he⟩, hi.at fun o q => k it (by simp) o q, hne⟩
  item := by
    intro X hP hw hK hc i pins s σ H E I hf st hg
    subst hP hw hK
    obtain ⟨⟨old, he⟩, hit, hne⟩ := st
    obtain ⟨xs, x, hq, hx⟩ := hg
    obtain ⟨its, rv, p, hz⟩ := I.tuple hq
    obtain ⟨u, hu, ru⟩ := rv.get hx
    have hel : e < s.heap.objs.size := Heap.lt_size he
    have hil : it < s.heap.objs.size := by obtain ⟨_, q, _⟩ := hit; exact Heap.lt_size q
    have hea : e ∉ [it, a] := fun z => by
      rcases List.mem_cons.mp z with z | z
      · exact hne z
      · obtain ⟨o, e1, c1, _⟩ := p
        rw [← List.mem_singleton.mp z, he] at e1
        cases e1
        exact absurd (show Value.type "enumerate" = Value.type "tuple" from c1) (by decide)
    have hlt : i < its.toArray.size := by
      have := (List.getElem?_eq_some_iff.mp hu).1
      simpa using this
    refine wpAny_pyNext_enum_itemD (Draws.tuple (by rw [show X.A.in1.handled = none from I.ok.hd hc]) it a (tup_apart p hit) its.toArray) he ⟨hit, p⟩ hlt hne hea fun x' h' tk hP ho hst hT hsz hk => ?_
    have ex : x' = u := by
      have hP : its.toArray[i]? = some x' := hP
      rw [show its.toArray[i]? = its[i]? by simp, hu] at hP
      exact (Option.some.inj hP).symm
    subst ex
    refine ⟨_, rfl, wpAny_letOwnedTupleGo_enum (s := { s with heap := h', toks := tk + 1 }) ho fun h'' he' sb => ?_⟩
    have hT2 : h''.get? s.heap.objs.size = some { cls := .type "tuple", data := .seq #[.int i tk, x'] } := (sb.2 _ (Nat.ne_of_gt hel)).trans hT
    have new : ObjOk X.prog X.w (upd H s.heap.objs.size (.tup [.int (i : Nat), x])) h'' s.heap.objs.size (.tup [.int (i : Nat), x]) :=
      ⟨by show 2 ≤ sizeLine; decide, [.int i tk, x'], .cons ⟨_, rfl⟩ (.cons ru .nil), ⟨_, hT2, rfl, _, rfl⟩⟩
    have I1 : Inv X pins σ (upd H s.heap.objs.size (.tup [.int (i : Nat), x])) { s with heap := h'', toks := tk + 1 } :=
      I.turnedNew (ch := [e, it]) (fun b ob hb q => (sb.2 b (fun z => hb (by simp [z]))).trans (hk b ob (fun z => hb (by simp [z])) (fun z => hb (by simp [z])) q)) hf (Nat.le_refl _) new
    refine ⟨.ref s.heap.objs.size, _, I1, rfl, ⟨_, x, rfl, I.hok.fresh (Nat.le_refl _), rfl, fun ys hy => by rw [I.tuple_inj hy hq]; exact hx⟩, ⟨⟨x', ?_⟩, hst.1.at fun o q => (sb.2 it (Ne.symm hne)).trans q, hne⟩, fun b hb => ?_⟩
    · have e1 : ((i + 1 : Nat) : Int) = (i : Int) + 1 := by omega
      rw [e1]
      exact he'
    · have hb' : b < s.heap.objs.size := by
        rcases List.mem_cons.mp hb with z | z
        · rw [z]; exact hel
        · rw [List.mem_singleton.mp z]; exact hil
      rw [upd_ne (Nat.ne_of_lt hb')]
      exact (hf b hb).1
  done := by
    intro X hP hw hK hc i pins s σ H E I hf st hg
    subst hP hw hK
    obtain ⟨⟨old, he⟩, hit, hne⟩ := st
    obtain ⟨xs, hq, hx⟩ := hg
    obtain ⟨its, rv, p, hz⟩ := I.tuple hq
    obtain ⟨f0, f1, f2, f3, f4, f5⟩ := hf it (by simp)
    have hl := rv.length
    exact wpAny_pyNext_enum_endD (Draws.tuple (by rw [show X.A.in1.handled = none from I.ok.hd hc]) it a (tup_apart p hit) its.toArray) he ⟨by rw [List.size_toArray, ← hl, hx]; exact hit, p⟩ fun h' eb => ⟨rfl, I.turned (t' := s.toks) (fun b o hb q => eb b o hb q) f0 f1 f3 f4 f5⟩
  self := fun A i s Q E st h => let ⟨⟨_, he⟩, _⟩ := st; wpAny_pyIter_enum he h
def iEnumT (K : PySem.W.Frag) (ta : TA) : TI := fun σ H R => ta σ H fun vs H1 => ∃ a xs, vs = [.ref a] ∧ SqT K H1 a xs ∧ R (IteT K a) H1
theorem pi_enumT {X : Cx} {e : Expr} {ta : TA} {p pos tpos : Pos} {elts : List Expr} {kk : Nat} (hg : Gl X "enumerate") (hm : X.mg "enumerate" = none) (ha : PA X [e] ta) (hs : starEach [e] X.env = [(false, eval e X.env)] := by rfl) :
    PI X (.Tuple elts kk tpos) (.Call (.Name "enumerate" p) [e] [] pos) (iEnumT X.K ta) := by
  refine Pf.Gate.out ?_
  simp (disch := (with_unfolding_all (
      refine ⟨fun pins s σ H R I h => ?_⟩
      refine Call_ (ld_blt I hg hm boot_enumerate (PyProof.Rows.callWith_type1 (thn (ha.run pos pins s σ H _ I h) fun us s1 ⟨vs, H1, I1, r1, q1⟩ => ?_) hs rfl))
      obtain ⟨a, xs, ex, hq, q⟩ := q1
      subst ex
      cases r1 with
      | cons r rr =>
        cases rr
        cases r
        obtain ⟨its, rv, p', hz⟩ := I1.tuple hq
        refine call_enumT p' fun h' he hit hk => wpAny_pyIter_enum he ?_
        have I2 : Inv X pins σ H1 { s1 with heap := h' } := I1.kept (t' := s1.toks) hk
        refine ⟨s1.heap.objs.size + 1, [s1.heap.objs.size + 1, s1.heap.objs.size], _, _, H1, rfl, I2, turn_enumT a (s1.heap.objs.size + 1) s1.heap.objs.size, ⟨⟨.none, he⟩, hit, Nat.succ_ne_self _⟩, fun b hb => ?_, q⟩
        have hle : s1.heap.objs.size ≤ b := by
          rcases List.mem_cons.mp hb with z | z
          · rw [z]; exact Nat.le_add_right _ _
          · rw [List.mem_singleton.mp z]; exact Nat.le_refl _
        exact I1.fpOk hle (I1.hok.fresh hle)
    ))) only [↓Pf.Gate.lem]
section
variable {K : PySem.W.Frag} {C : Fx} {B : Hp} {σ : L2.St} {H M : Hp} {ρ : List Sl} {w : Own} {tp : List (V × PyData)} {a : Addr} {xs : List V} {v : V} {ds : List PyData} {g : TG} {tb : TS} {D : Ends} {X : Cx} {tg e : Expr}
theorem walk_enumT : Walk (IteT K a) xs.length (fun H => SqT K H a xs) (YPair (fun i => some (.int (i : Nat))) (fun i => xs[i]?)) := by
  refine ⟨fun i _ hi q => ⟨xs, xs[i], q, by simp [hi]⟩, fun _ q => ⟨xs, q, rfl⟩, fun i H v H' _ q y => ?_⟩
  obtain ⟨T, x, h1, h2, h3, h4⟩ := y
  exact ⟨T, .int (i : Nat), x, h1, h2, h3, rfl, h4 xs q⟩
def ForET (K : PySem.W.Frag) (R : It → Hp → Prop) (us : List V) (H1 : Hp) : Prop := ∃ a xs, us = [.ref a] ∧ SqT K H1 a xs ∧ R (IteT K a) H1
theorem x_fET {tl : TA} (h : tl σ H fun us H1 => ForET K (ForB g tb D σ) us H1) : tFor (iEnumT K tl) g tb D σ H := h
theorem x_forET (I : Nat → List Sl → Own → Prop) (S : Ds K C B σ H M ρ w tp) (ht : Tm tp v (.tuple ds)) (h0 : I 0 ρ w)
    (hs : ∀ i d ρ1 w1, ds[i]? = some d → I i ρ1 w1 → ∀ u σ1 H1 M1, Ds K C M σ1 H1 M1 ρ1 w1 [(u, .tuple [.int (i : Nat), d])] → g u σ1 H1 fun σ2 H2 => tb { D with nx := Nx K C M I (i + 1), ct := Nx K C M I (i + 1), bk := D.nx } σ2 H2)
    (hd : ∀ ρ1 w1, I ds.length ρ1 w1 → ∀ σ1 H1 M1, Ds K C B σ1 H1 M1 ρ1 w1 [] → D.nx σ1 H1) : ForET K (ForB g tb D σ) [v] H := by
  refine Pf.Gate.out ?_
  simp (disch := (with_unfolding_all (
      obtain ⟨p, xs, rfl, h1, h2⟩ := dp_tup (ht.dp S)
      refine ⟨p, xs, rfl, Same.seqT S.sub h1, for_it (walk_enumT (K := K) (a := p) (xs := xs)) (Nx K C M I) ⟨M, ρ, w, h0, S.base.clr⟩ (fun i σ1 H1 _ q => ?_) (fun i x σ1 H1 H2 hx q y => ?_) (fun σ1 H1 q => ?_)⟩
      · obtain ⟨M1, ρ1, w1, _, S1⟩ := q
        exact Same.seqT (S1.bs.trans S1.sub) h1
      · obtain ⟨M1, ρ1, w1, q, S1⟩ := q
        obtain ⟨T, x1, x2, rfl, hT, rfl, e1, e2⟩ := y
        cases e1
        have hi : i < ds.length := by rw [← dpAll_len h2]; exact hx
        have e := List.getElem?_eq_getElem hi
        exact hs i _ ρ1 w1 e q _ σ1 _ _ (S1.newT hT (.cons (.int _) (.cons (Dp.same S1.bs (dpAll_at h2 i x2 _ e2 e)) .nil)))
      · obtain ⟨M1, ρ1, w1, q, S1⟩ := q
        exact hd ρ1 w1 (dpAll_len h2 ▸ q) σ1 H1 M1 (S1.base' S.bs)
    ))) only [↓Pf.Gate.lem]
theorem kIET {tl : TA} (p : PI X tg e (iEnumT X.K tl)) (h : X.K = K := by rfl) : PI X tg e (iEnumT K tl) := h ▸ p
end
end Pf

namespace Pf
open PySem PySem.Spec PyProof.Rows L2
/-! a comprehension inside a comprehension -/
theorem look_nest {p : Str → NameKind → Bool} {k0 : NameKind} (h0 : k0 = .cell ∨ k0 = .free) : ∀ {names : List (Str × NameKind)} {x : Str}, names.lookup x = some k0 →
    (names.map fun (n, k) => if p n k = true then (n, NameKind.cell) else (n, k)).lookup x = some .cell ∨ (names.map fun (n, k) => if p n k = true then (n, NameKind.cell) else (n, k)).lookup x = some .free
  | [], _, h => by simp at h
  | (n, k) :: r, x, h => by
    have ih := @look_nest p k0 h0 r x
    by_cases e : (x == n) = true
    · rw [List.lookup_cons, e] at h
      have h : k = k0 := Option.some.inj h
      show (((if p n k = true then (n, NameKind.cell) else (n, k)) :: _).lookup x = _) ∨ (((if p n k = true then (n, NameKind.cell) else (n, k)) :: _).lookup x = _)
      by_cases q : p n k = true
      · rw [if_pos q, List.lookup_cons, e]
        exact .inl rfl
      · rw [if_neg q, List.lookup_cons, e, h]
        exact h0.elim (fun z => .inl (by rw [z])) fun z => .inr (by rw [z])
    · have e : (x == n) = false := Bool.eq_false_iff.mpr e
      rw [List.lookup_cons, e] at h
      have ih := ih h
      show (((if p n k = true then (n, NameKind.cell) else (n, k)) :: _).lookup x = _) ∨ (((if p n k = true then (n, NameKind.cell) else (n, k)) :: _).lookup x = _)
      by_cases q : p n k = true
      · rw [if_pos q, List.lookup_cons, e]
        exact ih
      · rw [if_neg q, List.lookup_cons, e]
        exact ih
theorem blk_nest {N : List Str} {scope scope' : Scope} {own : List (Str × Nat)} {cl : List (Str × Addr)} {C : Addr} {env : Env} (h : blkC N scope scope' own = true) : BlkOk N (compEnvC scope cl C env).scope scope' own := by
  have b := blkOk_by h
  refine ⟨b.kind, b.uniq, b.ix, fun y hy e => ?_, b.own⟩
  rcases b.free y hy e with q | q
  · exact look_nest (p := fun n k => k == .free && env.scope.kind == .function && env.kindOf n == some .cell) (.inl rfl) q
  · exact look_nest (p := fun n k => k == .free && env.scope.kind == .function && env.kindOf n == some .cell) (.inr rfl) q
end Pf

namespace Pf
open PySem PySem.Spec PyProof.Rows L2
/-! tuples of five and six taken apart -/
section
variable {K : PySem.W.Frag} {C : Fx} {B : Hp} {σ : L2.St} {H M : Hp} {ρ : List Sl} {w : Own} {tp : List (V × PyData)} {v : V}
theorem x_gT5 {t1 t2 t3 t4 t5 : TG} {d1 d2 d3 d4 d5 : PyData} {q : L2.St → Hp → Prop} (S : Ds K C B σ H M ρ w tp) (ht : Tm tp v (.tuple [d1, d2, d3, d4, d5]))
    (h : ∀ x y z u o, Ds K C B σ H M ρ w ((x, d1) :: (y, d2) :: (z, d3) :: (u, d4) :: (o, d5) :: tp) → t1 x σ H fun σ' H' => t2 y σ' H' fun σ2 H2 => t3 z σ2 H2 fun σ3 H3 => t4 u σ3 H3 fun σ4 H4 => t5 o σ4 H4 q) :
    gTup K 5 (gCons t1 (gCons t2 (gCons t3 (gCons t4 (gCons t5 gNil))))) v σ H q := by
  refine Pf.Gate.out ?_
  simp (disch := (with_unfolding_all (
      obtain ⟨p, xs, rfl, h1, h2⟩ := dp_tup (ht.dp S)
      obtain ⟨x, r, rfl, k1, h2⟩ := da_cons h2
      obtain ⟨y, r, rfl, k2, h2⟩ := da_cons h2
      obtain ⟨z, r, rfl, k3, h2⟩ := da_cons h2
      obtain ⟨u, r, rfl, k4, h2⟩ := da_cons h2
      obtain ⟨o, r, rfl, k5, h2⟩ := da_cons h2
      cases da_nil h2
      refine ⟨p, _, rfl, Same.seqT S.sub h1, rfl, x, _, rfl, ?_⟩
      rw [gcons_eq]
      have e : (fun σ2 H2 => gCons t3 (gCons t4 (gCons t5 gNil)) [z, u, o] σ2 H2 q) = fun σ2 H2 => t3 z σ2 H2 fun σ3 H3 => t4 u σ3 H3 fun σ4 H4 => t5 o σ4 H4 q := by
        rw [gcons_eq]
        have e2 : (fun σ3 H3 => gCons t4 (gCons t5 gNil) [u, o] σ3 H3 q) = fun σ3 H3 => t4 u σ3 H3 fun σ4 H4 => t5 o σ4 H4 q := by rw [gcons_eq, gcons_eq, gnil_eq]
        rw [e2]
      rw [e]
      exact h x y z u o (((((S.push k5).push k4).push k3).push k2).push k1)
    ))) only [↓Pf.Gate.lem]
theorem x_gT6 {t1 t2 t3 t4 t5 t6 : TG} {d1 d2 d3 d4 d5 d6 : PyData} {q : L2.St → Hp → Prop} (S : Ds K C B σ H M ρ w tp) (ht : Tm tp v (.tuple [d1, d2, d3, d4, d5, d6]))
    (h : ∀ x y z u o i, Ds K C B σ H M ρ w ((x, d1) :: (y, d2) :: (z, d3) :: (u, d4) :: (o, d5) :: (i, d6) :: tp) → t1 x σ H fun σ' H' => t2 y σ' H' fun σ2 H2 => t3 z σ2 H2 fun σ3 H3 => t4 u σ3 H3 fun σ4 H4 => t5 o σ4 H4 fun σ5 H5 => t6 i σ5 H5 q) :
    gTup K 6 (gCons t1 (gCons t2 (gCons t3 (gCons t4 (gCons t5 (gCons t6 gNil)))))) v σ H q := by
  refine Pf.Gate.out ?_
  simp (disch := (with_unfolding_all (
      obtain ⟨p, xs, rfl, h1, h2⟩ := dp_tup (ht.dp S)
      obtain ⟨x, r, rfl, k1, h2⟩ := da_cons h2
      obtain ⟨y, r, rfl, k2, h2⟩ := da_cons h2
      obtain ⟨z, r, rfl, k3, h2⟩ := da_cons h2
      obtain ⟨u, r, rfl, k4, h2⟩ := da_cons h2
      obtain ⟨o, r, rfl, k5, h2⟩ := da_cons h2
      obtain ⟨i, r, rfl, k6, h2⟩ := da_cons h2
      cases da_nil h2
      refine ⟨p, _, rfl, Same.seqT S.sub h1, rfl, x, _, rfl, ?_⟩
      rw [gcons_eq]
      have e : (fun σ2 H2 => gCons t3 (gCons t4 (gCons t5 (gCons t6 gNil))) [z, u, o, i] σ2 H2 q) = fun σ2 H2 => t3 z σ2 H2 fun σ3 H3 => t4 u σ3 H3 fun σ4 H4 => t5 o σ4 H4 fun σ5 H5 => t6 i σ5 H5 q := by
        rw [gcons_eq]
        have e2 : (fun σ3 H3 => gCons t4 (gCons t5 (gCons t6 gNil)) [u, o, i] σ3 H3 q) = fun σ3 H3 => t4 u σ3 H3 fun σ4 H4 => t5 o σ4 H4 fun σ5 H5 => t6 i σ5 H5 q := by
          rw [gcons_eq]
          have e3 : (fun σ4 H4 => gCons t5 (gCons t6 gNil) [o, i] σ4 H4 q) = fun σ4 H4 => t5 o σ4 H4 fun σ5 H5 => t6 i σ5 H5 q := by rw [gcons_eq, gcons_eq, gnil_eq]
          rw [e3]
        rw [e2]
      rw [e]
      exact h x y z u o i ((((((S.push k6).push k5).push k4).push k3).push k2).push k1)
    ))) only [↓Pf.Gate.lem]
end
end Pf

namespace Pf
open PySem PySem.Spec PyProof.Rows L2
/-! a, b, c = x, y, z -/
section
variable {K : PySem.W.Frag} {D : Ends} {C : Fx} {B : Hp} {σ : L2.St} {H M : Hp} {ρ : List Sl} {w : Own} {tp : List (V × PyData)} {v : V}
def Par2K (i j : Nat) (vs : List V) (σ : L2.St) (H : Hp) (Q : L2.St → Hp → Prop) : Prop := ∃ u v, vs = [u, v] ∧ gName i u σ H fun σ1 H1 => gName j v σ1 H1 Q
theorem x_par2 {i j : Nat} {ta : TA} (h : ta σ H fun vs H1 => Par2K i j vs σ H1 D.nx) : tPar i j ta D σ H := h
theorem x_par2K {i j : Nat} {u v : V} {Q : L2.St → Hp → Prop} (h : gName i u σ H fun σ1 H1 => gName j v σ1 H1 Q) : Par2K i j [u, v] σ H Q := ⟨u, v, rfl, h⟩
def Par3K (i j l : Nat) (vs : List V) (σ : L2.St) (H : Hp) (Q : L2.St → Hp → Prop) : Prop := ∃ u v w, vs = [u, v, w] ∧ gName i u σ H fun σ1 H1 => gName j v σ1 H1 fun σ2 H2 => gName l w σ2 H2 Q
theorem x_par3 {i j l : Nat} {ta : TA} (h : ta σ H fun vs H1 => Par3K i j l vs σ H1 D.nx) : tPar3 i j l ta D σ H := h
theorem x_par3K {i j l : Nat} {u v w' : V} {Q : L2.St → Hp → Prop} (h : gName i u σ H fun σ1 H1 => gName j v σ1 H1 fun σ2 H2 => gName l w' σ2 H2 Q) : Par3K i j l [u, v, w'] σ H Q := ⟨u, v, w', rfl, h⟩
end
end Pf

namespace Pf
open PySem PySem.Spec PyProof.Rows L2
/-! pop at an index, from an own list -/
section
variable {K : PySem.W.Frag} {C : Fx} {B : Hp} {σ : L2.St} {H M : Hp} {ρ : List Sl} {w w' : Own} {tp : List (V × PyData)} {te : TE} {ds : List PyData} {p : Addr} {i : Nat} {Q : VK}
theorem x_popI (S : Ds K C B σ H M ρ w tp) (h : ρ[i]? = some (.v (.ref p))) (j : Nat) (hj : w[j]? = some (p, .lst ds)) (q : te σ H fun y H2 => rPopAt (.ref p) [y] H2 Q) : tBM K "list" rPopAt (tVar i) (tCons te tNil) σ H Q := by
  obtain ⟨v, h1, h2⟩ := S.get h (fun z => nomatch z)
  cases (show v = .ref p from h2)
  obtain ⟨_, vs, h3, _⟩ := S.own _ (List.mem_of_getElem? hj)
  exact ⟨_, h1, .inl ⟨rfl, vs, .of h3⟩, q⟩
theorem dpAll_era : ∀ {us : List V} {ds : List PyData} (k : Nat), DpAll K M us ds → DpAll K M (us.eraseIdx k) (ds.eraseIdx k)
  | _, _, _, .nil => .nil
  | _, _, 0, .cons _ t => t
  | _, _, k + 1, .cons a t => .cons a (dpAll_era k t)
theorem seqIx_nat {m : Int} {n : Nat} (h0 : 0 ≤ m) (h1 : m < (n : Int)) : seqIndex? m n = some m.toNat := by
  unfold seqIndex?
  simp [h1, show ¬ m < 0 by omega, h0]
theorem x_popK {m : Int} (j : Nat) (S : Ds K C B σ H M ρ w tp) (hj : w[j]? = some (p, .lst ds)) (h0 : 0 ≤ m) (h1 : m < (ds.length : Nat)) (hm : m < 2 ^ 63) (hw : SetAt w j (p, .lst (ds.eraseIdx m.toNat)) w') (z : ∀ y H', Ds K C B σ H' M ρ w' tp → Q y H') : rPopAt (.ref p) [.int m] H Q := by
  obtain ⟨_, us, h2, h3⟩ := S.own _ (List.mem_of_getElem? hj)
  have hl := dpAll_len h3
  obtain ⟨y, hy⟩ : ∃ y, us[m.toNat]? = some y := ⟨_, List.getElem?_eq_getElem (by omega)⟩
  refine ⟨p, us, m, m.toNat, y, rfl, rfl, h2, by omega, hm, seqIx_nat h0 (by rw [hl]; exact h1), hy, z y _ ?_⟩
  rw [hw.eq]
  exact S.mut (od' := .lst (ds.eraseIdx m.toNat)) hj ⟨_, upd_same, dpAll_era _ h3⟩
theorem x_forR2 {lo hi : Int} {g : TG} {tb : TS} {D : Ends} (I : Nat → List Sl → Own → Prop) (S : Ds K C B σ H M ρ w tp) (b1 : 0 ≤ lo ∧ lo < 2 ^ 62) (b2 : 0 ≤ hi ∧ hi < 2 ^ 62) (h0 : I 0 ρ w)
    (hs : ∀ i ρ1 w1, i < (hi - lo).toNat → I i ρ1 w1 → ∀ σ1 H1 M1, Ds K C M σ1 H1 M1 ρ1 w1 [] → g (.int (lo + (i : Int))) σ1 H1 fun σ2 H2 => tb { D with nx := Nx K C M I (i + 1), ct := Nx K C M I (i + 1), bk := D.nx } σ2 H2)
    (hd : ∀ ρ1 w1, I (hi - lo).toNat ρ1 w1 → ∀ σ1 H1 M1, Ds K C B σ1 H1 M1 ρ1 w1 [] → D.nx σ1 H1) : ForR2 (ForB g tb D σ) [.int lo, .int hi] H := by
  refine ⟨lo, hi, rfl, by omega, for_range (lo := lo) (n := (hi - lo).toNat) (Nx K C M I) ⟨M, ρ, w, h0, S.base.clr⟩ (fun i σ1 H1 hi q => ?_) (fun σ1 H1 q => ?_)⟩
  · obtain ⟨M1, ρ1, w1, q, S1⟩ := q
    exact hs i ρ1 w1 hi q σ1 H1 M1 S1
  · obtain ⟨M1, ρ1, w1, q, S1⟩ := q
    exact hd ρ1 w1 q σ1 H1 M1 (S1.base' S.bs)
end
end Pf

namespace Pf
open PySem PySem.Spec PyProof.Rows L2
/-! a comprehension that gives a set of ints; sorted of such a set -/
/-- what a turn hands on: the set at Z has one member more -/
def StA (W : World) (Z : Addr) (N : Hp → Prop) (y : V) (H : Hp) : Prop := ∃ (k : Int) (F : Int → Bool) (n : Nat), y = .int k ∧ H Z = some (SetO W Z F n) ∧ n + 1 < scanBound ∧ N (upd H Z (SetO W Z (fun j => F j || decide (j = k)) (if F k = true then n else n + 1)))
def StB (W : World) (g : TG) (te : TE) (vs : List Nat) (Q : VK) (σ : L2.St) (J : It) (H1 : Hp) : Prop := ∀ Z, H1 Z = none → ∃ U : Nat → Nat → Hp → Prop, (∃ m, U 0 m (upd H1 Z (SetO W Z (fun _ => false) 0))) ∧ ∀ i m H, U i m H →
  (J.stop i H ∧ Q (.ref Z) H) ∨ (J.go i H ∧ ∃ N : Hp → Prop, (∀ H', N H' → ∃ m', m' < m ∧ U (i + 1) m' H') ∧ ∀ x H', J.yld i H x H' → g x (wipe σ vs) H' fun σ2 H2 => wipe σ2 vs = wipe σ vs ∧ te σ2 H2 (StA W Z N))
def tSt (W : World) (wi : TI) (g : TG) (te : TE) (vs : List Nat) : TE := fun σ H Q => wi σ H (StB W g te vs Q σ)
section
variable {X : Cx}
theorem pe_st {elt tg iter : Expr} {scope : Scope} {own : List (Str × Nat)} {pos : Pos} {wi : TI} {g : TG} {te : TE} (calm : X.calm = true) (nd : X.N.Nodup) (pit : PI X tg iter wi) (blk : BlkOk X.N X.env.scope scope own)
    (ptg : ∀ s H C cl fp, PG (X.blk s H scope (compEnvC scope cl C X.env) fp) tg g) (pel : ∀ s H C cl fp, PE (X.blk s H scope (compEnvC scope cl C X.env) fp) elt te) (fold : ∀ x, foldedSetIterable iter X.env x = pure x := by intro _; rfl) :
    PE X (.SetComp elt [⟨tg, iter, [], 0⟩] scope pos) (tSt X.w wi g te (own.map (·.2))) := by
  refine Pf.Gate.out ?_
  simp (disch := (with_unfolding_all (
      refine ⟨fun pins s σ H Q I start => ?_⟩
      rw [PpSet.eval_SetComp]
      have clo : ∀ y ∈ scope.names, y.2 = .free → ∃ c, X.env.cells.lookup y.1 = some c := fun y hy e => (blk.free y hy e).elim (fun k => I.ok.has _ (.inl k)) (fun k => I.ok.has _ (.inr k))
      refine wpAny_comprehension_free (use := none) rfl fold (closure_ok clo) blk.kind (fun y hy e => by rw [blk.uniq y hy, e]) (thn (pit.run pins s σ H _ I start) fun _ _ got => thn got fun _ s2 ⟨it, fp, tn, J, H2, e, I2, T, st2, f2, body⟩ => ?_)
      subst e
      refine PpSet.newSet_ok (newEnv_comp ?_)
      generalize hz : s2.heap.objs.size = Z
      have zn : H2 Z = none := I2.hok.fresh (Nat.le_of_eq hz)
      obtain ⟨U, ⟨m0, u0⟩, turns⟩ := body Z zn
      generalize h3 : ({ s2 with heap := s2.heap.push { cls := .type "set", dict := none, data := .set #[] 0 (.fresh 0 0 (!X.w.params.followText "set-order")) } } : Shared) = s3
      have hp3 : s3.heap = s2.heap.push { cls := .type "set", dict := none, data := .set #[] 0 (.fresh 0 0 (!X.w.params.followText "set-order")) } := by subst h3; rfl
      have old : ∀ b o, s2.heap.get? b = some o → s3.heap.get? b = some o := fun b o q => by rw [hp3]; exact Heap.get?_push_of_some _ q
      have I3 : Inv X pins σ (upd H2 Z (SetO X.w Z (fun _ => false) 0)) s3 := by
        subst h3
        subst hz
        exact I2.laid (t' := s2.toks) (fun _ _ q => Heap.get?_push_of_some _ q) (Nat.le_refl _) (setO_new (setR_fresh X.w))
      have f3 : ∀ b ∈ fp, FpOk X pins (upd H2 Z (SetO X.w Z (fun _ => false) 0)) b ∧ b < s3.heap.objs.size := fun b hb => by
        obtain ⟨o, q, _⟩ := T.obj _ _ st2 b hb
        have lt := Heap.lt_size q
        exact ⟨⟨(upd_ne (hz ▸ Nat.ne_of_lt lt)).trans (f2 b hb).1, (f2 b hb).2⟩, by rw [hp3, Heap.size_push]; exact Nat.lt_succ_of_lt lt⟩
      have st3 := T.keep _ _ _ st2 fun b _ => old b
      have I4 := block_start I3 blk nd f3
      have ptg := ptg s3 (upd H2 Z (SetO X.w Z (fun _ => false) 0)) s3.heap.objs.size (cellsFrom (s3.heap.objs.size + 1) scope.names (cloFrom X.env.cells scope.names [])) fp
      have pel := pel s3 (upd H2 Z (SetO X.w Z (fun _ => false) 0)) s3.heap.objs.size (cellsFrom (s3.heap.objs.size + 1) scope.names (cloFrom X.env.cells scope.names [])) fp
      have z3 : ∀ b ∈ fp, (upd H2 Z (SetO X.w Z (fun _ => false) 0)) b = none := fun b hb => (f3 b hb).1.1
      show codeAny _ _ (.compStart _ 0 (.ref it) (.ref Z) (compEnvC scope (cellsFrom (s3.heap.objs.size + 1) scope.names (cloFrom X.env.cells scope.names [])) s3.heap.objs.size X.env)) (compPost _ X.A X.xe none _ (.ref Z) s3.heap.objs.size) { s3 with heap := pushCells (s3.heap.push { cls := .type "dict", data := .dict #[] }) scope.names }
      generalize hce : compEnvC scope (cellsFrom (s3.heap.objs.size + 1) scope.names (cloFrom X.env.cells scope.names [])) s3.heap.objs.size X.env = ce at I4 ptg pel ⊢
      have loc : ce.locals = s3.heap.objs.size := by subst hce; rfl
      generalize upd H2 Z (SetO X.w Z (fun _ => false) 0) = H3 at I3 I4 ptg pel u0 z3 f3
      have st4 : tn 0 (pushCells (s3.heap.push { cls := .type "dict", data := .dict #[] }) scope.names) := T.keep _ _ _ st3 fun b _ o q => pushCells_keeps _ _ _ _ (Heap.get?_push_of_some _ q)
      generalize h4 : ({ s3 with heap := pushCells (s3.heap.push { cls := .type "dict", data := .dict #[] }) scope.names } : Shared) = s4 at I4 ⊢
      have st4 : tn 0 s4.heap := by subst h4; exact st4
      have fps : ∀ {σ' : L2.St} {H' : Hp} {s' : Shared}, Inv (X.blk s3 H3 scope ce fp) [] σ' H' s' → (∀ b ∈ fp, H' b = none) → ∀ b ∈ fp, FpOk (X.blk s3 H3 scope ce fp) [] H' b := fun {_ _ _} J n b hb =>
        ⟨n b hb, (J.ok.exf b hb).1, J.ok.exfs b hb, .inl hb, fun x c q => (J.ok.exf b hb).2 x c q, fun p hp => by cases (show p ∈ ([] : List (Addr × Obj)) from hp)⟩
      have run : codeAny (model X.prog X.w) X.A (.compLoop (.SetComp elt [⟨tg, iter, [], 0⟩] scope pos) 0 (.ref it) (.ref Z) ce) (compPost (model X.prog X.w) X.A X.xe none (EP X pins σ Q) (.ref Z) s3.heap.objs.size) s4 := by
        refine PpSet.compLoopS_any (fun n s' => ∃ i H', Inv (X.blk s3 H3 scope ce fp) [] (wipe σ (own.map (·.2))) H' s' ∧ tn i s'.heap ∧ (∀ b ∈ fp, H' b = none) ∧ U i n H') ?_ m0 ⟨0, H3, I4, st4, z3, u0⟩
        rintro n s5 ⟨i, H5, I5, st5, z5, u5⟩
        rcases turns i n H5 u5 with ⟨stop, fin⟩ | ⟨go, N, less, step⟩
        · refine thnF (T.done (X.blk s3 H3 scope ce fp) rfl rfl rfl calm i [] s5 _ H5 (fun _ _ => False) I5 (fps I5 z5) st5 stop) fun r s6 ⟨hr, I6⟩ => ?_
          subst hr
          have fr : H5 s3.heap.objs.size = none := loc ▸ I6.free
          have I7 : Inv X pins σ H5 s6 := I3.call' (ch := fp) I6.os I6.base I6.hok I6.bare fun b hb => by
            obtain ⟨⟨_, q1, q2, q3, q4, q5⟩, _⟩ := f3 b hb
            exact ⟨q3, q1, q4, q5⟩
          obtain ⟨m, hn, _⟩ := I6.loc
          obtain ⟨g0, g1, g2, g3, g4, g5⟩ := I3.fpOk (Nat.le_refl _) fr
          exact ⟨m, loc ▸ (show s6.heap.Ns ce.locals m from hn), fun h'' sb => ⟨.ref Z, H5, I7.turned (t' := s6.toks) (fun b o hb q => (sb.2 b hb).trans q) g0 g1 g3 g4 g5, rfl, fin⟩⟩
        · refine thnF (T.item (X.blk s3 H3 scope ce fp) rfl rfl rfl calm i [] s5 _ H5 (fun _ _ => False) I5 (fps I5 z5) st5 go) fun r s6 ⟨u, hr, h6⟩ => ?_
          subst hr
          refine thnF h6 fun _ s7 ⟨x, H7, I7, r7, y7, st7, z7⟩ => ?_
          refine thnF (ptg.run _ s7 _ H7 x u _ (I7.pinned (fps I7 z7) (T.obj _ _ st7)) r7 (step x H7 y7)) fun _ s8 ⟨σ8, H8, I8, w8, q8⟩ => ?_
          refine thnF ((pts_nil (X := X.blk s3 H3 scope ce fp)).run _ s8 σ8 H8 (fun c H' => c = true ∧ H' = H8) I8 ⟨rfl, rfl⟩) fun b s9 ⟨H9, I9, hb, e9⟩ => ?_
          subst hb
          subst e9
          rw [if_pos rfl]
          refine thnF (pel.run _ s9 σ8 H9 _ I9 q8) fun z s10 ⟨yv, H10, I10, r10, k, F, cnt, ey, hZ, room, nx⟩ => ?_
          subst ey
          refine thnF (mt_sadd (X := X.blk s3 H3 scope ce fp) _ s10 σ8 H10 (.ref Z) [.int k] (.ref Z) [z] (fun _ H' => N H') I10 rfl (.cons r10 .nil) ⟨Z, k, F, cnt, rfl, rfl, hZ, room, nx⟩) fun _ s11 ⟨_, H11, I11, _, n11⟩ => ?_
          obtain ⟨m', lt, u'⟩ := less H11 n11
          have keep : ∀ b ∈ fp, ∀ o, s7.heap.get? b = some o → s11.heap.get? b = some o ∧ H11 b = none := fun b hb o q =>
            have := I11.pin (b, o) (List.mem_append_right _ (List.mem_append_right _ (mem_pinsAt hb q)))
            ⟨this.1, this.2.1⟩
          refine ⟨m', lt, i + 1, H11, (I11.unpinned (pins := [])).weak (by rw [← w8, wipe_length]) (fun j v q => (wipe_some (w8 ▸ q)).1), T.keep _ _ _ st7 fun b hb o q => (keep b hb o q).1, fun b hb => ?_, u'⟩
          obtain ⟨o, q, _⟩ := T.obj _ _ st7 b hb
          exact (keep b hb o q).2
      exact PpSet.codeAny_compStart_set run (T.self X.A 0 _ _ _ st4 run)
    ))) only [↓Pf.Gate.lem]
theorem kSt {W : World} {e : Expr} {wi : TI} {g : TG} {te : TE} {vs : List Nat} (p : PE X e (tSt X.w wi g te vs)) (h : X.w = W := by rfl) : PE X e (tSt W wi g te vs) := h ▸ p
theorem kSortSet {W : World} (calm : X.calm = true) (h : X.w = W := by rfl) : CallR X (.builtin "sorted") (rSortedSet W) := h ▸ cr_sortedSet calm
end
/-- what a turn reaches -/
def StN (K : PySem.W.Frag) (C : Fx) (B : Hp) (I : Nat → (Int → Bool) → Nat → Own → Prop) (W : World) (σ : L2.St) (ρ : List Sl) (Z : Addr) (i : Nat) : Hp → Prop := fun H => ∃ M F n w, I i F n w ∧ Ds K C B σ H M ρ ((Z, .ho (SetO W Z F n)) :: w) []
section
variable {K : PySem.W.Frag} {C : Fx} {B : Hp} {σ : L2.St} {H M : Hp} {ρ ρ2 : List Sl} {w : Own} {tp : List (V × PyData)} {Q : VK} {te ti : TE} {tl : TA} {g : TG} {v y : V} {ds : List PyData} {Z : Addr} {vs : List Nat} {k i n : Nat} {W : World} {F : Int → Bool} {I : Nat → (Int → Bool) → Nat → Own → Prop} {a : Int} {R : VK}
theorem x_stT (h : ti σ H fun x H1 => ForT K (StB W g te vs Q σ) x H1) : tSt W (iTup K ti) g te vs σ H Q := h
theorem x_stA {σ0 : L2.St} (S : Ds K C B σ H M ρ ((Z, .ho (SetO W Z F n)) :: w) tp) (hr : Rew K C B σ ρ σ0 ρ2) (room : n + 1 < scanBound) (hI : I (i + 1) (fun j => F j || decide (j = a)) (if F a = true then n else n + 1) w) :
    StA W Z (StN K C B I W σ0 ρ2 Z (i + 1)) (.int a) H := by
  obtain ⟨_, e⟩ := S.own _ (List.mem_cons_self ..)
  exact ⟨a, F, n, rfl, e, room, M, _, _, w, hI, hr (S.mut (j := 0) (od' := .ho (SetO W Z (fun j => F j || decide (j = a)) (if F a = true then n else n + 1))) rfl upd_same)⟩
/-- over a tuple, one name -/
theorem x_st1T (I : Nat → (Int → Bool) → Nat → Own → Prop) (S : Ds K C B σ H M ρ w tp) (ht : Tm tp v (.tuple ds)) (h0 : I 0 (fun _ => false) 0 w)
    (hs : ∀ i d F n w1, ds[i]? = some d → I i F n w1 → ∀ Z σ1 H1 M1, Rew K C M σ1 (ρ.set k (.d d)) (wipe σ [k]) (ρ.set k .u) → Ds K C M σ1 H1 M1 (ρ.set k (.d d)) ((Z, .ho (SetO W Z F n)) :: w1) [] → te σ1 H1 (StA W Z (StN K C M I W (wipe σ [k]) (ρ.set k .u) Z (i + 1))))
    (hd : ∀ F n w1, I ds.length F n w1 → ∀ Z H1 M1, Ds K C B σ H1 M1 ρ ((Z, .ho (SetO W Z F n)) :: w1) tp → Q (.ref Z) H1) : ForT K (StB W (gName k) te [k] Q σ) v H := by
  refine Pf.Gate.out ?_
  simp (disch := (with_unfolding_all (
      obtain ⟨p, xs, rfl, h1, h2⟩ := dp_tup (ht.dp S)
      refine ⟨p, rfl, ⟨xs, Same.seqT S.sub h1⟩, fun Z hZ => ⟨fun i m H1 => m = xs.length - i ∧ i ≤ xs.length ∧ StN K C M I W (wipe σ [k]) (ρ.set k .u) Z i H1, ⟨xs.length, rfl, Nat.zero_le _, M, _, 0, w, h0, (S.base.clr.wiped [k]).newO hZ upd_same⟩, ?_⟩⟩
      rintro i m H1 ⟨rfl, hi, M1, F, n, w1, hI, S1⟩
      have sq : SqT K H1 p xs := Same.seqT (S1.bs.trans S1.sub) h1
      by_cases lt : i < xs.length
      · refine .inr ⟨⟨xs, xs[i], sq, List.getElem?_eq_getElem lt⟩, StN K C M I W (wipe σ [k]) (ρ.set k .u) Z (i + 1), fun H' q => ⟨xs.length - (i + 1), by omega, rfl, lt, q⟩, ?_⟩
        rintro x H' ⟨rfl, yl⟩
        have hx := yl xs sq
        have hi' : i < ds.length := by rw [← dpAll_len h2]; exact lt
        have e := List.getElem?_eq_getElem hi'
        have S2 := S1.set (i := k) (v := x) (s := .d ds[i]) (Dp.same S1.bs (dpAll_at h2 i x _ hx e))
        rw [List.set_set] at S2
        exact ⟨wipe1, hs i _ F n w1 e hI Z _ _ M1 rew1 S2⟩
      · have e : i = ds.length := by rw [← dpAll_len h2]; omega
        exact .inl ⟨⟨xs, sq, by omega⟩, hd F n w1 (e ▸ hI) Z H1 M1 (S.outof S1)⟩
    ))) only [↓Pf.Gate.lem]
theorem dpA_ints : ∀ {ns : List Int}, DpAll K M (ns.map V.int) (ns.map PyData.int)
  | [] => .nil
  | n :: _ => .cons (.int n) dpA_ints
theorem h_sortS {us : List V} (h : rSortedSet W us H R) : rSortedSet W us H R := h
theorem x_sortS {p : Addr} (j : Nat) (S : Ds K C B σ H M ρ w tp) (hj : w[j]? = some (p, .ho (SetO W p F n))) (h64 : n < 64) (q : ∀ (ns : List Int) (l : Addr) H', ns.Pairwise (· < ·) → (∀ k : Int, k ∈ ns ↔ F k = true) → ns.length = n → Ds K C B σ H' M ρ ((l, .lst (ns.map .int)) :: w) tp → R (.ref l) H') : rSortedSet W [.ref p] H R := by
  obtain ⟨_, e⟩ := S.own _ (List.mem_of_getElem? hj)
  exact ⟨p, F, n, rfl, e, h64, fun ns l h1 h2 h3 hl => q ns l _ h1 h2 h3 (S.newL hl dpA_ints)⟩
end
end Pf

namespace Pf
open PySem PySem.Spec PyProof.Rows L2
section
variable {K : PySem.W.Frag} {C : Fx} {B : Hp} {σ : L2.St} {H M : Hp} {ρ ρ2 : List Sl} {w : Own} {tp : List (V × PyData)} {Q : VK} {te ti : TE} {tl : TA} {g : TG} {v y : V} {ds : List PyData} {Z : Addr} {vs : List Nat} {k i n : Nat} {W : World} {F : Int → Bool} {I : Nat → (Int → Bool) → Nat → Own → Prop} {a : Int} {R : VK}
theorem x_stL (h : ti σ H fun x H1 => ForL K (StB W g te vs Q σ) x H1) : tSt W (iList K ti) g te vs σ H Q := h
/-- over a list, one name -/
theorem x_st1L (I : Nat → (Int → Bool) → Nat → Own → Prop) (S : Ds K C B σ H M ρ w tp) (ht : Tm tp v (.list ds)) (h0 : I 0 (fun _ => false) 0 w)
    (hs : ∀ i d F n w1, ds[i]? = some d → I i F n w1 → ∀ Z σ1 H1 M1, Rew K C M σ1 (ρ.set k (.d d)) (wipe σ [k]) (ρ.set k .u) → Ds K C M σ1 H1 M1 (ρ.set k (.d d)) ((Z, .ho (SetO W Z F n)) :: w1) [] → te σ1 H1 (StA W Z (StN K C M I W (wipe σ [k]) (ρ.set k .u) Z (i + 1))))
    (hd : ∀ F n w1, I ds.length F n w1 → ∀ Z H1 M1, Ds K C B σ H1 M1 ρ ((Z, .ho (SetO W Z F n)) :: w1) tp → Q (.ref Z) H1) : ForL K (StB W (gName k) te [k] Q σ) v H := by
  refine Pf.Gate.out ?_
  simp (disch := (with_unfolding_all (
      obtain ⟨p, xs, rfl, h1, h2⟩ := dp_lst (ht.dp S)
      refine ⟨p, rfl, ⟨xs, S.sub.seq h1⟩, fun Z hZ => ⟨fun i m H1 => m = xs.length - i ∧ i ≤ xs.length ∧ StN K C M I W (wipe σ [k]) (ρ.set k .u) Z i H1, ⟨xs.length, rfl, Nat.zero_le _, M, _, 0, w, h0, (S.base.clr.wiped [k]).newO hZ upd_same⟩, ?_⟩⟩
      rintro i m H1 ⟨rfl, hi, M1, F, n, w1, hI, S1⟩
      have sq : SqL K H1 p xs := (S1.bs.trans S1.sub).seq h1
      by_cases lt : i < xs.length
      · refine .inr ⟨⟨xs, xs[i], sq, List.getElem?_eq_getElem lt⟩, StN K C M I W (wipe σ [k]) (ρ.set k .u) Z (i + 1), fun H' q => ⟨xs.length - (i + 1), by omega, rfl, lt, q⟩, ?_⟩
        rintro x H' ⟨rfl, yl⟩
        have hx := yl xs sq
        have hi' : i < ds.length := by rw [← dpAll_len h2]; exact lt
        have e := List.getElem?_eq_getElem hi'
        have S2 := S1.set (i := k) (v := x) (s := .d ds[i]) (Dp.same S1.bs (dpAll_at h2 i x _ hx e))
        rw [List.set_set] at S2
        exact ⟨wipe1, hs i _ F n w1 e hI Z _ _ M1 rew1 S2⟩
      · have e : i = ds.length := by rw [← dpAll_len h2]; omega
        exact .inl ⟨⟨xs, sq, by omega⟩, hd F n w1 (e ▸ hI) Z H1 M1 (S.outof S1)⟩
    ))) only [↓Pf.Gate.lem]
end
end Pf

namespace Pf
open PySem PySem.Spec PyProof.Rows L2
/-! ==, != and in of data as deep as 206 -/
def rInB (K : PySem.W.Frag) (neg : Bool) : R2 := fun x y H Q => ∃ d ds, Dp K H x d ∧ (Dp K H y (.list ds) ∨ Dp K H y (.tuple ds)) ∧ d.canLay0 = true ∧ d.depth ≤ 206 ∧ PyData.canLayAll0 ds = true ∧ Q (.bl (if neg then !ds.any (fun z => PyData.eqv z d) else ds.any fun z => PyData.eqv z d)) H
def rEqB (K : PySem.W.Frag) (neg : Bool) : R2 := fun x y H Q => ∃ d e, Dp K H x d ∧ Dp K H y e ∧ d.canLay0 = true ∧ e.canLay0 = true ∧ d.depth ≤ 206 ∧ Q (.bl (if neg then !PyData.eqv d e else PyData.eqv d e)) H
section
variable {X : Cx}
theorem in_roomB {A : Around} {d : PyData} {ds : List PyData} (h : d.depth ≤ 206) (hu : A.units + 207 < cLine) : A.units + 1 + min (PyData.depthAll ds) d.depth < cLine := by
  have h2 : min (PyData.depthAll ds) d.depth ≤ d.depth := Nat.min_le_right _ _
  omega
theorem op_inB (hu : X.A.units + 207 < cLine) : OpR X (compareOp .In) (rInB X.K false) := by
  intro pins s σ H x y v u Q I rx ry h
  obtain ⟨d, ds, hd, he, l1, l2, l3, q⟩ := h
  obtain ⟨as, r1⟩ := Dp.reads I d x v hd rx
  rcases he with he | he
  · obtain ⟨bs, r2⟩ := Dp.reads I _ y u he ry
    exact SeqAt.in_list_reads r2 r1 l3 l1 (in_roomB l2 hu) ⟨.bl _, H, I, rfl, q⟩
  · obtain ⟨bs, r2⟩ := Dp.reads I _ y u he ry
    exact SeqAt.in_tuple_reads r2 r1 l3 l1 (in_roomB l2 hu) ⟨.bl _, H, I, rfl, q⟩
theorem op_notInB (hu : X.A.units + 207 < cLine) : OpR X (compareOp .NotIn) (rInB X.K true) := by
  intro pins s σ H x y v u Q I rx ry h
  obtain ⟨d, ds, hd, he, l1, l2, l3, q⟩ := h
  obtain ⟨as, r1⟩ := Dp.reads I d x v hd rx
  rcases he with he | he
  · obtain ⟨bs, r2⟩ := Dp.reads I _ y u he ry
    exact SeqAt.notIn_list_reads r2 r1 l3 l1 (in_roomB l2 hu) ⟨.bl _, H, I, rfl, q⟩
  · obtain ⟨bs, r2⟩ := Dp.reads I _ y u he ry
    exact SeqAt.notIn_tuple_reads r2 r1 l3 l1 (in_roomB l2 hu) ⟨.bl _, H, I, rfl, q⟩
theorem eq_roomB {A : Around} {d e : PyData} (h : d.depth ≤ 206) (hu : A.units + 207 < cLine) : A.units + min d.depth e.depth < cLine := by
  have h2 : min d.depth e.depth ≤ d.depth := Nat.min_le_left _ _
  omega
theorem op_eqB (hu : X.A.units + 207 < cLine) : OpR X (compareOp .Eq) (rEqB X.K false) := by
  intro pins s σ H x y v u Q I rx ry h
  obtain ⟨d, e, hd, he, sd, se, dd, q⟩ := h
  obtain ⟨as, r1⟩ := Dp.reads I d x v hd rx
  obtain ⟨bs, r2⟩ := Dp.reads I e y u he ry
  exact SeqAt.compareEq_reads r1 r2 sd se (eq_roomB dd hu) ⟨.bl _, H, I, rfl, q⟩
theorem op_neB (hu : X.A.units + 207 < cLine) : OpR X (compareOp .NotEq) (rEqB X.K true) := by
  intro pins s σ H x y v u Q I rx ry h
  obtain ⟨d, e, hd, he, sd, se, dd, q⟩ := h
  obtain ⟨as, r1⟩ := Dp.reads I d x v hd rx
  obtain ⟨bs, r2⟩ := Dp.reads I e y u he ry
  exact SeqAt.compareNe_reads r1 r2 sd se (eq_roomB dd hu) ⟨.bl _, H, I, rfl, q⟩
theorem kInB {K : PySem.W.Frag} (hu : X.A.units + 207 < cLine) (h : X.K = K := by rfl) : OpR X (compareOp .In) (rInB K false) := h ▸ op_inB hu
theorem kNotInB {K : PySem.W.Frag} (hu : X.A.units + 207 < cLine) (h : X.K = K := by rfl) : OpR X (compareOp .NotIn) (rInB K true) := h ▸ op_notInB hu
theorem kEqB {K : PySem.W.Frag} (hu : X.A.units + 207 < cLine) (h : X.K = K := by rfl) : OpR X (compareOp .Eq) (rEqB K false) := h ▸ op_eqB hu
theorem kNeB {K : PySem.W.Frag} (hu : X.A.units + 207 < cLine) (h : X.K = K := by rfl) : OpR X (compareOp .NotEq) (rEqB K true) := h ▸ op_neB hu
end
theorem uB {k : Nat} {A : Around} (r : Room (k + 1) A) : A.units + 207 < cLine := by have := r.un; omega
section
variable {K : PySem.W.Frag} {C : Fx} {B : Hp} {σ : L2.St} {H M : Hp} {ρ : List Sl} {w : Own} {tp : List (V × PyData)} {R : VK} {x y : V} {a : Addr} {b : Bool}
variable {α : Type} [DecidableEq α] {f : α → PyData} {xs : List α} {c : α} {neg : Bool}
theorem x_inBT (e : Enc f) (S : Ds K C B σ H M ρ w tp) (hx : Tm tp x (f c)) (hy : Tm tp y (.tuple (xs.map f))) (hd : (f c).depth ≤ 206) (q : R (.bl (if neg then !decide (c ∈ xs) else decide (c ∈ xs))) H) : rInB K neg x y H R :=
  ⟨f c, xs.map f, Dp.same S.sub (hx.dp S), .inr (Dp.same S.sub (hy.dp S)), e.lay c, hd, e.layAll xs, by rw [e.any]; exact q⟩
theorem x_inBL (e : Enc f) (S : Ds K C B σ H M ρ w tp) (hx : Tm tp x (f c)) (hy : Tm tp y (.list (xs.map f))) (hd : (f c).depth ≤ 206) (q : R (.bl (if neg then !decide (c ∈ xs) else decide (c ∈ xs))) H) : rInB K neg x y H R :=
  ⟨f c, xs.map f, Dp.same S.sub (hx.dp S), .inl (Dp.same S.sub (hy.dp S)), e.lay c, hd, e.layAll xs, by rw [e.any]; exact q⟩
theorem x_inBO (e : Enc f) (j : Nat) (S : Ds K C B σ H M ρ w tp) (hj : w[j]? = some (a, .lst (xs.map f))) (hx : Tm tp x (f c)) (hd : (f c).depth ≤ 206) (q : R (.bl (if neg then !decide (c ∈ xs) else decide (c ∈ xs))) H) : rInB K neg x (.ref a) H R := by
  obtain ⟨_, vs, h1, h2⟩ := S.own _ (List.mem_of_getElem? hj)
  exact ⟨f c, xs.map f, Dp.same S.sub (hx.dp S), .inl (.lst (.of h1) (DpAll.same S.sub h2)), e.lay c, hd, e.layAll xs, by rw [e.any]; exact q⟩
theorem y_inTB (e : Enc f) (S : Ds K C B σ H M ρ w tp) (hx : Tm tp x (f c)) (hy : Tm tp y (.tuple (xs.map f))) (hd : (f c).depth ≤ 206) (q : R (.bl (decide (c ∈ xs))) H) : rInB K false x y H R := x_inBT e S hx hy hd q
theorem y_inLB (e : Enc f) (S : Ds K C B σ H M ρ w tp) (hx : Tm tp x (f c)) (hy : Tm tp y (.list (xs.map f))) (hd : (f c).depth ≤ 206) (q : R (.bl (decide (c ∈ xs))) H) : rInB K false x y H R := x_inBL e S hx hy hd q
theorem y_niOB (e : Enc f) (j : Nat) (S : Ds K C B σ H M ρ w tp) (hj : w[j]? = some (a, .lst (xs.map f))) (hx : Tm tp x (f c)) (hd : (f c).depth ≤ 206) (q : R (.bl (!decide (c ∈ xs))) H) : rInB K true x (.ref a) H R := x_inBO e j S hj hx hd q
theorem z_inLB (e : Enc f) (S : Ds K C B σ H M ρ w tp) (hx : Tm tp x (f c)) (hy : Tm tp y (.list (xs.map f))) (hd : (f c).depth ≤ 206) (hb : memD c xs = b) (q : R (.bl b) H) : rInB K false x y H R := y_inLB e S hx hy hd (by rw [show decide (c ∈ xs) = b from hb]; exact q)
theorem x_neBd (e : Enc f) {d : α} (S : Ds K C B σ H M ρ w tp) (hx : Tm tp x (f c)) (hy : Tm tp y (f d)) (h1 : (f c).depth ≤ 206) (q : R (.bl (!decide (c = d))) H) : rEqB K true x y H R :=
  ⟨f c, f d, Dp.same S.sub (hx.dp S), Dp.same S.sub (hy.dp S), e.lay c, e.lay d, h1, by rw [e.eq]; exact q⟩
theorem x_eqBd (e : Enc f) {d : α} (S : Ds K C B σ H M ρ w tp) (hx : Tm tp x (f c)) (hy : Tm tp y (f d)) (h1 : (f c).depth ≤ 206) (q : R (.bl (decide (c = d))) H) : rEqB K false x y H R :=
  ⟨f c, f d, Dp.same S.sub (hx.dp S), Dp.same S.sub (hy.dp S), e.lay c, e.lay d, h1, by rw [e.eq]; exact q⟩
end
end Pf

namespace Pf
open PySem PySem.Spec PyProof.Rows L2
def topS (i : Nat) : Stmt := PySem.Challenge.pw_ontoworks_k31_right_lines_hold_in_models.main.body.getD i (.Pass ⟨0, 0, 0, 0⟩)
abbrev s_inverse : Stmt := topS 1
theorem sc_inverse : FnScope ["role", "number", "back"] ["role"] (defScope s_inverse) := ⟨rfl, rfl, rfl, by decide +kernel, rfl, by decide +kernel, by decide +kernel⟩
abbrev s_is_certain : Stmt := topS 3
theorem sc_is_certain : FnScope ["has", "place", "concept", "holds"] ["has", "place", "concept", "holds"] (defScope s_is_certain) := ⟨rfl, rfl, rfl, by decide +kernel, rfl, by decide +kernel, by decide +kernel⟩
abbrev s_role_behind : Stmt := topS 4
theorem sc_role_behind : FnScope ["ontology", "places", "role", "steps", "axiom", "part", "turned", "named", "_", "lower", "upper"] ["ontology", "places", "role", "steps"] (defScope s_role_behind) := ⟨rfl, rfl, rfl, by decide +kernel, rfl, by decide +kernel, by decide +kernel⟩
abbrev s_is_right : Stmt := topS 5
theorem sc_is_right : FnScope ["ontology", "places", "before", "line", "shape", "rows", "reason", "kind", "_", "place", "concept", "number"] ["ontology", "places", "before", "line"] (defScope s_is_right) := ⟨rfl, rfl, rfl, by decide +kernel, rfl, by decide +kernel, by decide +kernel⟩
abbrev s_known : Stmt := topS 6
theorem sc_known : FnScope ["has", "place", "holding", "failing", "concept", "found", "holds", "other"] ["has", "place"] (defScope s_known) := ⟨rfl, rfl, rfl, by decide +kernel, rfl, by decide +kernel, by decide +kernel⟩
abbrev s_is_settled : Stmt := topS 7
theorem sc_is_settled : FnScope ["known", "concept", "holds", "holding", "failing", "kind", "settled", "operand"] ["known", "concept", "holds"] (defScope s_is_settled) := ⟨rfl, rfl, rfl, by decide +kernel, rfl, by decide +kernel, by decide +kernel⟩
abbrev s_are_certain : Stmt := topS 8
theorem sc_are_certain : FnScope ["has", "rows", "known", "place", "concept"] ["has", "rows"] (defScope s_are_certain) := ⟨rfl, rfl, rfl, by decide +kernel, rfl, by decide +kernel, by decide +kernel⟩
abbrev s_moved : Stmt := topS 9
theorem sc_moved : FnScope ["line", "place", "_", "concept"] ["line", "place"] (defScope s_moved) := ⟨rfl, rfl, rfl, by decide +kernel, rfl, by decide +kernel, by decide +kernel⟩
abbrev s_has_shape : Stmt := topS 10
theorem sc_has_shape : FnScope ["before", "number", "shape"] ["before", "number", "shape"] (defScope s_has_shape) := ⟨rfl, rfl, rfl, by decide +kernel, rfl, by decide +kernel, by decide +kernel⟩
abbrev s_part : Stmt := topS 11
theorem sc_part : FnScope ["ontology", "places", "axiom", "part", "kind", "axioms", "_", "named"] ["ontology", "places", "axiom", "part", "kind"] (defScope s_part) := ⟨rfl, rfl, rfl, by decide +kernel, rfl, by decide +kernel, by decide +kernel⟩
abbrev s_is_right_axiom : Stmt := topS 12
theorem sc_is_right_axiom : FnScope ["ontology", "places", "rows", "reason", "_", "place", "axiom", "part", "named", "lower", "upper"] ["ontology", "places", "rows", "reason"] (defScope s_is_right_axiom) := ⟨rfl, rfl, rfl, by decide +kernel, rfl, by decide +kernel, by decide +kernel⟩
abbrev s_is_right_split : Stmt := topS 13
theorem sc_is_right_split : FnScope ["before", "shape", "rows", "reason", "_", "place", "concept", "within", "without"] ["before", "shape", "rows", "reason"] (defScope s_is_right_split) := ⟨rfl, rfl, rfl, by decide +kernel, rfl, by decide +kernel, by decide +kernel⟩
abbrev s_is_right_need : Stmt := topS 14
theorem sc_is_right_need : FnScope ["before", "rows", "reason", "_", "place", "role", "concept", "number", "named", "here", "behind", "other", "row"] ["before", "rows", "reason"] (defScope s_is_right_need) := ⟨rfl, rfl, rfl, by decide +kernel, rfl, by decide +kernel, by decide +kernel⟩
abbrev s_is_right_role : Stmt := topS 15
theorem sc_is_right_role : FnScope ["ontology", "places", "line", "shape", "rows", "reason", "_", "steps", "backwards", "concept", "role"] ["ontology", "places", "line"] (defScope s_is_right_role) := ⟨rfl, rfl, rfl, by decide +kernel, rfl, by decide +kernel, by decide +kernel⟩
abbrev s_is_right_member : Stmt := topS 16
theorem sc_is_right_member : FnScope ["ontology", "places", "line", "shape", "rows", "reason", "_", "axiom", "part", "named"] ["ontology", "places", "line"] (defScope s_is_right_member) := ⟨rfl, rfl, rfl, by decide +kernel, rfl, by decide +kernel, by decide +kernel⟩
abbrev s_is_right_link : Stmt := topS 17
theorem sc_is_right_link : FnScope ["ontology", "places", "line", "shape", "rows", "reason", "_", "axiom", "part", "steps", "backwards", "concept", "named", "first", "number", "second", "role"] ["ontology", "places", "line"] (defScope s_is_right_link) := ⟨rfl, rfl, rfl, by decide +kernel, rfl, by decide +kernel, by decide +kernel⟩
abbrev s_is_against : Stmt := topS 18
theorem sc_is_against : FnScope ["rows", "role", "backwards", "concept", "pair", "first", "second"] ["rows", "role", "backwards", "concept", "pair"] (defScope s_is_against) := ⟨rfl, rfl, rfl, by decide +kernel, rfl, by decide +kernel, by decide +kernel⟩
abbrev s_law_is_integer : Stmt := topS 20
theorem sc_law_is_integer : FnScope ["actual"] ["actual"] (defScope s_law_is_integer) := ⟨rfl, rfl, rfl, by decide +kernel, rfl, by decide +kernel, by decide +kernel⟩
abbrev s_law_cell : Stmt := topS 21
theorem sc_law_cell : FnScope ["script", "k"] ["script", "k"] (defScope s_law_cell) := ⟨rfl, rfl, rfl, by decide +kernel, rfl, by decide +kernel, by decide +kernel⟩
abbrev s_law_digits : Stmt := topS 22
theorem sc_law_digits : FnScope ["cell", "at", "digits", "turn", "seed"] ["cell", "at"] (defScope s_law_digits) := ⟨rfl, rfl, rfl, by decide +kernel, rfl, by decide +kernel, by decide +kernel⟩
abbrev s_law_box : Stmt := topS 23
theorem sc_law_box : FnScope ["script", "at"] ["script", "at"] (defScope s_law_box) := ⟨rfl, rfl, rfl, by decide +kernel, rfl, by decide +kernel, by decide +kernel⟩
abbrev s_law_draw : Stmt := topS 24
theorem sc_law_draw : FnScope ["box", "many", "at"] ["box", "many"] (defScope s_law_draw) := ⟨rfl, rfl, rfl, by decide +kernel, rfl, by decide +kernel, by decide +kernel⟩
abbrev s_law_role : Stmt := topS 25
theorem sc_law_role : FnScope ["box", "sizes", "number"] ["box", "sizes"] (defScope s_law_role) := ⟨rfl, rfl, rfl, by decide +kernel, rfl, by decide +kernel, by decide +kernel⟩
abbrev s_law_concept : Stmt := topS 26
theorem sc_law_concept : FnScope ["box", "sizes", "depth", "kind", "first", "role"] ["box", "sizes", "depth"] (defScope s_law_concept) := ⟨rfl, rfl, rfl, by decide +kernel, rfl, by decide +kernel, by decide +kernel⟩
abbrev s_law_roles_axiom : Stmt := topS 27
theorem sc_law_roles_axiom : FnScope ["box", "sizes", "both", "first", "second"] ["box", "sizes", "both"] (defScope s_law_roles_axiom) := ⟨rfl, rfl, rfl, by decide +kernel, rfl, by decide +kernel, by decide +kernel⟩
abbrev s_law_axiom : Stmt := topS 28
theorem sc_law_axiom : FnScope ["box", "sizes", "depth", "kind", "one", "role", "first", "second"] ["box", "sizes", "depth"] (defScope s_law_axiom) := ⟨rfl, rfl, rfl, by decide +kernel, rfl, by decide +kernel, by decide +kernel⟩
abbrev s_law_gather : Stmt := topS 29
theorem sc_law_gather : FnScope ["concept", "found", "inner"] ["concept", "found"] (defScope s_law_gather) := ⟨rfl, rfl, rfl, by decide +kernel, rfl, by decide +kernel, by decide +kernel⟩
abbrev s_law_atoms : Stmt := topS 30
theorem sc_law_atoms : FnScope ["axioms", "questions", "found", "trees", "axiom", "tree"] ["axioms", "questions"] (defScope s_law_atoms) := ⟨rfl, rfl, rfl, by decide +kernel, rfl, by decide +kernel, by decide +kernel⟩
abbrev s_law_sizes : Stmt := topS 31
theorem sc_law_sizes : FnScope ["script", "box", "concepts", "roles"] ["script"] (defScope s_law_sizes) := ⟨rfl, rfl, rfl, by decide +kernel, rfl, by decide +kernel, by decide +kernel⟩
abbrev s_law_axioms : Stmt := topS 32
theorem sc_law_axioms : FnScope ["script", "sizes", "many", "room", "depth", "axioms", "k", "axiom"] ["script", "sizes", "many", "room", "depth"] (defScope s_law_axioms) := ⟨rfl, rfl, rfl, by decide +kernel, rfl, by decide +kernel, by decide +kernel⟩
abbrev s_law_subset : Stmt := topS 33
theorem sc_law_subset : FnScope ["cell", "many", "found", "place"] ["cell", "many"] (defScope s_law_subset) := ⟨rfl, rfl, rfl, by decide +kernel, rfl, by decide +kernel, by decide +kernel⟩
abbrev s_law_linked : Stmt := topS 34
theorem sc_law_linked : FnScope ["model", "role", "first", "second"] ["model", "role", "first", "second"] (defScope s_law_linked) := ⟨rfl, rfl, rfl, by decide +kernel, rfl, by decide +kernel, by decide +kernel⟩
abbrev s_law_inside : Stmt := topS 35
theorem sc_law_inside : FnScope ["model", "concept", "things", "thing", "inner", "found", "other"] ["model", "concept"] (defScope s_law_inside) := ⟨rfl, rfl, rfl, by decide +kernel, rfl, by decide +kernel, by decide +kernel⟩
abbrev s_law_fault : Stmt := topS 36
theorem sc_law_fault : FnScope ["model", "part", "many", "inner", "outside", "first", "second", "thing"] ["model", "part"] (defScope s_law_fault) := ⟨rfl, rfl, rfl, by decide +kernel, rfl, by decide +kernel, by decide +kernel⟩
abbrev s_law_holds_in : Stmt := topS 37
theorem sc_law_holds_in : FnScope ["model", "axiom", "part"] ["model", "axiom"] (defScope s_law_holds_in) := ⟨rfl, rfl, rfl, by decide +kernel, rfl, by decide +kernel, by decide +kernel⟩
abbrev s_law_model : Stmt := topS 38
theorem sc_law_model : FnScope ["box", "sizes", "most", "many", "things", "thing", "links", "role", "cell", "first", "second", "ones", "one"] ["box", "sizes", "most"] (defScope s_law_model) := ⟨rfl, rfl, rfl, by decide +kernel, rfl, by decide +kernel, by decide +kernel⟩
abbrev s_law_back : Stmt := topS 39
theorem sc_law_back : FnScope ["role"] ["role"] (defScope s_law_back) := ⟨rfl, rfl, rfl, by decide +kernel, rfl, by decide +kernel, by decide +kernel⟩
abbrev s_law_steps : Stmt := topS 40
theorem sc_law_steps : FnScope ["box", "axioms", "role", "steps", "turn", "axiom", "number", "part"] ["box", "axioms", "role"] (defScope s_law_steps) := ⟨rfl, rfl, rfl, by decide +kernel, rfl, by decide +kernel, by decide +kernel⟩
abbrev s_law_places_of : Stmt := topS 41
theorem sc_law_places_of : FnScope ["axioms", "kind", "rows", "axiom", "number"] ["axioms", "kind"] (defScope s_law_places_of) := ⟨rfl, rfl, rfl, by decide +kernel, rfl, by decide +kernel, by decide +kernel⟩
abbrev s_law_picked : Stmt := topS 42
theorem sc_law_picked : FnScope ["box", "rows"] ["box", "rows"] (defScope s_law_picked) := ⟨rfl, rfl, rfl, by decide +kernel, rfl, by decide +kernel, by decide +kernel⟩
abbrev s_law_role_line : Stmt := topS 43
theorem sc_law_role_line : FnScope ["box", "axioms", "sizes", "concept", "role", "steps", "backwards", "has"] ["box", "axioms", "sizes", "concept"] (defScope s_law_role_line) := ⟨rfl, rfl, rfl, by decide +kernel, rfl, by decide +kernel, by decide +kernel⟩
abbrev s_law_link_line : Stmt := topS 44
theorem sc_law_link_line : FnScope ["box", "axioms", "concept", "place", "part", "steps", "backwards", "has"] ["box", "axioms", "concept"] (defScope s_law_link_line) := ⟨rfl, rfl, rfl, by decide +kernel, rfl, by decide +kernel, by decide +kernel⟩
abbrev s_law_axiom_line : Stmt := topS 45
theorem sc_law_axiom_line : FnScope ["box", "axioms", "shape", "place", "found", "member", "part", "has"] ["box", "axioms", "shape", "place"] (defScope s_law_axiom_line) := ⟨rfl, rfl, rfl, by decide +kernel, rfl, by decide +kernel, by decide +kernel⟩
abbrev s_law_later_line : Stmt := topS 46
theorem sc_law_later_line : FnScope ["box", "lines", "shape", "place", "number", "named", "row", "inner", "concept", "has", "needs", "other", "rows", "picked"] ["box", "lines", "shape", "place"] (defScope s_law_later_line) := ⟨rfl, rfl, rfl, by decide +kernel, rfl, by decide +kernel, by decide +kernel⟩
abbrev s_law_line : Stmt := topS 47
theorem sc_law_line : FnScope ["box", "axioms", "sizes", "lines", "kind", "shape", "place", "made", "concept"] ["box", "axioms", "sizes", "lines"] (defScope s_law_line) := ⟨rfl, rfl, rfl, by decide +kernel, rfl, by decide +kernel, by decide +kernel⟩
abbrev s_law_spoilt : Stmt := topS 48
theorem sc_law_spoilt : FnScope ["box", "line", "sizes", "kind", "has", "at", "shape", "reason"] ["box", "line", "sizes"] (defScope s_law_spoilt) := ⟨rfl, rfl, rfl, by decide +kernel, rfl, by decide +kernel, by decide +kernel⟩
abbrev s_law_lines : Stmt := topS 49
theorem sc_law_lines : FnScope ["script", "first", "many", "axioms", "sizes", "lines", "k", "box"] ["script", "first", "many", "axioms", "sizes"] (defScope s_law_lines) := ⟨rfl, rfl, rfl, by decide +kernel, rfl, by decide +kernel, by decide +kernel⟩
abbrev s_law_refutes : Stmt := topS 50
theorem sc_law_refutes : FnScope ["model", "line", "ones", "many", "rows", "place", "things", "row", "inner", "one", "first", "thing", "second"] ["model", "line", "ones"] (defScope s_law_refutes) := ⟨rfl, rfl, rfl, by decide +kernel, rfl, by decide +kernel, by decide +kernel⟩
abbrev s_law : Stmt := topS 51
theorem sc_law : FnScope ["script", "sizes", "axioms", "lines", "at", "model", "places", "kept", "line", "k"] ["script"] (defScope s_law) := ⟨rfl, rfl, rfl, by decide +kernel, rfl, by decide +kernel, by decide +kernel⟩
local macro_rules | `(tactic| walk_at "tm") => `(tactic| (first | exact Tm.i _ | exact Tm.b _ | exact Tm.s _ | exact Tm.n | (apply Tm.m; (repeat (first | exact List.mem_cons_self .. | apply List.mem_cons_of_mem)); (first | done | fail))))
local macro_rules | `(tactic| walk_at "tma") => `(tactic| ((repeat (first | exact TmAll.nil | apply TmAll.cons (by first | exact Tm.i _ | exact Tm.b _ | exact Tm.s _ | exact Tm.n | (apply Tm.m; (repeat (first | exact List.mem_cons_self .. | apply List.mem_cons_of_mem)); (first | done | fail))))); (first | done | fail)))
local macro_rules | `(tactic| walk_at "slt") => `(tactic| ((repeat (first | exact SlT.nil | apply SlT.p (by assumption) (by first | exact Tm.i _ | exact Tm.b _ | exact Tm.s _ | exact Tm.n | (apply Tm.m; (repeat (first | exact List.mem_cons_self .. | apply List.mem_cons_of_mem)); (first | done | fail))) | apply SlT.d (by first | exact Tm.i _ | exact Tm.b _ | exact Tm.s _ | exact Tm.n | (apply Tm.m; (repeat (first | exact List.mem_cons_self .. | apply List.mem_cons_of_mem)); (first | done | fail))) | apply SlT.v)); (first | done | fail)))
local macro_rules | `(tactic| walk_at "set") => `(tactic| ((repeat (first | exact SetAt.z | apply SetAt.s)); (first | done | fail)))
local macro_rules | `(tactic| walk_at "le") => `(tactic| ((repeat (first | exact SlLe.nil | apply SlLe.same | apply SlLe.less)); (first | done | fail)))
local macro_rules | `(tactic| walk_at "ar") => `(tactic| (with_unfolding_all first | decide | (dsimp only; omega) | (refine .inl ?_; constructor <;> first | decide | omega) | (refine .inr ?_; constructor <;> first | decide | omega) | (constructor <;> first | decide | omega | (constructor <;> first | decide | omega)) | assumption))
local macro_rules | `(tactic| walk_at "in") => `(tactic| (rename Ds _ _ _ _ _ _ _ _ _ => S1; simp only [List.map_nil, List.map_cons, List.length_cons, List.length_nil, Nat.zero_add, Nat.reduceAdd, Nat.reduceSub, Nat.sub_self, List.replicate_zero, List.replicate_succ, List.append_nil, List.cons_append, List.nil_append] at S1; generalize L2.start _ _ = σ0 at S1 ⊢))
local macro_rules | `(tactic| walk_at "dl") => `(tactic| repeat (first
  | (with_reducible refine h_var ?_; first | with_reducible refine x_var (by assumption) (by with_unfolding_all rfl) ?_ | with_reducible refine x_varV (by assumption) (by with_unfolding_all rfl) ?_ | (with_reducible refine x_varP (by assumption) (by with_unfolding_all rfl) ?_; intro _ _ _) | (with_reducible refine x_varT (by assumption) (by with_unfolding_all rfl) ?_; intro _ _ _))
  | (with_reducible refine h_giv ?_; first | with_reducible refine x_gI ?_ | with_reducible refine x_gB ?_ | with_reducible refine x_gS ?_ | with_reducible refine x_gN ?_ | (with_reducible refine x_gP (by assumption) ?_; intro _ _))
  | with_reducible refine x_op ?_
  | (with_reducible refine h_cR ?_; first | (with_reducible refine x_cR (by assumption) (by assumption) ?_; intro _) | with_reducible refine x_c ?_)
  | with_reducible refine x_c ?_
  | with_reducible refine x_I0 ?_
  | with_reducible refine x_cons ?_
  | with_reducible refine x_nil ?_
  | with_reducible refine x_tup ?_
  | (with_reducible refine h_tupK ?_; first | (with_reducible refine x_tupK (by assumption) (by (repeat (first | exact TmAll.nil | apply TmAll.cons (by first | exact Tm.i _ | exact Tm.b _ | exact Tm.s _ | exact Tm.n | (apply Tm.m; (repeat (first | exact List.mem_cons_self .. | apply List.mem_cons_of_mem)); (first | done | fail))))); (first | done | fail)) (by with_unfolding_all rfl) ?_; intro _ _ _ _))
  | (with_reducible refine h_eq ?_; first | with_reducible refine x_eqI ?_ | with_reducible refine x_eqS ?_ | with_reducible refine x_eqB ?_)
  | (with_reducible refine h_ne ?_; first | with_reducible refine x_neI ?_ | with_reducible refine x_neS ?_ | with_reducible refine x_neB ?_)
  | (with_reducible refine h_ixT ?_; first | with_reducible refine x_ixT (by assumption) (by first | exact Tm.i _ | exact Tm.b _ | exact Tm.s _ | exact Tm.n | (apply Tm.m; (repeat (first | exact List.mem_cons_self .. | apply List.mem_cons_of_mem)); (first | done | fail))) (by with_unfolding_all rfl) ?_)
  | (with_reducible refine h_ixL ?_; first | with_reducible refine x_ixL (by assumption) (by first | exact Tm.i _ | exact Tm.b _ | exact Tm.s _ | exact Tm.n | (apply Tm.m; (repeat (first | exact List.mem_cons_self .. | apply List.mem_cons_of_mem)); (first | done | fail))) (by with_unfolding_all rfl) ?_ | with_reducible refine x_ixO 0 (by assumption) (by with_unfolding_all rfl) (by with_unfolding_all rfl) ?_ | with_reducible refine x_ixO 1 (by assumption) (by with_unfolding_all rfl) (by with_unfolding_all rfl) ?_ | with_reducible refine x_ixO 2 (by assumption) (by with_unfolding_all rfl) (by with_unfolding_all rfl) ?_ | with_reducible refine x_ixH 0 (by assumption) (by with_unfolding_all rfl) (by with_unfolding_all rfl) ?_ | with_reducible refine x_ixH 1 (by assumption) (by with_unfolding_all rfl) (by with_unfolding_all rfl) ?_ | with_reducible refine x_ixH 2 (by assumption) (by with_unfolding_all rfl) (by with_unfolding_all rfl) ?_)
  | (with_reducible refine h_I ?_; first | with_reducible refine x_I (by with_unfolding_all first | decide | (dsimp only; omega) | (refine .inl ?_; constructor <;> first | decide | omega) | (refine .inr ?_; constructor <;> first | decide | omega) | (constructor <;> first | decide | omega | (constructor <;> first | decide | omega)) | assumption) ?_)
  | with_reducible refine x_test ?_
  | with_reducible refine x_exB ?_
  | (with_reducible refine h_ite ?_; first | (with_reducible refine x_ifNoT ?_) | (with_reducible refine x_ifNoF ?_) | (with_reducible refine x_ifSn ?_) | (with_reducible refine x_ifSs ?_) | with_reducible refine x_ifT (by decide +kernel) ?_ | with_reducible refine x_ifF (by decide +kernel) ?_)
  | (with_reducible refine h_gn ?_; first | (with_reducible refine x_gnT (by assumption) (by assumption) (by (repeat (first | exact SetAt.z | apply SetAt.s)); (first | done | fail)) ?_; intro _ _; try dsimp only) | (with_reducible refine x_gn (by assumption) (by first | exact Tm.i _ | exact Tm.b _ | exact Tm.s _ | exact Tm.n | (apply Tm.m; (repeat (first | exact List.mem_cons_self .. | apply List.mem_cons_of_mem)); (first | done | fail))) (by (repeat (first | exact SetAt.z | apply SetAt.s)); (first | done | fail)) ?_; intro _ _; try dsimp only) | (with_reducible refine x_gnV (by assumption) (by (repeat (first | exact SetAt.z | apply SetAt.s)); (first | done | fail)) ?_; intro _ _; try dsimp only))
  | (with_reducible refine x_seqN ?_; intro _ _; try dsimp only)
  | with_reducible refine x_asg ?_
  | with_reducible refine x_par2 ?_
  | with_reducible refine x_par2K ?_
  | with_reducible refine x_par3 ?_
  | with_reducible refine x_par3K ?_
  | with_reducible refine x_ifS ?_
  | with_reducible refine x_ret ?_
  | with_reducible refine x_drop ?_
  | (with_reducible refine x_next ?_; try dsimp only)
  | (with_reducible refine x_cont ?_; try dsimp only)
  | (with_reducible refine x_break ?_; try dsimp only)
  | with_reducible refine x_un ?_
  | with_reducible refine x_U ?_
  | with_reducible refine x_tB ?_
  | with_reducible refine x_not ?_
  | with_reducible refine x_and ?_
  | with_reducible refine x_or ?_
  | with_reducible refine x_andV ?_
  | with_reducible refine x_orV ?_
  | with_reducible refine x_notV ?_
  | with_reducible refine x_ifE ?_
  | with_reducible refine x_notT ?_
  | with_reducible refine x_truD ?_
  | with_reducible refine x_truI ?_
  | with_reducible refine x_truB ?_
  | with_reducible refine x_lst ?_
  | (with_reducible refine h_tru ?_; first | with_reducible refine x_truT (by assumption) (by first | exact Tm.i _ | exact Tm.b _ | exact Tm.s _ | exact Tm.n | (apply Tm.m; (repeat (first | exact List.mem_cons_self .. | apply List.mem_cons_of_mem)); (first | done | fail))) ?_ | with_reducible refine x_truL (by assumption) (by first | exact Tm.i _ | exact Tm.b _ | exact Tm.s _ | exact Tm.n | (apply Tm.m; (repeat (first | exact List.mem_cons_self .. | apply List.mem_cons_of_mem)); (first | done | fail))) ?_ | with_reducible refine x_truO 0 (by assumption) (by with_unfolding_all rfl) ?_ | with_reducible refine x_truO 1 (by assumption) (by with_unfolding_all rfl) ?_ | with_reducible refine x_truO 2 (by assumption) (by with_unfolding_all rfl) ?_)
  | (with_reducible refine h_lstK ?_; first | (with_reducible refine x_lstK (by assumption) (by (repeat (first | exact TmAll.nil | apply TmAll.cons (by first | exact Tm.i _ | exact Tm.b _ | exact Tm.s _ | exact Tm.n | (apply Tm.m; (repeat (first | exact List.mem_cons_self .. | apply List.mem_cons_of_mem)); (first | done | fail))))); (first | done | fail)) (by with_unfolding_all rfl) ?_; intro _ _ _))
  | with_reducible refine x_cb ?_
  | with_reducible refine x_tcall ?_
  | with_reducible refine x_gSub ?_
  | with_reducible refine x_sl ?_
  | with_reducible refine x_noPart ?_
  | with_reducible refine x_part ?_
  | with_reducible refine x_exI ?_
  | (with_reducible refine h_slA ?_; first | (with_reducible refine x_slA (by assumption) (by first | exact Tm.i _ | exact Tm.b _ | exact Tm.s _ | exact Tm.n | (apply Tm.m; (repeat (first | exact List.mem_cons_self .. | apply List.mem_cons_of_mem)); (first | done | fail))) (by with_unfolding_all rfl) ?_; intro _ _ _ _))
  | (with_reducible refine h_slL ?_; first | (with_reducible refine x_slL (by assumption) (by first | exact Tm.i _ | exact Tm.b _ | exact Tm.s _ | exact Tm.n | (apply Tm.m; (repeat (first | exact List.mem_cons_self .. | apply List.mem_cons_of_mem)); (first | done | fail))) (by with_unfolding_all rfl) ?_; intro _ _ _))
  | (with_reducible refine h_in ?_; first | with_reducible refine s_in2 (by assumption) (by first | exact Tm.i _ | exact Tm.b _ | exact Tm.s _ | exact Tm.n | (apply Tm.m; (repeat (first | exact List.mem_cons_self .. | apply List.mem_cons_of_mem)); (first | done | fail))) ?_ | with_reducible refine s_ni2 (by assumption) (by first | exact Tm.i _ | exact Tm.b _ | exact Tm.s _ | exact Tm.n | (apply Tm.m; (repeat (first | exact List.mem_cons_self .. | apply List.mem_cons_of_mem)); (first | done | fail))) ?_ | with_reducible refine s_in3 (by assumption) (by first | exact Tm.i _ | exact Tm.b _ | exact Tm.s _ | exact Tm.n | (apply Tm.m; (repeat (first | exact List.mem_cons_self .. | apply List.mem_cons_of_mem)); (first | done | fail))) ?_ | with_reducible refine i_in2 (by assumption) (by first | exact Tm.i _ | exact Tm.b _ | exact Tm.s _ | exact Tm.n | (apply Tm.m; (repeat (first | exact List.mem_cons_self .. | apply List.mem_cons_of_mem)); (first | done | fail))) ?_ | with_reducible refine i_ni2 (by assumption) (by first | exact Tm.i _ | exact Tm.b _ | exact Tm.s _ | exact Tm.n | (apply Tm.m; (repeat (first | exact List.mem_cons_self .. | apply List.mem_cons_of_mem)); (first | done | fail))) ?_ | with_reducible refine i_in3 (by assumption) (by first | exact Tm.i _ | exact Tm.b _ | exact Tm.s _ | exact Tm.n | (apply Tm.m; (repeat (first | exact List.mem_cons_self .. | apply List.mem_cons_of_mem)); (first | done | fail))) ?_ | with_reducible refine i_in1 (by assumption) (by first | exact Tm.i _ | exact Tm.b _ | exact Tm.s _ | exact Tm.n | (apply Tm.m; (repeat (first | exact List.mem_cons_self .. | apply List.mem_cons_of_mem)); (first | done | fail))) ?_ | with_reducible refine i_inT (by assumption) (by first | exact Tm.i _ | exact Tm.b _ | exact Tm.s _ | exact Tm.n | (apply Tm.m; (repeat (first | exact List.mem_cons_self .. | apply List.mem_cons_of_mem)); (first | done | fail))) ?_ | with_reducible refine i_niT (by assumption) (by first | exact Tm.i _ | exact Tm.b _ | exact Tm.s _ | exact Tm.n | (apply Tm.m; (repeat (first | exact List.mem_cons_self .. | apply List.mem_cons_of_mem)); (first | done | fail))) ?_ | with_reducible refine i_inL (by assumption) (by first | exact Tm.i _ | exact Tm.b _ | exact Tm.s _ | exact Tm.n | (apply Tm.m; (repeat (first | exact List.mem_cons_self .. | apply List.mem_cons_of_mem)); (first | done | fail))) ?_ | with_reducible refine i_niL (by assumption) (by first | exact Tm.i _ | exact Tm.b _ | exact Tm.s _ | exact Tm.n | (apply Tm.m; (repeat (first | exact List.mem_cons_self .. | apply List.mem_cons_of_mem)); (first | done | fail))) ?_ | with_reducible refine i_inO 0 (by assumption) (by with_unfolding_all rfl) ?_ | with_reducible refine i_inO 1 (by assumption) (by with_unfolding_all rfl) ?_ | with_reducible refine i_inO 2 (by assumption) (by with_unfolding_all rfl) ?_ | with_reducible refine i_niO 0 (by assumption) (by with_unfolding_all rfl) ?_ | with_reducible refine i_niO 1 (by assumption) (by with_unfolding_all rfl) ?_ | with_reducible refine i_niO 2 (by assumption) (by with_unfolding_all rfl) ?_)
  | (with_reducible refine h_len ?_; first | with_reducible refine x_lenT (by assumption) (by first | exact Tm.i _ | exact Tm.b _ | exact Tm.s _ | exact Tm.n | (apply Tm.m; (repeat (first | exact List.mem_cons_self .. | apply List.mem_cons_of_mem)); (first | done | fail))) ?_ | with_reducible refine x_lenL (by assumption) (by first | exact Tm.i _ | exact Tm.b _ | exact Tm.s _ | exact Tm.n | (apply Tm.m; (repeat (first | exact List.mem_cons_self .. | apply List.mem_cons_of_mem)); (first | done | fail))) ?_ | with_reducible refine x_lenO 0 (by assumption) (by with_unfolding_all rfl) ?_ | with_reducible refine x_lenO 1 (by assumption) (by with_unfolding_all rfl) ?_ | with_reducible refine x_lenO 2 (by assumption) (by with_unfolding_all rfl) ?_)
  | with_reducible refine x_int ?_
  | with_reducible refine x_intB ?_
  | (with_reducible refine h_tupF ?_; first | (with_reducible refine x_tupFL (by assumption) (by first | exact Tm.i _ | exact Tm.b _ | exact Tm.s _ | exact Tm.n | (apply Tm.m; (repeat (first | exact List.mem_cons_self .. | apply List.mem_cons_of_mem)); (first | done | fail))) ?_; intro _ _ _ _ _))
  | (with_reducible refine h_isi ?_; first | with_reducible refine x_isiB (b := true) (by decide +kernel) ?_ | with_reducible refine x_isiB (b := false) (by decide +kernel) ?_ | with_reducible refine x_isiI (b := true) (by decide +kernel) ?_ | with_reducible refine x_isiI (b := false) (by decide +kernel) ?_ | with_reducible refine x_isiS (b := true) (by decide +kernel) ?_ | with_reducible refine x_isiS (b := false) (by decide +kernel) ?_ | with_reducible refine x_isiN (b := true) (by decide +kernel) ?_ | with_reducible refine x_isiN (b := false) (by decide +kernel) ?_ | with_reducible refine x_isiT (b := true) (by assumption) (by first | exact Tm.i _ | exact Tm.b _ | exact Tm.s _ | exact Tm.n | (apply Tm.m; (repeat (first | exact List.mem_cons_self .. | apply List.mem_cons_of_mem)); (first | done | fail))) (by decide +kernel) ?_ | with_reducible refine x_isiT (b := false) (by assumption) (by first | exact Tm.i _ | exact Tm.b _ | exact Tm.s _ | exact Tm.n | (apply Tm.m; (repeat (first | exact List.mem_cons_self .. | apply List.mem_cons_of_mem)); (first | done | fail))) (by decide +kernel) ?_)
  | (with_reducible refine h_tupOf ?_; first | with_reducible refine x_tupT (by assumption) (by first | exact Tm.i _ | exact Tm.b _ | exact Tm.s _ | exact Tm.n | (apply Tm.m; (repeat (first | exact List.mem_cons_self .. | apply List.mem_cons_of_mem)); (first | done | fail))) ?_ | (with_reducible refine x_tupL (by assumption) (by first | exact Tm.i _ | exact Tm.b _ | exact Tm.s _ | exact Tm.n | (apply Tm.m; (repeat (first | exact List.mem_cons_self .. | apply List.mem_cons_of_mem)); (first | done | fail))) ?_; intro _ _ _ _) | (with_reducible refine x_tupO 0 (by assumption) (by with_unfolding_all rfl) ?_; intro _ _ _ _) | (with_reducible refine x_tupO 1 (by assumption) (by with_unfolding_all rfl) ?_; intro _ _ _ _) | (with_reducible refine x_tupO 2 (by assumption) (by with_unfolding_all rfl) ?_; intro _ _ _ _))
  | (with_reducible refine h_lsOf ?_; first | (with_reducible refine x_lsT (by assumption) (by first | exact Tm.i _ | exact Tm.b _ | exact Tm.s _ | exact Tm.n | (apply Tm.m; (repeat (first | exact List.mem_cons_self .. | apply List.mem_cons_of_mem)); (first | done | fail))) ?_; intro _ _ _) | (with_reducible refine x_lsL (by assumption) (by first | exact Tm.i _ | exact Tm.b _ | exact Tm.s _ | exact Tm.n | (apply Tm.m; (repeat (first | exact List.mem_cons_self .. | apply List.mem_cons_of_mem)); (first | done | fail))) ?_; intro _ _ _) | (with_reducible refine x_lsS (by assumption) (by first | exact Tm.i _ | exact Tm.b _ | exact Tm.s _ | exact Tm.n | (apply Tm.m; (repeat (first | exact List.mem_cons_self .. | apply List.mem_cons_of_mem)); (first | done | fail))) ?_; intro _ _ _) | (with_reducible refine x_lsO 0 (by assumption) (by with_unfolding_all rfl) ?_; intro _ _ _) | (with_reducible refine x_lsO 1 (by assumption) (by with_unfolding_all rfl) ?_; intro _ _ _) | (with_reducible refine x_lsO 2 (by assumption) (by with_unfolding_all rfl) ?_; intro _ _ _))
  | (with_reducible refine h_gT ?_; first | (with_reducible refine x_gT2 (by assumption) (by first | exact Tm.i _ | exact Tm.b _ | exact Tm.s _ | exact Tm.n | (apply Tm.m; (repeat (first | exact List.mem_cons_self .. | apply List.mem_cons_of_mem)); (first | done | fail))) ?_; intro _ _ _) | (with_reducible refine x_gT3 (by assumption) (by first | exact Tm.i _ | exact Tm.b _ | exact Tm.s _ | exact Tm.n | (apply Tm.m; (repeat (first | exact List.mem_cons_self .. | apply List.mem_cons_of_mem)); (first | done | fail))) ?_; intro _ _ _ _) | (with_reducible refine x_gT4 (by assumption) (by first | exact Tm.i _ | exact Tm.b _ | exact Tm.s _ | exact Tm.n | (apply Tm.m; (repeat (first | exact List.mem_cons_self .. | apply List.mem_cons_of_mem)); (first | done | fail))) ?_; intro _ _ _ _ _) | (with_reducible refine x_gT5 (by assumption) (by first | exact Tm.i _ | exact Tm.b _ | exact Tm.s _ | exact Tm.n | (apply Tm.m; (repeat (first | exact List.mem_cons_self .. | apply List.mem_cons_of_mem)); (first | done | fail))) ?_; intro _ _ _ _ _ _) | (with_reducible refine x_gT6 (by assumption) (by first | exact Tm.i _ | exact Tm.b _ | exact Tm.s _ | exact Tm.n | (apply Tm.m; (repeat (first | exact List.mem_cons_self .. | apply List.mem_cons_of_mem)); (first | done | fail))) ?_; intro _ _ _ _ _ _ _))
  | (with_reducible refine h_isNo ?_; first | with_reducible refine x_isNoR ?_ | with_reducible refine x_isNoN ?_ | with_reducible refine x_isNoI ?_ | with_reducible refine x_isNoD (by assumption) (by first | exact Tm.i _ | exact Tm.b _ | exact Tm.s _ | exact Tm.n | (apply Tm.m; (repeat (first | exact List.mem_cons_self .. | apply List.mem_cons_of_mem)); (first | done | fail))) ?_)
  | (with_reducible refine h_notNo ?_; first | with_reducible refine x_notNoR ?_ | with_reducible refine x_notNoN ?_ | with_reducible refine x_notNoI ?_ | with_reducible refine x_notNoD (by assumption) (by first | exact Tm.i _ | exact Tm.b _ | exact Tm.s _ | exact Tm.n | (apply Tm.m; (repeat (first | exact List.mem_cons_self .. | apply List.mem_cons_of_mem)); (first | done | fail))) ?_)
  | (with_reducible refine h_setL ?_; first | (with_reducible refine x_setH 0 (by assumption) (by with_unfolding_all rfl) (by with_unfolding_all rfl) (by (repeat (first | exact SetAt.z | apply SetAt.s)); (first | done | fail)) ?_; intro _ _; try dsimp only) | (with_reducible refine x_setH 1 (by assumption) (by with_unfolding_all rfl) (by with_unfolding_all rfl) (by (repeat (first | exact SetAt.z | apply SetAt.s)); (first | done | fail)) ?_; intro _ _; try dsimp only) | (with_reducible refine x_setH 2 (by assumption) (by with_unfolding_all rfl) (by with_unfolding_all rfl) (by (repeat (first | exact SetAt.z | apply SetAt.s)); (first | done | fail)) ?_; intro _ _; try dsimp only))
  | (with_reducible refine h_aug ?_; first | with_reducible refine x_augI (by assumption) (by with_unfolding_all rfl) ?_)
  | (with_reducible refine h_ip ?_; first | (with_reducible refine x_ipI (by assumption) (by (repeat (first | exact SetAt.z | apply SetAt.s)); (first | done | fail)) ?_; intro _ _; try dsimp only))
  | (with_reducible refine h_app ?_; first | with_reducible refine x_app (by assumption) (by with_unfolding_all rfl) 0 (by with_unfolding_all rfl) ?_ | with_reducible refine x_app (by assumption) (by with_unfolding_all rfl) 1 (by with_unfolding_all rfl) ?_ | with_reducible refine x_app (by assumption) (by with_unfolding_all rfl) 2 (by with_unfolding_all rfl) ?_)
  | with_reducible refine x_appG ?_
  | with_reducible refine x_lcT ?_
  | with_reducible refine x_lcL ?_
  | with_reducible refine x_lcR ?_
  | with_reducible refine x_lcR2 ?_
  | with_reducible refine x_yes ?_
  | with_reducible refine x_tix ?_
  | with_reducible refine x_lix ?_
  | (with_reducible refine h_lixF ?_; first | with_reducible refine x_lixF (by assumption) (by first | exact Tm.i _ | exact Tm.b _ | exact Tm.s _ | exact Tm.n | (apply Tm.m; (repeat (first | exact List.mem_cons_self .. | apply List.mem_cons_of_mem)); (first | done | fail))) ?_)
  | (with_reducible refine h_tixF ?_; first | with_reducible refine x_tixF (by assumption) (by assumption) ?_)
  | with_reducible refine x_dctL ?_
  | with_reducible refine x_dns ?_
  | with_reducible refine x_augS ?_
  | with_reducible refine x_revT ?_
  | with_reducible refine x_tupR ?_
  | (with_reducible refine h_tupR ?_; first | (with_reducible refine x_tupRK (by assumption) (by (repeat (first | exact TmAll.nil | apply TmAll.cons (by first | exact Tm.i _ | exact Tm.b _ | exact Tm.s _ | exact Tm.n | (apply Tm.m; (repeat (first | exact List.mem_cons_self .. | apply List.mem_cons_of_mem)); (first | done | fail))))); (first | done | fail)) (by with_unfolding_all rfl) ?_; intro _ _ _ _ _))
  | with_reducible refine x_fld ?_
  | with_reducible refine x_dg ?_
  | with_reducible refine x_dn ?_
  | with_reducible refine x_di ?_
  | with_reducible refine x_ds ?_
  | with_reducible refine x_sfld ?_
  | with_reducible refine x_prC ?_
  | with_reducible refine x_prN ?_
  | with_reducible refine x_lrg ?_
  | with_reducible refine x_trg ?_
  | with_reducible refine x_rg1 ?_
  | with_reducible refine x_rg2 ?_
  | with_reducible refine x_r1K ?_
  | with_reducible refine x_r2K ?_
  | (with_reducible refine h_revT ?_; first | (with_reducible refine x_revK (by assumption) (by first | exact Tm.i _ | exact Tm.b _ | exact Tm.s _ | exact Tm.n | (apply Tm.m; (repeat (first | exact List.mem_cons_self .. | apply List.mem_cons_of_mem)); (first | done | fail))) ?_; intro _ _ _ _))
  | with_reducible refine x_fE ?_
  | with_reducible refine x_lcE ?_
  | with_reducible refine x_fT ?_
  | with_reducible refine x_fL ?_
  | with_reducible refine x_fR ?_
  | with_reducible refine x_fR2 ?_
  | dsimp only
  | with_reducible refine x_N (by assumption) ?_))
local macro_rules | `(tactic| walk_at "dl1") => `(tactic| (first
  | (with_reducible refine h_var ?_; first | with_reducible refine x_var (by assumption) (by with_unfolding_all rfl) ?_ | with_reducible refine x_varV (by assumption) (by with_unfolding_all rfl) ?_ | (with_reducible refine x_varP (by assumption) (by with_unfolding_all rfl) ?_; intro _ _ _) | (with_reducible refine x_varT (by assumption) (by with_unfolding_all rfl) ?_; intro _ _ _))
  | (with_reducible refine h_giv ?_; first | with_reducible refine x_gI ?_ | with_reducible refine x_gB ?_ | with_reducible refine x_gS ?_ | with_reducible refine x_gN ?_ | (with_reducible refine x_gP (by assumption) ?_; intro _ _))
  | with_reducible refine x_op ?_
  | (with_reducible refine h_cR ?_; first | (with_reducible refine x_cR (by assumption) (by assumption) ?_; intro _) | with_reducible refine x_c ?_)
  | with_reducible refine x_c ?_
  | with_reducible refine x_I0 ?_
  | with_reducible refine x_cons ?_
  | with_reducible refine x_nil ?_
  | with_reducible refine x_tup ?_
  | (with_reducible refine h_tupK ?_; first | (with_reducible refine x_tupK (by assumption) (by (repeat (first | exact TmAll.nil | apply TmAll.cons (by first | exact Tm.i _ | exact Tm.b _ | exact Tm.s _ | exact Tm.n | (apply Tm.m; (repeat (first | exact List.mem_cons_self .. | apply List.mem_cons_of_mem)); (first | done | fail))))); (first | done | fail)) (by with_unfolding_all rfl) ?_; intro _ _ _ _))
  | (with_reducible refine h_eq ?_; first | with_reducible refine x_eqI ?_ | with_reducible refine x_eqS ?_ | with_reducible refine x_eqB ?_)
  | (with_reducible refine h_ne ?_; first | with_reducible refine x_neI ?_ | with_reducible refine x_neS ?_ | with_reducible refine x_neB ?_)
  | (with_reducible refine h_ixT ?_; first | with_reducible refine x_ixT (by assumption) (by first | exact Tm.i _ | exact Tm.b _ | exact Tm.s _ | exact Tm.n | (apply Tm.m; (repeat (first | exact List.mem_cons_self .. | apply List.mem_cons_of_mem)); (first | done | fail))) (by with_unfolding_all rfl) ?_)
  | (with_reducible refine h_ixL ?_; first | with_reducible refine x_ixL (by assumption) (by first | exact Tm.i _ | exact Tm.b _ | exact Tm.s _ | exact Tm.n | (apply Tm.m; (repeat (first | exact List.mem_cons_self .. | apply List.mem_cons_of_mem)); (first | done | fail))) (by with_unfolding_all rfl) ?_ | with_reducible refine x_ixO 0 (by assumption) (by with_unfolding_all rfl) (by with_unfolding_all rfl) ?_ | with_reducible refine x_ixO 1 (by assumption) (by with_unfolding_all rfl) (by with_unfolding_all rfl) ?_ | with_reducible refine x_ixO 2 (by assumption) (by with_unfolding_all rfl) (by with_unfolding_all rfl) ?_ | with_reducible refine x_ixH 0 (by assumption) (by with_unfolding_all rfl) (by with_unfolding_all rfl) ?_ | with_reducible refine x_ixH 1 (by assumption) (by with_unfolding_all rfl) (by with_unfolding_all rfl) ?_ | with_reducible refine x_ixH 2 (by assumption) (by with_unfolding_all rfl) (by with_unfolding_all rfl) ?_)
  | (with_reducible refine h_I ?_; first | with_reducible refine x_I (by with_unfolding_all first | decide | (dsimp only; omega) | (refine .inl ?_; constructor <;> first | decide | omega) | (refine .inr ?_; constructor <;> first | decide | omega) | (constructor <;> first | decide | omega | (constructor <;> first | decide | omega)) | assumption) ?_)
  | with_reducible refine x_test ?_
  | with_reducible refine x_exB ?_
  | (with_reducible refine h_ite ?_; first | (with_reducible refine x_ifNoT ?_) | (with_reducible refine x_ifNoF ?_) | (with_reducible refine x_ifSn ?_) | (with_reducible refine x_ifSs ?_) | with_reducible refine x_ifT (by decide +kernel) ?_ | with_reducible refine x_ifF (by decide +kernel) ?_)
  | (with_reducible refine h_gn ?_; first | (with_reducible refine x_gnT (by assumption) (by assumption) (by (repeat (first | exact SetAt.z | apply SetAt.s)); (first | done | fail)) ?_; intro _ _; try dsimp only) | (with_reducible refine x_gn (by assumption) (by first | exact Tm.i _ | exact Tm.b _ | exact Tm.s _ | exact Tm.n | (apply Tm.m; (repeat (first | exact List.mem_cons_self .. | apply List.mem_cons_of_mem)); (first | done | fail))) (by (repeat (first | exact SetAt.z | apply SetAt.s)); (first | done | fail)) ?_; intro _ _; try dsimp only) | (with_reducible refine x_gnV (by assumption) (by (repeat (first | exact SetAt.z | apply SetAt.s)); (first | done | fail)) ?_; intro _ _; try dsimp only))
  | (with_reducible refine x_seqN ?_; intro _ _; try dsimp only)
  | with_reducible refine x_asg ?_
  | with_reducible refine x_par2 ?_
  | with_reducible refine x_par2K ?_
  | with_reducible refine x_par3 ?_
  | with_reducible refine x_par3K ?_
  | with_reducible refine x_ifS ?_
  | with_reducible refine x_ret ?_
  | with_reducible refine x_drop ?_
  | (with_reducible refine x_next ?_; try dsimp only)
  | (with_reducible refine x_cont ?_; try dsimp only)
  | (with_reducible refine x_break ?_; try dsimp only)
  | with_reducible refine x_un ?_
  | with_reducible refine x_U ?_
  | with_reducible refine x_tB ?_
  | with_reducible refine x_not ?_
  | with_reducible refine x_and ?_
  | with_reducible refine x_or ?_
  | with_reducible refine x_andV ?_
  | with_reducible refine x_orV ?_
  | with_reducible refine x_notV ?_
  | with_reducible refine x_ifE ?_
  | with_reducible refine x_notT ?_
  | with_reducible refine x_truD ?_
  | with_reducible refine x_truI ?_
  | with_reducible refine x_truB ?_
  | with_reducible refine x_lst ?_
  | (with_reducible refine h_tru ?_; first | with_reducible refine x_truT (by assumption) (by first | exact Tm.i _ | exact Tm.b _ | exact Tm.s _ | exact Tm.n | (apply Tm.m; (repeat (first | exact List.mem_cons_self .. | apply List.mem_cons_of_mem)); (first | done | fail))) ?_ | with_reducible refine x_truL (by assumption) (by first | exact Tm.i _ | exact Tm.b _ | exact Tm.s _ | exact Tm.n | (apply Tm.m; (repeat (first | exact List.mem_cons_self .. | apply List.mem_cons_of_mem)); (first | done | fail))) ?_ | with_reducible refine x_truO 0 (by assumption) (by with_unfolding_all rfl) ?_ | with_reducible refine x_truO 1 (by assumption) (by with_unfolding_all rfl) ?_ | with_reducible refine x_truO 2 (by assumption) (by with_unfolding_all rfl) ?_)
  | (with_reducible refine h_lstK ?_; first | (with_reducible refine x_lstK (by assumption) (by (repeat (first | exact TmAll.nil | apply TmAll.cons (by first | exact Tm.i _ | exact Tm.b _ | exact Tm.s _ | exact Tm.n | (apply Tm.m; (repeat (first | exact List.mem_cons_self .. | apply List.mem_cons_of_mem)); (first | done | fail))))); (first | done | fail)) (by with_unfolding_all rfl) ?_; intro _ _ _))
  | with_reducible refine x_cb ?_
  | with_reducible refine x_tcall ?_
  | with_reducible refine x_gSub ?_
  | with_reducible refine x_sl ?_
  | with_reducible refine x_noPart ?_
  | with_reducible refine x_part ?_
  | with_reducible refine x_exI ?_
  | (with_reducible refine h_slA ?_; first | (with_reducible refine x_slA (by assumption) (by first | exact Tm.i _ | exact Tm.b _ | exact Tm.s _ | exact Tm.n | (apply Tm.m; (repeat (first | exact List.mem_cons_self .. | apply List.mem_cons_of_mem)); (first | done | fail))) (by with_unfolding_all rfl) ?_; intro _ _ _ _))
  | (with_reducible refine h_slL ?_; first | (with_reducible refine x_slL (by assumption) (by first | exact Tm.i _ | exact Tm.b _ | exact Tm.s _ | exact Tm.n | (apply Tm.m; (repeat (first | exact List.mem_cons_self .. | apply List.mem_cons_of_mem)); (first | done | fail))) (by with_unfolding_all rfl) ?_; intro _ _ _))
  | (with_reducible refine h_in ?_; first | with_reducible refine s_in2 (by assumption) (by first | exact Tm.i _ | exact Tm.b _ | exact Tm.s _ | exact Tm.n | (apply Tm.m; (repeat (first | exact List.mem_cons_self .. | apply List.mem_cons_of_mem)); (first | done | fail))) ?_ | with_reducible refine s_ni2 (by assumption) (by first | exact Tm.i _ | exact Tm.b _ | exact Tm.s _ | exact Tm.n | (apply Tm.m; (repeat (first | exact List.mem_cons_self .. | apply List.mem_cons_of_mem)); (first | done | fail))) ?_ | with_reducible refine s_in3 (by assumption) (by first | exact Tm.i _ | exact Tm.b _ | exact Tm.s _ | exact Tm.n | (apply Tm.m; (repeat (first | exact List.mem_cons_self .. | apply List.mem_cons_of_mem)); (first | done | fail))) ?_ | with_reducible refine i_in2 (by assumption) (by first | exact Tm.i _ | exact Tm.b _ | exact Tm.s _ | exact Tm.n | (apply Tm.m; (repeat (first | exact List.mem_cons_self .. | apply List.mem_cons_of_mem)); (first | done | fail))) ?_ | with_reducible refine i_ni2 (by assumption) (by first | exact Tm.i _ | exact Tm.b _ | exact Tm.s _ | exact Tm.n | (apply Tm.m; (repeat (first | exact List.mem_cons_self .. | apply List.mem_cons_of_mem)); (first | done | fail))) ?_ | with_reducible refine i_in3 (by assumption) (by first | exact Tm.i _ | exact Tm.b _ | exact Tm.s _ | exact Tm.n | (apply Tm.m; (repeat (first | exact List.mem_cons_self .. | apply List.mem_cons_of_mem)); (first | done | fail))) ?_ | with_reducible refine i_in1 (by assumption) (by first | exact Tm.i _ | exact Tm.b _ | exact Tm.s _ | exact Tm.n | (apply Tm.m; (repeat (first | exact List.mem_cons_self .. | apply List.mem_cons_of_mem)); (first | done | fail))) ?_ | with_reducible refine i_inT (by assumption) (by first | exact Tm.i _ | exact Tm.b _ | exact Tm.s _ | exact Tm.n | (apply Tm.m; (repeat (first | exact List.mem_cons_self .. | apply List.mem_cons_of_mem)); (first | done | fail))) ?_ | with_reducible refine i_niT (by assumption) (by first | exact Tm.i _ | exact Tm.b _ | exact Tm.s _ | exact Tm.n | (apply Tm.m; (repeat (first | exact List.mem_cons_self .. | apply List.mem_cons_of_mem)); (first | done | fail))) ?_ | with_reducible refine i_inL (by assumption) (by first | exact Tm.i _ | exact Tm.b _ | exact Tm.s _ | exact Tm.n | (apply Tm.m; (repeat (first | exact List.mem_cons_self .. | apply List.mem_cons_of_mem)); (first | done | fail))) ?_ | with_reducible refine i_niL (by assumption) (by first | exact Tm.i _ | exact Tm.b _ | exact Tm.s _ | exact Tm.n | (apply Tm.m; (repeat (first | exact List.mem_cons_self .. | apply List.mem_cons_of_mem)); (first | done | fail))) ?_ | with_reducible refine i_inO 0 (by assumption) (by with_unfolding_all rfl) ?_ | with_reducible refine i_inO 1 (by assumption) (by with_unfolding_all rfl) ?_ | with_reducible refine i_inO 2 (by assumption) (by with_unfolding_all rfl) ?_ | with_reducible refine i_niO 0 (by assumption) (by with_unfolding_all rfl) ?_ | with_reducible refine i_niO 1 (by assumption) (by with_unfolding_all rfl) ?_ | with_reducible refine i_niO 2 (by assumption) (by with_unfolding_all rfl) ?_)
  | (with_reducible refine h_len ?_; first | with_reducible refine x_lenT (by assumption) (by first | exact Tm.i _ | exact Tm.b _ | exact Tm.s _ | exact Tm.n | (apply Tm.m; (repeat (first | exact List.mem_cons_self .. | apply List.mem_cons_of_mem)); (first | done | fail))) ?_ | with_reducible refine x_lenL (by assumption) (by first | exact Tm.i _ | exact Tm.b _ | exact Tm.s _ | exact Tm.n | (apply Tm.m; (repeat (first | exact List.mem_cons_self .. | apply List.mem_cons_of_mem)); (first | done | fail))) ?_ | with_reducible refine x_lenO 0 (by assumption) (by with_unfolding_all rfl) ?_ | with_reducible refine x_lenO 1 (by assumption) (by with_unfolding_all rfl) ?_ | with_reducible refine x_lenO 2 (by assumption) (by with_unfolding_all rfl) ?_)
  | with_reducible refine x_int ?_
  | with_reducible refine x_intB ?_
  | (with_reducible refine h_tupF ?_; first | (with_reducible refine x_tupFL (by assumption) (by first | exact Tm.i _ | exact Tm.b _ | exact Tm.s _ | exact Tm.n | (apply Tm.m; (repeat (first | exact List.mem_cons_self .. | apply List.mem_cons_of_mem)); (first | done | fail))) ?_; intro _ _ _ _ _))
  | (with_reducible refine h_isi ?_; first | with_reducible refine x_isiB (b := true) (by decide +kernel) ?_ | with_reducible refine x_isiB (b := false) (by decide +kernel) ?_ | with_reducible refine x_isiI (b := true) (by decide +kernel) ?_ | with_reducible refine x_isiI (b := false) (by decide +kernel) ?_ | with_reducible refine x_isiS (b := true) (by decide +kernel) ?_ | with_reducible refine x_isiS (b := false) (by decide +kernel) ?_ | with_reducible refine x_isiN (b := true) (by decide +kernel) ?_ | with_reducible refine x_isiN (b := false) (by decide +kernel) ?_ | with_reducible refine x_isiT (b := true) (by assumption) (by first | exact Tm.i _ | exact Tm.b _ | exact Tm.s _ | exact Tm.n | (apply Tm.m; (repeat (first | exact List.mem_cons_self .. | apply List.mem_cons_of_mem)); (first | done | fail))) (by decide +kernel) ?_ | with_reducible refine x_isiT (b := false) (by assumption) (by first | exact Tm.i _ | exact Tm.b _ | exact Tm.s _ | exact Tm.n | (apply Tm.m; (repeat (first | exact List.mem_cons_self .. | apply List.mem_cons_of_mem)); (first | done | fail))) (by decide +kernel) ?_)
  | (with_reducible refine h_tupOf ?_; first | with_reducible refine x_tupT (by assumption) (by first | exact Tm.i _ | exact Tm.b _ | exact Tm.s _ | exact Tm.n | (apply Tm.m; (repeat (first | exact List.mem_cons_self .. | apply List.mem_cons_of_mem)); (first | done | fail))) ?_ | (with_reducible refine x_tupL (by assumption) (by first | exact Tm.i _ | exact Tm.b _ | exact Tm.s _ | exact Tm.n | (apply Tm.m; (repeat (first | exact List.mem_cons_self .. | apply List.mem_cons_of_mem)); (first | done | fail))) ?_; intro _ _ _ _) | (with_reducible refine x_tupO 0 (by assumption) (by with_unfolding_all rfl) ?_; intro _ _ _ _) | (with_reducible refine x_tupO 1 (by assumption) (by with_unfolding_all rfl) ?_; intro _ _ _ _) | (with_reducible refine x_tupO 2 (by assumption) (by with_unfolding_all rfl) ?_; intro _ _ _ _))
  | (with_reducible refine h_lsOf ?_; first | (with_reducible refine x_lsT (by assumption) (by first | exact Tm.i _ | exact Tm.b _ | exact Tm.s _ | exact Tm.n | (apply Tm.m; (repeat (first | exact List.mem_cons_self .. | apply List.mem_cons_of_mem)); (first | done | fail))) ?_; intro _ _ _) | (with_reducible refine x_lsL (by assumption) (by first | exact Tm.i _ | exact Tm.b _ | exact Tm.s _ | exact Tm.n | (apply Tm.m; (repeat (first | exact List.mem_cons_self .. | apply List.mem_cons_of_mem)); (first | done | fail))) ?_; intro _ _ _) | (with_reducible refine x_lsS (by assumption) (by first | exact Tm.i _ | exact Tm.b _ | exact Tm.s _ | exact Tm.n | (apply Tm.m; (repeat (first | exact List.mem_cons_self .. | apply List.mem_cons_of_mem)); (first | done | fail))) ?_; intro _ _ _) | (with_reducible refine x_lsO 0 (by assumption) (by with_unfolding_all rfl) ?_; intro _ _ _) | (with_reducible refine x_lsO 1 (by assumption) (by with_unfolding_all rfl) ?_; intro _ _ _) | (with_reducible refine x_lsO 2 (by assumption) (by with_unfolding_all rfl) ?_; intro _ _ _))
  | (with_reducible refine h_gT ?_; first | (with_reducible refine x_gT2 (by assumption) (by first | exact Tm.i _ | exact Tm.b _ | exact Tm.s _ | exact Tm.n | (apply Tm.m; (repeat (first | exact List.mem_cons_self .. | apply List.mem_cons_of_mem)); (first | done | fail))) ?_; intro _ _ _) | (with_reducible refine x_gT3 (by assumption) (by first | exact Tm.i _ | exact Tm.b _ | exact Tm.s _ | exact Tm.n | (apply Tm.m; (repeat (first | exact List.mem_cons_self .. | apply List.mem_cons_of_mem)); (first | done | fail))) ?_; intro _ _ _ _) | (with_reducible refine x_gT4 (by assumption) (by first | exact Tm.i _ | exact Tm.b _ | exact Tm.s _ | exact Tm.n | (apply Tm.m; (repeat (first | exact List.mem_cons_self .. | apply List.mem_cons_of_mem)); (first | done | fail))) ?_; intro _ _ _ _ _) | (with_reducible refine x_gT5 (by assumption) (by first | exact Tm.i _ | exact Tm.b _ | exact Tm.s _ | exact Tm.n | (apply Tm.m; (repeat (first | exact List.mem_cons_self .. | apply List.mem_cons_of_mem)); (first | done | fail))) ?_; intro _ _ _ _ _ _) | (with_reducible refine x_gT6 (by assumption) (by first | exact Tm.i _ | exact Tm.b _ | exact Tm.s _ | exact Tm.n | (apply Tm.m; (repeat (first | exact List.mem_cons_self .. | apply List.mem_cons_of_mem)); (first | done | fail))) ?_; intro _ _ _ _ _ _ _))
  | (with_reducible refine h_isNo ?_; first | with_reducible refine x_isNoR ?_ | with_reducible refine x_isNoN ?_ | with_reducible refine x_isNoI ?_ | with_reducible refine x_isNoD (by assumption) (by first | exact Tm.i _ | exact Tm.b _ | exact Tm.s _ | exact Tm.n | (apply Tm.m; (repeat (first | exact List.mem_cons_self .. | apply List.mem_cons_of_mem)); (first | done | fail))) ?_)
  | (with_reducible refine h_notNo ?_; first | with_reducible refine x_notNoR ?_ | with_reducible refine x_notNoN ?_ | with_reducible refine x_notNoI ?_ | with_reducible refine x_notNoD (by assumption) (by first | exact Tm.i _ | exact Tm.b _ | exact Tm.s _ | exact Tm.n | (apply Tm.m; (repeat (first | exact List.mem_cons_self .. | apply List.mem_cons_of_mem)); (first | done | fail))) ?_)
  | (with_reducible refine h_setL ?_; first | (with_reducible refine x_setH 0 (by assumption) (by with_unfolding_all rfl) (by with_unfolding_all rfl) (by (repeat (first | exact SetAt.z | apply SetAt.s)); (first | done | fail)) ?_; intro _ _; try dsimp only) | (with_reducible refine x_setH 1 (by assumption) (by with_unfolding_all rfl) (by with_unfolding_all rfl) (by (repeat (first | exact SetAt.z | apply SetAt.s)); (first | done | fail)) ?_; intro _ _; try dsimp only) | (with_reducible refine x_setH 2 (by assumption) (by with_unfolding_all rfl) (by with_unfolding_all rfl) (by (repeat (first | exact SetAt.z | apply SetAt.s)); (first | done | fail)) ?_; intro _ _; try dsimp only))
  | (with_reducible refine h_aug ?_; first | with_reducible refine x_augI (by assumption) (by with_unfolding_all rfl) ?_)
  | (with_reducible refine h_ip ?_; first | (with_reducible refine x_ipI (by assumption) (by (repeat (first | exact SetAt.z | apply SetAt.s)); (first | done | fail)) ?_; intro _ _; try dsimp only))
  | (with_reducible refine h_app ?_; first | with_reducible refine x_app (by assumption) (by with_unfolding_all rfl) 0 (by with_unfolding_all rfl) ?_ | with_reducible refine x_app (by assumption) (by with_unfolding_all rfl) 1 (by with_unfolding_all rfl) ?_ | with_reducible refine x_app (by assumption) (by with_unfolding_all rfl) 2 (by with_unfolding_all rfl) ?_)
  | with_reducible refine x_appG ?_
  | with_reducible refine x_lcT ?_
  | with_reducible refine x_lcL ?_
  | with_reducible refine x_lcR ?_
  | with_reducible refine x_lcR2 ?_
  | with_reducible refine x_yes ?_
  | with_reducible refine x_tix ?_
  | with_reducible refine x_lix ?_
  | (with_reducible refine h_lixF ?_; first | with_reducible refine x_lixF (by assumption) (by first | exact Tm.i _ | exact Tm.b _ | exact Tm.s _ | exact Tm.n | (apply Tm.m; (repeat (first | exact List.mem_cons_self .. | apply List.mem_cons_of_mem)); (first | done | fail))) ?_)
  | (with_reducible refine h_tixF ?_; first | with_reducible refine x_tixF (by assumption) (by assumption) ?_)
  | with_reducible refine x_dctL ?_
  | with_reducible refine x_dns ?_
  | with_reducible refine x_augS ?_
  | with_reducible refine x_revT ?_
  | with_reducible refine x_tupR ?_
  | (with_reducible refine h_tupR ?_; first | (with_reducible refine x_tupRK (by assumption) (by (repeat (first | exact TmAll.nil | apply TmAll.cons (by first | exact Tm.i _ | exact Tm.b _ | exact Tm.s _ | exact Tm.n | (apply Tm.m; (repeat (first | exact List.mem_cons_self .. | apply List.mem_cons_of_mem)); (first | done | fail))))); (first | done | fail)) (by with_unfolding_all rfl) ?_; intro _ _ _ _ _))
  | with_reducible refine x_fld ?_
  | with_reducible refine x_dg ?_
  | with_reducible refine x_dn ?_
  | with_reducible refine x_di ?_
  | with_reducible refine x_ds ?_
  | with_reducible refine x_sfld ?_
  | with_reducible refine x_prC ?_
  | with_reducible refine x_prN ?_
  | with_reducible refine x_lrg ?_
  | with_reducible refine x_trg ?_
  | with_reducible refine x_rg1 ?_
  | with_reducible refine x_rg2 ?_
  | with_reducible refine x_r1K ?_
  | with_reducible refine x_r2K ?_
  | (with_reducible refine h_revT ?_; first | (with_reducible refine x_revK (by assumption) (by first | exact Tm.i _ | exact Tm.b _ | exact Tm.s _ | exact Tm.n | (apply Tm.m; (repeat (first | exact List.mem_cons_self .. | apply List.mem_cons_of_mem)); (first | done | fail))) ?_; intro _ _ _ _))
  | with_reducible refine x_fE ?_
  | with_reducible refine x_lcE ?_
  | with_reducible refine x_fT ?_
  | with_reducible refine x_fL ?_
  | with_reducible refine x_fR ?_
  | with_reducible refine x_fR2 ?_
  | dsimp only
  | with_reducible refine x_N (by assumption) ?_))
theorem map_at {α β : Type} {f : α → β} {l : List α} {i : Nat} {y : β} (h : (l.map f)[i]? = some y) : ∃ x, l[i]? = some x ∧ y = f x := by
  rw [List.getElem?_map] at h
  cases e : l[i]? with
  | none => rw [e] at h; cases h
  | some x => rw [e] at h; exact ⟨x, rfl, (Option.some.inj h).symm⟩
theorem take_snoc {α : Type} {l : List α} {i : Nat} {x : α} (h : l[i]? = some x) : l.take (i + 1) = l.take i ++ [x] := by
  obtain ⟨h1, h2⟩ := List.getElem?_eq_some_iff.mp h
  rw [List.take_succ, h]
  rfl
theorem take_all {α : Type} {l : List α} : l.take l.length = l := List.take_length
abbrev Ro := Int × Bool
abbrev ro : Ro → PyData := fun r => roD r.1 r.2
abbrev Ro.inv (r : Ro) : Ro := (r.1, !r.2)
abbrev stD : Ro × Ro → PyData := fun s => .tuple [ro s.1, ro s.2]
def Pt.steps : Pt → List (Ro × Ro)
  | .under r b s b' => [((r, b), (s, b')), ((r, !b), (s, !b'))]
  | _ => []
def stepsOf (xs : List (List Pt)) (ms : List Int) : List (Ro × Ro) := ms.flatMap fun m => (xs.getD m.toNat []).flatMap Pt.steps
theorem ro_enc : Enc ro where
  eq := fun a b => by
    show PyData.eqv (roD a.1 a.2) (roD b.1 b.2) = _
    rw [Cp.eqRo, Bool.eq_iff_iff, Bool.and_eq_true, decide_eq_true_iff, decide_eq_true_iff, decide_eq_true_iff]
    exact ⟨fun h => Prod.ext h.1 h.2, fun h => h ▸ ⟨rfl, rfl⟩⟩
  lay := fun a => rfl
section
variable {P : Program} {w : World} {K : PySem.W.Frag} {mg : Str → Option Value} {base : Heap}
def pInverse : Pre := fun ss u post => ∃ r : Ro, ss = [.d (ro r)] ∧ u = [] ∧ post = pD fun d => d = ro r.inv
theorem c_inverse {f : Addr} {fd : FuncData} (D : Df K mg "inverse" s_inverse f fd ["role"]) : Cl P w K mg base 1 "inverse" (spG K pInverse) := by
  refine D.go sc_inverse (pInverse) (fun ss u post h => by repeat (first | (obtain ⟨rfl, _⟩ := h; rfl) | obtain ⟨_, h⟩ := h)) fun cdv A outer s H M vs Q E ss u post hr hp S hq => ?_
  obtain ⟨r, rfl, rfl, rfl⟩ := hp
  refine ⟨_, (pss_cons (ps_asg (pv 0) (kGT (K := K) (n := 2) (pg_tup (by rfl) (pgs_cons (pg_name (i := 1) sc_inverse.nd rfl (.inl rfl)) (pgs_cons (pg_name (i := 2) sc_inverse.nd rfl (.inl rfl)) pgs_nil)))))
      (pss_one (ps_ret (pe_tup (pa_cons (pv 1) (pa_cons (pe_not (pv 2)) pa_nil)))))), ?_⟩
  walk_at "in"
  walk_at "dl"
  exact x_rD (by assumption) hq (by walk_at "tm") rfl
theorem psteps_len : ∀ ps : List Pt, (ps.flatMap Pt.steps).length ≤ ps.length * 2
  | [] => Nat.le_refl _
  | p :: ps => by
    have := psteps_len ps
    have h : p.steps.length ≤ 2 := by cases p <;> simp [Pt.steps]
    rw [List.flatMap_cons, List.length_append, List.length_cons]
    omega
theorem steps_len {xs : List (List Pt)} (hx : ∀ x ∈ xs, x.length ≤ 4) : ∀ ms : List Int, (stepsOf xs ms).length ≤ ms.length * 8
  | [] => Nat.le_refl _
  | m :: ms => by
    have h1 := steps_len hx ms
    have h2 : (xs.getD m.toNat []).length ≤ 4 := by
      rw [List.getD_eq_getElem?_getD]
      cases e : xs[m.toNat]? with
      | none => exact Nat.zero_le _
      | some x => exact hx x (List.mem_of_getElem? e)
    have h3 := psteps_len (xs.getD m.toNat [])
    unfold stepsOf at h1 ⊢
    rw [List.flatMap_cons, List.length_append, List.length_cons]
    omega
theorem at_get {α : Type} {f : α → PyData} {xs : List α} {m : Int} {a : α} (h1 : 0 ≤ m) (h2 : m < (xs.length : Nat)) : atI (xs.map f) m = some (f (xs.getD m.toNat a)) := by
  obtain ⟨j, rfl⟩ := Int.eq_ofNat_of_zero_le h1
  have h3 : j < xs.length := by omega
  unfold atI ixN
  simp [h3]
end
/-! the roles above a role: what is reached, and nothing else -/
structure Up (st : List (Ro × Ro)) (r : Ro) (f : List Ro) : Prop where
  nd : f.Nodup
  me : r ∈ f
  lo : ∀ S : List Ro, r ∈ S → (∀ s ∈ st, s.1 ∈ S → s.2 ∈ S) → ∀ x ∈ f, x ∈ S
def Closed (st : List (Ro × Ro)) (f : List Ro) : Prop := ∀ s ∈ st, s.1 ∈ f → s.2 ∈ f
theorem nodup_len {α : Type} [DecidableEq α] : ∀ (f S : List α), f.Nodup → (∀ x ∈ f, x ∈ S) → f.length ≤ S.length
  | [], _, _, _ => Nat.zero_le _
  | a :: f, S, hn, h => by
    have h1 := List.nodup_cons.mp hn
    have ha := h a (List.mem_cons_self ..)
    have := nodup_len f (S.erase a) h1.2 fun x hx => (List.mem_erase_of_ne (fun (e : x = a) => h1.1 (e ▸ hx))).mpr (h x (List.mem_cons_of_mem _ hx))
    rw [List.length_erase_of_mem ha] at this
    have := List.length_pos_of_mem ha
    rw [List.length_cons]
    omega
theorem Up.len {st : List (Ro × Ro)} {r : Ro} {f : List Ro} (h : Up st r f) : f.length ≤ st.length + 1 := by
  have := nodup_len f (r :: st.map (·.2)) h.nd (h.lo _ (List.mem_cons_self ..) fun s hs _ => List.mem_cons_of_mem _ (List.mem_map_of_mem hs))
  rw [List.length_cons, List.length_map] at this
  exact this
theorem Up.start {st : List (Ro × Ro)} {r : Ro} : Up st r [r] := ⟨List.nodup_cons.mpr ⟨(fun z => nomatch z), List.nodup_nil⟩, List.mem_cons_self .., fun S h _ x hx => List.mem_singleton.mp hx ▸ h⟩
theorem Up.add {st : List (Ro × Ro)} {r : Ro} {f : List Ro} {s : Ro × Ro} (h : Up st r f) (hs : s ∈ st) (h1 : s.1 ∈ f) (h2 : s.2 ∉ f) : Up st r (f ++ [s.2]) where
  nd := List.nodup_append.mpr ⟨h.nd, List.nodup_cons.mpr ⟨(fun z => nomatch z), List.nodup_nil⟩, fun a ha b hb e => h2 (by rw [List.mem_singleton.mp hb] at e; exact e ▸ ha)⟩
  me := List.mem_append.mpr (.inl h.me)
  lo := fun S h0 hc x hx => (List.mem_append.mp hx).elim (h.lo S h0 hc x) fun z => by
    rw [List.mem_singleton.mp z]
    exact hc s hs (h.lo S h0 hc _ h1)
/-- two of them, both closed, are one but for the order -/
theorem Up.perm {st : List (Ro × Ro)} {r : Ro} {f g : List Ro} (h1 : Up st r f) (c1 : Closed st f) (h2 : Up st r g) (c2 : Closed st g) : ∀ x, x ∈ f ↔ x ∈ g := fun x => ⟨h1.lo g h2.me c2 x, h2.lo f h1.me c1 x⟩
theorem ro_alike (f : List Ro) : PySem.W.AllAlike (f.map ro) := fun d hd d' hd' => by
  obtain ⟨a, _, rfl⟩ := List.mem_map.mp hd
  obtain ⟨b, _, rfl⟩ := List.mem_map.mp hd'
  rfl
theorem ro_sortable (f : List Ro) : PySem.W.Sortable (f.map ro) := .inl fun d hd => by
  obtain ⟨a, _, rfl⟩ := List.mem_map.mp hd
  exact ⟨_, _, rfl⟩
theorem ro_depth (f : List Ro) : ∀ d ∈ f.map ro, d.depth ≤ 60 := fun d hd => by
  obtain ⟨a, _, rfl⟩ := List.mem_map.mp hd
  exact (by decide : 1 ≤ 60)
theorem at_nat {α : Type} {f : α → PyData} {xs : List α} {i : Nat} {x : α} (h : xs[i]? = some x) : atI (xs.map f) (i : Int) = some (f x) := by
  obtain ⟨h1, h2⟩ := List.getElem?_eq_some_iff.mp h
  unfold atI ixN
  simp [h1, h2]
theorem nodup_perm {α : Type} [DecidableEq α] : ∀ (f g : List α), f.Nodup → g.Nodup → (∀ x, x ∈ f ↔ x ∈ g) → f.Perm g
  | [], g, _, _, h => by
    cases g with
    | nil => exact .nil
    | cons a g => exact absurd ((h a).mpr (List.mem_cons_self ..)) (fun z => nomatch z)
  | a :: f, g, hf, hg, h => by
    have h1 := List.nodup_cons.mp hf
    have ha := (h a).mp (List.mem_cons_self ..)
    refine ((nodup_perm f (g.erase a) h1.2 (hg.sublist List.erase_sublist) fun x => ?_).cons a).trans (List.perm_cons_erase ha).symm
    rw [hg.mem_erase_iff]
    exact ⟨fun z => ⟨fun e => h1.1 (e ▸ z), (h x).mp (List.mem_cons_of_mem _ z)⟩, fun z => (List.mem_cons.mp ((h x).mpr z.2)).resolve_left z.1⟩
def bi (b : Bool) : Int := if b = true then 1 else 0
theorem bi_inj {a b : Bool} (h : bi a = bi b) : a = b := by cases a <;> cases b <;> first | rfl | exact absurd h (by decide)
theorem ro_le : PySem.W.dataLe false ro = fun p q : Ro => decide (p.1 < q.1 ∨ (p.1 = q.1 ∧ bi p.2 ≤ bi q.2)) :=
  (show PySem.W.dataLe false ro = PySem.W.dataLe false (fun p : Ro => .tuple [.int p.1, .int (bi p.2)]) from rfl).trans (PySem.W.dataLe_ii (fun p : Ro => p.1) fun p => bi p.2)
theorem srt_ro (f : List Ro) : srt (f.map ro) = (f.mergeSort (PySem.W.dataLe false ro)).map ro := (List.map_mergeSort (f := ro) (r := PySem.W.dataLe false ro) (s := PySem.W.dataLe false id) (l := f) fun _ _ _ _ => rfl).symm
theorem srt_same {f g : List Ro} (hf : f.Nodup) (hg : g.Nodup) (h : ∀ x, x ∈ f ↔ x ∈ g) : f.mergeSort (PySem.W.dataLe false ro) = g.mergeSort (PySem.W.dataLe false ro) := by
  refine Pf.Gate.out ?_
  simp (disch := (with_unfolding_all (
      have tr : ∀ x y z : Ro, PySem.W.dataLe false ro x y = true → PySem.W.dataLe false ro y z = true → PySem.W.dataLe false ro x z = true := fun x y z a b => by
        rw [ro_le] at a b ⊢
        have a := of_decide_eq_true a
        have b := of_decide_eq_true b
        refine decide_eq_true ?_
        omega
      have to : ∀ x y : Ro, (PySem.W.dataLe false ro x y || PySem.W.dataLe false ro y x) = true := fun x y => by
        rw [ro_le, Bool.or_eq_true, decide_eq_true_iff, decide_eq_true_iff]
        omega
      refine PySem.W.Srt.the_of_perm _ tr to (fun x y a b => ?_) ((List.mergeSort_perm f _).trans (nodup_perm f g hf hg h)) (List.pairwise_mergeSort tr to f)
      rw [ro_le] at a b
      have a := of_decide_eq_true a
      have b := of_decide_eq_true b
      exact Prod.ext (by omega) (bi_inj (by omega))
    ))) only [↓Pf.Gate.lem]
def Pt.kd : Pt → String
  | .below _ _ => "below"
  | .under _ _ _ _ => "under"
  | .is _ _ => "is"
  | .has _ _ _ => "has"
  | .never => "never"
/-- a part of an axiom of a set -/
def partOf (xs : List (List Pt)) (ms : List Int) (a p : Int) : Option Pt := if a ∈ ms ∧ a < xs.length then (xs.getD a.toNat [])[p.toNat]? else none
def kindOf (kd : String) (o : Option Pt) : Option Pt := o.filter fun q => decide (Str.ofString q.kd = Str.ofString kd)
def optP : Option Pt → PyData
  | none => .none
  | some p => p.D
abbrev Stp := Int × Int × Bool
abbrev spD : Stp → PyData := fun s => .tuple [.int s.1, .int s.2.1, .bool s.2.2]
abbrev spsD : List Stp → PyData := fun st => .tuple (st.map spD)
def StOk (st : List Stp) : Prop := ∀ s ∈ st, 0 ≤ s.1 ∧ 0 ≤ s.2.1
def Ro.tn (t : Bool) (r : Ro) : Ro := if t = true then Ro.inv r else r
def ledStep (xs : List (List Pt)) (ms : List Int) (r : Ro) (s : Stp) : Option Ro :=
  match kindOf "under" (partOf xs ms s.1 s.2.1) with
  | some (.under l b u b') => if r = Ro.tn s.2.2 (l, b) then some (Ro.tn s.2.2 (u, b')) else none
  | _ => none
/-- where steps lead -/
def led (xs : List (List Pt)) (ms : List Int) : Ro → List Stp → Option Ro
  | r, [] => some r
  | r, s :: st => (ledStep xs ms r s).bind fun q => led xs ms q st
theorem led_app {xs : List (List Pt)} {ms : List Int} : ∀ {r : Ro} {s t : List Stp}, led xs ms r (s ++ t) = (led xs ms r s).bind fun q => led xs ms q t
  | _, [], _ => rfl
  | r, a :: s, t => by
    show (ledStep xs ms r a).bind (fun q => led xs ms q (s ++ t)) = ((ledStep xs ms r a).bind fun q => led xs ms q s).bind fun q => led xs ms q t
    cases ledStep xs ms r a with
    | none => rfl
    | some q => exact led_app (r := q) (s := s) (t := t)
def optR : Option Ro → PyData
  | none => .none
  | some r => ro r
theorem kindOf_some {kd : String} {o : Option Pt} {p : Pt} (h : kindOf kd o = some p) : Str.ofString p.kd = Str.ofString kd := of_decide_eq_true (Option.filter_eq_some_iff.mp h).2
theorem led_step {xs : List (List Pt)} {ms : List Int} {r q : Ro} {st : List Stp} {s : Stp} {i : Nat} (h : led xs ms r (st.take i) = some q) (hs : st[i]? = some s) : led xs ms r (st.take (i + 1)) = ledStep xs ms q s := by
  rw [take_snoc hs, led_app, h]
  show (ledStep xs ms q s).bind _ = _
  cases ledStep xs ms q s <;> rfl
theorem led_none {xs : List (List Pt)} {ms : List Int} {r : Ro} {st : List Stp} (i : Nat) (h : led xs ms r (st.take i) = none) : led xs ms r st = none := by
  rw [← List.take_append_drop i st, led_app, h]
  rfl
theorem Pt.shape : ∀ q : Pt, ∃ rest, q.D = .tuple (sK q.kd :: rest)
  | .below _ _ => ⟨_, rfl⟩
  | .under _ _ _ _ => ⟨_, rfl⟩
  | .is _ _ => ⟨_, rfl⟩
  | .has _ _ _ => ⟨_, rfl⟩
  | .never => ⟨_, rfl⟩
theorem at0 {d : PyData} {ds : List PyData} : atI (d :: ds) 0 = some d := by
  unfold atI ixN
  simp
section
variable {P : Program} {w : World} {K : PySem.W.Frag} {mg : Str → Option Value} {base : Heap}
def pPart : Pre := fun ss u post => ∃ (xs : List (List Pt)) (s2 : Int) (ms : List Int) (a p : Int) (kd : String), ss = [.d (.tuple [.tuple (xs.map axD), .int s2]), .d (.tuple (ms.map .int)), .d (.int a), .d (.int p), .d (sK kd)] ∧ u = [] ∧ 0 ≤ a ∧ 0 ≤ p ∧ post = pD fun d => d = optP (kindOf kd (partOf xs ms a p))
theorem c_part {f : Addr} {fd : FuncData} (D : Df K mg "_part" s_part f fd ["ontology", "places", "axiom", "part", "kind"]) (z_len : mg "len" = none) : Cl P w K mg base 1 "_part" (spG K pPart) := by
  refine Pf.Gate.out ?_
  simp (disch := (with_unfolding_all (
      refine D.go sc_part (pPart) (fun ss u post h => by repeat (first | (obtain ⟨rfl, _⟩ := h; rfl) | obtain ⟨_, h⟩ := h)) fun cdv A outer s H M vs Q E ss u post hr hp S hq => ?_
      obtain ⟨xs, s2, ms, a, p, kd, rfl, rfl, ha, hp, rfl⟩ := hp
      refine ⟨_, (pss_cons (ps_asg (pv 0) (kGT (K := K) (n := 2) (pg_tup (by rfl) (pgs_cons (pg_name (i := 5) sc_part.nd rfl (.inl rfl)) (pgs_cons (pg_name (i := 6) sc_part.nd rfl (.inl rfl)) pgs_nil)))))
          (pss_cons (ps_if (PW.pt (pw_or (pt_cmpR (notInD (K := K)) (pv 2) (pv 1) rfl) (pw_or (pt_cmpR op_ge (pv 2) (pe_callB (lenQ (K := K)) (by rfl) z_len PySem.boot_len (pa_cons (pv 5) pa_nil)) (nomark _)) (pw_or1 (pt_cmpR op_ge (pv 3) (pe_callB (lenQ (K := K)) (by rfl) z_len PySem.boot_len (pa_cons (pe_ix (ixT (K := K)) (pv 5) (pv 2) (fun _ _ => rfl)) pa_nil)) (nomark _)))))) (pss_one (ps_ret pe_non)) pss_nil)
          (pss_cons (ps_set (i := 7) sc_part.nd rfl (.inl rfl) (pe_ix (ixT (K := K)) (pe_ix (ixT (K := K)) (pv 5) (pv 2) (fun _ _ => rfl)) (pv 3) (fun _ _ => rfl)))
          (pss_one (ps_ret (pe_ifExp (pt_cmpR op_eq (pe_ix (ixT (K := K)) (pv 7) pe_int (fun _ _ => rfl)) (pv 4) (nomark _)) (pv 7) pe_non)))))), ?_⟩
      walk_at "in"
      walk_at "dl"
      refine x_if (fun h1 => ?_) (fun h1 => ?_)
      · have h1 : a ∉ ms := of_decide_eq_false (by rw [← Bool.not_eq_true']; exact h1)
        walk_at "dl"
        exact x_rD (by assumption) hq (by walk_at "tm") (by rw [partOf, if_neg fun z => h1 z.1]; rfl)
      · have h1 : a ∈ ms := of_decide_eq_true (by rw [← Bool.not_eq_false']; exact h1)
        walk_at "dl"
        rw [List.length_map]
        refine x_if (fun h2 => ?_) (fun h2 => ?_)
        · have h2 := of_decide_eq_true h2
          walk_at "dl"
          exact x_rD (by assumption) hq (by walk_at "tm") (by rw [partOf, if_neg fun z => absurd z.2 (by omega)]; rfl)
        · have h2 : a < xs.length := by have := of_decide_eq_false h2; omega
          have hat := at_get (f := axD) (a := []) ha h2
          have e : partOf xs ms a p = (xs.getD a.toNat [])[p.toNat]? := by rw [partOf, if_pos ⟨h1, h2⟩]
          generalize xs.getD a.toNat [] = x at hat e
          walk_at "dl"
          refine x_ixT (by assumption) (by walk_at "tm") hat ?_
          walk_at "dl"
          rw [List.length_map]
          refine x_if (fun h3 => ?_) (fun h3 => ?_)
          · have h3 := of_decide_eq_true h3
            walk_at "dl"
            exact x_rD (by assumption) hq (by walk_at "tm") (by rw [e, List.getElem?_eq_none (by omega)]; rfl)
          · have h3 : p.toNat < x.length := by have := of_decide_eq_false h3; omega
            obtain ⟨q, hq'⟩ : ∃ q, x[p.toNat]? = some q := ⟨_, List.getElem?_eq_getElem h3⟩
            obtain ⟨rest, er⟩ := q.shape
            have hat2 := at_nat (f := Pt.D) hq'
            rw [show ((p.toNat : Nat) : Int) = p by omega, er] at hat2
            walk_at "dl"
            refine x_ixT (by assumption) (by walk_at "tm") hat ?_
            walk_at "dl"
            refine x_ixT (by assumption) (by walk_at "tm") hat2 ?_
            walk_at "dl"
            refine x_ixT (by assumption) (by walk_at "tm") (at0 (d := sK q.kd) (ds := rest)) ?_
            walk_at "dl"
            refine x_if (fun h4 => ?_) (fun h4 => ?_)
            · have h4 := of_decide_eq_true h4
              walk_at "dl"
              exact x_rD (by assumption) hq (by walk_at "tm") (by rw [e, hq', kindOf, Option.filter_some, if_pos (decide_eq_true h4)]; exact er.symm)
            · have h4 := of_decide_eq_false h4
              walk_at "dl"
              exact x_rD (by assumption) hq (by walk_at "tm") (by rw [e, hq', kindOf, Option.filter_some, if_neg (fun z => h4 (of_decide_eq_true z))]; rfl)
    ))) only [↓Pf.Gate.lem]
def pRoleBehind : Pre := fun ss u post => ∃ (xs : List (List Pt)) (s2 : Int) (ms : List Int) (r : Ro) (st : List Stp), ss = [.d (.tuple [.tuple (xs.map axD), .int s2]), .d (.tuple (ms.map .int)), .d (ro r), .d (spsD st)] ∧ u = [] ∧ StOk st ∧ post = pD fun d => d = optR (led xs ms r st)
theorem c_role_behind {f : Addr} {fd : FuncData} (D : Df K mg "role_behind" s_role_behind f fd ["ontology", "places", "role", "steps"]) (c_part : Cl P w K mg base 1 "_part" (spG K pPart)) (c_inverse : Cl P w K mg base 1 "inverse" (spG K pInverse)) : Cl P w K mg base 2 "role_behind" (spG K pRoleBehind) := by
  refine Pf.Gate.out ?_
  simp (disch := (with_unfolding_all (
      refine D.go sc_role_behind (pRoleBehind) (fun ss u post h => by repeat (first | (obtain ⟨rfl, _⟩ := h; rfl) | obtain ⟨_, h⟩ := h)) fun cdv A outer s H M vs Q E ss u post hr hp S hq => ?_
      obtain ⟨xs, s2, ms, r, st, rfl, rfl, hst, rfl⟩ := hp
      refine ⟨_, (pss_cons (ps_for PassesOwn.never rfl (kIT (K := K) (pi_tup (pv 3))) (kGT (K := K) (n := 3) (pg_tup (by rfl) (pgs_cons (pg_name (i := 4) sc_role_behind.nd rfl (.inl rfl)) (pgs_cons (pg_name (i := 5) sc_role_behind.nd rfl (.inl rfl)) (pgs_cons (pg_name (i := 6) sc_role_behind.nd rfl (.inl rfl)) pgs_nil))))) (pss_cons (ps_set (i := 7) sc_role_behind.nd rfl (.inl rfl) (pc c_part hr (by first | decide | omega) (by rfl) (pa_cons (pv 0) (pa_cons (pv 1) (pa_cons (pv 4) (pa_cons (pv 5) (pa_cons pe_str pa_nil)))))))
          (pss_cons (ps_if (pt_cmpR op_isNo (pv 7) pe_non (nomark _)) (pss_one (ps_ret pe_non)) pss_nil)
          (pss_cons (ps_asg (pv 7) (kGT (K := K) (n := 3) (pg_tup (by rfl) (pgs_cons (pg_name (i := 8) sc_role_behind.nd rfl (.inl rfl)) (pgs_cons (pg_name (i := 9) sc_role_behind.nd rfl (.inl rfl)) (pgs_cons (pg_name (i := 10) sc_role_behind.nd rfl (.inl rfl)) pgs_nil))))))
          (pss_cons (ps_if (pt_cmpR (kNeD (K := K) hr.units) (pv 2) (pe_ifExp (pt_val (pv 6)) (pc c_inverse hr (by first | decide | omega) (by rfl) (pa_cons (pv 9) pa_nil)) (pv 9)) (nomark _)) (pss_one (ps_ret pe_non)) pss_nil)
          (pss_one (ps_set (i := 2) sc_role_behind.nd rfl (.inl rfl) (pe_ifExp (pt_val (pv 6)) (pc c_inverse hr (by first | decide | omega) (by rfl) (pa_cons (pv 10) pa_nil)) (pv 10)))))))))
          (pss_one (ps_ret (pv 2)))), ?_⟩
      walk_at "in"
      walk_at "dl"
      refine x_forT (fun i ρ u => (∃ q, ρ = [.d (.tuple [.tuple (xs.map axD), .int s2]), .d (.tuple (ms.map .int)), .d (ro q), .d (spsD st), .u, .u, .u, .u, .u, .u, .u] ∧ led xs ms r (st.take i) = some q) ∧ u = []) (by assumption) (by walk_at "tm") ⟨⟨r, rfl, rfl⟩, rfl⟩ ?_ ?_
      · rintro i d ρ1 u1 hi ⟨⟨q, rfl, hled⟩, rfl⟩ v σ1 H1 M1 S1
        obtain ⟨s, hs, rfl⟩ := map_at hi
        have hs0 := hst s (List.mem_of_getElem? hs)
        have hstep := led_step hled hs
        have hnone : ledStep xs ms q s = none → led xs ms r st = none := fun h => led_none (i + 1) (hstep.trans h)
        walk_at "dl"
        refine x_cD (by assumption) (by walk_at "slt") ⟨xs, s2, ms, s.1, s.2.1, "under", rfl, rfl, hs0.1, hs0.2, rfl⟩ ?_
        rintro _ rfl H_ M_ S_
        walk_at "dl"
        rename Ds _ _ _ _ _ _ _ _ _ => S_
        unfold ledStep at hstep hnone
        cases hk : kindOf "under" (partOf xs ms s.1 s.2.1) with
        | none =>
          rw [hk] at S_ hnone
          refine x_ifT rfl ?_
          walk_at "dl"
          exact x_rD (by assumption) hq (by walk_at "tm") (by rw [hnone rfl]; rfl)
        | some pt =>
          rw [hk] at S_ hstep hnone
          have hkd := kindOf_some hk
          cases pt with
          | under l b u b' =>
            replace hstep : led xs ms r (List.take (i + 1) st) = if q = Ro.tn s.2.2 (l, b) then some (Ro.tn s.2.2 (u, b')) else none := hstep
            replace hnone : (if q = Ro.tn s.2.2 (l, b) then some (Ro.tn s.2.2 (u, b')) else none) = none → led xs ms r st = none := hnone
            refine x_ifF rfl ?_
            rename Ds _ _ _ _ _ _ _ _ _ => S_
            simp only [optP, Pt.D] at S_
            walk_at "dl"
            refine x_if (fun ht => ?_) (fun ht => ?_)
            · have e1 : Ro.tn s.2.2 (l, b) = (l, !b) := by rw [Ro.tn, if_pos ht]
              have e2 : Ro.tn s.2.2 (u, b') = (u, !b') := by rw [Ro.tn, if_pos ht]
              rw [e1, e2] at hstep hnone
              walk_at "dl"
              refine x_cD (by assumption) (by walk_at "slt") ⟨(l, b), rfl, rfl, rfl⟩ ?_
              rintro _ rfl H_ M_ S_
              walk_at "dl"
              refine x_neX ro_enc (c := q) (d := (l, !b)) (by assumption) (by walk_at "tm") (by walk_at "tm") (by decide : 1 ≤ 64) (by decide : 1 ≤ 64) ?_
              walk_at "dl"
              refine x_if (fun h => ?_) (fun h => ?_)
              · have h : q ≠ (l, !b) := of_decide_eq_false (by rw [← Bool.not_eq_true']; exact h)
                walk_at "dl"
                exact x_rD (by assumption) hq (by walk_at "tm") (by rw [hnone (if_neg h)]; rfl)
              · have h : q = (l, !b) := of_decide_eq_true (by rw [← Bool.not_eq_false']; exact h)
                walk_at "dl"
                refine x_ifT ht ?_
                walk_at "dl"
                refine x_cD (by assumption) (by walk_at "slt") ⟨(u, b'), rfl, rfl, rfl⟩ ?_
                rintro _ rfl H_ M_ S_
                walk_at "dl"
                exact Nx.at (by assumption) (by walk_at "le") ⟨⟨(u, !b'), rfl, by rw [hstep, if_pos h]⟩, rfl⟩
            · have e1 : Ro.tn s.2.2 (l, b) = (l, b) := by rw [Ro.tn, if_neg (by rw [ht]; decide)]
              have e2 : Ro.tn s.2.2 (u, b') = (u, b') := by rw [Ro.tn, if_neg (by rw [ht]; decide)]
              rw [e1, e2] at hstep hnone
              walk_at "dl"
              refine x_neX ro_enc (c := q) (d := (l, b)) (by assumption) (by walk_at "tm") (by walk_at "tm") (by decide : 1 ≤ 64) (by decide : 1 ≤ 64) ?_
              walk_at "dl"
              refine x_if (fun h => ?_) (fun h => ?_)
              · have h : q ≠ (l, b) := of_decide_eq_false (by rw [← Bool.not_eq_true']; exact h)
                walk_at "dl"
                exact x_rD (by assumption) hq (by walk_at "tm") (by rw [hnone (if_neg h)]; rfl)
              · have h : q = (l, b) := of_decide_eq_true (by rw [← Bool.not_eq_false']; exact h)
                walk_at "dl"
                refine x_ifF ht ?_
                walk_at "dl"
                exact Nx.at (by assumption) (by walk_at "le") ⟨⟨(u, b'), rfl, by rw [hstep, if_pos h]⟩, rfl⟩
          | below _ _ => exact absurd hkd (by decide +kernel : ¬ Str.ofString "below" = Str.ofString "under")
          | is _ _ => exact absurd hkd (by decide +kernel : ¬ Str.ofString "is" = Str.ofString "under")
          | has _ _ _ => exact absurd hkd (by decide +kernel : ¬ Str.ofString "has" = Str.ofString "under")
          | never => exact absurd hkd (by decide +kernel : ¬ Str.ofString "never" = Str.ofString "under")
      · rintro ρ1 u1 ⟨⟨q, rfl, hled⟩, rfl⟩ σ1 H1 M1 S1
        rw [show (st.map spD).length = st.length from List.length_map .., take_all] at hled
        walk_at "dl"
        exact x_rD (by assumption) hq (by walk_at "tm") (by rw [hled]; rfl)
    ))) only [↓Pf.Gate.lem]
end
section
variable {P : Program} {w : World} {K : PySem.W.Frag} {mg : Str → Option Value} {base : Heap}
theorem c_law_back {f : Addr} {fd : FuncData} (D : Df K mg "_law_back" s_law_back f fd ["role"]) : Cl P w K mg base 1 "_law_back" (spG K pInverse) := by
  refine D.go sc_law_back (pInverse) (fun ss u post h => by repeat (first | (obtain ⟨rfl, _⟩ := h; rfl) | obtain ⟨_, h⟩ := h)) fun cdv A outer s H M vs Q E ss u post hr hp S hq => ?_
  obtain ⟨r, rfl, rfl, rfl⟩ := hp
  refine ⟨_, (pss_one (ps_ret (pe_tup (pa_cons (pe_ix (ixT (K := K)) (pv 0) pe_int (fun _ _ => rfl)) (pa_cons (pe_not (pe_ix (ixT (K := K)) (pv 0) pe_int (fun _ _ => rfl))) pa_nil))))), ?_⟩
  walk_at "in"
  walk_at "dl"
  exact x_rD (by assumption) hq (by walk_at "tm") rfl
end
/-! finite models -/
abbrev isD (ms : List Int) : PyData := .tuple (ms.map .int)
abbrev Lk := Int × Int × Int
abbrev lkD : Lk → PyData := fun l => .tuple [.int l.1, .int l.2.1, .int l.2.2]
abbrev Pr := Int × Int
abbrev prD : Pr → PyData := fun p => .tuple [.int p.1, .int p.2]
abbrev modD (th : List (List Int)) (lk : List Lk) (os : List Int) : PyData := .tuple [.tuple (th.map isD), .tuple (lk.map lkD), .tuple (os.map .int)]
theorem lk_enc : Enc lkD where
  eq := fun a b => by
    show (PyData.eqv (.int a.1) (.int b.1) && (PyData.eqv (.int a.2.1) (.int b.2.1) && (PyData.eqv (.int a.2.2) (.int b.2.2) && true))) = _
    rw [Cp.eqI, Cp.eqI, Cp.eqI, Bool.and_true, Bool.eq_iff_iff, Bool.and_eq_true, Bool.and_eq_true, decide_eq_true_iff, decide_eq_true_iff, decide_eq_true_iff, decide_eq_true_iff]
    exact ⟨fun h => Prod.ext h.1 (Prod.ext h.2.1 h.2.2), fun h => h ▸ ⟨rfl, rfl, rfl⟩⟩
  lay := fun a => rfl
theorem pr_enc : Enc prD where
  eq := fun a b => by
    show (PyData.eqv (.int a.1) (.int b.1) && (PyData.eqv (.int a.2) (.int b.2) && true)) = _
    rw [Cp.eqI, Cp.eqI, Bool.and_true, Bool.eq_iff_iff, Bool.and_eq_true, decide_eq_true_iff, decide_eq_true_iff, decide_eq_true_iff]
    exact ⟨fun h => Prod.ext h.1 h.2, fun h => h ▸ ⟨rfl, rfl⟩⟩
  lay := fun a => rfl
/-- j is behind i by a role -/
def lnk (lk : List Lk) (r : Int) (b : Bool) (i j : Int) : Bool := memD (if b = true then (r, j, i) else (r, i, j)) lk
def sat (th : List (List Int)) (lk : List Lk) : Cp → Int → Bool
  | .any, _ => true
  | .name n, i => memD n (th.getD i.toNat [])
  | .not c, i => !sat th lk c i
  | .both c d, i => sat th lk c i && sat th lk d i
  | .some r b c, i => (rng th.length).any fun j => lnk lk r b i j && sat th lk c j
/-- links go from things to things -/
def LkOk (n : Nat) (lk : List Lk) : Prop := ∀ l ∈ lk, (0 ≤ l.2.1 ∧ l.2.1 < n) ∧ 0 ≤ l.2.2 ∧ l.2.2 < n
theorem memD_t {α : Type} [DecidableEq α] {x : α} {xs : List α} : memD x xs = true ↔ x ∈ xs := decide_eq_true_iff
def swp (b : Bool) (p : Pr) : Pr := if b = true then (p.2, p.1) else p
def rawPairs (lk : List Lk) (r : Int) : List Pr := (lk.filter fun l => decide (l.1 = r)).map fun l => (l.2.1, l.2.2)
theorem swp_no {ps : List Pr} : ps.map (swp false) = ps := by rw [show swp false = id from funext fun p => rfl, List.map_id]
/-- the pairs behind a role, ascending -/
def pairsOf (lk : List Lk) (r : Int) (b : Bool) : List Pr := ((rawPairs lk r).map (swp b)).mergeSort (PySem.W.dataLe false prD)
theorem pairs_mem {lk : List Lk} {r : Int} {b : Bool} {p : Pr} : p ∈ pairsOf lk r b ↔ lnk lk r b p.1 p.2 = true := by
  refine Pf.Gate.out ?_
  simp (disch := (with_unfolding_all (
      unfold pairsOf lnk rawPairs
      rw [(List.mergeSort_perm _ _).mem_iff, List.mem_map, memD_t]
      constructor
      · rintro ⟨q, h, rfl⟩
        obtain ⟨l, h1, rfl⟩ := List.mem_map.mp h
        have h1 := List.mem_filter.mp h1
        have h2 : l.1 = r := of_decide_eq_true h1.2
        subst h2
        cases b <;> exact h1.1
      · intro h
        refine ⟨swp b p, List.mem_map.mpr ⟨_, List.mem_filter.mpr ⟨h, ?_⟩, ?_⟩, by cases b <;> rfl⟩
        · cases b <;> exact decide_eq_true rfl
        · cases b <;> rfl
    ))) only [↓Pf.Gate.lem]
theorem pairs_ok {n : Nat} {lk : List Lk} (h : LkOk n lk) {r : Int} {b : Bool} {p : Pr} (hp : p ∈ pairsOf lk r b) : (0 ≤ p.1 ∧ p.1 < n) ∧ 0 ≤ p.2 ∧ p.2 < n := by
  have := memD_t.mp (pairs_mem.mp hp)
  have := h _ this
  cases b
  · exact this
  · exact ⟨this.2, this.1⟩
theorem pairs_len {lk : List Lk} {r : Int} {b : Bool} : (pairsOf lk r b).length ≤ lk.length := by
  unfold pairsOf rawPairs
  rw [List.length_mergeSort, List.length_map, List.length_map]
  exact List.length_filter_le ..
theorem pr_alike (f : List Pr) : PySem.W.AllAlike (f.map prD) := fun d hd d' hd' => by
  obtain ⟨a, _, rfl⟩ := List.mem_map.mp hd
  obtain ⟨b, _, rfl⟩ := List.mem_map.mp hd'
  rfl
theorem pr_sortable (f : List Pr) : PySem.W.Sortable (f.map prD) := .inl fun d hd => by
  obtain ⟨a, _, rfl⟩ := List.mem_map.mp hd
  exact ⟨_, _, rfl⟩
theorem pr_depth (f : List Pr) : ∀ d ∈ f.map prD, d.depth ≤ 60 := fun d hd => by
  obtain ⟨a, _, rfl⟩ := List.mem_map.mp hd
  exact (by decide : 1 ≤ 60)
theorem srt_pr (f : List Pr) : srt (f.map prD) = (f.mergeSort (PySem.W.dataLe false prD)).map prD := (List.map_mergeSort (f := prD) (r := PySem.W.dataLe false prD) (s := PySem.W.dataLe false id) (l := f) fun _ _ _ _ => rfl).symm
theorem raw_snoc {lk : List Lk} {l : Lk} {r : Int} : rawPairs (lk ++ [l]) r = if l.1 = r then rawPairs lk r ++ [(l.2.1, l.2.2)] else rawPairs lk r := by
  unfold rawPairs
  rw [List.filter_append, List.map_append]
  by_cases h : l.1 = r
  · simp [List.filter_cons, h]
  · simp [List.filter_cons, h]
section
variable {P : Program} {w : World} {K : PySem.W.Frag} {mg : Str → Option Value} {base : Heap}
def pPairs : Pre := fun ss u post => ∃ (th : List (List Int)) (lk : List Lk) (os : List Int) (r : Int) (b : Bool), ss = [.d (modD th lk os), .d (roD r b)] ∧ u = [] ∧ lk.length ≤ 10000 ∧ post = pO fun od => od = .lt ((pairsOf lk r b).map prD)
def colD (th : List (List Int)) (lk : List Lk) (c : Cp) : List PyData := (rng th.length).map fun i => .bool (sat th lk c i)
theorem col_at {th : List (List Int)} {lk : List Lk} {c : Cp} {i : Int} (h0 : 0 ≤ i) (h1 : i < th.length) : atI (colD th lk c) i = some (.bool (sat th lk c i)) := by
  obtain ⟨k, rfl⟩ := Int.eq_ofNat_of_zero_le h0
  exact at_nat (f := fun i => PyData.bool (sat th lk c i)) (rng_at (by omega))
theorem rep1 {β : Type} {a : β} {n : Nat} : (List.replicate n [a]).flatten = (rng n).map fun _ => a := by
  unfold rng
  rw [List.map_map, List.flatten_replicate_singleton]
  induction n with
  | zero => rfl
  | succ n ih => rw [List.replicate_succ', ih, List.range_succ, List.map_append]; rfl
theorem rng_map_succ {β : Type} {f : Int → β} {n : Nat} : (rng (n + 1)).map f = (rng n).map f ++ [f n] := by
  rw [rng_succ, List.map_append]
  rfl
theorem set_rng {β : Type} {f : Int → β} {n k : Nat} {x : β} : ((rng n).map f).set k x = (rng n).map fun i => if i = (k : Int) then x else f i := by
  apply List.ext_getElem?
  intro j
  by_cases hj : j < n
  · rw [List.getElem?_set, List.getElem?_map, List.getElem?_map, rng_at hj]
    by_cases e : k = j
    · subst e
      simp [rng_len, hj]
    · have e2 : ¬ (j : Int) = (k : Int) := fun z => e (by omega)
      simp [e, e2]
  · rw [List.getElem?_eq_none (by rw [List.length_set, List.length_map, rng_len]; omega), List.getElem?_eq_none (by rw [List.length_map, rng_len]; omega)]
theorem ite_orb {i q : Int} {x : Bool} : (if i = q then PyData.bool true else PyData.bool x) = PyData.bool (x || decide (i = q)) := by by_cases h : i = q <;> simp [h]
theorem ixN_of {n : Nat} {i : Int} (h0 : 0 ≤ i) (h1 : i < n) : ixN n i = some i.toNat := by
  obtain ⟨j, rfl⟩ := Int.eq_ofNat_of_zero_le h0
  have h : j < n := by omega
  unfold ixN
  simp [h]
theorem sat_some {th : List (List Int)} {lk : List Lk} {r : Int} {b : Bool} {c : Cp} (hok : LkOk th.length lk) (i : Int) : ((pairsOf lk r b).any fun p => decide (p.1 = i) && sat th lk c p.2) = sat th lk (.some r b c) i := by
  show _ = (rng th.length).any fun j => lnk lk r b i j && sat th lk c j
  rw [Bool.eq_iff_iff, List.any_eq_true, List.any_eq_true]
  constructor
  · rintro ⟨p, h1, h2⟩
    have h2 := Bool.and_eq_true_iff.mp h2
    have e : p.1 = i := of_decide_eq_true h2.1
    subst e
    exact ⟨p.2, rng_mem.mpr (pairs_ok hok h1).2, Bool.and_eq_true_iff.mpr ⟨pairs_mem.mp h1, h2.2⟩⟩
  · rintro ⟨j, h1, h2⟩
    have h2 := Bool.and_eq_true_iff.mp h2
    exact ⟨(i, j), pairs_mem.mpr h2.1, Bool.and_eq_true_iff.mpr ⟨decide_eq_true rfl, h2.2⟩⟩
def pBelonging (n : Nat) : Pre := fun ss u post => ∃ (th : List (List Int)) (lk : List Lk) (os : List Int) (c : Cp), ss = [.d (modD th lk os), .d c.D] ∧ u = [] ∧ c.dp < n ∧ (th.length ≤ 1000 ∧ lk.length ≤ 10000) ∧ LkOk th.length lk ∧ post = pO fun od => od = .lst (colD th lk c)
/-- the things that belong to a concept -/
def insOf (th : List (List Int)) (lk : List Lk) (c : Cp) : List Int := (rng th.length).filter (sat th lk c)
def pMembers (n : Nat) : Pre := fun ss u post => ∃ (th : List (List Int)) (lk : List Lk) (os : List Int) (c : Cp), ss = [.d (modD th lk os), .d c.D] ∧ u = [] ∧ c.dp < n ∧ (th.length ≤ 1000 ∧ lk.length ≤ 10000) ∧ LkOk th.length lk ∧ post = pD fun d => d = isD (insOf th lk c)
end
/-! faults of parts -/
def optD : Option (List Int) → PyData
  | none => .none
  | some l => isD l
theorem isNo_opt {o : Option (List Int)} : isNo (optD o) = o.isNone := by cases o <;> rfl
def oneAt (os : List Int) (a : Int) : Int := os.getD a.toNat 0
def faultOf (th : List (List Int)) (lk : List Lk) (os : List Int) : Pt → Option (List Int)
  | .below c d => ((insOf th lk c).filter (sat th lk (.not d))).head?.map fun i => [i]
  | .under r b s b' => ((pairsOf lk r b).filter fun p => !lnk lk s b' p.1 p.2).head?.map fun p => [p.1, p.2]
  | .is a c => if sat th lk c (oneAt os a) = true then none else some [oneAt os a]
  | .has a n b => if lnk lk n false (oneAt os a) (oneAt os b) = true then none else some [oneAt os a, oneAt os b]
  | .never => none
def Pt.In (n m : Nat) : Pt → Prop
  | .below c d => c.dp < n ∧ d.dp < n
  | .under _ _ _ _ => True
  | .is a c => (0 ≤ a ∧ a < m) ∧ c.dp < n
  | .has a _ b => (0 ≤ a ∧ a < m) ∧ 0 ≤ b ∧ b < m
  | .never => False
def Pt.isU : Pt → Bool
  | .under _ _ _ _ => true
  | _ => false
theorem ones_at {os : List Int} {a : Int} (h : 0 ≤ a ∧ a < os.length) : atI (os.map PyData.int) a = some (.int (oneAt os a)) := by
  obtain ⟨j, rfl⟩ := Int.eq_ofNat_of_zero_le h.1
  have h3 : j < os.length := by omega
  unfold atI ixN oneAt
  simp [h3]
theorem ones_in {os : List Int} {a : Int} (h : 0 ≤ a ∧ a < os.length) : oneAt os a ∈ os := by
  obtain ⟨j, rfl⟩ := Int.eq_ofNat_of_zero_le h.1
  have h3 : j < os.length := by omega
  unfold oneAt
  simp [h3]
theorem hd_fil {α : Type} {l : List α} {p : α → Bool} {j : Nat} {x : α} (h : l[j]? = some x) (h0 : (l.take j).filter p = []) (hp : p x = true) : (l.filter p).head? = some x := by
  obtain ⟨hl, e⟩ := List.getElem?_eq_some_iff.mp h
  have e2 : l = l.take j ++ x :: l.drop (j + 1) := by
    rw [← e, ← List.drop_eq_getElem_cons hl, List.take_append_drop]
  rw [e2, List.filter_append, h0, List.nil_append, List.filter_cons_of_pos hp]
  rfl
theorem memD_pairs {lk : List Lk} {r : Int} {b : Bool} {i j : Int} : memD (i, j) (pairsOf lk r b) = lnk lk r b i j := by
  rw [Bool.eq_iff_iff, memD_t]
  exact pairs_mem
theorem mem_insOf {th : List (List Int)} {lk : List Lk} {c : Cp} {i : Int} : i ∈ insOf th lk c ↔ (0 ≤ i ∧ i < th.length) ∧ sat th lk c i = true := by
  unfold insOf
  rw [List.mem_filter, rng_mem]
section
variable {P : Program} {w : World} {K : PySem.W.Frag} {mg : Str → Option Value} {base : Heap}
end
theorem fil_t {α : Type} {p : α → Bool} {x : α} (h : p x = true) : [x].filter p = [x] := List.filter_cons_of_pos h
theorem fil_f {α : Type} {p : α → Bool} {x : α} (h : p x = false) : [x].filter p = [] := List.filter_cons_of_neg (by rw [h]; decide)
theorem ins_any {th : List (List Int)} {lk : List Lk} : insOf th lk .any = rng th.length := List.filter_eq_self.mpr fun _ _ => rfl
theorem fil_succ {f : Int → Bool} {i : Nat} : (rng (i + 1)).filter f = (rng i).filter f ++ if f i = true then [(i : Int)] else [] := by
  rw [rng_succ, List.filter_append]
  by_cases h : f i = true
  · rw [if_pos h, List.filter_cons_of_pos h]
    rfl
  · rw [if_neg h, List.filter_cons_of_neg h]
    rfl
theorem ins_mem {th : List (List Int)} {lk : List Lk} {c : Cp} {i : Int} : i ∈ insOf th lk c ↔ (0 ≤ i ∧ i < th.length) ∧ sat th lk c i = true := by
  unfold insOf
  rw [List.mem_filter, rng_mem]
theorem ins_dec {th : List (List Int)} {lk : List Lk} {c : Cp} {i : Int} (h0 : 0 ≤ i) (h1 : i < th.length) : sat th lk c i = decide (i ∈ insOf th lk c) := by
  rw [Bool.eq_iff_iff, decide_eq_true_iff, ins_mem]
  exact ⟨fun h => ⟨⟨h0, h1⟩, h⟩, fun h => h.2⟩
theorem ins_both {th : List (List Int)} {lk : List Lk} {c d : Cp} : ((insOf th lk c).filter fun j => decide (j ∈ insOf th lk d)) = insOf th lk (.both c d) := by
  unfold insOf
  rw [List.filter_filter]
  refine List.filter_congr fun j hj => ?_
  have := rng_mem.mp hj
  rw [← insOf, ← ins_dec this.1 this.2, Bool.and_comm]
  rfl
theorem any_some {th : List (List Int)} {lk : List Lk} {r : Int} {b : Bool} {c : Cp} {i : Int} : (((insOf th lk c).map fun o => lnk lk r b i o).any id) = sat th lk (.some r b c) i := by
  show _ = (rng th.length).any fun j => lnk lk r b i j && sat th lk c j
  rw [Bool.eq_iff_iff, List.any_eq_true, List.any_eq_true]
  constructor
  · rintro ⟨x, h1, h2⟩
    obtain ⟨o, h3, rfl⟩ := List.mem_map.mp h1
    have h4 := ins_mem.mp h3
    exact ⟨o, rng_mem.mpr h4.1, Bool.and_eq_true_iff.mpr ⟨h2, h4.2⟩⟩
  · rintro ⟨j, h1, h2⟩
    have h2 := Bool.and_eq_true_iff.mp h2
    exact ⟨_, List.mem_map.mpr ⟨j, ins_mem.mpr ⟨rng_mem.mp h1, h2.2⟩, rfl⟩, h2.1⟩
section
variable {P : Program} {w : World} {K : PySem.W.Frag} {mg : Str → Option Value} {base : Heap}
def pLawLinked : Pre := fun ss u post => ∃ (th : List (List Int)) (lk : List Lk) (os : List Int) (r : Int) (b : Bool) (i j : Int), ss = [.d (modD th lk os), .d (roD r b), .d (.int i), .d (.int j)] ∧ u = [] ∧ post = pD fun d => d = .bool (lnk lk r b i j)
theorem c_law_linked {f : Addr} {fd : FuncData} (D : Df K mg "_law_linked" s_law_linked f fd ["model", "role", "first", "second"]) : Cl P w K mg base 1 "_law_linked" (spG K pLawLinked) := by
  refine Pf.Gate.out ?_
  simp (disch := (with_unfolding_all (
      refine D.go sc_law_linked (pLawLinked) (fun ss u post h => by repeat (first | (obtain ⟨rfl, _⟩ := h; rfl) | obtain ⟨_, h⟩ := h)) fun cdv A outer s H M vs Q E ss u post hr hp S hq => ?_
      obtain ⟨th, lk, os, r, b, i, j, rfl, rfl, rfl⟩ := hp
      refine ⟨_, (pss_cons (ps_if (pt_val (pe_ix (ixT (K := K)) (pv 1) pe_int (fun _ _ => rfl))) (pss_one (ps_ret (pe_cmpR (kInX (K := K) (u65 hr)) (pe_tup (pa_cons (pe_ix (ixT (K := K)) (pv 1) pe_int (fun _ _ => rfl)) (pa_cons (pv 3) (pa_cons (pv 2) pa_nil)))) (pe_ix (ixT (K := K)) (pv 0) pe_int (fun _ _ => rfl)) rfl))) pss_nil)
          (pss_one (ps_ret (pe_cmpR (kInX (K := K) (u65 hr)) (pe_tup (pa_cons (pe_ix (ixT (K := K)) (pv 1) pe_int (fun _ _ => rfl)) (pa_cons (pv 2) (pa_cons (pv 3) pa_nil)))) (pe_ix (ixT (K := K)) (pv 0) pe_int (fun _ _ => rfl)) rfl)))), ?_⟩
      walk_at "in"
      walk_at "dl"
      refine x_if (fun hb => ?_) (fun hb => ?_)
      · walk_at "dl"
        refine z_inT lk_enc (by assumption) (c := (r, j, i)) (by walk_at "tm") (by walk_at "tm") (by decide : 1 ≤ 64) rfl ?_
        exact x_rD (by assumption) hq (by walk_at "tm") (by rw [hb]; rfl)
      · walk_at "dl"
        refine z_inT lk_enc (by assumption) (c := (r, i, j)) (by walk_at "tm") (by walk_at "tm") (by decide : 1 ≤ 64) rfl ?_
        exact x_rD (by assumption) hq (by walk_at "tm") (by rw [hb]; rfl)
    ))) only [↓Pf.Gate.lem]
def pLawInside (n : Nat) : Pre := fun ss u post => ∃ (th : List (List Int)) (lk : List Lk) (os : List Int) (c : Cp), ss = [.d (modD th lk os), .d c.D] ∧ u = [] ∧ c.dp < n ∧ th.length ≤ 1000 ∧ post = pO fun od => od = .lst ((insOf th lk c).map .int)
theorem c_law_inside {f : Addr} {fd : FuncData} (D : Df K mg "_law_inside" s_law_inside f fd ["model", "concept"]) (c_law_linked : Cl P w K mg base 1 "_law_linked" (spG K pLawLinked)) (z_len : mg "len" = none) (z_range : mg "range" = none) (z_list : mg "list" = none) (z_any : mg "any" = none) : ∀ n : Nat, Cl P w K mg base (n + 2) "_law_inside" (spG K (pLawInside n))
  | 0 => D.vain sc_law_inside _ fun ss u post ⟨th, lk, os, c, _, _, h, _⟩ => absurd h (Nat.not_lt_zero _)
  | n + 1 => by
    have c_law_inside := c_law_inside D c_law_linked z_len z_range z_list z_any n
    refine D.go sc_law_inside (pLawInside (n + 1)) (fun ss u post h => by repeat (first | (obtain ⟨rfl, _⟩ := h; rfl) | obtain ⟨_, h⟩ := h)) fun cdv A outer s H M vs Q E ss u post hr hp S hq => ?_
    obtain ⟨th, lk, os, c, rfl, rfl, hc, hth, rfl⟩ := hp
    refine ⟨_, (pss_cons (ps_set (i := 2) sc_law_inside.nd rfl (.inl rfl) (pe_listRg rfl (by rfl) z_list (prg_1 (by rfl) z_range (pe_callB (lenQ (K := K)) (by rfl) z_len PySem.boot_len (pa_cons (pe_ix (ixT (K := K)) (pv 0) pe_int (fun _ _ => rfl)) pa_nil)))))
      (pss_cons (ps_if (pt_cmpR op_eq (pe_ix (ixT (K := K)) (pv 1) pe_int (fun _ _ => rfl)) pe_str (nomark _)) (pss_one (ps_ret (pv 2))) pss_nil)
      (pss_cons (ps_if (pt_cmpR op_eq (pe_ix (ixT (K := K)) (pv 1) pe_int (fun _ _ => rfl)) pe_str (nomark _)) (pss_one (ps_ret (pe_lc (own := [("thing", 3)]) (g := gName 3) (by rfl) sc_law_inside.nd (kIL (K := K) (pi_list (pv 2))) (blkOk_by (own := [("thing", 3)]) (N := ["model", "concept", "things", "thing", "inner", "found", "other"]) (sc := defScope s_law_inside) (by decide +kernel)) (fun _ _ _ _ _ => pg_name (i := 3) sc_law_inside.nd rfl (.inl rfl)) (fun _ _ _ _ _ => (pts_one (pt_cmpR (inD (K := K)) (pe_ix (ixT (K := K)) (pv 1) pe_int (fun _ _ => rfl)) (pe_ix (ixT (K := K)) (pe_ix (ixT (K := K)) (pv 0) pe_int (fun _ _ => rfl)) (pv 3) (fun _ _ => rfl)) rfl))) (fun _ _ _ _ _ => (pv 3))))) pss_nil)
      (pss_cons (ps_if (pt_cmpR op_eq (pe_ix (ixT (K := K)) (pv 1) pe_int (fun _ _ => rfl)) pe_str (nomark _)) (pss_cons (ps_set (i := 4) sc_law_inside.nd rfl (.inr rfl) (pc c_law_inside hr (by first | decide | omega) (by rfl) (pa_cons (pv 0) (pa_cons (pe_ix (ixT (K := K)) (pv 1) pe_int (fun _ _ => rfl)) pa_nil))))
      (pss_one (ps_ret (pe_lc (own := [("thing", 3)]) (g := gName 3) (by rfl) sc_law_inside.nd (kIL (K := K) (pi_list (pv 2))) (blkOk_by (own := [("thing", 3)]) (N := ["model", "concept", "things", "thing", "inner", "found", "other"]) (sc := defScope s_law_inside) (by decide +kernel)) (fun _ _ _ _ _ => pg_name (i := 3) sc_law_inside.nd rfl (.inl rfl)) (fun _ _ _ _ _ => (pts_one (pt_cmpR (notInD (K := K)) (pv 3) (pv 4) rfl))) (fun _ _ _ _ _ => (pv 3)))))) pss_nil)
      (pss_cons (ps_set (i := 4) sc_law_inside.nd rfl (.inr rfl) (pc c_law_inside hr (by first | decide | omega) (by rfl) (pa_cons (pv 0) (pa_cons (pe_ix (ixT (K := K)) (pv 1) pe_int (fun _ _ => rfl)) pa_nil))))
      (pss_cons (ps_if (pt_cmpR op_eq (pe_ix (ixT (K := K)) (pv 1) pe_int (fun _ _ => rfl)) pe_str (nomark _)) (pss_one (ps_ret (pe_lc (own := [("thing", 3)]) (g := gName 3) (by rfl) sc_law_inside.nd (kIL (K := K) (pi_list (pc c_law_inside hr (by first | decide | omega) (by rfl) (pa_cons (pv 0) (pa_cons (pe_ix (ixT (K := K)) (pv 1) pe_int (fun _ _ => rfl)) pa_nil))))) (blkOk_by (own := [("thing", 3)]) (N := ["model", "concept", "things", "thing", "inner", "found", "other"]) (sc := defScope s_law_inside) (by decide +kernel)) (fun _ _ _ _ _ => pg_name (i := 3) sc_law_inside.nd rfl (.inl rfl)) (fun _ _ _ _ _ => (pts_one (pt_cmpR (inD (K := K)) (pv 3) (pv 4) rfl))) (fun _ _ _ _ _ => (pv 3))))) pss_nil)
      (pss_cons (ps_set (i := 5) sc_law_inside.nd rfl (.inl rfl) (pe_lst pa_nil))
      (pss_cons (ps_for PassesOwn.never rfl (pi_range1 (by rfl) z_range (pa_cons (pe_callB (lenQ (K := K)) (by rfl) z_len PySem.boot_len (pa_cons (pe_ix (ixT (K := K)) (pv 0) pe_int (fun _ _ => rfl)) pa_nil)) pa_nil)) (pg_name (i := 3) sc_law_inside.nd rfl (.inr rfl)) (pss_one (ps_if (pt_val (pe_callB (kAny (K := K) rfl) (by rfl) z_any (by decide +kernel) (pa_cons (pe_lc (own := [("other", 6)]) (g := gName 6) (tt := tYes) (by rfl) sc_law_inside.nd (kIL (K := K) (pi_list (pv 4))) (blkOk_by (own := [("other", 6)]) (N := ["model", "concept", "things", "thing", "inner", "found", "other"]) (sc := defScope s_law_inside) (by decide +kernel)) (fun _ _ _ _ _ => pg_name (i := 6) sc_law_inside.nd rfl (.inl rfl)) (fun _ _ _ _ _ => pts_nil) (fun _ _ _ _ _ => (pc c_law_linked hr (by first | decide | omega) (by rfl) (pa_cons (pv 0) (pa_cons (pe_ix (ixT (K := K)) (pv 1) pe_int (fun _ _ => rfl)) (pa_cons (pv 3) (pa_cons (pv 6) pa_nil))))))) pa_nil))) (pss_one (ps_expr (kBM (K := K) (pe_bm PySem.F.plainAttrs_list PySem.F.slot_list_append PySem.F.type_list_append mt_append (pv 5) (pa_cons (pv 3) pa_nil))))) pss_nil)))
      (pss_one (ps_ret (pv 5))))))))))), ?_⟩
    walk_at "in"
    have hL : (List.map isD th).length = th.length := List.length_map ..
    walk_at "dl"
    rw [hL]
    refine x_lrK (by assumption) (by omega) (by omega) fun a H_ S_ => ?_
    rw [Int.toNat_natCast] at S_
    walk_at "dl"
    have hz : ∀ (l : List Int), l.length ≤ th.length → (l.map PyData.int).length < sizeLine := fun l h => by rw [List.length_map]; exact Nat.lt_of_lt_of_le (by omega : _ < 1001) (by decide)
    have hf : ∀ (f : Int → Bool) (i : Nat), i ≤ th.length → ((rng i).filter f).length ≤ th.length := fun f i h => by
      have := List.length_filter_le f (rng i)
      rw [rng_len] at this
      omega
    cases c with
    | any =>
      rename Ds _ _ _ _ _ _ _ _ _ => S_
      simp only [Cp.D] at S_
      walk_at "dl"
      exact x_rO (by assumption) hq 0 rfl (by rw [ins_any])
    | name m =>
      rename Ds _ _ _ _ _ _ _ _ _ => S_
      obtain ⟨M_, S_⟩ := S_.frz2 (i := 2) rfl List.not_mem_nil
      simp only [List.set_cons_succ, List.set_cons_zero] at S_
      rename Ds _ _ _ _ _ _ _ _ _ => S_
      simp only [Cp.D] at S_
      walk_at "dl"
      refine x_lc1L (k := 3) (fun i acc w1 => acc = ((rng i).filter (sat th lk (.name m))).map .int ∧ w1 = []) (by assumption) (by walk_at "tm") ⟨rfl, rfl⟩ ?_ ?_
      · rintro i d acc w1 hi ⟨rfl, rfl⟩ D4 σ4 H4 M4 hrw S4
        obtain ⟨x, hx, rfl⟩ := map_at hi
        obtain ⟨hi2, rfl⟩ := rng_at' hx
        have e : sat th lk (.name m) (i : Int) = decide (m ∈ th.getD (i : Int).toNat []) := decide_eq_decide.mpr Iff.rfl
        rename Ds _ _ _ _ _ _ _ _ _ => S_
        simp only [List.set_cons_succ, List.set_cons_zero] at S_
        walk_at "dl"
        refine x_ixT (by assumption) (by walk_at "tm") (at_get (f := isD) (a := []) (by omega : 0 ≤ (i : Int)) (by omega)) ?_
        walk_at "dl"
        refine x_if (fun h => ?_) (fun h => ?_)
        · walk_at "dl"
          exact x_lcA (by assumption) (by assumption) (by walk_at "tm") (hz _ (hf _ i (by omega))) ⟨by rw [fil_succ, if_pos (e.trans h), List.map_append]; rfl, rfl⟩
        · walk_at "dl"
          exact x_lcN (by assumption) (by assumption) ⟨by rw [fil_succ, if_neg (by rw [e, h]; decide), List.append_nil], rfl⟩
      · rintro acc w1 ⟨rfl, rfl⟩ D4 H4 M4 S4
        rw [show ((rng th.length).map PyData.int).length = th.length by rw [List.length_map, rng_len]] at S4
        walk_at "dl"
        exact x_rO (by assumption) hq 0 rfl rfl
    | not c =>
      have hc : c.dp < n := Nat.lt_of_succ_lt_succ hc
      rename Ds _ _ _ _ _ _ _ _ _ => S_
      obtain ⟨M_, S_⟩ := S_.frz2 (i := 2) rfl List.not_mem_nil
      simp only [List.set_cons_succ, List.set_cons_zero] at S_
      rename Ds _ _ _ _ _ _ _ _ _ => S_
      simp only [Cp.D] at S_
      walk_at "dl"
      refine x_cO (by assumption) (by walk_at "slt") ⟨th, lk, os, c, rfl, rfl, hc, hth, rfl⟩ ?_
      rintro _ rfl a2 H_ M_ S_
      walk_at "dl"
      refine x_lc1L (k := 3) (fun i acc w1 => acc = ((rng i).filter (sat th lk (.not c))).map .int ∧ w1 = [(a2, .lst ((insOf th lk c).map .int))]) (by assumption) (by walk_at "tm") ⟨rfl, rfl⟩ ?_ ?_
      · rintro i d acc w1 hi ⟨rfl, rfl⟩ D4 σ4 H4 M4 hrw S4
        obtain ⟨x, hx, rfl⟩ := map_at hi
        obtain ⟨hi2, rfl⟩ := rng_at' hx
        have e : sat th lk (.not c) (i : Int) = !decide ((i : Int) ∈ insOf th lk c) := by
          show (!sat th lk c i) = _
          rw [ins_dec (by omega) (by omega)]
        rename Ds _ _ _ _ _ _ _ _ _ => S_
        simp only [List.set_cons_succ, List.set_cons_zero] at S_
        walk_at "dl"
        refine x_if (fun h => ?_) (fun h => ?_)
        · walk_at "dl"
          exact x_lcA (by assumption) (by assumption) (by walk_at "tm") (hz _ (hf _ i (by omega))) ⟨by rw [fil_succ, if_pos (e.trans h), List.map_append]; rfl, rfl⟩
        · walk_at "dl"
          exact x_lcN (by assumption) (by assumption) ⟨by rw [fil_succ, if_neg (by rw [e, h]; decide), List.append_nil], rfl⟩
      · rintro acc w1 ⟨rfl, rfl⟩ D4 H4 M4 S4
        rw [show ((rng th.length).map PyData.int).length = th.length by rw [List.length_map, rng_len]] at S4
        walk_at "dl"
        exact x_rO (by assumption) hq 0 rfl rfl
    | both c d =>
      have hc1 : c.dp < n := by have : max c.dp d.dp + 1 < n + 1 := hc; omega
      have hc2 : d.dp < n := by have : max c.dp d.dp + 1 < n + 1 := hc; omega
      rename Ds _ _ _ _ _ _ _ _ _ => S_
      obtain ⟨M_, S_⟩ := S_.frz2 (i := 2) rfl List.not_mem_nil
      simp only [List.set_cons_succ, List.set_cons_zero] at S_
      rename Ds _ _ _ _ _ _ _ _ _ => S_
      simp only [Cp.D] at S_
      walk_at "dl"
      refine x_cO (by assumption) (by walk_at "slt") ⟨th, lk, os, d, rfl, rfl, hc2, hth, rfl⟩ ?_
      rintro _ rfl a2 H_ M_ S_
      walk_at "dl"
      refine x_cO (by assumption) (by walk_at "slt") ⟨th, lk, os, c, rfl, rfl, hc1, hth, rfl⟩ ?_
      rintro _ rfl a3 H_ M_ S_
      walk_at "dl"
      rename Ds _ _ _ _ _ _ _ _ _ => S_
      obtain ⟨M_, S_⟩ := S_.freeze List.not_mem_nil
      have hl3 : (insOf th lk c).length ≤ th.length := hf _ _ (Nat.le_refl _)
      refine x_lc1L (k := 3) (fun i acc w1 => acc = (((insOf th lk c).take i).filter fun j => decide (j ∈ insOf th lk d)).map .int ∧ w1 = [(a2, .lst ((insOf th lk d).map .int))]) (by assumption) (by walk_at "tm") ⟨rfl, rfl⟩ ?_ ?_
      · rintro i e acc w1 hi ⟨rfl, rfl⟩ D4 σ4 H4 M4 hrw S4
        obtain ⟨x, hx, rfl⟩ := map_at hi
        have hz2 : ((((insOf th lk c).take i).filter fun j => decide (j ∈ insOf th lk d)).map PyData.int).length < sizeLine := hz _ (by
          have h1 := List.length_filter_le (fun j => decide (j ∈ insOf th lk d)) ((insOf th lk c).take i)
          have h2 : ((insOf th lk c).take i).length ≤ (insOf th lk c).length := by rw [List.length_take]; omega
          omega)
        rename Ds _ _ _ _ _ _ _ _ _ => S_
        simp only [List.set_cons_succ, List.set_cons_zero] at S_
        walk_at "dl"
        refine x_if (fun h => ?_) (fun h => ?_)
        · walk_at "dl"
          exact x_lcA (by assumption) (by assumption) (by walk_at "tm") hz2 ⟨by rw [take_snoc hx, List.filter_append, fil_t (p := fun j => decide (j ∈ insOf th lk d)) h, List.map_append]; rfl, rfl⟩
        · walk_at "dl"
          exact x_lcN (by assumption) (by assumption) ⟨by rw [take_snoc hx, List.filter_append, fil_f (p := fun j => decide (j ∈ insOf th lk d)) h, List.append_nil], rfl⟩
      · rintro acc w1 ⟨rfl, rfl⟩ D4 H4 M4 S4
        rw [show ((insOf th lk c).map PyData.int).length = (insOf th lk c).length from List.length_map .., take_all] at S4
        walk_at "dl"
        exact x_rO (by assumption) hq 0 rfl (by rw [ins_both])
    | some r b c =>
      have hc : c.dp < n := Nat.lt_of_succ_lt_succ hc
      have c_law_linked := c_law_linked.mono (j := n + 2) (by omega)
      have hl3 : (insOf th lk c).length ≤ th.length := hf _ _ (Nat.le_refl _)
      rename Ds _ _ _ _ _ _ _ _ _ => S_
      obtain ⟨M_, S_⟩ := S_.frz2 (i := 2) rfl List.not_mem_nil
      simp only [List.set_cons_succ, List.set_cons_zero] at S_
      rename Ds _ _ _ _ _ _ _ _ _ => S_
      simp only [Cp.D] at S_
      walk_at "dl"
      refine x_cO (by assumption) (by walk_at "slt") ⟨th, lk, os, c, rfl, rfl, hc, hth, rfl⟩ ?_
      rintro _ rfl a2 H_ M_ S_
      walk_at "dl"
      rename Addr => a3
      rw [hL]
      rename Ds _ _ _ _ _ _ _ _ _ => S_
      have S_ := S_.perm (w' := [(a2, .lst ((insOf th lk c).map .int)), (a3, .lst [])]) (List.Perm.swap ..)
      rename Ds _ _ _ _ _ _ _ _ _ => S_
      obtain ⟨M_, S_⟩ := S_.frozen (i := 4) rfl List.not_mem_nil
      simp only [List.set_cons_succ, List.set_cons_zero] at S_
      refine x_forR (fun i ρ u => ρ = [.d (modD th lk os), .d (.tuple [sK "some", roD r b, c.D]), .d (.list ((rng th.length).map .int)), .u, .d (.list ((insOf th lk c).map .int)), .v (.ref a3), .u] ∧ u = [(a3, .lst (((rng i).filter (sat th lk (.some r b c))).map .int))]) (by assumption) (by omega) (by omega) ⟨rfl, rfl⟩ ?_ ?_
      · rintro i ρ1 u1 hi ⟨rfl, rfl⟩ σ1 H1 M1 S1
        walk_at "dl"
        refine x_lc1L (k := 6) (fun j acc w1 => acc = (((insOf th lk c).take j).map fun o => lnk lk r b i o).map .bool ∧ w1 = [(a3, .lst (((rng i).filter (sat th lk (.some r b c))).map .int))]) (by assumption) (by walk_at "tm") ⟨rfl, rfl⟩ ?_ ?_
        · rintro j e acc w1 hj ⟨rfl, rfl⟩ D4 σ4 H4 M4 hrw S4
          obtain ⟨x, hx, rfl⟩ := map_at hj
          have hz2 : ((((insOf th lk c).take j).map fun o => lnk lk r b i o).map PyData.bool).length < sizeLine := by
            have h2 : ((insOf th lk c).take j).length ≤ (insOf th lk c).length := by rw [List.length_take]; omega
            rw [List.length_map, List.length_map]
            exact Nat.lt_of_lt_of_le (by omega : _ < 1001) (by decide)
          rename Ds _ _ _ _ _ _ _ _ _ => S_
          simp only [List.set_cons_succ, List.set_cons_zero] at S_
          walk_at "dl"
          refine x_cD (by assumption) (by walk_at "slt") ⟨th, lk, os, r, b, i, x, rfl, rfl, rfl⟩ ?_
          rintro _ rfl H_ M_ S_
          walk_at "dl"
          exact x_lcA (by assumption) (by assumption) (by walk_at "tm") hz2 ⟨by rw [take_snoc hx, List.map_append, List.map_append]; rfl, rfl⟩
        · rintro acc w1 ⟨rfl, rfl⟩ D4 H4 M4 S4
          rw [show ((insOf th lk c).map PyData.int).length = (insOf th lk c).length from List.length_map .., take_all] at S4
          walk_at "dl"
          refine x_anyO 0 (by assumption) rfl ?_
          walk_at "dl"
          rw [any_some]
          refine x_if (fun h => ?_) (fun h => ?_)
          · walk_at "dl"
            refine x_appK 1 (by assumption) rfl (by walk_at "tm") (hz _ (hf _ i (by omega))) (by walk_at "set") fun H_ S_ => ?_
            walk_at "dl"
            rename Ds _ _ _ _ _ _ _ _ _ => S_
            exact Nx.at S_.drop (by walk_at "le") ⟨rfl, by rw [fil_succ, if_pos h, List.map_append]; rfl⟩
          · walk_at "dl"
            rename Ds _ _ _ _ _ _ _ _ _ => S_
            exact Nx.at S_.drop (by walk_at "le") ⟨rfl, by rw [fil_succ, if_neg (by rw [h]; decide), List.append_nil]⟩
      · rintro ρ1 u1 ⟨rfl, rfl⟩ σ1 H1 M1 S1
        rw [Int.toNat_natCast] at S1
        walk_at "dl"
        exact x_rO (by assumption) hq 0 rfl rfl
end
theorem pr_le : PySem.W.dataLe false prD = fun p q : Pr => decide (p.1 < q.1 ∨ (p.1 = q.1 ∧ p.2 ≤ q.2)) := PySem.W.dataLe_ii (fun p : Pr => p.1) fun p => p.2
theorem pairs_sorted {lk : List Lk} {r : Int} {b : Bool} : (pairsOf lk r b).Pairwise fun p q => p.1 < q.1 ∨ (p.1 = q.1 ∧ p.2 ≤ q.2) := by
  have tr : ∀ x y z : Pr, PySem.W.dataLe false prD x y = true → PySem.W.dataLe false prD y z = true → PySem.W.dataLe false prD x z = true := fun x y z a b => by
    rw [pr_le, decide_eq_true_iff] at *
    omega
  have to : ∀ x y : Pr, (PySem.W.dataLe false prD x y || PySem.W.dataLe false prD y x) = true := fun x y => by
    rw [pr_le, Bool.or_eq_true, decide_eq_true_iff, decide_eq_true_iff]
    omega
  have h := List.pairwise_mergeSort tr to ((rawPairs lk r).map (swp b))
  refine List.Pairwise.imp (fun {p q} z => ?_) h
  rw [pr_le] at z
  exact of_decide_eq_true z
/-- the first pair of the sorted ones with a property -/
theorem hd_sorted {l : List Pr} {p : Pr → Bool} {x : Pr} (h : l.Pairwise fun p q => p.1 < q.1 ∨ (p.1 = q.1 ∧ p.2 ≤ q.2)) (hx : x ∈ l) (hp : p x = true) (hm : ∀ y ∈ l, p y = true → x.1 < y.1 ∨ (x.1 = y.1 ∧ x.2 ≤ y.2)) : (l.filter p).head? = some x := by
  refine Pf.Gate.out ?_
  simp (disch := (with_unfolding_all (
      have h2 := h.filter p
      have hx2 : x ∈ l.filter p := List.mem_filter.mpr ⟨hx, hp⟩
      cases e : l.filter p with
      | nil => rw [e] at hx2; cases hx2
      | cons y r =>
        rw [e] at h2 hx2
        have hy : y ∈ l.filter p := e ▸ List.mem_cons_self ..
        have hy2 := List.mem_filter.mp hy
        have h3 := hm y hy2.1 hy2.2
        have h4 : x = y ∨ (y.1 < x.1 ∨ (y.1 = x.1 ∧ y.2 ≤ x.2)) := (List.mem_cons.mp hx2).imp id ((List.pairwise_cons.mp h2).1 x)
        rcases h4 with rfl | h4
        · rfl
        · have : x = y := Prod.ext (by omega) (by omega)
          rw [this]
          rfl
    ))) only [↓Pf.Gate.lem]
def badP (lk : List Lk) (r : Int) (b : Bool) (s : Int) (b' : Bool) (i j : Int) : Bool := lnk lk r b i j && !lnk lk s b' i j
theorem under_some {th : List (List Int)} {lk : List Lk} {os : List Int} {r : Int} {b : Bool} {s : Int} {b' : Bool} (hok : LkOk th.length lk) {i j : Int} (h : badP lk r b s b' i j = true) (hb : ∀ x y : Int, 0 ≤ x → 0 ≤ y → y < th.length → (x < i ∨ (x = i ∧ y < j)) → badP lk r b s b' x y = false) : faultOf th lk os (.under r b s b') = some [i, j] := by
  refine Pf.Gate.out ?_
  simp (disch := (with_unfolding_all (
      have h1 := Bool.and_eq_true_iff.mp h
      have e := hd_sorted (l := pairsOf lk r b) (p := fun p => !lnk lk s b' p.1 p.2) (x := (i, j)) pairs_sorted (pairs_mem.mpr h1.1) h1.2 fun y hy hp => by
        have o := pairs_ok hok hy
        by_cases q : y.1 < i ∨ (y.1 = i ∧ y.2 < j)
        · have := hb y.1 y.2 o.1.1 o.2.1 o.2.2 q
          unfold badP at this
          rw [pairs_mem.mp hy, hp] at this
          cases this
        · show i < y.1 ∨ (i = y.1 ∧ j ≤ y.2)
          omega
      show Option.map _ (List.head? _) = _
      rw [e]
      rfl
    ))) only [↓Pf.Gate.lem]
theorem under_none {th : List (List Int)} {lk : List Lk} {os : List Int} {r : Int} {b : Bool} {s : Int} {b' : Bool} (hok : LkOk th.length lk) (hb : ∀ x y : Int, 0 ≤ x → x < th.length → 0 ≤ y → y < th.length → badP lk r b s b' x y = false) : faultOf th lk os (.under r b s b') = none := by
  have e : (pairsOf lk r b).filter (fun p => !lnk lk s b' p.1 p.2) = [] := List.filter_eq_nil_iff.mpr fun y hy hp => by
    have o := pairs_ok hok hy
    have := hb y.1 y.2 o.1.1 o.1.2 o.2.1 o.2.2
    unfold badP at this
    rw [pairs_mem.mp hy, hp] at this
    cases this
  show Option.map _ (List.head? _) = none
  rw [e]
  rfl
section
variable {P : Program} {w : World} {K : PySem.W.Frag} {mg : Str → Option Value} {base : Heap}
def pLawFault (n : Nat) : Pre := fun ss u post => ∃ (th : List (List Int)) (lk : List Lk) (os : List Int) (p : Pt), ss = [.d (modD th lk os), .d p.D] ∧ u = [] ∧ p.In n os.length ∧ (th.length ≤ 1000 ∧ LkOk th.length lk) ∧ (∀ o ∈ os, 0 ≤ o ∧ o < th.length) ∧ post = pD fun x => x = optD (faultOf th lk os p)
theorem c_law_fault {n : Nat} {f : Addr} {fd : FuncData} (D : Df K mg "_law_fault" s_law_fault f fd ["model", "part"]) (c_law_linked : Cl P w K mg base 1 "_law_linked" (spG K pLawLinked)) (c_law_inside : Cl P w K mg base (n + 2) "_law_inside" (spG K (pLawInside n))) (z_len : mg "len" = none) (z_range : mg "range" = none) : Cl P w K mg base (n + 3) "_law_fault" (spG K (pLawFault n)) := by
  refine Pf.Gate.out ?_
  simp (disch := (with_unfolding_all (
      have c_law_linked := c_law_linked.mono (j := n + 2) (by omega)
      refine D.go sc_law_fault (pLawFault n) (fun ss u post h => by repeat (first | (obtain ⟨rfl, _⟩ := h; rfl) | obtain ⟨_, h⟩ := h)) fun cdv A outer s H M vs Q E ss u post hr hp S hq => ?_
      obtain ⟨th, lk, os, p, rfl, rfl, hin, ⟨hth, hok⟩, hos, rfl⟩ := hp
      refine ⟨_, (pss_cons (ps_set (i := 2) sc_law_fault.nd rfl (.inl rfl) (pe_callB (lenQ (K := K)) (by rfl) z_len PySem.boot_len (pa_cons (pe_ix (ixT (K := K)) (pv 0) pe_int (fun _ _ => rfl)) pa_nil)))
          (pss_cons (ps_if (pt_cmpR op_eq (pe_ix (ixT (K := K)) (pv 1) pe_int (fun _ _ => rfl)) pe_str (nomark _)) (pss_cons (ps_set (i := 3) sc_law_fault.nd rfl (.inr rfl) (pc c_law_inside hr (by first | decide | omega) (by rfl) (pa_cons (pv 0) (pa_cons (pe_ix (ixT (K := K)) (pv 1) pe_int (fun _ _ => rfl)) pa_nil))))
          (pss_cons (ps_setLc (i := 4) (own := [("thing", 7)]) (g := gName 7) (by rfl) sc_law_fault.nd rfl rfl (sw_true rfl rfl rfl (by decide +kernel)) (kIL (K := K) (pi_list (pc c_law_inside hr (by first | decide | omega) (by rfl) (pa_cons (pv 0) (pa_cons (pe_ix (ixT (K := K)) (pv 1) pe_int (fun _ _ => rfl)) pa_nil))))) (blkOk_by (own := [("thing", 7)]) (N := ["model", "part", "many", "inner", "outside", "first", "second", "thing"]) (sc := defScope s_law_fault) (by decide +kernel)) (fun _ _ _ _ _ => pg_name (i := 7) sc_law_fault.nd rfl (.inl rfl)) (fun _ _ _ _ _ => (pts_one (pt_cmpR (notInD (K := K)) (pv 7) (pv 3) rfl))) (fun _ _ _ _ _ => (pv 7)))
          (pss_cons (ps_if (kTru (K := K) (pt_truth (pv 4) (by intro _; rfl))) (pss_one (ps_ret (pe_tup (pa_cons (pe_ix (ixL (K := K)) (pv 4) pe_int (fun _ _ => rfl)) pa_nil)))) pss_nil)
          (pss_one (ps_ret pe_non))))) pss_nil)
          (pss_cons (ps_if (pt_cmpR op_eq (pe_ix (ixT (K := K)) (pv 1) pe_int (fun _ _ => rfl)) pe_str (nomark _)) (pss_cons (ps_for PassesOwn.never rfl (pi_range1 (by rfl) z_range (pa_cons (pv 2) pa_nil)) (pg_name (i := 5) sc_law_fault.nd rfl (.inl rfl)) (pss_one (ps_for PassesOwn.never rfl (pi_range1 (by rfl) z_range (pa_cons (pv 2) pa_nil)) (pg_name (i := 6) sc_law_fault.nd rfl (.inl rfl)) (pss_one (ps_if (PW.pt (pw_and (pt_val (pc c_law_linked hr (by first | decide | omega) (by rfl) (pa_cons (pv 0) (pa_cons (pe_ix (ixT (K := K)) (pv 1) pe_int (fun _ _ => rfl)) (pa_cons (pv 5) (pa_cons (pv 6) pa_nil)))))) (pw_and1 (pt_not (pt_val (pc c_law_linked hr (by first | decide | omega) (by rfl) (pa_cons (pv 0) (pa_cons (pe_ix (ixT (K := K)) (pv 1) pe_int (fun _ _ => rfl)) (pa_cons (pv 5) (pa_cons (pv 6) pa_nil)))))))))) (pss_one (ps_ret (pe_tup (pa_cons (pv 5) (pa_cons (pv 6) pa_nil))))) pss_nil)))))
          (pss_one (ps_ret pe_non))) pss_nil)
          (pss_cons (ps_set (i := 5) sc_law_fault.nd rfl (.inl rfl) (pe_ix (ixT (K := K)) (pe_ix (ixT (K := K)) (pv 0) pe_int (fun _ _ => rfl)) (pe_ix (ixT (K := K)) (pv 1) pe_int (fun _ _ => rfl)) (fun _ _ => rfl)))
          (pss_cons (ps_if (pt_cmpR op_eq (pe_ix (ixT (K := K)) (pv 1) pe_int (fun _ _ => rfl)) pe_str (nomark _)) (pss_cons (ps_if (pt_cmpR (inD (K := K)) (pv 5) (pc c_law_inside hr (by first | decide | omega) (by rfl) (pa_cons (pv 0) (pa_cons (pe_ix (ixT (K := K)) (pv 1) pe_int (fun _ _ => rfl)) pa_nil))) rfl) (pss_one (ps_ret pe_non)) pss_nil)
          (pss_one (ps_ret (pe_tup (pa_cons (pv 5) pa_nil))))) pss_nil)
          (pss_cons (ps_if (pt_val (pc c_law_linked hr (by first | decide | omega) (by rfl) (pa_cons (pv 0) (pa_cons (pe_tup (pa_cons (pe_ix (ixT (K := K)) (pv 1) pe_int (fun _ _ => rfl)) (pa_cons pe_bl pa_nil))) (pa_cons (pv 5) (pa_cons (pe_ix (ixT (K := K)) (pe_ix (ixT (K := K)) (pv 0) pe_int (fun _ _ => rfl)) (pe_ix (ixT (K := K)) (pv 1) pe_int (fun _ _ => rfl)) (fun _ _ => rfl)) pa_nil)))))) (pss_one (ps_ret pe_non)) pss_nil)
          (pss_one (ps_ret (pe_tup (pa_cons (pv 5) (pa_cons (pe_ix (ixT (K := K)) (pe_ix (ixT (K := K)) (pv 0) pe_int (fun _ _ => rfl)) (pe_ix (ixT (K := K)) (pv 1) pe_int (fun _ _ => rfl)) (fun _ _ => rfl)) pa_nil))))))))))), ?_⟩
      walk_at "in"
      have hL : (List.map isD th).length = th.length := List.length_map ..
      cases p with
      | below c d =>
        have hz : ∀ (l : List Int), l.length ≤ th.length → (l.map PyData.int).length < sizeLine := fun l h => by rw [List.length_map]; exact Nat.lt_of_lt_of_le (by omega : _ < 1001) (by decide)
        have hl3 : (insOf th lk c).length ≤ th.length := by
          have := List.length_filter_le (sat th lk c) (rng th.length)
          rw [rng_len] at this
          exact this
        rename Ds _ _ _ _ _ _ _ _ _ => S_
        simp only [Pt.D] at S_
        walk_at "dl"
        refine x_cO (by assumption) (by walk_at "slt") ⟨th, lk, os, d, rfl, rfl, hin.2, hth, rfl⟩ ?_
        rintro _ rfl a2 H_ M_ S_
        walk_at "dl"
        refine x_cO (by assumption) (by walk_at "slt") ⟨th, lk, os, c, rfl, rfl, hin.1, hth, rfl⟩ ?_
        rintro _ rfl a3 H_ M_ S_
        walk_at "dl"
        rename Ds _ _ _ _ _ _ _ _ _ => S_
        obtain ⟨M_, S_⟩ := S_.freeze List.not_mem_nil
        refine x_lc1L (k := 7) (fun i acc w1 => acc = (((insOf th lk c).take i).filter (sat th lk (.not d))).map .int ∧ w1 = [(a2, .lst ((insOf th lk d).map .int))]) (by assumption) (by walk_at "tm") ⟨rfl, rfl⟩ ?_ ?_
        · rintro i e acc w1 hi ⟨rfl, rfl⟩ D4 σ4 H4 M4 hrw S4
          obtain ⟨x, hx, rfl⟩ := map_at hi
          have him := ins_mem.mp (List.mem_of_getElem? hx)
          have e : sat th lk (.not d) x = !decide (x ∈ insOf th lk d) := by
            show (!sat th lk d x) = _
            rw [ins_dec him.1.1 him.1.2]
          have hz2 : ((((insOf th lk c).take i).filter (sat th lk (.not d))).map PyData.int).length < sizeLine := hz _ (by
            have h1 := List.length_filter_le (sat th lk (.not d)) ((insOf th lk c).take i)
            have h2 : ((insOf th lk c).take i).length ≤ (insOf th lk c).length := by rw [List.length_take]; omega
            omega)
          rename Ds _ _ _ _ _ _ _ _ _ => S_
          simp only [List.set_cons_succ, List.set_cons_zero] at S_
          walk_at "dl"
          refine x_if (fun h => ?_) (fun h => ?_)
          · walk_at "dl"
            exact x_lcA (by assumption) (by assumption) (by walk_at "tm") hz2 ⟨by rw [take_snoc hx, List.filter_append, fil_t (e.trans h), List.map_append]; rfl, rfl⟩
          · walk_at "dl"
            exact x_lcN (by assumption) (by assumption) ⟨by rw [take_snoc hx, List.filter_append, fil_f (e.trans h), List.append_nil], rfl⟩
        · rintro acc w1 ⟨rfl, rfl⟩ D4 H4 M4 S4
          rw [show ((insOf th lk c).map PyData.int).length = (insOf th lk c).length from List.length_map .., take_all] at S4
          have ef : faultOf th lk os (.below c d) = ((insOf th lk c).filter (sat th lk (.not d))).head?.map fun i => [i] := rfl
          generalize (insOf th lk c).filter (sat th lk (.not d)) = l at S4 ef
          rw [ef] at hq
          clear ef
          cases l with
          | nil =>
            walk_at "dl"
            exact x_rD (by assumption) hq (by walk_at "tm") rfl
          | cons x r =>
            walk_at "dl"
            refine x_ifT rfl ?_
            walk_at "dl"
            refine x_ixO 0 (by assumption) rfl (d := .int x) (at_nat (f := PyData.int) (xs := x :: r) (i := 0) (x := x) rfl) ?_
            walk_at "dl"
            exact x_rD (by assumption) hq (by walk_at "tm") rfl
      | under r b s b' =>
        rename Ds _ _ _ _ _ _ _ _ _ => S_
        simp only [Pt.D] at S_
        walk_at "dl"
        rename Ds _ _ _ _ _ _ _ _ _ => S_
        rw [hL] at S_ ⊢
        refine x_forR (fun i ρ u => ρ.length = 8 ∧ ρ[0]? = some (.d (modD th lk os)) ∧ ρ = [.d (modD th lk os), .d (.tuple [sK "under", roD r b, roD s b']), .d (.int th.length), .u, .u, .u, .u, .u] ∧ u = [] ∧ ∀ x y : Int, 0 ≤ x → x < i → 0 ≤ y → y < th.length → badP lk r b s b' x y = false) (by assumption) (by omega) (by omega) ⟨rfl, rfl, rfl, rfl, fun x y h1 h2 => by omega⟩ ?_ ?_
        · rintro i ρ1 u1 hi ⟨_, _, rfl, rfl, hb⟩ σ1 H1 M1 S1
          rw [Int.toNat_natCast] at hi
          walk_at "dl"
          refine x_forR (fun j ρ u => ρ = [.d (modD th lk os), .d (.tuple [sK "under", roD r b, roD s b']), .d (.int th.length), .u, .u, .d (.int i), .u, .u] ∧ u = [] ∧ ∀ y : Int, 0 ≤ y → y < j → badP lk r b s b' i y = false) (by assumption) (by omega) (by omega) ⟨rfl, rfl, fun y h1 h2 => by omega⟩ ?_ ?_
          · rintro j ρ2 u2 hj ⟨rfl, rfl, hb2⟩ σ2 H2 M2 S2
            rw [Int.toNat_natCast] at hj
            walk_at "dl"
            refine x_cD (by assumption) (by walk_at "slt") ⟨th, lk, os, r, b, i, j, rfl, rfl, rfl⟩ ?_
            rintro _ rfl H_ M_ S_
            walk_at "dl"
            have done : badP lk r b s b' i j = false → ∀ y : Int, 0 ≤ y → y < ((j + 1 : Nat) : Int) → badP lk r b s b' i y = false := fun z y y1 y2 => by
              by_cases q : y = j
              · rw [q]
                exact z
              · exact hb2 y y1 (by omega)
            refine x_if (fun h => ?_) (fun h => ?_)
            · walk_at "dl"
              refine x_cD (by assumption) (by walk_at "slt") ⟨th, lk, os, s, b', i, j, rfl, rfl, rfl⟩ ?_
              rintro _ rfl H_ M_ S_
              walk_at "dl"
              refine x_if (fun h' => ?_) (fun h' => ?_)
              · walk_at "dl"
                exact x_rD (by assumption) hq (by walk_at "tm") (by show isD [(i : Int), (j : Int)] = optD _; rw [under_some hok (i := i) (j := j) (by unfold badP; rw [h, h']; rfl) fun x y x0 y0 y1 z => z.elim (fun z => hb x y x0 z y0 y1) fun z => by rw [z.1]; exact hb2 y y0 z.2]; rfl)
              · walk_at "dl"
                exact Nx.at (by assumption) (by walk_at "le") ⟨rfl, rfl, done (by unfold badP; rw [h', Bool.and_false])⟩
            · walk_at "dl"
              exact Nx.at (by assumption) (by walk_at "le") ⟨rfl, rfl, done (by unfold badP; rw [h, Bool.false_and])⟩
          · rintro ρ2 u2 ⟨rfl, rfl, hb2⟩ σ2 H2 M2 S2
            rw [Int.toNat_natCast] at hb2
            walk_at "dl"
            exact Nx.at (by assumption) (by walk_at "le") ⟨rfl, rfl, rfl, rfl, fun x y x0 x1 y0 y1 => by
              by_cases q : x = i
              · rw [q]
                exact hb2 y y0 y1
              · exact hb x y x0 (by omega) y0 y1⟩
        · rintro ρ1 u1 ⟨_, _, rfl, rfl, hb⟩ σ1 H1 M1 S1
          rw [Int.toNat_natCast] at hb
          walk_at "dl"
          exact x_rD (by assumption) hq (by walk_at "tm") (by show PyData.none = optD _; rw [under_none hok fun x y x0 x1 y0 y1 => hb x y x0 x1 y0 y1]; rfl)
      | is a c =>
        have ho := hos _ (ones_in hin.1)
        rename Ds _ _ _ _ _ _ _ _ _ => S_
        simp only [Pt.D] at S_
        walk_at "dl"
        refine x_ixT (by assumption) (by walk_at "tm") (ones_at hin.1) ?_
        walk_at "dl"
        refine x_cO (by assumption) (by walk_at "slt") ⟨th, lk, os, c, rfl, rfl, hin.2, hth, rfl⟩ ?_
        rintro _ rfl a2 H_ M_ S_
        walk_at "dl"
        refine x_if (fun h => ?_) (fun h => ?_)
        · walk_at "dl"
          exact x_rD (by assumption) hq (by walk_at "tm") (by show PyData.none = optD _; rw [faultOf, if_pos ((ins_dec ho.1 ho.2).trans h)]; rfl)
        · walk_at "dl"
          exact x_rD (by assumption) hq (by walk_at "tm") (by show isD [oneAt os a] = optD _; rw [faultOf, if_neg (by rw [(ins_dec ho.1 ho.2).trans h]; decide)]; rfl)
      | has a m b =>
        rename Ds _ _ _ _ _ _ _ _ _ => S_
        simp only [Pt.D] at S_
        walk_at "dl"
        refine x_ixT (by assumption) (by walk_at "tm") (ones_at hin.1) ?_
        walk_at "dl"
        refine x_ixT (by assumption) (by walk_at "tm") (ones_at hin.2) ?_
        walk_at "dl"
        refine x_cD (by assumption) (by walk_at "slt") ⟨th, lk, os, m, false, oneAt os a, oneAt os b, rfl, rfl, rfl⟩ ?_
        rintro _ rfl H_ M_ S_
        walk_at "dl"
        refine x_if (fun h => ?_) (fun h => ?_)
        · walk_at "dl"
          exact x_rD (by assumption) hq (by walk_at "tm") (by show PyData.none = optD _; rw [faultOf, if_pos h]; rfl)
        · walk_at "dl"
          refine x_ixT (by assumption) (by walk_at "tm") (ones_at hin.2) ?_
          walk_at "dl"
          exact x_rD (by assumption) hq (by walk_at "tm") (by show isD [oneAt os a, oneAt os b] = optD _; rw [faultOf, if_neg (by rw [h]; decide)]; rfl)
      | never => exact hin.elim
    ))) only [↓Pf.Gate.lem]
end
section
variable {P : Program} {w : World} {K : PySem.W.Frag} {mg : Str → Option Value} {base : Heap}
theorem atI_ints {ns : List Int} {k : Int} (h0 : 0 ≤ k) (h : k < ns.length) : ∃ c : Int, atI (ns.map PyData.int) k = some (.int c) := by
  have hk : k.toNat < ns.length := by omega
  have ek : k = ((k.toNat : Nat) : Int) := by omega
  have q : atI (ns.map PyData.int) ((k.toNat : Nat) : Int) = some (.int ns[k.toNat]) := atI_nat (by rw [List.getElem?_map, List.getElem?_eq_getElem hk] <;> rfl)
  rw [← ek] at q
  exact ⟨_, q⟩
/-- _law_cell: some int -/
def pCell : Pre := fun ss u post => ∃ (ns : List Int) (k : Int), ss = [.d (.list (ns.map .int)), .d (.int k)] ∧ u = [] ∧ 0 ≤ k ∧ post = pD fun d => ∃ c : Int, d = .int c
theorem c_law_cell {f : Addr} {fd : FuncData} (D : Df K mg "_law_cell" s_law_cell f fd ["script", "k"]) (z_len : mg "len" = none) : Cl P w K mg base 1 "_law_cell" (spG K pCell) := by
  refine Pf.Gate.out ?_
  simp (disch := (with_unfolding_all (
      refine D.go sc_law_cell pCell (fun ss u post h => by obtain ⟨ns, k, rfl, _⟩ := h; rfl) fun cdv A outer s H M vs Q E ss u post hr hp S hq => ?_
      obtain ⟨ns, k, rfl, rfl, h0, rfl⟩ := hp
      refine ⟨_, (pss_cons (ps_if (pt_cmpR op_lt (pv 1) (pe_callB (lenQ (K := K)) (by rfl) z_len PySem.boot_len (pa_cons (pv 0) pa_nil)) (nomark _)) (pss_one (ps_ret (pe_ix (ixL (K := K)) (pv 0) (pv 1) (fun _ _ => rfl)))) pss_nil)
          (pss_one (ps_ret pe_int))), ?_⟩
      walk_at "in"
      walk_at "dl"
      refine x_if (fun c => ?_) (fun c => ?_)
      · have c := of_decide_eq_true c
        rw [List.length_map] at c
        obtain ⟨x, hx⟩ := atI_ints h0 c
        walk_at "dl"
        refine x_ixL (by assumption) (by walk_at "tm") hx ?_
        walk_at "dl"
        exact x_rD (by assumption) hq (.i _) ⟨x, rfl⟩
      · walk_at "dl"
        exact x_rD (by assumption) hq (.i _) ⟨0, rfl⟩
    ))) only [↓Pf.Gate.lem]
/-- _law_digits: a new list of ints -/
def pDigits : Pre := fun ss u post => ∃ c k : Int, ss = [.d (.int c), .d (.int k)] ∧ u = [] ∧ post = pO fun od => ∃ ns : List Int, od = .lst (ns.map .int)
theorem c_law_digits {f : Addr} {fd : FuncData} (D : Df K mg "_law_digits" s_law_digits f fd ["cell", "at"]) (z_int : mg "int" = none) (z_range : mg "range" = none) : Cl P w K mg base 1 "_law_digits" (spG K pDigits) := by
  refine Pf.Gate.out ?_
  simp (disch := (with_unfolding_all (
      refine D.go sc_law_digits pDigits (fun ss u post h => by obtain ⟨ns, k, rfl, _⟩ := h; rfl) fun cdv A outer s H M vs Q E ss u post hr hp S hq => ?_
      obtain ⟨c, k, rfl, rfl, rfl⟩ := hp
      refine ⟨_, (pss_cons (ps_set (i := 2) sc_law_digits.nd rfl (.inl rfl) (pe_lst pa_nil))
          (Evl.pss_cut (ps_if (pt_cmpR op_lt (pv 0) pe_int (nomark _)) (pss_one (ps_set (i := 0) sc_law_digits.nd rfl (.inl rfl) (pe_op op_sub pe_int (pe_op op_mul pe_int (pv 0))))) pss_nil)
          (Evl.pss_cut (ps_if (pt_cmpR op_ge (pv 0) (pe_op op_pow pe_int pe_int) (nomark _)) (pss_one (ps_for PassesOwn.never rfl (pi_range1 (by rfl) z_range (pa_cons pe_int pa_nil)) (pg_name (i := 3) sc_law_digits.nd rfl (.inl rfl)) (pss_one (ps_if (pt_cmpR op_gt (pv 0) pe_int (nomark _)) (pss_cons (ps_expr (kBM (K := K) (pe_bm PySem.F.plainAttrs_list PySem.F.slot_list_append PySem.F.type_list_append mt_append (pv 2) (pa_cons (pe_op op_mod (pe_callTy call_intD (by rfl) z_int (by decide +kernel) (pa_cons (pv 0) pa_nil)) pe_int) pa_nil))))
          (pss_one (ps_set (i := 0) sc_law_digits.nd rfl (.inl rfl) (pe_op op_fdiv (pv 0) pe_int)))) pss_nil)))) (pss_cons (ps_set (i := 4) sc_law_digits.nd rfl (.inl rfl) (pe_op op_mod (pe_callTy call_intD (by rfl) z_int (by decide +kernel) (pa_cons (pe_op op_add (pe_op op_add (pe_op op_mul (pv 0) pe_int) (pe_op op_mul (pv 1) pe_int)) pe_int) pa_nil)) pe_int))
          (pss_one (ps_for PassesOwn.never rfl (pi_range1 (by rfl) z_range (pa_cons pe_int pa_nil)) (pg_name (i := 3) sc_law_digits.nd rfl (.inl rfl)) (pss_cons (ps_set (i := 4) sc_law_digits.nd rfl (.inl rfl) (pe_op op_mod (pe_callTy call_intD (by rfl) z_int (by decide +kernel) (pa_cons (pe_op op_add (pe_op op_add (pe_op op_mul (pv 4) pe_int) (pe_op op_mul pe_int (pv 3))) pe_int) pa_nil)) pe_int))
          (pss_one (ps_expr (kBM (K := K) (pe_bm PySem.F.plainAttrs_list PySem.F.slot_list_append PySem.F.type_list_append mt_append (pv 2) (pa_cons (pe_op op_mod (pe_callTy call_intD (by rfl) z_int (by decide +kernel) (pa_cons (pe_op op_fdiv (pv 4) pe_int) pa_nil)) pe_int) pa_nil))))))))))
          (pss_one (ps_ret (pv 2)))))), ?_⟩
      walk_at "in"
      walk_at "dl"
      rename Addr => p
      refine x_cut (fun ρ u => (∃ c : Int, ρ = [.d (.int c), .d (.int k), .v (.ref p), .u, .u]) ∧ u = [(p, .lst [])]) (by assumption) ?_ ?_
      · walk_at "dl"
        refine x_if (fun c => ?_) (fun c => ?_)
        · walk_at "dl"
          exact Md.at (by assumption) (SlLe.refl _) ⟨⟨_, rfl⟩, rfl⟩
        · walk_at "dl"
          exact Md.at (by assumption) (SlLe.refl _) ⟨⟨_, rfl⟩, rfl⟩
      · rintro M1 σ1 H1 ρ1 u1 ⟨⟨c0, rfl⟩, rfl⟩ S1
        refine x_cut (fun ρ u => (∃ c : Int, ρ = [.d (.int c), .d (.int k), .v (.ref p), .u, .u]) ∧ ∃ ns : List Int, u = [(p, .lst (ns.map .int))]) (by assumption) ?_ ?_
        · walk_at "dl"
          refine x_if (fun c => ?_) (fun c => ?_)
          · walk_at "dl"
            refine x_forR (fun i ρ u => (∃ c : Int, ρ = [.d (.int c), .d (.int k), .v (.ref p), .u, .u]) ∧ ∃ ns : List Int, u = [(p, .lst (ns.map .int))] ∧ ns.length ≤ i) (by assumption) (by decide) (by decide) ⟨⟨_, rfl⟩, [], rfl, Nat.le_refl _⟩ ?_ ?_
            · rintro i ρ1 u1 hi ⟨⟨c, rfl⟩, ns, rfl, hn⟩ σ1 H1 M1 S1
              have hz : (ns.map PyData.int).length < sizeLine := by rw [List.length_map]; exact Nat.lt_of_le_of_lt hn (Nat.lt_trans hi (by decide))
              walk_at "dl"
              refine x_if (fun c => ?_) (fun c => ?_)
              · walk_at "dl"
                refine x_appK 0 (by assumption) rfl (by walk_at "tm") hz (by walk_at "set") fun H2 S2 => ?_
                walk_at "dl"
                refine Nx.at (by assumption) (by walk_at "le") ⟨⟨_, rfl⟩, ns ++ [_], own_snoc, ?_⟩
                rw [List.length_append]
                exact Nat.succ_le_succ hn
              · walk_at "dl"
                exact Nx.at (by assumption) (by walk_at "le") ⟨⟨_, rfl⟩, ns, rfl, Nat.le_succ_of_le hn⟩
            · rintro ρ1 u1 ⟨⟨c, rfl⟩, ns, rfl, hn⟩ σ1 H1 M1 S1
              exact Md.at S1 (SlLe.refl _) ⟨⟨_, rfl⟩, ns, rfl⟩
          · walk_at "dl"
            refine x_forR (fun i ρ u => (∃ x : Int, ρ = [.d (.int c0), .d (.int k), .v (.ref p), .u, .d (.int x)]) ∧ ∃ ns : List Int, u = [(p, .lst (ns.map .int))] ∧ ns.length ≤ i) (by assumption) (by decide) (by decide) ⟨⟨_, rfl⟩, [], rfl, Nat.le_refl _⟩ ?_ ?_
            · rintro i ρ1 u1 hi ⟨⟨x, rfl⟩, ns, rfl, hn⟩ σ1 H1 M1 S1
              have hz : (ns.map PyData.int).length < sizeLine := by rw [List.length_map]; exact Nat.lt_of_le_of_lt hn (Nat.lt_trans hi (by decide))
              walk_at "dl"
              refine x_appK 0 (by assumption) rfl (by walk_at "tm") hz (by walk_at "set") fun H2 S2 => ?_
              walk_at "dl"
              refine Nx.at (by assumption) (by walk_at "le") ⟨⟨_, rfl⟩, ns ++ [_], own_snoc, ?_⟩
              rw [List.length_append]
              exact Nat.succ_le_succ hn
            · rintro ρ1 u1 ⟨⟨x, rfl⟩, ns, rfl, hn⟩ σ1 H1 M1 S1
              exact Md.at S1 (by walk_at "le") ⟨⟨_, rfl⟩, ns, rfl⟩
        · rintro M2 σ2 H2 ρ2 u2 ⟨⟨c, rfl⟩, ns, rfl⟩ S2
          walk_at "dl"
          exact x_rO (by assumption) hq 0 rfl ⟨ns, rfl⟩
    ))) only [↓Pf.Gate.lem]
/-- _law_box: a new box of digits -/
def pBox : Pre := fun ss u post => ∃ (ns : List Int) (k : Int), ss = [.d (.list (ns.map .int)), .d (.int k)] ∧ u = [] ∧ 0 ≤ k ∧ post = pO fun od => od = .box
theorem c_law_box {f : Addr} {fd : FuncData} (D : Df K mg "_law_box" s_law_box f fd ["script", "at"]) (c_law_cell : Cl P w K mg base 1 "_law_cell" (spG K pCell)) (c_law_digits : Cl P w K mg base 1 "_law_digits" (spG K pDigits)) : Cl P w K mg base 2 "_law_box" (spG K pBox) := by
  refine Pf.Gate.out ?_
  simp (disch := (with_unfolding_all (
      refine D.go sc_law_box pBox (fun ss u post h => by obtain ⟨ns, k, rfl, _⟩ := h; rfl) fun cdv A outer s H M vs Q E ss u post hr hp S hq => ?_
      obtain ⟨ns, k, rfl, rfl, h0, rfl⟩ := hp
      refine ⟨_, (pss_one (ps_ret (pe_lst (pa_cons (pc c_law_digits hr (by first | decide | omega) (by rfl) (pa_cons (pc c_law_cell hr (by first | decide | omega) (by rfl) (pa_cons (pv 0) (pa_cons (pv 1) pa_nil))) (pa_cons (pv 1) pa_nil))) (pa_cons pe_int pa_nil))))), ?_⟩
      walk_at "in"
      walk_at "dl"
      refine x_cD (by assumption) (by walk_at "slt") ⟨ns, k, rfl, rfl, h0, rfl⟩ ?_
      rintro _ ⟨c, rfl⟩ H1 M1 S1
      walk_at "dl"
      refine x_cO (by assumption) (by walk_at "slt") ⟨c, k, rfl, rfl, rfl⟩ ?_
      rintro _ ⟨ds, rfl⟩ p H2 M2 S2
      walk_at "dl"
      refine x_lstBox (by assumption) List.not_mem_nil (Int.le_refl _) fun b H3 M3 S3 => ?_
      exact x_rO (by assumption) hq 0 rfl rfl
    ))) only [↓Pf.Gate.lem]
/-- _law_draw: an int below many -/
def pDraw : Pre := fun ss u post => ∃ (b : Addr) (m : Int), ss = [.v (.ref b), .d (.int m)] ∧ u = [(b, .box)] ∧ 0 < m ∧ post = pD1 b fun d od => od = .box ∧ ∃ x : Int, d = .int x ∧ 0 ≤ x ∧ x < m
theorem c_law_draw {f : Addr} {fd : FuncData} (D : Df K mg "_law_draw" s_law_draw f fd ["box", "many"]) (z_len : mg "len" = none) (z_int : mg "int" = none) : Cl P w K mg base 1 "_law_draw" (spG K pDraw) := by
  refine Pf.Gate.out ?_
  simp (disch := (with_unfolding_all (
      refine D.go sc_law_draw pDraw (fun ss u post h => by obtain ⟨ns, k, rfl, _⟩ := h; rfl) fun cdv A outer s H M vs Q E ss u post hr hp S hq => ?_
      obtain ⟨b, m, rfl, rfl, h0, rfl⟩ := hp
      refine ⟨_, (pss_cons (ps_set (i := 2) sc_law_draw.nd rfl (.inl rfl) (pe_ix (ixL (K := K)) (pv 0) pe_int (fun _ _ => rfl)))
          (pss_cons (ps_asg (pe_op op_add (pv 2) pe_int) (pg_sub (pv 0) pe_int set_list))
          (pss_cons (ps_if (pt_cmpR op_lt (pv 2) (pe_callB (lenQ (K := K)) (by rfl) z_len PySem.boot_len (pa_cons (pe_ix (ixL (K := K)) (pv 0) pe_int (fun _ _ => rfl)) pa_nil)) (nomark _)) (pss_one (ps_ret (pe_op op_mod (pe_callTy call_intD (by rfl) z_int (by decide +kernel) (pa_cons (pe_ix (ixL (K := K)) (pe_ix (ixL (K := K)) (pv 0) pe_int (fun _ _ => rfl)) (pv 2) (fun _ _ => rfl)) pa_nil)) (pv 1)))) pss_nil)
          (pss_one (ps_ret pe_int))))), ?_⟩
      walk_at "in"
      refine x_open 0 (by assumption) rfl fun p ns i w' hi hw S1 => ?_
      cases hw
      walk_at "dl"
      have k1 : 0 ≤ i + 1 := by omega
      refine x_if (fun c => ?_) (fun c => ?_)
      · have c := of_decide_eq_true c
        rw [List.length_map] at c
        obtain ⟨x, hx⟩ := atI_ints hi c
        walk_at "dl"
        refine x_ixL (by assumption) (by walk_at "tm") hx ?_
        walk_at "dl"
        rename Ds _ _ _ _ _ _ _ _ _ => S2
        refine x_r1 (S2.close (j := 0) rfl k1 (ns := ns) (by walk_at "tm")) hq (.i _) 0 rfl ⟨rfl, _, rfl, Int.emod_nonneg _ (by omega), Int.emod_lt_of_pos _ h0⟩
      · walk_at "dl"
        rename Ds _ _ _ _ _ _ _ _ _ => S2
        refine x_r1 (S2.close (j := 0) rfl k1 (ns := ns) (by walk_at "tm")) hq (.i _) 0 rfl ⟨rfl, _, rfl, Int.le_refl _, h0⟩
    ))) only [↓Pf.Gate.lem]
end
section
variable {P : Program} {w : World} {K : PySem.W.Frag} {mg : Str → Option Value} {base : Heap}
def pSubset : Pre := fun ss u post => ∃ c m : Int, ss = [.d (.int c), .d (.int m)] ∧ u = [] ∧ 0 ≤ m ∧ m ≤ 1000000 ∧ post = pD fun d => ∃ ns : List Int, d = .tuple (ns.map .int) ∧ ns.Pairwise (· < ·) ∧ ∀ x ∈ ns, 0 ≤ x ∧ x < m
theorem c_law_subset {f : Addr} {fd : FuncData} (D : Df K mg "_law_subset" s_law_subset f fd ["cell", "many"]) (z_int : mg "int" = none) (z_range : mg "range" = none) (z_tuple : mg "tuple" = none) : Cl P w K mg base 1 "_law_subset" (spG K pSubset) := by
  refine Pf.Gate.out ?_
  simp (disch := (with_unfolding_all (
      refine D.go sc_law_subset (pSubset) (fun ss u post h => by repeat (first | (obtain ⟨rfl, _⟩ := h; rfl) | obtain ⟨_, h⟩ := h)) fun cdv A outer s H M vs Q E ss u post hr hp S hq => ?_
      obtain ⟨c, m, rfl, rfl, h0, h1, rfl⟩ := hp
      refine ⟨_, (pss_cons (ps_set (i := 2) sc_law_subset.nd rfl (.inl rfl) (pe_lst pa_nil))
          (Evl.pss_cut (ps_if (pt_cmpR op_lt (pv 0) pe_int (nomark _)) (pss_one (ps_set (i := 0) sc_law_subset.nd rfl (.inl rfl) (pe_op op_sub (pe_un un_neg pe_int) (pv 0)))) pss_nil)
          (pss_cons (ps_for PassesOwn.never rfl (pi_range1 (by rfl) z_range (pa_cons (pv 1) pa_nil)) (pg_name (i := 3) sc_law_subset.nd rfl (.inl rfl)) (Evl.pss_cut (ps_if (pt_cmpR op_eq (pe_op op_mod (pe_callTy call_intD (by rfl) z_int (by decide +kernel) (pa_cons (pv 0) pa_nil)) pe_int) pe_int (nomark _)) (pss_one (ps_expr (kBM (K := K) (pe_bm PySem.F.plainAttrs_list PySem.F.slot_list_append PySem.F.type_list_append mt_append (pv 2) (pa_cons (pv 3) pa_nil))))) pss_nil)
          (pss_one (ps_set (i := 0) sc_law_subset.nd rfl (.inl rfl) (pe_op op_fdiv (pv 0) pe_int)))))
          (pss_one (ps_ret (pe_callTy (call_tupD (K := K)) (by rfl) z_tuple (by decide +kernel) (pa_cons (pv 2) pa_nil))))))), ?_⟩
      walk_at "in"
      walk_at "dl"
      rename Addr => p
      refine x_cut (fun ρ u => (∃ c : Int, ρ = [.d (.int c), .d (.int m), .v (.ref p), .u]) ∧ u = [(p, .lst [])]) (by assumption) ?_ ?_
      · walk_at "dl"
        refine x_if (fun h => ?_) (fun h => ?_)
        · walk_at "dl"
          exact Md.at (by assumption) (by walk_at "le") ⟨⟨_, rfl⟩, rfl⟩
        · walk_at "dl"
          exact Md.at (by assumption) (by walk_at "le") ⟨⟨_, rfl⟩, rfl⟩
      · rintro M1 σ1 H1 ρ1 u1 ⟨⟨c, rfl⟩, rfl⟩ S1
        walk_at "dl"
        refine x_forR (fun i ρ u => (∃ c : Int, ρ = [.d (.int c), .d (.int m), .v (.ref p), .u]) ∧ ∃ ns : List Int, u = [(p, .lst (ns.map .int))] ∧ ns.length ≤ i ∧ ns.Pairwise (· < ·) ∧ ∀ x ∈ ns, 0 ≤ x ∧ x < i) (by assumption) (by omega) (by omega) ⟨⟨_, rfl⟩, [], rfl, Nat.le_refl _, .nil, (fun _ h => nomatch h)⟩ ?_ ?_
        · rintro i ρ1 u1 hi ⟨⟨c, rfl⟩, ns, rfl, hn, hp, hb⟩ σ1 H1 M1 S1
          have hz : (ns.map PyData.int).length < sizeLine := by rw [List.length_map]; exact Nat.lt_of_lt_of_le (by omega : ns.length < 1000001) (by decide)
          walk_at "dl"
          refine x_cut (fun ρ u => ρ = [.d (.int c), .d (.int m), .v (.ref p), .d (.int i)] ∧ ∃ ns : List Int, u = [(p, .lst (ns.map .int))] ∧ ns.length ≤ i + 1 ∧ ns.Pairwise (· < ·) ∧ ∀ x ∈ ns, 0 ≤ x ∧ x < ((i + 1 : Nat) : Int)) (by assumption) ?_ ?_
          · walk_at "dl"
            refine x_if (fun h => ?_) (fun h => ?_)
            · walk_at "dl"
              refine x_appK 0 (by assumption) rfl (by walk_at "tm") hz (by walk_at "set") fun H_ S_ => ?_
              walk_at "dl"
              refine Md.at (by assumption) (by walk_at "le") ⟨rfl, ns ++ [(i : Int)], own_snoc, ?_, ?_, ?_⟩
              · rw [List.length_append]
                exact Nat.succ_le_succ hn
              · rw [List.pairwise_append]
                refine ⟨hp, List.pairwise_singleton _ _, fun a ha b hb' => ?_⟩
                rw [List.mem_singleton.mp hb']
                exact (hb a ha).2
              · intro x hx
                rcases List.mem_append.mp hx with hx | hx
                · have := hb x hx
                  omega
                · rw [List.mem_singleton.mp hx]
                  omega
            · walk_at "dl"
              refine Md.at (by assumption) (by walk_at "le") ⟨rfl, ns, rfl, by omega, hp, fun x hx => ?_⟩
              have := hb x hx
              omega
          · rintro M2 σ2 H2 ρ2 u2 ⟨rfl, ns, rfl, hn, hp, hb⟩ S2
            walk_at "dl"
            exact Nx.at (by assumption) (by walk_at "le") ⟨⟨_, rfl⟩, ns, rfl, hn, hp, hb⟩
        · rintro ρ1 u1 ⟨⟨c, rfl⟩, ns, rfl, hn, hp, hb⟩ σ1 H1 M1 S1
          walk_at "dl"
          exact x_rD (by assumption) hq (by walk_at "tm") ⟨ns, rfl, hp, fun x hx => by have := hb x hx; omega⟩
    ))) only [↓Pf.Gate.lem]
end
structure MdOk (s0 s1 s2 : Int) (m : Nat) (th : List (List Int)) (lk : List Lk) (os : List Int) : Prop where
  h0 : 1 ≤ th.length
  h1 : th.length ≤ m
  hk : LkOk th.length lk
  hl : lk.length ≤ s1.toNat * (th.length * th.length)
  ho : (os.length : Int) = s2
  ht : ∀ o ∈ os, 0 ≤ o ∧ o < th.length
  hr : ∀ l ∈ lk, 0 ≤ l.1 ∧ l.1 < s1
  nm : ∀ x ∈ th, x.Pairwise (· < ·) ∧ ∀ n ∈ x, 0 ≤ n ∧ n < s0
  nd : lk.Nodup
section
variable {P : Program} {w : World} {K : PySem.W.Frag} {mg : Str → Option Value} {base : Heap}
def pLawModel : Pre := fun ss u post => ∃ (b : Addr) (s0 s1 s2 m : Int), ss = [.v (.ref b), .d (szD s0 s1 s2), .d (.int m)] ∧ u = [(b, .box)] ∧ (0 < m ∧ m ≤ 20) ∧ (0 ≤ s0 ∧ s0 ≤ 100) ∧ (0 ≤ s1 ∧ s1 ≤ 10) ∧ (0 ≤ s2 ∧ s2 ≤ 10) ∧ post = pD1 b fun d od => od = .box ∧ ∃ th lk os, d = modD th lk os ∧ MdOk s0 s1 s2 m.toNat th lk os
theorem c_law_model {f : Addr} {fd : FuncData} (D : Df K mg "_law_model" s_law_model f fd ["box", "sizes", "most"]) (c_law_draw : Cl P w K mg base 1 "_law_draw" (spG K pDraw)) (c_law_subset : Cl P w K mg base 1 "_law_subset" (spG K pSubset)) (z_range : mg "range" = none) (z_int : mg "int" = none) (z_tuple : mg "tuple" = none) : Cl P w K mg base 2 "_law_model" (spG K pLawModel) := by
  refine Pf.Gate.out ?_
  simp (disch := (with_unfolding_all (
      refine D.go sc_law_model (pLawModel) (fun ss u post h => by repeat (first | (obtain ⟨rfl, _⟩ := h; rfl) | obtain ⟨_, h⟩ := h)) fun cdv A outer s H M vs Q E ss u post hr hp S hq => ?_
      obtain ⟨b, s0, s1, s2, m, rfl, rfl, ⟨hm0, hm1⟩, ⟨hs00, hs01⟩, ⟨hs10, hs11⟩, ⟨hs20, hs21⟩, rfl⟩ := hp
      refine ⟨_, (pss_cons (ps_set (i := 3) sc_law_model.nd rfl (.inr rfl) (pe_op op_add pe_int (pc c_law_draw hr (by first | decide | omega) (by rfl) (pa_cons (pv 0) (pa_cons (pv 2) pa_nil)))))
          (pss_cons (ps_set (i := 4) sc_law_model.nd rfl (.inl rfl) (pe_lst pa_nil))
          (pss_cons (ps_for PassesOwn.never rfl (pi_range1 (by rfl) z_range (pa_cons (pv 3) pa_nil)) (pg_name (i := 5) sc_law_model.nd rfl (.inl rfl)) (pss_one (ps_expr (kBM (K := K) (pe_bm PySem.F.plainAttrs_list PySem.F.slot_list_append PySem.F.type_list_append mt_append (pv 4) (pa_cons (pc c_law_subset hr (by first | decide | omega) (by rfl) (pa_cons (pc c_law_draw hr (by first | decide | omega) (by rfl) (pa_cons (pv 0) (pa_cons pe_int pa_nil))) (pa_cons (pe_ix (ixT (K := K)) (pv 1) pe_int (fun _ _ => rfl)) pa_nil))) pa_nil))))))
          (pss_cons (ps_set (i := 6) sc_law_model.nd rfl (.inl rfl) (pe_lst pa_nil))
          (pss_cons (ps_for PassesOwn.never rfl (pi_range1 (by rfl) z_range (pa_cons (pe_ix (ixT (K := K)) (pv 1) pe_int (fun _ _ => rfl)) pa_nil)) (pg_name (i := 7) sc_law_model.nd rfl (.inl rfl)) (pss_cons (ps_set (i := 8) sc_law_model.nd rfl (.inl rfl) (pe_op op_add (pc c_law_draw hr (by first | decide | omega) (by rfl) (pa_cons (pv 0) (pa_cons pe_int pa_nil))) (pe_op op_mul pe_int (pc c_law_draw hr (by first | decide | omega) (by rfl) (pa_cons (pv 0) (pa_cons pe_int pa_nil))))))
          (pss_one (ps_for PassesOwn.never rfl (pi_range1 (by rfl) z_range (pa_cons (pv 3) pa_nil)) (pg_name (i := 9) sc_law_model.nd rfl (.inl rfl)) (pss_one (ps_for PassesOwn.never rfl (pi_range1 (by rfl) z_range (pa_cons (pv 3) pa_nil)) (pg_name (i := 10) sc_law_model.nd rfl (.inl rfl)) (Evl.pss_cut (ps_if (pt_cmpR op_eq (pe_op op_mod (pe_callTy call_intD (by rfl) z_int (by decide +kernel) (pa_cons (pv 8) pa_nil)) pe_int) pe_int (nomark _)) (pss_one (ps_expr (kBM (K := K) (pe_bm PySem.F.plainAttrs_list PySem.F.slot_list_append PySem.F.type_list_append mt_append (pv 6) (pa_cons (pe_tup (pa_cons (pv 7) (pa_cons (pv 9) (pa_cons (pv 10) pa_nil)))) pa_nil))))) pss_nil)
          (pss_one (ps_set (i := 8) sc_law_model.nd rfl (.inl rfl) (pe_op op_fdiv (pv 8) pe_int))))))))))
          (pss_cons (ps_setLc (i := 11) (own := [("one", 12)]) (g := gName 12) (tt := tYes) (by rfl) sc_law_model.nd rfl rfl (sw_true rfl rfl rfl (by decide +kernel)) (pi_range1 (by rfl) z_range (pa_cons (pe_ix (ixT (K := K)) (pv 1) pe_int (fun _ _ => rfl)) pa_nil)) (blkOk_by (own := [("one", 12)]) (N := ["box", "sizes", "most", "many", "things", "thing", "links", "role", "cell", "first", "second", "ones", "one"]) (sc := defScope s_law_model) (by decide +kernel)) (fun _ _ _ _ _ => pg_name (i := 12) sc_law_model.nd rfl (.inl rfl)) (fun _ _ _ _ _ => pts_nil) (fun _ _ _ _ _ => (pc c_law_draw hr (by first | decide | omega) (by rfl) (pa_cons (pv 0) (pa_cons (pv 3) pa_nil)))))
          (pss_one (ps_ret (pe_tup (pa_cons (pe_callTy (call_tupD (K := K)) (by rfl) z_tuple (by decide +kernel) (pa_cons (pv 4) pa_nil)) (pa_cons (pe_callTy (call_tupD (K := K)) (by rfl) z_tuple (by decide +kernel) (pa_cons (pv 6) pa_nil)) (pa_cons (pe_callTy (call_tupD (K := K)) (by rfl) z_tuple (by decide +kernel) (pa_cons (pv 11) pa_nil)) pa_nil)))))))))))), ?_⟩
      walk_at "in"
      walk_at "dl"
      refine x_c1 0 (by assumption) rfl (by walk_at "slt") ⟨b, m, rfl, rfl, hm0, rfl⟩ ?_
      rintro _ _ ⟨rfl, n0, rfl, hn0, hn1⟩ H_ M_ w_ hw S_
      cases hw
      walk_at "dl"
      rename Addr => t
      obtain ⟨n, hn⟩ : ∃ n : Nat, 1 + n0 = (n : Int) := ⟨(1 + n0).toNat, by omega⟩
      have hn20 : n ≤ 20 := by omega
      rename Ds _ _ _ _ _ _ _ _ _ => S_
      rw [hn] at S_ ⊢
      refine x_forR (fun i ρ u => ρ = [.v (.ref b), .d (szD s0 s1 s2), .d (.int m), .d (.int n), .v (.ref t), .u, .u, .u, .u, .u, .u, .u, .u] ∧ ∃ th : List (List Int), u = [(t, .lst (th.map isD)), (b, .box)] ∧ th.length = i ∧ ∀ x ∈ th, x.Pairwise (· < ·) ∧ ∀ n ∈ x, 0 ≤ n ∧ n < s0) (by assumption) (by omega) (by omega) ⟨rfl, [], rfl, rfl, fun _ h => nomatch h⟩ ?_ ?_
      · rintro i ρ1 u1 hi ⟨rfl, th, rfl, hl, hth⟩ σ1 H1 M1 S1
        have hz : (th.map isD).length < sizeLine := by rw [List.length_map]; exact Nat.lt_of_lt_of_le (by omega : _ < 1001) (by decide)
        walk_at "dl"
        refine x_c1 1 (by assumption) rfl (by walk_at "slt") ⟨b, 1000, rfl, rfl, by decide, rfl⟩ ?_
        rintro _ _ ⟨rfl, x, rfl, _, _⟩ H_ M_ w_ hw S_
        cases hw
        rename SetAt _ _ _ _ => hw
        cases hw
        walk_at "dl"
        refine x_cD (by assumption) (by walk_at "slt") ⟨x, s0, rfl, rfl, by omega, by omega, rfl⟩ ?_
        rintro _ ⟨ns, rfl, hns1, hns2⟩ H_ M_ S_
        walk_at "dl"
        refine x_appK 0 (by assumption) rfl (by walk_at "tm") hz (by walk_at "set") fun H_ S_ => ?_
        walk_at "dl"
        exact Nx.at (by assumption) (by walk_at "le") ⟨rfl, th ++ [ns], own_snoc, by rw [List.length_append, hl]; rfl, fun y hy => (List.mem_append.mp hy).elim (hth y) fun z => by rw [List.mem_singleton.mp z]; exact ⟨hns1, hns2⟩⟩
      rintro ρ1 u1 ⟨rfl, th, rfl, hl, hth⟩ σ1 H1 M1 S1
      rw [Int.toNat_natCast] at hl
      subst hl
      walk_at "dl"
      rename Addr => l
      refine x_forR (fun i ρ u => ρ = [.v (.ref b), .d (szD s0 s1 s2), .d (.int m), .d (.int th.length), .v (.ref t), .u, .v (.ref l), .u, .u, .u, .u, .u, .u] ∧ ∃ lk : List Lk, u = [(l, .lst (lk.map lkD)), (t, .lst (th.map isD)), (b, .box)] ∧ lk.length ≤ i * (th.length * th.length) ∧ LkOk th.length lk ∧ (∀ l ∈ lk, 0 ≤ l.1 ∧ l.1 < i) ∧ lk.Nodup) (by assumption) (by omega) (by omega) ⟨rfl, [], rfl, Nat.zero_le _, (fun _ h => nomatch h), (fun _ h => nomatch h), List.nodup_nil⟩ ?_ ?_
      · rintro i ρ2 u2 hi ⟨rfl, lk, rfl, hll, hlk, hlr, hnd⟩ σ2 H2 M2 S2
        walk_at "dl"
        refine x_c1 2 (by assumption) rfl (by walk_at "slt") ⟨b, 1000, rfl, rfl, by decide, rfl⟩ ?_
        rintro _ _ ⟨rfl, c1, rfl, _, _⟩ H_ M_ w_ hw S_
        cases hw
        rename SetAt _ _ _ _ => hw
        cases hw
        rename SetAt _ _ _ _ => hw
        cases hw
        walk_at "dl"
        refine x_c1 2 (by assumption) rfl (by walk_at "slt") ⟨b, 1000, rfl, rfl, by decide, rfl⟩ ?_
        rintro _ _ ⟨rfl, c2, rfl, _, _⟩ H_ M_ w_ hw S_
        cases hw
        rename SetAt _ _ _ _ => hw
        cases hw
        rename SetAt _ _ _ _ => hw
        cases hw
        walk_at "dl"
        have hbig : i * (th.length * th.length) ≤ 10 * 400 := Nat.mul_le_mul (by omega) (Nat.mul_le_mul hn20 hn20)
        refine x_forR (fun j ρ u => (∃ c : Int, ρ = [.v (.ref b), .d (szD s0 s1 s2), .d (.int m), .d (.int th.length), .v (.ref t), .u, .v (.ref l), .d (.int i), .d (.int c), .u, .u, .u, .u]) ∧ ∃ lk : List Lk, u = [(l, .lst (lk.map lkD)), (t, .lst (th.map isD)), (b, .box)] ∧ lk.length ≤ i * (th.length * th.length) + j * th.length ∧ LkOk th.length lk ∧ (∀ l ∈ lk, 0 ≤ l.1 ∧ l.1 < ((i + 1 : Nat) : Int) ∧ (l.1 = i → l.2.1 < j)) ∧ lk.Nodup) (by assumption) (by omega) (by omega) ⟨⟨_, rfl⟩, lk, rfl, by omega, hlk, (fun l h => ⟨(hlr l h).1, by have := (hlr l h).2; omega, fun e => by have := (hlr l h).2; omega⟩), hnd⟩ ?_ ?_
        · clear hll hlk hlr hnd
          rintro j ρ3 u3 hj ⟨⟨c, rfl⟩, lk, rfl, hll, hlk, hlr, hnd⟩ σ3 H3 M3 S3
          rw [Int.toNat_natCast] at hj
          have hbig2 : j * th.length ≤ 20 * 20 := Nat.mul_le_mul (by omega) hn20
          walk_at "dl"
          refine x_forR (fun k ρ u => (∃ c : Int, ρ = [.v (.ref b), .d (szD s0 s1 s2), .d (.int m), .d (.int th.length), .v (.ref t), .u, .v (.ref l), .d (.int i), .d (.int c), .d (.int j), .u, .u, .u]) ∧ ∃ lk : List Lk, u = [(l, .lst (lk.map lkD)), (t, .lst (th.map isD)), (b, .box)] ∧ lk.length ≤ i * (th.length * th.length) + j * th.length + k ∧ LkOk th.length lk ∧ (∀ l ∈ lk, 0 ≤ l.1 ∧ l.1 < ((i + 1 : Nat) : Int) ∧ (l.1 = i → l.2.1 < ((j + 1 : Nat) : Int) ∧ (l.2.1 = j → l.2.2 < k))) ∧ lk.Nodup) (by assumption) (by omega) (by omega) ⟨⟨_, rfl⟩, lk, rfl, by omega, hlk, (fun l h => ⟨(hlr l h).1, (hlr l h).2.1, fun e => by have := (hlr l h).2.2 e; omega⟩), hnd⟩ ?_ ?_
          · clear hll hlk hlr hnd
            rintro k ρ4 u4 hk ⟨⟨c, rfl⟩, lk, rfl, hll, hlk, hlr, hnd⟩ σ4 H4 M4 S4
            rw [Int.toNat_natCast] at hk
            have hz : (lk.map lkD).length < sizeLine := by rw [List.length_map]; exact Nat.lt_of_lt_of_le (by omega : _ < 10000) (by decide)
            walk_at "dl"
            refine x_cut (fun ρ u => ρ = [.v (.ref b), .d (szD s0 s1 s2), .d (.int m), .d (.int th.length), .v (.ref t), .u, .v (.ref l), .d (.int i), .d (.int c), .d (.int j), .d (.int k), .u, .u] ∧ ∃ lk : List Lk, u = [(l, .lst (lk.map lkD)), (t, .lst (th.map isD)), (b, .box)] ∧ lk.length ≤ i * (th.length * th.length) + j * th.length + (k + 1) ∧ LkOk th.length lk ∧ (∀ l ∈ lk, 0 ≤ l.1 ∧ l.1 < ((i + 1 : Nat) : Int) ∧ (l.1 = i → l.2.1 < ((j + 1 : Nat) : Int) ∧ (l.2.1 = j → l.2.2 < ((k + 1 : Nat) : Int)))) ∧ lk.Nodup) (by assumption) ?_ ?_
            · walk_at "dl"
              refine x_if (fun h => ?_) (fun h => ?_)
              · walk_at "dl"
                refine x_appK 0 (by assumption) rfl (by walk_at "tm") hz (by walk_at "set") fun H_ S_ => ?_
                walk_at "dl"
                exact Md.at (by assumption) (by walk_at "le") ⟨rfl, lk ++ [((i : Int), (j : Int), (k : Int))], own_snoc, by rw [List.length_append]; show lk.length + 1 ≤ _; omega, fun l h => (List.mem_append.mp h).elim (hlk l) fun z => by rw [List.mem_singleton.mp z]; exact ⟨⟨by show (0 : Int) ≤ j; omega, by show (j : Int) < th.length; omega⟩, by show (0 : Int) ≤ k; omega, by show (k : Int) < th.length; omega⟩, fun l h => (List.mem_append.mp h).elim (fun z => ⟨(hlr l z).1, (hlr l z).2.1, fun e => ⟨((hlr l z).2.2 e).1, fun e2 => by have := ((hlr l z).2.2 e).2 e2; omega⟩⟩) fun z => by rw [List.mem_singleton.mp z]; exact ⟨by show (0 : Int) ≤ i; omega, by show (i : Int) < ((i + 1 : Nat) : Int); omega, fun _ => ⟨by show (j : Int) < ((j + 1 : Nat) : Int); omega, fun _ => by show (k : Int) < ((k + 1 : Nat) : Int); omega⟩⟩, List.nodup_append.mpr ⟨hnd, List.nodup_cons.mpr ⟨(fun z => nomatch z), List.nodup_nil⟩, fun a ha b hb e => by
                    rw [List.mem_singleton.mp hb] at e
                    subst e
                    have := ((hlr _ ha).2.2 rfl).2 rfl
                    have : (k : Int) < k := this
                    omega⟩⟩
              · walk_at "dl"
                exact Md.at (by assumption) (by walk_at "le") ⟨rfl, lk, rfl, by omega, hlk, (fun l z => ⟨(hlr l z).1, (hlr l z).2.1, fun e => ⟨((hlr l z).2.2 e).1, fun e2 => by have := ((hlr l z).2.2 e).2 e2; omega⟩⟩), hnd⟩
            · clear hll hlk hlr hnd hz
              rintro M5 σ5 H5 ρ5 u5 ⟨rfl, lk, rfl, hll, hlk, hlr, hnd⟩ S5
              walk_at "dl"
              exact Nx.at (by assumption) (by walk_at "le") ⟨⟨_, rfl⟩, lk, rfl, hll, hlk, hlr, hnd⟩
          · clear hll hlk hlr hnd
            rintro ρ4 u4 ⟨⟨c, rfl⟩, lk, rfl, hll, hlk, hlr, hnd⟩ σ4 H4 M4 S4
            rw [Int.toNat_natCast] at hll hlr
            walk_at "dl"
            exact Nx.at (by assumption) (by walk_at "le") ⟨⟨_, rfl⟩, lk, rfl, by rw [Nat.succ_mul]; omega, hlk, (fun l h => ⟨(hlr l h).1, (hlr l h).2.1, fun e => ((hlr l h).2.2 e).1⟩), hnd⟩
        · clear hll hlk hlr hnd
          rintro ρ3 u3 ⟨⟨c, rfl⟩, lk, rfl, hll, hlk, hlr, hnd⟩ σ3 H3 M3 S3
          rw [Int.toNat_natCast] at hll hlr
          walk_at "dl"
          exact Nx.at (by assumption) (by walk_at "le") ⟨rfl, lk, rfl, by rw [Nat.succ_mul]; omega, hlk, (fun l h => ⟨(hlr l h).1, (hlr l h).2.1⟩), hnd⟩
      rintro ρ2 u2 ⟨rfl, lk, rfl, hll, hlk, hlr, hnd⟩ σ2 H2 M2 S2
      walk_at "dl"
      refine x_lc1R (k := 12) (fun i acc w1 => (∃ os : List Int, acc = os.map .int ∧ os.length = i ∧ ∀ o ∈ os, 0 ≤ o ∧ o < th.length) ∧ w1 = [(l, .lst (lk.map lkD)), (t, .lst (th.map isD)), (b, .box)]) (by assumption) (by omega) (by omega) ⟨⟨[], rfl, rfl, fun _ h => nomatch h⟩, rfl⟩ ?_ ?_
      · rintro i acc w1 hi ⟨⟨os, rfl, hol, hos⟩, rfl⟩ D4 σ4 H4 M4 hrw S4
        have hz : (os.map PyData.int).length < sizeLine := by rw [List.length_map]; exact Nat.lt_of_lt_of_le (by omega : _ < 10000) (by decide)
        rename Ds _ _ _ _ _ _ _ _ _ => S_
        simp only [List.set_cons_succ, List.set_cons_zero] at S_
        walk_at "dl"
        refine x_c1 3 (by assumption) rfl (by walk_at "slt") ⟨b, _, rfl, rfl, by omega, rfl⟩ ?_
        rintro _ _ ⟨rfl, o, rfl, ho0, ho1⟩ H_ M_ w_ hw S_
        cases hw
        rename SetAt _ _ _ _ => hw
        cases hw
        rename SetAt _ _ _ _ => hw
        cases hw
        rename SetAt _ _ _ _ => hw
        cases hw
        walk_at "dl"
        exact x_lcA (by assumption) (by assumption) (by walk_at "tm") hz ⟨⟨os ++ [o], map_snoc, by rw [List.length_append, hol]; rfl, fun q hq => (List.mem_append.mp hq).elim (hos q) fun z => by rw [List.mem_singleton.mp z]; exact ⟨ho0, ho1⟩⟩, rfl⟩
      · rintro acc w1 ⟨⟨os, rfl, hol, hos⟩, rfl⟩ D4 H4 M4 S4
        walk_at "dl"
        exact x_r1 (by assumption) hq (by walk_at "tm") 3 rfl ⟨rfl, th, lk, os, rfl, ⟨by omega, by omega, hlk, hll, by omega, hos, fun l h => by have := hlr l h; omega, hth, hnd⟩⟩
    ))) only [↓Pf.Gate.lem]
end
section
variable {P : Program} {w : World} {K : PySem.W.Frag} {mg : Str → Option Value} {base : Heap}
def pRole : Pre := fun ss u post => ∃ (b : Addr) (s0 s1 s2 : Int), ss = [.v (.ref b), .d (szD s0 s1 s2)] ∧ u = [(b, .box)] ∧ 0 < s1 ∧ post = pD1 b fun d od => od = .box ∧ ∃ r bb, d = roD r bb ∧ 0 ≤ r ∧ r < s1
theorem c_law_role {f : Addr} {fd : FuncData} (D : Df K mg "_law_role" s_law_role f fd ["box", "sizes"]) (c_law_draw : Cl P w K mg base 1 "_law_draw" (spG K pDraw)) : Cl P w K mg base 2 "_law_role" (spG K pRole) := by
  refine Pf.Gate.out ?_
  simp (disch := (with_unfolding_all (
      refine D.go sc_law_role pRole (fun ss u post h => by obtain ⟨b, s0, s1, s2, rfl, _⟩ := h; rfl) fun cdv A outer s H M vs Q E ss u post hr hp S hq => ?_
      obtain ⟨b, s0, s1, s2, rfl, rfl, h0, rfl⟩ := hp
      refine ⟨_, (pss_cons (ps_set (i := 2) sc_law_role.nd rfl (.inl rfl) (pc c_law_draw hr (by first | decide | omega) (by rfl) (pa_cons (pv 0) (pa_cons (pe_ix (ixT (K := K)) (pv 1) pe_int (fun _ _ => rfl)) pa_nil))))
          (pss_one (ps_ret (pe_tup (pa_cons (pv 2) (pa_cons (pe_cmpR op_eq (pc c_law_draw hr (by first | decide | omega) (by rfl) (pa_cons (pv 0) (pa_cons pe_int pa_nil))) pe_int (nomark _)) pa_nil)))))), ?_⟩
      walk_at "in"
      walk_at "dl"
      refine x_c1 0 (by assumption) rfl (by walk_at "slt") ⟨b, s1, rfl, rfl, h0, rfl⟩ ?_
      rintro _ _ ⟨rfl, x, rfl, hx, hy⟩ H1 M1 w' hw S1
      cases hw
      walk_at "dl"
      refine x_c1 0 (by assumption) rfl (by walk_at "slt") ⟨b, 3, rfl, rfl, by decide, rfl⟩ ?_
      rintro _ _ ⟨rfl, y, rfl, _, _⟩ H2 M2 w' hw S2
      cases hw
      walk_at "dl"
      exact x_r1 (by assumption) hq (by walk_at "tm") 0 rfl ⟨rfl, x, _, rfl, hx, hy⟩
    ))) only [↓Pf.Gate.lem]
def pConcept (n : Nat) : Pre := fun ss u post => ∃ (b : Addr) (s0 s1 s2 k : Int), ss = [.v (.ref b), .d (szD s0 s1 s2), .d (.int k)] ∧ u = [(b, .box)] ∧ 0 < s0 ∧ 0 ≤ s1 ∧ k.toNat < n ∧ post = pD1 b fun d od => od = .box ∧ ∃ c : Cp, d = c.D ∧ c.Ok s0 s1 ∧ c.dp ≤ k.toNat
theorem c_law_concept {f : Addr} {fd : FuncData} (D : Df K mg "_law_concept" s_law_concept f fd ["box", "sizes", "depth"]) (c_law_draw : Cl P w K mg base 1 "_law_draw" (spG K pDraw)) (c_law_role : Cl P w K mg base 2 "_law_role" (spG K pRole)) : ∀ n : Nat, Cl P w K mg base (n + 3) "_law_concept" (spG K (pConcept n))
  | 0 => D.vain sc_law_concept _ fun ss u post ⟨b, s0, s1, s2, k, _, _, _, _, h, _⟩ => absurd h (Nat.not_lt_zero _)
  | n + 1 => by
    have c_law_concept := c_law_concept D c_law_draw c_law_role n
    refine D.go sc_law_concept (pConcept (n + 1)) (fun ss u post h => by obtain ⟨b, s0, s1, s2, k, rfl, _⟩ := h; rfl) fun cdv A outer s H M vs Q E ss u post hr hp S hq => ?_
    obtain ⟨b, s0, s1, s2, k, rfl, rfl, h0, h1, hk, rfl⟩ := hp
    refine ⟨_, (pss_cons (ps_set (i := 3) sc_law_concept.nd rfl (.inl rfl) (pc c_law_draw hr (by first | decide | omega) (by rfl) (pa_cons (pv 0) (pa_cons pe_int pa_nil))))
      (pss_cons (ps_if (PW.pt (pw_or (pt_cmpR op_le (pv 2) pe_int (nomark _)) (pw_or1 (pt_cmpR op_lt (pv 3) pe_int (nomark _))))) (pss_one (ps_ret (pe_tup (pa_cons pe_str (pa_cons (pc c_law_draw hr (by first | decide | omega) (by rfl) (pa_cons (pv 0) (pa_cons (pe_ix (ixT (K := K)) (pv 1) pe_int (fun _ _ => rfl)) pa_nil))) pa_nil))))) pss_nil)
      (pss_cons (ps_if (pt_cmpR op_eq (pv 3) pe_int (nomark _)) (pss_one (ps_ret (pe_tup (pa_cons pe_str pa_nil)))) pss_nil)
      (pss_cons (ps_if (pt_cmpR op_lt (pv 3) pe_int (nomark _)) (pss_one (ps_ret (pe_tup (pa_cons pe_str (pa_cons (pc c_law_concept hr (by first | decide | omega) (by rfl) (pa_cons (pv 0) (pa_cons (pv 1) (pa_cons (pe_op op_sub (pv 2) pe_int) pa_nil)))) pa_nil))))) pss_nil)
      (pss_cons (ps_if (PW.pt (pw_or (pt_cmpR op_lt (pv 3) pe_int (nomark _)) (pw_or1 (pt_cmpR op_eq (pe_ix (ixT (K := K)) (pv 1) pe_int (fun _ _ => rfl)) pe_int (nomark _))))) (pss_cons (ps_set (i := 4) sc_law_concept.nd rfl (.inl rfl) (pc c_law_concept hr (by first | decide | omega) (by rfl) (pa_cons (pv 0) (pa_cons (pv 1) (pa_cons (pe_op op_sub (pv 2) pe_int) pa_nil)))))
      (pss_one (ps_ret (pe_tup (pa_cons pe_str (pa_cons (pv 4) (pa_cons (pc c_law_concept hr (by first | decide | omega) (by rfl) (pa_cons (pv 0) (pa_cons (pv 1) (pa_cons (pe_op op_sub (pv 2) pe_int) pa_nil)))) pa_nil))))))) pss_nil)
      (pss_cons (ps_set (i := 5) sc_law_concept.nd rfl (.inl rfl) (pc c_law_role hr (by first | decide | omega) (by rfl) (pa_cons (pv 0) (pa_cons (pv 1) pa_nil))))
      (pss_one (ps_ret (pe_tup (pa_cons pe_str (pa_cons (pv 5) (pa_cons (pc c_law_concept hr (by first | decide | omega) (by rfl) (pa_cons (pv 0) (pa_cons (pv 1) (pa_cons (pe_op op_sub (pv 2) pe_int) pa_nil)))) pa_nil)))))))))))), ?_⟩
    walk_at "in"
    walk_at "dl"
    refine x_c1 0 (by assumption) rfl (by walk_at "slt") ⟨b, 14, rfl, rfl, by decide, rfl⟩ ?_
    rintro _ _ ⟨rfl, kind, rfl, _, _⟩ H1 M1 w' hw S1
    cases hw
    walk_at "dl"
    refine x_if (fun c => ?_) (fun c => ?_)
    · walk_at "dl"
      refine x_c1 0 (by assumption) rfl (by walk_at "slt") ⟨b, s0, rfl, rfl, h0, rfl⟩ ?_
      rintro _ _ ⟨rfl, y, rfl, y0, y1⟩ H2 M2 w' hw S2
      cases hw
      walk_at "dl"
      exact x_r1 (by assumption) hq (by walk_at "tm") 0 rfl ⟨rfl, .name y, rfl, ⟨y0, y1⟩, Nat.zero_le _⟩
    · have c := of_decide_eq_false c
      have hk1 : (k - 1).toNat < n := by omega
      have hk2 : (k - 1).toNat + 1 ≤ k.toNat := by omega
      walk_at "dl"
      refine x_if (fun c => ?_) (fun c => ?_)
      · walk_at "dl"
        refine x_c1 0 (by assumption) rfl (by walk_at "slt") ⟨b, s0, rfl, rfl, h0, rfl⟩ ?_
        rintro _ _ ⟨rfl, y, rfl, y0, y1⟩ H2 M2 w' hw S2
        cases hw
        walk_at "dl"
        exact x_r1 (by assumption) hq (by walk_at "tm") 0 rfl ⟨rfl, .name y, rfl, ⟨y0, y1⟩, Nat.zero_le _⟩
      · walk_at "dl"
        refine x_if (fun c => ?_) (fun c => ?_)
        · walk_at "dl"
          exact x_r1 (by assumption) hq (by walk_at "tm") 0 rfl ⟨rfl, .any, rfl, trivial, Nat.zero_le _⟩
        · walk_at "dl"
          refine x_if (fun c => ?_) (fun c => ?_)
          · walk_at "dl"
            refine x_c1 0 (by assumption) rfl (by walk_at "slt") ⟨b, s0, s1, s2, k - 1, rfl, rfl, h0, h1, hk1, rfl⟩ ?_
            rintro _ _ ⟨rfl, c1, rfl, k1, k2⟩ H2 M2 w' hw S2
            cases hw
            walk_at "dl"
            exact x_r1 (by assumption) hq (by walk_at "tm") 0 rfl ⟨rfl, .not c1, rfl, k1, by show c1.dp + 1 ≤ _; omega⟩
          · walk_at "dl"
            refine x_if (fun c => ?_) (fun c => ?_)
            · walk_at "dl"
              refine x_c1 0 (by assumption) rfl (by walk_at "slt") ⟨b, s0, s1, s2, k - 1, rfl, rfl, h0, h1, hk1, rfl⟩ ?_
              rintro _ _ ⟨rfl, c1, rfl, k1, k2⟩ H_ M_ w_ hw S_
              cases hw
              walk_at "dl"
              refine x_c1 0 (by assumption) rfl (by walk_at "slt") ⟨b, s0, s1, s2, k - 1, rfl, rfl, h0, h1, hk1, rfl⟩ ?_
              rintro _ _ ⟨rfl, c2, rfl, k3, k4⟩ H_ M_ w_ hw S_
              cases hw
              walk_at "dl"
              exact x_r1 (by assumption) hq (by walk_at "tm") 0 rfl ⟨rfl, .both c1 c2, rfl, ⟨k1, k3⟩, by show max c1.dp c2.dp + 1 ≤ _; omega⟩
            · walk_at "dl"
              refine x_if (fun c => ?_) (fun c => ?_)
              · walk_at "dl"
                refine x_c1 0 (by assumption) rfl (by walk_at "slt") ⟨b, s0, s1, s2, k - 1, rfl, rfl, h0, h1, hk1, rfl⟩ ?_
                rintro _ _ ⟨rfl, c1, rfl, k1, k2⟩ H_ M_ w_ hw S_
                cases hw
                walk_at "dl"
                refine x_c1 0 (by assumption) rfl (by walk_at "slt") ⟨b, s0, s1, s2, k - 1, rfl, rfl, h0, h1, hk1, rfl⟩ ?_
                rintro _ _ ⟨rfl, c2, rfl, k3, k4⟩ H_ M_ w_ hw S_
                cases hw
                walk_at "dl"
                exact x_r1 (by assumption) hq (by walk_at "tm") 0 rfl ⟨rfl, .both c1 c2, rfl, ⟨k1, k3⟩, by show max c1.dp c2.dp + 1 ≤ _; omega⟩
              · have c := of_decide_eq_false c
                walk_at "dl"
                refine x_c1 0 (by assumption) rfl (by walk_at "slt") ⟨b, s0, s1, s2, rfl, rfl, by omega, rfl⟩ ?_
                rintro _ _ ⟨rfl, r, bb, rfl, r0, r1⟩ H_ M_ w_ hw S_
                cases hw
                walk_at "dl"
                refine x_c1 0 (by assumption) rfl (by walk_at "slt") ⟨b, s0, s1, s2, k - 1, rfl, rfl, h0, h1, hk1, rfl⟩ ?_
                rintro _ _ ⟨rfl, c1, rfl, k1, k2⟩ H_ M_ w_ hw S_
                cases hw
                walk_at "dl"
                exact x_r1 (by assumption) hq (by walk_at "tm") 0 rfl ⟨rfl, .some r bb c1, rfl, ⟨⟨r0, r1⟩, k1⟩, by show c1.dp + 1 ≤ _; omega⟩
end
/-- the atoms behind those that were found -/
def cAdd (c : Cp) (xs : List Cp) : List Cp := if c ∈ xs then xs else xs ++ [c]
def Cp.gather : Cp → List Cp → List Cp
  | .any, xs => xs
  | .name n, xs => cAdd (.name n) xs
  | .not c, xs => c.gather xs
  | .both c d, xs => d.gather (c.gather xs)
  | .some r b c, xs => c.gather (cAdd (.some r b c) xs)
def Cp.sz : Cp → Nat
  | .not c => c.sz + 1
  | .both c d => c.sz + d.sz + 1
  | .some _ _ c => c.sz + 1
  | _ => 1
theorem cAdd_len {c : Cp} {xs : List Cp} : (cAdd c xs).length ≤ xs.length + 1 := by
  unfold cAdd
  split
  · omega
  · rw [List.length_append]
    exact Nat.le_refl _
theorem Cp.gather_len : ∀ (c : Cp) (xs : List Cp), (c.gather xs).length ≤ xs.length + c.sz
  | .any, xs => Nat.le_add_right _ _
  | .name n, xs => cAdd_len
  | .not c, xs => Nat.le_trans (gather_len c xs) (by show _ ≤ xs.length + (c.sz + 1); omega)
  | .both c d, xs => by
    have h1 := gather_len d (c.gather xs)
    have h2 := gather_len c xs
    show (d.gather (c.gather xs)).length ≤ xs.length + (c.sz + d.sz + 1)
    omega
  | .some r b c, xs => by
    have h1 := gather_len c (cAdd (.some r b c) xs)
    have h2 := @cAdd_len (.some r b c) xs
    show (c.gather (cAdd (.some r b c) xs)).length ≤ xs.length + (c.sz + 1)
    omega
section
variable {P : Program} {w : World} {K : PySem.W.Frag} {mg : Str → Option Value} {base : Heap}
def pGather (n : Nat) : Pre := fun ss u post => ∃ (c : Cp) (p : Addr) (xs : List Cp), ss = [.d c.D, .v (.ref p)] ∧ u = [(p, .lst (xs.map Cp.D))] ∧ c.dp < n ∧ c.dp ≤ 60 ∧ xs.length + c.sz ≤ 1000000 ∧ post = pD1 p fun d od => d = .none ∧ od = .lst ((c.gather xs).map Cp.D)
theorem c_law_gather {f : Addr} {fd : FuncData} (D : Df K mg "_law_gather" s_law_gather f fd ["concept", "found"]) : ∀ n : Nat, n ≤ 61 → Cl P w K mg base (n + 1) "_law_gather" (spG K (pGather n))
  | 0, _ => D.vain sc_law_gather _ fun ss u post ⟨c, p, xs, _, _, h, _⟩ => absurd h (Nat.not_lt_zero _)
  | n + 1, hn => by
    have c_law_gather := c_law_gather D n (by omega)
    refine D.go sc_law_gather (pGather (n + 1)) (fun ss u post h => by repeat (first | (obtain ⟨rfl, _⟩ := h; rfl) | obtain ⟨_, h⟩ := h)) fun cdv A outer s H M vs Q E ss u post hr hp S hq => ?_
    obtain ⟨c, p, xs, rfl, rfl, hc, hd, hz, rfl⟩ := hp
    refine ⟨_, (pss_one (ps_if (pt_cmpR (inD (K := K)) (pe_ix (ixT (K := K)) (pv 0) pe_int (fun _ _ => rfl)) (pe_tup (pa_cons pe_str (pa_cons pe_str pa_nil))) rfl) (pss_one (ps_for PassesOwn.never rfl (kIT (K := K) (pi_tup (pe_slice (kSlA (K := K)) (pv 0) (po_some pe_int) po_none))) (pg_name (i := 2) sc_law_gather.nd rfl (.inl rfl)) (pss_one (ps_expr (pc c_law_gather hr (by first | decide | omega) (by rfl) (pa_cons (pv 2) (pa_cons (pv 1) pa_nil))))))) (pss_one (ps_if (pt_cmpR op_ne (pe_ix (ixT (K := K)) (pv 0) pe_int (fun _ _ => rfl)) pe_str (nomark _)) (pss_cons (ps_if (pt_cmpR (kNotInX (K := K) (u65 hr)) (pv 0) (pv 1) rfl) (pss_one (ps_expr (kBM (K := K) (pe_bm PySem.F.plainAttrs_list PySem.F.slot_list_append PySem.F.type_list_append mt_append (pv 1) (pa_cons (pv 0) pa_nil))))) pss_nil)
      (pss_one (ps_if (pt_cmpR op_eq (pe_ix (ixT (K := K)) (pv 0) pe_int (fun _ _ => rfl)) pe_str (nomark _)) (pss_one (ps_expr (pc c_law_gather hr (by first | decide | omega) (by rfl) (pa_cons (pe_ix (ixT (K := K)) (pv 0) pe_int (fun _ _ => rfl)) (pa_cons (pv 1) pa_nil))))) pss_nil))) pss_nil)))), ?_⟩
    walk_at "in"
    have h64 : c.D.depth ≤ 64 := Nat.le_trans c.depth (by omega)
    cases c with
    | any =>
      rename Ds _ _ _ _ _ _ _ _ _ => S_
      simp only [Cp.D] at S_
      walk_at "dl"
      exact x_r1 (by assumption) hq (by walk_at "tm") 0 rfl ⟨rfl, rfl⟩
    | name m =>
      have hz : xs.length + 1 ≤ 1000000 := hz
      rename Ds _ _ _ _ _ _ _ _ _ => S_
      simp only [Cp.D] at S_
      walk_at "dl"
      refine y_niO Cp.enc 0 (by assumption) rfl (c := .name m) (by walk_at "tm") h64 ?_
      walk_at "dl"
      refine x_if (fun h => ?_) (fun h => ?_)
      · have h : (Cp.name m) ∉ xs := of_decide_eq_false (by rw [← Bool.not_eq_true']; exact h)
        have hl : (xs.map Cp.D).length < sizeLine := by rw [List.length_map]; exact Nat.lt_of_lt_of_le (by omega : xs.length < 1000001) (by decide)
        walk_at "dl"
        refine x_appK 0 (by assumption) rfl (e := Cp.D (.name m)) (by walk_at "tm") hl (by walk_at "set") fun H_ S_ => ?_
        walk_at "dl"
        refine x_r1 (by assumption) hq (by walk_at "tm") 0 rfl ⟨rfl, ?_⟩
        rw [map_snoc, show (Cp.name m).gather xs = cAdd (.name m) xs from rfl, cAdd, if_neg h]
      · have h : (Cp.name m) ∈ xs := of_decide_eq_true (by rw [← Bool.not_eq_false']; exact h)
        walk_at "dl"
        refine x_r1 (by assumption) hq (by walk_at "tm") 0 rfl ⟨rfl, ?_⟩
        rw [show (Cp.name m).gather xs = cAdd (.name m) xs from rfl, cAdd, if_pos h]
    | not c =>
      have hc : c.dp < n := Nat.lt_of_succ_lt_succ hc
      have hd : c.dp ≤ 60 := Nat.le_of_succ_le hd
      have hz : xs.length + (c.sz + 1) ≤ 1000000 := hz
      rename Ds _ _ _ _ _ _ _ _ _ => S_
      simp only [Cp.D] at S_
      walk_at "dl"
      refine x_forT (fun i ρ u => ρ = [.d (.tuple [sK "not", c.D]), .v (.ref p), .u] ∧ u = [(p, .lst ((if i = 0 then xs else c.gather xs).map Cp.D))]) (by assumption) (by walk_at "tm") ⟨rfl, rfl⟩ ?_ ?_
      · rintro i d ρ1 u1 hi ⟨rfl, rfl⟩ v σ1 H1 M1 S1
        have hi : i = 0 ∧ d = c.D := by
          cases i with
          | zero => exact ⟨rfl, (Option.some.inj hi).symm⟩
          | succ i => cases hi
        obtain ⟨rfl, rfl⟩ := hi
        walk_at "dl"
        refine x_c1 0 (by assumption) rfl (by walk_at "slt") ⟨c, p, xs, rfl, rfl, hc, hd, by omega, rfl⟩ ?_
        rintro _ _ ⟨rfl, rfl⟩ H_ M_ w_ hw S_
        cases hw
        walk_at "dl"
        exact Nx.at (by assumption) (by walk_at "le") ⟨rfl, rfl⟩
      · rintro ρ1 u1 ⟨rfl, rfl⟩ σ1 H1 M1 S1
        walk_at "dl"
        exact x_r1 (by assumption) hq (by walk_at "tm") 0 rfl ⟨rfl, rfl⟩
    | both c d =>
      have hc1 : c.dp < n := by have : max c.dp d.dp + 1 < n + 1 := hc; omega
      have hc2 : d.dp < n := by have : max c.dp d.dp + 1 < n + 1 := hc; omega
      have hd1 : c.dp ≤ 60 := by have : max c.dp d.dp + 1 ≤ 60 := hd; omega
      have hd2 : d.dp ≤ 60 := by have : max c.dp d.dp + 1 ≤ 60 := hd; omega
      have hz : xs.length + (c.sz + d.sz + 1) ≤ 1000000 := hz
      have hl := c.gather_len xs
      rename Ds _ _ _ _ _ _ _ _ _ => S_
      simp only [Cp.D] at S_
      walk_at "dl"
      refine x_forT (fun i ρ u => ρ = [.d (.tuple [sK "and", c.D, d.D]), .v (.ref p), .u] ∧ u = [(p, .lst ((if i = 0 then xs else if i = 1 then c.gather xs else d.gather (c.gather xs)).map Cp.D))]) (by assumption) (by walk_at "tm") ⟨rfl, rfl⟩ ?_ ?_
      · rintro i e ρ1 u1 hi ⟨rfl, rfl⟩ v σ1 H1 M1 S1
        rcases i with _ | _ | i
        · cases hi
          walk_at "dl"
          refine x_c1 0 (by assumption) rfl (by walk_at "slt") ⟨c, p, xs, rfl, rfl, hc1, hd1, by omega, rfl⟩ ?_
          rintro _ _ ⟨rfl, rfl⟩ H_ M_ w_ hw S_
          cases hw
          walk_at "dl"
          exact Nx.at (by assumption) (by walk_at "le") ⟨rfl, rfl⟩
        · cases hi
          walk_at "dl"
          refine x_c1 0 (by assumption) rfl (by walk_at "slt") ⟨d, p, c.gather xs, rfl, rfl, hc2, hd2, by omega, rfl⟩ ?_
          rintro _ _ ⟨rfl, rfl⟩ H_ M_ w_ hw S_
          cases hw
          walk_at "dl"
          exact Nx.at (by assumption) (by walk_at "le") ⟨rfl, rfl⟩
        · cases hi
      · rintro ρ1 u1 ⟨rfl, rfl⟩ σ1 H1 M1 S1
        walk_at "dl"
        exact x_r1 (by assumption) hq (by walk_at "tm") 0 rfl ⟨rfl, rfl⟩
    | some r b c =>
      have hc : c.dp < n := Nat.lt_of_succ_lt_succ hc
      have hd : c.dp ≤ 60 := Nat.le_of_succ_le hd
      have hz : xs.length + (c.sz + 1) ≤ 1000000 := hz
      have hl := @cAdd_len (.some r b c) xs
      rename Ds _ _ _ _ _ _ _ _ _ => S_
      simp only [Cp.D] at S_
      walk_at "dl"
      refine y_niO Cp.enc 0 (by assumption) rfl (c := .some r b c) (by walk_at "tm") h64 ?_
      walk_at "dl"
      refine x_if (fun h => ?_) (fun h => ?_)
      · have h : (Cp.some r b c) ∉ xs := of_decide_eq_false (by rw [← Bool.not_eq_true']; exact h)
        have hl : (xs.map Cp.D).length < sizeLine := by rw [List.length_map]; exact Nat.lt_of_lt_of_le (by omega : xs.length < 1000001) (by decide)
        walk_at "dl"
        refine x_appK 0 (by assumption) rfl (e := Cp.D (.some r b c)) (by walk_at "tm") hl (by walk_at "set") fun H_ S_ => ?_
        walk_at "dl"
        refine x_c1 0 (by assumption) rfl (by walk_at "slt") ⟨c, p, xs ++ [.some r b c], rfl, by rw [map_snoc], hc, hd, by rw [List.length_append]; show xs.length + 1 + c.sz ≤ _; omega, rfl⟩ ?_
        rintro _ _ ⟨rfl, rfl⟩ H_ M_ w_ hw S_
        cases hw
        walk_at "dl"
        refine x_r1 (by assumption) hq (by walk_at "tm") 0 rfl ⟨rfl, ?_⟩
        rw [show (Cp.some r b c).gather xs = c.gather (cAdd (.some r b c) xs) from rfl, cAdd, if_neg h]
      · have h : (Cp.some r b c) ∈ xs := of_decide_eq_true (by rw [← Bool.not_eq_false']; exact h)
        walk_at "dl"
        refine x_c1 0 (by assumption) rfl (by walk_at "slt") ⟨c, p, xs, rfl, rfl, hc, hd, by omega, rfl⟩ ?_
        rintro _ _ ⟨rfl, rfl⟩ H_ M_ w_ hw S_
        cases hw
        walk_at "dl"
        refine x_r1 (by assumption) hq (by walk_at "tm") 0 rfl ⟨rfl, ?_⟩
        rw [show (Cp.some r b c).gather xs = c.gather (cAdd (.some r b c) xs) from rfl, cAdd, if_pos h]
end
theorem Cp.sz_le : ∀ c : Cp, c.sz + 1 ≤ 2 ^ (c.dp + 1)
  | .any => by decide
  | .name _ => by
    show 1 + 1 ≤ 2 ^ (0 + 1)
    decide
  | .not c => by
    have h := sz_le c
    show c.sz + 1 + 1 ≤ 2 ^ (c.dp + 1 + 1)
    rw [Nat.pow_succ 2 (c.dp + 1)]
    omega
  | .some _ _ c => by
    have h := sz_le c
    show c.sz + 1 + 1 ≤ 2 ^ (c.dp + 1 + 1)
    rw [Nat.pow_succ 2 (c.dp + 1)]
    omega
  | .both c d => by
    have h1 := sz_le c
    have h2 := sz_le d
    have h3 : 2 ^ (c.dp + 1) ≤ 2 ^ (max c.dp d.dp + 1) := Nat.pow_le_pow_right (by decide) (by omega)
    have h4 : 2 ^ (d.dp + 1) ≤ 2 ^ (max c.dp d.dp + 1) := Nat.pow_le_pow_right (by decide) (by omega)
    show c.sz + d.sz + 1 + 1 ≤ 2 ^ (max c.dp d.dp + 1 + 1)
    rw [Nat.pow_succ 2 (max c.dp d.dp + 1)]
    omega
theorem Cp.sz_of {c : Cp} {n : Nat} (h : c.dp ≤ n) : c.sz ≤ 2 ^ (n + 1) := by
  have h1 := c.sz_le
  have h2 : 2 ^ (c.dp + 1) ≤ 2 ^ (n + 1) := Nat.pow_le_pow_right (by decide) (by omega)
  omega
/-- as Ok, and a part of an axiom -/
def Pt.OkN (s0 s1 s2 : Int) (n : Nat) : Pt → Prop
  | .below c d => (c.Ok s0 s1 ∧ c.dp ≤ n) ∧ d.Ok s0 s1 ∧ d.dp ≤ n
  | .under r _ s _ => (0 ≤ r ∧ r < s1) ∧ 0 ≤ s ∧ s < s1
  | .is a c => (0 ≤ a ∧ a < s2) ∧ c.Ok s0 s1 ∧ c.dp ≤ n
  | .has a r b => (0 ≤ a ∧ a < s2) ∧ (0 ≤ r ∧ r < s1) ∧ 0 ≤ b ∧ b < s2
  | .never => False
section
variable {P : Program} {w : World} {K : PySem.W.Frag} {mg : Str → Option Value} {base : Heap}
def pRolesAxiom : Pre := fun ss u post => ∃ (b : Addr) (s0 s1 s2 : Int) (c : Bool), ss = [.v (.ref b), .d (szD s0 s1 s2), .d (.bool c)] ∧ u = [(b, .box)] ∧ 0 < s1 ∧ post = pD1 b fun d od => od = .box ∧ ∃ ps : List Pt, d = axD ps ∧ ps ≠ [] ∧ ps.length ≤ 2 ∧ ∀ p ∈ ps, p.IsUnder s1
theorem c_law_roles_axiom {f : Addr} {fd : FuncData} (D : Df K mg "_law_roles_axiom" s_law_roles_axiom f fd ["box", "sizes", "both"]) (c_law_role : Cl P w K mg base 2 "_law_role" (spG K pRole)) : Cl P w K mg base 3 "_law_roles_axiom" (spG K pRolesAxiom) := by
  refine Pf.Gate.out ?_
  simp (disch := (with_unfolding_all (
      refine D.go sc_law_roles_axiom (pRolesAxiom) (fun ss u post h => by repeat (first | (obtain ⟨rfl, _⟩ := h; rfl) | obtain ⟨_, h⟩ := h)) fun cdv A outer s H M vs Q E ss u post hr hp S hq => ?_
      obtain ⟨b, s0, s1, s2, c, rfl, rfl, h0, rfl⟩ := hp
      refine ⟨_, (pss_cons (ps_set (i := 3) sc_law_roles_axiom.nd rfl (.inl rfl) (pc c_law_role hr (by first | decide | omega) (by rfl) (pa_cons (pv 0) (pa_cons (pv 1) pa_nil))))
          (pss_cons (ps_set (i := 4) sc_law_roles_axiom.nd rfl (.inl rfl) (pc c_law_role hr (by first | decide | omega) (by rfl) (pa_cons (pv 0) (pa_cons (pv 1) pa_nil))))
          (pss_cons (ps_if (pt_val (pv 2)) (pss_cons (ps_set (i := 3) sc_law_roles_axiom.nd rfl (.inl rfl) (pe_tup (pa_cons (pe_ix (ixT (K := K)) (pv 3) pe_int (fun _ _ => rfl)) (pa_cons pe_bl pa_nil))))
          (pss_cons (ps_set (i := 4) sc_law_roles_axiom.nd rfl (.inl rfl) (pe_tup (pa_cons (pe_ix (ixT (K := K)) (pv 4) pe_int (fun _ _ => rfl)) (pa_cons pe_bl pa_nil))))
          (pss_one (ps_ret (pe_tup (pa_cons (pe_tup (pa_cons pe_str (pa_cons (pv 3) (pa_cons (pv 4) pa_nil)))) (pa_cons (pe_tup (pa_cons pe_str (pa_cons (pv 4) (pa_cons (pv 3) pa_nil)))) pa_nil))))))) pss_nil)
          (pss_one (ps_ret (pe_tup (pa_cons (pe_tup (pa_cons pe_str (pa_cons (pv 3) (pa_cons (pv 4) pa_nil)))) pa_nil))))))), ?_⟩
      walk_at "in"
      walk_at "dl"
      refine x_c1 0 (by assumption) rfl (by walk_at "slt") ⟨b, s0, s1, s2, rfl, rfl, h0, rfl⟩ ?_
      rintro _ _ ⟨rfl, r, rb, rfl, r0, r1⟩ H_ M_ w_ hw S_
      cases hw
      walk_at "dl"
      refine x_c1 0 (by assumption) rfl (by walk_at "slt") ⟨b, s0, s1, s2, rfl, rfl, h0, rfl⟩ ?_
      rintro _ _ ⟨rfl, s, sb, rfl, s3, s4⟩ H_ M_ w_ hw S_
      cases hw
      walk_at "dl"
      refine x_if (fun h => ?_) (fun h => ?_)
      · walk_at "dl"
        exact x_r1 (by assumption) hq (by walk_at "tm") 0 rfl ⟨rfl, [.under r false s true, .under s true r false], rfl, List.cons_ne_nil _ _, (by show 2 ≤ 2; decide), fun p hp => (List.mem_cons.mp hp).elim (fun e => e ▸ ⟨⟨r0, r1⟩, s3, s4⟩) fun hp => (List.mem_singleton.mp hp) ▸ ⟨⟨s3, s4⟩, r0, r1⟩⟩
      · walk_at "dl"
        exact x_r1 (by assumption) hq (by walk_at "tm") 0 rfl ⟨rfl, [.under r rb s sb], rfl, List.cons_ne_nil _ _, (by show 1 ≤ 2; decide), fun p hp => (List.mem_singleton.mp hp) ▸ ⟨⟨r0, r1⟩, s3, s4⟩⟩
    ))) only [↓Pf.Gate.lem]
def pSizes : Pre := fun ss u post => ∃ ns : List Int, ss = [.d (.list (ns.map .int))] ∧ u = [] ∧ post = pD fun d => ∃ s0 s1 s2 : Int, d = szD s0 s1 s2 ∧ (0 < s0 ∧ s0 ≤ 4) ∧ (0 ≤ s1 ∧ s1 ≤ 2) ∧ 0 ≤ s2 ∧ s2 ≤ 2
theorem c_law_sizes {f : Addr} {fd : FuncData} (D : Df K mg "_law_sizes" s_law_sizes f fd ["script"]) (c_law_box : Cl P w K mg base 2 "_law_box" (spG K pBox)) (c_law_draw : Cl P w K mg base 1 "_law_draw" (spG K pDraw)) : Cl P w K mg base 3 "_law_sizes" (spG K pSizes) := by
  refine Pf.Gate.out ?_
  simp (disch := (with_unfolding_all (
      refine D.go sc_law_sizes (pSizes) (fun ss u post h => by repeat (first | (obtain ⟨rfl, _⟩ := h; rfl) | obtain ⟨_, h⟩ := h)) fun cdv A outer s H M vs Q E ss u post hr hp S hq => ?_
      obtain ⟨ns, rfl, rfl, rfl⟩ := hp
      refine ⟨_, (pss_cons (ps_set (i := 1) sc_law_sizes.nd rfl (.inl rfl) (pc c_law_box hr (by first | decide | omega) (by rfl) (pa_cons (pv 0) (pa_cons pe_int pa_nil))))
          (pss_cons (ps_set (i := 2) sc_law_sizes.nd rfl (.inl rfl) (pe_op op_add pe_int (pc c_law_draw hr (by first | decide | omega) (by rfl) (pa_cons (pv 1) (pa_cons pe_int pa_nil)))))
          (pss_cons (ps_set (i := 3) sc_law_sizes.nd rfl (.inl rfl) (pc c_law_draw hr (by first | decide | omega) (by rfl) (pa_cons (pv 1) (pa_cons pe_int pa_nil))))
          (pss_one (ps_ret (pe_tup (pa_cons (pv 2) (pa_cons (pv 3) (pa_cons (pc c_law_draw hr (by first | decide | omega) (by rfl) (pa_cons (pv 1) (pa_cons pe_int pa_nil))) pa_nil))))))))), ?_⟩
      walk_at "in"
      walk_at "dl"
      refine x_cO (by assumption) (by walk_at "slt") ⟨ns, 0, rfl, rfl, by decide, rfl⟩ ?_
      rintro _ rfl b H_ M_ S_
      walk_at "dl"
      refine x_c1 0 (by assumption) rfl (by walk_at "slt") ⟨b, 4, rfl, rfl, by decide, rfl⟩ ?_
      rintro _ _ ⟨rfl, x, rfl, hx0, hx1⟩ H_ M_ w_ hw S_
      cases hw
      walk_at "dl"
      refine x_c1 0 (by assumption) rfl (by walk_at "slt") ⟨b, 3, rfl, rfl, by decide, rfl⟩ ?_
      rintro _ _ ⟨rfl, y, rfl, hy0, hy1⟩ H_ M_ w_ hw S_
      cases hw
      walk_at "dl"
      refine x_c1 0 (by assumption) rfl (by walk_at "slt") ⟨b, 3, rfl, rfl, by decide, rfl⟩ ?_
      rintro _ _ ⟨rfl, z, rfl, hz0, hz1⟩ H_ M_ w_ hw S_
      cases hw
      walk_at "dl"
      exact x_rD (by assumption) hq (by walk_at "tm") ⟨_, _, _, rfl, by omega, by omega, by omega⟩
    ))) only [↓Pf.Gate.lem]
theorem dpAny {n : Nat} : (Cp.not .any).dp ≤ n + 1 := by show 0 + 1 ≤ n + 1; omega
def pAxiom (n : Nat) : Pre := fun ss u post => ∃ (b : Addr) (s0 s1 s2 k : Int), ss = [.v (.ref b), .d (szD s0 s1 s2), .d (.int k)] ∧ u = [(b, .box)] ∧ 0 < s0 ∧ 0 ≤ s1 ∧ k.toNat < n ∧ post = pD1 b fun d od => od = .box ∧ ∃ ps : List Pt, d = axD ps ∧ ps ≠ [] ∧ ps.length ≤ 2 ∧ ∀ p ∈ ps, p.OkN s0 s1 s2 (k.toNat + 1)
theorem c_law_axiom {n : Nat} {f : Addr} {fd : FuncData} (hn : 0 < n) (D : Df K mg "_law_axiom" s_law_axiom f fd ["box", "sizes", "depth"]) (c_law_draw : Cl P w K mg base 1 "_law_draw" (spG K pDraw)) (c_law_role : Cl P w K mg base 2 "_law_role" (spG K pRole)) (c_law_roles_axiom : Cl P w K mg base 3 "_law_roles_axiom" (spG K pRolesAxiom))
    (c_law_concept : Cl P w K mg base (n + 3) "_law_concept" (spG K (pConcept n))) : Cl P w K mg base (n + 4) "_law_axiom" (spG K (pAxiom n)) := by
  refine Pf.Gate.out ?_
  simp (disch := (with_unfolding_all (
      refine D.go sc_law_axiom (pAxiom n) (fun ss u post h => by repeat (first | (obtain ⟨rfl, _⟩ := h; rfl) | obtain ⟨_, h⟩ := h)) fun cdv A outer s H M vs Q E ss u post hr hp S hq => ?_
      obtain ⟨b, s0, s1, s2, k, rfl, rfl, h0, h1, hk, rfl⟩ := hp
      refine ⟨_, (pss_cons (ps_set (i := 3) sc_law_axiom.nd rfl (.inl rfl) (pc c_law_draw hr (by first | decide | omega) (by rfl) (pa_cons (pv 0) (pa_cons pe_int pa_nil))))
          (Evl.pss_cut (ps_if (PW.pt (pw_and (pt_cmpR (inD (K := K)) (pv 3) (pe_tup (pa_cons pe_int (pa_cons pe_int pa_nil))) rfl) (pw_and1 (pt_cmpR op_gt (pe_ix (ixT (K := K)) (pv 1) pe_int (fun _ _ => rfl)) pe_int (nomark _))))) (pss_one (ps_ret (pc c_law_roles_axiom hr (by first | decide | omega) (by rfl) (pa_cons (pv 0) (pa_cons (pv 1) (pa_cons (pe_cmpR op_eq (pv 3) pe_int (nomark _)) pa_nil)))))) pss_nil)
          (Evl.pss_cut (ps_if (PW.pt (pw_and (pt_cmpR op_eq (pv 3) pe_int (nomark _)) (pw_and1 (pt_cmpR op_gt (pe_ix (ixT (K := K)) (pv 1) pe_int (fun _ _ => rfl)) pe_int (nomark _))))) (pss_cons (ps_set (i := 4) sc_law_axiom.nd rfl (.inl rfl) (pc c_law_draw hr (by first | decide | omega) (by rfl) (pa_cons (pv 0) (pa_cons (pe_ix (ixT (K := K)) (pv 1) pe_int (fun _ _ => rfl)) pa_nil))))
          (pss_one (ps_ret (pe_tup (pa_cons (pe_tup (pa_cons pe_str (pa_cons (pv 4) (pa_cons (pc c_law_concept hr (by first | decide | omega) (by rfl) (pa_cons (pv 0) (pa_cons (pv 1) (pa_cons (pv 2) pa_nil)))) pa_nil)))) pa_nil))))) pss_nil)
          (Evl.pss_cut (ps_if (PW.pt (pw_and (pt_cmpR op_eq (pv 3) pe_int (nomark _)) (pw_and (pt_cmpR op_gt (pe_ix (ixT (K := K)) (pv 1) pe_int (fun _ _ => rfl)) pe_int (nomark _)) (pw_and1 (pt_cmpR op_gt (pe_ix (ixT (K := K)) (pv 1) pe_int (fun _ _ => rfl)) pe_int (nomark _)))))) (pss_cons (ps_set (i := 4) sc_law_axiom.nd rfl (.inl rfl) (pc c_law_draw hr (by first | decide | omega) (by rfl) (pa_cons (pv 0) (pa_cons (pe_ix (ixT (K := K)) (pv 1) pe_int (fun _ _ => rfl)) pa_nil))))
          (pss_cons (ps_set (i := 5) sc_law_axiom.nd rfl (.inl rfl) (pc c_law_draw hr (by first | decide | omega) (by rfl) (pa_cons (pv 0) (pa_cons (pe_ix (ixT (K := K)) (pv 1) pe_int (fun _ _ => rfl)) pa_nil))))
          (pss_one (ps_ret (pe_tup (pa_cons (pe_tup (pa_cons pe_str (pa_cons (pv 4) (pa_cons (pv 5) (pa_cons (pc c_law_draw hr (by first | decide | omega) (by rfl) (pa_cons (pv 0) (pa_cons (pe_ix (ixT (K := K)) (pv 1) pe_int (fun _ _ => rfl)) pa_nil))) pa_nil))))) pa_nil)))))) pss_nil)
          (pss_cons (ps_set (i := 6) sc_law_axiom.nd rfl (.inl rfl) (pc c_law_concept hr (by first | decide | omega) (by rfl) (pa_cons (pv 0) (pa_cons (pv 1) (pa_cons (pv 2) pa_nil)))))
          (Evl.pss_cut (ps_if (PW.pt (pw_and (pt_cmpR op_eq (pv 3) pe_int (nomark _)) (pw_and1 (pt_cmpR op_gt (pe_ix (ixT (K := K)) (pv 1) pe_int (fun _ _ => rfl)) pe_int (nomark _))))) (pss_one (ps_ret (pe_tup (pa_cons (pe_tup (pa_cons pe_str (pa_cons (pe_tup (pa_cons pe_str (pa_cons (pc c_law_role hr (by first | decide | omega) (by rfl) (pa_cons (pv 0) (pa_cons (pv 1) pa_nil))) (pa_cons (pe_tup (pa_cons pe_str pa_nil)) pa_nil)))) (pa_cons (pv 6) pa_nil)))) pa_nil)))) pss_nil)
          (pss_cons (ps_set (i := 7) sc_law_axiom.nd rfl (.inl rfl) (pc c_law_concept hr (by first | decide | omega) (by rfl) (pa_cons (pv 0) (pa_cons (pv 1) (pa_cons (pv 2) pa_nil)))))
          (pss_cons (ps_if (pt_cmpR op_eq (pv 3) pe_int (nomark _)) (pss_one (ps_ret (pe_tup (pa_cons (pe_tup (pa_cons pe_str (pa_cons (pe_tup (pa_cons pe_str (pa_cons (pv 6) (pa_cons (pv 7) pa_nil)))) (pa_cons (pe_tup (pa_cons pe_str (pa_cons (pe_tup (pa_cons pe_str pa_nil)) pa_nil))) pa_nil)))) pa_nil)))) pss_nil)
          (pss_cons (ps_if (pt_cmpR op_eq (pv 3) pe_int (nomark _)) (pss_one (ps_ret (pe_tup (pa_cons (pe_tup (pa_cons pe_str (pa_cons (pv 6) (pa_cons (pv 7) pa_nil)))) (pa_cons (pe_tup (pa_cons pe_str (pa_cons (pv 7) (pa_cons (pv 6) pa_nil)))) pa_nil))))) pss_nil)
          (pss_one (ps_ret (pe_tup (pa_cons (pe_tup (pa_cons pe_str (pa_cons (pv 6) (pa_cons (pv 7) pa_nil)))) pa_nil))))))))))))), ?_⟩
      walk_at "in"
      walk_at "dl"
      refine x_c1 0 (by assumption) rfl (by walk_at "slt") ⟨b, 12, rfl, rfl, by decide, rfl⟩ ?_
      rintro _ _ ⟨rfl, kd, rfl, _, _⟩ H_ M_ w_ hw S_
      cases hw
      walk_at "dl"
      have one : ∀ (p : Pt), p.OkN s0 s1 s2 (k.toNat + 1) → ∀ q ∈ [p], q.OkN s0 s1 s2 (k.toNat + 1) := fun p h q hq => List.mem_singleton.mp hq ▸ h
      have cpc : ∀ c : Cp, c.Ok s0 s1 ∧ c.dp ≤ k.toNat → c.Ok s0 s1 ∧ c.dp ≤ k.toNat + 1 := fun c h => ⟨h.1, Nat.le_succ_of_le h.2⟩
      refine x_cut (fun ρ u => ρ = [.v (.ref b), .d (szD s0 s1 s2), .d (.int k), .d (.int kd), .u, .u, .u, .u] ∧ u = [(b, .box)]) (by assumption) ?_ ?_
      · walk_at "dl"
        refine x_if (fun h => ?_) (fun h => ?_)
        · walk_at "dl"
          refine x_if (fun h => ?_) (fun h => ?_)
          · have h := of_decide_eq_true h
            walk_at "dl"
            refine x_c1 0 (by assumption) rfl (by walk_at "slt") ⟨b, s0, s1, s2, _, rfl, rfl, h, rfl⟩ ?_
            rintro _ _ ⟨rfl, ps, rfl, hp, hl, hu⟩ H_ M_ w_ hw S_
            cases hw
            walk_at "dl"
            refine x_r1 (by assumption) hq (by walk_at "tm") 0 rfl ⟨rfl, ps, rfl, hp, hl, fun p h => ?_⟩
            have := hu p h
            cases p with
            | under r b s b' => exact this
            | _ => exact this.elim
          · walk_at "dl"
            exact Md.at (by assumption) (by walk_at "le") ⟨rfl, rfl⟩
        · walk_at "dl"
          exact Md.at (by assumption) (by walk_at "le") ⟨rfl, rfl⟩
      rintro M1 σ1 H1 ρ1 u1 ⟨rfl, rfl⟩ S1
      refine x_cut (fun ρ u => ρ = [.v (.ref b), .d (szD s0 s1 s2), .d (.int k), .d (.int kd), .u, .u, .u, .u] ∧ u = [(b, .box)]) (by assumption) ?_ ?_
      · walk_at "dl"
        refine x_if (fun h => ?_) (fun h => ?_)
        · walk_at "dl"
          refine x_if (fun h => ?_) (fun h => ?_)
          · have h := of_decide_eq_true h
            walk_at "dl"
            refine x_c1 0 (by assumption) rfl (by walk_at "slt") ⟨b, s2, rfl, rfl, h, rfl⟩ ?_
            rintro _ _ ⟨rfl, a, rfl, a0, a1⟩ H_ M_ w_ hw S_
            cases hw
            walk_at "dl"
            refine x_c1 0 (by assumption) rfl (by walk_at "slt") ⟨b, s0, s1, s2, k, rfl, rfl, h0, h1, hk, rfl⟩ ?_
            rintro _ _ ⟨rfl, c, rfl, hc⟩ H_ M_ w_ hw S_
            cases hw
            walk_at "dl"
            exact x_r1 (by assumption) hq (by walk_at "tm") 0 rfl ⟨rfl, [.is a c], rfl, List.cons_ne_nil _ _, (by show 1 ≤ 2; decide), one _ ⟨⟨a0, a1⟩, cpc c hc⟩⟩
          · walk_at "dl"
            exact Md.at (by assumption) (by walk_at "le") ⟨rfl, rfl⟩
        · walk_at "dl"
          exact Md.at (by assumption) (by walk_at "le") ⟨rfl, rfl⟩
      rintro M1 σ1 H1 ρ1 u1 ⟨rfl, rfl⟩ S1
      refine x_cut (fun ρ u => (∃ t1 t2, ρ = [.v (.ref b), .d (szD s0 s1 s2), .d (.int k), .d (.int kd), t1, t2, .u, .u]) ∧ u = [(b, .box)]) (by assumption) ?_ ?_
      · walk_at "dl"
        refine x_if (fun h => ?_) (fun h => ?_)
        · walk_at "dl"
          refine x_if (fun h => ?_) (fun h => ?_)
          · have h := of_decide_eq_true h
            walk_at "dl"
            refine x_if (fun h' => ?_) (fun h' => ?_)
            · have h' := of_decide_eq_true h'
              walk_at "dl"
              refine x_c1 0 (by assumption) rfl (by walk_at "slt") ⟨b, s2, rfl, rfl, h', rfl⟩ ?_
              rintro _ _ ⟨rfl, a, rfl, a0, a1⟩ H_ M_ w_ hw S_
              cases hw
              walk_at "dl"
              refine x_c1 0 (by assumption) rfl (by walk_at "slt") ⟨b, s1, rfl, rfl, h, rfl⟩ ?_
              rintro _ _ ⟨rfl, r, rfl, r0, r1⟩ H_ M_ w_ hw S_
              cases hw
              walk_at "dl"
              refine x_c1 0 (by assumption) rfl (by walk_at "slt") ⟨b, s2, rfl, rfl, h', rfl⟩ ?_
              rintro _ _ ⟨rfl, a', rfl, a2, a3⟩ H_ M_ w_ hw S_
              cases hw
              walk_at "dl"
              exact x_r1 (by assumption) hq (by walk_at "tm") 0 rfl ⟨rfl, [.has a r a'], rfl, List.cons_ne_nil _ _, (by show 1 ≤ 2; decide), one _ ⟨⟨a0, a1⟩, ⟨r0, r1⟩, a2, a3⟩⟩
            · walk_at "dl"
              exact Md.at (by assumption) (by walk_at "le") ⟨⟨_, _, rfl⟩, rfl⟩
          · walk_at "dl"
            exact Md.at (by assumption) (by walk_at "le") ⟨⟨_, _, rfl⟩, rfl⟩
        · walk_at "dl"
          exact Md.at (by assumption) (by walk_at "le") ⟨⟨_, _, rfl⟩, rfl⟩
      rintro M1 σ1 H1 ρ1 u1 ⟨⟨t1, t2, rfl⟩, rfl⟩ S1
      walk_at "dl"
      refine x_c1 0 (by assumption) rfl (by walk_at "slt") ⟨b, s0, s1, s2, k, rfl, rfl, h0, h1, hk, rfl⟩ ?_
      rintro _ _ ⟨rfl, c, rfl, hc⟩ H_ M_ w_ hw S_
      cases hw
      walk_at "dl"
      refine x_cut (fun ρ u => ρ = [.v (.ref b), .d (szD s0 s1 s2), .d (.int k), .d (.int kd), t1, t2, .d c.D, .u] ∧ u = [(b, .box)]) (by assumption) ?_ ?_
      · walk_at "dl"
        refine x_if (fun h => ?_) (fun h => ?_)
        · walk_at "dl"
          refine x_if (fun h => ?_) (fun h => ?_)
          · have h := of_decide_eq_true h
            walk_at "dl"
            refine x_c1 0 (by assumption) rfl (by walk_at "slt") ⟨b, s0, s1, s2, rfl, rfl, h, rfl⟩ ?_
            rintro _ _ ⟨rfl, r, rb, rfl, r0, r1⟩ H_ M_ w_ hw S_
            cases hw
            walk_at "dl"
            exact x_r1 (by assumption) hq (by walk_at "tm") 0 rfl ⟨rfl, [.below (.some r rb .any) c], rfl, List.cons_ne_nil _ _, (by show 1 ≤ 2; decide), one _ ⟨⟨⟨⟨r0, r1⟩, trivial⟩, by show 0 + 1 ≤ k.toNat + 1; omega⟩, cpc c hc⟩⟩
          · walk_at "dl"
            exact Md.at (by assumption) (by walk_at "le") ⟨rfl, rfl⟩
        · walk_at "dl"
          exact Md.at (by assumption) (by walk_at "le") ⟨rfl, rfl⟩
      rintro M1 σ1 H1 ρ1 u1 ⟨rfl, rfl⟩ S1
      walk_at "dl"
      refine x_c1 0 (by assumption) rfl (by walk_at "slt") ⟨b, s0, s1, s2, k, rfl, rfl, h0, h1, hk, rfl⟩ ?_
      rintro _ _ ⟨rfl, d, rfl, hd⟩ H_ M_ w_ hw S_
      cases hw
      walk_at "dl"
      have hcd := cpc c hc
      have hdd := cpc d hd
      refine x_if (fun h => ?_) (fun h => ?_)
      · walk_at "dl"
        exact x_r1 (by assumption) hq (by walk_at "tm") 0 rfl ⟨rfl, [.below (.both c d) (.not .any)], rfl, List.cons_ne_nil _ _, (by show 1 ≤ 2; decide), one _ ⟨⟨⟨hc.1, hd.1⟩, by have := hc.2; have := hd.2; show max c.dp d.dp + 1 ≤ k.toNat + 1; omega⟩, trivial, by show 0 + 1 ≤ k.toNat + 1; omega⟩⟩
      · walk_at "dl"
        refine x_if (fun h => ?_) (fun h => ?_)
        · walk_at "dl"
          exact x_r1 (by assumption) hq (by walk_at "tm") 0 rfl ⟨rfl, [.below c d, .below d c], rfl, List.cons_ne_nil _ _, (by show 2 ≤ 2; decide), fun p hp => (List.mem_cons.mp hp).elim (fun e => e ▸ ⟨hcd, hdd⟩) fun hp => (List.mem_singleton.mp hp) ▸ ⟨hdd, hcd⟩⟩
        · walk_at "dl"
          exact x_r1 (by assumption) hq (by walk_at "tm") 0 rfl ⟨rfl, [.below c d], rfl, List.cons_ne_nil _ _, (by show 1 ≤ 2; decide), one _ ⟨hcd, hdd⟩⟩
    ))) only [↓Pf.Gate.lem]
end
def Pt.gather : Pt → List Cp → List Cp
  | .below c d, xs => d.gather (c.gather xs)
  | .is _ c, xs => c.gather xs
  | _, xs => xs
def gathers : List Pt → List Cp → List Cp
  | [], xs => xs
  | p :: ps, xs => gathers ps (p.gather xs)
theorem gathers_snoc : ∀ (ps : List Pt) (p : Pt) (xs : List Cp), gathers (ps ++ [p]) xs = p.gather (gathers ps xs)
  | [], _, _ => rfl
  | q :: ps, p, xs => gathers_snoc ps p (q.gather xs)
theorem gathers_app : ∀ (ps qs : List Pt) (xs : List Cp), gathers (ps ++ qs) xs = gathers qs (gathers ps xs)
  | [], _, _ => rfl
  | q :: ps, p, xs => gathers_app ps p (q.gather xs)
/-- the concepts are at most so deep -/
def Pt.Lo (n : Nat) : Pt → Prop
  | .below c d => c.dp ≤ n ∧ d.dp ≤ n
  | .is _ c => c.dp ≤ n
  | _ => True
theorem Pt.gather_len {n : Nat} : ∀ {p : Pt}, p.Lo n → ∀ xs : List Cp, (p.gather xs).length ≤ xs.length + 2 ^ (n + 2)
  | .below c d, h, xs => by
    have h1 := d.gather_len (c.gather xs)
    have h2 := c.gather_len xs
    have h3 := Cp.sz_of h.1
    have h4 := Cp.sz_of h.2
    have h5 : 2 ^ (n + 2) = 2 ^ (n + 1) * 2 := Nat.pow_succ ..
    show (d.gather (c.gather xs)).length ≤ _
    omega
  | .is _ c, h, xs => by
    have h2 := c.gather_len xs
    have h3 := Cp.sz_of (n := n) h
    have h5 : 2 ^ (n + 2) = 2 ^ (n + 1) * 2 := Nat.pow_succ ..
    show (c.gather xs).length ≤ _
    omega
  | .under _ _ _ _, _, xs => Nat.le_add_right _ _
  | .has _ _ _, _, xs => Nat.le_add_right _ _
  | .never, _, xs => Nat.le_add_right _ _
theorem gathers_len {n : Nat} : ∀ {ps : List Pt}, (∀ p ∈ ps, p.Lo n) → ∀ xs : List Cp, (gathers ps xs).length ≤ xs.length + ps.length * 2 ^ (n + 2)
  | [], _, xs => Nat.le_add_right _ _
  | p :: ps, h, xs => by
    have h1 := Pt.gather_len (h p (List.mem_cons_self ..)) xs
    have h2 := gathers_len (fun q hq => h q (List.mem_cons_of_mem _ hq)) (p.gather xs)
    show (gathers ps (p.gather xs)).length ≤ xs.length + (ps.length + 1) * _
    rw [Nat.succ_mul]
    omega
theorem flat_len {k : Nat} : ∀ {l : List (List Pt)}, (∀ x ∈ l, x.length ≤ k) → l.flatten.length ≤ l.length * k
  | [], _ => Nat.zero_le _
  | x :: l, h => by
    have h1 := h x (List.mem_cons_self ..)
    have h2 := flat_len fun y hy => h y (List.mem_cons_of_mem _ hy)
    rw [List.flatten_cons, List.length_append, List.length_cons, Nat.succ_mul]
    omega
section
variable {P : Program} {w : World} {K : PySem.W.Frag} {mg : Str → Option Value} {base : Heap}
def pAtoms (n : Nat) : Pre := fun ss u post => ∃ (b b' : Bool) (xs : List (List Pt)) (qs : List Pt), ss = [.d (seqD b (xs.map axD)), .d (seqD b' (qs.map Pt.D))] ∧ u = [] ∧ (n ≤ 8 ∧ xs.length ≤ 12 ∧ qs.length ≤ 12) ∧ (∀ x ∈ xs, x.length ≤ 4 ∧ ∀ p ∈ x, p.Lo n) ∧ (∀ p ∈ qs, p.Lo n) ∧ post = pO fun od => od = .lst ((gathers (xs.flatten ++ qs) []).map Cp.D)
theorem c_law_atoms {n : Nat} {f : Addr} {fd : FuncData} (D : Df K mg "_law_atoms" s_law_atoms f fd ["axioms", "questions"]) (c_law_gather : Cl P w K mg base (n + 2) "_law_gather" (spG K (pGather (n + 1)))) (z_list : mg "list" = none) : Cl P w K mg base (n + 3) "_law_atoms" (spG K (pAtoms n)) := by
  refine Pf.Gate.out ?_
  simp (disch := (with_unfolding_all (
      refine D.go sc_law_atoms (pAtoms n) (fun ss u post h => by repeat (first | (obtain ⟨rfl, _⟩ := h; rfl) | obtain ⟨_, h⟩ := h)) fun cdv A outer s H M vs Q E ss u post hr hp S hq => ?_
      obtain ⟨b, b', xs, qs, rfl, rfl, ⟨hn, hx, hq1⟩, hxs, hqs, rfl⟩ := hp
      refine ⟨_, (pss_cons (ps_set (i := 2) sc_law_atoms.nd rfl (.inl rfl) (pe_lst pa_nil))
          (pss_cons (ps_set (i := 3) sc_law_atoms.nd rfl (.inl rfl) (pe_lst pa_nil))
          (pss_cons (ps_for PassesOwn.never rfl (pi_seqD (K := K) (pv 0)) (pg_name (i := 4) sc_law_atoms.nd rfl (.inl rfl)) (pss_one (ps_set (i := 3) sc_law_atoms.nd rfl (.inl rfl) (pe_op op_cat (pv 3) (pe_callTy (call_lstD (K := K)) (by rfl) z_list (by decide +kernel) (pa_cons (pv 4) pa_nil))))))
          (pss_cons (ps_for PassesOwn.never rfl (kIL (K := K) (pi_list (pe_op op_cat (pv 3) (pe_callTy (call_lstD (K := K)) (by rfl) z_list (by decide +kernel) (pa_cons (pv 1) pa_nil))))) (pg_name (i := 5) sc_law_atoms.nd rfl (.inl rfl)) (pss_cons (ps_if (pt_cmpR op_eq (pe_ix (ixT (K := K)) (pv 5) pe_int (fun _ _ => rfl)) pe_str (nomark _)) (pss_cons (ps_expr (pc c_law_gather hr (by first | decide | omega) (by rfl) (pa_cons (pe_ix (ixT (K := K)) (pv 5) pe_int (fun _ _ => rfl)) (pa_cons (pv 2) pa_nil))))
          (pss_one (ps_expr (pc c_law_gather hr (by first | decide | omega) (by rfl) (pa_cons (pe_ix (ixT (K := K)) (pv 5) pe_int (fun _ _ => rfl)) (pa_cons (pv 2) pa_nil)))))) pss_nil)
          (pss_one (ps_if (pt_cmpR op_eq (pe_ix (ixT (K := K)) (pv 5) pe_int (fun _ _ => rfl)) pe_str (nomark _)) (pss_one (ps_expr (pc c_law_gather hr (by first | decide | omega) (by rfl) (pa_cons (pe_ix (ixT (K := K)) (pv 5) pe_int (fun _ _ => rfl)) (pa_cons (pv 2) pa_nil))))) pss_nil))))
          (pss_one (ps_ret (pv 2))))))), ?_⟩
      walk_at "in"
      walk_at "dl"
      have hfl : xs.flatten.length ≤ 48 := Nat.le_trans (flat_len (k := 4) fun x h => (hxs x h).1) (by omega)
      rename_i f _ _ _ _ _ _ t _ _ _ _ _ _
      refine x_forSV (fun i ρ u => ∃ t : Addr, ρ = [.d (seqD b (xs.map axD)), .d (seqD b' (qs.map Pt.D)), .v (.ref f), .v (.ref t), .u, .u] ∧ u = [(t, .lst ((xs.take i).flatten.map Pt.D)), (f, .lst [])]) (by assumption) rfl ⟨t, rfl, rfl⟩ ?_ ?_
      · rintro i d ρ1 u1 hi ⟨t, rfl, rfl⟩ v σ1 H1 M1 S1
        obtain ⟨x, hx', rfl⟩ := map_at hi
        have hlen : ((xs.take i).flatten.map Pt.D).length + (x.map Pt.D).length ≤ sizeLine := by
          rw [List.length_map, List.length_map]
          have h1 := flat_len (k := 4) (l := xs.take i) fun y hy => (hxs y (List.mem_of_mem_take hy)).1
          have h2 := (hxs x (List.mem_of_getElem? hx')).1
          have h3 : (xs.take i).length ≤ xs.length := by rw [List.length_take]; omega
          exact Nat.le_trans (by omega : _ ≤ 60) (by decide)
        walk_at "dl"
        refine x_cat 1 0 (by assumption) rfl rfl hlen fun a_ H_ S_ => ?_
        walk_at "dl"
        rename Ds _ _ _ _ _ _ _ _ _ => S_
        exact Nx.at (S_.subw (.cons_cons _ (.cons _ (.cons _ (.refl _))))) (by walk_at "le") ⟨_, rfl, by rw [take_snoc hx', List.flatten_append, List.flatten_singleton, List.map_append]⟩
      · rintro ρ1 u1 ⟨t, rfl, rfl⟩ σ1 H1 M1 S1
        rw [show (xs.map axD).length = xs.length from List.length_map .., take_all] at S1
        walk_at "dl"
        refine x_cat 1 0 (by assumption) rfl rfl (by rw [List.length_map, List.length_map]; exact Nat.le_trans (by omega : _ ≤ 60) (by decide)) fun a_ H_ S_ => ?_
        walk_at "dl"
        rename Ds _ _ _ _ _ _ _ _ _ => S_
        obtain ⟨M_, S_⟩ := S_.freeze List.not_mem_nil
        rw [← List.map_append] at S_
        have S_ := S_.subw (w' := [(f, .lst [])]) (.cons _ (.cons _ (.refl _)))
        refine x_forL (fun i ρ u => ρ = [.d (seqD b (xs.map axD)), .d (seqD b' (qs.map Pt.D)), .v (.ref f), .v (.ref t), .u, .u] ∧ u = [(f, .lst ((gathers ((xs.flatten ++ qs).take i) []).map Cp.D))]) (by assumption) (by walk_at "tm") ⟨rfl, rfl⟩ ?_ ?_
        · rintro i d ρ2 u2 hi ⟨rfl, rfl⟩ v2 σ2 H2 M2 S2
          obtain ⟨p, hp', rfl⟩ := map_at hi
          have hp1 : p.Lo n := (List.mem_append.mp (List.mem_of_getElem? hp')).elim (fun h => by
            obtain ⟨x, h1, h2⟩ := List.mem_flatten.mp h
            exact (hxs x h1).2 p h2) (hqs p)
          have hall : ∀ p ∈ xs.flatten ++ qs, p.Lo n := fun p h => (List.mem_append.mp h).elim (fun h => by
            obtain ⟨x, h1, h2⟩ := List.mem_flatten.mp h
            exact (hxs x h1).2 p h2) (hqs p)
          have hgl := gathers_len (n := n) (ps := (xs.flatten ++ qs).take i) (fun p h => hall p (List.mem_of_mem_take h)) []
          have hz : (gathers ((xs.flatten ++ qs).take i) []).length + 2 ^ (n + 1) + 2 ^ (n + 1) ≤ 1000000 := by
            have h1 : ((xs.flatten ++ qs).take i).length ≤ 60 := by rw [List.length_take, List.length_append]; omega
            have h2 : 2 ^ (n + 2) ≤ 2 ^ 10 := Nat.pow_le_pow_right (by decide) (by omega)
            have h3 : ((xs.flatten ++ qs).take i).length * 2 ^ (n + 2) ≤ 60 * 2 ^ 10 := Nat.mul_le_mul h1 h2
            have h4 : 2 ^ (n + 1) ≤ 2 ^ 9 := Nat.pow_le_pow_right (by decide) (by omega)
            have h5 : ([] : List Cp).length = 0 := rfl
            omega
          have e1 : gathers ((xs.flatten ++ qs).take (i + 1)) [] = p.gather (gathers ((xs.flatten ++ qs).take i) []) := by rw [take_snoc hp', gathers_snoc]
          generalize gathers ((xs.flatten ++ qs).take i) [] = zs at S2 hz e1
          cases p with
          | below c d =>
            have h1 := Cp.sz_of hp1.1
            have h2 := Cp.sz_of hp1.2
            have h3 := c.gather_len zs
            have h4 := hp1.1
            have h5 := hp1.2
            rename Ds _ _ _ _ _ _ _ _ _ => S_
            simp only [Pt.D] at S_
            walk_at "dl"
            refine x_c1 0 (by assumption) rfl (by walk_at "slt") ⟨c, f, zs, rfl, rfl, by omega, by omega, by omega, rfl⟩ ?_
            rintro _ _ ⟨rfl, rfl⟩ H_ M_ w_ hw S_
            cases hw
            walk_at "dl"
            refine x_c1 0 (by assumption) rfl (by walk_at "slt") ⟨d, f, c.gather zs, rfl, rfl, by omega, by omega, by omega, rfl⟩ ?_
            rintro _ _ ⟨rfl, rfl⟩ H_ M_ w_ hw S_
            cases hw
            walk_at "dl"
            exact Nx.at (by assumption) (by walk_at "le") ⟨rfl, by rw [e1]; rfl⟩
          | is a c =>
            have h1 := Cp.sz_of (n := n) hp1
            have h4 : c.dp ≤ n := hp1
            rename Ds _ _ _ _ _ _ _ _ _ => S_
            simp only [Pt.D] at S_
            walk_at "dl"
            refine x_c1 0 (by assumption) rfl (by walk_at "slt") ⟨c, f, zs, rfl, rfl, by omega, by omega, by omega, rfl⟩ ?_
            rintro _ _ ⟨rfl, rfl⟩ H_ M_ w_ hw S_
            cases hw
            walk_at "dl"
            exact Nx.at (by assumption) (by walk_at "le") ⟨rfl, by rw [e1]; rfl⟩
          | under r b s b' =>
            rename Ds _ _ _ _ _ _ _ _ _ => S_
            simp only [Pt.D] at S_
            walk_at "dl"
            exact Nx.at (by assumption) (by walk_at "le") ⟨rfl, by rw [e1]; rfl⟩
          | has a r b =>
            rename Ds _ _ _ _ _ _ _ _ _ => S_
            simp only [Pt.D] at S_
            walk_at "dl"
            exact Nx.at (by assumption) (by walk_at "le") ⟨rfl, by rw [e1]; rfl⟩
          | never =>
            rename Ds _ _ _ _ _ _ _ _ _ => S_
            simp only [Pt.D] at S_
            walk_at "dl"
            exact Nx.at (by assumption) (by walk_at "le") ⟨rfl, by rw [e1]; rfl⟩
        · rintro ρ2 u2 ⟨rfl, rfl⟩ σ2 H2 M2 S2
          rw [show ((xs.flatten ++ qs).map Pt.D).length = (xs.flatten ++ qs).length from List.length_map .., take_all] at S2
          walk_at "dl"
          exact x_rO (by assumption) hq 0 rfl rfl
    ))) only [↓Pf.Gate.lem]
end
theorem Pt.OkN.lo {s0 s1 s2 : Int} {n m : Nat} (hm : m ≤ n) : ∀ {p : Pt}, p.OkN s0 s1 s2 m → p.Lo n
  | .below _ _, h => ⟨Nat.le_trans h.1.2 hm, Nat.le_trans h.2.2 hm⟩
  | .is _ _, h => Nat.le_trans h.2.2 hm
  | .under _ _ _ _, _ => trivial
  | .has _ _ _, _ => trivial
  | .never, _ => trivial
section
variable {P : Program} {w : World} {K : PySem.W.Frag} {mg : Str → Option Value} {base : Heap}
def pAxioms (n : Nat) : Pre := fun ss u post => ∃ (ns : List Int) (s0 s1 s2 m r k : Int), ss = [.d (.list (ns.map .int)), .d (szD s0 s1 s2), .d (.int m), .d (.int r), .d (.int k)] ∧ u = [] ∧ (0 < s0 ∧ 0 ≤ s1) ∧ (k.toNat + 1 ≤ n ∧ n ≤ 8 ∧ 0 ≤ m ∧ m ≤ 8) ∧ post = pD fun d => ∃ xs : List (List Pt), d = .tuple (xs.map axD) ∧ (∀ x ∈ xs, x ≠ [] ∧ x.length ≤ 2 ∧ ∀ p ∈ x, p.OkN s0 s1 s2 (k.toNat + 1)) ∧ (xs.length : Int) ≤ m ∧ (gathers xs.flatten []).length ≤ r.toNat
theorem c_law_axioms {n : Nat} {f : Addr} {fd : FuncData} (D : Df K mg "_law_axioms" s_law_axioms f fd ["script", "sizes", "many", "room", "depth"]) (c_law_box : Cl P w K mg base 2 "_law_box" (spG K pBox)) (c_law_axiom : Cl P w K mg base (n + 4) "_law_axiom" (spG K (pAxiom n))) (c_law_atoms : Cl P w K mg base (n + 3) "_law_atoms" (spG K (pAtoms n)))
    (z_len : mg "len" = none) (z_range : mg "range" = none) (z_tuple : mg "tuple" = none) : Cl P w K mg base (n + 5) "_law_axioms" (spG K (pAxioms n)) := by
  refine Pf.Gate.out ?_
  simp (disch := (with_unfolding_all (
      refine D.go sc_law_axioms (pAxioms n) (fun ss u post h => by repeat (first | (obtain ⟨rfl, _⟩ := h; rfl) | obtain ⟨_, h⟩ := h)) fun cdv A outer s H M vs Q E ss u post hr hp S hq => ?_
      obtain ⟨ns, s0, s1, s2, m, r, k, rfl, rfl, ⟨h0, h1⟩, ⟨hk, hn, hm, hm8⟩, rfl⟩ := hp
      refine ⟨_, (pss_cons (ps_set (i := 5) sc_law_axioms.nd rfl (.inl rfl) (pe_lst pa_nil))
          (pss_cons (ps_for PassesOwn.never rfl (pi_range1 (by rfl) z_range (pa_cons (pv 2) pa_nil)) (pg_name (i := 6) sc_law_axioms.nd rfl (.inl rfl)) (pss_cons (ps_set (i := 7) sc_law_axioms.nd rfl (.inl rfl) (pc c_law_axiom hr (by first | decide | omega) (by rfl) (pa_cons (pc c_law_box hr (by first | decide | omega) (by rfl) (pa_cons (pv 0) (pa_cons (pe_op op_add pe_int (pv 6)) pa_nil))) (pa_cons (pv 1) (pa_cons (pv 4) pa_nil)))))
          (pss_one (ps_if (pt_cmpR op_le (pe_callB (lenQ (K := K)) (by rfl) z_len PySem.boot_len (pa_cons (pc c_law_atoms hr (by first | decide | omega) (by rfl) (pa_cons (pe_op op_cat (pv 5) (pe_lst (pa_cons (pv 7) pa_nil))) (pa_cons (pe_lst pa_nil) pa_nil))) pa_nil)) (pv 3) (nomark _)) (pss_one (ps_expr (kBM (K := K) (pe_bm PySem.F.plainAttrs_list PySem.F.slot_list_append PySem.F.type_list_append mt_append (pv 5) (pa_cons (pv 7) pa_nil))))) pss_nil))))
          (pss_one (ps_ret (pe_callTy (call_tupD (K := K)) (by rfl) z_tuple (by decide +kernel) (pa_cons (pv 5) pa_nil)))))), ?_⟩
      walk_at "in"
      walk_at "dl"
      rename Addr => a
      refine x_forR (fun i ρ u => ρ = [.d (.list (ns.map .int)), .d (szD s0 s1 s2), .d (.int m), .d (.int r), .d (.int k), .v (.ref a), .u, .u] ∧ ∃ xs : List (List Pt), u = [(a, .lst (xs.map axD))] ∧ (∀ x ∈ xs, x ≠ [] ∧ x.length ≤ 2 ∧ ∀ p ∈ x, p.OkN s0 s1 s2 (k.toNat + 1)) ∧ xs.length ≤ i ∧ (gathers xs.flatten []).length ≤ r.toNat) (by assumption) (by omega) (by omega) ⟨rfl, [], rfl, (fun _ h => nomatch h), Nat.le_refl _, Nat.zero_le _⟩ ?_ ?_
      · rintro i ρ1 u1 hi ⟨rfl, xs, rfl, hxs, hl, hg⟩ σ1 H1 M1 S1
        walk_at "dl"
        refine x_cO (by assumption) (by walk_at "slt") ⟨ns, 2 + (i : Int), rfl, rfl, by omega, rfl⟩ ?_
        rintro _ rfl b H_ M_ S_
        walk_at "dl"
        refine x_c1 0 (by assumption) rfl (by walk_at "slt") ⟨b, s0, s1, s2, k, rfl, rfl, h0, h1, by omega, rfl⟩ ?_
        rintro _ _ ⟨rfl, x, rfl, hx1, hx2, hx3⟩ H_ M_ w_ hw S_
        cases hw
        walk_at "dl"
        refine x_cat 2 0 (by assumption) rfl rfl (by rw [List.length_map]; exact Nat.le_trans (by show xs.length + 1 ≤ 60; omega) (by decide)) fun a_ H_ S_ => ?_
        walk_at "dl"
        rename Ds _ _ _ _ _ _ _ _ _ => S_
        obtain ⟨M_, S_⟩ := S_.freeze List.not_mem_nil
        rename Ds _ _ _ _ _ _ _ _ _ => S_
        obtain ⟨M_, S_⟩ := S_.freeze List.not_mem_nil
        have hall : ∀ y ∈ xs ++ [x], y ≠ [] ∧ y.length ≤ 2 ∧ ∀ p ∈ y, p.OkN s0 s1 s2 (k.toNat + 1) := fun y hy => (List.mem_append.mp hy).elim (hxs y) fun h => List.mem_singleton.mp h ▸ ⟨hx1, hx2, hx3⟩
        refine x_cO (by assumption) (by walk_at "slt") ⟨false, false, xs ++ [x], [], by rw [← map_snoc]; rfl, rfl, ⟨hn, by rw [List.length_append]; show xs.length + 1 ≤ 12; omega, by show 0 ≤ 12; omega⟩, fun y hy => ⟨Nat.le_trans (hall y hy).2.1 (by decide), fun p hp => ((hall y hy).2.2 p hp).lo hk⟩, (fun _ h => nomatch h), rfl⟩ ?_
        rintro _ rfl c H_ M_ S_
        walk_at "dl"
        have hl2 : xs.length < sizeLine := Nat.lt_of_lt_of_le (by omega : xs.length < 60) (by decide)
        rename Ds _ _ _ _ _ _ _ _ _ => S_
        have S_ := S_.subw (w' := [(a, .lst (xs.map axD))]) (.cons _ (.cons _ (.cons _ (.refl _))))
        have e1 : (gathers ((xs ++ [x]).flatten ++ []) []).map Cp.D = (gathers (xs ++ [x]).flatten []).map Cp.D := by rw [List.append_nil]
        rw [e1, List.length_map]
        refine x_if (fun h => ?_) (fun h => ?_)
        · have h := of_decide_eq_true h
          walk_at "dl"
          refine x_appK 0 (by assumption) rfl (by walk_at "tm") (by rw [List.length_map]; exact hl2) (by walk_at "set") fun H_ S_ => ?_
          walk_at "dl"
          exact Nx.at (by assumption) (by walk_at "le") ⟨rfl, xs ++ [x], own_snoc, hall, by rw [List.length_append]; exact Nat.succ_le_succ hl, by omega⟩
        · walk_at "dl"
          exact Nx.at (by assumption) (by walk_at "le") ⟨rfl, xs, rfl, hxs, Nat.le_succ_of_le hl, hg⟩
      · rintro ρ1 u1 ⟨rfl, xs, rfl, hxs, hl, hg⟩ σ1 H1 M1 S1
        walk_at "dl"
        exact x_rD (by assumption) hq (by walk_at "tm") ⟨xs, rfl, hxs, by omega, hg⟩
    ))) only [↓Pf.Gate.lem]
end
section
variable {P : Program} {w : World} {K : PySem.W.Frag} {mg : Str → Option Value} {base : Heap}
def StpB (n : Nat) (st : List Stp) : Prop := st.length ≤ 3 ∧ ∀ s ∈ st, s.1 < (n : Int)
def pLawSteps : Pre := fun ss u post => ∃ (b : Addr) (xs : List (List Pt)) (r : Ro), ss = [.v (.ref b), .d (.tuple (xs.map axD)), .d (ro r)] ∧ u = [(b, .box)] ∧ xs.length ≤ 1000 ∧ (∀ x ∈ xs, x.length ≤ 1000) ∧ post = pD1 b fun d od => od = .box ∧ ∃ (st : List Stp) (q : Ro), d = .tuple [spsD st, ro q] ∧ StOk st ∧ StpB xs.length st
theorem StOk.snoc {st : List Stp} {s : Stp} (h : StOk st) (a : 0 ≤ s.1) (b : 0 ≤ s.2.1) : StOk (st ++ [s]) := fun x hx => (List.mem_append.mp hx).elim (h x) fun z => by
  rw [List.mem_singleton.mp z]
  exact ⟨a, b⟩
theorem c_law_steps {f : Addr} {fd : FuncData} (D : Df K mg "_law_steps" s_law_steps f fd ["box", "axioms", "role"]) (c_law_draw : Cl P w K mg base 1 "_law_draw" (spG K pDraw)) (c_law_back : Cl P w K mg base 1 "_law_back" (spG K pInverse)) (z_range : mg "range" = none) (z_len : mg "len" = none) (z_tuple : mg "tuple" = none) : Cl P w K mg base 2 "_law_steps" (spG K pLawSteps) := by
  refine Pf.Gate.out ?_
  simp (disch := (with_unfolding_all (
      refine D.go sc_law_steps (pLawSteps) (fun ss u post h => by repeat (first | (obtain ⟨rfl, _⟩ := h; rfl) | obtain ⟨_, h⟩ := h)) fun cdv A outer s H M vs Q E ss u post hr hp S hq => ?_
      obtain ⟨b, xs, r, rfl, rfl, hxl, hx, rfl⟩ := hp
      refine ⟨_, (pss_cons (ps_set (i := 3) sc_law_steps.nd rfl (.inl rfl) (pe_lst pa_nil))
          (pss_cons (ps_for PassesOwn.never rfl (pi_range1 (by rfl) z_range (pa_cons (pc c_law_draw hr (by first | decide | omega) (by rfl) (pa_cons (pv 0) (pa_cons pe_int pa_nil))) pa_nil)) (pg_name (i := 4) sc_law_steps.nd rfl (.inl rfl)) (pss_one (ps_for PassesOwn.never rfl (pi_range1 (by rfl) z_range (pa_cons (pe_callB (lenQ (K := K)) (by rfl) z_len PySem.boot_len (pa_cons (pv 1) pa_nil)) pa_nil)) (pg_name (i := 5) sc_law_steps.nd rfl (.inl rfl)) (pss_one (ps_for PassesOwn.never rfl (pi_range1 (by rfl) z_range (pa_cons (pe_callB (lenQ (K := K)) (by rfl) z_len PySem.boot_len (pa_cons (pe_ix (ixT (K := K)) (pv 1) (pv 5) (fun _ _ => rfl)) pa_nil)) pa_nil)) (pg_name (i := 6) sc_law_steps.nd rfl (.inl rfl)) (pss_cons (ps_set (i := 7) sc_law_steps.nd rfl (.inl rfl) (pe_ix (ixT (K := K)) (pe_ix (ixT (K := K)) (pv 1) (pv 5) (fun _ _ => rfl)) (pv 6) (fun _ _ => rfl)))
          (pss_one (ps_if (PW.pt (pw_and (pt_cmpR op_eq (pe_ix (ixT (K := K)) (pv 7) pe_int (fun _ _ => rfl)) pe_str (nomark _)) (pw_and (pt_cmpR (kEqD (K := K) hr.units) (pe_ix (ixT (K := K)) (pv 7) pe_int (fun _ _ => rfl)) (pv 2) (nomark _)) (pw_and1 (pt_cmpR op_eq (pe_callB (lenQ (K := K)) (by rfl) z_len PySem.boot_len (pa_cons (pv 3) pa_nil)) (pv 4) (nomark _)))))) (pss_cons (ps_expr (kBM (K := K) (pe_bm PySem.F.plainAttrs_list PySem.F.slot_list_append PySem.F.type_list_append mt_append (pv 3) (pa_cons (pe_tup (pa_cons (pv 5) (pa_cons (pv 6) (pa_cons pe_bl pa_nil)))) pa_nil))))
          (pss_one (ps_set (i := 2) sc_law_steps.nd rfl (.inl rfl) (pe_ix (ixT (K := K)) (pv 7) pe_int (fun _ _ => rfl))))) (pss_one (ps_if (PW.pt (pw_and (pt_cmpR op_eq (pe_ix (ixT (K := K)) (pv 7) pe_int (fun _ _ => rfl)) pe_str (nomark _)) (pw_and (pt_cmpR (kEqD (K := K) hr.units) (pc c_law_back hr (by first | decide | omega) (by rfl) (pa_cons (pe_ix (ixT (K := K)) (pv 7) pe_int (fun _ _ => rfl)) pa_nil)) (pv 2) (nomark _)) (pw_and1 (pt_cmpR op_eq (pe_callB (lenQ (K := K)) (by rfl) z_len PySem.boot_len (pa_cons (pv 3) pa_nil)) (pv 4) (nomark _)))))) (pss_cons (ps_expr (kBM (K := K) (pe_bm PySem.F.plainAttrs_list PySem.F.slot_list_append PySem.F.type_list_append mt_append (pv 3) (pa_cons (pe_tup (pa_cons (pv 5) (pa_cons (pv 6) (pa_cons pe_bl pa_nil)))) pa_nil))))
          (pss_one (ps_set (i := 2) sc_law_steps.nd rfl (.inl rfl) (pc c_law_back hr (by first | decide | omega) (by rfl) (pa_cons (pe_ix (ixT (K := K)) (pv 7) pe_int (fun _ _ => rfl)) pa_nil))))) pss_nil))))))))))
          (pss_one (ps_ret (pe_tup (pa_cons (pe_callTy (call_tupD (K := K)) (by rfl) z_tuple (by decide +kernel) (pa_cons (pv 3) pa_nil)) (pa_cons (pv 2) pa_nil))))))), ?_⟩
      walk_at "in"
      walk_at "dl"
      rename Addr => a
      refine x_c1 1 (by assumption) rfl (by walk_at "slt") ⟨b, 3, rfl, rfl, by decide, rfl⟩ ?_
      rintro _ _ ⟨rfl, m, rfl, hm0, hm1⟩ H_ M_ w_ hw S_
      cases hw
      rename SetAt _ _ _ _ => hw
      cases hw
      walk_at "dl"
      refine x_forR (fun i ρ u => ∃ (st : List Stp) (q : Ro), ρ = [.v (.ref b), .d (.tuple (xs.map axD)), .d (ro q), .v (.ref a), .u, .u, .u, .u] ∧ u = [(a, .lst (st.map spD)), (b, .box)] ∧ StOk st ∧ StpB xs.length st) (by assumption) (by omega) (by omega) ⟨[], r, rfl, rfl, (fun _ h => nomatch h), Nat.zero_le _, fun _ h => nomatch h⟩ ?_ ?_
      · rintro i ρ1 u1 hi ⟨st, q, rfl, rfl, hst, hl⟩ σ1 H1 M1 S1
        walk_at "dl"
        refine x_forR (fun j ρ u => ∃ (st : List Stp) (q : Ro), ρ = [.v (.ref b), .d (.tuple (xs.map axD)), .d (ro q), .v (.ref a), .d (.int i), .u, .u, .u] ∧ u = [(a, .lst (st.map spD)), (b, .box)] ∧ StOk st ∧ StpB xs.length st) (by assumption) (by omega) (by rw [List.length_map]; omega) ⟨st, q, rfl, rfl, hst, hl⟩ ?_ ?_
        · clear hst hl
          rintro j ρ2 u2 hj ⟨st, q, rfl, rfl, hst, hl⟩ σ2 H2 M2 S2
          rw [List.length_map] at hj
          obtain ⟨x, hx'⟩ : ∃ x, xs[j]? = some x := ⟨_, List.getElem?_eq_getElem (by omega)⟩
          have hat := at_nat (f := axD) hx'
          have hxl2 := hx x (List.mem_of_getElem? hx')
          walk_at "dl"
          refine x_ixT (by assumption) (by walk_at "tm") hat ?_
          walk_at "dl"
          refine x_forR (fun k ρ u => ∃ (st : List Stp) (q : Ro), ρ = [.v (.ref b), .d (.tuple (xs.map axD)), .d (ro q), .v (.ref a), .d (.int i), .d (.int j), .u, .u] ∧ u = [(a, .lst (st.map spD)), (b, .box)] ∧ StOk st ∧ StpB xs.length st) (by assumption) (by omega) (by rw [List.length_map]; omega) ⟨st, q, rfl, rfl, hst, hl⟩ ?_ ?_
          · clear hst hl
            rintro k ρ3 u3 hk ⟨st, q, rfl, rfl, hst, hl⟩ σ3 H3 M3 S3
            rw [List.length_map] at hk
            have hl1 := hl.1
            have hz : (st.map spD).length < sizeLine := by rw [List.length_map]; exact Nat.lt_of_lt_of_le (by omega : _ < 60) (by decide)
            obtain ⟨p, hp'⟩ : ∃ x', x[k]? = some x' := ⟨_, List.getElem?_eq_getElem (by omega)⟩
            have hat2 := at_nat (f := Pt.D) hp'
            have hpick : ∀ (t : Bool), st.length = i → StOk (st ++ [((j : Int), (k : Int), t)]) ∧ StpB xs.length (st ++ [((j : Int), (k : Int), t)]) := fun t h => ⟨hst.snoc (by show (0 : Int) ≤ j; omega) (by show (0 : Int) ≤ k; omega), by rw [List.length_append]; show st.length + 1 ≤ 3; omega, fun s hs => (List.mem_append.mp hs).elim (hl.2 s) fun z => by rw [List.mem_singleton.mp z]; show (j : Int) < xs.length; omega⟩
            walk_at "dl"
            refine x_ixT (by assumption) (by walk_at "tm") hat ?_
            walk_at "dl"
            refine x_ixT (by assumption) (by walk_at "tm") hat2 ?_
            cases p with
            | under r1 b1 s1 b1' =>
              walk_at "dl"
              rename Ds _ _ _ _ _ _ _ _ _ => S_
              simp only [Pt.D] at S_
              walk_at "dl"
              refine x_eqX ro_enc (c := (r1, b1)) (d := q) (by assumption) (by walk_at "tm") (by walk_at "tm") (by decide : 1 ≤ 64) (by decide : 1 ≤ 64) ?_
              walk_at "dl"
              refine x_if (fun h1 => ?_) (fun h1 => ?_)
              · walk_at "dl"
                rw [List.length_map]
                refine x_if (fun h2 => ?_) (fun h2 => ?_)
                · have h2 := of_decide_eq_true h2
                  walk_at "dl"
                  refine x_appK 0 (by assumption) rfl (e := spD ((j : Int), (k : Int), false)) (by walk_at "tm") hz (by walk_at "set") fun H_ S_ => ?_
                  walk_at "dl"
                  exact Nx.at (by assumption) (by walk_at "le") ⟨st ++ [((j : Int), (k : Int), false)], (s1, b1'), rfl, own_snoc, hpick false (by omega)⟩
                · walk_at "dl"
                  refine x_cD (by assumption) (by walk_at "slt") ⟨(r1, b1), rfl, rfl, rfl⟩ ?_
                  rintro _ rfl H_ M_ S_
                  walk_at "dl"
                  refine x_eqX ro_enc (c := (r1, !b1)) (d := q) (by assumption) (by walk_at "tm") (by walk_at "tm") (by decide : 1 ≤ 64) (by decide : 1 ≤ 64) ?_
                  walk_at "dl"
                  refine x_if (fun h3 => ?_) (fun h3 => ?_)
                  · walk_at "dl"
                    rw [List.length_map]
                    refine x_if (fun h4 => ?_) (fun h4 => ?_)
                    · have h4 := of_decide_eq_true h4
                      walk_at "dl"
                      refine x_appK 0 (by assumption) rfl (e := spD ((j : Int), (k : Int), true)) (by walk_at "tm") hz (by walk_at "set") fun H_ S_ => ?_
                      walk_at "dl"
                      refine x_cD (by assumption) (by walk_at "slt") ⟨(s1, b1'), rfl, rfl, rfl⟩ ?_
                      rintro _ rfl H_ M_ S_
                      walk_at "dl"
                      exact Nx.at (by assumption) (by walk_at "le") ⟨st ++ [((j : Int), (k : Int), true)], (s1, !b1'), rfl, own_snoc, hpick true (by omega)⟩
                    · walk_at "dl"
                      exact Nx.at (by assumption) (by walk_at "le") ⟨st, q, rfl, rfl, hst, hl⟩
                  · walk_at "dl"
                    exact Nx.at (by assumption) (by walk_at "le") ⟨st, q, rfl, rfl, hst, hl⟩
              · walk_at "dl"
                refine x_cD (by assumption) (by walk_at "slt") ⟨(r1, b1), rfl, rfl, rfl⟩ ?_
                rintro _ rfl H_ M_ S_
                walk_at "dl"
                refine x_eqX ro_enc (c := (r1, !b1)) (d := q) (by assumption) (by walk_at "tm") (by walk_at "tm") (by decide : 1 ≤ 64) (by decide : 1 ≤ 64) ?_
                walk_at "dl"
                refine x_if (fun h3 => ?_) (fun h3 => ?_)
                · walk_at "dl"
                  rw [List.length_map]
                  refine x_if (fun h4 => ?_) (fun h4 => ?_)
                  · have h4 := of_decide_eq_true h4
                    walk_at "dl"
                    refine x_appK 0 (by assumption) rfl (e := spD ((j : Int), (k : Int), true)) (by walk_at "tm") hz (by walk_at "set") fun H_ S_ => ?_
                    walk_at "dl"
                    refine x_cD (by assumption) (by walk_at "slt") ⟨(s1, b1'), rfl, rfl, rfl⟩ ?_
                    rintro _ rfl H_ M_ S_
                    walk_at "dl"
                    exact Nx.at (by assumption) (by walk_at "le") ⟨st ++ [((j : Int), (k : Int), true)], (s1, !b1'), rfl, own_snoc, hpick true (by omega)⟩
                  · walk_at "dl"
                    exact Nx.at (by assumption) (by walk_at "le") ⟨st, q, rfl, rfl, hst, hl⟩
                · walk_at "dl"
                  exact Nx.at (by assumption) (by walk_at "le") ⟨st, q, rfl, rfl, hst, hl⟩
            | _ =>
              walk_at "dl"
              rename Ds _ _ _ _ _ _ _ _ _ => S_
              simp only [Pt.D] at S_
              walk_at "dl"
              exact Nx.at (by assumption) (by walk_at "le") ⟨st, q, rfl, rfl, hst, hl⟩
          · clear hst hl
            rintro ρ3 u3 ⟨st, q, rfl, rfl, hst, hl⟩ σ3 H3 M3 S3
            walk_at "dl"
            exact Nx.at (by assumption) (by walk_at "le") ⟨st, q, rfl, rfl, hst, hl⟩
        · clear hst hl
          rintro ρ2 u2 ⟨st, q, rfl, rfl, hst, hl⟩ σ2 H2 M2 S2
          walk_at "dl"
          exact Nx.at (by assumption) (by walk_at "le") ⟨st, q, rfl, rfl, hst, hl⟩
      · rintro ρ1 u1 ⟨st, q, rfl, rfl, hst, hl⟩ σ1 H1 M1 S1
        walk_at "dl"
        exact x_r1 (by assumption) hq (by walk_at "tm") 1 rfl ⟨rfl, st, q, rfl, hst, hl⟩
    ))) only [↓Pf.Gate.lem]
end
abbrev fa : Cp × Bool → PyData := fun x => .tuple [x.1.D, .bool x.2]
theorem fa_enc : Enc fa where
  eq := fun a b => by
    show (PyData.eqv a.1.D b.1.D && (PyData.eqv (.bool a.2) (.bool b.2) && true)) = _
    rw [Cp.eq, Cp.eqB, Bool.and_true, Bool.eq_iff_iff, Bool.and_eq_true, decide_eq_true_iff, decide_eq_true_iff, decide_eq_true_iff]
    exact ⟨fun h => Prod.ext h.1 h.2, fun h => h ▸ ⟨rfl, rfl⟩⟩
  lay := fun a => by
    show (a.1.D.canLay0 && (true && true)) = true
    rw [Cp.lay]
    rfl
theorem fa_depth (x : Cp × Bool) : (fa x).depth ≤ x.1.dp + 3 := by
  have := x.1.depth
  show max x.1.D.depth (max 0 0) + 1 ≤ _
  omega
def Cp.known : Cp → Bool → List (Cp × Bool)
  | .any, h => [(.any, h)]
  | .name n, h => [(.name n, h)]
  | .not c, h => (.not c, h) :: c.known (!h)
  | .both c d, h => (.both c d, h) :: (if h = true then c.known true ++ d.known true else [])
  | .some r b c, h => [(.some r b c, h)]
theorem Cp.sz_pos : ∀ c : Cp, 1 ≤ c.sz
  | .any => Nat.le_refl _
  | .name _ => Nat.le_refl _
  | .not _ => Nat.succ_le_succ (Nat.zero_le _)
  | .both _ _ => Nat.succ_le_succ (Nat.zero_le _)
  | .some _ _ _ => Nat.succ_le_succ (Nat.zero_le _)
theorem Cp.known_len : ∀ (c : Cp) (h : Bool), (c.known h).length ≤ c.sz
  | .any, _ => Nat.le_refl _
  | .name _, _ => Nat.le_refl _
  | .not c, h => Nat.succ_le_succ (known_len c (!h))
  | .both c d, h => by
    have h1 := known_len c true
    have h2 := known_len d true
    cases h with
    | true =>
      show (c.known true ++ d.known true).length + 1 ≤ c.sz + d.sz + 1
      rw [List.length_append]
      omega
    | false => exact Nat.succ_le_succ (Nat.zero_le _)
  | .some _ _ c, _ => Nat.succ_le_succ (Nat.zero_le _)
def Cp.sure (m : Cp → Bool → Bool) : Cp → Bool → Bool
  | .any, h => m .any h || h
  | .name n, h => m (.name n) h
  | .not c, h => m (.not c) h || c.sure m (!h)
  | .both c d, h => m (.both c d) h || (if h = true then c.sure m true && d.sure m true else c.sure m false || d.sure m false)
  | .some r b c, h => m (.some r b c) h
abbrev inF (fs : List (Cp × Bool)) : Cp → Bool → Bool := fun c h => memD (c, h) fs
section
variable {P : Program} {w : World} {K : PySem.W.Frag} {mg : Str → Option Value} {base : Heap}
def pKnown (n : Nat) : Pre := fun ss u post => ∃ (c : Cp) (h : Bool), ss = [.d c.D, .d (.bool h)] ∧ u = [] ∧ c.dp < n ∧ c.sz ≤ 100000 ∧ post = pO fun od => od = .lst ((c.known h).map fa)
def pSure (n : Nat) : Pre := fun ss u post => ∃ (fs : List (Cp × Bool)) (c : Cp) (h : Bool), ss = [.d (.list (fs.map fa)), .d c.D, .d (.bool h)] ∧ u = [] ∧ c.dp < n ∧ n ≤ 202 ∧ post = pD fun d => d = .bool (c.sure (inF fs) h)
def rwD : Int × Cp → PyData := fun r => .tuple [.int r.1, r.2.D]
def factsOf (rs : List (Int × Cp)) (i : Int) : List (Cp × Bool) := (rs.filter fun r => decide (r.1 = i)).flatMap fun r => r.2.known true
def pFacts (n : Nat) : Pre := fun ss u post => ∃ (b : Bool) (rs : List (Int × Cp)) (i : Int), ss = [.d (seqD b (rs.map rwD)), .d (.int i)] ∧ u = [] ∧ (rs.length ≤ 400 ∧ ∀ r ∈ rs, r.2.dp < n ∧ r.2.sz ≤ 10000) ∧ post = pO fun od => od = .lst ((factsOf rs i).map fa)
theorem facts_len {i : Int} : ∀ {rs : List (Int × Cp)}, (∀ r ∈ rs, r.2.sz ≤ 10000) → (factsOf rs i).length ≤ rs.length * 10000
  | [], _ => Nat.le_refl _
  | r :: rs, h => by
    have h1 := facts_len (i := i) fun q hq => h q (List.mem_cons_of_mem _ hq)
    have h2 := h r (List.mem_cons_self ..)
    have h3 := r.2.known_len true
    unfold factsOf at h1 ⊢
    rw [List.filter_cons, List.length_cons, Nat.succ_mul]
    split
    · rw [List.flatMap_cons, List.length_append]
      omega
    · omega
theorem facts_snoc {rs : List (Int × Cp)} {r : Int × Cp} {i : Int} : factsOf (rs ++ [r]) i = factsOf rs i ++ (if r.1 = i then r.2.known true else []) := by
  unfold factsOf
  rw [List.filter_append, List.flatMap_append]
  congr 1
  by_cases h : r.1 = i
  · simp [h]
  · simp [h]
def pCertain (n : Nat) : Pre := fun ss u post => ∃ (rs : List (Int × Cp)) (i : Int) (c : Cp) (h : Bool), ss = [.d (.tuple (rs.map rwD)), .d (.int i), .d c.D, .d (.bool h)] ∧ u = [] ∧ (rs.length ≤ 400 ∧ ∀ r ∈ rs, r.2.dp < n ∧ r.2.sz ≤ 10000) ∧ c.dp < n ∧ n ≤ 202 ∧ post = pD fun d => d = .bool (c.sure (inF (factsOf rs i)) h)
def pLawCertain (n : Nat) : Pre := fun ss u post => ∃ (b : Bool) (rs : List (Int × Cp)) (i : Int) (c : Cp) (h : Bool), ss = [.d (seqD b (rs.map rwD)), .d (.int i), .d c.D, .d (.bool h)] ∧ u = [] ∧ (rs.length ≤ 400 ∧ ∀ r ∈ rs, r.2.dp < n ∧ r.2.sz ≤ 10000) ∧ c.dp < n ∧ n ≤ 202 ∧ post = pD fun d => d = .bool (c.sure (inF (factsOf rs i)) h)
end
section
variable {P : Program} {w : World} {K : PySem.W.Frag} {mg : Str → Option Value} {base : Heap}
abbrev knD (hs fl : List Cp) : PyData := .tuple [.list (hs.map Cp.D), .list (fl.map Cp.D)]
abbrev inS (hs fl : List Cp) : Cp → Bool → Bool := fun c h => memD c (if h = true then hs else fl)
def pSettled (n : Nat) : Pre := fun ss u post => ∃ (hs fl : List Cp) (c : Cp) (h : Bool), ss = [.d (knD hs fl), .d c.D, .d (.bool h)] ∧ u = [] ∧ c.dp < n ∧ n ≤ 202 ∧ post = pD fun d => d = .bool (c.sure (inS hs fl) h)
theorem c_is_settled {f : Addr} {fd : FuncData} (D : Df K mg "_is_settled" s_is_settled f fd ["known", "concept", "holds"]) (z_all : mg "all" = none) (z_any : mg "any" = none) : ∀ n : Nat, Cl P w K mg base (n + 1) "_is_settled" (spG K (pSettled n))
  | 0 => D.vain sc_is_settled _ fun ss u post ⟨hs, fl, c, h, _, _, q, _⟩ => absurd q (Nat.not_lt_zero _)
  | n + 1 => by
    have c_is_settled := c_is_settled D z_all z_any n
    refine D.go sc_is_settled (pSettled (n + 1)) (fun ss u post h => by repeat (first | (obtain ⟨rfl, _⟩ := h; rfl) | obtain ⟨_, h⟩ := h)) fun cdv A outer s H M vs Q E ss u post hr hp S hq => ?_
    obtain ⟨hs, fl, c, h, rfl, rfl, hc, hn, rfl⟩ := hp
    refine ⟨_, (pss_cons (ps_asg (pv 0) (kGT (K := K) (n := 2) (pg_tup (by rfl) (pgs_cons (pg_name (i := 3) sc_is_settled.nd rfl (.inl rfl)) (pgs_cons (pg_name (i := 4) sc_is_settled.nd rfl (.inl rfl)) pgs_nil)))))
      (pss_cons (ps_if (pt_cmpR (kInB (K := K) (uB hr)) (pv 1) (pe_ifExp (pt_val (pv 2)) (pv 3) (pv 4)) rfl) (pss_one (ps_ret pe_bl)) pss_nil)
      (pss_cons (ps_set (i := 5) sc_is_settled.nd rfl (.inl rfl) (pe_ix (ixT (K := K)) (pv 1) pe_int (fun _ _ => rfl)))
      (pss_cons (ps_if (pt_cmpR op_eq (pv 5) pe_str (nomark _)) (pss_one (ps_ret (pv 2))) pss_nil)
      (pss_cons (ps_if (pt_cmpR op_eq (pv 5) pe_str (nomark _)) (pss_one (ps_ret (pc c_is_settled hr (by first | decide | omega) (by rfl) (pa_cons (pv 0) (pa_cons (pe_ix (ixT (K := K)) (pv 1) pe_int (fun _ _ => rfl)) (pa_cons (pe_not (pv 2)) pa_nil)))))) pss_nil)
      (pss_cons (ps_if (pt_cmpR op_eq (pv 5) pe_str (nomark _)) (pss_cons (ps_setLc (i := 6) (own := [("operand", 7)]) (g := gName 7) (tt := tYes) (by rfl) sc_is_settled.nd rfl rfl (sw_true rfl rfl rfl (by decide +kernel)) (kIT (K := K) (pi_tup (pe_slice (kSlA (K := K)) (pv 1) (po_some pe_int) po_none))) (blkOk_by (own := [("operand", 7)]) (N := ["known", "concept", "holds", "holding", "failing", "kind", "settled", "operand"]) (sc := defScope s_is_settled) (by decide +kernel)) (fun _ _ _ _ _ => pg_name (i := 7) sc_is_settled.nd rfl (.inl rfl)) (fun _ _ _ _ _ => pts_nil) (fun _ _ _ _ _ => (pc c_is_settled hr (by first | decide | omega) (by rfl) (pa_cons (pv 0) (pa_cons (pv 7) (pa_cons (pv 2) pa_nil))))))
      (pss_one (ps_ret (pe_ifExp (pt_val (pv 2)) (pe_callB (kAll (K := K) rfl) (by rfl) z_all (by decide +kernel) (pa_cons (pv 6) pa_nil)) (pe_callB (kAny (K := K) rfl) (by rfl) z_any (by decide +kernel) (pa_cons (pv 6) pa_nil)))))) pss_nil)
      (pss_one (ps_ret pe_bl)))))))), ?_⟩
    walk_at "in"
    have h64 : ∀ c' : Cp, c' = c → c'.D.depth ≤ 206 := fun c' e => e ▸ Nat.le_trans c.depth (by omega)
    obtain ⟨x0, e0⟩ : ∃ x, memD c (if h = true then hs else fl) = x := ⟨_, rfl⟩
    cases c with
    | any =>
      rename Ds _ _ _ _ _ _ _ _ _ => S_
      simp only [Cp.D] at S_
      walk_at "dl"
      refine x_sel (f := Cp.D) (by assumption) rfl rfl ?_
      walk_at "dl"
      refine z_inLB Cp.enc (by assumption) (c := .any) (by walk_at "tm") (by walk_at "tm") (h64 _ rfl) e0 ?_
      walk_at "dl"
      have e3 : (Cp.any).sure (inS hs fl) h = (x0 || h) := by rw [← e0]; rfl
      clear e0
      cases x0 with
      | true =>
        walk_at "dl"
        exact x_rD (by assumption) hq (by walk_at "tm") (congrArg PyData.bool e3.symm)
      | false =>
        walk_at "dl"
        exact x_rD (by assumption) hq (by walk_at "tm") (congrArg PyData.bool e3.symm)
    | name m =>
      rename Ds _ _ _ _ _ _ _ _ _ => S_
      simp only [Cp.D] at S_
      walk_at "dl"
      refine x_sel (f := Cp.D) (by assumption) rfl rfl ?_
      walk_at "dl"
      refine z_inLB Cp.enc (by assumption) (c := .name m) (by walk_at "tm") (by walk_at "tm") (h64 _ rfl) e0 ?_
      walk_at "dl"
      have e3 : (Cp.name m).sure (inS hs fl) h = x0 := e0
      clear e0
      cases x0 with
      | true =>
        walk_at "dl"
        exact x_rD (by assumption) hq (by walk_at "tm") (congrArg PyData.bool e3.symm)
      | false =>
        walk_at "dl"
        exact x_rD (by assumption) hq (by walk_at "tm") (congrArg PyData.bool e3.symm)
    | some r b c =>
      rename Ds _ _ _ _ _ _ _ _ _ => S_
      simp only [Cp.D] at S_
      walk_at "dl"
      refine x_sel (f := Cp.D) (by assumption) rfl rfl ?_
      walk_at "dl"
      refine z_inLB Cp.enc (by assumption) (c := .some r b c) (by walk_at "tm") (by walk_at "tm") (h64 _ rfl) e0 ?_
      walk_at "dl"
      have e3 : (Cp.some r b c).sure (inS hs fl) h = x0 := e0
      clear e0
      cases x0 with
      | true =>
        walk_at "dl"
        exact x_rD (by assumption) hq (by walk_at "tm") (congrArg PyData.bool e3.symm)
      | false =>
        walk_at "dl"
        exact x_rD (by assumption) hq (by walk_at "tm") (congrArg PyData.bool e3.symm)
    | not c =>
      rename Ds _ _ _ _ _ _ _ _ _ => S_
      simp only [Cp.D] at S_
      walk_at "dl"
      refine x_sel (f := Cp.D) (by assumption) rfl rfl ?_
      walk_at "dl"
      refine z_inLB Cp.enc (by assumption) (c := .not c) (by walk_at "tm") (by walk_at "tm") (h64 _ rfl) e0 ?_
      walk_at "dl"
      have e3 : (Cp.not c).sure (inS hs fl) h = (x0 || c.sure (inS hs fl) (!h)) := by rw [← e0]; rfl
      clear e0
      cases x0 with
      | true =>
        walk_at "dl"
        exact x_rD (by assumption) hq (by walk_at "tm") (congrArg PyData.bool e3.symm)
      | false =>
        walk_at "dl"
        refine x_cD (by assumption) (by walk_at "slt") ⟨hs, fl, c, !h, rfl, rfl, Nat.lt_of_succ_lt_succ hc, by omega, rfl⟩ ?_
        rintro _ rfl H_ M_ S_
        walk_at "dl"
        exact x_rD (by assumption) hq (by walk_at "tm") (congrArg PyData.bool e3.symm)
    | both c d =>
      have hc1 : c.dp < n := by have : max c.dp d.dp + 1 < n + 1 := hc; omega
      have hc2 : d.dp < n := by have : max c.dp d.dp + 1 < n + 1 := hc; omega
      rename Ds _ _ _ _ _ _ _ _ _ => S_
      simp only [Cp.D] at S_
      walk_at "dl"
      refine x_sel (f := Cp.D) (by assumption) rfl rfl ?_
      walk_at "dl"
      refine z_inLB Cp.enc (by assumption) (c := .both c d) (by walk_at "tm") (by walk_at "tm") (h64 _ rfl) e0 ?_
      walk_at "dl"
      have e3 : (Cp.both c d).sure (inS hs fl) h = (x0 || if h = true then c.sure (inS hs fl) h && d.sure (inS hs fl) h else c.sure (inS hs fl) h || d.sure (inS hs fl) h) := by
        rw [← e0]
        cases h <;> rfl
      clear e0
      cases x0 with
      | true =>
        walk_at "dl"
        exact x_rD (by assumption) hq (by walk_at "tm") (congrArg PyData.bool e3.symm)
      | false =>
        walk_at "dl"
        refine x_lc1T (fun j acc u => acc = ([c.sure (inS hs fl) h, d.sure (inS hs fl) h].take j).map .bool ∧ u = []) (by assumption) (by walk_at "tm") ⟨rfl, rfl⟩ ?_ ?_
        · rintro j e acc w1 hj ⟨rfl, rfl⟩ D4 σ4 H4 M4 hrw S4
          rcases j with _ | _ | j
          · cases hj
            rename Ds _ _ _ _ _ _ _ _ _ => S_
            simp only [List.set_cons_succ, List.set_cons_zero] at S_
            walk_at "dl"
            refine x_cD (by assumption) (by walk_at "slt") ⟨hs, fl, c, h, rfl, rfl, hc1, by omega, rfl⟩ ?_
            rintro _ rfl H_ M_ S_
            walk_at "dl"
            exact x_lcA (by assumption) (by assumption) (by walk_at "tm") (by show 0 < sizeLine; decide) ⟨rfl, rfl⟩
          · cases hj
            rename Ds _ _ _ _ _ _ _ _ _ => S_
            simp only [List.set_cons_succ, List.set_cons_zero] at S_
            walk_at "dl"
            refine x_cD (by assumption) (by walk_at "slt") ⟨hs, fl, d, h, rfl, rfl, hc2, by omega, rfl⟩ ?_
            rintro _ rfl H_ M_ S_
            walk_at "dl"
            exact x_lcA (by assumption) (by assumption) (by walk_at "tm") (by show 1 < sizeLine; decide) ⟨rfl, rfl⟩
          · cases hj
        · rintro acc w1 ⟨rfl, rfl⟩ D4 H4 M4 S4
          have S4 : Ds K _ _ _ _ _ _ [(D4, .lst ([c.sure (inS hs fl) h, d.sure (inS hs fl) h].map .bool))] _ := S4
          walk_at "dl"
          cases h with
          | true =>
            walk_at "dl"
            refine x_allO 0 (bs := [c.sure (inS hs fl) true, d.sure (inS hs fl) true]) (by assumption) rfl ?_
            walk_at "dl"
            exact x_rD (by assumption) hq (by walk_at "tm") (by rw [e3]; simp)
          | false =>
            walk_at "dl"
            refine x_anyO 0 (bs := [c.sure (inS hs fl) false, d.sure (inS hs fl) false]) (by assumption) rfl ?_
            walk_at "dl"
            exact x_rD (by assumption) hq (by walk_at "tm") (by rw [e3]; simp)
/-! what is known of a place: a stack of facts that is worked off -/
def faSz : List (Cp × Bool) → Nat
  | [] => 0
  | x :: xs => x.1.sz + faSz xs
theorem faSz_app : ∀ xs ys, faSz (xs ++ ys) = faSz xs + faSz ys
  | [], ys => (Nat.zero_add _).symm
  | x :: xs, ys => by
    show x.1.sz + faSz (xs ++ ys) = x.1.sz + faSz xs + faSz ys
    rw [faSz_app xs ys]
    omega
theorem faSz_len : ∀ xs, xs.length ≤ faSz xs
  | [] => Nat.le_refl _
  | x :: xs => by
    have := faSz_len xs
    have := x.1.sz_pos
    show xs.length + 1 ≤ x.1.sz + faSz xs
    omega
def Known (F : List (Cp × Bool)) (hs fl : List Cp) (xs : List (Cp × Bool)) : Prop := ∀ c h, ((c ∈ if h = true then hs else fl) ∨ (c, h) ∈ xs.flatMap fun x => x.1.known x.2) ↔ (c, h) ∈ F
theorem known_mem {c e : Cp} {h k : Bool} : (e, k) ∈ c.known h ↔ (e = c ∧ k = h) ∨ (e, k) ∈ (c.known h).tail := by
  have : c.known h = (c, h) :: (c.known h).tail := by cases c <;> rfl
  rw [this, List.mem_cons, List.tail_cons, Prod.mk.injEq]
theorem Known.step {F : List (Cp × Bool)} {hs fl : List Cp} {ys zs : List (Cp × Bool)} {c : Cp} {h : Bool} (K : Known F hs fl (ys ++ [(c, h)])) (hz : zs.flatMap (fun x => x.1.known x.2) = (c.known h).tail) :
    Known F (if h = true then hs ++ [c] else hs) (if h = true then fl else fl ++ [c]) (ys ++ zs) := by
  intro e k
  rw [← K e k, List.flatMap_append, List.flatMap_append, List.mem_append, List.mem_append, hz, List.flatMap_singleton, known_mem (c := c)]
  cases h <;> cases k <;> simp <;> grind
def pKnownOf (n : Nat) : Pre := fun ss u post => ∃ (rs : List (Int × Cp)) (i : Int), ss = [.d (.tuple (rs.map rwD)), .d (.int i)] ∧ u = [] ∧ (rs.length ≤ 400 ∧ ∀ r ∈ rs, r.2.dp < n ∧ r.2.sz ≤ 10000) ∧ post = pD fun d => ∃ hs fl, d = knD hs fl ∧ Known (factsOf rs i) hs fl []
theorem faSz_one {c : Cp} {h : Bool} : faSz [(c, h)] = c.sz := Nat.add_zero _
theorem facts_sz : ∀ {xs : List Cp}, (∀ c ∈ xs, c.sz ≤ 10000) → faSz (xs.map fun c => (c, true)) ≤ xs.length * 10000
  | [], _ => Nat.le_refl _
  | c :: xs, h => by
    have h1 := facts_sz fun q hq => h q (List.mem_cons_of_mem _ hq)
    have h2 := h c (List.mem_cons_self ..)
    show c.sz + faSz (xs.map fun c => (c, true)) ≤ (xs.length + 1) * 10000
    omega
abbrev startOf (rs : List (Int × Cp)) (i : Int) : List (Cp × Bool) := ((rs.filter fun r => decide (r.1 = i)).map (·.2)).map fun c => (c, true)
theorem start_snoc {rs : List (Int × Cp)} {r : Int × Cp} {i : Int} : startOf (rs ++ [r]) i = startOf rs i ++ (if r.1 = i then [(r.2, true)] else []) := by
  unfold startOf
  rw [List.filter_append, List.map_append, List.map_append]
  congr 1
  by_cases h : r.1 = i
  · simp [h]
  · simp [h]
theorem start_len {rs : List (Int × Cp)} {i : Int} : (startOf rs i).length ≤ rs.length := by
  unfold startOf
  rw [List.length_map, List.length_map]
  exact List.length_filter_le ..
theorem start_known {rs : List (Int × Cp)} {i : Int} : Known (factsOf rs i) [] [] (startOf rs i) := by
  intro c h
  unfold startOf factsOf
  rw [List.flatMap_map, List.flatMap_map]
  simp
theorem c_known {n : Nat} {f : Addr} {fd : FuncData} (D : Df K mg "_known" s_known f fd ["has", "place"]) : Cl P w K mg base 1 "_known" (spG K (pKnownOf n)) := by
  refine Pf.Gate.out ?_
  simp (disch := (with_unfolding_all (
      refine D.go sc_known (pKnownOf n) (fun ss u post h => by repeat (first | (obtain ⟨rfl, _⟩ := h; rfl) | obtain ⟨_, h⟩ := h)) fun cdv A outer s H M vs Q E ss u post hr hp S hq => ?_
      obtain ⟨rs, i, rfl, rfl, ⟨h50, hr1⟩, rfl⟩ := hp
      refine ⟨_, (pss_cons (ps_set (i := 2) sc_known.nd rfl (.inl rfl) (pe_lst pa_nil))
          (pss_cons (ps_set (i := 3) sc_known.nd rfl (.inl rfl) (pe_lst pa_nil))
          (pss_cons (ps_setLc (i := 5) (own := [("other", 7), ("concept", 4)]) (g := (gTup K 2 (gCons (gName 7) (gCons (gName 4) gNil)))) (by rfl) sc_known.nd rfl rfl (sw_true rfl rfl rfl (by decide +kernel)) (kIT (K := K) (pi_tup (pv 0))) (blkOk_by (own := [("other", 7), ("concept", 4)]) (N := ["has", "place", "holding", "failing", "concept", "found", "holds", "other"]) (sc := defScope s_known) (by decide +kernel)) (fun _ _ _ _ _ => (kGT (K := K) (n := 2) (pg_tup (by rfl) (pgs_cons (pg_name (i := 7) sc_known.nd rfl (.inl rfl)) (pgs_cons (pg_name (i := 4) sc_known.nd rfl (.inl rfl)) pgs_nil))))) (fun _ _ _ _ _ => (pts_one (pt_cmpR op_eq (pv 7) (pv 1) (nomark _)))) (fun _ _ _ _ _ => (pe_tup (pa_cons (pv 4) (pa_cons pe_bl pa_nil)))))
          (pss_cons (ps_while PassesOwn.never (kTru (K := K) (pt_truth (pv 5) (by intro _; rfl))) (pss_cons (ps_asg (kBM0 (K := K) (pe_bm0 PySem.F.plainAttrs_list PySem.F.slot_list_pop PySem.F.type_list_pop mt_pop (pv 5))) (kGT (K := K) (n := 2) (pg_tup (by rfl) (pgs_cons (pg_name (i := 4) sc_known.nd rfl (.inl rfl)) (pgs_cons (pg_name (i := 6) sc_known.nd rfl (.inl rfl)) pgs_nil)))))
          (pss_cons (ps_if (pt_val (pv 6)) (pss_one (ps_expr (kBM (K := K) (pe_bm PySem.F.plainAttrs_list PySem.F.slot_list_append PySem.F.type_list_append mt_append (pv 2) (pa_cons (pv 4) pa_nil))))) (pss_one (ps_expr (kBM (K := K) (pe_bm PySem.F.plainAttrs_list PySem.F.slot_list_append PySem.F.type_list_append mt_append (pv 3) (pa_cons (pv 4) pa_nil))))))
          (pss_one (ps_if (pt_cmpR op_eq (pe_ix (ixT (K := K)) (pv 4) pe_int (fun _ _ => rfl)) pe_str (nomark _)) (pss_one (ps_expr (kBM (K := K) (pe_bm PySem.F.plainAttrs_list PySem.F.slot_list_append PySem.F.type_list_append mt_append (pv 5) (pa_cons (pe_tup (pa_cons (pe_ix (ixT (K := K)) (pv 4) pe_int (fun _ _ => rfl)) (pa_cons (pe_not (pv 6)) pa_nil))) pa_nil))))) (pss_one (ps_if (PW.pt (pw_and (pt_cmpR op_eq (pe_ix (ixT (K := K)) (pv 4) pe_int (fun _ _ => rfl)) pe_str (nomark _)) (pw_and1 (pt_val (pv 6))))) (pss_one (ps_expr (kBM (K := K) (pe_bm PySem.F.plainAttrs_list PySem.F.slot_list_extend PySem.F.type_list_extend mt_extend (pv 5) (pa_cons (pe_lst (pa_cons (pe_tup (pa_cons (pe_ix (ixT (K := K)) (pv 4) pe_int (fun _ _ => rfl)) (pa_cons pe_bl pa_nil))) (pa_cons (pe_tup (pa_cons (pe_ix (ixT (K := K)) (pv 4) pe_int (fun _ _ => rfl)) (pa_cons pe_bl pa_nil))) pa_nil))) pa_nil))))) pss_nil)))))))
          (pss_one (ps_ret (pe_tup (pa_cons (pv 2) (pa_cons (pv 3) pa_nil))))))))), ?_⟩
      walk_at "in"
      walk_at "dl"
      rename_i a _ _ _ _ _ _ b _ _ _ _ _ _ _ _
      refine x_lc2T (fun j acc u => acc = (startOf (rs.take j) i).map fa ∧ u = [(b, .lst []), (a, .lst [])]) (by decide) (by decide) (by assumption) (by walk_at "tm") (fun d hd => ?_) ⟨rfl, rfl⟩ ?_ ?_
      · obtain ⟨r, _, rfl⟩ := List.mem_map.mp hd
        exact ⟨_, _, rfl⟩
      · rintro j d1 d2 acc w1 hj ⟨rfl, rfl⟩ D4 σ4 H4 M4 hrw S4
        obtain ⟨r, hr', e⟩ := map_at hj
        have e1 : d1 = .int r.1 ∧ d2 = r.2.D := by
          cases e
          exact ⟨rfl, rfl⟩
        obtain ⟨rfl, rfl⟩ := e1
        have e1 := start_snoc (rs := rs.take j) (r := r) (i := i)
        rw [← take_snoc hr'] at e1
        have hz : ((startOf (rs.take j) i).map fa).length < sizeLine := by
          rw [List.length_map]
          have h1 := start_len (rs := rs.take j) (i := i)
          have h2 : (rs.take j).length ≤ rs.length := by rw [List.length_take]; omega
          exact Nat.lt_of_lt_of_le (by omega : _ < 600) (by decide)
        rename Ds _ _ _ _ _ _ _ _ _ => S_
        simp only [uset, List.map_cons, List.map_nil, List.foldr_cons, List.foldr_nil, List.set_cons_succ, List.set_cons_zero] at S_
        walk_at "dl"
        refine x_if (fun q => ?_) (fun q => ?_)
        · have q := of_decide_eq_true q
          walk_at "dl"
          exact x_lcA (by assumption) (by assumption) (by walk_at "tm") hz ⟨by rw [e1, if_pos q, List.map_append]; rfl, rfl⟩
        · have q := of_decide_eq_false q
          walk_at "dl"
          exact x_lcN (by assumption) (by assumption) ⟨by rw [e1, if_neg q, List.append_nil], rfl⟩
      · rintro acc w1 ⟨rfl, rfl⟩ x H4 M4 S4
        rw [show (rs.map rwD).length = rs.length from List.length_map .., take_all] at S4
        have hk := start_known (rs := rs) (i := i)
        have hsz : faSz (startOf rs i) ≤ 5000000 := by
          have h1 := facts_sz (xs := (rs.filter fun r => decide (r.1 = i)).map (·.2)) fun c hc => by
            obtain ⟨r, h1, rfl⟩ := List.mem_map.mp hc
            exact (hr1 r (List.mem_filter.mp h1).1).2
          have h2 := start_len (rs := rs) (i := i)
          rw [List.length_map] at h2
          exact Nat.le_trans h1 (by omega)
        generalize startOf rs i = xs at S4 hk hsz
        generalize factsOf rs i = F at hk hq
        walk_at "dl"
        refine x_while (fun m ρ u => ρ = [.d (.tuple (rs.map rwD)), .d (.int i), .v (.ref a), .v (.ref b), .u, .v (.ref x), .u, .u] ∧ ∃ hs fl xs, u = [(x, .lst (xs.map fa)), (b, .lst (fl.map Cp.D)), (a, .lst (hs.map Cp.D))] ∧ Known F hs fl xs ∧ faSz xs = m ∧ hs.length + fl.length + m ≤ 5000000) (faSz xs) (by assumption) ⟨rfl, [], [], xs, rfl, hk, rfl, by show 0 + 0 + faSz xs ≤ 5000000; omega⟩ ?_
        clear hk hsz
        rintro m ρ1 u1 ⟨rfl, hs, fl, xs, rfl, hk, rfl, hb⟩ σ1 H1 M1 S1
        rcases List.eq_nil_or_concat xs with rfl | ⟨ys, ⟨c, h⟩, rfl⟩
        · walk_at "dl"
          refine x_whB (fun q => absurd q (by decide)) fun _ => ?_
          walk_at "dl"
          rename Ds _ _ _ _ _ _ _ _ _ => S_
          obtain ⟨M1_, S_⟩ := S_.drop.freeze List.not_mem_nil
          obtain ⟨M2_, S_⟩ := S_.freeze List.not_mem_nil
          walk_at "dl"
          exact x_rD (by assumption) hq (by walk_at "tm") ⟨hs, fl, rfl, hk⟩
        · rw [List.concat_eq_append] at S1 hk hb ⊢
          rw [List.map_append] at S1
          rw [faSz_app, faSz_one] at hb ⊢
          have hyl := faSz_len ys
          have hl1 : (hs.map Cp.D).length < sizeLine := by rw [List.length_map]; exact Nat.lt_of_lt_of_le (by omega : _ < 6000000) (by decide)
          have hl2 : (fl.map Cp.D).length < sizeLine := by rw [List.length_map]; exact Nat.lt_of_lt_of_le (by omega : _ < 6000000) (by decide)
          have hl3 : (ys.map fa).length + 2 < sizeLine := by rw [List.length_map]; exact Nat.lt_of_lt_of_le (by omega : _ < 6000000) (by decide)
          have hcz := c.sz_pos
          walk_at "dl"
          refine x_whB (fun _ => ?_) fun q => absurd q (by simp)
          walk_at "dl"
          refine x_pop 0 (by assumption) rfl rfl (by walk_at "set") fun v_ H_ S_ => ?_
          cases h with
          | true =>
            cases c with
            | any  =>
              rename Ds _ _ _ _ _ _ _ _ _ => S_
              simp only [fa, Cp.D] at S_
              walk_at "dl"
              refine x_appK 2 (by assumption) rfl (by walk_at "tm") hl1 (by walk_at "set") fun H_ S_ => ?_
              walk_at "dl"
              exact Wx.at (faSz ys) (by assumption) (by walk_at "le") (by omega) ⟨rfl, (hs ++ [.any]), fl, ys, (by simp only [List.map_append, List.map_cons, List.map_nil] <;> rfl), (by have := hk.step (zs := []) rfl; rwa [List.append_nil] at this), rfl, (by simp only [List.length_append, List.length_singleton]; omega)⟩
            | name k =>
              rename Ds _ _ _ _ _ _ _ _ _ => S_
              simp only [fa, Cp.D] at S_
              walk_at "dl"
              refine x_appK 2 (by assumption) rfl (by walk_at "tm") hl1 (by walk_at "set") fun H_ S_ => ?_
              walk_at "dl"
              exact Wx.at (faSz ys) (by assumption) (by walk_at "le") (by omega) ⟨rfl, (hs ++ [.name k]), fl, ys, (by simp only [List.map_append, List.map_cons, List.map_nil] <;> rfl), (by have := hk.step (zs := []) rfl; rwa [List.append_nil] at this), rfl, (by simp only [List.length_append, List.length_singleton]; omega)⟩
            | some r b_ e =>
              rename Ds _ _ _ _ _ _ _ _ _ => S_
              simp only [fa, Cp.D] at S_
              walk_at "dl"
              refine x_appK 2 (by assumption) rfl (by walk_at "tm") hl1 (by walk_at "set") fun H_ S_ => ?_
              walk_at "dl"
              exact Wx.at (faSz ys) (by assumption) (by walk_at "le") (by omega) ⟨rfl, (hs ++ [.some r b_ e]), fl, ys, (by simp only [List.map_append, List.map_cons, List.map_nil] <;> rfl), (by have := hk.step (zs := []) rfl; rwa [List.append_nil] at this), rfl, (by simp only [List.length_append, List.length_singleton]; omega)⟩
            | not e =>
              rename Ds _ _ _ _ _ _ _ _ _ => S_
              simp only [fa, Cp.D] at S_
              walk_at "dl"
              refine x_appK 2 (by assumption) rfl (by walk_at "tm") hl1 (by walk_at "set") fun H_ S_ => ?_
              walk_at "dl"
              refine x_appK 0 (by assumption) rfl (by walk_at "tm") (by omega) (by walk_at "set") fun H_ S_ => ?_
              walk_at "dl"
              exact Wx.at (faSz (ys ++ [(e, false)])) (by assumption) (by walk_at "le") (by rw [faSz_app, faSz_one]; have : (Cp.not e).sz = e.sz + 1 := rfl; omega) ⟨rfl, (hs ++ [.not e]), fl, (ys ++ [(e, false)]), (by simp only [List.map_append, List.map_cons, List.map_nil] <;> rfl), (hk.step (zs := [(e, false)]) (by simp [Cp.known])), rfl, (by rw [faSz_app, faSz_one]; have : (Cp.not e).sz = e.sz + 1 := rfl; simp only [List.length_append, List.length_singleton]; omega)⟩
            | both e e2 =>
              rename Ds _ _ _ _ _ _ _ _ _ => S_
              simp only [fa, Cp.D] at S_
              walk_at "dl"
              refine x_appK 2 (by assumption) rfl (by walk_at "tm") hl1 (by walk_at "set") fun H_ S_ => ?_
              walk_at "dl"
              refine x_ext (by assumption) rfl 0 rfl ?_
              walk_at "dl"
              refine x_extK 1 0 (by assumption) rfl rfl (Nat.le_of_lt hl3) (by walk_at "set") fun H_ S_ => ?_
              have S_ := S_.drop
              walk_at "dl"
              exact Wx.at (faSz (ys ++ [(e, true), (e2, true)])) (by assumption) (by walk_at "le") (by rw [faSz_app]; have : (Cp.both e e2).sz = e.sz + e2.sz + 1 := rfl; have : faSz [(e, true), (e2, true)] = e.sz + (e2.sz + 0) := rfl; omega) ⟨rfl, (hs ++ [.both e e2]), fl, (ys ++ [(e, true), (e2, true)]), (by simp only [List.map_append, List.map_cons, List.map_nil] <;> rfl), (hk.step (zs := [(e, true), (e2, true)]) (by simp [Cp.known])), rfl, (by rw [faSz_app]; have : (Cp.both e e2).sz = e.sz + e2.sz + 1 := rfl; have : faSz [(e, true), (e2, true)] = e.sz + (e2.sz + 0) := rfl; simp only [List.length_append, List.length_singleton]; omega)⟩
          | false =>
            cases c with
            | any  =>
              rename Ds _ _ _ _ _ _ _ _ _ => S_
              simp only [fa, Cp.D] at S_
              walk_at "dl"
              refine x_appK 1 (by assumption) rfl (by walk_at "tm") hl2 (by walk_at "set") fun H_ S_ => ?_
              walk_at "dl"
              exact Wx.at (faSz ys) (by assumption) (by walk_at "le") (by omega) ⟨rfl, hs, (fl ++ [.any]), ys, (by simp only [List.map_append, List.map_cons, List.map_nil] <;> rfl), (by have := hk.step (zs := []) rfl; rwa [List.append_nil] at this), rfl, (by simp only [List.length_append, List.length_singleton]; omega)⟩
            | name k =>
              rename Ds _ _ _ _ _ _ _ _ _ => S_
              simp only [fa, Cp.D] at S_
              walk_at "dl"
              refine x_appK 1 (by assumption) rfl (by walk_at "tm") hl2 (by walk_at "set") fun H_ S_ => ?_
              walk_at "dl"
              exact Wx.at (faSz ys) (by assumption) (by walk_at "le") (by omega) ⟨rfl, hs, (fl ++ [.name k]), ys, (by simp only [List.map_append, List.map_cons, List.map_nil] <;> rfl), (by have := hk.step (zs := []) rfl; rwa [List.append_nil] at this), rfl, (by simp only [List.length_append, List.length_singleton]; omega)⟩
            | some r b_ e =>
              rename Ds _ _ _ _ _ _ _ _ _ => S_
              simp only [fa, Cp.D] at S_
              walk_at "dl"
              refine x_appK 1 (by assumption) rfl (by walk_at "tm") hl2 (by walk_at "set") fun H_ S_ => ?_
              walk_at "dl"
              exact Wx.at (faSz ys) (by assumption) (by walk_at "le") (by omega) ⟨rfl, hs, (fl ++ [.some r b_ e]), ys, (by simp only [List.map_append, List.map_cons, List.map_nil] <;> rfl), (by have := hk.step (zs := []) rfl; rwa [List.append_nil] at this), rfl, (by simp only [List.length_append, List.length_singleton]; omega)⟩
            | not e =>
              rename Ds _ _ _ _ _ _ _ _ _ => S_
              simp only [fa, Cp.D] at S_
              walk_at "dl"
              refine x_appK 1 (by assumption) rfl (by walk_at "tm") hl2 (by walk_at "set") fun H_ S_ => ?_
              walk_at "dl"
              refine x_appK 0 (by assumption) rfl (by walk_at "tm") (by omega) (by walk_at "set") fun H_ S_ => ?_
              walk_at "dl"
              exact Wx.at (faSz (ys ++ [(e, true)])) (by assumption) (by walk_at "le") (by rw [faSz_app, faSz_one]; have : (Cp.not e).sz = e.sz + 1 := rfl; omega) ⟨rfl, hs, (fl ++ [Cp.not e]), (ys ++ [(e, true)]), (by simp only [List.map_append, List.map_cons, List.map_nil] <;> rfl), (hk.step (zs := [(e, true)]) (by simp [Cp.known])), rfl, (by rw [faSz_app, faSz_one]; have : (Cp.not e).sz = e.sz + 1 := rfl; simp only [List.length_append, List.length_singleton]; omega)⟩
            | both e e2 =>
              rename Ds _ _ _ _ _ _ _ _ _ => S_
              simp only [fa, Cp.D] at S_
              walk_at "dl"
              refine x_appK 1 (by assumption) rfl (by walk_at "tm") hl2 (by walk_at "set") fun H_ S_ => ?_
              walk_at "dl"
              exact Wx.at (faSz ys) (by assumption) (by walk_at "le") (by omega) ⟨rfl, hs, (fl ++ [.both e e2]), ys, (by simp only [List.map_append, List.map_cons, List.map_nil] <;> rfl), (by have := hk.step (zs := []) rfl; rwa [List.append_nil] at this), rfl, (by simp only [List.length_append, List.length_singleton]; omega)⟩
    ))) only [↓Pf.Gate.lem]
theorem known_sure {F : List (Cp × Bool)} {hs fl : List Cp} (h : Known F hs fl []) : inS hs fl = inF F := by
  funext c k
  have := h c k
  rw [List.flatMap_nil] at this
  exact decide_eq_decide.mpr ⟨fun z => this.mp (.inl z), fun z => (this.mpr z).resolve_right (fun z => nomatch z)⟩
theorem c_is_certain {n : Nat} {f : Addr} {fd : FuncData} (D : Df K mg "is_certain" s_is_certain f fd ["has", "place", "concept", "holds"]) (c_known : Cl P w K mg base 1 "_known" (spG K (pKnownOf n))) (c_is_settled : Cl P w K mg base (n + 1) "_is_settled" (spG K (pSettled n))) : Cl P w K mg base (n + 2) "is_certain" (spG K (pCertain n)) := by
  refine Pf.Gate.out ?_
  simp (disch := (with_unfolding_all (
      refine D.go sc_is_certain (pCertain n) (fun ss u post h => by repeat (first | (obtain ⟨rfl, _⟩ := h; rfl) | obtain ⟨_, h⟩ := h)) fun cdv A outer s H M vs Q E ss u post hr hp S hq => ?_
      obtain ⟨rs, i, c, h, rfl, rfl, hr1, hc, hn, rfl⟩ := hp
      refine ⟨_, (pss_one (ps_ret (pc c_is_settled hr (by first | decide | omega) (by rfl) (pa_cons (pc c_known hr (by first | decide | omega) (by rfl) (pa_cons (pv 0) (pa_cons (pv 1) pa_nil))) (pa_cons (pv 2) (pa_cons (pv 3) pa_nil)))))), ?_⟩
      walk_at "in"
      walk_at "dl"
      refine x_cD (by assumption) (by walk_at "slt") ⟨rs, i, rfl, rfl, hr1, rfl⟩ ?_
      rintro _ ⟨hs, fl, rfl, hk⟩ H_ M_ S_
      walk_at "dl"
      refine x_cD (by assumption) (by walk_at "slt") ⟨hs, fl, c, h, rfl, rfl, hc, hn, rfl⟩ ?_
      rintro _ rfl H_ M_ S_
      walk_at "dl"
      exact x_rD (by assumption) hq (by walk_at "tm") (by rw [known_sure hk])
    ))) only [↓Pf.Gate.lem]
end
section
variable {P : Program} {w : World} {K : PySem.W.Frag} {mg : Str → Option Value} {base : Heap}
def certs (hs rs : List (Int × Cp)) : Bool := rs.all fun r => r.2.sure (inF (factsOf hs r.1)) true
def HasOk (n : Nat) (rs : List (Int × Cp)) : Prop := rs.length ≤ 400 ∧ ∀ r ∈ rs, r.2.dp < n ∧ r.2.sz ≤ 10000
def pAreCertain (n : Nat) : Pre := fun ss u post => ∃ (b : Bool) (hs rs : List (Int × Cp)), ss = [.d (.tuple (hs.map rwD)), .d (seqD b (rs.map rwD))] ∧ u = [] ∧ HasOk n hs ∧ HasOk n rs ∧ n ≤ 202 ∧ post = pD fun d => d = .bool (certs hs rs)
theorem c_are_certain {n : Nat} {f : Addr} {fd : FuncData} (D : Df K mg "_are_certain" s_are_certain f fd ["has", "rows"]) (c_known : Cl P w K mg base 1 "_known" (spG K (pKnownOf n))) (c_is_settled : Cl P w K mg base (n + 1) "_is_settled" (spG K (pSettled n))) : Cl P w K mg base (n + 2) "_are_certain" (spG K (pAreCertain n)) := by
  refine Pf.Gate.out ?_
  simp (disch := (with_unfolding_all (
      refine D.go sc_are_certain (pAreCertain n) (fun ss u post h => by repeat (first | (obtain ⟨rfl, _⟩ := h; rfl) | obtain ⟨_, h⟩ := h)) fun cdv A outer s H M vs Q E ss u post hr hp S hq => ?_
      obtain ⟨b, hs, rs, rfl, rfl, hh, hr1, hn, rfl⟩ := hp
      refine ⟨_, (pss_cons (ps_set (i := 2) sc_are_certain.nd rfl (.inl rfl) pe_dnewK)
          (pss_cons (ps_for PassesOwn.never rfl (pi_seqD (K := K) (pv 1)) (kGT (K := K) (n := 2) (pg_tup (by rfl) (pgs_cons (pg_name (i := 3) sc_are_certain.nd rfl (.inl rfl)) (pgs_cons (pg_name (i := 4) sc_are_certain.nd rfl (.inl rfl)) pgs_nil)))) (Evl.pss_cut (ps_if (pt_cmp (pc_dnotin (u1 hr) (pv 3) (pv 2))) (pss_one (ps_dput (u1 hr) (pv 2) (pv 3) (pc c_known hr (by first | decide | omega) (by rfl) (pa_cons (pv 0) (pa_cons (pv 3) pa_nil))) rfl)) pss_nil)
          (pss_one (ps_if (pt_not (pt_val (pc c_is_settled hr (by first | decide | omega) (by rfl) (pa_cons (pe_dget (u1 hr) (pv 2) (pv 3) (fun _ _ => rfl)) (pa_cons (pv 4) (pa_cons pe_bl pa_nil)))))) (pss_one (ps_ret pe_bl)) pss_nil))))
          (pss_one (ps_ret pe_bl)))), ?_⟩
      walk_at "in"
      walk_at "dl"
      refine x_dnew (fun a H_ S_ => ?_) (by assumption)
      walk_at "dl"
      refine x_forSV (fun j ρ u => ρ = [.d (.tuple (hs.map rwD)), .d (seqD b (rs.map rwD)), .v (.ref a), .u, .u] ∧ ∃ kvs, u = [(a, .dk kvs)] ∧ (∀ i d, valD kvs (.inl i) = some d → ∃ x y, d = knD x y ∧ Known (factsOf hs i) x y []) ∧ kvs.length ≤ j ∧ certs hs (rs.take j) = true) (by assumption) rfl ⟨rfl, [], rfl, (fun i d h => nomatch h), Nat.le_refl _, rfl⟩ ?_ ?_
      · rintro j d ρ1 u1 hj ⟨rfl, kvs, rfl, hk, hl, hc⟩ v σ1 H1 M1 S1
        obtain ⟨r, hr', rfl⟩ := map_at hj
        have hrr := hr1.2 r (List.mem_of_getElem? hr')
        have hjl := (List.getElem?_eq_some_iff.mp hr').1
        have e1 : certs hs (rs.take (j + 1)) = r.2.sure (inF (factsOf hs r.1)) true := by
          rw [take_snoc hr']
          unfold certs at hc ⊢
          rw [List.all_append, hc]
          simp
        have e2 : r.2.sure (inF (factsOf hs r.1)) true = false → certs hs rs = false := fun z => by
          unfold certs
          rw [List.all_eq_false]
          exact ⟨r, List.mem_of_getElem? hr', by rw [z]; decide⟩
        rename Ds _ _ _ _ _ _ _ _ _ => S_
        simp only [rwD] at S_
        walk_at "dl"
        refine x_cut (fun ρ u => ρ = [.d (.tuple (hs.map rwD)), .d (seqD b (rs.map rwD)), .v (.ref a), .d (.int r.1), .d r.2.D] ∧ ∃ kvs x y, u = [(a, .dk kvs)] ∧ (∀ i d, valD kvs (.inl i) = some d → ∃ x y, d = knD x y ∧ Known (factsOf hs i) x y []) ∧ kvs.length ≤ j + 1 ∧ valD kvs (.inl r.1) = some (knD x y) ∧ Known (factsOf hs r.1) x y []) (by assumption) ?_ ?_
        · walk_at "dl"
          refine x_dnK 0 (by assumption) rfl ?_
          walk_at "dl"
          cases ev : valD kvs (.inl r.1) with
          | none =>
            refine x_ifT rfl ?_
            walk_at "dl"
            refine x_cD (by assumption) (by walk_at "slt") ⟨hs, r.1, rfl, rfl, hh, rfl⟩ ?_
            rintro _ ⟨x, y, rfl, hxy⟩ H_ M_ S_
            walk_at "dl"
            refine x_dsK 0 (by assumption) rfl (d := knD x y) (by walk_at "tm") (Nat.lt_of_lt_of_le (by have := hr1.1; omega : kvs.length < 600) (by decide)) (by walk_at "set") fun H_ S_ => ?_
            walk_at "dl"
            exact Md.at (by assumption) (by walk_at "le") ⟨rfl, _, x, y, rfl, (fun i d h => by
              rw [valD_put] at h
              by_cases q : i = r.1
              · rw [if_pos (by rw [q])] at h
                cases h
                exact ⟨x, y, rfl, q ▸ hxy⟩
              · rw [if_neg (fun z => q (Sum.inl.inj z))] at h
                exact hk i d h), (by
              unfold putD
              split
              · rw [List.length_map]
                exact Nat.le_succ_of_le hl
              · rw [List.length_append]
                exact Nat.succ_le_succ hl), by rw [valD_put, if_pos rfl], hxy⟩
          | some d =>
            obtain ⟨x, y, rfl, hxy⟩ := hk _ _ ev
            refine x_ifF rfl ?_
            walk_at "dl"
            exact Md.at (by assumption) (by walk_at "le") ⟨rfl, kvs, x, y, rfl, hk, Nat.le_succ_of_le hl, ev, hxy⟩
        clear hk hl
        rintro M2 σ2 H2 ρ2 u2 ⟨rfl, kvs, x, y, rfl, hk, hl, ev, hxy⟩ S2
        walk_at "dl"
        refine x_dgK 0 (by assumption) rfl ev ?_
        walk_at "dl"
        refine x_cD (by assumption) (by walk_at "slt") ⟨x, y, r.2, true, rfl, rfl, hrr.1, hn, rfl⟩ ?_
        rintro _ rfl H_ M_ S_
        walk_at "dl"
        rw [known_sure hxy]
        rename Ds _ _ _ _ _ _ _ _ _ => S_
        cases eq : r.2.sure (inF (factsOf hs r.1)) true with
        | true =>
          walk_at "dl"
          exact Nx.at (by assumption) (by walk_at "le") ⟨rfl, kvs, rfl, hk, hl, e1.trans eq⟩
        | false =>
          walk_at "dl"
          exact x_rD (by assumption) hq (by walk_at "tm") (by rw [e2 eq])
      · rintro ρ1 u1 ⟨rfl, kvs, rfl, hk, hl, hc⟩ σ1 H1 M1 S1
        rw [show (rs.map rwD).length = rs.length from List.length_map .., take_all] at hc
        walk_at "dl"
        exact x_rD (by assumption) hq (by walk_at "tm") (by rw [hc])
    ))) only [↓Pf.Gate.lem]
end
/-! lines of derivations -/
def mv (rs : List (Int × Cp)) (i : Int) : List (Int × Cp) := rs.map fun r => (i, r.2)
inductive ShR where
  | thing | family | pair (r : Int) (b : Bool)
  deriving DecidableEq
def ShR.D : ShR → PyData
  | .thing => .tuple [sK "thing"]
  | .family => .tuple [sK "family"]
  | .pair r b => .tuple [sK "pair", roD r b]
theorem shr_eq : ∀ a b : ShR, PyData.eqv a.D b.D = decide (a = b)
  | .thing, .thing => by decide +kernel
  | .thing, .family => by decide +kernel
  | .thing, .pair _ _ => by rfl
  | .family, .thing => by decide +kernel
  | .family, .family => by decide +kernel
  | .family, .pair _ _ => by rfl
  | .pair _ _, .thing => by rfl
  | .pair _ _, .family => by rfl
  | .pair r b, .pair s c => by
    show (PyData.eqv (sK "pair") (sK "pair") && (PyData.eqv (roD r b) (roD s c) && true)) = _
    rw [Cp.kindEq rfl, Cp.eqRo]
    simp
theorem shr_enc : Enc ShR.D where
  eq := shr_eq
  lay := fun a => match a with
    | .thing => by decide +kernel
    | .family => by decide +kernel
    | .pair r b => by
      show (PyData.canLay0 (sK "pair") && ((true && (true && true)) && true)) = true
      decide +kernel
theorem shr_dp : ∀ a : ShR, a.D.depth ≤ 64
  | .thing => by decide +kernel
  | .family => by decide +kernel
  | .pair r b => (by decide : 2 ≤ 64)
inductive Rsn where
  | clash (p : Int) (c : Cp) | axm (p a m : Int) | line (p m : Int) | split (p : Int) (c : Cp) (a b : Int) | need (p r : Int) (b : Bool) (c : Cp) (m : Int)
  | role (st : List Stp) (bk : Bool) (c : Cp) | mem (a m : Int) | link (a m : Int) (st : List Stp) (bk : Bool) (c : Cp)
def Rsn.D : Rsn → PyData
  | .clash p c => .tuple [sK "clash", .int p, c.D]
  | .axm p a m => .tuple [sK "axiom", .int p, .int a, .int m]
  | .line p m => .tuple [sK "line", .int p, .int m]
  | .split p c a b => .tuple [sK "split", .int p, c.D, .int a, .int b]
  | .need p r b c m => .tuple [sK "need", .int p, roD r b, c.D, .int m]
  | .role st bk c => .tuple [sK "role", spsD st, .bool bk, c.D]
  | .mem a m => .tuple [sK "member", .int a, .int m]
  | .link a m st bk c => .tuple [sK "link", .int a, .int m, spsD st, .bool bk, c.D]
structure Ln where
  sh : ShR
  rs : List (Int × Cp)
  why : Rsn
def Ln.D (l : Ln) : PyData := .tuple [l.sh.D, .tuple (l.rs.map rwD), l.why.D]
def CcOk (n : Nat) (c : Cp) : Prop := c.dp + 1 < n ∧ c.sz + 1 ≤ 10000
def RsnOk (n : Nat) : Rsn → Prop
  | .clash _ c => CcOk n c
  | .axm _ a m => 0 ≤ a ∧ 0 ≤ m
  | .line _ m => 0 ≤ m
  | .split _ c a b => CcOk n c ∧ 0 ≤ a ∧ 0 ≤ b
  | .need _ _ _ c m => CcOk n c ∧ 0 ≤ m
  | .role st _ c => StOk st ∧ CcOk n c
  | .mem a m => 0 ≤ a ∧ 0 ≤ m
  | .link a m st _ c => (0 ≤ a ∧ 0 ≤ m) ∧ StOk st ∧ CcOk n c
def RowsOk (n : Nat) (rs : List (Int × Cp)) : Prop := rs.length ≤ 399 ∧ ∀ r ∈ rs, r.2.dp < n ∧ r.2.sz ≤ 10000
structure LnOk (n : Nat) (l : Ln) : Prop where
  rows : RowsOk n l.rs
  why : RsnOk n l.why
def Pt.CDp (n : Nat) : Pt → Prop
  | .below c d => c.dp < n ∧ d.dp < n
  | .is _ c => c.dp < n
  | _ => True
def AxC (n : Nat) (xs : List (List Pt)) : Prop := ∀ x ∈ xs, ∀ p ∈ x, Pt.CDp n p
theorem part_ok {n : Nat} {xs : List (List Pt)} {ms : List Int} {a m : Int} {kd : String} {q : Pt} (h : AxC n xs) (e : kindOf kd (partOf xs ms a m) = some q) : q.CDp n := by
  refine Pf.Gate.out ?_
  simp (disch := (with_unfolding_all (
      have e2 := (Option.filter_eq_some_iff.mp e).1
      unfold partOf at e2
      split at e2
      · have hm := List.mem_of_getElem? e2
        cases ex : xs[a.toNat]? with
        | none =>
          rw [List.getD_eq_getElem?_getD, ex] at hm
          cases hm
        | some x =>
          rw [List.getD_eq_getElem?_getD, ex] at hm
          exact h x (List.mem_of_getElem? ex) q hm
      · cases e2
    ))) only [↓Pf.Gate.lem]
abbrev cert (rs : List (Int × Cp)) (i : Int) (c : Cp) (h : Bool) : Bool := c.sure (inF (factsOf rs i)) h
def lnAt (bs : List Ln) (m : Int) : Option Ln := bs[m.toNat]?
def hasSh (bs : List Ln) (m : Int) (sh : ShR) : Bool := match lnAt bs m with
  | some l => decide (l.sh = sh)
  | none => false
def against (rs : List (Int × Cp)) (q : Ro) (bk : Bool) (c : Cp) (i j : Int) : Bool :=
  if bk = true then cert rs j (.some q.1 (!q.2) c) false && cert rs i c true else cert rs i (.some q.1 q.2 c) false && cert rs j c true
def rowsAt (rs : List (Int × Cp)) (m : Option Ln) : List (Int × Cp) := match m with
  | some l => l.rs
  | none => rs
def hereOf (p : Int) (rs : List (Int × Cp)) : List (Int × Cp) := (rs.filter fun r => decide (r.1 = 0)).map fun r => (p, r.2)
def behindOf (rs : List (Int × Cp)) : List (Int × Cp) := (rs.filter fun r => !decide (r.1 = 0)).map fun r => (1, r.2)
def rightB (xs : List (List Pt)) (ms : List Int) (bs : List Ln) (l : Ln) : Bool := match l.why with
  | .clash p c => cert l.rs p c true && cert l.rs p c false
  | .axm p a m => match kindOf "below" (partOf xs ms a m) with
    | some (.below c d) => cert l.rs p c true && cert l.rs p d false
    | _ => false
  | .line p m => match lnAt bs m with
    | some k => decide (k.sh = .thing) && certs l.rs (mv k.rs p)
    | none => false
  | .split p c a b => match lnAt bs a, lnAt bs b with
    | some x, some y => (decide (x.sh = l.sh) && decide (y.sh = l.sh)) && (certs (l.rs ++ [(p, c)]) x.rs && certs (l.rs ++ [(p, .not c)]) y.rs)
    | _, _ => false
  | .need p r b c m => match lnAt bs m with
    | some k => (decide (k.sh = .pair r b) && cert l.rs p (.some r b c) true) && (certs l.rs (hereOf p k.rs) && certs [(1, c)] (behindOf k.rs))
    | none => false
  | .role st bk c => match l.sh with
    | .pair r b => match led xs ms (r, b) st with
      | some q => against l.rs q bk c 0 1
      | none => false
    | _ => false
  | .mem a m => decide (l.sh = .family) && match kindOf "is" (partOf xs ms a m) with
    | some (.is o c) => cert l.rs o c false
    | _ => false
  | .link a m st bk c => decide (l.sh = .family) && match kindOf "has" (partOf xs ms a m) with
    | some (.has o k o2) => match led xs ms (k, false) st with
      | some q => against l.rs q bk c o o2
      | none => false
    | _ => false
abbrev onD (xs : List (List Pt)) (s2 : Int) : PyData := .tuple [.tuple (xs.map axD), .int s2]
theorem mvOk {n : Nat} {rs : List (Int × Cp)} {i : Int} (h : HasOk n rs) : HasOk n (mv rs i) := by
  refine ⟨by unfold mv; rw [List.length_map]; exact h.1, fun r hr => ?_⟩
  obtain ⟨q, hq, rfl⟩ := List.mem_map.mp hr
  exact h.2 q hq
theorem RowsOk.has {n : Nat} {rs : List (Int × Cp)} (h : RowsOk n rs) : HasOk n rs := ⟨by have := h.1; omega, h.2⟩
theorem RowsOk.snoc {n : Nat} {rs : List (Int × Cp)} {p : Int} {c : Cp} (h : RowsOk n rs) (h1 : c.dp < n) (h2 : c.sz ≤ 10000) : HasOk n (rs ++ [(p, c)]) :=
  ⟨by rw [List.length_append]; have := h.1; show rs.length + 1 ≤ 400; omega, fun r hr => (List.mem_append.mp hr).elim (h.2 r) fun z => by rw [List.mem_singleton.mp z]; exact ⟨h1, h2⟩⟩
theorem hereOk {n : Nat} {rs : List (Int × Cp)} {p : Int} (h : RowsOk n rs) : HasOk n (hereOf p rs) := by
  refine ⟨?_, fun r hr => ?_⟩
  · unfold hereOf
    rw [List.length_map]
    have := List.length_filter_le (fun r : Int × Cp => decide (r.1 = 0)) rs
    have := h.1
    omega
  · obtain ⟨q, hq, rfl⟩ := List.mem_map.mp hr
    exact h.2 q (List.mem_filter.mp hq).1
theorem behindOk {n : Nat} {rs : List (Int × Cp)} (h : RowsOk n rs) : HasOk n (behindOf rs) := by
  refine ⟨?_, fun r hr => ?_⟩
  · unfold behindOf
    rw [List.length_map]
    have := List.length_filter_le (fun r : Int × Cp => !decide (r.1 = 0)) rs
    have := h.1
    omega
  · obtain ⟨q, hq, rfl⟩ := List.mem_map.mp hr
    exact h.2 q (List.mem_filter.mp hq).1
section
variable {P : Program} {w : World} {K : PySem.W.Frag} {mg : Str → Option Value} {base : Heap}
def pMovedL : Pre := fun ss u post => ∃ (l : Ln) (i : Int), ss = [.d l.D, .d (.int i)] ∧ u = [] ∧ l.rs.length ≤ 400 ∧ post = pO fun od => od = .lst ((mv l.rs i).map rwD)
theorem c_movedL {f : Addr} {fd : FuncData} (D : Df K mg "_moved" s_moved f fd ["line", "place"]) : Cl P w K mg base 1 "_moved" (spG K pMovedL) := by
  refine Pf.Gate.out ?_
  simp (disch := (with_unfolding_all (
      refine D.go sc_moved (pMovedL) (fun ss u post h => by repeat (first | (obtain ⟨rfl, _⟩ := h; rfl) | obtain ⟨_, h⟩ := h)) fun cdv A outer s H M vs Q E ss u post hr hp S hq => ?_
      obtain ⟨l, i, rfl, rfl, hl, rfl⟩ := hp
      refine ⟨_, (pss_one (ps_ret (pe_lc (own := [("_", 2), ("concept", 3)]) (g := (gTup K 2 (gCons (gName 2) (gCons (gName 3) gNil)))) (tt := tYes) (by rfl) sc_moved.nd (kIT (K := K) (pi_tup (pe_ix (ixT (K := K)) (pv 0) pe_int (fun _ _ => rfl)))) (blkOk_by (own := [("_", 2), ("concept", 3)]) (N := ["line", "place", "_", "concept"]) (sc := defScope s_moved) (by decide +kernel)) (fun _ _ _ _ _ => (kGT (K := K) (n := 2) (pg_tup (by rfl) (pgs_cons (pg_name (i := 2) sc_moved.nd rfl (.inl rfl)) (pgs_cons (pg_name (i := 3) sc_moved.nd rfl (.inl rfl)) pgs_nil))))) (fun _ _ _ _ _ => pts_nil) (fun _ _ _ _ _ => (pe_tup (pa_cons (pv 1) (pa_cons (pv 3) pa_nil))))))), ?_⟩
      walk_at "in"
      obtain ⟨sh, rs, why⟩ := l
      rename Ds _ _ _ _ _ _ _ _ _ => S_
      simp only [Ln.D] at S_
      walk_at "dl"
      refine x_lc2T (fun j acc u => acc = (mv (rs.take j) i).map rwD ∧ u = []) (by decide) (by decide) (by assumption) (by walk_at "tm") (fun d hd => ?_) ⟨rfl, rfl⟩ ?_ ?_
      · obtain ⟨r, _, rfl⟩ := List.mem_map.mp hd
        exact ⟨_, _, rfl⟩
      · rintro j d1 d2 acc w1 hj ⟨rfl, rfl⟩ D4 σ4 H4 M4 hrw S4
        obtain ⟨r, hr', e⟩ := map_at hj
        have e1 : d1 = .int r.1 ∧ d2 = r.2.D := by
          cases e
          exact ⟨rfl, rfl⟩
        obtain ⟨rfl, rfl⟩ := e1
        have hz : ((mv (rs.take j) i).map rwD).length < sizeLine := by
          unfold mv
          rw [List.length_map, List.length_map, List.length_take]
          have hl : rs.length ≤ 400 := hl
          exact Nat.lt_of_lt_of_le (by omega : _ < 600) (by decide)
        rename Ds _ _ _ _ _ _ _ _ _ => S_
        simp only [uset, List.map_cons, List.map_nil, List.foldr_cons, List.foldr_nil, List.set_cons_succ, List.set_cons_zero] at S_
        walk_at "dl"
        exact x_lcA (by assumption) (by assumption) (by walk_at "tm") hz ⟨by rw [take_snoc hr']; unfold mv; rw [List.map_append, List.map_append]; rfl, rfl⟩
      · rintro acc w1 ⟨rfl, rfl⟩ x H4 M4 S4
        rw [show (rs.map rwD).length = rs.length from List.length_map .., take_all] at S4
        walk_at "dl"
        exact x_rO (by assumption) hq 0 rfl rfl
    ))) only [↓Pf.Gate.lem]
def pHasShape : Pre := fun ss u post => ∃ (bs : List Ln) (m : Int) (sh : ShR), ss = [.d (.tuple (bs.map Ln.D)), .d (.int m), .d sh.D] ∧ u = [] ∧ 0 ≤ m ∧ post = pD fun d => d = .bool (hasSh bs m sh)
theorem ln_at {bs : List Ln} {m : Int} {l : Ln} (h0 : 0 ≤ m) (h : lnAt bs m = some l) : atI (bs.map Ln.D) m = some l.D ∧ m < bs.length := by
  obtain ⟨k, rfl⟩ := Int.eq_ofNat_of_zero_le h0
  have h : bs[k]? = some l := h
  exact ⟨at_nat h, by have := (List.getElem?_eq_some_iff.mp h).1; omega⟩
theorem ln_no {bs : List Ln} {m : Int} (h0 : 0 ≤ m) (h : ¬ m < bs.length) : lnAt bs m = none := List.getElem?_eq_none (by omega)
theorem ln_ex {bs : List Ln} {m : Int} (h0 : 0 ≤ m) (h : m < bs.length) : ∃ l, lnAt bs m = some l := ⟨_, List.getElem?_eq_getElem (by omega : m.toNat < bs.length)⟩
theorem c_has_shape {f : Addr} {fd : FuncData} (D : Df K mg "_has_shape" s_has_shape f fd ["before", "number", "shape"]) (z_len : mg "len" = none) : Cl P w K mg base 1 "_has_shape" (spG K pHasShape) := by
  refine Pf.Gate.out ?_
  simp (disch := (with_unfolding_all (
      refine D.go sc_has_shape (pHasShape) (fun ss u post h => by repeat (first | (obtain ⟨rfl, _⟩ := h; rfl) | obtain ⟨_, h⟩ := h)) fun cdv A outer s H M vs Q E ss u post hr hp S hq => ?_
      obtain ⟨bs, m, sh, rfl, rfl, hm, rfl⟩ := hp
      refine ⟨_, (pss_one (ps_ret (pe_and (pe_cmpR op_lt (pv 1) (pe_callB (lenQ (K := K)) (by rfl) z_len PySem.boot_len (pa_cons (pv 0) pa_nil)) (nomark _)) (pe_one (pe_cmpR (kEqD (K := K) hr.units) (pe_ix (ixT (K := K)) (pe_ix (ixT (K := K)) (pv 0) (pv 1) (fun _ _ => rfl)) pe_int (fun _ _ => rfl)) (pv 2) (nomark _)))))), ?_⟩
      walk_at "in"
      walk_at "dl"
      have hL : (bs.map Ln.D).length = bs.length := List.length_map ..
      rw [hL]
      refine x_if (fun h => ?_) (fun h => ?_)
      · have h := of_decide_eq_true h
        obtain ⟨l, hl⟩ := ln_ex hm h
        walk_at "dl"
        refine x_ixT (by assumption) (by walk_at "tm") (ln_at hm hl).1 ?_
        walk_at "dl"
        rename Ds _ _ _ _ _ _ _ _ _ => S_
        simp only [Ln.D] at S_
        walk_at "dl"
        refine x_eqX shr_enc (c := l.sh) (d := sh) (by assumption) (by walk_at "tm") (by walk_at "tm") (shr_dp _) (shr_dp _) ?_
        exact x_rD (by assumption) hq (by walk_at "tm") (by unfold hasSh; rw [hl])
      · have h := of_decide_eq_false h
        walk_at "dl"
        exact x_rD (by assumption) hq (by walk_at "tm") (by unfold hasSh; rw [ln_no hm h])
    ))) only [↓Pf.Gate.lem]
def pAgainst (n : Nat) : Pre := fun ss u post => ∃ (rs : List (Int × Cp)) (q : Ro) (bk : Bool) (c : Cp) (i j : Int), ss = [.d (.tuple (rs.map rwD)), .d (ro q), .d (.bool bk), .d c.D, .d (.tuple [.int i, .int j])] ∧ u = [] ∧ HasOk n rs ∧ CcOk n c ∧ n ≤ 202 ∧ post = pD fun d => d = .bool (against rs q bk c i j)
theorem c_is_against {n : Nat} {f : Addr} {fd : FuncData} (D : Df K mg "_is_against" s_is_against f fd ["rows", "role", "backwards", "concept", "pair"]) (c_is_certain : Cl P w K mg base (n + 2) "is_certain" (spG K (pCertain n))) (c_inverse : Cl P w K mg base 1 "inverse" (spG K pInverse)) : Cl P w K mg base (n + 3) "_is_against" (spG K (pAgainst n)) := by
  refine Pf.Gate.out ?_
  simp (disch := (with_unfolding_all (
      refine D.go sc_is_against (pAgainst n) (fun ss u post h => by repeat (first | (obtain ⟨rfl, _⟩ := h; rfl) | obtain ⟨_, h⟩ := h)) fun cdv A outer s H M vs Q E ss u post hr hp S hq => ?_
      obtain ⟨rs, q, bk, c, i, j, rfl, rfl, hr1, hc, hn, rfl⟩ := hp
      refine ⟨_, (pss_cons (ps_asg (pv 4) (kGT (K := K) (n := 2) (pg_tup (by rfl) (pgs_cons (pg_name (i := 5) sc_is_against.nd rfl (.inl rfl)) (pgs_cons (pg_name (i := 6) sc_is_against.nd rfl (.inl rfl)) pgs_nil)))))
          (Evl.pss_cut (ps_if (pt_val (pv 2)) (pss_one (ps_par3 (i := 5) (j := 6) (l := 1) rfl sc_is_against.nd rfl rfl rfl (by decide) (by decide) (by decide) rfl rfl rfl (pa_cons (pv 6) (pa_cons (pv 5) (pa_cons (pc c_inverse hr (by first | decide | omega) (by rfl) (pa_cons (pv 1) pa_nil)) pa_nil))) rfl)) pss_nil)
          (pss_one (ps_ret (pe_and (pc c_is_certain hr (by first | decide | omega) (by rfl) (pa_cons (pv 0) (pa_cons (pv 5) (pa_cons (pe_tup (pa_cons pe_str (pa_cons (pv 1) (pa_cons (pv 3) pa_nil)))) (pa_cons pe_bl pa_nil))))) (pe_one (pc c_is_certain hr (by first | decide | omega) (by rfl) (pa_cons (pv 0) (pa_cons (pv 6) (pa_cons (pv 3) (pa_cons pe_bl pa_nil))))))))))), ?_⟩
      walk_at "in"
      walk_at "dl"
      refine x_cut (fun ρ u => ∃ (q' : Ro) (i' j' : Int), ρ = [.d (.tuple (rs.map rwD)), .d (ro q'), .d (.bool bk), .d c.D, .d (.tuple [.int i, .int j]), .d (.int i'), .d (.int j')] ∧ u = [] ∧ against rs q bk c i j = (cert rs i' (.some q'.1 q'.2 c) false && cert rs j' c true)) (by assumption) ?_ ?_
      · walk_at "dl"
        refine x_if (fun hb => ?_) (fun hb => ?_)
        · walk_at "dl"
          refine x_cD (by assumption) (by walk_at "slt") ⟨q, rfl, rfl, rfl⟩ ?_
          rintro _ rfl H_ M_ S_
          walk_at "dl"
          exact Md.at (by assumption) (by walk_at "le") ⟨Ro.inv q, j, i, rfl, rfl, by unfold against; rw [if_pos hb]⟩
        · walk_at "dl"
          exact Md.at (by assumption) (by walk_at "le") ⟨q, i, j, rfl, rfl, by unfold against; rw [if_neg (by rw [hb]; decide)]⟩
      rintro M1 σ1 H1 ρ1 u1 ⟨q', i', j', rfl, rfl, e⟩ S1
      walk_at "dl"
      refine x_cD (by assumption) (by walk_at "slt") ⟨rs, i', .some q'.1 q'.2 c, false, rfl, rfl, hr1, hc.1, hn, rfl⟩ ?_
      rintro _ rfl H_ M_ S_
      walk_at "dl"
      refine x_if (fun h1 => ?_) (fun h1 => ?_)
      · walk_at "dl"
        refine x_cD (by assumption) (by walk_at "slt") ⟨rs, j', c, true, rfl, rfl, hr1, by have := hc.1; omega, hn, rfl⟩ ?_
        rintro _ rfl H_ M_ S_
        walk_at "dl"
        exact x_rD (by assumption) hq (by walk_at "tm") (by rw [e]; unfold cert; rw [h1]; rfl)
      · walk_at "dl"
        exact x_rD (by assumption) hq (by walk_at "tm") (by rw [e]; unfold cert; rw [h1]; rfl)
    ))) only [↓Pf.Gate.lem]
def pRAxiom (n : Nat) : Pre := fun ss u post => ∃ (xs : List (List Pt)) (s2 : Int) (ms : List Int) (bs : List Ln) (sh : ShR) (rs : List (Int × Cp)) (p a m : Int), ss = [.d (onD xs s2), .d (.tuple (ms.map .int)), .d (.tuple (rs.map rwD)), .d (Rsn.axm p a m).D] ∧ u = [] ∧ AxC n xs ∧ HasOk n rs ∧ (0 ≤ a ∧ 0 ≤ m) ∧ n ≤ 202 ∧ post = pD fun d => d = .bool (rightB xs ms bs ⟨sh, rs, .axm p a m⟩)
theorem c_is_right_axiom {n : Nat} {f : Addr} {fd : FuncData} (D : Df K mg "_is_right_axiom" s_is_right_axiom f fd ["ontology", "places", "rows", "reason"]) (c_is_certain : Cl P w K mg base (n + 2) "is_certain" (spG K (pCertain n))) (c_part : Cl P w K mg base 1 "_part" (spG K pPart)) : Cl P w K mg base (n + 3) "_is_right_axiom" (spG K (pRAxiom n)) := by
  refine Pf.Gate.out ?_
  simp (disch := (with_unfolding_all (
      refine D.go sc_is_right_axiom (pRAxiom n) (fun ss u post h => by repeat (first | (obtain ⟨rfl, _⟩ := h; rfl) | obtain ⟨_, h⟩ := h)) fun cdv A outer s H M vs Q E ss u post hr hp S hq => ?_
      obtain ⟨xs, s2, ms, bs, sh, rs, p, a, m, rfl, rfl, hx, hr1, ⟨ha, hm⟩, hn, rfl⟩ := hp
      refine ⟨_, (pss_cons (ps_asg (pv 3) (kGT (K := K) (n := 4) (pg_tup (by rfl) (pgs_cons (pg_name (i := 4) sc_is_right_axiom.nd rfl (.inl rfl)) (pgs_cons (pg_name (i := 5) sc_is_right_axiom.nd rfl (.inl rfl)) (pgs_cons (pg_name (i := 6) sc_is_right_axiom.nd rfl (.inl rfl)) (pgs_cons (pg_name (i := 7) sc_is_right_axiom.nd rfl (.inl rfl)) pgs_nil)))))))
          (pss_cons (ps_set (i := 8) sc_is_right_axiom.nd rfl (.inl rfl) (pc c_part hr (by first | decide | omega) (by rfl) (pa_cons (pv 0) (pa_cons (pv 1) (pa_cons (pv 6) (pa_cons (pv 7) (pa_cons pe_str pa_nil)))))))
          (pss_cons (ps_if (pt_cmpR op_isNo (pv 8) pe_non (nomark _)) (pss_one (ps_ret pe_bl)) pss_nil)
          (pss_cons (ps_asg (pv 8) (kGT (K := K) (n := 3) (pg_tup (by rfl) (pgs_cons (pg_name (i := 4) sc_is_right_axiom.nd rfl (.inl rfl)) (pgs_cons (pg_name (i := 9) sc_is_right_axiom.nd rfl (.inl rfl)) (pgs_cons (pg_name (i := 10) sc_is_right_axiom.nd rfl (.inl rfl)) pgs_nil))))))
          (pss_one (ps_ret (pe_and (pc c_is_certain hr (by first | decide | omega) (by rfl) (pa_cons (pv 2) (pa_cons (pv 5) (pa_cons (pv 9) (pa_cons pe_bl pa_nil))))) (pe_one (pc c_is_certain hr (by first | decide | omega) (by rfl) (pa_cons (pv 2) (pa_cons (pv 5) (pa_cons (pv 10) (pa_cons pe_bl pa_nil))))))))))))), ?_⟩
      walk_at "in"
      rename Ds _ _ _ _ _ _ _ _ _ => S_
      simp only [Rsn.D] at S_
      walk_at "dl"
      refine x_cD (by assumption) (by walk_at "slt") ⟨xs, s2, ms, a, m, "below", rfl, rfl, ha, hm, rfl⟩ ?_
      rintro _ rfl H_ M_ S_
      walk_at "dl"
      have key : rightB xs ms bs ⟨sh, rs, .axm p a m⟩ = match kindOf "below" (partOf xs ms a m) with
        | some (.below c d) => cert rs p c true && cert rs p d false
        | _ => false := rfl
      rename Ds _ _ _ _ _ _ _ _ _ => S_
      cases hk : kindOf "below" (partOf xs ms a m) with
      | none =>
        rw [hk] at S_ key
        refine x_ifT rfl ?_
        walk_at "dl"
        exact x_rD (by assumption) hq (by walk_at "tm") (by rw [key])
      | some pt =>
        rw [hk] at S_ key
        have hkd := kindOf_some hk
        have hpt := part_ok hx hk
        cases pt with
        | below c d =>
          refine x_ifF rfl ?_
          rename Ds _ _ _ _ _ _ _ _ _ => S_
          simp only [optP, Pt.D] at S_
          walk_at "dl"
          refine x_cD (by assumption) (by walk_at "slt") ⟨rs, p, c, true, rfl, rfl, hr1, hpt.1, hn, rfl⟩ ?_
          rintro _ rfl H_ M_ S_
          walk_at "dl"
          refine x_if (fun h1 => ?_) (fun h1 => ?_)
          · walk_at "dl"
            refine x_cD (by assumption) (by walk_at "slt") ⟨rs, p, d, false, rfl, rfl, hr1, hpt.2, hn, rfl⟩ ?_
            rintro _ rfl H_ M_ S_
            walk_at "dl"
            exact x_rD (by assumption) hq (by walk_at "tm") (by rw [key]; show _ = PyData.bool (_ && _); rw [show cert rs p c true = true from h1]; rfl)
          · walk_at "dl"
            exact x_rD (by assumption) hq (by walk_at "tm") (by rw [key]; show _ = PyData.bool (_ && _); rw [show cert rs p c true = false from h1]; rfl)
        | under _ _ _ _ => exact absurd hkd (by decide +kernel : ¬ Str.ofString "under" = Str.ofString "below")
        | is _ _ => exact absurd hkd (by decide +kernel : ¬ Str.ofString "is" = Str.ofString "below")
        | has _ _ _ => exact absurd hkd (by decide +kernel : ¬ Str.ofString "has" = Str.ofString "below")
        | never => exact absurd hkd (by decide +kernel : ¬ Str.ofString "never" = Str.ofString "below")
    ))) only [↓Pf.Gate.lem]
end
section
variable {P : Program} {w : World} {K : PySem.W.Frag} {mg : Str → Option Value} {base : Heap}
def pRSplit (n : Nat) : Pre := fun ss u post => ∃ (xs : List (List Pt)) (ms : List Int) (bs : List Ln) (sh : ShR) (rs : List (Int × Cp)) (p : Int) (c : Cp) (a b : Int), ss = [.d (.tuple (bs.map Ln.D)), .d sh.D, .d (.tuple (rs.map rwD)), .d (Rsn.split p c a b).D] ∧ u = [] ∧ (∀ l ∈ bs, LnOk n l) ∧ RowsOk n rs ∧ RsnOk n (.split p c a b) ∧ n ≤ 202 ∧ post = pD fun d => d = .bool (rightB xs ms bs ⟨sh, rs, .split p c a b⟩)
theorem hasSh_ln {bs : List Ln} {m : Int} {sh : ShR} (h : hasSh bs m sh = true) : ∃ l, lnAt bs m = some l ∧ l.sh = sh := by
  unfold hasSh at h
  cases e : lnAt bs m with
  | none => rw [e] at h; cases h
  | some l => rw [e] at h; exact ⟨l, rfl, of_decide_eq_true h⟩
theorem hasSh_eq {bs : List Ln} {m : Int} {sh : ShR} {l : Ln} (h : lnAt bs m = some l) : hasSh bs m sh = decide (l.sh = sh) := by
  unfold hasSh; rw [h]
theorem ln_lt {bs : List Ln} {m : Int} {l : Ln} (h0 : 0 ≤ m) (h : lnAt bs m = some l) : atI (bs.map Ln.D) m = some l.D := (ln_at h0 h).1
theorem ln_mem {bs : List Ln} {m : Int} {l : Ln} (h : lnAt bs m = some l) : l ∈ bs := List.mem_of_getElem? h
theorem split_no {xs : List (List Pt)} {ms : List Int} {bs : List Ln} {sh : ShR} {rs : List (Int × Cp)} {p : Int} {c : Cp} {a b : Int} (h : hasSh bs a sh = false ∨ hasSh bs b sh = false) : rightB xs ms bs ⟨sh, rs, .split p c a b⟩ = false := by
  refine Pf.Gate.out ?_
  simp (disch := (with_unfolding_all (
      show (match lnAt bs a, lnAt bs b with
        | some x, some y => (decide (x.sh = sh) && decide (y.sh = sh)) && (certs (rs ++ [(p, c)]) x.rs && certs (rs ++ [(p, Cp.not c)]) y.rs)
        | _, _ => false) = false
      cases ea : lnAt bs a with
      | none => rfl
      | some x =>
        cases eb : lnAt bs b with
        | none => rfl
        | some y =>
          rw [hasSh_eq ea, hasSh_eq eb] at h
          show ((decide (x.sh = sh) && decide (y.sh = sh)) && _) = false
          rcases h with h | h <;> rw [h] <;> simp
    ))) only [↓Pf.Gate.lem]
theorem rw_snoc {rs : List (Int × Cp)} {p : Int} {c : Cp} : rs.map rwD ++ [.tuple [.int p, c.D]] = (rs ++ [(p, c)]).map rwD := by rw [List.map_append]; rfl
theorem c_is_right_split {n : Nat} {f : Addr} {fd : FuncData} (D : Df K mg "_is_right_split" s_is_right_split f fd ["before", "shape", "rows", "reason"]) (c_has_shape : Cl P w K mg base 1 "_has_shape" (spG K pHasShape)) (c_are_certain : Cl P w K mg base (n + 2) "_are_certain" (spG K (pAreCertain n))) : Cl P w K mg base (n + 3) "_is_right_split" (spG K (pRSplit n)) := by
  refine Pf.Gate.out ?_
  simp (disch := (with_unfolding_all (
      refine D.go sc_is_right_split (pRSplit n) (fun ss u post h => by repeat (first | (obtain ⟨rfl, _⟩ := h; rfl) | obtain ⟨_, h⟩ := h)) fun cdv A outer s H M vs Q E ss u post hr hp S hq => ?_
      obtain ⟨xs, ms, bs, sh, rs, p, c, a, b, rfl, rfl, hb, hr1, ⟨hc, ha0, hb0⟩, hn, rfl⟩ := hp
      refine ⟨_, (pss_cons (ps_asg (pv 3) (kGT (K := K) (n := 5) (pg_tup (by rfl) (pgs_cons (pg_name (i := 4) sc_is_right_split.nd rfl (.inl rfl)) (pgs_cons (pg_name (i := 5) sc_is_right_split.nd rfl (.inl rfl)) (pgs_cons (pg_name (i := 6) sc_is_right_split.nd rfl (.inl rfl)) (pgs_cons (pg_name (i := 7) sc_is_right_split.nd rfl (.inl rfl)) (pgs_cons (pg_name (i := 8) sc_is_right_split.nd rfl (.inl rfl)) pgs_nil))))))))
          (pss_cons (ps_if (pt_not (PW.pt (pw_and (pt_val (pc c_has_shape hr (by first | decide | omega) (by rfl) (pa_cons (pv 0) (pa_cons (pv 7) (pa_cons (pv 1) pa_nil))))) (pw_and1 (pt_val (pc c_has_shape hr (by first | decide | omega) (by rfl) (pa_cons (pv 0) (pa_cons (pv 8) (pa_cons (pv 1) pa_nil))))))))) (pss_one (ps_ret pe_bl)) pss_nil)
          (pss_one (ps_ret (pe_and (pc c_are_certain hr (by first | decide | omega) (by rfl) (pa_cons (pe_op (kCatA (K := K)) (pv 2) (pe_tup (pa_cons (pe_tup (pa_cons (pv 5) (pa_cons (pv 6) pa_nil))) pa_nil))) (pa_cons (pe_ix (ixT (K := K)) (pe_ix (ixT (K := K)) (pv 0) (pv 7) (fun _ _ => rfl)) pe_int (fun _ _ => rfl)) pa_nil))) (pe_one (pc c_are_certain hr (by first | decide | omega) (by rfl) (pa_cons (pe_op (kCatA (K := K)) (pv 2) (pe_tup (pa_cons (pe_tup (pa_cons (pv 5) (pa_cons (pe_tup (pa_cons pe_str (pa_cons (pv 6) pa_nil))) pa_nil))) pa_nil))) (pa_cons (pe_ix (ixT (K := K)) (pe_ix (ixT (K := K)) (pv 0) (pv 8) (fun _ _ => rfl)) pe_int (fun _ _ => rfl)) pa_nil))))))))), ?_⟩
      walk_at "in"
      rename Ds _ _ _ _ _ _ _ _ _ => S_
      simp only [Rsn.D] at S_
      walk_at "dl"
      refine x_cD (by assumption) (by walk_at "slt") ⟨bs, a, sh, rfl, rfl, ha0, rfl⟩ ?_
      rintro _ rfl H_ M_ S_
      walk_at "dl"
      refine x_if (fun h1 => ?_) (fun h1 => ?_)
      · walk_at "dl"
        refine x_cD (by assumption) (by walk_at "slt") ⟨bs, b, sh, rfl, rfl, hb0, rfl⟩ ?_
        rintro _ rfl H_ M_ S_
        walk_at "dl"
        refine x_if (fun h2 => ?_) (fun h2 => ?_)
        · have h2 : hasSh bs b sh = false := by rw [← Bool.not_eq_true']; exact h2
          walk_at "dl"
          exact x_rD (by assumption) hq (by walk_at "tm") (by rw [split_no (.inr h2)])
        · have h2 : hasSh bs b sh = true := by rw [← Bool.not_eq_false']; exact h2
          obtain ⟨x, hx, hxs⟩ := hasSh_ln h1
          obtain ⟨y, hy, hys⟩ := hasSh_ln h2
          have key : rightB xs ms bs ⟨sh, rs, .split p c a b⟩ = (certs (rs ++ [(p, c)]) x.rs && certs (rs ++ [(p, Cp.not c)]) y.rs) := by
            show (match lnAt bs a, lnAt bs b with
              | some x, some y => (decide (x.sh = sh) && decide (y.sh = sh)) && (certs (rs ++ [(p, c)]) x.rs && certs (rs ++ [(p, Cp.not c)]) y.rs)
              | _, _ => false) = _
            rw [hx, hy]
            show ((decide (x.sh = sh) && decide (y.sh = sh)) && _) = _
            rw [decide_eq_true hxs, decide_eq_true hys]
            rfl
          rw [key] at hq
          have hl : (rs.map rwD).length + 1 ≤ sizeLine := by rw [List.length_map]; exact Nat.le_trans (by have := hr1.1; omega : _ ≤ 600) (by decide)
          walk_at "dl"
          refine x_catT (by assumption) (by walk_at "tm") (by walk_at "tm") hl fun u_ H_ M_ S_ => ?_
          walk_at "dl"
          rename Ds _ _ _ _ _ _ _ _ _ => S_
          rw [rw_snoc] at S_
          walk_at "dl"
          refine x_ixT (by assumption) (by walk_at "tm") (ln_lt ha0 hx) ?_
          walk_at "dl"
          rename Ds _ _ _ _ _ _ _ _ _ => S_
          simp only [Ln.D] at S_
          walk_at "dl"
          refine x_cD (by assumption) (by walk_at "slt") ⟨true, rs ++ [(p, c)], x.rs, rfl, rfl, hr1.snoc (by have := hc.1; omega) (by have := hc.2; omega), (hb x (ln_mem hx)).rows.has, hn, rfl⟩ ?_
          rintro _ rfl H_ M_ S_
          walk_at "dl"
          refine x_if (fun h3 => ?_) (fun h3 => ?_)
          · walk_at "dl"
            refine x_catT (by assumption) (by walk_at "tm") (by walk_at "tm") hl fun u_ H_ M_ S_ => ?_
            walk_at "dl"
            rename Ds _ _ _ _ _ _ _ _ _ => S_
            rw [show rs.map rwD ++ [PyData.tuple [.int p, .tuple [sK "not", c.D]]] = (rs ++ [(p, Cp.not c)]).map rwD from rw_snoc (c := .not c)] at S_
            walk_at "dl"
            refine x_ixT (by assumption) (by walk_at "tm") (ln_lt hb0 hy) ?_
            walk_at "dl"
            rename Ds _ _ _ _ _ _ _ _ _ => S_
            simp only [Ln.D] at S_
            walk_at "dl"
            refine x_cD (by assumption) (by walk_at "slt") ⟨true, rs ++ [(p, Cp.not c)], y.rs, rfl, rfl, hr1.snoc (c := .not c) hc.1 hc.2, (hb y (ln_mem hy)).rows.has, hn, rfl⟩ ?_
            rintro _ rfl H_ M_ S_
            walk_at "dl"
            exact x_rD (by assumption) hq (by walk_at "tm") (by rw [h3]; rfl)
          · walk_at "dl"
            exact x_rD (by assumption) hq (by walk_at "tm") (by rw [h3]; rfl)
      · refine x_ifT rfl ?_
        walk_at "dl"
        exact x_rD (by assumption) hq (by walk_at "tm") (by rw [split_no (.inl h1)])
    ))) only [↓Pf.Gate.lem]
end
section
variable {P : Program} {w : World} {K : PySem.W.Frag} {mg : Str → Option Value} {base : Heap}
def pRMem (n : Nat) : Pre := fun ss u post => ∃ (xs : List (List Pt)) (s2 : Int) (ms : List Int) (bs : List Ln) (sh : ShR) (rs : List (Int × Cp)) (a m : Int), ss = [.d (onD xs s2), .d (.tuple (ms.map .int)), .d (Ln.D ⟨sh, rs, .mem a m⟩)] ∧ u = [] ∧ AxC n xs ∧ HasOk n rs ∧ (0 ≤ a ∧ 0 ≤ m) ∧ n ≤ 202 ∧ post = pD fun d => d = .bool (rightB xs ms bs ⟨sh, rs, .mem a m⟩)
theorem c_is_right_member {n : Nat} {f : Addr} {fd : FuncData} (D : Df K mg "_is_right_member" s_is_right_member f fd ["ontology", "places", "line"]) (c_is_certain : Cl P w K mg base (n + 2) "is_certain" (spG K (pCertain n))) (c_part : Cl P w K mg base 1 "_part" (spG K pPart)) : Cl P w K mg base (n + 3) "_is_right_member" (spG K (pRMem n)) := by
  refine Pf.Gate.out ?_
  simp (disch := (with_unfolding_all (
      refine D.go sc_is_right_member (pRMem n) (fun ss u post h => by repeat (first | (obtain ⟨rfl, _⟩ := h; rfl) | obtain ⟨_, h⟩ := h)) fun cdv A outer s H M vs Q E ss u post hr hp S hq => ?_
      obtain ⟨xs, s2, ms, bs, sh, rs, a, m, rfl, rfl, hx, hr1, ⟨ha, hm⟩, hn, rfl⟩ := hp
      refine ⟨_, (pss_cons (ps_asg (pv 2) (kGT (K := K) (n := 3) (pg_tup (by rfl) (pgs_cons (pg_name (i := 3) sc_is_right_member.nd rfl (.inl rfl)) (pgs_cons (pg_name (i := 4) sc_is_right_member.nd rfl (.inl rfl)) (pgs_cons (pg_name (i := 5) sc_is_right_member.nd rfl (.inl rfl)) pgs_nil))))))
          (pss_cons (ps_asg (pv 5) (kGT (K := K) (n := 3) (pg_tup (by rfl) (pgs_cons (pg_name (i := 6) sc_is_right_member.nd rfl (.inl rfl)) (pgs_cons (pg_name (i := 7) sc_is_right_member.nd rfl (.inl rfl)) (pgs_cons (pg_name (i := 8) sc_is_right_member.nd rfl (.inl rfl)) pgs_nil))))))
          (pss_cons (ps_set (i := 9) sc_is_right_member.nd rfl (.inl rfl) (pc c_part hr (by first | decide | omega) (by rfl) (pa_cons (pv 0) (pa_cons (pv 1) (pa_cons (pv 7) (pa_cons (pv 8) (pa_cons pe_str pa_nil)))))))
          (pss_one (ps_ret (pe_and (pe_cmpR (kEqD (K := K) hr.units) (pv 3) (pe_tup (pa_cons pe_str pa_nil)) (nomark _)) (pe_and (pe_cmpR op_notNo (pv 9) pe_non (nomark _)) (pe_one (pc c_is_certain hr (by first | decide | omega) (by rfl) (pa_cons (pv 4) (pa_cons (pe_ix (ixT (K := K)) (pv 9) pe_int (fun _ _ => rfl)) (pa_cons (pe_ix (ixT (K := K)) (pv 9) pe_int (fun _ _ => rfl)) (pa_cons pe_bl pa_nil))))))))))))), ?_⟩
      walk_at "in"
      rename Ds _ _ _ _ _ _ _ _ _ => S_
      simp only [Ln.D, Rsn.D] at S_
      walk_at "dl"
      refine x_cD (by assumption) (by walk_at "slt") ⟨xs, s2, ms, a, m, "is", rfl, rfl, ha, hm, rfl⟩ ?_
      rintro _ rfl H_ M_ S_
      walk_at "dl"
      refine x_eqX shr_enc (c := sh) (d := .family) (by assumption) (by walk_at "tm") (by walk_at "tm") (shr_dp _) (shr_dp _) ?_
      walk_at "dl"
      have key : rightB xs ms bs ⟨sh, rs, .mem a m⟩ = (decide (sh = .family) && match kindOf "is" (partOf xs ms a m) with
        | some (.is o c) => cert rs o c false
        | _ => false) := rfl
      refine x_if (fun h1 => ?_) (fun h1 => ?_)
      · rw [h1] at key
        walk_at "dl"
        rename Ds _ _ _ _ _ _ _ _ _ => S_
        cases hk : kindOf "is" (partOf xs ms a m) with
        | none =>
          rw [hk] at S_ key
          refine x_ifF rfl ?_
          walk_at "dl"
          exact x_rD (by assumption) hq (by walk_at "tm") (by rw [key]; rfl)
        | some pt =>
          rw [hk] at S_ key
          have hkd := kindOf_some hk
          have hpt := part_ok hx hk
          cases pt with
          | is o c =>
            refine x_ifT rfl ?_
            rename Ds _ _ _ _ _ _ _ _ _ => S_
            simp only [optP, Pt.D] at S_
            walk_at "dl"
            refine x_cD (by assumption) (by walk_at "slt") ⟨rs, o, c, false, rfl, rfl, hr1, hpt, hn, rfl⟩ ?_
            rintro _ rfl H_ M_ S_
            walk_at "dl"
            exact x_rD (by assumption) hq (by walk_at "tm") (by rw [key]; rfl)
          | below _ _ => exact absurd hkd (by decide +kernel : ¬ Str.ofString "below" = Str.ofString "is")
          | under _ _ _ _ => exact absurd hkd (by decide +kernel : ¬ Str.ofString "under" = Str.ofString "is")
          | has _ _ _ => exact absurd hkd (by decide +kernel : ¬ Str.ofString "has" = Str.ofString "is")
          | never => exact absurd hkd (by decide +kernel : ¬ Str.ofString "never" = Str.ofString "is")
      · rw [h1] at key
        walk_at "dl"
        exact x_rD (by assumption) hq (by walk_at "tm") (by rw [key]; rfl)
    ))) only [↓Pf.Gate.lem]
def pRRole (n : Nat) : Pre := fun ss u post => ∃ (xs : List (List Pt)) (s2 : Int) (ms : List Int) (bs : List Ln) (sh : ShR) (rs : List (Int × Cp)) (st : List Stp) (bk : Bool) (c : Cp), ss = [.d (onD xs s2), .d (.tuple (ms.map .int)), .d (Ln.D ⟨sh, rs, .role st bk c⟩)] ∧ u = [] ∧ HasOk n rs ∧ StOk st ∧ CcOk n c ∧ n ≤ 202 ∧ post = pD fun d => d = .bool (rightB xs ms bs ⟨sh, rs, .role st bk c⟩)
theorem c_is_right_role {n : Nat} {f : Addr} {fd : FuncData} (D : Df K mg "_is_right_role" s_is_right_role f fd ["ontology", "places", "line"]) (c_role_behind : Cl P w K mg base 2 "role_behind" (spG K pRoleBehind)) (c_is_against : Cl P w K mg base (n + 3) "_is_against" (spG K (pAgainst n))) : Cl P w K mg base (n + 4) "_is_right_role" (spG K (pRRole n)) := by
  refine Pf.Gate.out ?_
  simp (disch := (with_unfolding_all (
      refine D.go sc_is_right_role (pRRole n) (fun ss u post h => by repeat (first | (obtain ⟨rfl, _⟩ := h; rfl) | obtain ⟨_, h⟩ := h)) fun cdv A outer s H M vs Q E ss u post hr hp S hq => ?_
      obtain ⟨xs, s2, ms, bs, sh, rs, st, bk, c, rfl, rfl, hr1, hst, hc, hn, rfl⟩ := hp
      refine ⟨_, (pss_cons (ps_asg (pv 2) (kGT (K := K) (n := 3) (pg_tup (by rfl) (pgs_cons (pg_name (i := 3) sc_is_right_role.nd rfl (.inl rfl)) (pgs_cons (pg_name (i := 4) sc_is_right_role.nd rfl (.inl rfl)) (pgs_cons (pg_name (i := 5) sc_is_right_role.nd rfl (.inl rfl)) pgs_nil))))))
          (pss_cons (ps_asg (pv 5) (kGT (K := K) (n := 4) (pg_tup (by rfl) (pgs_cons (pg_name (i := 6) sc_is_right_role.nd rfl (.inl rfl)) (pgs_cons (pg_name (i := 7) sc_is_right_role.nd rfl (.inl rfl)) (pgs_cons (pg_name (i := 8) sc_is_right_role.nd rfl (.inl rfl)) (pgs_cons (pg_name (i := 9) sc_is_right_role.nd rfl (.inl rfl)) pgs_nil)))))))
          (pss_cons (ps_if (pt_cmpR op_ne (pe_ix (ixT (K := K)) (pv 3) pe_int (fun _ _ => rfl)) pe_str (nomark _)) (pss_one (ps_ret pe_bl)) pss_nil)
          (pss_cons (ps_set (i := 10) sc_is_right_role.nd rfl (.inl rfl) (pc c_role_behind hr (by first | decide | omega) (by rfl) (pa_cons (pv 0) (pa_cons (pv 1) (pa_cons (pe_ix (ixT (K := K)) (pv 3) pe_int (fun _ _ => rfl)) (pa_cons (pv 7) pa_nil))))))
          (pss_one (ps_ret (pe_and (pe_cmpR op_notNo (pv 10) pe_non (nomark _)) (pe_one (pc c_is_against hr (by first | decide | omega) (by rfl) (pa_cons (pv 4) (pa_cons (pv 10) (pa_cons (pv 8) (pa_cons (pv 9) (pa_cons (pe_tup (pa_cons pe_int (pa_cons pe_int pa_nil))) pa_nil)))))))))))))), ?_⟩
      walk_at "in"
      cases sh with
      | pair r b =>
        rename Ds _ _ _ _ _ _ _ _ _ => S_
        simp only [Ln.D, Rsn.D, ShR.D] at S_
        walk_at "dl"
        refine x_cD (by assumption) (by walk_at "slt") ⟨xs, s2, ms, (r, b), st, rfl, rfl, hst, rfl⟩ ?_
        rintro _ rfl H_ M_ S_
        walk_at "dl"
        have key : rightB xs ms bs ⟨.pair r b, rs, .role st bk c⟩ = match led xs ms (r, b) st with
          | some q => against rs q bk c 0 1
          | none => false := rfl
        rename Ds _ _ _ _ _ _ _ _ _ => S_
        cases hk : led xs ms (r, b) st with
        | none =>
          rw [hk] at S_ key
          refine x_ifF rfl ?_
          walk_at "dl"
          exact x_rD (by assumption) hq (by walk_at "tm") (by rw [key])
        | some q =>
          rw [hk] at S_ key
          refine x_ifT rfl ?_
          rename Ds _ _ _ _ _ _ _ _ _ => S_
          simp only [optR] at S_
          walk_at "dl"
          refine x_cD (by assumption) (by walk_at "slt") ⟨rs, q, bk, c, 0, 1, rfl, rfl, hr1, hc, hn, rfl⟩ ?_
          rintro _ rfl H_ M_ S_
          walk_at "dl"
          exact x_rD (by assumption) hq (by walk_at "tm") (by rw [key])
      | thing =>
        rename Ds _ _ _ _ _ _ _ _ _ => S_
        simp only [Ln.D, Rsn.D, ShR.D] at S_
        walk_at "dl"
        exact x_rD (by assumption) hq (by walk_at "tm") rfl
      | family =>
        rename Ds _ _ _ _ _ _ _ _ _ => S_
        simp only [Ln.D, Rsn.D, ShR.D] at S_
        walk_at "dl"
        exact x_rD (by assumption) hq (by walk_at "tm") rfl
    ))) only [↓Pf.Gate.lem]
def pRLink (n : Nat) : Pre := fun ss u post => ∃ (xs : List (List Pt)) (s2 : Int) (ms : List Int) (bs : List Ln) (sh : ShR) (rs : List (Int × Cp)) (a m : Int) (st : List Stp) (bk : Bool) (c : Cp), ss = [.d (onD xs s2), .d (.tuple (ms.map .int)), .d (Ln.D ⟨sh, rs, .link a m st bk c⟩)] ∧ u = [] ∧ HasOk n rs ∧ (0 ≤ a ∧ 0 ≤ m) ∧ StOk st ∧ CcOk n c ∧ n ≤ 202 ∧ post = pD fun d => d = .bool (rightB xs ms bs ⟨sh, rs, .link a m st bk c⟩)
theorem c_is_right_link {n : Nat} {f : Addr} {fd : FuncData} (D : Df K mg "_is_right_link" s_is_right_link f fd ["ontology", "places", "line"]) (c_role_behind : Cl P w K mg base 2 "role_behind" (spG K pRoleBehind)) (c_part : Cl P w K mg base 1 "_part" (spG K pPart)) (c_is_against : Cl P w K mg base (n + 3) "_is_against" (spG K (pAgainst n))) : Cl P w K mg base (n + 4) "_is_right_link" (spG K (pRLink n)) := by
  refine Pf.Gate.out ?_
  simp (disch := (with_unfolding_all (
      refine D.go sc_is_right_link (pRLink n) (fun ss u post h => by repeat (first | (obtain ⟨rfl, _⟩ := h; rfl) | obtain ⟨_, h⟩ := h)) fun cdv A outer s H M vs Q E ss u post hr hp S hq => ?_
      obtain ⟨xs, s2, ms, bs, sh, rs, a, m, st, bk, c, rfl, rfl, hr1, ⟨ha, hm⟩, hst, hc, hn, rfl⟩ := hp
      refine ⟨_, (pss_cons (ps_asg (pv 2) (kGT (K := K) (n := 3) (pg_tup (by rfl) (pgs_cons (pg_name (i := 3) sc_is_right_link.nd rfl (.inl rfl)) (pgs_cons (pg_name (i := 4) sc_is_right_link.nd rfl (.inl rfl)) (pgs_cons (pg_name (i := 5) sc_is_right_link.nd rfl (.inl rfl)) pgs_nil))))))
          (pss_cons (ps_asg (pv 5) (kGT (K := K) (n := 6) (pg_tup (by rfl) (pgs_cons (pg_name (i := 6) sc_is_right_link.nd rfl (.inl rfl)) (pgs_cons (pg_name (i := 7) sc_is_right_link.nd rfl (.inl rfl)) (pgs_cons (pg_name (i := 8) sc_is_right_link.nd rfl (.inl rfl)) (pgs_cons (pg_name (i := 9) sc_is_right_link.nd rfl (.inl rfl)) (pgs_cons (pg_name (i := 10) sc_is_right_link.nd rfl (.inl rfl)) (pgs_cons (pg_name (i := 11) sc_is_right_link.nd rfl (.inl rfl)) pgs_nil)))))))))
          (pss_cons (ps_set (i := 12) sc_is_right_link.nd rfl (.inl rfl) (pc c_part hr (by first | decide | omega) (by rfl) (pa_cons (pv 0) (pa_cons (pv 1) (pa_cons (pv 7) (pa_cons (pv 8) (pa_cons pe_str pa_nil)))))))
          (pss_cons (ps_if (PW.pt (pw_or (pt_cmpR (kNeD (K := K) hr.units) (pv 3) (pe_tup (pa_cons pe_str pa_nil)) (nomark _)) (pw_or1 (pt_cmpR op_isNo (pv 12) pe_non (nomark _))))) (pss_one (ps_ret pe_bl)) pss_nil)
          (pss_cons (ps_asg (pv 12) (kGT (K := K) (n := 4) (pg_tup (by rfl) (pgs_cons (pg_name (i := 6) sc_is_right_link.nd rfl (.inl rfl)) (pgs_cons (pg_name (i := 13) sc_is_right_link.nd rfl (.inl rfl)) (pgs_cons (pg_name (i := 14) sc_is_right_link.nd rfl (.inl rfl)) (pgs_cons (pg_name (i := 15) sc_is_right_link.nd rfl (.inl rfl)) pgs_nil)))))))
          (pss_cons (ps_set (i := 16) sc_is_right_link.nd rfl (.inl rfl) (pc c_role_behind hr (by first | decide | omega) (by rfl) (pa_cons (pv 0) (pa_cons (pv 1) (pa_cons (pe_tup (pa_cons (pv 14) (pa_cons pe_bl pa_nil))) (pa_cons (pv 9) pa_nil))))))
          (pss_one (ps_ret (pe_and (pe_cmpR op_notNo (pv 16) pe_non (nomark _)) (pe_one (pc c_is_against hr (by first | decide | omega) (by rfl) (pa_cons (pv 4) (pa_cons (pv 16) (pa_cons (pv 10) (pa_cons (pv 11) (pa_cons (pe_tup (pa_cons (pv 13) (pa_cons (pv 15) pa_nil))) pa_nil)))))))))))))))), ?_⟩
      walk_at "in"
      rename Ds _ _ _ _ _ _ _ _ _ => S_
      simp only [Ln.D, Rsn.D] at S_
      walk_at "dl"
      refine x_cD (by assumption) (by walk_at "slt") ⟨xs, s2, ms, a, m, "has", rfl, rfl, ha, hm, rfl⟩ ?_
      rintro _ rfl H_ M_ S_
      walk_at "dl"
      refine x_neX shr_enc (c := sh) (d := .family) (by assumption) (by walk_at "tm") (by walk_at "tm") (shr_dp _) (shr_dp _) ?_
      walk_at "dl"
      have key : rightB xs ms bs ⟨sh, rs, .link a m st bk c⟩ = (decide (sh = .family) && match kindOf "has" (partOf xs ms a m) with
        | some (.has o k o2) => match led xs ms (k, false) st with
          | some q => against rs q bk c o o2
          | none => false
        | _ => false) := rfl
      refine x_if (fun h1 => ?_) (fun h1 => ?_)
      · have h1 : decide (sh = .family) = false := by rw [← Bool.not_eq_true']; exact h1
        rw [h1] at key
        walk_at "dl"
        exact x_rD (by assumption) hq (by walk_at "tm") (by rw [key]; rfl)
      · have h1 : decide (sh = .family) = true := by rw [← Bool.not_eq_false']; exact h1
        rw [h1] at key
        walk_at "dl"
        rename Ds _ _ _ _ _ _ _ _ _ => S_
        cases hk : kindOf "has" (partOf xs ms a m) with
        | none =>
          rw [hk] at S_ key
          refine x_ifT rfl ?_
          walk_at "dl"
          exact x_rD (by assumption) hq (by walk_at "tm") (by rw [key]; rfl)
        | some pt =>
          rw [hk] at S_ key
          have hkd := kindOf_some hk
          cases pt with
          | has o k o2 =>
            replace key : rightB xs ms bs ⟨sh, rs, .link a m st bk c⟩ = (true && match led xs ms (k, false) st with
              | some q => against rs q bk c o o2
              | none => false) := key
            refine x_ifF rfl ?_
            rename Ds _ _ _ _ _ _ _ _ _ => S_
            simp only [optP, Pt.D] at S_
            walk_at "dl"
            refine x_cD (by assumption) (by walk_at "slt") ⟨xs, s2, ms, (k, false), st, rfl, rfl, hst, rfl⟩ ?_
            rintro _ rfl H_ M_ S_
            walk_at "dl"
            rename Ds _ _ _ _ _ _ _ _ _ => S_
            cases hl : led xs ms (k, false) st with
            | none =>
              rw [hl] at S_ key
              refine x_ifF rfl ?_
              walk_at "dl"
              exact x_rD (by assumption) hq (by walk_at "tm") (by rw [key]; rfl)
            | some q =>
              rw [hl] at S_ key
              refine x_ifT rfl ?_
              rename Ds _ _ _ _ _ _ _ _ _ => S_
              simp only [optR] at S_
              walk_at "dl"
              refine x_cD (by assumption) (by walk_at "slt") ⟨rs, q, bk, c, o, o2, rfl, rfl, hr1, hc, hn, rfl⟩ ?_
              rintro _ rfl H_ M_ S_
              walk_at "dl"
              exact x_rD (by assumption) hq (by walk_at "tm") (by rw [key]; rfl)
          | below _ _ => exact absurd hkd (by decide +kernel : ¬ Str.ofString "below" = Str.ofString "has")
          | under _ _ _ _ => exact absurd hkd (by decide +kernel : ¬ Str.ofString "under" = Str.ofString "has")
          | is _ _ => exact absurd hkd (by decide +kernel : ¬ Str.ofString "is" = Str.ofString "has")
          | never => exact absurd hkd (by decide +kernel : ¬ Str.ofString "never" = Str.ofString "has")
    ))) only [↓Pf.Gate.lem]
end
section
variable {P : Program} {w : World} {K : PySem.W.Frag} {mg : Str → Option Value} {base : Heap}
def pRNeed (n : Nat) : Pre := fun ss u post => ∃ (xs : List (List Pt)) (ms : List Int) (bs : List Ln) (sh : ShR) (rs : List (Int × Cp)) (p r : Int) (b : Bool) (c : Cp) (m : Int), ss = [.d (.tuple (bs.map Ln.D)), .d (.tuple (rs.map rwD)), .d (Rsn.need p r b c m).D] ∧ u = [] ∧ (∀ l ∈ bs, LnOk n l) ∧ RowsOk n rs ∧ RsnOk n (.need p r b c m) ∧ n ≤ 202 ∧ post = pD fun d => d = .bool (rightB xs ms bs ⟨sh, rs, .need p r b c m⟩)
theorem hereOf_snoc {p : Int} {rs : List (Int × Cp)} {r : Int × Cp} : hereOf p (rs ++ [r]) = hereOf p rs ++ (if r.1 = 0 then [(p, r.2)] else []) := by
  unfold hereOf
  rw [List.filter_append, List.map_append]
  congr 1
  by_cases h : r.1 = 0
  · rw [if_pos h, List.filter_cons_of_pos (by rw [decide_eq_true h])]; rfl
  · rw [if_neg h, List.filter_cons_of_neg (by rw [decide_eq_false h]; decide)]; rfl
theorem behindOf_snoc {rs : List (Int × Cp)} {r : Int × Cp} : behindOf (rs ++ [r]) = behindOf rs ++ (if r.1 = 0 then [] else [(1, r.2)]) := by
  unfold behindOf
  rw [List.filter_append, List.map_append]
  congr 1
  by_cases h : r.1 = 0
  · rw [if_pos h, List.filter_cons_of_neg (by rw [decide_eq_true h]; decide)]; rfl
  · rw [if_neg h, List.filter_cons_of_pos (by rw [decide_eq_false h]; rfl)]; rfl
theorem hereOf_len {p : Int} {rs : List (Int × Cp)} : (hereOf p rs).length ≤ rs.length := by
  unfold hereOf; rw [List.length_map]; exact List.length_filter_le ..
theorem behindOf_len {rs : List (Int × Cp)} : (behindOf rs).length ≤ rs.length := by
  unfold behindOf; rw [List.length_map]; exact List.length_filter_le ..
theorem one_ok {n : Nat} {i : Int} {c : Cp} (hc : CcOk n c) : HasOk n [(i, c)] :=
  ⟨by show 1 ≤ 400; decide, fun r hr => by rw [List.mem_singleton.mp hr]; exact ⟨by have := hc.1; show c.dp < n; omega, by have := hc.2; show c.sz ≤ 10000; omega⟩⟩
theorem c_is_right_need {n : Nat} {f : Addr} {fd : FuncData} (D : Df K mg "_is_right_need" s_is_right_need f fd ["before", "rows", "reason"]) (c_has_shape : Cl P w K mg base 1 "_has_shape" (spG K pHasShape)) (c_is_certain : Cl P w K mg base (n + 2) "is_certain" (spG K (pCertain n))) (c_are_certain : Cl P w K mg base (n + 2) "_are_certain" (spG K (pAreCertain n))) : Cl P w K mg base (n + 3) "_is_right_need" (spG K (pRNeed n)) := by
  refine Pf.Gate.out ?_
  simp (disch := (with_unfolding_all (
      refine D.go sc_is_right_need (pRNeed n) (fun ss u post h => by repeat (first | (obtain ⟨rfl, _⟩ := h; rfl) | obtain ⟨_, h⟩ := h)) fun cdv A outer s H M vs Q E ss u post hr hp S hq => ?_
      obtain ⟨xs, ms, bs, sh, rs, p, r, b, c, m, rfl, rfl, hb, hr1, ⟨hc, hm⟩, hn, rfl⟩ := hp
      refine ⟨_, (pss_cons (ps_asg (pv 2) (kGT (K := K) (n := 5) (pg_tup (by rfl) (pgs_cons (pg_name (i := 3) sc_is_right_need.nd rfl (.inl rfl)) (pgs_cons (pg_name (i := 4) sc_is_right_need.nd rfl (.inr rfl)) (pgs_cons (pg_name (i := 5) sc_is_right_need.nd rfl (.inl rfl)) (pgs_cons (pg_name (i := 6) sc_is_right_need.nd rfl (.inl rfl)) (pgs_cons (pg_name (i := 7) sc_is_right_need.nd rfl (.inl rfl)) pgs_nil))))))))
          (pss_cons (ps_if (PW.pt (pw_or (pt_not (pt_val (pc c_has_shape hr (by first | decide | omega) (by rfl) (pa_cons (pv 0) (pa_cons (pv 7) (pa_cons (pe_tup (pa_cons pe_str (pa_cons (pv 5) pa_nil))) pa_nil)))))) (pw_or1 (pt_not (pt_val (pc c_is_certain hr (by first | decide | omega) (by rfl) (pa_cons (pv 1) (pa_cons (pv 4) (pa_cons (pe_tup (pa_cons pe_str (pa_cons (pv 5) (pa_cons (pv 6) pa_nil)))) (pa_cons pe_bl pa_nil)))))))))) (pss_one (ps_ret pe_bl)) pss_nil)
          (pss_cons (ps_set (i := 8) sc_is_right_need.nd rfl (.inl rfl) (pe_ix (ixT (K := K)) (pe_ix (ixT (K := K)) (pv 0) (pv 7) (fun _ _ => rfl)) pe_int (fun _ _ => rfl)))
          (pss_cons (ps_setLc (i := 9) (own := [("other", 11), ("row", 12)]) (g := (gTup K 2 (gCons (gName 11) (gCons (gName 12) gNil)))) (by rfl) sc_is_right_need.nd rfl rfl (sw_true rfl rfl rfl (by decide +kernel)) (kIT (K := K) (pi_tup (pv 8))) (blkOk_by (own := [("other", 11), ("row", 12)]) (N := ["before", "rows", "reason", "_", "place", "role", "concept", "number", "named", "here", "behind", "other", "row"]) (sc := defScope s_is_right_need) (by decide +kernel)) (fun _ _ _ _ _ => (kGT (K := K) (n := 2) (pg_tup (by rfl) (pgs_cons (pg_name (i := 11) sc_is_right_need.nd rfl (.inl rfl)) (pgs_cons (pg_name (i := 12) sc_is_right_need.nd rfl (.inl rfl)) pgs_nil))))) (fun _ _ _ _ _ => (pts_one (pt_cmpR op_eq (pv 11) pe_int (nomark _)))) (fun _ _ _ _ _ => (pe_tup (pa_cons (pv 4) (pa_cons (pv 12) pa_nil)))))
          (pss_cons (ps_setLc (i := 10) (own := [("other", 11), ("row", 12)]) (g := (gTup K 2 (gCons (gName 11) (gCons (gName 12) gNil)))) (by rfl) sc_is_right_need.nd rfl rfl (sw_true rfl rfl rfl (by decide +kernel)) (kIT (K := K) (pi_tup (pv 8))) (blkOk_by (own := [("other", 11), ("row", 12)]) (N := ["before", "rows", "reason", "_", "place", "role", "concept", "number", "named", "here", "behind", "other", "row"]) (sc := defScope s_is_right_need) (by decide +kernel)) (fun _ _ _ _ _ => (kGT (K := K) (n := 2) (pg_tup (by rfl) (pgs_cons (pg_name (i := 11) sc_is_right_need.nd rfl (.inl rfl)) (pgs_cons (pg_name (i := 12) sc_is_right_need.nd rfl (.inl rfl)) pgs_nil))))) (fun _ _ _ _ _ => (pts_one (pt_cmpR op_ne (pv 11) pe_int (nomark _)))) (fun _ _ _ _ _ => (pe_tup (pa_cons pe_int (pa_cons (pv 12) pa_nil)))))
          (pss_one (ps_ret (pe_and (pc c_are_certain hr (by first | decide | omega) (by rfl) (pa_cons (pv 1) (pa_cons (pv 9) pa_nil))) (pe_one (pc c_are_certain hr (by first | decide | omega) (by rfl) (pa_cons (pe_tup (pa_cons (pe_tup (pa_cons pe_int (pa_cons (pv 6) pa_nil))) pa_nil)) (pa_cons (pv 10) pa_nil)))))))))))), ?_⟩
      walk_at "in"
      rename Ds _ _ _ _ _ _ _ _ _ => S_
      simp only [Rsn.D] at S_
      walk_at "dl"
      refine x_cD (by assumption) (by walk_at "slt") ⟨bs, m, .pair r b, rfl, rfl, hm, rfl⟩ ?_
      rintro _ rfl H_ M_ S_
      walk_at "dl"
      have key : rightB xs ms bs ⟨sh, rs, .need p r b c m⟩ = match lnAt bs m with
        | some k => (decide (k.sh = .pair r b) && cert rs p (.some r b c) true) && (certs rs (hereOf p k.rs) && certs [(1, c)] (behindOf k.rs))
        | none => false := rfl
      refine x_if (fun h1 => ?_) (fun h1 => ?_)
      · have h1 : hasSh bs m (.pair r b) = false := by rw [← Bool.not_eq_true']; exact h1
        refine x_ifT rfl ?_
        walk_at "dl"
        exact x_rD (by assumption) hq (by walk_at "tm") (by
          rw [key]
          cases hk : lnAt bs m with
          | none => rfl
          | some k => rw [hasSh_eq hk] at h1; show _ = PyData.bool ((_ && _) && _); rw [h1]; rfl)
      · have h1 : hasSh bs m (.pair r b) = true := by rw [← Bool.not_eq_false']; exact h1
        obtain ⟨k, hk, hks⟩ := hasSh_ln h1
        rw [hk] at key
        replace key : rightB xs ms bs ⟨sh, rs, .need p r b c m⟩ = ((decide (k.sh = .pair r b) && cert rs p (.some r b c) true) && (certs rs (hereOf p k.rs) && certs [(1, c)] (behindOf k.rs))) := key
        rw [decide_eq_true hks] at key
        have hkr := (hb k (ln_mem hk)).rows
        walk_at "dl"
        refine x_cD (by assumption) (by walk_at "slt") ⟨rs, p, .some r b c, true, rfl, rfl, hr1.has, hc.1, hn, rfl⟩ ?_
        rintro _ rfl H_ M_ S_
        walk_at "dl"
        refine x_if (fun h2 => ?_) (fun h2 => ?_)
        · have h2 : cert rs p (.some r b c) true = false := by rw [← Bool.not_eq_true']; exact h2
          walk_at "dl"
          exact x_rD (by assumption) hq (by walk_at "tm") (by rw [key, h2]; rfl)
        · have h2 : cert rs p (.some r b c) true = true := by rw [← Bool.not_eq_false']; exact h2
          rw [h2] at key
          walk_at "dl"
          refine x_ixT (by assumption) (by walk_at "tm") (ln_lt hm hk) ?_
          walk_at "dl"
          rename Ds _ _ _ _ _ _ _ _ _ => S_
          simp only [Ln.D] at S_
          walk_at "dl"
          refine x_lc2T (fun j acc u => acc = (hereOf p (k.rs.take j)).map rwD ∧ u = []) (by decide) (by decide) (by assumption) (by walk_at "tm") (fun d hd => ?_) ⟨rfl, rfl⟩ ?_ ?_
          · obtain ⟨r, _, rfl⟩ := List.mem_map.mp hd
            exact ⟨_, _, rfl⟩
          · rintro j d1 d2 acc w1 hj ⟨rfl, rfl⟩ D4 σ4 H4 M4 hrw S4
            obtain ⟨r, hr', e⟩ := map_at hj
            have e1 : d1 = .int r.1 ∧ d2 = r.2.D := by
              cases e
              exact ⟨rfl, rfl⟩
            obtain ⟨rfl, rfl⟩ := e1
            have hz : ((hereOf p (k.rs.take j)).map rwD).length < sizeLine := by
              rw [List.length_map]
              have h1 := hereOf_len (p := p) (rs := k.rs.take j)
              rw [List.length_take] at h1
              have h2 := hkr.1
              exact Nat.lt_of_lt_of_le (by omega : _ < 600) (by decide)
            rename Ds _ _ _ _ _ _ _ _ _ => S_
            simp only [uset, List.map_cons, List.map_nil, List.foldr_cons, List.foldr_nil, List.set_cons_succ, List.set_cons_zero] at S_
            walk_at "dl"
            refine x_if (fun h => ?_) (fun h => ?_)
            · have h := of_decide_eq_true h
              walk_at "dl"
              exact x_lcA (by assumption) (by assumption) (by walk_at "tm") hz ⟨by rw [take_snoc hr', hereOf_snoc, if_pos h, List.map_append]; rfl, rfl⟩
            · have h := of_decide_eq_false h
              exact x_lcN (by assumption) (by assumption) ⟨by rw [take_snoc hr', hereOf_snoc, if_neg h, List.append_nil], rfl⟩
          rintro acc w1 ⟨rfl, rfl⟩ x_ H4 M4 S4
          rw [show (k.rs.map rwD).length = k.rs.length from List.length_map .., take_all] at S4
          walk_at "dl"
          rename Ds _ _ _ _ _ _ _ _ _ => S_
          obtain ⟨M_, S_⟩ := S_.frz2 (i := 9) rfl List.not_mem_nil
          simp only [List.set_cons_succ, List.set_cons_zero] at S_
          walk_at "dl"
          refine x_lc2T (fun j acc u => acc = (behindOf (k.rs.take j)).map rwD ∧ u = []) (by decide) (by decide) (by assumption) (by walk_at "tm") (fun d hd => ?_) ⟨rfl, rfl⟩ ?_ ?_
          · obtain ⟨r, _, rfl⟩ := List.mem_map.mp hd
            exact ⟨_, _, rfl⟩
          · rintro j d1 d2 acc w1 hj ⟨rfl, rfl⟩ D4 σ4 H4 M4 hrw S4
            obtain ⟨r, hr', e⟩ := map_at hj
            have e1 : d1 = .int r.1 ∧ d2 = r.2.D := by
              cases e
              exact ⟨rfl, rfl⟩
            obtain ⟨rfl, rfl⟩ := e1
            have hz : ((behindOf (k.rs.take j)).map rwD).length < sizeLine := by
              rw [List.length_map]
              have h1 := behindOf_len (rs := k.rs.take j)
              rw [List.length_take] at h1
              have h2 := hkr.1
              exact Nat.lt_of_lt_of_le (by omega : _ < 600) (by decide)
            rename Ds _ _ _ _ _ _ _ _ _ => S_
            simp only [uset, List.map_cons, List.map_nil, List.foldr_cons, List.foldr_nil, List.set_cons_succ, List.set_cons_zero] at S_
            walk_at "dl"
            refine x_if (fun h => ?_) (fun h => ?_)
            · have h := of_decide_eq_false (by rw [← Bool.not_eq_true']; exact h)
              walk_at "dl"
              exact x_lcA (by assumption) (by assumption) (by walk_at "tm") hz ⟨by rw [take_snoc hr', behindOf_snoc, if_neg h, List.map_append]; rfl, rfl⟩
            · have h := of_decide_eq_true (by rw [← Bool.not_eq_false']; exact h)
              exact x_lcN (by assumption) (by assumption) ⟨by rw [take_snoc hr', behindOf_snoc, if_pos h, List.append_nil], rfl⟩
          rintro acc w1 ⟨rfl, rfl⟩ x_ H4 M4 S4
          rw [show (k.rs.map rwD).length = k.rs.length from List.length_map .., take_all] at S4
          walk_at "dl"
          rename Ds _ _ _ _ _ _ _ _ _ => S_
          obtain ⟨M_, S_⟩ := S_.frz2 (i := 10) rfl List.not_mem_nil
          simp only [List.set_cons_succ, List.set_cons_zero] at S_
          walk_at "dl"
          refine x_cD (by assumption) (by walk_at "slt") ⟨false, rs, hereOf p k.rs, rfl, rfl, hr1.has, hereOk hkr, hn, rfl⟩ ?_
          rintro _ rfl H_ M_ S_
          walk_at "dl"
          refine x_if (fun h3 => ?_) (fun h3 => ?_)
          · walk_at "dl"
            refine x_cD (by assumption) (by walk_at "slt") ⟨false, [(1, c)], behindOf k.rs, rfl, rfl, one_ok hc, behindOk hkr, hn, rfl⟩ ?_
            rintro _ rfl H_ M_ S_
            walk_at "dl"
            exact x_rD (by assumption) hq (by walk_at "tm") (by rw [key, h3]; rfl)
          · walk_at "dl"
            exact x_rD (by assumption) hq (by walk_at "tm") (by rw [key, h3]; rfl)
    ))) only [↓Pf.Gate.lem]
end
section
variable {P : Program} {w : World} {K : PySem.W.Frag} {mg : Str → Option Value} {base : Heap}
def pIsRight (n : Nat) : Pre := fun ss u post => ∃ (xs : List (List Pt)) (s2 : Int) (ms : List Int) (bs : List Ln) (l : Ln), ss = [.d (onD xs s2), .d (.tuple (ms.map .int)), .d (.tuple (bs.map Ln.D)), .d l.D] ∧ u = [] ∧ AxC n xs ∧ (∀ l ∈ bs, LnOk n l) ∧ LnOk n l ∧ n ≤ 202 ∧ post = pD fun d => d = .bool (rightB xs ms bs l)
theorem c_is_right {n : Nat} {f : Addr} {fd : FuncData} (D : Df K mg "is_right" s_is_right f fd ["ontology", "places", "before", "line"])
    (c_is_certain : Cl P w K mg base (n + 2) "is_certain" (spG K (pCertain n))) (c_is_right_axiom : Cl P w K mg base (n + 3) "_is_right_axiom" (spG K (pRAxiom n)))
    (c_has_shape : Cl P w K mg base 1 "_has_shape" (spG K pHasShape)) (c_are_certain : Cl P w K mg base (n + 2) "_are_certain" (spG K (pAreCertain n))) (c_moved : Cl P w K mg base 1 "_moved" (spG K pMovedL))
    (c_is_right_split : Cl P w K mg base (n + 3) "_is_right_split" (spG K (pRSplit n))) (c_is_right_need : Cl P w K mg base (n + 3) "_is_right_need" (spG K (pRNeed n)))
    (c_is_right_role : Cl P w K mg base (n + 4) "_is_right_role" (spG K (pRRole n))) (c_is_right_member : Cl P w K mg base (n + 3) "_is_right_member" (spG K (pRMem n)))
    (c_is_right_link : Cl P w K mg base (n + 4) "_is_right_link" (spG K (pRLink n))) : Cl P w K mg base (n + 5) "is_right" (spG K (pIsRight n)) := by
  refine Pf.Gate.out ?_
  simp (disch := (with_unfolding_all (
      refine D.go sc_is_right (pIsRight n) (fun ss u post h => by repeat (first | (obtain ⟨rfl, _⟩ := h; rfl) | obtain ⟨_, h⟩ := h)) fun cdv A outer s H M vs Q E ss u post hr hp S hq => ?_
      obtain ⟨xs, s2, ms, bs, l, rfl, rfl, hx, hb, hl, hn, rfl⟩ := hp
      refine ⟨_, (pss_cons (ps_asg (pv 3) (kGT (K := K) (n := 3) (pg_tup (by rfl) (pgs_cons (pg_name (i := 4) sc_is_right.nd rfl (.inl rfl)) (pgs_cons (pg_name (i := 5) sc_is_right.nd rfl (.inl rfl)) (pgs_cons (pg_name (i := 6) sc_is_right.nd rfl (.inl rfl)) pgs_nil))))))
          (pss_cons (ps_set (i := 7) sc_is_right.nd rfl (.inl rfl) (pe_ix (ixT (K := K)) (pv 6) pe_int (fun _ _ => rfl)))
          (pss_cons (ps_if (pt_cmpR op_eq (pv 7) pe_str (nomark _)) (pss_cons (ps_asg (pv 6) (kGT (K := K) (n := 3) (pg_tup (by rfl) (pgs_cons (pg_name (i := 8) sc_is_right.nd rfl (.inl rfl)) (pgs_cons (pg_name (i := 9) sc_is_right.nd rfl (.inl rfl)) (pgs_cons (pg_name (i := 10) sc_is_right.nd rfl (.inl rfl)) pgs_nil))))))
          (pss_one (ps_ret (pe_and (pc c_is_certain hr (by first | decide | omega) (by rfl) (pa_cons (pv 5) (pa_cons (pv 9) (pa_cons (pv 10) (pa_cons pe_bl pa_nil))))) (pe_one (pc c_is_certain hr (by first | decide | omega) (by rfl) (pa_cons (pv 5) (pa_cons (pv 9) (pa_cons (pv 10) (pa_cons pe_bl pa_nil)))))))))) pss_nil)
          (pss_cons (ps_if (pt_cmpR op_eq (pv 7) pe_str (nomark _)) (pss_one (ps_ret (pc c_is_right_axiom hr (by first | decide | omega) (by rfl) (pa_cons (pv 0) (pa_cons (pv 1) (pa_cons (pv 5) (pa_cons (pv 6) pa_nil))))))) pss_nil)
          (pss_cons (ps_if (pt_cmpR op_eq (pv 7) pe_str (nomark _)) (pss_cons (ps_asg (pv 6) (kGT (K := K) (n := 3) (pg_tup (by rfl) (pgs_cons (pg_name (i := 8) sc_is_right.nd rfl (.inl rfl)) (pgs_cons (pg_name (i := 9) sc_is_right.nd rfl (.inl rfl)) (pgs_cons (pg_name (i := 11) sc_is_right.nd rfl (.inl rfl)) pgs_nil))))))
          (pss_one (ps_ret (pe_and (pc c_has_shape hr (by first | decide | omega) (by rfl) (pa_cons (pv 2) (pa_cons (pv 11) (pa_cons (pe_tup (pa_cons pe_str pa_nil)) pa_nil)))) (pe_one (pc c_are_certain hr (by first | decide | omega) (by rfl) (pa_cons (pv 5) (pa_cons (pc c_moved hr (by first | decide | omega) (by rfl) (pa_cons (pe_ix (ixT (K := K)) (pv 2) (pv 11) (fun _ _ => rfl)) (pa_cons (pv 9) pa_nil))) pa_nil)))))))) pss_nil)
          (pss_cons (ps_if (pt_cmpR op_eq (pv 7) pe_str (nomark _)) (pss_one (ps_ret (pc c_is_right_split hr (by first | decide | omega) (by rfl) (pa_cons (pv 2) (pa_cons (pv 4) (pa_cons (pv 5) (pa_cons (pv 6) pa_nil))))))) pss_nil)
          (pss_cons (ps_if (pt_cmpR op_eq (pv 7) pe_str (nomark _)) (pss_one (ps_ret (pc c_is_right_need hr (by first | decide | omega) (by rfl) (pa_cons (pv 2) (pa_cons (pv 5) (pa_cons (pv 6) pa_nil)))))) pss_nil)
          (pss_cons (ps_if (pt_cmpR op_eq (pv 7) pe_str (nomark _)) (pss_one (ps_ret (pc c_is_right_role hr (by first | decide | omega) (by rfl) (pa_cons (pv 0) (pa_cons (pv 1) (pa_cons (pv 3) pa_nil)))))) pss_nil)
          (pss_cons (ps_if (pt_cmpR op_eq (pv 7) pe_str (nomark _)) (pss_one (ps_ret (pc c_is_right_member hr (by first | decide | omega) (by rfl) (pa_cons (pv 0) (pa_cons (pv 1) (pa_cons (pv 3) pa_nil)))))) pss_nil)
          (pss_one (ps_ret (pc c_is_right_link hr (by first | decide | omega) (by rfl) (pa_cons (pv 0) (pa_cons (pv 1) (pa_cons (pv 3) pa_nil))))))))))))))), ?_⟩
      walk_at "in"
      obtain ⟨sh, rs, why⟩ := l
      have hw := hl.why
      have hr1 := hl.rows
      cases why with
      | clash p c =>
        rename Ds _ _ _ _ _ _ _ _ _ => S_
        simp only [Ln.D, Rsn.D] at S_
        walk_at "dl"
        refine x_cD (by assumption) (by walk_at "slt") ⟨rs, p, c, true, rfl, rfl, hr1.has, by have := hw.1; omega, hn, rfl⟩ ?_
        rintro _ rfl H_ M_ S_
        walk_at "dl"
        refine x_if (fun h1 => ?_) (fun h1 => ?_)
        · walk_at "dl"
          refine x_cD (by assumption) (by walk_at "slt") ⟨rs, p, c, false, rfl, rfl, hr1.has, by have := hw.1; omega, hn, rfl⟩ ?_
          rintro _ rfl H_ M_ S_
          walk_at "dl"
          exact x_rD (by assumption) hq (by walk_at "tm") (by show PyData.bool _ = PyData.bool (_ && _); unfold cert; rw [h1]; rfl)
        · walk_at "dl"
          exact x_rD (by assumption) hq (by walk_at "tm") (by show PyData.bool _ = PyData.bool (_ && _); unfold cert; rw [h1]; rfl)
      | axm p a m =>
        rename Ds _ _ _ _ _ _ _ _ _ => S_
        simp only [Ln.D, Rsn.D] at S_
        walk_at "dl"
        refine x_cD (by assumption) (by walk_at "slt") ⟨xs, s2, ms, bs, sh, rs, p, a, m, rfl, rfl, hx, hr1.has, hw, hn, rfl⟩ ?_
        rintro _ rfl H_ M_ S_
        walk_at "dl"
        exact x_rD (by assumption) hq (by walk_at "tm") rfl
      | line p m =>
        rename Ds _ _ _ _ _ _ _ _ _ => S_
        simp only [Ln.D, Rsn.D] at S_
        walk_at "dl"
        refine x_cD (by assumption) (by walk_at "slt") ⟨bs, m, .thing, rfl, rfl, hw, rfl⟩ ?_
        rintro _ rfl H_ M_ S_
        walk_at "dl"
        have key : rightB xs ms bs ⟨sh, rs, .line p m⟩ = match lnAt bs m with
          | some k => decide (k.sh = .thing) && certs rs (mv k.rs p)
          | none => false := rfl
        refine x_if (fun h1 => ?_) (fun h1 => ?_)
        · obtain ⟨k, hk, hks⟩ := hasSh_ln h1
          rw [hk] at key
          walk_at "dl"
          refine x_ixT (by assumption) (by walk_at "tm") (ln_lt hw hk) ?_
          walk_at "dl"
          refine x_cO (by assumption) (by walk_at "slt") ⟨k, p, rfl, rfl, by have := (hb k (ln_mem hk)).rows.1; omega, rfl⟩ ?_
          rintro _ rfl m_ H_ M_ S_
          walk_at "dl"
          rename Ds _ _ _ _ _ _ _ _ _ => S_
          obtain ⟨M_, S_⟩ := S_.freeze List.not_mem_nil
          refine x_cD (by assumption) (by walk_at "slt") ⟨false, rs, mv k.rs p, rfl, rfl, hr1.has, mvOk (hb k (ln_mem hk)).rows.has, hn, rfl⟩ ?_
          rintro _ rfl H_ M_ S_
          walk_at "dl"
          exact x_rD (by assumption) hq (by walk_at "tm") (by rw [key]; show _ = PyData.bool (decide (k.sh = ShR.thing) && _); rw [decide_eq_true hks]; rfl)
        · walk_at "dl"
          exact x_rD (by assumption) hq (by walk_at "tm") (by
            rw [key]
            cases hk : lnAt bs m with
            | none => rfl
            | some k => rw [hasSh_eq hk] at h1; show _ = PyData.bool (_ && _); rw [h1]; rfl)
      | split p c a b =>
        rename Ds _ _ _ _ _ _ _ _ _ => S_
        simp only [Ln.D, Rsn.D] at S_
        walk_at "dl"
        refine x_cD (by assumption) (by walk_at "slt") ⟨xs, ms, bs, sh, rs, p, c, a, b, rfl, rfl, hb, hr1, hw, hn, rfl⟩ ?_
        rintro _ rfl H_ M_ S_
        walk_at "dl"
        exact x_rD (by assumption) hq (by walk_at "tm") rfl
      | need p r b c m =>
        rename Ds _ _ _ _ _ _ _ _ _ => S_
        simp only [Ln.D, Rsn.D] at S_
        walk_at "dl"
        refine x_cD (by assumption) (by walk_at "slt") ⟨xs, ms, bs, sh, rs, p, r, b, c, m, rfl, rfl, hb, hr1, hw, hn, rfl⟩ ?_
        rintro _ rfl H_ M_ S_
        walk_at "dl"
        exact x_rD (by assumption) hq (by walk_at "tm") rfl
      | role st bk c =>
        rename Ds _ _ _ _ _ _ _ _ _ => S_
        simp only [Ln.D, Rsn.D] at S_
        walk_at "dl"
        refine x_cD (by assumption) (by walk_at "slt") ⟨xs, s2, ms, bs, sh, rs, st, bk, c, rfl, rfl, hr1.has, hw.1, hw.2, hn, rfl⟩ ?_
        rintro _ rfl H_ M_ S_
        walk_at "dl"
        exact x_rD (by assumption) hq (by walk_at "tm") rfl
      | mem a m =>
        rename Ds _ _ _ _ _ _ _ _ _ => S_
        simp only [Ln.D, Rsn.D] at S_
        walk_at "dl"
        refine x_cD (by assumption) (by walk_at "slt") ⟨xs, s2, ms, bs, sh, rs, a, m, rfl, rfl, hx, hr1.has, hw, hn, rfl⟩ ?_
        rintro _ rfl H_ M_ S_
        walk_at "dl"
        exact x_rD (by assumption) hq (by walk_at "tm") rfl
      | link a m st bk c =>
        rename Ds _ _ _ _ _ _ _ _ _ => S_
        simp only [Ln.D, Rsn.D] at S_
        walk_at "dl"
        refine x_cD (by assumption) (by walk_at "slt") ⟨xs, s2, ms, bs, sh, rs, a, m, st, bk, c, rfl, rfl, hr1.has, hw.1, hw.2.1, hw.2.2, hn, rfl⟩ ?_
        rintro _ rfl H_ M_ S_
        walk_at "dl"
        exact x_rD (by assumption) hq (by walk_at "tm") rfl
    ))) only [↓Pf.Gate.lem]
end
abbrev pairD : Int × Int → PyData := fun x => .tuple [.int x.1, .int x.2]
section
variable {P : Program} {w : World} {K : PySem.W.Frag} {mg : Str → Option Value} {base : Heap}
def partAt (xs : List (List Pt)) (a m : Int) : Option Pt := (xs.getD a.toNat [])[m.toNat]?
def PlcOk (xs : List (List Pt)) (kd : String) (ps : List (Int × Int)) : Prop := ∀ r ∈ ps, 0 ≤ r.1 ∧ r.1 < xs.length ∧ 0 ≤ r.2 ∧ ∃ q, partAt xs r.1 r.2 = some q ∧ Str.ofString q.kd = Str.ofString kd
def pPlacesOf : Pre := fun ss u post => ∃ (xs : List (List Pt)) (kd : String), ss = [.d (.tuple (xs.map axD)), .d (sK kd)] ∧ u = [] ∧ xs.length ≤ 10 ∧ (∀ x ∈ xs, x.length ≤ 2) ∧ post = pO fun od => ∃ ps : List (Int × Int), od = .lst (ps.map pairD) ∧ PlcOk xs kd ps ∧ ps.length ≤ 20
theorem c_law_places_of {f : Addr} {fd : FuncData} (D : Df K mg "_law_places_of" s_law_places_of f fd ["axioms", "kind"]) (z_len : mg "len" = none) (z_range : mg "range" = none) : Cl P w K mg base 1 "_law_places_of" (spG K pPlacesOf) := by
  refine Pf.Gate.out ?_
  simp (disch := (with_unfolding_all (
      refine D.go sc_law_places_of (pPlacesOf) (fun ss u post h => by repeat (first | (obtain ⟨rfl, _⟩ := h; rfl) | obtain ⟨_, h⟩ := h)) fun cdv A outer s H M vs Q E ss u post hr hp S hq => ?_
      obtain ⟨xs, kd, rfl, rfl, hxl, hx, rfl⟩ := hp
      refine ⟨_, (pss_cons (ps_set (i := 2) sc_law_places_of.nd rfl (.inl rfl) (pe_lst pa_nil))
          (pss_cons (ps_for PassesOwn.never rfl (pi_range1 (by rfl) z_range (pa_cons (pe_callB (lenQ (K := K)) (by rfl) z_len PySem.boot_len (pa_cons (pv 0) pa_nil)) pa_nil)) (pg_name (i := 3) sc_law_places_of.nd rfl (.inl rfl)) (pss_one (ps_for PassesOwn.never rfl (pi_range1 (by rfl) z_range (pa_cons (pe_callB (lenQ (K := K)) (by rfl) z_len PySem.boot_len (pa_cons (pe_ix (ixT (K := K)) (pv 0) (pv 3) (fun _ _ => rfl)) pa_nil)) pa_nil)) (pg_name (i := 4) sc_law_places_of.nd rfl (.inl rfl)) (pss_one (ps_if (pt_cmpR op_eq (pe_ix (ixT (K := K)) (pe_ix (ixT (K := K)) (pe_ix (ixT (K := K)) (pv 0) (pv 3) (fun _ _ => rfl)) (pv 4) (fun _ _ => rfl)) pe_int (fun _ _ => rfl)) (pv 1) (nomark _)) (pss_one (ps_expr (kBM (K := K) (pe_bm PySem.F.plainAttrs_list PySem.F.slot_list_append PySem.F.type_list_append mt_append (pv 2) (pa_cons (pe_tup (pa_cons (pv 3) (pa_cons (pv 4) pa_nil))) pa_nil))))) pss_nil)))))
          (pss_one (ps_ret (pv 2))))), ?_⟩
      walk_at "in"
      walk_at "dl"
      rename Addr => a
      rw [List.length_map]
      refine x_forR (fun i ρ u => ρ = [.d (.tuple (xs.map axD)), .d (sK kd), .v (.ref a), .u, .u] ∧ ∃ ps : List (Int × Int), u = [(a, .lst (ps.map pairD))] ∧ PlcOk xs kd ps ∧ ps.length ≤ 2 * i) (by assumption) (by omega) (by omega) ⟨rfl, [], rfl, (fun _ h => nomatch h), Nat.le_refl _⟩ ?_ ?_
      · rintro i ρ1 u1 hi ⟨rfl, ps, rfl, hp, hl⟩ σ1 H1 M1 S1
        rw [Int.toNat_natCast] at hi
        obtain ⟨x, hx'⟩ : ∃ x, xs[i]? = some x := ⟨_, List.getElem?_eq_getElem hi⟩
        have hat : atI (xs.map axD) (i : Int) = some (axD x) := at_nat hx'
        have hx2 := hx x (List.mem_of_getElem? hx')
        walk_at "dl"
        refine x_ixT (by assumption) (by walk_at "tm") hat ?_
        walk_at "dl"
        rw [List.length_map]
        refine x_forR (fun j ρ u => ρ = [.d (.tuple (xs.map axD)), .d (sK kd), .v (.ref a), .d (.int i), .u] ∧ ∃ ps : List (Int × Int), u = [(a, .lst (ps.map pairD))] ∧ PlcOk xs kd ps ∧ ps.length ≤ 2 * i + j) (by assumption) (by omega) (by omega) ⟨rfl, ps, rfl, hp, by omega⟩ ?_ ?_
        · rintro j ρ2 u2 hj ⟨rfl, ps, rfl, hp, hl⟩ σ2 H2 M2 S2
          rw [Int.toNat_natCast] at hj
          obtain ⟨p, hp'⟩ : ∃ p, x[j]? = some p := ⟨_, List.getElem?_eq_getElem hj⟩
          obtain ⟨rest, er⟩ := p.shape
          have hat2 : atI (x.map Pt.D) (j : Int) = some (.tuple (sK p.kd :: rest)) := (at_nat hp').trans (by rw [er])
          have hz : (ps.map pairD).length < sizeLine := by
            rw [List.length_map]
            exact Nat.lt_of_lt_of_le (by omega : _ < 600) (by decide)
          walk_at "dl"
          refine x_ixT (by assumption) (by walk_at "tm") hat ?_
          walk_at "dl"
          refine x_ixT (by assumption) (by walk_at "tm") hat2 ?_
          walk_at "dl"
          refine x_ixT (by assumption) (by walk_at "tm") (at0 (d := sK p.kd) (ds := rest)) ?_
          walk_at "dl"
          refine x_if (fun h4 => ?_) (fun h4 => ?_)
          · have h4 := of_decide_eq_true h4
            walk_at "dl"
            refine x_appK 0 (by assumption) rfl (by walk_at "tm") hz (by walk_at "set") fun H_ S_ => ?_
            walk_at "dl"
            exact Nx.at (by assumption) (by walk_at "le") ⟨rfl, ps ++ [((i : Int), (j : Int))], by rw [List.map_append]; rfl, (fun r hr => (List.mem_append.mp hr).elim (hp r) fun z => by
              rw [List.mem_singleton.mp z]
              refine ⟨by show (0 : Int) ≤ i; omega, by show (i : Int) < xs.length; omega, by show (0 : Int) ≤ j; omega, p, ?_, h4⟩
              show (xs.getD (i : Int).toNat [])[(j : Int).toNat]? = some p
              rw [Int.toNat_natCast, Int.toNat_natCast, List.getD_eq_getElem?_getD, hx']
              exact hp'), by rw [List.length_append]; show ps.length + 1 ≤ _; omega⟩
          · walk_at "dl"
            exact Nx.at (by assumption) (by walk_at "le") ⟨rfl, ps, rfl, hp, by omega⟩
        · rintro ρ2 u2 ⟨rfl, ps, rfl, hp, hl⟩ σ2 H2 M2 S2
          rw [Int.toNat_natCast] at hl
          walk_at "dl"
          exact Nx.at (by assumption) (by walk_at "le") ⟨rfl, ps, rfl, hp, by omega⟩
      · rintro ρ1 u1 ⟨rfl, ps, rfl, hp, hl⟩ σ1 H1 M1 S1
        rw [Int.toNat_natCast] at hl
        walk_at "dl"
        exact x_rO (by assumption) hq 0 rfl ⟨ps, rfl, hp, by omega⟩
    ))) only [↓Pf.Gate.lem]
def pPicked : Pre := fun ss u post => ∃ (b : Addr) (ps : List (Int × Int)), ss = [.v (.ref b), .d (.list (ps.map pairD))] ∧ u = [(b, .box)] ∧ ps.length ≤ 20 ∧ post = pD1 b fun d od => od = .box ∧ ((ps = [] ∧ d = .none) ∨ ∃ r, r ∈ ps ∧ d = pairD r)
theorem c_law_picked {f : Addr} {fd : FuncData} (D : Df K mg "_law_picked" s_law_picked f fd ["box", "rows"]) (c_law_draw : Cl P w K mg base 1 "_law_draw" (spG K pDraw)) (z_len : mg "len" = none) : Cl P w K mg base 2 "_law_picked" (spG K pPicked) := by
  refine Pf.Gate.out ?_
  simp (disch := (with_unfolding_all (
      refine D.go sc_law_picked (pPicked) (fun ss u post h => by repeat (first | (obtain ⟨rfl, _⟩ := h; rfl) | obtain ⟨_, h⟩ := h)) fun cdv A outer s H M vs Q E ss u post hr hp S hq => ?_
      obtain ⟨b, ps, rfl, rfl, hl, rfl⟩ := hp
      refine ⟨_, (pss_cons (ps_if (kTru (K := K) (pt_truth (pv 1) (by intro _; rfl))) (pss_one (ps_ret (pe_ix (ixL (K := K)) (pv 1) (pc c_law_draw hr (by first | decide | omega) (by rfl) (pa_cons (pv 0) (pa_cons (pe_callB (lenQ (K := K)) (by rfl) z_len PySem.boot_len (pa_cons (pv 1) pa_nil)) pa_nil))) (fun _ _ => rfl)))) pss_nil)
          (pss_one (ps_ret pe_non))), ?_⟩
      walk_at "in"
      walk_at "dl"
      cases ps with
      | nil =>
        refine x_ifF rfl ?_
        walk_at "dl"
        exact x_r1 (by assumption) hq (by walk_at "tm") 0 rfl ⟨rfl, .inl ⟨rfl, rfl⟩⟩
      | cons r0 ps0 =>
        refine x_ifT rfl ?_
        walk_at "dl"
        refine x_c1 0 (by assumption) rfl (by walk_at "slt") ⟨b, (((r0 :: ps0).map pairD).length : Int), rfl, rfl, by rw [List.length_map]; show (0 : Int) < ((ps0.length + 1 : Nat) : Int); omega, rfl⟩ ?_
        rintro _ _ ⟨rfl, k, rfl, hk0, hk1⟩ H_ M_ w_ hw S_
        cases hw
        walk_at "dl"
        rw [List.length_map] at hk1
        obtain ⟨r, hr⟩ : ∃ r, (r0 :: ps0)[k.toNat]? = some r := ⟨_, List.getElem?_eq_getElem (by omega : k.toNat < (r0 :: ps0).length)⟩
        have hat : atI ((r0 :: ps0).map pairD) k = some (pairD r) := by
          have := at_nat (f := pairD) hr
          rwa [show ((k.toNat : Nat) : Int) = k by omega] at this
        refine x_ixL (by assumption) (by walk_at "tm") hat ?_
        walk_at "dl"
        exact x_r1 (by assumption) hq (by walk_at "tm") 0 rfl ⟨rfl, .inr ⟨r, List.mem_of_getElem? hr, rfl⟩⟩
    ))) only [↓Pf.Gate.lem]
end
section
variable {P : Program} {w : World} {K : PySem.W.Frag} {mg : Str → Option Value} {base : Heap}
theorem nd_neR {K : PySem.W.Frag} {C : Fx} {B : Hp} {σ : L2.St} {H M : Hp} {ρ : List Sl} {w : Own} {tp : List (V × PyData)} {p x : Addr} {od od' : Od} (S : Ds K C B σ H M ρ ((x, od) :: (p, od') :: w) tp) : x ∉ [p] := fun z => (List.nodup_cons.mp S.nd).1 (by rw [List.mem_singleton.mp z]; exact List.mem_cons_self ..)
def rsz (rs : List (Int × Cp)) : Nat := (rs.map fun r => r.2.sz + 1).sum
def StLt (st : List Stp) : Prop := st.length ≤ 3 ∧ ∀ s ∈ st, s.1 < 400
def Rsn.Lt : Rsn → Prop
  | .axm _ a _ => a < 400
  | .mem a _ => a < 400
  | .role st _ _ => StLt st
  | .link a _ st _ _ => a < 400 ∧ StLt st
  | _ => True
def Pt.Ind : Pt → Prop
  | .is a _ => 0 ≤ a ∧ a < 64
  | .has a _ b => (0 ≤ a ∧ a < 64) ∧ 0 ≤ b ∧ b < 64
  | _ => True
structure LnB (N R A D W : Nat) (l : Ln) : Prop where
  len : l.rs.length ≤ R
  dep : ∀ r ∈ l.rs, l.rs.length + r.2.dp ≤ A
  dpt : ∀ r ∈ l.rs, r.2.dp ≤ D
  plc : ∀ r ∈ l.rs, 0 ≤ r.1 ∧ r.1 < 64
  siz : rsz l.rs ≤ W
  why : RsnOk N l.why ∧ l.why.Lt
theorem rsz_two {a b : Int × Cp} : rsz [a, b] = a.2.sz + b.2.sz + 2 := by
  show a.2.sz + 1 + (b.2.sz + 1 + 0) = _
  omega
theorem LnB.two {N : Nat} {sh : ShR} {a b : Int × Cp} {why : Rsn} (hp : (0 ≤ a.1 ∧ a.1 < 64) ∧ 0 ≤ b.1 ∧ b.1 < 64) (h1 : a.2.dp ≤ 4) (h2 : b.2.dp ≤ 4) (h3 : a.2.sz ≤ 16) (h4 : b.2.sz ≤ 17) (h : RsnOk N why ∧ why.Lt) : LnB N 2 6 4 35 ⟨sh, [a, b], why⟩ :=
  ⟨Nat.le_refl 2, fun r hr => by
    show 2 + r.2.dp ≤ 6
    rcases List.mem_cons.mp hr with rfl | hr
    · omega
    · rw [List.mem_singleton.mp hr]; omega, fun r hr => by
    rcases List.mem_cons.mp hr with rfl | hr
    · omega
    · rw [List.mem_singleton.mp hr]; omega, fun r hr => by
    rcases List.mem_cons.mp hr with rfl | hr
    · exact hp.1
    · rw [List.mem_singleton.mp hr]; exact hp.2, by show rsz [a, b] ≤ 35; rw [rsz_two]; omega, h⟩
theorem LnB.two' {N : Nat} {sh : ShR} {a b : Int × Cp} {why : Rsn} (hp : (0 ≤ a.1 ∧ a.1 < 64) ∧ 0 ≤ b.1 ∧ b.1 < 64) (h1 : a.2.dp ≤ 4) (h2 : b.2.dp ≤ 4) (h3 : a.2.sz ≤ 17) (h4 : b.2.sz ≤ 16) (h : RsnOk N why ∧ why.Lt) : LnB N 2 6 4 35 ⟨sh, [a, b], why⟩ :=
  ⟨Nat.le_refl 2, fun r hr => by
    show 2 + r.2.dp ≤ 6
    rcases List.mem_cons.mp hr with rfl | hr
    · omega
    · rw [List.mem_singleton.mp hr]; omega, fun r hr => by
    rcases List.mem_cons.mp hr with rfl | hr
    · omega
    · rw [List.mem_singleton.mp hr]; omega, fun r hr => by
    rcases List.mem_cons.mp hr with rfl | hr
    · exact hp.1
    · rw [List.mem_singleton.mp hr]; exact hp.2, by show rsz [a, b] ≤ 35; rw [rsz_two]; omega, h⟩
theorem LnB.oneL {N : Nat} {sh : ShR} {a : Int × Cp} {why : Rsn} (hp : 0 ≤ a.1 ∧ a.1 < 64) (h1 : a.2.dp ≤ 4) (h3 : a.2.sz ≤ 17) (h : RsnOk N why ∧ why.Lt) : LnB N 2 6 4 35 ⟨sh, [a], why⟩ :=
  ⟨(by show 1 ≤ 2; decide), fun r hr => by
    show 1 + r.2.dp ≤ 6
    rw [List.mem_singleton.mp hr]; omega, fun r hr => by rw [List.mem_singleton.mp hr]; exact h1, fun r hr => by rw [List.mem_singleton.mp hr]; exact hp, by show a.2.sz + 1 + 0 ≤ 35; omega, h⟩
theorem sz_one {c : Cp} (h : c.dp ≤ 1) : c.sz ≤ 4 := Cp.sz_of h
theorem CcOk.of_one {N : Nat} {c : Cp} (hN : 8 ≤ N) (h : c.dp ≤ 1) : CcOk N c := ⟨by omega, by have := sz_one h; omega⟩
def pRoleLine (N : Nat) : Pre := fun ss u post => ∃ (b : Addr) (xs : List (List Pt)) (s0 s1 s2 : Int) (c : Cp), ss = [.v (.ref b), .d (.tuple (xs.map axD)), .d (szD s0 s1 s2), .d c.D] ∧ u = [(b, .box)] ∧ 0 < s1 ∧ xs.length ≤ 10 ∧ (∀ x ∈ xs, x.length ≤ 2) ∧ c.dp ≤ 1 ∧ post = pD1 b fun d od => od = .box ∧ ∃ l : Ln, d = l.D ∧ LnB N 2 6 4 35 l
theorem c_law_role_line {N : Nat} {f : Addr} {fd : FuncData} (hN : 8 ≤ N) (D : Df K mg "_law_role_line" s_law_role_line f fd ["box", "axioms", "sizes", "concept"]) (c_law_draw : Cl P w K mg base 1 "_law_draw" (spG K pDraw)) (c_law_role : Cl P w K mg base 2 "_law_role" (spG K pRole)) (c_law_steps : Cl P w K mg base 2 "_law_steps" (spG K pLawSteps)) (c_law_back : Cl P w K mg base 1 "_law_back" (spG K pInverse)) : Cl P w K mg base 3 "_law_role_line" (spG K (pRoleLine N)) := by
  refine Pf.Gate.out ?_
  simp (disch := (with_unfolding_all (
      refine D.go sc_law_role_line (pRoleLine N) (fun ss u post h => by repeat (first | (obtain ⟨rfl, _⟩ := h; rfl) | obtain ⟨_, h⟩ := h)) fun cdv A outer s H M vs Q E ss u post hr hp S hq => ?_
      obtain ⟨b, xs, s0, s1, s2, c, rfl, rfl, h1, hxl, hx, hc, rfl⟩ := hp
      refine ⟨_, (pss_cons (ps_set (i := 4) sc_law_role_line.nd rfl (.inl rfl) (pc c_law_role hr (by first | decide | omega) (by rfl) (pa_cons (pv 0) (pa_cons (pv 2) pa_nil))))
          (pss_cons (ps_set (i := 5) sc_law_role_line.nd rfl (.inl rfl) (pc c_law_steps hr (by first | decide | omega) (by rfl) (pa_cons (pv 0) (pa_cons (pv 1) (pa_cons (pv 4) pa_nil)))))
          (pss_cons (ps_set (i := 6) sc_law_role_line.nd rfl (.inl rfl) (pe_cmpR op_eq (pc c_law_draw hr (by first | decide | omega) (by rfl) (pa_cons (pv 0) (pa_cons pe_int pa_nil))) pe_int (nomark _)))
          (pss_cons (ps_set (i := 7) sc_law_role_line.nd rfl (.inl rfl) (pe_tup (pa_cons (pe_tup (pa_cons pe_int (pa_cons (pe_tup (pa_cons pe_str (pa_cons (pe_tup (pa_cons pe_str (pa_cons (pe_ix (ixT (K := K)) (pv 5) pe_int (fun _ _ => rfl)) (pa_cons (pv 3) pa_nil)))) pa_nil))) pa_nil))) (pa_cons (pe_tup (pa_cons pe_int (pa_cons (pv 3) pa_nil))) pa_nil))))
          (Evl.pss_cut (ps_if (pt_val (pv 6)) (pss_one (ps_set (i := 7) sc_law_role_line.nd rfl (.inl rfl) (pe_tup (pa_cons (pe_tup (pa_cons pe_int (pa_cons (pe_tup (pa_cons pe_str (pa_cons (pe_tup (pa_cons pe_str (pa_cons (pc c_law_back hr (by first | decide | omega) (by rfl) (pa_cons (pe_ix (ixT (K := K)) (pv 5) pe_int (fun _ _ => rfl)) pa_nil)) (pa_cons (pv 3) pa_nil)))) pa_nil))) pa_nil))) (pa_cons (pe_tup (pa_cons pe_int (pa_cons (pv 3) pa_nil))) pa_nil))))) pss_nil)
          (pss_one (ps_ret (pe_tup (pa_cons (pe_tup (pa_cons pe_str (pa_cons (pv 4) pa_nil))) (pa_cons (pv 7) (pa_cons (pe_tup (pa_cons pe_str (pa_cons (pe_ix (ixT (K := K)) (pv 5) pe_int (fun _ _ => rfl)) (pa_cons (pv 6) (pa_cons (pv 3) pa_nil))))) pa_nil))))))))))), ?_⟩
      walk_at "in"
      walk_at "dl"
      have hsz := sz_one hc
      refine x_c1 0 (by assumption) rfl (by walk_at "slt") ⟨b, s0, s1, s2, rfl, rfl, h1, rfl⟩ ?_
      rintro _ _ ⟨rfl, r, rb, rfl, r0, r1⟩ H_ M_ w_ hw S_
      cases hw
      walk_at "dl"
      refine x_c1 0 (by assumption) rfl (by walk_at "slt") ⟨b, xs, (r, rb), rfl, rfl, by omega, fun x h => Nat.le_trans (hx x h) (by decide), rfl⟩ ?_
      rintro _ _ ⟨rfl, st, q, rfl, hst, hsl⟩ H_ M_ w_ hw S_
      cases hw
      walk_at "dl"
      obtain ⟨q, qb⟩ := q
      refine x_c1 0 (by assumption) rfl (by walk_at "slt") ⟨b, 2, rfl, rfl, by decide, rfl⟩ ?_
      rintro _ _ ⟨rfl, y, rfl, _, _⟩ H_ M_ w_ hw S_
      cases hw
      walk_at "dl"
      generalize decide (y = 1) = bk at *
      have hA : ∀ (i j : Int) (bb : Bool), (0 ≤ i ∧ i < 64) ∧ 0 ≤ j ∧ j < 64 → LnB N 2 6 4 35 ⟨.pair r rb, [(i, .not (.some q bb c)), (j, c)], .role st bk c⟩ := fun i j bb hij => .two' hij (by show c.dp + 1 + 1 ≤ 4; omega) (by show c.dp ≤ 4; omega) (by show c.sz + 1 + 1 ≤ 17; omega) (by show c.sz ≤ 16; omega) ⟨⟨hst, .of_one hN hc⟩, hsl.1, fun s hs => by have := hsl.2 s hs; omega⟩
      refine x_cut (fun ρ u => ∃ (i j : Int) (bb : Bool), ((0 ≤ i ∧ i < 64) ∧ 0 ≤ j ∧ j < 64) ∧ ρ = [.v (.ref b), .d (.tuple (xs.map axD)), .d (szD s0 s1 s2), .d c.D, .d (roD r rb), .d (.tuple [spsD st, roD q qb]), .d (.bool bk), .d (.tuple ([(i, Cp.not (.some q bb c)), (j, c)].map rwD))] ∧ u = [(b, .box)]) (by assumption) ?_ ?_
      · walk_at "dl"
        refine x_if (fun h => ?_) (fun h => ?_)
        · walk_at "dl"
          refine x_cD (by assumption) (by walk_at "slt") ⟨(q, qb), rfl, rfl, rfl⟩ ?_
          rintro _ rfl H_ M_ S_
          walk_at "dl"
          exact Md.at (by assumption) (by walk_at "le") ⟨1, 0, !qb, by decide, rfl, rfl⟩
        · walk_at "dl"
          exact Md.at (by assumption) (by walk_at "le") ⟨0, 1, qb, by decide, rfl, rfl⟩
      rintro M1 σ1 H1 ρ1 u1 ⟨i, j, bb, hij, rfl, rfl⟩ S1
      walk_at "dl"
      exact x_r1 (by assumption) hq (by walk_at "tm") 0 rfl ⟨rfl, _, rfl, hA i j bb hij⟩
    ))) only [↓Pf.Gate.lem]
theorem plc_at {xs : List (List Pt)} {kd : String} {ps : List (Int × Int)} {r : Int × Int} (hxl : xs.length ≤ 10) (h : PlcOk xs kd ps) (hr : r ∈ ps) : ∃ x q, x ∈ xs ∧ q ∈ x ∧ atI (xs.map axD) r.1 = some (axD x) ∧ atI (x.map Pt.D) r.2 = some q.D ∧ Str.ofString q.kd = Str.ofString kd ∧ 0 ≤ r.1 ∧ 0 ≤ r.2 ∧ r.1 < 400 := by
  obtain ⟨h0, h1, h2, q, hq, hk⟩ := h r hr
  obtain ⟨i, hi⟩ := Int.eq_ofNat_of_zero_le h0
  obtain ⟨j, hj⟩ := Int.eq_ofNat_of_zero_le h2
  unfold partAt at hq
  rw [hi, hj, Int.toNat_natCast, Int.toNat_natCast, List.getD_eq_getElem?_getD] at hq
  cases ex : xs[i]? with
  | none => rw [ex] at hq; cases hq
  | some x =>
    rw [ex] at hq
    have hq : x[j]? = some q := hq
    exact ⟨x, q, List.mem_of_getElem? ex, List.mem_of_getElem? hq, by rw [hi]; exact at_nat ex, by rw [hj]; exact at_nat hq, hk, h0, h2, by omega⟩
def optLn : Option Ln → PyData
  | none => .none
  | some l => l.D
def pLinkLine (N : Nat) : Pre := fun ss u post => ∃ (b : Addr) (xs : List (List Pt)) (c : Cp), ss = [.v (.ref b), .d (.tuple (xs.map axD)), .d c.D] ∧ u = [(b, .box)] ∧ xs.length ≤ 10 ∧ (∀ x ∈ xs, x.length ≤ 2 ∧ ∀ q ∈ x, q.Ind) ∧ c.dp ≤ 1 ∧ post = pD1 b fun d od => od = .box ∧ (d = .none ∨ ∃ l : Ln, d = l.D ∧ LnB N 2 6 4 35 l)
theorem c_law_link_line {N : Nat} {f : Addr} {fd : FuncData} (hN : 8 ≤ N) (D : Df K mg "_law_link_line" s_law_link_line f fd ["box", "axioms", "concept"]) (c_law_draw : Cl P w K mg base 1 "_law_draw" (spG K pDraw)) (c_law_places_of : Cl P w K mg base 1 "_law_places_of" (spG K pPlacesOf)) (c_law_picked : Cl P w K mg base 2 "_law_picked" (spG K pPicked)) (c_law_steps : Cl P w K mg base 2 "_law_steps" (spG K pLawSteps)) (c_law_back : Cl P w K mg base 1 "_law_back" (spG K pInverse)) : Cl P w K mg base 3 "_law_link_line" (spG K (pLinkLine N)) := by
  refine Pf.Gate.out ?_
  simp (disch := (with_unfolding_all (
      refine D.go sc_law_link_line (pLinkLine N) (fun ss u post h => by repeat (first | (obtain ⟨rfl, _⟩ := h; rfl) | obtain ⟨_, h⟩ := h)) fun cdv A outer s H M vs Q E ss u post hr hp S hq => ?_
      obtain ⟨b, xs, c, rfl, rfl, hxl, hx, hc, rfl⟩ := hp
      refine ⟨_, (pss_cons (ps_set (i := 3) sc_law_link_line.nd rfl (.inl rfl) (pc c_law_picked hr (by first | decide | omega) (by rfl) (pa_cons (pv 0) (pa_cons (pc c_law_places_of hr (by first | decide | omega) (by rfl) (pa_cons (pv 1) (pa_cons pe_str pa_nil))) pa_nil))))
          (pss_cons (ps_if (pt_cmpR op_isNo (pv 3) pe_non (nomark _)) (pss_one (ps_ret pe_non)) pss_nil)
          (pss_cons (ps_set (i := 4) sc_law_link_line.nd rfl (.inl rfl) (pe_ix (ixT (K := K)) (pe_ix (ixT (K := K)) (pv 1) (pe_ix (ixT (K := K)) (pv 3) pe_int (fun _ _ => rfl)) (fun _ _ => rfl)) (pe_ix (ixT (K := K)) (pv 3) pe_int (fun _ _ => rfl)) (fun _ _ => rfl)))
          (pss_cons (ps_set (i := 5) sc_law_link_line.nd rfl (.inl rfl) (pc c_law_steps hr (by first | decide | omega) (by rfl) (pa_cons (pv 0) (pa_cons (pv 1) (pa_cons (pe_tup (pa_cons (pe_ix (ixT (K := K)) (pv 4) pe_int (fun _ _ => rfl)) (pa_cons pe_bl pa_nil))) pa_nil)))))
          (pss_cons (ps_set (i := 6) sc_law_link_line.nd rfl (.inl rfl) (pe_cmpR op_eq (pc c_law_draw hr (by first | decide | omega) (by rfl) (pa_cons (pv 0) (pa_cons pe_int pa_nil))) pe_int (nomark _)))
          (pss_cons (ps_set (i := 7) sc_law_link_line.nd rfl (.inl rfl) (pe_tup (pa_cons (pe_tup (pa_cons (pe_ix (ixT (K := K)) (pv 4) pe_int (fun _ _ => rfl)) (pa_cons (pe_tup (pa_cons pe_str (pa_cons (pe_tup (pa_cons pe_str (pa_cons (pe_ix (ixT (K := K)) (pv 5) pe_int (fun _ _ => rfl)) (pa_cons (pv 2) pa_nil)))) pa_nil))) pa_nil))) (pa_cons (pe_tup (pa_cons (pe_ix (ixT (K := K)) (pv 4) pe_int (fun _ _ => rfl)) (pa_cons (pv 2) pa_nil))) pa_nil))))
          (Evl.pss_cut (ps_if (pt_val (pv 6)) (pss_one (ps_set (i := 7) sc_law_link_line.nd rfl (.inl rfl) (pe_tup (pa_cons (pe_tup (pa_cons (pe_ix (ixT (K := K)) (pv 4) pe_int (fun _ _ => rfl)) (pa_cons (pe_tup (pa_cons pe_str (pa_cons (pe_tup (pa_cons pe_str (pa_cons (pc c_law_back hr (by first | decide | omega) (by rfl) (pa_cons (pe_ix (ixT (K := K)) (pv 5) pe_int (fun _ _ => rfl)) pa_nil)) (pa_cons (pv 2) pa_nil)))) pa_nil))) pa_nil))) (pa_cons (pe_tup (pa_cons (pe_ix (ixT (K := K)) (pv 4) pe_int (fun _ _ => rfl)) (pa_cons (pv 2) pa_nil))) pa_nil))))) pss_nil)
          (pss_one (ps_ret (pe_tup (pa_cons (pe_tup (pa_cons pe_str pa_nil)) (pa_cons (pv 7) (pa_cons (pe_tup (pa_cons pe_str (pa_cons (pe_ix (ixT (K := K)) (pv 3) pe_int (fun _ _ => rfl)) (pa_cons (pe_ix (ixT (K := K)) (pv 3) pe_int (fun _ _ => rfl)) (pa_cons (pe_ix (ixT (K := K)) (pv 5) pe_int (fun _ _ => rfl)) (pa_cons (pv 6) (pa_cons (pv 2) pa_nil))))))) pa_nil))))))))))))), ?_⟩
      walk_at "in"
      walk_at "dl"
      have hsz := sz_one hc
      refine x_cO (by assumption) (by walk_at "slt") ⟨xs, "has", rfl, rfl, hxl, fun x h => (hx x h).1, rfl⟩ ?_
      rintro _ ⟨ps, rfl, hps, hpl⟩ a_ H_ M_ S_
      walk_at "dl"
      rename Ds _ _ _ _ _ _ _ _ _ => S_
      obtain ⟨M_, S_⟩ := S_.freeze (nd_neR S_)
      walk_at "dl"
      refine x_c1 0 (by assumption) rfl (by walk_at "slt") ⟨b, ps, rfl, rfl, hpl, rfl⟩ ?_
      rintro _ _ ⟨rfl, hd⟩ H_ M_ w_ hw S_
      cases hw
      walk_at "dl"
      rcases hd with ⟨_, rfl⟩ | ⟨r, hr, rfl⟩
      · walk_at "dl"
        exact x_r1 (by assumption) hq (by walk_at "tm") 0 rfl ⟨rfl, .inl rfl⟩
      obtain ⟨x, q, hxm, hqm, hat1, hat2, hkd, hr0, hr1, hrl⟩ := plc_at hxl hps hr
      obtain ⟨r1, r2⟩ := r
      have hind := (hx x hxm).2 q hqm
      cases q with
      | has o k o2 =>
        walk_at "dl"
        refine x_ixT (by assumption) (by walk_at "tm") hat1 ?_
        walk_at "dl"
        refine x_ixT (by assumption) (by walk_at "tm") hat2 ?_
        walk_at "dl"
        rename Ds _ _ _ _ _ _ _ _ _ => S_
        simp only [Pt.D] at S_
        walk_at "dl"
        refine x_c1 0 (by assumption) rfl (by walk_at "slt") ⟨b, xs, (k, false), rfl, rfl, by omega, fun x h => Nat.le_trans (hx x h).1 (by decide), rfl⟩ ?_
        rintro _ _ ⟨rfl, st, q, rfl, hst, hsl⟩ H_ M_ w_ hw S_
        cases hw
        walk_at "dl"
        obtain ⟨q, qb⟩ := q
        refine x_c1 0 (by assumption) rfl (by walk_at "slt") ⟨b, 2, rfl, rfl, by decide, rfl⟩ ?_
        rintro _ _ ⟨rfl, y, rfl, _, _⟩ H_ M_ w_ hw S_
        cases hw
        walk_at "dl"
        generalize decide (y = 1) = bk at *
        have hA : ∀ (i j : Int) (bb : Bool), (0 ≤ i ∧ i < 64) ∧ 0 ≤ j ∧ j < 64 → LnB N 2 6 4 35 ⟨.family, [(i, .not (.some q bb c)), (j, c)], .link r1 r2 st bk c⟩ := fun i j bb hij => .two' hij (by show c.dp + 1 + 1 ≤ 4; omega) (by show c.dp ≤ 4; omega) (by show c.sz + 1 + 1 ≤ 17; omega) (by show c.sz ≤ 16; omega) ⟨⟨⟨hr0, hr1⟩, hst, .of_one hN hc⟩, hrl, hsl.1, fun s hs => by have := hsl.2 s hs; omega⟩
        refine x_cut (fun ρ u => ∃ (i j : Int) (bb : Bool), ((0 ≤ i ∧ i < 64) ∧ 0 ≤ j ∧ j < 64) ∧ ρ = [.v (.ref b), .d (.tuple (xs.map axD)), .d c.D, .d (pairD (r1, r2)), .d (.tuple [sK "has", .int o, .int k, .int o2]), .d (.tuple [spsD st, roD q qb]), .d (.bool bk), .d (.tuple ([(i, Cp.not (.some q bb c)), (j, c)].map rwD))] ∧ u = [(b, .box)]) (by assumption) ?_ ?_
        · walk_at "dl"
          refine x_if (fun h => ?_) (fun h => ?_)
          · walk_at "dl"
            refine x_cD (by assumption) (by walk_at "slt") ⟨(q, qb), rfl, rfl, rfl⟩ ?_
            rintro _ rfl H_ M_ S_
            walk_at "dl"
            exact Md.at (by assumption) (by walk_at "le") ⟨o2, o, !qb, ⟨hind.2, hind.1⟩, rfl, rfl⟩
          · walk_at "dl"
            exact Md.at (by assumption) (by walk_at "le") ⟨o, o2, qb, hind, rfl, rfl⟩
        rintro M1 σ1 H1 ρ1 u1 ⟨i, j, bb, hij, rfl, rfl⟩ S1
        walk_at "dl"
        exact x_r1 (by assumption) hq (by walk_at "tm") 0 rfl ⟨rfl, .inr ⟨_, rfl, hA i j bb hij⟩⟩
      | below _ _ => exact absurd hkd (by decide +kernel : ¬ Str.ofString "below" = Str.ofString "has")
      | under _ _ _ _ => exact absurd hkd (by decide +kernel : ¬ Str.ofString "under" = Str.ofString "has")
      | is _ _ => exact absurd hkd (by decide +kernel : ¬ Str.ofString "is" = Str.ofString "has")
      | never => exact absurd hkd (by decide +kernel : ¬ Str.ofString "never" = Str.ofString "has")
    ))) only [↓Pf.Gate.lem]
def pAxiomLine (N : Nat) : Pre := fun ss u post => ∃ (b : Addr) (xs : List (List Pt)) (sh : ShR) (p : Int), ss = [.v (.ref b), .d (.tuple (xs.map axD)), .d sh.D, .d (.int p)] ∧ u = [(b, .box)] ∧ xs.length ≤ 10 ∧ (∀ x ∈ xs, x.length ≤ 2 ∧ ∀ q ∈ x, q.CDp 4 ∧ q.Ind) ∧ (0 ≤ p ∧ p < 64) ∧ post = pD1 b fun d od => od = .box ∧ (d = .none ∨ ∃ l : Ln, d = l.D ∧ LnB N 2 6 4 35 l)
theorem c_law_axiom_line {N : Nat} {f : Addr} {fd : FuncData} (D : Df K mg "_law_axiom_line" s_law_axiom_line f fd ["box", "axioms", "shape", "place"]) (c_law_draw : Cl P w K mg base 1 "_law_draw" (spG K pDraw)) (c_law_places_of : Cl P w K mg base 1 "_law_places_of" (spG K pPlacesOf)) (c_law_picked : Cl P w K mg base 2 "_law_picked" (spG K pPicked)) : Cl P w K mg base 3 "_law_axiom_line" (spG K (pAxiomLine N)) := by
  refine Pf.Gate.out ?_
  simp (disch := (with_unfolding_all (
      refine D.go sc_law_axiom_line (pAxiomLine N) (fun ss u post h => by repeat (first | (obtain ⟨rfl, _⟩ := h; rfl) | obtain ⟨_, h⟩ := h)) fun cdv A outer s H M vs Q E ss u post hr hp S hq => ?_
      obtain ⟨b, xs, sh, p, rfl, rfl, hxl, hx, hp64, rfl⟩ := hp
      refine ⟨_, (pss_cons (ps_set (i := 4) sc_law_axiom_line.nd rfl (.inl rfl) (pc c_law_picked hr (by first | decide | omega) (by rfl) (pa_cons (pv 0) (pa_cons (pc c_law_places_of hr (by first | decide | omega) (by rfl) (pa_cons (pv 1) (pa_cons pe_str pa_nil))) pa_nil))))
          (pss_cons (ps_set (i := 5) sc_law_axiom_line.nd rfl (.inl rfl) (pc c_law_picked hr (by first | decide | omega) (by rfl) (pa_cons (pv 0) (pa_cons (pc c_law_places_of hr (by first | decide | omega) (by rfl) (pa_cons (pv 1) (pa_cons pe_str pa_nil))) pa_nil))))
          (pss_cons (ps_if (PW.pt (pw_and (pt_cmpR op_notNo (pv 5) pe_non (nomark _)) (pw_and1 (PW.pt (pw_or (pt_cmpR op_isNo (pv 4) pe_non (nomark _)) (pw_or1 (pt_cmpR op_eq (pc c_law_draw hr (by first | decide | omega) (by rfl) (pa_cons (pv 0) (pa_cons pe_int pa_nil))) pe_int (nomark _)))))))) (pss_cons (ps_set (i := 6) sc_law_axiom_line.nd rfl (.inl rfl) (pe_ix (ixT (K := K)) (pe_ix (ixT (K := K)) (pv 1) (pe_ix (ixT (K := K)) (pv 5) pe_int (fun _ _ => rfl)) (fun _ _ => rfl)) (pe_ix (ixT (K := K)) (pv 5) pe_int (fun _ _ => rfl)) (fun _ _ => rfl)))
          (pss_one (ps_ret (pe_tup (pa_cons (pe_tup (pa_cons pe_str pa_nil)) (pa_cons (pe_tup (pa_cons (pe_tup (pa_cons (pe_ix (ixT (K := K)) (pv 6) pe_int (fun _ _ => rfl)) (pa_cons (pe_tup (pa_cons pe_str (pa_cons (pe_ix (ixT (K := K)) (pv 6) pe_int (fun _ _ => rfl)) pa_nil))) pa_nil))) pa_nil)) (pa_cons (pe_tup (pa_cons pe_str (pa_cons (pe_ix (ixT (K := K)) (pv 5) pe_int (fun _ _ => rfl)) (pa_cons (pe_ix (ixT (K := K)) (pv 5) pe_int (fun _ _ => rfl)) pa_nil)))) pa_nil))))))) pss_nil)
          (pss_cons (ps_if (pt_cmpR op_isNo (pv 4) pe_non (nomark _)) (pss_one (ps_ret pe_non)) pss_nil)
          (pss_cons (ps_set (i := 6) sc_law_axiom_line.nd rfl (.inl rfl) (pe_ix (ixT (K := K)) (pe_ix (ixT (K := K)) (pv 1) (pe_ix (ixT (K := K)) (pv 4) pe_int (fun _ _ => rfl)) (fun _ _ => rfl)) (pe_ix (ixT (K := K)) (pv 4) pe_int (fun _ _ => rfl)) (fun _ _ => rfl)))
          (pss_cons (ps_set (i := 7) sc_law_axiom_line.nd rfl (.inl rfl) (pe_tup (pa_cons (pe_tup (pa_cons (pv 3) (pa_cons (pe_ix (ixT (K := K)) (pv 6) pe_int (fun _ _ => rfl)) pa_nil))) (pa_cons (pe_tup (pa_cons (pv 3) (pa_cons (pe_tup (pa_cons pe_str (pa_cons (pe_ix (ixT (K := K)) (pv 6) pe_int (fun _ _ => rfl)) pa_nil))) pa_nil))) pa_nil))))
          (pss_one (ps_ret (pe_tup (pa_cons (pv 2) (pa_cons (pv 7) (pa_cons (pe_tup (pa_cons pe_str (pa_cons (pv 3) (pa_cons (pe_ix (ixT (K := K)) (pv 4) pe_int (fun _ _ => rfl)) (pa_cons (pe_ix (ixT (K := K)) (pv 4) pe_int (fun _ _ => rfl)) pa_nil))))) pa_nil)))))))))))), ?_⟩
      walk_at "in"
      walk_at "dl"
      refine x_cO (by assumption) (by walk_at "slt") ⟨xs, "below", rfl, rfl, hxl, fun x h => (hx x h).1, rfl⟩ ?_
      rintro _ ⟨ps, rfl, hps, hpl⟩ a_ H_ M_ S_
      walk_at "dl"
      rename Ds _ _ _ _ _ _ _ _ _ => S_
      obtain ⟨M_, S_⟩ := S_.freeze (nd_neR S_)
      walk_at "dl"
      refine x_c1 0 (by assumption) rfl (by walk_at "slt") ⟨b, ps, rfl, rfl, hpl, rfl⟩ ?_
      rintro _ _ ⟨rfl, hd⟩ H_ M_ w_ hw S_
      cases hw
      walk_at "dl"
      refine x_cO (by assumption) (by walk_at "slt") ⟨xs, "is", rfl, rfl, hxl, fun x h => (hx x h).1, rfl⟩ ?_
      rintro _ ⟨qs, rfl, hqs, hql⟩ a_ H_ M_ S_
      walk_at "dl"
      rename Ds _ _ _ _ _ _ _ _ _ => S_
      obtain ⟨M_, S_⟩ := S_.freeze (nd_neR S_)
      walk_at "dl"
      refine x_c1 0 (by assumption) rfl (by walk_at "slt") ⟨b, qs, rfl, rfl, hql, rfl⟩ ?_
      rintro _ _ ⟨rfl, he⟩ H_ M_ w_ hw S_
      cases hw
      walk_at "dl"
      rcases he with ⟨_, rfl⟩ | ⟨r, hr, rfl⟩
      · walk_at "dl"
        rcases hd with ⟨_, rfl⟩ | ⟨r, hr, rfl⟩
        · walk_at "dl"
          exact x_r1 (by assumption) hq (by walk_at "tm") 0 rfl ⟨rfl, .inl rfl⟩
        · walk_at "dl"
          obtain ⟨x, q, hxm, hqm, hat1, hat2, hkd, hr0, hr1, hrl⟩ := plc_at hxl hps hr
          obtain ⟨r1, r2⟩ := r
          have hqd := (hx x hxm).2 q hqm
          cases q with
          | below c d =>
            have hc4 : c.dp ≤ 3 := Nat.le_of_lt_succ hqd.1.1
            have hsz : c.sz ≤ 16 := Cp.sz_of hc4
            have hd4 : d.dp ≤ 3 := Nat.le_of_lt_succ hqd.1.2
            have hsz2 : d.sz ≤ 16 := Cp.sz_of hd4
            walk_at "dl"
            refine x_ixT (by assumption) (by walk_at "tm") hat1 ?_
            walk_at "dl"
            refine x_ixT (by assumption) (by walk_at "tm") hat2 ?_
            walk_at "dl"
            rename Ds _ _ _ _ _ _ _ _ _ => S_
            simp only [Pt.D] at S_
            walk_at "dl"
            exact x_r1 (by assumption) hq (by walk_at "tm") 0 rfl ⟨rfl, .inr ⟨⟨sh, [(p, c), (p, .not d)], .axm p r1 r2⟩, rfl, .two ⟨hp64, hp64⟩ (by show c.dp ≤ 4; omega) (by show d.dp + 1 ≤ 4; omega) (by show c.sz ≤ 16; omega) (by show d.sz + 1 ≤ 17; omega) ⟨⟨hr0, hr1⟩, hrl⟩⟩⟩
          | is _ _ => exact absurd hkd (by decide +kernel : ¬ Str.ofString "is" = Str.ofString "below")
          | under _ _ _ _ => exact absurd hkd (by decide +kernel : ¬ Str.ofString "under" = Str.ofString "below")
          | has _ _ _ => exact absurd hkd (by decide +kernel : ¬ Str.ofString "has" = Str.ofString "below")
          | never => exact absurd hkd (by decide +kernel : ¬ Str.ofString "never" = Str.ofString "below")
      · walk_at "dl"
        rcases hd with ⟨_, rfl⟩ | ⟨r2_, hr2, rfl⟩
        · walk_at "dl"
          obtain ⟨x, q, hxm, hqm, hat1, hat2, hkd, hr0, hr1, hrl⟩ := plc_at hxl hqs hr
          obtain ⟨r1, r2⟩ := r
          have hqd := (hx x hxm).2 q hqm
          cases q with
          | is o c =>
            have hc4 : c.dp ≤ 3 := Nat.le_of_lt_succ hqd.1
            have hsz : c.sz ≤ 16 := Cp.sz_of hc4
            walk_at "dl"
            refine x_ixT (by assumption) (by walk_at "tm") hat1 ?_
            walk_at "dl"
            refine x_ixT (by assumption) (by walk_at "tm") hat2 ?_
            walk_at "dl"
            rename Ds _ _ _ _ _ _ _ _ _ => S_
            simp only [Pt.D] at S_
            walk_at "dl"
            exact x_r1 (by assumption) hq (by walk_at "tm") 0 rfl ⟨rfl, .inr ⟨⟨.family, [(o, .not c)], .mem r1 r2⟩, rfl, .oneL hqd.2 (by show c.dp + 1 ≤ 4; omega) (by show c.sz + 1 ≤ 17; omega) ⟨⟨hr0, hr1⟩, hrl⟩⟩⟩
          | below _ _ => exact absurd hkd (by decide +kernel : ¬ Str.ofString "below" = Str.ofString "is")
          | under _ _ _ _ => exact absurd hkd (by decide +kernel : ¬ Str.ofString "under" = Str.ofString "is")
          | has _ _ _ => exact absurd hkd (by decide +kernel : ¬ Str.ofString "has" = Str.ofString "is")
          | never => exact absurd hkd (by decide +kernel : ¬ Str.ofString "never" = Str.ofString "is")
        · walk_at "dl"
          refine x_c1 0 (by assumption) rfl (by walk_at "slt") ⟨b, 3, rfl, rfl, by decide, rfl⟩ ?_
          rintro _ _ ⟨rfl, y, rfl, _, _⟩ H_ M_ w_ hw S_
          cases hw
          walk_at "dl"
          refine x_if (fun h => ?_) (fun h => ?_)
          · walk_at "dl"
            obtain ⟨x, q, hxm, hqm, hat1, hat2, hkd, hr0, hr1, hrl⟩ := plc_at hxl hqs hr
            obtain ⟨r1, r2⟩ := r
            have hqd := (hx x hxm).2 q hqm
            cases q with
            | is o c =>
              have hc4 : c.dp ≤ 3 := Nat.le_of_lt_succ hqd.1
              have hsz : c.sz ≤ 16 := Cp.sz_of hc4
              walk_at "dl"
              refine x_ixT (by assumption) (by walk_at "tm") hat1 ?_
              walk_at "dl"
              refine x_ixT (by assumption) (by walk_at "tm") hat2 ?_
              walk_at "dl"
              rename Ds _ _ _ _ _ _ _ _ _ => S_
              simp only [Pt.D] at S_
              walk_at "dl"
              exact x_r1 (by assumption) hq (by walk_at "tm") 0 rfl ⟨rfl, .inr ⟨⟨.family, [(o, .not c)], .mem r1 r2⟩, rfl, .oneL hqd.2 (by show c.dp + 1 ≤ 4; omega) (by show c.sz + 1 ≤ 17; omega) ⟨⟨hr0, hr1⟩, hrl⟩⟩⟩
            | below _ _ => exact absurd hkd (by decide +kernel : ¬ Str.ofString "below" = Str.ofString "is")
            | under _ _ _ _ => exact absurd hkd (by decide +kernel : ¬ Str.ofString "under" = Str.ofString "is")
            | has _ _ _ => exact absurd hkd (by decide +kernel : ¬ Str.ofString "has" = Str.ofString "is")
            | never => exact absurd hkd (by decide +kernel : ¬ Str.ofString "never" = Str.ofString "is")
          · walk_at "dl"
            clear hr
            have hr := hr2
            obtain ⟨x, q, hxm, hqm, hat1, hat2, hkd, hr0, hr1, hrl⟩ := plc_at hxl hps hr
            obtain ⟨r1, r2⟩ := r2_
            have hqd := (hx x hxm).2 q hqm
            cases q with
            | below c d =>
              have hc4 : c.dp ≤ 3 := Nat.le_of_lt_succ hqd.1.1
              have hsz : c.sz ≤ 16 := Cp.sz_of hc4
              have hd4 : d.dp ≤ 3 := Nat.le_of_lt_succ hqd.1.2
              have hsz2 : d.sz ≤ 16 := Cp.sz_of hd4
              walk_at "dl"
              refine x_ixT (by assumption) (by walk_at "tm") hat1 ?_
              walk_at "dl"
              refine x_ixT (by assumption) (by walk_at "tm") hat2 ?_
              walk_at "dl"
              rename Ds _ _ _ _ _ _ _ _ _ => S_
              simp only [Pt.D] at S_
              walk_at "dl"
              exact x_r1 (by assumption) hq (by walk_at "tm") 0 rfl ⟨rfl, .inr ⟨⟨sh, [(p, c), (p, .not d)], .axm p r1 r2⟩, rfl, .two ⟨hp64, hp64⟩ (by show c.dp ≤ 4; omega) (by show d.dp + 1 ≤ 4; omega) (by show c.sz ≤ 16; omega) (by show d.sz + 1 ≤ 17; omega) ⟨⟨hr0, hr1⟩, hrl⟩⟩⟩
            | is _ _ => exact absurd hkd (by decide +kernel : ¬ Str.ofString "is" = Str.ofString "below")
            | under _ _ _ _ => exact absurd hkd (by decide +kernel : ¬ Str.ofString "under" = Str.ofString "below")
            | has _ _ _ => exact absurd hkd (by decide +kernel : ¬ Str.ofString "has" = Str.ofString "below")
            | never => exact absurd hkd (by decide +kernel : ¬ Str.ofString "never" = Str.ofString "below")
    ))) only [↓Pf.Gate.lem]
end
section
variable {P : Program} {w : World} {K : PySem.W.Frag} {mg : Str → Option Value} {base : Heap}
theorem at_inR {α : Type} {f : α → PyData} {xs : List α} {m : Int} (h1 : 0 ≤ m) (h2 : m < (xs.length : Nat)) : ∃ x ∈ xs, atI (xs.map f) m = some (f x) := by
  obtain ⟨j, rfl⟩ := Int.eq_ofNat_of_zero_le h1
  have h3 : j < xs.length := by omega
  refine ⟨xs[j], List.getElem_mem h3, ?_⟩
  unfold atI ixN
  simp [h3]
theorem rw_enc : Enc rwD where
  eq := fun a b => by
    show (PyData.eqv (.int a.1) (.int b.1) && (PyData.eqv a.2.D b.2.D && true)) = _
    rw [Cp.eqI, Cp.eq, Bool.and_true, Bool.eq_iff_iff, Bool.and_eq_true, decide_eq_true_iff, decide_eq_true_iff, decide_eq_true_iff]
    exact ⟨fun h => Prod.ext h.1 h.2, fun h => h ▸ ⟨rfl, rfl⟩⟩
  lay := fun a => by
    show (true && (a.2.D.canLay0 && true)) = true
    rw [Cp.lay]
    rfl
theorem rw_depth (x : Int × Cp) : (rwD x).depth ≤ x.2.dp + 3 := by
  have := x.2.depth
  show max 0 (max x.2.D.depth 0) + 1 ≤ _
  omega
theorem rsz_app {a b : List (Int × Cp)} : rsz (a ++ b) = rsz a + rsz b := by
  unfold rsz
  rw [List.map_append, List.sum_append]
theorem rsz_mem {r : Int × Cp} : ∀ {rs : List (Int × Cp)}, r ∈ rs → r.2.sz + 1 ≤ rsz rs
  | x :: rs, h => by
    show _ ≤ x.2.sz + 1 + rsz rs
    rcases List.mem_cons.mp h with rfl | h
    · omega
    · have := rsz_mem h
      omega
theorem rsz_mv {p : Int} : ∀ {rs : List (Int × Cp)}, rsz (mv rs p) = rsz rs
  | [] => rfl
  | x :: rs => by
    show x.2.sz + 1 + rsz (mv rs p) = x.2.sz + 1 + rsz rs
    rw [rsz_mv]
def innerOf (rs : List (Int × Cp)) : List Cp := (rs.filter fun r => !decide (r.1 = 0)).map (·.2)
theorem innerOf_snoc {rs : List (Int × Cp)} {r : Int × Cp} : innerOf (rs ++ [r]) = innerOf rs ++ (if r.1 = 0 then [] else [r.2]) := by
  unfold innerOf
  rw [List.filter_append, List.map_append]
  congr 1
  by_cases h : r.1 = 0
  · rw [if_pos h, List.filter_cons_of_neg (by rw [decide_eq_true h]; decide)]; rfl
  · rw [if_neg h, List.filter_cons_of_pos (by rw [decide_eq_false h]; rfl)]; rfl
theorem innerOf_len {p : Int} : ∀ {rs : List (Int × Cp)}, (innerOf rs).length + (hereOf p rs).length = rs.length
  | [] => rfl
  | x :: rs => by
    have ih := innerOf_len (p := p) (rs := rs)
    unfold innerOf hereOf at ih ⊢
    by_cases h : x.1 = 0
    · rw [List.filter_cons_of_neg (by rw [decide_eq_true h]; decide), List.filter_cons_of_pos (by rw [decide_eq_true h]), List.map_cons, List.length_cons, List.length_cons]
      omega
    · rw [List.filter_cons_of_pos (by rw [decide_eq_false h]; rfl), List.filter_cons_of_neg (by rw [decide_eq_false h]; decide), List.map_cons, List.length_cons, List.length_cons]
      omega
def csz (cs : List Cp) : Nat := (cs.map fun c => c.sz + 1).sum
theorem innerOf_sz {p : Int} : ∀ {rs : List (Int × Cp)}, csz (innerOf rs) + rsz (hereOf p rs) = rsz rs
  | [] => rfl
  | x :: rs => by
    have ih := innerOf_sz (p := p) (rs := rs)
    by_cases h : x.1 = 0
    · have e1 : innerOf (x :: rs) = innerOf rs := by unfold innerOf; rw [List.filter_cons_of_neg (by rw [decide_eq_true h]; decide)]
      have e2 : hereOf p (x :: rs) = (p, x.2) :: hereOf p rs := by unfold hereOf; rw [List.filter_cons_of_pos (by rw [decide_eq_true h])]; rfl
      rw [e1, e2]
      show csz (innerOf rs) + (x.2.sz + 1 + rsz (hereOf p rs)) = x.2.sz + 1 + rsz rs
      omega
    · have e1 : innerOf (x :: rs) = x.2 :: innerOf rs := by unfold innerOf; rw [List.filter_cons_of_pos (by rw [decide_eq_false h]; rfl)]; rfl
      have e2 : hereOf p (x :: rs) = hereOf p rs := by unfold hereOf; rw [List.filter_cons_of_neg (by rw [decide_eq_false h]; decide)]
      rw [e1, e2]
      show x.2.sz + 1 + csz (innerOf rs) + rsz (hereOf p rs) = x.2.sz + 1 + rsz rs
      omega
theorem innerOf_mem {rs : List (Int × Cp)} {c : Cp} (h : c ∈ innerOf rs) : ∃ r ∈ rs, r.2 = c := by
  obtain ⟨r, hr, e⟩ := List.mem_map.mp h
  exact ⟨r, (List.mem_filter.mp hr).1, e⟩
theorem hereOf_mem {p : Int} {rs : List (Int × Cp)} {q : Int × Cp} (h : q ∈ hereOf p rs) : ∃ r ∈ rs, r.2 = q.2 := by
  obtain ⟨r, hr, e⟩ := List.mem_map.mp h
  exact ⟨r, (List.mem_filter.mp hr).1, by rw [← e]⟩
def andAll : List Cp → Cp → Cp
  | [], a => a
  | c :: cs, a => andAll cs (.both a c)
theorem andAll_snoc {c : Cp} : ∀ {cs : List Cp} {a : Cp}, andAll (cs ++ [c]) a = .both (andAll cs a) c
  | [], _ => rfl
  | _ :: cs, _ => andAll_snoc (cs := cs)
theorem andAll_dp {m : Nat} : ∀ {cs : List Cp} {a : Cp}, (∀ c ∈ cs, c.dp ≤ m) → (andAll cs a).dp ≤ max m a.dp + cs.length
  | [], a, _ => by show a.dp ≤ _; omega
  | c :: cs, a, h => by
    have h1 := h c (List.mem_cons_self ..)
    have := andAll_dp (cs := cs) (a := .both a c) (m := m) fun x hx => h x (List.mem_cons_of_mem _ hx)
    have e : (Cp.both a c).dp = max a.dp c.dp + 1 := rfl
    show (andAll cs (.both a c)).dp ≤ max m a.dp + (cs.length + 1)
    omega
theorem andAll_sz : ∀ {cs : List Cp} {a : Cp}, (andAll cs a).sz = a.sz + csz cs
  | [], _ => rfl
  | c :: cs, a => by
    show (andAll cs (.both a c)).sz = a.sz + (c.sz + 1 + csz cs)
    rw [andAll_sz]
    show a.sz + c.sz + 1 + csz cs = _
    omega
theorem LnB.lineOk {N R A T W : Nat} {sh sh' : ShR} {rs : List (Int × Cp)} {why : Rsn} {p m : Int} (h : LnB N R A T W ⟨sh', rs, why⟩) (hp : 0 ≤ p ∧ p < 64) (hR : 1 ≤ R) (hT : T ≤ A + 1) (hm : 0 ≤ m) : LnB N (2 * R - 1) (A + R - 1) (A + 1) (2 * W) ⟨sh, mv rs p, .line p m⟩ := by
  refine Pf.Gate.out ?_
  simp (disch := (with_unfolding_all (
      have h1 : rs.length ≤ R := h.len
      have h2 : ∀ r ∈ rs, rs.length + r.2.dp ≤ A := h.dep
      have h3 : ∀ r ∈ rs, r.2.dp ≤ T := h.dpt
      have h4 : rsz rs ≤ W := h.siz
      have hl : (mv rs p).length = rs.length := List.length_map ..
      have hmem : ∀ r ∈ mv rs p, ∃ q ∈ rs, q.2 = r.2 := fun r hr => by
        obtain ⟨q, hq, e⟩ := List.mem_map.mp hr
        exact ⟨q, hq, by rw [← e]⟩
      refine ⟨by show (mv rs p).length ≤ _; omega, fun r hr => ?_, fun r hr => ?_, fun r hr => ?_, ?_, hm, trivial⟩
      · obtain ⟨q, hq, e⟩ := hmem r hr
        have := h2 q hq
        show (mv rs p).length + r.2.dp ≤ _
        rw [← e]; omega
      · obtain ⟨q, hq, e⟩ := hmem r hr
        have := h3 q hq
        rw [← e]; omega
      · obtain ⟨q, hq, e⟩ := List.mem_map.mp hr
        rw [← e]; exact hp
      · show rsz (mv rs p) ≤ _
        rw [rsz_mv]; omega
    ))) only [↓Pf.Gate.lem]
theorem LnB.needOk {N R A T W : Nat} {sh sh' : ShR} {rs : List (Int × Cp)} {why : Rsn} {p m r : Int} {b : Bool} (h : LnB N R A T W ⟨sh', rs, why⟩) (hp : 0 ≤ p ∧ p < 64) (hR : 3 ≤ R) (hA : A + 1 < N) (hA1 : 1 ≤ A) (hT : T ≤ A + 1) (hW : 3 ≤ W) (hW2 : W + 2 ≤ 10000) (hm : 0 ≤ m) : LnB N (2 * R - 1) (A + R - 1) (A + 1) (2 * W) ⟨sh, hereOf p rs ++ [(p, .some r b (andAll (innerOf rs) .any))], .need p r b (andAll (innerOf rs) .any) m⟩ := by
  refine Pf.Gate.out ?_
  simp (disch := (with_unfolding_all (
      have h1 : rs.length ≤ R := h.len
      have h2 : ∀ r ∈ rs, rs.length + r.2.dp ≤ A := h.dep
      have h3 : ∀ r ∈ rs, r.2.dp ≤ T := h.dpt
      have h4 : rsz rs ≤ W := h.siz
      have hl := innerOf_len (p := p) (rs := rs)
      have hs := innerOf_sz (p := p) (rs := rs)
      have hd : (andAll (innerOf rs) .any).dp + (hereOf p rs).length ≤ A := by
        cases rs with
        | nil => exact Nat.zero_le _
        | cons x rs =>
          have hx := h2 x (List.mem_cons_self ..)
          have := andAll_dp (cs := innerOf (x :: rs)) (a := .any) (m := A - (x :: rs).length) fun c hc => by
            obtain ⟨q, hq, e⟩ := innerOf_mem hc
            have := h2 q hq
            rw [← e]; omega
          have e0 : Cp.dp .any = 0 := rfl
          omega
      have hz : (andAll (innerOf rs) .any).sz = 1 + csz (innerOf rs) := andAll_sz
      refine ⟨?_, fun q hq => ?_, fun q hq => ?_, fun q hq => ?_, ?_, ⟨⟨by omega, by omega⟩, hm⟩, trivial⟩
      · show (hereOf p rs ++ [_]).length ≤ _
        rw [List.length_append]
        show _ + 1 ≤ _
        omega
      · show (hereOf p rs ++ [_]).length + _ ≤ _
        rw [List.length_append]
        show _ + 1 + q.2.dp ≤ _
        rcases List.mem_append.mp hq with hq | hq
        · obtain ⟨x, hx, e⟩ := hereOf_mem hq
          have := h2 x hx
          rw [← e]; omega
        · rw [List.mem_singleton.mp hq]
          show _ + 1 + ((andAll (innerOf rs) .any).dp + 1) ≤ _
          omega
      · rcases List.mem_append.mp hq with hq | hq
        · obtain ⟨x, hx, e⟩ := hereOf_mem hq
          have := h3 x hx
          rw [← e]; omega
        · rw [List.mem_singleton.mp hq]
          show (andAll (innerOf rs) .any).dp + 1 ≤ _
          omega
      · rcases List.mem_append.mp hq with hq | hq
        · obtain ⟨x, _, e⟩ := List.mem_map.mp hq
          rw [← e]; exact hp
        · rw [List.mem_singleton.mp hq]; exact hp
      · show rsz (hereOf p rs ++ [_]) ≤ _
        rw [rsz_app]
        show _ + ((andAll (innerOf rs) .any).sz + 1 + 1 + 0) ≤ _
        omega
    ))) only [↓Pf.Gate.lem]
theorem filt_lt {rs : List (Int × Cp)} {pk : Int × Cp} (h : pk ∈ rs) : (rs.filter fun r => !decide (r = pk)).length + 1 ≤ rs.length := by
  have := List.length_filter_lt_length_iff_exists (p := fun r : Int × Cp => !decide (r = pk)) (l := rs)
  exact this.mpr ⟨pk, h, by simp⟩
theorem filt_sz {pk : Int × Cp} : ∀ {rs : List (Int × Cp)}, rsz (rs.filter fun r => !decide (r = pk)) ≤ rsz rs
  | [] => Nat.le_refl _
  | x :: rs => by
    have := filt_sz (pk := pk) (rs := rs)
    rw [List.filter_cons]
    split
    · show x.2.sz + 1 + rsz _ ≤ x.2.sz + 1 + rsz rs
      omega
    · show _ ≤ x.2.sz + 1 + rsz rs
      omega
theorem LnB.splitOk {N R A T W : Nat} {sh sa sb : ShR} {rs ks hs : List (Int × Cp)} {pk : Int × Cp} {wa wb : Rsn} {m o : Int} (ha : LnB N R A T W ⟨sa, rs, wa⟩) (hb : LnB N R A T W ⟨sb, ks, wb⟩) (hpk : pk ∈ rs ++ ks) (hl : hs.length ≤ ((rs ++ ks).filter fun r => !decide (r = pk)).length) (hz : rsz hs ≤ rsz ((rs ++ ks).filter fun r => !decide (r = pk))) (hm : ∀ r ∈ hs, r ∈ rs ++ ks) (hA : A + 1 < N) (hT : T ≤ A) (hW2 : W + 2 ≤ 10000) (h0 : 0 ≤ m ∧ 0 ≤ o) : LnB N (2 * R - 1) (A + R - 1) (A + 1) (2 * W) ⟨sh, hs, .split pk.1 pk.2 m o⟩ := by
  refine Pf.Gate.out ?_
  simp (disch := (with_unfolding_all (
      have a1 : rs.length ≤ R := ha.len
      have a2 : ∀ r ∈ rs, rs.length + r.2.dp ≤ A := ha.dep
      have a3 : ∀ r ∈ rs, r.2.dp ≤ T := ha.dpt
      have a4 : rsz rs ≤ W := ha.siz
      have b1 : ks.length ≤ R := hb.len
      have b2 : ∀ r ∈ ks, ks.length + r.2.dp ≤ A := hb.dep
      have b3 : ∀ r ∈ ks, r.2.dp ≤ T := hb.dpt
      have b4 : rsz ks ≤ W := hb.siz
      have hf := filt_lt hpk
      have hg := filt_sz (pk := pk) (rs := rs ++ ks)
      rw [List.length_append] at hf
      rw [rsz_app] at hg
      have hdp : ∀ r ∈ rs ++ ks, r.2.dp ≤ T := fun r hr => (List.mem_append.mp hr).elim (a3 r) (b3 r)
      have hsz : ∀ r ∈ rs ++ ks, r.2.sz + 1 ≤ W := fun r hr => (List.mem_append.mp hr).elim (fun z => Nat.le_trans (rsz_mem z) a4) fun z => Nat.le_trans (rsz_mem z) b4
      refine ⟨by show hs.length ≤ _; omega, fun r hr => ?_, fun r hr => Nat.le_trans (hdp r (hm r hr)) (by omega), fun r hr => (List.mem_append.mp (hm r hr)).elim (ha.plc r) (hb.plc r), by show rsz hs ≤ _; omega, ⟨⟨by have := hdp pk hpk; omega, by have := hsz pk hpk; omega⟩, h0⟩, trivial⟩
      show hs.length + _ ≤ _
      rcases List.mem_append.mp (hm r hr) with z | z
      · have := a2 r z
        omega
      · have := b2 r z
        omega
    ))) only [↓Pf.Gate.lem]
theorem pos_ne {ds : List PyData} (h : (!!ds.isEmpty) = false) : (0 : Int) < (ds.length : Nat) := by
  cases ds with
  | nil => exact absurd h (by decide)
  | cons x y => rw [List.length_cons]; omega
theorem nd_neP {K : PySem.W.Frag} {C : Fx} {B : Hp} {σ : L2.St} {H M : Hp} {ρ : List Sl} {w : Own} {tp : List (V × PyData)} {x p q : Addr} {o1 o4 o5 : Od} (S : Ds K C B σ H M ρ ((x, o1) :: (p, o4) :: (q, o5) :: w) tp) : x ∉ [p, q] := fun h => (List.nodup_cons.mp S.nd).1 (by
  rcases List.mem_cons.mp h with rfl | h
  · simp
  · rw [List.mem_singleton.mp h]; simp)
theorem nd_neQ {K : PySem.W.Frag} {C : Fx} {B : Hp} {σ : L2.St} {H M : Hp} {ρ : List Sl} {w : Own} {tp : List (V × PyData)} {x y z p q : Addr} {o1 o2 o3 o4 o5 : Od} (S : Ds K C B σ H M ρ ((x, o1) :: (y, o2) :: (z, o3) :: (p, o4) :: (q, o5) :: w) tp) : x ∉ [p, q] := fun h => (List.nodup_cons.mp S.nd).1 (by
  rcases List.mem_cons.mp h with rfl | h
  · simp
  · rw [List.mem_singleton.mp h]; simp)
def pLaterLine (N : Nat) : Pre := fun ss u post => ∃ (R G T W : Nat) (b a : Addr) (ls : List Ln) (sh : ShR) (p : Int), ss = [.v (.ref b), .v (.ref a), .d sh.D, .d (.int p)] ∧ u = [(b, .box), (a, .lst (ls.map Ln.D))] ∧ ((3 ≤ R ∧ R ≤ 400) ∧ (G + 1 < N ∧ 1 ≤ G ∧ G ≤ 200 ∧ T ≤ G) ∧ 8 ≤ W ∧ W + 2 ≤ 10000) ∧ (0 ≤ p ∧ p < 64) ∧ ls ≠ [] ∧ ls.length ≤ 20 ∧ (∀ l ∈ ls, LnB N R G T W l) ∧ post = pW fun d u' => u' = [(b, .box), (a, .lst (ls.map Ln.D))] ∧ (d = .none ∨ ∃ l : Ln, d = l.D ∧ LnB N (2 * R - 1) (G + R - 1) (G + 1) (2 * W) l)
theorem c_law_later_line {N : Nat} {f : Addr} {fd : FuncData} (D : Df K mg "_law_later_line" s_law_later_line f fd ["box", "lines", "shape", "place"]) (c_law_draw : Cl P w K mg base 1 "_law_draw" (spG K pDraw)) (z_len : mg "len" = none) (z_tuple : mg "tuple" = none) (z_list : mg "list" = none) : Cl P w K mg base 2 "_law_later_line" (spG K (pLaterLine N)) := by
  refine Pf.Gate.out ?_
  simp (disch := (with_unfolding_all (
      refine D.go sc_law_later_line (pLaterLine N) (fun ss u post h => by repeat (first | (obtain ⟨rfl, _⟩ := h; rfl) | obtain ⟨_, h⟩ := h)) fun cdv A outer s H M vs Q E ss u post hr hp S hq => ?_
      obtain ⟨R, G, T, W, b, a, ls, sh, p, rfl, rfl, ⟨⟨hR3, hR4⟩, ⟨hA1, hA0, hA2, hT⟩, hW8, hW⟩, hp64, hne, hl, hls, rfl⟩ := hp
      refine ⟨_, (pss_cons (ps_set (i := 4) sc_law_later_line.nd rfl (.inl rfl) (pc c_law_draw hr (by first | decide | omega) (by rfl) (pa_cons (pv 0) (pa_cons (pe_callB (lenQ (K := K)) (by rfl) z_len PySem.boot_len (pa_cons (pv 1) pa_nil)) pa_nil))))
          (pss_cons (ps_set (i := 5) sc_law_later_line.nd rfl (.inl rfl) (pe_ix (ixL (K := K)) (pv 1) (pv 4) (fun _ _ => rfl)))
          (Evl.pss_cut (ps_if (PW.pt (pw_and (pt_cmpR (kEqD (K := K) hr.units) (pe_ix (ixT (K := K)) (pv 5) pe_int (fun _ _ => rfl)) (pe_tup (pa_cons pe_str pa_nil)) (nomark _)) (pw_and1 (pt_cmpR op_eq (pc c_law_draw hr (by first | decide | omega) (by rfl) (pa_cons (pv 0) (pa_cons pe_int pa_nil))) pe_int (nomark _))))) (pss_one (ps_ret (pe_tup (pa_cons (pv 2) (pa_cons (pe_callTy (call_tupD (K := K)) (by rfl) z_tuple (by decide +kernel) (pa_cons (pe_lc (own := [("row", 6)]) (g := gName 6) (tt := tYes) (by rfl) sc_law_later_line.nd (kIT (K := K) (pi_tup (pe_ix (ixT (K := K)) (pv 5) pe_int (fun _ _ => rfl)))) (blkOk_by (own := [("row", 6)]) (N := ["box", "lines", "shape", "place", "number", "named", "row", "inner", "concept", "has", "needs", "other", "rows", "picked"]) (sc := defScope s_law_later_line) (by decide +kernel)) (fun _ _ _ _ _ => pg_name (i := 6) sc_law_later_line.nd rfl (.inl rfl)) (fun _ _ _ _ _ => pts_nil) (fun _ _ _ _ _ => (pe_tup (pa_cons (pv 3) (pa_cons (pe_ix (ixT (K := K)) (pv 6) pe_int (fun _ _ => rfl)) pa_nil))))) pa_nil)) (pa_cons (pe_tup (pa_cons pe_str (pa_cons (pv 3) (pa_cons (pv 4) pa_nil)))) pa_nil)))))) pss_nil)
          (Evl.pss_cut (ps_if (pt_cmpR op_eq (pe_ix (ixT (K := K)) (pe_ix (ixT (K := K)) (pv 5) pe_int (fun _ _ => rfl)) pe_int (fun _ _ => rfl)) pe_str (nomark _)) (pss_cons (ps_setLc (i := 7) (own := [("row", 6)]) (g := gName 6) (by rfl) sc_law_later_line.nd rfl rfl (sw_true rfl rfl rfl (by decide +kernel)) (kIT (K := K) (pi_tup (pe_ix (ixT (K := K)) (pv 5) pe_int (fun _ _ => rfl)))) (blkOk_by (own := [("row", 6)]) (N := ["box", "lines", "shape", "place", "number", "named", "row", "inner", "concept", "has", "needs", "other", "rows", "picked"]) (sc := defScope s_law_later_line) (by decide +kernel)) (fun _ _ _ _ _ => pg_name (i := 6) sc_law_later_line.nd rfl (.inl rfl)) (fun _ _ _ _ _ => (pts_one (pt_cmpR op_ne (pe_ix (ixT (K := K)) (pv 6) pe_int (fun _ _ => rfl)) pe_int (nomark _)))) (fun _ _ _ _ _ => (pe_ix (ixT (K := K)) (pv 6) pe_int (fun _ _ => rfl))))
          (pss_cons (ps_set (i := 8) sc_law_later_line.nd rfl (.inl rfl) (pe_tup (pa_cons pe_str pa_nil)))
          (pss_cons (ps_for PassesOwn.never rfl (kIL (K := K) (pi_list (pv 7))) (pg_name (i := 6) sc_law_later_line.nd rfl (.inl rfl)) (pss_one (ps_set (i := 8) sc_law_later_line.nd rfl (.inl rfl) (pe_tup (pa_cons pe_str (pa_cons (pv 8) (pa_cons (pv 6) pa_nil)))))))
          (pss_cons (ps_setLc (i := 9) (own := [("row", 6)]) (g := gName 6) (by rfl) sc_law_later_line.nd rfl rfl (sw_true rfl rfl rfl (by decide +kernel)) (kIT (K := K) (pi_tup (pe_ix (ixT (K := K)) (pv 5) pe_int (fun _ _ => rfl)))) (blkOk_by (own := [("row", 6)]) (N := ["box", "lines", "shape", "place", "number", "named", "row", "inner", "concept", "has", "needs", "other", "rows", "picked"]) (sc := defScope s_law_later_line) (by decide +kernel)) (fun _ _ _ _ _ => pg_name (i := 6) sc_law_later_line.nd rfl (.inl rfl)) (fun _ _ _ _ _ => (pts_one (pt_cmpR op_eq (pe_ix (ixT (K := K)) (pv 6) pe_int (fun _ _ => rfl)) pe_int (nomark _)))) (fun _ _ _ _ _ => (pe_tup (pa_cons (pv 3) (pa_cons (pe_ix (ixT (K := K)) (pv 6) pe_int (fun _ _ => rfl)) pa_nil)))))
          (pss_cons (ps_set (i := 10) sc_law_later_line.nd rfl (.inl rfl) (pe_tup (pa_cons (pv 3) (pa_cons (pe_tup (pa_cons pe_str (pa_cons (pe_ix (ixT (K := K)) (pe_ix (ixT (K := K)) (pv 5) pe_int (fun _ _ => rfl)) pe_int (fun _ _ => rfl)) (pa_cons (pv 8) pa_nil)))) pa_nil))))
          (pss_one (ps_ret (pe_tup (pa_cons (pv 2) (pa_cons (pe_callTy (call_tupD (K := K)) (by rfl) z_tuple (by decide +kernel) (pa_cons (pe_op op_cat (pv 9) (pe_lst (pa_cons (pv 10) pa_nil))) pa_nil)) (pa_cons (pe_tup (pa_cons pe_str (pa_cons (pv 3) (pa_cons (pe_ix (ixT (K := K)) (pe_ix (ixT (K := K)) (pv 5) pe_int (fun _ _ => rfl)) pe_int (fun _ _ => rfl)) (pa_cons (pv 8) (pa_cons (pv 4) pa_nil)))))) pa_nil))))))))))) pss_nil)
          (pss_cons (ps_set (i := 11) sc_law_later_line.nd rfl (.inl rfl) (pc c_law_draw hr (by first | decide | omega) (by rfl) (pa_cons (pv 0) (pa_cons (pe_callB (lenQ (K := K)) (by rfl) z_len PySem.boot_len (pa_cons (pv 1) pa_nil)) pa_nil))))
          (pss_cons (ps_set (i := 12) sc_law_later_line.nd rfl (.inl rfl) (pe_op op_cat (pe_callTy (call_lstD (K := K)) (by rfl) z_list (by decide +kernel) (pa_cons (pe_ix (ixT (K := K)) (pv 5) pe_int (fun _ _ => rfl)) pa_nil)) (pe_callTy (call_lstD (K := K)) (by rfl) z_list (by decide +kernel) (pa_cons (pe_ix (ixT (K := K)) (pe_ix (ixL (K := K)) (pv 1) (pv 11) (fun _ _ => rfl)) pe_int (fun _ _ => rfl)) pa_nil))))
          (pss_cons (ps_if (pt_not (kTru (K := K) (pt_truth (pv 12) (by intro _; rfl)))) (pss_one (ps_ret pe_non)) pss_nil)
          (pss_cons (ps_set (i := 13) sc_law_later_line.nd rfl (.inl rfl) (pe_ix (ixL (K := K)) (pv 12) (pc c_law_draw hr (by first | decide | omega) (by rfl) (pa_cons (pv 0) (pa_cons (pe_callB (lenQ (K := K)) (by rfl) z_len PySem.boot_len (pa_cons (pv 12) pa_nil)) pa_nil))) (fun _ _ => rfl)))
          (pss_cons (ps_for PassesOwn.never rfl (kIT (K := K) (pi_tup (pe_ix (ixT (K := K)) (pv 5) pe_int (fun _ _ => rfl)))) (pg_name (i := 6) sc_law_later_line.nd rfl (.inl rfl)) (pss_one (ps_if (pt_cmpR (kInB (K := K) (uB hr)) (pe_tup (pa_cons (pe_ix (ixT (K := K)) (pv 6) pe_int (fun _ _ => rfl)) (pa_cons (pe_tup (pa_cons pe_str (pa_cons (pe_ix (ixT (K := K)) (pv 6) pe_int (fun _ _ => rfl)) pa_nil))) pa_nil))) (pe_ix (ixT (K := K)) (pe_ix (ixL (K := K)) (pv 1) (pv 11) (fun _ _ => rfl)) pe_int (fun _ _ => rfl)) rfl) (pss_one (ps_set (i := 13) sc_law_later_line.nd rfl (.inl rfl) (pv 6))) pss_nil)))
          (pss_cons (ps_set (i := 9) sc_law_later_line.nd rfl (.inl rfl) (pe_lst pa_nil))
          (pss_cons (ps_for PassesOwn.never rfl (kIL (K := K) (pi_list (pv 12))) (pg_name (i := 6) sc_law_later_line.nd rfl (.inl rfl)) (pss_one (ps_if (PW.pt (pw_and (pt_cmpR (kNeB (K := K) (uB hr)) (pv 6) (pv 13) (nomark _)) (pw_and (pt_cmpR (kNeB (K := K) (uB hr)) (pv 6) (pe_tup (pa_cons (pe_ix (ixT (K := K)) (pv 13) pe_int (fun _ _ => rfl)) (pa_cons (pe_tup (pa_cons pe_str (pa_cons (pe_ix (ixT (K := K)) (pv 13) pe_int (fun _ _ => rfl)) pa_nil))) pa_nil))) (nomark _)) (pw_and1 (pt_cmpR (kNotInB (K := K) (uB hr)) (pv 6) (pv 9) rfl))))) (pss_one (ps_expr (kBM (K := K) (pe_bm PySem.F.plainAttrs_list PySem.F.slot_list_append PySem.F.type_list_append mt_append (pv 9) (pa_cons (pv 6) pa_nil))))) pss_nil)))
          (pss_one (ps_ret (pe_tup (pa_cons (pe_ix (ixT (K := K)) (pv 5) pe_int (fun _ _ => rfl)) (pa_cons (pe_callTy (call_tupD (K := K)) (by rfl) z_tuple (by decide +kernel) (pa_cons (pv 9) pa_nil)) (pa_cons (pe_tup (pa_cons pe_str (pa_cons (pe_ix (ixT (K := K)) (pv 13) pe_int (fun _ _ => rfl)) (pa_cons (pe_ix (ixT (K := K)) (pv 13) pe_int (fun _ _ => rfl)) (pa_cons (pv 4) (pa_cons (pv 11) pa_nil)))))) pa_nil))))))))))))))))), ?_⟩
      walk_at "in"
      walk_at "dl"
      have hpos : (0 : Int) < ((ls.map Ln.D).length : Nat) := by rw [List.length_map]; have := List.length_pos_iff.mpr hne; omega
      refine x_c1 0 (by assumption) rfl (by walk_at "slt") ⟨b, _, rfl, rfl, hpos, rfl⟩ ?_
      rintro _ _ ⟨rfl, m, rfl, hm0, hm1⟩ H_ M_ w_ hw S_
      cases hw
      walk_at "dl"
      obtain ⟨l, hlm, hat⟩ := at_inR (f := Ln.D) (xs := ls) hm0 (by rw [List.length_map] at hm1; exact hm1)
      have hlb := hls l hlm
      obtain ⟨sh', rs, why⟩ := l
      have hl1 : rs.length ≤ R := hlb.len
      refine x_ixO 1 (by assumption) rfl (d := Ln.D ⟨sh', rs, why⟩) hat ?_
      walk_at "dl"
      rename Ds _ _ _ _ _ _ _ _ _ => S_
      simp only [Ln.D] at S_
      walk_at "dl"
      refine x_cut (fun ρ u => ρ = [.v (.ref b), .v (.ref a), .d sh.D, .d (.int p), .d (.int m), .d (.tuple [sh'.D, .tuple (rs.map rwD), why.D]), .u, .u, .u, .u, .u, .u, .u, .u] ∧ u = [(b, .box), (a, .lst (ls.map Ln.D))]) (by assumption) ?_ ?_
      · walk_at "dl"
        refine x_eqX shr_enc (c := sh') (d := .thing) (by assumption) (by walk_at "tm") (by walk_at "tm") (shr_dp _) (shr_dp _) ?_
        walk_at "dl"
        refine x_if (fun h1 => ?_) (fun h1 => ?_)
        · walk_at "dl"
          refine x_c1 0 (by assumption) rfl (by walk_at "slt") ⟨b, 2, rfl, rfl, by decide, rfl⟩ ?_
          rintro _ _ ⟨rfl, y, rfl, _, _⟩ H_ M_ w_ hw S_
          cases hw
          walk_at "dl"
          refine x_if (fun h2 => ?_) (fun h2 => ?_)
          · walk_at "dl"
            refine x_lc1T (fun j acc u => acc = (mv (rs.take j) p).map rwD ∧ u = [(b, .box), (a, .lst (ls.map Ln.D))]) (by assumption) (by walk_at "tm") ⟨rfl, rfl⟩ ?_ ?_
            · rintro j d acc w1 hj ⟨rfl, rfl⟩ D4 σ4 H4 M4 hrw S4
              obtain ⟨r, hr', rfl⟩ := map_at hj
              have hz : ((mv (rs.take j) p).map rwD).length < sizeLine := by
                rw [List.length_map]
                unfold mv
                rw [List.length_map, List.length_take]
                exact Nat.lt_of_lt_of_le (by omega : _ < 500) (by decide)
              rename Ds _ _ _ _ _ _ _ _ _ => S_
              simp only [List.set_cons_succ, List.set_cons_zero] at S_
              walk_at "dl"
              rename Ds _ _ _ _ _ _ _ _ _ => S_
              simp only [rwD] at S_
              walk_at "dl"
              exact x_lcA (by assumption) (by assumption) (by walk_at "tm") hz ⟨by rw [take_snoc hr']; unfold mv; rw [List.map_append, List.map_append]; rfl, rfl⟩
            rintro acc w1 ⟨rfl, rfl⟩ x_ H4 M4 S4
            rw [show (rs.map rwD).length = rs.length from List.length_map .., take_all] at S4
            walk_at "dl"
            refine x_rW (by assumption) hq (by walk_at "tm") [(b, .box), (a, .lst (ls.map Ln.D))] rfl (fun x h => List.mem_cons_of_mem _ h) ⟨rfl, .inr ⟨⟨sh, mv rs p, .line p m⟩, rfl, hlb.lineOk hp64 (by omega) (by omega) hm0⟩⟩
          · walk_at "dl"
            exact Md.at (by assumption) (by walk_at "le") ⟨rfl, rfl⟩
        · walk_at "dl"
          exact Md.at (by assumption) (by walk_at "le") ⟨rfl, rfl⟩
      rintro M1 σ1 H1 ρ1 u1 ⟨rfl, rfl⟩ S1
      refine x_cut (fun ρ u => ρ = [.v (.ref b), .v (.ref a), .d sh.D, .d (.int p), .d (.int m), .d (.tuple [sh'.D, .tuple (rs.map rwD), why.D]), .u, .u, .u, .u, .u, .u, .u, .u] ∧ u = [(b, .box), (a, .lst (ls.map Ln.D))]) (by assumption) ?_ ?_
      · cases sh' with
        | thing =>
          rw [show ShR.thing.D = .tuple [sK "thing"] from rfl] at S1
          walk_at "dl"
          exact Md.at (by assumption) (by walk_at "le") ⟨rfl, rfl⟩
        | family =>
          rw [show ShR.family.D = .tuple [sK "family"] from rfl] at S1
          walk_at "dl"
          exact Md.at (by assumption) (by walk_at "le") ⟨rfl, rfl⟩
        | pair r pb =>
          rw [show (ShR.pair r pb).D = .tuple [sK "pair", roD r pb] from rfl] at S1
          walk_at "dl"
          refine x_lc1T (fun j acc u => acc = (innerOf (rs.take j)).map Cp.D ∧ u = [(b, .box), (a, .lst (ls.map Ln.D))]) (by assumption) (by walk_at "tm") ⟨rfl, rfl⟩ ?_ ?_
          · rintro j d acc w1 hj ⟨rfl, rfl⟩ D4 σ4 H4 M4 hrw S4
            obtain ⟨x, hx', rfl⟩ := map_at hj
            have hz : ((innerOf (rs.take j)).map Cp.D).length < sizeLine := by
              have h1 := innerOf_len (p := p) (rs := rs.take j)
              rw [List.length_take] at h1
              rw [List.length_map]
              exact Nat.lt_of_lt_of_le (by omega : _ < 500) (by decide)
            rename Ds _ _ _ _ _ _ _ _ _ => S_
            simp only [List.set_cons_succ, List.set_cons_zero] at S_
            walk_at "dl"
            rename Ds _ _ _ _ _ _ _ _ _ => S_
            simp only [rwD] at S_
            walk_at "dl"
            refine x_if (fun h => ?_) (fun h => ?_)
            · have h := of_decide_eq_false (by rw [← Bool.not_eq_true']; exact h)
              walk_at "dl"
              exact x_lcA (by assumption) (by assumption) (by walk_at "tm") hz ⟨by rw [take_snoc hx', innerOf_snoc, if_neg h, List.map_append]; rfl, rfl⟩
            · have h := of_decide_eq_true (by rw [← Bool.not_eq_false']; exact h)
              exact x_lcN (by assumption) (by assumption) ⟨by rw [take_snoc hx', innerOf_snoc, if_pos h, List.append_nil], rfl⟩
          rintro acc w1 ⟨rfl, rfl⟩ x_ H4 M4 S4
          rw [show (rs.map rwD).length = rs.length from List.length_map .., take_all] at S4
          obtain ⟨M_, S_⟩ := S4.freeze (nd_neP S4)
          walk_at "dl"
          refine x_forL (fun j ρ u => ∃ A, A = andAll ((innerOf rs).take j) .any ∧ ρ = [.v (.ref b), .v (.ref a), .d sh.D, .d (.int p), .d (.int m), .d (.tuple [.tuple [sK "pair", roD r pb], .tuple (rs.map rwD), why.D]), .u, .d (.list ((innerOf rs).map Cp.D)), .d A.D, .u, .u, .u, .u, .u] ∧ u = [(b, .box), (a, .lst (ls.map Ln.D))]) (by assumption) (by walk_at "tm") ⟨.any, rfl, rfl, rfl⟩ ?_ ?_
          · rintro j d ρ1 u1 hj ⟨A, hA, rfl, rfl⟩ u_ σ1 H1 M1 S1
            obtain ⟨c, hc', rfl⟩ := map_at hj
            walk_at "dl"
            exact Nx.at (by assumption) (by walk_at "le") ⟨.both A c, by rw [take_snoc hc', andAll_snoc, hA], rfl, rfl⟩
          rintro ρ1 u1 ⟨A, hA, rfl, rfl⟩ σ1 H1 M1 S1
          rw [show ((innerOf rs).map Cp.D).length = (innerOf rs).length from List.length_map .., take_all] at hA
          subst hA
          walk_at "dl"
          refine x_lc1T (fun j acc u => acc = (hereOf p (rs.take j)).map rwD ∧ u = [(b, .box), (a, .lst (ls.map Ln.D))]) (by assumption) (by walk_at "tm") ⟨rfl, rfl⟩ ?_ ?_
          · rintro j d acc w1 hj ⟨rfl, rfl⟩ D4 σ4 H4 M4 hrw S4
            obtain ⟨x, hx', rfl⟩ := map_at hj
            have hz : ((hereOf p (rs.take j)).map rwD).length < sizeLine := by
              have h1 := innerOf_len (p := p) (rs := rs.take j)
              rw [List.length_take] at h1
              rw [List.length_map]
              exact Nat.lt_of_lt_of_le (by omega : _ < 500) (by decide)
            rename Ds _ _ _ _ _ _ _ _ _ => S_
            simp only [List.set_cons_succ, List.set_cons_zero] at S_
            walk_at "dl"
            rename Ds _ _ _ _ _ _ _ _ _ => S_
            simp only [rwD] at S_
            walk_at "dl"
            refine x_if (fun h => ?_) (fun h => ?_)
            · have h := of_decide_eq_true h
              walk_at "dl"
              exact x_lcA (by assumption) (by assumption) (by walk_at "tm") hz ⟨by rw [take_snoc hx', hereOf_snoc, if_pos h, List.map_append]; rfl, rfl⟩
            · have h := of_decide_eq_false h
              exact x_lcN (by assumption) (by assumption) ⟨by rw [take_snoc hx', hereOf_snoc, if_neg h, List.append_nil], rfl⟩
          rintro acc w1 ⟨rfl, rfl⟩ x_ H4 M4 S4
          rw [show (rs.map rwD).length = rs.length from List.length_map .., take_all] at S4
          walk_at "dl"
          have hcl := innerOf_len (p := p) (rs := rs)
          refine x_cat 1 0 (by assumption) rfl rfl (by rw [List.length_map]; exact Nat.le_trans (by show _ + 1 ≤ 10000; omega) (by decide)) fun a_ H_ S_ => ?_
          walk_at "dl"
          refine x_rW (by assumption) hq (by walk_at "tm") [(b, .box), (a, .lst (ls.map Ln.D))] rfl (fun x h => List.mem_cons_of_mem _ (List.mem_cons_of_mem _ (List.mem_cons_of_mem _ h))) ⟨rfl, .inr ⟨⟨sh, hereOf p rs ++ [(p, .some r pb (andAll (innerOf rs) .any))], .need p r pb (andAll (innerOf rs) .any) m⟩, ?_, hlb.needOk hp64 (by omega) (by omega) (by omega) (by omega) (by omega) (by omega) hm0⟩⟩
          show _ = PyData.tuple [_, .tuple (List.map rwD (hereOf p rs ++ [_])), _]
          rw [List.map_append]
          rfl
      rintro M1 σ1 H1 ρ1 u1 ⟨rfl, rfl⟩ S1
      walk_at "dl"
      refine x_c1 0 (by assumption) rfl (by walk_at "slt") ⟨b, _, rfl, rfl, hpos, rfl⟩ ?_
      rintro _ _ ⟨rfl, o, rfl, ho0, ho1⟩ H_ M_ w_ hw S_
      cases hw
      walk_at "dl"
      obtain ⟨k, hkm, hat2⟩ := at_inR (f := Ln.D) (xs := ls) ho0 (by rw [List.length_map] at ho1; exact ho1)
      have hkb := hls k hkm
      obtain ⟨sh2, ks, why2⟩ := k
      have hk1 : ks.length ≤ R := hkb.len
      refine x_ixO 2 (by assumption) rfl (d := Ln.D ⟨sh2, ks, why2⟩) hat2 ?_
      walk_at "dl"
      rename Ds _ _ _ _ _ _ _ _ _ => S_
      simp only [Ln.D] at S_
      walk_at "dl"
      refine x_cat 1 0 (by assumption) rfl rfl (by rw [List.length_map, List.length_map]; exact Nat.le_trans (by omega : _ ≤ 10000) (by decide)) fun a_ H_ S_ => ?_
      walk_at "dl"
      rename Ds _ _ _ _ _ _ _ _ _ => S_
      rw [← List.map_append] at S_
      obtain ⟨M_, S_⟩ := (S_.subw (.cons_cons _ (.cons _ (.cons _ (.refl _))))).frozen (i := 12) rfl (nd_neQ S_)
      simp only [List.set_cons_succ, List.set_cons_zero] at S_
      walk_at "dl"
      refine x_if (fun h1 => ?_) (fun h1 => ?_)
      · walk_at "dl"
        refine x_rW (by assumption) hq (by walk_at "tm") [(b, .box), (a, .lst (ls.map Ln.D))] rfl (fun x h => h) ⟨rfl, .inl rfl⟩
      have hpos2 := pos_ne (ds := (rs ++ ks).map rwD) (by rw [List.map_append]; exact h1)
      walk_at "dl"
      refine x_c1 0 (by assumption) rfl (by walk_at "slt") ⟨b, _, rfl, rfl, hpos2, rfl⟩ ?_
      rintro _ _ ⟨rfl, y, rfl, hy0, hy1⟩ H_ M_ w_ hw S_
      cases hw
      walk_at "dl"
      obtain ⟨pk, hpk, hat3⟩ := at_inR (f := rwD) (xs := rs ++ ks) hy0 (by rw [List.length_map] at hy1; exact hy1)
      refine x_ixL (by assumption) (by walk_at "tm") (d := rwD pk) hat3 ?_
      walk_at "dl"
      refine x_forT (fun j ρ u => ∃ pk : Int × Cp, pk ∈ rs ++ ks ∧ ρ = [.v (.ref b), .v (.ref a), .d sh.D, .d (.int p), .d (.int m), .d (.tuple [sh'.D, .tuple (rs.map rwD), why.D]), .u, .u, .u, .u, .u, .d (.int o), .d (.list ((rs ++ ks).map rwD)), .d (rwD pk)] ∧ u = [(b, .box), (a, .lst (ls.map Ln.D))]) (by assumption) (by walk_at "tm") ⟨pk, hpk, rfl, rfl⟩ ?_ ?_
      · rintro j d ρ1 u1 hj ⟨pk, hpk, rfl, rfl⟩ u_ σ1 H1 M1 S1
        obtain ⟨r, hr', rfl⟩ := map_at hj
        have hrm := List.mem_of_getElem? hr'
        rename Ds _ _ _ _ _ _ _ _ _ => S_
        simp only [rwD] at S_
        walk_at "dl"
        refine x_ixO 1 (by assumption) rfl (d := Ln.D ⟨sh2, ks, why2⟩) hat2 ?_
        walk_at "dl"
        rename Ds _ _ _ _ _ _ _ _ _ => S_
        simp only [Ln.D] at S_
        walk_at "dl"
        refine y_inTB rw_enc (by assumption) (c := (r.1, .not r.2)) (by walk_at "tm") (by walk_at "tm") (Nat.le_trans (rw_depth _) (by show r.2.dp + 1 + 3 ≤ 206; have := hlb.dpt r hrm; omega)) ?_
        walk_at "dl"
        refine x_if (fun h2 => ?_) (fun h2 => ?_)
        · walk_at "dl"
          exact Nx.at (by assumption) (by walk_at "le") ⟨r, List.mem_append.mpr (.inl hrm), rfl, rfl⟩
        · walk_at "dl"
          exact Nx.at (by assumption) (by walk_at "le") ⟨pk, hpk, rfl, rfl⟩
      clear hpk hat3
      rintro ρ1 u1 ⟨pk, hpk, rfl, rfl⟩ σ1 H1 M1 S1
      walk_at "dl"
      rename Addr => h
      have hdp : ∀ r ∈ rs ++ ks, r.2.dp ≤ T := fun r hr => (List.mem_append.mp hr).elim (hlb.dpt r) (hkb.dpt r)
      have hpkd := hdp pk hpk
      refine x_forL (fun j ρ u => ρ = [.v (.ref b), .v (.ref a), .d sh.D, .d (.int p), .d (.int m), .d (.tuple [sh'.D, .tuple (rs.map rwD), why.D]), .u, .u, .u, .v (.ref h), .u, .d (.int o), .d (.list ((rs ++ ks).map rwD)), .d (rwD pk)] ∧ ∃ hs : List (Int × Cp), u = [(h, .lst (hs.map rwD)), (b, .box), (a, .lst (ls.map Ln.D))] ∧ hs.length ≤ (((rs ++ ks).take j).filter fun r => !decide (r = pk)).length ∧ rsz hs ≤ rsz (((rs ++ ks).take j).filter fun r => !decide (r = pk)) ∧ ∀ r ∈ hs, r ∈ rs ++ ks) (by assumption) (by walk_at "tm") ⟨rfl, [], rfl, Nat.le_refl _, Nat.le_refl _, fun _ h => nomatch h⟩ ?_ ?_
      · rintro j d ρ1 u1 hj ⟨rfl, hs, rfl, hs1, hs2, hs3⟩ u_ σ1 H1 M1 S1
        obtain ⟨r, hr', rfl⟩ := map_at hj
        have hrm := List.mem_of_getElem? hr'
        have hrd := hdp r hrm
        have e1 : (((rs ++ ks).take (j + 1)).filter fun r => !decide (r = pk)) = (((rs ++ ks).take j).filter fun r => !decide (r = pk)) ++ (if r = pk then [] else [r]) := by
          rw [take_snoc hr', List.filter_append]
          congr 1
          by_cases h : r = pk
          · rw [if_pos h, List.filter_cons_of_neg (by rw [decide_eq_true h]; decide)]; rfl
          · rw [if_neg h, List.filter_cons_of_pos (by rw [decide_eq_false h]; rfl)]; rfl
        have skip : hs.length ≤ (((rs ++ ks).take (j + 1)).filter fun r => !decide (r = pk)).length ∧ rsz hs ≤ rsz (((rs ++ ks).take (j + 1)).filter fun r => !decide (r = pk)) := by
          rw [e1, List.length_append, rsz_app]
          exact ⟨by omega, by omega⟩
        have hz : (hs.map rwD).length < sizeLine := by
          have := List.length_filter_le (fun r => !decide (r = pk)) ((rs ++ ks).take j)
          rw [List.length_take, List.length_append] at this
          rw [List.length_map]
          exact Nat.lt_of_lt_of_le (by omega : _ < 10000) (by decide)
        have hd64 : (rwD r).depth ≤ 206 := Nat.le_trans (rw_depth _) (by omega)
        walk_at "dl"
        refine x_neBd rw_enc (c := r) (d := pk) (by assumption) (by walk_at "tm") (by walk_at "tm") hd64 ?_
        walk_at "dl"
        refine x_if (fun h2 => ?_) (fun h2 => ?_)
        · have h2 : r ≠ pk := of_decide_eq_false (by rw [← Bool.not_eq_true']; exact h2)
          rename Ds _ _ _ _ _ _ _ _ _ => S_
          simp only [rwD] at S_
          walk_at "dl"
          refine x_neBd rw_enc (c := r) (d := (pk.1, .not pk.2)) (by assumption) (by walk_at "tm") (by walk_at "tm") hd64 ?_
          walk_at "dl"
          refine x_if (fun h3 => ?_) (fun h3 => ?_)
          · walk_at "dl"
            refine y_niOB rw_enc 0 (by assumption) rfl (c := r) (by walk_at "tm") hd64 ?_
            walk_at "dl"
            refine x_if (fun h4 => ?_) (fun h4 => ?_)
            · walk_at "dl"
              refine x_appK 0 (by assumption) rfl (by walk_at "tm") hz (by walk_at "set") fun H_ S_ => ?_
              walk_at "dl"
              rw [if_neg h2] at e1
              exact Nx.at (by assumption) (by walk_at "le") ⟨rfl, hs ++ [r], by rw [List.map_append]; rfl, by rw [e1, List.length_append, List.length_append]; show _ + 1 ≤ _ + 1; omega, by rw [e1, rsz_app, rsz_app]; omega, fun x hx => (List.mem_append.mp hx).elim (hs3 x) fun z => List.mem_singleton.mp z ▸ hrm⟩
            · walk_at "dl"
              exact Nx.at (by assumption) (by walk_at "le") ⟨rfl, hs, rfl, skip.1, skip.2, hs3⟩
          · walk_at "dl"
            exact Nx.at (by assumption) (by walk_at "le") ⟨rfl, hs, rfl, skip.1, skip.2, hs3⟩
        · walk_at "dl"
          exact Nx.at (by assumption) (by walk_at "le") ⟨rfl, hs, rfl, skip.1, skip.2, hs3⟩
      rintro ρ1 u1 ⟨rfl, hs, rfl, hs1, hs2, hs3⟩ σ1 H1 M1 S1
      rw [show ((rs ++ ks).map rwD).length = (rs ++ ks).length from List.length_map .., take_all] at hs1 hs2
      rename Ds _ _ _ _ _ _ _ _ _ => S_
      simp only [rwD] at S_
      walk_at "dl"
      refine x_rW (by assumption) hq (by walk_at "tm") [(b, .box), (a, .lst (ls.map Ln.D))] rfl (fun x h => List.mem_cons_of_mem _ h) ⟨rfl, .inr ⟨⟨sh', hs, .split pk.1 pk.2 m o⟩, rfl, hlb.splitOk hkb hpk hs1 hs2 hs3 hA1 hT hW ⟨hm0, ho0⟩⟩⟩
    ))) only [↓Pf.Gate.lem]
end
section
variable {P : Program} {w : World} {K : PySem.W.Frag} {mg : Str → Option Value} {base : Heap}
theorem LnB.weak {N R G T W R' A' T' W' : Nat} {l : Ln} (h : LnB N R G T W l) (h1 : R ≤ R') (h2 : G ≤ A') (h3 : T ≤ T') (h4 : W ≤ W') : LnB N R' A' T' W' l :=
  ⟨Nat.le_trans h.len h1, fun r hr => Nat.le_trans (h.dep r hr) h2, fun r hr => Nat.le_trans (h.dpt r hr) h3, h.plc, Nat.le_trans h.siz h4, h.why⟩
def OLn (N R G T W : Nat) (o : Option Ln) : Prop := ∀ l, o = some l → LnB N R G T W l
def pLine (N : Nat) : Pre := fun ss u post => ∃ (R G T W R' G' T' W' : Nat) (b a : Addr) (xs : List (List Pt)) (s0 s1 s2 : Int) (ls : List Ln), ss = [.v (.ref b), .d (.tuple (xs.map axD)), .d (szD s0 s1 s2), .v (.ref a)] ∧ u = [(b, .box), (a, .lst (ls.map Ln.D))] ∧ ((ls ≠ [] → ((3 ≤ R ∧ R ≤ 400) ∧ (G + 1 < N ∧ 1 ≤ G ∧ G ≤ 200 ∧ T ≤ G) ∧ 8 ≤ W ∧ W + 2 ≤ 10000) ∧ 2 * R - 1 ≤ R' ∧ G + R - 1 ≤ G' ∧ G + 1 ≤ T' ∧ 2 * W ≤ W') ∧ 2 ≤ R' ∧ 6 ≤ G' ∧ 4 ≤ T' ∧ 35 ≤ W') ∧ (0 < s0 ∧ 0 ≤ s1) ∧ (xs.length ≤ 10 ∧ ∀ x ∈ xs, x.length ≤ 2 ∧ ∀ q ∈ x, q.CDp 4 ∧ q.Ind) ∧ ls.length ≤ 20 ∧ (∀ l ∈ ls, LnB N R G T W l) ∧ post = pW fun d u' => u' = [(b, .box), (a, .lst (ls.map Ln.D))] ∧ ∃ l : Ln, d = l.D ∧ LnB N R' G' T' W' l
theorem c_law_line {N : Nat} {f : Addr} {fd : FuncData} (hN : 8 ≤ N) (D : Df K mg "_law_line" s_law_line f fd ["box", "axioms", "sizes", "lines"]) (c_law_draw : Cl P w K mg base 1 "_law_draw" (spG K pDraw)) (c_law_role : Cl P w K mg base 2 "_law_role" (spG K pRole)) (c_law_concept : Cl P w K mg base 6 "_law_concept" (spG K (pConcept 3))) (c_law_axiom_line : Cl P w K mg base 3 "_law_axiom_line" (spG K (pAxiomLine N))) (c_law_later_line : Cl P w K mg base 2 "_law_later_line" (spG K (pLaterLine N))) (c_law_role_line : Cl P w K mg base 3 "_law_role_line" (spG K (pRoleLine N))) (c_law_link_line : Cl P w K mg base 3 "_law_link_line" (spG K (pLinkLine N))) : Cl P w K mg base 7 "_law_line" (spG K (pLine N)) := by
  refine Pf.Gate.out ?_
  simp (disch := (with_unfolding_all (
      refine D.go sc_law_line (pLine N) (fun ss u post h => by repeat (first | (obtain ⟨rfl, _⟩ := h; rfl) | obtain ⟨_, h⟩ := h)) fun cdv A outer s H M vs Q E ss u post hr hp S hq => ?_
      obtain ⟨R, G, T, W, R', G', T', W', b, a, xs, s0, s1, s2, ls, rfl, rfl, ⟨hne, hR3, hR4, hA1, hA0⟩, ⟨hs0, hs1⟩, ⟨hxl, hx⟩, hll, hls, rfl⟩ := hp
      refine ⟨_, (pss_cons (ps_set (i := 4) sc_law_line.nd rfl (.inl rfl) (pc c_law_draw hr (by first | decide | omega) (by rfl) (pa_cons (pv 0) (pa_cons pe_int pa_nil))))
          (pss_cons (ps_set (i := 5) sc_law_line.nd rfl (.inl rfl) (pe_tup (pa_cons pe_str pa_nil)))
          (Evl.pss_cut (ps_if (pt_cmpR op_eq (pc c_law_draw hr (by first | decide | omega) (by rfl) (pa_cons (pv 0) (pa_cons pe_int pa_nil))) pe_int (nomark _)) (pss_one (ps_set (i := 5) sc_law_line.nd rfl (.inl rfl) (pe_tup (pa_cons pe_str pa_nil)))) pss_nil)
          (Evl.pss_cut (ps_if (PW.pt (pw_and (pt_cmpR op_eq (pc c_law_draw hr (by first | decide | omega) (by rfl) (pa_cons (pv 0) (pa_cons pe_int pa_nil))) pe_int (nomark _)) (pw_and1 (pt_cmpR op_gt (pe_ix (ixT (K := K)) (pv 2) pe_int (fun _ _ => rfl)) pe_int (nomark _))))) (pss_one (ps_set (i := 5) sc_law_line.nd rfl (.inl rfl) (pe_tup (pa_cons pe_str (pa_cons (pc c_law_role hr (by first | decide | omega) (by rfl) (pa_cons (pv 0) (pa_cons (pv 2) pa_nil))) pa_nil))))) pss_nil)
          (pss_cons (ps_set (i := 6) sc_law_line.nd rfl (.inl rfl) (pc c_law_draw hr (by first | decide | omega) (by rfl) (pa_cons (pv 0) (pa_cons pe_int pa_nil))))
          (pss_cons (ps_set (i := 7) sc_law_line.nd rfl (.inl rfl) pe_non)
          (Evl.pss_cut (ps_if (pt_cmpR op_lt (pv 4) pe_int (nomark _)) (pss_one (ps_set (i := 7) sc_law_line.nd rfl (.inl rfl) (pc c_law_axiom_line hr (by first | decide | omega) (by rfl) (pa_cons (pv 0) (pa_cons (pv 1) (pa_cons (pv 5) (pa_cons (pv 6) pa_nil))))))) pss_nil)
          (Evl.pss_cut (ps_if (PW.pt (pw_and (pt_cmpR (inD (K := K)) (pv 4) (pe_tup (pa_cons pe_int (pa_cons pe_int (pa_cons pe_int pa_nil)))) rfl) (pw_and1 (kTru (K := K) (pt_truth (pv 3) (by intro _; rfl)))))) (pss_one (ps_set (i := 7) sc_law_line.nd rfl (.inl rfl) (pc c_law_later_line hr (by first | decide | omega) (by rfl) (pa_cons (pv 0) (pa_cons (pv 3) (pa_cons (pv 5) (pa_cons (pv 6) pa_nil))))))) pss_nil)
          (pss_cons (ps_set (i := 8) sc_law_line.nd rfl (.inl rfl) (pc c_law_concept hr (by first | decide | omega) (by rfl) (pa_cons (pv 0) (pa_cons (pv 2) (pa_cons pe_int pa_nil)))))
          (Evl.pss_cut (ps_if (PW.pt (pw_and (pt_cmpR (inD (K := K)) (pv 4) (pe_tup (pa_cons pe_int (pa_cons pe_int pa_nil))) rfl) (pw_and1 (pt_cmpR op_gt (pe_ix (ixT (K := K)) (pv 2) pe_int (fun _ _ => rfl)) pe_int (nomark _))))) (pss_one (ps_set (i := 7) sc_law_line.nd rfl (.inl rfl) (pc c_law_role_line hr (by first | decide | omega) (by rfl) (pa_cons (pv 0) (pa_cons (pv 1) (pa_cons (pv 2) (pa_cons (pv 8) pa_nil))))))) pss_nil)
          (Evl.pss_cut (ps_if (pt_cmpR op_eq (pv 4) pe_int (nomark _)) (pss_one (ps_set (i := 7) sc_law_line.nd rfl (.inl rfl) (pc c_law_link_line hr (by first | decide | omega) (by rfl) (pa_cons (pv 0) (pa_cons (pv 1) (pa_cons (pv 8) pa_nil)))))) pss_nil)
          (Evl.pss_cut (ps_if (pt_cmpR op_isNo (pv 7) pe_non (nomark _)) (pss_one (ps_set (i := 7) sc_law_line.nd rfl (.inl rfl) (pe_tup (pa_cons (pv 5) (pa_cons (pe_tup (pa_cons (pe_tup (pa_cons (pv 6) (pa_cons (pv 8) pa_nil))) (pa_cons (pe_tup (pa_cons (pv 6) (pa_cons (pe_tup (pa_cons pe_str (pa_cons (pv 8) pa_nil))) pa_nil))) pa_nil))) (pa_cons (pe_tup (pa_cons pe_str (pa_cons (pv 6) (pa_cons (pv 8) pa_nil)))) pa_nil)))))) pss_nil)
          (pss_one (ps_ret (pv 7))))))))))))))), ?_⟩
      walk_at "in"
      have hwk : ∀ l : Ln, LnB N 2 6 4 35 l → LnB N R' G' T' W' l := fun l h => h.weak (by omega) (by omega) (by omega) (by omega)
      walk_at "dl"
      refine x_c1 0 (by assumption) rfl (by walk_at "slt") ⟨b, 10, rfl, rfl, by decide, rfl⟩ ?_
      rintro _ _ ⟨rfl, kd, rfl, _, _⟩ H_ M_ w_ hw S_
      cases hw
      walk_at "dl"
      refine x_cut (fun ρ u => ∃ sh : ShR, ρ = [.v (.ref b), .d (.tuple (xs.map axD)), .d (szD s0 s1 s2), .v (.ref a), .d (.int kd), .d sh.D, .u, .u, .u] ∧ u = [(b, .box), (a, .lst (ls.map Ln.D))]) (by assumption) ?_ ?_
      · walk_at "dl"
        refine x_c1 0 (by assumption) rfl (by walk_at "slt") ⟨b, 3, rfl, rfl, by decide, rfl⟩ ?_
        rintro _ _ ⟨rfl, y, rfl, _, _⟩ H_ M_ w_ hw S_
        cases hw
        walk_at "dl"
        refine x_if (fun h => ?_) (fun h => ?_)
        · walk_at "dl"
          exact Md.at (by assumption) (by walk_at "le") ⟨.family, rfl, rfl⟩
        · walk_at "dl"
          exact Md.at (by assumption) (by walk_at "le") ⟨.thing, rfl, rfl⟩
      rintro M1 σ1 H1 ρ1 u1 ⟨sh, rfl, rfl⟩ S1
      refine x_cut (fun ρ u => ∃ sh : ShR, ρ = [.v (.ref b), .d (.tuple (xs.map axD)), .d (szD s0 s1 s2), .v (.ref a), .d (.int kd), .d sh.D, .u, .u, .u] ∧ u = [(b, .box), (a, .lst (ls.map Ln.D))]) (by assumption) ?_ ?_
      · walk_at "dl"
        refine x_c1 0 (by assumption) rfl (by walk_at "slt") ⟨b, 4, rfl, rfl, by decide, rfl⟩ ?_
        rintro _ _ ⟨rfl, y, rfl, _, _⟩ H_ M_ w_ hw S_
        cases hw
        walk_at "dl"
        refine x_if (fun h => ?_) (fun h => ?_)
        · walk_at "dl"
          refine x_if (fun h2 => ?_) (fun h2 => ?_)
          · have h2 := of_decide_eq_true h2
            walk_at "dl"
            refine x_c1 0 (by assumption) rfl (by walk_at "slt") ⟨b, s0, s1, s2, rfl, rfl, h2, rfl⟩ ?_
            rintro _ _ ⟨rfl, r, rb, rfl, r0, r1⟩ H_ M_ w_ hw S_
            cases hw
            walk_at "dl"
            exact Md.at (by assumption) (by walk_at "le") ⟨.pair r rb, rfl, rfl⟩
          · walk_at "dl"
            exact Md.at (by assumption) (by walk_at "le") ⟨sh, rfl, rfl⟩
        · walk_at "dl"
          exact Md.at (by assumption) (by walk_at "le") ⟨sh, rfl, rfl⟩
      rintro M1 σ1 H1 ρ1 u1 ⟨sh, rfl, rfl⟩ S1
      walk_at "dl"
      refine x_c1 0 (by assumption) rfl (by walk_at "slt") ⟨b, 3, rfl, rfl, by decide, rfl⟩ ?_
      rintro _ _ ⟨rfl, p, rfl, hp0, hp3⟩ H_ M_ w_ hw S_
      cases hw
      walk_at "dl"
      have hp64 : 0 ≤ p ∧ p < 64 := ⟨hp0, by omega⟩
      have hno : OLn N R' G' T' W' none := fun l h => nomatch h
      refine x_cut (fun ρ u => ∃ o : Option Ln, OLn N R' G' T' W' o ∧ ρ = [.v (.ref b), .d (.tuple (xs.map axD)), .d (szD s0 s1 s2), .v (.ref a), .d (.int kd), .d sh.D, .d (.int p), .d (optLn o), .u] ∧ u = [(b, .box), (a, .lst (ls.map Ln.D))]) (by assumption) ?_ ?_
      · walk_at "dl"
        refine x_if (fun h => ?_) (fun h => ?_)
        · walk_at "dl"
          refine x_c1 0 (by assumption) rfl (by walk_at "slt") ⟨b, xs, sh, p, rfl, rfl, hxl, hx, hp64, rfl⟩ ?_
          rintro _ _ ⟨rfl, hd⟩ H_ M_ w_ hw S_
          cases hw
          walk_at "dl"
          rcases hd with rfl | ⟨l, rfl, hl⟩
          · walk_at "dl"
            exact Md.at (by assumption) (by walk_at "le") ⟨none, hno, rfl, rfl⟩
          · walk_at "dl"
            exact Md.at (by assumption) (by walk_at "le") ⟨some l, fun _ e => Option.some.inj e ▸ hwk l hl, rfl, rfl⟩
        · walk_at "dl"
          exact Md.at (by assumption) (by walk_at "le") ⟨none, hno, rfl, rfl⟩
      rintro M1 σ1 H1 ρ1 u1 ⟨o, ho, rfl, rfl⟩ S1
      refine x_cut (fun ρ u => ∃ o : Option Ln, OLn N R' G' T' W' o ∧ ρ = [.v (.ref b), .d (.tuple (xs.map axD)), .d (szD s0 s1 s2), .v (.ref a), .d (.int kd), .d sh.D, .d (.int p), .d (optLn o), .u] ∧ u = [(b, .box), (a, .lst (ls.map Ln.D))]) (by assumption) ?_ ?_
      · walk_at "dl"
        refine x_if (fun h => ?_) (fun h => ?_)
        · walk_at "dl"
          cases ls with
          | nil =>
            refine x_ifF rfl ?_
            walk_at "dl"
            exact Md.at (by assumption) (by walk_at "le") ⟨o, ho, rfl, rfl⟩
          | cons l0 ls0 =>
            refine x_ifT rfl ?_
            walk_at "dl"
            refine x_cW [] [(b, .box), (a, .lst ((l0 :: ls0).map Ln.D))] [] (by assumption) rfl (by walk_at "slt") ⟨R, G, T, W, b, a, l0 :: ls0, sh, p, rfl, rfl, (hne (List.cons_ne_nil _ _)).1, hp64, List.cons_ne_nil _ _, hll, hls, rfl⟩ ?_
            rintro _ _ ⟨rfl, hd⟩ H_ M_ S_
            simp only [List.append_nil, List.cons_append, List.nil_append] at S_
            walk_at "dl"
            rcases hd with rfl | ⟨l, rfl, hl⟩
            · walk_at "dl"
              exact Md.at (by assumption) (by walk_at "le") ⟨none, hno, rfl, rfl⟩
            · walk_at "dl"
              exact Md.at (by assumption) (by walk_at "le") ⟨some l, fun _ e => Option.some.inj e ▸ (have z := (hne (List.cons_ne_nil _ _)).2; hl.weak z.1 z.2.1 z.2.2.1 z.2.2.2), rfl, rfl⟩
        · walk_at "dl"
          exact Md.at (by assumption) (by walk_at "le") ⟨o, ho, rfl, rfl⟩
      rintro M1 σ1 H1 ρ1 u1 ⟨o, ho, rfl, rfl⟩ S1
      walk_at "dl"
      refine x_c1 0 (by assumption) rfl (by walk_at "slt") ⟨b, s0, s1, s2, 1, rfl, rfl, hs0, hs1, by decide, rfl⟩ ?_
      rintro _ _ ⟨rfl, c, rfl, _, hc⟩ H_ M_ w_ hw S_
      cases hw
      walk_at "dl"
      have hc : c.dp ≤ 1 := hc
      refine x_cut (fun ρ u => ∃ o : Option Ln, OLn N R' G' T' W' o ∧ ρ = [.v (.ref b), .d (.tuple (xs.map axD)), .d (szD s0 s1 s2), .v (.ref a), .d (.int kd), .d sh.D, .d (.int p), .d (optLn o), .d c.D] ∧ u = [(b, .box), (a, .lst (ls.map Ln.D))]) (by assumption) ?_ ?_
      · walk_at "dl"
        refine x_if (fun h => ?_) (fun h => ?_)
        · walk_at "dl"
          refine x_if (fun h2 => ?_) (fun h2 => ?_)
          · have h2 := of_decide_eq_true h2
            walk_at "dl"
            refine x_c1 0 (by assumption) rfl (by walk_at "slt") ⟨b, xs, s0, s1, s2, c, rfl, rfl, h2, hxl, fun x h => (hx x h).1, hc, rfl⟩ ?_
            rintro _ _ ⟨rfl, l, rfl, hl⟩ H_ M_ w_ hw S_
            cases hw
            walk_at "dl"
            exact Md.at (by assumption) (by walk_at "le") ⟨some l, fun _ e => Option.some.inj e ▸ hwk l hl, rfl, rfl⟩
          · walk_at "dl"
            exact Md.at (by assumption) (by walk_at "le") ⟨o, ho, rfl, rfl⟩
        · walk_at "dl"
          exact Md.at (by assumption) (by walk_at "le") ⟨o, ho, rfl, rfl⟩
      rintro M1 σ1 H1 ρ1 u1 ⟨o, ho, rfl, rfl⟩ S1
      refine x_cut (fun ρ u => ∃ o : Option Ln, OLn N R' G' T' W' o ∧ ρ = [.v (.ref b), .d (.tuple (xs.map axD)), .d (szD s0 s1 s2), .v (.ref a), .d (.int kd), .d sh.D, .d (.int p), .d (optLn o), .d c.D] ∧ u = [(b, .box), (a, .lst (ls.map Ln.D))]) (by assumption) ?_ ?_
      · walk_at "dl"
        refine x_if (fun h => ?_) (fun h => ?_)
        · walk_at "dl"
          refine x_c1 0 (by assumption) rfl (by walk_at "slt") ⟨b, xs, c, rfl, rfl, hxl, fun x h => ⟨(hx x h).1, fun q hq => ((hx x h).2 q hq).2⟩, hc, rfl⟩ ?_
          rintro _ _ ⟨rfl, hd⟩ H_ M_ w_ hw S_
          cases hw
          walk_at "dl"
          rcases hd with rfl | ⟨l, rfl, hl⟩
          · walk_at "dl"
            exact Md.at (by assumption) (by walk_at "le") ⟨none, hno, rfl, rfl⟩
          · walk_at "dl"
            exact Md.at (by assumption) (by walk_at "le") ⟨some l, fun _ e => Option.some.inj e ▸ hwk l hl, rfl, rfl⟩
        · walk_at "dl"
          exact Md.at (by assumption) (by walk_at "le") ⟨o, ho, rfl, rfl⟩
      rintro M1 σ1 H1 ρ1 u1 ⟨o, ho, rfl, rfl⟩ S1
      refine x_cut (fun ρ u => ∃ l : Ln, LnB N R' G' T' W' l ∧ ρ = [.v (.ref b), .d (.tuple (xs.map axD)), .d (szD s0 s1 s2), .v (.ref a), .d (.int kd), .d sh.D, .d (.int p), .d l.D, .d c.D] ∧ u = [(b, .box), (a, .lst (ls.map Ln.D))]) (by assumption) ?_ ?_
      · cases o with
        | none =>
          rw [show optLn none = .none from rfl] at S1
          walk_at "dl"
          have hsz := sz_one hc
          exact Md.at (by assumption) (by walk_at "le") ⟨⟨sh, [(p, c), (p, .not c)], .clash p c⟩, hwk _ (.two ⟨hp64, hp64⟩ (by show c.dp ≤ 4; omega) (by show c.dp + 1 ≤ 4; omega) (by show c.sz ≤ 16; omega) (by show c.sz + 1 ≤ 17; omega) ⟨CcOk.of_one hN hc, trivial⟩), rfl, rfl⟩
        | some l =>
          obtain ⟨sh', rs', why'⟩ := l
          rw [show optLn (some (⟨sh', rs', why'⟩ : Ln)) = .tuple [sh'.D, .tuple (rs'.map rwD), why'.D] from rfl] at S1
          walk_at "dl"
          exact Md.at (by assumption) (by walk_at "le") ⟨⟨sh', rs', why'⟩, ho _ rfl, rfl, rfl⟩
      rintro M1 σ1 H1 ρ1 u1 ⟨l, hl, rfl, rfl⟩ S1
      walk_at "dl"
      refine x_rW (by assumption) hq (by walk_at "tm") [(b, .box), (a, .lst (ls.map Ln.D))] rfl (fun x h => h) ⟨rfl, l, rfl, hl⟩
    ))) only [↓Pf.Gate.lem]
end
section
variable {P : Program} {w : World} {K : PySem.W.Frag} {mg : Str → Option Value} {base : Heap}
def isI : PyData → Bool
  | .int _ => true
  | _ => false
def Fld (d : PyData) : Prop := (∃ i, d = .int i) ∨ (∃ b, d = .bool b) ∨ ∃ ds, d = .tuple ds
def pIsIntD : Pre := fun ss u post => ∃ d : PyData, ss = [.d d] ∧ u = [] ∧ Fld d ∧ post = pD fun x => x = .bool (isI d)
theorem c_law_is_integerD {f : Addr} {fd : FuncData} (D : Df K mg "_law_is_integer" s_law_is_integer f fd ["actual"]) (z_isinstance : mg "isinstance" = none) (z_int : mg "int" = none) (z_bool : mg "bool" = none) : Cl P w K mg base 1 "_law_is_integer" (spG K pIsIntD) := by
  refine D.go sc_law_is_integer (pIsIntD) (fun ss u post h => by repeat (first | (obtain ⟨rfl, _⟩ := h; rfl) | obtain ⟨_, h⟩ := h)) fun cdv A outer s H M vs Q E ss u post hr hp S hq => ?_
  obtain ⟨d, rfl, rfl, hd, rfl⟩ := hp
  refine ⟨_, (pss_one (ps_ret (pe_and (pe_callB (kIsi (K := K)) (by rfl) z_isinstance (by decide +kernel) (pa_cons (pv 0) (pa_cons (pe_bltn (v := .ty "int") (u := .type "int") (by rfl) z_int (by decide +kernel) rfl) pa_nil))) (pe_one (pe_not (pe_callB (kIsi (K := K)) (by rfl) z_isinstance (by decide +kernel) (pa_cons (pv 0) (pa_cons (pe_bltn (v := .ty "bool") (u := .type "bool") (by rfl) z_bool (by decide +kernel) rfl) pa_nil)))))))), ?_⟩
  walk_at "in"
  rcases hd with ⟨i, rfl⟩ | ⟨b, rfl⟩ | ⟨ds, rfl⟩
  · walk_at "dl"
    exact x_rD (by assumption) hq (by walk_at "tm") rfl
  · walk_at "dl"
    exact x_rD (by assumption) hq (by walk_at "tm") rfl
  · walk_at "dl"
    exact x_rD (by assumption) hq (by walk_at "tm") rfl
theorem Cp.D_tup : ∀ c : Cp, ∃ ds, c.D = .tuple ds
  | .any => ⟨_, rfl⟩
  | .name _ => ⟨_, rfl⟩
  | .not _ => ⟨_, rfl⟩
  | .both _ _ => ⟨_, rfl⟩
  | .some _ _ _ => ⟨_, rfl⟩
theorem Cp.D_ne (c : Cp) {i : Int} (h : c.D = .int i) : False := by
  obtain ⟨ds, e⟩ := c.D_tup
  rw [e] at h; cases h
def Rsn.fl : Rsn → List PyData
  | .clash p c => [sK "clash", .int p, c.D]
  | .axm p a m => [sK "axiom", .int p, .int a, .int m]
  | .line p m => [sK "line", .int p, .int m]
  | .split p c a b => [sK "split", .int p, c.D, .int a, .int b]
  | .need p r b c m => [sK "need", .int p, roD r b, c.D, .int m]
  | .role st bk c => [sK "role", spsD st, .bool bk, c.D]
  | .mem a m => [sK "member", .int a, .int m]
  | .link a m st bk c => [sK "link", .int a, .int m, spsD st, .bool bk, c.D]
theorem Rsn.eq_fl : ∀ why : Rsn, why.D = .tuple why.fl
  | .clash _ _ => rfl
  | .axm _ _ _ => rfl
  | .line _ _ => rfl
  | .split _ _ _ _ => rfl
  | .need _ _ _ _ _ => rfl
  | .role _ _ _ => rfl
  | .mem _ _ => rfl
  | .link _ _ _ _ _ => rfl
theorem Rsn.fl_len : ∀ why : Rsn, why.fl.length ≤ 6 := fun why => by cases why <;> simp [Rsn.fl]
theorem Rsn.el {why : Rsn} {i : Nat} {d : PyData} (h : why.fl[i + 1]? = some d) : Fld d := by
  have I : ∀ k : Int, Fld (.int k) := fun k => .inl ⟨k, rfl⟩
  have B : ∀ k : Bool, Fld (.bool k) := fun k => .inr (.inl ⟨k, rfl⟩)
  have T : ∀ ks, Fld (.tuple ks) := fun k => .inr (.inr ⟨k, rfl⟩)
  have Cc : ∀ c : Cp, Fld c.D := fun c => by obtain ⟨ds, e⟩ := c.D_tup; rw [e]; exact T ds
  have hm : d ∈ why.fl.drop 1 := List.mem_of_getElem? (i := i) (by rw [List.getElem?_drop, Nat.add_comm]; exact h)
  have key : ∀ d ∈ why.fl.drop 1, Fld d := by
    cases why <;> (repeat (first | exact List.forall_mem_nil _ | refine List.forall_mem_cons.mpr ⟨by first | exact I _ | exact B _ | exact Cc _ | exact T _, ?_⟩))
  exact key d hm
theorem Rsn.put {N : Nat} {why : Rsn} {j k : Int} (hk : 0 ≤ k) (hkl : k < 400) (okl : RsnOk N why ∧ why.Lt) : ∀ {i : Nat}, why.fl[i + 1]? = some (.int j) → ∃ why' : Rsn, why'.fl = why.fl.set (i + 1) (.int k) ∧ RsnOk N why' ∧ why'.Lt := by
  intro i h
  obtain ⟨ok, lt⟩ := okl
  cases why with
  | clash p c => match i, h with
    | 0, _ => exact ⟨.clash k c, rfl, ok, trivial⟩
    | 1, h => exact (c.D_ne (Option.some.inj h)).elim
  | axm p a m => match i, h with
    | 0, _ => exact ⟨.axm k a m, rfl, ok, lt⟩
    | 1, _ => exact ⟨.axm p k m, rfl, ⟨hk, ok.2⟩, hkl⟩
    | 2, _ => exact ⟨.axm p a k, rfl, ⟨ok.1, hk⟩, lt⟩
  | line p m => match i, h with
    | 0, _ => exact ⟨.line k m, rfl, ok, trivial⟩
    | 1, _ => exact ⟨.line p k, rfl, hk, trivial⟩
  | split p c a b => match i, h with
    | 0, _ => exact ⟨.split k c a b, rfl, ok, trivial⟩
    | 1, h => exact (c.D_ne (Option.some.inj h)).elim
    | 2, _ => exact ⟨.split p c k b, rfl, ⟨ok.1, hk, ok.2.2⟩, trivial⟩
    | 3, _ => exact ⟨.split p c a k, rfl, ⟨ok.1, ok.2.1, hk⟩, trivial⟩
  | need p r b c m => match i, h with
    | 0, _ => exact ⟨.need k r b c m, rfl, ok, trivial⟩
    | 1, h => exact nomatch (Option.some.inj h)
    | 2, h => exact (c.D_ne (Option.some.inj h)).elim
    | 3, _ => exact ⟨.need p r b c k, rfl, ⟨ok.1, hk⟩, trivial⟩
  | role st bk c => match i, h with
    | 0, h => exact nomatch (Option.some.inj h)
    | 1, h => exact nomatch (Option.some.inj h)
    | 2, h => exact (c.D_ne (Option.some.inj h)).elim
  | mem a m => match i, h with
    | 0, _ => exact ⟨.mem k m, rfl, ⟨hk, ok.2⟩, hkl⟩
    | 1, _ => exact ⟨.mem a k, rfl, ⟨ok.1, hk⟩, lt⟩
  | link a m st bk c => match i, h with
    | 0, _ => exact ⟨.link k m st bk c, rfl, ⟨⟨hk, ok.1.2⟩, ok.2⟩, hkl, lt.2⟩
    | 1, _ => exact ⟨.link a k st bk c, rfl, ⟨⟨ok.1.1, hk⟩, ok.2⟩, lt⟩
    | 2, h => exact nomatch (Option.some.inj h)
    | 3, h => exact nomatch (Option.some.inj h)
    | 4, h => exact (c.D_ne (Option.some.inj h)).elim
structure RwB (R G T W : Nat) (rs : List (Int × Cp)) : Prop where
  len : rs.length ≤ R
  dep : ∀ r ∈ rs, rs.length + r.2.dp ≤ G
  dpt : ∀ r ∈ rs, r.2.dp ≤ T
  plc : ∀ r ∈ rs, 0 ≤ r.1 ∧ r.1 < 64
  siz : rsz rs ≤ W
theorem rsz_set : ∀ {rs : List (Int × Cp)} {k : Nat} {r r' : Int × Cp}, rs[k]? = some r → rsz (rs.set k r') + r.2.sz = rsz rs + r'.2.sz
  | x :: rs, 0, r, r', h => by
    cases Option.some.inj (show some x = some r from h)
    show r'.2.sz + 1 + rsz rs + x.2.sz = x.2.sz + 1 + rsz rs + r'.2.sz
    omega
  | x :: rs, k + 1, r, r', h => by
    have := rsz_set (rs := rs) (k := k) (r := r) (r' := r') h
    show x.2.sz + 1 + rsz (rs.set k r') + r.2.sz = x.2.sz + 1 + rsz rs + r'.2.sz
    omega
theorem RwB.set {R G T W k : Nat} {rs : List (Int × Cp)} {r r' : Int × Cp} (h : RwB R G T W rs) (hk : rs[k]? = some r) (h1 : r'.2.dp ≤ max r.2.dp 1 + 1) (h2 : r'.2.sz ≤ r.2.sz + 5) (hp : 0 ≤ r'.1 ∧ r'.1 < 64) (hG : R + 2 ≤ G) (hT : 1 ≤ T) : RwB (R + 1) (G + 1) (T + 1) (W + 9) (rs.set k r') where
  len := by rw [List.length_set]; exact Nat.le_succ_of_le h.len
  dep := fun x hx => by
    rw [List.length_set]
    rcases List.mem_or_eq_of_mem_set hx with hx | rfl
    · exact Nat.le_succ_of_le (h.dep x hx)
    · have := h.dep r (List.mem_of_getElem? hk)
      have := h.len
      omega
  dpt := fun x hx => by
    rcases List.mem_or_eq_of_mem_set hx with hx | rfl
    · exact Nat.le_succ_of_le (h.dpt x hx)
    · have := h.dpt r (List.mem_of_getElem? hk)
      omega
  plc := fun x hx => (List.mem_or_eq_of_mem_set hx).elim (h.plc x) fun e => e ▸ hp
  siz := by
    have := rsz_set (r' := r') hk
    have := h.siz
    omega
theorem rsz_era : ∀ {rs : List (Int × Cp)} {k : Nat}, rsz (rs.eraseIdx k) ≤ rsz rs
  | [], _ => Nat.le_refl _
  | x :: rs, 0 => by show rsz rs ≤ x.2.sz + 1 + rsz rs; omega
  | x :: rs, k + 1 => by
    have := rsz_era (rs := rs) (k := k)
    show x.2.sz + 1 + rsz (rs.eraseIdx k) ≤ x.2.sz + 1 + rsz rs
    omega
theorem era_map {α β : Type} {f : α → β} : ∀ {rs : List α} {k : Nat}, (rs.map f).eraseIdx k = (rs.eraseIdx k).map f
  | [], _ => rfl
  | _ :: _, 0 => rfl
  | x :: rs, k + 1 => congrArg (f x :: ·) (era_map (rs := rs) (k := k))
theorem RwB.era {R G T W k : Nat} {rs : List (Int × Cp)} (h : RwB R G T W rs) : RwB (R + 1) (G + 1) (T + 1) (W + 9) (rs.eraseIdx k) where
  len := Nat.le_succ_of_le (Nat.le_trans (List.length_eraseIdx_le ..) h.len)
  dep := fun x hx => by
    have h1 := List.length_eraseIdx_le rs k
    have h2 := h.dep x (List.mem_of_mem_eraseIdx hx)
    omega
  dpt := fun x hx => Nat.le_succ_of_le (h.dpt x (List.mem_of_mem_eraseIdx hx))
  plc := fun x hx => h.plc x (List.mem_of_mem_eraseIdx hx)
  siz := by
    have := rsz_era (rs := rs) (k := k)
    have := h.siz
    omega
theorem RwB.more {R G T W : Nat} {rs : List (Int × Cp)} {x : Int × Cp} (h : RwB R G T W rs) (h1 : x.2.dp ≤ 2) (h2 : x.2.sz ≤ 8) (hp : 0 ≤ x.1 ∧ x.1 < 64) (hG : R + 2 ≤ G) (hT : 1 ≤ T) : RwB (R + 1) (G + 1) (T + 1) (W + 9) (rs ++ [x]) where
  len := by rw [List.length_append]; exact Nat.succ_le_succ h.len
  dep := fun y hy => by
    rw [List.length_append]
    show rs.length + 1 + _ ≤ _
    rcases List.mem_append.mp hy with hy | hy
    · have := h.dep y hy
      omega
    · rw [List.mem_singleton.mp hy]
      have := h.len
      omega
  dpt := fun y hy => by
    rcases List.mem_append.mp hy with hy | hy
    · exact Nat.le_succ_of_le (h.dpt y hy)
    · rw [List.mem_singleton.mp hy]; omega
  plc := fun y hy => (List.mem_append.mp hy).elim (h.plc y) fun z => List.mem_singleton.mp z ▸ hp
  siz := by
    rw [rsz_app]
    have := h.siz
    show _ + (x.2.sz + 1 + 0) ≤ _
    omega
theorem RwB.same {R G T W : Nat} {rs : List (Int × Cp)} (h : RwB R G T W rs) : RwB (R + 1) (G + 1) (T + 1) (W + 9) rs := ⟨Nat.le_succ_of_le h.len, fun x hx => Nat.le_succ_of_le (h.dep x hx), fun x hx => Nat.le_succ_of_le (h.dpt x hx), h.plc, by have := h.siz; omega⟩
theorem ixN_ofR {n : Nat} {i : Int} (h0 : 0 ≤ i) (h1 : i < n) : ixN n i = some i.toNat := by
  unfold ixN
  simp [show ¬ i < 0 by omega, h0, h1]
theorem pos_len {ds : List PyData} (h : (!ds.isEmpty) = true) : (0 : Int) < (ds.length : Nat) := by
  cases ds with
  | nil => exact absurd h (by decide)
  | cons x y => rw [List.length_cons]; omega
def pSpoilt (N : Nat) : Pre := fun ss u post => ∃ (R G T W : Nat) (b : Addr) (l : Ln) (s0 s1 s2 : Int), ss = [.v (.ref b), .d l.D, .d (szD s0 s1 s2)] ∧ u = [(b, .box)] ∧ (R ≤ 900 ∧ R + 2 ≤ G ∧ 1 ≤ T) ∧ (0 < s0 ∧ 0 ≤ s1) ∧ LnB N R G T W l ∧ post = pD1 b fun d od => od = .box ∧ ∃ l : Ln, d = l.D ∧ LnB N (R + 1) (G + 1) (T + 1) (W + 9) l
theorem c_law_spoilt {N : Nat} {f : Addr} {fd : FuncData} (D : Df K mg "_law_spoilt" s_law_spoilt f fd ["box", "line", "sizes"]) (c_law_draw : Cl P w K mg base 1 "_law_draw" (spG K pDraw)) (c_law_concept : Cl P w K mg base 6 "_law_concept" (spG K (pConcept 3))) (c_law_is_integer : Cl P w K mg base 1 "_law_is_integer" (spG K pIsIntD)) (z_len : mg "len" = none) (z_list : mg "list" = none) (z_tuple : mg "tuple" = none) (z_range : mg "range" = none) (z_min : mg "min" = none) : Cl P w K mg base 7 "_law_spoilt" (spG K (pSpoilt N)) := by
  refine Pf.Gate.out ?_
  simp (disch := (with_unfolding_all (
      refine D.go sc_law_spoilt (pSpoilt N) (fun ss u post h => by repeat (first | (obtain ⟨rfl, _⟩ := h; rfl) | obtain ⟨_, h⟩ := h)) fun cdv A outer s H M vs Q E ss u post hr hp S hq => ?_
      obtain ⟨R, G, T, W, b, l, s0, s1, s2, rfl, rfl, ⟨hR9, hRG, hT1⟩, ⟨hs0, hs1⟩, hl, rfl⟩ := hp
      refine ⟨_, (pss_cons (ps_set (i := 3) sc_law_spoilt.nd rfl (.inl rfl) (pc c_law_draw hr (by first | decide | omega) (by rfl) (pa_cons (pv 0) (pa_cons pe_int pa_nil))))
          (pss_cons (ps_set (i := 4) sc_law_spoilt.nd rfl (.inl rfl) (pe_callTy (call_lstD (K := K)) (by rfl) z_list (by decide +kernel) (pa_cons (pe_ix (ixT (K := K)) (pv 1) pe_int (fun _ _ => rfl)) pa_nil)))
          (Evl.pss_cut (ps_if (PW.pt (pw_and (pt_cmpR op_eq (pv 3) pe_int (nomark _)) (pw_and1 (kTru (K := K) (pt_truth (pv 4) (by intro _; rfl)))))) (pss_one (ps_expr (kBM (K := K) (pe_bm PySem.F.plainAttrs_list PySem.F.slot_list_pop PySem.F.type_list_pop mt_popAt (pv 4) (pa_cons (pc c_law_draw hr (by first | decide | omega) (by rfl) (pa_cons (pv 0) (pa_cons (pe_callB (lenQ (K := K)) (by rfl) z_len PySem.boot_len (pa_cons (pv 4) pa_nil)) pa_nil))) pa_nil))))) pss_nil)
          (Evl.pss_cut (ps_if (PW.pt (pw_and (pt_cmpR op_eq (pv 3) pe_int (nomark _)) (pw_and1 (kTru (K := K) (pt_truth (pv 4) (by intro _; rfl)))))) (pss_cons (ps_set (i := 5) sc_law_spoilt.nd rfl (.inl rfl) (pc c_law_draw hr (by first | decide | omega) (by rfl) (pa_cons (pv 0) (pa_cons (pe_callB (lenQ (K := K)) (by rfl) z_len PySem.boot_len (pa_cons (pv 4) pa_nil)) pa_nil))))
          (pss_one (ps_asg (pe_tup (pa_cons (pe_op op_sub pe_int (pe_callB (call_min2 rfl) (by rfl) z_min (by decide +kernel) (pa_cons pe_int (pa_cons (pe_ix (ixT (K := K)) (pe_ix (ixL (K := K)) (pv 4) (pv 5) (fun _ _ => rfl)) pe_int (fun _ _ => rfl)) pa_nil)))) (pa_cons (pe_ix (ixT (K := K)) (pe_ix (ixL (K := K)) (pv 4) (pv 5) (fun _ _ => rfl)) pe_int (fun _ _ => rfl)) pa_nil))) (pg_sub (pv 4) (pv 5) set_list)))) pss_nil)
          (Evl.pss_cut (ps_if (PW.pt (pw_and (pt_cmpR op_eq (pv 3) pe_int (nomark _)) (pw_and1 (kTru (K := K) (pt_truth (pv 4) (by intro _; rfl)))))) (pss_cons (ps_set (i := 5) sc_law_spoilt.nd rfl (.inl rfl) (pc c_law_draw hr (by first | decide | omega) (by rfl) (pa_cons (pv 0) (pa_cons (pe_callB (lenQ (K := K)) (by rfl) z_len PySem.boot_len (pa_cons (pv 4) pa_nil)) pa_nil))))
          (pss_one (ps_asg (pe_tup (pa_cons (pe_ix (ixT (K := K)) (pe_ix (ixL (K := K)) (pv 4) (pv 5) (fun _ _ => rfl)) pe_int (fun _ _ => rfl)) (pa_cons (pe_tup (pa_cons pe_str (pa_cons (pe_ix (ixT (K := K)) (pe_ix (ixL (K := K)) (pv 4) (pv 5) (fun _ _ => rfl)) pe_int (fun _ _ => rfl)) pa_nil))) pa_nil))) (pg_sub (pv 4) (pv 5) set_list)))) pss_nil)
          (Evl.pss_cut (ps_if (pt_cmpR op_eq (pv 3) pe_int (nomark _)) (pss_one (ps_expr (kBM (K := K) (pe_bm PySem.F.plainAttrs_list PySem.F.slot_list_append PySem.F.type_list_append mt_append (pv 4) (pa_cons (pe_tup (pa_cons (pc c_law_draw hr (by first | decide | omega) (by rfl) (pa_cons (pv 0) (pa_cons pe_int pa_nil))) (pa_cons (pc c_law_concept hr (by first | decide | omega) (by rfl) (pa_cons (pv 0) (pa_cons (pv 2) (pa_cons pe_int pa_nil)))) pa_nil))) pa_nil))))) pss_nil)
          (Evl.pss_cut (ps_if (PW.pt (pw_and (pt_cmpR op_eq (pv 3) pe_int (nomark _)) (pw_and1 (kTru (K := K) (pt_truth (pv 4) (by intro _; rfl)))))) (pss_cons (ps_set (i := 5) sc_law_spoilt.nd rfl (.inl rfl) (pc c_law_draw hr (by first | decide | omega) (by rfl) (pa_cons (pv 0) (pa_cons (pe_callB (lenQ (K := K)) (by rfl) z_len PySem.boot_len (pa_cons (pv 4) pa_nil)) pa_nil))))
          (pss_one (ps_asg (pe_tup (pa_cons (pe_ix (ixT (K := K)) (pe_ix (ixL (K := K)) (pv 4) (pv 5) (fun _ _ => rfl)) pe_int (fun _ _ => rfl)) (pa_cons (pe_tup (pa_cons pe_str (pa_cons (pe_ix (ixT (K := K)) (pe_ix (ixL (K := K)) (pv 4) (pv 5) (fun _ _ => rfl)) pe_int (fun _ _ => rfl)) (pa_cons (pc c_law_concept hr (by first | decide | omega) (by rfl) (pa_cons (pv 0) (pa_cons (pv 2) (pa_cons pe_int pa_nil)))) pa_nil)))) pa_nil))) (pg_sub (pv 4) (pv 5) set_list)))) pss_nil)
          (pss_cons (ps_set (i := 6) sc_law_spoilt.nd rfl (.inl rfl) (pe_ix (ixT (K := K)) (pv 1) pe_int (fun _ _ => rfl)))
          (Evl.pss_cut (ps_if (pt_cmpR op_eq (pv 3) pe_int (nomark _)) (pss_one (ps_set (i := 6) sc_law_spoilt.nd rfl (.inl rfl) (pe_ix (ixL (K := K)) (pe_lst (pa_cons (pe_tup (pa_cons pe_str pa_nil)) (pa_cons (pe_tup (pa_cons pe_str pa_nil)) pa_nil))) (pc c_law_draw hr (by first | decide | omega) (by rfl) (pa_cons (pv 0) (pa_cons pe_int pa_nil))) (fun _ _ => rfl)))) pss_nil)
          (pss_cons (ps_set (i := 7) sc_law_spoilt.nd rfl (.inl rfl) (pe_callTy (call_lstD (K := K)) (by rfl) z_list (by decide +kernel) (pa_cons (pe_ix (ixT (K := K)) (pv 1) pe_int (fun _ _ => rfl)) pa_nil)))
          (Evl.pss_cut (ps_if (pt_cmpR (inD (K := K)) (pv 3) (pe_tup (pa_cons pe_int (pa_cons pe_int pa_nil))) rfl) (pss_one (ps_for PassesOwn.never rfl (pi_range2 (by rfl) z_range (pa_cons pe_int (pa_cons (pe_callB (lenQ (K := K)) (by rfl) z_len PySem.boot_len (pa_cons (pv 7) pa_nil)) pa_nil))) (pg_name (i := 5) sc_law_spoilt.nd rfl (.inl rfl)) (pss_one (ps_if (PW.pt (pw_and (pt_val (pc c_law_is_integer hr (by first | decide | omega) (by rfl) (pa_cons (pe_ix (ixL (K := K)) (pv 7) (pv 5) (fun _ _ => rfl)) pa_nil))) (pw_and1 (pt_cmpR op_eq (pc c_law_draw hr (by first | decide | omega) (by rfl) (pa_cons (pv 0) (pa_cons pe_int pa_nil))) pe_int (nomark _))))) (pss_one (ps_asg (pc c_law_draw hr (by first | decide | omega) (by rfl) (pa_cons (pv 0) (pa_cons pe_int pa_nil))) (pg_sub (pv 7) (pv 5) set_list))) pss_nil)))) pss_nil)
          (pss_one (ps_ret (pe_tup (pa_cons (pv 6) (pa_cons (pe_callTy (call_tupD (K := K)) (by rfl) z_tuple (by decide +kernel) (pa_cons (pv 4) pa_nil)) (pa_cons (pe_callTy (call_tupD (K := K)) (by rfl) z_tuple (by decide +kernel) (pa_cons (pv 7) pa_nil)) pa_nil))))))))))))))))), ?_⟩
      walk_at "in"
      obtain ⟨sh, rs, why⟩ := l
      have hrs : RwB R G T W rs := ⟨hl.len, hl.dep, hl.dpt, hl.plc, hl.siz⟩
      have hwhy := hl.why
      clear hl
      rename Ds _ _ _ _ _ _ _ _ _ => S_
      rw [show Ln.D ⟨sh, rs, why⟩ = .tuple [sh.D, .tuple (rs.map rwD), .tuple why.fl] by rw [← Rsn.eq_fl]; rfl] at S_
      walk_at "dl"
      refine x_c1 0 (by assumption) rfl (by walk_at "slt") ⟨b, 12, rfl, rfl, by decide, rfl⟩ ?_
      rintro _ _ ⟨rfl, kd, rfl, hk0, hk1⟩ H_ M_ w_ hw S_
      cases hw
      walk_at "dl"
      rename Addr => h
      have hz : (rs.map rwD).length < sizeLine := by rw [List.length_map]; have := hrs.len; exact Nat.lt_of_lt_of_le (by omega : _ < 10000) (by decide)
      have hlen : ((rs.map rwD).length : Int) = (rs.length : Nat) := by rw [List.length_map]
      have hge : ∀ y : Int, 0 ≤ y → y < ((rs.map rwD).length : Nat) → ∃ r, rs[y.toNat]? = some r ∧ atI (rs.map rwD) y = some (.tuple [.int r.1, r.2.D]) ∧ ixN (rs.map rwD).length y = some y.toNat := fun y h0 h1 => by
        have h2 : y.toNat < rs.length := by rw [List.length_map] at h1; omega
        refine ⟨rs[y.toNat], List.getElem?_eq_getElem h2, ?_, ixN_ofR h0 h1⟩
        have := at_nat (f := rwD) (List.getElem?_eq_getElem h2)
        rwa [show ((y.toNat : Nat) : Int) = y by omega] at this
      refine x_cut (fun ρ u => ∃ rs' : List (Int × Cp), ((0 : Int) < kd → rs' = rs) ∧ RwB (R + 1) (G + 1) (T + 1) (W + 9) rs' ∧ ρ = [.v (.ref b), .d (.tuple [sh.D, .tuple (rs.map rwD), .tuple why.fl]), .d (szD s0 s1 s2), .d (.int kd), .v (.ref h), .u, .u, .u] ∧ u = [(h, .lst (rs'.map rwD)), (b, .box)]) (by assumption) ?_ ?_
      · walk_at "dl"
        refine x_if (fun h => ?_) (fun h => ?_)
        · have h := of_decide_eq_true h
          walk_at "dl"
          refine x_if (fun h2 => ?_) (fun h2 => ?_)
          · walk_at "dl"
            refine x_popI (by assumption) rfl 0 rfl ?_
            walk_at "dl"
            refine x_c1 1 (by assumption) rfl (by walk_at "slt") ⟨b, _, rfl, rfl, pos_len h2, rfl⟩ ?_
            rintro _ _ ⟨rfl, y, rfl, hy0, hy1⟩ H_ M_ w_ hw S_
            cases hw
            rename SetAt _ _ _ _ => hw
            cases hw
            walk_at "dl"
            refine x_popK 0 (by assumption) rfl hy0 hy1 (by have := hrs.len; omega) (by walk_at "set") fun y_ H_ S_ => ?_
            walk_at "dl"
            exact Md.at (by assumption) (by walk_at "le") ⟨rs.eraseIdx y.toNat, (fun z => absurd z (by omega)), hrs.era, rfl, by rw [era_map]⟩
          · walk_at "dl"
            exact Md.at (by assumption) (by walk_at "le") ⟨rs, fun _ => rfl, hrs.same, rfl, rfl⟩
        · have h := of_decide_eq_false h
          walk_at "dl"
          exact Md.at (by assumption) (by walk_at "le") ⟨rs, fun _ => rfl, hrs.same, rfl, rfl⟩
      rintro M1 σ1 H1 ρ1 u1 ⟨rs1, h1, hB, rfl, rfl⟩ S1
      refine x_cut (fun ρ u => ∃ rs' : List (Int × Cp), ((1 : Int) < kd → rs' = rs) ∧ RwB (R + 1) (G + 1) (T + 1) (W + 9) rs' ∧ ρ = [.v (.ref b), .d (.tuple [sh.D, .tuple (rs.map rwD), .tuple why.fl]), .d (szD s0 s1 s2), .d (.int kd), .v (.ref h), .u, .u, .u] ∧ u = [(h, .lst (rs'.map rwD)), (b, .box)]) (by assumption) ?_ ?_
      · walk_at "dl"
        refine x_if (fun h => ?_) (fun h => ?_)
        · have h := of_decide_eq_true h
          obtain rfl := (h1 (by omega)).symm
          walk_at "dl"
          refine x_if (fun h2 => ?_) (fun h2 => ?_)
          · walk_at "dl"
            refine x_c1 1 (by assumption) rfl (by walk_at "slt") ⟨b, _, rfl, rfl, pos_len h2, rfl⟩ ?_
            rintro _ _ ⟨rfl, y, rfl, hy0, hy1⟩ H_ M_ w_ hw S_
            cases hw
            rename SetAt _ _ _ _ => hw
            cases hw
            walk_at "dl"
            obtain ⟨r, hr1, hat, hix⟩ := hge y hy0 hy1
            refine x_ixO 0 (by assumption) rfl hat ?_
            walk_at "dl"
            refine ⟨_, _, rfl, ?_⟩
            walk_at "dl"
            refine x_ixO 0 (by assumption) rfl hat ?_
            walk_at "dl"
            refine x_setO 0 (by assumption) rfl hix (d := rwD (1 - (if r.1 < 1 then r.1 else 1), r.2)) (by walk_at "tm") (by walk_at "set") fun H_ S_ => ?_
            walk_at "dl"
            exact Md.at (by assumption) (by walk_at "le") ⟨rs.set y.toNat (1 - (if r.1 < 1 then r.1 else 1), r.2), (fun z => absurd z (by omega)), hrs.set hr1 (by show r.2.dp ≤ _; omega) (by show r.2.sz ≤ _; omega) (by have := hrs.plc r (List.mem_of_getElem? hr1); show 0 ≤ (1 - (if r.1 < 1 then r.1 else 1)) ∧ (1 - (if r.1 < 1 then r.1 else 1)) < 64; split <;> omega) hRG hT1, rfl, by rw [List.map_set]⟩
          · walk_at "dl"
            exact Md.at (by assumption) (by walk_at "le") ⟨rs, fun _ => rfl, hrs.same, rfl, rfl⟩
        · have h := of_decide_eq_false h
          walk_at "dl"
          exact Md.at (by assumption) (by walk_at "le") ⟨rs1, fun z => h1 (by omega), hB, rfl, rfl⟩
      rintro M1 σ1 H1 ρ1 u1 ⟨rs1, h1, hB, rfl, rfl⟩ S1
      refine x_cut (fun ρ u => ∃ rs' : List (Int × Cp), ((2 : Int) < kd → rs' = rs) ∧ RwB (R + 1) (G + 1) (T + 1) (W + 9) rs' ∧ ρ = [.v (.ref b), .d (.tuple [sh.D, .tuple (rs.map rwD), .tuple why.fl]), .d (szD s0 s1 s2), .d (.int kd), .v (.ref h), .u, .u, .u] ∧ u = [(h, .lst (rs'.map rwD)), (b, .box)]) (by assumption) ?_ ?_
      · walk_at "dl"
        refine x_if (fun h => ?_) (fun h => ?_)
        · have h := of_decide_eq_true h
          obtain rfl := (h1 (by omega)).symm
          walk_at "dl"
          refine x_if (fun h2 => ?_) (fun h2 => ?_)
          · walk_at "dl"
            refine x_c1 1 (by assumption) rfl (by walk_at "slt") ⟨b, _, rfl, rfl, pos_len h2, rfl⟩ ?_
            rintro _ _ ⟨rfl, y, rfl, hy0, hy1⟩ H_ M_ w_ hw S_
            cases hw
            rename SetAt _ _ _ _ => hw
            cases hw
            walk_at "dl"
            obtain ⟨r, hr1, hat, hix⟩ := hge y hy0 hy1
            refine x_ixO 0 (by assumption) rfl hat ?_
            walk_at "dl"
            refine x_ixO 0 (by assumption) rfl hat ?_
            walk_at "dl"
            refine x_setO 0 (by assumption) rfl hix (d := rwD (r.1, .not r.2)) (by walk_at "tm") (by walk_at "set") fun H_ S_ => ?_
            walk_at "dl"
            exact Md.at (by assumption) (by walk_at "le") ⟨rs.set y.toNat (r.1, .not r.2), (fun z => absurd z (by omega)), hrs.set hr1 (by show r.2.dp + 1 ≤ _; omega) (by show r.2.sz + 1 ≤ _; omega) (hrs.plc r (List.mem_of_getElem? hr1)) hRG hT1, rfl, by rw [List.map_set]⟩
          · walk_at "dl"
            exact Md.at (by assumption) (by walk_at "le") ⟨rs, fun _ => rfl, hrs.same, rfl, rfl⟩
        · have h := of_decide_eq_false h
          walk_at "dl"
          exact Md.at (by assumption) (by walk_at "le") ⟨rs1, fun z => h1 (by omega), hB, rfl, rfl⟩
      rintro M1 σ1 H1 ρ1 u1 ⟨rs1, h1, hB, rfl, rfl⟩ S1
      refine x_cut (fun ρ u => ∃ rs' : List (Int × Cp), ((3 : Int) < kd → rs' = rs) ∧ RwB (R + 1) (G + 1) (T + 1) (W + 9) rs' ∧ ρ = [.v (.ref b), .d (.tuple [sh.D, .tuple (rs.map rwD), .tuple why.fl]), .d (szD s0 s1 s2), .d (.int kd), .v (.ref h), .u, .u, .u] ∧ u = [(h, .lst (rs'.map rwD)), (b, .box)]) (by assumption) ?_ ?_
      · walk_at "dl"
        refine x_if (fun h => ?_) (fun h => ?_)
        · have h := of_decide_eq_true h
          obtain rfl := (h1 (by omega)).symm
          walk_at "dl"
          refine x_c1 1 (by assumption) rfl (by walk_at "slt") ⟨b, 3, rfl, rfl, by decide, rfl⟩ ?_
          rintro _ _ ⟨rfl, y, rfl, hy0, hy3⟩ H_ M_ w_ hw S_
          cases hw
          rename SetAt _ _ _ _ => hw
          cases hw
          walk_at "dl"
          refine x_c1 1 (by assumption) rfl (by walk_at "slt") ⟨b, s0, s1, s2, 2, rfl, rfl, hs0, hs1, by decide, rfl⟩ ?_
          rintro _ _ ⟨rfl, c, rfl, _, hc⟩ H_ M_ w_ hw S_
          cases hw
          rename SetAt _ _ _ _ => hw
          cases hw
          walk_at "dl"
          have hc : c.dp ≤ 2 := hc
          refine x_appK 0 (by assumption) rfl (e := rwD (y, c)) (by walk_at "tm") hz (by walk_at "set") fun H_ S_ => ?_
          walk_at "dl"
          exact Md.at (by assumption) (by walk_at "le") ⟨rs ++ [(y, c)], (fun z => absurd z (by omega)), hrs.more hc (Nat.le_trans (Cp.sz_of hc) (by decide)) ⟨hy0, by show y < 64; omega⟩ hRG hT1, rfl, by rw [List.map_append]; rfl⟩
        · have h := of_decide_eq_false h
          walk_at "dl"
          exact Md.at (by assumption) (by walk_at "le") ⟨rs1, fun z => h1 (by omega), hB, rfl, rfl⟩
      rintro M1 σ1 H1 ρ1 u1 ⟨rs1, h1, hB, rfl, rfl⟩ S1
      refine x_cut (fun ρ u => ∃ rs' : List (Int × Cp), ((4 : Int) < kd → rs' = rs) ∧ RwB (R + 1) (G + 1) (T + 1) (W + 9) rs' ∧ ρ = [.v (.ref b), .d (.tuple [sh.D, .tuple (rs.map rwD), .tuple why.fl]), .d (szD s0 s1 s2), .d (.int kd), .v (.ref h), .u, .u, .u] ∧ u = [(h, .lst (rs'.map rwD)), (b, .box)]) (by assumption) ?_ ?_
      · walk_at "dl"
        refine x_if (fun h => ?_) (fun h => ?_)
        · have h := of_decide_eq_true h
          obtain rfl := (h1 (by omega)).symm
          walk_at "dl"
          refine x_if (fun h2 => ?_) (fun h2 => ?_)
          · walk_at "dl"
            refine x_c1 1 (by assumption) rfl (by walk_at "slt") ⟨b, _, rfl, rfl, pos_len h2, rfl⟩ ?_
            rintro _ _ ⟨rfl, y, rfl, hy0, hy1⟩ H_ M_ w_ hw S_
            cases hw
            rename SetAt _ _ _ _ => hw
            cases hw
            walk_at "dl"
            obtain ⟨r, hr1, hat, hix⟩ := hge y hy0 hy1
            refine x_ixO 0 (by assumption) rfl hat ?_
            walk_at "dl"
            refine x_ixO 0 (by assumption) rfl hat ?_
            walk_at "dl"
            refine x_c1 1 (by assumption) rfl (by walk_at "slt") ⟨b, s0, s1, s2, 1, rfl, rfl, hs0, hs1, by decide, rfl⟩ ?_
            rintro _ _ ⟨rfl, c, rfl, _, hc⟩ H_ M_ w_ hw S_
            cases hw
            rename SetAt _ _ _ _ => hw
            cases hw
            walk_at "dl"
            have hc : c.dp ≤ 1 := hc
            have hcs := sz_one hc
            refine x_setO 0 (by assumption) rfl hix (d := rwD (r.1, .both r.2 c)) (by walk_at "tm") (by walk_at "set") fun H_ S_ => ?_
            walk_at "dl"
            exact Md.at (by assumption) (by walk_at "le") ⟨rs.set y.toNat (r.1, .both r.2 c), (fun z => absurd z (by omega)), hrs.set hr1 (by show max r.2.dp c.dp + 1 ≤ _; omega) (by show r.2.sz + c.sz + 1 ≤ _; omega) (hrs.plc r (List.mem_of_getElem? hr1)) hRG hT1, rfl, by rw [List.map_set]⟩
          · walk_at "dl"
            exact Md.at (by assumption) (by walk_at "le") ⟨rs, fun _ => rfl, hrs.same, rfl, rfl⟩
        · have h := of_decide_eq_false h
          walk_at "dl"
          exact Md.at (by assumption) (by walk_at "le") ⟨rs1, fun z => h1 (by omega), hB, rfl, rfl⟩
      rintro M1 σ1 H1 ρ1 u1 ⟨rs1, h1, hB, rfl, rfl⟩ S1
      have h1 := trivial
      clear hz hlen hge hrs
      walk_at "dl"
      refine x_cut (fun ρ u => ∃ sh' : ShR, ρ = [.v (.ref b), .d (.tuple [sh.D, .tuple (rs.map rwD), .tuple why.fl]), .d (szD s0 s1 s2), .d (.int kd), .v (.ref h), .u, .d sh'.D, .u] ∧ u = [(h, .lst (rs1.map rwD)), (b, .box)]) (by assumption) ?_ ?_
      · walk_at "dl"
        refine x_if (fun h2 => ?_) (fun h2 => ?_)
        · walk_at "dl"
          refine x_c1 2 (by assumption) rfl (by walk_at "slt") ⟨b, 2, rfl, rfl, by decide, rfl⟩ ?_
          rintro _ _ ⟨rfl, y, rfl, hy0, hy1⟩ H_ M_ w_ hw S_
          cases hw
          rename SetAt _ _ _ _ => hw
          cases hw
          rename SetAt _ _ _ _ => hw
          cases hw
          walk_at "dl"
          obtain ⟨sh', _, hat⟩ := at_inR (f := ShR.D) (xs := [.thing, .family]) hy0 hy1
          refine x_ixO 0 (by assumption) rfl (d := sh'.D) hat ?_
          walk_at "dl"
          rename Ds _ _ _ _ _ _ _ _ _ => S_
          exact Md.at (S_.subw (.cons _ (.refl _))) (by walk_at "le") ⟨sh', rfl, rfl⟩
        · walk_at "dl"
          exact Md.at (by assumption) (by walk_at "le") ⟨sh, rfl, rfl⟩
      rintro M1 σ1 H1 ρ1 u1 ⟨sh', rfl, rfl⟩ S1
      walk_at "dl"
      rename Addr => q
      refine x_cut (fun ρ u => ∃ why' : Rsn, (RsnOk N why' ∧ why'.Lt) ∧ ρ = [.v (.ref b), .d (.tuple [sh.D, .tuple (rs.map rwD), .tuple why.fl]), .d (szD s0 s1 s2), .d (.int kd), .v (.ref h), .u, .d sh'.D, .v (.ref q)] ∧ u = [(q, .lst why'.fl), (h, .lst (rs1.map rwD)), (b, .box)]) (by assumption) ?_ ?_
      · walk_at "dl"
        refine x_if (fun h2 => ?_) (fun h2 => ?_)
        · walk_at "dl"
          have hfl := why.fl_len
          refine x_forR2 (fun j ρ u => ∃ why' : Rsn, (RsnOk N why' ∧ why'.Lt) ∧ why'.fl.length = why.fl.length ∧ ρ = [.v (.ref b), .d (.tuple [sh.D, .tuple (rs.map rwD), .tuple why.fl]), .d (szD s0 s1 s2), .d (.int kd), .v (.ref h), .u, .d sh'.D, .v (.ref q)] ∧ u = [(q, .lst why'.fl), (h, .lst (rs1.map rwD)), (b, .box)]) (by assumption) (by omega) (by omega) ⟨why, hwhy, rfl, rfl, rfl⟩ ?_ ?_
          · rintro j ρ1 u1 hj ⟨why', hw', hl', rfl, rfl⟩ σ1 H1 M1 S1
            have hj2 : j + 1 < why'.fl.length := by omega
            obtain ⟨d, hd⟩ : ∃ d, why'.fl[j + 1]? = some d := ⟨_, List.getElem?_eq_getElem hj2⟩
            have hat : atI why'.fl (1 + (j : Int)) = some d := by
              rw [show (1 + (j : Int)) = ((j + 1 : Nat) : Int) by omega]
              exact atI_nat hd
            have hfd := Rsn.el hd
            walk_at "dl"
            refine x_ixO 0 (by assumption) rfl hat ?_
            walk_at "dl"
            refine x_cD (by assumption) (by walk_at "slt") ⟨d, rfl, rfl, hfd, rfl⟩ ?_
            rintro _ rfl H_ M_ S_
            walk_at "dl"
            refine x_if (fun h3 => ?_) (fun h3 => ?_)
            · obtain ⟨i, rfl⟩ : ∃ i, d = .int i := by
                rcases hfd with h | ⟨_, rfl⟩ | ⟨_, rfl⟩
                · exact h
                · cases h3
                · cases h3
              walk_at "dl"
              refine x_c1 2 (by assumption) rfl (by walk_at "slt") ⟨b, 2, rfl, rfl, by decide, rfl⟩ ?_
              rintro _ _ ⟨rfl, y, rfl, _, _⟩ H_ M_ w_ hw S_
              cases hw
              rename SetAt _ _ _ _ => hw
              cases hw
              rename SetAt _ _ _ _ => hw
              cases hw
              walk_at "dl"
              refine x_if (fun h4 => ?_) (fun h4 => ?_)
              · walk_at "dl"
                refine x_c1 2 (by assumption) rfl (by walk_at "slt") ⟨b, 5, rfl, rfl, by decide, rfl⟩ ?_
                rintro _ _ ⟨rfl, k, rfl, hk0, hk5⟩ H_ M_ w_ hw S_
                cases hw
                rename SetAt _ _ _ _ => hw
                cases hw
                rename SetAt _ _ _ _ => hw
                cases hw
                walk_at "dl"
                obtain ⟨why2, e2, hw2⟩ := Rsn.put hk0 (by omega) hw' hd
                refine x_setO 0 (by assumption) rfl (ixN_ofR (by omega) (by omega)) (d := .int k) (by walk_at "tm") (by walk_at "set") fun H_ S_ => ?_
                rw [show (1 + (j : Int)).toNat = j + 1 by omega, ← e2] at S_
                walk_at "dl"
                exact Nx.at (by assumption) (by walk_at "le") ⟨why2, hw2, by rw [e2, List.length_set]; exact hl', rfl, rfl⟩
              · walk_at "dl"
                exact Nx.at (by assumption) (by walk_at "le") ⟨why', hw', hl', rfl, rfl⟩
            · walk_at "dl"
              exact Nx.at (by assumption) (by walk_at "le") ⟨why', hw', hl', rfl, rfl⟩
          · rintro ρ1 u1 ⟨why', hw', hl', rfl, rfl⟩ σ1 H1 M1 S1
            walk_at "dl"
            exact Md.at (by assumption) (by walk_at "le") ⟨why', hw', rfl, rfl⟩
        · walk_at "dl"
          exact Md.at (by assumption) (by walk_at "le") ⟨why, hwhy, rfl, rfl⟩
      rintro M1 σ1 H1 ρ1 u1 ⟨why', hw', rfl, rfl⟩ S1
      walk_at "dl"
      exact x_r1 (by assumption) hq (by walk_at "tm") 2 rfl ⟨rfl, ⟨sh', rs1, why'⟩, by rw [← Rsn.eq_fl]; rfl, hB.len, hB.dep, hB.dpt, hB.plc, hB.siz, hw'⟩
    ))) only [↓Pf.Gate.lem]
end
section
variable {P : Program} {w : World} {K : PySem.W.Frag} {mg : Str → Option Value} {base : Heap}
def bR : Nat → Nat
  | 0 => 3
  | k + 1 => 2 * bR k
def bG : Nat → Nat
  | 0 => 7
  | k + 1 => bG k + bR k
def bT : Nat → Nat
  | 0 => 5
  | k + 1 => bG k + 2
def bW : Nat → Nat
  | 0 => 44
  | k + 1 => 2 * bW k + 9
abbrev LnK (N k : Nat) (l : Ln) : Prop := LnB N (bR k) (bG k) (bT k) (bW k) l
theorem b_ok : ∀ k, k < 7 → ((3 ≤ bR k ∧ bR k ≤ 400) ∧ (bG k + 1 < 200 ∧ 1 ≤ bG k ∧ bG k ≤ 200 ∧ bT k ≤ bG k) ∧ 8 ≤ bW k ∧ bW k + 2 ≤ 10000) ∧ bR k + 2 ≤ bG k := by decide
theorem b_up : ∀ k, k < 7 → bR k ≤ bR (k + 1) ∧ bG k ≤ bG (k + 1) ∧ bT k ≤ bT (k + 1) ∧ bW k ≤ bW (k + 1) := by decide
theorem b_sp : ∀ k, k ≤ 7 → bR k - 1 ≤ 900 ∧ bR k - 1 + 2 ≤ bG k - 1 ∧ 1 ≤ bT k - 1 ∧ 1 ≤ bR k ∧ 1 ≤ bG k ∧ 1 ≤ bT k ∧ 9 ≤ bW k ∧ 2 ≤ bR k - 1 ∧ 6 ≤ bG k - 1 ∧ 4 ≤ bT k - 1 ∧ 35 ≤ bW k - 9 := by decide
theorem LnK.up {N k : Nat} {l : Ln} (hk : k < 7) (h : LnK N k l) : LnK N (k + 1) l := by
  obtain ⟨h1, h2, h3, h4⟩ := b_up k hk
  exact h.weak h1 h2 h3 h4
theorem LnK.to7 {N k : Nat} {l : Ln} (hk : k ≤ 7) (h : LnK N k l) : LnK N 7 l := by
  have : ∀ j, k + j ≤ 7 → LnK N (k + j) l := fun j => by
    induction j with
    | zero => exact fun _ => h
    | succ j ih => exact fun z => LnK.up (k := k + j) (by omega) (ih (by omega))
  have := this (7 - k) (by omega)
  rwa [show k + (7 - k) = 7 by omega] at this
def pLines : Pre := fun ss u post => ∃ (ns : List Int) (fi m : Int) (xs : List (List Pt)) (s0 s1 s2 : Int), ss = [.d (.list (ns.map .int)), .d (.int fi), .d (.int m), .d (.tuple (xs.map axD)), .d (szD s0 s1 s2)] ∧ u = [] ∧ (0 ≤ fi ∧ 0 ≤ m ∧ m ≤ 8) ∧ (0 < s0 ∧ 0 ≤ s1) ∧ (xs.length ≤ 10 ∧ ∀ x ∈ xs, x.length ≤ 2 ∧ ∀ q ∈ x, q.CDp 4 ∧ q.Ind) ∧ post = pD fun d => ∃ ls : List Ln, d = .tuple (ls.map Ln.D) ∧ ls.length ≤ 8 ∧ ∀ l ∈ ls, LnK 200 7 l
theorem c_law_lines {f : Addr} {fd : FuncData} (D : Df K mg "_law_lines" s_law_lines f fd ["script", "first", "many", "axioms", "sizes"]) (c_law_box : Cl P w K mg base 2 "_law_box" (spG K pBox)) (c_law_line : Cl P w K mg base 7 "_law_line" (spG K (pLine 200))) (c_law_spoilt : Cl P w K mg base 7 "_law_spoilt" (spG K (pSpoilt 200))) (z_range : mg "range" = none) (z_tuple : mg "tuple" = none) : Cl P w K mg base 8 "_law_lines" (spG K pLines) := by
  refine Pf.Gate.out ?_
  simp (disch := (with_unfolding_all (
      refine D.go sc_law_lines (pLines) (fun ss u post h => by repeat (first | (obtain ⟨rfl, _⟩ := h; rfl) | obtain ⟨_, h⟩ := h)) fun cdv A outer s H M vs Q E ss u post hr hp S hq => ?_
      obtain ⟨ns, fi, m, xs, s0, s1, s2, rfl, rfl, ⟨hf, hm0, hm8⟩, ⟨hs0, hs1⟩, ⟨hxl, hx⟩, rfl⟩ := hp
      refine ⟨_, (pss_cons (ps_set (i := 5) sc_law_lines.nd rfl (.inl rfl) (pe_lst pa_nil))
          (pss_cons (ps_for PassesOwn.never rfl (pi_range1 (by rfl) z_range (pa_cons (pv 2) pa_nil)) (pg_name (i := 6) sc_law_lines.nd rfl (.inl rfl)) (pss_cons (ps_set (i := 7) sc_law_lines.nd rfl (.inl rfl) (pc c_law_box hr (by first | decide | omega) (by rfl) (pa_cons (pv 0) (pa_cons (pe_op op_add (pv 1) (pv 6)) pa_nil))))
          (pss_one (ps_expr (kBM (K := K) (pe_bm PySem.F.plainAttrs_list PySem.F.slot_list_append PySem.F.type_list_append mt_append (pv 5) (pa_cons (pc c_law_spoilt hr (by first | decide | omega) (by rfl) (pa_cons (pv 7) (pa_cons (pc c_law_line hr (by first | decide | omega) (by rfl) (pa_cons (pv 7) (pa_cons (pv 3) (pa_cons (pv 4) (pa_cons (pv 5) pa_nil))))) (pa_cons (pv 4) pa_nil)))) pa_nil)))))))
          (pss_one (ps_ret (pe_callTy (call_tupD (K := K)) (by rfl) z_tuple (by decide +kernel) (pa_cons (pv 5) pa_nil)))))), ?_⟩
      walk_at "in"
      walk_at "dl"
      rename Addr => a
      refine x_forR (fun j ρ u => ρ = [.d (.list (ns.map .int)), .d (.int fi), .d (.int m), .d (.tuple (xs.map axD)), .d (szD s0 s1 s2), .v (.ref a), .u, .u] ∧ ∃ ls : List Ln, u = [(a, .lst (ls.map Ln.D))] ∧ ls.length = j ∧ ∀ l ∈ ls, LnK 200 (j - 1) l) (by assumption) (by omega) (by omega) ⟨rfl, [], rfl, rfl, fun _ h => nomatch h⟩ ?_ ?_
      · rintro j ρ1 u1 hj ⟨rfl, ls, rfl, hl, hls⟩ σ1 H1 M1 S1
        have hj5 : j ≤ 7 := by omega
        have hz : (ls.map Ln.D).length < sizeLine := by rw [List.length_map]; exact Nat.lt_of_lt_of_le (by omega : _ < 600) (by decide)
        walk_at "dl"
        refine x_cO (by assumption) (by walk_at "slt") ⟨ns, fi + j, rfl, rfl, by omega, rfl⟩ ?_
        rintro _ rfl b H_ M_ S_
        walk_at "dl"
        have hsp := b_sp j hj5
        have hln : (ls ≠ [] → ((3 ≤ bR (j - 1) ∧ bR (j - 1) ≤ 400) ∧ (bG (j - 1) + 1 < 200 ∧ 1 ≤ bG (j - 1) ∧ bG (j - 1) ≤ 200 ∧ bT (j - 1) ≤ bG (j - 1)) ∧ 8 ≤ bW (j - 1) ∧ bW (j - 1) + 2 ≤ 10000) ∧ 2 * bR (j - 1) - 1 ≤ bR j - 1 ∧ bG (j - 1) + bR (j - 1) - 1 ≤ bG j - 1 ∧ bG (j - 1) + 1 ≤ bT j - 1 ∧ 2 * bW (j - 1) ≤ bW j - 9) := fun hne => by
          obtain ⟨i, rfl⟩ : ∃ i, j = i + 1 := ⟨j - 1, by have := List.length_pos_iff.mpr hne; omega⟩
          rw [Nat.add_sub_cancel]
          refine ⟨(b_ok i (by omega)).1, ?_⟩
          show 2 * bR i - 1 ≤ 2 * bR i - 1 ∧ bG i + bR i - 1 ≤ bG i + bR i - 1 ∧ bG i + 1 ≤ bG i + 2 - 1 ∧ 2 * bW i ≤ 2 * bW i + 9 - 9
          omega
        refine x_cW [] [(b, .box), (a, .lst (ls.map Ln.D))] [] (by assumption) rfl (by walk_at "slt") ⟨bR (j - 1), bG (j - 1), bT (j - 1), bW (j - 1), bR j - 1, bG j - 1, bT j - 1, bW j - 9, b, a, xs, s0, s1, s2, ls, rfl, rfl, ⟨hln, by omega, by omega, by omega, by omega⟩, ⟨hs0, hs1⟩, ⟨hxl, hx⟩, by omega, hls, rfl⟩ ?_
        rintro _ _ ⟨rfl, l, rfl, hlb⟩ H_ M_ S_
        simp only [List.append_nil, List.cons_append, List.nil_append] at S_
        walk_at "dl"
        refine x_c1 0 (by assumption) rfl (by walk_at "slt") ⟨bR j - 1, bG j - 1, bT j - 1, bW j - 9, b, l, s0, s1, s2, rfl, rfl, ⟨by omega, by omega, by omega⟩, ⟨hs0, hs1⟩, hlb, rfl⟩ ?_
        rintro _ _ ⟨rfl, l2, rfl, hl2⟩ H_ M_ w_ hw S_
        cases hw
        walk_at "dl"
        have hl2 : LnK 200 j l2 := hl2.weak (by omega) (by omega) (by omega) (by omega)
        refine x_appK 1 (by assumption) rfl (e := l2.D) (by walk_at "tm") hz (by walk_at "set") fun H_ S_ => ?_
        walk_at "dl"
        rename Ds _ _ _ _ _ _ _ _ _ => S_
        refine Nx.at (S_.subw (.cons _ (.refl _))) (by walk_at "le") ⟨rfl, ls ++ [l2], by rw [List.map_append]; rfl, by rw [List.length_append]; show ls.length + 1 = _; omega, fun x hx => ?_⟩
        rcases List.mem_append.mp hx with hx | hx
        · have := hls x hx
          cases j with
          | zero =>
            cases List.length_eq_zero_iff.mp hl
            exact nomatch hx
          | succ i => exact LnK.up (by omega) this
        · rw [List.mem_singleton.mp hx]
          exact hl2
      · rintro ρ1 u1 ⟨rfl, ls, rfl, hl, hls⟩ σ1 H1 M1 S1
        walk_at "dl"
        exact x_rD (by assumption) hq (by walk_at "tm") ⟨ls, rfl, by omega, fun l h => LnK.to7 (by omega) (hls l h)⟩
    ))) only [↓Pf.Gate.lem]
end
/-! right lines hold in models -/
def Thg (th : List (List Int)) (x : Int) : Prop := 0 ≤ x ∧ x < th.length
structure SatL (th : List (List Int)) (lk : List Lk) (os : List Int) (sh : ShR) (rs : List (Int × Cp)) (g : Int → Int) : Prop where
  ran : ∀ p, Thg th (g p)
  row : ∀ r ∈ rs, sat th lk r.2 (g r.1) = true
  shp : match sh with
    | .thing => True
    | .family => ∀ a : Int, 0 ≤ a → a < os.length → g a = oneAt os a
    | .pair r b => lnk lk r b (g 0) (g 1) = true
def Sats (th : List (List Int)) (lk : List Lk) (os : List Int) (l : Ln) : Prop := ∃ g, SatL th lk os l.sh l.rs g
theorem known_sound {th : List (List Int)} {lk : List Lk} {x : Int} : ∀ (c : Cp) (h : Bool), sat th lk c x = h → ∀ f ∈ c.known h, sat th lk f.1 x = f.2
  | .any, h, e, f, hf => by rw [List.mem_singleton.mp hf]; exact e
  | .name n, h, e, f, hf => by rw [List.mem_singleton.mp hf]; exact e
  | .some r b c, h, e, f, hf => by rw [List.mem_singleton.mp hf]; exact e
  | .not c, h, e, f, hf => by
    rcases List.mem_cons.mp hf with rfl | hf
    · exact e
    · refine known_sound c (!h) ?_ f hf
      have e : (!sat th lk c x) = h := e
      rw [← e, Bool.not_not]
  | .both c d, h, e, f, hf => by
    rcases List.mem_cons.mp hf with rfl | hf
    · exact e
    · cases h with
      | false => exact nomatch (show f ∈ ([] : List (Cp × Bool)) from hf)
      | true =>
        have e : (sat th lk c x && sat th lk d x) = true := e
        rw [Bool.and_eq_true] at e
        rcases List.mem_append.mp (show f ∈ c.known true ++ d.known true from hf) with hf | hf
        · exact known_sound c true e.1 f hf
        · exact known_sound d true e.2 f hf
theorem sure_sound {th : List (List Int)} {lk : List Lk} {x : Int} {F : Cp → Bool → Bool} (hF : ∀ d k, F d k = true → sat th lk d x = k) : ∀ (c : Cp) (h : Bool), c.sure F h = true → sat th lk c x = h
  | .any, h, e => by
    rcases Bool.or_eq_true_iff.mp (show (F .any h || h) = true from e) with e | e
    · exact hF _ _ e
    · rw [e]; rfl
  | .name n, h, e => hF _ _ e
  | .some r b c, h, e => hF _ _ e
  | .not c, h, e => by
    rcases Bool.or_eq_true_iff.mp (show (F (.not c) h || c.sure F (!h)) = true from e) with e | e
    · exact hF _ _ e
    · have := sure_sound hF c (!h) e
      show (!sat th lk c x) = h
      rw [this, Bool.not_not]
  | .both c d, h, e => by
    rcases Bool.or_eq_true_iff.mp (show (F (.both c d) h || if h = true then c.sure F true && d.sure F true else c.sure F false || d.sure F false) = true from e) with e | e
    · exact hF _ _ e
    · show (sat th lk c x && sat th lk d x) = h
      cases h with
      | true =>
        have e : (c.sure F true && d.sure F true) = true := e
        rw [Bool.and_eq_true] at e
        rw [sure_sound hF c true e.1, sure_sound hF d true e.2]
        rfl
      | false =>
        rcases Bool.or_eq_true_iff.mp (show (c.sure F false || d.sure F false) = true from e) with e | e
        · rw [sure_sound hF c false e]; rfl
        · rw [sure_sound hF d false e, Bool.and_false]
theorem cert_sound {th : List (List Int)} {lk : List Lk} {rs : List (Int × Cp)} {g : Int → Int} (hr : ∀ r ∈ rs, sat th lk r.2 (g r.1) = true) {p : Int} {c : Cp} {h : Bool} (e : cert rs p c h = true) : sat th lk c (g p) = h := by
  refine sure_sound (F := inF (factsOf rs p)) (fun d k hk => ?_) c h e
  have hm : (d, k) ∈ factsOf rs p := memD_t.mp hk
  obtain ⟨r, hr', hf⟩ := List.mem_flatMap.mp hm
  obtain ⟨h1, h2⟩ := List.mem_filter.mp hr'
  have h2 := of_decide_eq_true h2
  have := hr r h1
  rw [h2] at this
  exact known_sound r.2 true this (d, k) hf
theorem certs_sound {th : List (List Int)} {lk : List Lk} {rs ks : List (Int × Cp)} {g : Int → Int} (hr : ∀ r ∈ rs, sat th lk r.2 (g r.1) = true) (e : certs rs ks = true) : ∀ k ∈ ks, sat th lk k.2 (g k.1) = true := fun k hk =>
  cert_sound hr (List.all_eq_true.mp e k hk)
theorem lnk_turn {lk : List Lk} {r : Int} {b : Bool} {i j : Int} : lnk lk r (!b) i j = lnk lk r b j i := by
  cases b <;> rfl
theorem some_true {th : List (List Int)} {lk : List Lk} {r : Int} {b : Bool} {c : Cp} {i j : Int} (h : Thg th j) (h1 : lnk lk r b i j = true) (h2 : sat th lk c j = true) : sat th lk (.some r b c) i = true :=
  List.any_eq_true.mpr ⟨j, rng_mem.mpr h, by rw [h1, h2]; rfl⟩
theorem against_sound {th : List (List Int)} {lk : List Lk} {rs : List (Int × Cp)} {g : Int → Int} (hg : ∀ p, Thg th (g p)) (hr : ∀ r ∈ rs, sat th lk r.2 (g r.1) = true) {q : Ro} {bk : Bool} {c : Cp} {i j : Int} (e : against rs q bk c i j = true) (hl : lnk lk q.1 q.2 (g i) (g j) = true) : False := by
  refine Pf.Gate.out ?_
  simp (disch := (with_unfolding_all (
      unfold against at e
      cases bk with
      | true =>
        rw [if_pos rfl, Bool.and_eq_true] at e
        have h1 := cert_sound hr e.1
        rw [some_true (hg i) (by rw [lnk_turn]; exact hl) (cert_sound hr e.2)] at h1
        cases h1
      | false =>
        rw [if_neg (by decide), Bool.and_eq_true] at e
        have h1 := cert_sound hr e.1
        rw [some_true (hg j) hl (cert_sound hr e.2)] at h1
        cases h1
    ))) only [↓Pf.Gate.lem]
/-- the parts of the axioms of a set hold -/
def AxHold (th : List (List Int)) (lk : List Lk) (os : List Int) (xs : List (List Pt)) (ms : List Int) : Prop := ∀ a m p, partOf xs ms a m = some p → faultOf th lk os p = none
theorem kind_part {xs : List (List Pt)} {ms : List Int} {a m : Int} {kd : String} {p : Pt} (h : kindOf kd (partOf xs ms a m) = some p) : partOf xs ms a m = some p := (Option.filter_eq_some_iff.mp h).1
theorem below_hold {th : List (List Int)} {lk : List Lk} {os : List Int} {c d : Cp} (h : faultOf th lk os (.below c d) = none) {i : Int} (hi : Thg th i) (hc : sat th lk c i = true) : sat th lk d i = true := by
  have h : ((insOf th lk c).filter (sat th lk (.not d))).head?.map (fun i => [i]) = none := h
  rw [Option.map_eq_none_iff, List.head?_eq_none_iff, List.filter_eq_nil_iff] at h
  have := h i (mem_insOf.mpr ⟨hi, hc⟩)
  cases e : sat th lk d i with
  | true => rfl
  | false => exact absurd (show (!sat th lk d i) = true by rw [e]; rfl) this
theorem under_hold {th : List (List Int)} {lk : List Lk} {os : List Int} {r s : Int} {b b' : Bool} (h : faultOf th lk os (.under r b s b') = none) {i j : Int} (hl : lnk lk r b i j = true) : lnk lk s b' i j = true := by
  have h : ((pairsOf lk r b).filter fun p => !lnk lk s b' p.1 p.2).head?.map (fun p => [p.1, p.2]) = none := h
  rw [Option.map_eq_none_iff, List.head?_eq_none_iff, List.filter_eq_nil_iff] at h
  have := h (i, j) (pairs_mem.mpr hl)
  cases e : lnk lk s b' i j with
  | true => rfl
  | false => exact absurd (show (!lnk lk s b' i j) = true by rw [e]; rfl) this
theorem led_sound {th : List (List Int)} {lk : List Lk} {os : List Int} {xs : List (List Pt)} {ms : List Int} (ha : AxHold th lk os xs ms) : ∀ {st : List Stp} {r q : Ro}, led xs ms r st = some q → ∀ i j : Int, lnk lk r.1 r.2 i j = true → lnk lk q.1 q.2 i j = true
  | [], r, q, h, i, j, hl => by cases h; exact hl
  | s :: st, r, q, h, i, j, hl => by
    have h : (ledStep xs ms r s).bind (fun q => led xs ms q st) = some q := h
    cases e : ledStep xs ms r s with
    | none => rw [e] at h; cases h
    | some r2 =>
      rw [e] at h
      have h : led xs ms r2 st = some q := h
      refine led_sound ha h i j ?_
      unfold ledStep at e
      cases hk : kindOf "under" (partOf xs ms s.1 s.2.1) with
      | none => rw [hk] at e; cases e
      | some p =>
        rw [hk] at e
        cases p with
        | under l b u b' =>
          have e : (if r = Ro.tn s.2.2 (l, b) then some (Ro.tn s.2.2 (u, b')) else none) = some r2 := e
          split at e
          · rename_i hr
            cases e
            have hp := ha _ _ _ (kind_part hk)
            rw [hr] at hl
            cases ht : s.2.2 with
            | true =>
              rw [ht] at hl
              have hl : lnk lk l (!b) i j = true := hl
              show lnk lk u (!b') i j = true
              rw [lnk_turn] at hl ⊢
              exact under_hold hp hl
            | false =>
              rw [ht] at hl
              exact under_hold hp hl
          · cases e
        | _ => cases e
theorem right_sound {th : List (List Int)} {lk : List Lk} {os : List Int} {xs : List (List Pt)} {ms : List Int} (ha : AxHold th lk os xs ms) (hi : ∀ a m p, partOf xs ms a m = some p → p.In 1000 os.length ∨ p = .never) {bs : List Ln} {l : Ln} (hb : ∀ k ∈ bs, ¬ Sats th lk os k) (h : rightB xs ms bs l = true) : ¬ Sats th lk os l := by
  refine Pf.Gate.out ?_
  simp (disch := (with_unfolding_all (
      obtain ⟨sh, rs, why⟩ := l
      rintro ⟨g, hran, hrow, hshp⟩
      have hran : ∀ p, Thg th (g p) := hran
      have hrow : ∀ r ∈ rs, sat th lk r.2 (g r.1) = true := hrow
      cases why with
      | clash p c =>
        have h : (cert rs p c true && cert rs p c false) = true := h
        rw [Bool.and_eq_true] at h
        have h1 := cert_sound hrow h.1
        rw [cert_sound hrow h.2] at h1
        cases h1
      | axm p a m =>
        have h : (match kindOf "below" (partOf xs ms a m) with
          | some (.below c d) => cert rs p c true && cert rs p d false
          | _ => false) = true := h
        cases hk : kindOf "below" (partOf xs ms a m) with
        | none => rw [hk] at h; cases h
        | some q =>
          rw [hk] at h
          cases q with
          | below c d =>
            have h : (cert rs p c true && cert rs p d false) = true := h
            rw [Bool.and_eq_true] at h
            have h1 := below_hold (ha _ _ _ (kind_part hk)) (hran p) (cert_sound hrow h.1)
            rw [cert_sound hrow h.2] at h1
            cases h1
          | _ => cases h
      | line p m =>
        have h : (match lnAt bs m with
          | some k => decide (k.sh = .thing) && certs rs (mv k.rs p)
          | none => false) = true := h
        cases hk : lnAt bs m with
        | none => rw [hk] at h; cases h
        | some k =>
          rw [hk] at h
          have h : (decide (k.sh = .thing) && certs rs (mv k.rs p)) = true := h
          rw [Bool.and_eq_true, decide_eq_true_iff] at h
          refine hb k (List.mem_of_getElem? hk) ⟨fun _ => g p, fun _ => hran p, fun r hr => ?_, by rw [h.1]; trivial⟩
          exact certs_sound hrow h.2 (p, r.2) (List.mem_map.mpr ⟨r, hr, rfl⟩)
      | split p c a b =>
        have h : (match lnAt bs a, lnAt bs b with
          | some x, some y => (decide (x.sh = sh) && decide (y.sh = sh)) && (certs (rs ++ [(p, c)]) x.rs && certs (rs ++ [(p, .not c)]) y.rs)
          | _, _ => false) = true := h
        cases hka : lnAt bs a with
        | none => rw [hka] at h; cases h
        | some x =>
          cases hkb : lnAt bs b with
          | none => rw [hka, hkb] at h; cases h
          | some y =>
            rw [hka, hkb] at h
            have h : ((decide (x.sh = sh) && decide (y.sh = sh)) && (certs (rs ++ [(p, c)]) x.rs && certs (rs ++ [(p, .not c)]) y.rs)) = true := h
            rw [Bool.and_eq_true, Bool.and_eq_true, Bool.and_eq_true, decide_eq_true_iff, decide_eq_true_iff] at h
            obtain ⟨⟨hx, hy⟩, h1, h2⟩ := h
            cases hc : sat th lk c (g p) with
            | true =>
              exact hb x (List.mem_of_getElem? hka) ⟨g, hran, certs_sound (fun r hr => (List.mem_append.mp hr).elim (hrow r) fun z => by rw [List.mem_singleton.mp z]; exact hc) h1, by rw [hx]; exact hshp⟩
            | false =>
              exact hb y (List.mem_of_getElem? hkb) ⟨g, hran, certs_sound (fun r hr => (List.mem_append.mp hr).elim (hrow r) fun z => by rw [List.mem_singleton.mp z]; show (!sat th lk c (g p)) = true; rw [hc]; rfl) h2, by rw [hy]; exact hshp⟩
      | need p r b c m =>
        have h : (match lnAt bs m with
          | some k => (decide (k.sh = .pair r b) && cert rs p (.some r b c) true) && (certs rs (hereOf p k.rs) && certs [(1, c)] (behindOf k.rs))
          | none => false) = true := h
        cases hk : lnAt bs m with
        | none => rw [hk] at h; cases h
        | some k =>
          rw [hk] at h
          have h : ((decide (k.sh = .pair r b) && cert rs p (.some r b c) true) && (certs rs (hereOf p k.rs) && certs [(1, c)] (behindOf k.rs))) = true := h
          rw [Bool.and_eq_true, Bool.and_eq_true, Bool.and_eq_true, decide_eq_true_iff] at h
          obtain ⟨⟨hs, h1⟩, h2, h3⟩ := h
          obtain ⟨j, hj, h4⟩ := List.any_eq_true.mp (show (rng th.length).any (fun j => lnk lk r b (g p) j && sat th lk c j) = true from cert_sound hrow h1)
          rw [Bool.and_eq_true] at h4
          refine hb k (List.mem_of_getElem? hk) ⟨fun z => if z = 0 then g p else j, fun z => ?_, fun x hx => ?_, ?_⟩
          · show Thg th (if z = 0 then g p else j)
            split
            · exact hran p
            · exact rng_mem.mp hj
          · show sat th lk x.2 (if x.1 = 0 then g p else j) = true
            by_cases hx0 : x.1 = 0
            · rw [if_pos hx0]
              exact certs_sound hrow h2 (p, x.2) (List.mem_map.mpr ⟨x, List.mem_filter.mpr ⟨hx, decide_eq_true hx0⟩, rfl⟩)
            · rw [if_neg hx0]
              exact certs_sound (g := fun _ => j) (fun y hy => by rw [List.mem_singleton.mp hy]; exact h4.2) h3 (1, x.2) (List.mem_map.mpr ⟨x, List.mem_filter.mpr ⟨hx, by rw [decide_eq_false hx0]; rfl⟩, rfl⟩)
          · rw [hs]
            show lnk lk r b (if (0 : Int) = 0 then g p else j) (if (1 : Int) = 0 then g p else j) = true
            rw [if_pos rfl, if_neg (by decide)]
            exact h4.1
      | role st bk c =>
        cases sh with
        | thing => cases h
        | family => cases h
        | pair r b =>
          have h : (match led xs ms (r, b) st with
            | some q => against rs q bk c 0 1
            | none => false) = true := h
          cases hl : led xs ms (r, b) st with
          | none => rw [hl] at h; cases h
          | some q =>
            rw [hl] at h
            exact against_sound hran hrow h (led_sound ha hl _ _ hshp)
      | mem a m =>
        have h : (decide (sh = .family) && match kindOf "is" (partOf xs ms a m) with
          | some (.is o c) => cert rs o c false
          | _ => false) = true := h
        rw [Bool.and_eq_true, decide_eq_true_iff] at h
        obtain ⟨rfl, h5⟩ := h
        cases hk : kindOf "is" (partOf xs ms a m) with
        | none => rw [hk] at h5; cases h5
        | some q =>
          rw [hk] at h5
          cases q with
          | is o c =>
            have hp := ha _ _ _ (kind_part hk)
            have hin := (hi _ _ _ (kind_part hk)).resolve_right (fun z => nomatch z)
            have hp : (if sat th lk c (oneAt os o) = true then none else some [oneAt os o]) = none := hp
            have h1 := cert_sound hrow h5
            rw [(hshp : ∀ a : Int, 0 ≤ a → a < os.length → g a = oneAt os a) o hin.1.1 hin.1.2] at h1
            rw [h1] at hp
            cases hp
          | _ => cases h5
      | link a m st bk c =>
        have h : (decide (sh = .family) && match kindOf "has" (partOf xs ms a m) with
          | some (.has o k o2) => match led xs ms (k, false) st with
            | some q => against rs q bk c o o2
            | none => false
          | _ => false) = true := h
        rw [Bool.and_eq_true, decide_eq_true_iff] at h
        obtain ⟨rfl, h5⟩ := h
        cases hk : kindOf "has" (partOf xs ms a m) with
        | none => rw [hk] at h5; cases h5
        | some q =>
          rw [hk] at h5
          cases q with
          | has o k o2 =>
            have hp := ha _ _ _ (kind_part hk)
            have hin := (hi _ _ _ (kind_part hk)).resolve_right (fun z => nomatch z)
            have hp : (if lnk lk k false (oneAt os o) (oneAt os o2) = true then none else some [oneAt os o, oneAt os o2]) = none := hp
            have h6 : (match led xs ms (k, false) st with
              | some q => against rs q bk c o o2
              | none => false) = true := h5
            cases hl : led xs ms (k, false) st with
            | none => rw [hl] at h6; cases h6
            | some q =>
              rw [hl] at h6
              have hsh := (hshp : ∀ a : Int, 0 ≤ a → a < os.length → g a = oneAt os a)
              refine against_sound hran hrow h6 (led_sound ha hl _ _ ?_)
              rw [hsh o hin.1.1 hin.1.2, hsh o2 hin.2.1 hin.2.2]
              split at hp
              · assumption
              · cases hp
          | _ => cases h5
    ))) only [↓Pf.Gate.lem]
section
variable {P : Program} {w : World} {K : PySem.W.Frag} {mg : Str → Option Value} {base : Heap}
def holdsB (th : List (List Int)) (lk : List Lk) (os : List Int) (x : List Pt) : Bool := x.all fun p => (faultOf th lk os p).isNone
def pHoldsIn (n : Nat) : Pre := fun ss u post => ∃ (th : List (List Int)) (lk : List Lk) (os : List Int) (x : List Pt), ss = [.d (modD th lk os), .d (axD x)] ∧ u = [] ∧ (∀ p ∈ x, p.In n os.length) ∧ x.length ≤ 2 ∧ (th.length ≤ 1000 ∧ LkOk th.length lk) ∧ (∀ o ∈ os, 0 ≤ o ∧ o < th.length) ∧ post = pD fun d => d = .bool (holdsB th lk os x)
theorem c_law_holds_in {n : Nat} {f : Addr} {fd : FuncData} (D : Df K mg "_law_holds_in" s_law_holds_in f fd ["model", "axiom"]) (c_law_fault : Cl P w K mg base (n + 3) "_law_fault" (spG K (pLawFault n))) (z_all : mg "all" = none) : Cl P w K mg base (n + 4) "_law_holds_in" (spG K (pHoldsIn n)) := by
  refine Pf.Gate.out ?_
  simp (disch := (with_unfolding_all (
      refine D.go sc_law_holds_in (pHoldsIn n) (fun ss u post h => by repeat (first | (obtain ⟨rfl, _⟩ := h; rfl) | obtain ⟨_, h⟩ := h)) fun cdv A outer s H M vs Q E ss u post hr hp S hq => ?_
      obtain ⟨th, lk, os, x, rfl, rfl, hx, hxl, hth, hos, rfl⟩ := hp
      refine ⟨_, (pss_one (ps_ret (pe_callB (kAll (K := K) rfl) (by rfl) z_all (by decide +kernel) (pa_cons (pe_lc (own := [("part", 2)]) (g := gName 2) (tt := tYes) (by rfl) sc_law_holds_in.nd (kIT (K := K) (pi_tup (pv 1))) (blkOk_by (own := [("part", 2)]) (N := ["model", "axiom", "part"]) (sc := defScope s_law_holds_in) (by decide +kernel)) (fun _ _ _ _ _ => pg_name (i := 2) sc_law_holds_in.nd rfl (.inl rfl)) (fun _ _ _ _ _ => pts_nil) (fun _ _ _ _ _ => (pe_cmpR op_isNo (pc c_law_fault hr (by first | decide | omega) (by rfl) (pa_cons (pv 0) (pa_cons (pv 2) pa_nil))) pe_non (nomark _)))) pa_nil)))), ?_⟩
      walk_at "in"
      walk_at "dl"
      refine x_lc1T (fun j acc u => acc = ((x.take j).map fun p => (faultOf th lk os p).isNone).map .bool ∧ u = []) (by assumption) (by walk_at "tm") ⟨rfl, rfl⟩ ?_ ?_
      · rintro j d acc w1 hj ⟨rfl, rfl⟩ D4 σ4 H4 M4 hrw S4
        obtain ⟨p, hp', rfl⟩ := map_at hj
        have hz : (((x.take j).map fun p => (faultOf th lk os p).isNone).map PyData.bool).length < sizeLine := by rw [List.length_map, List.length_map, List.length_take]; exact Nat.lt_of_lt_of_le (by omega : _ < 60) (by decide)
        rename Ds _ _ _ _ _ _ _ _ _ => S_
        simp only [List.set_cons_succ, List.set_cons_zero] at S_
        walk_at "dl"
        refine x_cD (by assumption) (by walk_at "slt") ⟨th, lk, os, p, rfl, rfl, hx p (List.mem_of_getElem? hp'), hth, hos, rfl⟩ ?_
        rintro _ rfl H_ M_ S_
        walk_at "dl"
        rw [isNo_opt]
        exact x_lcA (by assumption) (by assumption) (by walk_at "tm") hz ⟨by rw [take_snoc hp', List.map_append, List.map_append]; rfl, rfl⟩
      rintro acc w1 ⟨rfl, rfl⟩ x_ H4 M4 S4
      rw [show (x.map Pt.D).length = x.length from List.length_map .., take_all] at S4
      walk_at "dl"
      refine x_allO 0 (bs := x.map fun p => (faultOf th lk os p).isNone) (by assumption) rfl ?_
      exact x_rD (by assumption) hq (by walk_at "tm") (by rw [List.all_map]; rfl)
    ))) only [↓Pf.Gate.lem]
def tOf (th : List (List Int)) (lk : List Lk) (rs : List (Int × Cp)) (p : Int) : List Int := (rng th.length).filter fun i => rs.all fun r => !decide (r.1 = p) || sat th lk r.2 i
theorem tOf_mem {th : List (List Int)} {lk : List Lk} {rs : List (Int × Cp)} {p x : Int} : x ∈ tOf th lk rs p ↔ Thg th x ∧ ∀ r ∈ rs, r.1 = p → sat th lk r.2 x = true := by
  unfold tOf
  rw [List.mem_filter, rng_mem, List.all_eq_true]
  refine and_congr Iff.rfl ⟨fun h r hr e => ?_, fun h r hr => ?_⟩
  · have := h r hr
    rw [decide_eq_true e] at this
    exact this
  · by_cases e : r.1 = p
    · rw [h r hr e, Bool.or_true]
    · rw [decide_eq_false e]; rfl
theorem tOf_snoc {th : List (List Int)} {lk : List Lk} {rs : List (Int × Cp)} {r : Int × Cp} {p : Int} : tOf th lk (rs ++ [r]) p = if r.1 = p then (tOf th lk rs p).filter fun i => decide (i ∈ insOf th lk r.2) else tOf th lk rs p := by
  unfold tOf
  split
  · rename_i h
    rw [List.filter_filter]
    refine List.filter_congr fun i hi => ?_
    rw [List.all_append, List.all_cons, List.all_nil, Bool.and_true, decide_eq_true h, Bool.not_true, Bool.false_or, Bool.and_comm]
    congr 1
    exact ins_dec (rng_mem.mp hi).1 (rng_mem.mp hi).2
  · rename_i h
    refine List.filter_congr fun i hi => ?_
    rw [List.all_append, List.all_cons, List.all_nil, Bool.and_true, decide_eq_false h, Bool.not_false, Bool.true_or, Bool.and_true]
theorem tOf_nil {th : List (List Int)} {lk : List Lk} {p : Int} : tOf th lk [] p = rng th.length := List.filter_eq_self.mpr fun _ _ => rfl
theorem sats_of {th : List (List Int)} {lk : List Lk} {os : List Int} {l : Ln} {f : Int → Int} (h1 : 1 ≤ th.length) (hp : ∀ r ∈ l.rs, 0 ≤ r.1 ∧ r.1 < 64) (hf : ∀ p, 0 ≤ p → p < 64 → f p ∈ tOf th lk l.rs p) (hs : match l.sh with
    | .thing => True
    | .family => ∀ a : Int, 0 ≤ a → a < os.length → f a = oneAt os a
    | .pair r b => lnk lk r b (f 0) (f 1) = true) (ho : os.length ≤ 64) : Sats th lk os l := by
  have e : ∀ p : Int, 0 ≤ p → p < 64 → (if 0 ≤ p ∧ p < 64 then f p else 0) = f p := fun p h h' => if_pos ⟨h, h'⟩
  refine ⟨fun p => if 0 ≤ p ∧ p < 64 then f p else 0, fun p => ?_, fun r hr => ?_, ?_⟩
  · show Thg th (if 0 ≤ p ∧ p < 64 then f p else 0)
    split
    · rename_i h
      exact (tOf_mem.mp (hf p h.1 h.2)).1
    · exact ⟨Int.le_refl _, by omega⟩
  · have := hp r hr
    show sat th lk r.2 (if 0 ≤ r.1 ∧ r.1 < 64 then f r.1 else 0) = true
    rw [e _ this.1 this.2]
    exact (tOf_mem.mp (hf r.1 this.1 this.2)).2 r hr rfl
  · obtain ⟨sh, rs, why⟩ := l
    cases sh with
    | thing => trivial
    | family =>
      intro a h0 h2
      show (if 0 ≤ a ∧ a < 64 then f a else 0) = _
      rw [e a h0 (by omega)]
      exact hs a h0 h2
    | pair r b =>
      show lnk lk r b (if (0 : Int) ≤ 0 ∧ (0 : Int) < 64 then f 0 else 0) (if (0 : Int) ≤ 1 ∧ (1 : Int) < 64 then f 1 else 0) = true
      rw [e 0 (by decide) (by decide), e 1 (by decide) (by decide)]
      exact hs
abbrev lsD : List Int → PyData := fun l => .list (l.map .int)
def RowsR (th : List (List Int)) (lk : List Lk) (os : List Int) (rs : List (Int × Cp)) (k : Nat) (Rs : List (List Int)) : Prop := Rs.length = 64 ∧ ∀ (p : Nat) (l : List Int), Rs[p]? = some l → (∀ x ∈ l, x ∈ tOf th lk rs p) ∧ (p < k → l = [oneAt os p]) ∧ l.length ≤ 1000
def hdOf (Rs : List (List Int)) (p : Int) : Int := (Rs.getD p.toNat []).headD 0
theorem rows_pick {th : List (List Int)} {lk : List Lk} {os : List Int} {rs : List (Int × Cp)} {k : Nat} {Rs : List (List Int)} (h : RowsR th lk os rs k Rs) (ha : ∀ l ∈ Rs, l ≠ []) (p : Int) (h0 : 0 ≤ p) (h1 : p < 64) : hdOf Rs p ∈ tOf th lk rs p ∧ (p.toNat < k → hdOf Rs p = oneAt os p) := by
  refine Pf.Gate.out ?_
  simp (disch := (with_unfolding_all (
      obtain ⟨j, rfl⟩ := Int.eq_ofNat_of_zero_le h0
      obtain ⟨l, hl⟩ : ∃ l, Rs[j]? = some l := ⟨_, List.getElem?_eq_getElem (by rw [h.1]; omega)⟩
      have e : hdOf Rs (j : Int) = l.headD 0 := by
        unfold hdOf
        rw [Int.toNat_natCast, List.getD_eq_getElem?_getD, hl]
        rfl
      obtain ⟨h2, h3, _⟩ := h.2 j l hl
      rw [e]
      cases l with
      | nil => exact absurd rfl (ha _ (List.mem_of_getElem? hl))
      | cons x l =>
        refine ⟨h2 x (List.mem_cons_self ..), fun z => ?_⟩
        rw [Int.toNat_natCast] at z
        have := h3 z
        cases this
        rfl
    ))) only [↓Pf.Gate.lem]
def pRefutes (n : Nat) : Pre := fun ss u post => ∃ (th : List (List Int)) (lk : List Lk) (os : List Int) (l : Ln), ss = [.d (modD th lk os), .d l.D, .d (.int (os.length : Nat))] ∧ u = [] ∧ (1 ≤ th.length ∧ th.length ≤ 1000) ∧ (os.length ≤ 60 ∧ ∀ o ∈ os, 0 ≤ o ∧ o < th.length) ∧ (l.rs.length ≤ 400 ∧ ∀ r ∈ l.rs, r.2.dp < n ∧ 0 ≤ r.1 ∧ r.1 < 64) ∧ post = pD fun d => ∃ b : Bool, d = .bool b ∧ (b = true → Sats th lk os l)
theorem c_law_refutes {n : Nat} {f : Addr} {fd : FuncData} (D : Df K mg "_law_refutes" s_law_refutes f fd ["model", "line", "ones"]) (c_law_inside : Cl P w K mg base (n + 2) "_law_inside" (spG K (pLawInside n))) (c_law_linked : Cl P w K mg base 1 "_law_linked" (spG K pLawLinked)) (z_len : mg "len" = none) (z_range : mg "range" = none) (z_list : mg "list" = none) (z_all : mg "all" = none) (z_any : mg "any" = none) : Cl P w K mg base (n + 3) "_law_refutes" (spG K (pRefutes n)) := by
  refine Pf.Gate.out ?_
  simp (disch := (with_unfolding_all (
      refine D.go sc_law_refutes (pRefutes n) (fun ss u post h => by repeat (first | (obtain ⟨rfl, _⟩ := h; rfl) | obtain ⟨_, h⟩ := h)) fun cdv A outer s H M vs Q E ss u post hr hp S hq => ?_
      obtain ⟨th, lk, os, l, rfl, rfl, ⟨ht1, ht2⟩, ⟨ho1, ho2⟩, ⟨hl1, hl2⟩, rfl⟩ := hp
      refine ⟨_, (pss_cons (ps_set (i := 3) sc_law_refutes.nd rfl (.inl rfl) (pe_callB (lenQ (K := K)) (by rfl) z_len PySem.boot_len (pa_cons (pe_ix (ixT (K := K)) (pv 0) pe_int (fun _ _ => rfl)) pa_nil)))
          (pss_cons (ps_set (i := 4) sc_law_refutes.nd rfl (.inl rfl) (pe_lst pa_nil))
          (pss_cons (ps_for PassesOwn.never rfl (pi_range1 (by rfl) z_range (pa_cons pe_int pa_nil)) (pg_name (i := 5) sc_law_refutes.nd rfl (.inl rfl)) (pss_cons (ps_set (i := 6) sc_law_refutes.nd rfl (.inl rfl) (pe_listRg rfl (by rfl) z_list (prg_1 (by rfl) z_range (pv 3))))
          (pss_cons (ps_for PassesOwn.never rfl (kIT (K := K) (pi_tup (pe_ix (ixT (K := K)) (pv 1) pe_int (fun _ _ => rfl)))) (pg_name (i := 7) sc_law_refutes.nd rfl (.inl rfl)) (pss_one (ps_if (pt_cmpR op_eq (pe_ix (ixT (K := K)) (pv 7) pe_int (fun _ _ => rfl)) (pv 5) (nomark _)) (pss_cons (ps_set (i := 8) sc_law_refutes.nd rfl (.inr rfl) (pc c_law_inside hr (by first | decide | omega) (by rfl) (pa_cons (pv 0) (pa_cons (pe_ix (ixT (K := K)) (pv 7) pe_int (fun _ _ => rfl)) pa_nil))))
          (pss_one (ps_setLc (i := 6) (own := [("thing", 11)]) (g := gName 11) (by rfl) sc_law_refutes.nd rfl rfl (sw_true rfl rfl rfl (by decide +kernel)) (kIL (K := K) (pi_list (pv 6))) (blkOk_by (own := [("thing", 11)]) (N := ["model", "line", "ones", "many", "rows", "place", "things", "row", "inner", "one", "first", "thing", "second"]) (sc := defScope s_law_refutes) (by decide +kernel)) (fun _ _ _ _ _ => pg_name (i := 11) sc_law_refutes.nd rfl (.inl rfl)) (fun _ _ _ _ _ => (pts_one (pt_cmpR (inD (K := K)) (pv 11) (pv 8) rfl))) (fun _ _ _ _ _ => (pv 11))))) pss_nil)))
          (pss_one (ps_expr (kBM (K := K) (pe_bm PySem.F.plainAttrs_list PySem.F.slot_list_append PySem.F.type_list_append mt_append (pv 4) (pa_cons (pv 6) pa_nil))))))))
          (Evl.pss_cut (ps_if (pt_cmpR (kEqD (K := K) hr.units) (pe_ix (ixT (K := K)) (pv 1) pe_int (fun _ _ => rfl)) (pe_tup (pa_cons pe_str pa_nil)) (nomark _)) (pss_one (ps_for PassesOwn.never rfl (pi_range1 (by rfl) z_range (pa_cons (pv 2) pa_nil)) (pg_name (i := 9) sc_law_refutes.nd rfl (.inl rfl)) (pss_cons (ps_if (pt_cmpR (notInD (K := K)) (pe_ix (ixT (K := K)) (pe_ix (ixT (K := K)) (pv 0) pe_int (fun _ _ => rfl)) (pv 9) (fun _ _ => rfl)) (pe_ix (ixL (K := K)) (pv 4) (pv 9) (fun _ _ => rfl)) rfl) (pss_one (ps_ret pe_bl)) pss_nil)
          (pss_one (ps_asg (pe_lst (pa_cons (pe_ix (ixT (K := K)) (pe_ix (ixT (K := K)) (pv 0) pe_int (fun _ _ => rfl)) (pv 9) (fun _ _ => rfl)) pa_nil)) (pg_sub (pv 4) (pv 9) set_list)))))) pss_nil)
          (pss_cons (ps_if (pt_not (pt_val (pe_callB (kAll (K := K) rfl) (by rfl) z_all (by decide +kernel) (pa_cons (pe_lc (own := [("row", 7)]) (g := gName 7) (tt := tYes) (by rfl) sc_law_refutes.nd (kIL (K := K) (pi_list (pv 4))) (blkOk_by (own := [("row", 7)]) (N := ["model", "line", "ones", "many", "rows", "place", "things", "row", "inner", "one", "first", "thing", "second"]) (sc := defScope s_law_refutes) (by decide +kernel)) (fun _ _ _ _ _ => pg_name (i := 7) sc_law_refutes.nd rfl (.inl rfl)) (fun _ _ _ _ _ => pts_nil) (fun _ _ _ _ _ => (pe_cmpR op_gt (pe_callB (lenQ (K := K)) (by rfl) z_len PySem.boot_len (pa_cons (pv 7) pa_nil)) pe_int (nomark _)))) pa_nil)))) (pss_one (ps_ret pe_bl)) pss_nil)
          (pss_cons (ps_if (pt_cmpR op_eq (pe_ix (ixT (K := K)) (pe_ix (ixT (K := K)) (pv 1) pe_int (fun _ _ => rfl)) pe_int (fun _ _ => rfl)) pe_str (nomark _)) (pss_cons (ps_for PassesOwn.never rfl (kIL (K := K) (pi_list (pe_ix (ixL (K := K)) (pv 4) pe_int (fun _ _ => rfl)))) (pg_name (i := 10) sc_law_refutes.nd rfl (.inr rfl)) (pss_one (ps_if (pt_val (pe_callB (kAny (K := K) rfl) (by rfl) z_any (by decide +kernel) (pa_cons (pe_lc (own := [("second", 12)]) (g := gName 12) (tt := tYes) (by rfl) sc_law_refutes.nd (kIL (K := K) (pi_list (pe_ix (ixL (K := K)) (pv 4) pe_int (fun _ _ => rfl)))) (blkOk_by (own := [("second", 12)]) (N := ["model", "line", "ones", "many", "rows", "place", "things", "row", "inner", "one", "first", "thing", "second"]) (sc := defScope s_law_refutes) (by decide +kernel)) (fun _ _ _ _ _ => pg_name (i := 12) sc_law_refutes.nd rfl (.inl rfl)) (fun _ _ _ _ _ => pts_nil) (fun _ _ _ _ _ => (pc c_law_linked hr (by first | decide | omega) (by rfl) (pa_cons (pv 0) (pa_cons (pe_ix (ixT (K := K)) (pe_ix (ixT (K := K)) (pv 1) pe_int (fun _ _ => rfl)) pe_int (fun _ _ => rfl)) (pa_cons (pv 10) (pa_cons (pv 12) pa_nil))))))) pa_nil))) (pss_one (ps_ret pe_bl)) pss_nil)))
          (pss_one (ps_ret pe_bl))) pss_nil)
          (pss_one (ps_ret pe_bl)))))))), ?_⟩
      walk_at "in"
      obtain ⟨sh, rs, why⟩ := l
      have hl1 : rs.length ≤ 400 := hl1
      have hl2 : ∀ r ∈ rs, r.2.dp < n ∧ 0 ≤ r.1 ∧ r.1 < 64 := hl2
      rename Ds _ _ _ _ _ _ _ _ _ => S_
      simp only [Ln.D] at S_
      walk_at "dl"
      rename Addr => r0
      have hL : (List.map isD th).length = th.length := List.length_map ..
      have htl : ∀ (ks : List (Int × Cp)) (p : Int), (tOf th lk ks p).length ≤ 1000 := fun ks p => by
        unfold tOf
        have := List.length_filter_le (fun i => ks.all fun r => !decide (r.1 = p) || sat th lk r.2 i) (rng th.length)
        rw [rng_len] at this
        omega
      refine x_forR (fun i ρ u => ρ = [.d (modD th lk os), .d (.tuple [sh.D, .tuple (rs.map rwD), why.D]), .d (.int (os.length : Nat)), .d (.int ((th.map isD).length : Nat)), .v (.ref r0), .u, .u, .u, .u, .u, .u, .u, .u] ∧ u = [(r0, .lst (((rng i).map (tOf th lk rs)).map lsD))]) (by assumption) (by decide) (by decide) ⟨rfl, rfl⟩ ?_ ?_
      · rintro i ρ1 u1 hi ⟨rfl, rfl⟩ σ1 H1 M1 S1
        have hi64 : i < 64 := hi
        have hzr : (((rng i).map (tOf th lk rs)).map lsD).length < sizeLine := by rw [List.length_map, List.length_map, rng_len]; exact Nat.lt_of_lt_of_le (by omega : _ < 100) (by decide)
        walk_at "dl"
        rw [hL]
        refine x_lrK (by assumption) (by omega) (by omega) fun a H_ S_ => ?_
        rw [Int.toNat_natCast] at S_
        obtain ⟨M_, S_⟩ := S_.freeze List.not_mem_nil
        walk_at "dl"
        refine x_forT (fun j ρ u => ∃ T_, T_ = tOf th lk (rs.take j) i ∧ ρ = [.d (modD th lk os), .d (.tuple [sh.D, .tuple (rs.map rwD), why.D]), .d (.int (os.length : Nat)), .d (.int ((th.map isD).length : Nat)), .v (.ref r0), .d (.int i), .d (.list (T_.map .int)), .u, .u, .u, .u, .u, .u] ∧ u = [(r0, .lst (((rng i).map (tOf th lk rs)).map lsD))]) (by assumption) (by walk_at "tm") ⟨_, by rw [List.take_zero, tOf_nil], rfl, rfl⟩ ?_ ?_
        · rintro j d ρ1 u1 hj ⟨_, rfl, rfl, rfl⟩ u_ σ2 H2 M2 S2
          obtain ⟨r, hr', rfl⟩ := map_at hj
          have hrr := hl2 r (List.mem_of_getElem? hr')
          have hts := htl (rs.take j) i
          rename Ds _ _ _ _ _ _ _ _ _ => S_
          simp only [rwD] at S_
          walk_at "dl"
          refine x_if (fun h => ?_) (fun h => ?_)
          · have h := of_decide_eq_true h
            walk_at "dl"
            refine x_cO (by assumption) (by walk_at "slt") ⟨th, lk, os, r.2, rfl, rfl, hrr.1, ht2, rfl⟩ ?_
            rintro _ rfl a_ H_ M_ S_
            obtain ⟨M2_, S_⟩ := S_.freeze List.not_mem_nil
            walk_at "dl"
            refine x_lc1L (fun k acc u => acc = ((((tOf th lk (rs.take j) i).take k).filter fun x => decide (x ∈ insOf th lk r.2)).map .int) ∧ u = [(r0, .lst (((rng i).map (tOf th lk rs)).map lsD))]) (by assumption) (by walk_at "tm") ⟨rfl, rfl⟩ ?_ ?_
            · rintro k d acc w1 hk ⟨rfl, rfl⟩ D4 σ4 H4 M4 hrw S4
              obtain ⟨x, hx, rfl⟩ := map_at hk
              have hz : (((((tOf th lk (rs.take j) i).take k).filter fun x => decide (x ∈ insOf th lk r.2)).map PyData.int)).length < sizeLine := by
                have := List.length_filter_le (fun x => decide (x ∈ insOf th lk r.2)) ((tOf th lk (rs.take j) i).take k)
                rw [List.length_take] at this
                rw [List.length_map]
                exact Nat.lt_of_lt_of_le (by omega : _ < 2000) (by decide)
              rename Ds _ _ _ _ _ _ _ _ _ => S_
              simp only [List.set_cons_succ, List.set_cons_zero] at S_
              walk_at "dl"
              refine x_if (fun h5 => ?_) (fun h5 => ?_)
              · walk_at "dl"
                exact x_lcA (by assumption) (by assumption) (by walk_at "tm") hz ⟨by rw [take_snoc hx, List.filter_append, fil_t (p := fun x => decide (x ∈ insOf th lk r.2)) h5, List.map_append]; rfl, rfl⟩
              · exact x_lcN (by assumption) (by assumption) ⟨by rw [take_snoc hx, List.filter_append, fil_f (p := fun x => decide (x ∈ insOf th lk r.2)) h5, List.append_nil], rfl⟩
            rintro acc w1 ⟨rfl, rfl⟩ x_ H4 M4 S4
            rw [show ((tOf th lk (rs.take j) i).map PyData.int).length = (tOf th lk (rs.take j) i).length from List.length_map .., take_all] at S4
            obtain ⟨M_, S_⟩ := S4.freeze List.not_mem_nil
            walk_at "dl"
            exact Nx.at (by assumption) (by walk_at "le") ⟨_, by rw [take_snoc hr', tOf_snoc, if_pos h], rfl, rfl⟩
          · have h := of_decide_eq_false h
            walk_at "dl"
            exact Nx.at (by assumption) (by walk_at "le") ⟨_, by rw [take_snoc hr', tOf_snoc, if_neg h], rfl, rfl⟩
        · rintro ρ1 u1 ⟨_, rfl, rfl, rfl⟩ σ2 H2 M2 S2
          rw [show (rs.map rwD).length = rs.length from List.length_map .., take_all] at S2
          walk_at "dl"
          refine x_appK 0 (by assumption) rfl (e := lsD (tOf th lk rs i)) (by walk_at "tm") hzr (by walk_at "set") fun H_ S_ => ?_
          walk_at "dl"
          exact Nx.at (by assumption) (by walk_at "le") ⟨rfl, by rw [rng_succ, List.map_append, List.map_append]; rfl⟩
      rintro ρ1 u1 ⟨rfl, rfl⟩ σ1 H1 M1 S1
      rw [show (64 : Int).toNat = 64 from rfl] at S1
      walk_at "dl"
      refine x_cut (fun ρ u => ∃ Rs : List (List Int), RowsR th lk os rs (if sh = .family then os.length else 0) Rs ∧ ρ = [.d (modD th lk os), .d (.tuple [sh.D, .tuple (rs.map rwD), why.D]), .d (.int (os.length : Nat)), .d (.int ((th.map isD).length : Nat)), .v (.ref r0), .u, .u, .u, .u, .u, .u, .u, .u] ∧ u = [(r0, .lst (Rs.map lsD))]) (by assumption) ?_ ?_
      · have h0 : RowsR th lk os rs 0 ((rng 64).map (tOf th lk rs)) := ⟨by rw [List.length_map, rng_len], fun p l hl => by
          obtain ⟨q, hq, rfl⟩ := map_at hl
          refine ⟨?_, fun z => absurd z (Nat.not_lt_zero _), htl _ _⟩
          rw [(rng_at' hq).2]
          exact fun x hx => hx⟩
        walk_at "dl"
        refine x_eqX shr_enc (c := sh) (d := .family) (by assumption) (by walk_at "tm") (by walk_at "tm") (shr_dp _) (shr_dp _) ?_
        walk_at "dl"
        refine x_if (fun hf => ?_) (fun hf => ?_)
        · have hf := of_decide_eq_true hf
          subst hf
          walk_at "dl"
          refine x_forR (fun i ρ u => ∃ Rs : List (List Int), RowsR th lk os rs i Rs ∧ ρ = [.d (modD th lk os), .d (.tuple [ShR.family.D, .tuple (rs.map rwD), why.D]), .d (.int (os.length : Nat)), .d (.int ((th.map isD).length : Nat)), .v (.ref r0), .u, .u, .u, .u, .u, .u, .u, .u] ∧ u = [(r0, .lst (Rs.map lsD))]) (by assumption) (by omega) (by omega) ⟨_, h0, rfl, rfl⟩ ?_ ?_
          · rintro i ρ1 u1 hi ⟨Rs, hRs, rfl, rfl⟩ σ2 H2 M2 S2
            rw [Int.toNat_natCast] at hi
            have hat := ones_at (os := os) (a := (i : Int)) ⟨by omega, by omega⟩
            obtain ⟨l, hl⟩ : ∃ l, Rs[i]? = some l := ⟨_, List.getElem?_eq_getElem (by rw [hRs.1]; omega)⟩
            have hat2 : atI (Rs.map lsD) (i : Int) = some (lsD l) := at_nat hl
            walk_at "dl"
            refine x_ixT (by assumption) (by walk_at "tm") hat ?_
            walk_at "dl"
            refine x_ixO 0 (by assumption) rfl (d := lsD l) hat2 ?_
            walk_at "dl"
            refine x_if (fun h => ?_) (fun h => ?_)
            · walk_at "dl"
              exact x_rD (by assumption) hq (by walk_at "tm") ⟨false, rfl, fun z => nomatch z⟩
            · have h : oneAt os i ∈ l := of_decide_eq_true (by rw [← Bool.not_eq_false']; exact h)
              walk_at "dl"
              refine x_ixT (by assumption) (by walk_at "tm") hat ?_
              walk_at "dl"
              rename Ds _ _ _ _ _ _ _ _ _ => S_
              obtain ⟨M_, S_⟩ := S_.freeze List.not_mem_nil
              refine x_setO 0 (by assumption) rfl (ixN_ofR (by omega) (by rw [List.length_map, hRs.1]; omega)) (d := lsD [oneAt os i]) (by walk_at "tm") (by walk_at "set") fun H_ S_ => ?_
              rw [Int.toNat_natCast] at S_
              walk_at "dl"
              refine Nx.at (by assumption) (by walk_at "le") ⟨Rs.set i [oneAt os i], ⟨by rw [List.length_set]; exact hRs.1, fun p l' hl' => ?_⟩, rfl, by rw [List.map_set]⟩
              by_cases hp : i = p
              · subst hp
                rw [List.getElem?_set_self (by rw [hRs.1]; omega)] at hl'
                cases hl'
                refine ⟨fun x hx => ?_, fun _ => rfl, by show 1 ≤ 1000; decide⟩
                rw [List.mem_singleton.mp hx]
                exact (hRs.2 i l hl).1 _ h
              · rw [List.getElem?_set_ne hp] at hl'
                exact ⟨(hRs.2 p l' hl').1, fun z => (hRs.2 p l' hl').2.1 (by omega), (hRs.2 p l' hl').2.2⟩
          · rintro ρ1 u1 ⟨Rs, hRs, rfl, rfl⟩ σ2 H2 M2 S2
            rw [Int.toNat_natCast] at hRs
            exact Md.at (by assumption) (by walk_at "le") ⟨Rs, by rw [if_pos rfl]; exact hRs, rfl, rfl⟩
        · have hf := of_decide_eq_false hf
          walk_at "dl"
          exact Md.at (by assumption) (by walk_at "le") ⟨_, by rw [if_neg hf]; exact h0, rfl, rfl⟩
      rintro M1 σ1 H1 ρ1 u1 ⟨Rs, hRs, rfl, rfl⟩ S1
      obtain ⟨M_, S_⟩ := S1.frozen (i := 4) rfl List.not_mem_nil
      simp only [List.set_cons_succ, List.set_cons_zero] at S_
      walk_at "dl"
      refine x_lc1L (fun j acc u => acc = ((Rs.take j).map fun l => decide (0 < l.length)).map .bool ∧ u = []) (by assumption) (by walk_at "tm") ⟨rfl, rfl⟩ ?_ ?_
      · rintro j d acc w1 hj ⟨rfl, rfl⟩ D4 σ4 H4 M4 hrw S4
        obtain ⟨l, hl', rfl⟩ := map_at hj
        have hz : (((Rs.take j).map fun l => decide (0 < l.length)).map PyData.bool).length < sizeLine := by rw [List.length_map, List.length_map, List.length_take, hRs.1]; exact Nat.lt_of_lt_of_le (by omega : _ < 100) (by decide)
        rename Ds _ _ _ _ _ _ _ _ _ => S_
        simp only [List.set_cons_succ, List.set_cons_zero] at S_
        walk_at "dl"
        exact x_lcA (by assumption) (by assumption) (by walk_at "tm") hz ⟨by rw [take_snoc hl', List.map_append, List.map_append]; show _ ++ [PyData.bool (decide (0 < ((l.map PyData.int).length : Int)))] = _; rw [List.length_map]; congr 1; show [PyData.bool _] = [PyData.bool _]; congr 2; exact decide_eq_decide.mpr (by omega), rfl⟩
      rintro acc w1 ⟨rfl, rfl⟩ x_ H4 M4 S4
      rw [show (Rs.map lsD).length = Rs.length from List.length_map .., take_all] at S4
      walk_at "dl"
      refine x_allO 0 (bs := Rs.map fun l => decide (0 < l.length)) (by assumption) rfl ?_
      walk_at "dl"
      refine x_if (fun ha => ?_) (fun ha => ?_)
      · walk_at "dl"
        exact x_rD (by assumption) hq (by walk_at "tm") ⟨false, rfl, fun z => nomatch z⟩
      have ha : ∀ l ∈ Rs, l ≠ [] := fun l hl e => by
        have ha : ((Rs.map fun l => decide (0 < l.length)).all id) = true := by rw [← Bool.not_eq_false']; exact ha
        have := List.all_eq_true.mp ha _ (List.mem_map_of_mem hl)
        rw [e] at this
        cases this
      have hpick := rows_pick hRs ha
      have hp64 : ∀ r ∈ rs, 0 ≤ r.1 ∧ r.1 < 64 := fun r hr => (hl2 r hr).2
      rename Ds _ _ _ _ _ _ _ _ _ => S_
      have S_ := S_.subw (w' := []) (List.nil_sublist _)
      cases sh with
      | thing =>
        rw [show ShR.thing.D = .tuple [sK "thing"] from rfl] at S_
        walk_at "dl"
        exact x_rD (by assumption) hq (by walk_at "tm") ⟨true, rfl, fun _ => sats_of (l := ⟨.thing, rs, why⟩) (f := hdOf Rs) ht1 hp64 (fun p h0 h1 => (hpick p h0 h1).1) trivial (by omega)⟩
      | family =>
        rw [show ShR.family.D = .tuple [sK "family"] from rfl] at S_
        walk_at "dl"
        exact x_rD (by assumption) hq (by walk_at "tm") ⟨true, rfl, fun _ => sats_of (l := ⟨.family, rs, why⟩) (f := hdOf Rs) ht1 hp64 (fun p h0 h1 => (hpick p h0 h1).1) (fun a h0 h1 => (hpick a h0 (by omega)).2 (by rw [if_pos rfl]; omega)) (by omega)⟩
      | pair rl rb =>
        rw [show (ShR.pair rl rb).D = .tuple [sK "pair", roD rl rb] from rfl] at S_
        obtain ⟨l0, hl0⟩ : ∃ l, Rs[0]? = some l := ⟨_, List.getElem?_eq_getElem (by rw [hRs.1]; decide)⟩
        obtain ⟨l1, hl1'⟩ : ∃ l, Rs[1]? = some l := ⟨_, List.getElem?_eq_getElem (by rw [hRs.1]; decide)⟩
        have hat0 : atI (Rs.map lsD) 0 = some (lsD l0) := at_nat (i := 0) hl0
        have hat1 : atI (Rs.map lsD) 1 = some (lsD l1) := at_nat (i := 1) hl1'
        have hlen1 : l1.length ≤ 1000 := (hRs.2 1 l1 hl1').2.2
        walk_at "dl"
        refine x_ixL (by assumption) (by walk_at "tm") (d := lsD l0) hat0 ?_
        walk_at "dl"
        refine x_forL (fun j ρ u => ρ = [.d (modD th lk os), .d (.tuple [.tuple [sK "pair", roD rl rb], .tuple (rs.map rwD), why.D]), .d (.int (os.length : Nat)), .d (.int ((th.map isD).length : Nat)), .d (.list (Rs.map lsD)), .u, .u, .u, .u, .u, .u, .u, .u] ∧ u = []) (by assumption) (by walk_at "tm") ⟨rfl, rfl⟩ ?_ ?_
        · rintro j d ρ1 u1 hj ⟨rfl, rfl⟩ u_ σ2 H2 M2 S2
          obtain ⟨x, hx, rfl⟩ := map_at hj
          have hxm := List.mem_of_getElem? hx
          walk_at "dl"
          refine x_ixL (by assumption) (by walk_at "tm") (d := lsD l1) hat1 ?_
          walk_at "dl"
          refine x_lc1L (fun k acc u => acc = ((l1.take k).map fun y => lnk lk rl rb x y).map .bool ∧ u = []) (by assumption) (by walk_at "tm") ⟨rfl, rfl⟩ ?_ ?_
          · rintro k d acc w1 hk ⟨rfl, rfl⟩ D4 σ4 H4 M4 hrw S4
            obtain ⟨y, hy, rfl⟩ := map_at hk
            have hz : (((l1.take k).map fun y => lnk lk rl rb x y).map PyData.bool).length < sizeLine := by rw [List.length_map, List.length_map, List.length_take]; exact Nat.lt_of_lt_of_le (by omega : _ < 100000) (by decide)
            rename Ds _ _ _ _ _ _ _ _ _ => S_
            simp only [List.set_cons_succ, List.set_cons_zero] at S_
            walk_at "dl"
            refine x_cD (by assumption) (by walk_at "slt") ⟨th, lk, os, rl, rb, x, y, rfl, rfl, rfl⟩ ?_
            rintro _ rfl H_ M_ S_
            walk_at "dl"
            exact x_lcA (by assumption) (by assumption) (by walk_at "tm") hz ⟨by rw [take_snoc hy, List.map_append, List.map_append]; rfl, rfl⟩
          rintro acc w1 ⟨rfl, rfl⟩ x_ H4 M4 S4
          rw [show (l1.map PyData.int).length = l1.length from List.length_map .., take_all] at S4
          walk_at "dl"
          refine x_anyO 0 (bs := l1.map fun y => lnk lk rl rb x y) (by assumption) rfl ?_
          walk_at "dl"
          refine x_if (fun hy => ?_) (fun hy => ?_)
          · walk_at "dl"
            have hy2 : ∃ y ∈ l1, lnk lk rl rb x y = true := by
              obtain ⟨b, hb, e⟩ := List.any_eq_true.mp hy
              obtain ⟨y, hy, rfl⟩ := List.mem_map.mp hb
              exact ⟨y, hy, e⟩
            obtain ⟨y, hym, hly⟩ := hy2
            exact x_rD (by assumption) hq (by walk_at "tm") ⟨true, rfl, fun _ => sats_of (l := ⟨.pair rl rb, rs, why⟩) (f := fun p => if p = 0 then x else if p = 1 then y else hdOf Rs p) ht1 hp64 (fun p h0 h1 => by
              show (if p = 0 then x else if p = 1 then y else hdOf Rs p) ∈ _
              by_cases e0 : p = 0
              · rw [if_pos e0, e0]; exact (hRs.2 0 l0 hl0).1 x hxm
              · by_cases e1 : p = 1
                · rw [if_neg e0, if_pos e1, e1]; exact (hRs.2 1 l1 hl1').1 y hym
                · rw [if_neg e0, if_neg e1]; exact (hpick p h0 h1).1) (by show lnk lk rl rb (if (0 : Int) = 0 then x else _) (if (1 : Int) = 0 then x else if (1 : Int) = 1 then y else _) = true; rw [if_pos rfl, if_neg (by decide), if_pos rfl]; exact hly) (by omega)⟩
          · walk_at "dl"
            rename Ds _ _ _ _ _ _ _ _ _ => S_
            exact Nx.at (S_.subw (List.nil_sublist _)) (by walk_at "le") ⟨rfl, rfl⟩
        · rintro ρ1 u1 ⟨rfl, rfl⟩ σ2 H2 M2 S2
          walk_at "dl"
          exact x_rD (by assumption) hq (by walk_at "tm") ⟨false, rfl, fun z => nomatch z⟩
    ))) only [↓Pf.Gate.lem]
end
section
variable {P : Program} {w : World} {K : PySem.W.Frag} {mg : Str → Option Value} {base : Heap}
theorem LnK.ok {l : Ln} (h : LnK 200 7 l) : LnOk 200 l where
  rows := ⟨by have h1 : l.rs.length ≤ 384 := h.len; omega, fun r hr => by
    have h2 : r.2.dp ≤ 198 := h.dpt r hr
    have h3 : rsz l.rs ≤ 6775 := h.siz
    have h4 := rsz_mem hr
    exact ⟨by omega, by omega⟩⟩
  why := h.why.1
theorem in_of {p : Pt} {s0 s1 s2 : Int} {n m k : Nat} (h : p.OkN s0 s1 s2 n) (hn : n < k) (hm : (m : Int) = s2) : p.In k m := by
  cases p with
  | below c d => exact ⟨Nat.lt_of_le_of_lt h.1.2 hn, Nat.lt_of_le_of_lt h.2.2 hn⟩
  | under r b s b' => trivial
  | is a c => exact ⟨by rw [hm]; exact h.1, Nat.lt_of_le_of_lt h.2.2 hn⟩
  | has a r b => exact ⟨by rw [hm]; exact h.1, by rw [hm]; exact h.2.2⟩
  | never => exact h
theorem OkN.cdq {s0 s1 s2 : Int} {p : Pt} (h : p.OkN s0 s1 s2 3) (h2 : s2 ≤ 60) : p.CDp 4 ∧ p.Ind := by
  cases p with
  | below c d => exact ⟨⟨Nat.lt_succ_of_le h.1.2, Nat.lt_succ_of_le h.2.2⟩, trivial⟩
  | is a c =>
    have h1 := h.1
    exact ⟨Nat.lt_succ_of_le h.2.2, h1.1, by omega⟩
  | under _ _ _ _ => exact ⟨trivial, trivial⟩
  | has a r b =>
    have h1 := h.1
    have h3 := h.2.2
    exact ⟨trivial, ⟨h1.1, by omega⟩, h3.1, by omega⟩
  | never => exact ⟨trivial, trivial⟩
theorem CDp.mono {m n : Nat} {p : Pt} (h : p.CDp m) (hm : m ≤ n) : p.CDp n := by
  cases p with
  | below c d => exact ⟨Nat.lt_of_lt_of_le h.1 hm, Nat.lt_of_lt_of_le h.2 hm⟩
  | is a c => exact Nat.lt_of_lt_of_le h hm
  | under _ _ _ _ => exact trivial
  | has _ _ _ => exact trivial
  | never => exact trivial
theorem part_mem {xs : List (List Pt)} {ms : List Int} {a m : Int} {p : Pt} (h : partOf xs ms a m = some p) : a ∈ ms ∧ ∃ x, xs[a.toNat]? = some x ∧ p ∈ x := by
  unfold partOf at h
  split at h
  · rename_i hc
    refine ⟨hc.1, ?_⟩
    have hm := List.mem_of_getElem? h
    rw [List.getD_eq_getElem?_getD] at hm
    cases e : xs[a.toNat]? with
    | none => rw [e] at hm; cases hm
    | some x => rw [e] at hm; exact ⟨x, rfl, hm⟩
  · cases h
def plcs (th : List (List Int)) (lk : List Lk) (os : List Int) (xs : List (List Pt)) (k : Nat) : List Int := (rng k).filter fun a => holdsB th lk os (xs.getD a.toNat [])
theorem ax_hold {th : List (List Int)} {lk : List Lk} {os : List Int} {xs : List (List Pt)} {k : Nat} : AxHold th lk os xs (plcs th lk os xs k) := fun a m p h => by
  obtain ⟨ha, x, hx, hp⟩ := part_mem h
  have h1 := (List.mem_filter.mp ha).2
  rw [List.getD_eq_getElem?_getD, hx] at h1
  exact Option.isNone_iff_eq_none.mp (List.all_eq_true.mp h1 p hp)
theorem ok_law {f : Addr} {fd : FuncData} (F : Fun K "law" "law" s_law f fd) (c_law_cell : Cl P w K mg base 1 "_law_cell" (spG K pCell)) (c_law_box : Cl P w K mg base 2 "_law_box" (spG K pBox)) (c_law_sizes : Cl P w K mg base 3 "_law_sizes" (spG K pSizes)) (c_law_axioms : Cl P w K mg base 8 "_law_axioms" (spG K (pAxioms 3)))
    (c_law_lines : Cl P w K mg base 8 "_law_lines" (spG K pLines)) (c_law_model : Cl P w K mg base 2 "_law_model" (spG K pLawModel)) (c_law_holds_in : Cl P w K mg base 8 "_law_holds_in" (spG K (pHoldsIn 4))) (c_is_right : Cl P w K mg base 205 "is_right" (spG K (pIsRight 200))) (c_law_refutes : Cl P w K mg base 203 "_law_refutes" (spG K (pRefutes 200)))
    (z_len : mg "len" = none) (z_range : mg "range" = none) (z_tuple : mg "tuple" = none) : FnOk P w K mg base CX0 206 f fd ["script"] (spLaw K) := by
  refine Pf.Gate.out ?_
  simp (disch := (with_unfolding_all (
      refine law_go F sc_law fun cdv A outer s H vs Q E ns hr h63 S hq => ?_
      refine ⟨_, (pss_cons (ps_set (i := 1) sc_law.nd rfl (.inl rfl) (pc c_law_sizes hr (by first | decide | omega) (by rfl) (pa_cons (pv 0) pa_nil)))
          (pss_cons (ps_set (i := 2) sc_law.nd rfl (.inr rfl) (pc c_law_axioms hr (by first | decide | omega) (by rfl) (pa_cons (pv 0) (pa_cons (pv 1) (pa_cons (pe_op op_mod (pc c_law_cell hr (by first | decide | omega) (by rfl) (pa_cons (pv 0) (pa_cons pe_int pa_nil))) pe_int) (pa_cons pe_int (pa_cons pe_int pa_nil)))))))
          (pss_cons (ps_set (i := 3) sc_law.nd rfl (.inl rfl) (pc c_law_lines hr (by first | decide | omega) (by rfl) (pa_cons (pv 0) (pa_cons pe_int (pa_cons (pe_op op_add pe_int (pe_op op_mod (pc c_law_cell hr (by first | decide | omega) (by rfl) (pa_cons (pv 0) (pa_cons pe_int pa_nil))) pe_int)) (pa_cons (pv 2) (pa_cons (pv 1) pa_nil)))))))
          (pss_cons (ps_for PassesOwn.never rfl (pi_range1 (by rfl) z_range (pa_cons pe_int pa_nil)) (pg_name (i := 4) sc_law.nd rfl (.inl rfl)) (pss_cons (ps_set (i := 5) sc_law.nd rfl (.inr rfl) (pc c_law_model hr (by first | decide | omega) (by rfl) (pa_cons (pc c_law_box hr (by first | decide | omega) (by rfl) (pa_cons (pv 0) (pa_cons (pe_op op_add pe_int (pv 4)) pa_nil))) (pa_cons (pv 1) (pa_cons (pe_op op_add pe_int (pv 4)) pa_nil)))))
          (pss_cons (ps_set (i := 6) sc_law.nd rfl (.inl rfl) (pe_callTy (call_tupD (K := K)) (by rfl) z_tuple (by decide +kernel) (pa_cons (pe_lc (own := [("k", 9)]) (g := gName 9) (by rfl) sc_law.nd (pi_range1 (by rfl) z_range (pa_cons (pe_callB (lenQ (K := K)) (by rfl) z_len PySem.boot_len (pa_cons (pv 2) pa_nil)) pa_nil)) (blkOk_by (own := [("k", 9)]) (N := ["script", "sizes", "axioms", "lines", "at", "model", "places", "kept", "line", "k"]) (sc := defScope s_law) (by decide +kernel)) (fun _ _ _ _ _ => pg_name (i := 9) sc_law.nd rfl (.inl rfl)) (fun _ _ _ _ _ => (pts_one (pt_val (pc c_law_holds_in hr (by first | decide | omega) (by rfl) (pa_cons (pv 5) (pa_cons (pe_ix (ixT (K := K)) (pv 2) (pv 9) (fun _ _ => rfl)) pa_nil)))))) (fun _ _ _ _ _ => (pv 9))) pa_nil)))
          (pss_cons (ps_set (i := 7) sc_law.nd rfl (.inl rfl) (pe_tup pa_nil))
          (pss_one (ps_for PassesOwn.never rfl (kIT (K := K) (pi_tup (pv 3))) (pg_name (i := 8) sc_law.nd rfl (.inl rfl)) (pss_one (ps_if (pt_val (pc c_is_right hr (by first | decide | omega) (by rfl) (pa_cons (pe_tup (pa_cons (pv 2) (pa_cons (pe_ix (ixT (K := K)) (pv 1) pe_int (fun _ _ => rfl)) pa_nil))) (pa_cons (pv 6) (pa_cons (pv 7) (pa_cons (pv 8) pa_nil)))))) (pss_cons (ps_set (i := 7) sc_law.nd rfl (.inl rfl) (pe_op (kCatA (K := K)) (pv 7) (pe_tup (pa_cons (pv 8) pa_nil))))
          (pss_one (ps_if (pt_val (pc c_law_refutes hr (by first | decide | omega) (by rfl) (pa_cons (pv 5) (pa_cons (pv 8) (pa_cons (pe_ix (ixT (K := K)) (pv 1) pe_int (fun _ _ => rfl)) pa_nil))))) (pss_one (ps_ret pe_bl)) pss_nil))) pss_nil))))))))
          (pss_one (ps_ret pe_bl)))))), ?_⟩
      walk_at "in"
      walk_at "dl"
      refine x_cD (by assumption) (by walk_at "slt") ⟨ns, rfl, rfl, rfl⟩ ?_
      rintro _ ⟨s0, s1, s2, rfl, hs0, hs1, hs2⟩ H_ M_ S_
      walk_at "dl"
      refine x_cD (by assumption) (by walk_at "slt") ⟨ns, 1, rfl, rfl, by decide, rfl⟩ ?_
      rintro _ ⟨k1, rfl⟩ H_ M_ S_
      walk_at "dl"
      have hm0 : 0 ≤ k1 % 7 := Int.emod_nonneg _ (by decide)
      have hm1 : k1 % 7 < 7 := Int.emod_lt_of_pos _ (by decide)
      generalize k1 % 7 = m at *
      refine x_cD (by assumption) (by walk_at "slt") ⟨ns, s0, s1, s2, m, 40, 2, rfl, rfl, ⟨hs0.1, hs1.1⟩, ⟨by decide, by decide, hm0, by omega⟩, rfl⟩ ?_
      rintro _ ⟨xs, rfl, hxs, hxl, _⟩ H_ M_ S_
      walk_at "dl"
      have hx4 : ∀ x ∈ xs, x.length ≤ 2 ∧ ∀ q ∈ x, q.CDp 4 ∧ q.Ind := fun x hx => ⟨(hxs x hx).2.1, fun q hq => OkN.cdq ((hxs x hx).2.2 q hq) (by omega)⟩
      have hxC : AxC 200 xs := fun x hx p hp => CDp.mono ((hx4 x hx).2 p hp).1 (by decide)
      refine x_cD (by assumption) (by walk_at "slt") ⟨ns, 18, rfl, rfl, by decide, rfl⟩ ?_
      rintro _ ⟨k18, rfl⟩ H_ M_ S_
      walk_at "dl"
      have hj0 : 0 ≤ k18 % 7 := Int.emod_nonneg _ (by decide)
      have hj1 : k18 % 7 < 7 := Int.emod_lt_of_pos _ (by decide)
      generalize k18 % 7 = mm at *
      refine x_cD (by assumption) (by walk_at "slt") ⟨ns, 20, 2 + mm, xs, s0, s1, s2, rfl, rfl, ⟨by decide, by omega, by omega⟩, ⟨hs0.1, hs1.1⟩, ⟨by omega, hx4⟩, rfl⟩ ?_
      rintro _ ⟨ls, rfl, hll, hls⟩ H_ M_ S_
      walk_at "dl"
      have hok : ∀ l ∈ ls, LnOk 200 l := fun l h => (hls l h).ok
      refine x_forR (fun i ρ u => ρ = [.d (.list (ns.map .int)), .d (szD s0 s1 s2), .d (.tuple (xs.map axD)), .d (.tuple (ls.map Ln.D)), .u, .u, .u, .u, .u, .u] ∧ u = []) (by assumption) (by decide) (by decide) ⟨rfl, rfl⟩ ?_ ?_
      · rintro i ρ1 u1 hi ⟨rfl, rfl⟩ σ1 H1 M1 S1
        have hi3 : i < 3 := hi
        walk_at "dl"
        refine x_cO (by assumption) (by walk_at "slt") ⟨ns, 40 + (i : Int), rfl, rfl, by omega, rfl⟩ ?_
        rintro _ rfl b H_ M_ S_
        walk_at "dl"
        refine x_c1 0 (by assumption) rfl (by walk_at "slt") ⟨b, s0, s1, s2, 2 + (i : Int), rfl, rfl, by omega, by omega, by omega, by omega, rfl⟩ ?_
        rintro _ _ ⟨rfl, th, lk, os, rfl, hmd⟩ H_ M_ w_ hw S_
        cases hw
        walk_at "dl"
        have hos : os.length ≤ 60 := by have := hmd.ho; omega
        have hth : 1 ≤ th.length ∧ th.length ≤ 1000 := ⟨hmd.h0, by have := hmd.h1; omega⟩
        rw [List.length_map]
        refine x_lc1R (fun j acc u => acc = (plcs th lk os xs j).map .int ∧ ∃ od, u = [(b, od)]) (by assumption) (by omega) (by omega) ⟨rfl, _, rfl⟩ ?_ ?_
        · rintro j acc w1 hj ⟨rfl, od, rfl⟩ D4 σ4 H4 M4 hrw S4
          rw [Int.toNat_natCast] at hj
          obtain ⟨x, hx⟩ : ∃ x, xs[j]? = some x := ⟨_, List.getElem?_eq_getElem hj⟩
          have hat : atI (xs.map axD) (j : Int) = some (axD x) := at_nat hx
          have hxx := hxs x (List.mem_of_getElem? hx)
          have hz : ((plcs th lk os xs j).map PyData.int).length < sizeLine := by
            have := List.length_filter_le (fun a => holdsB th lk os (xs.getD a.toNat [])) (rng j)
            rw [rng_len] at this
            rw [List.length_map]
            exact Nat.lt_of_lt_of_le (by show (plcs th lk os xs j).length < 60; unfold plcs; omega) (by decide)
          have e1 : plcs th lk os xs (j + 1) = plcs th lk os xs j ++ (if holdsB th lk os x = true then [(j : Int)] else []) := by
            unfold plcs
            rw [rng_succ, List.filter_append]
            congr 1
            have e : holdsB th lk os (xs.getD (j : Int).toNat []) = holdsB th lk os x := by rw [Int.toNat_natCast, List.getD_eq_getElem?_getD, hx]; rfl
            by_cases h : holdsB th lk os x = true
            · rw [if_pos h, List.filter_cons_of_pos (by rw [e]; exact h)]; rfl
            · rw [if_neg h, List.filter_cons_of_neg (by rw [e]; exact h)]; rfl
          rename Ds _ _ _ _ _ _ _ _ _ => S_
          simp only [List.set_cons_succ, List.set_cons_zero] at S_
          walk_at "dl"
          refine x_ixT (by assumption) (by walk_at "tm") hat ?_
          walk_at "dl"
          refine x_cD (by assumption) (by walk_at "slt") ⟨th, lk, os, x, rfl, rfl, fun p hp => in_of (hxx.2.2 p hp) (by decide) hmd.ho, hxx.2.1, ⟨hth.2, hmd.hk⟩, hmd.ht, rfl⟩ ?_
          rintro _ rfl H_ M_ S_
          walk_at "dl"
          refine x_if (fun h => ?_) (fun h => ?_)
          · walk_at "dl"
            exact x_lcA (by assumption) (by assumption) (by walk_at "tm") hz ⟨by rw [e1, if_pos h, List.map_append]; rfl, od, rfl⟩
          · exact x_lcN (by assumption) (by assumption) ⟨by rw [e1, if_neg (by rw [h]; decide), List.append_nil], od, rfl⟩
        rintro acc w1 ⟨rfl, od, rfl⟩ x_ H4 M4 S4
        rw [Int.toNat_natCast] at S4
        walk_at "dl"
        have hin : ∀ a m p, partOf xs (plcs th lk os xs xs.length) a m = some p → p.In 1000 os.length ∨ p = .never := fun a m p h => by
          obtain ⟨_, x, hx, hp⟩ := part_mem h
          exact .inl (in_of ((hxs x (List.mem_of_getElem? hx)).2.2 p hp) (by decide) hmd.ho)
        rename Ds _ _ _ _ _ _ _ _ _ => S_
        have S_ := S_.subw (w' := []) (List.nil_sublist _)
        refine x_forT (fun j ρ u => ∃ bs : List Ln, (∀ k ∈ bs, k ∈ ls ∧ ¬ Sats th lk os k) ∧ bs.length ≤ j ∧ ρ = [.d (.list (ns.map .int)), .d (szD s0 s1 s2), .d (.tuple (xs.map axD)), .d (.tuple (ls.map Ln.D)), .d (.int i), .d (modD th lk os), .d (.tuple ((plcs th lk os xs xs.length).map .int)), .d (.tuple (bs.map Ln.D)), .u, .u] ∧ u = []) (by assumption) (by walk_at "tm") ⟨[], (fun _ h => nomatch h), Nat.le_refl _, rfl, rfl⟩ ?_ ?_
        · rintro j d ρ2 u2 hj ⟨bs, hbs, hbl, rfl, rfl⟩ u_ σ2 H2 M2 S2
          obtain ⟨l, hl', rfl⟩ := map_at hj
          have hlm := List.mem_of_getElem? hl'
          have hjl := (List.getElem?_eq_some_iff.mp hl').1
          have hlk := hls l hlm
          walk_at "dl"
          refine x_cD (by assumption) (by walk_at "slt") ⟨xs, s2, plcs th lk os xs xs.length, bs, l, rfl, rfl, hxC, fun k hk => hok k (hbs k hk).1, hok l hlm, by decide, rfl⟩ ?_
          rintro _ rfl H_ M_ S_
          walk_at "dl"
          refine x_if (fun h => ?_) (fun h => ?_)
          · have hsound := right_sound ax_hold hin (fun k hk => (hbs k hk).2) h
            walk_at "dl"
            refine x_catT (by assumption) (by walk_at "tm") (by walk_at "tm") (by rw [List.length_map]; exact Nat.le_trans (by show bs.length + 1 ≤ 60; omega) (by decide)) fun u_ H_ M_ S_ => ?_
            walk_at "dl"
            rename Ds _ _ _ _ _ _ _ _ _ => S_
            rw [show bs.map Ln.D ++ [l.D] = (bs ++ [l]).map Ln.D by rw [List.map_append]; rfl] at S_
            refine x_cD (by assumption) (by walk_at "slt") ⟨th, lk, os, l, by rw [hmd.ho], rfl, hth, ⟨hos, hmd.ht⟩, ⟨by have h1 : l.rs.length ≤ 384 := hlk.len; omega, fun r hr => ⟨by have h1 : r.2.dp ≤ 198 := hlk.dpt r hr; omega, hlk.plc r hr⟩⟩, rfl⟩ ?_
            rintro _ ⟨rb, rfl, hrb⟩ H_ M_ S_
            walk_at "dl"
            refine x_if (fun hr => ?_) (fun hr => ?_)
            · exact absurd (hrb hr) hsound
            · walk_at "dl"
              exact Nx.at (by assumption) (by walk_at "le") ⟨bs ++ [l], fun k hk => (List.mem_append.mp hk).elim (hbs k) fun z => by rw [List.mem_singleton.mp z]; exact ⟨hlm, hsound⟩, by rw [List.length_append]; show bs.length + 1 ≤ j + 1; omega, rfl, rfl⟩
          · walk_at "dl"
            exact Nx.at (by assumption) (by walk_at "le") ⟨bs, hbs, by omega, rfl, rfl⟩
        · rintro ρ2 u2 ⟨bs, hbs, hbl, rfl, rfl⟩ σ2 H2 M2 S2
          walk_at "dl"
          exact Nx.at (by assumption) (by walk_at "le") ⟨rfl, rfl⟩
      · rintro ρ1 u1 ⟨rfl, rfl⟩ σ1 H1 M1 S1
        walk_at "dl"
        exact hq _
    ))) only [↓Pf.Gate.lem]
end
theorem all_mk {l : PySem.W.OpenLaw} {w : World} {K : PySem.W.Frag} {h : Heap} {mg : Str → Option Value} {fa : Addr} (X : K.In h) (G : h.Ns mainGlobals mg) (hfa : mg "law" = some (.ref fa))
    {f_inverse : Addr} {od_inverse an_inverse : Option Addr} {sl_inverse : Array (Option Value)} {oc_inverse kV_inverse dc_inverse pm_inverse cd_inverse ct_inverse : Value}
    {f_is_certain : Addr} {od_is_certain an_is_certain : Option Addr} {sl_is_certain : Array (Option Value)} {oc_is_certain kV_is_certain dc_is_certain pm_is_certain cd_is_certain ct_is_certain : Value}
    {f_role_behind : Addr} {od_role_behind an_role_behind : Option Addr} {sl_role_behind : Array (Option Value)} {oc_role_behind kV_role_behind dc_role_behind pm_role_behind cd_role_behind ct_role_behind : Value}
    {f_is_right : Addr} {od_is_right an_is_right : Option Addr} {sl_is_right : Array (Option Value)} {oc_is_right kV_is_right dc_is_right pm_is_right cd_is_right ct_is_right : Value}
    {f_known : Addr} {od_known an_known : Option Addr} {sl_known : Array (Option Value)} {oc_known kV_known dc_known pm_known cd_known ct_known : Value}
    {f_is_settled : Addr} {od_is_settled an_is_settled : Option Addr} {sl_is_settled : Array (Option Value)} {oc_is_settled kV_is_settled dc_is_settled pm_is_settled cd_is_settled ct_is_settled : Value}
    {f_are_certain : Addr} {od_are_certain an_are_certain : Option Addr} {sl_are_certain : Array (Option Value)} {oc_are_certain kV_are_certain dc_are_certain pm_are_certain cd_are_certain ct_are_certain : Value}
    {f_moved : Addr} {od_moved an_moved : Option Addr} {sl_moved : Array (Option Value)} {oc_moved kV_moved dc_moved pm_moved cd_moved ct_moved : Value}
    {f_has_shape : Addr} {od_has_shape an_has_shape : Option Addr} {sl_has_shape : Array (Option Value)} {oc_has_shape kV_has_shape dc_has_shape pm_has_shape cd_has_shape ct_has_shape : Value}
    {f_part : Addr} {od_part an_part : Option Addr} {sl_part : Array (Option Value)} {oc_part kV_part dc_part pm_part cd_part ct_part : Value}
    {f_is_right_axiom : Addr} {od_is_right_axiom an_is_right_axiom : Option Addr} {sl_is_right_axiom : Array (Option Value)} {oc_is_right_axiom kV_is_right_axiom dc_is_right_axiom pm_is_right_axiom cd_is_right_axiom ct_is_right_axiom : Value}
    {f_is_right_split : Addr} {od_is_right_split an_is_right_split : Option Addr} {sl_is_right_split : Array (Option Value)} {oc_is_right_split kV_is_right_split dc_is_right_split pm_is_right_split cd_is_right_split ct_is_right_split : Value}
    {f_is_right_need : Addr} {od_is_right_need an_is_right_need : Option Addr} {sl_is_right_need : Array (Option Value)} {oc_is_right_need kV_is_right_need dc_is_right_need pm_is_right_need cd_is_right_need ct_is_right_need : Value}
    {f_is_right_role : Addr} {od_is_right_role an_is_right_role : Option Addr} {sl_is_right_role : Array (Option Value)} {oc_is_right_role kV_is_right_role dc_is_right_role pm_is_right_role cd_is_right_role ct_is_right_role : Value}
    {f_is_right_member : Addr} {od_is_right_member an_is_right_member : Option Addr} {sl_is_right_member : Array (Option Value)} {oc_is_right_member kV_is_right_member dc_is_right_member pm_is_right_member cd_is_right_member ct_is_right_member : Value}
    {f_is_right_link : Addr} {od_is_right_link an_is_right_link : Option Addr} {sl_is_right_link : Array (Option Value)} {oc_is_right_link kV_is_right_link dc_is_right_link pm_is_right_link cd_is_right_link ct_is_right_link : Value}
    {f_is_against : Addr} {od_is_against an_is_against : Option Addr} {sl_is_against : Array (Option Value)} {oc_is_against kV_is_against dc_is_against pm_is_against cd_is_against ct_is_against : Value}
    {f_law_is_integer : Addr} {od_law_is_integer an_law_is_integer : Option Addr} {sl_law_is_integer : Array (Option Value)} {oc_law_is_integer kV_law_is_integer dc_law_is_integer pm_law_is_integer cd_law_is_integer ct_law_is_integer : Value}
    {f_law_cell : Addr} {od_law_cell an_law_cell : Option Addr} {sl_law_cell : Array (Option Value)} {oc_law_cell kV_law_cell dc_law_cell pm_law_cell cd_law_cell ct_law_cell : Value}
    {f_law_digits : Addr} {od_law_digits an_law_digits : Option Addr} {sl_law_digits : Array (Option Value)} {oc_law_digits kV_law_digits dc_law_digits pm_law_digits cd_law_digits ct_law_digits : Value}
    {f_law_box : Addr} {od_law_box an_law_box : Option Addr} {sl_law_box : Array (Option Value)} {oc_law_box kV_law_box dc_law_box pm_law_box cd_law_box ct_law_box : Value}
    {f_law_draw : Addr} {od_law_draw an_law_draw : Option Addr} {sl_law_draw : Array (Option Value)} {oc_law_draw kV_law_draw dc_law_draw pm_law_draw cd_law_draw ct_law_draw : Value}
    {f_law_role : Addr} {od_law_role an_law_role : Option Addr} {sl_law_role : Array (Option Value)} {oc_law_role kV_law_role dc_law_role pm_law_role cd_law_role ct_law_role : Value}
    {f_law_concept : Addr} {od_law_concept an_law_concept : Option Addr} {sl_law_concept : Array (Option Value)} {oc_law_concept kV_law_concept dc_law_concept pm_law_concept cd_law_concept ct_law_concept : Value}
    {f_law_roles_axiom : Addr} {od_law_roles_axiom an_law_roles_axiom : Option Addr} {sl_law_roles_axiom : Array (Option Value)} {oc_law_roles_axiom kV_law_roles_axiom dc_law_roles_axiom pm_law_roles_axiom cd_law_roles_axiom ct_law_roles_axiom : Value}
    {f_law_axiom : Addr} {od_law_axiom an_law_axiom : Option Addr} {sl_law_axiom : Array (Option Value)} {oc_law_axiom kV_law_axiom dc_law_axiom pm_law_axiom cd_law_axiom ct_law_axiom : Value}
    {f_law_gather : Addr} {od_law_gather an_law_gather : Option Addr} {sl_law_gather : Array (Option Value)} {oc_law_gather kV_law_gather dc_law_gather pm_law_gather cd_law_gather ct_law_gather : Value}
    {f_law_atoms : Addr} {od_law_atoms an_law_atoms : Option Addr} {sl_law_atoms : Array (Option Value)} {oc_law_atoms kV_law_atoms dc_law_atoms pm_law_atoms cd_law_atoms ct_law_atoms : Value}
    {f_law_sizes : Addr} {od_law_sizes an_law_sizes : Option Addr} {sl_law_sizes : Array (Option Value)} {oc_law_sizes kV_law_sizes dc_law_sizes pm_law_sizes cd_law_sizes ct_law_sizes : Value}
    {f_law_axioms : Addr} {od_law_axioms an_law_axioms : Option Addr} {sl_law_axioms : Array (Option Value)} {oc_law_axioms kV_law_axioms dc_law_axioms pm_law_axioms cd_law_axioms ct_law_axioms : Value}
    {f_law_subset : Addr} {od_law_subset an_law_subset : Option Addr} {sl_law_subset : Array (Option Value)} {oc_law_subset kV_law_subset dc_law_subset pm_law_subset cd_law_subset ct_law_subset : Value}
    {f_law_linked : Addr} {od_law_linked an_law_linked : Option Addr} {sl_law_linked : Array (Option Value)} {oc_law_linked kV_law_linked dc_law_linked pm_law_linked cd_law_linked ct_law_linked : Value}
    {f_law_inside : Addr} {od_law_inside an_law_inside : Option Addr} {sl_law_inside : Array (Option Value)} {oc_law_inside kV_law_inside dc_law_inside pm_law_inside cd_law_inside ct_law_inside : Value}
    {f_law_fault : Addr} {od_law_fault an_law_fault : Option Addr} {sl_law_fault : Array (Option Value)} {oc_law_fault kV_law_fault dc_law_fault pm_law_fault cd_law_fault ct_law_fault : Value}
    {f_law_holds_in : Addr} {od_law_holds_in an_law_holds_in : Option Addr} {sl_law_holds_in : Array (Option Value)} {oc_law_holds_in kV_law_holds_in dc_law_holds_in pm_law_holds_in cd_law_holds_in ct_law_holds_in : Value}
    {f_law_model : Addr} {od_law_model an_law_model : Option Addr} {sl_law_model : Array (Option Value)} {oc_law_model kV_law_model dc_law_model pm_law_model cd_law_model ct_law_model : Value}
    {f_law_back : Addr} {od_law_back an_law_back : Option Addr} {sl_law_back : Array (Option Value)} {oc_law_back kV_law_back dc_law_back pm_law_back cd_law_back ct_law_back : Value}
    {f_law_steps : Addr} {od_law_steps an_law_steps : Option Addr} {sl_law_steps : Array (Option Value)} {oc_law_steps kV_law_steps dc_law_steps pm_law_steps cd_law_steps ct_law_steps : Value}
    {f_law_places_of : Addr} {od_law_places_of an_law_places_of : Option Addr} {sl_law_places_of : Array (Option Value)} {oc_law_places_of kV_law_places_of dc_law_places_of pm_law_places_of cd_law_places_of ct_law_places_of : Value}
    {f_law_picked : Addr} {od_law_picked an_law_picked : Option Addr} {sl_law_picked : Array (Option Value)} {oc_law_picked kV_law_picked dc_law_picked pm_law_picked cd_law_picked ct_law_picked : Value}
    {f_law_role_line : Addr} {od_law_role_line an_law_role_line : Option Addr} {sl_law_role_line : Array (Option Value)} {oc_law_role_line kV_law_role_line dc_law_role_line pm_law_role_line cd_law_role_line ct_law_role_line : Value}
    {f_law_link_line : Addr} {od_law_link_line an_law_link_line : Option Addr} {sl_law_link_line : Array (Option Value)} {oc_law_link_line kV_law_link_line dc_law_link_line pm_law_link_line cd_law_link_line ct_law_link_line : Value}
    {f_law_axiom_line : Addr} {od_law_axiom_line an_law_axiom_line : Option Addr} {sl_law_axiom_line : Array (Option Value)} {oc_law_axiom_line kV_law_axiom_line dc_law_axiom_line pm_law_axiom_line cd_law_axiom_line ct_law_axiom_line : Value}
    {f_law_later_line : Addr} {od_law_later_line an_law_later_line : Option Addr} {sl_law_later_line : Array (Option Value)} {oc_law_later_line kV_law_later_line dc_law_later_line pm_law_later_line cd_law_later_line ct_law_later_line : Value}
    {f_law_line : Addr} {od_law_line an_law_line : Option Addr} {sl_law_line : Array (Option Value)} {oc_law_line kV_law_line dc_law_line pm_law_line cd_law_line ct_law_line : Value}
    {f_law_spoilt : Addr} {od_law_spoilt an_law_spoilt : Option Addr} {sl_law_spoilt : Array (Option Value)} {oc_law_spoilt kV_law_spoilt dc_law_spoilt pm_law_spoilt cd_law_spoilt ct_law_spoilt : Value}
    {f_law_lines : Addr} {od_law_lines an_law_lines : Option Addr} {sl_law_lines : Array (Option Value)} {oc_law_lines kV_law_lines dc_law_lines pm_law_lines cd_law_lines ct_law_lines : Value}
    {f_law_refutes : Addr} {od_law_refutes an_law_refutes : Option Addr} {sl_law_refutes : Array (Option Value)} {oc_law_refutes kV_law_refutes dc_law_refutes pm_law_refutes cd_law_refutes ct_law_refutes : Value}
    {od_law an_law : Option Addr} {sl_law : Array (Option Value)} {oc_law kV_law dc_law pm_law cd_law ct_law : Value} {f_law : Addr}
    (a_inverse : PySem.W.nsIn K mainGlobals "inverse" = some (some (.ref f_inverse))) (l_inverse : K.lookup f_inverse = some ⟨oc_inverse, od_inverse, .func (PySem.W.fnOf "inverse" "inverse" (defArgs s_inverse) (defBody s_inverse) (defScope s_inverse) .none kV_inverse dc_inverse pm_inverse an_inverse cd_inverse ct_inverse), sl_inverse⟩) (w_inverse : PySem.W.codeIn K cd_inverse "inverse" = true) (k_inverse : PySem.W.keepIn K (.ref f_inverse) = true)
    (a_is_certain : PySem.W.nsIn K mainGlobals "is_certain" = some (some (.ref f_is_certain))) (l_is_certain : K.lookup f_is_certain = some ⟨oc_is_certain, od_is_certain, .func (PySem.W.fnOf "is_certain" "is_certain" (defArgs s_is_certain) (defBody s_is_certain) (defScope s_is_certain) .none kV_is_certain dc_is_certain pm_is_certain an_is_certain cd_is_certain ct_is_certain), sl_is_certain⟩) (w_is_certain : PySem.W.codeIn K cd_is_certain "is_certain" = true) (k_is_certain : PySem.W.keepIn K (.ref f_is_certain) = true)
    (a_role_behind : PySem.W.nsIn K mainGlobals "role_behind" = some (some (.ref f_role_behind))) (l_role_behind : K.lookup f_role_behind = some ⟨oc_role_behind, od_role_behind, .func (PySem.W.fnOf "role_behind" "role_behind" (defArgs s_role_behind) (defBody s_role_behind) (defScope s_role_behind) .none kV_role_behind dc_role_behind pm_role_behind an_role_behind cd_role_behind ct_role_behind), sl_role_behind⟩) (w_role_behind : PySem.W.codeIn K cd_role_behind "role_behind" = true) (k_role_behind : PySem.W.keepIn K (.ref f_role_behind) = true)
    (a_is_right : PySem.W.nsIn K mainGlobals "is_right" = some (some (.ref f_is_right))) (l_is_right : K.lookup f_is_right = some ⟨oc_is_right, od_is_right, .func (PySem.W.fnOf "is_right" "is_right" (defArgs s_is_right) (defBody s_is_right) (defScope s_is_right) .none kV_is_right dc_is_right pm_is_right an_is_right cd_is_right ct_is_right), sl_is_right⟩) (w_is_right : PySem.W.codeIn K cd_is_right "is_right" = true) (k_is_right : PySem.W.keepIn K (.ref f_is_right) = true)
    (a_known : PySem.W.nsIn K mainGlobals "_known" = some (some (.ref f_known))) (l_known : K.lookup f_known = some ⟨oc_known, od_known, .func (PySem.W.fnOf "_known" "_known" (defArgs s_known) (defBody s_known) (defScope s_known) .none kV_known dc_known pm_known an_known cd_known ct_known), sl_known⟩) (w_known : PySem.W.codeIn K cd_known "_known" = true) (k_known : PySem.W.keepIn K (.ref f_known) = true)
    (a_is_settled : PySem.W.nsIn K mainGlobals "_is_settled" = some (some (.ref f_is_settled))) (l_is_settled : K.lookup f_is_settled = some ⟨oc_is_settled, od_is_settled, .func (PySem.W.fnOf "_is_settled" "_is_settled" (defArgs s_is_settled) (defBody s_is_settled) (defScope s_is_settled) .none kV_is_settled dc_is_settled pm_is_settled an_is_settled cd_is_settled ct_is_settled), sl_is_settled⟩) (w_is_settled : PySem.W.codeIn K cd_is_settled "_is_settled" = true) (k_is_settled : PySem.W.keepIn K (.ref f_is_settled) = true)
    (a_are_certain : PySem.W.nsIn K mainGlobals "_are_certain" = some (some (.ref f_are_certain))) (l_are_certain : K.lookup f_are_certain = some ⟨oc_are_certain, od_are_certain, .func (PySem.W.fnOf "_are_certain" "_are_certain" (defArgs s_are_certain) (defBody s_are_certain) (defScope s_are_certain) .none kV_are_certain dc_are_certain pm_are_certain an_are_certain cd_are_certain ct_are_certain), sl_are_certain⟩) (w_are_certain : PySem.W.codeIn K cd_are_certain "_are_certain" = true) (k_are_certain : PySem.W.keepIn K (.ref f_are_certain) = true)
    (a_moved : PySem.W.nsIn K mainGlobals "_moved" = some (some (.ref f_moved))) (l_moved : K.lookup f_moved = some ⟨oc_moved, od_moved, .func (PySem.W.fnOf "_moved" "_moved" (defArgs s_moved) (defBody s_moved) (defScope s_moved) .none kV_moved dc_moved pm_moved an_moved cd_moved ct_moved), sl_moved⟩) (w_moved : PySem.W.codeIn K cd_moved "_moved" = true) (k_moved : PySem.W.keepIn K (.ref f_moved) = true)
    (a_has_shape : PySem.W.nsIn K mainGlobals "_has_shape" = some (some (.ref f_has_shape))) (l_has_shape : K.lookup f_has_shape = some ⟨oc_has_shape, od_has_shape, .func (PySem.W.fnOf "_has_shape" "_has_shape" (defArgs s_has_shape) (defBody s_has_shape) (defScope s_has_shape) .none kV_has_shape dc_has_shape pm_has_shape an_has_shape cd_has_shape ct_has_shape), sl_has_shape⟩) (w_has_shape : PySem.W.codeIn K cd_has_shape "_has_shape" = true) (k_has_shape : PySem.W.keepIn K (.ref f_has_shape) = true)
    (a_part : PySem.W.nsIn K mainGlobals "_part" = some (some (.ref f_part))) (l_part : K.lookup f_part = some ⟨oc_part, od_part, .func (PySem.W.fnOf "_part" "_part" (defArgs s_part) (defBody s_part) (defScope s_part) .none kV_part dc_part pm_part an_part cd_part ct_part), sl_part⟩) (w_part : PySem.W.codeIn K cd_part "_part" = true) (k_part : PySem.W.keepIn K (.ref f_part) = true)
    (a_is_right_axiom : PySem.W.nsIn K mainGlobals "_is_right_axiom" = some (some (.ref f_is_right_axiom))) (l_is_right_axiom : K.lookup f_is_right_axiom = some ⟨oc_is_right_axiom, od_is_right_axiom, .func (PySem.W.fnOf "_is_right_axiom" "_is_right_axiom" (defArgs s_is_right_axiom) (defBody s_is_right_axiom) (defScope s_is_right_axiom) .none kV_is_right_axiom dc_is_right_axiom pm_is_right_axiom an_is_right_axiom cd_is_right_axiom ct_is_right_axiom), sl_is_right_axiom⟩) (w_is_right_axiom : PySem.W.codeIn K cd_is_right_axiom "_is_right_axiom" = true) (k_is_right_axiom : PySem.W.keepIn K (.ref f_is_right_axiom) = true)
    (a_is_right_split : PySem.W.nsIn K mainGlobals "_is_right_split" = some (some (.ref f_is_right_split))) (l_is_right_split : K.lookup f_is_right_split = some ⟨oc_is_right_split, od_is_right_split, .func (PySem.W.fnOf "_is_right_split" "_is_right_split" (defArgs s_is_right_split) (defBody s_is_right_split) (defScope s_is_right_split) .none kV_is_right_split dc_is_right_split pm_is_right_split an_is_right_split cd_is_right_split ct_is_right_split), sl_is_right_split⟩) (w_is_right_split : PySem.W.codeIn K cd_is_right_split "_is_right_split" = true) (k_is_right_split : PySem.W.keepIn K (.ref f_is_right_split) = true)
    (a_is_right_need : PySem.W.nsIn K mainGlobals "_is_right_need" = some (some (.ref f_is_right_need))) (l_is_right_need : K.lookup f_is_right_need = some ⟨oc_is_right_need, od_is_right_need, .func (PySem.W.fnOf "_is_right_need" "_is_right_need" (defArgs s_is_right_need) (defBody s_is_right_need) (defScope s_is_right_need) .none kV_is_right_need dc_is_right_need pm_is_right_need an_is_right_need cd_is_right_need ct_is_right_need), sl_is_right_need⟩) (w_is_right_need : PySem.W.codeIn K cd_is_right_need "_is_right_need" = true) (k_is_right_need : PySem.W.keepIn K (.ref f_is_right_need) = true)
    (a_is_right_role : PySem.W.nsIn K mainGlobals "_is_right_role" = some (some (.ref f_is_right_role))) (l_is_right_role : K.lookup f_is_right_role = some ⟨oc_is_right_role, od_is_right_role, .func (PySem.W.fnOf "_is_right_role" "_is_right_role" (defArgs s_is_right_role) (defBody s_is_right_role) (defScope s_is_right_role) .none kV_is_right_role dc_is_right_role pm_is_right_role an_is_right_role cd_is_right_role ct_is_right_role), sl_is_right_role⟩) (w_is_right_role : PySem.W.codeIn K cd_is_right_role "_is_right_role" = true) (k_is_right_role : PySem.W.keepIn K (.ref f_is_right_role) = true)
    (a_is_right_member : PySem.W.nsIn K mainGlobals "_is_right_member" = some (some (.ref f_is_right_member))) (l_is_right_member : K.lookup f_is_right_member = some ⟨oc_is_right_member, od_is_right_member, .func (PySem.W.fnOf "_is_right_member" "_is_right_member" (defArgs s_is_right_member) (defBody s_is_right_member) (defScope s_is_right_member) .none kV_is_right_member dc_is_right_member pm_is_right_member an_is_right_member cd_is_right_member ct_is_right_member), sl_is_right_member⟩) (w_is_right_member : PySem.W.codeIn K cd_is_right_member "_is_right_member" = true) (k_is_right_member : PySem.W.keepIn K (.ref f_is_right_member) = true)
    (a_is_right_link : PySem.W.nsIn K mainGlobals "_is_right_link" = some (some (.ref f_is_right_link))) (l_is_right_link : K.lookup f_is_right_link = some ⟨oc_is_right_link, od_is_right_link, .func (PySem.W.fnOf "_is_right_link" "_is_right_link" (defArgs s_is_right_link) (defBody s_is_right_link) (defScope s_is_right_link) .none kV_is_right_link dc_is_right_link pm_is_right_link an_is_right_link cd_is_right_link ct_is_right_link), sl_is_right_link⟩) (w_is_right_link : PySem.W.codeIn K cd_is_right_link "_is_right_link" = true) (k_is_right_link : PySem.W.keepIn K (.ref f_is_right_link) = true)
    (a_is_against : PySem.W.nsIn K mainGlobals "_is_against" = some (some (.ref f_is_against))) (l_is_against : K.lookup f_is_against = some ⟨oc_is_against, od_is_against, .func (PySem.W.fnOf "_is_against" "_is_against" (defArgs s_is_against) (defBody s_is_against) (defScope s_is_against) .none kV_is_against dc_is_against pm_is_against an_is_against cd_is_against ct_is_against), sl_is_against⟩) (w_is_against : PySem.W.codeIn K cd_is_against "_is_against" = true) (k_is_against : PySem.W.keepIn K (.ref f_is_against) = true)
    (a_law_is_integer : PySem.W.nsIn K mainGlobals "_law_is_integer" = some (some (.ref f_law_is_integer))) (l_law_is_integer : K.lookup f_law_is_integer = some ⟨oc_law_is_integer, od_law_is_integer, .func (PySem.W.fnOf "_law_is_integer" "_law_is_integer" (defArgs s_law_is_integer) (defBody s_law_is_integer) (defScope s_law_is_integer) .none kV_law_is_integer dc_law_is_integer pm_law_is_integer an_law_is_integer cd_law_is_integer ct_law_is_integer), sl_law_is_integer⟩) (w_law_is_integer : PySem.W.codeIn K cd_law_is_integer "_law_is_integer" = true) (k_law_is_integer : PySem.W.keepIn K (.ref f_law_is_integer) = true)
    (a_law_cell : PySem.W.nsIn K mainGlobals "_law_cell" = some (some (.ref f_law_cell))) (l_law_cell : K.lookup f_law_cell = some ⟨oc_law_cell, od_law_cell, .func (PySem.W.fnOf "_law_cell" "_law_cell" (defArgs s_law_cell) (defBody s_law_cell) (defScope s_law_cell) .none kV_law_cell dc_law_cell pm_law_cell an_law_cell cd_law_cell ct_law_cell), sl_law_cell⟩) (w_law_cell : PySem.W.codeIn K cd_law_cell "_law_cell" = true) (k_law_cell : PySem.W.keepIn K (.ref f_law_cell) = true)
    (a_law_digits : PySem.W.nsIn K mainGlobals "_law_digits" = some (some (.ref f_law_digits))) (l_law_digits : K.lookup f_law_digits = some ⟨oc_law_digits, od_law_digits, .func (PySem.W.fnOf "_law_digits" "_law_digits" (defArgs s_law_digits) (defBody s_law_digits) (defScope s_law_digits) .none kV_law_digits dc_law_digits pm_law_digits an_law_digits cd_law_digits ct_law_digits), sl_law_digits⟩) (w_law_digits : PySem.W.codeIn K cd_law_digits "_law_digits" = true) (k_law_digits : PySem.W.keepIn K (.ref f_law_digits) = true)
    (a_law_box : PySem.W.nsIn K mainGlobals "_law_box" = some (some (.ref f_law_box))) (l_law_box : K.lookup f_law_box = some ⟨oc_law_box, od_law_box, .func (PySem.W.fnOf "_law_box" "_law_box" (defArgs s_law_box) (defBody s_law_box) (defScope s_law_box) .none kV_law_box dc_law_box pm_law_box an_law_box cd_law_box ct_law_box), sl_law_box⟩) (w_law_box : PySem.W.codeIn K cd_law_box "_law_box" = true) (k_law_box : PySem.W.keepIn K (.ref f_law_box) = true)
    (a_law_draw : PySem.W.nsIn K mainGlobals "_law_draw" = some (some (.ref f_law_draw))) (l_law_draw : K.lookup f_law_draw = some ⟨oc_law_draw, od_law_draw, .func (PySem.W.fnOf "_law_draw" "_law_draw" (defArgs s_law_draw) (defBody s_law_draw) (defScope s_law_draw) .none kV_law_draw dc_law_draw pm_law_draw an_law_draw cd_law_draw ct_law_draw), sl_law_draw⟩) (w_law_draw : PySem.W.codeIn K cd_law_draw "_law_draw" = true) (k_law_draw : PySem.W.keepIn K (.ref f_law_draw) = true)
    (a_law_role : PySem.W.nsIn K mainGlobals "_law_role" = some (some (.ref f_law_role))) (l_law_role : K.lookup f_law_role = some ⟨oc_law_role, od_law_role, .func (PySem.W.fnOf "_law_role" "_law_role" (defArgs s_law_role) (defBody s_law_role) (defScope s_law_role) .none kV_law_role dc_law_role pm_law_role an_law_role cd_law_role ct_law_role), sl_law_role⟩) (w_law_role : PySem.W.codeIn K cd_law_role "_law_role" = true) (k_law_role : PySem.W.keepIn K (.ref f_law_role) = true)
    (a_law_concept : PySem.W.nsIn K mainGlobals "_law_concept" = some (some (.ref f_law_concept))) (l_law_concept : K.lookup f_law_concept = some ⟨oc_law_concept, od_law_concept, .func (PySem.W.fnOf "_law_concept" "_law_concept" (defArgs s_law_concept) (defBody s_law_concept) (defScope s_law_concept) .none kV_law_concept dc_law_concept pm_law_concept an_law_concept cd_law_concept ct_law_concept), sl_law_concept⟩) (w_law_concept : PySem.W.codeIn K cd_law_concept "_law_concept" = true) (k_law_concept : PySem.W.keepIn K (.ref f_law_concept) = true)
    (a_law_roles_axiom : PySem.W.nsIn K mainGlobals "_law_roles_axiom" = some (some (.ref f_law_roles_axiom))) (l_law_roles_axiom : K.lookup f_law_roles_axiom = some ⟨oc_law_roles_axiom, od_law_roles_axiom, .func (PySem.W.fnOf "_law_roles_axiom" "_law_roles_axiom" (defArgs s_law_roles_axiom) (defBody s_law_roles_axiom) (defScope s_law_roles_axiom) .none kV_law_roles_axiom dc_law_roles_axiom pm_law_roles_axiom an_law_roles_axiom cd_law_roles_axiom ct_law_roles_axiom), sl_law_roles_axiom⟩) (w_law_roles_axiom : PySem.W.codeIn K cd_law_roles_axiom "_law_roles_axiom" = true) (k_law_roles_axiom : PySem.W.keepIn K (.ref f_law_roles_axiom) = true)
    (a_law_axiom : PySem.W.nsIn K mainGlobals "_law_axiom" = some (some (.ref f_law_axiom))) (l_law_axiom : K.lookup f_law_axiom = some ⟨oc_law_axiom, od_law_axiom, .func (PySem.W.fnOf "_law_axiom" "_law_axiom" (defArgs s_law_axiom) (defBody s_law_axiom) (defScope s_law_axiom) .none kV_law_axiom dc_law_axiom pm_law_axiom an_law_axiom cd_law_axiom ct_law_axiom), sl_law_axiom⟩) (w_law_axiom : PySem.W.codeIn K cd_law_axiom "_law_axiom" = true) (k_law_axiom : PySem.W.keepIn K (.ref f_law_axiom) = true)
    (a_law_gather : PySem.W.nsIn K mainGlobals "_law_gather" = some (some (.ref f_law_gather))) (l_law_gather : K.lookup f_law_gather = some ⟨oc_law_gather, od_law_gather, .func (PySem.W.fnOf "_law_gather" "_law_gather" (defArgs s_law_gather) (defBody s_law_gather) (defScope s_law_gather) .none kV_law_gather dc_law_gather pm_law_gather an_law_gather cd_law_gather ct_law_gather), sl_law_gather⟩) (w_law_gather : PySem.W.codeIn K cd_law_gather "_law_gather" = true) (k_law_gather : PySem.W.keepIn K (.ref f_law_gather) = true)
    (a_law_atoms : PySem.W.nsIn K mainGlobals "_law_atoms" = some (some (.ref f_law_atoms))) (l_law_atoms : K.lookup f_law_atoms = some ⟨oc_law_atoms, od_law_atoms, .func (PySem.W.fnOf "_law_atoms" "_law_atoms" (defArgs s_law_atoms) (defBody s_law_atoms) (defScope s_law_atoms) .none kV_law_atoms dc_law_atoms pm_law_atoms an_law_atoms cd_law_atoms ct_law_atoms), sl_law_atoms⟩) (w_law_atoms : PySem.W.codeIn K cd_law_atoms "_law_atoms" = true) (k_law_atoms : PySem.W.keepIn K (.ref f_law_atoms) = true)
    (a_law_sizes : PySem.W.nsIn K mainGlobals "_law_sizes" = some (some (.ref f_law_sizes))) (l_law_sizes : K.lookup f_law_sizes = some ⟨oc_law_sizes, od_law_sizes, .func (PySem.W.fnOf "_law_sizes" "_law_sizes" (defArgs s_law_sizes) (defBody s_law_sizes) (defScope s_law_sizes) .none kV_law_sizes dc_law_sizes pm_law_sizes an_law_sizes cd_law_sizes ct_law_sizes), sl_law_sizes⟩) (w_law_sizes : PySem.W.codeIn K cd_law_sizes "_law_sizes" = true) (k_law_sizes : PySem.W.keepIn K (.ref f_law_sizes) = true)
    (a_law_axioms : PySem.W.nsIn K mainGlobals "_law_axioms" = some (some (.ref f_law_axioms))) (l_law_axioms : K.lookup f_law_axioms = some ⟨oc_law_axioms, od_law_axioms, .func (PySem.W.fnOf "_law_axioms" "_law_axioms" (defArgs s_law_axioms) (defBody s_law_axioms) (defScope s_law_axioms) .none kV_law_axioms dc_law_axioms pm_law_axioms an_law_axioms cd_law_axioms ct_law_axioms), sl_law_axioms⟩) (w_law_axioms : PySem.W.codeIn K cd_law_axioms "_law_axioms" = true) (k_law_axioms : PySem.W.keepIn K (.ref f_law_axioms) = true)
    (a_law_subset : PySem.W.nsIn K mainGlobals "_law_subset" = some (some (.ref f_law_subset))) (l_law_subset : K.lookup f_law_subset = some ⟨oc_law_subset, od_law_subset, .func (PySem.W.fnOf "_law_subset" "_law_subset" (defArgs s_law_subset) (defBody s_law_subset) (defScope s_law_subset) .none kV_law_subset dc_law_subset pm_law_subset an_law_subset cd_law_subset ct_law_subset), sl_law_subset⟩) (w_law_subset : PySem.W.codeIn K cd_law_subset "_law_subset" = true) (k_law_subset : PySem.W.keepIn K (.ref f_law_subset) = true)
    (a_law_linked : PySem.W.nsIn K mainGlobals "_law_linked" = some (some (.ref f_law_linked))) (l_law_linked : K.lookup f_law_linked = some ⟨oc_law_linked, od_law_linked, .func (PySem.W.fnOf "_law_linked" "_law_linked" (defArgs s_law_linked) (defBody s_law_linked) (defScope s_law_linked) .none kV_law_linked dc_law_linked pm_law_linked an_law_linked cd_law_linked ct_law_linked), sl_law_linked⟩) (w_law_linked : PySem.W.codeIn K cd_law_linked "_law_linked" = true) (k_law_linked : PySem.W.keepIn K (.ref f_law_linked) = true)
    (a_law_inside : PySem.W.nsIn K mainGlobals "_law_inside" = some (some (.ref f_law_inside))) (l_law_inside : K.lookup f_law_inside = some ⟨oc_law_inside, od_law_inside, .func (PySem.W.fnOf "_law_inside" "_law_inside" (defArgs s_law_inside) (defBody s_law_inside) (defScope s_law_inside) .none kV_law_inside dc_law_inside pm_law_inside an_law_inside cd_law_inside ct_law_inside), sl_law_inside⟩) (w_law_inside : PySem.W.codeIn K cd_law_inside "_law_inside" = true) (k_law_inside : PySem.W.keepIn K (.ref f_law_inside) = true)
    (a_law_fault : PySem.W.nsIn K mainGlobals "_law_fault" = some (some (.ref f_law_fault))) (l_law_fault : K.lookup f_law_fault = some ⟨oc_law_fault, od_law_fault, .func (PySem.W.fnOf "_law_fault" "_law_fault" (defArgs s_law_fault) (defBody s_law_fault) (defScope s_law_fault) .none kV_law_fault dc_law_fault pm_law_fault an_law_fault cd_law_fault ct_law_fault), sl_law_fault⟩) (w_law_fault : PySem.W.codeIn K cd_law_fault "_law_fault" = true) (k_law_fault : PySem.W.keepIn K (.ref f_law_fault) = true)
    (a_law_holds_in : PySem.W.nsIn K mainGlobals "_law_holds_in" = some (some (.ref f_law_holds_in))) (l_law_holds_in : K.lookup f_law_holds_in = some ⟨oc_law_holds_in, od_law_holds_in, .func (PySem.W.fnOf "_law_holds_in" "_law_holds_in" (defArgs s_law_holds_in) (defBody s_law_holds_in) (defScope s_law_holds_in) .none kV_law_holds_in dc_law_holds_in pm_law_holds_in an_law_holds_in cd_law_holds_in ct_law_holds_in), sl_law_holds_in⟩) (w_law_holds_in : PySem.W.codeIn K cd_law_holds_in "_law_holds_in" = true) (k_law_holds_in : PySem.W.keepIn K (.ref f_law_holds_in) = true)
    (a_law_model : PySem.W.nsIn K mainGlobals "_law_model" = some (some (.ref f_law_model))) (l_law_model : K.lookup f_law_model = some ⟨oc_law_model, od_law_model, .func (PySem.W.fnOf "_law_model" "_law_model" (defArgs s_law_model) (defBody s_law_model) (defScope s_law_model) .none kV_law_model dc_law_model pm_law_model an_law_model cd_law_model ct_law_model), sl_law_model⟩) (w_law_model : PySem.W.codeIn K cd_law_model "_law_model" = true) (k_law_model : PySem.W.keepIn K (.ref f_law_model) = true)
    (a_law_back : PySem.W.nsIn K mainGlobals "_law_back" = some (some (.ref f_law_back))) (l_law_back : K.lookup f_law_back = some ⟨oc_law_back, od_law_back, .func (PySem.W.fnOf "_law_back" "_law_back" (defArgs s_law_back) (defBody s_law_back) (defScope s_law_back) .none kV_law_back dc_law_back pm_law_back an_law_back cd_law_back ct_law_back), sl_law_back⟩) (w_law_back : PySem.W.codeIn K cd_law_back "_law_back" = true) (k_law_back : PySem.W.keepIn K (.ref f_law_back) = true)
    (a_law_steps : PySem.W.nsIn K mainGlobals "_law_steps" = some (some (.ref f_law_steps))) (l_law_steps : K.lookup f_law_steps = some ⟨oc_law_steps, od_law_steps, .func (PySem.W.fnOf "_law_steps" "_law_steps" (defArgs s_law_steps) (defBody s_law_steps) (defScope s_law_steps) .none kV_law_steps dc_law_steps pm_law_steps an_law_steps cd_law_steps ct_law_steps), sl_law_steps⟩) (w_law_steps : PySem.W.codeIn K cd_law_steps "_law_steps" = true) (k_law_steps : PySem.W.keepIn K (.ref f_law_steps) = true)
    (a_law_places_of : PySem.W.nsIn K mainGlobals "_law_places_of" = some (some (.ref f_law_places_of))) (l_law_places_of : K.lookup f_law_places_of = some ⟨oc_law_places_of, od_law_places_of, .func (PySem.W.fnOf "_law_places_of" "_law_places_of" (defArgs s_law_places_of) (defBody s_law_places_of) (defScope s_law_places_of) .none kV_law_places_of dc_law_places_of pm_law_places_of an_law_places_of cd_law_places_of ct_law_places_of), sl_law_places_of⟩) (w_law_places_of : PySem.W.codeIn K cd_law_places_of "_law_places_of" = true) (k_law_places_of : PySem.W.keepIn K (.ref f_law_places_of) = true)
    (a_law_picked : PySem.W.nsIn K mainGlobals "_law_picked" = some (some (.ref f_law_picked))) (l_law_picked : K.lookup f_law_picked = some ⟨oc_law_picked, od_law_picked, .func (PySem.W.fnOf "_law_picked" "_law_picked" (defArgs s_law_picked) (defBody s_law_picked) (defScope s_law_picked) .none kV_law_picked dc_law_picked pm_law_picked an_law_picked cd_law_picked ct_law_picked), sl_law_picked⟩) (w_law_picked : PySem.W.codeIn K cd_law_picked "_law_picked" = true) (k_law_picked : PySem.W.keepIn K (.ref f_law_picked) = true)
    (a_law_role_line : PySem.W.nsIn K mainGlobals "_law_role_line" = some (some (.ref f_law_role_line))) (l_law_role_line : K.lookup f_law_role_line = some ⟨oc_law_role_line, od_law_role_line, .func (PySem.W.fnOf "_law_role_line" "_law_role_line" (defArgs s_law_role_line) (defBody s_law_role_line) (defScope s_law_role_line) .none kV_law_role_line dc_law_role_line pm_law_role_line an_law_role_line cd_law_role_line ct_law_role_line), sl_law_role_line⟩) (w_law_role_line : PySem.W.codeIn K cd_law_role_line "_law_role_line" = true) (k_law_role_line : PySem.W.keepIn K (.ref f_law_role_line) = true)
    (a_law_link_line : PySem.W.nsIn K mainGlobals "_law_link_line" = some (some (.ref f_law_link_line))) (l_law_link_line : K.lookup f_law_link_line = some ⟨oc_law_link_line, od_law_link_line, .func (PySem.W.fnOf "_law_link_line" "_law_link_line" (defArgs s_law_link_line) (defBody s_law_link_line) (defScope s_law_link_line) .none kV_law_link_line dc_law_link_line pm_law_link_line an_law_link_line cd_law_link_line ct_law_link_line), sl_law_link_line⟩) (w_law_link_line : PySem.W.codeIn K cd_law_link_line "_law_link_line" = true) (k_law_link_line : PySem.W.keepIn K (.ref f_law_link_line) = true)
    (a_law_axiom_line : PySem.W.nsIn K mainGlobals "_law_axiom_line" = some (some (.ref f_law_axiom_line))) (l_law_axiom_line : K.lookup f_law_axiom_line = some ⟨oc_law_axiom_line, od_law_axiom_line, .func (PySem.W.fnOf "_law_axiom_line" "_law_axiom_line" (defArgs s_law_axiom_line) (defBody s_law_axiom_line) (defScope s_law_axiom_line) .none kV_law_axiom_line dc_law_axiom_line pm_law_axiom_line an_law_axiom_line cd_law_axiom_line ct_law_axiom_line), sl_law_axiom_line⟩) (w_law_axiom_line : PySem.W.codeIn K cd_law_axiom_line "_law_axiom_line" = true) (k_law_axiom_line : PySem.W.keepIn K (.ref f_law_axiom_line) = true)
    (a_law_later_line : PySem.W.nsIn K mainGlobals "_law_later_line" = some (some (.ref f_law_later_line))) (l_law_later_line : K.lookup f_law_later_line = some ⟨oc_law_later_line, od_law_later_line, .func (PySem.W.fnOf "_law_later_line" "_law_later_line" (defArgs s_law_later_line) (defBody s_law_later_line) (defScope s_law_later_line) .none kV_law_later_line dc_law_later_line pm_law_later_line an_law_later_line cd_law_later_line ct_law_later_line), sl_law_later_line⟩) (w_law_later_line : PySem.W.codeIn K cd_law_later_line "_law_later_line" = true) (k_law_later_line : PySem.W.keepIn K (.ref f_law_later_line) = true)
    (a_law_line : PySem.W.nsIn K mainGlobals "_law_line" = some (some (.ref f_law_line))) (l_law_line : K.lookup f_law_line = some ⟨oc_law_line, od_law_line, .func (PySem.W.fnOf "_law_line" "_law_line" (defArgs s_law_line) (defBody s_law_line) (defScope s_law_line) .none kV_law_line dc_law_line pm_law_line an_law_line cd_law_line ct_law_line), sl_law_line⟩) (w_law_line : PySem.W.codeIn K cd_law_line "_law_line" = true) (k_law_line : PySem.W.keepIn K (.ref f_law_line) = true)
    (a_law_spoilt : PySem.W.nsIn K mainGlobals "_law_spoilt" = some (some (.ref f_law_spoilt))) (l_law_spoilt : K.lookup f_law_spoilt = some ⟨oc_law_spoilt, od_law_spoilt, .func (PySem.W.fnOf "_law_spoilt" "_law_spoilt" (defArgs s_law_spoilt) (defBody s_law_spoilt) (defScope s_law_spoilt) .none kV_law_spoilt dc_law_spoilt pm_law_spoilt an_law_spoilt cd_law_spoilt ct_law_spoilt), sl_law_spoilt⟩) (w_law_spoilt : PySem.W.codeIn K cd_law_spoilt "_law_spoilt" = true) (k_law_spoilt : PySem.W.keepIn K (.ref f_law_spoilt) = true)
    (a_law_lines : PySem.W.nsIn K mainGlobals "_law_lines" = some (some (.ref f_law_lines))) (l_law_lines : K.lookup f_law_lines = some ⟨oc_law_lines, od_law_lines, .func (PySem.W.fnOf "_law_lines" "_law_lines" (defArgs s_law_lines) (defBody s_law_lines) (defScope s_law_lines) .none kV_law_lines dc_law_lines pm_law_lines an_law_lines cd_law_lines ct_law_lines), sl_law_lines⟩) (w_law_lines : PySem.W.codeIn K cd_law_lines "_law_lines" = true) (k_law_lines : PySem.W.keepIn K (.ref f_law_lines) = true)
    (a_law_refutes : PySem.W.nsIn K mainGlobals "_law_refutes" = some (some (.ref f_law_refutes))) (l_law_refutes : K.lookup f_law_refutes = some ⟨oc_law_refutes, od_law_refutes, .func (PySem.W.fnOf "_law_refutes" "_law_refutes" (defArgs s_law_refutes) (defBody s_law_refutes) (defScope s_law_refutes) .none kV_law_refutes dc_law_refutes pm_law_refutes an_law_refutes cd_law_refutes ct_law_refutes), sl_law_refutes⟩) (w_law_refutes : PySem.W.codeIn K cd_law_refutes "_law_refutes" = true) (k_law_refutes : PySem.W.keepIn K (.ref f_law_refutes) = true)
    (a_law : PySem.W.nsIn K mainGlobals "law" = some (some (.ref f_law))) (l_law : K.lookup f_law = some ⟨oc_law, od_law, .func (PySem.W.fnOf "law" "law" (defArgs s_law) (defBody s_law) (defScope s_law) .none kV_law dc_law pm_law an_law cd_law ct_law), sl_law⟩) (w_law : PySem.W.codeIn K cd_law "law" = true) (k_law : PySem.W.keepIn K (.ref f_law) = true)
    (y_all : PySem.W.nsIn K mainGlobals "all" = some none)
    (y_any : PySem.W.nsIn K mainGlobals "any" = some none)
    (y_bool : PySem.W.nsIn K mainGlobals "bool" = some none)
    (y_inLB : PySem.W.nsIn K mainGlobals "inLB" = some none)
    (y_inT : PySem.W.nsIn K mainGlobals "inT" = some none)
    (y_int : PySem.W.nsIn K mainGlobals "int" = some none)
    (y_isinstance : PySem.W.nsIn K mainGlobals "isinstance" = some none)
    (y_len : PySem.W.nsIn K mainGlobals "len" = some none)
    (y_list : PySem.W.nsIn K mainGlobals "list" = some none)
    (y_min : PySem.W.nsIn K mainGlobals "min" = some none)
    (y_range : PySem.W.nsIn K mainGlobals "range" = some none)
    (y_tuple : PySem.W.nsIn K mainGlobals "tuple" = some none) :
    ∃ fd : FuncData, (∀ (s : Shared) (v : Value), BindsTo s fd ⟨[v], []⟩ [("script", v)]) ∧ ∀ base : Heap, K.In base → base.Ns mainGlobals mg → FnOk l.prog w K mg base CX0 206 fa fd ["script"] (spLaw K) := by
  refine Pf.Gate.out ?_
  simp (disch := (with_unfolding_all (
      have e := hfa.symm.trans (PySem.W.mg_of X G a_law)
      cases e
      have D_inverse : Df K mg "inverse" s_inverse f_inverse _ ["role"] := ⟨fun_mk (st := s_inverse) l_inverse w_inverse k_inverse, PySem.W.mg_of X G a_inverse, k_inverse, (fun_mk (st := s_inverse) l_inverse w_inverse k_inverse).binds (ps := ["role"]) fun _ _ _ _ _ _ us hl => match us, hl with | [_], _ => rfl⟩
      have D_is_certain : Df K mg "is_certain" s_is_certain f_is_certain _ ["has", "place", "concept", "holds"] := ⟨fun_mk (st := s_is_certain) l_is_certain w_is_certain k_is_certain, PySem.W.mg_of X G a_is_certain, k_is_certain, (fun_mk (st := s_is_certain) l_is_certain w_is_certain k_is_certain).binds (ps := ["has", "place", "concept", "holds"]) fun _ _ _ _ _ _ us hl => match us, hl with | [_, _, _, _], _ => rfl⟩
      have D_role_behind : Df K mg "role_behind" s_role_behind f_role_behind _ ["ontology", "places", "role", "steps"] := ⟨fun_mk (st := s_role_behind) l_role_behind w_role_behind k_role_behind, PySem.W.mg_of X G a_role_behind, k_role_behind, (fun_mk (st := s_role_behind) l_role_behind w_role_behind k_role_behind).binds (ps := ["ontology", "places", "role", "steps"]) fun _ _ _ _ _ _ us hl => match us, hl with | [_, _, _, _], _ => rfl⟩
      have D_is_right : Df K mg "is_right" s_is_right f_is_right _ ["ontology", "places", "before", "line"] := ⟨fun_mk (st := s_is_right) l_is_right w_is_right k_is_right, PySem.W.mg_of X G a_is_right, k_is_right, (fun_mk (st := s_is_right) l_is_right w_is_right k_is_right).binds (ps := ["ontology", "places", "before", "line"]) fun _ _ _ _ _ _ us hl => match us, hl with | [_, _, _, _], _ => rfl⟩
      have D_known : Df K mg "_known" s_known f_known _ ["has", "place"] := ⟨fun_mk (st := s_known) l_known w_known k_known, PySem.W.mg_of X G a_known, k_known, (fun_mk (st := s_known) l_known w_known k_known).binds (ps := ["has", "place"]) fun _ _ _ _ _ _ us hl => match us, hl with | [_, _], _ => rfl⟩
      have D_is_settled : Df K mg "_is_settled" s_is_settled f_is_settled _ ["known", "concept", "holds"] := ⟨fun_mk (st := s_is_settled) l_is_settled w_is_settled k_is_settled, PySem.W.mg_of X G a_is_settled, k_is_settled, (fun_mk (st := s_is_settled) l_is_settled w_is_settled k_is_settled).binds (ps := ["known", "concept", "holds"]) fun _ _ _ _ _ _ us hl => match us, hl with | [_, _, _], _ => rfl⟩
      have D_are_certain : Df K mg "_are_certain" s_are_certain f_are_certain _ ["has", "rows"] := ⟨fun_mk (st := s_are_certain) l_are_certain w_are_certain k_are_certain, PySem.W.mg_of X G a_are_certain, k_are_certain, (fun_mk (st := s_are_certain) l_are_certain w_are_certain k_are_certain).binds (ps := ["has", "rows"]) fun _ _ _ _ _ _ us hl => match us, hl with | [_, _], _ => rfl⟩
      have D_moved : Df K mg "_moved" s_moved f_moved _ ["line", "place"] := ⟨fun_mk (st := s_moved) l_moved w_moved k_moved, PySem.W.mg_of X G a_moved, k_moved, (fun_mk (st := s_moved) l_moved w_moved k_moved).binds (ps := ["line", "place"]) fun _ _ _ _ _ _ us hl => match us, hl with | [_, _], _ => rfl⟩
      have D_has_shape : Df K mg "_has_shape" s_has_shape f_has_shape _ ["before", "number", "shape"] := ⟨fun_mk (st := s_has_shape) l_has_shape w_has_shape k_has_shape, PySem.W.mg_of X G a_has_shape, k_has_shape, (fun_mk (st := s_has_shape) l_has_shape w_has_shape k_has_shape).binds (ps := ["before", "number", "shape"]) fun _ _ _ _ _ _ us hl => match us, hl with | [_, _, _], _ => rfl⟩
      have D_part : Df K mg "_part" s_part f_part _ ["ontology", "places", "axiom", "part", "kind"] := ⟨fun_mk (st := s_part) l_part w_part k_part, PySem.W.mg_of X G a_part, k_part, (fun_mk (st := s_part) l_part w_part k_part).binds (ps := ["ontology", "places", "axiom", "part", "kind"]) fun _ _ _ _ _ _ us hl => match us, hl with | [_, _, _, _, _], _ => rfl⟩
      have D_is_right_axiom : Df K mg "_is_right_axiom" s_is_right_axiom f_is_right_axiom _ ["ontology", "places", "rows", "reason"] := ⟨fun_mk (st := s_is_right_axiom) l_is_right_axiom w_is_right_axiom k_is_right_axiom, PySem.W.mg_of X G a_is_right_axiom, k_is_right_axiom, (fun_mk (st := s_is_right_axiom) l_is_right_axiom w_is_right_axiom k_is_right_axiom).binds (ps := ["ontology", "places", "rows", "reason"]) fun _ _ _ _ _ _ us hl => match us, hl with | [_, _, _, _], _ => rfl⟩
      have D_is_right_split : Df K mg "_is_right_split" s_is_right_split f_is_right_split _ ["before", "shape", "rows", "reason"] := ⟨fun_mk (st := s_is_right_split) l_is_right_split w_is_right_split k_is_right_split, PySem.W.mg_of X G a_is_right_split, k_is_right_split, (fun_mk (st := s_is_right_split) l_is_right_split w_is_right_split k_is_right_split).binds (ps := ["before", "shape", "rows", "reason"]) fun _ _ _ _ _ _ us hl => match us, hl with | [_, _, _, _], _ => rfl⟩
      have D_is_right_need : Df K mg "_is_right_need" s_is_right_need f_is_right_need _ ["before", "rows", "reason"] := ⟨fun_mk (st := s_is_right_need) l_is_right_need w_is_right_need k_is_right_need, PySem.W.mg_of X G a_is_right_need, k_is_right_need, (fun_mk (st := s_is_right_need) l_is_right_need w_is_right_need k_is_right_need).binds (ps := ["before", "rows", "reason"]) fun _ _ _ _ _ _ us hl => match us, hl with | [_, _, _], _ => rfl⟩
      have D_is_right_role : Df K mg "_is_right_role" s_is_right_role f_is_right_role _ ["ontology", "places", "line"] := ⟨fun_mk (st := s_is_right_role) l_is_right_role w_is_right_role k_is_right_role, PySem.W.mg_of X G a_is_right_role, k_is_right_role, (fun_mk (st := s_is_right_role) l_is_right_role w_is_right_role k_is_right_role).binds (ps := ["ontology", "places", "line"]) fun _ _ _ _ _ _ us hl => match us, hl with | [_, _, _], _ => rfl⟩
      have D_is_right_member : Df K mg "_is_right_member" s_is_right_member f_is_right_member _ ["ontology", "places", "line"] := ⟨fun_mk (st := s_is_right_member) l_is_right_member w_is_right_member k_is_right_member, PySem.W.mg_of X G a_is_right_member, k_is_right_member, (fun_mk (st := s_is_right_member) l_is_right_member w_is_right_member k_is_right_member).binds (ps := ["ontology", "places", "line"]) fun _ _ _ _ _ _ us hl => match us, hl with | [_, _, _], _ => rfl⟩
      have D_is_right_link : Df K mg "_is_right_link" s_is_right_link f_is_right_link _ ["ontology", "places", "line"] := ⟨fun_mk (st := s_is_right_link) l_is_right_link w_is_right_link k_is_right_link, PySem.W.mg_of X G a_is_right_link, k_is_right_link, (fun_mk (st := s_is_right_link) l_is_right_link w_is_right_link k_is_right_link).binds (ps := ["ontology", "places", "line"]) fun _ _ _ _ _ _ us hl => match us, hl with | [_, _, _], _ => rfl⟩
      have D_is_against : Df K mg "_is_against" s_is_against f_is_against _ ["rows", "role", "backwards", "concept", "pair"] := ⟨fun_mk (st := s_is_against) l_is_against w_is_against k_is_against, PySem.W.mg_of X G a_is_against, k_is_against, (fun_mk (st := s_is_against) l_is_against w_is_against k_is_against).binds (ps := ["rows", "role", "backwards", "concept", "pair"]) fun _ _ _ _ _ _ us hl => match us, hl with | [_, _, _, _, _], _ => rfl⟩
      have D_law_is_integer : Df K mg "_law_is_integer" s_law_is_integer f_law_is_integer _ ["actual"] := ⟨fun_mk (st := s_law_is_integer) l_law_is_integer w_law_is_integer k_law_is_integer, PySem.W.mg_of X G a_law_is_integer, k_law_is_integer, (fun_mk (st := s_law_is_integer) l_law_is_integer w_law_is_integer k_law_is_integer).binds (ps := ["actual"]) fun _ _ _ _ _ _ us hl => match us, hl with | [_], _ => rfl⟩
      have D_law_cell : Df K mg "_law_cell" s_law_cell f_law_cell _ ["script", "k"] := ⟨fun_mk (st := s_law_cell) l_law_cell w_law_cell k_law_cell, PySem.W.mg_of X G a_law_cell, k_law_cell, (fun_mk (st := s_law_cell) l_law_cell w_law_cell k_law_cell).binds (ps := ["script", "k"]) fun _ _ _ _ _ _ us hl => match us, hl with | [_, _], _ => rfl⟩
      have D_law_digits : Df K mg "_law_digits" s_law_digits f_law_digits _ ["cell", "at"] := ⟨fun_mk (st := s_law_digits) l_law_digits w_law_digits k_law_digits, PySem.W.mg_of X G a_law_digits, k_law_digits, (fun_mk (st := s_law_digits) l_law_digits w_law_digits k_law_digits).binds (ps := ["cell", "at"]) fun _ _ _ _ _ _ us hl => match us, hl with | [_, _], _ => rfl⟩
      have D_law_box : Df K mg "_law_box" s_law_box f_law_box _ ["script", "at"] := ⟨fun_mk (st := s_law_box) l_law_box w_law_box k_law_box, PySem.W.mg_of X G a_law_box, k_law_box, (fun_mk (st := s_law_box) l_law_box w_law_box k_law_box).binds (ps := ["script", "at"]) fun _ _ _ _ _ _ us hl => match us, hl with | [_, _], _ => rfl⟩
      have D_law_draw : Df K mg "_law_draw" s_law_draw f_law_draw _ ["box", "many"] := ⟨fun_mk (st := s_law_draw) l_law_draw w_law_draw k_law_draw, PySem.W.mg_of X G a_law_draw, k_law_draw, (fun_mk (st := s_law_draw) l_law_draw w_law_draw k_law_draw).binds (ps := ["box", "many"]) fun _ _ _ _ _ _ us hl => match us, hl with | [_, _], _ => rfl⟩
      have D_law_role : Df K mg "_law_role" s_law_role f_law_role _ ["box", "sizes"] := ⟨fun_mk (st := s_law_role) l_law_role w_law_role k_law_role, PySem.W.mg_of X G a_law_role, k_law_role, (fun_mk (st := s_law_role) l_law_role w_law_role k_law_role).binds (ps := ["box", "sizes"]) fun _ _ _ _ _ _ us hl => match us, hl with | [_, _], _ => rfl⟩
      have D_law_concept : Df K mg "_law_concept" s_law_concept f_law_concept _ ["box", "sizes", "depth"] := ⟨fun_mk (st := s_law_concept) l_law_concept w_law_concept k_law_concept, PySem.W.mg_of X G a_law_concept, k_law_concept, (fun_mk (st := s_law_concept) l_law_concept w_law_concept k_law_concept).binds (ps := ["box", "sizes", "depth"]) fun _ _ _ _ _ _ us hl => match us, hl with | [_, _, _], _ => rfl⟩
      have D_law_roles_axiom : Df K mg "_law_roles_axiom" s_law_roles_axiom f_law_roles_axiom _ ["box", "sizes", "both"] := ⟨fun_mk (st := s_law_roles_axiom) l_law_roles_axiom w_law_roles_axiom k_law_roles_axiom, PySem.W.mg_of X G a_law_roles_axiom, k_law_roles_axiom, (fun_mk (st := s_law_roles_axiom) l_law_roles_axiom w_law_roles_axiom k_law_roles_axiom).binds (ps := ["box", "sizes", "both"]) fun _ _ _ _ _ _ us hl => match us, hl with | [_, _, _], _ => rfl⟩
      have D_law_axiom : Df K mg "_law_axiom" s_law_axiom f_law_axiom _ ["box", "sizes", "depth"] := ⟨fun_mk (st := s_law_axiom) l_law_axiom w_law_axiom k_law_axiom, PySem.W.mg_of X G a_law_axiom, k_law_axiom, (fun_mk (st := s_law_axiom) l_law_axiom w_law_axiom k_law_axiom).binds (ps := ["box", "sizes", "depth"]) fun _ _ _ _ _ _ us hl => match us, hl with | [_, _, _], _ => rfl⟩
      have D_law_gather : Df K mg "_law_gather" s_law_gather f_law_gather _ ["concept", "found"] := ⟨fun_mk (st := s_law_gather) l_law_gather w_law_gather k_law_gather, PySem.W.mg_of X G a_law_gather, k_law_gather, (fun_mk (st := s_law_gather) l_law_gather w_law_gather k_law_gather).binds (ps := ["concept", "found"]) fun _ _ _ _ _ _ us hl => match us, hl with | [_, _], _ => rfl⟩
      have D_law_atoms : Df K mg "_law_atoms" s_law_atoms f_law_atoms _ ["axioms", "questions"] := ⟨fun_mk (st := s_law_atoms) l_law_atoms w_law_atoms k_law_atoms, PySem.W.mg_of X G a_law_atoms, k_law_atoms, (fun_mk (st := s_law_atoms) l_law_atoms w_law_atoms k_law_atoms).binds (ps := ["axioms", "questions"]) fun _ _ _ _ _ _ us hl => match us, hl with | [_, _], _ => rfl⟩
      have D_law_sizes : Df K mg "_law_sizes" s_law_sizes f_law_sizes _ ["script"] := ⟨fun_mk (st := s_law_sizes) l_law_sizes w_law_sizes k_law_sizes, PySem.W.mg_of X G a_law_sizes, k_law_sizes, (fun_mk (st := s_law_sizes) l_law_sizes w_law_sizes k_law_sizes).binds (ps := ["script"]) fun _ _ _ _ _ _ us hl => match us, hl with | [_], _ => rfl⟩
      have D_law_axioms : Df K mg "_law_axioms" s_law_axioms f_law_axioms _ ["script", "sizes", "many", "room", "depth"] := ⟨fun_mk (st := s_law_axioms) l_law_axioms w_law_axioms k_law_axioms, PySem.W.mg_of X G a_law_axioms, k_law_axioms, (fun_mk (st := s_law_axioms) l_law_axioms w_law_axioms k_law_axioms).binds (ps := ["script", "sizes", "many", "room", "depth"]) fun _ _ _ _ _ _ us hl => match us, hl with | [_, _, _, _, _], _ => rfl⟩
      have D_law_subset : Df K mg "_law_subset" s_law_subset f_law_subset _ ["cell", "many"] := ⟨fun_mk (st := s_law_subset) l_law_subset w_law_subset k_law_subset, PySem.W.mg_of X G a_law_subset, k_law_subset, (fun_mk (st := s_law_subset) l_law_subset w_law_subset k_law_subset).binds (ps := ["cell", "many"]) fun _ _ _ _ _ _ us hl => match us, hl with | [_, _], _ => rfl⟩
      have D_law_linked : Df K mg "_law_linked" s_law_linked f_law_linked _ ["model", "role", "first", "second"] := ⟨fun_mk (st := s_law_linked) l_law_linked w_law_linked k_law_linked, PySem.W.mg_of X G a_law_linked, k_law_linked, (fun_mk (st := s_law_linked) l_law_linked w_law_linked k_law_linked).binds (ps := ["model", "role", "first", "second"]) fun _ _ _ _ _ _ us hl => match us, hl with | [_, _, _, _], _ => rfl⟩
      have D_law_inside : Df K mg "_law_inside" s_law_inside f_law_inside _ ["model", "concept"] := ⟨fun_mk (st := s_law_inside) l_law_inside w_law_inside k_law_inside, PySem.W.mg_of X G a_law_inside, k_law_inside, (fun_mk (st := s_law_inside) l_law_inside w_law_inside k_law_inside).binds (ps := ["model", "concept"]) fun _ _ _ _ _ _ us hl => match us, hl with | [_, _], _ => rfl⟩
      have D_law_fault : Df K mg "_law_fault" s_law_fault f_law_fault _ ["model", "part"] := ⟨fun_mk (st := s_law_fault) l_law_fault w_law_fault k_law_fault, PySem.W.mg_of X G a_law_fault, k_law_fault, (fun_mk (st := s_law_fault) l_law_fault w_law_fault k_law_fault).binds (ps := ["model", "part"]) fun _ _ _ _ _ _ us hl => match us, hl with | [_, _], _ => rfl⟩
      have D_law_holds_in : Df K mg "_law_holds_in" s_law_holds_in f_law_holds_in _ ["model", "axiom"] := ⟨fun_mk (st := s_law_holds_in) l_law_holds_in w_law_holds_in k_law_holds_in, PySem.W.mg_of X G a_law_holds_in, k_law_holds_in, (fun_mk (st := s_law_holds_in) l_law_holds_in w_law_holds_in k_law_holds_in).binds (ps := ["model", "axiom"]) fun _ _ _ _ _ _ us hl => match us, hl with | [_, _], _ => rfl⟩
      have D_law_model : Df K mg "_law_model" s_law_model f_law_model _ ["box", "sizes", "most"] := ⟨fun_mk (st := s_law_model) l_law_model w_law_model k_law_model, PySem.W.mg_of X G a_law_model, k_law_model, (fun_mk (st := s_law_model) l_law_model w_law_model k_law_model).binds (ps := ["box", "sizes", "most"]) fun _ _ _ _ _ _ us hl => match us, hl with | [_, _, _], _ => rfl⟩
      have D_law_back : Df K mg "_law_back" s_law_back f_law_back _ ["role"] := ⟨fun_mk (st := s_law_back) l_law_back w_law_back k_law_back, PySem.W.mg_of X G a_law_back, k_law_back, (fun_mk (st := s_law_back) l_law_back w_law_back k_law_back).binds (ps := ["role"]) fun _ _ _ _ _ _ us hl => match us, hl with | [_], _ => rfl⟩
      have D_law_steps : Df K mg "_law_steps" s_law_steps f_law_steps _ ["box", "axioms", "role"] := ⟨fun_mk (st := s_law_steps) l_law_steps w_law_steps k_law_steps, PySem.W.mg_of X G a_law_steps, k_law_steps, (fun_mk (st := s_law_steps) l_law_steps w_law_steps k_law_steps).binds (ps := ["box", "axioms", "role"]) fun _ _ _ _ _ _ us hl => match us, hl with | [_, _, _], _ => rfl⟩
      have D_law_places_of : Df K mg "_law_places_of" s_law_places_of f_law_places_of _ ["axioms", "kind"] := ⟨fun_mk (st := s_law_places_of) l_law_places_of w_law_places_of k_law_places_of, PySem.W.mg_of X G a_law_places_of, k_law_places_of, (fun_mk (st := s_law_places_of) l_law_places_of w_law_places_of k_law_places_of).binds (ps := ["axioms", "kind"]) fun _ _ _ _ _ _ us hl => match us, hl with | [_, _], _ => rfl⟩
      have D_law_picked : Df K mg "_law_picked" s_law_picked f_law_picked _ ["box", "rows"] := ⟨fun_mk (st := s_law_picked) l_law_picked w_law_picked k_law_picked, PySem.W.mg_of X G a_law_picked, k_law_picked, (fun_mk (st := s_law_picked) l_law_picked w_law_picked k_law_picked).binds (ps := ["box", "rows"]) fun _ _ _ _ _ _ us hl => match us, hl with | [_, _], _ => rfl⟩
      have D_law_role_line : Df K mg "_law_role_line" s_law_role_line f_law_role_line _ ["box", "axioms", "sizes", "concept"] := ⟨fun_mk (st := s_law_role_line) l_law_role_line w_law_role_line k_law_role_line, PySem.W.mg_of X G a_law_role_line, k_law_role_line, (fun_mk (st := s_law_role_line) l_law_role_line w_law_role_line k_law_role_line).binds (ps := ["box", "axioms", "sizes", "concept"]) fun _ _ _ _ _ _ us hl => match us, hl with | [_, _, _, _], _ => rfl⟩
      have D_law_link_line : Df K mg "_law_link_line" s_law_link_line f_law_link_line _ ["box", "axioms", "concept"] := ⟨fun_mk (st := s_law_link_line) l_law_link_line w_law_link_line k_law_link_line, PySem.W.mg_of X G a_law_link_line, k_law_link_line, (fun_mk (st := s_law_link_line) l_law_link_line w_law_link_line k_law_link_line).binds (ps := ["box", "axioms", "concept"]) fun _ _ _ _ _ _ us hl => match us, hl with | [_, _, _], _ => rfl⟩
      have D_law_axiom_line : Df K mg "_law_axiom_line" s_law_axiom_line f_law_axiom_line _ ["box", "axioms", "shape", "place"] := ⟨fun_mk (st := s_law_axiom_line) l_law_axiom_line w_law_axiom_line k_law_axiom_line, PySem.W.mg_of X G a_law_axiom_line, k_law_axiom_line, (fun_mk (st := s_law_axiom_line) l_law_axiom_line w_law_axiom_line k_law_axiom_line).binds (ps := ["box", "axioms", "shape", "place"]) fun _ _ _ _ _ _ us hl => match us, hl with | [_, _, _, _], _ => rfl⟩
      have D_law_later_line : Df K mg "_law_later_line" s_law_later_line f_law_later_line _ ["box", "lines", "shape", "place"] := ⟨fun_mk (st := s_law_later_line) l_law_later_line w_law_later_line k_law_later_line, PySem.W.mg_of X G a_law_later_line, k_law_later_line, (fun_mk (st := s_law_later_line) l_law_later_line w_law_later_line k_law_later_line).binds (ps := ["box", "lines", "shape", "place"]) fun _ _ _ _ _ _ us hl => match us, hl with | [_, _, _, _], _ => rfl⟩
      have D_law_line : Df K mg "_law_line" s_law_line f_law_line _ ["box", "axioms", "sizes", "lines"] := ⟨fun_mk (st := s_law_line) l_law_line w_law_line k_law_line, PySem.W.mg_of X G a_law_line, k_law_line, (fun_mk (st := s_law_line) l_law_line w_law_line k_law_line).binds (ps := ["box", "axioms", "sizes", "lines"]) fun _ _ _ _ _ _ us hl => match us, hl with | [_, _, _, _], _ => rfl⟩
      have D_law_spoilt : Df K mg "_law_spoilt" s_law_spoilt f_law_spoilt _ ["box", "line", "sizes"] := ⟨fun_mk (st := s_law_spoilt) l_law_spoilt w_law_spoilt k_law_spoilt, PySem.W.mg_of X G a_law_spoilt, k_law_spoilt, (fun_mk (st := s_law_spoilt) l_law_spoilt w_law_spoilt k_law_spoilt).binds (ps := ["box", "line", "sizes"]) fun _ _ _ _ _ _ us hl => match us, hl with | [_, _, _], _ => rfl⟩
      have D_law_lines : Df K mg "_law_lines" s_law_lines f_law_lines _ ["script", "first", "many", "axioms", "sizes"] := ⟨fun_mk (st := s_law_lines) l_law_lines w_law_lines k_law_lines, PySem.W.mg_of X G a_law_lines, k_law_lines, (fun_mk (st := s_law_lines) l_law_lines w_law_lines k_law_lines).binds (ps := ["script", "first", "many", "axioms", "sizes"]) fun _ _ _ _ _ _ us hl => match us, hl with | [_, _, _, _, _], _ => rfl⟩
      have D_law_refutes : Df K mg "_law_refutes" s_law_refutes f_law_refutes _ ["model", "line", "ones"] := ⟨fun_mk (st := s_law_refutes) l_law_refutes w_law_refutes k_law_refutes, PySem.W.mg_of X G a_law_refutes, k_law_refutes, (fun_mk (st := s_law_refutes) l_law_refutes w_law_refutes k_law_refutes).binds (ps := ["model", "line", "ones"]) fun _ _ _ _ _ _ us hl => match us, hl with | [_, _, _], _ => rfl⟩
      have z_all : mg "all" = none := PySem.W.mg_none_of X G y_all
      have z_any : mg "any" = none := PySem.W.mg_none_of X G y_any
      have z_bool : mg "bool" = none := PySem.W.mg_none_of X G y_bool
      have z_inLB : mg "inLB" = none := PySem.W.mg_none_of X G y_inLB
      have z_inT : mg "inT" = none := PySem.W.mg_none_of X G y_inT
      have z_int : mg "int" = none := PySem.W.mg_none_of X G y_int
      have z_isinstance : mg "isinstance" = none := PySem.W.mg_none_of X G y_isinstance
      have z_len : mg "len" = none := PySem.W.mg_none_of X G y_len
      have z_list : mg "list" = none := PySem.W.mg_none_of X G y_list
      have z_min : mg "min" = none := PySem.W.mg_none_of X G y_min
      have z_range : mg "range" = none := PySem.W.mg_none_of X G y_range
      have z_tuple : mg "tuple" = none := PySem.W.mg_none_of X G y_tuple
      have F_law := fun_mk (st := s_law) l_law w_law k_law
      refine ⟨PySem.W.fnOf "law" "law" (defArgs s_law) (defBody s_law) (defScope s_law) .none kV_law dc_law pm_law an_law cd_law ct_law, fun s v => .of_eq rfl, fun base _ _ => ?_⟩
      have cc := c_law_cell (P := l.prog) (w := w) (base := base) D_law_cell z_len
      have cb := c_law_box D_law_box cc (c_law_digits D_law_digits z_int z_range)
      have cdr := c_law_draw (P := l.prog) (w := w) (base := base) D_law_draw z_len z_int
      have cr := c_law_role D_law_role cdr
      have co := c_law_concept D_law_concept cdr cr 3
      have ca := c_law_atoms D_law_atoms (c_law_gather (P := l.prog) (w := w) (base := base) D_law_gather 4 (by decide)) z_list
      have csu := c_law_subset (P := l.prog) (w := w) (base := base) D_law_subset z_int z_range z_tuple
      have cbk := c_law_back (P := l.prog) (w := w) (base := base) D_law_back
      have cst := c_law_steps D_law_steps cdr cbk z_range z_len z_tuple
      have cpt := c_part (P := l.prog) (w := w) (base := base) D_part z_len
      have civ := c_inverse (P := l.prog) (w := w) (base := base) D_inverse
      have crb := c_role_behind D_role_behind cpt civ
      have cse := c_is_settled (P := l.prog) (w := w) (base := base) D_is_settled z_all z_any 200
      have cic := c_is_certain D_is_certain (c_known D_known) cse
      have cac := c_are_certain D_are_certain (c_known D_known) cse
      have cmv := c_movedL (P := l.prog) (w := w) (base := base) D_moved
      have chs := c_has_shape (P := l.prog) (w := w) (base := base) D_has_shape z_len
      have cag := c_is_against D_is_against cic civ
      have cir := c_is_right D_is_right cic (c_is_right_axiom D_is_right_axiom cic cpt) chs cac cmv (c_is_right_split D_is_right_split chs cac) (c_is_right_need D_is_right_need chs cic cac) (c_is_right_role D_is_right_role crb cag) (c_is_right_member D_is_right_member cic cpt) (c_is_right_link D_is_right_link crb cpt cag)
      have cpo := c_law_places_of (P := l.prog) (w := w) (base := base) D_law_places_of z_len z_range
      have cpi := c_law_picked D_law_picked cdr z_len
      have cin := c_law_is_integerD (P := l.prog) (w := w) (base := base) D_law_is_integer z_isinstance z_int z_bool
      have cln := c_law_line (N := 200) (by decide) D_law_line cdr cr co (c_law_axiom_line D_law_axiom_line cdr cpo cpi) (c_law_later_line D_law_later_line cdr z_len z_tuple z_list) (c_law_role_line (by decide) D_law_role_line cdr cr cst cbk) (c_law_link_line (by decide) D_law_link_line cdr cpo cpi cst cbk)
      have cls := c_law_lines D_law_lines cb cln (c_law_spoilt D_law_spoilt cdr co cin z_len z_list z_tuple z_range z_min) z_range z_tuple
      have cra := c_law_roles_axiom D_law_roles_axiom cr
      have cll := c_law_linked (P := l.prog) (w := w) (base := base) D_law_linked
      have cli := c_law_inside D_law_inside cll z_len z_range z_list z_any
      have clf := c_law_fault D_law_fault cll (cli 4) z_len z_range
      exact ok_law F_law cc cb (c_law_sizes D_law_sizes cb cdr) (c_law_axioms D_law_axioms cb (c_law_axiom (by decide) D_law_axiom cdr cr cra co) ca z_len z_range z_tuple) cls (c_law_model D_law_model cdr csu z_range z_int z_tuple) (c_law_holds_in D_law_holds_in clf z_all) cir (c_law_refutes D_law_refutes (cli 200) cll z_len z_range z_list z_all z_any) z_len z_range z_tuple
    ))) only [↓Pf.Gate.lem]
end Pf
open PySem PySem.W PyProof.Rows
set_option maxHeartbeats 0 in
theorem PySem.Challenge.cw_ontoworks_k31_right_lines_hold_in_models_holds : PySem.Challenge.rw_ontoworks_k31_right_lines_hold_in_models.Holds := by
  refine Pf.Gate.out ?_
  simp (disch := (with_unfolding_all (
      w_on; o_law; k_head; (case hw => w_witness2)
      k_fill
      refine L2.walk_of (l := PySem.Challenge.rw_ontoworks_k31_right_lines_hold_in_models) (n := 63) (k := 206) (x := "script") (CX := fun _ => L2.CX0) (sp := fun w => Pf.spLaw _) rfl (by decide) rfl ⟨rfl, by decide, by decide⟩ (fun w h Y => PySem.W.kIn_of Y) ?F (fun _ _ a ns hl _ hS => ⟨a, ns, rfl, hS, hl, fun _ => rfl⟩) (fun _ _ _ _ _ h => h)
      case F =>
        intro w mg fa h KX G hmg
        refine' Pf.all_mk KX G hmg ?a_inverse ?l_inverse ?w_inverse ?k_inverse ?a_is_certain ?l_is_certain ?w_is_certain ?k_is_certain ?a_role_behind ?l_role_behind ?w_role_behind ?k_role_behind ?a_is_right ?l_is_right ?w_is_right ?k_is_right ?a_known ?l_known ?w_known ?k_known ?a_is_settled ?l_is_settled ?w_is_settled ?k_is_settled ?a_are_certain ?l_are_certain ?w_are_certain ?k_are_certain ?a_moved ?l_moved ?w_moved ?k_moved ?a_has_shape ?l_has_shape ?w_has_shape ?k_has_shape ?a_part ?l_part ?w_part ?k_part ?a_is_right_axiom ?l_is_right_axiom ?w_is_right_axiom ?k_is_right_axiom ?a_is_right_split ?l_is_right_split ?w_is_right_split ?k_is_right_split ?a_is_right_need ?l_is_right_need ?w_is_right_need ?k_is_right_need ?a_is_right_role ?l_is_right_role ?w_is_right_role ?k_is_right_role ?a_is_right_member ?l_is_right_member ?w_is_right_member ?k_is_right_member ?a_is_right_link ?l_is_right_link ?w_is_right_link ?k_is_right_link ?a_is_against ?l_is_against ?w_is_against ?k_is_against ?a_law_is_integer ?l_law_is_integer ?w_law_is_integer ?k_law_is_integer ?a_law_cell ?l_law_cell ?w_law_cell ?k_law_cell ?a_law_digits ?l_law_digits ?w_law_digits ?k_law_digits ?a_law_box ?l_law_box ?w_law_box ?k_law_box ?a_law_draw ?l_law_draw ?w_law_draw ?k_law_draw ?a_law_role ?l_law_role ?w_law_role ?k_law_role ?a_law_concept ?l_law_concept ?w_law_concept ?k_law_concept ?a_law_roles_axiom ?l_law_roles_axiom ?w_law_roles_axiom ?k_law_roles_axiom ?a_law_axiom ?l_law_axiom ?w_law_axiom ?k_law_axiom ?a_law_gather ?l_law_gather ?w_law_gather ?k_law_gather ?a_law_atoms ?l_law_atoms ?w_law_atoms ?k_law_atoms ?a_law_sizes ?l_law_sizes ?w_law_sizes ?k_law_sizes ?a_law_axioms ?l_law_axioms ?w_law_axioms ?k_law_axioms ?a_law_subset ?l_law_subset ?w_law_subset ?k_law_subset ?a_law_linked ?l_law_linked ?w_law_linked ?k_law_linked ?a_law_inside ?l_law_inside ?w_law_inside ?k_law_inside ?a_law_fault ?l_law_fault ?w_law_fault ?k_law_fault ?a_law_holds_in ?l_law_holds_in ?w_law_holds_in ?k_law_holds_in ?a_law_model ?l_law_model ?w_law_model ?k_law_model ?a_law_back ?l_law_back ?w_law_back ?k_law_back ?a_law_steps ?l_law_steps ?w_law_steps ?k_law_steps ?a_law_places_of ?l_law_places_of ?w_law_places_of ?k_law_places_of ?a_law_picked ?l_law_picked ?w_law_picked ?k_law_picked ?a_law_role_line ?l_law_role_line ?w_law_role_line ?k_law_role_line ?a_law_link_line ?l_law_link_line ?w_law_link_line ?k_law_link_line ?a_law_axiom_line ?l_law_axiom_line ?w_law_axiom_line ?k_law_axiom_line ?a_law_later_line ?l_law_later_line ?w_law_later_line ?k_law_later_line ?a_law_line ?l_law_line ?w_law_line ?k_law_line ?a_law_spoilt ?l_law_spoilt ?w_law_spoilt ?k_law_spoilt ?a_law_lines ?l_law_lines ?w_law_lines ?k_law_lines ?a_law_refutes ?l_law_refutes ?w_law_refutes ?k_law_refutes ?a_law ?l_law ?w_law ?k_law ?y_all ?y_any ?y_bool ?y_inLB ?y_inT ?y_int ?y_isinstance ?y_len ?y_list ?y_min ?y_range ?y_tuple
        (case a_inverse => k_is)
        (case l_inverse => k_is)
        (case w_inverse => k_is)
        (case k_inverse => k_is)
        (case a_is_certain => k_is)
        (case l_is_certain => k_is)
        (case w_is_certain => k_is)
        (case k_is_certain => k_is)
        (case a_role_behind => k_is)
        (case l_role_behind => k_is)
        (case w_role_behind => k_is)
        (case k_role_behind => k_is)
        (case a_is_right => k_is)
        (case l_is_right => k_is)
        (case w_is_right => k_is)
        (case k_is_right => k_is)
        (case a_known => k_is)
        (case l_known => k_is)
        (case w_known => k_is)
        (case k_known => k_is)
        (case a_is_settled => k_is)
        (case l_is_settled => k_is)
        (case w_is_settled => k_is)
        (case k_is_settled => k_is)
        (case a_are_certain => k_is)
        (case l_are_certain => k_is)
        (case w_are_certain => k_is)
        (case k_are_certain => k_is)
        (case a_moved => k_is)
        (case l_moved => k_is)
        (case w_moved => k_is)
        (case k_moved => k_is)
        (case a_has_shape => k_is)
        (case l_has_shape => k_is)
        (case w_has_shape => k_is)
        (case k_has_shape => k_is)
        (case a_part => k_is)
        (case l_part => k_is)
        (case w_part => k_is)
        (case k_part => k_is)
        (case a_is_right_axiom => k_is)
        (case l_is_right_axiom => k_is)
        (case w_is_right_axiom => k_is)
        (case k_is_right_axiom => k_is)
        (case a_is_right_split => k_is)
        (case l_is_right_split => k_is)
        (case w_is_right_split => k_is)
        (case k_is_right_split => k_is)
        (case a_is_right_need => k_is)
        (case l_is_right_need => k_is)
        (case w_is_right_need => k_is)
        (case k_is_right_need => k_is)
        (case a_is_right_role => k_is)
        (case l_is_right_role => k_is)
        (case w_is_right_role => k_is)
        (case k_is_right_role => k_is)
        (case a_is_right_member => k_is)
        (case l_is_right_member => k_is)
        (case w_is_right_member => k_is)
        (case k_is_right_member => k_is)
        (case a_is_right_link => k_is)
        (case l_is_right_link => k_is)
        (case w_is_right_link => k_is)
        (case k_is_right_link => k_is)
        (case a_is_against => k_is)
        (case l_is_against => k_is)
        (case w_is_against => k_is)
        (case k_is_against => k_is)
        (case a_law_is_integer => k_is)
        (case l_law_is_integer => k_is)
        (case w_law_is_integer => k_is)
        (case k_law_is_integer => k_is)
        (case a_law_cell => k_is)
        (case l_law_cell => k_is)
        (case w_law_cell => k_is)
        (case k_law_cell => k_is)
        (case a_law_digits => k_is)
        (case l_law_digits => k_is)
        (case w_law_digits => k_is)
        (case k_law_digits => k_is)
        (case a_law_box => k_is)
        (case l_law_box => k_is)
        (case w_law_box => k_is)
        (case k_law_box => k_is)
        (case a_law_draw => k_is)
        (case l_law_draw => k_is)
        (case w_law_draw => k_is)
        (case k_law_draw => k_is)
        (case a_law_role => k_is)
        (case l_law_role => k_is)
        (case w_law_role => k_is)
        (case k_law_role => k_is)
        (case a_law_concept => k_is)
        (case l_law_concept => k_is)
        (case w_law_concept => k_is)
        (case k_law_concept => k_is)
        (case a_law_roles_axiom => k_is)
        (case l_law_roles_axiom => k_is)
        (case w_law_roles_axiom => k_is)
        (case k_law_roles_axiom => k_is)
        (case a_law_axiom => k_is)
        (case l_law_axiom => k_is)
        (case w_law_axiom => k_is)
        (case k_law_axiom => k_is)
        (case a_law_gather => k_is)
        (case l_law_gather => k_is)
        (case w_law_gather => k_is)
        (case k_law_gather => k_is)
        (case a_law_atoms => k_is)
        (case l_law_atoms => k_is)
        (case w_law_atoms => k_is)
        (case k_law_atoms => k_is)
        (case a_law_sizes => k_is)
        (case l_law_sizes => k_is)
        (case w_law_sizes => k_is)
        (case k_law_sizes => k_is)
        (case a_law_axioms => k_is)
        (case l_law_axioms => k_is)
        (case w_law_axioms => k_is)
        (case k_law_axioms => k_is)
        (case a_law_subset => k_is)
        (case l_law_subset => k_is)
        (case w_law_subset => k_is)
        (case k_law_subset => k_is)
        (case a_law_linked => k_is)
        (case l_law_linked => k_is)
        (case w_law_linked => k_is)
        (case k_law_linked => k_is)
        (case a_law_inside => k_is)
        (case l_law_inside => k_is)
        (case w_law_inside => k_is)
        (case k_law_inside => k_is)
        (case a_law_fault => k_is)
        (case l_law_fault => k_is)
        (case w_law_fault => k_is)
        (case k_law_fault => k_is)
        (case a_law_holds_in => k_is)
        (case l_law_holds_in => k_is)
        (case w_law_holds_in => k_is)
        (case k_law_holds_in => k_is)
        (case a_law_model => k_is)
        (case l_law_model => k_is)
        (case w_law_model => k_is)
        (case k_law_model => k_is)
        (case a_law_back => k_is)
        (case l_law_back => k_is)
        (case w_law_back => k_is)
        (case k_law_back => k_is)
        (case a_law_steps => k_is)
        (case l_law_steps => k_is)
        (case w_law_steps => k_is)
        (case k_law_steps => k_is)
        (case a_law_places_of => k_is)
        (case l_law_places_of => k_is)
        (case w_law_places_of => k_is)
        (case k_law_places_of => k_is)
        (case a_law_picked => k_is)
        (case l_law_picked => k_is)
        (case w_law_picked => k_is)
        (case k_law_picked => k_is)
        (case a_law_role_line => k_is)
        (case l_law_role_line => k_is)
        (case w_law_role_line => k_is)
        (case k_law_role_line => k_is)
        (case a_law_link_line => k_is)
        (case l_law_link_line => k_is)
        (case w_law_link_line => k_is)
        (case k_law_link_line => k_is)
        (case a_law_axiom_line => k_is)
        (case l_law_axiom_line => k_is)
        (case w_law_axiom_line => k_is)
        (case k_law_axiom_line => k_is)
        (case a_law_later_line => k_is)
        (case l_law_later_line => k_is)
        (case w_law_later_line => k_is)
        (case k_law_later_line => k_is)
        (case a_law_line => k_is)
        (case l_law_line => k_is)
        (case w_law_line => k_is)
        (case k_law_line => k_is)
        (case a_law_spoilt => k_is)
        (case l_law_spoilt => k_is)
        (case w_law_spoilt => k_is)
        (case k_law_spoilt => k_is)
        (case a_law_lines => k_is)
        (case l_law_lines => k_is)
        (case w_law_lines => k_is)
        (case k_law_lines => k_is)
        (case a_law_refutes => k_is)
        (case l_law_refutes => k_is)
        (case w_law_refutes => k_is)
        (case k_law_refutes => k_is)
        (case a_law => k_is)
        (case l_law => k_is)
        (case w_law => k_is)
        (case k_law => k_is)
        (case y_all => k_is)
        (case y_any => k_is)
        (case y_bool => k_is)
        (case y_inLB => k_is)
        (case y_inT => k_is)
        (case y_int => k_is)
        (case y_isinstance => k_is)
        (case y_len => k_is)
        (case y_list => k_is)
        (case y_min => k_is)
        (case y_range => k_is)
        (case y_tuple => k_is)
    ))) only [↓Pf.Gate.lem]