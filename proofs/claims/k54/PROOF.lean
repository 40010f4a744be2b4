import PyProof.Rows.All
import Wide.All
import OpenK.AllK
import Wide.FinOn
import HandS.ForMost
import HandS.StrMore
import HandS.IsInst
import HandS.FStr
import HandS.Wide
import HandS.Flow
import HandS.TupAny
import HandS.Evl
import HandS.More
import HandS.CallLocal
import HandS.Strs
import HandS.Replace
import HandS.ReplaceList
import HandS.Deep
import HandS.Walk
import HandS.MethStar
import KE.KStar
import HandS.Conv
import HandS.TupMul
import HandS.Style
import HandS.SetBool
import HandS.Gcd
import HandS.EndTab
import KE.KRevSl
import KE.SortData
import KE.SortKeyHeap
import KE.OsSortAny
import KE.GoesMore
import KE.KMathGC
import HandS.DictComp
import HandS.Flt
import HandS.ExcInit
import HandS.ExcOwn
import HandS.WordsExc
import HandS.ExcField
import PySem.Challenge.RW_ontoworks_k54_whole_meaning
set_option Elab.async false
set_option linter.all false
set_option maxRecDepth 100000
set_option maxHeartbeats 4000000

namespace Pf
open PySem PySem.Spec PyProof.Rows L2
/-- a def of the top under its name, bound without defaults -/
structure Df (K : PySem.W.Frag) (mg : Str → Option Value) (x : Str) (st : Stmt) (f : Addr) (fd : FuncData) (ps : List Str) : Prop where
  fn : Fun K x x st f fd
  mgf : mg x = some (.ref f)
  kp : PySem.W.keepIn K (.ref f) = true
  bd : Binds K fd ps []
/-- a def that keeps a promise, by its name -/
structure Cl (P : Program) (w : World) (K : PySem.W.Frag) (mg : Str → Option Value) (base : Heap) (k : Nat) (x : Str) (sp : Sp) : Prop where
  ex : ∃ (f : Addr) (fd : FuncData) (ps : List Str), FnOk P w K mg base CX0 k f fd ps sp ∧ mg x = some (.ref f) ∧ PySem.W.keepIn K (.ref f) = true ∧ Binds K fd ps []
section
variable {P : Program} {w : World} {K : PySem.W.Frag} {mg : Str → Option Value} {base : Heap}
theorem Df.cl {x : Str} {st : Stmt} {f : Addr} {fd : FuncData} {ps N : List Str} {k : Nat} {sp : Sp} (D : Df K mg x st f fd ps) (S : FnScope N ps (defScope st)) (len : ∀ vs H Q E, sp vs H Q E → vs.length = ps.length)
    (hbody : ∀ (cdv : Value) (A : Around) (outer : List Env) (s : Shared) (H : Hp) (vs : List V) (Q : VK) (E : XK), Room k (A.deeper (envOfC x (defScope st) s.heap.objs.size f cdv)) → sp vs H Q E →
      ∃ t, PSs (cxOf CX0 P w K mg base N x (defScope st) f cdv A outer s H E).nox (defBody st) t ∧ t { nx := fun _ H' => Q .non H', rt := Q } (start N vs) H) : Cl P w K mg base (k + 1) x sp :=
  ⟨f, fd, ps, D.fn.ok S len hbody, D.mgf, D.kp, D.bd⟩
theorem Cl.imp {x : Str} {k : Nat} {sp sp' : Sp} (c : Cl P w K mg base k x sp) (h : ∀ vs H Q E, sp' vs H Q E → sp vs H Q E) : Cl P w K mg base k x sp' := by
  obtain ⟨f, fd, ps, F, r⟩ := c.ex
  exact ⟨f, fd, ps, F.imp h, r⟩
theorem Cl.mono {x : Str} {k j : Nat} {sp : Sp} (c : Cl P w K mg base k x sp) (h : k ≤ j) : Cl P w K mg base j x sp := by
  obtain ⟨f, fd, ps, F, r⟩ := c.ex
  exact ⟨f, fd, ps, F.mono h, r⟩
end
section
variable {X : Cx} {k j : Nat} {x : Str} {sp : Sp} {p pos : Pos} {e : Expr} {es : List Expr} {t : TA}
theorem pc (c : Cl X.prog X.w X.K X.mg X.base k x sp) (hr : Room j X.A) (hk : k ≤ j) (hg : Gl X x) (ha : PA X (e :: es) t)
    (hdb : (x == ("__debug__" : Str)) = false := by decide) (he : starEach (e :: es) X.env = (false, eval e X.env) :: starEach es X.env := by rfl) (hpl : (backTo pos (starEach es X.env)).any (·.1) = false := by rfl) :
    PE X (.Call (.Name x p) (e :: es) [] pos) (tCall sp [] E0 t) := by
  obtain ⟨f, fd, ps, F, hm, kp, b⟩ := c.ex
  exact pe_call F (hr.mono hk) hg hm kp b .nil pass0 ha hdb he hpl
theorem pc0 (c : Cl X.prog X.w X.K X.mg X.base k x sp) (hr : Room j X.A) (hk : k ≤ j) (hg : Gl X x)
    (hdb : (x == ("__debug__" : Str)) = false := by decide) :
    PE X (.Call (.Name x p) [] [] pos) (tCall sp [] E0 tNil) := by
  obtain ⟨f, fd, ps, F, hm, kp, b⟩ := c.ex
  exact pe_call0 F (hr.mono hk) hg hm kp b .nil pass0 hdb
end
/-! heaps -/
theorem Same.new {H : Hp} {p : Addr} (o : HO) (h : H p = none) : Same H (upd H p o) := fun b u e => by
  rw [upd_ne (ne_of_none e h)]
  exact e
theorem Same.seqT {K : PySem.W.Frag} {H H' : Hp} {a : Addr} {xs : List V} (e : Same H H') (h : SqT K H a xs) : SqT K H' a xs := by
  rcases h with (h | ⟨o, h⟩) | h
  · exact .inl (.inl (e _ _ h))
  · exact .inl (.inr ⟨o, e _ _ h⟩)
  · exact .inr h
theorem upd_self {H : Hp} {a : Addr} {o : HO} (h : H a = some o) : upd H a o = H := by
  funext b
  unfold upd
  split
  · rename_i e
    rw [e, h]
  · rfl
/-! one short for the sign of a code -/
abbrev sg (c : Nat) : Str := ⟨#[c]⟩
/-! a written tuple of texts -/
def StrIts : List Value → List Str → Bool
  | [], [] => true
  | .str x _ :: vs, y :: ys => decide (x = y) && StrIts vs ys
  | _, _ => false
theorem strIts_vals : ∀ {vs : List Value} {ys : List Str}, StrIts vs ys = true → Vals (ys.map V.str) vs
  | [], [], _ => .nil
  | .str x t :: vs, y :: ys, h => by
    unfold StrIts at h
    rw [Bool.and_eq_true] at h
    have e := of_decide_eq_true h.1
    subst e
    exact .cons ⟨t, rfl⟩ (strIts_vals h.2)
theorem sqt_of {K : PySem.W.Frag} {H : Hp} {a : Addr} {od : Option Addr} {its : Array Value} {n : Nat} {sl : Array (Option Value)} {ys : List Str} (l : K.lookup a = some ⟨.type "tuple", od, .seq its n, sl⟩) (h : StrIts its.toList ys = true) (hs : decide (its.size ≤ 1000) = true) : SqT K H a (ys.map V.str) :=
  .inr ⟨_, its, n, l, rfl, rfl, Nat.le_trans (of_decide_eq_true hs) (by decide), strIts_vals h⟩
/-! the drawing helpers: what a caller needs of them -/
/-- _law_cell: some int -/
def spCell (K : PySem.W.Frag) : Sp := fun vs H Q _ => ∃ (a : Addr) (ns : List Int) (k : Int), vs = [.ref a, .int k] ∧ SqL K H a (ns.map V.int) ∧ ns.length ≤ 63 ∧ 0 ≤ k ∧ ∀ c : Int, Q (.int c) H
/-- _law_draws: a new list of so many ints, none below 0 -/
def spDraws (K : PySem.W.Frag) : Sp := fun vs H Q _ => ∃ (a : Addr) (ns : List Int) (k n : Int), vs = [.ref a, .int k, .int n] ∧ SqL K H a (ns.map V.int) ∧ ns.length ≤ 63 ∧ 0 ≤ k ∧ 0 ≤ n ∧ n ≤ 1000 ∧
  ∀ (ds : List Int) (p : Addr) (H' : Hp), Same H H' → H p = none → H' p = some (.lst (ds.map V.int)) → (ds.length : Int) = n → Q (.ref p) H'
/-- _law_take: an int below m; the list without its first -/
def spTake : Sp := fun vs H Q _ => ∃ (l : Addr) (ds : List Int) (m : Int), vs = [.ref l, .int m] ∧ H l = some (.lst (ds.map V.int)) ∧ 0 < m ∧ ∀ r : Int, 0 ≤ r → r < m → Q (.int r) (upd H l (.lst (ds.tail.map V.int)))
theorem map_tail {ds : List Int} : (ds.map V.int).tail = ds.tail.map V.int := by cases ds <;> rfl
theorem eraseIdx0 {α : Type} (xs : List α) : xs.eraseIdx 0 = xs.tail := by cases xs <;> rfl
/-- text * count -/
def rMulS : R2 := fun x y H Q => ∃ (z : Str) (n : Int), x = .str z ∧ y = .int n ∧ 0 ≤ n ∧ n ≤ 1000 ∧ z.length ≤ 10000 ∧ Q (.str (Txt.mul z n)) H
theorem mul_ok {z : Str} {n : Int} (h0 : 0 ≤ n) (h1 : n ≤ 1000) (hz : z.length ≤ 10000) : MulOk z n := by
  refine ⟨?_, fun h2 _ => ?_, fun _ _ => ?_⟩
  · rw [decide_eq_false (by omega), decide_eq_false (by omega)]
    rfl
  · intro h3
    have h4 : (2 ^ 63 - 1) / n ≥ (2 ^ 63 - 1) / 1000 := by
      refine Int.le_ediv_of_mul_le (by omega) ?_
      have : (2 ^ 63 - 1 : Int) / 1000 * n ≤ (2 ^ 63 - 1) / 1000 * 1000 := Int.mul_le_mul_of_nonneg_left h1 (by decide)
      exact Int.le_trans this (by decide)
    have h5 : ((2 : Int) ^ 63 - 1) / 1000 ≥ 10001 := by decide
    omega
  · unfold Builtin.Str.tooLong
    refine decide_eq_false ?_
    have : z.length * n.toNat ≤ 10000 * 1000 := Nat.mul_le_mul hz (by omega)
    have : sizeLine ≥ 10000000 := by decide
    omega
theorem op_mul_str {X : Cx} : OpR X (binaryOp .Mult) rMulS := by
  intro pins s σ H x y v u Q I rx ry h
  obtain ⟨z, n, rfl, rfl, h0, h1, hz, q⟩ := h
  obtain ⟨t, rfl⟩ := rx
  obtain ⟨t', rfl⟩ := ry
  exact PySem.SB.mul (mul_ok h0 h1 hz) fun t' k => ⟨.str (Txt.mul z n), H, I.tok _, ⟨_, rfl⟩, q⟩
/-- data of tuples, so many deep -/
def TupN : Nat → PyData → Prop
  | 0, _ => False
  | n + 1, .tuple ds => ds.length ≤ 100000 ∧ ∀ d ∈ ds, TupN n d
  | _ + 1, .list _ => False
  | _ + 1, .dict _ => False
  | _ + 1, _ => True
/-- _law_same upon the same data twice -/
def spSame (K : PySem.W.Frag) (n : Nat) : Sp := fun vs H Q _ => ∃ (x y : V) (d : PyData), vs = [x, y] ∧ Dp K H x d ∧ Dp K H y d ∧ TupN n d ∧ ∀ H', Same H H' → Q (.bl true) H'
theorem dpAll_len {K : PySem.W.Frag} {H : Hp} : ∀ {vs : List V} {ds : List PyData}, DpAll K H vs ds → vs.length = ds.length
  | _, _, .nil => rfl
  | _, _, .cons _ t => congrArg Nat.succ (dpAll_len t)
theorem dpAll_at {K : PySem.W.Frag} {H : Hp} : ∀ {vs : List V} {ds : List PyData}, DpAll K H vs ds → ∀ (i : Nat) (v : V) (d : PyData), vs[i]? = some v → ds[i]? = some d → Dp K H v d
  | _, _, .nil, i, v, d, h, _ => by simp at h
  | _, _, .cons a _, 0, v, d, h, h' => by
    simp at h h'
    rw [← h, ← h']
    exact a
  | _, _, .cons _ t, i + 1, v, d, h, h' => dpAll_at t i v d (by simpa using h) (by simpa using h')
mutual
theorem Dp.same {K : PySem.W.Frag} {H H' : Hp} (e : Same H H') : ∀ {d : PyData} {v : V}, Dp K H v d → Dp K H' v d
  | _, _, .non => .non
  | _, _, .bl b => .bl b
  | _, _, .int i => .int i
  | _, _, .str x => .str x
  | _, _, .lst h a => .lst (e.seq h) (DpAll.same e a)
  | _, _, .tup h a => .tup (Same.seqT e h) (DpAll.same e a)
theorem DpAll.same {K : PySem.W.Frag} {H H' : Hp} (e : Same H H') : ∀ {ds : List PyData} {vs : List V}, DpAll K H vs ds → DpAll K H' vs ds
  | _, _, .nil => .nil
  | _, _, .cons a t => .cons (Dp.same e a) (DpAll.same e t)
end
theorem tyT {K : PySem.W.Frag} {H : Hp} {a : Addr} {xs : List V} (h : SqT K H a xs) : TyX K H (.ref a) (.type "tuple") := by
  rcases h with (h | ⟨o, h⟩) | ⟨o, _, _, h, hc, _⟩
  · exact .base (.tup h)
  · exact .fTuple h
  · exact .kTuple h hc
theorem atI_some {α : Type} {xs : List α} {i : Nat} (h : i < xs.length) : atI xs (i : Int) = some xs[i] := atI_nat (List.getElem?_eq_getElem h)
/-- a sign that a text may have -/
def ChrOk (c : Nat) : Prop := 32 ≤ c ∧ c ≤ 126 ∧ c ≠ 37
instance (c : Nat) : Decidable (ChrOk c) := inferInstanceAs (Decidable (_ ∧ _))
def spChar : Sp := fun vs H Q _ => ∃ d : Int, vs = [.int d] ∧ ∀ c : Nat, ChrOk c → Q (.str (sg c)) H
/-! rules whose reading names the written part, said with it given (a comprehension's block wants that) -/
theorem ixT {X : Cx} {K : PySem.W.Frag} (h : X.K = K := by rfl) : IxR X (rIxT K) := by
  subst h
  exact ix_tup
theorem ixL {X : Cx} {K : PySem.W.Frag} (h : X.K = K := by rfl) : IxR X (rIxL K) := by
  subst h
  exact ix_list
def rLenQ (K : PySem.W.Frag) : List V → Hp → VK → Prop := fun xs H Q => ∃ p ys, xs = [.ref p] ∧ (SqL K H p ys ∨ SqT K H p ys) ∧ Q (.int ys.length) H
theorem lenQ {X : Cx} {K : PySem.W.Frag} (h : X.K = K := by rfl) : CallR X (.builtin "len") (rLenQ K) := by
  subst h
  exact call_len_seq
section
variable {K : PySem.W.Frag} {σ : L2.St} {H : Hp} {i : Nat} {x : V} {t T : String} {tt u : TS} {D : Ends}
theorem ev_isi {b : Bool} {Q : VK} (h : σ[i]? = some (some x)) (ty : TyX K H x (.type t)) (k : kitB t T = some b) (q : Q (.bl b) H) : tCB (rIsi K) (tCons (tVar i) (tCons (tC (.ty T)) tNil)) σ H Q := ⟨x, h, x, .ty T, _, _, b, rfl, .ty _, ty, kit_ty k, q⟩
theorem if_isiF (h : σ[i]? = some (some x)) (ty : TyX K H x (.type t)) (k : kitB t T = some false) (q : u D σ H) : tIfS (tB (tCB (rIsi K) (tCons (tVar i) (tCons (tC (.ty T)) tNil)))) tt u D σ H := ev_isi h ty k ⟨_, rfl, iteF q⟩
theorem if_isiT (h : σ[i]? = some (some x)) (ty : TyX K H x (.type t)) (k : kitB t T = some true) (q : tt D σ H) : tIfS (tB (tCB (rIsi K) (tCons (tVar i) (tCons (tC (.ty T)) tNil)))) tt u D σ H := ev_isi h ty k ⟨_, rfl, iteT q⟩
end
/-- an object that H does not know may change -/
theorem Same.mut {H H1 : Hp} {p : Addr} (o : HO) (e : Same H H1) (n : H p = none) : Same H (upd H1 p o) := fun b u h => by
  rw [upd_ne (ne_of_none h n)]
  exact e b u h
end Pf
namespace Pf
open PySem PySem.Spec PyProof.Rows L2
/-! data of tuples stands while lists change -/
def KT (K : PySem.W.Frag) (H H' : Hp) : Prop := ∀ a xs, SqT K H a xs → SqT K H' a xs
theorem KT.of {K : PySem.W.Frag} {H H' : Hp} (e : Same H H') : KT K H H' := fun _ _ h => Same.seqT e h
theorem KT.trans {K : PySem.W.Frag} {H H1 H2 : Hp} (a : KT K H H1) (b : KT K H1 H2) : KT K H H2 := fun x xs h => b x xs (a x xs h)
theorem KT.lst {K : PySem.W.Frag} {H : Hp} {l : Addr} {xs : List V} (o : HO) (h : H l = some (.lst xs)) : KT K H (upd H l o) := fun a ys q => by
  rcases q with (q | ⟨ob, q⟩) | q
  · exact .inl (.inl ((upd_ne (ne_of q h (by intro z; cases z))).trans q))
  · exact .inl (.inr ⟨ob, (upd_ne (ne_of q h (by intro z; cases z))).trans q⟩)
  · exact .inr q
theorem KT.ins {K : PySem.W.Frag} {H : Hp} {l C dx : Addr} {fs : List (Str × V)} (o : HO) (h : H l = some (.ins C dx fs)) : KT K H (upd H l o) := fun a ys q => by
  rcases q with (q | ⟨ob, q⟩) | q
  · exact .inl (.inl ((upd_ne (ne_of q h (by intro z; cases z))).trans q))
  · exact .inl (.inr ⟨ob, (upd_ne (ne_of q h (by intro z; cases z))).trans q⟩)
  · exact .inr q
theorem KT.new {K : PySem.W.Frag} {H : Hp} {l : Addr} (o : HO) (h : H l = none) : KT K H (upd H l o) := KT.of (Same.new o h)
mutual
theorem Dp.kt {K : PySem.W.Frag} {H H' : Hp} (e : KT K H H') : ∀ {n : Nat} {d : PyData} {v : V}, TupN n d → Dp K H v d → Dp K H' v d
  | _, _, _, _, .non => .non
  | _, _, _, _, .bl b => .bl b
  | _, _, _, _, .int i => .int i
  | _, _, _, _, .str x => .str x
  | 0, _, _, z, .lst _ _ => z.elim
  | _ + 1, _, _, z, .lst _ _ => z.elim
  | 0, _, _, z, .tup _ _ => z.elim
  | _ + 1, _, _, z, .tup h a => .tup (e _ _ h) (DpAll.kt e z.2 a)
theorem DpAll.kt {K : PySem.W.Frag} {H H' : Hp} (e : KT K H H') : ∀ {n : Nat} {ds : List PyData} {vs : List V}, (∀ d ∈ ds, TupN n d) → DpAll K H vs ds → DpAll K H' vs ds
  | _, _, _, _, .nil => .nil
  | _, _, _, z, .cons a t => .cons (Dp.kt e (z _ (List.mem_cons_self ..)) a) (DpAll.kt e (fun d hd => z d (List.mem_cons_of_mem _ hd)) t)
end
theorem dpAll_app {K : PySem.W.Frag} {H : Hp} : ∀ {vs ws : List V} {ds es : List PyData}, DpAll K H vs ds → DpAll K H ws es → DpAll K H (vs ++ ws) (ds ++ es)
  | _, _, _, _, .nil, h => h
  | _, _, _, _, .cons a t, h => .cons a (dpAll_app t h)
/-! a slice of a list of ints -/
def cutI {α : Type} (ds : List α) (lo hi : Option Int) : List α := (ds.drop (HT.sIx ds.length 0 lo)).take (HT.sIx ds.length ds.length hi - HT.sIx ds.length 0 lo)
theorem cutV_map {α : Type} (f : α → V) (ds : List α) (lo hi : Option Int) : cutV (ds.map f) lo hi = (cutI ds lo hi).map f := by
  unfold cutV cutI
  rw [List.length_map, List.map_take, List.map_drop]
end Pf
namespace Pf
open PySem PySem.Spec PyProof.Rows L2
/-- all but d stands -/
def SameX (d : Addr) (H H' : Hp) : Prop := ∀ b o, b ≠ d → H b = some o → H' b = some o
theorem SameX.refl (d : Addr) (H : Hp) : SameX d H H := fun _ _ _ h => h
theorem SameX.trans {d : Addr} {H H1 H2 : Hp} (a : SameX d H H1) (b : SameX d H1 H2) : SameX d H H2 := fun x o n h => b x o n (a x o n h)
theorem SameX.new {d p : Addr} {H : Hp} (o : HO) (h : H p = none) : SameX d H (upd H p o) := fun b u _ e => Same.new o h b u e
theorem SameX.at {d : Addr} {H : Hp} (o : HO) : SameX d H (upd H d o) := fun b u n e => (upd_ne n).trans e
theorem SameX.mut {d p : Addr} {H H1 : Hp} (o : HO) (e : SameX d H H1) (h : H p = none) : SameX d H (upd H1 p o) := fun b u n q => by
  rw [upd_ne (ne_of_none q h)]
  exact e b u n q
theorem SameX.of {d : Addr} {H H' : Hp} (e : Same H H') : SameX d H H' := fun b o _ h => e b o h
theorem KT.x {K : PySem.W.Frag} {d : Addr} {H H' : Hp} {xs : List V} (h : H d = some (.lst xs)) (e : SameX d H H') : KT K H H' := fun a ys q => by
  rcases q with (q | ⟨ob, q⟩) | q
  · exact .inl (.inl (e _ _ (ne_of q h (by intro z; cases z)) q))
  · exact .inl (.inr ⟨ob, e _ _ (ne_of q h (by intro z; cases z)) q⟩)
  · exact .inr q
theorem SameX.free {d p : Addr} {H H' : Hp} (e : SameX d H H') (n : p ≠ d) (h : H' p = none) : H p = none := by
  cases q : H p with
  | none => rfl
  | some o =>
    rw [e p o n q] at h
    cases h
end Pf

namespace Pf
open PySem PySem.Spec PyProof.Rows L2
/-! texts by the lists of their codes -/
abbrev T (l : List Nat) : Str := ⟨l.toArray⟩
theorem T_of (x : Str) : x = T x.cps.toList := TL.ext_tl rfl
theorem T_len (l : List Nat) : (T l).length = l.length := by simp [Str.length]
theorem T_cat (a b : List Nat) : T a ++ T b = T (a ++ b) := TL.ext_tl (TL.tl_append (T a) (T b))
theorem T_inj {a b : List Nat} (h : T a = T b) : a = b := congrArg (fun x : Str => x.cps.toList) h
theorem T_eq {a b : List Nat} : decide (T a = T b) = decide (a = b) := by
  by_cases h : a = b
  · rw [h, decide_eq_true rfl, decide_eq_true rfl]
  · rw [decide_eq_false h, decide_eq_false fun e => h (T_inj e)]
theorem V_eq {a b : List Nat} : decide (V.str (T a) = V.str (T b)) = decide (a = b) := by
  by_cases h : a = b
  · rw [h, decide_eq_true rfl, decide_eq_true rfl]
  · rw [decide_eq_false h, decide_eq_false fun e => h (T_inj (V.str.inj e))]
theorem cut_to (l : List Nat) (n : Nat) : cutS (T l) none (some (n : Int)) = T (l.take n) := by
  unfold cutS
  rw [HT.sIx_none, HT.sIx_nat, T_len]
  refine TL.ext_tl ?_
  show (l.drop 0).take (min n l.length - 0) = l.take n
  rw [List.drop_zero, Nat.sub_zero, ← List.take_eq_take_min]
theorem cut_from (l : List Nat) (n : Nat) : cutS (T l) (some (n : Int)) none = T (l.drop n) := by
  unfold cutS
  rw [HT.sIx_none, HT.sIx_nat, T_len]
  refine TL.ext_tl ?_
  show (l.drop (min n l.length)).take (l.length - min n l.length) = l.drop n
  by_cases h : n ≤ l.length
  · rw [Nat.min_eq_left h, List.take_of_length_le (by rw [List.length_drop]; omega)]
  · rw [Nat.min_eq_right (by omega), List.drop_eq_nil_of_le (by omega), List.drop_eq_nil_of_le (by omega), List.take_nil]
theorem cut_mid (l : List Nat) {a b : Nat} (ha : a ≤ b) (hb : b ≤ l.length) : cutS (T l) (some (a : Int)) (some (b : Int)) = T ((l.drop a).take (b - a)) := by
  unfold cutS
  rw [HT.sIx_nat, HT.sIx_nat, T_len, Nat.min_eq_left (show a ≤ l.length by omega), Nat.min_eq_left hb]
/-- a text walked by its signs -/
theorem for_txt {l : List Nat} {g : TG} {tb : TS} {D : Ends} {σ : L2.St} {H : Hp} (Pv : Nat → L2.St → Hp → Prop) (h0 : Pv 0 σ H)
    (hs : ∀ i c σ H, l[i]? = some c → Pv i σ H → g (.str (sg c)) σ H fun σ2 H2 => tb { D with nx := Pv (i + 1), ct := Pv (i + 1), bk := D.nx } σ2 H2) (hd : ∀ σ H, Pv l.length σ H → D.nx σ H) :
    ∃ W : Nat → Nat → L2.St → Hp → Prop, (∃ m, W 0 m σ H) ∧ ∀ i m σ H, W i m σ H →
      ((Its (T l)).stop i H ∧ D.nx σ H) ∨ ((Its (T l)).go i H ∧ ∃ N : L2.St → Hp → Prop, (∀ σ' H', N σ' H' → ∃ m', m' < m ∧ W (i + 1) m' σ' H') ∧ ∀ x H', (Its (T l)).yld i H x H' → g x σ H' fun σ2 H2 => tb { D with nx := N, ct := N, bk := D.nx } σ2 H2) := by
  refine ⟨fun i m σ H => m = l.length - i ∧ i ≤ l.length ∧ Pv i σ H, ⟨l.length, by simp, Nat.zero_le _, h0⟩, ?_⟩
  rintro i m σ H ⟨rfl, hi, p⟩
  by_cases hlt : i < l.length
  · refine .inr ⟨(by show i < l.toArray.size; simpa using hlt), Pv (i + 1), fun σ' H' p' => ⟨l.length - (i + 1), by omega, rfl, hlt, p'⟩, fun x H' y => ?_⟩
    obtain ⟨rfl, c, hc, rfl⟩ := y
    exact hs i c σ H' (by simpa using hc) p
  · have e : i = l.length := by omega
    subst e
    exact .inl ⟨(by show l.toArray.size ≤ l.length; simp), hd _ _ p⟩
/-- a comprehension over a text -/
theorem lc_txt {l : List Nat} {g : TG} {tt : TT} {te : TE} {vs : List Nat} {σ : L2.St} {H1 : Hp} {D : Addr} {Qd : Hp → Prop} (Pv : Nat → Hp → Prop) (h0 : Pv 0 (upd H1 D (.lst [])))
    (hs : ∀ i c H, l[i]? = some c → Pv i H → g (.str (sg c)) (wipe σ vs) H fun σ2 H2 => wipe σ2 vs = wipe σ vs ∧ tt σ2 H2 fun b H3 =>
      if b = true then te σ2 H3 fun y H4 => ∃ acc, H4 D = some (.lst acc) ∧ acc.length < sizeLine ∧ Pv (i + 1) (upd H4 D (.lst (acc ++ [y]))) else Pv (i + 1) H3) (hd : ∀ H, Pv l.length H → Qd H) :
    ∃ W : Nat → Nat → Hp → Prop, (∃ m, W 0 m (upd H1 D (.lst []))) ∧ ∀ i m H, W i m H →
      ((Its (T l)).stop i H ∧ Qd H) ∨ ((Its (T l)).go i H ∧ ∃ Nx : Hp → Prop, (∀ H', Nx H' → ∃ m', m' < m ∧ W (i + 1) m' H') ∧ ∀ x H', (Its (T l)).yld i H x H' → g x (wipe σ vs) H' fun σ2 H2 => wipe σ2 vs = wipe σ vs ∧ tt σ2 H2 fun b H3 =>
        if b = true then te σ2 H3 fun y H4 => ∃ acc, H4 D = some (.lst acc) ∧ acc.length < sizeLine ∧ Nx (upd H4 D (.lst (acc ++ [y]))) else Nx H3) := by
  refine ⟨fun i m H => m = l.length - i ∧ i ≤ l.length ∧ Pv i H, ⟨l.length, by simp, Nat.zero_le _, h0⟩, ?_⟩
  rintro i m H ⟨rfl, hi, p⟩
  by_cases hlt : i < l.length
  · refine .inr ⟨(by show i < l.toArray.size; simpa using hlt), Pv (i + 1), fun H' p' => ⟨l.length - (i + 1), by omega, rfl, hlt, p'⟩, fun x H' y => ?_⟩
    obtain ⟨rfl, c, hc, rfl⟩ := y
    exact hs i c H' (by simpa using hc) p
  · have e : i = l.length := by omega
    subst e
    exact .inl ⟨(by show l.toArray.size ≤ l.length; simp), hd _ p⟩
theorem small9 {n : Nat} (h : n ≤ 1000000) : n ≤ sizeLine := Nat.le_trans h (by decide)
/-- a sign of a text all of whose signs are of a kind -/
theorem ix_of {z : Str} {i : Int} {H : Hp} {Q : VK} (p : Nat → Bool) (h0 : 0 ≤ i) (h1 : i < (z.length : Int)) (hz : z.length ≤ sizeLine) (hc : z.cps.toList.all p = true) (q : ∀ c, p c = true → Q (.str (sg c)) H) : rIxS (.str z) (.int i) H Q := by
  have hl : z.length = z.cps.toList.length := by simp [Str.length]
  have hi : i.toNat < z.cps.toList.length := by omega
  have ei : i = ((i.toNat : Nat) : Int) := by omega
  refine ⟨z, i, z.cps.toList[i.toNat], rfl, rfl, hz, ?_, q _ (List.all_eq_true.mp hc _ (List.getElem_mem hi))⟩
  have := atI_some hi
  rw [← ei] at this
  exact this
theorem nl_eq : Str.ofString "\n" = T [10] := by decide +kernel
theorem e_eq : Str.ofString "" = T [] := by decide +kernel
theorem at_any {α : Type} {xs : List α} (p : α → Prop) {i : Int} (h0 : 0 ≤ i) (h1 : i < (xs.length : Int)) (h : ∀ x ∈ xs, p x) : ∃ v, p v ∧ atI xs i = some v := by
  have hi : i.toNat < xs.length := by omega
  have ei : i = ((i.toNat : Nat) : Int) := by omega
  refine ⟨xs[i.toNat], h _ (List.getElem_mem hi), ?_⟩
  have := atI_some hi
  rw [← ei] at this
  exact this
theorem inV_strs (x : Str) (ys : List Str) : inV (.str x) (ys.map V.str) = decide (x ∈ ys) := by
  unfold inV
  rw [List.any_map]
  induction ys with
  | nil => rfl
  | cons y ys ih =>
    rw [List.any_cons, ih]
    show ((y == x) || decide (x ∈ ys)) = decide (x ∈ y :: ys)
    by_cases h : y = x
    · subst h
      rw [beq_self_eq_true, Bool.true_or, decide_eq_true (List.mem_cons_self ..)]
    · rw [beq_false_of_ne h, Bool.false_or]
      by_cases h2 : x ∈ ys
      · rw [decide_eq_true h2, decide_eq_true (List.mem_cons_of_mem _ h2)]
      · rw [decide_eq_false h2, decide_eq_false]
        intro h3
        rcases List.mem_cons.mp h3 with h3 | h3
        · exact h h3.symm
        · exact h2 h3
theorem flat_strs (ys : List Str) : (ys.map V.str).all flatV = true := by
  rw [List.all_map, List.all_eq_true]
  intro x _
  rfl
theorem join_T (a : List Nat) (ys : List (List Nat)) : Txt.join (T a) (ys.map T) = T (TL.joinL a ys) := by
  rw [TL.join_eq]
  refine TL.ext_tl ?_
  rw [TL.tl_join, List.map_map]
  have e : ys.map (TL.tl ∘ T) = ys := by
    induction ys with
    | nil => rfl
    | cons y ys ih =>
      rw [List.map_cons, ih]
      rfl
  rw [e]
/-! the kinds of signs -/
def isL (c : Nat) : Bool := decide (c ∈ (Str.ofString "abcdefghijklmnopqrstuvwxyzABCDEFGHIJKLMNOPQRSTUVWXYZ_").cps.toList)
def isW (c : Nat) : Bool := isL c || decide (c ∈ (Str.ofString "0123456789").cps.toList)
def isB (c : Nat) : Bool := decide (c ∈ (Str.ofString " \n").cps.toList)
def isS (c : Nat) : Bool := decide (c ∈ (Str.ofString "();,:").cps.toList)
end Pf

namespace Pf
open PySem PySem.Spec PyProof.Rows L2
/-! written trees as data -/
def strsV (ns : List (List Nat)) : List V := ns.map fun n => V.str (T n)
def lit (s : String) : List Nat := (Str.ofString s).cps.toList
theorem lit_T (s : String) : Str.ofString s = T (lit s) := T_of _
abbrev Rol := List Nat × Bool
def rolD (r : Rol) : PyData := .tuple [.str (T r.1), .bool r.2]
inductive Con where
  | any | nothing
  | name (s : List Nat)
  | not (c : Con)
  | both (c d : Con)
  | either (c d : Con)
  | some (r : Rol) (c : Con)
  | all (r : Rol) (c : Con)
namespace Con
def D : Con → PyData
  | .any => .tuple [.str (Str.ofString "anything")]
  | .nothing => .tuple [.str (Str.ofString "nothing")]
  | .name s => .tuple [.str (Str.ofString "name"), .str (T s)]
  | .not c => .tuple [.str (Str.ofString "not"), c.D]
  | .both c d => .tuple [.str (Str.ofString "and"), c.D, d.D]
  | .either c d => .tuple [.str (Str.ofString "or"), c.D, d.D]
  | .some r c => .tuple [.str (Str.ofString "some"), rolD r, c.D]
  | .all r c => .tuple [.str (Str.ofString "all"), rolD r, c.D]
/-- how many trees are within one another -/
def dp : Con → Nat
  | .not c => c.dp + 1
  | .both c d => max c.dp d.dp + 1
  | .either c d => max c.dp d.dp + 1
  | .some _ c => c.dp + 1
  | .all _ c => c.dp + 1
  | _ => 0
/-- a bound of its text -/
def sz : Con → Nat
  | .name s => s.length + 20
  | .not c => c.sz + 20
  | .both c d => c.sz + d.sz + 20
  | .either c d => c.sz + d.sz + 20
  | .some r c => r.1.length + c.sz + 40
  | .all r c => r.1.length + c.sz + 40
  | _ => 20
end Con
theorem rolN (r : Rol) : TupN 2 (rolD r) := ⟨(by show 2 ≤ 100000; decide), fun d hd => by
  rcases List.mem_cons.mp hd with rfl | hd
  · trivial
  rw [List.mem_singleton.mp hd]
  trivial⟩
theorem TupN.up : ∀ {n : Nat} {d : PyData}, TupN n d → TupN (n + 1) d
  | 0, _, h => h.elim
  | n + 1, .tuple ds, h => ⟨h.1, fun d hd => TupN.up (h.2 d hd)⟩
  | _ + 1, .list _, h => h.elim
  | _ + 1, .dict _, h => h.elim
  | _ + 1, .none, _ => trivial
  | _ + 1, .bool _, _ => trivial
  | _ + 1, .int _, _ => trivial
  | _ + 1, .str _, _ => trivial
theorem TupN.le {n m : Nat} {d : PyData} (h : TupN n d) (e : n ≤ m) : TupN m d := by
  obtain ⟨k, rfl⟩ : ∃ k, m = n + k := ⟨m - n, by omega⟩
  induction k with
  | zero => exact h
  | succ k ih => exact (ih (by omega)).up
theorem tupN_of {n : Nat} {ds : List PyData} (hl : ds.length ≤ 100000) (h : ∀ d ∈ ds, TupN n d) : TupN (n + 1) (.tuple ds) := ⟨hl, h⟩
theorem tup1 {n : Nat} {a : PyData} (ha : TupN n a) : TupN (n + 1) (.tuple [a]) := ⟨(by show 1 ≤ 100000; decide), fun d hd => by
  rw [List.mem_singleton.mp hd]
  exact ha⟩
theorem tup2 {n : Nat} {a b : PyData} (ha : TupN n a) (hb : TupN n b) : TupN (n + 1) (.tuple [a, b]) := ⟨(by show 2 ≤ 100000; decide), fun d hd => by
  rcases List.mem_cons.mp hd with rfl | hd
  · exact ha
  rw [List.mem_singleton.mp hd]
  exact hb⟩
theorem tup3 {n : Nat} {a b c : PyData} (ha : TupN n a) (hb : TupN n b) (hc : TupN n c) : TupN (n + 1) (.tuple [a, b, c]) := ⟨(by show 3 ≤ 100000; decide), fun d hd => by
  rcases List.mem_cons.mp hd with rfl | hd
  · exact ha
  rcases List.mem_cons.mp hd with rfl | hd
  · exact hb
  rw [List.mem_singleton.mp hd]
  exact hc⟩
theorem tup4 {n : Nat} {a b c e : PyData} (ha : TupN n a) (hb : TupN n b) (hc : TupN n c) (he : TupN n e) : TupN (n + 1) (.tuple [a, b, c, e]) := ⟨(by show 4 ≤ 100000; decide), fun d hd => by
  rcases List.mem_cons.mp hd with rfl | hd
  · exact ha
  rcases List.mem_cons.mp hd with rfl | hd
  · exact hb
  rcases List.mem_cons.mp hd with rfl | hd
  · exact hc
  rw [List.mem_singleton.mp hd]
  exact he⟩
theorem strN (n : Nat) (x : Str) : TupN (n + 1) (.str x) := trivial
theorem Con.tn : ∀ c : Con, TupN (c.dp + 3) c.D
  | .any => tup1 trivial
  | .nothing => tup1 trivial
  | .name _ => tup2 trivial trivial
  | .not c => tup2 trivial (Con.tn c)
  | .both c d => tup3 trivial ((Con.tn c).le (by show c.dp + 3 ≤ max c.dp d.dp + 3; omega)) ((Con.tn d).le (by show d.dp + 3 ≤ max c.dp d.dp + 3; omega))
  | .either c d => tup3 trivial ((Con.tn c).le (by show c.dp + 3 ≤ max c.dp d.dp + 3; omega)) ((Con.tn d).le (by show d.dp + 3 ≤ max c.dp d.dp + 3; omega))
  | .some r c => tup3 trivial ((rolN r).le (by omega)) (Con.tn c)
  | .all r c => tup3 trivial ((rolN r).le (by omega)) (Con.tn c)
/-! data taken apart -/
section
variable {K : PySem.W.Frag} {H : Hp} {v : V}
theorem dp_tup {ds : List PyData} (h : Dp K H v (.tuple ds)) : ∃ a xs, v = .ref a ∧ SqT K H a xs ∧ DpAll K H xs ds := by
  cases h with
  | tup h a => exact ⟨_, _, rfl, h, a⟩
theorem dp_str {x : Str} (h : Dp K H v (.str x)) : v = .str x := by
  cases h
  rfl
theorem dp_bool {b : Bool} (h : Dp K H v (.bool b)) : v = .bl b := by
  cases h
  rfl
theorem dp_int {i : Int} (h : Dp K H v (.int i)) : v = .int i := by
  cases h
  rfl
theorem da_cons {xs : List V} {d : PyData} {ds : List PyData} (h : DpAll K H xs (d :: ds)) : ∃ x r, xs = x :: r ∧ Dp K H x d ∧ DpAll K H r ds := by
  cases h with
  | cons a t => exact ⟨_, _, rfl, a, t⟩
theorem da_nil {xs : List V} (h : DpAll K H xs []) : xs = [] := by
  cases h
  rfl
theorem dp1 {x : Str} (h : Dp K H v (.tuple [.str x])) : ∃ a, v = .ref a ∧ SqT K H a [.str x] := by
  obtain ⟨a, xs, rfl, hs, hd⟩ := dp_tup h
  obtain ⟨y, r, rfl, h1, hd⟩ := da_cons hd
  cases da_nil hd
  cases dp_str h1
  exact ⟨a, rfl, hs⟩
theorem dp2 {x : Str} {d : PyData} (h : Dp K H v (.tuple [.str x, d])) : ∃ a y, v = .ref a ∧ SqT K H a [.str x, y] ∧ Dp K H y d := by
  obtain ⟨a, xs, rfl, hs, hd⟩ := dp_tup h
  obtain ⟨y, r, rfl, h1, hd⟩ := da_cons hd
  obtain ⟨z, r, rfl, h2, hd⟩ := da_cons hd
  cases da_nil hd
  cases dp_str h1
  exact ⟨a, z, rfl, hs, h2⟩
theorem dp3 {x : Str} {d e : PyData} (h : Dp K H v (.tuple [.str x, d, e])) : ∃ a y z, v = .ref a ∧ SqT K H a [.str x, y, z] ∧ Dp K H y d ∧ Dp K H z e := by
  obtain ⟨a, xs, rfl, hs, hd⟩ := dp_tup h
  obtain ⟨y, r, rfl, h1, hd⟩ := da_cons hd
  obtain ⟨z, r, rfl, h2, hd⟩ := da_cons hd
  obtain ⟨w, r, rfl, h3, hd⟩ := da_cons hd
  cases da_nil hd
  cases dp_str h1
  exact ⟨a, z, w, rfl, hs, h2, h3⟩
theorem dp4 {x : Str} {d e g : PyData} (h : Dp K H v (.tuple [.str x, d, e, g])) : ∃ a y z w, v = .ref a ∧ SqT K H a [.str x, y, z, w] ∧ Dp K H y d ∧ Dp K H z e ∧ Dp K H w g := by
  obtain ⟨a, xs, rfl, hs, hd⟩ := dp_tup h
  obtain ⟨y, r, rfl, h1, hd⟩ := da_cons hd
  obtain ⟨z, r, rfl, h2, hd⟩ := da_cons hd
  obtain ⟨w, r, rfl, h3, hd⟩ := da_cons hd
  obtain ⟨u, r, rfl, h4, hd⟩ := da_cons hd
  cases da_nil hd
  cases dp_str h1
  exact ⟨a, z, w, u, rfl, hs, h2, h3, h4⟩
theorem dpRol {r : Rol} (h : Dp K H v (rolD r)) : ∃ a, v = .ref a ∧ SqT K H a [.str (T r.1), .bl r.2] := by
  obtain ⟨a, y, rfl, hs, h2⟩ := dp2 h
  cases dp_bool h2
  exact ⟨a, rfl, hs⟩
end
/-! a test whose texts are written -/
section
variable {K : PySem.W.Frag} {σ : L2.St} {H : Hp} {i : Nat} {s t t' : Str} {tt u : TS} {D : Ends}
theorem if_eqF (h : σ[i]? = some (some (.str s))) (hd : decide (s = t) = false) (q : u D σ H) : tIfS (tTest (tOp rEq (tVar i) (tC (.str t)))) tt u D σ H := ⟨_, h, rfl, _, rfl, by
  rw [decide_eq_false (fun z => of_decide_eq_false hd (V.str.inj z))]
  exact iteF q⟩
theorem if_eqT (h : σ[i]? = some (some (.str s))) (hd : decide (s = t) = true) (q : tt D σ H) : tIfS (tTest (tOp rEq (tVar i) (tC (.str t)))) tt u D σ H := ⟨_, h, rfl, _, rfl, by
  rw [decide_eq_true (congrArg V.str (of_decide_eq_true hd))]
  exact iteT q⟩
theorem if_eq2F (h : σ[i]? = some (some (.str s))) (hd : (decide (s = t) || decide (s = t')) = false) (q : u D σ H) : tIfS (tOr (tTest (tOp rEq (tVar i) (tC (.str t)))) (tTest (tOp rEq (tVar i) (tC (.str t'))))) tt u D σ H := by
  rw [Bool.or_eq_false_iff] at hd
  refine ⟨_, h, rfl, _, rfl, ?_⟩
  rw [decide_eq_false (fun z => of_decide_eq_false hd.1 (V.str.inj z))]
  refine iteF ⟨_, h, rfl, _, rfl, ?_⟩
  rw [decide_eq_false (fun z => of_decide_eq_false hd.2 (V.str.inj z))]
  exact iteF q
theorem if_eq2T (h : σ[i]? = some (some (.str s))) (hd : (decide (s = t) || decide (s = t')) = true) (q : tt D σ H) : tIfS (tOr (tTest (tOp rEq (tVar i) (tC (.str t)))) (tTest (tOp rEq (tVar i) (tC (.str t'))))) tt u D σ H := by
  refine ⟨_, h, rfl, _, rfl, ?_⟩
  by_cases e : s = t
  · rw [decide_eq_true (congrArg V.str e)]
    exact iteT (iteT q)
  · rw [decide_eq_false (fun z => e (V.str.inj z))]
    rw [decide_eq_false e, Bool.false_or] at hd
    refine iteF ⟨_, h, rfl, _, rfl, ?_⟩
    rw [decide_eq_true (congrArg V.str (of_decide_eq_true hd))]
    exact iteT q
theorem if_in2 {b : Bool} (h : σ[i]? = some (some (.str s))) (hd : (decide (s = t) || decide (s = t')) = b) (q1 : b = true → ∀ p, H p = none → tt D σ (upd H p (.tup [.str t, .str t']))) (q2 : b = false → ∀ p, H p = none → u D σ (upd H p (.tup [.str t, .str t']))) :
    tIfS (tTest (tOp (rIn K false) (tVar i) (tTup (tCons (tC (.str t)) (tCons (tC (.str t')) tNil))))) tt u D σ H := by
  refine ⟨_, h, by show 2 ≤ sizeLine; decide, fun p hp => ⟨p, _, rfl, .inr (SqT.of upd_same), rfl, rfl, b, ?_, ?_⟩⟩
  · show V.bl (inV (.str s) [.str t, .str t']) = .bl b
    rw [show [V.str t, V.str t'] = [t, t'].map V.str from rfl, inV_strs, ← hd, ← Bool.decide_or]
    exact congrArg V.bl (decide_eq_decide.mpr (by simp))
  · cases b with
    | true => exact iteT (q1 rfl p hp)
    | false => exact iteF (q2 rfl p hp)
theorem if_in2T (h : σ[i]? = some (some (.str s))) (hd : (decide (s = t) || decide (s = t')) = true) (q : ∀ p, H p = none → tt D σ (upd H p (.tup [.str t, .str t']))) :
    tIfS (tTest (tOp (rIn K false) (tVar i) (tTup (tCons (tC (.str t)) (tCons (tC (.str t')) tNil))))) tt u D σ H := if_in2 h hd (fun _ => q) (fun z => Bool.noConfusion z)
theorem if_in2F (h : σ[i]? = some (some (.str s))) (hd : (decide (s = t) || decide (s = t')) = false) (q : ∀ p, H p = none → u D σ (upd H p (.tup [.str t, .str t']))) :
    tIfS (tTest (tOp (rIn K false) (tVar i) (tTup (tCons (tC (.str t)) (tCons (tC (.str t')) tNil))))) tt u D σ H := if_in2 h hd (fun z => Bool.noConfusion z) (fun _ => q)
end
/-! texts glued in an f-string -/
section
variable {σ : L2.St} {H : Hp} {ts : List TE} {te : TE} {Q : Str → Hp → Prop}
theorem js_c {a : List Nat} {s : String} (hl : decide ((lit s).length ≤ 20) = true) (hz : a.length ≤ 400000) (q : tJs ts (T (a ++ lit s)) σ H Q) : tJs (tC (.str (Str.ofString s)) :: ts) (T a) σ H Q := by
  refine ⟨Str.ofString s, rfl, ?_, ?_⟩
  · rw [Str.length_append, lit_T, T_len, T_len]
    have := of_decide_eq_true hl
    exact small9 (by omega)
  · rw [lit_T s, T_cat]
    exact q
/-- a field whose value is a text: te gives it, the heap may have grown -/
theorem js_e {a b : List Nat} (ht : ∀ R : VK, (∀ H', Same H H' → R (.str (T b)) H') → te σ H R) (hb : b.length ≤ 400000) (hz : a.length ≤ 400000) (q : ∀ H', Same H H' → tJs ts (T (a ++ b)) σ H' Q) : tJs (tFmt te :: ts) (T a) σ H Q := by
  refine ht _ fun H' e => .inl ⟨T b, rfl, by rw [T_len]; exact small9 (by omega), T b, rfl, by rw [Str.length_append, T_len, T_len]; exact small9 (by omega), ?_⟩
  rw [T_cat]
  exact q H' e
theorem js_0 (q : tJs ts (T []) σ H Q) : tJs ts Str.empty σ H Q := q
theorem js_end {a : List Nat} (q : Q (T a) H) : tJs [] (T a) σ H Q := q
end
end Pf
namespace Pf
open PySem PySem.Spec PyProof.Rows L2
/-! what gives a text, from a heap on -/
def GT (te : TE) (σ : L2.St) (H : Hp) (b : List Nat) : Prop := ∀ H1, Same H H1 → ∀ R : VK, (∀ H', Same H1 H' → R (.str (T b)) H') → te σ H1 R
def rAddS : R2 := fun x y H Q => ∃ i j, x = V.str i ∧ y = V.str j ∧ i.length + j.length ≤ sizeLine ∧ Q (.str (i ++ j)) H
section
variable {σ : L2.St} {H H' : Hp} {ta tb te : TE} {a b : List Nat} {i : Nat}
theorem GT.mono (g : GT te σ H b) (e : Same H H') : GT te σ H' b := fun H1 e1 R r => g H1 (e.trans e1) R r
theorem gt_c (s : String) : GT (tC (.str (Str.ofString s))) σ H (lit s) := fun H1 _ R r => by
  have := r H1 (Same.refl _)
  rw [← lit_T] at this
  exact this
theorem gt_var (h : σ[i]? = some (some (.str (T b)))) : GT (tVar i) σ H b := fun H1 _ R r => ⟨_, h, r H1 (Same.refl _)⟩
theorem gt_varL {s : String} (h : σ[i]? = some (some (.str (Str.ofString s)))) : GT (tVar i) σ H (lit s) := fun H1 _ R r => ⟨_, h, by
  have := r H1 (Same.refl _)
  rw [← lit_T] at this
  exact this⟩
theorem gt_add (ha : GT ta σ H a) (hb : GT tb σ H b) (la : a.length ≤ 400000) (lb : b.length ≤ 400000) : GT (tOp rAddS ta tb) σ H (a ++ b) := fun H1 e R r =>
  ha H1 e _ fun H2 e2 => hb H2 (e.trans e2) _ fun H3 e3 => ⟨_, _, rfl, rfl, by rw [T_len, T_len]; exact small9 (by omega), by
    rw [T_cat]
    exact r H3 (e2.trans e3)⟩
theorem gt_ret {D : Ends} (h : GT te σ H b) (q : ∀ H', Same H H' → D.rt (.str (T b)) H') : tRet te D σ H := h H (Same.refl _) _ q
theorem gt_set {D : Ends} (h : GT te σ H b) (q : ∀ H', Same H H' → D.nx (σ.set i (some (.str (T b)))) H') : tAsg te (gName i) D σ H := h H (Same.refl _) _ q
end
/-! statements and questions as they are written -/
inductive Stm where
  | below (c d : Con) | equals (c d : Con) | apart (c d : Con)
  | domain (r : Rol) (c : Con) | range (r : Rol) (c : Con)
  | under (r s : Rol) | inverse (a b : List Nat) | is (a : List Nat) (c : Con) | has (a b c : List Nat) | never
namespace Stm
def D : Stm → PyData
  | .below c d => .tuple [.str (Str.ofString "below"), c.D, d.D]
  | .equals c d => .tuple [.str (Str.ofString "equals"), c.D, d.D]
  | .apart c d => .tuple [.str (Str.ofString "apart"), c.D, d.D]
  | .domain r c => .tuple [.str (Str.ofString "domain"), rolD r, c.D]
  | .range r c => .tuple [.str (Str.ofString "range"), rolD r, c.D]
  | .under r s => .tuple [.str (Str.ofString "under"), rolD r, rolD s]
  | .inverse a b => .tuple [.str (Str.ofString "inverse"), .str (T a), .str (T b)]
  | .is a c => .tuple [.str (Str.ofString "is"), .str (T a), c.D]
  | .has a b c => .tuple [.str (Str.ofString "has"), .str (T a), .str (T b), .str (T c)]
  | .never => .tuple [.str (Str.ofString "never")]
def dp : Stm → Nat
  | .below c d | .equals c d | .apart c d => max c.dp d.dp
  | .domain _ c | .range _ c | .is _ c => c.dp
  | _ => 0
def sz : Stm → Nat
  | .below c d | .equals c d | .apart c d => c.sz + d.sz + 40
  | .domain r c | .range r c => r.1.length + c.sz + 40
  | .is a c => a.length + c.sz + 40
  | .under r s => r.1.length + s.1.length + 40
  | .inverse a b => a.length + b.length + 40
  | .has a b c => a.length + b.length + c.length + 40
  | .never => 40
theorem tn : ∀ s : Stm, TupN (s.dp + 4) s.D
  | .below c d | .equals c d | .apart c d => tup3 trivial ((Con.tn c).le (by show c.dp + 3 ≤ max c.dp d.dp + 3; omega)) ((Con.tn d).le (by show d.dp + 3 ≤ max c.dp d.dp + 3; omega))
  | .domain r c | .range r c => tup3 trivial ((rolN r).le (by omega)) (Con.tn c)
  | .under r s => tup3 trivial ((rolN r).le (by omega)) ((rolN s).le (by omega))
  | .inverse a b => tup3 trivial trivial trivial
  | .is a c => tup3 trivial trivial (Con.tn c)
  | .has a b c => tup4 trivial trivial trivial trivial
  | .never => tup1 trivial
end Stm
end Pf

namespace Pf
open PySem PySem.Spec PyProof.Rows L2
/-! pure expressions: what gives a value, or data, from a heap on that only grows -/
def GV (te : TE) (σ : L2.St) (H : Hp) (v : V) : Prop := ∀ H1, Same H H1 → ∀ R : VK, (∀ H', Same H1 H' → R v H') → te σ H1 R
def GD (K : PySem.W.Frag) (te : TE) (σ : L2.St) (H : Hp) (d : PyData) : Prop := ∀ H1, Same H H1 → ∀ R : VK, (∀ v H', Same H1 H' → Dp K H' v d → R v H') → te σ H1 R
def GDs (K : PySem.W.Frag) (ta : TA) (σ : L2.St) (H : Hp) (ds : List PyData) : Prop := ∀ H1, Same H H1 → ∀ R : List V → Hp → Prop, (∀ vs H', Same H1 H' → DpAll K H' vs ds → R vs H') → ta σ H1 R
/-- a tuple whose object has no attributes of its own -/
def PlainT (o : Obj) : Prop := o.cls = .type "tuple" ∧ o.dict = none
def FzT (K : PySem.W.Frag) (H : Hp) (p : Addr) : Prop := (∃ o u, H p = some (.frz o u) ∧ PlainT o) ∨ ∃ o, K.lookup p = some o ∧ PlainT o
section
variable {X : Cx}
/-- tuple(a list), its object known -/
theorem call_tupleF : CallR X (.type "tuple") (fun xs H Q => ∃ p ys, xs = [.ref p] ∧ SqL X.K H p ys ∧ ∀ l o, H l = none → PlainT o → Q (.ref l) (upd H l (.frz o (.tup ys)))) := by
  intro pins s σ H xs us Q I rel hyp
  obtain ⟨p, ys, hx, hq, q⟩ := hyp
  subst hx
  obtain ⟨u, hu, rx⟩ := vals1 rel
  subst hu
  cases rx
  obtain ⟨its, hv, pl, hz⟩ := I.list hq
  have hl := hv.length
  refine call_tuple_list pl.isList (fun h2 kp => ?_) (by simp only [List.size_toArray] <;> omega)
  have J : Inv X pins σ H { s with heap := h2 } := I.kept (t' := s.toks) kp
  refine ⟨.ref h2.objs.size, upd H h2.objs.size (.frz { cls := .type "tuple", data := .seq its.toArray } (.tup ys)), ?_, rfl, q _ _ (J.hok.fresh (Nat.le_refl _)) ⟨rfl, rfl⟩⟩
  refine J.laid (t' := s.toks) (fun b o e => Heap.get?_push_of_some _ e) (Nat.le_refl _) ⟨Heap.get?_push_size _ rfl, ?_⟩
  exact ⟨hz, its, hv, IsTup.new _ _⟩
theorem fzT_is {pins : List (Addr × Obj)} {σ : L2.St} {H : Hp} {s : Shared} {p : Addr} (I : Inv X pins σ H s) (h : FzT X.K H p) :
    s.TypeIs (.ref p) "tuple" ∧ ∀ a, Value.ref p = .ref a → ∃ ob, s.heap.get? a = some ob ∧ ob.dict = none := by
  rcases h with ⟨o, u, h1, h2⟩ | ⟨o, h1, h2⟩
  · have h3 := (I.hok p _ h1).1
    refine ⟨⟨o, h3, h2.1⟩, fun a e => ?_⟩
    cases e
    exact ⟨o, h3, h2.2⟩
  · have h3 := I.kIn p o h1
    refine ⟨⟨o, h3, h2.1⟩, fun a e => ?_⟩
    cases e
    exact ⟨o, h3, h2.2⟩
def tBMT (K : PySem.W.Frag) (r : V → List V → Hp → VK → Prop) (to : TE) (t : TA) : TE := fun σ H Q => to σ H fun x H1 => (∃ p, x = .ref p ∧ FzT K H1 p) ∧ t σ H1 fun xs H2 => r x xs H2 Q
/-- a method of such a tuple -/
theorem pe_bmT {o e : Expr} {es : List Expr} {to : TE} {t : TA} {name : Str} {apos cpos : Pos} {id : String} {r : V → List V → Hp → VK → Prop} (slot : Slot "tuple" name id) (hty : typeOf (.builtin id) = pure (.type "method_descriptor")) (hm : MtR X id r) (ho : PE X o to) (ha : PA X (e :: es) t)
    (h1 : attributeBase o name X.env (eval o X.env) = eval o X.env := by rfl)
    (h2 : ((backTo cpos (starEach (e :: es) X.env)).all (fun x => !x.1) && (backToKw cpos (keywordEach [] X.env)).all (fun x => x.1.isSome) && decide ((e :: es).length + ([] : List Keyword).length + (if ([] : List Keyword).isEmpty then 0 else 1) < 30)) = true := by rfl)
    (h3 : (apos.endLine == cpos.line) = true := by rfl) (h4 : starEach (e :: es) X.env = (false, eval e X.env) :: starEach es X.env := by rfl) (h5 : (backTo cpos (starEach es X.env)).any (·.1) = false := by rfl) :
    PE X (.Call (.Attribute o name apos) (e :: es) [] cpos) (tBMT X.K r to t) := by
  refine ⟨fun pins s σ H Q I h => wpAny_Call_method_late h1 h2 h3 rfl (thn (ho.run pins s σ H _ I h) fun v s1 q => ?_)⟩
  obtain ⟨x, H1, I1, r1, ⟨p, ex, hp⟩, q1⟩ := q
  subst ex
  cases r1
  obtain ⟨k1, k2⟩ := fzT_is I1 hp
  refine ⟨"tuple", id, PySem.F.plainAttrs_tuple, slot, hty, k1, k2, ?_⟩
  have hA := ha.run cpos pins s1 σ H1 _ I1 q1
  rw [h4] at hA ⊢
  refine Calls.callWith_builtin (by show (false || (backTo cpos (starEach es X.env)).any (·.1)) = false; rw [h5] <;> rfl) (Calls.evalArgs_plain ?_)
  exact thn hA fun us s2 ⟨vs, H2, I2, r2, q2⟩ => hm pins s2 σ H2 (.ref p) vs (.ref p) us Q I2 rfl r2 q2
end
section
variable {K : PySem.W.Frag} {σ : L2.St} {H H' : Hp} {ta tb te tf to : TE} {tl : TA} {v : V} {d e : PyData} {ds : List PyData} {D : Ends} {i : Nat}
theorem GV.mono (g : GV te σ H v) (e : Same H H') : GV te σ H' v := fun H1 e1 R r => g H1 (e.trans e1) R r
theorem GD.mono (g : GD K te σ H d) (e : Same H H') : GD K te σ H' d := fun H1 e1 R r => g H1 (e.trans e1) R r
theorem GDs.mono (g : GDs K tl σ H ds) (e : Same H H') : GDs K tl σ H' ds := fun H1 e1 R r => g H1 (e.trans e1) R r
theorem gv_c : GV (tC v) σ H v := fun H1 _ R r => r H1 (Same.refl _)
theorem gv_var (h : σ[i]? = some (some v)) : GV (tVar i) σ H v := fun H1 _ R r => ⟨_, h, r H1 (Same.refl _)⟩
theorem gv_ixT {a : Addr} {xs : List V} {j : Int} {x : V} (h : GV te σ H (.ref a)) (hs : SqT K H a xs) (hx : atI xs j = some x) : GV (tOp (rIxT K) te (tC (.int j))) σ H x := fun H1 e R r =>
  h H1 e _ fun H2 e2 => ⟨a, _, j, _, rfl, rfl, Same.seqT (e.trans e2) hs, hx, r H2 e2⟩
theorem gv_ixL {a : Addr} {xs : List V} {j : Int} {x : V} (h : GV te σ H (.ref a)) (hs : SqL K H a xs) (hx : atI xs j = some x) : GV (tOp (rIxL K) te (tC (.int j))) σ H x := fun H1 e R r =>
  h H1 e _ fun H2 e2 => ⟨a, _, j, _, rfl, rfl, (e.trans e2).seq hs, hx, r H2 e2⟩
theorem strs_at {ns : List (List Nat)} {s : List Nat} (h : s ∈ ns) : (strsV ns)[ns.idxOf s]? = some (.str (T s)) := by
  have h1 := List.idxOf_lt_length_of_mem h
  show (ns.map _)[ns.idxOf s]? = _
  rw [List.getElem?_map, List.getElem?_eq_getElem h1, List.getElem_idxOf]
  rfl
theorem strs_ne {ns : List (List Nat)} {s t : List Nat} {m : Nat} (h : m < ns.idxOf s) (ht : ns[m]? = some t) : t ≠ s := by
  intro e
  obtain ⟨h1, h2⟩ := List.getElem?_eq_some_iff.mp ht
  have := List.not_of_lt_findIdx (p := (· == s)) (xs := ns) (i := m) h
  rw [h2, e] at this
  simp at this
theorem gv_idxL {a : Addr} {ns : List (List Nat)} {s : List Nat} (h : GV to σ H (.ref a)) (hs : SqL K H a (strsV ns)) (hx : GV te σ H (.str (T s))) (hm : s ∈ ns) : GV (tBM K "list" (rIndex K) to (tCons te tNil)) σ H (.int ((ns.idxOf s : Nat) : Int)) := fun H1 e1 R r =>
  h H1 e1 _ fun H2 e2 => ⟨.inl ⟨rfl, _, (e1.trans e2).seq hs⟩, hx H2 (e1.trans e2) _ fun H3 e3 => ⟨a, strsV ns, _, ns.idxOf s, _, rfl, rfl, ((e1.trans e2).trans e3).seq hs, rfl, by
    unfold strsV
    rw [List.all_map, List.all_eq_true]
    intro x _
    rfl, strs_at hm, beq_self_eq_true _, fun m z hml hz => by
      unfold strsV at hz
      rw [List.getElem?_map] at hz
      cases ht : ns[m]? with
      | none => rw [ht] at hz; cases hz
      | some t =>
        rw [ht] at hz
        cases hz
        exact beq_false_of_ne fun q => strs_ne hml ht (T_inj q), r H3 (e2.trans e3)⟩⟩
theorem gv_idxT {a : Addr} {ns : List (List Nat)} {s : List Nat} (h : GV to σ H (.ref a)) (hs : SqT K H a (strsV ns)) (hf : FzT K H a) (hx : GV te σ H (.str (T s))) (hm : s ∈ ns) :
    GV (tBMT K (fun x xs H Q => ∃ p, ∃ ys : List Str, ∃ z j, x = .ref p ∧ xs = [.str z] ∧ SqT K H p (ys.map V.str) ∧ ys[j]? = some z ∧ (∀ m, m < j → ys[m]? ≠ some z) ∧ Q (.int (j : Nat)) H) to (tCons te tNil)) σ H (.int ((ns.idxOf s : Nat) : Int)) := fun H1 e1 R r =>
  h H1 e1 _ fun H2 e2 => ⟨⟨a, rfl, by
    rcases hf with ⟨o, u, h1, h2⟩ | h1
    · exact .inl ⟨o, u, e2 _ _ (e1 _ _ h1), h2⟩
    · exact .inr h1⟩, hx H2 (e1.trans e2) _ fun H3 e3 => ⟨a, ns.map T, T s, ns.idxOf s, rfl, rfl, by
      rw [List.map_map]
      exact Same.seqT ((e1.trans e2).trans e3) hs, by
      have h1 := List.idxOf_lt_length_of_mem hm
      rw [List.getElem?_map, List.getElem?_eq_getElem h1, List.getElem_idxOf]
      rfl, fun m hml hz => by
      rw [List.getElem?_map] at hz
      cases ht : ns[m]? with
      | none => rw [ht] at hz; cases hz
      | some t =>
        rw [ht] at hz
        exact strs_ne hml ht (T_inj (Option.some.inj hz)), r H3 (e2.trans e3)⟩⟩
theorem gd_of (g : GV te σ H v) (h : Dp K H v d) : GD K te σ H d := fun H1 e R r => g H1 e R fun H' e' => r v H' e' (Dp.same (e.trans e') h)
theorem gd_str {s : Str} : GD K (tC (.str s)) σ H (.str s) := gd_of gv_c (.str s)
theorem gd_int {j : Int} (g : GV te σ H (.int j)) : GD K te σ H (.int j) := gd_of g (.int j)
theorem gd_bl {b : Bool} (g : GV te σ H (.bl b)) : GD K te σ H (.bool b) := gd_of g (.bl b)
theorem gd_var (h : σ[i]? = some (some v)) (hd : Dp K H v d) : GD K (tVar i) σ H d := gd_of (gv_var h) hd
theorem gds_nil : GDs K tNil σ H [] := fun H1 _ R r => r [] H1 (Same.refl _) .nil
theorem gds_cons (h : GD K te σ H d) (t : GDs K tl σ H ds) : GDs K (tCons te tl) σ H (d :: ds) := fun H1 e R r =>
  h H1 e _ fun v H2 e2 hv => t H2 (e.trans e2) _ fun vs H3 e3 hs => r (v :: vs) H3 (e2.trans e3) (.cons (Dp.same e3 hv) hs)
theorem gd_tup (h : GDs K tl σ H ds) (hl : ds.length ≤ 1000) : GD K (tTup tl) σ H (.tuple ds) := fun H1 e R r =>
  h H1 e _ fun vs H2 e2 hv => ⟨by rw [dpAll_len hv]; exact Nat.le_trans hl (by decide), fun p hp => r (.ref p) _ (e2.trans (Same.new _ hp)) (.tup (.of upd_same) (DpAll.same (Same.new _ hp) hv))⟩
theorem gd_ret (g : GD K te σ H d) (q : ∀ v H', Same H H' → Dp K H' v d → D.rt v H') : tRet te D σ H := g H (Same.refl _) _ q
theorem gd_set (g : GD K te σ H d) (q : ∀ v H', Same H H' → Dp K H' v d → D.nx (σ.set i (some v)) H') : tAsg te (gName i) D σ H := g H (Same.refl _) _ q
theorem gv_set (g : GV te σ H v) (q : ∀ H', Same H H' → D.nx (σ.set i (some v)) H') : tAsg te (gName i) D σ H := g H (Same.refl _) _ q
theorem gd_1 (h : GD K te σ H d) : GDs K (tCons te tNil) σ H [d] := gds_cons h gds_nil
theorem gd_t1 (h : GD K te σ H d) : GD K (tTup (tCons te tNil)) σ H (.tuple [d]) := gd_tup (gd_1 h) (by show 1 ≤ 1000; decide)
theorem gd_t2 (h : GD K ta σ H d) (h' : GD K tb σ H e) : GD K (tTup (tCons ta (tCons tb tNil))) σ H (.tuple [d, e]) := gd_tup (gds_cons h (gd_1 h')) (by show 2 ≤ 1000; decide)
theorem gd_t3 {e' : PyData} (h : GD K ta σ H d) (h' : GD K tb σ H e) (h2 : GD K te σ H e') : GD K (tTup (tCons ta (tCons tb (tCons te tNil)))) σ H (.tuple [d, e, e']) := gd_tup (gds_cons h (gds_cons h' (gd_1 h2))) (by show 3 ≤ 1000; decide)
theorem gd_t4 {e' e2 : PyData} (h : GD K ta σ H d) (h' : GD K tb σ H e) (h2 : GD K te σ H e') (h3 : GD K tf σ H e2) : GD K (tTup (tCons ta (tCons tb (tCons te (tCons tf tNil))))) σ H (.tuple [d, e, e', e2]) := gd_tup (gds_cons h (gds_cons h' (gds_cons h2 (gd_1 h3)))) (by show 4 ≤ 1000; decide)
theorem gv_not {b : Bool} (h : GV te σ H (.bl b)) : GV (tNotV te) σ H (.bl (!b)) := fun H1 e R r => h H1 e _ fun H2 e2 => ⟨b, rfl, r H2 e2⟩
theorem gv_eq {x y : V} (ha : GV ta σ H x) (hb : GV tb σ H y) (hs : scal x y = true) : GV (tOp rEq ta tb) σ H (.bl (decide (x = y))) := fun H1 e1 R r =>
  ha H1 e1 _ fun H2 e2 => hb H2 (e1.trans e2) _ fun H3 e3 => ⟨hs, r H3 (e2.trans e3)⟩
theorem da_strs : ∀ {ws : List Str} {vs : List V}, DpAll K H vs (ws.map PyData.str) → vs = ws.map V.str
  | [], _, h => da_nil h
  | w :: ws, _, h => by
    obtain ⟨x, r, rfl, h1, h2⟩ := da_cons h
    cases dp_str h1
    rw [da_strs h2]
    rfl
theorem if_inS {ws : List Str} {s : Str} {b : Bool} {tt u : TS} (h : σ[i]? = some (some (.str s))) (hg : GDs K tl σ H (ws.map PyData.str)) (hl : decide (ws.length ≤ 1000) = true) (hd : decide (s ∈ ws) = b) (q1 : b = true → ∀ H', Same H H' → tt D σ H') (q2 : b = false → ∀ H', Same H H' → u D σ H') :
    tIfS (tTest (tOp (rIn K false) (tVar i) (tTup tl))) tt u D σ H := by
  refine ⟨_, h, hg H (Same.refl _) _ fun vs H1 e1 hv => ?_⟩
  cases da_strs hv
  refine ⟨by rw [List.length_map]; exact Nat.le_trans (of_decide_eq_true hl) (by decide), fun p hp => ⟨p, ws.map V.str, rfl, .inr (.of upd_same), rfl, flat_strs ws, b, ?_, ?_⟩⟩
  · show V.bl (inV (.str s) (ws.map V.str)) = .bl b
    rw [inV_strs, hd]
  · cases b with
    | true => exact iteT (q1 rfl _ (e1.trans (Same.new _ hp)))
    | false => exact iteF (q2 rfl _ (e1.trans (Same.new _ hp)))
theorem if_inT {ws : List Str} {s : Str} {tt u : TS} (h : σ[i]? = some (some (.str s))) (hg : GDs K tl σ H (ws.map PyData.str)) (hl : decide (ws.length ≤ 1000) = true) (hd : decide (s ∈ ws) = true) (q : ∀ H', Same H H' → tt D σ H') :
    tIfS (tTest (tOp (rIn K false) (tVar i) (tTup tl))) tt u D σ H := if_inS h hg hl hd (fun _ => q) (fun z => Bool.noConfusion z)
theorem if_inF {ws : List Str} {s : Str} {tt u : TS} (h : σ[i]? = some (some (.str s))) (hg : GDs K tl σ H (ws.map PyData.str)) (hl : decide (ws.length ≤ 1000) = true) (hd : decide (s ∈ ws) = false) (q : ∀ H', Same H H' → u D σ H') :
    tIfS (tTest (tOp (rIn K false) (tVar i) (tTup tl))) tt u D σ H := if_inS h hg hl hd (fun z => Bool.noConfusion z) (fun _ => q)
theorem gds_2 {s t : Str} : GDs K (tCons (tC (.str s)) (tCons (tC (.str t)) tNil)) σ H ([s, t].map PyData.str) := gds_cons gd_str (gd_1 gd_str)
theorem gds_3 {s t t2 : Str} : GDs K (tCons (tC (.str s)) (tCons (tC (.str t)) (tCons (tC (.str t2)) tNil))) σ H ([s, t, t2].map PyData.str) := gds_cons gd_str (gds_cons gd_str (gd_1 gd_str))
end
/-! data of the written part -/
def datOk (K : PySem.W.Frag) : Nat → Value → PyData → Bool
  | 0, _, _ => false
  | _ + 1, .str x _, .str y => decide (x = y)
  | n + 1, .ref a, .tuple ds => match K.lookup a with
    | some ⟨.type nm, none, .seq its _, _⟩ => decide (nm = "tuple") && decide (its.size ≤ 1000) && decide (its.toList.length = ds.length) && (its.toList.zip ds).all fun p => datOk K n p.1 p.2
    | _ => false
  | _ + 1, _, _ => false
theorem datAll_of {K : PySem.W.Frag} {n : Nat} (ih : ∀ {v : Value} {d : PyData}, datOk K n v d = true → ∃ x, RelV x v ∧ ∀ H, Dp K H x d) : ∀ {vs : List Value} {ds : List PyData}, vs.length = ds.length → ((vs.zip ds).all fun p => datOk K n p.1 p.2) = true → ∃ xs, Vals xs vs ∧ ∀ H, DpAll K H xs ds
  | [], [], _, _ => ⟨[], .nil, fun _ => .nil⟩
  | [], _ :: _, h, _ => by simp at h
  | _ :: _, [], h, _ => by simp at h
  | v :: vs, d :: ds, hl, h => by
    rw [List.zip_cons_cons, List.all_cons, Bool.and_eq_true] at h
    obtain ⟨x, rx, hx⟩ := ih h.1
    obtain ⟨xs, rs, hs⟩ := datAll_of ih (by simpa using hl) h.2
    exact ⟨x :: xs, .cons rx rs, fun H => .cons (hx H) (hs H)⟩
theorem dat_of {K : PySem.W.Frag} : ∀ (n : Nat) {v : Value} {d : PyData}, datOk K n v d = true → ∃ x, RelV x v ∧ ∀ H, Dp K H x d
  | 0, _, _, h => by simp [datOk] at h
  | n + 1, v, d, h => by
    unfold datOk at h
    split at h
    · cases ‹_ + 1 = 0›
    · rw [← of_decide_eq_true h]
      exact ⟨.str _, ⟨_, rfl⟩, fun H => .str _⟩
    · split at h
      · rename_i m a ds hm o nm its k sl hk
        simp only [Bool.and_eq_true] at h
        obtain ⟨⟨⟨h1, h2⟩, h3⟩, h4⟩ := h
        cases of_decide_eq_true h1
        cases hm
        obtain ⟨xs, rs, hs⟩ := datAll_of (dat_of n) (of_decide_eq_true h3) h4
        exact ⟨.ref a, rfl, fun H => .tup (.inr ⟨_, its, k, hk, rfl, rfl, Nat.le_trans (of_decide_eq_true h2) (by decide), rs⟩) (hs H)⟩
      · cases h
    · cases h
theorem dat_ref {K : PySem.W.Frag} {n : Nat} {a : Addr} {d : PyData} (h : datOk K n (.ref a) d = true) : ∀ H, Dp K H (.ref a) d := fun H => by
  obtain ⟨x, rx, hx⟩ := dat_of n h
  cases x with
  | ref b =>
    cases rx
    exact hx H
  | _ => first | (cases rx; done) | (obtain ⟨t, z⟩ := rx; cases z)
end Pf

namespace Pf
open PySem PySem.Spec PyProof.Rows L2
/-! the data logic: what slots, own lists and passing values hold, as one fact (Ds) that each step of a reading renews -/
/-- what is known of a slot: nothing, its data, its very value -/
inductive Sl where
  | u | d (x : PyData) | v (x : V) | p (x : PyData) | t (x : PyData)
/-- what is known of an object that may change -/
inductive Od where
  | lst (ds : List PyData) | nums | box | ho (o : HO)
  | dk (kvs : List (Key × PyData)) | dt (kvs : List (List Key × PyData)) | lt (ds : List PyData)
  | tab (q : Str)
  | nt (A B C : List (List Nat))
abbrev Own := List (Addr × Od)
/-- the value is a tuple that was made while the program ran -/
def TupM (K : PySem.W.Frag) (M : Hp) (v : V) (x : PyData) : Prop := ∃ b xs ds, v = .ref b ∧ x = .tuple ds ∧ M b = some (.tup xs) ∧ DpAll K M xs ds
def SlV (K : PySem.W.Frag) (M : Hp) (v : V) : Sl → Prop
  | .u => True
  | .d x => Dp K M v x
  | .v x => v = x
  | .p x => Dp K M v x ∧ ∃ a, v = .ref a ∧ FzT K M a
  | .t x => TupM K M v x
inductive SlVs (K : PySem.W.Frag) (M : Hp) : List V → List Sl → Prop
  | nil : SlVs K M [] []
  | cons {v : V} {vs : List V} {s : Sl} {ss : List Sl} : SlV K M v s → SlVs K M vs ss → SlVs K M (v :: vs) (s :: ss)
/-- the table at a of code objects, all of the name q -/
def TabOk (M H : Hp) (a : Addr) (q : Str) : Prop := ∃ ps : Array Value, H a = some (.tbl ps) ∧ TriplesOk ps.toList ∧ ∀ (pos : Pos) (cv : Value), codeAmong pos ps.toList = some cv → ∃ c, cv = .ref c ∧ M c = some (LamX.CodeO c q)
def OdOk (K : PySem.W.Frag) (M H : Hp) (a : Addr) : Od → Prop
  | .lst ds => ∃ vs, H a = some (.lst vs) ∧ DpAll K M vs ds
  | .nums => ∃ ns : List Int, H a = some (.lst (ns.map V.int))
  | .box => ∃ (p : Addr) (ns : List Int) (i : Int), H a = some (.lst [.ref p, .int i]) ∧ SqL K M p (ns.map V.int) ∧ 0 ≤ i
  | .ho o => H a = some o
  | .dk kvs => ∃ ws : List (Key × V), H a = some (.dK ws) ∧ Paired (fun p q => p.1 = q.1 ∧ Dp K M p.2 q.2) ws kvs
  | .dt kvs => ∃ ws : List (List Key × V), H a = some (.dT ws) ∧ Paired (fun p q => p.1 = q.1 ∧ Dp K M p.2 q.2) ws kvs
  | .tab q => TabOk M H a q
  | .lt ds => ∃ vs, H a = some (.lst vs) ∧ Paired (TupM K M) vs ds
  | .nt A B C => ∃ t0 t1 t2, H a = some (.tup [.ref t0, .ref t1, .ref t2]) ∧ (SqT K M t0 (strsV A) ∧ FzT K M t0) ∧ (SqT K M t1 (strsV B) ∧ FzT K M t1) ∧ SqT K M t2 (strsV C) ∧ FzT K M t2
/-- from H, M to H', M': all but O stands; M, the part that never changes, has grown by new things alone -/
structure Fr (O : List Addr) (H M H' M' : Hp) : Prop where
  fr : ∀ b o, b ∉ O → H b = some o → H' b = some o
  al : ∀ b, H b ≠ none → H' b ≠ none
  sm : Same M M'
  sub : Same M' H'
  mn : ∀ b, M b = none → H b ≠ none → M' b = none
structure Fx where
  H : Hp
  M : Hp
  O : List Addr
structure Ds (K : PySem.W.Frag) (C : Fx) (B : Hp) (σ : L2.St) (H M : Hp) (ρ : List Sl) (w : Own) (tp : List (V × PyData)) : Prop where
  ln : σ.length = ρ.length
  sl : ∀ (i : Nat) (s : Sl), ρ[i]? = some s → s = .u ∨ ∃ v, σ[i]? = some (some v) ∧ SlV K M v s
  tm : ∀ p ∈ tp, Dp K M p.1 p.2
  own : ∀ p ∈ w, M p.1 = none ∧ OdOk K M H p.1 p.2
  nd : (w.map (·.1)).Nodup
  F : Fr C.O C.H C.M H M
  ow : ∀ p ∈ w, p.1 ∈ C.O ∨ C.H p.1 = none
  bs : Same B M
theorem set_self {α : Type} : ∀ {l : List α} {i : Nat} {x : α}, l[i]? = some x → l.set i x = l
  | [], _, _, h => by simp at h
  | _ :: _, 0, _, h => by
    simp at h
    rw [h]
    rfl
  | a :: l, i + 1, x, h => congrArg (a :: ·) (set_self (by simpa using h))
section
variable {K : PySem.W.Frag} {C : Fx} {B : Hp} {σ : L2.St} {H M H' M' : Hp} {ρ : List Sl} {w : Own} {tp : List (V × PyData)}
theorem OdOk.there {a : Addr} {od : Od} (h : OdOk K M H a od) : H a ≠ none := by
  cases od with
  | lst ds => obtain ⟨vs, h, _⟩ := h; rw [h]; exact fun z => nomatch z
  | nums => obtain ⟨vs, h⟩ := h; rw [h]; exact fun z => nomatch z
  | box => obtain ⟨p, ns, i, h, _⟩ := h; rw [h]; exact fun z => nomatch z
  | ho o => rw [show H a = some o from h]; exact fun z => nomatch z
  | dk kvs => obtain ⟨ws, h, _⟩ := h; rw [h]; exact fun z => nomatch z
  | dt kvs => obtain ⟨ws, h, _⟩ := h; rw [h]; exact fun z => nomatch z
  | tab q => obtain ⟨ps, h, _⟩ := h; rw [h]; exact fun z => nomatch z
  | lt ds => obtain ⟨vs, h, _⟩ := h; rw [h]; exact fun z => nomatch z
  | nt A B C => obtain ⟨_, _, _, h, _⟩ := h; rw [h]; exact fun z => nomatch z
theorem FzT.same {H H' : Hp} {p : Addr} (h : FzT K H p) (e : Same H H') : FzT K H' p := by
  rcases h with ⟨o, u, h1, h2⟩ | h
  · exact .inl ⟨o, u, e _ _ h1, h2⟩
  · exact .inr h
theorem OdOk.keep {a : Addr} {od : Od} (h : OdOk K M H a od) (e : Same M M') (k : ∀ o, H a = some o → H' a = some o) : OdOk K M' H' a od := by
  cases od with
  | lst ds => obtain ⟨vs, h, d⟩ := h; exact ⟨vs, k _ h, DpAll.same e d⟩
  | nums => obtain ⟨vs, h⟩ := h; exact ⟨vs, k _ h⟩
  | box => obtain ⟨p, ns, i, h, s, z⟩ := h; exact ⟨p, ns, i, k _ h, e.seq s, z⟩
  | ho o => exact k _ h
  | dk kvs => obtain ⟨ws, h, d⟩ := h; exact ⟨ws, k _ h, L2.Paired.mapP d fun _ _ z => ⟨z.1, Dp.same e z.2⟩⟩
  | dt kvs => obtain ⟨ws, h, d⟩ := h; exact ⟨ws, k _ h, L2.Paired.mapP d fun _ _ z => ⟨z.1, Dp.same e z.2⟩⟩
  | tab q =>
    obtain ⟨ps, h, t, d⟩ := h
    exact ⟨ps, k _ h, t, fun pos cv z => (d pos cv z).elim fun c z => ⟨c, z.1, e _ _ z.2⟩⟩
  | lt ds =>
    obtain ⟨vs, h, d⟩ := h
    exact ⟨vs, k _ h, L2.Paired.mapP d fun _ _ z => by
      obtain ⟨b, xs, es, h1, h2, h3, h4⟩ := z
      exact ⟨b, xs, es, h1, h2, e _ _ h3, DpAll.same e h4⟩⟩
  | nt A B C =>
    obtain ⟨t0, t1, t2, h0, ⟨h1, k1⟩, ⟨h2, k2⟩, h3, k3⟩ := h
    exact ⟨t0, t1, t2, k _ h0, ⟨Same.seqT e h1, k1.same e⟩, ⟨Same.seqT e h2, k2.same e⟩, Same.seqT e h3, k3.same e⟩
theorem TupM.same {v : V} {x : PyData} (h : TupM K M v x) (e : Same M M') : TupM K M' v x := by
  obtain ⟨b, xs, ds, h1, h2, h3, h4⟩ := h
  exact ⟨b, xs, ds, h1, h2, e _ _ h3, DpAll.same e h4⟩
theorem TupM.dp {v : V} {x : PyData} (h : TupM K M v x) : Dp K M v x := by
  obtain ⟨b, xs, ds, rfl, rfl, h3, h4⟩ := h
  exact .tup (.of h3) h4
theorem SlV.same {v : V} {s : Sl} (h : SlV K M v s) (e : Same M M') : SlV K M' v s := by
  cases s with
  | u => trivial
  | d x => exact Dp.same e h
  | v x => exact h
  | p x => exact ⟨Dp.same e h.1, h.2.elim fun a z => ⟨a, z.1, z.2.same e⟩⟩
  | t x => exact TupM.same h e
theorem SlVs.same (e : Same M M') : ∀ {vs : List V} {ss : List Sl}, SlVs K M vs ss → SlVs K M' vs ss
  | _, _, .nil => .nil
  | _, _, .cons h t => .cons (h.same e) (t.same e)
theorem SlVs.length : ∀ {vs : List V} {ss : List Sl}, SlVs K M vs ss → vs.length = ss.length
  | _, _, .nil => rfl
  | _, _, .cons _ t => congrArg Nat.succ t.length
theorem SlVs.at : ∀ {vs : List V} {ss : List Sl}, SlVs K M vs ss → ∀ (i : Nat) (s : Sl), ss[i]? = some s → ∃ v, vs[i]? = some v ∧ SlV K M v s
  | _, _, .nil, i, s, h => by simp at h
  | _, _, .cons (v := v) h _, 0, s, e => by
    simp at e
    subst e
    exact ⟨v, rfl, h⟩
  | _, _, .cons _ t, i + 1, s, e => by
    obtain ⟨v, h1, h2⟩ := t.at i s (by simpa using e)
    exact ⟨v, by simpa using h1, h2⟩
theorem Fr.refl (O : List Addr) (h : Same M H) : Fr O H M H M := ⟨fun _ _ _ e => e, fun _ e => e, Same.refl _, h, fun _ e _ => e⟩
theorem Fr.trans {O O' : List Addr} {H0 M0 : Hp} (a : Fr O H0 M0 H M) (b : Fr O' H M H' M') (h : ∀ x ∈ O', x ∈ O ∨ H0 x = none) : Fr O H0 M0 H' M' where
  fr := fun x o hx e => b.fr x o (fun z => (h x z).elim hx fun q => by rw [q] at e; cases e) (a.fr x o hx e)
  al := fun x e => b.al x (a.al x e)
  sm := a.sm.trans b.sm
  sub := b.sub
  mn := fun x e f => b.mn x (a.mn x e f) (a.al x f)
/-- a step: the objects at O change, the rest stands -/
theorem Ds.step {O : List Addr} {w' : Own} (S : Ds K C B σ H M ρ w tp) (F : Fr O H M H' M') (hO : ∀ b ∈ O, b ∈ w.map (·.1)) (hw : w'.map (·.1) = w.map (·.1)) (ok : ∀ p ∈ w', OdOk K M' H' p.1 p.2) : Ds K C B σ H' M' ρ w' tp where
  ln := S.ln
  sl := fun i s h => (S.sl i s h).imp id fun ⟨v, a, b⟩ => ⟨v, a, b.same F.sm⟩
  tm := fun p h => Dp.same F.sm (S.tm p h)
  own := fun p h => by
    have h1 : p.1 ∈ w.map (·.1) := hw ▸ List.mem_map_of_mem h
    obtain ⟨q, hq, e⟩ := List.mem_map.mp h1
    refine ⟨?_, ok p h⟩
    rw [← e]
    exact F.mn _ (S.own q hq).1 (S.own q hq).2.there
  nd := hw ▸ S.nd
  F := S.F.trans F fun x hx => by
    obtain ⟨q, hq, e⟩ := List.mem_map.mp (hO x hx)
    rw [← e]
    exact S.ow q hq
  ow := fun p h => by
    have h1 : p.1 ∈ w.map (·.1) := hw ▸ List.mem_map_of_mem h
    obtain ⟨q, hq, e⟩ := List.mem_map.mp h1
    rw [← e]
    exact S.ow q hq
  bs := S.bs.trans F.sm
theorem Ds.pure (S : Ds K C B σ H M ρ w tp) (F : Fr [] H M H' M') : Ds K C B σ H' M' ρ w tp :=
  S.step F (fun _ h => nomatch h) rfl fun p h => (S.own p h).2.keep F.sm fun o e => F.fr _ o (fun z => nomatch z) e
theorem Ds.push {v : V} {d : PyData} (S : Ds K C B σ H M ρ w tp) (h : Dp K M v d) : Ds K C B σ H M ρ w ((v, d) :: tp) := by
  refine { S with tm := fun p hp => ?_ }
  rcases List.mem_cons.mp hp with rfl | hp
  · exact h
  · exact S.tm p hp
theorem Ds.clr (S : Ds K C B σ H M ρ w tp) : Ds K C B σ H M ρ w [] := { S with tm := fun _ h => nomatch h }
theorem Ds.rest {x : V × PyData} (S : Ds K C B σ H M ρ w (x :: tp)) : Ds K C B σ H M ρ w tp := { S with tm := fun p h => S.tm p (List.mem_cons_of_mem _ h) }
theorem Ds.sub (S : Ds K C B σ H M ρ w tp) : Same M H := S.F.sub
/-- a new tuple -/
theorem Ds.newT {p : Addr} {vs : List V} {ds : List PyData} (S : Ds K C B σ H M ρ w tp) (hp : H p = none) (hv : DpAll K M vs ds) : Ds K C B σ (upd H p (.tup vs)) (upd M p (.tup vs)) ρ w ((.ref p, .tuple ds) :: tp) := by
  have hm : M p = none := S.sub.free hp
  have e := Same.new (.tup vs) hm
  refine (S.pure ⟨fun b o _ h => Same.new _ hp b o h, fun b h => ?_, e, fun b o h => ?_, fun b h1 h2 => ?_⟩).push (.tup (.of upd_same) (DpAll.same e hv))
  · by_cases q : b = p
    · rw [q, upd_same]
      exact fun z => nomatch z
    · rw [upd_ne q]
      exact h
  · by_cases q : b = p
    · rw [q, upd_same] at h
      rw [q, upd_same]
      exact h
    · rw [upd_ne q] at h
      rw [upd_ne q]
      exact S.sub b o h
  · rw [upd_ne (fun q => h2 (by rw [q]; exact hp))]
    exact h1
/-- a new object that may change -/
theorem Ds.newO {p : Addr} {o : HO} {od : Od} (S : Ds K C B σ H M ρ w tp) (hp : H p = none) (ok : OdOk K M (upd H p o) p od) : Ds K C B σ (upd H p o) M ρ ((p, od) :: w) tp := by
  have hm : M p = none := S.sub.free hp
  have S' : Ds K C B σ (upd H p o) M ρ w tp := S.pure ⟨fun b o _ h => Same.new _ hp b o h, fun b h => by
    by_cases q : b = p
    · rw [q, upd_same]
      exact fun z => nomatch z
    · rw [upd_ne q]
      exact h, Same.refl _, fun b o h => (upd_ne (ne_of_none h hm)).trans (S.sub b o h), fun b h _ => h⟩
  refine { S' with own := fun q hq => ?_, nd := ?_, ow := fun q hq => ?_ }
  · rcases List.mem_cons.mp hq with rfl | hq
    · exact ⟨hm, ok⟩
    · exact S'.own q hq
  · rw [List.map_cons, List.nodup_cons]
    refine ⟨fun z => ?_, S.nd⟩
    obtain ⟨q, hq, e⟩ := List.mem_map.mp z
    exact (S.own q hq).2.there (e ▸ hp)
  · rcases List.mem_cons.mp hq with rfl | hq
    · refine .inr ?_
      show C.H p = none
      cases z : C.H p with
      | none => rfl
      | some o => exact absurd hp (S.F.al p (by rw [z]; exact fun z => nomatch z))
    · exact S.ow q hq
theorem Ds.newL {p : Addr} {vs : List V} {ds : List PyData} (S : Ds K C B σ H M ρ w tp) (hp : H p = none) (hv : DpAll K M vs ds) : Ds K C B σ (upd H p (.lst vs)) M ρ ((p, .lst ds) :: w) tp :=
  S.newO hp ⟨vs, upd_same, hv⟩
/-- the object at place j changes -/
theorem Ds.mut {j : Nat} {a : Addr} {od od' : Od} {o : HO} (S : Ds K C B σ H M ρ w tp) (hj : w[j]? = some (a, od)) (ok : OdOk K M (upd H a o) a od') : Ds K C B σ (upd H a o) M ρ (w.set j (a, od')) tp := by
  have hm := List.mem_of_getElem? hj
  have h1 := (S.own _ hm).1
  refine S.step (O := [a]) ⟨fun b u h e => ?_, fun b h => ?_, Same.refl _, fun b u h => ?_, fun b h _ => h⟩ (fun b h => ?_) ?_ fun p hp => ?_
  · rw [upd_ne (fun z => h (by rw [z]; exact List.mem_singleton_self a))]
    exact e
  · by_cases q : b = a
    · rw [q, upd_same]
      exact fun z => nomatch z
    · rw [upd_ne q]
      exact h
  · rw [upd_ne (ne_of_none h h1)]
    exact S.sub b u h
  · rw [List.mem_singleton.mp h]
    exact List.mem_map_of_mem (f := Prod.fst) hm
  · rw [List.map_set]
    have : (w.map (·.1))[j]? = some a := by rw [List.getElem?_map, hj]; rfl
    exact set_self this
  · rcases List.mem_or_eq_of_mem_set hp with hp' | rfl
    · by_cases q : p.1 = a
      · -- the same address: it is the place j
        obtain ⟨k, hk⟩ := List.getElem?_of_mem hp
        by_cases kj : k = j
        · subst kj
          rw [List.getElem?_set_self (List.getElem?_eq_some_iff.mp hj).1] at hk
          cases hk
          exact ok
        · rw [List.getElem?_set_ne (Ne.symm kj)] at hk
          have e1 : (w.map (·.1))[k]? = some a := by rw [List.getElem?_map, hk]; exact congrArg some q
          have e2 : (w.map (·.1))[j]? = some a := by rw [List.getElem?_map, hj]; rfl
          have lt := (List.getElem?_eq_some_iff.mp e1).1
          exact absurd ((List.getElem?_inj lt S.nd).mp (e1.trans e2.symm)) kj
      · exact (S.own p hp').2.keep (Same.refl _) fun u e => (upd_ne q).trans e
    · exact ok
/-- an own thing is looked at no more -/
theorem Ds.drop {x : Addr × Od} (S : Ds K C B σ H M ρ (x :: w) tp) : Ds K C B σ H M ρ w tp :=
  { S with own := fun p h => S.own p (List.mem_cons_of_mem _ h), nd := (List.nodup_cons.mp S.nd).2, ow := fun p h => S.ow p (List.mem_cons_of_mem _ h) }
/-- a list changes no more: from now on it is data -/
theorem Ds.freeze {p : Addr} {ds : List PyData} (S : Ds K C B σ H M ρ ((p, .lst ds) :: w) tp) (hO : p ∉ C.O) : ∃ M', Ds K C B σ H M' ρ w ((.ref p, .list ds) :: tp) := by
  obtain ⟨hm, vs, hp, hv⟩ := S.own (p, .lst ds) (List.mem_cons_self ..)
  have e := Same.new (.lst vs) hm
  have hn : C.H p = none := (S.ow (p, .lst ds) (List.mem_cons_self ..)).resolve_left hO
  have sub : Same (upd M p (.lst vs)) H := fun b o h => by
    by_cases q : b = p
    · rw [q, upd_same] at h
      rw [q, ← h]
      exact hp
    · rw [upd_ne q] at h
      exact S.sub b o h
  refine ⟨upd M p (.lst vs), { ln := S.ln, sl := fun i s h => (S.sl i s h).imp id fun ⟨v, a, b⟩ => ⟨v, a, b.same e⟩, tm := fun q hq => ?_, own := fun q hq => ?_, nd := (List.nodup_cons.mp S.nd).2, F := ?_, ow := fun q h => S.ow q (List.mem_cons_of_mem _ h), bs := S.bs.trans e }⟩
  · rcases List.mem_cons.mp hq with rfl | hq
    · exact .lst (.of upd_same) (DpAll.same e hv)
    · exact Dp.same e (S.tm q hq)
  · have h1 := S.own q (List.mem_cons_of_mem _ hq)
    have ne : q.1 ≠ p := fun z => (List.nodup_cons.mp S.nd).1 (by show p ∈ w.map (·.1); rw [← z]; exact List.mem_map_of_mem (f := Prod.fst) hq)
    exact ⟨(upd_ne ne).trans h1.1, h1.2.keep e fun _ z => z⟩
  · refine ⟨S.F.fr, S.F.al, S.F.sm.trans e, sub, fun b h1 h2 => ?_⟩
    rw [upd_ne (fun z => h2 (by rw [z]; exact hn))]
    exact S.F.mn b h1 h2
/-- less is known of the slots -/
inductive SlLe : List Sl → List Sl → Prop
  | nil : SlLe [] []
  | same {s : Sl} {a b : List Sl} : SlLe a b → SlLe (s :: a) (s :: b)
  | less {s : Sl} {a b : List Sl} : SlLe a b → SlLe (s :: a) (.u :: b)
theorem SlLe.refl : ∀ a : List Sl, SlLe a a
  | [] => .nil
  | _ :: r => .same (SlLe.refl r)
theorem SlLe.length : ∀ {a b : List Sl}, SlLe a b → a.length = b.length
  | _, _, .nil => rfl
  | _, _, .same t => congrArg Nat.succ t.length
  | _, _, .less t => congrArg Nat.succ t.length
theorem SlLe.at : ∀ {a b : List Sl}, SlLe a b → ∀ (i : Nat) (s : Sl), b[i]? = some s → s = .u ∨ a[i]? = some s
  | _, _, .nil, i, s, h => by simp at h
  | _, _, .same _, 0, s, h => by
    simp at h
    subst h
    exact .inr rfl
  | _, _, .less _, 0, s, h => by
    simp at h
    exact .inl h.symm
  | _, _, .same t, i + 1, s, h => by
    have := t.at i s (by simpa using h)
    simpa using this
  | _, _, .less t, i + 1, s, h => by
    have := t.at i s (by simpa using h)
    simpa using this
theorem Ds.weak {ρ' : List Sl} (S : Ds K C B σ H M ρ w tp) (h : SlLe ρ ρ') : Ds K C B σ H M ρ' w tp :=
  { S with ln := S.ln.trans h.length, sl := fun i s hs => (h.at i s hs).elim .inl fun z => S.sl i s z }
/-- a slot is set -/
theorem Ds.set {i : Nat} {v : V} {s : Sl} (S : Ds K C B σ H M ρ w tp) (h : SlV K M v s) : Ds K C B (σ.set i (some v)) H M (ρ.set i s) w tp where
  ln := by rw [List.length_set, List.length_set]; exact S.ln
  sl := fun k t ht => by
    by_cases e : k = i
    · subst e
      have lt : k < ρ.length := by
        have := (List.getElem?_eq_some_iff.mp ht).1
        rwa [List.length_set] at this
      rw [List.getElem?_set_self lt] at ht
      cases ht
      exact .inr ⟨v, List.getElem?_set_self (by rw [S.ln]; exact lt), h⟩
    · rw [List.getElem?_set_ne (Ne.symm e)] at ht ⊢
      exact S.sl k t ht
  tm := S.tm
  own := S.own
  nd := S.nd
  F := S.F
  ow := S.ow
  bs := S.bs
/-- what a slot holds is known otherwise, too -/
theorem Ds.slot {i : Nat} {v : V} {s : Sl} (S : Ds K C B σ H M ρ w tp) (hv : σ[i]? = some (some v)) (h : SlV K M v s) : Ds K C B σ H M (ρ.set i s) w tp := by
  refine { S with ln := by rw [List.length_set]; exact S.ln, sl := fun k t ht => ?_ }
  by_cases e : k = i
  · subst e
    have lt : k < ρ.length := by
      have := (List.getElem?_eq_some_iff.mp ht).1
      rwa [List.length_set] at this
    rw [List.getElem?_set_self lt] at ht
    cases ht
    exact .inr ⟨v, hv, h⟩
  · rw [List.getElem?_set_ne (Ne.symm e)] at ht
    exact S.sl k t ht
theorem Ds.get {i : Nat} {s : Sl} (S : Ds K C B σ H M ρ w tp) (h : ρ[i]? = some s) (n : s ≠ .u) : ∃ v, σ[i]? = some (some v) ∧ SlV K M v s := (S.sl i s h).resolve_left n
/-- from now on M is at least this one -/
theorem Ds.base (S : Ds K C B σ H M ρ w tp) : Ds K C M σ H M ρ w tp := { S with bs := Same.refl _ }
theorem Ds.base' {B' : Hp} (S : Ds K C B σ H M ρ w tp) (h : Same B' B) : Ds K C B' σ H M ρ w tp := { S with bs := h.trans S.bs }
end
/-! promises -/
/-- what a call gives: data or a very value, or a new list -/
inductive Rs where
  | s (x : Sl) | o (od : Od)
def RsOk (K : PySem.W.Frag) (C : Fx) (M' H' : Hp) (v : V) : Rs → Prop
  | .s x => SlV K M' v x
  | .o od => ∃ p, v = .ref p ∧ C.H p = none ∧ M' p = none ∧ OdOk K M' H' p od
structure Fin (K : PySem.W.Frag) (C : Fx) (r : Rs) (w' : Own) (v : V) (H' : Hp) : Prop where
  ex : ∃ M', Fr C.O C.H C.M H' M' ∧ w'.map (·.1) = C.O ∧ (∀ p ∈ w', OdOk K M' H' p.1 p.2) ∧ RsOk K C M' H' v r
abbrev Pre := List Sl → Own → (Rs → Own → Prop) → Prop
def spG (K : PySem.W.Frag) (pre : Pre) : Sp := fun vs H Q _ => ∃ (M : Hp) (ss : List Sl) (w : Own) (post : Rs → Own → Prop), Same M H ∧ SlVs K M vs ss ∧ (∀ p ∈ w, M p.1 = none ∧ OdOk K M H p.1 p.2) ∧ (w.map (·.1)).Nodup ∧ pre ss w post ∧
  ∀ r w' v H', post r w' → Fin K ⟨H, M, w.map (·.1)⟩ r w' v H' → Q v H'
/-- what a caller has behind a call -/
def Res (K : PySem.W.Frag) (C : Fx) (B : Hp) (σ : L2.St) (H' M' : Hp) (ρ : List Sl) (w : Own) (tp : List (V × PyData)) (v : V) : Rs → Prop
  | .s (.d x) => Ds K C B σ H' M' ρ w ((v, x) :: tp)
  | .s x => SlV K M' v x ∧ Ds K C B σ H' M' ρ w tp
  | .o od => ∃ p, v = .ref p ∧ Ds K C B σ H' M' ρ ((p, od) :: w) tp
section
variable {K : PySem.W.Frag} {C : Fx} {B : Hp} {σ : L2.St} {H M H' M' : Hp} {ρ : List Sl} {w : Own} {tp : List (V × PyData)} {Q : VK} {E : XK} {R : VK} {D : Ends}
theorem Res.of {v : V} {r : Rs} (S : Ds K C B σ H' M' ρ w tp) (hc : ∀ p, H p = none → C.H p = none) (hw : ∀ q ∈ w, H q.1 ≠ none) {O : List Addr} {M0 : Hp} (h : RsOk K ⟨H, M0, O⟩ M' H' v r) : Res K C B σ H' M' ρ w tp v r := by
  cases r with
  | s x =>
    cases x with
    | d x => exact S.push h
    | u => exact ⟨h, S⟩
    | v x => exact ⟨h, S⟩
    | p x => exact ⟨h, S⟩
    | t x => exact ⟨h, S⟩
  | o od =>
    obtain ⟨p, rfl, h1, h2, h3⟩ := h
    refine ⟨p, rfl, { S with own := fun q hq => ?_, nd := ?_, ow := fun q hq => ?_ }⟩
    · rcases List.mem_cons.mp hq with rfl | hq
      · exact ⟨h2, h3⟩
      · exact S.own q hq
    · rw [List.map_cons, List.nodup_cons]
      refine ⟨fun z => ?_, S.nd⟩
      obtain ⟨q, hq, e⟩ := List.mem_map.mp z
      exact hw q hq (e ▸ h1)
    · rcases List.mem_cons.mp hq with rfl | hq
      · exact .inr (hc p h1)
      · exact S.ow q hq
theorem Ds.new_none (S : Ds K C B σ H M ρ w tp) : ∀ p, H p = none → C.H p = none := fun p h => by
  cases z : C.H p with
  | none => rfl
  | some o => exact absurd h (S.F.al p (by rw [z]; exact fun z => nomatch z))
/-- a call that changes nothing -/
theorem x_call0 {pre : Pre} {vs : List V} {ss : List Sl} {post : Rs → Own → Prop} (S : Ds K C B σ H M ρ w tp) (hv : SlVs K M vs ss) (hp : pre ss [] post)
    (q : ∀ r w', post r w' → ∀ v H' M', Res K C B σ H' M' ρ w tp v r → Q v H') : spG K pre vs H Q E :=
  ⟨M, ss, [], post, S.sub, hv, (fun _ h => nomatch h), List.nodup_nil, hp, fun r w' v H' hr hf => by
    obtain ⟨M', F, _, _, ho⟩ := hf.ex
    exact q r w' hr v H' M' (Res.of (S.pure F) S.new_none (fun z hz => (S.own z hz).2.there) ho)⟩
/-- a call that may change the own object at place j -/
theorem x_call1 {pre : Pre} {vs : List V} {ss : List Sl} {post : Rs → Own → Prop} {a : Addr} {od : Od} (j : Nat) (S : Ds K C B σ H M ρ w tp) (hj : w[j]? = some (a, od)) (hv : SlVs K M vs ss) (hp : pre ss [(a, od)] post)
    (q : ∀ r od', post r [(a, od')] → ∀ v H' M', Res K C B σ H' M' ρ (w.set j (a, od')) tp v r → Q v H') : spG K pre vs H Q E := by
  have hm := List.mem_of_getElem? hj
  refine ⟨M, ss, [(a, od)], post, S.sub, hv, fun p hp => List.mem_singleton.mp hp ▸ S.own _ hm, List.nodup_cons.mpr ⟨(fun z => nomatch z), List.nodup_nil⟩, hp, fun r w' v H' hr hf => ?_⟩
  obtain ⟨M', F, hw, ok, ho⟩ := hf.ex
  have F : Fr [a] H M H' M' := F
  obtain ⟨od', rfl⟩ : ∃ od', w' = [(a, od')] := by
    match w', hw with
    | [x], e => exact ⟨x.2, by have : x.1 = a := List.head_eq_of_cons_eq e; rw [← this]⟩
  have okA : OdOk K M' H' a od' := ok _ (List.mem_singleton_self _)
  have es : (w.set j (a, od')).map (·.1) = w.map (·.1) := by
    rw [List.map_set]
    exact set_self (by rw [List.getElem?_map, hj]; rfl)
  refine q r od' hr v H' M' (Res.of (S.step F (fun b h => ?_) es fun p hp => ?_) S.new_none (fun z hz => ?_) ho)
  · rw [List.mem_singleton.mp h]
    exact List.mem_map_of_mem (f := Prod.fst) hm
  · rcases List.mem_or_eq_of_mem_set hp with hp' | rfl
    · by_cases q : p.1 = a
      · obtain ⟨k, hk⟩ := List.getElem?_of_mem hp
        by_cases kj : k = j
        · subst kj
          rw [List.getElem?_set_self (List.getElem?_eq_some_iff.mp hj).1] at hk
          cases hk
          exact okA
        · rw [List.getElem?_set_ne (Ne.symm kj)] at hk
          have e1 : (w.map (·.1))[k]? = some a := by rw [List.getElem?_map, hk]; exact congrArg some q
          have e2 : (w.map (·.1))[j]? = some a := by rw [List.getElem?_map, hj]; rfl
          exact absurd ((List.getElem?_inj (List.getElem?_eq_some_iff.mp e1).1 S.nd).mp (e1.trans e2.symm)) kj
      · exact (S.own p hp').2.keep F.sm fun u e => F.fr _ u (fun z => q (List.mem_singleton.mp z)) e
    · exact okA
  · have h1 : z.1 ∈ w.map (·.1) := es ▸ List.mem_map_of_mem hz
    obtain ⟨y, hy, e⟩ := List.mem_map.mp h1
    rw [← e]
    exact (S.own y hy).2.there
/-- what a def may assume at its start -/
theorem Ds.init {vs : List V} {ss : List Sl} {N : List Str} (hs : Same M H) (hv : SlVs K M vs ss) (hw : ∀ p ∈ w, M p.1 = none ∧ OdOk K M H p.1 p.2) (nd : (w.map (·.1)).Nodup) :
    Ds K ⟨H, M, w.map (·.1)⟩ M (L2.start N vs) H M (ss ++ List.replicate (N.length - ss.length) .u) w [] where
  ln := by
    unfold L2.start
    rw [List.length_append, List.length_append, List.length_map, List.length_replicate, List.length_replicate, hv.length]
  sl := fun i s h => by
    by_cases lt : i < ss.length
    · rw [List.getElem?_append_left lt] at h
      obtain ⟨v, h1, h2⟩ := hv.at i s h
      refine .inr ⟨v, ?_, h2⟩
      unfold L2.start
      rw [List.getElem?_append_left (by rw [List.length_map, hv.length]; exact lt), List.getElem?_map, h1]
      rfl
    · rw [List.getElem?_append_right (by omega)] at h
      exact .inl (List.eq_of_mem_replicate (List.mem_of_getElem? h))
  tm := fun _ h => nomatch h
  own := hw
  nd := nd
  F := Fr.refl _ hs
  ow := fun p h => .inl (List.mem_map_of_mem h)
  bs := Same.refl _
/-- a def hands back: the own things that are its caller's, and the result -/
theorem Ds.fin {r : Rs} {w' : Own} {v : V} (S : Ds K C B σ H M ρ w tp) (hw : w'.map (·.1) = C.O) (hs : ∀ p ∈ w', p ∈ w) (h : RsOk K C M H v r) : Fin K C r w' v H :=
  ⟨M, S.F, hw, fun p hp => (S.own p (hs p hp)).2, h⟩
end
end Pf

namespace Pf
open PySem PySem.Spec PyProof.Rows L2
/-! steps of readings over Ds -/
inductive Tm (tp : List (V × PyData)) : V → PyData → Prop
  | i (j : Int) : Tm tp (.int j) (.int j)
  | b (c : Bool) : Tm tp (.bl c) (.bool c)
  | s (x : Str) : Tm tp (.str x) (.str x)
  | n : Tm tp .non .none
  | m {v : V} {d : PyData} : (v, d) ∈ tp → Tm tp v d
inductive TmAll (tp : List (V × PyData)) : List V → List PyData → Prop
  | nil : TmAll tp [] []
  | cons {v : V} {vs : List V} {d : PyData} {ds : List PyData} : Tm tp v d → TmAll tp vs ds → TmAll tp (v :: vs) (d :: ds)
inductive SlT (K : PySem.W.Frag) (M : Hp) (tp : List (V × PyData)) : List V → List Sl → Prop
  | nil : SlT K M tp [] []
  | d {v : V} {vs : List V} {x : PyData} {ss : List Sl} : Tm tp v x → SlT K M tp vs ss → SlT K M tp (v :: vs) (.d x :: ss)
  | p {a : Addr} {vs : List V} {x : PyData} {ss : List Sl} : FzT K M a → Tm tp (.ref a) x → SlT K M tp vs ss → SlT K M tp (.ref a :: vs) (.p x :: ss)
  | v {v : V} {vs : List V} {ss : List Sl} : SlT K M tp vs ss → SlT K M tp (v :: vs) (.v v :: ss)
inductive SetAt {α : Type} : List α → Nat → α → List α → Prop
  | z {a x : α} {l : List α} : SetAt (a :: l) 0 x (x :: l)
  | s {a x : α} {l l' : List α} {n : Nat} : SetAt l n x l' → SetAt (a :: l) (n + 1) x (a :: l')
theorem SetAt.eq {α : Type} : ∀ {l l' : List α} {n : Nat} {x : α}, SetAt l n x l' → l' = l.set n x
  | _, _, _, _, .z => rfl
  | _, _, _, _, .s h => congrArg (_ :: ·) h.eq
theorem SetAt.of {α : Type} {l : List α} {n : Nat} {x : α} (h : n < l.length) : SetAt l n x (l.set n x) := by
  induction l generalizing n with
  | nil => simp at h
  | cons a l ih =>
    cases n with
    | zero => exact .z
    | succ n => exact .s (ih (by simpa using h))
def Giv (K : PySem.W.Frag) (M H : Hp) (R : VK) (d : PyData) : Prop := ∀ v, Dp K M v d → R v H
def rIsNo : R2 := fun x y H Q => y = .non ∧ Q (.bl (decide (x = .non))) H
def rNotNo : R2 := fun x y H Q => y = .non ∧ Q (.bl (!decide (x = .non))) H
def rInt1 : List V → Hp → VK → Prop := fun xs H Q => (∃ i, xs = [.int i] ∧ Q (.int i) H) ∨ ∃ k, xs = [.bl k] ∧ Q (.int (if k then 1 else 0)) H
def rLstOf (K : PySem.W.Frag) : List V → Hp → VK → Prop := fun xs H Q => ∃ p ys, xs = [.ref p] ∧ (SqL K H p ys ∨ SqT K H p ys) ∧ ∀ l, H l = none → Q (.ref l) (upd H l (.lst ys))
def rTupOf (K : PySem.W.Frag) : List V → Hp → VK → Prop := fun xs H Q => ∃ p ys, xs = [.ref p] ∧ ((SqL K H p ys ∧ ∀ l, H l = none → Q (.ref l) (upd H l (.tup ys))) ∨ (SqT K H p ys ∧ Q (.ref p) H))
section
variable {X : Cx}
theorem op_isNo : OpR X (compareOp .Is) rIsNo := op_isN
theorem op_notNo : OpR X (compareOp .IsNot) rNotNo := op_notN
theorem call_intD : CallR X (.type "int") rInt1 := call_int1
theorem call_lstD {K : PySem.W.Frag} (h : X.K = K := by rfl) : CallR X (.type "list") (rLstOf K) := by
  subst h
  exact call_list_of
theorem call_tupD {K : PySem.W.Frag} (h : X.K = K := by rfl) : CallR X (.type "tuple") (rTupOf K) := by
  subst h
  exact call_tuple_of
theorem inD {K : PySem.W.Frag} (h : X.K = K := by rfl) : OpR X (compareOp .In) (rIn K false) := by
  subst h
  exact op_in_seq
theorem notInD {K : PySem.W.Frag} (h : X.K = K := by rfl) : OpR X (compareOp .NotIn) (rIn K true) := by
  subst h
  exact op_notIn_seq
end
def TupK (Q : VK) (xs : List V) (H1 : Hp) : Prop := xs.length ≤ sizeLine ∧ ∀ p, H1 p = none → Q (.ref p) (upd H1 p (.tup xs))
def LstK (Q : VK) (xs : List V) (H1 : Hp) : Prop := xs.length ≤ sizeLine ∧ ∀ p, H1 p = none → Q (.ref p) (upd H1 p (.lst xs))
def AppK (K : PySem.W.Frag) (Q : VK) (x y : V) (H2 : Hp) : Prop := rAppend x [y] H2 Q
section
variable {K : PySem.W.Frag} {C : Fx} {B : Hp} {σ : L2.St} {H M H' M' : Hp} {ρ ρ' : List Sl} {w w' : Own} {tp : List (V × PyData)} {Q R : VK} {QB : Bool → Hp → Prop} {D : Ends} {E : XK}
variable {i j n : Nat} {a b : Int} {v x y : V} {d e : PyData} {ds es : List PyData} {te ta tb : TE} {t u : TS} {tt tu : TT} {tl : TA} {g : TG} {p : Addr}
theorem Tm.dp (S : Ds K C B σ H M ρ w tp) (h : Tm tp v d) : Dp K M v d := by
  cases h with
  | i j => exact .int j
  | b c => exact .bl c
  | s x => exact .str x
  | n => exact .non
  | m h => exact S.tm _ h
theorem TmAll.dp (S : Ds K C B σ H M ρ w tp) : ∀ {vs : List V} {ds : List PyData}, TmAll tp vs ds → DpAll K M vs ds
  | _, _, .nil => .nil
  | _, _, .cons h t => .cons (h.dp S) (t.dp S)
theorem SlT.dp (S : Ds K C B σ H M ρ w tp) : ∀ {vs : List V} {ss : List Sl}, SlT K M tp vs ss → SlVs K M vs ss
  | _, _, .nil => .nil
  | _, _, .d h t => .cons (h.dp S) (t.dp S)
  | _, _, .p f h t => .cons ⟨h.dp S, _, rfl, f⟩ (t.dp S)
  | _, _, .v t => .cons rfl (t.dp S)
theorem DpAll.up (e : Same M H) {vs : List V} {ds : List PyData} (h : DpAll K M vs ds) : DpAll K H vs ds := DpAll.same e h
/-! what a part gives -/
theorem x_gI (h : R (.int a) H) : Giv K M H R (.int a) := fun v e => by cases e; exact h
theorem x_gB {c : Bool} (h : R (.bl c) H) : Giv K M H R (.bool c) := fun v e => by cases e; exact h
theorem x_gS {s : Str} (h : R (.str s) H) : Giv K M H R (.str s) := fun v e => by cases e; exact h
theorem x_gN (h : R .non H) : Giv K M H R .none := fun v e => by cases e; exact h
theorem x_gP (S : Ds K C B σ H M ρ w tp) (h : ∀ v, Ds K C B σ H M ρ w ((v, d) :: tp) → R v H) : Giv K M H R d := fun v e => h v (S.push e)
/-! expressions -/
theorem x_var (S : Ds K C B σ H M ρ w tp) (h : ρ[i]? = some (.d d)) (q : Giv K M H R d) : tVar i σ H R := by
  obtain ⟨v, h1, h2⟩ := S.get h (fun z => nomatch z)
  exact ⟨v, h1, q v h2⟩
theorem x_varP (S : Ds K C B σ H M ρ w tp) (h : ρ[i]? = some (.p d)) (q : ∀ a, FzT K M a → Ds K C B σ H M ρ w ((.ref a, d) :: tp) → R (.ref a) H) : tVar i σ H R := by
  obtain ⟨v, h1, h2, a, rfl, h3⟩ := S.get h (fun z => nomatch z)
  exact ⟨_, h1, q a h3 (S.push h2)⟩
theorem x_varV (S : Ds K C B σ H M ρ w tp) (h : ρ[i]? = some (.v x)) (q : R x H) : tVar i σ H R := by
  obtain ⟨v, h1, h2⟩ := S.get h (fun z => nomatch z)
  exact ⟨x, by rw [h1, show v = x from h2], q⟩
theorem x_c (q : R v H) : tC v σ H R := q
theorem x_cR {r : Addr} (S : Ds K C B σ H M ρ w tp) (h : ∀ M, Dp K M (.ref r) d) (q : Ds K C B σ H M ρ w ((.ref r, d) :: tp) → R (.ref r) H) : tC (.ref r) σ H R := q (S.push (h M))
theorem x_op {r : R2} (h : ta σ H fun x H1 => tb σ H1 fun y H2 => r x y H2 R) : tOp r ta tb σ H R := h
theorem x_un {r : V → Hp → VK → Prop} (h : ta σ H fun x H1 => r x H1 R) : tUn r ta σ H R := h
theorem x_U {gg : Int → V} (h : R (gg a) H) : rU gg (.int a) H R := ⟨a, rfl, h⟩
theorem x_I0 {gg : Int → Int → V} (h : R (gg a b) H) : rI0 gg (.int a) (.int b) H R := ⟨a, b, rfl, rfl, h⟩
theorem x_I {cc : Int → Int → Prop} {gg : Int → Int → V} (hc : cc a b) (h : R (gg a b) H) : rI cc gg (.int a) (.int b) H R := ⟨a, b, rfl, rfl, hc, h⟩
theorem x_eqI (h : R (.bl (decide (a = b))) H) : rEq (.int a) (.int b) H R := ⟨rfl, by rw [show decide (V.int a = V.int b) = decide (a = b) from decide_eq_decide.mpr ⟨V.int.inj, congrArg _⟩]; exact h⟩
theorem x_eqS {s s' : Str} (h : R (.bl (decide (s = s'))) H) : rEq (.str s) (.str s') H R := ⟨rfl, by rw [show decide (V.str s = V.str s') = decide (s = s') from decide_eq_decide.mpr ⟨V.str.inj, congrArg _⟩]; exact h⟩
theorem x_eqB {c c' : Bool} (h : R (.bl (decide (c = c'))) H) : rEq (.bl c) (.bl c') H R := ⟨rfl, by rw [show decide (V.bl c = V.bl c') = decide (c = c') from decide_eq_decide.mpr ⟨V.bl.inj, congrArg _⟩]; exact h⟩
theorem x_neI (h : R (.bl (!decide (a = b))) H) : rNe (.int a) (.int b) H R := ⟨rfl, by rw [show decide (V.int a = V.int b) = decide (a = b) from decide_eq_decide.mpr ⟨V.int.inj, congrArg _⟩]; exact h⟩
theorem x_neS {s s' : Str} (h : R (.bl (!decide (s = s'))) H) : rNe (.str s) (.str s') H R := ⟨rfl, by rw [show decide (V.str s = V.str s') = decide (s = s') from decide_eq_decide.mpr ⟨V.str.inj, congrArg _⟩]; exact h⟩
theorem x_neB {c c' : Bool} (h : R (.bl (!decide (c = c'))) H) : rNe (.bl c) (.bl c') H R := ⟨rfl, by rw [show decide (V.bl c = V.bl c') = decide (c = c') from decide_eq_decide.mpr ⟨V.bl.inj, congrArg _⟩]; exact h⟩
theorem x_isNoR {r : Addr} (h : R (.bl false) H) : rIsNo (.ref r) .non H R := ⟨rfl, h⟩
theorem x_isNoN (h : R (.bl true) H) : rIsNo .non .non H R := ⟨rfl, h⟩
theorem x_isNoI (h : R (.bl false) H) : rIsNo (.int a) .non H R := ⟨rfl, h⟩
theorem x_notNoR {r : Addr} (h : R (.bl true) H) : rNotNo (.ref r) .non H R := ⟨rfl, h⟩
theorem x_notNoN (h : R (.bl false) H) : rNotNo .non .non H R := ⟨rfl, h⟩
theorem x_notNoI (h : R (.bl true) H) : rNotNo (.int a) .non H R := ⟨rfl, h⟩
def isNo : PyData → Bool
  | .none => true
  | _ => false
theorem dp_isNo (h : Dp K M v d) : decide (v = .non) = isNo d := by
  cases h <;> simp [isNo]
theorem x_isNoD (S : Ds K C B σ H M ρ w tp) (ht : Tm tp v d) (h : R (.bl (isNo d)) H) : rIsNo v .non H R := ⟨rfl, by rw [dp_isNo (ht.dp S)]; exact h⟩
theorem x_notNoD (S : Ds K C B σ H M ρ w tp) (ht : Tm tp v d) (h : R (.bl (!isNo d)) H) : rNotNo v .non H R := ⟨rfl, by rw [dp_isNo (ht.dp S)]; exact h⟩
/-! places -/
theorem dpAll_get : ∀ {vs : List V} {ds : List PyData}, DpAll K M vs ds → ∀ (i : Nat) (d : PyData), ds[i]? = some d → ∃ v, vs[i]? = some v ∧ Dp K M v d
  | _, _, .nil, i, d, h => by simp at h
  | _, _, .cons (v := v) a _, 0, d, h => by
    simp at h
    subst h
    exact ⟨v, rfl, a⟩
  | _, _, .cons _ t, i + 1, d, h => by
    obtain ⟨v, h1, h2⟩ := dpAll_get t i d (by simpa using h)
    exact ⟨v, by simpa using h1, h2⟩
theorem dpAll_atI {vs : List V} (h : DpAll K M vs ds) (hi : atI ds a = some d) : ∃ v, atI vs a = some v ∧ Dp K M v d := by
  unfold atI at hi ⊢
  rw [← dpAll_len h] at hi
  cases e : ixN vs.length a with
  | none => rw [e] at hi; cases hi
  | some j =>
    rw [e] at hi
    obtain ⟨v, h1, h2⟩ := dpAll_get h j d hi
    exact ⟨v, h1, h2⟩
theorem x_ixT (S : Ds K C B σ H M ρ w tp) (ht : Tm tp v (.tuple ds)) (hi : atI ds a = some d) (q : Giv K M H R d) : rIxT K v (.int a) H R := by
  obtain ⟨p, xs, rfl, h1, h2⟩ := dp_tup (ht.dp S)
  obtain ⟨v, h3, h4⟩ := dpAll_atI h2 hi
  exact ⟨p, xs, a, v, rfl, rfl, Same.seqT S.sub h1, h3, q v h4⟩
theorem dp_lst (h : Dp K M v (.list ds)) : ∃ p xs, v = .ref p ∧ SqL K M p xs ∧ DpAll K M xs ds := by
  cases h with
  | lst h a => exact ⟨_, _, rfl, h, a⟩
theorem x_ixL (S : Ds K C B σ H M ρ w tp) (ht : Tm tp v (.list ds)) (hi : atI ds a = some d) (q : Giv K M H R d) : rIxL K v (.int a) H R := by
  obtain ⟨p, xs, rfl, h1, h2⟩ := dp_lst (ht.dp S)
  obtain ⟨v, h3, h4⟩ := dpAll_atI h2 hi
  exact ⟨p, xs, a, v, rfl, rfl, S.sub.seq h1, h3, q v h4⟩
/-- of an own list, at place j -/
theorem x_ixO (j : Nat) (S : Ds K C B σ H M ρ w tp) (hj : w[j]? = some (p, .lst ds)) (hi : atI ds a = some d) (q : Giv K M H R d) : rIxL K (.ref p) (.int a) H R := by
  obtain ⟨_, vs, h1, h2⟩ := S.own _ (List.mem_of_getElem? hj)
  obtain ⟨v, h3, h4⟩ := dpAll_atI h2 hi
  exact ⟨p, vs, a, v, rfl, rfl, .of h1, h3, q v h4⟩
theorem x_ixSt {s : Str} {c : Nat} (hz : s.length ≤ sizeLine) (hi : atI s.cps.toList a = some c) (q : R (.str ⟨#[c]⟩) H) : rIxS (.str s) (.int a) H R := ⟨s, a, c, rfl, rfl, hz, hi, q⟩
/-! tests -/
theorem x_test (h : te σ H fun x H1 => ∃ k, x = .bl k ∧ QB k H1) : tTest te σ H QB := h
theorem x_tB (h : te σ H fun x H1 => ∃ k, x = .bl k ∧ QB k H1) : tB te σ H QB := h
theorem x_exB {q : Bool → Prop} {c : Bool} (h : q c) : ∃ k, V.bl c = .bl k ∧ q k := ⟨c, rfl, h⟩
theorem x_not (h : tt σ H fun c H1 => QB (!c) H1) : tNot tt σ H QB := h
theorem x_and (h : tt σ H fun c H1 => if c = true then tu σ H1 QB else QB false H1) : tAnd tt tu σ H QB := h
theorem x_or (h : tt σ H fun c H1 => if c = true then QB true H1 else tu σ H1 QB) : tOr tt tu σ H QB := h
theorem x_andV (h : ta σ H fun x H1 => ∃ c, x = .bl c ∧ if c = true then tb σ H1 Q else Q (.bl false) H1) : tAndV ta tb σ H Q := h
theorem x_orV (h : ta σ H fun x H1 => ∃ c, x = .bl c ∧ if c = true then Q (.bl true) H1 else tb σ H1 Q) : tOrV ta tb σ H Q := h
theorem x_notV (h : ta σ H fun x H1 => ∃ c, x = .bl c ∧ Q (.bl (!c)) H1) : tNotV ta σ H Q := h
theorem x_ifE (h : tt σ H fun c H1 => if c = true then ta σ H1 Q else tb σ H1 Q) : tIf tt ta tb σ H Q := h
theorem x_if {c : Bool} {A B : Prop} (h1 : c = true → A) (h2 : c = false → B) : if c = true then A else B := by
  cases c with
  | true => exact h1 rfl
  | false => exact h2 rfl
theorem x_ifT {c : Bool} {A B : Prop} (h : c = true) (h1 : A) : if c = true then A else B := by rw [if_pos h]; exact h1
theorem x_ifF {c : Bool} {A B : Prop} (h : c = false) (h1 : B) : if c = true then A else B := by rw [if_neg (by rw [h]; decide)]; exact h1
/-- truth of a value -/
theorem x_notT (h : ta σ H fun x H1 => ∃ k, TruV K x H1 k ∧ Q (.bl (!k)) H1) : tNotT K ta σ H Q := h
theorem x_truI {q : Bool → Prop} (h : q (a != 0)) : ∃ k, TruV K (.int a) H k ∧ q k := ⟨_, rfl, h⟩
theorem x_truB {q : Bool → Prop} {c : Bool} (h : q c) : ∃ k, TruV K (.bl c) H k ∧ q k := ⟨_, rfl, h⟩
theorem dpAll_emp {vs : List V} (h : DpAll K M vs ds) : (!vs.isEmpty) = !ds.isEmpty := by cases h <;> rfl
theorem x_truT {q : Bool → Prop} (S : Ds K C B σ H M ρ w tp) (ht : Tm tp v (.tuple ds)) (h : q (!ds.isEmpty)) : ∃ k, TruV K v H k ∧ q k := by
  obtain ⟨p, xs, rfl, h1, h2⟩ := dp_tup (ht.dp S)
  exact ⟨_, .inr (.inl ⟨xs, Same.seqT S.sub h1, rfl⟩), by rw [dpAll_emp h2]; exact h⟩
theorem x_truL {q : Bool → Prop} (S : Ds K C B σ H M ρ w tp) (ht : Tm tp v (.list ds)) (h : q (!ds.isEmpty)) : ∃ k, TruV K v H k ∧ q k := by
  obtain ⟨p, xs, rfl, h1, h2⟩ := dp_lst (ht.dp S)
  exact ⟨_, .inl ⟨xs, S.sub.seq h1, rfl⟩, by rw [dpAll_emp h2]; exact h⟩
theorem x_truO {q : Bool → Prop} (j : Nat) (S : Ds K C B σ H M ρ w tp) (hj : w[j]? = some (p, .lst ds)) (h : q (!ds.isEmpty)) : ∃ k, TruV K (.ref p) H k ∧ q k := by
  obtain ⟨_, vs, h1, h2⟩ := S.own _ (List.mem_of_getElem? hj)
  exact ⟨_, .inl ⟨vs, .of h1, rfl⟩, by rw [dpAll_emp h2]; exact h⟩
/-! tuples, lists, arguments -/
theorem x_nil {qa : List V → Hp → Prop} (h : qa [] H) : tNil σ H qa := h
theorem x_cons {qa : List V → Hp → Prop} (h : ta σ H fun x H1 => tl σ H1 fun xs H2 => qa (x :: xs) H2) : tCons ta tl σ H qa := h
theorem x_tup (h : tl σ H fun xs H1 => TupK Q xs H1) : tTup tl σ H Q := h
theorem x_lst (h : tl σ H fun xs H1 => LstK Q xs H1) : tLst tl σ H Q := h
theorem TmAll.len : ∀ {vs : List V} {ds : List PyData}, TmAll tp vs ds → vs.length = ds.length
  | _, _, .nil => rfl
  | _, _, .cons _ t => congrArg Nat.succ t.len
theorem x_tupK {vs : List V} (S : Ds K C B σ H M ρ w tp) (ht : TmAll tp vs ds) (hl : decide (vs.length ≤ 1000) = true) (q : ∀ p H' M', Ds K C B σ H' M' ρ w ((.ref p, .tuple ds) :: tp) → Q (.ref p) H') : TupK Q vs H :=
  ⟨Nat.le_trans (of_decide_eq_true hl) (by decide), fun p hp => q p _ _ (S.newT hp (ht.dp S))⟩
theorem x_lstK {vs : List V} (S : Ds K C B σ H M ρ w tp) (ht : TmAll tp vs ds) (hl : decide (vs.length ≤ 1000) = true) (q : ∀ p H', Ds K C B σ H' M ρ ((p, .lst ds) :: w) tp → Q (.ref p) H') : LstK Q vs H :=
  ⟨Nat.le_trans (of_decide_eq_true hl) (by decide), fun p hp => q p _ (S.newL hp (ht.dp S))⟩
theorem x_cb {r : List V → Hp → VK → Prop} (h : tl σ H fun vs H1 => r vs H1 Q) : tCB r tl σ H Q := h
theorem x_tcall {sp : Sp} (h : tl σ H fun vs H1 => sp vs H1 Q E) : tCall sp [] E tl σ H Q := by
  unfold tCall
  simp only [List.append_nil]
  exact h
theorem x_lenT (S : Ds K C B σ H M ρ w tp) (ht : Tm tp v (.tuple ds)) (q : R (.int ds.length) H) : rLenQ K [v] H R := by
  obtain ⟨p, xs, rfl, h1, h2⟩ := dp_tup (ht.dp S)
  exact ⟨p, xs, rfl, .inr (Same.seqT S.sub h1), by rw [dpAll_len h2]; exact q⟩
theorem x_lenL (S : Ds K C B σ H M ρ w tp) (ht : Tm tp v (.list ds)) (q : R (.int ds.length) H) : rLenQ K [v] H R := by
  obtain ⟨p, xs, rfl, h1, h2⟩ := dp_lst (ht.dp S)
  exact ⟨p, xs, rfl, .inl (S.sub.seq h1), by rw [dpAll_len h2]; exact q⟩
theorem x_lenO (j : Nat) (S : Ds K C B σ H M ρ w tp) (hj : w[j]? = some (p, .lst ds)) (q : R (.int ds.length) H) : rLenQ K [.ref p] H R := by
  obtain ⟨_, vs, h1, h2⟩ := S.own _ (List.mem_of_getElem? hj)
  exact ⟨p, vs, rfl, .inl (.of h1), by rw [dpAll_len h2]; exact q⟩
theorem x_int (q : R (.int a) H) : rInt1 [.int a] H R := .inl ⟨a, rfl, q⟩
theorem x_intB {c : Bool} (q : R (.int (if c then 1 else 0)) H) : rInt1 [.bl c] H R := .inr ⟨c, rfl, q⟩
/-- tuple(an own list), tuple(data) -/
theorem x_tupO (j : Nat) (S : Ds K C B σ H M ρ w tp) (hj : w[j]? = some (p, .lst ds)) (q : ∀ l H' M', Ds K C B σ H' M' ρ w ((.ref l, .tuple ds) :: tp) → R (.ref l) H') : rTupOf K [.ref p] H R := by
  obtain ⟨_, vs, h1, h2⟩ := S.own _ (List.mem_of_getElem? hj)
  exact ⟨p, vs, rfl, .inl ⟨.of h1, fun l hl => q l _ _ (S.newT hl h2)⟩⟩
theorem x_tupL (S : Ds K C B σ H M ρ w tp) (ht : Tm tp v (.list ds)) (q : ∀ l H' M', Ds K C B σ H' M' ρ w ((.ref l, .tuple ds) :: tp) → R (.ref l) H') : rTupOf K [v] H R := by
  obtain ⟨p, xs, rfl, h1, h2⟩ := dp_lst (ht.dp S)
  exact ⟨p, xs, rfl, .inl ⟨S.sub.seq h1, fun l hl => q l _ _ (S.newT hl h2)⟩⟩
theorem x_tupT (S : Ds K C B σ H M ρ w tp) (ht : Tm tp v (.tuple ds)) (q : R v H) : rTupOf K [v] H R := by
  obtain ⟨p, xs, rfl, h1, h2⟩ := dp_tup (ht.dp S)
  exact ⟨p, xs, rfl, .inr ⟨Same.seqT S.sub h1, q⟩⟩
/-- list(data), list(an own list): a new list -/
theorem x_lsT (S : Ds K C B σ H M ρ w tp) (ht : Tm tp v (.tuple ds)) (q : ∀ l H', Ds K C B σ H' M ρ ((l, .lst ds) :: w) tp → R (.ref l) H') : rLstOf K [v] H R := by
  obtain ⟨p, xs, rfl, h1, h2⟩ := dp_tup (ht.dp S)
  exact ⟨p, xs, rfl, .inr (Same.seqT S.sub h1), fun l hl => q l _ (S.newL hl h2)⟩
theorem x_lsL (S : Ds K C B σ H M ρ w tp) (ht : Tm tp v (.list ds)) (q : ∀ l H', Ds K C B σ H' M ρ ((l, .lst ds) :: w) tp → R (.ref l) H') : rLstOf K [v] H R := by
  obtain ⟨p, xs, rfl, h1, h2⟩ := dp_lst (ht.dp S)
  exact ⟨p, xs, rfl, .inl (S.sub.seq h1), fun l hl => q l _ (S.newL hl h2)⟩
theorem x_lsO (j : Nat) (S : Ds K C B σ H M ρ w tp) (hj : w[j]? = some (p, .lst ds)) (q : ∀ l H', Ds K C B σ H' M ρ ((l, .lst ds) :: w) tp → R (.ref l) H') : rLstOf K [.ref p] H R := by
  obtain ⟨_, vs, h1, h2⟩ := S.own _ (List.mem_of_getElem? hj)
  exact ⟨p, vs, rfl, .inl (.of h1), fun l hl => q l _ (S.newL hl h2)⟩
/-! in -/
def flatD : PyData → Bool
  | .none => true
  | .bool _ => true
  | .int _ => true
  | .str _ => true
  | _ => false
theorem dp_flat (h : Dp K M v d) (f : flatD d = true) : flatV v = true := by
  cases h <;> first | rfl | exact absurd f (by simp [flatD])
theorem dpAll_flat : ∀ {vs : List V} {ds : List PyData}, DpAll K M vs ds → (∀ d ∈ ds, flatD d = true) → vs.all flatV = true
  | _, _, .nil, _ => rfl
  | _, _, .cons a t, f => by
    rw [List.all_cons, dp_flat a (f _ (List.mem_cons_self ..)), dpAll_flat t fun d h => f d (List.mem_cons_of_mem _ h)]
    rfl
theorem dpAll_ints : ∀ {ns : List Int} {vs : List V}, DpAll K M vs (ns.map .int) → vs = ns.map .int
  | [], _, .nil => rfl
  | n :: ns, _, .cons a t => by
    cases a
    rw [dpAll_ints t]
    rfl
theorem dpAll_strs : ∀ {ns : List Str} {vs : List V}, DpAll K M vs (ns.map .str) → vs = ns.map .str
  | [], _, .nil => rfl
  | n :: ns, _, .cons a t => by
    cases a
    rw [dpAll_strs t]
    rfl
theorem dpAll_bools : ∀ {ns : List Bool} {vs : List V}, DpAll K M vs (ns.map .bool) → vs = ns.map .bl
  | [], _, .nil => rfl
  | n :: ns, _, .cons a t => by
    cases a
    rw [dpAll_bools t]
    rfl
theorem inV_int {ns : List Int} : inV (.int a) (ns.map .int) = decide (a ∈ ns) := by
  unfold inV
  rw [List.any_map, Bool.eq_iff_iff, List.any_eq_true, decide_eq_true_iff]
  constructor
  · rintro ⟨x, h1, h2⟩
    have : x = a := by simpa [eqV] using h2
    exact this ▸ h1
  · exact fun h => ⟨a, h, by simp [eqV]⟩
theorem flat_ints {ns : List Int} : (ns.map V.int).all flatV = true := by
  rw [List.all_map, List.all_eq_true]
  exact fun _ _ => rfl
theorem bl_not {neg : Bool} {c : Bool} : (if neg = true then !c else c) = (c != neg) := by cases neg <;> cases c <;> rfl
theorem x_inIT {neg : Bool} {ns : List Int} (S : Ds K C B σ H M ρ w tp) (ht : Tm tp v (.tuple (ns.map .int))) (q : R (.bl (if neg then !decide (a ∈ ns) else decide (a ∈ ns))) H) : rIn K neg (.int a) v H R := by
  obtain ⟨p, xs, rfl, h1, h2⟩ := dp_tup (ht.dp S)
  cases dpAll_ints h2
  exact ⟨p, _, rfl, .inr (Same.seqT S.sub h1), rfl, flat_ints, by rw [inV_int]; exact q⟩
theorem x_inIL {neg : Bool} {ns : List Int} (S : Ds K C B σ H M ρ w tp) (ht : Tm tp v (.list (ns.map .int))) (q : R (.bl (if neg then !decide (a ∈ ns) else decide (a ∈ ns))) H) : rIn K neg (.int a) v H R := by
  obtain ⟨p, xs, rfl, h1, h2⟩ := dp_lst (ht.dp S)
  cases dpAll_ints h2
  exact ⟨p, _, rfl, .inl (S.sub.seq h1), rfl, flat_ints, by rw [inV_int]; exact q⟩
theorem x_inIO {neg : Bool} {ns : List Int} (j : Nat) (S : Ds K C B σ H M ρ w tp) (hj : w[j]? = some (p, .lst (ns.map .int))) (q : R (.bl (if neg then !decide (a ∈ ns) else decide (a ∈ ns))) H) : rIn K neg (.int a) (.ref p) H R := by
  obtain ⟨_, vs, h1, h2⟩ := S.own _ (List.mem_of_getElem? hj)
  cases dpAll_ints h2
  exact ⟨p, _, rfl, .inl (.of h1), rfl, flat_ints, by rw [inV_int]; exact q⟩
theorem x_inST {neg : Bool} {ns : List Str} {s : Str} (S : Ds K C B σ H M ρ w tp) (ht : Tm tp v (.tuple (ns.map .str))) (q : R (.bl (if neg then !decide (s ∈ ns) else decide (s ∈ ns))) H) : rIn K neg (.str s) v H R := by
  obtain ⟨p, xs, rfl, h1, h2⟩ := dp_tup (ht.dp S)
  cases dpAll_strs h2
  exact ⟨p, _, rfl, .inr (Same.seqT S.sub h1), rfl, flat_strs ns, by rw [inV_strs]; exact q⟩
/-! == of data -/
theorem x_eqD (S : Ds K C B σ H M ρ w tp) (h1 : Tm tp x d) (h2 : Tm tp y e) (s1 : SeqAt.shaped d = true) (s2 : SeqAt.shaped e = true) (q : R (.bl (PyData.eqv d e)) H) : rEqD K x y H R :=
  ⟨d, e, Dp.same S.sub (h1.dp S), Dp.same S.sub (h2.dp S), s1, s2, q⟩
theorem x_neD (S : Ds K C B σ H M ρ w tp) (h1 : Tm tp x d) (h2 : Tm tp y e) (s1 : SeqAt.shaped d = true) (s2 : SeqAt.shaped e = true) (q : R (.bl (!PyData.eqv d e)) H) : rNeD K x y H R :=
  ⟨d, e, Dp.same S.sub (h1.dp S), Dp.same S.sub (h2.dp S), s1, s2, q⟩
/-! statements -/
theorem x_seq (h : t { D with nx := u D } σ H) : tSeq t u D σ H := h
theorem x_seqN {u : TS} (h : ∀ N : L2.St → Hp → Prop, (∀ σ H, u D σ H → N σ H) → t { nx := N, rt := D.rt, bk := D.bk, ct := D.ct } σ H) : tSeq t u D σ H := h (u D) fun _ _ z => z
theorem x_N {N P : L2.St → Hp → Prop} (hN : ∀ σ H, P σ H → N σ H) (h : P σ H) : N σ H := hN σ H h
theorem x_asg (h : te σ H fun x H1 => g x σ H1 D.nx) : tAsg te g D σ H := h
theorem x_ret (h : te σ H D.rt) : tRet te D σ H := h
theorem x_ifS (h : tt σ H fun c H1 => if c = true then t D σ H1 else u D σ H1) : tIfS tt t u D σ H := h
theorem x_drop (h : te σ H fun _ H1 => D.nx σ H1) : tDrop te D σ H := h
theorem x_next (h : D.nx σ H) : tNext D σ H := h
theorem x_cont (h : D.ct σ H) : tCont D σ H := h
theorem x_break (h : D.bk σ H) : tBreak D σ H := h
theorem x_clr (S : Ds K C B σ H M ρ w tp) {P : Prop} (h : Ds K C B σ H M ρ w [] → P) : P := h S.clr
theorem x_gn {q : L2.St → Hp → Prop} (S : Ds K C B σ H M ρ w tp) (ht : Tm tp v d) (hs : SetAt ρ i (.d d) ρ') (h : ∀ σ', Ds K C B σ' H M ρ' w tp → q σ' H) : gName i v σ H q :=
  h _ (hs.eq ▸ S.set (ht.dp S))
theorem x_gnV {q : L2.St → Hp → Prop} (S : Ds K C B σ H M ρ w tp) (hs : SetAt ρ i (.v v) ρ') (h : ∀ σ', Ds K C B σ' H M ρ' w tp → q σ' H) : gName i v σ H q :=
  h _ (hs.eq ▸ S.set (s := .v v) rfl)
theorem x_gT2 {t1 t2 : TG} {d1 d2 : PyData} {q : L2.St → Hp → Prop} (S : Ds K C B σ H M ρ w tp) (ht : Tm tp v (.tuple [d1, d2])) (h : ∀ x y, Ds K C B σ H M ρ w ((x, d1) :: (y, d2) :: tp) → t1 x σ H fun σ' H' => t2 y σ' H' q) : gTup K 2 (gCons t1 (gCons t2 gNil)) v σ H q := by
  obtain ⟨p, xs, rfl, h1, h2⟩ := dp_tup (ht.dp S)
  obtain ⟨x, r, rfl, k1, h2⟩ := da_cons h2
  obtain ⟨y, r, rfl, k2, h2⟩ := da_cons h2
  cases da_nil h2
  refine ⟨p, _, rfl, Same.seqT S.sub h1, rfl, x, _, rfl, ?_⟩
  have hc : (fun σ' H' => t2 y σ' H' q) = fun σ' H' => gCons t2 gNil [y] σ' H' q := by
    funext σ' H'
    refine propext ⟨fun z => ⟨y, [], rfl, ?_⟩, fun z => ?_⟩
    · have e : q = fun σ2 H2 => gNil [] σ2 H2 q := by
        funext σ2 H2
        exact propext ⟨fun z => ⟨rfl, z⟩, fun z => z.2⟩
      rw [e] at z
      exact z
    · obtain ⟨v, r, e1, z⟩ := z
      cases e1
      have e : q = fun σ2 H2 => gNil [] σ2 H2 q := by
        funext σ2 H2
        exact propext ⟨fun z => ⟨rfl, z⟩, fun z => z.2⟩
      rw [e]
      exact z
  exact hc ▸ h x y ((S.push k2).push k1)
theorem gcons_eq {t2 : TG} {r : List V} {us : TGs} {q : L2.St → Hp → Prop} : (fun σ' H' => gCons t2 us (y :: r) σ' H' q) = fun σ' H' => t2 y σ' H' fun σ2 H2 => us r σ2 H2 q := by
  funext σ' H'
  exact propext ⟨fun ⟨v, r, e1, z⟩ => by cases e1; exact z, fun z => ⟨y, r, rfl, z⟩⟩
theorem gnil_eq {q : L2.St → Hp → Prop} : (fun σ2 H2 => gNil [] σ2 H2 q) = q := by
  funext σ2 H2
  exact propext ⟨fun z => z.2, fun z => ⟨rfl, z⟩⟩
theorem x_gT3 {t1 t2 t3 : TG} {d1 d2 d3 : PyData} {q : L2.St → Hp → Prop} (S : Ds K C B σ H M ρ w tp) (ht : Tm tp v (.tuple [d1, d2, d3])) (h : ∀ x y z, Ds K C B σ H M ρ w ((x, d1) :: (y, d2) :: (z, d3) :: tp) → t1 x σ H fun σ' H' => t2 y σ' H' fun σ2 H2 => t3 z σ2 H2 q) :
    gTup K 3 (gCons t1 (gCons t2 (gCons t3 gNil))) v σ H q := by
  obtain ⟨p, xs, rfl, h1, h2⟩ := dp_tup (ht.dp S)
  obtain ⟨x, r, rfl, k1, h2⟩ := da_cons h2
  obtain ⟨y, r, rfl, k2, h2⟩ := da_cons h2
  obtain ⟨z, r, rfl, k3, h2⟩ := da_cons h2
  cases da_nil h2
  refine ⟨p, _, rfl, Same.seqT S.sub h1, rfl, x, _, rfl, ?_⟩
  rw [gcons_eq]
  have e : (fun σ2 H2 => gCons t3 gNil [z] σ2 H2 q) = fun σ2 H2 => t3 z σ2 H2 q := by rw [gcons_eq, gnil_eq]
  rw [e]
  exact h x y z (((S.push k3).push k2).push k1)
theorem x_gT4 {t1 t2 t3 t4 : TG} {d1 d2 d3 d4 : PyData} {q : L2.St → Hp → Prop} (S : Ds K C B σ H M ρ w tp) (ht : Tm tp v (.tuple [d1, d2, d3, d4])) (h : ∀ x y z u, Ds K C B σ H M ρ w ((x, d1) :: (y, d2) :: (z, d3) :: (u, d4) :: tp) → t1 x σ H fun σ' H' => t2 y σ' H' fun σ2 H2 => t3 z σ2 H2 fun σ3 H3 => t4 u σ3 H3 q) :
    gTup K 4 (gCons t1 (gCons t2 (gCons t3 (gCons t4 gNil)))) v σ H q := by
  obtain ⟨p, xs, rfl, h1, h2⟩ := dp_tup (ht.dp S)
  obtain ⟨x, r, rfl, k1, h2⟩ := da_cons h2
  obtain ⟨y, r, rfl, k2, h2⟩ := da_cons h2
  obtain ⟨z, r, rfl, k3, h2⟩ := da_cons h2
  obtain ⟨u, r, rfl, k4, h2⟩ := da_cons h2
  cases da_nil h2
  refine ⟨p, _, rfl, Same.seqT S.sub h1, rfl, x, _, rfl, ?_⟩
  rw [gcons_eq]
  have e : (fun σ2 H2 => gCons t3 (gCons t4 gNil) [z, u] σ2 H2 q) = fun σ2 H2 => t3 z σ2 H2 fun σ3 H3 => t4 u σ3 H3 q := by rw [gcons_eq, gcons_eq, gnil_eq]
  rw [e]
  exact h x y z u ((((S.push k4).push k3).push k2).push k1)
/-- x += e -/
theorem x_augI {f : Int → Int → Int} (S : Ds K C B σ H M ρ w tp) (h : ρ[i]? = some (.d (.int a))) (q : te σ H fun y H1 => ipI f (.int a) y H1 fun z H2 => D.nx (σ.set i (some z)) H2) : tAug i te (ipI f) D σ H := by
  obtain ⟨v, h1, h2⟩ := S.get h (fun z => nomatch z)
  cases h2
  exact ⟨.int a, h1, q⟩
theorem x_ipI {f : Int → Int → Int} (S : Ds K C B σ H M ρ w tp) (hs : SetAt ρ i (.d (.int (f a b))) ρ') (h : ∀ σ', Ds K C B σ' H M ρ' w tp → D.nx σ' H) : ipI f (.int a) (.int b) H fun z H2 => D.nx (σ.set i (some z)) H2 :=
  ⟨a, b, rfl, rfl, h _ (hs.eq ▸ S.set (.int _))⟩
/-- xs.append(e), xs an own list -/
theorem x_app (S : Ds K C B σ H M ρ w tp) (h : ρ[i]? = some (.v (.ref p))) (j : Nat) (hj : w[j]? = some (p, .lst ds)) (q : te σ H fun y H2 => AppK K Q (.ref p) y H2) : tBM K "list" rAppend (tVar i) (tCons te tNil) σ H Q := by
  obtain ⟨v, h1, h2⟩ := S.get h (fun z => nomatch z)
  cases (show v = .ref p from h2)
  obtain ⟨_, vs, h3, _⟩ := S.own _ (List.mem_of_getElem? hj)
  exact ⟨_, h1, .inl ⟨rfl, vs, .of h3⟩, q⟩
theorem x_appK (j : Nat) (S : Ds K C B σ H M ρ w tp) (hj : w[j]? = some (p, .lst ds)) (ht : Tm tp y e) (hl : ds.length < sizeLine) (hw : SetAt w j (p, .lst (ds ++ [e])) w') (q : ∀ H', Ds K C B σ H' M ρ w' tp → Q .non H') : AppK K Q (.ref p) y H := by
  obtain ⟨_, vs, h1, h2⟩ := S.own _ (List.mem_of_getElem? hj)
  refine ⟨p, vs, y, rfl, rfl, h1, by rw [dpAll_len h2]; exact hl, q _ ?_⟩
  rw [hw.eq]
  exact S.mut hj ⟨_, upd_same, dpAll_app h2 (.cons (ht.dp S) .nil)⟩
end
/-! loops -/
/-- what a turn reaches: I at the turn's number -/
def Nx (K : PySem.W.Frag) (C : Fx) (B : Hp) (I : Nat → List Sl → Own → Prop) (i : Nat) : L2.St → Hp → Prop := fun σ H => ∃ M ρ w, I i ρ w ∧ Ds K C B σ H M ρ w []
def ForT (K : PySem.W.Frag) (R : It → Hp → Prop) (x : V) (H1 : Hp) : Prop := ∃ a, x = .ref a ∧ (∃ xs, SqT K H1 a xs) ∧ R (Itt K a) H1
def ForL (K : PySem.W.Frag) (R : It → Hp → Prop) (x : V) (H1 : Hp) : Prop := ∃ a, x = .ref a ∧ (∃ xs, SqL K H1 a xs) ∧ R (Itl K a) H1
/-- the for behind its iterable -/
def ForB (g : TG) (tb : TS) (D : Ends) (σ0 : L2.St) (J : It) (H1 : Hp) : Prop := ∃ W : Nat → Nat → L2.St → Hp → Prop, (∃ m, W 0 m σ0 H1) ∧ ∀ i m σ H, W i m σ H →
  (J.stop i H ∧ D.nx σ H) ∨ (J.go i H ∧ ∃ N : L2.St → Hp → Prop, (∀ σ' H', N σ' H' → ∃ m', m' < m ∧ W (i + 1) m' σ' H') ∧ ∀ x H', J.yld i H x H' → g x σ H' fun σ2 H2 => tb { D with nx := N, ct := N, bk := D.nx } σ2 H2)
section
variable {K : PySem.W.Frag} {C : Fx} {B : Hp} {σ : L2.St} {H M H' M' : Hp} {ρ ρ' : List Sl} {w w' : Own} {tp : List (V × PyData)} {D : Ends} {te : TE} {tb : TS} {tl : TA} {g : TG} {v : V} {ds : List PyData} {p : Addr}
theorem x_fT (h : te σ H fun x H1 => ForT K (ForB g tb D σ) x H1) : tFor (iTup K te) g tb D σ H := h
theorem x_fL (h : te σ H fun x H1 => ForL K (ForB g tb D σ) x H1) : tFor (iList K te) g tb D σ H := h
theorem x_forT (I : Nat → List Sl → Own → Prop) (S : Ds K C B σ H M ρ w tp) (ht : Tm tp v (.tuple ds)) (h0 : I 0 ρ w)
    (hs : ∀ i d ρ1 w1, ds[i]? = some d → I i ρ1 w1 → ∀ u σ1 H1 M1, Ds K C M σ1 H1 M1 ρ1 w1 [(u, d)] → g u σ1 H1 fun σ2 H2 => tb { D with nx := Nx K C M I (i + 1), ct := Nx K C M I (i + 1), bk := D.nx } σ2 H2)
    (hd : ∀ ρ1 w1, I ds.length ρ1 w1 → ∀ σ1 H1 M1, Ds K C B σ1 H1 M1 ρ1 w1 [] → D.nx σ1 H1) : ForT K (ForB g tb D σ) v H := by
  obtain ⟨p, xs, rfl, h1, h2⟩ := dp_tup (ht.dp S)
  refine ⟨p, rfl, ⟨xs, Same.seqT S.sub h1⟩, for_tup (xs := xs) (Nx K C M I) ⟨M, ρ, w, h0, S.base.clr⟩ (fun i σ1 H1 _ q => ?_) (fun i x σ1 H1 hx q => ?_) (fun σ1 H1 q => ?_)⟩
  · obtain ⟨M1, ρ1, w1, _, S1⟩ := q
    exact Same.seqT (S1.bs.trans S1.sub) h1
  · obtain ⟨M1, ρ1, w1, q, S1⟩ := q
    have hi : i < ds.length := by rw [← dpAll_len h2]; exact (List.getElem?_eq_some_iff.mp hx).1
    have e := List.getElem?_eq_getElem hi
    exact hs i _ ρ1 w1 e q x σ1 H1 M1 (S1.push (Dp.same S1.bs (dpAll_at h2 i x _ hx e)))
  · obtain ⟨M1, ρ1, w1, q, S1⟩ := q
    exact hd ρ1 w1 (dpAll_len h2 ▸ q) σ1 H1 M1 (S1.base' S.bs)
theorem x_forL (I : Nat → List Sl → Own → Prop) (S : Ds K C B σ H M ρ w tp) (ht : Tm tp v (.list ds)) (h0 : I 0 ρ w)
    (hs : ∀ i d ρ1 w1, ds[i]? = some d → I i ρ1 w1 → ∀ u σ1 H1 M1, Ds K C M σ1 H1 M1 ρ1 w1 [(u, d)] → g u σ1 H1 fun σ2 H2 => tb { D with nx := Nx K C M I (i + 1), ct := Nx K C M I (i + 1), bk := D.nx } σ2 H2)
    (hd : ∀ ρ1 w1, I ds.length ρ1 w1 → ∀ σ1 H1 M1, Ds K C B σ1 H1 M1 ρ1 w1 [] → D.nx σ1 H1) : ForL K (ForB g tb D σ) v H := by
  obtain ⟨p, xs, rfl, h1, h2⟩ := dp_lst (ht.dp S)
  refine ⟨p, rfl, ⟨xs, S.sub.seq h1⟩, for_list (xs := xs) (Nx K C M I) ⟨M, ρ, w, h0, S.base.clr⟩ (fun i σ1 H1 _ q => ?_) (fun i x σ1 H1 hx q => ?_) (fun σ1 H1 q => ?_)⟩
  · obtain ⟨M1, ρ1, w1, _, S1⟩ := q
    exact (S1.bs.trans S1.sub).seq h1
  · obtain ⟨M1, ρ1, w1, q, S1⟩ := q
    have hi : i < ds.length := by rw [← dpAll_len h2]; exact (List.getElem?_eq_some_iff.mp hx).1
    have e := List.getElem?_eq_getElem hi
    exact hs i _ ρ1 w1 e q x σ1 H1 M1 (S1.push (Dp.same S1.bs (dpAll_at h2 i x _ hx e)))
  · obtain ⟨M1, ρ1, w1, q, S1⟩ := q
    exact hd ρ1 w1 (dpAll_len h2 ▸ q) σ1 H1 M1 (S1.base' S.bs)
end
end Pf
namespace Pf
open PySem PySem.Spec PyProof.Rows L2
/-! readings with the written part told by its name -/
def tTruD (K : PySem.W.Frag) (ta : TE) : TT := fun σ H Q => ta σ H fun x H' => ∃ k, TruV K x H' k ∧ Q k H'
section
variable {X : Cx} {K : PySem.W.Frag} {e : Expr} {tg : Expr}
theorem kBM {T : String} {r : V → List V → Hp → VK → Prop} {to : TE} {t : TA} (p : PE X e (tBM X.K T r to t)) (h : X.K = K := by rfl) : PE X e (tBM K T r to t) := h ▸ p
theorem kBM0 {T : String} {r : V → List V → Hp → VK → Prop} {to : TE} (p : PE X e (tBM0 X.K T r to)) (h : X.K = K := by rfl) : PE X e (tBM0 K T r to) := h ▸ p
theorem kNotT {ta : TE} (p : PE X e (tNotT X.K ta)) (h : X.K = K := by rfl) : PE X e (tNotT K ta) := h ▸ p
theorem kTru {ta : TE} (p : PT X e (fun σ H Q => ta σ H fun x H' => ∃ k, TruV X.K x H' k ∧ Q k H')) (h : X.K = K := by rfl) : PT X e (tTruD K ta) := by
  subst h
  exact p
theorem kIT {te : TE} (p : PI X tg e (iTup X.K te)) (h : X.K = K := by rfl) : PI X tg e (iTup K te) := h ▸ p
theorem kIL {te : TE} (p : PI X tg e (iList X.K te)) (h : X.K = K := by rfl) : PI X tg e (iList K te) := h ▸ p
theorem kGT {n : Nat} {t : TGs} (p : PG X e (gTup X.K n t)) (h : X.K = K := by rfl) : PG X e (gTup K n t) := h ▸ p
theorem kFld {ta : TE} {f : Str} (p : PE X e (tFld X.K ta f)) (h : X.K = K := by rfl) : PE X e (tFld K ta f) := h ▸ p
theorem kEqD (hu : X.A.units + 64 < cLine) (h : X.K = K := by rfl) : OpR X (compareOp .Eq) (rEqD K) := h ▸ op_eqD hu
theorem kNeD (hu : X.A.units + 64 < cLine) (h : X.K = K := by rfl) : OpR X (compareOp .NotEq) (rNeD K) := h ▸ op_neD hu
theorem kAny (hc : X.calm = true) (h : X.K = K := by rfl) : CallR X (.builtin "any") (rAny K) := h ▸ cr_any hc
theorem kAll (hc : X.calm = true) (h : X.K = K := by rfl) : CallR X (.builtin "all") (rAll K) := h ▸ cr_all hc
theorem kSum (hc : X.calm = true) (h : X.K = K := by rfl) : CallR X (.builtin "sum") (rSum K) := h ▸ cr_sum hc
theorem kIsi (h : X.K = K := by rfl) : CallR X (.builtin "isinstance") (rIsi K) := h ▸ call_isi
theorem kCatA (h : X.K = K := by rfl) : OpR X (binaryOp .Add) (rCatA K) := h ▸ op_catA
theorem kSlA (h : X.K = K := by rfl) : SlR X (rSlA K) := h ▸ sl_tupA
theorem kSlL (h : X.K = K := by rfl) : SlR X (rSlL K) := h ▸ sl_list
end
section
variable {K : PySem.W.Frag} {C : Fx} {B : Hp} {σ : L2.St} {H M H' M' : Hp} {ρ ρ' : List Sl} {w w' : Own} {tp : List (V × PyData)} {Q R : VK} {QB : Bool → Hp → Prop} {D : Ends} {te ta : TE}
theorem x_truD (h : ta σ H fun x H' => ∃ k, TruV K x H' k ∧ QB k H') : tTruD K ta σ H QB := h
end
end Pf
namespace Pf
open PySem PySem.Spec PyProof.Rows L2
/-! the heads alone -/
section
variable {K : PySem.W.Frag} {σ : L2.St} {H M : Hp} {Q R : VK} {D : Ends} {i n : Nat} {a b : Int} {v x y : V} {d : PyData} {te ta tb : TE} {tl : TA} {vs : List V} {q : L2.St → Hp → Prop} {qb : Bool → Prop} {t : TGs} {cc : Int → Int → Prop} {gg : Int → Int → V} {f : Int → Int → Int} {r : Addr} {k : L2.St → V → Hp → Prop}
theorem h_var (h : tVar i σ H R) : tVar i σ H R := h
theorem h_ite {c : Bool} {A B : Prop} (h : if c = true then A else B) : if c = true then A else B := h
theorem h_cR (h : tC (.ref r) σ H R) : tC (.ref r) σ H R := h
theorem h_giv (h : Giv K M H R d) : Giv K M H R d := h
theorem h_tupK (h : TupK Q vs H) : TupK Q vs H := h
theorem h_lstK (h : LstK Q vs H) : LstK Q vs H := h
theorem h_ixT (h : rIxT K x y H R) : rIxT K x y H R := h
theorem h_ixL (h : rIxL K x y H R) : rIxL K x y H R := h
theorem h_I (h : rI cc gg x y H R) : rI cc gg x y H R := h
theorem h_gn (h : gName i v σ H q) : gName i v σ H q := h
theorem h_gT (h : gTup K n t v σ H q) : gTup K n t v σ H q := h
theorem h_tru (h : ∃ k, TruV K v H k ∧ qb k) : ∃ k, TruV K v H k ∧ qb k := h
theorem h_len (h : rLenQ K vs H R) : rLenQ K vs H R := h
theorem h_tupOf (h : rTupOf K vs H R) : rTupOf K vs H R := h
theorem h_lstOf (h : rLstOf K vs H R) : rLstOf K vs H R := h
theorem h_aug (h : tAug i te (ipI f) D σ H) : tAug i te (ipI f) D σ H := h
theorem h_ip {P : V → Hp → Prop} (h : ipI f x y H P) : ipI f x y H P := h
theorem h_app (h : tBM K "list" rAppend ta tl σ H Q) : tBM K "list" rAppend ta tl σ H Q := h
theorem h_isNo (h : rIsNo x y H R) : rIsNo x y H R := h
theorem h_notNo (h : rNotNo x y H R) : rNotNo x y H R := h
theorem h_eq (h : rEq x y H R) : rEq x y H R := h
theorem h_ne (h : rNe x y H R) : rNe x y H R := h
end
end Pf

namespace Pf
open PySem PySem.Spec PyProof.Rows L2
/-! == , in and index of data at any depth -/
def rInX (K : PySem.W.Frag) (neg : Bool) : R2 := fun x y H Q => ∃ d ds, Dp K H x d ∧ (Dp K H y (.list ds) ∨ Dp K H y (.tuple ds)) ∧ d.canLay0 = true ∧ d.depth ≤ 64 ∧ PyData.canLayAll0 ds = true ∧ Q (.bl (if neg then !ds.any (fun z => PyData.eqv z d) else ds.any fun z => PyData.eqv z d)) H
def rTupIx (K : PySem.W.Frag) : V → List V → Hp → VK → Prop := fun x xs H Q => ∃ (a : Addr) (y : V) (d : PyData) (ds : List PyData) (j : Nat) (z : PyData), x = V.ref a ∧ xs = [y] ∧ Dp K H (V.ref a) (.tuple ds) ∧ Dp K H y d ∧ d.canLay0 = true ∧ d.depth ≤ 64 ∧ PyData.canLayAll0 ds = true ∧
  ds[j]? = some z ∧ PyData.eqv z d = true ∧ (∀ (m : Nat) (z' : PyData), m < j → ds[m]? = some z' → PyData.eqv z' d = false) ∧ Q (.int (j : Nat)) H
section
variable {X : Cx}
theorem in_room {A : Around} {d : PyData} {ds : List PyData} (h : d.depth ≤ 64) (hu : A.units + 65 < cLine) : A.units + 1 + min (PyData.depthAll ds) d.depth < cLine := by
  have h2 : min (PyData.depthAll ds) d.depth ≤ d.depth := Nat.min_le_right _ _
  omega
theorem op_inX (hu : X.A.units + 65 < cLine) : OpR X (compareOp .In) (rInX X.K false) := by
  intro pins s σ H x y v u Q I rx ry h
  obtain ⟨d, ds, hd, he, l1, l2, l3, q⟩ := h
  obtain ⟨as, r1⟩ := Dp.reads I d x v hd rx
  rcases he with he | he
  · obtain ⟨bs, r2⟩ := Dp.reads I _ y u he ry
    exact SeqAt.in_list_reads r2 r1 l3 l1 (in_room l2 hu) ⟨.bl _, H, I, rfl, q⟩
  · obtain ⟨bs, r2⟩ := Dp.reads I _ y u he ry
    exact SeqAt.in_tuple_reads r2 r1 l3 l1 (in_room l2 hu) ⟨.bl _, H, I, rfl, q⟩
theorem op_notInX (hu : X.A.units + 65 < cLine) : OpR X (compareOp .NotIn) (rInX X.K true) := by
  intro pins s σ H x y v u Q I rx ry h
  obtain ⟨d, ds, hd, he, l1, l2, l3, q⟩ := h
  obtain ⟨as, r1⟩ := Dp.reads I d x v hd rx
  rcases he with he | he
  · obtain ⟨bs, r2⟩ := Dp.reads I _ y u he ry
    exact SeqAt.notIn_list_reads r2 r1 l3 l1 (in_room l2 hu) ⟨.bl _, H, I, rfl, q⟩
  · obtain ⟨bs, r2⟩ := Dp.reads I _ y u he ry
    exact SeqAt.notIn_tuple_reads r2 r1 l3 l1 (in_room l2 hu) ⟨.bl _, H, I, rfl, q⟩
theorem mt_tupIx (hu : X.A.units + 65 < cLine) : MtR X "tuple.index" (rTupIx X.K) := by
  intro pins s σ H x xs v us Q I rx rxs h
  obtain ⟨p, y, d, ds, j, z, rfl, rfl, hl, hy, l1, l2, l3, hz, hzj, hno, q⟩ := h
  cases rx
  obtain ⟨uy, rfl, ry⟩ := vals1 rxs
  obtain ⟨bs, r1⟩ := Dp.reads I d y uy hy ry
  cases hl with
  | tup hs ha =>
    obtain ⟨its, rv, pl, hlen⟩ := I.tuple hs
    obtain ⟨⟨cls, dd, dt, sl⟩, ho, hc, n, hd⟩ := pl
    simp only at hc hd
    subst hc
    subst hd
    obtain ⟨as, h4⟩ := Dp.readsAll I ds _ its ha rv
    have hn := SeqAt.ReadsAll.length ds its as h4
    have hmap := SeqAt.readsAll_map ds its as l3 h4
    have hjd := (List.getElem?_eq_some_iff.mp hz).1
    have hj : j < its.toArray.size := by rw [List.size_toArray]; omega
    have tell : ∀ (m : Nat) (hm : m < its.toArray.size) (z' : PyData), ds[m]? = some z' → SeqAt.readOf s.heap its.toArray[m] = z' := fun m hm z' hz' => by
      have hml : m < its.length := by rw [← List.size_toArray]; exact hm
      rw [← hmap, List.getElem?_map, List.getElem?_eq_getElem hml] at hz'
      have e1 := Option.some.inj hz'
      rw [← e1]
      simp
    refine call_meets PySem.F.slot_tuple_index ⟨_, ho, rfl⟩ PySem.F.entry_tuple_index (PySem.F.args_tuple_index_2 _ _)
      (TI.tuple_indexAt p its.toArray n dd sl uy (fun u => PyData.eqv (SeqAt.readOf s.heap u) d) j hj ?_ ?_) ⟨ho, ?_, ?_⟩
    · show PyData.eqv _ d = true
      rw [tell j hj z hz]
      exact hzj
    · intro m hm hmj
      have hmd : m < ds.length := by omega
      show PyData.eqv _ d = false
      rw [tell m hm _ (List.getElem?_eq_getElem hmd)]
      exact hno m _ hmj (List.getElem?_eq_getElem hmd)
    · exact SeqAt.items_eqAt (vs := its.toArray) h4 r1 l3 l1 (in_room l2 hu)
    · exact ⟨.int (j : Nat), H, I.tok _, ⟨_, rfl⟩, q⟩
end
/-! data that == tells apart: each is one of a kind of its own -/
structure Enc {α : Type} [DecidableEq α] (f : α → PyData) : Prop where
  eq : ∀ a b, PyData.eqv (f a) (f b) = decide (a = b)
  lay : ∀ a, (f a).canLay0 = true
theorem Enc.any {α : Type} [DecidableEq α] {f : α → PyData} (e : Enc f) (xs : List α) (x : α) : ((xs.map f).any fun z => PyData.eqv z (f x)) = decide (x ∈ xs) := by
  rw [List.any_map, Bool.eq_iff_iff, List.any_eq_true, decide_eq_true_iff]
  constructor
  · rintro ⟨y, h1, h2⟩
    have h3 : PyData.eqv (f y) (f x) = true := h2
    rw [e.eq] at h3
    exact of_decide_eq_true h3 ▸ h1
  · intro h
    refine ⟨x, h, ?_⟩
    show PyData.eqv (f x) (f x) = true
    rw [e.eq]
    exact decide_eq_true rfl
theorem Enc.layAll {α : Type} [DecidableEq α] {f : α → PyData} (e : Enc f) : ∀ xs : List α, PyData.canLayAll0 (xs.map f) = true
  | [] => rfl
  | x :: xs => by
    show (PyData.canLay0 (f x) && PyData.canLayAll0 (xs.map f)) = true
    rw [e.lay, e.layAll xs]
    rfl
theorem Enc.idx {α : Type} [DecidableEq α] {f : α → PyData} (e : Enc f) {xs : List α} {x : α} (h : x ∈ xs) : (xs.map f)[xs.idxOf x]? = some (f x) ∧ ∀ (m : Nat) (z : PyData), m < xs.idxOf x → (xs.map f)[m]? = some z → PyData.eqv z (f x) = false := by
  have h1 := List.idxOf_lt_length_of_mem h
  refine ⟨by rw [List.getElem?_map, List.getElem?_eq_getElem h1, List.getElem_idxOf]; rfl, fun m z hm hz => ?_⟩
  have hl : m < xs.length := by omega
  rw [List.getElem?_map, List.getElem?_eq_getElem hl] at hz
  cases hz
  rw [e.eq]
  refine decide_eq_false fun q => ?_
  have h2 := List.not_of_lt_findIdx (p := (· == x)) (xs := xs) (i := m) hm
  rw [q] at h2
  simp at h2
section
variable {K : PySem.W.Frag} {C : Fx} {B : Hp} {σ : L2.St} {H M H' M' : Hp} {ρ ρ' : List Sl} {w w' : Own} {tp : List (V × PyData)} {Q R : VK} {te ta : TE} {v x y : V} {a : Addr}
variable {α : Type} [DecidableEq α] {f : α → PyData} {xs : List α} {c : α} {neg : Bool}
theorem x_inXT (e : Enc f) (S : Ds K C B σ H M ρ w tp) (hx : Tm tp x (f c)) (hy : Tm tp y (.tuple (xs.map f))) (hd : (f c).depth ≤ 64) (q : R (.bl (if neg then !decide (c ∈ xs) else decide (c ∈ xs))) H) : rInX K neg x y H R :=
  ⟨f c, xs.map f, Dp.same S.sub (hx.dp S), .inr (Dp.same S.sub (hy.dp S)), e.lay c, hd, e.layAll xs, by rw [e.any]; exact q⟩
theorem x_inXL (e : Enc f) (S : Ds K C B σ H M ρ w tp) (hx : Tm tp x (f c)) (hy : Tm tp y (.list (xs.map f))) (hd : (f c).depth ≤ 64) (q : R (.bl (if neg then !decide (c ∈ xs) else decide (c ∈ xs))) H) : rInX K neg x y H R :=
  ⟨f c, xs.map f, Dp.same S.sub (hx.dp S), .inl (Dp.same S.sub (hy.dp S)), e.lay c, hd, e.layAll xs, by rw [e.any]; exact q⟩
theorem x_inXO (e : Enc f) (j : Nat) (S : Ds K C B σ H M ρ w tp) (hj : w[j]? = some (a, .lst (xs.map f))) (hx : Tm tp x (f c)) (hd : (f c).depth ≤ 64) (q : R (.bl (if neg then !decide (c ∈ xs) else decide (c ∈ xs))) H) : rInX K neg x (.ref a) H R := by
  obtain ⟨_, vs, h1, h2⟩ := S.own _ (List.mem_of_getElem? hj)
  exact ⟨f c, xs.map f, Dp.same S.sub (hx.dp S), .inl (.lst (.of h1) (DpAll.same S.sub h2)), e.lay c, hd, e.layAll xs, by rw [e.any]; exact q⟩
theorem x_eqX (e : Enc f) {d : α} (S : Ds K C B σ H M ρ w tp) (hx : Tm tp x (f c)) (hy : Tm tp y (f d)) (h1 : (f c).depth ≤ 64) (h2 : (f d).depth ≤ 64) (q : R (.bl (decide (c = d))) H) : rEqD K x y H R :=
  ⟨f c, f d, Dp.same S.sub (hx.dp S), Dp.same S.sub (hy.dp S), by unfold SeqAt.shaped; rw [e.lay, decide_eq_true h1]; rfl, by unfold SeqAt.shaped; rw [e.lay, decide_eq_true h2]; rfl, by rw [e.eq]; exact q⟩
/-- t.index(x), t a plain tuple -/
theorem x_tix (h : ta σ H fun x H1 => (∃ p, x = .ref p ∧ FzT K H1 p) ∧ te σ H1 fun y H2 => rTupIx K x [y] H2 Q) : tBMT K (rTupIx K) ta (tCons te tNil) σ H Q := h
theorem h_tixF {A : Prop} (h : (∃ p, V.ref a = .ref p ∧ FzT K H p) ∧ A) : (∃ p, V.ref a = .ref p ∧ FzT K H p) ∧ A := h
theorem x_tixF {A : Prop} (S : Ds K C B σ H M ρ w tp) (hf : FzT K M a) (h : A) : (∃ p, V.ref a = .ref p ∧ FzT K H p) ∧ A := ⟨⟨a, rfl, hf.same S.sub⟩, h⟩
theorem x_tixK (e : Enc f) (S : Ds K C B σ H M ρ w tp) (hx : Tm tp (.ref a) (.tuple (xs.map f))) (hy : Tm tp y (f c)) (hd : (f c).depth ≤ 64) (hm : c ∈ xs) (q : Q (.int (xs.idxOf c : Nat)) H) : rTupIx K (.ref a) [y] H Q :=
  ⟨a, y, f c, xs.map f, xs.idxOf c, f c, rfl, rfl, Dp.same S.sub (hx.dp S), Dp.same S.sub (hy.dp S), e.lay c, hd, e.layAll xs, (e.idx hm).1, by rw [e.eq]; exact decide_eq_true rfl, (e.idx hm).2, q⟩
/-- l.index(x) -/
theorem x_lix (h : ta σ H fun x H1 => tyV K "list" x H1 ∧ te σ H1 fun y H2 => rIndexD K x [y] H2 Q) : tBM K "list" (rIndexD K) ta (tCons te tNil) σ H Q := h
theorem h_lixF {A : Prop} (h : tyV K "list" v H ∧ A) : tyV K "list" v H ∧ A := h
theorem x_lixF {A : Prop} {ds : List PyData} (S : Ds K C B σ H M ρ w tp) (hx : Tm tp v (.list ds)) (h : A) : tyV K "list" v H ∧ A := by
  obtain ⟨p, ys, rfl, h1, _⟩ := dp_lst (hx.dp S)
  exact ⟨.inl ⟨rfl, ys, S.sub.seq h1⟩, h⟩
theorem x_lixK (e : Enc f) (S : Ds K C B σ H M ρ w tp) (hx : Tm tp v (.list (xs.map f))) (hy : Tm tp y (f c)) (hd : (f c).depth ≤ 64) (hd2 : ∀ x ∈ xs, (f x).depth ≤ 63) (hm : c ∈ xs) (q : Q (.int (xs.idxOf c : Nat)) H) : rIndexD K v [y] H Q := by
  obtain ⟨a, ys, rfl, h1, h2⟩ := dp_lst (hx.dp S)
  refine ⟨a, y, f c, xs.map f, xs.idxOf c, f c, rfl, rfl, Dp.same S.sub (.lst h1 h2), Dp.same S.sub (hy.dp S), ?_, by unfold SeqAt.shaped; rw [e.lay, decide_eq_true hd]; rfl, (e.idx hm).1, by rw [e.eq]; exact decide_eq_true rfl, (e.idx hm).2, q⟩
  have hs : ∀ ys : List α, (∀ x ∈ ys, (f x).depth ≤ 63) → PyData.depthAll (ys.map f) ≤ 63 := fun ys => by
    induction ys with
    | nil => exact fun _ => Nat.zero_le _
    | cons y ys ih =>
      intro h
      have h1 := h y (List.mem_cons_self ..)
      have h2 := ih fun x hx => h x (List.mem_cons_of_mem _ hx)
      show max (f y).depth (PyData.depthAll (ys.map f)) ≤ 63
      omega
  unfold SeqAt.shaped
  have h3 := hs xs hd2
  have h4 : (PyData.list (xs.map f)).canLay0 = true := e.layAll xs
  rw [h4, Bool.true_and]
  refine decide_eq_true ?_
  show PyData.depthAll (xs.map f) + 1 ≤ 64
  omega
end
section
variable {X : Cx} {K : PySem.W.Frag} {e : Expr}
theorem kInX (hu : X.A.units + 65 < cLine) (h : X.K = K := by rfl) : OpR X (compareOp .In) (rInX K false) := h ▸ op_inX hu
theorem kNotInX (hu : X.A.units + 65 < cLine) (h : X.K = K := by rfl) : OpR X (compareOp .NotIn) (rInX K true) := h ▸ op_notInX hu
theorem kTupIx (hu : X.A.units + 65 < cLine) (h : X.K = K := by rfl) : MtR X "tuple.index" (rTupIx K) := h ▸ mt_tupIx hu
theorem kLstIx (hu : X.A.units + 65 < cLine) (h : X.K = K := by rfl) : MtR X "list.index" (rIndexD K) := h ▸ mt_indexD hu
theorem kBMT {r : V → List V → Hp → VK → Prop} {to : TE} {t : TA} (p : PE X e (tBMT X.K r to t)) (h : X.K = K := by rfl) : PE X e (tBMT K r to t) := h ▸ p
end
end Pf
namespace Pf
open PySem PySem.Spec PyProof.Rows L2
/-! a def that keeps a promise over Ds -/
section
variable {P : Program} {w : World} {K : PySem.W.Frag} {mg : Str → Option Value} {base : Heap}
theorem Df.go {x : Str} {st : Stmt} {f : Addr} {fd : FuncData} {ps N : List Str} {k : Nat} (D : Df K mg x st f fd ps) (S : FnScope N ps (defScope st)) (pre : Pre) (len : ∀ ss u post, pre ss u post → ss.length = ps.length)
    (hbody : ∀ (cdv : Value) (A : Around) (outer : List Env) (s : Shared) (H M : Hp) (vs : List V) (Q : VK) (E : XK) (ss : List Sl) (u : Own) (post : Rs → Own → Prop), Room k (A.deeper (envOfC x (defScope st) s.heap.objs.size f cdv)) → pre ss u post →
      Ds K ⟨H, M, u.map (·.1)⟩ M (L2.start N vs) H M (ss ++ List.replicate (N.length - ss.length) .u) u [] → (∀ r u' v H', post r u' → Fin K ⟨H, M, u.map (·.1)⟩ r u' v H' → Q v H') →
      ∃ t, PSs (cxOf CX0 P w K mg base N x (defScope st) f cdv A outer s H E).nox (defBody st) t ∧ t { nx := fun _ H' => Q .non H', rt := Q } (L2.start N vs) H) : Cl P w K mg base (k + 1) x (spG K pre) := by
  refine D.cl S (fun vs H Q E h => ?_) (fun cdv A outer s H vs Q E hr h => ?_)
  · obtain ⟨M, ss, u, post, _, h2, _, _, h5, _⟩ := h
    exact h2.length.trans (len _ _ _ h5)
  · obtain ⟨M, ss, u, post, h1, h2, h3, h4, h5, q⟩ := h
    exact hbody cdv A outer s H M vs Q E ss u post hr h5 (Ds.init h1 h2 h3 h4) q
end
section
variable {K : PySem.W.Frag} {B : Hp} {σ : L2.St} {H M H0 M0 : Hp} {ρ : List Sl} {w : Own} {tp : List (V × PyData)} {Q : VK} {post : Rs → Own → Prop} {v : V} {d : PyData} {p a : Addr} {od : Od}
theorem x_ret0 (S : Ds K ⟨H0, M0, []⟩ B σ H M ρ w tp) (hq : ∀ r w' v H', post r w' → Fin K ⟨H0, M0, []⟩ r w' v H' → Q v H') (ht : Tm tp v d) (hp : post (.s (.d d)) []) : Q v H :=
  hq _ _ v H hp (S.fin rfl (fun _ h => nomatch h) (ht.dp S))
theorem x_retO0 (S : Ds K ⟨H0, M0, []⟩ B σ H M ρ w tp) (hq : ∀ r w' v H', post r w' → Fin K ⟨H0, M0, []⟩ r w' v H' → Q v H') (j : Nat) (hj : w[j]? = some (p, od)) (hp : post (.o od) []) : Q (.ref p) H := by
  have hm := List.mem_of_getElem? hj
  exact hq _ _ _ H hp (S.fin rfl (fun _ h => nomatch h) ⟨p, rfl, (S.ow _ hm).resolve_left (fun z => nomatch z), (S.own _ hm).1, (S.own _ hm).2⟩)
theorem x_ret1 (S : Ds K ⟨H0, M0, [a]⟩ B σ H M ρ w tp) (hq : ∀ r w' v H', post r w' → Fin K ⟨H0, M0, [a]⟩ r w' v H' → Q v H') (ht : Tm tp v d) (j : Nat) (hj : w[j]? = some (a, od)) (hp : post (.s (.d d)) [(a, od)]) : Q v H :=
  hq _ _ v H hp (S.fin rfl (fun x h => by rw [List.mem_singleton.mp h]; exact List.mem_of_getElem? hj) (ht.dp S))
end
/-! range -/
def ForR (R : It → Hp → Prop) (vs : List V) (H1 : Hp) : Prop := ∃ j : Int, vs = [.int j] ∧ -(2 ^ 62) ≤ j ∧ j < 2 ^ 62 ∧ R (Itr 0 j.toNat) H1
def ForR2 (R : It → Hp → Prop) (vs : List V) (H1 : Hp) : Prop := ∃ i j : Int, vs = [.int i, .int j] ∧ (-(2 ^ 62) ≤ i ∧ i < 2 ^ 62 ∧ -(2 ^ 62) ≤ j ∧ j < 2 ^ 62) ∧ R (Itr i (j - i).toNat) H1
section
variable {K : PySem.W.Frag} {C : Fx} {B : Hp} {σ : L2.St} {H M H' M' : Hp} {ρ ρ' : List Sl} {w w' : Own} {tp : List (V × PyData)} {D : Ends} {te : TE} {tb : TS} {tl : TA} {g : TG} {v : V} {ds : List PyData} {p : Addr} {a : Int}
theorem x_fR (h : tl σ H fun vs H1 => ForR (ForB g tb D σ) vs H1) : tFor (iRng1 tl) g tb D σ H := h
theorem x_fR2 (h : tl σ H fun vs H1 => ForR2 (ForB g tb D σ) vs H1) : tFor (iRng2 tl) g tb D σ H := h
theorem x_forR (I : Nat → List Sl → Own → Prop) (S : Ds K C B σ H M ρ w tp) (b1 : -(2 ^ 62) ≤ a) (b2 : a < 2 ^ 62) (h0 : I 0 ρ w)
    (hs : ∀ i ρ1 w1, i < a.toNat → I i ρ1 w1 → ∀ σ1 H1 M1, Ds K C M σ1 H1 M1 ρ1 w1 [] → g (.int (i : Int)) σ1 H1 fun σ2 H2 => tb { D with nx := Nx K C M I (i + 1), ct := Nx K C M I (i + 1), bk := D.nx } σ2 H2)
    (hd : ∀ ρ1 w1, I a.toNat ρ1 w1 → ∀ σ1 H1 M1, Ds K C B σ1 H1 M1 ρ1 w1 [] → D.nx σ1 H1) : ForR (ForB g tb D σ) [.int a] H := by
  refine ⟨a, rfl, b1, b2, for_range (lo := 0) (n := a.toNat) (Nx K C M I) ⟨M, ρ, w, h0, S.base.clr⟩ (fun i σ1 H1 hi q => ?_) (fun σ1 H1 q => ?_)⟩
  · obtain ⟨M1, ρ1, w1, q, S1⟩ := q
    rw [Int.zero_add]
    exact hs i ρ1 w1 hi q σ1 H1 M1 S1
  · obtain ⟨M1, ρ1, w1, q, S1⟩ := q
    exact hd ρ1 w1 q σ1 H1 M1 (S1.base' S.bs)
/-- the slots and own things are functions of the turn -/
abbrev At (P : Nat → List Sl) (W : Nat → Own) : Nat → List Sl → Own → Prop := fun i ρ w => ρ = P i ∧ w = W i
theorem Nx.at {I : Nat → List Sl → Own → Prop} {i : Nat} (S : Ds K C B σ H M ρ w tp) (hl : SlLe ρ ρ') (h : I i ρ' w) : Nx K C B I i σ H := ⟨M, ρ', w, h, S.clr.weak hl⟩
end
end Pf
namespace Pf
open PySem PySem.Spec PyProof.Rows L2
/-! what holds between two statements -/
def Md (K : PySem.W.Frag) (C : Fx) (B : Hp) (I : List Sl → Own → Prop) : L2.St → Hp → Prop := fun σ H => ∃ M ρ w, I ρ w ∧ Ds K C B σ H M ρ w []
section
variable {K : PySem.W.Frag} {C : Fx} {B : Hp} {σ : L2.St} {H M H' M' : Hp} {ρ ρ' : List Sl} {w w' : Own} {tp : List (V × PyData)} {D : Ends} {t u : TS}
theorem x_cut (I : List Sl → Own → Prop) (S : Ds K C B σ H M ρ w tp) (h1 : t { D with nx := Md K C B I } σ H) (h2 : ∀ M σ H ρ w, I ρ w → Ds K C B σ H M ρ w [] → u D σ H) : Evl.tCut t u D σ H :=
  ⟨_, h1, fun σ' H' ⟨M, ρ, w, a, b⟩ => h2 M σ' H' ρ w a b⟩
theorem Md.at {I : List Sl → Own → Prop} (S : Ds K C B σ H M ρ w tp) (hl : SlLe ρ ρ') (h : I ρ' w) : Md K C B I σ H := ⟨M, ρ', w, h, S.clr.weak hl⟩
end
end Pf
namespace Pf
open PySem
theorem map_snoc {α β : Type} {f : α → β} {xs : List α} {x : α} : xs.map f ++ [f x] = (xs ++ [x]).map f := by
  rw [List.map_append]
  rfl
theorem own_snoc {α : Type} {f : α → PyData} {xs : List α} {x : α} {p : Addr} {w : Own} : (p, Od.lst (xs.map f ++ [f x])) :: w = (p, Od.lst ((xs ++ [x]).map f)) :: w := by rw [map_snoc]
end Pf
namespace Pf
open PySem PySem.Spec PyProof.Rows L2
/-! promises of usual forms -/
/-- data -/
abbrev pD (P : PyData → Prop) : Rs → Own → Prop := fun r u => u = [] ∧ ∃ d, P d ∧ r = .s (.d d)
/-- a new own object -/
abbrev pO (P : Od → Prop) : Rs → Own → Prop := fun r u => u = [] ∧ ∃ od, P od ∧ r = .o od
/-- data, and the own object that was handed over -/
abbrev pD1 (a : Addr) (P : PyData → Od → Prop) : Rs → Own → Prop := fun r u => ∃ d od, P d od ∧ r = .s (.d d) ∧ u = [(a, od)]
section
variable {K : PySem.W.Frag} {C : Fx} {B : Hp} {σ : L2.St} {H M H0 M0 : Hp} {ρ : List Sl} {w : Own} {tp : List (V × PyData)} {Q : VK} {E : XK} {v : V} {d : PyData} {p a : Addr} {od : Od} {P : PyData → Prop} {PO : Od → Prop} {P1 : PyData → Od → Prop} {pre : Pre} {vs : List V} {ss : List Sl}
theorem x_cD (S : Ds K C B σ H M ρ w tp) (hs : SlT K M tp vs ss) (hp : pre ss [] (pD P)) (q : ∀ d, P d → ∀ H' M', Ds K C B σ H' M' ρ w tp → Giv K M' H' Q d) : spG K pre vs H Q E :=
  x_call0 S (hs.dp S) hp fun r u hr v H' M' R => by
    obtain ⟨_, d, hd, rfl⟩ := hr
    have R : Ds K C B σ H' M' ρ w ((v, d) :: tp) := R
    exact q d hd H' M' R.rest v (R.tm _ (List.mem_cons_self ..))
theorem x_cO (S : Ds K C B σ H M ρ w tp) (hs : SlT K M tp vs ss) (hp : pre ss [] (pO PO)) (q : ∀ od, PO od → ∀ p H' M', Ds K C B σ H' M' ρ ((p, od) :: w) tp → Q (.ref p) H') : spG K pre vs H Q E :=
  x_call0 S (hs.dp S) hp fun r u hr v H' M' R => by
    obtain ⟨_, od, hd, rfl⟩ := hr
    obtain ⟨p, rfl, R⟩ : ∃ p, v = .ref p ∧ Ds K C B σ H' M' ρ ((p, od) :: w) tp := R
    exact q od hd p H' M' R
theorem x_c1 (j : Nat) (S : Ds K C B σ H M ρ w tp) (hj : w[j]? = some (a, od)) (hs : SlT K M tp vs ss) (hp : pre ss [(a, od)] (pD1 a P1)) (q : ∀ d od', P1 d od' → ∀ H' M' w', SetAt w j (a, od') w' → Ds K C B σ H' M' ρ w' tp → Giv K M' H' Q d) : spG K pre vs H Q E :=
  x_call1 j S hj (hs.dp S) hp fun r od1 hr v H' M' R => by
    obtain ⟨d, od', hd, rfl, e⟩ := hr
    obtain rfl : od1 = od' := by
      have := List.head_eq_of_cons_eq e
      exact congrArg Prod.snd this
    have R : Ds K C B σ H' M' ρ (w.set j (a, od1)) ((v, d) :: tp) := R
    exact q d od1 hd H' M' _ (.of (List.getElem?_eq_some_iff.mp hj).1) R.rest v (R.tm _ (List.mem_cons_self ..))
theorem x_rD (S : Ds K ⟨H0, M0, []⟩ B σ H M ρ w tp) (hq : ∀ r w' v H', pD P r w' → Fin K ⟨H0, M0, []⟩ r w' v H' → Q v H') (ht : Tm tp v d) (hp : P d) : Q v H := x_ret0 S hq ht ⟨rfl, d, hp, rfl⟩
theorem x_rO (S : Ds K ⟨H0, M0, []⟩ B σ H M ρ w tp) (hq : ∀ r w' v H', pO PO r w' → Fin K ⟨H0, M0, []⟩ r w' v H' → Q v H') (j : Nat) (hj : w[j]? = some (p, od)) (hp : PO od) : Q (.ref p) H := x_retO0 S hq j hj ⟨rfl, od, hp, rfl⟩
theorem x_r1 (S : Ds K ⟨H0, M0, [a]⟩ B σ H M ρ w tp) (hq : ∀ r w' v H', pD1 a P1 r w' → Fin K ⟨H0, M0, [a]⟩ r w' v H' → Q v H') (ht : Tm tp v d) (j : Nat) (hj : w[j]? = some (a, od)) (hp : P1 d od) : Q v H := x_ret1 S hq ht j hj ⟨d, od, hp, rfl, rfl⟩
end
end Pf
namespace Pf
open PySem PySem.Spec PyProof.Rows L2
/-! objects known to the letter -/
section
variable {K : PySem.W.Frag} {C : Fx} {B : Hp} {σ : L2.St} {H M : Hp} {ρ : List Sl} {w w' : Own} {tp : List (V × PyData)} {Q R : VK} {p a : Addr} {i : Int} {xs : List V} {v x : V} {od od' : Od} {to ti : TE} {t : TSet} {q : L2.St → Hp → Prop}
theorem Ds.reOd {j : Nat} (S : Ds K C B σ H M ρ w tp) (hj : w[j]? = some (a, od)) (ok : OdOk K M H a od') : Ds K C B σ H M ρ (w.set j (a, od')) tp := by
  have hm := List.mem_of_getElem? hj
  refine S.step (O := []) (Fr.refl _ S.sub) (fun _ h => nomatch h) ?_ fun y hy => ?_
  · rw [List.map_set]
    exact set_self (by rw [List.getElem?_map, hj]; rfl)
  · rcases List.mem_or_eq_of_mem_set hy with h | rfl
    · exact (S.own y h).2
    · exact ok
theorem x_ixH (j : Nat) (S : Ds K C B σ H M ρ w tp) (hj : w[j]? = some (p, .ho (.lst xs))) (hi : atI xs i = some v) (q : R v H) : rIxL K (.ref p) (.int i) H R :=
  ⟨p, xs, i, v, rfl, rfl, .of (S.own _ (List.mem_of_getElem? hj)).2, hi, q⟩
theorem x_gSub (h : to σ H fun o H1 => ti σ H1 fun i H2 => t o i v H2 fun H3 => q σ H3) : gSub to ti t v σ H q := h
theorem h_setL {P : Hp → Prop} {o k : V} (h : rSetL o k v H P) : rSetL o k v H P := h
theorem x_setH {P : Hp → Prop} {k : Nat} (j : Nat) (S : Ds K C B σ H M ρ w tp) (hj : w[j]? = some (p, .ho (.lst xs))) (hk : ixN xs.length i = some k) (hw : SetAt w j (p, .ho (.lst (xs.set k v))) w') (q : ∀ H', Ds K C B σ H' M ρ w' tp → P H') : rSetL (.ref p) (.int i) v H P :=
  ⟨p, xs, i, k, rfl, rfl, (S.own _ (List.mem_of_getElem? hj)).2, hk, q _ (hw.eq ▸ S.mut hj upd_same)⟩
theorem x_open (j : Nat) {A : Prop} (S : Ds K C B σ H M ρ w tp) (hj : w[j]? = some (a, .box)) (q : ∀ (p : Addr) (ns : List Int) (i : Int) (w' : Own), 0 ≤ i → SetAt w j (a, .ho (.lst [.ref p, .int i])) w' → Ds K C B σ H M ρ w' ((.ref p, .list (ns.map .int)) :: tp) → A) : A := by
  obtain ⟨_, p, ns, i, h1, h2, h3⟩ := S.own _ (List.mem_of_getElem? hj)
  refine q p ns i _ h3 (.of (List.getElem?_eq_some_iff.mp hj).1) ((S.reOd (od' := .ho (.lst [.ref p, .int i])) hj h1).push (.lst h2 ?_))
  have hs : ∀ ns : List Int, DpAll K M (ns.map V.int) (ns.map PyData.int) := fun ns => by
    induction ns with
    | nil => exact .nil
    | cons n ns ih => exact .cons (.int n) ih
  exact hs ns
theorem Ds.close {j : Nat} {ns : List Int} (S : Ds K C B σ H M ρ w tp) (hj : w[j]? = some (a, .ho (.lst [.ref p, .int i]))) (h0 : 0 ≤ i) (ht : Tm tp (.ref p) (.list (ns.map .int))) : Ds K C B σ H M ρ (w.set j (a, .box)) tp := by
  obtain ⟨p', ys, e, h1, h2⟩ := dp_lst (ht.dp S)
  cases e
  cases dpAll_ints h2
  exact S.reOd hj ⟨p, ns, i, (S.own _ (List.mem_of_getElem? hj)).2, h1, h0⟩
end
/-! boxes of digits -/
section
variable {K : PySem.W.Frag} {C : Fx} {B : Hp} {σ : L2.St} {H M : Hp} {ρ : List Sl} {w w' : Own} {tp : List (V × PyData)} {Q : VK} {p a : Addr} {i : Int} {ns : List Int}
theorem x_lstBox (S : Ds K C B σ H M ρ ((p, .lst (ns.map .int)) :: w) tp) (hO : p ∉ C.O) (hz : 0 ≤ i) (q : ∀ b H' M', Ds K C B σ H' M' ρ ((b, .box) :: w) tp → Q (.ref b) H') : LstK Q [.ref p, .int i] H := by
  refine ⟨by show 2 ≤ sizeLine; decide, fun b hb => ?_⟩
  obtain ⟨M', S'⟩ := S.freeze hO
  have h1 := S'.tm (.ref p, .list (ns.map .int)) (List.mem_cons_self ..)
  obtain ⟨p', xs, e, h2, h3⟩ := dp_lst h1
  cases e
  cases dpAll_ints h3
  exact q b _ M' (S'.newO (od := .box) hb ⟨p, ns, i, upd_same, h2, hz⟩).rest
end
end Pf
namespace Pf
open PySem PySem.Spec PyProof.Rows L2
section
variable {P : Program} {w : World} {K : PySem.W.Frag} {mg : Str → Option Value} {base : Heap}
theorem Df.vain {x : Str} {st : Stmt} {f : Addr} {fd : FuncData} {ps N : List Str} {k : Nat} (D : Df K mg x st f fd ps) (S : FnScope N ps (defScope st)) (pre : Pre) (h : ∀ ss u post, ¬ pre ss u post) : Cl P w K mg base (k + 1) x (spG K pre) :=
  D.go S pre (fun ss u post z => (h _ _ _ z).elim) fun cdv A outer s H M vs Q E ss u post hr z _ _ => (h _ _ _ z).elim
end
end Pf
namespace Pf
open PySem PySem.Spec PyProof.Rows L2
/-! more steps -/
theorem u65 {k : Nat} {A : Around} (r : Room k A) : A.units + 65 < cLine := by have := r.un; omega
section
variable {K : PySem.W.Frag} {C : Fx} {B : Hp} {σ : L2.St} {H M : Hp} {ρ : List Sl} {w w' : Own} {tp : List (V × PyData)} {Q R : VK} {p a : Addr} {i : Int} {v x y : V} {te : TE} {tl th : TO} {ds es : List PyData} {lo hi : Option Int} {neg : Bool} {s s1 s2 s3 s4 : Str}
theorem h_in (h : rIn K neg x y H R) : rIn K neg x y H R := h
theorem x_inS2 (S : Ds K C B σ H M ρ w tp) (ht : Tm tp y (.tuple [.str s1, .str s2])) (q : R (.bl (if neg then !decide (s ∈ [s1, s2]) else decide (s ∈ [s1, s2]))) H) : rIn K neg (.str s) y H R := x_inST (ns := [s1, s2]) S ht q
theorem x_inS3 (S : Ds K C B σ H M ρ w tp) (ht : Tm tp y (.tuple [.str s1, .str s2, .str s3])) (q : R (.bl (if neg then !decide (s ∈ [s1, s2, s3]) else decide (s ∈ [s1, s2, s3]))) H) : rIn K neg (.str s) y H R := x_inST (ns := [s1, s2, s3]) S ht q
theorem x_inI2 {a b c : Int} (S : Ds K C B σ H M ρ w tp) (ht : Tm tp y (.tuple [.int a, .int b])) (q : R (.bl (if neg then !decide (c ∈ [a, b]) else decide (c ∈ [a, b]))) H) : rIn K neg (.int c) y H R := x_inIT (ns := [a, b]) S ht q
theorem x_inI3 {a b d c : Int} (S : Ds K C B σ H M ρ w tp) (ht : Tm tp y (.tuple [.int a, .int b, .int d])) (q : R (.bl (if neg then !decide (c ∈ [a, b, d]) else decide (c ∈ [a, b, d]))) H) : rIn K neg (.int c) y H R := x_inIT (ns := [a, b, d]) S ht q
theorem x_sl {r : V → Option Int → Option Int → Hp → VK → Prop} (h : te σ H fun x H1 => tl σ H1 fun l H2 => th σ H2 fun u H3 => r x l u H3 Q) : tSl r te tl th σ H Q := h
theorem x_noPart {q : Option Int → Hp → Prop} (h : q none H) : tNoPart σ H q := h
theorem x_part {q : Option Int → Hp → Prop} (h : te σ H fun x H1 => ∃ i, x = .int i ∧ q (some i) H1) : tPart te σ H q := h
theorem x_exI {q : Int → Prop} (h : q i) : ∃ j, V.int i = .int j ∧ q j := ⟨i, rfl, h⟩
theorem dpAll_cut {vs : List V} (h : DpAll K M vs ds) : DpAll K M (cutV vs lo hi) (cutI ds lo hi) := by
  have hd : ∀ (n : Nat) {vs : List V} {ds : List PyData}, DpAll K M vs ds → DpAll K M (vs.drop n) (ds.drop n) := fun n => by
    induction n with
    | zero => exact fun h => h
    | succ n ih =>
      intro vs ds h
      cases h with
      | nil => exact .nil
      | cons _ t => exact ih t
  have ht : ∀ (n : Nat) {vs : List V} {ds : List PyData}, DpAll K M vs ds → DpAll K M (vs.take n) (ds.take n) := fun n => by
    induction n with
    | zero => exact fun _ => .nil
    | succ n ih =>
      intro vs ds h
      cases h with
      | nil => exact .nil
      | cons a t => exact .cons a (ih t)
  unfold cutV cutI
  rw [dpAll_len h]
  exact ht _ (hd _ h)
theorem cutI_all {α : Type} {ds : List α} (h : HT.sIx ds.length 0 lo = 0 ∧ HT.sIx ds.length ds.length hi = ds.length) : cutI ds lo hi = ds := by
  unfold cutI
  rw [h.1, h.2]
  simp
theorem h_slA (h : rSlA K v lo hi H R) : rSlA K v lo hi H R := h
theorem x_slA (S : Ds K C B σ H M ρ w tp) (ht : Tm tp v (.tuple ds)) (hc : cutI ds lo hi = es) (q : ∀ u H' M', Ds K C B σ H' M' ρ w ((u, .tuple es) :: tp) → R u H') : rSlA K v lo hi H R := by
  obtain ⟨p, xs, rfl, h1, h2⟩ := dp_tup (ht.dp S)
  have hl := dpAll_len h2
  refine ⟨p, xs, rfl, Same.seqT S.sub h1, fun hw => ?_, fun hw b hb => ?_⟩
  · rw [hl] at hw
    rw [cutI_all hw] at hc
    subst hc
    exact q _ H M (S.push (.tup h1 h2))
  · exact q _ _ _ (S.newT hb (hc ▸ dpAll_cut h2))
theorem h_slL (h : rSlL K v lo hi H R) : rSlL K v lo hi H R := h
/-- a list's slice: a new list -/
theorem x_slL (S : Ds K C B σ H M ρ w tp) (ht : Tm tp v (.list ds)) (hc : cutI ds lo hi = es) (q : ∀ p H', Ds K C B σ H' M ρ ((p, .lst es) :: w) tp → R (.ref p) H') : rSlL K v lo hi H R := by
  obtain ⟨p, xs, rfl, h1, h2⟩ := dp_lst (ht.dp S)
  exact ⟨p, xs, rfl, S.sub.seq h1, fun b hb => q b _ (S.newL hb (hc ▸ dpAll_cut h2))⟩
end
end Pf
namespace Pf
open PySem PySem.Spec PyProof.Rows L2
/-! in, not in, one by one -/
section
variable {K : PySem.W.Frag} {C : Fx} {B : Hp} {σ : L2.St} {H M : Hp} {ρ : List Sl} {w w' : Own} {tp : List (V × PyData)} {Q R : VK} {p a : Addr} {v x y : V}
variable {α : Type} [DecidableEq α] {f : α → PyData} {xs : List α} {c : α} {ns : List Int} {k k1 k2 k3 : Int} {ss : List Str} {s s1 s2 s3 : Str}
theorem y_inT (e : Enc f) (S : Ds K C B σ H M ρ w tp) (hx : Tm tp x (f c)) (hy : Tm tp y (.tuple (xs.map f))) (hd : (f c).depth ≤ 64) (q : R (.bl (decide (c ∈ xs))) H) : rInX K false x y H R := x_inXT e S hx hy hd q
theorem y_niT (e : Enc f) (S : Ds K C B σ H M ρ w tp) (hx : Tm tp x (f c)) (hy : Tm tp y (.tuple (xs.map f))) (hd : (f c).depth ≤ 64) (q : R (.bl (!decide (c ∈ xs))) H) : rInX K true x y H R := x_inXT e S hx hy hd q
theorem y_inL (e : Enc f) (S : Ds K C B σ H M ρ w tp) (hx : Tm tp x (f c)) (hy : Tm tp y (.list (xs.map f))) (hd : (f c).depth ≤ 64) (q : R (.bl (decide (c ∈ xs))) H) : rInX K false x y H R := x_inXL e S hx hy hd q
theorem y_niL (e : Enc f) (S : Ds K C B σ H M ρ w tp) (hx : Tm tp x (f c)) (hy : Tm tp y (.list (xs.map f))) (hd : (f c).depth ≤ 64) (q : R (.bl (!decide (c ∈ xs))) H) : rInX K true x y H R := x_inXL e S hx hy hd q
theorem y_inO (e : Enc f) (j : Nat) (S : Ds K C B σ H M ρ w tp) (hj : w[j]? = some (a, .lst (xs.map f))) (hx : Tm tp x (f c)) (hd : (f c).depth ≤ 64) (q : R (.bl (decide (c ∈ xs))) H) : rInX K false x (.ref a) H R := x_inXO e j S hj hx hd q
theorem y_niO (e : Enc f) (j : Nat) (S : Ds K C B σ H M ρ w tp) (hj : w[j]? = some (a, .lst (xs.map f))) (hx : Tm tp x (f c)) (hd : (f c).depth ≤ 64) (q : R (.bl (!decide (c ∈ xs))) H) : rInX K true x (.ref a) H R := x_inXO e j S hj hx hd q
theorem i_inT (S : Ds K C B σ H M ρ w tp) (ht : Tm tp y (.tuple (ns.map .int))) (q : R (.bl (decide (k ∈ ns))) H) : rIn K false (.int k) y H R := x_inIT S ht q
theorem i_niT (S : Ds K C B σ H M ρ w tp) (ht : Tm tp y (.tuple (ns.map .int))) (q : R (.bl (!decide (k ∈ ns))) H) : rIn K true (.int k) y H R := x_inIT S ht q
theorem i_inL (S : Ds K C B σ H M ρ w tp) (ht : Tm tp y (.list (ns.map .int))) (q : R (.bl (decide (k ∈ ns))) H) : rIn K false (.int k) y H R := x_inIL S ht q
theorem i_niL (S : Ds K C B σ H M ρ w tp) (ht : Tm tp y (.list (ns.map .int))) (q : R (.bl (!decide (k ∈ ns))) H) : rIn K true (.int k) y H R := x_inIL S ht q
theorem i_inO (j : Nat) (S : Ds K C B σ H M ρ w tp) (hj : w[j]? = some (p, .lst (ns.map .int))) (q : R (.bl (decide (k ∈ ns))) H) : rIn K false (.int k) (.ref p) H R := x_inIO j S hj q
theorem i_niO (j : Nat) (S : Ds K C B σ H M ρ w tp) (hj : w[j]? = some (p, .lst (ns.map .int))) (q : R (.bl (!decide (k ∈ ns))) H) : rIn K true (.int k) (.ref p) H R := x_inIO j S hj q
theorem s_inT (S : Ds K C B σ H M ρ w tp) (ht : Tm tp y (.tuple (ss.map .str))) (q : R (.bl (decide (s ∈ ss))) H) : rIn K false (.str s) y H R := x_inST S ht q
theorem s_in2 (S : Ds K C B σ H M ρ w tp) (ht : Tm tp y (.tuple [.str s1, .str s2])) (q : R (.bl (decide (s ∈ [s1, s2]))) H) : rIn K false (.str s) y H R := x_inST (ns := [s1, s2]) S ht q
theorem s_ni2 (S : Ds K C B σ H M ρ w tp) (ht : Tm tp y (.tuple [.str s1, .str s2])) (q : R (.bl (!decide (s ∈ [s1, s2]))) H) : rIn K true (.str s) y H R := x_inST (ns := [s1, s2]) S ht q
theorem s_in3 (S : Ds K C B σ H M ρ w tp) (ht : Tm tp y (.tuple [.str s1, .str s2, .str s3])) (q : R (.bl (decide (s ∈ [s1, s2, s3]))) H) : rIn K false (.str s) y H R := x_inST (ns := [s1, s2, s3]) S ht q
theorem i_in1 (S : Ds K C B σ H M ρ w tp) (ht : Tm tp y (.tuple [.int k1])) (q : R (.bl (decide (k ∈ [k1]))) H) : rIn K false (.int k) y H R := x_inIT (ns := [k1]) S ht q
theorem i_in2 (S : Ds K C B σ H M ρ w tp) (ht : Tm tp y (.tuple [.int k1, .int k2])) (q : R (.bl (decide (k ∈ [k1, k2]))) H) : rIn K false (.int k) y H R := x_inIT (ns := [k1, k2]) S ht q
theorem i_ni2 (S : Ds K C B σ H M ρ w tp) (ht : Tm tp y (.tuple [.int k1, .int k2])) (q : R (.bl (!decide (k ∈ [k1, k2]))) H) : rIn K true (.int k) y H R := x_inIT (ns := [k1, k2]) S ht q
theorem i_in3 (S : Ds K C B σ H M ρ w tp) (ht : Tm tp y (.tuple [.int k1, .int k2, .int k3])) (q : R (.bl (decide (k ∈ [k1, k2, k3]))) H) : rIn K false (.int k) y H R := x_inIT (ns := [k1, k2, k3]) S ht q
end
end Pf
namespace Pf
open PySem PySem.Spec PyProof.Rows L2
/-! comprehensions -/
/-- what a turn reaches: the new list at D holds acc -/
def LcN (K : PySem.W.Frag) (C : Fx) (B : Hp) (I : Nat → List PyData → Own → Prop) (σ : L2.St) (ρ : List Sl) (D : Addr) (i : Nat) : Hp → Prop := fun H => ∃ M acc w, I i acc w ∧ Ds K C B σ H M ρ ((D, .lst acc) :: w) []
def LcA (N : Hp → Prop) (D : Addr) (y : V) (H4 : Hp) : Prop := ∃ acc, H4 D = some (.lst acc) ∧ acc.length < sizeLine ∧ N (upd H4 D (.lst (acc ++ [y])))
/-- a comprehension behind its iterable -/
def LcB (g : TG) (tt : TT) (te : TE) (vs : List Nat) (Q : VK) (σ : L2.St) (J : It) (H1 : Hp) : Prop := ∀ D, H1 D = none → ∃ W : Nat → Nat → Hp → Prop, (∃ m, W 0 m (upd H1 D (.lst []))) ∧ ∀ i m H, W i m H →
  (J.stop i H ∧ Q (.ref D) H) ∨ (J.go i H ∧ ∃ N : Hp → Prop, (∀ H', N H' → ∃ m', m' < m ∧ W (i + 1) m' H') ∧ ∀ x H', J.yld i H x H' → g x (wipe σ vs) H' fun σ2 H2 => wipe σ2 vs = wipe σ vs ∧ tt σ2 H2 fun b H3 =>
    if b = true then te σ2 H3 (LcA N D) else N H3)
section
variable {K : PySem.W.Frag} {C : Fx} {B : Hp} {σ : L2.St} {H M H' M' : Hp} {ρ ρ' ρ2 : List Sl} {w w' : Own} {tp : List (V × PyData)} {Q : VK} {te : TE} {tt : TT} {tl : TA} {g : TG} {v y : V} {ds acc : List PyData} {e : PyData} {D p : Addr} {a : Int} {vs : List Nat} {k : Nat} {i : Nat} {I : Nat → List PyData → Own → Prop}
theorem x_lcT (h : te σ H fun x H1 => ForT K (LcB g tt tb vs Q σ) x H1) : tLc (iTup K te) g tt tb vs σ H Q := h
theorem x_lcL (h : te σ H fun x H1 => ForL K (LcB g tt tb vs Q σ) x H1) : tLc (iList K te) g tt tb vs σ H Q := h
theorem x_lcR (h : tl σ H fun x H1 => ForR (LcB g tt tb vs Q σ) x H1) : tLc (iRng1 tl) g tt tb vs σ H Q := h
theorem x_lcR2 (h : tl σ H fun x H1 => ForR2 (LcB g tt tb vs Q σ) x H1) : tLc (iRng2 tl) g tt tb vs σ H Q := h
theorem x_yes {q : Bool → Hp → Prop} (h : q true H) : tYes σ H q := h
/-- the state within the block: the slots of its own wiped -/
theorem Ds.wiped (S : Ds K C B σ H M ρ w tp) : ∀ vs : List Nat, Ds K C B (wipe σ vs) H M (vs.foldr (fun k r => r.set k .u) ρ) w tp
  | [] => S
  | k :: vs => by
    have S1 := Ds.wiped S vs
    have h : ∀ {σ : L2.St} {ρ : List Sl}, Ds K C B σ H M ρ w tp → Ds K C B (σ.set k none) H M (ρ.set k .u) w tp := fun {σ ρ} S => by
      refine { S with ln := by rw [List.length_set, List.length_set]; exact S.ln, sl := fun j s hj => ?_ }
      by_cases q : j = k
      · subst q
        have lt : j < ρ.length := by
          have := (List.getElem?_eq_some_iff.mp hj).1
          rwa [List.length_set] at this
        rw [List.getElem?_set_self lt] at hj
        cases hj
        exact .inl rfl
      · rw [List.getElem?_set_ne (Ne.symm q)] at hj ⊢
        exact S.sl j s hj
    exact h S1
/-- from a turn's state back to the block's -/
def Rew (K : PySem.W.Frag) (C : Fx) (B : Hp) (σ1 : L2.St) (ρ1 : List Sl) (σ0 : L2.St) (ρ0 : List Sl) : Prop := ∀ {H M : Hp} {w : Own} {tp : List (V × PyData)}, Ds K C B σ1 H M ρ1 w tp → Ds K C B σ0 H M ρ0 w []
theorem x_lcA {σ0 : L2.St} (S : Ds K C B σ H M ρ ((D, .lst acc) :: w) tp) (hr : Rew K C B σ ρ σ0 ρ2) (ht : Tm tp y e) (hl : acc.length < sizeLine) (hI : I (i + 1) (acc ++ [e]) w) : LcA (LcN K C B I σ0 ρ2 D (i + 1)) D y H := by
  obtain ⟨_, us, h1, h2⟩ := S.own _ (List.mem_cons_self ..)
  exact ⟨us, h1, by rw [dpAll_len h2]; exact hl, M, acc ++ [e], w, hI, hr (S.mut (j := 0) (od' := .lst (acc ++ [e])) rfl ⟨_, upd_same, dpAll_app h2 (.cons (ht.dp S) .nil)⟩)⟩
theorem x_lcN {σ0 : L2.St} (S : Ds K C B σ H M ρ ((D, .lst acc) :: w) tp) (hr : Rew K C B σ ρ σ0 ρ2) (hI : I (i + 1) acc w) : LcN K C B I σ0 ρ2 D (i + 1) H := ⟨M, acc, w, hI, hr S⟩
/-- out of the block: the slots as they were ahead of it -/
theorem Ds.outof {σ1 : L2.St} {ρ1 : List Sl} {H1 M1 : Hp} {w1 : Own} (S : Ds K C B σ H M ρ w tp) (S1 : Ds K C M σ1 H1 M1 ρ1 w1 []) : Ds K C B σ H1 M1 ρ w1 tp where
  ln := S.ln
  sl := fun i s h => (S.sl i s h).imp id fun ⟨v, a, b⟩ => ⟨v, a, b.same S1.bs⟩
  tm := fun p h => Dp.same S1.bs (S.tm p h)
  own := S1.own
  nd := S1.nd
  F := S1.F
  ow := S1.ow
  bs := S.bs.trans S1.bs
theorem wipe1 {x : V} : wipe ((wipe σ [k]).set k (some x)) [k] = wipe σ [k] := by
  show ((σ.set k none).set k (some x)).set k none = σ.set k none
  rw [List.set_set, List.set_set]
theorem rew1 {B : Hp} {x : V} {s : Sl} : Rew K C B ((wipe σ [k]).set k (some x)) (ρ.set k s) (wipe σ [k]) (ρ.set k .u) := fun S => by
  have S1 := S.clr.wiped [k]
  rw [wipe1] at S1
  have h : (ρ.set k s).set k .u = ρ.set k .u := List.set_set ..
  exact h ▸ S1
/-- over a tuple, one name -/
theorem x_lc1T (I : Nat → List PyData → Own → Prop) (S : Ds K C B σ H M ρ w tp) (ht : Tm tp v (.tuple ds)) (h0 : I 0 [] w)
    (hs : ∀ i d acc w1, ds[i]? = some d → I i acc w1 → ∀ D σ1 H1 M1, Rew K C M σ1 (ρ.set k (.d d)) (wipe σ [k]) (ρ.set k .u) → Ds K C M σ1 H1 M1 (ρ.set k (.d d)) ((D, .lst acc) :: w1) [] → tt σ1 H1 fun b H3 => if b = true then te σ1 H3 (LcA (LcN K C M I (wipe σ [k]) (ρ.set k .u) D (i + 1)) D) else LcN K C M I (wipe σ [k]) (ρ.set k .u) D (i + 1) H3)
    (hd : ∀ acc w1, I ds.length acc w1 → ∀ D H1 M1, Ds K C B σ H1 M1 ρ ((D, .lst acc) :: w1) tp → Q (.ref D) H1) : ForT K (LcB (gName k) tt te [k] Q σ) v H := by
  obtain ⟨p, xs, rfl, h1, h2⟩ := dp_tup (ht.dp S)
  refine ⟨p, rfl, ⟨xs, Same.seqT S.sub h1⟩, fun D hD => lc_tup (xs := xs) (LcN K C M I (wipe σ [k]) (ρ.set k .u) D) ?_ (fun i H1 _ q => ?_) (fun i x H1 hx q => ?_) (fun H1 q => ?_)⟩
  · exact ⟨M, [], w, h0, (S.base.clr.wiped [k]).newL hD .nil⟩
  · obtain ⟨M1, acc, w1, _, S1⟩ := q
    exact Same.seqT (S1.bs.trans S1.sub) h1
  · obtain ⟨M1, acc, w1, q, S1⟩ := q
    have hi : i < ds.length := by rw [← dpAll_len h2]; exact (List.getElem?_eq_some_iff.mp hx).1
    have e := List.getElem?_eq_getElem hi
    have d1 : Dp K M1 x ds[i] := Dp.same S1.bs (dpAll_at h2 i x _ hx e)
    have S2 := S1.set (i := k) (v := x) (s := .d ds[i]) d1
    rw [List.set_set] at S2
    exact ⟨wipe1, hs i _ acc w1 e q D _ H1 M1 rew1 S2⟩
  · obtain ⟨M1, acc, w1, q, S1⟩ := q
    exact hd acc w1 (dpAll_len h2 ▸ q) D H1 M1 (S.outof S1)
theorem x_lc1L (I : Nat → List PyData → Own → Prop) (S : Ds K C B σ H M ρ w tp) (ht : Tm tp v (.list ds)) (h0 : I 0 [] w)
    (hs : ∀ i d acc w1, ds[i]? = some d → I i acc w1 → ∀ D σ1 H1 M1, Rew K C M σ1 (ρ.set k (.d d)) (wipe σ [k]) (ρ.set k .u) → Ds K C M σ1 H1 M1 (ρ.set k (.d d)) ((D, .lst acc) :: w1) [] → tt σ1 H1 fun b H3 => if b = true then te σ1 H3 (LcA (LcN K C M I (wipe σ [k]) (ρ.set k .u) D (i + 1)) D) else LcN K C M I (wipe σ [k]) (ρ.set k .u) D (i + 1) H3)
    (hd : ∀ acc w1, I ds.length acc w1 → ∀ D H1 M1, Ds K C B σ H1 M1 ρ ((D, .lst acc) :: w1) tp → Q (.ref D) H1) : ForL K (LcB (gName k) tt te [k] Q σ) v H := by
  obtain ⟨p, xs, rfl, h1, h2⟩ := dp_lst (ht.dp S)
  refine ⟨p, rfl, ⟨xs, S.sub.seq h1⟩, fun D hD => lc_list (xs := xs) (LcN K C M I (wipe σ [k]) (ρ.set k .u) D) ?_ (fun i H1 _ q => ?_) (fun i x H1 hx q => ?_) (fun H1 q => ?_)⟩
  · exact ⟨M, [], w, h0, (S.base.clr.wiped [k]).newL hD .nil⟩
  · obtain ⟨M1, acc, w1, _, S1⟩ := q
    exact (S1.bs.trans S1.sub).seq h1
  · obtain ⟨M1, acc, w1, q, S1⟩ := q
    have hi : i < ds.length := by rw [← dpAll_len h2]; exact (List.getElem?_eq_some_iff.mp hx).1
    have e := List.getElem?_eq_getElem hi
    have d1 : Dp K M1 x ds[i] := Dp.same S1.bs (dpAll_at h2 i x _ hx e)
    have S2 := S1.set (i := k) (v := x) (s := .d ds[i]) d1
    rw [List.set_set] at S2
    exact ⟨wipe1, hs i _ acc w1 e q D _ H1 M1 rew1 S2⟩
  · obtain ⟨M1, acc, w1, q, S1⟩ := q
    exact hd acc w1 (dpAll_len h2 ▸ q) D H1 M1 (S.outof S1)
theorem x_lc1R (I : Nat → List PyData → Own → Prop) (S : Ds K C B σ H M ρ w tp) (b1 : -(2 ^ 62) ≤ a) (b2 : a < 2 ^ 62) (h0 : I 0 [] w)
    (hs : ∀ (i : Nat) acc w1, i < a.toNat → I i acc w1 → ∀ D σ1 H1 M1, Rew K C M σ1 (ρ.set k (.d (.int i))) (wipe σ [k]) (ρ.set k .u) → Ds K C M σ1 H1 M1 (ρ.set k (.d (.int i))) ((D, .lst acc) :: w1) [] → tt σ1 H1 fun b H3 => if b = true then te σ1 H3 (LcA (LcN K C M I (wipe σ [k]) (ρ.set k .u) D (i + 1)) D) else LcN K C M I (wipe σ [k]) (ρ.set k .u) D (i + 1) H3)
    (hd : ∀ acc w1, I a.toNat acc w1 → ∀ D H1 M1, Ds K C B σ H1 M1 ρ ((D, .lst acc) :: w1) tp → Q (.ref D) H1) : ForR (LcB (gName k) tt te [k] Q σ) [.int a] H := by
  refine ⟨a, rfl, b1, b2, fun D hD => lc_range (lo := 0) (n := a.toNat) (LcN K C M I (wipe σ [k]) (ρ.set k .u) D) ?_ (fun i H1 hi q => ?_) (fun H1 q => ?_)⟩
  · exact ⟨M, [], w, h0, (S.base.clr.wiped [k]).newL hD .nil⟩
  · obtain ⟨M1, acc, w1, q, S1⟩ := q
    rw [Int.zero_add]
    have S2 := S1.set (i := k) (v := .int i) (s := .d (.int i)) (.int _)
    rw [List.set_set] at S2
    exact ⟨wipe1, hs i acc w1 hi q D _ H1 M1 rew1 S2⟩
  · obtain ⟨M1, acc, w1, q, S1⟩ := q
    exact hd acc w1 q D H1 M1 (S.outof S1)
end
end Pf
namespace Pf
open PySem PySem.Spec PyProof.Rows L2
/-! isinstance -/
section
variable {K : PySem.W.Frag} {C : Fx} {B : Hp} {σ : L2.St} {H M : Hp} {ρ : List Sl} {w w' : Own} {tp : List (V × PyData)} {Q R : VK} {v : V} {b : Bool} {T : String} {vs : List V} {ds : List PyData} {c : Bool} {i : Int} {s : Str}
theorem h_isi (h : rIsi K vs H R) : rIsi K vs H R := h
theorem x_isiB (k : kitB "bool" T = some b) (q : R (.bl b) H) : rIsi K [.bl c, .ty T] H R := ⟨.bl c, .ty T, _, _, b, rfl, .ty _, .base (.bl c), kit_ty k, q⟩
theorem x_isiI (k : kitB "int" T = some b) (q : R (.bl b) H) : rIsi K [.int i, .ty T] H R := ⟨.int i, .ty T, _, _, b, rfl, .ty _, .base (.int i), kit_ty k, q⟩
theorem x_isiS (k : kitB "str" T = some b) (q : R (.bl b) H) : rIsi K [.str s, .ty T] H R := ⟨.str s, .ty T, _, _, b, rfl, .ty _, .base (.str s), kit_ty k, q⟩
theorem x_isiN (k : kitB "NoneType" T = some b) (q : R (.bl b) H) : rIsi K [.non, .ty T] H R := ⟨.non, .ty T, _, _, b, rfl, .ty _, .base .non, kit_ty k, q⟩
theorem x_isiT (S : Ds K C B σ H M ρ w tp) (ht : Tm tp v (.tuple ds)) (k : kitB "tuple" T = some b) (q : R (.bl b) H) : rIsi K [v, .ty T] H R := by
  obtain ⟨p, xs, rfl, h1, h2⟩ := dp_tup (ht.dp S)
  exact ⟨.ref p, .ty T, _, _, b, rfl, .ty _, tyT (Same.seqT S.sub h1), kit_ty k, q⟩
end
end Pf
namespace Pf
open PySem PySem.Spec PyProof.Rows L2
/-! the law -/
def spLaw (K : PySem.W.Frag) : Sp := fun vs H Q _ => ∃ (a : Addr) (ns : List Int), vs = [.ref a] ∧ SqL K H a (ns.map V.int) ∧ ns.length ≤ 63 ∧ ∀ H', Q (.bl true) H'
section
variable {P : Program} {w : World} {K : PySem.W.Frag} {mg : Str → Option Value} {base : Heap}
theorem law_go {x qual : Str} {st : Stmt} {f : Addr} {fd : FuncData} {N : List Str} {k : Nat} (F : Fun K x qual st f fd) (S : FnScope N ["script"] (defScope st))
    (hbody : ∀ (cdv : Value) (A : Around) (outer : List Env) (s : Shared) (H : Hp) (vs : List V) (Q : VK) (E : XK) (ns : List Int), Room k (A.deeper (envOfC qual (defScope st) s.heap.objs.size f cdv)) → ns.length ≤ 63 →
      Ds K ⟨H, H, []⟩ H (L2.start N vs) H H ([.d (.list (ns.map .int))] ++ List.replicate (N.length - [Sl.d (.list (ns.map .int))].length) .u) [] [] → (∀ H', Q (.bl true) H') →
      ∃ t, PSs (cxOf CX0 P w K mg base N qual (defScope st) f cdv A outer s H E).nox (defBody st) t ∧ t { nx := fun _ H' => Q .non H', rt := Q } (L2.start N vs) H) : FnOk P w K mg base CX0 (k + 1) f fd ["script"] (spLaw K) := by
  refine F.ok S (fun vs H Q E h => ?_) (fun cdv A outer s H vs Q E hr h => ?_)
  · obtain ⟨a, ns, rfl, _⟩ := h
    rfl
  · obtain ⟨a, ns, rfl, hS, h63, q⟩ := h
    have hs : ∀ ns : List Int, DpAll K H (ns.map V.int) (ns.map PyData.int) := fun ns => by
      induction ns with
      | nil => exact .nil
      | cons n ns ih => exact .cons (.int n) ih
    exact hbody cdv A outer s H _ Q E ns hr h63 (Ds.init (w := []) (Same.refl _) (.cons (Dp.lst hS (hs ns)) .nil) (fun _ h => nomatch h) List.nodup_nil) q
end
/-! a plain tuple of a list -/
def rTupF (K : PySem.W.Frag) : List V → Hp → VK → Prop := fun xs H Q => ∃ p ys, xs = [.ref p] ∧ SqL K H p ys ∧ ∀ l o, H l = none → PlainT o → Q (.ref l) (upd H l (.frz o (.tup ys)))
theorem call_tupFD {X : Cx} {K : PySem.W.Frag} (h : X.K = K := by rfl) : CallR X (.type "tuple") (rTupF K) := by
  subst h
  exact call_tupleF
section
variable {K : PySem.W.Frag} {C : Fx} {B : Hp} {σ : L2.St} {H M : Hp} {ρ : List Sl} {w w' : Own} {tp : List (V × PyData)} {Q R : VK} {v : V} {ds : List PyData} {p : Addr}
theorem h_tupF {vs : List V} (h : rTupF K vs H R) : rTupF K vs H R := h
theorem Ds.newF {p : Addr} {o : Obj} {vs : List V} (S : Ds K C B σ H M ρ w tp) (hp : H p = none) (hv : DpAll K M vs ds) : Ds K C B σ (upd H p (.frz o (.tup vs))) (upd M p (.frz o (.tup vs))) ρ w ((.ref p, .tuple ds) :: tp) := by
  have hm : M p = none := S.sub.free hp
  have e := Same.new (.frz o (.tup vs)) hm
  refine (S.pure ⟨fun b u _ h => Same.new _ hp b u h, fun b h => ?_, e, fun b u h => ?_, fun b h1 h2 => ?_⟩).push (.tup (.inl (.inr ⟨o, upd_same⟩)) (DpAll.same e hv))
  · by_cases q : b = p
    · rw [q, upd_same]
      exact fun z => nomatch z
    · rw [upd_ne q]
      exact h
  · by_cases q : b = p
    · rw [q, upd_same] at h
      rw [q, upd_same]
      exact h
    · rw [upd_ne q] at h
      rw [upd_ne q]
      exact S.sub b u h
  · rw [upd_ne (fun q => h2 (by rw [q]; exact hp))]
    exact h1
theorem x_tupFL (S : Ds K C B σ H M ρ w tp) (ht : Tm tp v (.list ds)) (q : ∀ l H' M', FzT K M' l → Ds K C B σ H' M' ρ w ((.ref l, .tuple ds) :: tp) → R (.ref l) H') : rTupF K [v] H R := by
  obtain ⟨p, xs, rfl, h1, h2⟩ := dp_lst (ht.dp S)
  exact ⟨p, xs, rfl, S.sub.seq h1, fun l o hl ho => q l _ _ (.inl ⟨o, _, upd_same, ho⟩) (S.newF hl h2)⟩
/-- an own list in a slot is data from now on -/
theorem Ds.frozen {i : Nat} (S : Ds K C B σ H M ρ ((p, .lst ds) :: w) tp) (hi : ρ[i]? = some (.v (.ref p))) (hO : p ∉ C.O) : ∃ M', Ds K C B σ H M' (ρ.set i (.d (.list ds))) w [] := by
  obtain ⟨v, h1, h2⟩ := S.get hi (fun z => nomatch z)
  cases (show v = .ref p from h2)
  obtain ⟨M', S'⟩ := S.freeze hO
  exact ⟨M', S'.clr.slot h1 (S'.tm (.ref p, .list ds) (List.mem_cons_self ..))⟩
end
end Pf
namespace Pf
open PySem PySem.Spec PyProof.Rows L2
/-! a list or a tuple that is walked -/
def iSeq (K : PySem.W.Frag) (te : TE) : TI := fun σ H R => iList K te σ H R ∨ iTup K te σ H R
theorem pi_seqD {X : Cx} {tg l : Expr} {tl : TE} {K : PySem.W.Frag} (hl : PE X l tl) (h : X.K = K := by rfl) : PI X tg l (iSeq K tl) := by
  subst h
  exact ⟨fun pins s σ H R I q => q.elim ((pi_list hl).run pins s σ H R I) ((pi_tup hl).run pins s σ H R I)⟩
section
variable {K : PySem.W.Frag} {σ : L2.St} {H : Hp} {Q : VK} {te : TE} {tt : TT} {g : TG} {t : TS} {tb : TE} {vs : List Nat} {D : Ends}
theorem x_fSL (h : tFor (iList K te) g t D σ H) : tFor (iSeq K te) g t D σ H := .inl h
theorem x_fST (h : tFor (iTup K te) g t D σ H) : tFor (iSeq K te) g t D σ H := .inr h
theorem x_lcSL (h : tLc (iList K te) g tt tb vs σ H Q) : tLc (iSeq K te) g tt tb vs σ H Q := .inl h
theorem x_lcST (h : tLc (iTup K te) g tt tb vs σ H Q) : tLc (iSeq K te) g tt tb vs σ H Q := .inr h
end
/-- a list's or a tuple's data -/
def seqD : Bool → List PyData → PyData
  | true, ds => .tuple ds
  | false, ds => .list ds
end Pf

namespace Pf
open PySem PySem.Spec PyProof.Rows L2
/-! further data rules: own lists put together, a list or a tuple of a slot -/
section
variable {K : PySem.W.Frag} {C : Fx} {B : Hp} {σ : L2.St} {H M H' M' : Hp} {ρ ρ' : List Sl} {w w' : Own} {tp : List (V × PyData)} {Q R : VK} {D : Ends} {te : TE} {tb : TS} {g : TG} {v : V} {ds es : List PyData} {p q : Addr} {b : Bool} {i : Nat}
theorem Ds.subw (S : Ds K C B σ H M ρ w tp) (h : w'.Sublist w) : Ds K C B σ H M ρ w' tp :=
  { S with own := fun p hp => S.own p (h.subset hp), nd := (h.map (·.1)).nodup S.nd, ow := fun p hp => S.ow p (h.subset hp) }
theorem Ds.perm (S : Ds K C B σ H M ρ w tp) (h : w'.Perm w) : Ds K C B σ H M ρ w' tp :=
  { S with own := fun p hp => S.own p (h.mem_iff.mp hp), nd := (h.map (·.1)).nodup_iff.mpr S.nd, ow := fun p hp => S.ow p (h.mem_iff.mp hp) }
theorem dpAll_cat : ∀ {vs us : List V} {ds es : List PyData}, DpAll K M vs ds → DpAll K M us es → DpAll K M (vs ++ us) (ds ++ es)
  | _, _, _, _, .nil, h => h
  | _, _, _, _, .cons a t, h => .cons a (dpAll_cat t h)
theorem x_cat (j k : Nat) (S : Ds K C B σ H M ρ w tp) (hj : w[j]? = some (p, .lst ds)) (hk : w[k]? = some (q, .lst es)) (hl : ds.length + es.length ≤ sizeLine)
    (z : ∀ a H', Ds K C B σ H' M ρ ((a, .lst (ds ++ es)) :: w) tp → R (.ref a) H') : rCat (.ref p) (.ref q) H R := by
  obtain ⟨_, xs, h1, h2⟩ := S.own _ (List.mem_of_getElem? hj)
  obtain ⟨_, ys, h3, h4⟩ := S.own _ (List.mem_of_getElem? hk)
  exact ⟨p, q, xs, ys, rfl, rfl, h1, h3, by rw [dpAll_len h2, dpAll_len h4]; exact hl, fun a ha => z a _ (S.newL ha (dpAll_cat h2 h4))⟩
theorem h_lsOf {vs : List V} (h : rLstOf K vs H R) : rLstOf K vs H R := h
theorem x_lsS (S : Ds K C B σ H M ρ w tp) (ht : Tm tp v (seqD b ds)) (q : ∀ l H', Ds K C B σ H' M ρ ((l, .lst ds) :: w) tp → R (.ref l) H') : rLstOf K [v] H R := by
  cases b with
  | true => exact x_lsT S ht q
  | false => exact x_lsL S ht q
theorem x_forSV (I : Nat → List Sl → Own → Prop) (S : Ds K C B σ H M ρ w tp) (hi : ρ[i]? = some (.d (seqD b ds))) (h0 : I 0 ρ w)
    (hs : ∀ i d ρ1 w1, ds[i]? = some d → I i ρ1 w1 → ∀ u σ1 H1 M1, Ds K C M σ1 H1 M1 ρ1 w1 [(u, d)] → g u σ1 H1 fun σ2 H2 => tb { D with nx := Nx K C M I (i + 1), ct := Nx K C M I (i + 1), bk := D.nx } σ2 H2)
    (hd : ∀ ρ1 w1, I ds.length ρ1 w1 → ∀ σ1 H1 M1, Ds K C B σ1 H1 M1 ρ1 w1 [] → D.nx σ1 H1) : tFor (iSeq K (tVar i)) g tb D σ H := by
  cases b with
  | true => exact x_fST (x_fT (x_var S hi (x_gP S fun v S => x_forT I S (.m (List.mem_cons_self ..)) h0 hs hd)))
  | false => exact x_fSL (x_fL (x_var S hi (x_gP S fun v S => x_forL I S (.m (List.mem_cons_self ..)) h0 hs hd)))
end
end Pf
namespace Pf
open PySem PySem.Spec PyProof.Rows L2
/-! lists and tuples of such data are such data -/
section
variable {α : Type} [DecidableEq α] {f : α → PyData}
theorem Enc.eqs (e : Enc f) : ∀ xs ys : List α, PyData.eqv (.list (xs.map f)) (.list (ys.map f)) = decide (xs = ys)
  | [], [] => by
    show true = _
    exact (decide_eq_true rfl).symm
  | [], _ :: _ => by rfl
  | _ :: _, [] => by rfl
  | x :: xs, y :: ys => by
    show (PyData.eqv (f x) (f y) && PyData.eqv (.list (xs.map f)) (.list (ys.map f))) = _
    rw [e.eq, eqs e xs ys]
    simp
theorem Enc.eqt (e : Enc f) : ∀ xs ys : List α, PyData.eqv (.tuple (xs.map f)) (.tuple (ys.map f)) = decide (xs = ys)
  | [], [] => by
    show true = _
    exact (decide_eq_true rfl).symm
  | [], _ :: _ => by rfl
  | _ :: _, [] => by rfl
  | x :: xs, y :: ys => by
    show (PyData.eqv (f x) (f y) && PyData.eqv (.tuple (xs.map f)) (.tuple (ys.map f))) = _
    rw [e.eq, eqt e xs ys]
    simp
theorem Enc.list (e : Enc f) : Enc (fun xs : List α => PyData.list (xs.map f)) := ⟨e.eqs, e.layAll⟩
theorem Enc.tuple (e : Enc f) : Enc (fun xs : List α => PyData.tuple (xs.map f)) := ⟨e.eqt, e.layAll⟩
theorem Enc.int : Enc PyData.int := ⟨fun a b => by
  show (a == b) = _
  rw [Bool.eq_iff_iff]
  simp, fun _ => rfl⟩
theorem depth_all {n : Nat} : ∀ {xs : List α}, (∀ x ∈ xs, (f x).depth ≤ n) → PyData.depthAll (xs.map f) ≤ n
  | [], _ => Nat.zero_le _
  | x :: xs, h => by
    have h1 := h x (List.mem_cons_self ..)
    have h2 := depth_all fun y hy => h y (List.mem_cons_of_mem _ hy)
    show max (f x).depth (PyData.depthAll (xs.map f)) ≤ n
    omega
theorem depth_list {n : Nat} {xs : List α} (h : ∀ x ∈ xs, (f x).depth ≤ n) : (PyData.list (xs.map f)).depth ≤ n + 1 := Nat.succ_le_succ (depth_all h)
theorem depth_tuple {n : Nat} {xs : List α} (h : ∀ x ∈ xs, (f x).depth ≤ n) : (PyData.tuple (xs.map f)).depth ≤ n + 1 := Nat.succ_le_succ (depth_all h)
end
end Pf

namespace Pf
open PySem PySem.Spec PyProof.Rows L2
/-! while, pop, extend, any and all, comprehensions with two names -/
theorem fold_get {α : Type} (a : α) : ∀ (vs : List Nat) (l : List α) (j : Nat), (vs.foldr (fun k r => r.set k a) l)[j]? = if j ∈ vs then (l[j]?).map (fun _ => a) else l[j]?
  | [], l, j => by simp
  | v :: vs, l, j => by
    show ((vs.foldr (fun k r => r.set k a) l).set v a)[j]? = _
    rw [List.getElem?_set]
    have ih := fold_get a vs l
    have hl : (vs.foldr (fun k r => r.set k a) l).length = l.length := by
      clear ih
      induction vs with
      | nil => rfl
      | cons v vs ih => show ((vs.foldr (fun k r => r.set k a) l).set v a).length = _; rw [List.length_set, ih]
    by_cases e : v = j
    · subst e
      rw [if_pos rfl, if_pos (List.mem_cons_self ..), hl]
      by_cases h : v < l.length
      · rw [if_pos h, List.getElem?_eq_getElem h]
        rfl
      · rw [if_neg h, List.getElem?_eq_none (by omega)]
        rfl
    · rw [if_neg e, ih]
      have : (j ∈ v :: vs) ↔ j ∈ vs := by
        rw [List.mem_cons]
        exact ⟨fun z => z.resolve_left fun q => e q.symm, .inr⟩
      by_cases h : j ∈ vs
      · rw [if_pos h, if_pos (this.mpr h)]
      · rw [if_neg h, if_neg fun z => h (this.mp z)]
theorem fold_set {α : Type} {a x : α} {vs : List Nat} {k : Nat} {l : List α} (h : k ∈ vs) : vs.foldr (fun k r => r.set k a) (l.set k x) = vs.foldr (fun k r => r.set k a) l := by
  apply List.ext_getElem?
  intro j
  rw [fold_get, fold_get]
  by_cases e : j ∈ vs
  · rw [if_pos e, if_pos e, List.getElem?_set]
    by_cases q : k = j
    · subst q
      rw [if_pos rfl]
      by_cases h2 : k < l.length
      · rw [if_pos h2, List.getElem?_eq_getElem h2]
        rfl
      · rw [if_neg h2, List.getElem?_eq_none (by omega)]
    · rw [if_neg q]
  · rw [if_neg e, if_neg e, List.getElem?_set_ne (fun (q : k = j) => e (q ▸ h))]
theorem fold_fold {α : Type} {a : α} {vs : List Nat} {l : List α} : vs.foldr (fun k r => r.set k a) (vs.foldr (fun k r => r.set k a) l) = vs.foldr (fun k r => r.set k a) l := by
  apply List.ext_getElem?
  intro j
  rw [fold_get, fold_get]
  by_cases e : j ∈ vs
  · rw [if_pos e, if_pos e, Option.map_map]
    rfl
  · rw [if_neg e, if_neg e]
theorem wipe_fold {σ : L2.St} : ∀ vs : List Nat, wipe σ vs = vs.foldr (fun k r => r.set k none) σ
  | [] => rfl
  | v :: vs => by
    show (wipe σ vs).set v none = (vs.foldr (fun k r => r.set k none) σ).set v none
    rw [wipe_fold vs]
/-- the own names of a block know nothing -/
def uset (vs : List Nat) (ρ : List Sl) : List Sl := vs.foldr (fun k r => r.set k .u) ρ
def WhB (K : PySem.W.Frag) (C : Fx) (B : Hp) (I : Nat → List Sl → Own → Prop) (m : Nat) (tb : TS) (D : Ends) (σ1 : L2.St) (b : Bool) (H1 : Hp) : Prop :=
  if b = true then ∃ N : L2.St → Hp → Prop, (∀ σ' H', N σ' H' → ∃ m', m' < m ∧ ∃ M ρ w, I m' ρ w ∧ Ds K C B σ' H' M ρ w []) ∧ tb { D with nx := N, ct := N, bk := D.nx } σ1 H1 else D.nx σ1 H1
/-- what a turn of a while reaches -/
def Wx (K : PySem.W.Frag) (C : Fx) (B : Hp) (I : Nat → List Sl → Own → Prop) (m : Nat) : L2.St → Hp → Prop := fun σ' H' => ∃ m', m' < m ∧ ∃ M ρ w, I m' ρ w ∧ Ds K C B σ' H' M ρ w []
section
variable {K : PySem.W.Frag} {C : Fx} {B : Hp} {σ : L2.St} {H M H' M' : Hp} {ρ ρ' ρ2 : List Sl} {w w' : Own} {tp : List (V × PyData)} {Q R : VK} {D : Ends} {te : TE} {tt : TT} {tb : TS} {g : TG} {v y : V} {ds es acc : List PyData} {d : PyData} {p q : Addr} {b : Bool} {i m m' : Nat} {I : Nat → List Sl → Own → Prop} {vs : List Nat}
theorem x_while (I : Nat → List Sl → Own → Prop) (m : Nat) (S : Ds K C B σ H M ρ w tp) (h0 : I m ρ w)
    (hs : ∀ m ρ1 w1, I m ρ1 w1 → ∀ σ1 H1 M1, Ds K C B σ1 H1 M1 ρ1 w1 [] → tt σ1 H1 (WhB K C B I m tb D σ1)) : tWhile tt tb D σ H := by
  refine ⟨fun m σ H => ∃ M ρ w, I m ρ w ∧ Ds K C B σ H M ρ w [], ⟨m, M, ρ, w, h0, S.clr⟩, ?_⟩
  rintro m σ1 H1 ⟨M1, ρ1, w1, h, S1⟩
  exact hs m ρ1 w1 h σ1 H1 M1 S1
theorem x_whB (h1 : b = true → tb { D with nx := Wx K C B I m, ct := Wx K C B I m, bk := D.nx } σ H) (h2 : b = false → D.nx σ H) : WhB K C B I m tb D σ b H := by
  unfold WhB
  cases b with
  | true => exact ⟨Wx K C B I m, fun _ _ h => h, h1 rfl⟩
  | false => exact h2 rfl
theorem Wx.at {ρ' : List Sl} (m' : Nat) (S : Ds K C B σ H M ρ w tp) (hl : SlLe ρ ρ') (hm : m' < m) (h : I m' ρ' w) : Wx K C B I m σ H := ⟨m', hm, M, ρ', w, h, S.clr.weak hl⟩
theorem dpAll_dropLast : ∀ {xs : List V} {ds : List PyData}, DpAll K M xs ds → DpAll K M xs.dropLast ds.dropLast
  | _, _, .nil => .nil
  | _, _, .cons _ .nil => .nil
  | _, _, .cons a (.cons b t) => .cons a (dpAll_dropLast (.cons b t))
theorem dpAll_snoc {xs : List V} (h : DpAll K M xs (ds ++ [d])) : ∃ v, xs[xs.length - 1]? = some v ∧ Dp K M v d := by
  have h1 := dpAll_len h
  rw [List.length_append, List.length_singleton] at h1
  obtain ⟨v, h2, h3⟩ := dpAll_get h (xs.length - 1) d (by rw [show xs.length - 1 = ds.length by omega, List.getElem?_append_right (Nat.le_refl _), Nat.sub_self]; rfl)
  exact ⟨v, h2, h3⟩
/-- p.pop(), p an own list in a slot -/
theorem x_pop (j : Nat) (S : Ds K C B σ H M ρ w tp) (h : ρ[i]? = some (.v (.ref p))) (hj : w[j]? = some (p, .lst (ds ++ [d]))) (hw : SetAt w j (p, .lst ds) w') (z : ∀ v H', Ds K C B σ H' M ρ w' ((v, d) :: tp) → Q v H') : tBM0 K "list" rPop (tVar i) σ H Q := by
  obtain ⟨v, h1, h2⟩ := S.get h (fun z => nomatch z)
  cases (show v = .ref p from h2)
  obtain ⟨_, xs, h3, h4⟩ := S.own _ (List.mem_of_getElem? hj)
  obtain ⟨v, h5, h6⟩ := dpAll_snoc h4
  have h7 := dpAll_dropLast h4
  rw [List.dropLast_concat] at h7
  refine ⟨_, h1, .inl ⟨rfl, xs, .of h3⟩, p, xs, v, rfl, rfl, h3, h5, z v _ ?_⟩
  rw [hw.eq]
  exact (S.mut (od' := .lst ds) hj ⟨_, upd_same, h7⟩).push h6
def ExtK (Q : VK) (x y : V) (H2 : Hp) : Prop := rExtend x [y] H2 Q
theorem x_ext (S : Ds K C B σ H M ρ w tp) (h : ρ[i]? = some (.v (.ref p))) (j : Nat) (hj : w[j]? = some (p, .lst ds)) (z : te σ H fun y H2 => ExtK Q (.ref p) y H2) : tBM K "list" rExtend (tVar i) (tCons te tNil) σ H Q := by
  obtain ⟨v, h1, h2⟩ := S.get h (fun z => nomatch z)
  cases (show v = .ref p from h2)
  obtain ⟨_, vs, h3, _⟩ := S.own _ (List.mem_of_getElem? hj)
  exact ⟨_, h1, .inl ⟨rfl, vs, .of h3⟩, z⟩
theorem h_ext (h : tBM K "list" rExtend (tVar i) (tCons te tNil) σ H Q) : tBM K "list" rExtend (tVar i) (tCons te tNil) σ H Q := h
theorem x_extK (j k : Nat) (S : Ds K C B σ H M ρ w tp) (hj : w[j]? = some (p, .lst ds)) (hk : w[k]? = some (q, .lst es)) (hl : ds.length + es.length ≤ sizeLine) (hw : SetAt w j (p, .lst (ds ++ es)) w') (z : ∀ H', Ds K C B σ H' M ρ w' tp → Q .non H') : ExtK Q (.ref p) (.ref q) H := by
  obtain ⟨_, xs, h1, h2⟩ := S.own _ (List.mem_of_getElem? hj)
  obtain ⟨_, ys, h3, h4⟩ := S.own _ (List.mem_of_getElem? hk)
  refine ⟨p, q, xs, ys, rfl, rfl, h1, h3, by rw [dpAll_len h2, dpAll_len h4]; exact hl, z _ ?_⟩
  rw [hw.eq]
  exact S.mut hj ⟨_, upd_same, dpAll_cat h2 h4⟩
theorem dpAll_bls : ∀ {xs : List V} {bs : List Bool}, DpAll K M xs (bs.map .bool) → xs = bs.map V.bl
  | _, [], .nil => rfl
  | _, _ :: _, .cons h t => by
    cases h
    rw [dpAll_bls t]
    rfl
theorem h_any {vs : List V} (h : rAny K vs H R) : rAny K vs H R := h
theorem h_all {vs : List V} (h : rAll K vs H R) : rAll K vs H R := h
theorem x_anyO {bs : List Bool} (j : Nat) (S : Ds K C B σ H M ρ w tp) (hj : w[j]? = some (p, .lst (bs.map .bool))) (z : R (.bl (bs.any id)) H) : rAny K [.ref p] H R := by
  obtain ⟨_, xs, h1, h2⟩ := S.own _ (List.mem_of_getElem? hj)
  rw [dpAll_bls h2] at h1
  exact ⟨p, bs, rfl, .of h1, z⟩
theorem x_allO {bs : List Bool} (j : Nat) (S : Ds K C B σ H M ρ w tp) (hj : w[j]? = some (p, .lst (bs.map .bool))) (z : R (.bl (bs.all id)) H) : rAll K [.ref p] H R := by
  obtain ⟨_, xs, h1, h2⟩ := S.own _ (List.mem_of_getElem? hj)
  rw [dpAll_bls h2] at h1
  exact ⟨p, bs, rfl, .of h1, z⟩
theorem x_anyL {bs : List Bool} (S : Ds K C B σ H M ρ w tp) (ht : Tm tp v (.list (bs.map .bool))) (z : R (.bl (bs.any id)) H) : rAny K [v] H R := by
  obtain ⟨p, xs, rfl, h1, h2⟩ := dp_lst (ht.dp S)
  rw [dpAll_bls h2] at h1
  exact ⟨p, bs, rfl, S.sub.seq h1, z⟩
theorem x_allL {bs : List Bool} (S : Ds K C B σ H M ρ w tp) (ht : Tm tp v (.list (bs.map .bool))) (z : R (.bl (bs.all id)) H) : rAll K [v] H R := by
  obtain ⟨p, xs, rfl, h1, h2⟩ := dp_lst (ht.dp S)
  rw [dpAll_bls h2] at h1
  exact ⟨p, bs, rfl, S.sub.seq h1, z⟩
/-! comprehensions with two names -/
theorem rew2 {B : Hp} {k1 k2 : Nat} {x y : V} {s t : Sl} (m1 : k1 ∈ vs) (m2 : k2 ∈ vs) : Rew K C B (((wipe σ vs).set k1 (some x)).set k2 (some y)) (((uset vs ρ).set k1 s).set k2 t) (wipe σ vs) (uset vs ρ) := fun S => by
  have S1 := S.clr.wiped vs
  rw [wipe_fold, wipe_fold, fold_set m2, fold_set m1, fold_fold, fold_set m2, fold_set m1] at S1
  rw [wipe_fold]
  have : uset vs (uset vs ρ) = uset vs ρ := fold_fold
  exact this ▸ S1
theorem wipe2 {k1 k2 : Nat} {x y : Option V} (m1 : k1 ∈ vs) (m2 : k2 ∈ vs) : wipe (((wipe σ vs).set k1 x).set k2 y) vs = wipe σ vs := by
  rw [wipe_fold, wipe_fold, fold_set m2, fold_set m1, fold_fold]
theorem x_lc2T {k1 k2 : Nat} (I : Nat → List PyData → Own → Prop) (m1 : k1 ∈ vs) (m2 : k2 ∈ vs) (S : Ds K C B σ H M ρ w tp) (ht : Tm tp v (.tuple ds)) (hd2 : ∀ d ∈ ds, ∃ d1 d2, d = .tuple [d1, d2]) (h0 : I 0 [] w)
    (hs : ∀ i d1 d2 acc w1, ds[i]? = some (.tuple [d1, d2]) → I i acc w1 → ∀ D σ1 H1 M1, Rew K C M σ1 (((uset vs ρ).set k1 (.d d1)).set k2 (.d d2)) (wipe σ vs) (uset vs ρ) → Ds K C M σ1 H1 M1 (((uset vs ρ).set k1 (.d d1)).set k2 (.d d2)) ((D, .lst acc) :: w1) [] → tt σ1 H1 fun b H3 => if b = true then te σ1 H3 (LcA (LcN K C M I (wipe σ vs) (uset vs ρ) D (i + 1)) D) else LcN K C M I (wipe σ vs) (uset vs ρ) D (i + 1) H3)
    (hd : ∀ acc w1, I ds.length acc w1 → ∀ D H1 M1, Ds K C B σ H1 M1 ρ ((D, .lst acc) :: w1) tp → Q (.ref D) H1) : ForT K (LcB (gTup K 2 (gCons (gName k1) (gCons (gName k2) gNil))) tt te vs Q σ) v H := by
  obtain ⟨p, xs, rfl, h1, h2⟩ := dp_tup (ht.dp S)
  refine ⟨p, rfl, ⟨xs, Same.seqT S.sub h1⟩, fun D hD => lc_tup (xs := xs) (LcN K C M I (wipe σ vs) (uset vs ρ) D) ?_ (fun i H1 _ q => ?_) (fun i x H1 hx q => ?_) (fun H1 q => ?_)⟩
  · exact ⟨M, [], w, h0, (S.base.clr.wiped vs).newL hD .nil⟩
  · obtain ⟨M1, acc, w1, _, S1⟩ := q
    exact Same.seqT (S1.bs.trans S1.sub) h1
  · obtain ⟨M1, acc, w1, q, S1⟩ := q
    have hi : i < ds.length := by rw [← dpAll_len h2]; exact (List.getElem?_eq_some_iff.mp hx).1
    have e := List.getElem?_eq_getElem hi
    have dd : Dp K M1 x ds[i] := Dp.same S1.bs (dpAll_at h2 i x _ hx e)
    obtain ⟨d1, d2, e2⟩ := hd2 ds[i] (List.getElem_mem hi)
    rw [e2] at dd e
    refine x_gT2 (S1.push dd) (.m (List.mem_cons_self ..)) fun y z S2 => ?_
    have hy : Dp K M1 y d1 := S2.tm (y, d1) (List.mem_cons_self ..)
    have hz : Dp K M1 z d2 := S2.tm (z, d2) (List.mem_cons_of_mem _ (List.mem_cons_self ..))
    have S3 := ((S2.clr.set (i := k1) (v := y) (s := .d d1) hy).set (i := k2) (v := z) (s := .d d2) hz)
    exact ⟨wipe2 m1 m2, hs i d1 d2 acc w1 e q D _ H1 M1 (rew2 m1 m2) S3⟩
  · obtain ⟨M1, acc, w1, q, S1⟩ := q
    exact hd acc w1 (dpAll_len h2 ▸ q) D H1 M1 (S.outof S1)
end
abbrev memD {α : Type} [DecidableEq α] (x : α) (xs : List α) : Bool := decide (x ∈ xs)
section
variable {K : PySem.W.Frag} {C : Fx} {B : Hp} {σ : L2.St} {H M H' M' : Hp} {ρ ρ' : List Sl} {w w' : Own} {tp : List (V × PyData)} {Q R : VK} {te ta : TE} {v x y : V} {a : Addr}
variable {α : Type} [DecidableEq α] {f : α → PyData} {xs : List α} {c : α} {b : Bool}
theorem z_inT (e : Enc f) (S : Ds K C B σ H M ρ w tp) (hx : Tm tp x (f c)) (hy : Tm tp y (.tuple (xs.map f))) (hd : (f c).depth ≤ 64) (hb : memD c xs = b) (q : R (.bl b) H) : rInX K false x y H R := y_inT e S hx hy hd (by rw [show decide (c ∈ xs) = b from hb]; exact q)
theorem z_inL (e : Enc f) (S : Ds K C B σ H M ρ w tp) (hx : Tm tp x (f c)) (hy : Tm tp y (.list (xs.map f))) (hd : (f c).depth ≤ 64) (hb : memD c xs = b) (q : R (.bl b) H) : rInX K false x y H R := y_inL e S hx hy hd (by rw [show decide (c ∈ xs) = b from hb]; exact q)
theorem z_inO (e : Enc f) (j : Nat) (S : Ds K C B σ H M ρ w tp) (hj : w[j]? = some (a, .lst (xs.map f))) (hx : Tm tp x (f c)) (hd : (f c).depth ≤ 64) (hb : memD c xs = b) (q : R (.bl b) H) : rInX K false x (.ref a) H R := y_inO e j S hj hx hd (by rw [show decide (c ∈ xs) = b from hb]; exact q)
theorem x_sel {ys : List α} {i j : Nat} (S : Ds K C B σ H M ρ w tp) (h1 : ρ[i]? = some (.d (.list (xs.map f)))) (h2 : ρ[j]? = some (.d (.list (ys.map f)))) (q : Giv K M H R (.list ((if b = true then xs else ys).map f))) : if b = true then tVar i σ H R else tVar j σ H R := by
  cases b with
  | true => exact x_var S h1 q
  | false => exact x_var S h2 q
end
end Pf

namespace Pf
open PySem PySem.Spec PyProof.Rows L2
/-! dicts with keys that are integers or texts, as own things -/
def valD (kvs : List (Key × PyData)) (k : Key) : Option PyData := (kvs.find? fun kv => decide (kv.1 = k)).map (·.2)
def putD (kvs : List (Key × PyData)) (k : Key) (d : PyData) : List (Key × PyData) :=
  if (kvs.any fun kv => decide (kv.1 = k)) = true then kvs.map (fun kv => if kv.1 = k then (kv.1, d) else kv) else kvs ++ [(k, d)]
theorem valD_nil {k : Key} : valD [] k = none := rfl
theorem valD_cons {p : Key × PyData} {r : List (Key × PyData)} {k : Key} : valD (p :: r) k = if p.1 = k then some p.2 else valD r k := by
  unfold valD
  rw [List.find?_cons]
  by_cases h : p.1 = k
  · simp [h]
  · simp [h]
theorem valD_any (k : Key) : ∀ kvs : List (Key × PyData), (kvs.any fun kv => decide (kv.1 = k)) = (valD kvs k).isSome
  | [] => rfl
  | p :: r => by
    rw [List.any_cons, valD_any k r, valD_cons]
    by_cases h : p.1 = k
    · simp [h]
    · simp [h]
theorem valD_put {kvs : List (Key × PyData)} {k k' : Key} {d : PyData} : valD (putD kvs k d) k' = if k' = k then some d else valD kvs k' := by
  unfold putD
  split
  · rename_i h
    induction kvs with
    | nil => simp at h
    | cons p r ih =>
      rw [List.map_cons, valD_cons, valD_cons]
      by_cases e : p.1 = k
      · rw [if_pos e]
        by_cases e2 : k' = k
        · rw [if_pos e2]
          simp [e, e2]
        · rw [if_neg e2]
          have e3 : ¬ p.1 = k' := fun z => e2 (z.symm.trans e)
          rw [if_neg e3, if_neg e3]
          by_cases h2 : (r.any fun kv => decide (kv.1 = k)) = true
          · rw [ih h2, if_neg e2]
          · have : r.map (fun kv => if kv.1 = k then (kv.1, d) else kv) = r := by
              rw [List.map_congr_left (g := id), List.map_id]
              intro x hx
              have : ¬ x.1 = k := fun z => h2 (List.any_eq_true.mpr ⟨x, hx, decide_eq_true z⟩)
              rw [if_neg this]
              rfl
            rw [this]
      · rw [if_neg e]
        rw [List.any_cons, decide_eq_false e, Bool.false_or] at h
        rw [ih h]
        by_cases e2 : k' = k
        · have e3 : ¬ p.1 = k' := fun z => e (z.trans e2)
          rw [if_neg e3, if_pos e2, if_pos e2]
        · rw [if_neg e2, if_neg e2]
  · rename_i h0
    have h : valD kvs k = none := by
      rw [valD_any] at h0
      cases e : valD kvs k with
      | none => rfl
      | some x => rw [e] at h0; exact absurd rfl h0
    clear h0
    induction kvs with
    | nil =>
      show valD [(k, d)] k' = _
      rw [valD_cons, valD_nil]
      by_cases e : k' = k
      · rw [if_pos e, if_pos e.symm]
      · rw [if_neg e, if_neg fun z => e z.symm]
    | cons p r ih =>
      rw [valD_cons] at h
      by_cases e : p.1 = k
      · rw [if_pos e] at h
        cases h
      · rw [if_neg e] at h
        rw [List.cons_append, valD_cons, valD_cons, ih h]
        by_cases e2 : k' = k
        · have e3 : ¬ p.1 = k' := fun z => e (z.trans e2)
          rw [if_neg e3, if_pos e2, if_pos e2]
        · rw [if_neg e2, if_neg e2]
section
variable {K : PySem.W.Frag} {C : Fx} {B : Hp} {σ : L2.St} {H M H' M' : Hp} {ρ ρ' : List Sl} {w w' : Own} {tp : List (V × PyData)} {Q R : VK} {D : Ends} {te td ty tv : TE} {v y : V} {d : PyData} {p : Addr} {kvs : List (Key × PyData)} {k : Key} {ws : List (Key × V)}
abbrev PK (K : PySem.W.Frag) (M : Hp) : Key × V → Key × PyData → Prop := fun p q => p.1 = q.1 ∧ Dp K M p.2 q.2
theorem pk_val : ∀ {ws : List (Key × V)} {kvs : List (Key × PyData)}, Paired (PK K M) ws kvs → ∀ k : Key, (valV ws k = none ∧ valD kvs k = none) ∨ ∃ v d, valV ws k = some v ∧ valD kvs k = some d ∧ Dp K M v d
  | _, _, .nil, k => .inl ⟨rfl, rfl⟩
  | a :: _, b :: _, .cons h t, k => by
    obtain ⟨e, hd⟩ := h
    by_cases q : b.1 = k
    · exact .inr ⟨a.2, b.2, valV_pos (e.trans q), by rw [valD_cons, if_pos q], hd⟩
    · rw [valV_neg (fun z => q (e.symm.trans z)), valD_cons, if_neg q]
      exact pk_val t k
theorem pk_map (hd : Dp K M v d) : ∀ {ws : List (Key × V)} {kvs : List (Key × PyData)}, Paired (PK K M) ws kvs → Paired (PK K M) (ws.map (fun kv => if kv.1 = k then (kv.1, v) else kv)) (kvs.map (fun kv => if kv.1 = k then (kv.1, d) else kv))
  | _, _, .nil => .nil
  | a :: _, b :: _, .cons h t => by
    refine .cons ?_ (pk_map hd t)
    obtain ⟨e, hd2⟩ := h
    show PK K M (if a.1 = k then (a.1, v) else a) (if b.1 = k then (b.1, d) else b)
    by_cases q : b.1 = k
    · rw [if_pos q, if_pos (e.trans q)]
      exact ⟨e, hd⟩
    · rw [if_neg q, if_neg fun z => q (e.symm.trans z)]
      exact ⟨e, hd2⟩
theorem pk_len (h : Paired (PK K M) ws kvs) : ws.length = kvs.length := by
  induction h with
  | nil => rfl
  | cons _ _ ih => exact congrArg Nat.succ ih
theorem pk_put (h : Paired (PK K M) ws kvs) (hd : Dp K M v d) : Paired (PK K M) (putK ws k v) (putD kvs k d) := by
  have he : (ws.any fun kv => decide (kv.1 = k)) = kvs.any fun kv => decide (kv.1 = k) := by
    rw [valV_any, valD_any]
    rcases pk_val h k with ⟨a, b⟩ | ⟨_, _, a, b, _⟩
    · rw [a, b]
      rfl
    · rw [a, b]
      rfl
  unfold putK putD
  rw [he]
  split
  · exact pk_map hd h
  · exact h.snoc ⟨rfl, hd⟩
theorem x_dnew (q : ∀ p H', Ds K C B σ H' M ρ ((p, .dk []) :: w) tp → Q (.ref p) H') (S : Ds K C B σ H M ρ w tp) : tDNewK σ H Q := fun p hp => q p _ (S.newO hp ⟨[], upd_same, .nil⟩)
def DgK (Q : VK) (x y : V) (H : Hp) : Prop := ∃ a v, x = .ref a ∧ DGet H a y (some v) ∧ Q v H
def DnK (Q : VK) (x y : V) (H : Hp) : Prop := ∃ a o, x = .ref a ∧ DGet H a y o ∧ Q (.bl (!o.isSome)) H
def DiK (Q : VK) (x y : V) (H : Hp) : Prop := ∃ a o, x = .ref a ∧ DGet H a y o ∧ Q (.bl o.isSome) H
def DsK (D : Ends) (σ : L2.St) (x y v : V) (H : Hp) : Prop := ∃ a H4, x = .ref a ∧ DPut H a y v H4 ∧ D.nx σ H4
theorem x_dg (h : td σ H fun x H1 => ty σ H1 fun y H2 => DgK Q x y H2) : tDGet td ty σ H Q := h
theorem x_dn (h : ty σ H fun y H1 => td σ H1 fun x H2 => DnK Q x y H2) : tDNotIn ty td σ H Q := h
theorem x_di (h : ty σ H fun y H1 => td σ H1 fun x H2 => DiK Q x y H2) : tDIn ty td σ H Q := h
theorem x_ds (h : tv σ H fun v H1 => td σ H1 fun x H2 => ty σ H2 fun y H3 => DsK D σ x y v H3) : sDPut td ty tv D σ H := h
theorem x_dgK {i : Int} (j : Nat) (S : Ds K C B σ H M ρ w tp) (hj : w[j]? = some (p, .dk kvs)) (hv : valD kvs (.inl i) = some d) (q : Giv K M H Q d) : DgK Q (.ref p) (.int i) H := by
  obtain ⟨_, ws, h1, h2⟩ := S.own _ (List.mem_of_getElem? hj)
  rcases pk_val h2 (.inl i) with ⟨_, b⟩ | ⟨v, d', a, b, c⟩
  · rw [b] at hv
    cases hv
  · rw [b] at hv
    cases hv
    exact ⟨p, v, rfl, a ▸ DGet.k (k := .inl i) h1, q v c⟩
theorem x_dnK {i : Int} (j : Nat) (S : Ds K C B σ H M ρ w tp) (hj : w[j]? = some (p, .dk kvs)) (q : Q (.bl (!(valD kvs (.inl i)).isSome)) H) : DnK Q (.ref p) (.int i) H := by
  obtain ⟨_, ws, h1, h2⟩ := S.own _ (List.mem_of_getElem? hj)
  have e : (valV ws (.inl i)).isSome = (valD kvs (.inl i)).isSome := by
    rcases pk_val h2 (.inl i) with ⟨a, b⟩ | ⟨v, d', a, b, c⟩
    · rw [a, b]
      rfl
    · rw [a, b]
      rfl
  exact ⟨p, _, rfl, DGet.k (k := .inl i) h1, by rw [e]; exact q⟩
theorem x_dsK {i : Int} (j : Nat) (S : Ds K C B σ H M ρ w tp) (hj : w[j]? = some (p, .dk kvs)) (ht : Tm tp v d) (hl : kvs.length < sizeLine) (hw : SetAt w j (p, .dk (putD kvs (.inl i) d)) w') (q : ∀ H', Ds K C B σ H' M ρ w' tp → D.nx σ H') : DsK D σ (.ref p) (.int i) v H := by
  obtain ⟨_, ws, h1, h2⟩ := S.own _ (List.mem_of_getElem? hj)
  refine ⟨p, _, rfl, DPut.k (k := .inl i) h1 (by rw [pk_len h2]; exact hl), q _ ?_⟩
  rw [hw.eq]
  exact S.mut (od' := .dk (putD kvs (.inl i) d)) hj ⟨_, upd_same, pk_put h2 (ht.dp S)⟩
end
theorem u1 {k : Nat} {A : Around} (r : Room k A) : A.units + 1 < cLine := by have := r.un; omega
theorem memD_true {α : Type} [DecidableEq α] {x : α} {xs : List α} (h : x ∈ xs) : memD x xs = true := decide_eq_true h
section
variable {K : PySem.W.Frag} {C : Fx} {B : Hp} {σ : L2.St} {H M : Hp} {ρ : List Sl} {w : Own} {tp : List (V × PyData)} {ds : List PyData} {p : Addr}
/-- an own list in a slot is data from now on; the temps stay -/
theorem Ds.frz2 {i : Nat} (S : Ds K C B σ H M ρ ((p, .lst ds) :: w) tp) (hi : ρ[i]? = some (.v (.ref p))) (hO : p ∉ C.O) : ∃ M', Ds K C B σ H M' (ρ.set i (.d (.list ds))) w ((.ref p, .list ds) :: tp) := by
  obtain ⟨v, h1, h2⟩ := S.get hi (fun z => nomatch z)
  cases (show v = .ref p from h2)
  obtain ⟨M', S'⟩ := S.freeze hO
  exact ⟨M', S'.slot h1 (S'.tm (.ref p, .list ds) (List.mem_cons_self ..))⟩
end
theorem memD_in {α : Type} [DecidableEq α] {x : α} {xs : List α} (h : memD x xs = true) : x ∈ xs := of_decide_eq_true h
theorem memD_no {α : Type} [DecidableEq α] {x : α} {xs : List α} (h : memD x xs = false) : x ∉ xs := of_decide_eq_false h
section
variable {K : PySem.W.Frag} {C : Fx} {B : Hp} {σ : L2.St} {H M : Hp} {ρ : List Sl} {w : Own} {tp : List (V × PyData)} {R : VK} {x y : V} {a : Addr}
variable {α : Type} [DecidableEq α] {f : α → PyData} {xs : List α} {c : α} {b : Bool}
theorem z_niT (e : Enc f) (S : Ds K C B σ H M ρ w tp) (hx : Tm tp x (f c)) (hy : Tm tp y (.tuple (xs.map f))) (hd : (f c).depth ≤ 64) (hb : memD c xs = b) (q : R (.bl (!b)) H) : rInX K true x y H R := y_niT e S hx hy hd (by rw [show decide (c ∈ xs) = b from hb]; exact q)
theorem z_niL (e : Enc f) (S : Ds K C B σ H M ρ w tp) (hx : Tm tp x (f c)) (hy : Tm tp y (.list (xs.map f))) (hd : (f c).depth ≤ 64) (hb : memD c xs = b) (q : R (.bl (!b)) H) : rInX K true x y H R := y_niL e S hx hy hd (by rw [show decide (c ∈ xs) = b from hb]; exact q)
theorem z_niO (e : Enc f) (j : Nat) (S : Ds K C B σ H M ρ w tp) (hj : w[j]? = some (a, .lst (xs.map f))) (hx : Tm tp x (f c)) (hd : (f c).depth ≤ 64) (hb : memD c xs = b) (q : R (.bl (!b)) H) : rInX K true x (.ref a) H R := y_niO e j S hj hx hd (by rw [show decide (c ∈ xs) = b from hb]; exact q)
theorem x_neX (e : Enc f) {d : α} (S : Ds K C B σ H M ρ w tp) (hx : Tm tp x (f c)) (hy : Tm tp y (f d)) (h1 : (f c).depth ≤ 64) (h2 : (f d).depth ≤ 64) (q : R (.bl (!decide (c = d))) H) : rNeD K x y H R :=
  x_neD S hx hy (by unfold SeqAt.shaped; rw [e.lay, decide_eq_true h1]; rfl) (by unfold SeqAt.shaped; rw [e.lay, decide_eq_true h2]; rfl) (by rw [e.eq]; exact q)
end
end Pf

namespace Pf
open PySem PySem.Spec PyProof.Rows L2
/-! sorted of lists of data that can be ordered -/
def rSortedX (K : PySem.W.Frag) : List V → Hp → VK → Prop := fun vs H Q => ∃ (T : V → PyData → Prop) (a : Addr) (xs : List V) (ds : List PyData), vs = [V.ref a] ∧ (∀ x d, T x d → Dp K H x d) ∧ SqL K H a xs ∧ Paired T xs ds ∧ PySem.W.AllAlike ds ∧ PySem.W.Sortable ds ∧ (∀ d ∈ ds, d.depth ≤ 60) ∧
  ∀ ys p, H p = none → Paired T ys (ds.mergeSort (PySem.W.dataLe false id)) → Q (.ref p) (upd H p (.lst ys))
theorem dp_paired {K : PySem.W.Frag} {M : Hp} : ∀ {xs : List V} {ds : List PyData}, DpAll K M xs ds → Paired (Dp K M) xs ds
  | _, _, .nil => .nil
  | _, _, .cons h t => .cons h (dp_paired t)
theorem paired_dp {K : PySem.W.Frag} {M : Hp} : ∀ {xs : List V} {ds : List PyData}, Paired (Dp K M) xs ds → DpAll K M xs ds
  | _, _, .nil => .nil
  | _, _, .cons h t => .cons h (paired_dp t)
section
variable {X : Cx}
theorem each_of {T : V → PyData → Prop} {xs : List V} {its : List Value} {ds : List PyData} (r : Vals xs its) (h : Paired T xs ds) : PySem.W.EachIs (fun v d => ∃ x, RelV x v ∧ T x d) its ds := by
  induction r generalizing ds with
  | nil =>
    cases h
    exact .nil
  | cons r _ ih =>
    cases h with
    | cons h t => exact .cons ⟨_, r, h⟩ (ih t)
theorem each_back {T : V → PyData → Prop} {out : List Value} {ds : List PyData} (e : PySem.W.EachIs (fun v d => ∃ x, RelV x v ∧ T x d) out ds) : ∃ ys, Vals ys out ∧ Paired T ys ds := by
  induction e with
  | nil => exact ⟨[], .nil, .nil⟩
  | cons h _ ih =>
    obtain ⟨x, r, h⟩ := h
    obtain ⟨ys, a, b⟩ := ih
    exact ⟨x :: ys, .cons r a, .cons h b⟩
theorem cr_sortedX (hu : X.A.units + 65 < cLine) : CallR X (.builtin "sorted") (rSortedX X.K) := by
  intro pins s σ H vs us Q I r h
  obtain ⟨T, a, xs, ds, rfl, sm, hs, ha, hal, hk, hd, q⟩ := h
  obtain ⟨its, rv, pl, hz⟩ := I.list hs
  rw [Vals.ref1 r]
  have e := each_of rv ha
  have er : PySem.W.EachIs (fun v d => ∃ as, Reads s.heap v (id d) as) its ds := e.mono fun v d ⟨x, rx, h⟩ => Dp.reads I d x v (sm x d h) rx
  have hlen : ds.length = its.length := by rw [← Paired.length ha]; exact rv.length
  refine PySem.W.sorted_data (enc := id) pl.isList e er (by rw [List.map_id]; exact hal) (by rw [List.map_id]; exact hk) (by rw [hlen, ← rv.length]; exact hz) (fun d h => ?_) fun out ho eo => ?_
  · have := hd d h
    show X.A.units + 2 + d.depth < cLine
    omega
  · obtain ⟨ys, k1, k2⟩ := each_back eo
    obtain ⟨ep, he'⟩ := PyProof.Rows.sortedAll_at s.heap its out.toArray
    exact ⟨.ref _, upd H (s.heap.objs.size + 1) (.lst ys), I.laid (t' := s.toks) (fun _ _ => PyProof.Rows.sortedAll_old) (Nat.le_succ _) ⟨by rw [k1.length, ho, hlen, ← rv.length]; exact hz, out, ep, k1, he'⟩, rfl, q ys _ (I.hok.fresh (Nat.le_succ _)) k2⟩
theorem kSorted {K : PySem.W.Frag} (hu : X.A.units + 65 < cLine) (h : X.K = K := by rfl) : CallR X (.builtin "sorted") (rSortedX K) := h ▸ cr_sortedX hu
end
/-- what sorted gives -/
def srt (ds : List PyData) : List PyData := ds.mergeSort (PySem.W.dataLe false id)
theorem srt_perm (ds : List PyData) : (srt ds).Perm ds := List.mergeSort_perm ..
section
variable {K : PySem.W.Frag} {C : Fx} {B : Hp} {σ : L2.St} {H M H' M' : Hp} {ρ : List Sl} {w : Own} {tp : List (V × PyData)} {R : VK} {v : V} {ds : List PyData} {p : Addr}
theorem x_sortO (j : Nat) (S : Ds K C B σ H M ρ w tp) (hj : w[j]? = some (p, .lst ds)) (h1 : PySem.W.AllAlike ds) (h2 : PySem.W.Sortable ds) (h3 : ∀ d ∈ ds, d.depth ≤ 60) (q : ∀ l H', Ds K C B σ H' M ρ ((l, .lst (srt ds)) :: w) tp → R (.ref l) H') : rSortedX K [.ref p] H R := by
  obtain ⟨_, vs, a, b⟩ := S.own _ (List.mem_of_getElem? hj)
  exact ⟨Dp K M, p, vs, ds, rfl, fun _ _ => Dp.same S.sub, .of a, dp_paired b, h1, h2, h3, fun ys l hl hy => q l _ (S.newL hl (paired_dp hy))⟩
theorem x_sortL (S : Ds K C B σ H M ρ w tp) (ht : Tm tp v (.list ds)) (h1 : PySem.W.AllAlike ds) (h2 : PySem.W.Sortable ds) (h3 : ∀ d ∈ ds, d.depth ≤ 60) (q : ∀ l H', Ds K C B σ H' M ρ ((l, .lst (srt ds)) :: w) tp → R (.ref l) H') : rSortedX K [v] H R := by
  obtain ⟨p, xs, rfl, a, b⟩ := dp_lst (ht.dp S)
  exact ⟨Dp K M, p, xs, ds, rfl, fun _ _ => Dp.same S.sub, S.sub.seq a, dp_paired b, h1, h2, h3, fun ys l hl hy => q l _ (S.newL hl (paired_dp hy))⟩
end
end Pf

namespace Pf
open PySem PySem.Spec PyProof.Rows L2
/-! tuples put together, lists repeated, items set, comprehensions over anything with any names, enumerate -/
section
variable {K : PySem.W.Frag} {C : Fx} {B : Hp} {σ : L2.St} {H M H' M' : Hp} {ρ ρ' : List Sl} {w w' : Own} {tp : List (V × PyData)} {Q R : VK} {D : Ends} {te : TE} {tt : TT} {tb : TS} {tl : TA} {g : TG} {v x y : V} {ds es : List PyData} {d d1 d2 d3 : PyData} {p q : Addr} {b : Bool} {k k1 k2 k3 : Nat} {vs : List Nat} {i : Int}
theorem h_catA (h : rCatA K x y H R) : rCatA K x y H R := h
theorem x_catT (S : Ds K C B σ H M ρ w tp) (h1 : Tm tp x (.tuple ds)) (h2 : Tm tp y (.tuple es)) (hl : ds.length + es.length ≤ sizeLine) (q : ∀ u H' M', Ds K C B σ H' M' ρ w ((u, .tuple (ds ++ es)) :: tp) → R u H') : rCatA K x y H R := by
  obtain ⟨p, xs, rfl, a1, a2⟩ := dp_tup (h1.dp S)
  obtain ⟨p', ys, rfl, b1, b2⟩ := dp_tup (h2.dp S)
  refine ⟨p, p', xs, ys, rfl, rfl, Same.seqT S.sub a1, Same.seqT S.sub b1, by rw [dpAll_len a2, dpAll_len b2]; exact hl, fun e => ?_, fun _ e => ?_, fun _ _ l hl => ?_⟩
  · subst e
    cases a2
    exact q _ H M (S.push (.tup b1 b2))
  · subst e
    cases b2
    rw [List.append_nil] at q
    exact q _ H M (S.push (.tup a1 a2))
  · exact q _ _ _ (S.newT hl (dpAll_cat a2 b2))
theorem dpAll_set : ∀ {us : List V} {ds : List PyData} (k : Nat), DpAll K M us ds → Dp K M v d → DpAll K M (us.set k v) (ds.set k d)
  | _, _, _, .nil, _ => .nil
  | _, _, 0, .cons _ t, h => .cons h t
  | _, _, k + 1, .cons a t, h => .cons a (dpAll_set k t h)
theorem x_setO {P : Hp → Prop} {k : Nat} (j : Nat) (S : Ds K C B σ H M ρ w tp) (hj : w[j]? = some (p, .lst ds)) (hk : ixN ds.length i = some k) (ht : Tm tp v d) (hw : SetAt w j (p, .lst (ds.set k d)) w') (q : ∀ H', Ds K C B σ H' M ρ w' tp → P H') : rSetL (.ref p) (.int i) v H P := by
  obtain ⟨_, us, h1, h2⟩ := S.own _ (List.mem_of_getElem? hj)
  refine ⟨p, us, i, k, rfl, rfl, h1, by rw [dpAll_len h2]; exact hk, q _ ?_⟩
  rw [hw.eq]
  exact S.mut (od' := .lst (ds.set k d)) hj ⟨_, upd_same, dpAll_set k h2 (ht.dp S)⟩
theorem dpAll_rep {us : List V} {ds : List PyData} (h : DpAll K M us ds) : ∀ n : Nat, DpAll K M (List.replicate n us).flatten (List.replicate n ds).flatten
  | 0 => .nil
  | n + 1 => by
    rw [List.replicate_succ, List.replicate_succ, List.flatten_cons, List.flatten_cons]
    exact dpAll_cat h (dpAll_rep h n)
theorem h_rep (h : rRep x y H R) : rRep x y H R := h
theorem x_repO (j : Nat) (S : Ds K C B σ H M ρ w tp) (hj : w[j]? = some (p, .lst ds)) (h0 : -(2 ^ 63) ≤ i) (h1 : i < 2 ^ 63) (hz : ds.length * i.toNat ≤ sizeLine) (q : ∀ l H', Ds K C B σ H' M ρ ((l, .lst (List.replicate i.toNat ds).flatten) :: w) tp → R (.ref l) H') : rRep (.ref p) (.int i) H R := by
  obtain ⟨_, us, h2, h3⟩ := S.own _ (List.mem_of_getElem? hj)
  exact ⟨p, i, us, rfl, rfl, h2, h0, h1, by rw [dpAll_len h3]; exact hz, fun l hl => q l _ (S.newL hl (dpAll_rep h3 _))⟩
theorem h_repT (h : rRepT K x y H R) : rRepT K x y H R := h
theorem x_repT (S : Ds K C B σ H M ρ w tp) (ht : Tm tp x (.tuple ds)) (hne : ds ≠ []) (h0 : 2 ≤ i) (h1 : i ≤ 1000) (hz : ds.length ≤ 1000) (q : ∀ l H' M', Ds K C B σ H' M' ρ w ((.ref l, .tuple (List.replicate i.toNat ds).flatten) :: tp) → R (.ref l) H') : rRepT K x (.int i) H R := by
  obtain ⟨p, xs, rfl, a1, a2⟩ := dp_tup (ht.dp S)
  exact ⟨p, i, xs, rfl, rfl, Same.seqT S.sub a1, (fun e => by subst e; cases a2; exact hne rfl), h0, h1, by rw [dpAll_len a2]; exact hz, fun l hl => q l _ _ (S.newT hl (dpAll_rep a2 _))⟩
theorem x_ifNoT {ds : List PyData} {A B : Prop} (h : B) : if isNo (.tuple ds) = true then A else B := by rw [if_neg (show ¬ isNo (.tuple ds) = true from fun z => nomatch z)]; exact h
theorem x_ifNoF {ds : List PyData} {A B : Prop} (h : A) : if (!isNo (.tuple ds)) = true then A else B := by rw [if_pos (show (!isNo (.tuple ds)) = true from rfl)]; exact h
/-! names of a block bound -/
theorem wipe_in1 {x : Option V} (m1 : k1 ∈ vs) : wipe ((wipe σ vs).set k1 x) vs = wipe σ vs := by
  rw [wipe_fold, wipe_fold, fold_set m1, fold_fold]
theorem wipe_in3 {x y z : Option V} (m1 : k1 ∈ vs) (m2 : k2 ∈ vs) (m3 : k3 ∈ vs) : wipe ((((wipe σ vs).set k1 x).set k2 y).set k3 z) vs = wipe σ vs := by
  rw [wipe_fold, wipe_fold, fold_set m3, fold_set m2, fold_set m1, fold_fold]
theorem rew_in1 {B : Hp} {x : V} {s : Sl} (m1 : k1 ∈ vs) : Rew K C B ((wipe σ vs).set k1 (some x)) ((uset vs ρ).set k1 s) (wipe σ vs) (uset vs ρ) := fun S => by
  have S1 := S.clr.wiped vs
  rw [wipe_fold, wipe_fold, fold_set m1, fold_fold, fold_set m1] at S1
  rw [wipe_fold]
  have : uset vs (uset vs ρ) = uset vs ρ := fold_fold
  exact this ▸ S1
theorem rew_in3 {B : Hp} {x y z : V} {s t u : Sl} (m1 : k1 ∈ vs) (m2 : k2 ∈ vs) (m3 : k3 ∈ vs) : Rew K C B ((((wipe σ vs).set k1 (some x)).set k2 (some y)).set k3 (some z)) ((((uset vs ρ).set k1 s).set k2 t).set k3 u) (wipe σ vs) (uset vs ρ) := fun S => by
  have S1 := S.clr.wiped vs
  rw [wipe_fold, wipe_fold, fold_set m3, fold_set m2, fold_set m1, fold_fold, fold_set m3, fold_set m2, fold_set m1] at S1
  rw [wipe_fold]
  have : uset vs (uset vs ρ) = uset vs ρ := fold_fold
  exact this ▸ S1
theorem x_b1 {Z : L2.St → Hp → Prop} (S : Ds K C B (wipe σ vs) H M (uset vs ρ) w ((x, d1) :: tp)) (m1 : k1 ∈ vs)
    (q : ∀ σ1, Rew K C B σ1 ((uset vs ρ).set k1 (.d d1)) (wipe σ vs) (uset vs ρ) → Ds K C B σ1 H M ((uset vs ρ).set k1 (.d d1)) w [] → Z σ1 H) : gName k1 x (wipe σ vs) H fun σ2 H2 => wipe σ2 vs = wipe σ vs ∧ Z σ2 H2 :=
  ⟨wipe_in1 m1, q _ (rew_in1 m1) (S.clr.set (s := .d d1) (S.tm (x, d1) (List.mem_cons_self ..)))⟩
theorem x_b2 {Z : L2.St → Hp → Prop} (S : Ds K C B (wipe σ vs) H M (uset vs ρ) w ((x, .tuple [d1, d2]) :: tp)) (m1 : k1 ∈ vs) (m2 : k2 ∈ vs)
    (q : ∀ σ1, Rew K C B σ1 (((uset vs ρ).set k1 (.d d1)).set k2 (.d d2)) (wipe σ vs) (uset vs ρ) → Ds K C B σ1 H M (((uset vs ρ).set k1 (.d d1)).set k2 (.d d2)) w [] → Z σ1 H) :
    gTup K 2 (gCons (gName k1) (gCons (gName k2) gNil)) x (wipe σ vs) H fun σ2 H2 => wipe σ2 vs = wipe σ vs ∧ Z σ2 H2 := by
  refine x_gT2 S (.m (List.mem_cons_self ..)) fun y z S2 => ?_
  have hy : Dp K M y d1 := S2.tm (y, d1) (List.mem_cons_self ..)
  have hz : Dp K M z d2 := S2.tm (z, d2) (List.mem_cons_of_mem _ (List.mem_cons_self ..))
  exact ⟨wipe2 m1 m2, q _ (rew2 m1 m2) ((S2.clr.set (i := k1) (v := y) (s := .d d1) hy).set (i := k2) (v := z) (s := .d d2) hz)⟩
theorem x_b3 {Z : L2.St → Hp → Prop} (S : Ds K C B (wipe σ vs) H M (uset vs ρ) w ((x, .tuple [d1, d2, d3]) :: tp)) (m1 : k1 ∈ vs) (m2 : k2 ∈ vs) (m3 : k3 ∈ vs)
    (q : ∀ σ1, Rew K C B σ1 ((((uset vs ρ).set k1 (.d d1)).set k2 (.d d2)).set k3 (.d d3)) (wipe σ vs) (uset vs ρ) → Ds K C B σ1 H M ((((uset vs ρ).set k1 (.d d1)).set k2 (.d d2)).set k3 (.d d3)) w [] → Z σ1 H) :
    gTup K 3 (gCons (gName k1) (gCons (gName k2) (gCons (gName k3) gNil))) x (wipe σ vs) H fun σ2 H2 => wipe σ2 vs = wipe σ vs ∧ Z σ2 H2 := by
  refine x_gT3 S (.m (List.mem_cons_self ..)) fun y z u S2 => ?_
  have hy : Dp K M y d1 := S2.tm (y, d1) (List.mem_cons_self ..)
  have hz : Dp K M z d2 := S2.tm (z, d2) (List.mem_cons_of_mem _ (List.mem_cons_self ..))
  have hu : Dp K M u d3 := S2.tm (u, d3) (List.mem_cons_of_mem _ (List.mem_cons_of_mem _ (List.mem_cons_self ..)))
  exact ⟨wipe_in3 m1 m2 m3, q _ (rew_in3 m1 m2 m3) (((S2.clr.set (i := k1) (v := y) (s := .d d1) hy).set (i := k2) (v := z) (s := .d d2) hz).set (i := k3) (v := u) (s := .d d3) hu)⟩
/-! comprehensions over tuples, lists, enumerate -/
abbrev LcStep (K : PySem.W.Frag) (C : Fx) (B : Hp) (I : Nat → List PyData → Own → Prop) (σ : L2.St) (ρ : List Sl) (g : TG) (tt : TT) (te : TE) (vs : List Nat) (D : Addr) (i : Nat) (u : V) (H : Hp) : Prop :=
  g u (wipe σ vs) H fun σ2 H2 => wipe σ2 vs = wipe σ vs ∧ tt σ2 H2 fun b H3 => if b = true then te σ2 H3 (LcA (LcN K C B I (wipe σ vs) (uset vs ρ) D (i + 1)) D) else LcN K C B I (wipe σ vs) (uset vs ρ) D (i + 1) H3
theorem x_wlcT (I : Nat → List PyData → Own → Prop) (S : Ds K C B σ H M ρ w tp) (ht : Tm tp v (.tuple ds)) (h0 : I 0 [] w)
    (hs : ∀ i d acc w1, ds[i]? = some d → I i acc w1 → ∀ D u H1 M1, Ds K C M (wipe σ vs) H1 M1 (uset vs ρ) ((D, .lst acc) :: w1) [(u, d)] → LcStep K C M I σ ρ g tt te vs D i u H1)
    (hd : ∀ acc w1, I ds.length acc w1 → ∀ D H1 M1, Ds K C B σ H1 M1 ρ ((D, .lst acc) :: w1) tp → Q (.ref D) H1) : ForT K (LcB g tt te vs Q σ) v H := by
  obtain ⟨p, xs, rfl, h1, h2⟩ := dp_tup (ht.dp S)
  refine ⟨p, rfl, ⟨xs, Same.seqT S.sub h1⟩, fun D hD => lc_tup (xs := xs) (LcN K C M I (wipe σ vs) (uset vs ρ) D) ?_ (fun i H1 _ q => ?_) (fun i x H1 hx q => ?_) (fun H1 q => ?_)⟩
  · exact ⟨M, [], w, h0, (S.base.clr.wiped vs).newL hD .nil⟩
  · obtain ⟨M1, acc, w1, _, S1⟩ := q
    exact Same.seqT (S1.bs.trans S1.sub) h1
  · obtain ⟨M1, acc, w1, q, S1⟩ := q
    have hi : i < ds.length := by rw [← dpAll_len h2]; exact (List.getElem?_eq_some_iff.mp hx).1
    have e := List.getElem?_eq_getElem hi
    exact hs i _ acc w1 e q D x H1 M1 (S1.push (Dp.same S1.bs (dpAll_at h2 i x _ hx e)))
  · obtain ⟨M1, acc, w1, q, S1⟩ := q
    exact hd acc w1 (dpAll_len h2 ▸ q) D H1 M1 (S.outof S1)
theorem x_wlcL (I : Nat → List PyData → Own → Prop) (S : Ds K C B σ H M ρ w tp) (ht : Tm tp v (.list ds)) (h0 : I 0 [] w)
    (hs : ∀ i d acc w1, ds[i]? = some d → I i acc w1 → ∀ D u H1 M1, Ds K C M (wipe σ vs) H1 M1 (uset vs ρ) ((D, .lst acc) :: w1) [(u, d)] → LcStep K C M I σ ρ g tt te vs D i u H1)
    (hd : ∀ acc w1, I ds.length acc w1 → ∀ D H1 M1, Ds K C B σ H1 M1 ρ ((D, .lst acc) :: w1) tp → Q (.ref D) H1) : ForL K (LcB g tt te vs Q σ) v H := by
  obtain ⟨p, xs, rfl, h1, h2⟩ := dp_lst (ht.dp S)
  refine ⟨p, rfl, ⟨xs, S.sub.seq h1⟩, fun D hD => lc_list (xs := xs) (LcN K C M I (wipe σ vs) (uset vs ρ) D) ?_ (fun i H1 _ q => ?_) (fun i x H1 hx q => ?_) (fun H1 q => ?_)⟩
  · exact ⟨M, [], w, h0, (S.base.clr.wiped vs).newL hD .nil⟩
  · obtain ⟨M1, acc, w1, _, S1⟩ := q
    exact (S1.bs.trans S1.sub).seq h1
  · obtain ⟨M1, acc, w1, q, S1⟩ := q
    have hi : i < ds.length := by rw [← dpAll_len h2]; exact (List.getElem?_eq_some_iff.mp hx).1
    have e := List.getElem?_eq_getElem hi
    exact hs i _ acc w1 e q D x H1 M1 (S1.push (Dp.same S1.bs (dpAll_at h2 i x _ hx e)))
  · obtain ⟨M1, acc, w1, q, S1⟩ := q
    exact hd acc w1 (dpAll_len h2 ▸ q) D H1 M1 (S.outof S1)
def ForE (K : PySem.W.Frag) (R : It → Hp → Prop) (us : List V) (H1 : Hp) : Prop := ∃ a xs, us = [.ref a] ∧ SqL K H1 a xs ∧ R (Ite K a) H1
theorem x_fE (h : tl σ H fun us H1 => ForE K (ForB g tb D σ) us H1) : tFor (iEnum K tl) g tb D σ H := h
theorem x_lcE (h : tl σ H fun us H1 => ForE K (LcB g tt te vs Q σ) us H1) : tLc (iEnum K tl) g tt te vs σ H Q := h
theorem x_wlcE (I : Nat → List PyData → Own → Prop) (S : Ds K C B σ H M ρ w tp) (ht : Tm tp v (.list ds)) (h0 : I 0 [] w)
    (hs : ∀ i d acc w1, ds[i]? = some d → I i acc w1 → ∀ D u H1 M1, Ds K C M (wipe σ vs) H1 M1 (uset vs ρ) ((D, .lst acc) :: w1) [(u, .tuple [.int (i : Nat), d])] → LcStep K C M I σ ρ g tt te vs D i u H1)
    (hd : ∀ acc w1, I ds.length acc w1 → ∀ D H1 M1, Ds K C B σ H1 M1 ρ ((D, .lst acc) :: w1) tp → Q (.ref D) H1) : ForE K (LcB g tt te vs Q σ) [v] H := by
  obtain ⟨p, xs, rfl, h1, h2⟩ := dp_lst (ht.dp S)
  refine ⟨p, xs, rfl, S.sub.seq h1, fun D hD => lc_it (walk_enum (K := K) (a := p) (xs := xs)) (LcN K C M I (wipe σ vs) (uset vs ρ) D) ?_ (fun i H1 _ q => ?_) (fun i x H1 H2 hx q y => ?_) (fun H1 q => ?_)⟩
  · exact ⟨M, [], w, h0, (S.base.clr.wiped vs).newL hD .nil⟩
  · obtain ⟨M1, acc, w1, _, S1⟩ := q
    exact (S1.bs.trans S1.sub).seq h1
  · obtain ⟨M1, acc, w1, q, S1⟩ := q
    obtain ⟨T, x1, x2, rfl, hT, rfl, e1, e2⟩ := y
    cases e1
    have hi : i < ds.length := by rw [← dpAll_len h2]; exact hx
    have e := List.getElem?_eq_getElem hi
    exact hs i _ acc w1 e q D _ _ _ (S1.newT hT (.cons (.int _) (.cons (Dp.same S1.bs (dpAll_at h2 i x2 _ e2 e)) .nil)))
  · obtain ⟨M1, acc, w1, q, S1⟩ := q
    exact hd acc w1 (dpAll_len h2 ▸ q) D H1 M1 (S.outof S1)
theorem x_forE (I : Nat → List Sl → Own → Prop) (S : Ds K C B σ H M ρ w tp) (ht : Tm tp v (.list ds)) (h0 : I 0 ρ w)
    (hs : ∀ i d ρ1 w1, ds[i]? = some d → I i ρ1 w1 → ∀ u σ1 H1 M1, Ds K C M σ1 H1 M1 ρ1 w1 [(u, .tuple [.int (i : Nat), d])] → g u σ1 H1 fun σ2 H2 => tb { D with nx := Nx K C M I (i + 1), ct := Nx K C M I (i + 1), bk := D.nx } σ2 H2)
    (hd : ∀ ρ1 w1, I ds.length ρ1 w1 → ∀ σ1 H1 M1, Ds K C B σ1 H1 M1 ρ1 w1 [] → D.nx σ1 H1) : ForE K (ForB g tb D σ) [v] H := by
  obtain ⟨p, xs, rfl, h1, h2⟩ := dp_lst (ht.dp S)
  refine ⟨p, xs, rfl, S.sub.seq h1, for_it (walk_enum (K := K) (a := p) (xs := xs)) (Nx K C M I) ⟨M, ρ, w, h0, S.base.clr⟩ (fun i σ1 H1 _ q => ?_) (fun i x σ1 H1 H2 hx q y => ?_) (fun σ1 H1 q => ?_)⟩
  · obtain ⟨M1, ρ1, w1, _, S1⟩ := q
    exact (S1.bs.trans S1.sub).seq h1
  · obtain ⟨M1, ρ1, w1, q, S1⟩ := q
    obtain ⟨T, x1, x2, rfl, hT, rfl, e1, e2⟩ := y
    cases e1
    have hi : i < ds.length := by rw [← dpAll_len h2]; exact hx
    have e := List.getElem?_eq_getElem hi
    exact hs i _ ρ1 w1 e q _ σ1 _ _ (S1.newT hT (.cons (.int _) (.cons (Dp.same S1.bs (dpAll_at h2 i x2 _ e2 e)) .nil)))
  · obtain ⟨M1, ρ1, w1, q, S1⟩ := q
    exact hd ρ1 w1 (dpAll_len h2 ▸ q) σ1 H1 M1 (S1.base' S.bs)
end
section
variable {X : Cx} {K : PySem.W.Frag} {tg e : Expr}
theorem kRepT (h : X.K = K := by rfl) : OpR X (binaryOp .Mult) (rRepT K) := h ▸ op_repT
theorem kIE {tl : TA} (p : PI X tg e (iEnum X.K tl)) (h : X.K = K := by rfl) : PI X tg e (iEnum K tl) := h ▸ p
end
end Pf

namespace Pf
open PySem PySem.Spec PyProof.Rows L2 HT
/-! t[::-1] of a tuple -/
section
variable {prog : Program} {w : World} {A : Around} {E : Value → Shared → Prop} {s : Shared}
theorem adjust_rev (n : Nat) : Builtin.Slice.sliceAdjust none none (-1) (n : Int) = ((n : Int) - 1, -1) := by
  unfold Builtin.Slice.sliceAdjust
  rfl
theorem places_rev (n : Nat) : Builtin.Slice.slicePlaces ((n : Int) - 1) (-1) (-1) = n := by
  unfold Builtin.Slice.slicePlaces
  have h1 : ¬ ((-1 : Int) > 0) := by omega
  simp only [h1, if_false]
  split
  · rw [show (- -1 : Int) = 1 by decide, Int.ediv_one]
    omega
  · omega
theorem sliceApplied_rev {sl : Addr} {vl vu vs : Value} {n : Nat} {Q : Int × Int × Nat → Shared → Prop} (hs : s.heap.IsSliceOf sl vl vu vs) (pl : IsPart vl none) (pu : IsPart vu none) (ps : IsPart vs (some (-1)))
    (h : Q ((n : Int) - 1, -1, n) s) : wpAny (model prog w) A (Builtin.Slice.sliceApplied (.ref sl) (pure (n : Int))) Q E s := by
  obtain ⟨os, hos, hcs, hds⟩ := id hs
  unfold Builtin.Slice.sliceApplied Builtin.Slice.sliceFields
  refine wpAny_bind (wpAny_bind (wpAny_field hos hds (x := vl) rfl (wpAny_bind (wpAny_field hos hds (x := vu) rfl (wpAny_bind (wpAny_field hos hds (x := vs) rfl (wpAny_pure ?_)))))))
  refine wpAny_bind (slicePart_ ps ?_)
  show wpAny _ _ (if ((-1 : Int) == 0) = true then _ else _) _ _ s
  rw [if_neg (by decide)]
  refine wpAny_bind (slicePart_ pl (wpAny_bind (slicePart_ pu (wpAny_bind (wpAny_pure ?_)))))
  show wpAny _ _ (match Builtin.Slice.sliceAdjust none none (-1) (n : Int) with | (lo, hi) => pure (lo, (-1 : Int), Builtin.Slice.slicePlaces lo hi (-1))) _ _ s
  rw [adjust_rev n]
  show wpAny _ _ (pure ((n : Int) - 1, (-1 : Int), Builtin.Slice.slicePlaces ((n : Int) - 1) (-1) (-1))) _ _ s
  rw [places_rev]
  exact wpAny_pure h
theorem fm_congr {α β : Type} {f g : α → Option β} : ∀ {l : List α}, (∀ x ∈ l, f x = g x) → l.filterMap f = l.filterMap g
  | [], _ => rfl
  | x :: l, h => by
    rw [List.filterMap_cons, List.filterMap_cons, h x (List.mem_cons_self ..), fm_congr fun y hy => h y (List.mem_cons_of_mem _ hy)]
theorem pick_rev (xs : Array Value) : ((List.range xs.size).filterMap fun (m : Nat) => xs[((xs.size : Int) - 1 + (m : Int) * -1).toNat]?).toArray = xs.toList.reverse.toArray := by
  have e : (List.range xs.size).filterMap (fun (m : Nat) => xs[((xs.size : Int) - 1 + (m : Int) * -1).toNat]?) = ((List.range xs.size).map fun k => xs.size - 1 - k).filterMap (xs[·]?) := by
    rw [List.filterMap_map]
    refine fm_congr fun m hm => ?_
    have := List.mem_range.mp hm
    have e2 : ((xs.size : Int) - 1 + (m : Int) * -1).toNat = xs.size - 1 - m := by omega
    rw [e2]
    rfl
  rw [e, PySem.W.krv_range, List.filterMap_reverse, PySem.W.krv_all]
theorem getItem_tuple_rev {t sl : Addr} {items : Array Value} {vl vu vs : Value} {Q : Value → Shared → Prop} (ht : IsTup s.heap t items) (hs : s.heap.IsSliceOf sl vl vu vs) (pl : IsPart vl none) (pu : IsPart vu none) (ps : IsPart vs (some (-1)))
    (h : Q (.ref s.heap.objs.size) { s with heap := s.heap.push { cls := .type "tuple", data := .seq items.toList.reverse.toArray } })
    (hsz : items.size ≤ sizeLine) : wpAny (model prog w) A (getItem (.ref t) (.ref sl)) Q E s := by
  have htake : sizeOk (.seq items.toList.reverse.toArray) := by
    show items.toList.reverse.toArray.size ≤ sizeLine
    rw [List.size_toArray, List.length_reverse, Array.length_toList]
    exact hsz
  obtain ⟨os, hos, hcs, hds⟩ := id hs
  have hTs : s.TypeIs (.ref sl) "slice" := ⟨os, hos, hcs⟩
  unfold getItem
  try with_reducible refine wpAny_holding ?_
  first | refine wpAny_bind (wpAny_pure ?_) | skip
  refine wpAny_bind (wpAny_sequenceKey ht.typeIs (by decide) ?_)
  refine wpAny_bind (wpAny_callSpecial?_slot (name := Str.ofString "__getitem__") ht.typeIs PyProof.Rows.slot_tuple_getitem
    (wpAny_call_entry PyProof.Rows.slot_tuple_getitem ht.typeIs entry_tuple_getitem ?_ (args_tuple_getitem _ _)))
  show wpAny _ _ (Builtin.Tuple.tupleItemsOf (.ref t) >>= _) _ _ s
  refine wpAny_bind (tupleItemsOf_ ht ?_)
  refine wpAny_bind (wpAny_typeOf hTs ?_)
  rw [if_pos (by decide)]
  refine wpAny_bind (sliceApplied_rev hs pl pu ps ?_)
  have hno : ¬ ((((items.size : Int) - 1) == 0 && (-1 : Int) == 1 && items.size == items.size) = true) := by
    intro q
    rw [Bool.and_eq_true, Bool.and_eq_true] at q
    exact absurd q.1.2 (by decide)
  show wpAny _ _ (if (((items.size : Int) - 1) == 0 && (-1 : Int) == 1 && items.size == items.size) = true then _ else _) _ _ s
  rw [if_neg hno, pick_rev]
  first
    | exact wpAny_bind (m := Builtin.Tuple.tupleExact _) (wpAny_newObj_type (wpAny_pure ⟨_, rfl, wpAny_pure h⟩) htake)
    | exact wpAny_bind (m := Builtin.Tuple.tupleExact _) (wpAny_newObj_type (wpAny_bind (wpAny_pure (wpAny_pure ⟨_, rfl, wpAny_pure h⟩))) htake)
    | exact wpAny_bind (wpAny_bind (m := Builtin.Tuple.tupleExact _) (wpAny_newObj_type (wpAny_pure (wpAny_pure ⟨_, rfl, wpAny_pure h⟩)) htake))
    | exact wpAny_bind (wpAny_bind (m := Builtin.Tuple.tupleExact _) (wpAny_newObj_type (wpAny_pure ⟨_, rfl, wpAny_pure h⟩) htake))
end
section
variable {X : Cx}
def rRevT (K : PySem.W.Frag) (Q : VK) (x : V) (H1 : Hp) : Prop := ∃ a xs, x = .ref a ∧ SqT K H1 a xs ∧ ∀ p, H1 p = none → Q (.ref p) (upd H1 p (.tup xs.reverse))
def tRevT (K : PySem.W.Frag) (te : TE) : TE := fun σ H Q => te σ H fun x H1 => rRevT K Q x H1
theorem pe_revT {e : Expr} {te : TE} {K : PySem.W.Frag} {k : Nat} {p1 p2 p3 pos : Pos} (he : PE X e te) (hK : X.K = K := by rfl) : PE X (.Subscript e (.Slice none none (some (.UnaryOp .USub (.Constant (.int 1) k p1) p2)) p3) pos) (tRevT K te) := by
  subst hK
  refine ⟨fun pins s σ H Q I h => ?_⟩
  refine Subscript_ (thn (he.run pins s σ H _ I h) fun v s1 ⟨x, H1, I1, r1, q1⟩ => ?_)
  obtain ⟨a, xs, ex, hx, q⟩ := q1
  subst ex
  cases r1
  have hst : PO X (some (.UnaryOp .USub (.Constant (.int 1) k p1) p2)) (tPart (tUn (rU fun i => .int (-i)) (tC (.int 1)))) := po_some (pe_un un_neg pe_int)
  refine wpAny_Slice (thn (po_none.run pins s1 σ H1 (fun o H2 => o = none ∧ H2 = H1) I1 ⟨rfl, rfl⟩) fun vl s2 ⟨l, H2, I2, pl, el, e2⟩ => ?_)
  subst el e2
  refine thn (po_none.run pins s2 σ H2 (fun o H3 => o = none ∧ H3 = H2) I2 ⟨rfl, rfl⟩) fun vu s3 ⟨u, H3, I3, pu, eu, e3⟩ => ?_
  subst eu e3
  refine thn (hst.run pins s3 σ H3 (fun o H4 => o = some (-1) ∧ H4 = H3) I3 ⟨1, rfl, -1, rfl, rfl, rfl⟩) fun vs s4 ⟨o, H4, I4, ps, eo, e4⟩ => ?_
  subst eo e4
  have I5 : Inv X pins σ H4 { s4 with heap := s4.heap.push { cls := .type "slice", data := .fields #[vl, vu, vs] } } := I4.kept (t' := s4.toks) fun b ob q => Heap.get?_push_of_some _ q
  obtain ⟨its, r, ht, hz⟩ := I5.tuple hx
  have hlen := r.length
  show wpAny (model X.prog X.w) X.A (subscriptTail e (.Slice none none (some (.UnaryOp .USub (.Constant (.int 1) k p1) p2)) p3) (.ref a) (.ref s4.heap.objs.size)) (EP X pins σ Q) X.xe { s4 with heap := s4.heap.push { cls := .type "slice", data := .fields #[vl, vu, vs] } }
  refine tail_any (ops := [.ref a, .ref s4.heap.objs.size]) ht.typeIs (PyProof.Rows.slot_tuple_getitem.lookup) ?_ (by with_unfolding_all rfl)
  refine getItem_tuple_rev ht (Heap.IsSliceOf.new _ vl vu vs) pl pu ps ?_ (by rw [List.size_toArray]; omega)
  refine ⟨.ref _, _, I5.laid (t' := s4.toks) (o := .tup xs.reverse) (fun b ob q => Heap.get?_push_of_some _ q) (Nat.le_refl _) ?_, rfl, q _ (I5.hok.fresh (Nat.le_refl _))⟩
  exact ⟨by rw [List.length_reverse]; exact hz, _, r.reverse, IsTup.new _ _⟩
end
section
variable {K : PySem.W.Frag} {C : Fx} {B : Hp} {σ : L2.St} {H M : Hp} {ρ : List Sl} {w : Own} {tp : List (V × PyData)} {Q : VK} {te : TE} {v : V} {ds es : List PyData}
theorem dpAll_rev {vs : List V} {ds : List PyData} (h : DpAll K M vs ds) : DpAll K M vs.reverse ds.reverse := by
  induction vs generalizing ds with
  | nil =>
    cases h
    exact .nil
  | cons v vs ih =>
    cases h with
    | cons a t =>
      rw [List.reverse_cons, List.reverse_cons]
      exact dpAll_app (ih t) (.cons a .nil)
theorem x_revT (h : te σ H fun x H1 => rRevT K Q x H1) : tRevT K te σ H Q := h
theorem h_revT (h : rRevT K Q v H) : rRevT K Q v H := h
theorem x_revK (S : Ds K C B σ H M ρ w tp) (ht : Tm tp v (.tuple ds)) (q : ∀ p H' M', Ds K C B σ H' M' ρ w ((.ref p, .tuple ds.reverse) :: tp) → Q (.ref p) H') : rRevT K Q v H := by
  obtain ⟨p, xs, rfl, h1, h2⟩ := dp_tup (ht.dp S)
  exact ⟨p, xs, rfl, Same.seqT S.sub h1, fun l hl => q l _ _ (S.newT hl (dpAll_rev h2))⟩
end
end Pf

namespace Pf
open PySem PySem.Spec PyProof.Rows L2
/-! list(range(n)), tuple(range(n)) -/
/-- 0 .. n - 1 -/
def rng (n : Nat) : List Int := (List.range n).map fun (i : Nat) => (i : Int)
theorem rng_len {n : Nat} : (rng n).length = n := by unfold rng; rw [List.length_map, List.length_range]
theorem rng_mem {n : Nat} {i : Int} : i ∈ rng n ↔ 0 ≤ i ∧ i < n := by
  unfold rng
  rw [List.mem_map]
  constructor
  · rintro ⟨j, h, rfl⟩
    have := List.mem_range.mp h
    omega
  · rintro ⟨h0, h1⟩
    exact ⟨i.toNat, List.mem_range.mpr (by omega), by omega⟩
theorem rng_at {n k : Nat} (h : k < n) : (rng n)[k]? = some (k : Int) := by
  unfold rng
  rw [List.getElem?_map, List.getElem?_range h]
  rfl
theorem rng_at' {n k : Nat} {i : Int} (h : (rng n)[k]? = some i) : k < n ∧ i = (k : Int) := by
  have h1 := (List.getElem?_eq_some_iff.mp h).1
  rw [rng_len] at h1
  rw [rng_at h1] at h
  exact ⟨h1, (Option.some.inj h).symm⟩
theorem rng_succ {n : Nat} : rng (n + 1) = rng n ++ [(n : Int)] := by
  unfold rng
  rw [List.range_succ, List.map_append]
  rfl
theorem rng_sorted {n : Nat} : (rng n).Pairwise (· < ·) := by
  unfold rng
  rw [List.pairwise_map]
  exact (List.pairwise_lt_range).imp fun h => by omega
def LrK (Q : VK) (a b : Int) (H : Hp) : Prop := RgOk a b ∧ ∀ q, H q = none → Q (.ref q) (upd H q (.lst (rgV a b)))
def TrK (Q : VK) (a b : Int) (H : Hp) : Prop := RgOk a b ∧ ∀ q, H q = none → Q (.ref q) (upd H q (.tup (rgV a b)))
def R1K (R : Int → Int → Hp → Prop) (x : V) (H : Hp) : Prop := ∃ n, x = .int n ∧ R 0 n H
def R2K (R : Int → Int → Hp → Prop) (x y : V) (H : Hp) : Prop := ∃ i j, x = .int i ∧ y = .int j ∧ R i j H
section
variable {K : PySem.W.Frag} {C : Fx} {B : Hp} {σ : L2.St} {H M : Hp} {ρ : List Sl} {w : Own} {tp : List (V × PyData)} {Q : VK} {te ta : TE} {n m : Int} {R : Int → Int → Hp → Prop} {t : L2.St → Hp → (Int → Int → Hp → Prop) → Prop}
theorem x_lrg (h : t σ H fun a b H1 => LrK Q a b H1) : tLstRg t σ H Q := h
theorem x_trg (h : t σ H fun a b H1 => TrK Q a b H1) : tTupRg t σ H Q := h
theorem x_rg1 (h : te σ H fun x H1 => R1K R x H1) : tRg1 te σ H R := h
theorem x_rg2 (h : te σ H fun x H1 => ta σ H1 fun y H2 => R2K R x y H2) : tRg2 te ta σ H R := h
theorem x_r1K (h : R 0 n H) : R1K R (.int n) H := ⟨n, rfl, h⟩
theorem x_r2K (h : R n m H) : R2K R (.int n) (.int m) H := ⟨n, m, rfl, rfl, h⟩
theorem dp_rg (n : Int) : DpAll K M (rgV 0 n) ((rng n.toNat).map .int) := by
  unfold rgV rng
  rw [Int.sub_zero, List.map_map]
  generalize n.toNat = k
  induction k with
  | zero => exact .nil
  | succ k ih =>
    rw [List.range_succ, List.map_append, List.map_append]
    refine dpAll_cat ih (.cons ?_ .nil)
    show Dp K M (V.int (0 + (k : Int))) (PyData.int (k : Int))
    rw [Int.zero_add]
    exact .int _
theorem h_lrK {a b : Int} (h : LrK Q a b H) : LrK Q a b H := h
theorem x_lrK (S : Ds K C B σ H M ρ w tp) (h0 : 0 ≤ n) (h1 : n ≤ 16777216) (q : ∀ p H', Ds K C B σ H' M ρ ((p, .lst ((rng n.toNat).map .int)) :: w) tp → Q (.ref p) H') : LrK Q 0 n H :=
  ⟨.of_le (by decide) h1 (by decide) h0, fun l hl => q l _ (S.newL hl (dp_rg n))⟩
theorem x_trK (S : Ds K C B σ H M ρ w tp) (h0 : 0 ≤ n) (h1 : n ≤ 16777216) (q : ∀ p H' M', Ds K C B σ H' M' ρ w ((.ref p, .tuple ((rng n.toNat).map .int)) :: tp) → Q (.ref p) H') : TrK Q 0 n H :=
  ⟨.of_le (by decide) h1 (by decide) h0, fun l hl => q l _ _ (S.newT hl (dp_rg n))⟩
end
end Pf

namespace Pf
open PySem PySem.Spec PyProof.Rows L2
/-! tuples that are keys, dicts with such keys, instances, calls that change several own things -/
def tTupR (tl : TA) : TE := tTup tl
def TupKR (Q : VK) (xs : List V) (H1 : Hp) : Prop := TupK Q xs H1
theorem pe_tupR {X : Cx} {es : List Expr} {t : TA} {x1 : Nat} {pos : Pos} (h : PA X es t) : PE X (.Tuple es x1 pos) (tTupR t) := pe_tup h
/-! dicts by any keys -/
section
variable {κ : Type} [DecidableEq κ]
def valG (kvs : List (κ × PyData)) (k : κ) : Option PyData := (kvs.find? fun kv => decide (kv.1 = k)).map (·.2)
def putG (kvs : List (κ × PyData)) (k : κ) (d : PyData) : List (κ × PyData) :=
  if (kvs.any fun kv => decide (kv.1 = k)) = true then kvs.map (fun kv => if kv.1 = k then (kv.1, d) else kv) else kvs ++ [(k, d)]
theorem valG_nil {k : κ} : valG ([] : List (κ × PyData)) k = none := rfl
theorem valG_cons {p : κ × PyData} {r : List (κ × PyData)} {k : κ} : valG (p :: r) k = if p.1 = k then some p.2 else valG r k := by
  unfold valG
  rw [List.find?_cons]
  by_cases h : p.1 = k
  · simp [h]
  · simp [h]
theorem valG_any (k : κ) : ∀ kvs : List (κ × PyData), (kvs.any fun kv => decide (kv.1 = k)) = (valG kvs k).isSome
  | [] => rfl
  | p :: r => by
    rw [List.any_cons, valG_any k r, valG_cons]
    by_cases h : p.1 = k
    · simp [h]
    · simp [h]
theorem putG_new {kvs : List (κ × PyData)} {k : κ} {d : PyData} (h : valG kvs k = none) : putG kvs k d = kvs ++ [(k, d)] := by
  unfold putG
  rw [valG_any, h]
  rfl
theorem valG_app {kvs ls : List (κ × PyData)} {k : κ} : valG (kvs ++ ls) k = (valG kvs k).or (valG ls k) := by
  induction kvs with
  | nil => rfl
  | cons p r ih =>
    rw [List.cons_append, valG_cons, valG_cons, ih]
    by_cases h : p.1 = k
    · simp [h]
    · simp [h]
theorem valG_map {kvs : List (κ × PyData)} {k k' : κ} {d : PyData} : valG (kvs.map fun kv => if kv.1 = k then (kv.1, d) else kv) k' = if k' = k then (valG kvs k').map fun _ => d else valG kvs k' := by
  induction kvs with
  | nil => rw [List.map_nil, valG_nil]; split <;> rfl
  | cons p r ih =>
    rw [List.map_cons, valG_cons, valG_cons, ih]
    by_cases e : p.1 = k
    · rw [if_pos e]
      by_cases e2 : k' = k
      · have e3 : p.1 = k' := e.trans e2.symm
        rw [if_pos e3, if_pos e2, if_pos e3]
        rfl
      · have e3 : ¬ p.1 = k' := fun z => e2 (z.symm.trans e)
        rw [if_neg e3, if_neg e2, if_neg e2, if_neg e3]
    · rw [if_neg e]
      by_cases e2 : k' = k
      · have e3 : ¬ p.1 = k' := fun z => e (z.trans e2)
        rw [if_neg e3, if_pos e2, if_pos e2, if_neg e3]
      · rw [if_neg e2, if_neg e2]
theorem valG_put {kvs : List (κ × PyData)} {k k' : κ} {d : PyData} : valG (putG kvs k d) k' = if k' = k then some d else valG kvs k' := by
  unfold putG
  rw [valG_any]
  cases h : valG kvs k with
  | some x =>
    rw [if_pos (show (some x).isSome = true from rfl), valG_map]
    by_cases e : k' = k
    · rw [if_pos e, if_pos e, e, h]
      rfl
    · rw [if_neg e, if_neg e]
  | none =>
    rw [if_neg (show ¬ (none : Option PyData).isSome = true from fun z => nomatch z), valG_app, valG_cons, valG_nil]
    by_cases e : k' = k
    · rw [if_pos e, e, h, if_pos rfl]
      rfl
    · rw [if_neg e, if_neg fun z => e z.symm]
      cases valG kvs k' <;> rfl
theorem putG_len {kvs : List (κ × PyData)} {k : κ} {d : PyData} : (putG kvs k d).length ≤ kvs.length + 1 := by
  unfold putG
  split
  · rw [List.length_map]
    omega
  · rw [List.length_append]
    exact Nat.le_refl _
theorem valG_one {k k' : κ} {d : PyData} : valG [(k, d)] k' = if k = k' then some d else none := by
  rw [valG_cons, valG_nil]
end
def keyD : Key → PyData
  | .inl i => .int i
  | .inr s => .str s
section
variable {K : PySem.W.Frag} {C : Fx} {B : Hp} {σ : L2.St} {H M H' M' : Hp} {ρ ρ' : List Sl} {w w' : Own} {tp : List (V × PyData)} {Q R : VK} {E : XK} {D : Ends} {te td ty tv : TE} {tl : TA} {v x y : V} {d : PyData} {ds : List PyData} {p b : Addr} {kvs : List (List Key × PyData)} {ks : List Key} {ws : List (List Key × V)} {i : Nat}
theorem x_tupR (h : tl σ H fun xs H1 => TupKR Q xs H1) : tTupR tl σ H Q := h
theorem h_tupR {xs : List V} (h : TupKR Q xs H) : TupKR Q xs H := h
theorem x_tupRK {us : List V} (S : Ds K C B σ H M ρ w tp) (ht : TmAll tp us ds) (hl : decide (us.length ≤ 1000) = true) (q : ∀ p H' M', TupM K M' (.ref p) (.tuple ds) → Ds K C B σ H' M' ρ w ((.ref p, .tuple ds) :: tp) → Q (.ref p) H') : TupKR Q us H :=
  ⟨Nat.le_trans (of_decide_eq_true hl) (by decide), fun p hp => q p _ _ ⟨p, us, ds, rfl, rfl, upd_same, DpAll.same (Same.new _ (S.sub.free hp)) (ht.dp S)⟩ (S.newT hp (ht.dp S))⟩
theorem x_gnT {q : L2.St → Hp → Prop} (S : Ds K C B σ H M ρ w tp) (ht : TupM K M v d) (hs : SetAt ρ i (.t d) ρ') (h : ∀ σ', Ds K C B σ' H M ρ' w tp → q σ' H) : gName i v σ H q :=
  h _ (hs.eq ▸ S.set (s := .t d) ht)
theorem x_varT (S : Ds K C B σ H M ρ w tp) (h : ρ[i]? = some (.t d)) (q : ∀ a, TupM K M (.ref a) d → Ds K C B σ H M ρ w ((.ref a, d) :: tp) → R (.ref a) H) : tVar i σ H R := by
  obtain ⟨v, h1, h2⟩ := S.get h (fun z => nomatch z)
  have h3 : TupM K M v d := h2
  obtain ⟨a, xs, es, rfl, _⟩ := id h3
  exact ⟨_, h1, q a h3 (S.push h3.dp)⟩
theorem dpAll_keys : ∀ {ks : List Key} {us : List V}, DpAll K M us (ks.map keyD) → us = ks.map kV
  | [], _, .nil => rfl
  | .inl i :: ks, _, .cons h t => by
    cases h
    rw [dpAll_keys t]
    rfl
  | .inr i :: ks, _, .cons h t => by
    cases h
    rw [dpAll_keys t]
    rfl
theorem TupM.key (h : TupM K M (.ref b) (.tuple (ks.map keyD))) (e : Same M H) : H b = some (.tup (ks.map kV)) := by
  obtain ⟨b', xs, es, e1, e2, h3, h4⟩ := h
  cases e1
  cases e2
  rw [dpAll_keys h4] at h3
  exact e _ _ h3
abbrev PT (K : PySem.W.Frag) (M : Hp) : List Key × V → List Key × PyData → Prop := fun p q => p.1 = q.1 ∧ Dp K M p.2 q.2
theorem ptk_val : ∀ {ws : List (List Key × V)} {kvs : List (List Key × PyData)}, Paired (PT K M) ws kvs → ∀ k : List Key, (valV ws k = none ∧ valG kvs k = none) ∨ ∃ v d, valV ws k = some v ∧ valG kvs k = some d ∧ Dp K M v d
  | _, _, .nil, k => .inl ⟨rfl, rfl⟩
  | a :: _, b :: _, .cons h t, k => by
    obtain ⟨e, hd⟩ := h
    by_cases q : b.1 = k
    · exact .inr ⟨a.2, b.2, valV_pos (e.trans q), by rw [valG_cons, if_pos q], hd⟩
    · rw [valV_neg (fun z => q (e.symm.trans z)), valG_cons, if_neg q]
      exact ptk_val t k
theorem ptk_map (hd : Dp K M v d) : ∀ {ws : List (List Key × V)} {kvs : List (List Key × PyData)}, Paired (PT K M) ws kvs → Paired (PT K M) (ws.map (fun kv => if kv.1 = ks then (kv.1, v) else kv)) (kvs.map (fun kv => if kv.1 = ks then (kv.1, d) else kv))
  | _, _, .nil => .nil
  | a :: _, b :: _, .cons h t => by
    refine .cons ?_ (ptk_map hd t)
    obtain ⟨e, hd2⟩ := h
    show PT K M (if a.1 = ks then (a.1, v) else a) (if b.1 = ks then (b.1, d) else b)
    by_cases q : b.1 = ks
    · rw [if_pos q, if_pos (e.trans q)]
      exact ⟨e, hd⟩
    · rw [if_neg q, if_neg fun z => q (e.symm.trans z)]
      exact ⟨e, hd2⟩
theorem ptk_len (h : Paired (PT K M) ws kvs) : ws.length = kvs.length := by
  induction h with
  | nil => rfl
  | cons _ _ ih => exact congrArg Nat.succ ih
theorem ptk_put (h : Paired (PT K M) ws kvs) (hd : Dp K M v d) : Paired (PT K M) (putK ws ks v) (putG kvs ks d) := by
  have he : (ws.any fun kv => decide (kv.1 = ks)) = kvs.any fun kv => decide (kv.1 = ks) := by
    rw [valV_any, valG_any]
    rcases ptk_val h ks with ⟨a, b⟩ | ⟨_, _, a, b, _⟩
    · rw [a, b]
      rfl
    · rw [a, b]
      rfl
  unfold putK putG
  rw [he]
  split
  · exact ptk_map hd h
  · exact h.snoc ⟨rfl, hd⟩
theorem x_dnewT (q : ∀ p H', Ds K C B σ H' M ρ ((p, .dt []) :: w) tp → Q (.ref p) H') (S : Ds K C B σ H M ρ w tp) : tDNewT σ H Q := fun p hp => q p _ (S.newO hp ⟨[], upd_same, .nil⟩)
theorem x_dtg (j : Nat) (S : Ds K C B σ H M ρ w tp) (hj : w[j]? = some (p, .dt kvs)) (hb : TupM K M (.ref b) (.tuple (ks.map keyD))) (hv : valG kvs ks = some d) (q : Giv K M H Q d) : DgK Q (.ref p) (.ref b) H := by
  obtain ⟨_, ws, h1, h2⟩ := S.own _ (List.mem_of_getElem? hj)
  rcases ptk_val h2 ks with ⟨_, b⟩ | ⟨v, d', a, b, c⟩
  · rw [b] at hv
    cases hv
  · rw [b] at hv
    cases hv
    exact ⟨p, v, rfl, a ▸ DGet.t h1 (hb.key S.sub), q v c⟩
theorem x_dtn (j : Nat) (S : Ds K C B σ H M ρ w tp) (hj : w[j]? = some (p, .dt kvs)) (hb : TupM K M (.ref b) (.tuple (ks.map keyD))) (q : Q (.bl (!(valG kvs ks).isSome)) H) : DnK Q (.ref p) (.ref b) H := by
  obtain ⟨_, ws, h1, h2⟩ := S.own _ (List.mem_of_getElem? hj)
  have e : (valV ws ks).isSome = (valG kvs ks).isSome := by
    rcases ptk_val h2 ks with ⟨a, b⟩ | ⟨v, d', a, b, c⟩
    · rw [a, b]
      rfl
    · rw [a, b]
      rfl
  exact ⟨p, _, rfl, DGet.t h1 (hb.key S.sub), by rw [e]; exact q⟩
theorem x_dts (j : Nat) (S : Ds K C B σ H M ρ w tp) (hj : w[j]? = some (p, .dt kvs)) (hb : TupM K M (.ref b) (.tuple (ks.map keyD))) (ht : Tm tp v d) (hl : kvs.length < sizeLine) (hw : SetAt w j (p, .dt (putG kvs ks d)) w') (q : ∀ H', Ds K C B σ H' M ρ w' tp → D.nx σ H') : DsK D σ (.ref p) (.ref b) v H := by
  obtain ⟨_, ws, h1, h2⟩ := S.own _ (List.mem_of_getElem? hj)
  refine ⟨p, _, rfl, DPut.t h1 (hb.key S.sub) (by rw [ptk_len h2]; exact hl), q _ ?_⟩
  rw [hw.eq]
  exact S.mut (od' := .dt (putG kvs ks d)) hj ⟨_, upd_same, ptk_put h2 (ht.dp S)⟩
theorem x_diK {i : Int} {kvs : List (Key × PyData)} (j : Nat) (S : Ds K C B σ H M ρ w tp) (hj : w[j]? = some (p, .dk kvs)) (q : Q (.bl (valD kvs (.inl i)).isSome) H) : DiK Q (.ref p) (.int i) H := by
  obtain ⟨_, ws, h1, h2⟩ := S.own _ (List.mem_of_getElem? hj)
  have e : (valV ws (.inl i)).isSome = (valD kvs (.inl i)).isSome := by
    rcases pk_val h2 (.inl i) with ⟨a, b⟩ | ⟨v, d', a, b, c⟩
    · rw [a, b]
      rfl
    · rw [a, b]
      rfl
  exact ⟨p, _, rfl, DGet.k (k := .inl i) h1, by rw [e]; exact q⟩
theorem x_ifSn {A B : Prop} (h : B) : if (!(some d).isSome) = true then A else B := by rw [if_neg (show ¬ (!(some d).isSome) = true from fun z => nomatch z)]; exact h
theorem x_ifSs {A B : Prop} (h : A) : if (some d).isSome = true then A else B := by rw [if_pos (show (some d).isSome = true from rfl)]; exact h
/-! a dict that is written down -/
def DspK (p : Addr) (Q : VK) (ps : List (V × V)) (H2 : Hp) : Prop := H2 p = some (.dK []) ∧ ∃ kvs : List (Key × V), ps = kvs.map (fun kv => (kV kv.1, kv.2)) ∧ kvs.length ≤ 15 ∧ Q (.ref p) (upd H2 p (.dK (mergeK [] kvs)))
theorem x_disp {trs : List (TE × TE)} (S : Ds K C B σ H M ρ w tp) (q : ∀ p H', Ds K C B σ H' M ρ ((p, .dk []) :: w) tp → tPairs trs σ H' (DspK p Q)) : tDisp trs σ H Q := fun p hp => q p _ (S.newO hp ⟨[], upd_same, .nil⟩)
theorem x_prC {trs : List (TE × TE)} {q : List (V × V) → Hp → Prop} (h : td σ H fun x H1 => tv σ H1 fun y H2 => tPairs trs σ H2 fun ps H3 => q ((x, y) :: ps) H3) : tPairs ((td, tv) :: trs) σ H q := h
theorem x_prN {q : List (V × V) → Hp → Prop} (h : q [] H) : tPairs [] σ H q := h
theorem x_dsp2 {i1 i2 : Int} {v1 v2 : V} {d1 d2 : PyData} (S : Ds K C B σ H M ρ ((p, .dk []) :: w) tp) (h1 : Tm tp v1 d1) (h2 : Tm tp v2 d2) (q : ∀ H', Ds K C B σ H' M ρ ((p, .dk (putD (putD [] (.inl i1) d1) (.inl i2) d2)) :: w) tp → Q (.ref p) H') : DspK p Q [(.int i1, v1), (.int i2, v2)] H := by
  obtain ⟨_, ws, a, b⟩ := S.own _ (List.mem_cons_self ..)
  cases b
  refine ⟨a, [(.inl i1, v1), (.inl i2, v2)], rfl, by show 2 ≤ 15; decide, q _ ?_⟩
  exact S.mut (j := 0) (od' := .dk (putD (putD [] (.inl i1) d1) (.inl i2) d2)) rfl ⟨_, upd_same, pk_put (pk_put .nil (h1.dp S)) (h2.dp S)⟩
/-! min of an own list of ints -/
theorem x_minO {ns : List Int} (j : Nat) (S : Ds K C B σ H M ρ w tp) (hj : w[j]? = some (p, .lst (ns.map .int))) (h0 : 0 < ns.length) (q : ∀ m, m ∈ ns → (∀ y ∈ ns, m ≤ y) → R (.int m) H) : rMin K [.ref p] H R := by
  obtain ⟨_, us, h1, h2⟩ := S.own _ (List.mem_of_getElem? hj)
  rw [dpAll_ints h2] at h1
  exact ⟨p, ns, rfl, .of h1, h0, q⟩
/-! fields and methods -/
def FldK (K : PySem.W.Frag) (f : Str) (R : VK) (x : V) (H : Hp) : Prop := ∃ a C dx fs v, x = .ref a ∧ H a = some (.ins C dx fs) ∧ Cls K C ∧ NoAttr K C f ∧ fs.lookup f = some v ∧ R v H
theorem x_fld {f : Str} (h : te σ H fun x H1 => FldK K f R x H1) : tFld K te f σ H R := h
theorem x_fldK {f : Str} {A dx : Addr} {fs : List (Str × V)} (j : Nat) (S : Ds K C B σ H M ρ w tp) (hj : w[j]? = some (p, .ho (.ins A dx fs))) (c : Cls K A) (n : NoAttr K A f) (l : fs.lookup f = some v) (q : R v H) : FldK K f R (.ref p) H :=
  ⟨p, A, dx, fs, v, rfl, (S.own _ (List.mem_of_getElem? hj)).2, c, n, l, q⟩
def SFldK (K : PySem.W.Frag) (f : Str) (D : Ends) (σ : L2.St) (y x : V) (H2 : Hp) : Prop := ∃ a C dx fs, x = .ref a ∧ H2 a = some (.ins C dx fs) ∧ Cls K C ∧ NoAttr K C f ∧ fs.length < 1000 ∧ D.nx σ (upd H2 a (.ins C dx (putF f y fs)))
theorem x_sfld {f : Str} (h : tv σ H fun y H1 => te σ H1 fun x H2 => SFldK K f D σ y x H2) : sFld K te tv f D σ H := h
theorem x_sfldK {f : Str} {A dx : Addr} {fs : List (Str × V)} (j : Nat) (S : Ds K C B σ H M ρ w tp) (hj : w[j]? = some (p, .ho (.ins A dx fs))) (c : Cls K A) (n : NoAttr K A f) (l : fs.length < 1000) (hw : SetAt w j (p, .ho (.ins A dx (putF f y fs))) w') (q : ∀ H', Ds K C B σ H' M ρ w' tp → D.nx σ H') : SFldK K f D σ y (.ref p) H :=
  ⟨p, A, dx, fs, rfl, (S.own _ (List.mem_of_getElem? hj)).2, c, n, l, q _ (hw.eq ▸ S.mut hj upd_same)⟩
theorem x_meth {sp : Sp} {A dx : Addr} {m : Str} {fs : List (Str × V)} (j : Nat) (S : Ds K C B σ H M ρ w tp) (h : ρ[i]? = some (.v (.ref p))) (hj : w[j]? = some (p, .ho (.ins A dx fs))) (l : fs.lookup m = none) (q : tl σ H fun us H2 => sp (.ref p :: us) H2 Q E) : tMeth A m sp [] E (tVar i) tl σ H Q := by
  obtain ⟨v, h1, h2⟩ := S.get h (fun z => nomatch z)
  cases (show v = .ref p from h2)
  refine ⟨_, h1, p, dx, fs, rfl, (S.own _ (List.mem_of_getElem? hj)).2, l, ?_⟩
  simp only [List.append_nil]
  exact q
end
/-! calls that may change several own things -/
/-- data, by what became of the own things -/
abbrev pW (P : PyData → Own → Prop) : Rs → Own → Prop := fun r u => ∃ d, P d u ∧ r = .s (.d d)
section
variable {K : PySem.W.Frag} {C : Fx} {B : Hp} {σ : L2.St} {H M H' M' H0 M0 : Hp} {ρ : List Sl} {w u u' : Own} {tp : List (V × PyData)} {Q : VK} {E : XK} {v : V} {d : PyData} {P : PyData → Own → Prop} {pre : Pre} {vs : List V} {ss : List Sl} {O : List Addr}
theorem x_callW {post : Rs → Own → Prop} (w1 u w2 : Own) (S : Ds K C B σ H M ρ w tp) (hw : w = w1 ++ (u ++ w2)) (hv : SlVs K M vs ss) (hp : pre ss u post)
    (q : ∀ r u', post r u' → u'.map (·.1) = u.map (·.1) → ∀ v H' M', Res K C B σ H' M' ρ (w1 ++ (u' ++ w2)) tp v r → Q v H') : spG K pre vs H Q E := by
  subst hw
  have hu : ∀ p ∈ u, p ∈ w1 ++ (u ++ w2) := fun p h => List.mem_append.mpr (.inr (List.mem_append.mpr (.inl h)))
  have hn := S.nd
  rw [List.map_append, List.map_append] at hn
  have hn2 := (List.nodup_append.mp hn).2.1
  refine ⟨M, ss, u, post, S.sub, hv, fun p h => S.own p (hu p h), (List.nodup_append.mp hn2).1, hp, fun r u' v H' hr hf => ?_⟩
  obtain ⟨M', F, hw, ok, ho⟩ := hf.ex
  have F : Fr (u.map (·.1)) H M H' M' := F
  have hw : u'.map (·.1) = u.map (·.1) := hw
  have apart : ∀ p ∈ w1 ++ (u' ++ w2), OdOk K M' H' p.1 p.2 := fun p h => by
    rcases List.mem_append.mp h with h | h
    · refine (S.own p (List.mem_append.mpr (.inl h))).2.keep F.sm fun o e => F.fr _ o (fun z => ?_) e
      exact (List.nodup_append.mp hn).2.2 p.1 (List.mem_map_of_mem h) p.1 (List.mem_append.mpr (.inl z)) rfl
    · rcases List.mem_append.mp h with h | h
      · exact ok p h
      · refine (S.own p (List.mem_append.mpr (.inr (List.mem_append.mpr (.inr h))))).2.keep F.sm fun o e => F.fr _ o (fun z => ?_) e
        exact (List.nodup_append.mp hn2).2.2 p.1 z p.1 (List.mem_map_of_mem h) rfl
  have em : (w1 ++ (u' ++ w2)).map (·.1) = (w1 ++ (u ++ w2)).map (·.1) := by simp only [List.map_append, hw]
  refine q r u' hr hw v H' M' (Res.of (S.step F (fun b h => ?_) em apart) S.new_none (fun z hz => ?_) ho)
  · obtain ⟨p, h1, rfl⟩ := List.mem_map.mp h
    exact List.mem_map_of_mem (hu p h1)
  · have h1 : z.1 ∈ (w1 ++ (u ++ w2)).map (·.1) := em ▸ List.mem_map_of_mem hz
    obtain ⟨y, hy, e⟩ := List.mem_map.mp h1
    rw [← e]
    exact (S.own y hy).2.there
theorem x_cW (w1 u w2 : Own) (S : Ds K C B σ H M ρ w tp) (hw : w = w1 ++ (u ++ w2)) (hs : SlT K M tp vs ss) (hp : pre ss u (pW P)) (q : ∀ d u', P d u' → ∀ H' M', Ds K C B σ H' M' ρ (w1 ++ (u' ++ w2)) tp → Giv K M' H' Q d) : spG K pre vs H Q E :=
  x_callW w1 u w2 S hw (hs.dp S) hp fun r u' hr hm v H' M' R => by
    obtain ⟨d, hd, rfl⟩ := hr
    have R : Ds K C B σ H' M' ρ (w1 ++ (u' ++ w2)) ((v, d) :: tp) := R
    exact q d u' hd H' M' R.rest v (R.tm _ (List.mem_cons_self ..))
theorem x_rW (S : Ds K ⟨H0, M0, O⟩ B σ H M ρ w tp) (hq : ∀ r w' v H', pW P r w' → Fin K ⟨H0, M0, O⟩ r w' v H' → Q v H') (ht : Tm tp v d) (u' : Own) (hu : u'.map (·.1) = O) (hs : ∀ p ∈ u', p ∈ w) (hp : P d u') : Q v H :=
  hq _ u' v H ⟨d, hp, rfl⟩ (S.fin hu hs (ht.dp S))
/-! promises that hand out new own things -/
structure FinX (K : PySem.W.Frag) (C : Fx) (u' ex : Own) (v : V) (H' : Hp) : Prop where
  ex : ∃ M', Fr C.O C.H C.M H' M' ∧ u'.map (·.1) = C.O ∧ (∀ p ∈ u', OdOk K M' H' p.1 p.2) ∧ (∀ p ∈ ex, C.H p.1 = none ∧ M' p.1 = none ∧ OdOk K M' H' p.1 p.2) ∧ (ex.map (·.1)).Nodup ∧ v = .non
def spX (K : PySem.W.Frag) (pre : List Sl → Own → (Own → Own → Prop) → Prop) : Sp := fun vs H Q _ => ∃ (M : Hp) (ss : List Sl) (w : Own) (post : Own → Own → Prop), Same M H ∧ SlVs K M vs ss ∧ (∀ p ∈ w, M p.1 = none ∧ OdOk K M H p.1 p.2) ∧ (w.map (·.1)).Nodup ∧ pre ss w post ∧
  ∀ u' ex v H', post u' ex → FinX K ⟨H, M, w.map (·.1)⟩ u' ex v H' → Q v H'
theorem x_retX {C : Fx} {post : Own → Own → Prop} (S : Ds K C B σ H M ρ w tp) (hq : ∀ u' ex v H', post u' ex → FinX K C u' ex v H' → Q v H') (u' ex : Own) (hw : (u' ++ ex).Perm w) (hu : u'.map (·.1) = C.O) (hp : post u' ex) : Q .non H := by
  have S2 := S.perm hw
  have hn := S2.nd
  rw [List.map_append] at hn
  refine hq u' ex _ H hp ⟨M, S2.F, hu, fun p h => (S2.own p (List.mem_append.mpr (.inl h))).2, fun p h => ?_, (List.nodup_append.mp hn).2.1, rfl⟩
  have h1 := S2.own p (List.mem_append.mpr (.inr h))
  refine ⟨(S2.ow p (List.mem_append.mpr (.inr h))).resolve_left fun z => ?_, h1.1, h1.2⟩
  rw [← hu] at z
  exact (List.nodup_append.mp hn).2.2 p.1 z p.1 (List.mem_map_of_mem h) rfl
/-- a new instance, its __init__ run -/
theorem x_make {A : Addr} {pre : List Sl → Own → (Own → Own → Prop) → Prop} {post : Addr → Addr → Own → Own → Prop} (S : Ds K C B σ H M ρ w tp) (hp : ∀ x dx, pre [.v (.ref x)] [(x, .ho (.ins A dx []))] (post x dx))
    (q : ∀ x dx u' ex H' M', post x dx u' ex → Ds K C B σ H' M' ρ (ex ++ (u' ++ w)) tp → Q (.ref x) H') : tMake A (spX K pre) [] E tNil σ H Q := by
  intro x dx hx hdx hne
  have S1 := S.newO (od := .ho (.own x)) (o := .own x) hdx upd_same
  have hx1 : upd H dx (.own x) x = none := by rw [upd_ne (fun e => hne e.symm)]; exact hx
  have S2 := (S1.newO (od := .ho (.ins A dx [])) (o := .ins A dx []) hx1 upd_same).subw (w' := (x, .ho (.ins A dx [])) :: w) (.cons_cons _ (.cons _ (.refl _)))
  generalize upd (upd H dx (.own x)) x (.ins A dx []) = H1 at S2
  refine ⟨M, [.v (.ref x)], [(x, .ho (.ins A dx []))], post x dx, S2.sub, .cons rfl .nil, fun p h => List.mem_singleton.mp h ▸ S2.own _ (List.mem_cons_self ..), List.nodup_cons.mpr ⟨(fun z => nomatch z), List.nodup_nil⟩, hp x dx, fun u' ex v H' hpost hf => ?_⟩
  obtain ⟨M', F, hw, ok, oke, nde, rfl⟩ := hf.ex
  refine ⟨rfl, q x dx u' ex H' M' hpost ?_⟩
  have F : Fr [x] H1 M H' M' := F
  have hw : u'.map (·.1) = [x] := hw
  have S3 : Ds K C B σ H' M' ρ (u' ++ w) tp := by
    refine S2.step F (fun b h => by rw [List.mem_singleton.mp h]; exact List.mem_cons_self ..) (by rw [List.map_append, hw]; rfl) fun p h => ?_
    rcases List.mem_append.mp h with h | h
    · exact ok p h
    · refine (S2.own p (List.mem_cons_of_mem _ h)).2.keep F.sm fun o e => F.fr _ o (fun z => ?_) e
      have := S2.nd
      rw [List.map_cons, List.nodup_cons] at this
      refine this.1 ?_
      show x ∈ w.map (·.1)
      rw [← List.mem_singleton.mp z]
      exact List.mem_map_of_mem (f := Prod.fst) h
  refine { S3 with own := fun p h => ?_, nd := ?_, ow := fun p h => ?_ }
  · rcases List.mem_append.mp h with h | h
    · exact (oke p h).2
    · exact S3.own p h
  · rw [List.map_append]
    refine List.nodup_append.mpr ⟨nde, S3.nd, fun a ha b hb e => ?_⟩
    subst e
    obtain ⟨p, h1, rfl⟩ := List.mem_map.mp ha
    obtain ⟨p2, h2, e2⟩ := List.mem_map.mp hb
    have h3 : H1 p.1 = none := (oke p h1).1
    have h4 : p2.1 ∈ ((x, Od.ho (.ins A dx [])) :: w).map (·.1) := by
      have : p2.1 ∈ (u' ++ w).map (·.1) := List.mem_map_of_mem h2
      rw [List.map_append, hw] at this
      exact this
    obtain ⟨p3, h5, e3⟩ := List.mem_map.mp h4
    exact (S2.own p3 h5).2.there (by rw [e3, e2]; exact h3)
  · rcases List.mem_append.mp h with h | h
    · exact .inr (S2.new_none _ (oke p h).1)
    · exact S3.ow p h
end
section
variable {P : Program} {w : World} {K : PySem.W.Frag} {mg : Str → Option Value} {base : Heap}
/-- a method that keeps a promise -/
structure Mt (P : Program) (w : World) (K : PySem.W.Frag) (mg : Str → Option Value) (base : Heap) (k : Nat) (C : Addr) (m : Str) (f : Addr) (fd : FuncData) (ps : List Str) (sp : Sp) : Prop where
  F : FnOk P w K mg base CX0 k f fd ps sp
  M : Meth K C m f
  b : Binds K fd ps []
/-- a class that is made by an __init__ that keeps a promise -/
structure MkC (P : Program) (w : World) (K : PySem.W.Frag) (mg : Str → Option Value) (base : Heap) (k : Nat) (C : Addr) (f : Addr) (fd : FuncData) (ps : List Str) (sp : Sp) : Prop where
  F : FnOk P w K mg base CX0 k f fd ps sp
  M : Mk K C f
  b : Binds K fd ps []
theorem Fun.go {x qual : Str} {st : Stmt} {f : Addr} {fd : FuncData} {ps N : List Str} {k : Nat} (F : Fun K x qual st f fd) (S : FnScope N ps (defScope st)) (pre : Pre) (len : ∀ ss u post, pre ss u post → ss.length = ps.length)
    (hbody : ∀ (cdv : Value) (A : Around) (outer : List Env) (s : Shared) (H M : Hp) (vs : List V) (Q : VK) (E : XK) (ss : List Sl) (u : Own) (post : Rs → Own → Prop), Room k (A.deeper (envOfC qual (defScope st) s.heap.objs.size f cdv)) → pre ss u post →
      Ds K ⟨H, M, u.map (·.1)⟩ M (L2.start N vs) H M (ss ++ List.replicate (N.length - ss.length) .u) u [] → (∀ r u' v H', post r u' → Fin K ⟨H, M, u.map (·.1)⟩ r u' v H' → Q v H') →
      ∃ t, PSs (cxOf CX0 P w K mg base N qual (defScope st) f cdv A outer s H E).nox (defBody st) t ∧ t { nx := fun _ H' => Q .non H', rt := Q } (L2.start N vs) H) : FnOk P w K mg base CX0 (k + 1) f fd ps (spG K pre) := by
  refine F.ok S (fun vs H Q E h => ?_) (fun cdv A outer s H vs Q E hr h => ?_)
  · obtain ⟨M, ss, u, post, _, h2, _, _, h5, _⟩ := h
    exact h2.length.trans (len _ _ _ h5)
  · obtain ⟨M, ss, u, post, h1, h2, h3, h4, h5, q⟩ := h
    exact hbody cdv A outer s H M vs Q E ss u post hr h5 (Ds.init h1 h2 h3 h4) q
theorem Fun.vain {x qual : Str} {st : Stmt} {f : Addr} {fd : FuncData} {ps N : List Str} {k : Nat} (F : Fun K x qual st f fd) (S : FnScope N ps (defScope st)) (pre : Pre) (h : ∀ ss u post, ¬ pre ss u post) : FnOk P w K mg base CX0 (k + 1) f fd ps (spG K pre) :=
  Fun.go F S pre (fun ss u post z => (h _ _ _ z).elim) fun cdv A outer s H M vs Q E ss u post hr z _ _ => (h _ _ _ z).elim
theorem Fun.goX {x qual : Str} {st : Stmt} {f : Addr} {fd : FuncData} {ps N : List Str} {k : Nat} (F : Fun K x qual st f fd) (S : FnScope N ps (defScope st)) (pre : List Sl → Own → (Own → Own → Prop) → Prop) (len : ∀ ss u post, pre ss u post → ss.length = ps.length)
    (hbody : ∀ (cdv : Value) (A : Around) (outer : List Env) (s : Shared) (H M : Hp) (vs : List V) (Q : VK) (E : XK) (ss : List Sl) (u : Own) (post : Own → Own → Prop), Room k (A.deeper (envOfC qual (defScope st) s.heap.objs.size f cdv)) → pre ss u post →
      Ds K ⟨H, M, u.map (·.1)⟩ M (L2.start N vs) H M (ss ++ List.replicate (N.length - ss.length) .u) u [] → (∀ u' ex v H', post u' ex → FinX K ⟨H, M, u.map (·.1)⟩ u' ex v H' → Q v H') →
      ∃ t, PSs (cxOf CX0 P w K mg base N qual (defScope st) f cdv A outer s H E).nox (defBody st) t ∧ t { nx := fun _ H' => Q .non H', rt := Q } (L2.start N vs) H) : FnOk P w K mg base CX0 (k + 1) f fd ps (spX K pre) := by
  refine F.ok S (fun vs H Q E h => ?_) (fun cdv A outer s H vs Q E hr h => ?_)
  · obtain ⟨M, ss, u, post, _, h2, _, _, h5, _⟩ := h
    exact h2.length.trans (len _ _ _ h5)
  · obtain ⟨M, ss, u, post, h1, h2, h3, h4, h5, q⟩ := h
    exact hbody cdv A outer s H M vs Q E ss u post hr h5 (Ds.init h1 h2 h3 h4) q
end
/-! xs.append(e), xs anything -/
def AppG (K : PySem.W.Frag) (te : TE) (σ : L2.St) (Q : VK) (x : V) (H1 : Hp) : Prop := tyV K "list" x H1 ∧ te σ H1 fun y H2 => AppK K Q x y H2
section
variable {K : PySem.W.Frag} {C : Fx} {B : Hp} {σ : L2.St} {H M : Hp} {ρ : List Sl} {w : Own} {tp : List (V × PyData)} {Q : VK} {te ta : TE} {p : Addr} {ds : List PyData} {v : V}
theorem x_appG (h : ta σ H fun x H1 => AppG K te σ Q x H1) : tBM K "list" rAppend ta (tCons te tNil) σ H Q := h
theorem h_appG (h : AppG K te σ Q v H) : AppG K te σ Q v H := h
theorem x_appGK (j : Nat) (S : Ds K C B σ H M ρ w tp) (hj : w[j]? = some (p, .lst ds)) (q : te σ H fun y H2 => AppK K Q (.ref p) y H2) : AppG K te σ Q (.ref p) H := by
  obtain ⟨_, us, h1, _⟩ := S.own _ (List.mem_of_getElem? hj)
  exact ⟨.inl ⟨rfl, us, .of h1⟩, q⟩
end
section
variable {X : Cx} {K : PySem.W.Frag} {st : Stmt}
theorem kSF {ta tv : TE} {f : Str} (p : PS X st (sFld X.K ta tv f)) (h : X.K = K := by rfl) : PS X st (sFld K ta tv f) := h ▸ p
theorem kMin (hc : X.calm = true) (h : X.K = K := by rfl) : CallR X (.builtin "min") (rMin K) := h ▸ cr_min hc
theorem kMax (hc : X.calm = true) (h : X.K = K := by rfl) : CallR X (.builtin "max") (rMax K) := h ▸ cr_max hc
end
section
variable {P : Program} {w : World} {K : PySem.W.Frag} {mg : Str → Option Value} {base : Heap}
theorem Mt.fr {k : Nat} {C f : Addr} {m : Str} {fd : FuncData} {ps : List Str} {sp : Sp} (t : Mt P w K mg base k C m f fd ps sp) : FnR P w K mg base CX0 k f sp :=
  (t.F.raw t.b .nil).imp fun vs H Q E h => by rw [List.append_nil]; exact h
end
/-! o.m(*y) -/
section
variable {X : Cx} {o e2 : Expr} {m : Str} {p apos pos : Pos} {A g : Addr} {sp : Sp} {ta t2 : TE}
def tMethS (A : Addr) (m : Str) (K : PySem.W.Frag) (g : Addr) (sp : Sp) (E : XK) (ta t2 : TE) : TE := fun σ H Q => ta σ H fun x H1 => ∃ a dx fs, x = .ref a ∧ H1 a = some (.ins A dx fs) ∧ fs.lookup m = none ∧
  ∀ q, H1 q = none → t2 σ (upd H1 q (.met g a)) fun y2 H2 => ∃ b vs, y2 = .ref b ∧ (SqT K H2 b vs ∨ SqL K H2 b vs) ∧ H2 q = some (.met g a) ∧ sp (.ref a :: vs) H2 Q E
theorem pe_methS {CX : CXT} {k : Nat} {K : PySem.W.Frag} {E : XK} (he : PE X o ta) (c : Cls X.K A) (b : BMeth X.K A m g) (F : FnR X.prog X.w X.K X.mg X.base CX k g sp) (hr : Room k X.A) (hx : Passes CX X E) (h2 : PE X e2 t2) (hK : X.K = K := by rfl) (hbase : attributeBase o m X.env (eval o X.env) = eval o X.env := by rfl)
    (hst : starEach [.Starred e2 p] X.env = [(true, eval e2 X.env)] := by rfl) : PE X (.Call (.Attribute o m apos) [.Starred e2 p] [] pos) (tMethS A m K g sp E ta t2) := by
  subst hK
  refine ⟨fun pins s σ H Q I h => ?_⟩
  have hke : backToKw pos (keywordEach [] X.env) = [] := rfl
  have hform : methodCallForm ([Expr.Starred e2 p].length + ([] : List Keyword).length) (backTo pos [(true, eval e2 X.env)]) [] = false := rfl
  have hcal : ∀ ov, calleeOf false o X.env ov m = (getAttr ov m true >>= fun v => pure (v, [])) := fun _ => rfl
  rw [arm_eval_Call, hbase, hst, hke]
  refine wpAny_bind (thn (he.run pins s σ H _ I h) fun u s1 ⟨x, H1, I1, rx, a, dx, fs, ex, ea, l, q⟩ => ?_)
  subst ex
  obtain rfl : u = Value.ref a := rx
  refine wpAny_bind (wpAny_standAt ?_)
  unfold methodCall
  rw [hform, show methodCallPos false o X.env apos pos = pure pos from rfl, hcal]
  refine wpAny_bind (wpAny_holding (wpAny_bind (getbound_ok I1 ea c b l fun q1 s2 hq1 I2 => wpAny_pure ?_)))
  refine wpAny_bind (wpAny_pure ?_)
  refine PySem.W.ks_call (P := PySem.W.MethP X.K q1 g (.ref a)) rfl (PySem.W.keeps_M b.fi) (PySem.W.ks_lone (thn (h2.run pins s2 σ _ _ I2 (q q1 hq1)) fun v2 s4 ⟨y2, H3, I4, ry2, t, vs, ey, ht, hm, hsp⟩ => ?_))
  subst ey
  obtain rfl : v2 = Value.ref t := ry2
  refine StX.star_any I4 ht fun us s5 I5 rv => ?_
  exact ⟨met_P I5 hm, wpAny_call (PySem.W.method_call (met_P I5 hm).1 (run_fnR (us := Value.ref a :: us) (vs := V.ref a :: vs) F hr hx I5 (.cons rfl rv) hsp))⟩
end
section
variable {K : PySem.W.Frag} {C : Fx} {B : Hp} {σ : L2.St} {H M : Hp} {ρ : List Sl} {w : Own} {tp : List (V × PyData)} {Q : VK} {E : XK} {t2 : TE} {i : Nat} {p A g dx : Addr} {m : Str} {sp : Sp} {fs : List (Str × V)} {ds : List PyData}
def StarK (K : PySem.W.Frag) (g a q : Addr) (sp : Sp) (E : XK) (Q : VK) (y2 : V) (H2 : Hp) : Prop := ∃ b vs, y2 = .ref b ∧ (SqT K H2 b vs ∨ SqL K H2 b vs) ∧ H2 q = some (.met g a) ∧ sp (.ref a :: vs) H2 Q E
theorem x_methS (j : Nat) (S : Ds K C B σ H M ρ w tp) (h : ρ[i]? = some (.v (.ref p))) (hj : w[j]? = some (p, .ho (.ins A dx fs))) (l : fs.lookup m = none) (q : ∀ q H', Ds K C B σ H' M ρ ((q, .ho (.met g p)) :: w) tp → t2 σ H' (StarK K g p q sp E Q)) : tMethS A m K g sp E (tVar i) t2 σ H Q := by
  obtain ⟨v, h1, h2⟩ := S.get h (fun z => nomatch z)
  cases (show v = .ref p from h2)
  exact ⟨_, h1, p, dx, fs, rfl, (S.own _ (List.mem_of_getElem? hj)).2, l, fun q' hq => q q' _ (S.newO (od := .ho (.met g p)) hq upd_same)⟩
/-- the list that is handed on, an own one of three ints -/
theorem x_star3 {q b : Addr} {a1 a2 a3 : Int} (j : Nat) (S : Ds K C B σ H M ρ ((q, .ho (.met g p)) :: w) tp) (hj : w[j]? = some (b, .lst [.int a1, .int a2, .int a3])) (h : sp [.ref p, .int a1, .int a2, .int a3] H Q E) : StarK K g p q sp E Q (.ref b) H := by
  obtain ⟨_, us, h1, h2⟩ := S.own _ (List.mem_cons_of_mem _ (List.mem_of_getElem? hj))
  rw [dpAll_ints (ns := [a1, a2, a3]) h2] at h1
  exact ⟨b, _, rfl, .inr (.of h1), (S.own _ (List.mem_cons_self ..)).2, h⟩
end
end Pf

namespace Pf
open PySem PySem.Spec PyProof.Rows L2
/-! lists of tuples that were made while the program ran; dicts that a comprehension makes of them -/
section
variable {K : PySem.W.Frag} {C : Fx} {B : Hp} {σ : L2.St} {H M H' M' : Hp} {ρ ρ' ρ2 : List Sl} {w w' w1 : Own} {tp : List (V × PyData)} {Q R : VK} {te tk tv : TE} {tt : TT} {g : TG} {v y x : V} {ds acc : List PyData} {e d : PyData} {p a b Z : Addr} {vs : List Nat} {i : Nat} {D : Addr} {kvs : List (List Key × PyData)} {ks : List Key}
theorem tups_dp (h : Paired (TupM K M) (us : List V) ds) : DpAll K M us ds := paired_dp (L2.Paired.mapP h fun _ _ z => z.dp)
/-- such a list is a list -/
theorem Ds.ofLt (j : Nat) (S : Ds K C B σ H M ρ w tp) (hj : w[j]? = some (a, .lt ds)) (hw : SetAt w j (a, .lst ds) w') : Ds K C B σ H M ρ w' tp := by
  have e := hw.eq
  subst e
  refine S.step (O := []) (Fr.refl [] S.sub) (fun _ h => nomatch h) ?_ fun q hq => ?_
  · rw [List.map_set]
    exact set_self (by rw [List.getElem?_map, hj]; rfl)
  · rcases List.mem_or_eq_of_mem_set hq with hq | rfl
    · exact (S.own q hq).2
    · obtain ⟨us, h1, h2⟩ := (S.own _ (List.mem_of_getElem? hj)).2
      exact ⟨us, h1, tups_dp h2⟩
/-- what a turn of a comprehension reaches -/
def LcNt (K : PySem.W.Frag) (C : Fx) (B : Hp) (I : Nat → List PyData → Own → Prop) (σ : L2.St) (ρ : List Sl) (D : Addr) (i : Nat) : Hp → Prop := fun H => ∃ M acc w, I i acc w ∧ Ds K C B σ H M ρ ((D, .lt acc) :: w) []
abbrev LcStepT (K : PySem.W.Frag) (C : Fx) (B : Hp) (I : Nat → List PyData → Own → Prop) (σ : L2.St) (ρ : List Sl) (g : TG) (tt : TT) (te : TE) (vs : List Nat) (D : Addr) (i : Nat) (u : V) (H : Hp) : Prop :=
  g u (wipe σ vs) H fun σ2 H2 => wipe σ2 vs = wipe σ vs ∧ tt σ2 H2 fun b H3 => if b = true then te σ2 H3 (LcA (LcNt K C B I (wipe σ vs) (uset vs ρ) D (i + 1)) D) else LcNt K C B I (wipe σ vs) (uset vs ρ) D (i + 1) H3
theorem x_wlcTt (I : Nat → List PyData → Own → Prop) (S : Ds K C B σ H M ρ w tp) (ht : Tm tp v (.tuple ds)) (h0 : I 0 [] w)
    (hs : ∀ i d acc w1, ds[i]? = some d → I i acc w1 → ∀ D u H1 M1, Ds K C M (wipe σ vs) H1 M1 (uset vs ρ) ((D, .lt acc) :: w1) [(u, d)] → LcStepT K C M I σ ρ g tt te vs D i u H1)
    (hd : ∀ acc w1, I ds.length acc w1 → ∀ D H1 M1, Ds K C B σ H1 M1 ρ ((D, .lt acc) :: w1) tp → Q (.ref D) H1) : ForT K (LcB g tt te vs Q σ) v H := by
  obtain ⟨p, xs, rfl, h1, h2⟩ := dp_tup (ht.dp S)
  refine ⟨p, rfl, ⟨xs, Same.seqT S.sub h1⟩, fun D hD => lc_tup (xs := xs) (LcNt K C M I (wipe σ vs) (uset vs ρ) D) ?_ (fun i H1 _ q => ?_) (fun i x H1 hx q => ?_) (fun H1 q => ?_)⟩
  · exact ⟨M, [], w, h0, (S.base.clr.wiped vs).newO (od := .lt []) hD ⟨[], upd_same, .nil⟩⟩
  · obtain ⟨M1, acc, w1, _, S1⟩ := q
    exact Same.seqT (S1.bs.trans S1.sub) h1
  · obtain ⟨M1, acc, w1, q, S1⟩ := q
    have hi : i < ds.length := by rw [← dpAll_len h2]; exact (List.getElem?_eq_some_iff.mp hx).1
    have e := List.getElem?_eq_getElem hi
    exact hs i _ acc w1 e q D x H1 M1 (S1.push (Dp.same S1.bs (dpAll_at h2 i x _ hx e)))
  · obtain ⟨M1, acc, w1, q, S1⟩ := q
    exact hd acc w1 (dpAll_len h2 ▸ q) D H1 M1 (S.outof S1)
theorem x_wlcLt (I : Nat → List PyData → Own → Prop) (S : Ds K C B σ H M ρ w tp) (ht : Tm tp v (.list ds)) (h0 : I 0 [] w)
    (hs : ∀ i d acc w1, ds[i]? = some d → I i acc w1 → ∀ D u H1 M1, Ds K C M (wipe σ vs) H1 M1 (uset vs ρ) ((D, .lt acc) :: w1) [(u, d)] → LcStepT K C M I σ ρ g tt te vs D i u H1)
    (hd : ∀ acc w1, I ds.length acc w1 → ∀ D H1 M1, Ds K C B σ H1 M1 ρ ((D, .lt acc) :: w1) tp → Q (.ref D) H1) : ForL K (LcB g tt te vs Q σ) v H := by
  obtain ⟨p, xs, rfl, h1, h2⟩ := dp_lst (ht.dp S)
  refine ⟨p, rfl, ⟨xs, S.sub.seq h1⟩, fun D hD => lc_list (xs := xs) (LcNt K C M I (wipe σ vs) (uset vs ρ) D) ?_ (fun i H1 _ q => ?_) (fun i x H1 hx q => ?_) (fun H1 q => ?_)⟩
  · exact ⟨M, [], w, h0, (S.base.clr.wiped vs).newO (od := .lt []) hD ⟨[], upd_same, .nil⟩⟩
  · obtain ⟨M1, acc, w1, _, S1⟩ := q
    exact (S1.bs.trans S1.sub).seq h1
  · obtain ⟨M1, acc, w1, q, S1⟩ := q
    have hi : i < ds.length := by rw [← dpAll_len h2]; exact (List.getElem?_eq_some_iff.mp hx).1
    have e := List.getElem?_eq_getElem hi
    exact hs i _ acc w1 e q D x H1 M1 (S1.push (Dp.same S1.bs (dpAll_at h2 i x _ hx e)))
  · obtain ⟨M1, acc, w1, q, S1⟩ := q
    exact hd acc w1 (dpAll_len h2 ▸ q) D H1 M1 (S.outof S1)
theorem x_lcAt {I : Nat → List PyData → Own → Prop} {σ0 : L2.St} (S : Ds K C B σ H M ρ ((D, .lt acc) :: w) tp) (hr : Rew K C B σ ρ σ0 ρ2) (ht : TupM K M y e) (hl : acc.length < sizeLine) (hI : I (i + 1) (acc ++ [e]) w) : LcA (LcNt K C B I σ0 ρ2 D (i + 1)) D y H := by
  obtain ⟨_, us, h1, h2⟩ := S.own _ (List.mem_cons_self ..)
  exact ⟨us, h1, by rw [Paired.length h2]; exact hl, M, acc ++ [e], w, hI, hr (S.mut (j := 0) (od' := .lt (acc ++ [e])) rfl ⟨_, upd_same, h2.snoc ht⟩)⟩
theorem x_lcNt {I : Nat → List PyData → Own → Prop} {σ0 : L2.St} (S : Ds K C B σ H M ρ ((D, .lt acc) :: w) tp) (hr : Rew K C B σ ρ σ0 ρ2) (hI : I (i + 1) acc w) : LcNt K C B I σ0 ρ2 D (i + 1) H := ⟨M, acc, w, hI, hr S⟩
theorem x_sortT (j : Nat) (S : Ds K C B σ H M ρ w tp) (hj : w[j]? = some (p, .lt ds)) (h1 : PySem.W.AllAlike ds) (h2 : PySem.W.Sortable ds) (h3 : ∀ d ∈ ds, d.depth ≤ 60) (q : ∀ l H', Ds K C B σ H' M ρ ((l, .lt (srt ds)) :: w) tp → R (.ref l) H') : rSortedX K [.ref p] H R := by
  obtain ⟨_, us, c, d⟩ := S.own _ (List.mem_of_getElem? hj)
  exact ⟨TupM K M, p, us, ds, rfl, fun _ _ z => Dp.same S.sub z.dp, .of c, d, h1, h2, h3, fun ys l hl hy => q l _ (S.newO (od := .lt (srt ds)) hl ⟨ys, upd_same, hy⟩)⟩
end
theorem paired_at {α β : Type} {F : α → β → Prop} : ∀ {l : List α} {m : List β} {i : Nat} {x : α} {y : β}, Paired F l m → l[i]? = some x → m[i]? = some y → F x y
  | _, _, i, _, _, .nil, h, _ => by simp at h
  | _, _, 0, _, _, .cons h _, h1, h2 => by
    simp at h1 h2
    subst h1
    subst h2
    exact h
  | _, _, i + 1, _, _, .cons _ t, h1, h2 => paired_at t (by simpa using h1) (by simpa using h2)
theorem u0 {k : Nat} {A : Around} (r : Room k A) : A.units < cLine := by have := r.un; omega
/-! a dict by a comprehension, its keys tuples -/
def DcA (Z : Addr) (N : Hp → Prop) (y z : V) (H : Hp) : Prop := ∃ (b : Addr) (kvs : List (List Key × V)) (k : List Key), y = .ref b ∧ H b = some (.tup (k.map kV)) ∧ H Z = some (.dT kvs) ∧ kvs.length < sizeLine ∧ N (upd H Z (.dT (putK kvs k z)))
def DcB (g : TG) (tk tv : TE) (vs : List Nat) (Q : VK) (σ : L2.St) (J : It) (H1 : Hp) : Prop := ∀ Z, H1 Z = none → ∃ U : Nat → Nat → Hp → Prop, (∃ m, U 0 m (upd H1 Z (.dT []))) ∧ ∀ i m H, U i m H →
  (J.stop i H ∧ Q (.ref Z) H) ∨ (J.go i H ∧ ∃ N : Hp → Prop, (∀ H', N H' → ∃ m', m' < m ∧ U (i + 1) m' H') ∧ ∀ x H', J.yld i H x H' → g x (wipe σ vs) H' fun σ2 H2 => wipe σ2 vs = wipe σ vs ∧ tk σ2 H2 fun y H3 => tv σ2 H3 (DcA Z N y))
def tDct (wi : TI) (g : TG) (tk tv : TE) (vs : List Nat) : TE := fun σ H Q => wi σ H (DcB g tk tv vs Q σ)
section
variable {X : Cx}
theorem d_setT {pins : List (Addr × Obj)} {σ : L2.St} {H : Hp} {s : Shared} {E : Value → Shared → Prop} {Z b : Addr} {kvs : List (List Key × V)} {k : List Key} {v : V} {r : Value} {Q : Unit → Shared → Prop} (hu : X.A.units < cLine) (I : Inv X pins σ H s) (hZ : H Z = some (.dT kvs)) (l : kvs.length < sizeLine)
    (eb : H b = some (.tup (k.map kV))) (rv : RelV v r) (h : ∀ s', Inv X pins σ (upd H Z (.dT (putK kvs k v))) s' → Q () s') : wpAny (model X.prog X.w) X.A (dictSet Z (.ref b) r) Q E s := by
  obtain ⟨z, hd, xs, rel, dd⟩ := dt_of I.hok hZ
  have hz : xs.length ≤ sizeLine := by rw [← Paired.length rel]; exact z
  have hl : (putK kvs k v).length ≤ sizeLine := by have := length_putK kvs k v; omega
  refine wpAny_dictSet_heap (hsz := hz) (knd := tupleKind (mixKind X.prog X.w)) hu (key_of I.hok eb) dd fun h' dd' hs => h _ ?_
  obtain ⟨q, es, ep, hq, h2, h3, h4, _, h5⟩ := dd'
  refine d_write I (by rw [hZ]; exact True.intro) hs ⟨q, hq⟩ ⟨hl, hd, _, (rel.put k eb rv).keeps fun c ys ec => ?_, q, es, ep, hq, h2, h3, h4, h5⟩
  rw [upd_ne (ne_of ec hZ (fun z => nomatch z))]
  exact ec
theorem dct_core {pins : List (Addr × Obj)} {s : Shared} {σ : L2.St} {H : Hp} {Q : VK} {use : Option (Value → Sem Unit)} {Qf : Value → Shared → Prop} {pos' : Pos} {ke ve tg iter : Expr} {scope : Scope} {own : List (Str × Nat)} {pos : Pos} {wi : TI} {g : TG} {tk tv : TE} (calm : X.calm = true) (hu : X.A.units < cLine) (nd : X.N.Nodup) (I : Inv X pins σ H s) (pit : PI X tg iter wi) (blk : BlkOk X.N X.env.scope scope own)
    (ptg : ∀ s H C cl fp, PG (X.blk s H scope (compEnvC scope cl C X.env) fp) tg g) (pke : ∀ s H C cl fp, PE (X.blk s H scope (compEnvC scope cl C X.env) fp) ke tk) (pve : ∀ s H C cl fp, PE (X.blk s H scope (compEnvC scope cl C X.env) fp) ve tv) (fold : ∀ x, foldedSetIterable iter X.env x = pure x) (start : tDct wi g tk tv (own.map (·.2)) σ H Q)
    (ends : ∀ Z C s' m H', Inv X pins σ H' s' → Q (.ref Z) H' → s'.heap.Ns C m → FpOk X pins H' C → compPost (model X.prog X.w) X.A X.xe use Qf (.ref Z) C (.ok .next) s') :
    wpAny (model X.prog X.w) X.A (comprehension (.DictComp ke ve [⟨tg, iter, [], 0⟩] scope pos) scope X.env pos' newDict false (eval iter X.env) use) Qf X.xe s := by
  have clo : ∀ y ∈ scope.names, y.2 = .free → ∃ c, X.env.cells.lookup y.1 = some c := fun y hy e => (blk.free y hy e).elim (fun k => I.ok.has _ (.inl k)) (fun k => I.ok.has _ (.inr k))
  refine wpAny_comprehension_free (use := use) rfl fold (closure_ok clo) blk.kind (fun y hy e => by rw [blk.uniq y hy, e]) (thn (pit.run pins s σ H _ I start) fun _ _ got => thn got fun _ s2 ⟨it, fp, tn, J, H2, e, I2, T, st2, f2, body⟩ => ?_)
  subst e
  refine wpAny_newObj_type (newEnv_comp ?_)
  generalize hz : s2.heap.objs.size = Z
  have zn : H2 Z = none := I2.hok.fresh (Nat.le_of_eq hz)
  obtain ⟨U, ⟨m0, u0⟩, turns⟩ := body Z zn
  generalize h3 : ({ s2 with heap := s2.heap.push { cls := .type "dict", data := .dict #[] } } : Shared) = s3
  have hp3 : s3.heap = s2.heap.push { cls := .type "dict", data := .dict #[] } := by subst h3; rfl
  have old : ∀ b o, s2.heap.get? b = some o → s3.heap.get? b = some o := fun b o q => by rw [hp3]; exact Heap.get?_push_of_some _ q
  have I3 : Inv X pins σ (upd H2 Z (.dT [])) s3 := by
    subst h3
    subst hz
    exact I2.laid (t' := s2.toks) (fun _ _ q => Heap.get?_push_of_some _ q) (Nat.le_refl _) (dt_empty s2.heap I2.big)
  have f3 : ∀ b ∈ fp, FpOk X pins (upd H2 Z (.dT [])) b ∧ b < s3.heap.objs.size := fun b hb => by
    obtain ⟨o, q, _⟩ := T.obj _ _ st2 b hb
    have lt := Heap.lt_size q
    exact ⟨⟨(upd_ne (hz ▸ Nat.ne_of_lt lt)).trans (f2 b hb).1, (f2 b hb).2⟩, by rw [hp3, Heap.size_push]; exact Nat.lt_succ_of_lt lt⟩
  have st3 := T.keep _ _ _ st2 fun b _ => old b
  have I4 := block_start I3 blk nd f3
  have ptg := ptg s3 (upd H2 Z (.dT [])) s3.heap.objs.size (cellsFrom (s3.heap.objs.size + 1) scope.names (cloFrom X.env.cells scope.names [])) fp
  have pke := pke s3 (upd H2 Z (.dT [])) s3.heap.objs.size (cellsFrom (s3.heap.objs.size + 1) scope.names (cloFrom X.env.cells scope.names [])) fp
  have pve := pve s3 (upd H2 Z (.dT [])) s3.heap.objs.size (cellsFrom (s3.heap.objs.size + 1) scope.names (cloFrom X.env.cells scope.names [])) fp
  have z3 : ∀ b ∈ fp, (upd H2 Z (.dT [])) b = none := fun b hb => (f3 b hb).1.1
  show codeAny _ _ (.compStart _ 0 (.ref it) (.ref Z) (compEnvC scope (cellsFrom (s3.heap.objs.size + 1) scope.names (cloFrom X.env.cells scope.names [])) s3.heap.objs.size X.env)) (compPost _ X.A X.xe use _ (.ref Z) s3.heap.objs.size) { s3 with heap := pushCells (s3.heap.push { cls := .type "dict", data := .dict #[] }) scope.names }
  generalize hce : compEnvC scope (cellsFrom (s3.heap.objs.size + 1) scope.names (cloFrom X.env.cells scope.names [])) s3.heap.objs.size X.env = ce at I4 ptg pke pve ⊢
  have loc : ce.locals = s3.heap.objs.size := by subst hce; rfl
  generalize upd H2 Z (.dT []) = H3 at I3 I4 ptg pke pve u0 z3 f3
  have st4 : tn 0 (pushCells (s3.heap.push { cls := .type "dict", data := .dict #[] }) scope.names) := T.keep _ _ _ st3 fun b _ o q => pushCells_keeps _ _ _ _ (Heap.get?_push_of_some _ q)
  generalize h4 : ({ s3 with heap := pushCells (s3.heap.push { cls := .type "dict", data := .dict #[] }) scope.names } : Shared) = s4 at I4 ⊢
  have st4 : tn 0 s4.heap := by subst h4; exact st4
  have fps : ∀ {σ' : L2.St} {H' : Hp} {s' : Shared}, Inv (X.blk s3 H3 scope ce fp) [] σ' H' s' → (∀ b ∈ fp, H' b = none) → ∀ b ∈ fp, FpOk (X.blk s3 H3 scope ce fp) [] H' b := fun {_ _ _} J n b hb =>
    ⟨n b hb, (J.ok.exf b hb).1, J.ok.exfs b hb, .inl hb, fun x c q => (J.ok.exf b hb).2 x c q, fun p hp => by cases (show p ∈ ([] : List (Addr × Obj)) from hp)⟩
  have run : codeAny (model X.prog X.w) X.A (.compLoop (.DictComp ke ve [⟨tg, iter, [], 0⟩] scope pos) 0 (.ref it) (.ref Z) ce) (compPost (model X.prog X.w) X.A X.xe use Qf (.ref Z) s3.heap.objs.size) s4 := by
    refine compLoop_anyD (fun n s' => ∃ i H', Inv (X.blk s3 H3 scope ce fp) [] (wipe σ (own.map (·.2))) H' s' ∧ tn i s'.heap ∧ (∀ b ∈ fp, H' b = none) ∧ U i n H') ?_ m0 ⟨0, H3, I4, st4, z3, u0⟩
    rintro n s5 ⟨i, H5, I5, st5, z5, u5⟩
    rcases turns i n H5 u5 with ⟨stop, fin⟩ | ⟨go, N, less, step⟩
    · refine thnF (T.done (X.blk s3 H3 scope ce fp) rfl rfl rfl calm i [] s5 _ H5 (fun _ _ => False) I5 (fps I5 z5) st5 stop) fun r s6 ⟨hr, I6⟩ => ?_
      subst hr
      have fr : H5 s3.heap.objs.size = none := loc ▸ I6.free
      have I7 : Inv X pins σ H5 s6 := I3.call' (ch := fp) I6.os I6.base I6.hok I6.bare fun b hb => by
        obtain ⟨⟨_, q1, q2, q3, q4, q5⟩, _⟩ := f3 b hb
        exact ⟨q3, q1, q4, q5⟩
      obtain ⟨m, hn, _⟩ := I6.loc
      exact ends Z s3.heap.objs.size s6 m H5 I7 fin (loc ▸ (show s6.heap.Ns ce.locals m from hn)) (I3.fpOk (Nat.le_refl _) fr)
    · refine thnF (T.item (X.blk s3 H3 scope ce fp) rfl rfl rfl calm i [] s5 _ H5 (fun _ _ => False) I5 (fps I5 z5) st5 go) fun r s6 ⟨u, hr, h6⟩ => ?_
      subst hr
      refine thnF h6 fun _ s7 ⟨x, H7, I7, r7, y7, st7, z7⟩ => ?_
      refine thnF (ptg.run _ s7 _ H7 x u _ (I7.pinned (fps I7 z7) (T.obj _ _ st7)) r7 (step x H7 y7)) fun _ s8 ⟨σ8, H8, I8, w8, q8⟩ => ?_
      refine thnF ((pts_nil (X := X.blk s3 H3 scope ce fp)).run _ s8 σ8 H8 (fun c H' => c = true ∧ H' = H8) I8 ⟨rfl, rfl⟩) fun b s9 ⟨H9, I9, hb, e9⟩ => ?_
      subst hb
      subst e9
      rw [if_pos rfl]
      refine thnF (pke.run _ s9 σ8 H9 _ I9 q8) fun z s10 ⟨yk, H10, I10, r10, q10⟩ => ?_
      refine thnF (pve.run _ s10 σ8 H10 _ I10 q10) fun z2 s11 ⟨yv, H11, I11, r11, kb, kvs, k, ek, hk, hZ, room, nx⟩ => ?_
      subst ek
      obtain rfl : z = Value.ref kb := r10
      refine d_setT (X := X.blk s3 H3 scope ce fp) hu I11 hZ room hk r11 fun s12 I12 => ?_
      obtain ⟨m', lt, u'⟩ := less _ nx
      have keep : ∀ b ∈ fp, ∀ o, s7.heap.get? b = some o → s12.heap.get? b = some o ∧ (upd H11 Z (.dT (putK kvs k yv))) b = none := fun b hb o q =>
        have := I12.pin (b, o) (List.mem_append_right _ (List.mem_append_right _ (mem_pinsAt hb q)))
        ⟨this.1, this.2.1⟩
      refine ⟨m', lt, i + 1, _, (I12.unpinned (pins := [])).weak (by rw [← w8, wipe_length]) (fun j v q => (wipe_some (w8 ▸ q)).1), T.keep _ _ _ st7 fun b hb o q => (keep b hb o q).1, fun b hb => ?_, u'⟩
      obtain ⟨o, q, _⟩ := T.obj _ _ st7 b hb
      exact (keep b hb o q).2
  exact codeAny_compStart_dict run (T.self X.A 0 _ _ _ st4 run)
theorem pe_dct {ke ve tg iter : Expr} {scope : Scope} {own : List (Str × Nat)} {pos : Pos} {wi : TI} {g : TG} {tk tv : TE} (calm : X.calm = true) (hu : X.A.units < cLine) (nd : X.N.Nodup) (pit : PI X tg iter wi) (blk : BlkOk X.N X.env.scope scope own)
    (ptg : ∀ s H C cl fp, PG (X.blk s H scope (compEnvC scope cl C X.env) fp) tg g) (pke : ∀ s H C cl fp, PE (X.blk s H scope (compEnvC scope cl C X.env) fp) ke tk) (pve : ∀ s H C cl fp, PE (X.blk s H scope (compEnvC scope cl C X.env) fp) ve tv) (fold : ∀ x, foldedSetIterable iter X.env x = pure x := by intro _; rfl) :
    PE X (.DictComp ke ve [⟨tg, iter, [], 0⟩] scope pos) (tDct wi g tk tv (own.map (·.2))) := by
  refine ⟨fun pins s σ H Q I start => ?_⟩
  rw [arm_eval_DictComp]
  refine dct_core calm hu nd I pit blk ptg pke pve fold start fun Z C s' m H' I' q hn f => ⟨m, hn, fun h'' sb => ?_⟩
  obtain ⟨g0, g1, g2, g3, g4, g5⟩ := f
  exact ⟨.ref Z, H', I'.turned (t' := s'.toks) (fun b o hb q => (sb.2 b hb).trans q) g0 g1 g3 g4 g5, rfl, q⟩
theorem swD {ke ve : Expr} {gs : List Comprehension} {scope : Scope} {pos py : Pos} {y : Str} {l : Nat} {env : Env} (fn : env.scope.kind = .function) (lo : env.scope.names.lookup y = some .local) (row : (py.line == pos.line) = true)
    (free : (scope.names.any fun (n, k) => n == y && (k == .local || k == .cell)) = false) : swapsWith (.DictComp ke ve gs scope pos) (some (.Name y py)) l env = pure true := by
  have e1 : env.kindOf y = some .local := lo
  have e2 : env.blockKind = .function := by
    unfold Env.blockKind
    rw [fn]
    rfl
  unfold swapsWith
  simp only [e1, e2, free, Expr.pos, row]
  rfl
/-- y = {k: v for ..} -/
theorem ps_setDct {i : Nat} {y : Str} {py spos : Pos} {ke ve tg iter : Expr} {scope : Scope} {own : List (Str × Nat)} {pos : Pos} {wi : TI} {g : TG} {tk tv : TE} (calm : X.calm = true) (hu : X.A.units < cLine) (nd : X.N.Nodup) (at_ : X.N[i]? = some y) (lo : X.env.scope.names.lookup y = some .local)
    (sw : swapsWith (.DictComp ke ve [⟨tg, iter, [], 0⟩] scope pos) (some (.Name y py)) spos.line X.env = pure true) (pit : PI X tg iter wi) (blk : BlkOk X.N X.env.scope scope own)
    (ptg : ∀ s H C cl fp, PG (X.blk s H scope (compEnvC scope cl C X.env) fp) tg g) (pke : ∀ s H C cl fp, PE (X.blk s H scope (compEnvC scope cl C X.env) fp) ke tk) (pve : ∀ s H C cl fp, PE (X.blk s H scope (compEnvC scope cl C X.env) fp) ve tv) (fold : ∀ x, foldedSetIterable iter X.env x = pure x := by intro _; rfl) :
    PS X (.Assign [.Name y py] (.DictComp ke ve [⟨tg, iter, [], 0⟩] scope pos) spos) (tAsg (tDct wi g tk tv (own.map (·.2))) (gName i)) := by
  refine ⟨fun pins s σ H D I start => ?_⟩
  rw [exec_Assign_Name_used _ _ _ _ sw]
  refine wpAny_bind (wpAny_standAt (wpAny_bind ?_))
  show wpAny _ X.A (do let _ ← comprehension (.DictComp ke ve [⟨tg, iter, [], 0⟩] scope pos) scope X.env (firstIterPos [⟨tg, iter, [], 0⟩] pos) newDict false (eval iter X.env) (some (assign (.Name y py) X.env))) _ _ s
  refine wpAny_bind (thn (dct_core (Qf := fun _ s' => SP X pins D .next s') (Q := fun x H1 => gName i x σ H1 D.nx) calm hu nd I pit blk ptg pke pve fold start fun Z C s' m H' I' q hn f => ?_) fun _ s' hq => wpAny_pure (wpAny_pure hq))
  show wpAny _ _ (assign (.Name y py) X.env (.ref Z)) _ _ _
  refine wpAny_assign_Name (store_ok2 (v := V.ref Z) I' nd at_ (.inl lo) rfl (fun s2 I2 ⟨c, sb, hc⟩ => ?_) (.inr lo))
  obtain ⟨g0, g1, g2, g3, g4, g5⟩ := f
  have ne : C ≠ c := hc.elim (fun z => z ▸ g1) fun z e => g4 y c z e.symm
  exact ⟨m, hn.sameBut sb ne, fun h3 sb3 => ⟨_, H', I2.turned (t' := s2.toks) (fun b o hb e => (sb3.2 b hb).trans e) g0 g1 g3 g4 g5, q⟩⟩
/-- y not in d, y any tuple -/
def tDniS (K : PySem.W.Frag) (ty td : TE) : TE := fun σ H Q => ty σ H fun y H1 => td σ H1 fun x H2 => ∃ a b kvs k, x = .ref a ∧ y = .ref b ∧ H2 a = some (.dT kvs) ∧ SqT K H2 b (k.map kV) ∧ Q (.bl (!(valV kvs k).isSome)) H2
theorem pc_dniS {o i : Expr} {td ty : TE} (hu : X.A.units + 1 < cLine) (hi : PE X i ty) (ho : PE X o td) : PC X .NotIn i o (tDniS X.K ty td) := by
  refine ⟨fun pins s σ H Q I h => ?_⟩
  refine thn (hi.run pins s σ H _ I h) fun iv s1 ⟨y, H1, I1, ry, q1⟩ => thn (ho.run pins s1 σ H1 _ I1 q1) fun u s2 ⟨x, H2, I2, rx, a, b, kvs, k, ex, ey, ha, hb, q2⟩ => ?_
  subst ex
  subst ey
  obtain rfl : u = Value.ref a := rx
  obtain rfl : iv = Value.ref b := ry
  obtain ⟨z, hd, xs, rel, dd⟩ := dt_of I2.hok ha
  obtain ⟨its, r, ⟨ob, h1, h2, n, h3⟩, _⟩ := I2.tuple hb
  refine wpAny_notIn_heap (knd := tupleKind (mixKind X.prog X.w)) (tupleKind_room_in1 hu) (show (tupleKind (mixKind X.prog X.w)).is s2.heap k b from ⟨ob, its.toArray, n, h1, h2, h3, by simpa using items_are r⟩) hd dd ?_
  have q := (rel.val k).isSome_eq
  rw [Option.isSome_map] at q
  rw [← q]
  exact ⟨.bl _, H2, I2.tok _, rfl, q2⟩
theorem kDni {K : PySem.W.Frag} {o i : Expr} {td ty : TE} (p : PC X .NotIn i o (tDniS X.K ty td)) (h : X.K = K := by rfl) : PC X .NotIn i o (tDniS K ty td) := h ▸ p
end
def DcN (K : PySem.W.Frag) (C : Fx) (B : Hp) (I : Nat → List (List Key × PyData) → Own → Prop) (σ : L2.St) (ρ : List Sl) (Z : Addr) (i : Nat) : Hp → Prop := fun H => ∃ M kvs w, I i kvs w ∧ Ds K C B σ H M ρ ((Z, .dt kvs) :: w) []
section
variable {K : PySem.W.Frag} {C : Fx} {B : Hp} {σ : L2.St} {H M H' M' : Hp} {ρ ρ' ρ2 : List Sl} {w w' w1 : Own} {tp : List (V × PyData)} {Q R : VK} {te tk tv ty td : TE} {tt : TT} {g : TG} {v y x : V} {ds acc : List PyData} {e d : PyData} {p a b Z : Addr} {vs : List Nat} {i : Nat} {D : Addr} {kvs : List (List Key × PyData)} {ks : List Key}
theorem x_dctL (h : te σ H fun x H1 => ForL K (DcB g tk tv vs Q σ) x H1) : tDct (iList K te) g tk tv vs σ H Q := h
/-- over an own list of tuples that were made at run time, one name -/
theorem x_dctO {k : Nat} (j : Nat) (I : Nat → List (List Key × PyData) → Prop) (S : Ds K C B σ H M ρ w tp) (hj : w[j]? = some (p, .lt ds)) (h0 : I 0 [])
    (hs : ∀ i d kvs, ds[i]? = some d → I i kvs → ∀ Z σ1 H1 M1, Rew K C M σ1 (ρ.set k (.t d)) (wipe σ [k]) (ρ.set k .u) → Ds K C M σ1 H1 M1 (ρ.set k (.t d)) ((Z, .dt kvs) :: w) [] → tk σ1 H1 fun y H3 => tv σ1 H3 (DcA Z (DcN K C M (fun i kvs w1 => I i kvs ∧ w1 = w) (wipe σ [k]) (ρ.set k .u) Z (i + 1)) y))
    (hd : ∀ kvs, I ds.length kvs → ∀ Z H1 M1, Ds K C B σ H1 M1 ρ ((Z, .dt kvs) :: w) tp → Q (.ref Z) H1) : ForL K (DcB (gName k) tk tv [k] Q σ) (.ref p) H := by
  obtain ⟨_, xs, h1, h2⟩ := S.own _ (List.mem_of_getElem? hj)
  have hlen : xs.length = ds.length := Paired.length h2
  have live : ∀ {σ2 : L2.St} {H1 M1 : Hp} {kvs : List (List Key × PyData)} {Z : Addr} {ρ2 : List Sl}, Ds K C M σ2 H1 M1 ρ2 ((Z, .dt kvs) :: w) [] → ∃ xs, H1 p = some (.lst xs) ∧ Paired (TupM K M1) xs ds := fun S1 => by
    obtain ⟨_, ys, a, b⟩ := S1.own _ (List.mem_of_getElem? (l := (_, .dt _) :: w) (i := j + 1) (by simpa using hj))
    exact ⟨ys, a, b⟩
  refine ⟨p, rfl, ⟨xs, .of h1⟩, fun Z hZ => ⟨fun i m H1 => m = ds.length - i ∧ i ≤ ds.length ∧ DcN K C M (fun i kvs w1 => I i kvs ∧ w1 = w) (wipe σ [k]) (ρ.set k .u) Z i H1, ⟨ds.length, rfl, Nat.zero_le _, M, [], w, ⟨h0, rfl⟩, (S.base.clr.wiped [k]).newO (od := .dt []) hZ ⟨[], upd_same, .nil⟩⟩, ?_⟩⟩
  rintro i m H1 ⟨rfl, hi, M1, kvs, w1, ⟨hI, rfl⟩, S1⟩
  obtain ⟨ys, hy, hp⟩ := live S1
  have hl2 : ys.length = ds.length := Paired.length hp
  have sq : SqL K H1 p ys := .of hy
  by_cases lt : i < ds.length
  · refine .inr ⟨⟨ys, ys[i]'(by omega), sq, List.getElem?_eq_getElem (by omega)⟩, DcN K C M (fun i kvs w2 => I i kvs ∧ w2 = w1) (wipe σ [k]) (ρ.set k .u) Z (i + 1), fun H' q => ⟨ds.length - (i + 1), by omega, rfl, lt, q⟩, ?_⟩
    rintro x H' ⟨rfl, yl⟩
    have hx := yl ys sq
    have e := List.getElem?_eq_getElem lt
    have ht : TupM K M1 x ds[i] := paired_at hp hx e
    have S2 := S1.set (i := k) (v := x) (s := .t ds[i]) ht
    rw [List.set_set] at S2
    exact ⟨wipe1, hs i _ kvs e hI Z _ _ M1 rew1 S2⟩
  · have e : i = ds.length := by omega
    exact .inl ⟨⟨ys, sq, by omega⟩, hd kvs (e ▸ hI) Z H1 M1 (S.outof S1)⟩
theorem x_dcA {I : Nat → List (List Key × PyData) → Own → Prop} {σ0 : L2.St} (S : Ds K C B σ H M ρ ((Z, .dt kvs) :: w) tp) (hr : Rew K C B σ ρ σ0 ρ2) (hb : TupM K M (.ref b) (.tuple (ks.map keyD))) (ht : Tm tp v d) (hl : kvs.length < sizeLine) (hI : I (i + 1) (putG kvs ks d) w) : DcA Z (DcN K C B I σ0 ρ2 Z (i + 1)) (.ref b) v H := by
  obtain ⟨_, ws, h1, h2⟩ := S.own _ (List.mem_cons_self ..)
  exact ⟨b, ws, ks, rfl, hb.key S.sub, h1, by rw [ptk_len h2]; exact hl, M, _, w, hI, hr (S.mut (j := 0) (od' := .dt (putG kvs ks d)) rfl ⟨_, upd_same, ptk_put h2 (ht.dp S)⟩)⟩
def DnsK (K : PySem.W.Frag) (Q : VK) (x y : V) (H : Hp) : Prop := ∃ a b kvs k, x = .ref a ∧ y = .ref b ∧ H a = some (.dT kvs) ∧ SqT K H b (k.map kV) ∧ Q (.bl (!(valV kvs k).isSome)) H
theorem x_dns (h : ty σ H fun y H1 => td σ H1 fun x H2 => DnsK K Q x y H2) : tDniS K ty td σ H Q := h
theorem x_dnsK (j : Nat) (S : Ds K C B σ H M ρ w tp) (hj : w[j]? = some (p, .dt kvs)) (hy : Tm tp y (.tuple (ks.map keyD))) (q : Q (.bl (!(valG kvs ks).isSome)) H) : DnsK K Q (.ref p) y H := by
  obtain ⟨_, ws, h1, h2⟩ := S.own _ (List.mem_of_getElem? hj)
  obtain ⟨b, xs, rfl, h3, h4⟩ := dp_tup (hy.dp S)
  rw [dpAll_keys h4] at h3
  have e : (valV ws ks).isSome = (valG kvs ks).isSome := by
    rcases ptk_val h2 ks with ⟨a, b⟩ | ⟨v, d', a, b, c⟩
    · rw [a, b]
      rfl
    · rw [a, b]
      rfl
  exact ⟨p, b, ws, ks, rfl, rfl, h1, Same.seqT S.sub h3, by rw [e]; exact q⟩
end
end Pf

namespace L2
open PySem PySem.Spec PyProof PyProof.Rows
variable {X : Cx}
/-- list + list, whatever they are -/
def rCatL (K : PySem.W.Frag) : R2 := fun x y H Q => ∃ a b xs ys, x = .ref a ∧ y = .ref b ∧ SqL K H a xs ∧ SqL K H b ys ∧ xs.length + ys.length ≤ sizeLine ∧ ∀ p, H p = none → Q (.ref p) (upd H p (.lst (xs ++ ys)))
theorem op_catL : OpR X (binaryOp .Add) (rCatL X.K) := by
  intro pins s σ H x y v u Q I rx ry h
  obtain ⟨a, b, xs, ys, rfl, rfl, ha, hb, hz, q⟩ := h
  cases rx
  cases ry
  obtain ⟨its, r, p1, _⟩ := I.list ha
  obtain ⟨its2, r2, p2, _⟩ := I.list hb
  obtain ⟨⟨cls, dd, data, sl⟩, ho, hc, n, hd⟩ := p1.isList
  obtain ⟨⟨cls2, dd2, data2, sl2⟩, ho2, hc2, n2, hd2⟩ := p2.isList
  simp only at hc hd hc2 hd2
  subst hc hd hc2 hd2
  have e1 := r.length
  have e2 := r2.length
  have ea : its.toArray ++ its2.toArray = (its ++ its2).toArray := by simp
  refine concat_meets ⟨_, ho, rfl⟩ ⟨_, ho2, rfl⟩ noFill_list_add seq_list_add PySem.F.slot_list_add PySem.F.entry_list_add (PySem.F.args_list_add_2 _ _) (list_addW a b its.toArray its2.toArray n n2 dd dd2 sl sl2 (by simp; omega)) ⟨ho, ho2, ?_⟩
  rw [ea]
  exact ⟨.ref _, _, I.lnew (t' := s.toks) (r.append r2) (by rw [List.length_append]; omega), rfl, q _ I.fresh⟩
end L2
namespace Pf
open PySem PySem.Spec PyProof.Rows L2
theorem kCatL {X : Cx} {K : PySem.W.Frag} (h : X.K = K := by rfl) : OpR X (binaryOp .Add) (rCatL K) := h ▸ op_catL
section
variable {K : PySem.W.Frag} {C : Fx} {B : Hp} {σ : L2.St} {H M : Hp} {ρ : List Sl} {w : Own} {tp : List (V × PyData)} {R : VK} {x : V} {p : Addr} {ds es : List PyData}
theorem x_catLO (j : Nat) (S : Ds K C B σ H M ρ w tp) (ht : Tm tp x (.list ds)) (hj : w[j]? = some (p, .lst es)) (hl : ds.length + es.length ≤ sizeLine)
    (z : ∀ a H', Ds K C B σ H' M ρ ((a, .lst (ds ++ es)) :: w) tp → R (.ref a) H') : rCatL K x (.ref p) H R := by
  obtain ⟨q, xs, rfl, h1, h2⟩ := dp_lst (ht.dp S)
  obtain ⟨_, ys, h3, h4⟩ := S.own _ (List.mem_of_getElem? hj)
  exact ⟨q, p, xs, ys, rfl, rfl, S.sub.seq h1, .of h3, by rw [dpAll_len h2, dpAll_len h4]; exact hl, fun a ha => z a _ (S.newL ha (dpAll_cat h2 h4))⟩
theorem x_chain {r r' : R2} {ta tb tc : TE} {Q : VK} (h : ta σ H fun x H1 => tb σ H1 fun y H2 => r x y H2 fun z H3 => ∃ k, z = .bl k ∧ (if k = true then tc σ H3 fun w' H4 => r' y w' H4 Q else Q (.bl false) H3)) : tChain r r' ta tb tc σ H Q := h
end
end Pf

namespace Pf
open PySem PySem.Spec PyProof.Rows L2
/-! concepts with numbers -/
inductive Cp where
  | any | name (n : Int) | not (c : Cp) | both (c d : Cp) | some (r : Int) (b : Bool) (c : Cp)
  deriving DecidableEq
abbrev sK (s : String) : PyData := .str (Str.ofString s)
abbrev roD (r : Int) (b : Bool) : PyData := .tuple [.int r, .bool b]
namespace Cp
def D : Cp → PyData
  | .any => .tuple [sK "any"]
  | .name n => .tuple [sK "name", .int n]
  | .not c => .tuple [sK "not", c.D]
  | .both c d => .tuple [sK "and", c.D, d.D]
  | .some r b c => .tuple [sK "some", roD r b, c.D]
def dp : Cp → Nat
  | .not c => c.dp + 1
  | .both c d => max c.dp d.dp + 1
  | .some _ _ c => c.dp + 1
  | _ => 0
def kind : Cp → String
  | .any => "any"
  | .name _ => "name"
  | .not _ => "not"
  | .both _ _ => "and"
  | .some _ _ _ => "some"
theorem lay : ∀ c : Cp, c.D.canLay0 = true
  | .any => by decide +kernel
  | .name n => by
    show (PyData.canLay0 (sK "name") && (true && true)) = true
    decide +kernel
  | .not c => by
    show (PyData.canLay0 (sK "not") && (c.D.canLay0 && true)) = true
    rw [lay c]
    decide +kernel
  | .both c d => by
    show (PyData.canLay0 (sK "and") && (c.D.canLay0 && (d.D.canLay0 && true))) = true
    rw [lay c, lay d]
    decide +kernel
  | .some r b c => by
    show (PyData.canLay0 (sK "some") && (PyData.canLay0 (roD r b) && (c.D.canLay0 && true))) = true
    rw [lay c, show PyData.canLay0 (roD r b) = true from rfl]
    decide +kernel
theorem depth : ∀ c : Cp, c.D.depth ≤ c.dp + 2
  | .any => by decide
  | .name n => by
    show max 0 (max 0 0) + 1 ≤ 0 + 2
    decide
  | .not c => by
    have := depth c
    show max 0 (max c.D.depth 0) + 1 ≤ c.dp + 1 + 2
    omega
  | .both c d => by
    have h1 := depth c
    have h2 := depth d
    show max 0 (max c.D.depth (max d.D.depth 0)) + 1 ≤ max c.dp d.dp + 1 + 2
    omega
  | .some r b c => by
    have h1 := depth c
    show max 0 (max 1 (max c.D.depth 0)) + 1 ≤ c.dp + 1 + 2
    omega
theorem eqS {s t : Str} : PyData.eqv (.str s) (.str t) = decide (s = t) := by
  show (s == t) = _
  rw [Bool.eq_iff_iff]
  simp
theorem eqI {a b : Int} : PyData.eqv (.int a) (.int b) = decide (a = b) := by
  show (a == b) = _
  rw [Bool.eq_iff_iff]
  simp
theorem eqB {a b : Bool} : PyData.eqv (.bool a) (.bool b) = decide (a = b) := by
  show (a == b) = _
  rw [Bool.eq_iff_iff]
  simp
theorem eqRo {r r' : Int} {b b' : Bool} : PyData.eqv (roD r b) (roD r' b') = (decide (r = r') && decide (b = b')) := by
  show (PyData.eqv (.int r) (.int r') && (PyData.eqv (.bool b) (.bool b') && true)) = _
  rw [eqI, eqB, Bool.and_true]
theorem kindEq {s t : String} (h : s = t) : PyData.eqv (sK s) (sK t) = true := by
  rw [h, eqS]
  exact decide_eq_true rfl
theorem eq : ∀ c d : Cp, PyData.eqv c.D d.D = decide (c = d)
  | .any, .any => by decide +kernel
  | .any, .name _ => by rfl
  | .any, .not _ => by rfl
  | .any, .both _ _ => by rfl
  | .any, .some _ _ _ => by rfl
  | .name _, .any => by rfl
  | .name m, .name n => by
    show (PyData.eqv (sK "name") (sK "name") && (PyData.eqv (.int m) (.int n) && true)) = _
    rw [kindEq rfl, eqI]
    simp
  | .name _, .not _ => by rfl
  | .name _, .both _ _ => by rfl
  | .name _, .some _ _ _ => by rfl
  | .not _, .any => by rfl
  | .not _, .name _ => by rfl
  | .not c, .not d => by
    show (PyData.eqv (sK "not") (sK "not") && (PyData.eqv c.D d.D && true)) = _
    rw [kindEq rfl, eq c d]
    simp
  | .not _, .both _ _ => by rfl
  | .not _, .some _ _ _ => by rfl
  | .both _ _, .any => by rfl
  | .both _ _, .name _ => by rfl
  | .both _ _, .not _ => by rfl
  | .both c c', .both d d' => by
    show (PyData.eqv (sK "and") (sK "and") && (PyData.eqv c.D d.D && (PyData.eqv c'.D d'.D && true))) = _
    rw [kindEq rfl, eq c d, eq c' d']
    simp
  | .both _ _, .some _ _ _ => by rfl
  | .some _ _ _, .any => by rfl
  | .some _ _ _, .name _ => by rfl
  | .some _ _ _, .not _ => by rfl
  | .some _ _ _, .both _ _ => by rfl
  | .some r b c, .some r' b' c' => by
    show (PyData.eqv (sK "some") (sK "some") && (PyData.eqv (roD r b) (roD r' b') && (PyData.eqv c.D c'.D && true))) = _
    rw [kindEq rfl, eqRo, eq c c']
    simp [Bool.and_assoc]
theorem enc : Enc Cp.D := ⟨eq, lay⟩
/-- names and roles are there -/
def Ok (s0 s1 : Int) : Cp → Prop
  | .any => True
  | .name n => 0 ≤ n ∧ n < s0
  | .not c => c.Ok s0 s1
  | .both c d => c.Ok s0 s1 ∧ d.Ok s0 s1
  | .some r _ c => (0 ≤ r ∧ r < s1) ∧ c.Ok s0 s1
end Cp
abbrev szD (a b c : Int) : PyData := .tuple [.int a, .int b, .int c]
end Pf

namespace Pf
open PySem PySem.Spec PyProof.Rows L2
/-! parts of axioms, and questions -/
inductive Pt where
  | below (c d : Cp) | under (r : Int) (b : Bool) (s : Int) (b' : Bool) | is (a : Int) (c : Cp) | has (a n b : Int) | never
  deriving DecidableEq
namespace Pt
def D : Pt → PyData
  | .below c d => .tuple [sK "below", c.D, d.D]
  | .under r b s b' => .tuple [sK "under", roD r b, roD s b']
  | .is a c => .tuple [sK "is", .int a, c.D]
  | .has a n b => .tuple [sK "has", .int a, .int n, .int b]
  | .never => .tuple [sK "never"]
end Pt
abbrev axD (ps : List Pt) : PyData := .tuple (ps.map Pt.D)
/-- names, roles, individuals are there; the concepts are at most so deep -/
def Pt.Ok (s0 s1 s2 : Int) (n : Nat) : Pt → Prop
  | .below c d => (c.Ok s0 s1 ∧ c.dp ≤ n) ∧ d.Ok s0 s1 ∧ d.dp ≤ n
  | .under r _ s _ => (0 ≤ r ∧ r < s1) ∧ 0 ≤ s ∧ s < s1
  | .is a c => (0 ≤ a ∧ a < s2) ∧ c.Ok s0 s1 ∧ c.dp ≤ n
  | .has a r b => (0 ≤ a ∧ a < s2) ∧ (0 ≤ r ∧ r < s1) ∧ 0 ≤ b ∧ b < s2
  | .never => True
def Pt.IsUnder (s1 : Int) : Pt → Prop
  | .under r _ s _ => (0 ≤ r ∧ r < s1) ∧ 0 ≤ s ∧ s < s1
  | _ => False
end Pf

namespace Pf
open PySem PySem.Spec PyProof.Rows L2
open AutoSeq1 (wpAny_loadPart')
/-! enumerate of a tuple -/
theorem meets_enumT (l : Addr) (items : Array Value) (n : Nat) (dct : Option Addr) (sl : Array (Option Value)) :
    Meets (Builtin.«enumerate.__new__» ⟨[.type "enumerate", .ref l], []⟩) (fun _ R s => s.heap.get? l = some { cls := .type "tuple", dict := dct, data := .seq items n, slots := sl } ∧
      R (.ok (.ret (.ref (s.heap.push { cls := .type "tuple_iterator", data := .fields #[.ref l, .int 0 0] }).objs.size)))
        { s with heap := (s.heap.push { cls := .type "tuple_iterator", data := .fields #[.ref l, .int 0 0] }).push { cls := .type "enumerate", data := .fields #[.none, .bool false, .ref s.heap.objs.size, rawInt 0, .none, .none] } }) :=
  .of_wp fun prog w A R s h => by
    obtain ⟨hp, g, d, tk, os⟩ := s
    obtain ⟨hl, h⟩ := h
    have hsub := sub_enumerate
    have hL : Heap.IsTuple (Shared.heap ⟨hp, g, d, tk, os⟩) l items := ⟨_, hl, rfl, n, rfl⟩
    wp_walk using wpAny_loadPart' hl
    refine wpAny_stack_any fun st => wpAny_pure ?_
    split
    · rename_i c _ _ _ _ _
      cases (c == Value.type "enumerate")
      · wp_walk using wpAny_loadPart' hl, wpAny_pyIter_tuple hL
        exact ⟨_, rfl, h⟩
      · wp_walk using wpAny_loadPart' hl, wpAny_pyIter_tuple hL
        exact ⟨_, rfl, h⟩
    · wp_walk using wpAny_loadPart' hl, wpAny_pyIter_tuple hL
      exact ⟨_, rfl, h⟩
theorem call_enumT {prog : Program} {w : World} {A : Around} {E : Value → Shared → Prop} {s : Shared} {l : Addr} {items : Array Value} {Q : Value → Shared → Prop} (hL : s.heap.IsTuple l items)
    (h : ∀ h', IsEnum h' (s.heap.objs.size + 1) s.heap.objs.size 0 .none → h'.IsTupleIter s.heap.objs.size l 0 → (∀ b o, s.heap.get? b = some o → h'.get? b = some o) → Q (.ref (s.heap.objs.size + 1)) { s with heap := h' }) :
    wpAny (model prog w) A (call (.type "enumerate") [.ref l]) Q E s := by
  obtain ⟨⟨c, dct, dt, sl⟩, hl, hc, n, hd⟩ := hL
  replace hc : c = .type "tuple" := hc
  replace hd : dt = .seq items n := hd
  subst hc hd
  refine callType_new F.called_enumerate (by decide) (F.typeCall_enumerate_1 _) (F.newCall_enumerate_1 _) (fun obj => F.args_object_init_2 obj _) F.entry_enumerate_new (meets_enumT l items n dct sl) ⟨hl, ?_⟩
  have hz : (s.heap.push { cls := .type "tuple_iterator", data := .fields #[.ref l, .int 0 0] }).objs.size = s.heap.objs.size + 1 := Heap.size_push ..
  show _ ∧ _
  rw [hz]
  have he : IsEnum ((s.heap.push { cls := .type "tuple_iterator", data := .fields #[.ref l, .int 0 0] }).push { cls := .type "enumerate", data := .fields #[.none, .bool false, .ref s.heap.objs.size, rawInt 0, .none, .none] }) (s.heap.objs.size + 1) s.heap.objs.size 0 .none := by
    have := Heap.get?_push_size (s.heap.push { cls := .type "tuple_iterator", data := .fields #[.ref l, .int 0 0] }) (o := { cls := .type "enumerate", data := .fields #[.none, .bool false, .ref s.heap.objs.size, rawInt 0, .none, .none] }) rfl
    rw [hz] at this
    exact this
  exact ⟨⟨_, he, rfl⟩, h _ he ⟨_, Heap.get?_push_of_some _ (Heap.get?_push_size _ rfl), rfl, rfl⟩ fun b o x => Heap.get?_push_of_some _ (Heap.get?_push_of_some _ x)⟩
/-- the tuple at a, each item in a new pair -/
def IteT (K : PySem.W.Frag) (a : Addr) : It :=
  ⟨fun i H => ∃ (xs : List V) (x : V), SqT K H a xs ∧ xs[i]? = some x, fun i H v H' => ∃ T x, v = .ref T ∧ H T = none ∧ H' = upd H T (.tup [.int (i : Nat), x]) ∧ ∀ xs, SqT K H a xs → xs[i]? = some x, fun i H => ∃ xs : List V, SqT K H a xs ∧ xs.length = i⟩
theorem tup_apart {h : Heap} {a it : Addr} {i : Nat} {its : Array Value} (p : h.IsTuple a its) (hit : h.IsTupleIter it a i) : a ≠ it := fun z => by
  obtain ⟨o, e1, c1, _⟩ := p
  obtain ⟨o', e2, c2, _⟩ := hit
  rw [z] at e1
  rw [e1] at e2
  cases e2
  rw [c1] at c2
  exact absurd c2 (by decide)
theorem turn_enumT {P : Program} {w : World} {K : PySem.W.Frag} {elts : List Expr} {kk : Nat} {tpos : Pos} (a e it : Addr) :
    Turn P w K (.Tuple elts kk tpos) (IteT K a) [e, it] e (fun i h => (∃ old, IsEnum h e it ((i : Nat) : Int) old) ∧ h.IsTupleIter it a i ∧ e ≠ it) where
  mem := by simp
  obj := fun i h st b hb => by
    obtain ⟨⟨old, he⟩, ⟨o, ho, hc, hd⟩, _⟩ := st
    rcases List.mem_cons.mp hb with z | z
    · rw [z]
      exact ⟨_, he, fun v q => nomatch q⟩
    · rw [List.mem_singleton.mp z]
      exact ⟨o, ho, fun v q => by rw [hd] at q; cases q⟩
  keep := fun i h h' st k => let ⟨⟨old, he⟩, hi, hne⟩ := st; ⟨⟨old, k e (by simp) _ he⟩, hi.at fun o q => k it (by simp) o q, hne⟩
  item := by
    intro X hP hw hK hc i pins s σ H E I hf st hg
    subst hP hw hK
    obtain ⟨⟨old, he⟩, hit, hne⟩ := st
    obtain ⟨xs, x, hq, hx⟩ := hg
    obtain ⟨its, rv, p, hz⟩ := I.tuple hq
    obtain ⟨u, hu, ru⟩ := rv.get hx
    have hel : e < s.heap.objs.size := Heap.lt_size he
    have hil : it < s.heap.objs.size := by obtain ⟨_, q, _⟩ := hit; exact Heap.lt_size q
    have hea : e ∉ [it, a] := fun z => by
      rcases List.mem_cons.mp z with z | z
      · exact hne z
      · obtain ⟨o, e1, c1, _⟩ := p
        rw [← List.mem_singleton.mp z, he] at e1
        cases e1
        exact absurd (show Value.type "enumerate" = Value.type "tuple" from c1) (by decide)
    have hlt : i < its.toArray.size := by
      have := (List.getElem?_eq_some_iff.mp hu).1
      simpa using this
    refine wpAny_pyNext_enum_itemD (Draws.tuple (by rw [show X.A.in1.handled = none from I.ok.hd hc]) it a (tup_apart p hit) its.toArray) he ⟨hit, p⟩ hlt hne hea fun x' h' tk hP ho hst hT hsz hk => ?_
    have ex : x' = u := by
      have hP : its.toArray[i]? = some x' := hP
      rw [show its.toArray[i]? = its[i]? by simp, hu] at hP
      exact (Option.some.inj hP).symm
    subst ex
    refine ⟨_, rfl, wpAny_letOwnedTupleGo_enum (s := { s with heap := h', toks := tk + 1 }) ho fun h'' he' sb => ?_⟩
    have hT2 : h''.get? s.heap.objs.size = some { cls := .type "tuple", data := .seq #[.int i tk, x'] } := (sb.2 _ (Nat.ne_of_gt hel)).trans hT
    have new : ObjOk X.prog X.w (upd H s.heap.objs.size (.tup [.int (i : Nat), x])) h'' s.heap.objs.size (.tup [.int (i : Nat), x]) :=
      ⟨by show 2 ≤ sizeLine; decide, [.int i tk, x'], .cons ⟨_, rfl⟩ (.cons ru .nil), ⟨_, hT2, rfl, _, rfl⟩⟩
    have I1 : Inv X pins σ (upd H s.heap.objs.size (.tup [.int (i : Nat), x])) { s with heap := h'', toks := tk + 1 } :=
      I.turnedNew (ch := [e, it]) (fun b ob hb q => (sb.2 b (fun z => hb (by simp [z]))).trans (hk b ob (fun z => hb (by simp [z])) (fun z => hb (by simp [z])) q)) hf (Nat.le_refl _) new
    refine ⟨.ref s.heap.objs.size, _, I1, rfl, ⟨_, x, rfl, I.hok.fresh (Nat.le_refl _), rfl, fun ys hy => by rw [I.tuple_inj hy hq]; exact hx⟩, ⟨⟨x', ?_⟩, hst.1.at fun o q => (sb.2 it (Ne.symm hne)).trans q, hne⟩, fun b hb => ?_⟩
    · have e1 : ((i + 1 : Nat) : Int) = (i : Int) + 1 := by omega
      rw [e1]
      exact he'
    · have hb' : b < s.heap.objs.size := by
        rcases List.mem_cons.mp hb with z | z
        · rw [z]; exact hel
        · rw [List.mem_singleton.mp z]; exact hil
      rw [upd_ne (Nat.ne_of_lt hb')]
      exact (hf b hb).1
  done := by
    intro X hP hw hK hc i pins s σ H E I hf st hg
    subst hP hw hK
    obtain ⟨⟨old, he⟩, hit, hne⟩ := st
    obtain ⟨xs, hq, hx⟩ := hg
    obtain ⟨its, rv, p, hz⟩ := I.tuple hq
    obtain ⟨f0, f1, f2, f3, f4, f5⟩ := hf it (by simp)
    have hl := rv.length
    exact wpAny_pyNext_enum_endD (Draws.tuple (by rw [show X.A.in1.handled = none from I.ok.hd hc]) it a (tup_apart p hit) its.toArray) he ⟨by rw [List.size_toArray, ← hl, hx]; exact hit, p⟩ fun h' eb => ⟨rfl, I.turned (t' := s.toks) (fun b o hb q => eb b o hb q) f0 f1 f3 f4 f5⟩
  self := fun A i s Q E st h => let ⟨⟨_, he⟩, _⟩ := st; wpAny_pyIter_enum he h
def iEnumT (K : PySem.W.Frag) (ta : TA) : TI := fun σ H R => ta σ H fun vs H1 => ∃ a xs, vs = [.ref a] ∧ SqT K H1 a xs ∧ R (IteT K a) H1
theorem pi_enumT {X : Cx} {e : Expr} {ta : TA} {p pos tpos : Pos} {elts : List Expr} {kk : Nat} (hg : Gl X "enumerate") (hm : X.mg "enumerate" = none) (ha : PA X [e] ta) (hs : starEach [e] X.env = [(false, eval e X.env)] := by rfl) :
    PI X (.Tuple elts kk tpos) (.Call (.Name "enumerate" p) [e] [] pos) (iEnumT X.K ta) := by
  refine ⟨fun pins s σ H R I h => ?_⟩
  refine Call_ (ld_blt I hg hm boot_enumerate (PyProof.Rows.callWith_type1 (thn (ha.run pos pins s σ H _ I h) fun us s1 ⟨vs, H1, I1, r1, q1⟩ => ?_) hs rfl))
  obtain ⟨a, xs, ex, hq, q⟩ := q1
  subst ex
  cases r1 with
  | cons r rr =>
    cases rr
    cases r
    obtain ⟨its, rv, p', hz⟩ := I1.tuple hq
    refine call_enumT p' fun h' he hit hk => wpAny_pyIter_enum he ?_
    have I2 : Inv X pins σ H1 { s1 with heap := h' } := I1.kept (t' := s1.toks) hk
    refine ⟨s1.heap.objs.size + 1, [s1.heap.objs.size + 1, s1.heap.objs.size], _, _, H1, rfl, I2, turn_enumT a (s1.heap.objs.size + 1) s1.heap.objs.size, ⟨⟨.none, he⟩, hit, Nat.succ_ne_self _⟩, fun b hb => ?_, q⟩
    have hle : s1.heap.objs.size ≤ b := by
      rcases List.mem_cons.mp hb with z | z
      · rw [z]; exact Nat.le_add_right _ _
      · rw [List.mem_singleton.mp z]; exact Nat.le_refl _
    exact I1.fpOk hle (I1.hok.fresh hle)
section
variable {K : PySem.W.Frag} {C : Fx} {B : Hp} {σ : L2.St} {H M : Hp} {ρ : List Sl} {w : Own} {tp : List (V × PyData)} {a : Addr} {xs : List V} {v : V} {ds : List PyData} {g : TG} {tb : TS} {D : Ends} {X : Cx} {tg e : Expr}
theorem walk_enumT : Walk (IteT K a) xs.length (fun H => SqT K H a xs) (YPair (fun i => some (.int (i : Nat))) (fun i => xs[i]?)) := by
  refine ⟨fun i _ hi q => ⟨xs, xs[i], q, by simp [hi]⟩, fun _ q => ⟨xs, q, rfl⟩, fun i H v H' _ q y => ?_⟩
  obtain ⟨T, x, h1, h2, h3, h4⟩ := y
  exact ⟨T, .int (i : Nat), x, h1, h2, h3, rfl, h4 xs q⟩
def ForET (K : PySem.W.Frag) (R : It → Hp → Prop) (us : List V) (H1 : Hp) : Prop := ∃ a xs, us = [.ref a] ∧ SqT K H1 a xs ∧ R (IteT K a) H1
theorem x_fET {tl : TA} (h : tl σ H fun us H1 => ForET K (ForB g tb D σ) us H1) : tFor (iEnumT K tl) g tb D σ H := h
theorem x_forET (I : Nat → List Sl → Own → Prop) (S : Ds K C B σ H M ρ w tp) (ht : Tm tp v (.tuple ds)) (h0 : I 0 ρ w)
    (hs : ∀ i d ρ1 w1, ds[i]? = some d → I i ρ1 w1 → ∀ u σ1 H1 M1, Ds K C M σ1 H1 M1 ρ1 w1 [(u, .tuple [.int (i : Nat), d])] → g u σ1 H1 fun σ2 H2 => tb { D with nx := Nx K C M I (i + 1), ct := Nx K C M I (i + 1), bk := D.nx } σ2 H2)
    (hd : ∀ ρ1 w1, I ds.length ρ1 w1 → ∀ σ1 H1 M1, Ds K C B σ1 H1 M1 ρ1 w1 [] → D.nx σ1 H1) : ForET K (ForB g tb D σ) [v] H := by
  obtain ⟨p, xs, rfl, h1, h2⟩ := dp_tup (ht.dp S)
  refine ⟨p, xs, rfl, Same.seqT S.sub h1, for_it (walk_enumT (K := K) (a := p) (xs := xs)) (Nx K C M I) ⟨M, ρ, w, h0, S.base.clr⟩ (fun i σ1 H1 _ q => ?_) (fun i x σ1 H1 H2 hx q y => ?_) (fun σ1 H1 q => ?_)⟩
  · obtain ⟨M1, ρ1, w1, _, S1⟩ := q
    exact Same.seqT (S1.bs.trans S1.sub) h1
  · obtain ⟨M1, ρ1, w1, q, S1⟩ := q
    obtain ⟨T, x1, x2, rfl, hT, rfl, e1, e2⟩ := y
    cases e1
    have hi : i < ds.length := by rw [← dpAll_len h2]; exact hx
    have e := List.getElem?_eq_getElem hi
    exact hs i _ ρ1 w1 e q _ σ1 _ _ (S1.newT hT (.cons (.int _) (.cons (Dp.same S1.bs (dpAll_at h2 i x2 _ e2 e)) .nil)))
  · obtain ⟨M1, ρ1, w1, q, S1⟩ := q
    exact hd ρ1 w1 (dpAll_len h2 ▸ q) σ1 H1 M1 (S1.base' S.bs)
theorem kIET {tl : TA} (p : PI X tg e (iEnumT X.K tl)) (h : X.K = K := by rfl) : PI X tg e (iEnumT K tl) := h ▸ p
end
end Pf

namespace Pf
open PySem PySem.Spec PyProof.Rows L2
/-! a comprehension inside a comprehension -/
theorem look_nest {p : Str → NameKind → Bool} {k0 : NameKind} (h0 : k0 = .cell ∨ k0 = .free) : ∀ {names : List (Str × NameKind)} {x : Str}, names.lookup x = some k0 →
    (names.map fun (n, k) => if p n k = true then (n, NameKind.cell) else (n, k)).lookup x = some .cell ∨ (names.map fun (n, k) => if p n k = true then (n, NameKind.cell) else (n, k)).lookup x = some .free
  | [], _, h => by simp at h
  | (n, k) :: r, x, h => by
    have ih := @look_nest p k0 h0 r x
    by_cases e : (x == n) = true
    · rw [List.lookup_cons, e] at h
      have h : k = k0 := Option.some.inj h
      show (((if p n k = true then (n, NameKind.cell) else (n, k)) :: _).lookup x = _) ∨ (((if p n k = true then (n, NameKind.cell) else (n, k)) :: _).lookup x = _)
      by_cases q : p n k = true
      · rw [if_pos q, List.lookup_cons, e]
        exact .inl rfl
      · rw [if_neg q, List.lookup_cons, e, h]
        exact h0.elim (fun z => .inl (by rw [z])) fun z => .inr (by rw [z])
    · have e : (x == n) = false := Bool.eq_false_iff.mpr e
      rw [List.lookup_cons, e] at h
      have ih := ih h
      show (((if p n k = true then (n, NameKind.cell) else (n, k)) :: _).lookup x = _) ∨ (((if p n k = true then (n, NameKind.cell) else (n, k)) :: _).lookup x = _)
      by_cases q : p n k = true
      · rw [if_pos q, List.lookup_cons, e]
        exact ih
      · rw [if_neg q, List.lookup_cons, e]
        exact ih
theorem blk_nest {N : List Str} {scope scope' : Scope} {own : List (Str × Nat)} {cl : List (Str × Addr)} {C : Addr} {env : Env} (h : blkC N scope scope' own = true) : BlkOk N (compEnvC scope cl C env).scope scope' own := by
  have b := blkOk_by h
  refine ⟨b.kind, b.uniq, b.ix, fun y hy e => ?_, b.own⟩
  rcases b.free y hy e with q | q
  · exact look_nest (p := fun n k => k == .free && env.scope.kind == .function && env.kindOf n == some .cell) (.inl rfl) q
  · exact look_nest (p := fun n k => k == .free && env.scope.kind == .function && env.kindOf n == some .cell) (.inr rfl) q
end Pf

namespace Pf
open PySem PySem.Spec PyProof.Rows L2
/-! drawing in the data logic: texts, pop(0), lists of ints -/
def rCatSD : R2 := fun x y H Q => ∃ i j, x = .str i ∧ y = .str j ∧ i.length + j.length ≤ sizeLine ∧ Q (.str (i ++ j)) H
theorem op_catSD {X : Cx} : OpR X (binaryOp .Add) rCatSD := op_add_str
def ForS (R : It → Hp → Prop) (x : V) (H : Hp) : Prop := ∃ s, x = .str s ∧ R (Its s) H
section
variable {K : PySem.W.Frag} {C : Fx} {B : Hp} {σ : L2.St} {H M H' M' : Hp} {ρ ρ' : List Sl} {w w' : Own} {tp : List (V × PyData)} {Q R : VK} {te : TE} {tt : TT} {g : TG} {vs : List Nat} {k i : Nat} {p : Addr} {ds : List PyData} {d : PyData} {A : Prop}
theorem x_catS {a b : List Nat} (hl : a.length + b.length ≤ 1000000) (q : R (.str (T (a ++ b))) H) : rCatSD (.str (T a)) (.str (T b)) H R :=
  ⟨_, _, rfl, rfl, by rw [T_len, T_len]; exact small9 hl, by rw [T_cat]; exact q⟩
theorem x_ixSg (p : Nat → Bool) {z : Str} {i : Int} (h0 : 0 ≤ i) (h1 : i < (z.length : Int)) (hz : z.length ≤ sizeLine) (hc : z.cps.toList.all p = true) (q : ∀ c, p c = true → R (.str (T [c])) H) : rIxS (.str z) (.int i) H R := ix_of p h0 h1 hz hc q
theorem nn_ne {x q : Addr} {od od' : Od} (S : Ds K C B σ H M ρ ((x, od) :: (q, od') :: w) tp) : x ∉ [q] := fun z => (List.nodup_cons.mp S.nd).1 (by rw [List.mem_singleton.mp z]; exact List.mem_cons_self ..)
theorem nn_ne2 {q T : Addr} {a b c : Od} (S : Ds K C B σ H M ρ ((q, a) :: (p, b) :: (T, c) :: w) tp) : q ∉ [T] := fun z => by
  have h := (List.nodup_cons.mp S.nd).1
  rw [List.mem_singleton.mp z] at h
  exact h (List.mem_cons_of_mem _ (List.mem_cons_self ..))
theorem x_lcS (h : te σ H fun x H1 => ForS (LcB g tt tb vs Q σ) x H1) : tLc (iStr te) g tt tb vs σ H Q := h
theorem x_lc1S {l : List Nat} (I : Nat → List PyData → Own → Prop) (S : Ds K C B σ H M ρ w tp) (h0 : I 0 [] w)
    (hs : ∀ i c acc w1, l[i]? = some c → I i acc w1 → ∀ D σ1 H1 M1, Rew K C M σ1 (ρ.set k (.d (.str (T [c])))) (wipe σ [k]) (ρ.set k .u) → Ds K C M σ1 H1 M1 (ρ.set k (.d (.str (T [c])))) ((D, .lst acc) :: w1) [] → tt σ1 H1 fun b H3 => if b = true then te σ1 H3 (LcA (LcN K C M I (wipe σ [k]) (ρ.set k .u) D (i + 1)) D) else LcN K C M I (wipe σ [k]) (ρ.set k .u) D (i + 1) H3)
    (hd : ∀ acc w1, I l.length acc w1 → ∀ D H1 M1, Ds K C B σ H1 M1 ρ ((D, .lst acc) :: w1) tp → Q (.ref D) H1) : ForS (LcB (gName k) tt te [k] Q σ) (.str (T l)) H := by
  refine ⟨_, rfl, fun D hD => lc_txt (LcN K C M I (wipe σ [k]) (ρ.set k .u) D) ?_ (fun i c H1 hx q => ?_) (fun H1 q => ?_)⟩
  · exact ⟨M, [], w, h0, (S.base.clr.wiped [k]).newL hD .nil⟩
  · obtain ⟨M1, acc, w1, q, S1⟩ := q
    have S2 := S1.set (i := k) (v := .str (T [c])) (s := .d (.str (T [c]))) (.str _)
    rw [List.set_set] at S2
    exact ⟨wipe1, hs i c acc w1 hx q D _ H1 M1 rew1 S2⟩
  · obtain ⟨M1, acc, w1, q, S1⟩ := q
    exact hd acc w1 q D H1 M1 (S.outof S1)
theorem dpAll_ofInts : ∀ {ns : List Int}, DpAll K M (ns.map V.int) (ns.map PyData.int)
  | [] => .nil
  | _ :: _ => .cons (.int _) dpAll_ofInts
/-- a list of ints whose ints are told no more, and told again -/
theorem x_openN (j : Nat) (S : Ds K C B σ H M ρ w tp) (hj : w[j]? = some (p, .nums)) (q : ∀ (ns : List Int) (w' : Own), SetAt w j (p, .lst (ns.map .int)) w' → Ds K C B σ H M ρ w' tp → A) : A := by
  obtain ⟨_, ns, h⟩ := S.own _ (List.mem_of_getElem? hj)
  exact q ns _ (SetAt.of (List.getElem?_eq_some_iff.mp hj).1) (S.reOd hj ⟨_, h, dpAll_ofInts⟩)
theorem Ds.toN (j : Nat) {ns : List Int} (S : Ds K C B σ H M ρ w tp) (hj : w[j]? = some (p, .lst (ns.map .int))) (hw : SetAt w j (p, .nums) w') : Ds K C B σ H M ρ w' tp := by
  obtain ⟨_, vs, h1, h2⟩ := S.own _ (List.mem_of_getElem? hj)
  cases dpAll_ints h2
  rw [hw.eq]
  exact S.reOd hj ⟨ns, h1⟩
theorem x_pop0 (j : Nat) (S : Ds K C B σ H M ρ w tp) (h : ρ[i]? = some (.v (.ref p))) (hj : w[j]? = some (p, .lst (d :: ds))) (hw : SetAt w j (p, .lst ds) w') (z : ∀ H', Ds K C B σ H' M ρ w' tp → Giv K M H' Q d) : tBM K "list" rPopAt (tVar i) (tCons (tC (.int 0)) tNil) σ H Q := by
  obtain ⟨v, h1, h2⟩ := S.get h (fun z => nomatch z)
  cases (show v = .ref p from h2)
  obtain ⟨_, xs, h3, h4⟩ := S.own _ (List.mem_of_getElem? hj)
  cases h4 with
  | @cons x r _ _ hx ht =>
    refine ⟨_, h1, .inl ⟨rfl, _, .of h3⟩, p, _, 0, 0, x, rfl, rfl, h3, by decide, by decide, seqIndex?_zero (Nat.succ_pos _), rfl, z _ ?_ _ hx⟩
    rw [hw.eq]
    exact S.mut (od' := .lst ds) hj ⟨_, upd_same, by rw [eraseIdx0]; exact ht⟩
/-! index in rows of names -/
theorem kLixS {X : Cx} {K : PySem.W.Frag} (h : X.K = K := by rfl) : MtR X "list.index" (rIndex K) := h ▸ mt_index
def rTixS (K : PySem.W.Frag) : V → List V → Hp → VK → Prop := fun x xs H Q => ∃ p, ∃ ys : List Str, ∃ z j, x = .ref p ∧ xs = [.str z] ∧ SqT K H p (ys.map V.str) ∧ ys[j]? = some z ∧ (∀ m, m < j → ys[m]? ≠ some z) ∧ Q (.int (j : Nat)) H
theorem kTixS {X : Cx} {K : PySem.W.Frag} (h : X.K = K := by rfl) : MtR X "tuple.index" (rTixS K) := h ▸ mt_tup_index
theorem x_lixS {ta : TE} (h : ta σ H fun x H1 => tyV K "list" x H1 ∧ te σ H1 fun y H2 => rIndex K x [y] H2 Q) : tBM K "list" (rIndex K) ta (tCons te tNil) σ H Q := h
theorem x_tixS {ta : TE} (h : ta σ H fun x H1 => (∃ p, x = .ref p ∧ FzT K H1 p) ∧ te σ H1 fun y H2 => rTixS K x [y] H2 Q) : tBMT K (rTixS K) ta (tCons te tNil) σ H Q := h
theorem dp_strs {xs : List V} {ns : List (List Nat)} (h : DpAll K M xs (ns.map fun n => PyData.str (T n))) : xs = strsV ns := by
  have e : (ns.map fun n => PyData.str (T n)) = (ns.map T).map .str := by rw [List.map_map]; rfl
  rw [e] at h
  rw [dpAll_strs h, List.map_map]
  rfl
theorem x_lixSK {v : V} {ns : List (List Nat)} {s : List Nat} (S : Ds K C B σ H M ρ w tp) (hx : Tm tp v (.list (ns.map fun n => PyData.str (T n)))) (hm : s ∈ ns) (q : Q (.int ((ns.idxOf s : Nat) : Int)) H) : rIndex K v [.str (T s)] H Q := by
  obtain ⟨p, xs, rfl, h1, h2⟩ := dp_lst (hx.dp S)
  cases dp_strs h2
  refine ⟨p, strsV ns, _, ns.idxOf s, _, rfl, rfl, S.sub.seq h1, rfl, by
    unfold strsV
    rw [List.all_map, List.all_eq_true]
    intro x _
    rfl, strs_at hm, beq_self_eq_true _, fun m z hml hz => by
      unfold strsV at hz
      rw [List.getElem?_map] at hz
      cases ht : ns[m]? with
      | none => rw [ht] at hz; cases hz
      | some t =>
        rw [ht] at hz
        cases hz
        exact beq_false_of_ne fun q => strs_ne hml ht (T_inj q), q⟩
theorem x_tixSK {v : V} {ns : List (List Nat)} {s : List Nat} (S : Ds K C B σ H M ρ w tp) (hx : Tm tp v (.tuple (ns.map fun n => PyData.str (T n)))) (hm : s ∈ ns) (q : Q (.int ((ns.idxOf s : Nat) : Int)) H) : rTixS K v [.str (T s)] H Q := by
  obtain ⟨p, xs, rfl, h1, h2⟩ := dp_tup (hx.dp S)
  cases dp_strs h2
  refine ⟨p, ns.map T, T s, ns.idxOf s, rfl, rfl, by
      rw [List.map_map]
      exact Same.seqT S.sub h1, by
      have h1 := List.idxOf_lt_length_of_mem hm
      rw [List.getElem?_map, List.getElem?_eq_getElem h1, List.getElem_idxOf]
      rfl, fun m hml hz => by
      rw [List.getElem?_map] at hz
      cases ht : ns[m]? with
      | none => rw [ht] at hz; cases hz
      | some t =>
        rw [ht] at hz
        exact strs_ne hml ht (T_inj (Option.some.inj hz)), q⟩
/-- a slice of an own list: a new one -/
theorem x_slO (j : Nat) {lo hi : Option Int} {es : List PyData} (S : Ds K C B σ H M ρ w tp) (hj : w[j]? = some (p, .lst ds)) (hc : cutI ds lo hi = es) (q : ∀ l H', Ds K C B σ H' M ρ ((l, .lst es) :: w) tp → R (.ref l) H') : rSlL K (.ref p) lo hi H R := by
  subst hc
  obtain ⟨_, xs, h1, h2⟩ := S.own _ (List.mem_of_getElem? hj)
  refine ⟨p, xs, rfl, .of h1, fun l hl => q l _ (S.newL hl (dpAll_cut h2))⟩
end
end Pf
namespace Pf
open PySem PySem.Spec PyProof.Rows L2
section
variable {K : PySem.W.Frag} {C : Fx} {B : Hp} {σ : L2.St} {H M H' M' : Hp} {ρ ρ' : List Sl} {w w' : Own} {tp : List (V × PyData)} {Q R : VK} {p : Addr}
theorem dk_keys : ∀ {ws : List (Key × V)} {kvs : List (Key × PyData)}, Paired (PK K M) ws kvs → DpAll K M (ws.map fun kv => kV kv.1) (kvs.map fun kv => keyD kv.1)
  | [], _, h => by
    cases h with
    | nil => exact .nil
  | (k, v) :: ws, _, h => by
    cases h with
    | @cons _ q _ r h1 h2 =>
      have e : k = q.1 := h1.1
      refine .cons ?_ (dk_keys h2)
      show Dp K M (kV k) (keyD q.1)
      rw [e]
      cases q.1 with
      | inl i => exact .int i
      | inr s => exact .str s
/-- list(d): its keys -/
theorem x_lsD {kvs : List (Key × PyData)} (j : Nat) (S : Ds K C B σ H M ρ w tp) (hj : w[j]? = some (p, .dk kvs)) (q : ∀ l H', Ds K C B σ H' M ρ ((l, .lst (kvs.map fun kv => keyD kv.1)) :: w) tp → R (.ref l) H') : rListD [.ref p] H R := by
  obtain ⟨_, ws, h1, h2⟩ := S.own _ (List.mem_of_getElem? hj)
  exact ⟨p, ws, rfl, h1, fun l hl => q l _ (S.newL hl (dk_keys h2))⟩
end
end Pf
namespace Pf
open PySem PySem.Spec PyProof.Rows L2
/-! the names that are declared: an own tuple of three plain tuples -/
section
variable {K : PySem.W.Frag} {C : Fx} {B : Hp} {σ : L2.St} {H M : Hp} {ρ : List Sl} {w : Own} {tp : List (V × PyData)} {R Q : VK} {a : Addr}
theorem strs_dp {ns : List (List Nat)} : DpAll K M (strsV ns) (ns.map fun n => PyData.str (T n)) := by
  induction ns with
  | nil => exact .nil
  | cons n r ih => exact .cons (.str _) ih
theorem x_ixNT {X Y Z W : List (List Nat)} {i : Int} (j : Nat) (S : Ds K C B σ H M ρ w tp) (hj : w[j]? = some (a, .nt X Y Z)) (hi : atI [X, Y, Z] i = some W) (q : ∀ t, FzT K M t → Ds K C B σ H M ρ w ((.ref t, .tuple (W.map fun n => PyData.str (T n))) :: tp) → R (.ref t) H) : rIxT K (.ref a) (.int i) H R := by
  obtain ⟨_, t0, t1, t2, h0, ⟨h1, k1⟩, ⟨h2, k2⟩, h3, k3⟩ := S.own _ (List.mem_of_getElem? hj)
  have go : ∀ t, atI [V.ref t0, .ref t1, .ref t2] i = some (.ref t) → SqT K M t (strsV W) → FzT K M t → rIxT K (.ref a) (.int i) H R := fun t e s f => ⟨a, _, i, _, rfl, rfl, .of h0, e, q t f (S.push (.tup s strs_dp))⟩
  unfold atI at hi
  cases e : ixN [X, Y, Z].length i with
  | none => rw [e] at hi; cases hi
  | some k =>
    rw [e] at hi
    have e2 : ∀ vs : List V, vs.length = 3 → atI vs i = vs[k]? := fun vs hv => by unfold atI; rw [hv, show ixN 3 i = some k from e]; rfl
    match k, hi with
    | 0, hi => cases Option.some.inj hi; exact go t0 (e2 _ rfl) h1 k1
    | 1, hi => cases Option.some.inj hi; exact go t1 (e2 _ rfl) h2 k2
    | 2, hi => cases Option.some.inj hi; exact go t2 (e2 _ rfl) h3 k3
    | k + 3, hi => cases hi
end
end Pf
namespace Pf
open PySem PySem.Spec PyProof.Rows L2
section
variable {K : PySem.W.Frag} {C : Fx} {B : Hp} {σ : L2.St} {H M : Hp} {ρ ρ' : List Sl} {w : Own} {tp : List (V × PyData)} {a : Addr} {d : PyData} {i : Nat}
theorem x_gnPl {q : L2.St → Hp → Prop} (S : Ds K C B σ H M ρ w tp) (hf : FzT K M a) (ht : Tm tp (.ref a) d) (hs : SetAt ρ i (.p d) ρ') (h : ∀ σ', Ds K C B σ' H M ρ' w tp → q σ' H) : gName i (.ref a) σ H q := by
  rw [hs.eq] at h
  exact h _ (S.set (s := .p d) ⟨ht.dp S, a, rfl, hf⟩)
end
end Pf

namespace Pf
open PySem PySem.Spec PyProof.Rows L2
def topS (i : Nat) : Stmt := PySem.Challenge.pw_ontoworks_k54_whole_meaning.main.body.getD i (.Pass ⟨0, 0, 0, 0⟩)
abbrev K_ANYTHING : List Str := [Str.ofString "any"]
def K_NOTHING : PyData := .tuple [.str (Str.ofString "not"), .tuple [.str (Str.ofString "any")]]
abbrev s_inverse : Stmt := topS 1
theorem sc_inverse : FnScope ["role", "number", "back"] ["role"] (defScope s_inverse) := ⟨rfl, rfl, rfl, by decide +kernel, rfl, by decide +kernel, by decide +kernel⟩
abbrev s_core_concept : Stmt := topS 5
theorem sc_core_concept : FnScope ["names", "concept", "kind", "first", "second"] ["names", "concept"] (defScope s_core_concept) := ⟨rfl, rfl, rfl, by decide +kernel, rfl, by decide +kernel, by decide +kernel⟩
abbrev s_core_question : Stmt := topS 6
theorem sc_core_question : FnScope ["names", "question", "kind", "individuals", "_", "first", "role", "second"] ["names", "question"] (defScope s_core_question) := ⟨rfl, rfl, rfl, by decide +kernel, rfl, by decide +kernel, by decide +kernel⟩
abbrev s_parts : Stmt := topS 7
theorem sc_parts : FnScope ["names", "statement", "kind", "first", "second"] ["names", "statement"] (defScope s_parts) := ⟨rfl, rfl, rfl, by decide +kernel, rfl, by decide +kernel, by decide +kernel⟩
abbrev s_role : Stmt := topS 8
theorem sc_role : FnScope ["names", "role", "name", "back"] ["names", "role"] (defScope s_role) := ⟨rfl, rfl, rfl, by decide +kernel, rfl, by decide +kernel, by decide +kernel⟩
abbrev s_parts_of_two_concepts : Stmt := topS 9
theorem sc_parts_of_two_concepts : FnScope ["names", "statement", "kind", "first", "second"] ["names", "statement"] (defScope s_parts_of_two_concepts) := ⟨rfl, rfl, rfl, by decide +kernel, rfl, by decide +kernel, by decide +kernel⟩
abbrev s_typing : Stmt := topS 10
theorem sc_typing : FnScope ["names", "role", "concept"] ["names", "role", "concept"] (defScope s_typing) := ⟨rfl, rfl, rfl, by decide +kernel, rfl, by decide +kernel, by decide +kernel⟩
abbrev s_members : Stmt := topS 12
theorem sc_members : FnScope ["model", "concept", "thing", "inside"] ["model", "concept"] (defScope s_members) := ⟨rfl, rfl, rfl, by decide +kernel, rfl, by decide +kernel, by decide +kernel⟩
abbrev s_part_fault : Stmt := topS 13
theorem sc_part_fault : FnScope ["model", "part", "kind", "ones", "thing", "_", "first", "number", "second", "pair"] ["model", "part"] (defScope s_part_fault) := ⟨rfl, rfl, rfl, by decide +kernel, rfl, by decide +kernel, by decide +kernel⟩
abbrev s_breaks : Stmt := topS 14
theorem sc_breaks : FnScope ["model", "ontology", "places", "axioms", "_", "broken", "place", "fault"] ["model", "ontology", "places"] (defScope s_breaks) := ⟨rfl, rfl, rfl, by decide +kernel, rfl, by decide +kernel, by decide +kernel⟩
abbrev s_answers : Stmt := topS 15
theorem sc_answers : FnScope ["model", "question"] ["model", "question"] (defScope s_answers) := ⟨rfl, rfl, rfl, by decide +kernel, rfl, by decide +kernel, by decide +kernel⟩
abbrev s_belonging : Stmt := topS 16
theorem sc_belonging : FnScope ["model", "concept", "things", "kind", "first", "second", "thing", "looked", "found", "other", "names", "inside"] ["model", "concept"] (defScope s_belonging) := ⟨rfl, rfl, rfl, by decide +kernel, rfl, by decide +kernel, by decide +kernel⟩
abbrev s_pairs : Stmt := topS 17
theorem sc_pairs : FnScope ["model", "role", "number", "back", "pairs", "name", "first", "second"] ["model", "role"] (defScope s_pairs) := ⟨rfl, rfl, rfl, by decide +kernel, rfl, by decide +kernel, by decide +kernel⟩
abbrev s_below_fault : Stmt := topS 18
theorem sc_below_fault : FnScope ["model", "lower", "upper", "inside", "thing"] ["model", "lower", "upper"] (defScope s_below_fault) := ⟨rfl, rfl, rfl, by decide +kernel, rfl, by decide +kernel, by decide +kernel⟩
abbrev s_under_fault : Stmt := topS 19
theorem sc_under_fault : FnScope ["model", "lower", "upper", "pair", "there"] ["model", "lower", "upper"] (defScope s_under_fault) := ⟨rfl, rfl, rfl, by decide +kernel, rfl, by decide +kernel, by decide +kernel⟩
abbrev s_first_fault : Stmt := topS 20
theorem sc_first_fault : FnScope ["model", "axiom", "number", "part", "things"] ["model", "axiom"] (defScope s_first_fault) := ⟨rfl, rfl, rfl, by decide +kernel, rfl, by decide +kernel, by decide +kernel⟩
abbrev s_law_cell : Stmt := topS 22
theorem sc_law_cell : FnScope ["script", "k"] ["script", "k"] (defScope s_law_cell) := ⟨rfl, rfl, rfl, by decide +kernel, rfl, by decide +kernel, by decide +kernel⟩
abbrev s_law_draws : Stmt := topS 23
theorem sc_law_draws : FnScope ["script", "k", "count", "cell", "rest", "seed", "found", "at"] ["script", "k", "count"] (defScope s_law_draws) := ⟨rfl, rfl, rfl, by decide +kernel, rfl, by decide +kernel, by decide +kernel⟩
abbrev s_law_take : Stmt := topS 24
theorem sc_law_take : FnScope ["draws", "many"] ["draws", "many"] (defScope s_law_take) := ⟨rfl, rfl, rfl, by decide +kernel, rfl, by decide +kernel, by decide +kernel⟩
abbrev s_law_frame : Stmt := topS 25
theorem sc_law_frame : FnScope ["draws", "left", "k", "right"] ["draws"] (defScope s_law_frame) := ⟨rfl, rfl, rfl, by decide +kernel, rfl, by decide +kernel, by decide +kernel⟩
abbrev s_law_names : Stmt := topS 26
theorem sc_law_names : FnScope ["draws", "frame", "rows", "marks", "mark"] ["draws"] (defScope s_law_names) := ⟨rfl, rfl, rfl, by decide +kernel, rfl, by decide +kernel, by decide +kernel⟩
abbrev s_law_role : Stmt := topS 27
theorem sc_law_role : FnScope ["draws", "names", "sizes", "name"] ["draws", "names", "sizes"] (defScope s_law_role) := ⟨rfl, rfl, rfl, by decide +kernel, rfl, by decide +kernel, by decide +kernel⟩
abbrev s_law_concept : Stmt := topS 28
theorem sc_law_concept : FnScope ["draws", "names", "sizes", "depth", "kind", "role", "word", "left"] ["draws", "names", "sizes", "depth"] (defScope s_law_concept) := ⟨rfl, rfl, rfl, by decide +kernel, rfl, by decide +kernel, by decide +kernel⟩
abbrev s_law_statement : Stmt := topS 29
theorem sc_law_statement : FnScope ["draws", "names", "sizes", "depth", "kind", "one", "role", "word", "left"] ["draws", "names", "sizes", "depth"] (defScope s_law_statement) := ⟨rfl, rfl, rfl, by decide +kernel, rfl, by decide +kernel, by decide +kernel⟩
abbrev s_law_question : Stmt := topS 30
theorem sc_law_question : FnScope ["draws", "names", "sizes", "depth", "kind", "one", "role", "left"] ["draws", "names", "sizes", "depth"] (defScope s_law_question) := ⟨rfl, rfl, rfl, by decide +kernel, rfl, by decide +kernel, by decide +kernel⟩
abbrev s_law_sizes : Stmt := topS 31
theorem sc_law_sizes : FnScope ["draws", "concepts", "roles"] ["draws"] (defScope s_law_sizes) := ⟨rfl, rfl, rfl, by decide +kernel, rfl, by decide +kernel, by decide +kernel⟩
abbrev s_law_same : Stmt := topS 32
theorem sc_law_same : FnScope ["actual", "due", "k"] ["actual", "due"] (defScope s_law_same) := ⟨rfl, rfl, rfl, by decide +kernel, rfl, by decide +kernel, by decide +kernel⟩
abbrev s_law_model : Stmt := topS 33
theorem sc_law_model : FnScope ["script", "first", "sizes", "most", "draws", "many", "things", "links", "thing", "inner", "role", "start", "end", "ones", "one", "name"] ["script", "first", "sizes", "most"] (defScope s_law_model) := ⟨rfl, rfl, rfl, by decide +kernel, rfl, by decide +kernel, by decide +kernel⟩
abbrev s_law_linked : Stmt := topS 34
theorem sc_law_linked : FnScope ["model", "names", "role", "first", "second", "number"] ["model", "names", "role", "first", "second"] (defScope s_law_linked) := ⟨rfl, rfl, rfl, by decide +kernel, rfl, by decide +kernel, by decide +kernel⟩
abbrev s_law_belongs : Stmt := topS 35
theorem sc_law_belongs : FnScope ["model", "names", "concept", "many", "kind", "thing", "left", "right", "inner", "rows", "behind", "row", "other"] ["model", "names", "concept"] (defScope s_law_belongs) := ⟨rfl, rfl, rfl, by decide +kernel, rfl, by decide +kernel, by decide +kernel⟩
abbrev s_law_true : Stmt := topS 36
theorem sc_law_true : FnScope ["model", "names", "tree", "kind", "things", "left", "right", "thing", "inside", "role", "other", "first", "second"] ["model", "names", "tree"] (defScope s_law_true) := ⟨rfl, rfl, rfl, by decide +kernel, rfl, by decide +kernel, by decide +kernel⟩
abbrev s_law_told_names : Stmt := topS 37
theorem sc_law_told_names : FnScope ["names", "sizes"] ["names", "sizes"] (defScope s_law_told_names) := ⟨rfl, rfl, rfl, by decide +kernel, rfl, by decide +kernel, by decide +kernel⟩
abbrev s_law : Stmt := topS 38
theorem sc_law : FnScope ["script", "draws", "names", "sizes", "told", "model", "concept", "inside", "due", "tree", "actual", "asked", "thing"] ["script"] (defScope s_law) := ⟨rfl, rfl, rfl, by decide +kernel, rfl, by decide +kernel, by decide +kernel⟩
local macro_rules | `(tactic| walk_at "tm") => `(tactic| (first | exact Tm.i _ | exact Tm.b _ | exact Tm.s _ | exact Tm.n | (apply Tm.m; (repeat (first | exact List.mem_cons_self .. | apply List.mem_cons_of_mem)); (first | done | fail))))
local macro_rules | `(tactic| walk_at "tma") => `(tactic| ((repeat (first | exact TmAll.nil | apply TmAll.cons (by first | exact Tm.i _ | exact Tm.b _ | exact Tm.s _ | exact Tm.n | (apply Tm.m; (repeat (first | exact List.mem_cons_self .. | apply List.mem_cons_of_mem)); (first | done | fail))))); (first | done | fail)))
local macro_rules | `(tactic| walk_at "slt") => `(tactic| ((repeat (first | exact SlT.nil | apply SlT.p (by assumption) (by first | exact Tm.i _ | exact Tm.b _ | exact Tm.s _ | exact Tm.n | (apply Tm.m; (repeat (first | exact List.mem_cons_self .. | apply List.mem_cons_of_mem)); (first | done | fail))) | apply SlT.d (by first | exact Tm.i _ | exact Tm.b _ | exact Tm.s _ | exact Tm.n | (apply Tm.m; (repeat (first | exact List.mem_cons_self .. | apply List.mem_cons_of_mem)); (first | done | fail))) | apply SlT.v)); (first | done | fail)))
local macro_rules | `(tactic| walk_at "set") => `(tactic| ((repeat (first | exact SetAt.z | apply SetAt.s)); (first | done | fail)))
local macro_rules | `(tactic| walk_at "le") => `(tactic| ((repeat (first | exact SlLe.nil | apply SlLe.same | apply SlLe.less)); (first | done | fail)))
local macro_rules | `(tactic| walk_at "ar") => `(tactic| (with_unfolding_all first | decide | (dsimp only; omega) | (refine .inl ?_; constructor <;> first | decide | omega) | (refine .inr ?_; constructor <;> first | decide | omega) | (constructor <;> first | decide | omega | (constructor <;> first | decide | omega)) | assumption))
local macro_rules | `(tactic| walk_at "in") => `(tactic| (rename Ds _ _ _ _ _ _ _ _ _ => S1; simp only [List.map_nil, List.map_cons, List.length_cons, List.length_nil, Nat.zero_add, Nat.reduceAdd, Nat.reduceSub, Nat.sub_self, List.replicate_zero, List.replicate_succ, List.append_nil, List.cons_append, List.nil_append] at S1; generalize L2.start _ _ = σ0 at S1 ⊢))
local macro_rules | `(tactic| walk_at "dl") => `(tactic| repeat (first
  | (with_reducible refine h_var ?_; first | with_reducible refine x_var (by assumption) (by with_unfolding_all rfl) ?_ | with_reducible refine x_varV (by assumption) (by with_unfolding_all rfl) ?_ | (with_reducible refine x_varP (by assumption) (by with_unfolding_all rfl) ?_; intro _ _ _) | (with_reducible refine x_varT (by assumption) (by with_unfolding_all rfl) ?_; intro _ _ _))
  | (with_reducible refine h_giv ?_; first | with_reducible refine x_gI ?_ | with_reducible refine x_gB ?_ | with_reducible refine x_gS ?_ | with_reducible refine x_gN ?_ | (with_reducible refine x_gP (by assumption) ?_; intro _ _))
  | with_reducible refine x_op ?_
  | (with_reducible refine h_cR ?_; first | (with_reducible refine x_cR (by assumption) (by assumption) ?_; intro _) | with_reducible refine x_c ?_)
  | with_reducible refine x_c ?_
  | with_reducible refine x_I0 ?_
  | with_reducible refine x_cons ?_
  | with_reducible refine x_nil ?_
  | with_reducible refine x_tup ?_
  | (with_reducible refine h_tupK ?_; first | (with_reducible refine x_tupK (by assumption) (by (repeat (first | exact TmAll.nil | apply TmAll.cons (by first | exact Tm.i _ | exact Tm.b _ | exact Tm.s _ | exact Tm.n | (apply Tm.m; (repeat (first | exact List.mem_cons_self .. | apply List.mem_cons_of_mem)); (first | done | fail))))); (first | done | fail)) (by with_unfolding_all rfl) ?_; intro _ _ _ _))
  | (with_reducible refine h_eq ?_; first | with_reducible refine x_eqI ?_ | with_reducible refine x_eqS ?_ | with_reducible refine x_eqB ?_)
  | (with_reducible refine h_ne ?_; first | with_reducible refine x_neI ?_ | with_reducible refine x_neS ?_ | with_reducible refine x_neB ?_)
  | (with_reducible refine h_ixT ?_; first | with_reducible refine x_ixT (by assumption) (by first | exact Tm.i _ | exact Tm.b _ | exact Tm.s _ | exact Tm.n | (apply Tm.m; (repeat (first | exact List.mem_cons_self .. | apply List.mem_cons_of_mem)); (first | done | fail))) (by with_unfolding_all rfl) ?_)
  | (with_reducible refine h_ixL ?_; first | with_reducible refine x_ixL (by assumption) (by first | exact Tm.i _ | exact Tm.b _ | exact Tm.s _ | exact Tm.n | (apply Tm.m; (repeat (first | exact List.mem_cons_self .. | apply List.mem_cons_of_mem)); (first | done | fail))) (by with_unfolding_all rfl) ?_ | with_reducible refine x_ixO 0 (by assumption) (by with_unfolding_all rfl) (by with_unfolding_all rfl) ?_ | with_reducible refine x_ixO 1 (by assumption) (by with_unfolding_all rfl) (by with_unfolding_all rfl) ?_ | with_reducible refine x_ixO 2 (by assumption) (by with_unfolding_all rfl) (by with_unfolding_all rfl) ?_ | with_reducible refine x_ixH 0 (by assumption) (by with_unfolding_all rfl) (by with_unfolding_all rfl) ?_ | with_reducible refine x_ixH 1 (by assumption) (by with_unfolding_all rfl) (by with_unfolding_all rfl) ?_ | with_reducible refine x_ixH 2 (by assumption) (by with_unfolding_all rfl) (by with_unfolding_all rfl) ?_)
  | (with_reducible refine h_I ?_; first | with_reducible refine x_I (by with_unfolding_all first | decide | (dsimp only; omega) | (refine .inl ?_; constructor <;> first | decide | omega) | (refine .inr ?_; constructor <;> first | decide | omega) | (constructor <;> first | decide | omega | (constructor <;> first | decide | omega)) | assumption) ?_)
  | with_reducible refine x_test ?_
  | with_reducible refine x_exB ?_
  | (with_reducible refine h_ite ?_; first | (with_reducible refine x_ifNoT ?_) | (with_reducible refine x_ifNoF ?_) | (with_reducible refine x_ifSn ?_) | (with_reducible refine x_ifSs ?_) | with_reducible refine x_ifT (by decide +kernel) ?_ | with_reducible refine x_ifF (by decide +kernel) ?_)
  | (with_reducible refine h_gn ?_; first | (with_reducible refine x_gnT (by assumption) (by assumption) (by (repeat (first | exact SetAt.z | apply SetAt.s)); (first | done | fail)) ?_; intro _ _; try dsimp only) | (with_reducible refine x_gn (by assumption) (by first | exact Tm.i _ | exact Tm.b _ | exact Tm.s _ | exact Tm.n | (apply Tm.m; (repeat (first | exact List.mem_cons_self .. | apply List.mem_cons_of_mem)); (first | done | fail))) (by (repeat (first | exact SetAt.z | apply SetAt.s)); (first | done | fail)) ?_; intro _ _; try dsimp only) | (with_reducible refine x_gnV (by assumption) (by (repeat (first | exact SetAt.z | apply SetAt.s)); (first | done | fail)) ?_; intro _ _; try dsimp only))
  | (with_reducible refine x_seqN ?_; intro _ _; try dsimp only)
  | with_reducible refine x_asg ?_
  | with_reducible refine x_ifS ?_
  | with_reducible refine x_ret ?_
  | with_reducible refine x_drop ?_
  | (with_reducible refine x_next ?_; try dsimp only)
  | (with_reducible refine x_cont ?_; try dsimp only)
  | (with_reducible refine x_break ?_; try dsimp only)
  | with_reducible refine x_un ?_
  | with_reducible refine x_U ?_
  | with_reducible refine x_tB ?_
  | with_reducible refine x_not ?_
  | with_reducible refine x_and ?_
  | with_reducible refine x_or ?_
  | with_reducible refine x_andV ?_
  | with_reducible refine x_orV ?_
  | with_reducible refine x_notV ?_
  | with_reducible refine x_ifE ?_
  | with_reducible refine x_notT ?_
  | with_reducible refine x_truD ?_
  | with_reducible refine x_truI ?_
  | with_reducible refine x_truB ?_
  | with_reducible refine x_lst ?_
  | (with_reducible refine h_tru ?_; first | with_reducible refine x_truT (by assumption) (by first | exact Tm.i _ | exact Tm.b _ | exact Tm.s _ | exact Tm.n | (apply Tm.m; (repeat (first | exact List.mem_cons_self .. | apply List.mem_cons_of_mem)); (first | done | fail))) ?_ | with_reducible refine x_truL (by assumption) (by first | exact Tm.i _ | exact Tm.b _ | exact Tm.s _ | exact Tm.n | (apply Tm.m; (repeat (first | exact List.mem_cons_self .. | apply List.mem_cons_of_mem)); (first | done | fail))) ?_ | with_reducible refine x_truO 0 (by assumption) (by with_unfolding_all rfl) ?_ | with_reducible refine x_truO 1 (by assumption) (by with_unfolding_all rfl) ?_ | with_reducible refine x_truO 2 (by assumption) (by with_unfolding_all rfl) ?_)
  | (with_reducible refine h_lstK ?_; first | (with_reducible refine x_lstK (by assumption) (by (repeat (first | exact TmAll.nil | apply TmAll.cons (by first | exact Tm.i _ | exact Tm.b _ | exact Tm.s _ | exact Tm.n | (apply Tm.m; (repeat (first | exact List.mem_cons_self .. | apply List.mem_cons_of_mem)); (first | done | fail))))); (first | done | fail)) (by with_unfolding_all rfl) ?_; intro _ _ _))
  | with_reducible refine x_cb ?_
  | with_reducible refine x_tcall ?_
  | with_reducible refine x_gSub ?_
  | with_reducible refine x_sl ?_
  | with_reducible refine x_noPart ?_
  | with_reducible refine x_part ?_
  | with_reducible refine x_exI ?_
  | (with_reducible refine h_slA ?_; first | (with_reducible refine x_slA (by assumption) (by first | exact Tm.i _ | exact Tm.b _ | exact Tm.s _ | exact Tm.n | (apply Tm.m; (repeat (first | exact List.mem_cons_self .. | apply List.mem_cons_of_mem)); (first | done | fail))) (by with_unfolding_all rfl) ?_; intro _ _ _ _))
  | (with_reducible refine h_slL ?_; first | (with_reducible refine x_slL (by assumption) (by first | exact Tm.i _ | exact Tm.b _ | exact Tm.s _ | exact Tm.n | (apply Tm.m; (repeat (first | exact List.mem_cons_self .. | apply List.mem_cons_of_mem)); (first | done | fail))) (by with_unfolding_all rfl) ?_; intro _ _ _))
  | (with_reducible refine h_in ?_; first | with_reducible refine s_in2 (by assumption) (by first | exact Tm.i _ | exact Tm.b _ | exact Tm.s _ | exact Tm.n | (apply Tm.m; (repeat (first | exact List.mem_cons_self .. | apply List.mem_cons_of_mem)); (first | done | fail))) ?_ | with_reducible refine s_ni2 (by assumption) (by first | exact Tm.i _ | exact Tm.b _ | exact Tm.s _ | exact Tm.n | (apply Tm.m; (repeat (first | exact List.mem_cons_self .. | apply List.mem_cons_of_mem)); (first | done | fail))) ?_ | with_reducible refine s_in3 (by assumption) (by first | exact Tm.i _ | exact Tm.b _ | exact Tm.s _ | exact Tm.n | (apply Tm.m; (repeat (first | exact List.mem_cons_self .. | apply List.mem_cons_of_mem)); (first | done | fail))) ?_ | with_reducible refine i_in2 (by assumption) (by first | exact Tm.i _ | exact Tm.b _ | exact Tm.s _ | exact Tm.n | (apply Tm.m; (repeat (first | exact List.mem_cons_self .. | apply List.mem_cons_of_mem)); (first | done | fail))) ?_ | with_reducible refine i_ni2 (by assumption) (by first | exact Tm.i _ | exact Tm.b _ | exact Tm.s _ | exact Tm.n | (apply Tm.m; (repeat (first | exact List.mem_cons_self .. | apply List.mem_cons_of_mem)); (first | done | fail))) ?_ | with_reducible refine i_in3 (by assumption) (by first | exact Tm.i _ | exact Tm.b _ | exact Tm.s _ | exact Tm.n | (apply Tm.m; (repeat (first | exact List.mem_cons_self .. | apply List.mem_cons_of_mem)); (first | done | fail))) ?_ | with_reducible refine i_in1 (by assumption) (by first | exact Tm.i _ | exact Tm.b _ | exact Tm.s _ | exact Tm.n | (apply Tm.m; (repeat (first | exact List.mem_cons_self .. | apply List.mem_cons_of_mem)); (first | done | fail))) ?_ | with_reducible refine i_inT (by assumption) (by first | exact Tm.i _ | exact Tm.b _ | exact Tm.s _ | exact Tm.n | (apply Tm.m; (repeat (first | exact List.mem_cons_self .. | apply List.mem_cons_of_mem)); (first | done | fail))) ?_ | with_reducible refine i_niT (by assumption) (by first | exact Tm.i _ | exact Tm.b _ | exact Tm.s _ | exact Tm.n | (apply Tm.m; (repeat (first | exact List.mem_cons_self .. | apply List.mem_cons_of_mem)); (first | done | fail))) ?_ | with_reducible refine i_inL (by assumption) (by first | exact Tm.i _ | exact Tm.b _ | exact Tm.s _ | exact Tm.n | (apply Tm.m; (repeat (first | exact List.mem_cons_self .. | apply List.mem_cons_of_mem)); (first | done | fail))) ?_ | with_reducible refine i_niL (by assumption) (by first | exact Tm.i _ | exact Tm.b _ | exact Tm.s _ | exact Tm.n | (apply Tm.m; (repeat (first | exact List.mem_cons_self .. | apply List.mem_cons_of_mem)); (first | done | fail))) ?_ | with_reducible refine i_inO 0 (by assumption) (by with_unfolding_all rfl) ?_ | with_reducible refine i_inO 1 (by assumption) (by with_unfolding_all rfl) ?_ | with_reducible refine i_inO 2 (by assumption) (by with_unfolding_all rfl) ?_ | with_reducible refine i_niO 0 (by assumption) (by with_unfolding_all rfl) ?_ | with_reducible refine i_niO 1 (by assumption) (by with_unfolding_all rfl) ?_ | with_reducible refine i_niO 2 (by assumption) (by with_unfolding_all rfl) ?_)
  | (with_reducible refine h_len ?_; first | with_reducible refine x_lenT (by assumption) (by first | exact Tm.i _ | exact Tm.b _ | exact Tm.s _ | exact Tm.n | (apply Tm.m; (repeat (first | exact List.mem_cons_self .. | apply List.mem_cons_of_mem)); (first | done | fail))) ?_ | with_reducible refine x_lenL (by assumption) (by first | exact Tm.i _ | exact Tm.b _ | exact Tm.s _ | exact Tm.n | (apply Tm.m; (repeat (first | exact List.mem_cons_self .. | apply List.mem_cons_of_mem)); (first | done | fail))) ?_ | with_reducible refine x_lenO 0 (by assumption) (by with_unfolding_all rfl) ?_ | with_reducible refine x_lenO 1 (by assumption) (by with_unfolding_all rfl) ?_ | with_reducible refine x_lenO 2 (by assumption) (by with_unfolding_all rfl) ?_)
  | with_reducible refine x_int ?_
  | with_reducible refine x_intB ?_
  | (with_reducible refine h_tupF ?_; first | (with_reducible refine x_tupFL (by assumption) (by first | exact Tm.i _ | exact Tm.b _ | exact Tm.s _ | exact Tm.n | (apply Tm.m; (repeat (first | exact List.mem_cons_self .. | apply List.mem_cons_of_mem)); (first | done | fail))) ?_; intro _ _ _ _ _))
  | (with_reducible refine h_isi ?_; first | with_reducible refine x_isiB (b := true) (by decide +kernel) ?_ | with_reducible refine x_isiB (b := false) (by decide +kernel) ?_ | with_reducible refine x_isiI (b := true) (by decide +kernel) ?_ | with_reducible refine x_isiI (b := false) (by decide +kernel) ?_ | with_reducible refine x_isiS (b := true) (by decide +kernel) ?_ | with_reducible refine x_isiS (b := false) (by decide +kernel) ?_ | with_reducible refine x_isiN (b := true) (by decide +kernel) ?_ | with_reducible refine x_isiN (b := false) (by decide +kernel) ?_ | with_reducible refine x_isiT (b := true) (by assumption) (by first | exact Tm.i _ | exact Tm.b _ | exact Tm.s _ | exact Tm.n | (apply Tm.m; (repeat (first | exact List.mem_cons_self .. | apply List.mem_cons_of_mem)); (first | done | fail))) (by decide +kernel) ?_ | with_reducible refine x_isiT (b := false) (by assumption) (by first | exact Tm.i _ | exact Tm.b _ | exact Tm.s _ | exact Tm.n | (apply Tm.m; (repeat (first | exact List.mem_cons_self .. | apply List.mem_cons_of_mem)); (first | done | fail))) (by decide +kernel) ?_)
  | (with_reducible refine h_tupOf ?_; first | with_reducible refine x_tupT (by assumption) (by first | exact Tm.i _ | exact Tm.b _ | exact Tm.s _ | exact Tm.n | (apply Tm.m; (repeat (first | exact List.mem_cons_self .. | apply List.mem_cons_of_mem)); (first | done | fail))) ?_ | (with_reducible refine x_tupL (by assumption) (by first | exact Tm.i _ | exact Tm.b _ | exact Tm.s _ | exact Tm.n | (apply Tm.m; (repeat (first | exact List.mem_cons_self .. | apply List.mem_cons_of_mem)); (first | done | fail))) ?_; intro _ _ _ _) | (with_reducible refine x_tupO 0 (by assumption) (by with_unfolding_all rfl) ?_; intro _ _ _ _) | (with_reducible refine x_tupO 1 (by assumption) (by with_unfolding_all rfl) ?_; intro _ _ _ _) | (with_reducible refine x_tupO 2 (by assumption) (by with_unfolding_all rfl) ?_; intro _ _ _ _))
  | (with_reducible refine h_lsOf ?_; first | (with_reducible refine x_lsT (by assumption) (by first | exact Tm.i _ | exact Tm.b _ | exact Tm.s _ | exact Tm.n | (apply Tm.m; (repeat (first | exact List.mem_cons_self .. | apply List.mem_cons_of_mem)); (first | done | fail))) ?_; intro _ _ _) | (with_reducible refine x_lsL (by assumption) (by first | exact Tm.i _ | exact Tm.b _ | exact Tm.s _ | exact Tm.n | (apply Tm.m; (repeat (first | exact List.mem_cons_self .. | apply List.mem_cons_of_mem)); (first | done | fail))) ?_; intro _ _ _) | (with_reducible refine x_lsS (by assumption) (by first | exact Tm.i _ | exact Tm.b _ | exact Tm.s _ | exact Tm.n | (apply Tm.m; (repeat (first | exact List.mem_cons_self .. | apply List.mem_cons_of_mem)); (first | done | fail))) ?_; intro _ _ _) | (with_reducible refine x_lsO 0 (by assumption) (by with_unfolding_all rfl) ?_; intro _ _ _) | (with_reducible refine x_lsO 1 (by assumption) (by with_unfolding_all rfl) ?_; intro _ _ _) | (with_reducible refine x_lsO 2 (by assumption) (by with_unfolding_all rfl) ?_; intro _ _ _))
  | (with_reducible refine h_gT ?_; first | (with_reducible refine x_gT2 (by assumption) (by first | exact Tm.i _ | exact Tm.b _ | exact Tm.s _ | exact Tm.n | (apply Tm.m; (repeat (first | exact List.mem_cons_self .. | apply List.mem_cons_of_mem)); (first | done | fail))) ?_; intro _ _ _) | (with_reducible refine x_gT3 (by assumption) (by first | exact Tm.i _ | exact Tm.b _ | exact Tm.s _ | exact Tm.n | (apply Tm.m; (repeat (first | exact List.mem_cons_self .. | apply List.mem_cons_of_mem)); (first | done | fail))) ?_; intro _ _ _ _) | (with_reducible refine x_gT4 (by assumption) (by first | exact Tm.i _ | exact Tm.b _ | exact Tm.s _ | exact Tm.n | (apply Tm.m; (repeat (first | exact List.mem_cons_self .. | apply List.mem_cons_of_mem)); (first | done | fail))) ?_; intro _ _ _ _ _))
  | (with_reducible refine h_isNo ?_; first | with_reducible refine x_isNoR ?_ | with_reducible refine x_isNoN ?_ | with_reducible refine x_isNoI ?_ | with_reducible refine x_isNoD (by assumption) (by first | exact Tm.i _ | exact Tm.b _ | exact Tm.s _ | exact Tm.n | (apply Tm.m; (repeat (first | exact List.mem_cons_self .. | apply List.mem_cons_of_mem)); (first | done | fail))) ?_)
  | (with_reducible refine h_notNo ?_; first | with_reducible refine x_notNoR ?_ | with_reducible refine x_notNoN ?_ | with_reducible refine x_notNoI ?_ | with_reducible refine x_notNoD (by assumption) (by first | exact Tm.i _ | exact Tm.b _ | exact Tm.s _ | exact Tm.n | (apply Tm.m; (repeat (first | exact List.mem_cons_self .. | apply List.mem_cons_of_mem)); (first | done | fail))) ?_)
  | (with_reducible refine h_setL ?_; first | (with_reducible refine x_setH 0 (by assumption) (by with_unfolding_all rfl) (by with_unfolding_all rfl) (by (repeat (first | exact SetAt.z | apply SetAt.s)); (first | done | fail)) ?_; intro _ _; try dsimp only) | (with_reducible refine x_setH 1 (by assumption) (by with_unfolding_all rfl) (by with_unfolding_all rfl) (by (repeat (first | exact SetAt.z | apply SetAt.s)); (first | done | fail)) ?_; intro _ _; try dsimp only) | (with_reducible refine x_setH 2 (by assumption) (by with_unfolding_all rfl) (by with_unfolding_all rfl) (by (repeat (first | exact SetAt.z | apply SetAt.s)); (first | done | fail)) ?_; intro _ _; try dsimp only))
  | (with_reducible refine h_aug ?_; first | with_reducible refine x_augI (by assumption) (by with_unfolding_all rfl) ?_)
  | (with_reducible refine h_ip ?_; first | (with_reducible refine x_ipI (by assumption) (by (repeat (first | exact SetAt.z | apply SetAt.s)); (first | done | fail)) ?_; intro _ _; try dsimp only))
  | (with_reducible refine h_app ?_; first | with_reducible refine x_app (by assumption) (by with_unfolding_all rfl) 0 (by with_unfolding_all rfl) ?_ | with_reducible refine x_app (by assumption) (by with_unfolding_all rfl) 1 (by with_unfolding_all rfl) ?_ | with_reducible refine x_app (by assumption) (by with_unfolding_all rfl) 2 (by with_unfolding_all rfl) ?_)
  | with_reducible refine x_appG ?_
  | with_reducible refine x_lcT ?_
  | with_reducible refine x_lcL ?_
  | with_reducible refine x_lcR ?_
  | with_reducible refine x_lcR2 ?_
  | with_reducible refine x_yes ?_
  | with_reducible refine x_tix ?_
  | with_reducible refine x_lix ?_
  | (with_reducible refine h_lixF ?_; first | with_reducible refine x_lixF (by assumption) (by first | exact Tm.i _ | exact Tm.b _ | exact Tm.s _ | exact Tm.n | (apply Tm.m; (repeat (first | exact List.mem_cons_self .. | apply List.mem_cons_of_mem)); (first | done | fail))) ?_)
  | (with_reducible refine h_tixF ?_; first | with_reducible refine x_tixF (by assumption) (by assumption) ?_)
  | with_reducible refine x_dctL ?_
  | with_reducible refine x_dns ?_
  | with_reducible refine x_augS ?_
  | with_reducible refine x_revT ?_
  | with_reducible refine x_tupR ?_
  | (with_reducible refine h_tupR ?_; first | (with_reducible refine x_tupRK (by assumption) (by (repeat (first | exact TmAll.nil | apply TmAll.cons (by first | exact Tm.i _ | exact Tm.b _ | exact Tm.s _ | exact Tm.n | (apply Tm.m; (repeat (first | exact List.mem_cons_self .. | apply List.mem_cons_of_mem)); (first | done | fail))))); (first | done | fail)) (by with_unfolding_all rfl) ?_; intro _ _ _ _ _))
  | with_reducible refine x_fld ?_
  | with_reducible refine x_dg ?_
  | with_reducible refine x_dn ?_
  | with_reducible refine x_di ?_
  | with_reducible refine x_ds ?_
  | with_reducible refine x_sfld ?_
  | with_reducible refine x_prC ?_
  | with_reducible refine x_prN ?_
  | with_reducible refine x_lrg ?_
  | with_reducible refine x_trg ?_
  | with_reducible refine x_rg1 ?_
  | with_reducible refine x_rg2 ?_
  | with_reducible refine x_r1K ?_
  | with_reducible refine x_r2K ?_
  | (with_reducible refine h_revT ?_; first | (with_reducible refine x_revK (by assumption) (by first | exact Tm.i _ | exact Tm.b _ | exact Tm.s _ | exact Tm.n | (apply Tm.m; (repeat (first | exact List.mem_cons_self .. | apply List.mem_cons_of_mem)); (first | done | fail))) ?_; intro _ _ _ _))
  | with_reducible refine x_fE ?_
  | with_reducible refine x_lcE ?_
  | with_reducible refine x_fT ?_
  | with_reducible refine x_fL ?_
  | with_reducible refine x_fR ?_
  | with_reducible refine x_fR2 ?_
  | dsimp only
  | with_reducible refine x_N (by assumption) ?_))
local macro_rules | `(tactic| walk_at "dl1") => `(tactic| (first
  | (with_reducible refine h_var ?_; first | with_reducible refine x_var (by assumption) (by with_unfolding_all rfl) ?_ | with_reducible refine x_varV (by assumption) (by with_unfolding_all rfl) ?_ | (with_reducible refine x_varP (by assumption) (by with_unfolding_all rfl) ?_; intro _ _ _) | (with_reducible refine x_varT (by assumption) (by with_unfolding_all rfl) ?_; intro _ _ _))
  | (with_reducible refine h_giv ?_; first | with_reducible refine x_gI ?_ | with_reducible refine x_gB ?_ | with_reducible refine x_gS ?_ | with_reducible refine x_gN ?_ | (with_reducible refine x_gP (by assumption) ?_; intro _ _))
  | with_reducible refine x_op ?_
  | (with_reducible refine h_cR ?_; first | (with_reducible refine x_cR (by assumption) (by assumption) ?_; intro _) | with_reducible refine x_c ?_)
  | with_reducible refine x_c ?_
  | with_reducible refine x_I0 ?_
  | with_reducible refine x_cons ?_
  | with_reducible refine x_nil ?_
  | with_reducible refine x_tup ?_
  | (with_reducible refine h_tupK ?_; first | (with_reducible refine x_tupK (by assumption) (by (repeat (first | exact TmAll.nil | apply TmAll.cons (by first | exact Tm.i _ | exact Tm.b _ | exact Tm.s _ | exact Tm.n | (apply Tm.m; (repeat (first | exact List.mem_cons_self .. | apply List.mem_cons_of_mem)); (first | done | fail))))); (first | done | fail)) (by with_unfolding_all rfl) ?_; intro _ _ _ _))
  | (with_reducible refine h_eq ?_; first | with_reducible refine x_eqI ?_ | with_reducible refine x_eqS ?_ | with_reducible refine x_eqB ?_)
  | (with_reducible refine h_ne ?_; first | with_reducible refine x_neI ?_ | with_reducible refine x_neS ?_ | with_reducible refine x_neB ?_)
  | (with_reducible refine h_ixT ?_; first | with_reducible refine x_ixT (by assumption) (by first | exact Tm.i _ | exact Tm.b _ | exact Tm.s _ | exact Tm.n | (apply Tm.m; (repeat (first | exact List.mem_cons_self .. | apply List.mem_cons_of_mem)); (first | done | fail))) (by with_unfolding_all rfl) ?_)
  | (with_reducible refine h_ixL ?_; first | with_reducible refine x_ixL (by assumption) (by first | exact Tm.i _ | exact Tm.b _ | exact Tm.s _ | exact Tm.n | (apply Tm.m; (repeat (first | exact List.mem_cons_self .. | apply List.mem_cons_of_mem)); (first | done | fail))) (by with_unfolding_all rfl) ?_ | with_reducible refine x_ixO 0 (by assumption) (by with_unfolding_all rfl) (by with_unfolding_all rfl) ?_ | with_reducible refine x_ixO 1 (by assumption) (by with_unfolding_all rfl) (by with_unfolding_all rfl) ?_ | with_reducible refine x_ixO 2 (by assumption) (by with_unfolding_all rfl) (by with_unfolding_all rfl) ?_ | with_reducible refine x_ixH 0 (by assumption) (by with_unfolding_all rfl) (by with_unfolding_all rfl) ?_ | with_reducible refine x_ixH 1 (by assumption) (by with_unfolding_all rfl) (by with_unfolding_all rfl) ?_ | with_reducible refine x_ixH 2 (by assumption) (by with_unfolding_all rfl) (by with_unfolding_all rfl) ?_)
  | (with_reducible refine h_I ?_; first | with_reducible refine x_I (by with_unfolding_all first | decide | (dsimp only; omega) | (refine .inl ?_; constructor <;> first | decide | omega) | (refine .inr ?_; constructor <;> first | decide | omega) | (constructor <;> first | decide | omega | (constructor <;> first | decide | omega)) | assumption) ?_)
  | with_reducible refine x_test ?_
  | with_reducible refine x_exB ?_
  | (with_reducible refine h_ite ?_; first | (with_reducible refine x_ifNoT ?_) | (with_reducible refine x_ifNoF ?_) | (with_reducible refine x_ifSn ?_) | (with_reducible refine x_ifSs ?_) | with_reducible refine x_ifT (by decide +kernel) ?_ | with_reducible refine x_ifF (by decide +kernel) ?_)
  | (with_reducible refine h_gn ?_; first | (with_reducible refine x_gnT (by assumption) (by assumption) (by (repeat (first | exact SetAt.z | apply SetAt.s)); (first | done | fail)) ?_; intro _ _; try dsimp only) | (with_reducible refine x_gn (by assumption) (by first | exact Tm.i _ | exact Tm.b _ | exact Tm.s _ | exact Tm.n | (apply Tm.m; (repeat (first | exact List.mem_cons_self .. | apply List.mem_cons_of_mem)); (first | done | fail))) (by (repeat (first | exact SetAt.z | apply SetAt.s)); (first | done | fail)) ?_; intro _ _; try dsimp only) | (with_reducible refine x_gnV (by assumption) (by (repeat (first | exact SetAt.z | apply SetAt.s)); (first | done | fail)) ?_; intro _ _; try dsimp only))
  | (with_reducible refine x_seqN ?_; intro _ _; try dsimp only)
  | with_reducible refine x_asg ?_
  | with_reducible refine x_ifS ?_
  | with_reducible refine x_ret ?_
  | with_reducible refine x_drop ?_
  | (with_reducible refine x_next ?_; try dsimp only)
  | (with_reducible refine x_cont ?_; try dsimp only)
  | (with_reducible refine x_break ?_; try dsimp only)
  | with_reducible refine x_un ?_
  | with_reducible refine x_U ?_
  | with_reducible refine x_tB ?_
  | with_reducible refine x_not ?_
  | with_reducible refine x_and ?_
  | with_reducible refine x_or ?_
  | with_reducible refine x_andV ?_
  | with_reducible refine x_orV ?_
  | with_reducible refine x_notV ?_
  | with_reducible refine x_ifE ?_
  | with_reducible refine x_notT ?_
  | with_reducible refine x_truD ?_
  | with_reducible refine x_truI ?_
  | with_reducible refine x_truB ?_
  | with_reducible refine x_lst ?_
  | (with_reducible refine h_tru ?_; first | with_reducible refine x_truT (by assumption) (by first | exact Tm.i _ | exact Tm.b _ | exact Tm.s _ | exact Tm.n | (apply Tm.m; (repeat (first | exact List.mem_cons_self .. | apply List.mem_cons_of_mem)); (first | done | fail))) ?_ | with_reducible refine x_truL (by assumption) (by first | exact Tm.i _ | exact Tm.b _ | exact Tm.s _ | exact Tm.n | (apply Tm.m; (repeat (first | exact List.mem_cons_self .. | apply List.mem_cons_of_mem)); (first | done | fail))) ?_ | with_reducible refine x_truO 0 (by assumption) (by with_unfolding_all rfl) ?_ | with_reducible refine x_truO 1 (by assumption) (by with_unfolding_all rfl) ?_ | with_reducible refine x_truO 2 (by assumption) (by with_unfolding_all rfl) ?_)
  | (with_reducible refine h_lstK ?_; first | (with_reducible refine x_lstK (by assumption) (by (repeat (first | exact TmAll.nil | apply TmAll.cons (by first | exact Tm.i _ | exact Tm.b _ | exact Tm.s _ | exact Tm.n | (apply Tm.m; (repeat (first | exact List.mem_cons_self .. | apply List.mem_cons_of_mem)); (first | done | fail))))); (first | done | fail)) (by with_unfolding_all rfl) ?_; intro _ _ _))
  | with_reducible refine x_cb ?_
  | with_reducible refine x_tcall ?_
  | with_reducible refine x_gSub ?_
  | with_reducible refine x_sl ?_
  | with_reducible refine x_noPart ?_
  | with_reducible refine x_part ?_
  | with_reducible refine x_exI ?_
  | (with_reducible refine h_slA ?_; first | (with_reducible refine x_slA (by assumption) (by first | exact Tm.i _ | exact Tm.b _ | exact Tm.s _ | exact Tm.n | (apply Tm.m; (repeat (first | exact List.mem_cons_self .. | apply List.mem_cons_of_mem)); (first | done | fail))) (by with_unfolding_all rfl) ?_; intro _ _ _ _))
  | (with_reducible refine h_slL ?_; first | (with_reducible refine x_slL (by assumption) (by first | exact Tm.i _ | exact Tm.b _ | exact Tm.s _ | exact Tm.n | (apply Tm.m; (repeat (first | exact List.mem_cons_self .. | apply List.mem_cons_of_mem)); (first | done | fail))) (by with_unfolding_all rfl) ?_; intro _ _ _))
  | (with_reducible refine h_in ?_; first | with_reducible refine s_in2 (by assumption) (by first | exact Tm.i _ | exact Tm.b _ | exact Tm.s _ | exact Tm.n | (apply Tm.m; (repeat (first | exact List.mem_cons_self .. | apply List.mem_cons_of_mem)); (first | done | fail))) ?_ | with_reducible refine s_ni2 (by assumption) (by first | exact Tm.i _ | exact Tm.b _ | exact Tm.s _ | exact Tm.n | (apply Tm.m; (repeat (first | exact List.mem_cons_self .. | apply List.mem_cons_of_mem)); (first | done | fail))) ?_ | with_reducible refine s_in3 (by assumption) (by first | exact Tm.i _ | exact Tm.b _ | exact Tm.s _ | exact Tm.n | (apply Tm.m; (repeat (first | exact List.mem_cons_self .. | apply List.mem_cons_of_mem)); (first | done | fail))) ?_ | with_reducible refine i_in2 (by assumption) (by first | exact Tm.i _ | exact Tm.b _ | exact Tm.s _ | exact Tm.n | (apply Tm.m; (repeat (first | exact List.mem_cons_self .. | apply List.mem_cons_of_mem)); (first | done | fail))) ?_ | with_reducible refine i_ni2 (by assumption) (by first | exact Tm.i _ | exact Tm.b _ | exact Tm.s _ | exact Tm.n | (apply Tm.m; (repeat (first | exact List.mem_cons_self .. | apply List.mem_cons_of_mem)); (first | done | fail))) ?_ | with_reducible refine i_in3 (by assumption) (by first | exact Tm.i _ | exact Tm.b _ | exact Tm.s _ | exact Tm.n | (apply Tm.m; (repeat (first | exact List.mem_cons_self .. | apply List.mem_cons_of_mem)); (first | done | fail))) ?_ | with_reducible refine i_in1 (by assumption) (by first | exact Tm.i _ | exact Tm.b _ | exact Tm.s _ | exact Tm.n | (apply Tm.m; (repeat (first | exact List.mem_cons_self .. | apply List.mem_cons_of_mem)); (first | done | fail))) ?_ | with_reducible refine i_inT (by assumption) (by first | exact Tm.i _ | exact Tm.b _ | exact Tm.s _ | exact Tm.n | (apply Tm.m; (repeat (first | exact List.mem_cons_self .. | apply List.mem_cons_of_mem)); (first | done | fail))) ?_ | with_reducible refine i_niT (by assumption) (by first | exact Tm.i _ | exact Tm.b _ | exact Tm.s _ | exact Tm.n | (apply Tm.m; (repeat (first | exact List.mem_cons_self .. | apply List.mem_cons_of_mem)); (first | done | fail))) ?_ | with_reducible refine i_inL (by assumption) (by first | exact Tm.i _ | exact Tm.b _ | exact Tm.s _ | exact Tm.n | (apply Tm.m; (repeat (first | exact List.mem_cons_self .. | apply List.mem_cons_of_mem)); (first | done | fail))) ?_ | with_reducible refine i_niL (by assumption) (by first | exact Tm.i _ | exact Tm.b _ | exact Tm.s _ | exact Tm.n | (apply Tm.m; (repeat (first | exact List.mem_cons_self .. | apply List.mem_cons_of_mem)); (first | done | fail))) ?_ | with_reducible refine i_inO 0 (by assumption) (by with_unfolding_all rfl) ?_ | with_reducible refine i_inO 1 (by assumption) (by with_unfolding_all rfl) ?_ | with_reducible refine i_inO 2 (by assumption) (by with_unfolding_all rfl) ?_ | with_reducible refine i_niO 0 (by assumption) (by with_unfolding_all rfl) ?_ | with_reducible refine i_niO 1 (by assumption) (by with_unfolding_all rfl) ?_ | with_reducible refine i_niO 2 (by assumption) (by with_unfolding_all rfl) ?_)
  | (with_reducible refine h_len ?_; first | with_reducible refine x_lenT (by assumption) (by first | exact Tm.i _ | exact Tm.b _ | exact Tm.s _ | exact Tm.n | (apply Tm.m; (repeat (first | exact List.mem_cons_self .. | apply List.mem_cons_of_mem)); (first | done | fail))) ?_ | with_reducible refine x_lenL (by assumption) (by first | exact Tm.i _ | exact Tm.b _ | exact Tm.s _ | exact Tm.n | (apply Tm.m; (repeat (first | exact List.mem_cons_self .. | apply List.mem_cons_of_mem)); (first | done | fail))) ?_ | with_reducible refine x_lenO 0 (by assumption) (by with_unfolding_all rfl) ?_ | with_reducible refine x_lenO 1 (by assumption) (by with_unfolding_all rfl) ?_ | with_reducible refine x_lenO 2 (by assumption) (by with_unfolding_all rfl) ?_)
  | with_reducible refine x_int ?_
  | with_reducible refine x_intB ?_
  | (with_reducible refine h_tupF ?_; first | (with_reducible refine x_tupFL (by assumption) (by first | exact Tm.i _ | exact Tm.b _ | exact Tm.s _ | exact Tm.n | (apply Tm.m; (repeat (first | exact List.mem_cons_self .. | apply List.mem_cons_of_mem)); (first | done | fail))) ?_; intro _ _ _ _ _))
  | (with_reducible refine h_isi ?_; first | with_reducible refine x_isiB (b := true) (by decide +kernel) ?_ | with_reducible refine x_isiB (b := false) (by decide +kernel) ?_ | with_reducible refine x_isiI (b := true) (by decide +kernel) ?_ | with_reducible refine x_isiI (b := false) (by decide +kernel) ?_ | with_reducible refine x_isiS (b := true) (by decide +kernel) ?_ | with_reducible refine x_isiS (b := false) (by decide +kernel) ?_ | with_reducible refine x_isiN (b := true) (by decide +kernel) ?_ | with_reducible refine x_isiN (b := false) (by decide +kernel) ?_ | with_reducible refine x_isiT (b := true) (by assumption) (by first | exact Tm.i _ | exact Tm.b _ | exact Tm.s _ | exact Tm.n | (apply Tm.m; (repeat (first | exact List.mem_cons_self .. | apply List.mem_cons_of_mem)); (first | done | fail))) (by decide +kernel) ?_ | with_reducible refine x_isiT (b := false) (by assumption) (by first | exact Tm.i _ | exact Tm.b _ | exact Tm.s _ | exact Tm.n | (apply Tm.m; (repeat (first | exact List.mem_cons_self .. | apply List.mem_cons_of_mem)); (first | done | fail))) (by decide +kernel) ?_)
  | (with_reducible refine h_tupOf ?_; first | with_reducible refine x_tupT (by assumption) (by first | exact Tm.i _ | exact Tm.b _ | exact Tm.s _ | exact Tm.n | (apply Tm.m; (repeat (first | exact List.mem_cons_self .. | apply List.mem_cons_of_mem)); (first | done | fail))) ?_ | (with_reducible refine x_tupL (by assumption) (by first | exact Tm.i _ | exact Tm.b _ | exact Tm.s _ | exact Tm.n | (apply Tm.m; (repeat (first | exact List.mem_cons_self .. | apply List.mem_cons_of_mem)); (first | done | fail))) ?_; intro _ _ _ _) | (with_reducible refine x_tupO 0 (by assumption) (by with_unfolding_all rfl) ?_; intro _ _ _ _) | (with_reducible refine x_tupO 1 (by assumption) (by with_unfolding_all rfl) ?_; intro _ _ _ _) | (with_reducible refine x_tupO 2 (by assumption) (by with_unfolding_all rfl) ?_; intro _ _ _ _))
  | (with_reducible refine h_lsOf ?_; first | (with_reducible refine x_lsT (by assumption) (by first | exact Tm.i _ | exact Tm.b _ | exact Tm.s _ | exact Tm.n | (apply Tm.m; (repeat (first | exact List.mem_cons_self .. | apply List.mem_cons_of_mem)); (first | done | fail))) ?_; intro _ _ _) | (with_reducible refine x_lsL (by assumption) (by first | exact Tm.i _ | exact Tm.b _ | exact Tm.s _ | exact Tm.n | (apply Tm.m; (repeat (first | exact List.mem_cons_self .. | apply List.mem_cons_of_mem)); (first | done | fail))) ?_; intro _ _ _) | (with_reducible refine x_lsS (by assumption) (by first | exact Tm.i _ | exact Tm.b _ | exact Tm.s _ | exact Tm.n | (apply Tm.m; (repeat (first | exact List.mem_cons_self .. | apply List.mem_cons_of_mem)); (first | done | fail))) ?_; intro _ _ _) | (with_reducible refine x_lsO 0 (by assumption) (by with_unfolding_all rfl) ?_; intro _ _ _) | (with_reducible refine x_lsO 1 (by assumption) (by with_unfolding_all rfl) ?_; intro _ _ _) | (with_reducible refine x_lsO 2 (by assumption) (by with_unfolding_all rfl) ?_; intro _ _ _))
  | (with_reducible refine h_gT ?_; first | (with_reducible refine x_gT2 (by assumption) (by first | exact Tm.i _ | exact Tm.b _ | exact Tm.s _ | exact Tm.n | (apply Tm.m; (repeat (first | exact List.mem_cons_self .. | apply List.mem_cons_of_mem)); (first | done | fail))) ?_; intro _ _ _) | (with_reducible refine x_gT3 (by assumption) (by first | exact Tm.i _ | exact Tm.b _ | exact Tm.s _ | exact Tm.n | (apply Tm.m; (repeat (first | exact List.mem_cons_self .. | apply List.mem_cons_of_mem)); (first | done | fail))) ?_; intro _ _ _ _) | (with_reducible refine x_gT4 (by assumption) (by first | exact Tm.i _ | exact Tm.b _ | exact Tm.s _ | exact Tm.n | (apply Tm.m; (repeat (first | exact List.mem_cons_self .. | apply List.mem_cons_of_mem)); (first | done | fail))) ?_; intro _ _ _ _ _))
  | (with_reducible refine h_isNo ?_; first | with_reducible refine x_isNoR ?_ | with_reducible refine x_isNoN ?_ | with_reducible refine x_isNoI ?_ | with_reducible refine x_isNoD (by assumption) (by first | exact Tm.i _ | exact Tm.b _ | exact Tm.s _ | exact Tm.n | (apply Tm.m; (repeat (first | exact List.mem_cons_self .. | apply List.mem_cons_of_mem)); (first | done | fail))) ?_)
  | (with_reducible refine h_notNo ?_; first | with_reducible refine x_notNoR ?_ | with_reducible refine x_notNoN ?_ | with_reducible refine x_notNoI ?_ | with_reducible refine x_notNoD (by assumption) (by first | exact Tm.i _ | exact Tm.b _ | exact Tm.s _ | exact Tm.n | (apply Tm.m; (repeat (first | exact List.mem_cons_self .. | apply List.mem_cons_of_mem)); (first | done | fail))) ?_)
  | (with_reducible refine h_setL ?_; first | (with_reducible refine x_setH 0 (by assumption) (by with_unfolding_all rfl) (by with_unfolding_all rfl) (by (repeat (first | exact SetAt.z | apply SetAt.s)); (first | done | fail)) ?_; intro _ _; try dsimp only) | (with_reducible refine x_setH 1 (by assumption) (by with_unfolding_all rfl) (by with_unfolding_all rfl) (by (repeat (first | exact SetAt.z | apply SetAt.s)); (first | done | fail)) ?_; intro _ _; try dsimp only) | (with_reducible refine x_setH 2 (by assumption) (by with_unfolding_all rfl) (by with_unfolding_all rfl) (by (repeat (first | exact SetAt.z | apply SetAt.s)); (first | done | fail)) ?_; intro _ _; try dsimp only))
  | (with_reducible refine h_aug ?_; first | with_reducible refine x_augI (by assumption) (by with_unfolding_all rfl) ?_)
  | (with_reducible refine h_ip ?_; first | (with_reducible refine x_ipI (by assumption) (by (repeat (first | exact SetAt.z | apply SetAt.s)); (first | done | fail)) ?_; intro _ _; try dsimp only))
  | (with_reducible refine h_app ?_; first | with_reducible refine x_app (by assumption) (by with_unfolding_all rfl) 0 (by with_unfolding_all rfl) ?_ | with_reducible refine x_app (by assumption) (by with_unfolding_all rfl) 1 (by with_unfolding_all rfl) ?_ | with_reducible refine x_app (by assumption) (by with_unfolding_all rfl) 2 (by with_unfolding_all rfl) ?_)
  | with_reducible refine x_appG ?_
  | with_reducible refine x_lcT ?_
  | with_reducible refine x_lcL ?_
  | with_reducible refine x_lcR ?_
  | with_reducible refine x_lcR2 ?_
  | with_reducible refine x_yes ?_
  | with_reducible refine x_tix ?_
  | with_reducible refine x_lix ?_
  | (with_reducible refine h_lixF ?_; first | with_reducible refine x_lixF (by assumption) (by first | exact Tm.i _ | exact Tm.b _ | exact Tm.s _ | exact Tm.n | (apply Tm.m; (repeat (first | exact List.mem_cons_self .. | apply List.mem_cons_of_mem)); (first | done | fail))) ?_)
  | (with_reducible refine h_tixF ?_; first | with_reducible refine x_tixF (by assumption) (by assumption) ?_)
  | with_reducible refine x_dctL ?_
  | with_reducible refine x_dns ?_
  | with_reducible refine x_augS ?_
  | with_reducible refine x_revT ?_
  | with_reducible refine x_tupR ?_
  | (with_reducible refine h_tupR ?_; first | (with_reducible refine x_tupRK (by assumption) (by (repeat (first | exact TmAll.nil | apply TmAll.cons (by first | exact Tm.i _ | exact Tm.b _ | exact Tm.s _ | exact Tm.n | (apply Tm.m; (repeat (first | exact List.mem_cons_self .. | apply List.mem_cons_of_mem)); (first | done | fail))))); (first | done | fail)) (by with_unfolding_all rfl) ?_; intro _ _ _ _ _))
  | with_reducible refine x_fld ?_
  | with_reducible refine x_dg ?_
  | with_reducible refine x_dn ?_
  | with_reducible refine x_di ?_
  | with_reducible refine x_ds ?_
  | with_reducible refine x_sfld ?_
  | with_reducible refine x_prC ?_
  | with_reducible refine x_prN ?_
  | with_reducible refine x_lrg ?_
  | with_reducible refine x_trg ?_
  | with_reducible refine x_rg1 ?_
  | with_reducible refine x_rg2 ?_
  | with_reducible refine x_r1K ?_
  | with_reducible refine x_r2K ?_
  | (with_reducible refine h_revT ?_; first | (with_reducible refine x_revK (by assumption) (by first | exact Tm.i _ | exact Tm.b _ | exact Tm.s _ | exact Tm.n | (apply Tm.m; (repeat (first | exact List.mem_cons_self .. | apply List.mem_cons_of_mem)); (first | done | fail))) ?_; intro _ _ _ _))
  | with_reducible refine x_fE ?_
  | with_reducible refine x_lcE ?_
  | with_reducible refine x_fT ?_
  | with_reducible refine x_fL ?_
  | with_reducible refine x_fR ?_
  | with_reducible refine x_fR2 ?_
  | dsimp only
  | with_reducible refine x_N (by assumption) ?_))
theorem map_at {α β : Type} {f : α → β} {l : List α} {i : Nat} {y : β} (h : (l.map f)[i]? = some y) : ∃ x, l[i]? = some x ∧ y = f x := by
  rw [List.getElem?_map] at h
  cases e : l[i]? with
  | none => rw [e] at h; cases h
  | some x => rw [e] at h; exact ⟨x, rfl, (Option.some.inj h).symm⟩
theorem take_snoc {α : Type} {l : List α} {i : Nat} {x : α} (h : l[i]? = some x) : l.take (i + 1) = l.take i ++ [x] := by
  obtain ⟨h1, h2⟩ := List.getElem?_eq_some_iff.mp h
  rw [List.take_succ, h]
  rfl
theorem take_all {α : Type} {l : List α} : l.take l.length = l := List.take_length
theorem at_nat {α : Type} {f : α → PyData} {xs : List α} {i : Nat} {x : α} (h : xs[i]? = some x) : atI (xs.map f) (i : Int) = some (f x) := by
  obtain ⟨h1, h2⟩ := List.getElem?_eq_some_iff.mp h
  unfold atI ixN
  simp [h1, h2]
theorem at_get {α : Type} {f : α → PyData} {xs : List α} {m : Int} {a : α} (h1 : 0 ≤ m) (h2 : m < (xs.length : Nat)) : atI (xs.map f) m = some (f (xs.getD m.toNat a)) := by
  obtain ⟨j, rfl⟩ := Int.eq_ofNat_of_zero_le h1
  have h3 : j < xs.length := by omega
  unfold atI ixN
  simp [h3]
section
variable {P : Program} {w : World} {K : PySem.W.Frag} {mg : Str → Option Value} {base : Heap}
theorem atI_ints {ns : List Int} {k : Int} (h0 : 0 ≤ k) (h : k < ns.length) : ∃ c : Int, atI (ns.map PyData.int) k = some (.int c) := by
  have hk : k.toNat < ns.length := by omega
  have ek : k = ((k.toNat : Nat) : Int) := by omega
  have q : atI (ns.map PyData.int) ((k.toNat : Nat) : Int) = some (.int ns[k.toNat]) := atI_nat (by rw [List.getElem?_map, List.getElem?_eq_getElem hk] <;> rfl)
  rw [← ek] at q
  exact ⟨_, q⟩
def pCell : Pre := fun ss u post => ∃ (ns : List Int) (k : Int), ss = [.d (.list (ns.map .int)), .d (.int k)] ∧ u = [] ∧ 0 ≤ k ∧ post = pD fun d => ∃ c : Int, d = .int c
theorem c_law_cell {f : Addr} {fd : FuncData} (D : Df K mg "_law_cell" s_law_cell f fd ["script", "k"]) (z_len : mg "len" = none) (z_int : mg "int" = none) : Cl P w K mg base 1 "_law_cell" (spG K pCell) := by
  refine D.go sc_law_cell (pCell) (fun ss u post h => by repeat (first | (obtain ⟨rfl, _⟩ := h; rfl) | obtain ⟨_, h⟩ := h)) fun cdv A outer s H M vs Q E ss u post hr hp S hq => ?_
  obtain ⟨ns, k, rfl, rfl, h0, rfl⟩ := hp
  refine ⟨_, (pss_cons (ps_if (pt_cmpR op_lt (pv 1) (pe_callB (lenQ (K := K)) (by rfl) z_len PySem.boot_len (pa_cons (pv 0) pa_nil)) (nomark _)) (pss_one (ps_ret (pe_callTy call_intD (by rfl) z_int (by decide +kernel) (pa_cons (pe_ix (ixL (K := K)) (pv 0) (pv 1) (fun _ _ => rfl)) pa_nil)))) pss_nil)
      (pss_one (ps_ret pe_int))), ?_⟩
  walk_at "in"
  walk_at "dl"
  refine x_if (fun c => ?_) (fun c => ?_)
  · have c := of_decide_eq_true c
    rw [List.length_map] at c
    obtain ⟨x, hx⟩ := atI_ints h0 c
    walk_at "dl"
    refine x_ixL (by assumption) (by walk_at "tm") hx ?_
    walk_at "dl"
    exact x_rD (by assumption) hq (.i _) ⟨x, rfl⟩
  · walk_at "dl"
    exact x_rD (by assumption) hq (.i _) ⟨0, rfl⟩
def pTake : Pre := fun ss u post => ∃ (b : Addr) (m : Int), ss = [.v (.ref b), .d (.int m)] ∧ u = [(b, .nums)] ∧ 0 < m ∧ post = pD1 b fun d od => od = .nums ∧ ∃ x : Int, d = .int x ∧ 0 ≤ x ∧ x < m
theorem c_law_take {f : Addr} {fd : FuncData} (D : Df K mg "_law_take" s_law_take f fd ["draws", "many"]) (z_int : mg "int" = none) : Cl P w K mg base 1 "_law_take" (spG K pTake) := by
  refine D.go sc_law_take (pTake) (fun ss u post h => by repeat (first | (obtain ⟨rfl, _⟩ := h; rfl) | obtain ⟨_, h⟩ := h)) fun cdv A outer s H M vs Q E ss u post hr hp S hq => ?_
  obtain ⟨b, m, rfl, rfl, h0, rfl⟩ := hp
  refine ⟨_, (pss_cons (ps_if (pt_not (kTru (K := K) (pt_truth (pv 0) (by intro _; rfl)))) (pss_one (ps_ret pe_int)) pss_nil)
      (pss_one (ps_ret (pe_op op_mod (pe_callTy call_intD (by rfl) z_int (by decide +kernel) (pa_cons (kBM (K := K) (pe_bm PySem.F.plainAttrs_list PySem.F.slot_list_pop PySem.F.type_list_pop mt_popAt (pv 0) (pa_cons pe_int pa_nil))) pa_nil)) (pv 1))))), ?_⟩
  walk_at "in"
  refine x_openN 0 (by assumption) rfl fun ns w' hw S1 => ?_
  cases hw
  cases ns with
  | nil =>
    have S1 : Ds K _ _ _ _ _ _ [(b, .lst [])] _ := S1
    walk_at "dl"
    rename Ds _ _ _ _ _ _ _ _ _ => S_
    exact x_r1 (S_.toN 0 (ns := []) rfl .z) hq (.i _) 0 rfl ⟨rfl, 0, rfl, Int.le_refl _, h0⟩
  | cons n r =>
    have S1 : Ds K _ _ _ _ _ _ [(b, .lst (.int n :: r.map .int))] _ := S1
    walk_at "dl"
    refine x_ifF rfl ?_
    walk_at "dl"
    refine x_pop0 (i := 0) 0 (by assumption) rfl rfl .z fun H_ S_ => ?_
    walk_at "dl"
    rename Ds _ _ _ _ _ _ _ _ _ => S_
    exact x_r1 (S_.toN 0 (ns := r) rfl .z) hq (.i _) 0 rfl ⟨rfl, _, rfl, Int.emod_nonneg _ (by omega), Int.emod_lt_of_pos _ h0⟩
def pDraws : Pre := fun ss u post => ∃ (ns : List Int) (k n : Int), ss = [.d (.list (ns.map .int)), .d (.int k), .d (.int n)] ∧ u = [] ∧ 0 ≤ k ∧ (0 ≤ n ∧ n ≤ 1000) ∧ post = pO fun od => ∃ ds : List Int, od = .lst (ds.map .int) ∧ (ds.length : Int) = n
theorem c_law_draws {f : Addr} {fd : FuncData} (D : Df K mg "_law_draws" s_law_draws f fd ["script", "k", "count"]) (c_law_cell : Cl P w K mg base 1 "_law_cell" (spG K pCell)) (z_int : mg "int" = none) (z_range : mg "range" = none) : Cl P w K mg base 2 "_law_draws" (spG K pDraws) := by
  refine D.go sc_law_draws (pDraws) (fun ss u post h => by repeat (first | (obtain ⟨rfl, _⟩ := h; rfl) | obtain ⟨_, h⟩ := h)) fun cdv A outer s H M vs Q E ss u post hr hp S hq => ?_
  obtain ⟨ns, k, n, rfl, rfl, h0, ⟨hn0, hn1⟩, rfl⟩ := hp
  refine ⟨_, (pss_cons (ps_set (i := 3) sc_law_draws.nd rfl (.inl rfl) (pc c_law_cell hr (by first | decide | omega) (by rfl) (pa_cons (pv 0) (pa_cons (pv 1) pa_nil))))
      (pss_cons (ps_set (i := 4) sc_law_draws.nd rfl (.inl rfl) pe_int)
      (Evl.pss_cut (ps_if (pt_cmpR op_ge (pv 3) (pe_op op_pow pe_int pe_int) (nomark _)) (pss_one (ps_set (i := 4) sc_law_draws.nd rfl (.inl rfl) (pe_op op_fdivW (pv 3) (pe_op op_pow pe_int pe_int)))) pss_nil)
      (pss_cons (ps_set (i := 5) sc_law_draws.nd rfl (.inl rfl) (pe_op op_mod (pe_callTy call_intD (by rfl) z_int (by decide +kernel) (pa_cons (pe_op op_add (pe_op op_add (pe_op op_mul (pv 3) pe_int) (pe_op op_mul (pv 1) pe_int)) pe_int) pa_nil)) pe_int))
      (pss_cons (ps_set (i := 6) sc_law_draws.nd rfl (.inl rfl) (pe_lst pa_nil))
      (pss_cons (ps_for PassesOwn.never rfl (pi_range1 (by rfl) z_range (pa_cons (pv 2) pa_nil)) (pg_name (i := 7) sc_law_draws.nd rfl (.inl rfl)) (pss_cons (ps_set (i := 5) sc_law_draws.nd rfl (.inl rfl) (pe_op op_mod (pe_callTy call_intD (by rfl) z_int (by decide +kernel) (pa_cons (pe_op op_add (pe_op op_add (pe_op op_mul (pv 5) pe_int) (pe_op op_mul (pv 7) pe_int)) pe_int) pa_nil)) pe_int))
      (pss_one (ps_if (pt_cmpR op_gt (pv 4) pe_int (nomark _)) (pss_cons (ps_expr (kBM (K := K) (pe_bm PySem.F.plainAttrs_list PySem.F.slot_list_append PySem.F.type_list_append mt_append (pv 6) (pa_cons (pe_op op_mod (pe_callTy call_intD (by rfl) z_int (by decide +kernel) (pa_cons (pv 4) pa_nil)) pe_int) pa_nil))))
      (pss_one (ps_set (i := 4) sc_law_draws.nd rfl (.inl rfl) (pe_op op_fdiv (pv 4) pe_int)))) (pss_one (ps_expr (kBM (K := K) (pe_bm PySem.F.plainAttrs_list PySem.F.slot_list_append PySem.F.type_list_append mt_append (pv 6) (pa_cons (pe_op op_mod (pe_callTy call_intD (by rfl) z_int (by decide +kernel) (pa_cons (pe_op op_fdiv (pv 5) pe_int) pa_nil)) pe_int) pa_nil)))))))))
      (pss_one (ps_ret (pv 6))))))))), ?_⟩
  walk_at "in"
  walk_at "dl"
  refine x_cD (by assumption) (by walk_at "slt") ⟨ns, k, rfl, rfl, h0, rfl⟩ ?_
  rintro _ ⟨c, rfl⟩ H_ M_ S_
  walk_at "dl"
  refine x_cut (fun ρ u => (∃ r : Int, ρ = [.d (.list (ns.map .int)), .d (.int k), .d (.int n), .d (.int c), .d (.int r), .u, .u, .u]) ∧ u = []) (by assumption) ?_ ?_
  · walk_at "dl"
    refine x_if (fun hc => ?_) (fun hc => ?_)
    · walk_at "dl"
      exact Md.at (by assumption) (by walk_at "le") ⟨⟨_, rfl⟩, rfl⟩
    · walk_at "dl"
      exact Md.at (by assumption) (by walk_at "le") ⟨⟨_, rfl⟩, rfl⟩
  · rintro M1 σ1 H1 ρ1 u1 ⟨⟨r, rfl⟩, rfl⟩ S1
    walk_at "dl"
    rename Addr => p
    refine x_forR (fun i ρ u => (∃ x y : Int, ρ = [.d (.list (ns.map .int)), .d (.int k), .d (.int n), .d (.int c), .d (.int x), .d (.int y), .v (.ref p), .u]) ∧ ∃ ds : List Int, u = [(p, .lst (ds.map .int))] ∧ ds.length = i) (by assumption) (by omega) (by omega) ⟨⟨_, _, rfl⟩, [], rfl, rfl⟩ ?_ ?_
    · rintro i ρ1 u1 hi ⟨⟨x, y, rfl⟩, ds, rfl, hd⟩ σ1 H1 M1 S1
      have hz : (ds.map PyData.int).length < sizeLine := by rw [List.length_map]; exact Nat.lt_of_lt_of_le (by omega : _ < 1001) (by decide)
      walk_at "dl"
      refine x_if (fun hx => ?_) (fun hx => ?_)
      · walk_at "dl"
        refine x_appK 0 (by assumption) rfl (by walk_at "tm") hz (by walk_at "set") fun H_ S_ => ?_
        walk_at "dl"
        exact Nx.at (by assumption) (by walk_at "le") ⟨⟨_, _, rfl⟩, ds ++ [_], own_snoc, by rw [List.length_append, hd]; rfl⟩
      · walk_at "dl"
        refine x_appK 0 (by assumption) rfl (by walk_at "tm") hz (by walk_at "set") fun H_ S_ => ?_
        walk_at "dl"
        exact Nx.at (by assumption) (by walk_at "le") ⟨⟨_, _, rfl⟩, ds ++ [_], own_snoc, by rw [List.length_append, hd]; rfl⟩
    · rintro ρ1 u1 ⟨⟨x, y, rfl⟩, ds, rfl, hd⟩ σ1 H1 M1 S1
      walk_at "dl"
      exact x_rO (by assumption) hq 0 rfl ⟨ds, rfl, by omega⟩
/-! names with a drawn frame -/
def FrameOk (l r : List Nat) : Prop := (l = [] ∧ r = []) ∨ (l.all isL = true ∧ l.length ≤ 7 ∧ ∃ r', r = 95 :: r' ∧ r'.all isW = true ∧ r'.length ≤ 7)
def mk0 : List Nat := lit "abcdefghi"
def mk1 : List Nat := lit "rstuv"
def mk2 : List Nat := lit "klmno"
def mk3 : List Nat := lit "ABCDEFGHIJKL"
def nmL (l r m : List Nat) : List (List Nat) := m.map fun c => l ++ [c] ++ r
abbrev txD (s : List Nat) : PyData := .str (T s)
abbrev rowD (ns : List (List Nat)) : PyData := .list (ns.map txD)
abbrev namD (l r : List Nat) : PyData := .list [rowD (nmL l r mk0), rowD (nmL l r mk1), rowD (nmL l r mk2), rowD (nmL l r mk3)]
def pFrame : Pre := fun ss u post => ∃ b : Addr, ss = [.v (.ref b)] ∧ u = [(b, .nums)] ∧ post = pD1 b fun d od => od = .nums ∧ ∃ l r, d = .tuple [txD l, txD r] ∧ FrameOk l r
theorem c_law_frame {f : Addr} {fd : FuncData} (D : Df K mg "_law_frame" s_law_frame f fd ["draws"]) (c_law_take : Cl P w K mg base 1 "_law_take" (spG K pTake)) (z_range : mg "range" = none) : Cl P w K mg base 2 "_law_frame" (spG K pFrame) := by
  refine D.go sc_law_frame (pFrame) (fun ss u post h => by repeat (first | (obtain ⟨rfl, _⟩ := h; rfl) | obtain ⟨_, h⟩ := h)) fun cdv A outer s H M vs Q E ss u post hr hp S hq => ?_
  obtain ⟨b, rfl, rfl, rfl⟩ := hp
  refine ⟨_, (Evl.pss_cut (ps_if (pt_cmpR op_eq (pc c_law_take hr (by first | decide | omega) (by rfl) (pa_cons (pv 0) (pa_cons pe_int pa_nil))) pe_int (nomark _)) (pss_one (ps_ret (pe_tup (pa_cons pe_str (pa_cons pe_str pa_nil))))) pss_nil)
      (pss_cons (ps_set (i := 1) sc_law_frame.nd rfl (.inl rfl) pe_str)
      (pss_cons (ps_for PassesOwn.never rfl (pi_range1 (by rfl) z_range (pa_cons (pc c_law_take hr (by first | decide | omega) (by rfl) (pa_cons (pv 0) (pa_cons pe_int pa_nil))) pa_nil)) (pg_name (i := 2) sc_law_frame.nd rfl (.inl rfl)) (pss_one (ps_set (i := 1) sc_law_frame.nd rfl (.inl rfl) (pe_op op_catSD (pv 1) (pe_ix ix_str pe_str (pc c_law_take hr (by first | decide | omega) (by rfl) (pa_cons (pv 0) (pa_cons pe_int pa_nil))) (fun _ _ => rfl))))))
      (pss_cons (ps_set (i := 3) sc_law_frame.nd rfl (.inl rfl) pe_str)
      (pss_cons (ps_for PassesOwn.never rfl (pi_range1 (by rfl) z_range (pa_cons (pc c_law_take hr (by first | decide | omega) (by rfl) (pa_cons (pv 0) (pa_cons pe_int pa_nil))) pa_nil)) (pg_name (i := 2) sc_law_frame.nd rfl (.inl rfl)) (pss_one (ps_set (i := 3) sc_law_frame.nd rfl (.inl rfl) (pe_op op_catSD (pv 3) (pe_ix ix_str pe_str (pc c_law_take hr (by first | decide | omega) (by rfl) (pa_cons (pv 0) (pa_cons pe_int pa_nil))) (fun _ _ => rfl))))))
      (pss_one (ps_ret (pe_tup (pa_cons (pv 1) (pa_cons (pv 3) pa_nil)))))))))), ?_⟩
  walk_at "in"
  walk_at "dl"
  refine x_cut (fun ρ u => ρ = [.v (.ref b), .u, .u, .u] ∧ u = [(b, .nums)]) (by assumption) ?_ ?_
  · walk_at "dl"
    refine x_c1 0 (by assumption) rfl (by walk_at "slt") ⟨b, 2, rfl, rfl, by decide, rfl⟩ ?_
    rintro _ _ ⟨rfl, x, rfl, _, _⟩ H_ M_ w_ hw S_
    cases hw
    walk_at "dl"
    refine x_if (fun hx => ?_) (fun hx => ?_)
    · walk_at "dl"
      exact x_r1 (by assumption) hq (by walk_at "tm") 0 rfl ⟨rfl, [], [], by rw [e_eq], .inl ⟨rfl, rfl⟩⟩
    · walk_at "dl"
      exact Md.at (by assumption) (by walk_at "le") ⟨rfl, rfl⟩
  rintro M1 σ1 H1 ρ1 u1 ⟨rfl, rfl⟩ S1
  walk_at "dl"
  refine x_c1 0 (by assumption) rfl (by walk_at "slt") ⟨b, 8, rfl, rfl, by decide, rfl⟩ ?_
  rintro _ _ ⟨rfl, n, rfl, hn0, hn1⟩ H_ M_ w_ hw S_
  cases hw
  walk_at "dl"
  refine x_forR (fun i ρ u => (∃ l : List Nat, ρ = [.v (.ref b), .d (txD l), .u, .u] ∧ l.length = i ∧ l.all isL = true) ∧ u = [(b, .nums)]) (by rename Ds _ _ _ _ _ _ _ _ _ => S_; rw [e_eq] at S_; exact S_) (by omega) (by omega) ⟨⟨[], rfl, rfl, rfl⟩, rfl⟩ ?_ ?_
  · rintro i ρ1 u1 hi ⟨⟨l, rfl, hl, ha⟩, rfl⟩ σ1 H1 M1 S1
    walk_at "dl"
    refine x_c1 0 (by assumption) rfl (by walk_at "slt") ⟨b, 53, rfl, rfl, by decide, rfl⟩ ?_
    rintro _ _ ⟨rfl, x, rfl, hx0, hx1⟩ H_ M_ w_ hw S_
    cases hw
    walk_at "dl"
    refine x_ixSg isL hx0 (Int.lt_of_lt_of_le hx1 (by decide +kernel)) (by decide +kernel) (by decide +kernel) fun c hc => ?_
    refine x_catS (by show l.length + 1 ≤ _; omega) ?_
    walk_at "dl"
    exact Nx.at (by assumption) (by walk_at "le") ⟨⟨l ++ [c], rfl, by rw [List.length_append, hl]; rfl, by rw [List.all_append, ha]; show (true && (isL c && true)) = true; rw [hc]; rfl⟩, rfl⟩
  rintro ρ1 u1 ⟨⟨l, rfl, hl, ha⟩, rfl⟩ σ1 H1 M1 S1
  walk_at "dl"
  refine x_c1 0 (by assumption) rfl (by walk_at "slt") ⟨b, 8, rfl, rfl, by decide, rfl⟩ ?_
  rintro _ _ ⟨rfl, m, rfl, hm0, hm1⟩ H_ M_ w_ hw S_
  cases hw
  walk_at "dl"
  refine x_forR (fun i ρ u => (∃ r : List Nat, ρ = [.v (.ref b), .d (txD l), .u, .d (txD (95 :: r))] ∧ r.length = i ∧ r.all isW = true) ∧ u = [(b, .nums)]) (by rename Ds _ _ _ _ _ _ _ _ _ => S_; rw [show Str.ofString "_" = T [95] by decide +kernel] at S_; exact S_) (by omega) (by omega) ⟨⟨[], rfl, rfl, rfl⟩, rfl⟩ ?_ ?_
  · rintro i ρ1 u1 hi ⟨⟨r, rfl, hl2, ha2⟩, rfl⟩ σ1 H1 M1 S1
    walk_at "dl"
    refine x_c1 0 (by assumption) rfl (by walk_at "slt") ⟨b, 53, rfl, rfl, by decide, rfl⟩ ?_
    rintro _ _ ⟨rfl, x, rfl, hx0, hx1⟩ H_ M_ w_ hw S_
    cases hw
    walk_at "dl"
    refine x_ixSg isW hx0 (Int.lt_of_lt_of_le hx1 (by decide +kernel)) (by decide +kernel) (by decide +kernel) fun c hc => ?_
    refine x_catS (by show r.length + 1 + 1 ≤ _; omega) ?_
    walk_at "dl"
    exact Nx.at (by assumption) (by walk_at "le") ⟨⟨r ++ [c], rfl, by rw [List.length_append, hl2]; rfl, by rw [List.all_append, ha2]; show (true && (isW c && true)) = true; rw [hc]; rfl⟩, rfl⟩
  rintro ρ1 u1 ⟨⟨r, rfl, hl2, ha2⟩, rfl⟩ σ1 H1 M1 S1
  walk_at "dl"
  exact x_r1 (by assumption) hq (by walk_at "tm") 0 rfl ⟨rfl, l, 95 :: r, rfl, .inr ⟨ha, by omega, r, rfl, ha2, by omega⟩⟩
def mks : List (List Nat) := [mk0, mk1, mk2, mk3]
def pNames : Pre := fun ss u post => ∃ b : Addr, ss = [.v (.ref b)] ∧ u = [(b, .nums)] ∧ post = pD1 b fun d od => od = .nums ∧ ∃ l r, d = namD l r ∧ FrameOk l r
theorem c_law_names {f : Addr} {fd : FuncData} (D : Df K mg "_law_names" s_law_names f fd ["draws"]) (c_law_frame : Cl P w K mg base 2 "_law_frame" (spG K pFrame)) : Cl P w K mg base 3 "_law_names" (spG K pNames) := by
  refine D.go sc_law_names (pNames) (fun ss u post h => by repeat (first | (obtain ⟨rfl, _⟩ := h; rfl) | obtain ⟨_, h⟩ := h)) fun cdv A outer s H M vs Q E ss u post hr hp S hq => ?_
  obtain ⟨b, rfl, rfl, rfl⟩ := hp
  refine ⟨_, (pss_cons (ps_set (i := 1) sc_law_names.nd rfl (.inr rfl) (pc c_law_frame hr (by first | decide | omega) (by rfl) (pa_cons (pv 0) pa_nil)))
      (pss_cons (ps_set (i := 2) sc_law_names.nd rfl (.inl rfl) (pe_lst pa_nil))
      (pss_cons (ps_for PassesOwn.never rfl (kIT (K := K) (pi_tup (pe_tup (pa_cons pe_str (pa_cons pe_str (pa_cons pe_str (pa_cons pe_str pa_nil))))))) (pg_name (i := 3) sc_law_names.nd rfl (.inl rfl)) (pss_one (ps_expr (kBM (K := K) (pe_bm PySem.F.plainAttrs_list PySem.F.slot_list_append PySem.F.type_list_append mt_append (pv 2) (pa_cons (pe_lc (own := [("mark", 4)]) (g := gName 4) (tt := tYes) (by rfl) sc_law_names.nd (pi_str (pv 3)) (blkOk_by (own := [("mark", 4)]) (N := ["draws", "frame", "rows", "marks", "mark"]) (sc := defScope s_law_names) (by decide +kernel)) (fun _ _ _ _ _ => pg_name (i := 4) sc_law_names.nd rfl (.inl rfl)) (fun _ _ _ _ _ => pts_nil) (fun _ _ _ _ _ => (pe_op op_catSD (pe_op op_catSD (pe_ix (ixT (K := K)) (pv 1) pe_int (fun _ _ => rfl)) (pv 4)) (pe_ix (ixT (K := K)) (pv 1) pe_int (fun _ _ => rfl))))) pa_nil))))))
      (pss_one (ps_ret (pv 2)))))), ?_⟩
  walk_at "in"
  walk_at "dl"
  refine x_c1 0 (by assumption) rfl (by walk_at "slt") ⟨b, rfl, rfl, rfl⟩ ?_
  rintro _ _ ⟨rfl, l, r, rfl, hf⟩ H_ M_ w_ hw S_
  cases hw
  walk_at "dl"
  have hln : l.length ≤ 7 ∧ r.length ≤ 8 := by
    rcases hf with ⟨rfl, rfl⟩ | ⟨_, h1, r', rfl, _, h2⟩
    · exact ⟨Nat.zero_le _, Nat.zero_le _⟩
    · exact ⟨h1, by show r'.length + 1 ≤ 8; omega⟩
  refine x_forT (fun i ρ u => ∃ rs, ρ = [.v (.ref b), .d (.tuple [txD l, txD r]), .v (.ref rs), .u, .u] ∧ u = [(rs, .lst ((mks.take i).map fun m => rowD (nmL l r m))), (b, .nums)]) (by assumption) (by walk_at "tm") ⟨_, rfl, rfl⟩ ?_ ?_
  · rintro i d ρ1 u1 hi ⟨rs, rfl, rfl⟩ v σ1 H1 M1 S1
    obtain ⟨m, hm, rfl, hml⟩ : ∃ m, mks[i]? = some m ∧ d = txD m ∧ m.length ≤ 20 := by
      rcases i with _ | _ | _ | _ | i
      · exact ⟨mk0, rfl, (Option.some.inj hi).symm.trans (congrArg PyData.str (lit_T _)), by decide +kernel⟩
      · exact ⟨mk1, rfl, (Option.some.inj hi).symm.trans (congrArg PyData.str (lit_T _)), by decide +kernel⟩
      · exact ⟨mk2, rfl, (Option.some.inj hi).symm.trans (congrArg PyData.str (lit_T _)), by decide +kernel⟩
      · exact ⟨mk3, rfl, (Option.some.inj hi).symm.trans (congrArg PyData.str (lit_T _)), by decide +kernel⟩
      · simp at hi
    have hil : i < 4 := (List.getElem?_eq_some_iff.mp hm).1
    walk_at "dl"
    refine x_lcS ?_
    walk_at "dl"
    refine x_lc1S (k := 4) (fun j acc w1 => acc = ((m.take j).map fun c => txD (l ++ [c] ++ r)) ∧ w1 = [(rs, .lst ((mks.take i).map fun m => rowD (nmL l r m))), (b, .nums)]) (by assumption) ⟨rfl, rfl⟩ ?_ ?_
    · rintro j c acc w1 hj ⟨rfl, rfl⟩ D4 σ4 H4 M4 hrw S4
      rename Ds _ _ _ _ _ _ _ _ _ => S_
      simp only [List.set_cons_succ, List.set_cons_zero] at S_
      walk_at "dl"
      refine x_catS (by show l.length + 1 ≤ _; omega) ?_
      walk_at "dl"
      refine x_catS (by rw [List.length_append]; show l.length + 1 + r.length ≤ _; omega) ?_
      exact x_lcA (by assumption) (by assumption) (by walk_at "tm") (by rw [List.length_map, List.length_take]; exact Nat.lt_of_lt_of_le (by omega : _ < 1001) (by decide)) ⟨by rw [take_snoc hj, List.map_append]; rfl, rfl⟩
    · rintro acc w1 ⟨rfl, rfl⟩ D4 H4 M4 S4
      rw [take_all] at S4
      walk_at "dl"
      rename Ds _ _ _ _ _ _ _ _ _ => S_
      obtain ⟨M_, S_⟩ := S_.freeze (nn_ne2 S_)
      refine x_appK 0 (by assumption) rfl (by walk_at "tm") (by rw [List.length_map, List.length_take]; exact Nat.lt_of_lt_of_le (by omega : _ < 1001) (by decide)) (by walk_at "set") fun H_ S_ => ?_
      walk_at "dl"
      exact Nx.at (by assumption) (by walk_at "le") ⟨rs, rfl, by rw [take_snoc hm, List.map_append]; show _ = (rs, Od.lst (_ ++ [rowD (nmL l r m)])) :: _; rw [show nmL l r m = m.map fun c => l ++ [c] ++ r from rfl, rowD, List.map_map]; rfl⟩
  rintro ρ1 u1 ⟨rs, rfl, rfl⟩ σ1 H1 M1 S1
  have S1 : Ds K _ _ _ _ _ _ [(rs, .lst [rowD (nmL l r mk0), rowD (nmL l r mk1), rowD (nmL l r mk2), rowD (nmL l r mk3)]), (b, .nums)] _ := S1
  obtain ⟨M_, S_⟩ := S1.frozen (i := 2) rfl (nn_ne S1)
  simp only [List.set_cons_succ, List.set_cons_zero] at S_
  walk_at "dl"
  exact x_r1 (by assumption) hq (by walk_at "tm") 0 rfl ⟨rfl, l, r, rfl, hf⟩
end
/-- how many of the names may be drawn -/
structure SzOk (s0 s1 s2 : Int) : Prop where
  a0 : 0 < s0
  a1 : s0 ≤ 9
  b0 : 0 ≤ s1
  b1 : s1 ≤ 5
  c0 : 0 ≤ s2
  c1 : s2 ≤ 5
def cpN (l r : List Nat) (s : Int) : List (List Nat) := (nmL l r mk0).take s.toNat
def rlN (l r : List Nat) (s : Int) : List (List Nat) := (nmL l r mk1).take s.toNat
def inN (l r : List Nat) (s : Int) : List (List Nat) := (nmL l r mk2).take s.toNat
def Con.In (A B : List (List Nat)) : Con → Prop
  | .name s => s ∈ A
  | .not c => c.In A B
  | .both c d => c.In A B ∧ d.In A B
  | .either c d => c.In A B ∧ d.In A B
  | .some r c => r.1 ∈ B ∧ c.In A B
  | .all r c => r.1 ∈ B ∧ c.In A B
  | _ => True
def Stm.In (A B C : List (List Nat)) : Stm → Prop
  | .below c d => c.In A B ∧ d.In A B
  | .equals c d => c.In A B ∧ d.In A B
  | .apart c d => c.In A B ∧ d.In A B
  | .domain r c => r.1 ∈ B ∧ c.In A B
  | .range r c => r.1 ∈ B ∧ c.In A B
  | .under r s => r.1 ∈ B ∧ s.1 ∈ B
  | .inverse a b => a ∈ B ∧ b ∈ B
  | .is a c => a ∈ C ∧ c.In A B
  | .has a b c => a ∈ C ∧ b ∈ B ∧ c ∈ C
  | .never => True
theorem nm_at {l r m : List Nat} {x s : Int} {n : Nat} (hm : m.length = n) (h0 : 0 ≤ x) (h1 : x < s) (h2 : s ≤ n) : ∃ t, t ∈ (nmL l r m).take s.toNat ∧ atI ((nmL l r m).map txD) x = some (txD t) := by
  have hl : (nmL l r m).length = n := by rw [nmL, List.length_map, hm]
  have hi : x.toNat < (nmL l r m).length := by omega
  refine ⟨(nmL l r m)[x.toNat], ?_, ?_⟩
  · rw [List.mem_iff_getElem?]
    exact ⟨x.toNat, by rw [List.getElem?_take_of_lt (by omega), List.getElem?_eq_getElem hi]⟩
  · have ei : x = ((x.toNat : Nat) : Int) := by omega
    have := at_nat (f := txD) (List.getElem?_eq_getElem hi)
    rw [← ei] at this
    exact this
theorem mk0_len : mk0.length = 9 := by decide +kernel
theorem mk1_len : mk1.length = 5 := by decide +kernel
theorem mk2_len : mk2.length = 5 := by decide +kernel
section
variable {P : Program} {w : World} {K : PySem.W.Frag} {mg : Str → Option Value} {base : Heap}
def pRoleN : Pre := fun ss u post => ∃ (b : Addr) (l r : List Nat) (s0 s1 s2 : Int), ss = [.v (.ref b), .d (namD l r), .d (szD s0 s1 s2)] ∧ u = [(b, .nums)] ∧ SzOk s0 s1 s2 ∧ 0 < s1 ∧ post = pD1 b fun d od => od = .nums ∧ ∃ ro : Rol, d = rolD ro ∧ ro.1 ∈ rlN l r s1
theorem c_law_role {f : Addr} {fd : FuncData} (D : Df K mg "_law_role" s_law_role f fd ["draws", "names", "sizes"]) (c_law_take : Cl P w K mg base 1 "_law_take" (spG K pTake)) : Cl P w K mg base 2 "_law_role" (spG K pRoleN) := by
  refine D.go sc_law_role (pRoleN) (fun ss u post h => by repeat (first | (obtain ⟨rfl, _⟩ := h; rfl) | obtain ⟨_, h⟩ := h)) fun cdv A outer s H M vs Q E ss u post hr hp S hq => ?_
  obtain ⟨b, l, r, s0, s1, s2, rfl, rfl, hs, h1, rfl⟩ := hp
  refine ⟨_, (pss_cons (ps_set (i := 3) sc_law_role.nd rfl (.inl rfl) (pe_ix (ixL (K := K)) (pe_ix (ixL (K := K)) (pv 1) pe_int (fun _ _ => rfl)) (pc c_law_take hr (by first | decide | omega) (by rfl) (pa_cons (pv 0) (pa_cons (pe_ix (ixT (K := K)) (pv 2) pe_int (fun _ _ => rfl)) pa_nil))) (fun _ _ => rfl)))
      (pss_one (ps_ret (pe_tup (pa_cons (pv 3) (pa_cons (pe_cmpR op_eq (pc c_law_take hr (by first | decide | omega) (by rfl) (pa_cons (pv 0) (pa_cons pe_int pa_nil))) pe_int (nomark _)) pa_nil)))))), ?_⟩
  walk_at "in"
  walk_at "dl"
  refine x_c1 0 (by assumption) rfl (by walk_at "slt") ⟨b, s1, rfl, rfl, h1, rfl⟩ ?_
  rintro _ _ ⟨rfl, x, rfl, hx0, hx1⟩ H_ M_ w_ hw S_
  cases hw
  walk_at "dl"
  obtain ⟨t, ht, hat⟩ := nm_at (l := l) (r := r) mk1_len hx0 hx1 hs.b1
  refine x_ixL (by assumption) (by walk_at "tm") hat ?_
  walk_at "dl"
  refine x_c1 0 (by assumption) rfl (by walk_at "slt") ⟨b, 3, rfl, rfl, by decide, rfl⟩ ?_
  rintro _ _ ⟨rfl, y, rfl, _, _⟩ H_ M_ w_ hw S_
  cases hw
  walk_at "dl"
  exact x_r1 (by assumption) hq (by walk_at "tm") 0 rfl ⟨rfl, (t, _), rfl, ht⟩
def pConN (n : Nat) : Pre := fun ss u post => ∃ (b : Addr) (l r : List Nat) (s0 s1 s2 k : Int), ss = [.v (.ref b), .d (namD l r), .d (szD s0 s1 s2), .d (.int k)] ∧ u = [(b, .nums)] ∧ SzOk s0 s1 s2 ∧ 0 ≤ k ∧ k.toNat < n ∧ post = pD1 b fun d od => od = .nums ∧ ∃ c : Con, d = c.D ∧ c.dp ≤ k.toNat ∧ c.In (cpN l r s0) (rlN l r s1)
theorem c_law_concept {f : Addr} {fd : FuncData} (D : Df K mg "_law_concept" s_law_concept f fd ["draws", "names", "sizes", "depth"]) (c_law_take : Cl P w K mg base 1 "_law_take" (spG K pTake)) (c_law_role : Cl P w K mg base 2 "_law_role" (spG K pRoleN)) : ∀ n : Nat, Cl P w K mg base (n + 3) "_law_concept" (spG K (pConN n))
  | 0 => D.vain sc_law_concept _ fun ss u post ⟨b, l, r, s0, s1, s2, k, _, _, _, _, h, _⟩ => absurd h (Nat.not_lt_zero _)
  | n + 1 => by
    have c_law_concept := c_law_concept D c_law_take c_law_role n
    refine D.go sc_law_concept (pConN (n + 1)) (fun ss u post h => by repeat (first | (obtain ⟨rfl, _⟩ := h; rfl) | obtain ⟨_, h⟩ := h)) fun cdv A outer s H M vs Q E ss u post hr hp S hq => ?_
    obtain ⟨b, l, r, s0, s1, s2, k, rfl, rfl, hs, hk0, hk, rfl⟩ := hp
    refine ⟨_, (pss_cons (ps_set (i := 4) sc_law_concept.nd rfl (.inl rfl) (pc c_law_take hr (by first | decide | omega) (by rfl) (pa_cons (pv 0) (pa_cons pe_int pa_nil))))
      (Evl.pss_cut (ps_if (PW.pt (pw_or (pt_cmpR op_eq (pv 3) pe_int (nomark _)) (pw_or1 (pt_cmpR op_lt (pv 4) pe_int (nomark _))))) (pss_cons (ps_if (pt_cmpR op_eq (pv 4) pe_int (nomark _)) (pss_one (ps_ret (pe_ix (ixT (K := K)) (pe_tup (pa_cons (pe_tup (pa_cons pe_str pa_nil)) (pa_cons (pe_tup (pa_cons pe_str pa_nil)) pa_nil))) (pc c_law_take hr (by first | decide | omega) (by rfl) (pa_cons (pv 0) (pa_cons pe_int pa_nil))) (fun _ _ => rfl)))) pss_nil)
      (pss_one (ps_ret (pe_tup (pa_cons pe_str (pa_cons (pe_ix (ixL (K := K)) (pe_ix (ixL (K := K)) (pv 1) pe_int (fun _ _ => rfl)) (pc c_law_take hr (by first | decide | omega) (by rfl) (pa_cons (pv 0) (pa_cons (pe_ix (ixT (K := K)) (pv 2) pe_int (fun _ _ => rfl)) pa_nil))) (fun _ _ => rfl)) pa_nil)))))) pss_nil)
      (pss_cons (ps_if (pt_cmpR op_lt (pv 4) pe_int (nomark _)) (pss_one (ps_ret (pe_tup (pa_cons pe_str (pa_cons (pc c_law_concept hr (by first | decide | omega) (by rfl) (pa_cons (pv 0) (pa_cons (pv 1) (pa_cons (pv 2) (pa_cons (pe_op op_sub (pv 3) pe_int) pa_nil))))) pa_nil))))) pss_nil)
      (Evl.pss_cut (ps_if (PW.pt (pw_and (pt_cmpR op_lt (pv 4) pe_int (nomark _)) (pw_and1 (pt_cmpR op_gt (pe_ix (ixT (K := K)) (pv 2) pe_int (fun _ _ => rfl)) pe_int (nomark _))))) (pss_cons (ps_set (i := 5) sc_law_concept.nd rfl (.inl rfl) (pc c_law_role hr (by first | decide | omega) (by rfl) (pa_cons (pv 0) (pa_cons (pv 1) (pa_cons (pv 2) pa_nil)))))
      (pss_cons (ps_set (i := 6) sc_law_concept.nd rfl (.inl rfl) (pe_ix (ixT (K := K)) (pe_tup (pa_cons pe_str (pa_cons pe_str (pa_cons pe_str pa_nil)))) (pe_op op_sub (pv 4) pe_int) (fun _ _ => rfl)))
      (pss_one (ps_ret (pe_tup (pa_cons (pv 6) (pa_cons (pv 5) (pa_cons (pc c_law_concept hr (by first | decide | omega) (by rfl) (pa_cons (pv 0) (pa_cons (pv 1) (pa_cons (pv 2) (pa_cons (pe_op op_sub (pv 3) pe_int) pa_nil))))) pa_nil)))))))) pss_nil)
      (pss_cons (ps_set (i := 7) sc_law_concept.nd rfl (.inl rfl) (pc c_law_concept hr (by first | decide | omega) (by rfl) (pa_cons (pv 0) (pa_cons (pv 1) (pa_cons (pv 2) (pa_cons (pe_op op_sub (pv 3) pe_int) pa_nil))))))
      (pss_cons (ps_set (i := 6) sc_law_concept.nd rfl (.inl rfl) (pe_ix (ixT (K := K)) (pe_tup (pa_cons pe_str (pa_cons pe_str pa_nil))) (pc c_law_take hr (by first | decide | omega) (by rfl) (pa_cons (pv 0) (pa_cons pe_int pa_nil))) (fun _ _ => rfl)))
      (pss_one (ps_ret (pe_tup (pa_cons (pv 6) (pa_cons (pv 7) (pa_cons (pc c_law_concept hr (by first | decide | omega) (by rfl) (pa_cons (pv 0) (pa_cons (pv 1) (pa_cons (pv 2) (pa_cons (pe_op op_sub (pv 3) pe_int) pa_nil))))) pa_nil)))))))))))), ?_⟩
    walk_at "in"
    walk_at "dl"
    refine x_c1 0 (by assumption) rfl (by walk_at "slt") ⟨b, 12, rfl, rfl, by decide, rfl⟩ ?_
    rintro _ _ ⟨rfl, kind, rfl, hq0, hq1⟩ H_ M_ w_ hw S_
    cases hw
    walk_at "dl"
    refine x_cut (fun ρ u => ρ = [.v (.ref b), .d (namD l r), .d (szD s0 s1 s2), .d (.int k), .d (.int kind), .u, .u, .u] ∧ u = [(b, .nums)] ∧ 0 < k ∧ 4 ≤ kind) (by assumption) ?_ ?_
    · walk_at "dl"
      refine x_if (fun c => ?_) (fun c => ?_)
      · walk_at "dl"
        refine x_if (fun c0 => ?_) (fun c0 => ?_)
        · walk_at "dl"
          refine x_c1 0 (by assumption) rfl (by walk_at "slt") ⟨b, 2, rfl, rfl, by decide, rfl⟩ ?_
          rintro _ _ ⟨rfl, y, rfl, hy0, hy1⟩ H_ M_ w_ hw S_
          cases hw
          walk_at "dl"
          obtain rfl | rfl : y = 0 ∨ y = 1 := by omega
          · refine x_ixT (by assumption) (by walk_at "tm") (d := Con.any.D) rfl ?_
            walk_at "dl"
            exact x_r1 (by assumption) hq (by walk_at "tm") 0 rfl ⟨rfl, .any, rfl, Nat.zero_le _, trivial⟩
          · refine x_ixT (by assumption) (by walk_at "tm") (d := Con.nothing.D) rfl ?_
            walk_at "dl"
            exact x_r1 (by assumption) hq (by walk_at "tm") 0 rfl ⟨rfl, .nothing, rfl, Nat.zero_le _, trivial⟩
        · walk_at "dl"
          refine x_c1 0 (by assumption) rfl (by walk_at "slt") ⟨b, s0, rfl, rfl, hs.a0, rfl⟩ ?_
          rintro _ _ ⟨rfl, y, rfl, hy0, hy1⟩ H_ M_ w_ hw S_
          cases hw
          walk_at "dl"
          obtain ⟨t, ht, hat⟩ := nm_at (l := l) (r := r) mk0_len hy0 hy1 hs.a1
          refine x_ixL (by assumption) (by walk_at "tm") hat ?_
          walk_at "dl"
          exact x_r1 (by assumption) hq (by walk_at "tm") 0 rfl ⟨rfl, .name t, rfl, Nat.zero_le _, ht⟩
      · have c := of_decide_eq_false c
        walk_at "dl"
        refine x_if (fun c2 => ?_) (fun c2 => ?_)
        · walk_at "dl"
          refine x_if (fun c0 => ?_) (fun c0 => ?_)
          · walk_at "dl"
            refine x_c1 0 (by assumption) rfl (by walk_at "slt") ⟨b, 2, rfl, rfl, by decide, rfl⟩ ?_
            rintro _ _ ⟨rfl, y, rfl, hy0, hy1⟩ H_ M_ w_ hw S_
            cases hw
            walk_at "dl"
            obtain rfl | rfl : y = 0 ∨ y = 1 := by omega
            · refine x_ixT (by assumption) (by walk_at "tm") (d := Con.any.D) rfl ?_
              walk_at "dl"
              exact x_r1 (by assumption) hq (by walk_at "tm") 0 rfl ⟨rfl, .any, rfl, Nat.zero_le _, trivial⟩
            · refine x_ixT (by assumption) (by walk_at "tm") (d := Con.nothing.D) rfl ?_
              walk_at "dl"
              exact x_r1 (by assumption) hq (by walk_at "tm") 0 rfl ⟨rfl, .nothing, rfl, Nat.zero_le _, trivial⟩
          · walk_at "dl"
            refine x_c1 0 (by assumption) rfl (by walk_at "slt") ⟨b, s0, rfl, rfl, hs.a0, rfl⟩ ?_
            rintro _ _ ⟨rfl, y, rfl, hy0, hy1⟩ H_ M_ w_ hw S_
            cases hw
            walk_at "dl"
            obtain ⟨t, ht, hat⟩ := nm_at (l := l) (r := r) mk0_len hy0 hy1 hs.a1
            refine x_ixL (by assumption) (by walk_at "tm") hat ?_
            walk_at "dl"
            exact x_r1 (by assumption) hq (by walk_at "tm") 0 rfl ⟨rfl, .name t, rfl, Nat.zero_le _, ht⟩
        · have c2 := of_decide_eq_false c2
          walk_at "dl"
          exact Md.at (by assumption) (by walk_at "le") ⟨rfl, rfl, by omega, by omega⟩
    rintro M1 σ1 H1 ρ1 u1 ⟨rfl, rfl, hk1, hk4⟩ S1
    have hkk0 : 0 ≤ k - 1 := by omega
    have hkk1 : (k - 1).toNat < n := by omega
    have hkk2 : (k - 1).toNat + 1 ≤ k.toNat := by omega
    walk_at "dl"
    refine x_if (fun c6 => ?_) (fun c6 => ?_)
    · walk_at "dl"
      refine x_c1 0 (by assumption) rfl (by walk_at "slt") ⟨b, l, r, s0, s1, s2, k - 1, rfl, rfl, hs, hkk0, hkk1, rfl⟩ ?_
      rintro _ _ ⟨rfl, c1, rfl, hd1, hi1⟩ H_ M_ w_ hw S_
      cases hw
      walk_at "dl"
      exact x_r1 (by assumption) hq (by walk_at "tm") 0 rfl ⟨rfl, .not c1, rfl, by show c1.dp + 1 ≤ _; omega, hi1⟩
    have c6 := of_decide_eq_false c6
    walk_at "dl"
    refine x_cut (fun ρ u => ρ = [.v (.ref b), .d (namD l r), .d (szD s0 s1 s2), .d (.int k), .d (.int kind), .u, .u, .u] ∧ u = [(b, .nums)]) (by assumption) ?_ ?_
    · walk_at "dl"
      refine x_if (fun c9 => ?_) (fun c9 => ?_)
      · have c9 := of_decide_eq_true c9
        walk_at "dl"
        refine x_if (fun cs => ?_) (fun cs => ?_)
        · have cs := of_decide_eq_true cs
          walk_at "dl"
          refine x_c1 0 (by assumption) rfl (by walk_at "slt") ⟨b, l, r, s0, s1, s2, rfl, rfl, hs, cs, rfl⟩ ?_
          rintro _ _ ⟨rfl, ro, rfl, hro⟩ H_ M_ w_ hw S_
          cases hw
          walk_at "dl"
          obtain ⟨wd, mk, hw, hmk⟩ : ∃ (wd : String) (mk : Rol → Con → Con), atI [PyData.str (Str.ofString "some"), .str (Str.ofString "all"), .str (Str.ofString "some")] (kind - 6) = some (.str (Str.ofString wd)) ∧ ∀ (ro : Rol) (c : Con), .tuple [.str (Str.ofString wd), rolD ro, c.D] = (mk ro c).D ∧ (mk ro c).dp = c.dp + 1 ∧ (ro.1 ∈ rlN l r s1 → c.In (cpN l r s0) (rlN l r s1) → (mk ro c).In (cpN l r s0) (rlN l r s1)) := by
            obtain rfl | rfl | rfl : kind = 6 ∨ kind = 7 ∨ kind = 8 := by omega
            · exact ⟨"some", .some, rfl, fun ro c => ⟨rfl, rfl, fun a b => ⟨a, b⟩⟩⟩
            · exact ⟨"all", .all, rfl, fun ro c => ⟨rfl, rfl, fun a b => ⟨a, b⟩⟩⟩
            · exact ⟨"some", .some, rfl, fun ro c => ⟨rfl, rfl, fun a b => ⟨a, b⟩⟩⟩
          refine x_ixT (by assumption) (by walk_at "tm") hw ?_
          walk_at "dl"
          refine x_c1 0 (by assumption) rfl (by walk_at "slt") ⟨b, l, r, s0, s1, s2, k - 1, rfl, rfl, hs, hkk0, hkk1, rfl⟩ ?_
          rintro _ _ ⟨rfl, c1, rfl, hd1, hi1⟩ H_ M_ w_ hw S_
          cases hw
          walk_at "dl"
          exact x_r1 (by assumption) hq (by walk_at "tm") 0 rfl ⟨rfl, mk ro c1, (hmk ro c1).1, by rw [(hmk ro c1).2.1]; omega, (hmk ro c1).2.2 hro hi1⟩
        · walk_at "dl"
          exact Md.at (by assumption) (by walk_at "le") ⟨rfl, rfl⟩
      · walk_at "dl"
        exact Md.at (by assumption) (by walk_at "le") ⟨rfl, rfl⟩
    rintro M1 σ1 H1 ρ1 u1 ⟨rfl, rfl⟩ S1
    walk_at "dl"
    refine x_c1 0 (by assumption) rfl (by walk_at "slt") ⟨b, l, r, s0, s1, s2, k - 1, rfl, rfl, hs, hkk0, hkk1, rfl⟩ ?_
    rintro _ _ ⟨rfl, c1, rfl, hd1, hi1⟩ H_ M_ w_ hw S_
    cases hw
    walk_at "dl"
    refine x_c1 0 (by assumption) rfl (by walk_at "slt") ⟨b, 2, rfl, rfl, by decide, rfl⟩ ?_
    rintro _ _ ⟨rfl, y, rfl, hy0, hy1⟩ H_ M_ w_ hw S_
    cases hw
    walk_at "dl"
    obtain ⟨wd, mk, hw, hmk⟩ : ∃ (wd : String) (mk : Con → Con → Con), atI [PyData.str (Str.ofString "and"), .str (Str.ofString "or")] y = some (.str (Str.ofString wd)) ∧ ∀ (c d : Con), .tuple [.str (Str.ofString wd), c.D, d.D] = (mk c d).D ∧ (mk c d).dp = max c.dp d.dp + 1 ∧ (c.In (cpN l r s0) (rlN l r s1) → d.In (cpN l r s0) (rlN l r s1) → (mk c d).In (cpN l r s0) (rlN l r s1)) := by
      obtain rfl | rfl : y = 0 ∨ y = 1 := by omega
      · exact ⟨"and", .both, rfl, fun c d => ⟨rfl, rfl, fun a b => ⟨a, b⟩⟩⟩
      · exact ⟨"or", .either, rfl, fun c d => ⟨rfl, rfl, fun a b => ⟨a, b⟩⟩⟩
    refine x_ixT (by assumption) (by walk_at "tm") hw ?_
    walk_at "dl"
    refine x_c1 0 (by assumption) rfl (by walk_at "slt") ⟨b, l, r, s0, s1, s2, k - 1, rfl, rfl, hs, hkk0, hkk1, rfl⟩ ?_
    rintro _ _ ⟨rfl, c2, rfl, hd2, hi2⟩ H_ M_ w_ hw S_
    cases hw
    walk_at "dl"
    exact x_r1 (by assumption) hq (by walk_at "tm") 0 rfl ⟨rfl, mk c1 c2, (hmk c1 c2).1, by rw [(hmk c1 c2).2.1]; omega, (hmk c1 c2).2.2 hi1 hi2⟩
end
section
variable {P : Program} {w : World} {K : PySem.W.Frag} {mg : Str → Option Value} {base : Heap}
def pStmN (n : Nat) : Pre := fun ss u post => ∃ (b : Addr) (l r : List Nat) (s0 s1 s2 k : Int), ss = [.v (.ref b), .d (namD l r), .d (szD s0 s1 s2), .d (.int k)] ∧ u = [(b, .nums)] ∧ SzOk s0 s1 s2 ∧ 0 ≤ k ∧ k.toNat < n ∧ post = pD1 b fun d od => od = .nums ∧ ∃ c : Stm, d = c.D ∧ c.dp ≤ k.toNat ∧ c ≠ .never ∧ c.In (cpN l r s0) (rlN l r s1) (inN l r s2)
theorem c_law_statement {n m : Nat} (hm : 2 ≤ m) {f : Addr} {fd : FuncData} (D : Df K mg "_law_statement" s_law_statement f fd ["draws", "names", "sizes", "depth"]) (c_law_take : Cl P w K mg base 1 "_law_take" (spG K pTake)) (c_law_role : Cl P w K mg base 2 "_law_role" (spG K pRoleN)) (c_law_concept : Cl P w K mg base m "_law_concept" (spG K (pConN n))) (z_min : mg "min" = none) : Cl P w K mg base (m + 1) "_law_statement" (spG K (pStmN n)) := by
  refine D.go sc_law_statement (pStmN n) (fun ss u post h => by repeat (first | (obtain ⟨rfl, _⟩ := h; rfl) | obtain ⟨_, h⟩ := h)) fun cdv A outer s H M vs Q E ss u post hr hp S hq => ?_
  obtain ⟨b, l, r, s0, s1, s2, k, rfl, rfl, hs, hk0, hk, rfl⟩ := hp
  refine ⟨_, (pss_cons (ps_set (i := 4) sc_law_statement.nd rfl (.inl rfl) (pc c_law_take hr (by first | decide | omega) (by rfl) (pa_cons (pv 0) (pa_cons pe_int pa_nil))))
      (Evl.pss_cut (ps_if (PW.pt (pw_and (pt_cmpR op_gt (pv 4) pe_int (nomark _)) (pw_and1 (pt_cmpR op_gt (pe_ix (ixT (K := K)) (pv 2) pe_int (fun _ _ => rfl)) pe_int (nomark _))))) (pss_cons (ps_set (i := 5) sc_law_statement.nd rfl (.inl rfl) (pe_ix (ixL (K := K)) (pe_ix (ixL (K := K)) (pv 1) pe_int (fun _ _ => rfl)) (pc c_law_take hr (by first | decide | omega) (by rfl) (pa_cons (pv 0) (pa_cons (pe_ix (ixT (K := K)) (pv 2) pe_int (fun _ _ => rfl)) pa_nil))) (fun _ _ => rfl)))
      (Evl.pss_cut (ps_if (PW.pt (pw_and (pt_cmpR op_eq (pv 4) pe_int (nomark _)) (pw_and1 (pt_cmpR op_gt (pe_ix (ixT (K := K)) (pv 2) pe_int (fun _ _ => rfl)) pe_int (nomark _))))) (pss_cons (ps_set (i := 6) sc_law_statement.nd rfl (.inl rfl) (pe_ix (ixL (K := K)) (pe_ix (ixL (K := K)) (pv 1) pe_int (fun _ _ => rfl)) (pc c_law_take hr (by first | decide | omega) (by rfl) (pa_cons (pv 0) (pa_cons (pe_ix (ixT (K := K)) (pv 2) pe_int (fun _ _ => rfl)) pa_nil))) (fun _ _ => rfl)))
      (pss_one (ps_ret (pe_tup (pa_cons pe_str (pa_cons (pv 5) (pa_cons (pv 6) (pa_cons (pe_ix (ixL (K := K)) (pe_ix (ixL (K := K)) (pv 1) pe_int (fun _ _ => rfl)) (pc c_law_take hr (by first | decide | omega) (by rfl) (pa_cons (pv 0) (pa_cons (pe_ix (ixT (K := K)) (pv 2) pe_int (fun _ _ => rfl)) pa_nil))) (fun _ _ => rfl)) pa_nil)))))))) pss_nil)
      (pss_one (ps_ret (pe_tup (pa_cons pe_str (pa_cons (pv 5) (pa_cons (pc c_law_concept hr (by first | decide | omega) (by rfl) (pa_cons (pv 0) (pa_cons (pv 1) (pa_cons (pv 2) (pa_cons (pv 3) pa_nil))))) pa_nil)))))))) pss_nil)
      (Evl.pss_cut (ps_if (PW.pt (pw_and (pt_cmpR op_gt (pv 4) pe_int (nomark _)) (pw_and1 (pt_cmpR op_gt (pe_ix (ixT (K := K)) (pv 2) pe_int (fun _ _ => rfl)) pe_int (nomark _))))) (pss_cons (ps_set (i := 6) sc_law_statement.nd rfl (.inl rfl) (pc c_law_role hr (by first | decide | omega) (by rfl) (pa_cons (pv 0) (pa_cons (pv 1) (pa_cons (pv 2) pa_nil)))))
      (pss_cons (ps_if (pt_cmpR op_eq (pv 4) pe_int (nomark _)) (pss_one (ps_ret (pe_tup (pa_cons pe_str (pa_cons (pv 6) (pa_cons (pc c_law_concept hr (by first | decide | omega) (by rfl) (pa_cons (pv 0) (pa_cons (pv 1) (pa_cons (pv 2) (pa_cons (pv 3) pa_nil))))) pa_nil)))))) pss_nil)
      (pss_cons (ps_if (pt_cmpR op_eq (pv 4) pe_int (nomark _)) (pss_one (ps_ret (pe_tup (pa_cons pe_str (pa_cons (pv 6) (pa_cons (pc c_law_concept hr (by first | decide | omega) (by rfl) (pa_cons (pv 0) (pa_cons (pv 1) (pa_cons (pv 2) (pa_cons (pv 3) pa_nil))))) pa_nil)))))) pss_nil)
      (pss_cons (ps_if (pt_cmpR op_eq (pv 4) pe_int (nomark _)) (pss_one (ps_ret (pe_tup (pa_cons pe_str (pa_cons (pe_ix (ixT (K := K)) (pv 6) pe_int (fun _ _ => rfl)) (pa_cons (pe_ix (ixL (K := K)) (pe_ix (ixL (K := K)) (pv 1) pe_int (fun _ _ => rfl)) (pc c_law_take hr (by first | decide | omega) (by rfl) (pa_cons (pv 0) (pa_cons (pe_ix (ixT (K := K)) (pv 2) pe_int (fun _ _ => rfl)) pa_nil))) (fun _ _ => rfl)) pa_nil)))))) pss_nil)
      (pss_one (ps_ret (pe_tup (pa_cons pe_str (pa_cons (pv 6) (pa_cons (pc c_law_role hr (by first | decide | omega) (by rfl) (pa_cons (pv 0) (pa_cons (pv 1) (pa_cons (pv 2) pa_nil)))) pa_nil)))))))))) pss_nil)
      (pss_cons (ps_set (i := 7) sc_law_statement.nd rfl (.inl rfl) (pe_ix (ixT (K := K)) (pe_tup (pa_cons pe_str (pa_cons pe_str (pa_cons pe_str (pa_cons pe_str (pa_cons pe_str pa_nil)))))) (pe_callB (call_min2 rfl) (by rfl) z_min (by decide +kernel) (pa_cons (pv 4) (pa_cons pe_int pa_nil))) (fun _ _ => rfl)))
      (pss_cons (ps_set (i := 8) sc_law_statement.nd rfl (.inl rfl) (pc c_law_concept hr (by first | decide | omega) (by rfl) (pa_cons (pv 0) (pa_cons (pv 1) (pa_cons (pv 2) (pa_cons (pv 3) pa_nil))))))
      (pss_one (ps_ret (pe_tup (pa_cons (pv 7) (pa_cons (pv 8) (pa_cons (pc c_law_concept hr (by first | decide | omega) (by rfl) (pa_cons (pv 0) (pa_cons (pv 1) (pa_cons (pv 2) (pa_cons (pv 3) pa_nil))))) pa_nil))))))))))), ?_⟩
  walk_at "in"
  walk_at "dl"
  refine x_c1 0 (by assumption) rfl (by walk_at "slt") ⟨b, 12, rfl, rfl, by decide, rfl⟩ ?_
  rintro _ _ ⟨rfl, kind, rfl, hq0, hq1⟩ H_ M_ w_ hw S_
  cases hw
  walk_at "dl"
  refine x_cut (fun ρ u => ρ = [.v (.ref b), .d (namD l r), .d (szD s0 s1 s2), .d (.int k), .d (.int kind), .u, .u, .u, .u] ∧ u = [(b, .nums)]) (by assumption) ?_ ?_
  · walk_at "dl"
    refine x_if (fun c8 => ?_) (fun c8 => ?_)
    · walk_at "dl"
      refine x_if (fun cs => ?_) (fun cs => ?_)
      · have cs := of_decide_eq_true cs
        walk_at "dl"
        refine x_c1 0 (by assumption) rfl (by walk_at "slt") ⟨b, s2, rfl, rfl, cs, rfl⟩ ?_
        rintro _ _ ⟨rfl, y, rfl, hy0, hy1⟩ H_ M_ w_ hw S_
        cases hw
        walk_at "dl"
        obtain ⟨o1, ho1, hat⟩ := nm_at (l := l) (r := r) mk2_len hy0 hy1 hs.c1
        refine x_ixL (by assumption) (by walk_at "tm") hat ?_
        walk_at "dl"
        refine x_cut (fun ρ u => ρ = [.v (.ref b), .d (namD l r), .d (szD s0 s1 s2), .d (.int k), .d (.int kind), .d (txD o1), .u, .u, .u] ∧ u = [(b, .nums)]) (by assumption) ?_ ?_
        · walk_at "dl"
          refine x_if (fun c11 => ?_) (fun c11 => ?_)
          · walk_at "dl"
            refine x_if (fun cr => ?_) (fun cr => ?_)
            · have cr := of_decide_eq_true cr
              walk_at "dl"
              refine x_c1 0 (by assumption) rfl (by walk_at "slt") ⟨b, s1, rfl, rfl, cr, rfl⟩ ?_
              rintro _ _ ⟨rfl, z, rfl, hz0, hz1⟩ H_ M_ w_ hw S_
              cases hw
              walk_at "dl"
              obtain ⟨ro, hro, hat2⟩ := nm_at (l := l) (r := r) mk1_len hz0 hz1 hs.b1
              refine x_ixL (by assumption) (by walk_at "tm") hat2 ?_
              walk_at "dl"
              refine x_c1 0 (by assumption) rfl (by walk_at "slt") ⟨b, s2, rfl, rfl, cs, rfl⟩ ?_
              rintro _ _ ⟨rfl, x, rfl, hx0, hx1⟩ H_ M_ w_ hw S_
              cases hw
              walk_at "dl"
              obtain ⟨o2, ho2, hat3⟩ := nm_at (l := l) (r := r) mk2_len hx0 hx1 hs.c1
              refine x_ixL (by assumption) (by walk_at "tm") hat3 ?_
              walk_at "dl"
              exact x_r1 (by assumption) hq (by walk_at "tm") 0 rfl ⟨rfl, .has o1 ro o2, rfl, Nat.zero_le _, (fun z => nomatch z), ho1, hro, ho2⟩
            · walk_at "dl"
              exact Md.at (by assumption) (by walk_at "le") ⟨rfl, rfl⟩
          · walk_at "dl"
            exact Md.at (by assumption) (by walk_at "le") ⟨rfl, rfl⟩
        rintro M1 σ1 H1 ρ1 u1 ⟨rfl, rfl⟩ S1
        walk_at "dl"
        refine x_c1 0 (by assumption) rfl (by walk_at "slt") ⟨b, l, r, s0, s1, s2, k, rfl, rfl, hs, hk0, hk, rfl⟩ ?_
        rintro _ _ ⟨rfl, c1, rfl, hd1, hi1⟩ H_ M_ w_ hw S_
        cases hw
        walk_at "dl"
        exact x_r1 (by assumption) hq (by walk_at "tm") 0 rfl ⟨rfl, .is o1 c1, rfl, hd1, (fun z => nomatch z), ho1, hi1⟩
      · walk_at "dl"
        exact Md.at (by assumption) (by walk_at "le") ⟨rfl, rfl⟩
    · walk_at "dl"
      exact Md.at (by assumption) (by walk_at "le") ⟨rfl, rfl⟩
  rintro M1 σ1 H1 ρ1 u1 ⟨rfl, rfl⟩ S1
  walk_at "dl"
  refine x_cut (fun ρ u => ρ = [.v (.ref b), .d (namD l r), .d (szD s0 s1 s2), .d (.int k), .d (.int kind), .u, .u, .u, .u] ∧ u = [(b, .nums)]) (by assumption) ?_ ?_
  · walk_at "dl"
    refine x_if (fun c4 => ?_) (fun c4 => ?_)
    · walk_at "dl"
      refine x_if (fun cr => ?_) (fun cr => ?_)
      · have cr := of_decide_eq_true cr
        walk_at "dl"
        refine x_c1 0 (by assumption) rfl (by walk_at "slt") ⟨b, l, r, s0, s1, s2, rfl, rfl, hs, cr, rfl⟩ ?_
        rintro _ _ ⟨rfl, ro, rfl, hro⟩ H_ M_ w_ hw S_
        cases hw
        walk_at "dl"
        refine x_if (fun c5 => ?_) (fun c5 => ?_)
        · walk_at "dl"
          refine x_c1 0 (by assumption) rfl (by walk_at "slt") ⟨b, l, r, s0, s1, s2, k, rfl, rfl, hs, hk0, hk, rfl⟩ ?_
          rintro _ _ ⟨rfl, c1, rfl, hd1, hi1⟩ H_ M_ w_ hw S_
          cases hw
          walk_at "dl"
          exact x_r1 (by assumption) hq (by walk_at "tm") 0 rfl ⟨rfl, .domain ro c1, rfl, hd1, (fun z => nomatch z), hro, hi1⟩
        walk_at "dl"
        refine x_if (fun c6 => ?_) (fun c6 => ?_)
        · walk_at "dl"
          refine x_c1 0 (by assumption) rfl (by walk_at "slt") ⟨b, l, r, s0, s1, s2, k, rfl, rfl, hs, hk0, hk, rfl⟩ ?_
          rintro _ _ ⟨rfl, c1, rfl, hd1, hi1⟩ H_ M_ w_ hw S_
          cases hw
          walk_at "dl"
          exact x_r1 (by assumption) hq (by walk_at "tm") 0 rfl ⟨rfl, .range ro c1, rfl, hd1, (fun z => nomatch z), hro, hi1⟩
        walk_at "dl"
        refine x_if (fun c7 => ?_) (fun c7 => ?_)
        · rename Ds _ _ _ _ _ _ _ _ _ => S_
          simp only [rolD] at S_
          walk_at "dl"
          refine x_c1 0 (by assumption) rfl (by walk_at "slt") ⟨b, s1, rfl, rfl, cr, rfl⟩ ?_
          rintro _ _ ⟨rfl, z, rfl, hz0, hz1⟩ H_ M_ w_ hw S_
          cases hw
          walk_at "dl"
          obtain ⟨ro2, hro2, hat2⟩ := nm_at (l := l) (r := r) mk1_len hz0 hz1 hs.b1
          refine x_ixL (by assumption) (by walk_at "tm") hat2 ?_
          walk_at "dl"
          exact x_r1 (by assumption) hq (by walk_at "tm") 0 rfl ⟨rfl, .inverse ro.1 ro2, rfl, Nat.zero_le _, (fun z => nomatch z), hro, hro2⟩
        walk_at "dl"
        refine x_c1 0 (by assumption) rfl (by walk_at "slt") ⟨b, l, r, s0, s1, s2, rfl, rfl, hs, cr, rfl⟩ ?_
        rintro _ _ ⟨rfl, ro2, rfl, hro2⟩ H_ M_ w_ hw S_
        cases hw
        walk_at "dl"
        exact x_r1 (by assumption) hq (by walk_at "tm") 0 rfl ⟨rfl, .under ro ro2, rfl, Nat.zero_le _, (fun z => nomatch z), hro, hro2⟩
      · walk_at "dl"
        exact Md.at (by assumption) (by walk_at "le") ⟨rfl, rfl⟩
    · walk_at "dl"
      exact Md.at (by assumption) (by walk_at "le") ⟨rfl, rfl⟩
  rintro M1 σ1 H1 ρ1 u1 ⟨rfl, rfl⟩ S1
  walk_at "dl"
  refine ⟨_, _, rfl, ?_⟩
  obtain ⟨y, hy, y0, y4⟩ : ∃ y, (if (4 : Int) < kind then (4 : Int) else kind) = y ∧ 0 ≤ y ∧ y ≤ 4 := ⟨_, rfl, by split <;> omega, by split <;> omega⟩
  rw [hy]
  obtain ⟨wd, mk, hw, hmk⟩ : ∃ (wd : String) (mk : Con → Con → Stm), atI [PyData.str (Str.ofString "below"), .str (Str.ofString "below"), .str (Str.ofString "equals"), .str (Str.ofString "apart"), .str (Str.ofString "below")] y = some (.str (Str.ofString wd)) ∧ ∀ c d : Con, .tuple [.str (Str.ofString wd), c.D, d.D] = (mk c d).D ∧ (mk c d).dp = max c.dp d.dp ∧ mk c d ≠ .never ∧ (c.In (cpN l r s0) (rlN l r s1) → d.In (cpN l r s0) (rlN l r s1) → (mk c d).In (cpN l r s0) (rlN l r s1) (inN l r s2)) := by
    obtain rfl | rfl | rfl | rfl | rfl : y = 0 ∨ y = 1 ∨ y = 2 ∨ y = 3 ∨ y = 4 := by omega
    · exact ⟨"below", .below, rfl, fun c d => ⟨rfl, rfl, (fun z => nomatch z), fun a b => ⟨a, b⟩⟩⟩
    · exact ⟨"below", .below, rfl, fun c d => ⟨rfl, rfl, (fun z => nomatch z), fun a b => ⟨a, b⟩⟩⟩
    · exact ⟨"equals", .equals, rfl, fun c d => ⟨rfl, rfl, (fun z => nomatch z), fun a b => ⟨a, b⟩⟩⟩
    · exact ⟨"apart", .apart, rfl, fun c d => ⟨rfl, rfl, (fun z => nomatch z), fun a b => ⟨a, b⟩⟩⟩
    · exact ⟨"below", .below, rfl, fun c d => ⟨rfl, rfl, (fun z => nomatch z), fun a b => ⟨a, b⟩⟩⟩
  refine x_ixT (by assumption) (by walk_at "tm") hw ?_
  walk_at "dl"
  refine x_c1 0 (by assumption) rfl (by walk_at "slt") ⟨b, l, r, s0, s1, s2, k, rfl, rfl, hs, hk0, hk, rfl⟩ ?_
  rintro _ _ ⟨rfl, c1, rfl, hd1, hi1⟩ H_ M_ w_ hw S_
  cases hw
  walk_at "dl"
  refine x_c1 0 (by assumption) rfl (by walk_at "slt") ⟨b, l, r, s0, s1, s2, k, rfl, rfl, hs, hk0, hk, rfl⟩ ?_
  rintro _ _ ⟨rfl, c2, rfl, hd2, hi2⟩ H_ M_ w_ hw S_
  cases hw
  walk_at "dl"
  obtain ⟨m1, m2, m3, m4⟩ := hmk c1 c2
  exact x_r1 (by assumption) hq (by walk_at "tm") 0 rfl ⟨rfl, mk c1 c2, m1, by rw [m2]; omega, m3, m4 hi1 hi2⟩
end
def QK : Stm → Prop
  | .never => True
  | .below _ _ => True
  | .is _ _ => True
  | .has _ _ _ => True
  | _ => False
section
variable {P : Program} {w : World} {K : PySem.W.Frag} {mg : Str → Option Value} {base : Heap}
def pQstN (n : Nat) : Pre := fun ss u post => ∃ (b : Addr) (l r : List Nat) (s0 s1 s2 k : Int), ss = [.v (.ref b), .d (namD l r), .d (szD s0 s1 s2), .d (.int k)] ∧ u = [(b, .nums)] ∧ SzOk s0 s1 s2 ∧ 0 ≤ k ∧ k.toNat < n ∧ post = pD1 b fun d od => od = .nums ∧ ∃ c : Stm, d = c.D ∧ c.dp ≤ k.toNat ∧ QK c ∧ c.In (cpN l r s0) (rlN l r s1) (inN l r s2)
theorem c_law_question {n m : Nat} (hm : 2 ≤ m) {f : Addr} {fd : FuncData} (D : Df K mg "_law_question" s_law_question f fd ["draws", "names", "sizes", "depth"]) (c_law_take : Cl P w K mg base 1 "_law_take" (spG K pTake)) (c_law_concept : Cl P w K mg base m "_law_concept" (spG K (pConN n))) : Cl P w K mg base (m + 1) "_law_question" (spG K (pQstN n)) := by
  refine D.go sc_law_question (pQstN n) (fun ss u post h => by repeat (first | (obtain ⟨rfl, _⟩ := h; rfl) | obtain ⟨_, h⟩ := h)) fun cdv A outer s H M vs Q E ss u post hr hp S hq => ?_
  obtain ⟨b, l, r, s0, s1, s2, k, rfl, rfl, hs, hk0, hk, rfl⟩ := hp
  refine ⟨_, (pss_cons (ps_set (i := 4) sc_law_question.nd rfl (.inl rfl) (pc c_law_take hr (by first | decide | omega) (by rfl) (pa_cons (pv 0) (pa_cons pe_int pa_nil))))
      (pss_cons (ps_if (pt_cmpR op_eq (pv 4) pe_int (nomark _)) (pss_one (ps_ret (pe_tup (pa_cons pe_str pa_nil)))) pss_nil)
      (Evl.pss_cut (ps_if (PW.pt (pw_and (pt_cmpR op_gt (pv 4) pe_int (nomark _)) (pw_and1 (pt_cmpR op_gt (pe_ix (ixT (K := K)) (pv 2) pe_int (fun _ _ => rfl)) pe_int (nomark _))))) (pss_cons (ps_set (i := 5) sc_law_question.nd rfl (.inl rfl) (pe_ix (ixL (K := K)) (pe_ix (ixL (K := K)) (pv 1) pe_int (fun _ _ => rfl)) (pc c_law_take hr (by first | decide | omega) (by rfl) (pa_cons (pv 0) (pa_cons (pe_ix (ixT (K := K)) (pv 2) pe_int (fun _ _ => rfl)) pa_nil))) (fun _ _ => rfl)))
      (Evl.pss_cut (ps_if (PW.pt (pw_and (pt_cmpR op_eq (pv 4) pe_int (nomark _)) (pw_and1 (pt_cmpR op_gt (pe_ix (ixT (K := K)) (pv 2) pe_int (fun _ _ => rfl)) pe_int (nomark _))))) (pss_cons (ps_set (i := 6) sc_law_question.nd rfl (.inl rfl) (pe_ix (ixL (K := K)) (pe_ix (ixL (K := K)) (pv 1) pe_int (fun _ _ => rfl)) (pc c_law_take hr (by first | decide | omega) (by rfl) (pa_cons (pv 0) (pa_cons (pe_ix (ixT (K := K)) (pv 2) pe_int (fun _ _ => rfl)) pa_nil))) (fun _ _ => rfl)))
      (pss_one (ps_ret (pe_tup (pa_cons pe_str (pa_cons (pv 5) (pa_cons (pv 6) (pa_cons (pe_ix (ixL (K := K)) (pe_ix (ixL (K := K)) (pv 1) pe_int (fun _ _ => rfl)) (pc c_law_take hr (by first | decide | omega) (by rfl) (pa_cons (pv 0) (pa_cons (pe_ix (ixT (K := K)) (pv 2) pe_int (fun _ _ => rfl)) pa_nil))) (fun _ _ => rfl)) pa_nil)))))))) pss_nil)
      (pss_one (ps_ret (pe_tup (pa_cons pe_str (pa_cons (pv 5) (pa_cons (pc c_law_concept hr (by first | decide | omega) (by rfl) (pa_cons (pv 0) (pa_cons (pv 1) (pa_cons (pv 2) (pa_cons (pv 3) pa_nil))))) pa_nil)))))))) pss_nil)
      (pss_cons (ps_set (i := 7) sc_law_question.nd rfl (.inl rfl) (pc c_law_concept hr (by first | decide | omega) (by rfl) (pa_cons (pv 0) (pa_cons (pv 1) (pa_cons (pv 2) (pa_cons (pv 3) pa_nil))))))
      (pss_one (ps_ret (pe_tup (pa_cons pe_str (pa_cons (pv 7) (pa_cons (pc c_law_concept hr (by first | decide | omega) (by rfl) (pa_cons (pv 0) (pa_cons (pv 1) (pa_cons (pv 2) (pa_cons (pv 3) pa_nil))))) pa_nil)))))))))), ?_⟩
  walk_at "in"
  walk_at "dl"
  refine x_c1 0 (by assumption) rfl (by walk_at "slt") ⟨b, 10, rfl, rfl, by decide, rfl⟩ ?_
  rintro _ _ ⟨rfl, kind, rfl, hq0, hq1⟩ H_ M_ w_ hw S_
  cases hw
  walk_at "dl"
  refine x_if (fun c0 => ?_) (fun c0 => ?_)
  · walk_at "dl"
    exact x_r1 (by assumption) hq (by walk_at "tm") 0 rfl ⟨rfl, .never, rfl, Nat.zero_le _, trivial, trivial⟩
  walk_at "dl"
  refine x_cut (fun ρ u => ρ = [.v (.ref b), .d (namD l r), .d (szD s0 s1 s2), .d (.int k), .d (.int kind), .u, .u, .u] ∧ u = [(b, .nums)]) (by assumption) ?_ ?_
  · walk_at "dl"
    refine x_if (fun c8 => ?_) (fun c8 => ?_)
    · walk_at "dl"
      refine x_if (fun cs => ?_) (fun cs => ?_)
      · have cs := of_decide_eq_true cs
        walk_at "dl"
        refine x_c1 0 (by assumption) rfl (by walk_at "slt") ⟨b, s2, rfl, rfl, cs, rfl⟩ ?_
        rintro _ _ ⟨rfl, y, rfl, hy0, hy1⟩ H_ M_ w_ hw S_
        cases hw
        walk_at "dl"
        obtain ⟨o1, ho1, hat⟩ := nm_at (l := l) (r := r) mk2_len hy0 hy1 hs.c1
        refine x_ixL (by assumption) (by walk_at "tm") hat ?_
        walk_at "dl"
        refine x_cut (fun ρ u => ρ = [.v (.ref b), .d (namD l r), .d (szD s0 s1 s2), .d (.int k), .d (.int kind), .d (txD o1), .u, .u] ∧ u = [(b, .nums)]) (by assumption) ?_ ?_
        · walk_at "dl"
          refine x_if (fun c11 => ?_) (fun c11 => ?_)
          · walk_at "dl"
            refine x_if (fun cr => ?_) (fun cr => ?_)
            · have cr := of_decide_eq_true cr
              walk_at "dl"
              refine x_c1 0 (by assumption) rfl (by walk_at "slt") ⟨b, s1, rfl, rfl, cr, rfl⟩ ?_
              rintro _ _ ⟨rfl, z, rfl, hz0, hz1⟩ H_ M_ w_ hw S_
              cases hw
              walk_at "dl"
              obtain ⟨ro, hro, hat2⟩ := nm_at (l := l) (r := r) mk1_len hz0 hz1 hs.b1
              refine x_ixL (by assumption) (by walk_at "tm") hat2 ?_
              walk_at "dl"
              refine x_c1 0 (by assumption) rfl (by walk_at "slt") ⟨b, s2, rfl, rfl, cs, rfl⟩ ?_
              rintro _ _ ⟨rfl, x, rfl, hx0, hx1⟩ H_ M_ w_ hw S_
              cases hw
              walk_at "dl"
              obtain ⟨o2, ho2, hat3⟩ := nm_at (l := l) (r := r) mk2_len hx0 hx1 hs.c1
              refine x_ixL (by assumption) (by walk_at "tm") hat3 ?_
              walk_at "dl"
              exact x_r1 (by assumption) hq (by walk_at "tm") 0 rfl ⟨rfl, .has o1 ro o2, rfl, Nat.zero_le _, trivial, ho1, hro, ho2⟩
            · walk_at "dl"
              exact Md.at (by assumption) (by walk_at "le") ⟨rfl, rfl⟩
          · walk_at "dl"
            exact Md.at (by assumption) (by walk_at "le") ⟨rfl, rfl⟩
        rintro M1 σ1 H1 ρ1 u1 ⟨rfl, rfl⟩ S1
        walk_at "dl"
        refine x_c1 0 (by assumption) rfl (by walk_at "slt") ⟨b, l, r, s0, s1, s2, k, rfl, rfl, hs, hk0, hk, rfl⟩ ?_
        rintro _ _ ⟨rfl, c1, rfl, hd1, hi1⟩ H_ M_ w_ hw S_
        cases hw
        walk_at "dl"
        exact x_r1 (by assumption) hq (by walk_at "tm") 0 rfl ⟨rfl, .is o1 c1, rfl, hd1, trivial, ho1, hi1⟩
      · walk_at "dl"
        exact Md.at (by assumption) (by walk_at "le") ⟨rfl, rfl⟩
    · walk_at "dl"
      exact Md.at (by assumption) (by walk_at "le") ⟨rfl, rfl⟩
  rintro M1 σ1 H1 ρ1 u1 ⟨rfl, rfl⟩ S1
  walk_at "dl"
  refine x_c1 0 (by assumption) rfl (by walk_at "slt") ⟨b, l, r, s0, s1, s2, k, rfl, rfl, hs, hk0, hk, rfl⟩ ?_
  rintro _ _ ⟨rfl, c1, rfl, hd1, hi1⟩ H_ M_ w_ hw S_
  cases hw
  walk_at "dl"
  refine x_c1 0 (by assumption) rfl (by walk_at "slt") ⟨b, l, r, s0, s1, s2, k, rfl, rfl, hs, hk0, hk, rfl⟩ ?_
  rintro _ _ ⟨rfl, c2, rfl, hd2, hi2⟩ H_ M_ w_ hw S_
  cases hw
  walk_at "dl"
  exact x_r1 (by assumption) hq (by walk_at "tm") 0 rfl ⟨rfl, .below c1 c2, rfl, by show max c1.dp c2.dp ≤ _; omega, trivial, hi1, hi2⟩
end
section
variable {P : Program} {w : World} {K : PySem.W.Frag} {mg : Str → Option Value} {base : Heap}
def pSizesN : Pre := fun ss u post => ∃ b : Addr, ss = [.v (.ref b)] ∧ u = [(b, .nums)] ∧ post = pD1 b fun d od => od = .nums ∧ ∃ s0 s1 s2, d = szD s0 s1 s2 ∧ SzOk s0 s1 s2 ∧ s0 ≤ 4 ∧ s1 ≤ 2 ∧ s2 ≤ 2
theorem four_at {a b c d : Int} {x : Int} (h0 : 0 ≤ x) (h1 : x < 4) (P : Int → Prop) (ha : P a) (hb : P b) (hc : P c) (hd : P d) : ∃ y, P y ∧ atI [PyData.int a, .int b, .int c, .int d] x = some (.int y) := by
  obtain rfl | rfl | rfl | rfl : x = 0 ∨ x = 1 ∨ x = 2 ∨ x = 3 := by omega
  · exact ⟨a, ha, rfl⟩
  · exact ⟨b, hb, rfl⟩
  · exact ⟨c, hc, rfl⟩
  · exact ⟨d, hd, rfl⟩
theorem c_law_sizes {f : Addr} {fd : FuncData} (D : Df K mg "_law_sizes" s_law_sizes f fd ["draws"]) (c_law_take : Cl P w K mg base 1 "_law_take" (spG K pTake)) : Cl P w K mg base 2 "_law_sizes" (spG K pSizesN) := by
  refine D.go sc_law_sizes (pSizesN) (fun ss u post h => by repeat (first | (obtain ⟨rfl, _⟩ := h; rfl) | obtain ⟨_, h⟩ := h)) fun cdv A outer s H M vs Q E ss u post hr hp S hq => ?_
  obtain ⟨b, rfl, rfl, rfl⟩ := hp
  refine ⟨_, (pss_cons (ps_set (i := 1) sc_law_sizes.nd rfl (.inl rfl) (pe_op op_add pe_int (pc c_law_take hr (by first | decide | omega) (by rfl) (pa_cons (pv 0) (pa_cons pe_int pa_nil)))))
      (pss_cons (ps_set (i := 2) sc_law_sizes.nd rfl (.inl rfl) (pe_ix (ixT (K := K)) (pe_tup (pa_cons pe_int (pa_cons pe_int (pa_cons pe_int (pa_cons pe_int pa_nil))))) (pc c_law_take hr (by first | decide | omega) (by rfl) (pa_cons (pv 0) (pa_cons pe_int pa_nil))) (fun _ _ => rfl)))
      (pss_one (ps_ret (pe_tup (pa_cons (pv 1) (pa_cons (pv 2) (pa_cons (pe_ix (ixT (K := K)) (pe_tup (pa_cons pe_int (pa_cons pe_int (pa_cons pe_int (pa_cons pe_int pa_nil))))) (pc c_law_take hr (by first | decide | omega) (by rfl) (pa_cons (pv 0) (pa_cons pe_int pa_nil))) (fun _ _ => rfl)) pa_nil)))))))), ?_⟩
  walk_at "in"
  walk_at "dl"
  refine x_c1 0 (by assumption) rfl (by walk_at "slt") ⟨b, 4, rfl, rfl, by decide, rfl⟩ ?_
  rintro _ _ ⟨rfl, x, rfl, hx0, hx1⟩ H_ M_ w_ hw S_
  cases hw
  walk_at "dl"
  refine x_c1 0 (by assumption) rfl (by walk_at "slt") ⟨b, 4, rfl, rfl, by decide, rfl⟩ ?_
  rintro _ _ ⟨rfl, y, rfl, hy0, hy1⟩ H_ M_ w_ hw S_
  cases hw
  walk_at "dl"
  obtain ⟨s1, ⟨h10, h11⟩, hat⟩ := four_at hy0 hy1 (fun s => 0 ≤ s ∧ s ≤ 2) (a := 0) (b := 1) (c := 1) (d := 2) (by decide) (by decide) (by decide) (by decide)
  refine x_ixT (by assumption) (by walk_at "tm") hat ?_
  walk_at "dl"
  refine x_c1 0 (by assumption) rfl (by walk_at "slt") ⟨b, 4, rfl, rfl, by decide, rfl⟩ ?_
  rintro _ _ ⟨rfl, z, rfl, hz0, hz1⟩ H_ M_ w_ hw S_
  cases hw
  walk_at "dl"
  obtain ⟨s2, ⟨h20, h21⟩, hat2⟩ := four_at hz0 hz1 (fun s => 0 ≤ s ∧ s ≤ 2) (a := 0) (b := 0) (c := 1) (d := 2) (by decide) (by decide) (by decide) (by decide)
  refine x_ixT (by assumption) (by walk_at "tm") hat2 ?_
  walk_at "dl"
  exact x_r1 (by assumption) hq (by walk_at "tm") 0 rfl ⟨rfl, 1 + x, s1, s2, rfl, ⟨by omega, by omega, h10, by omega, h20, by omega⟩, by omega, h11, h21⟩
end
abbrev ixI (A : List (List Nat)) (s : List Nat) : Int := (A.idxOf s : Nat)
def Con.core (A B : List (List Nat)) : Con → Cp
  | .any => .any
  | .nothing => .not .any
  | .name s => .name (ixI A s)
  | .not c => .not (c.core A B)
  | .both c d => .both (c.core A B) (d.core A B)
  | .either c d => .not (.both (.not (c.core A B)) (.not (d.core A B)))
  | .some r c => .some (ixI B r.1) r.2 (c.core A B)
  | .all r c => .not (.some (ixI B r.1) r.2 (.not (c.core A B)))
theorem Con.core_dp (A B : List (List Nat)) : ∀ c : Con, (c.core A B).dp ≤ 3 * c.dp + 1
  | .any => Nat.zero_le _
  | .nothing => Nat.le_refl _
  | .name _ => Nat.zero_le _
  | .not c => by
    have := core_dp A B c
    show (c.core A B).dp + 1 ≤ 3 * (c.dp + 1) + 1
    omega
  | .both c d => by
    have := core_dp A B c
    have := core_dp A B d
    show max (c.core A B).dp (d.core A B).dp + 1 ≤ 3 * (max c.dp d.dp + 1) + 1
    omega
  | .either c d => by
    have := core_dp A B c
    have := core_dp A B d
    show max ((c.core A B).dp + 1) ((d.core A B).dp + 1) + 1 + 1 ≤ 3 * (max c.dp d.dp + 1) + 1
    omega
  | .some r c => by
    have := core_dp A B c
    show (c.core A B).dp + 1 ≤ 3 * (c.dp + 1) + 1
    omega
  | .all r c => by
    have := core_dp A B c
    show (c.core A B).dp + 1 + 1 + 1 ≤ 3 * (c.dp + 1) + 1
    omega
def Stm.pts (A B C : List (List Nat)) : Stm → List Pt
  | .below c d => [.below (c.core A B) (d.core A B)]
  | .equals c d => [.below (c.core A B) (d.core A B), .below (d.core A B) (c.core A B)]
  | .apart c d => [.below (.both (c.core A B) (d.core A B)) (.not .any)]
  | .domain r c => [.below (.some (ixI B r.1) r.2 .any) (c.core A B)]
  | .range r c => [.below (.some (ixI B r.1) (!r.2) .any) (c.core A B)]
  | .under r s => [.under (ixI B r.1) r.2 (ixI B s.1) s.2]
  | .inverse a b => [.under (ixI B a) false (ixI B b) true, .under (ixI B b) true (ixI B a) false]
  | .is a c => [.is (ixI C a) (c.core A B)]
  | .has a b c => [.has (ixI C a) (ixI B b) (ixI C c)]
  | .never => [.never]
def Stm.qst (A B C : List (List Nat)) : Stm → Pt
  | .below c d => .below (c.core A B) (d.core A B)
  | .is a c => .is (ixI C a) (c.core A B)
  | .has a b c => .has (ixI C a) (ixI B b) (ixI C c)
  | _ => .never
section
variable {P : Program} {w : World} {K : PySem.W.Frag} {mg : Str → Option Value} {base : Heap}
abbrev pNt (a : Addr) (A B C : List (List Nat)) (d0 : PyData) : Rs → Own → Prop := pD1 a fun d od => od = .nt A B C ∧ d = d0
def pTold : Pre := fun ss u post => ∃ (l r : List Nat) (s0 s1 s2 : Int), ss = [.d (namD l r), .d (szD s0 s1 s2)] ∧ u = [] ∧ SzOk s0 s1 s2 ∧ post = pO fun od => od = .nt (cpN l r s0) (rlN l r s1) (inN l r s2)
theorem cut_rows {ns : List (List Nat)} {s : Int} (h : 0 ≤ s) : cutI (ns.map txD) none (some s) = (ns.take s.toNat).map txD := by
  obtain ⟨k, rfl⟩ := Int.eq_ofNat_of_zero_le h
  unfold cutI
  rw [HT.sIx_none, HT.sIx_nat, List.drop_zero, Nat.sub_zero, ← List.take_eq_take_min, Int.toNat_natCast, List.map_take]
theorem tup_strs {M : Hp} {t : Addr} {ns : List (List Nat)} (h : Dp K M (.ref t) (.tuple (ns.map txD))) : SqT K M t (strsV ns) := by
  obtain ⟨p, xs, e, h1, h2⟩ := dp_tup h
  cases e
  cases dp_strs h2
  exact h1
theorem c_told {f : Addr} {fd : FuncData} (D : Df K mg "_law_told_names" s_law_told_names f fd ["names", "sizes"]) (z_tuple : mg "tuple" = none) : Cl P w K mg base 1 "_law_told_names" (spG K pTold) := by
  refine D.go sc_law_told_names (pTold) (fun ss u post h => by repeat (first | (obtain ⟨rfl, _⟩ := h; rfl) | obtain ⟨_, h⟩ := h)) fun cdv A outer s H M vs Q E ss u post hr hp S hq => ?_
  obtain ⟨l, r, s0, s1, s2, rfl, rfl, hs, rfl⟩ := hp
  refine ⟨_, (pss_one (ps_ret (pe_tup (pa_cons (pe_callTy (call_tupFD (K := K)) (by rfl) z_tuple (by decide +kernel) (pa_cons (pe_slice (kSlL (K := K)) (pe_ix (ixL (K := K)) (pv 0) pe_int (fun _ _ => rfl)) po_none (po_some (pe_ix (ixT (K := K)) (pv 1) pe_int (fun _ _ => rfl)))) pa_nil)) (pa_cons (pe_callTy (call_tupFD (K := K)) (by rfl) z_tuple (by decide +kernel) (pa_cons (pe_slice (kSlL (K := K)) (pe_ix (ixL (K := K)) (pv 0) pe_int (fun _ _ => rfl)) po_none (po_some (pe_ix (ixT (K := K)) (pv 1) pe_int (fun _ _ => rfl)))) pa_nil)) (pa_cons (pe_callTy (call_tupFD (K := K)) (by rfl) z_tuple (by decide +kernel) (pa_cons (pe_slice (kSlL (K := K)) (pe_ix (ixL (K := K)) (pv 0) pe_int (fun _ _ => rfl)) po_none (po_some (pe_ix (ixT (K := K)) (pv 1) pe_int (fun _ _ => rfl)))) pa_nil)) pa_nil)))))), ?_⟩
  walk_at "in"
  walk_at "dl"
  rename Ds _ _ _ _ _ _ _ _ _ => S_
  rw [cut_rows (Int.le_of_lt hs.a0)] at S_
  rename Ds _ _ _ _ _ _ _ _ _ => S_
  obtain ⟨M_, S_⟩ := S_.freeze List.not_mem_nil
  refine x_tupFL (by assumption) (by walk_at "tm") fun t0 H1 M1 k0 S1 => ?_
  have S1 := S1.base
  walk_at "dl"
  rename Ds _ _ _ _ _ _ _ _ _ => S_
  rw [cut_rows hs.b0] at S_
  rename Ds _ _ _ _ _ _ _ _ _ => S_
  obtain ⟨M_, S_⟩ := S_.freeze List.not_mem_nil
  refine x_tupFL (by assumption) (by walk_at "tm") fun t1 H2 M2 k1 S2 => ?_
  have k0 := k0.same S2.bs
  have S2 := S2.base
  walk_at "dl"
  rename Ds _ _ _ _ _ _ _ _ _ => S_
  rw [cut_rows hs.c0] at S_
  rename Ds _ _ _ _ _ _ _ _ _ => S_
  obtain ⟨M_, S_⟩ := S_.freeze List.not_mem_nil
  refine x_tupFL (by assumption) (by walk_at "tm") fun t2 H3 M3 k2 S3 => ?_
  have k0 := k0.same S3.bs
  have k1 := k1.same S3.bs
  refine ⟨by show 3 ≤ sizeLine; decide, fun p hp => ?_⟩
  have e0 := tup_strs (S3.tm (.ref t0, .tuple ((cpN l r s0).map txD)) (by repeat (first | exact List.mem_cons_self .. | apply List.mem_cons_of_mem)))
  have e1 := tup_strs (S3.tm (.ref t1, .tuple ((rlN l r s1).map txD)) (by repeat (first | exact List.mem_cons_self .. | apply List.mem_cons_of_mem)))
  have e2 := tup_strs (S3.tm (.ref t2, .tuple ((inN l r s2).map txD)) (by repeat (first | exact List.mem_cons_self .. | apply List.mem_cons_of_mem)))
  have S4 := S3.newO (o := .tup [.ref t0, .ref t1, .ref t2]) (od := .nt (cpN l r s0) (rlN l r s1) (inN l r s2)) hp ⟨t0, t1, t2, upd_same, ⟨e0, k0⟩, ⟨e1, k1⟩, e2, k2⟩
  exact x_rO S4 hq 0 rfl rfl
def pRoleT : Pre := fun ss u post => ∃ (a : Addr) (A B C : List (List Nat)) (ro : Rol), ss = [.v (.ref a), .d (rolD ro)] ∧ u = [(a, .nt A B C)] ∧ ro.1 ∈ B ∧ post = pNt a A B C (roD (ixI B ro.1) ro.2)
theorem c_role {f : Addr} {fd : FuncData} (D : Df K mg "_role" s_role f fd ["names", "role"]) : Cl P w K mg base 1 "_role" (spG K pRoleT) := by
  refine D.go sc_role (pRoleT) (fun ss u post h => by repeat (first | (obtain ⟨rfl, _⟩ := h; rfl) | obtain ⟨_, h⟩ := h)) fun cdv A outer s H M vs Q E ss u post hr hp S hq => ?_
  obtain ⟨a, A, B, C, ro, rfl, rfl, hi, rfl⟩ := hp
  refine ⟨_, (pss_cons (ps_asg (pv 1) (kGT (K := K) (n := 2) (pg_tup (by rfl) (pgs_cons (pg_name (i := 2) sc_role.nd rfl (.inl rfl)) (pgs_cons (pg_name (i := 3) sc_role.nd rfl (.inl rfl)) pgs_nil)))))
      (pss_one (ps_ret (pe_tup (pa_cons (kBMT (K := K) (pe_bmT PySem.F.slot_tuple_index PySem.F.type_tuple_index (kTixS (K := K)) (pe_ix (ixT (K := K)) (pv 0) pe_int (fun _ _ => rfl)) (pa_cons (pv 2) pa_nil))) (pa_cons (pv 3) pa_nil)))))), ?_⟩
  walk_at "in"
  rename Ds _ _ _ _ _ _ _ _ _ => S_
  simp only [rolD] at S_
  walk_at "dl"
  refine x_tixS ?_
  walk_at "dl"
  refine x_ixNT 0 (by assumption) rfl (W := B) rfl fun t_ hF_ S_ => ?_
  walk_at "dl"
  refine x_tixSK (s := ro.1) (ns := B) (by assumption) (by walk_at "tm") hi ?_
  walk_at "dl"
  exact x_r1 (by assumption) hq (by walk_at "tm") 0 rfl ⟨rfl, rfl⟩
def pCoreT (n : Nat) : Pre := fun ss u post => ∃ (a : Addr) (A B C : List (List Nat)) (c : Con), ss = [.v (.ref a), .d c.D] ∧ u = [(a, .nt A B C)] ∧ c.dp < n ∧ c.In A B ∧ post = pNt a A B C (c.core A B).D
theorem c_core {f : Addr} {fd : FuncData} {rA rN : Addr} (D : Df K mg "core_concept" s_core_concept f fd ["names", "concept"]) (m_ANYTHING : mg "ANYTHING" = some (.ref rA)) (m_NOTHING : mg "NOTHING" = some (.ref rN)) (TA : ∀ M, Dp K M (.ref rA) Cp.any.D) (TN : ∀ M, Dp K M (.ref rN) (Cp.not .any).D) (c_role : Cl P w K mg base 1 "_role" (spG K pRoleT)) : ∀ n : Nat, Cl P w K mg base (n + 2) "core_concept" (spG K (pCoreT n))
  | 0 => D.vain sc_core_concept _ fun ss u post ⟨a, A, B, C, c, _, _, h, _⟩ => absurd h (Nat.not_lt_zero _)
  | n + 1 => by
    have c_core_concept := c_core D m_ANYTHING m_NOTHING TA TN c_role n
    refine D.go sc_core_concept (pCoreT (n + 1)) (fun ss u post h => by repeat (first | (obtain ⟨rfl, _⟩ := h; rfl) | obtain ⟨_, h⟩ := h)) fun cdv A outer s H M vs Q E ss u post hr hp S hq => ?_
    obtain ⟨a, A, B, C, c, rfl, rfl, hc, hi, rfl⟩ := hp
    refine ⟨_, (pss_cons (ps_set (i := 2) sc_core_concept.nd rfl (.inl rfl) (pe_ix (ixT (K := K)) (pv 1) pe_int (fun _ _ => rfl)))
      (pss_cons (ps_if (pt_cmpR op_eq (pv 2) pe_str (nomark _)) (pss_one (ps_ret (pe_glob (v := .ref _) (by rfl) m_ANYTHING rfl))) pss_nil)
      (pss_cons (ps_if (pt_cmpR op_eq (pv 2) pe_str (nomark _)) (pss_one (ps_ret (pe_glob (v := .ref _) (by rfl) m_NOTHING rfl))) pss_nil)
      (pss_cons (ps_if (pt_cmpR op_eq (pv 2) pe_str (nomark _)) (pss_one (ps_ret (pe_tup (pa_cons pe_str (pa_cons (kBMT (K := K) (pe_bmT PySem.F.slot_tuple_index PySem.F.type_tuple_index (kTixS (K := K)) (pe_ix (ixT (K := K)) (pv 0) pe_int (fun _ _ => rfl)) (pa_cons (pe_ix (ixT (K := K)) (pv 1) pe_int (fun _ _ => rfl)) pa_nil))) pa_nil))))) pss_nil)
      (pss_cons (ps_if (pt_cmpR op_eq (pv 2) pe_str (nomark _)) (pss_one (ps_ret (pe_tup (pa_cons pe_str (pa_cons (pc c_core_concept hr (by first | decide | omega) (by rfl) (pa_cons (pv 0) (pa_cons (pe_ix (ixT (K := K)) (pv 1) pe_int (fun _ _ => rfl)) pa_nil))) pa_nil))))) pss_nil)
      (pss_cons (ps_if (pt_cmpR op_eq (pv 2) pe_str (nomark _)) (pss_one (ps_ret (pe_tup (pa_cons pe_str (pa_cons (pc c_role hr (by first | decide | omega) (by rfl) (pa_cons (pv 0) (pa_cons (pe_ix (ixT (K := K)) (pv 1) pe_int (fun _ _ => rfl)) pa_nil))) (pa_cons (pc c_core_concept hr (by first | decide | omega) (by rfl) (pa_cons (pv 0) (pa_cons (pe_ix (ixT (K := K)) (pv 1) pe_int (fun _ _ => rfl)) pa_nil))) pa_nil)))))) pss_nil)
      (pss_cons (ps_if (pt_cmpR op_eq (pv 2) pe_str (nomark _)) (pss_one (ps_ret (pe_tup (pa_cons pe_str (pa_cons (pe_tup (pa_cons pe_str (pa_cons (pc c_role hr (by first | decide | omega) (by rfl) (pa_cons (pv 0) (pa_cons (pe_ix (ixT (K := K)) (pv 1) pe_int (fun _ _ => rfl)) pa_nil))) (pa_cons (pe_tup (pa_cons pe_str (pa_cons (pc c_core_concept hr (by first | decide | omega) (by rfl) (pa_cons (pv 0) (pa_cons (pe_ix (ixT (K := K)) (pv 1) pe_int (fun _ _ => rfl)) pa_nil))) pa_nil))) pa_nil)))) pa_nil))))) pss_nil)
      (pss_cons (ps_set (i := 3) sc_core_concept.nd rfl (.inl rfl) (pc c_core_concept hr (by first | decide | omega) (by rfl) (pa_cons (pv 0) (pa_cons (pe_ix (ixT (K := K)) (pv 1) pe_int (fun _ _ => rfl)) pa_nil))))
      (pss_cons (ps_set (i := 4) sc_core_concept.nd rfl (.inl rfl) (pc c_core_concept hr (by first | decide | omega) (by rfl) (pa_cons (pv 0) (pa_cons (pe_ix (ixT (K := K)) (pv 1) pe_int (fun _ _ => rfl)) pa_nil))))
      (pss_cons (ps_if (pt_cmpR op_eq (pv 2) pe_str (nomark _)) (pss_one (ps_ret (pe_tup (pa_cons pe_str (pa_cons (pv 3) (pa_cons (pv 4) pa_nil)))))) pss_nil)
      (pss_one (ps_ret (pe_tup (pa_cons pe_str (pa_cons (pe_tup (pa_cons pe_str (pa_cons (pe_tup (pa_cons pe_str (pa_cons (pv 3) pa_nil))) (pa_cons (pe_tup (pa_cons pe_str (pa_cons (pv 4) pa_nil))) pa_nil)))) pa_nil))))))))))))))), ?_⟩
    walk_at "in"
    cases c with
    | any =>
      rename Ds _ _ _ _ _ _ _ _ _ => S_
      simp only [Con.D] at S_
      walk_at "dl"
      exact x_r1 (by assumption) hq (by walk_at "tm") 0 rfl ⟨rfl, rfl⟩
    | nothing =>
      rename Ds _ _ _ _ _ _ _ _ _ => S_
      simp only [Con.D] at S_
      walk_at "dl"
      exact x_r1 (by assumption) hq (by walk_at "tm") 0 rfl ⟨rfl, rfl⟩
    | name s =>
      rename Ds _ _ _ _ _ _ _ _ _ => S_
      simp only [Con.D] at S_
      walk_at "dl"
      refine x_tixS ?_
      walk_at "dl"
      refine x_ixNT 0 (by assumption) rfl (W := A) rfl fun t_ hF_ S_ => ?_
      walk_at "dl"
      refine x_tixSK (s := s) (ns := A) (by assumption) (by walk_at "tm") hi ?_
      walk_at "dl"
      exact x_r1 (by assumption) hq (by walk_at "tm") 0 rfl ⟨rfl, rfl⟩
    | not c =>
      rename Ds _ _ _ _ _ _ _ _ _ => S_
      simp only [Con.D] at S_
      walk_at "dl"
      refine x_c1 0 (by assumption) rfl (by walk_at "slt") ⟨a, A, B, C, c, rfl, rfl, Nat.lt_of_succ_lt_succ hc, hi, rfl⟩ ?_
      rintro _ _ ⟨rfl, rfl⟩ H_ M_ w_ hw S_
      cases hw
      walk_at "dl"
      exact x_r1 (by assumption) hq (by walk_at "tm") 0 rfl ⟨rfl, rfl⟩
    | some ro c =>
      rename Ds _ _ _ _ _ _ _ _ _ => S_
      simp only [Con.D] at S_
      walk_at "dl"
      refine x_c1 0 (by assumption) rfl (by walk_at "slt") ⟨a, A, B, C, ro, rfl, rfl, hi.1, rfl⟩ ?_
      rintro _ _ ⟨rfl, rfl⟩ H_ M_ w_ hw S_
      cases hw
      walk_at "dl"
      refine x_c1 0 (by assumption) rfl (by walk_at "slt") ⟨a, A, B, C, c, rfl, rfl, Nat.lt_of_succ_lt_succ hc, hi.2, rfl⟩ ?_
      rintro _ _ ⟨rfl, rfl⟩ H_ M_ w_ hw S_
      cases hw
      walk_at "dl"
      exact x_r1 (by assumption) hq (by walk_at "tm") 0 rfl ⟨rfl, rfl⟩
    | all ro c =>
      rename Ds _ _ _ _ _ _ _ _ _ => S_
      simp only [Con.D] at S_
      walk_at "dl"
      refine x_c1 0 (by assumption) rfl (by walk_at "slt") ⟨a, A, B, C, ro, rfl, rfl, hi.1, rfl⟩ ?_
      rintro _ _ ⟨rfl, rfl⟩ H_ M_ w_ hw S_
      cases hw
      walk_at "dl"
      refine x_c1 0 (by assumption) rfl (by walk_at "slt") ⟨a, A, B, C, c, rfl, rfl, Nat.lt_of_succ_lt_succ hc, hi.2, rfl⟩ ?_
      rintro _ _ ⟨rfl, rfl⟩ H_ M_ w_ hw S_
      cases hw
      walk_at "dl"
      exact x_r1 (by assumption) hq (by walk_at "tm") 0 rfl ⟨rfl, rfl⟩
    | both c d =>
      have kc : c.dp < n := by have : max c.dp d.dp + 1 < n + 1 := hc; omega
      have kd : d.dp < n := by have : max c.dp d.dp + 1 < n + 1 := hc; omega
      rename Ds _ _ _ _ _ _ _ _ _ => S_
      simp only [Con.D] at S_
      walk_at "dl"
      refine x_c1 0 (by assumption) rfl (by walk_at "slt") ⟨a, A, B, C, c, rfl, rfl, kc, hi.1, rfl⟩ ?_
      rintro _ _ ⟨rfl, rfl⟩ H_ M_ w_ hw S_
      cases hw
      walk_at "dl"
      refine x_c1 0 (by assumption) rfl (by walk_at "slt") ⟨a, A, B, C, d, rfl, rfl, kd, hi.2, rfl⟩ ?_
      rintro _ _ ⟨rfl, rfl⟩ H_ M_ w_ hw S_
      cases hw
      walk_at "dl"
      exact x_r1 (by assumption) hq (by walk_at "tm") 0 rfl ⟨rfl, rfl⟩
    | either c d =>
      have kc : c.dp < n := by have : max c.dp d.dp + 1 < n + 1 := hc; omega
      have kd : d.dp < n := by have : max c.dp d.dp + 1 < n + 1 := hc; omega
      rename Ds _ _ _ _ _ _ _ _ _ => S_
      simp only [Con.D] at S_
      walk_at "dl"
      refine x_c1 0 (by assumption) rfl (by walk_at "slt") ⟨a, A, B, C, c, rfl, rfl, kc, hi.1, rfl⟩ ?_
      rintro _ _ ⟨rfl, rfl⟩ H_ M_ w_ hw S_
      cases hw
      walk_at "dl"
      refine x_c1 0 (by assumption) rfl (by walk_at "slt") ⟨a, A, B, C, d, rfl, rfl, kd, hi.2, rfl⟩ ?_
      rintro _ _ ⟨rfl, rfl⟩ H_ M_ w_ hw S_
      cases hw
      walk_at "dl"
      exact x_r1 (by assumption) hq (by walk_at "tm") 0 rfl ⟨rfl, rfl⟩
def pQuest (n : Nat) : Pre := fun ss u post => ∃ (a : Addr) (A B C : List (List Nat)) (s : Stm), ss = [.v (.ref a), .d s.D] ∧ u = [(a, .nt A B C)] ∧ s.dp < n ∧ s.In A B C ∧ QK s ∧ post = pNt a A B C (s.qst A B C).D
theorem c_quest {n m : Nat} {f : Addr} {fd : FuncData} (D : Df K mg "core_question" s_core_question f fd ["names", "question"]) (c_core_concept : Cl P w K mg base m "core_concept" (spG K (pCoreT n))) : Cl P w K mg base (m + 1) "core_question" (spG K (pQuest n)) := by
  refine D.go sc_core_question (pQuest n) (fun ss u post h => by repeat (first | (obtain ⟨rfl, _⟩ := h; rfl) | obtain ⟨_, h⟩ := h)) fun cdv A outer s H M vs Q E ss u post hr hp S hq => ?_
  obtain ⟨a, A, B, C, s, rfl, rfl, hs, hi, hk, rfl⟩ := hp
  refine ⟨_, (pss_cons (ps_set (i := 2) sc_core_question.nd rfl (.inl rfl) (pe_ix (ixT (K := K)) (pv 1) pe_int (fun _ _ => rfl)))
      (pss_cons (ps_if (pt_cmpR op_eq (pv 2) pe_str (nomark _)) (pss_one (ps_ret (pe_tup (pa_cons pe_str (pa_cons (pc c_core_concept hr (by first | decide | omega) (by rfl) (pa_cons (pv 0) (pa_cons (pe_ix (ixT (K := K)) (pv 1) pe_int (fun _ _ => rfl)) pa_nil))) (pa_cons (pc c_core_concept hr (by first | decide | omega) (by rfl) (pa_cons (pv 0) (pa_cons (pe_ix (ixT (K := K)) (pv 1) pe_int (fun _ _ => rfl)) pa_nil))) pa_nil)))))) pss_nil)
      (pss_cons (ps_set (i := 3) sc_core_question.nd rfl (.inl rfl) (pe_ix (ixT (K := K)) (pv 0) pe_int (fun _ _ => rfl)))
      (pss_cons (ps_if (pt_cmpR op_eq (pv 2) pe_str (nomark _)) (pss_one (ps_ret (pe_tup (pa_cons pe_str (pa_cons (kBMT (K := K) (pe_bmT PySem.F.slot_tuple_index PySem.F.type_tuple_index (kTixS (K := K)) (pv 3) (pa_cons (pe_ix (ixT (K := K)) (pv 1) pe_int (fun _ _ => rfl)) pa_nil))) (pa_cons (pc c_core_concept hr (by first | decide | omega) (by rfl) (pa_cons (pv 0) (pa_cons (pe_ix (ixT (K := K)) (pv 1) pe_int (fun _ _ => rfl)) pa_nil))) pa_nil)))))) pss_nil)
      (pss_cons (ps_if (pt_cmpR op_eq (pv 2) pe_str (nomark _)) (pss_cons (ps_asg (pv 1) (kGT (K := K) (n := 4) (pg_tup (by rfl) (pgs_cons (pg_name (i := 4) sc_core_question.nd rfl (.inl rfl)) (pgs_cons (pg_name (i := 5) sc_core_question.nd rfl (.inl rfl)) (pgs_cons (pg_name (i := 6) sc_core_question.nd rfl (.inl rfl)) (pgs_cons (pg_name (i := 7) sc_core_question.nd rfl (.inl rfl)) pgs_nil)))))))
      (pss_one (ps_ret (pe_tup (pa_cons pe_str (pa_cons (kBMT (K := K) (pe_bmT PySem.F.slot_tuple_index PySem.F.type_tuple_index (kTixS (K := K)) (pv 3) (pa_cons (pv 5) pa_nil))) (pa_cons (kBMT (K := K) (pe_bmT PySem.F.slot_tuple_index PySem.F.type_tuple_index (kTixS (K := K)) (pe_ix (ixT (K := K)) (pv 0) pe_int (fun _ _ => rfl)) (pa_cons (pv 6) pa_nil))) (pa_cons (kBMT (K := K) (pe_bmT PySem.F.slot_tuple_index PySem.F.type_tuple_index (kTixS (K := K)) (pv 3) (pa_cons (pv 7) pa_nil))) pa_nil)))))))) pss_nil)
      (pss_one (ps_ret (pv 1)))))))), ?_⟩
  walk_at "in"
  cases s with
  | below c d =>
    have kc : c.dp < n := by have : max c.dp d.dp < n := hs; omega
    have kd : d.dp < n := by have : max c.dp d.dp < n := hs; omega
    rename Ds _ _ _ _ _ _ _ _ _ => S_
    simp only [Stm.D] at S_
    walk_at "dl"
    refine x_c1 0 (by assumption) rfl (by walk_at "slt") ⟨a, A, B, C, c, rfl, rfl, kc, hi.1, rfl⟩ ?_
    rintro _ _ ⟨rfl, rfl⟩ H_ M_ w_ hw S_
    cases hw
    walk_at "dl"
    refine x_c1 0 (by assumption) rfl (by walk_at "slt") ⟨a, A, B, C, d, rfl, rfl, kd, hi.2, rfl⟩ ?_
    rintro _ _ ⟨rfl, rfl⟩ H_ M_ w_ hw S_
    cases hw
    walk_at "dl"
    exact x_r1 (by assumption) hq (by walk_at "tm") 0 rfl ⟨rfl, rfl⟩
  | is o c =>
    rename Ds _ _ _ _ _ _ _ _ _ => S_
    simp only [Stm.D] at S_
    walk_at "dl"
    refine x_ixNT 0 (by assumption) rfl (W := C) rfl fun t_ hF_ S_ => ?_
    refine x_gnPl S_ hF_ (by walk_at "tm") (by walk_at "set") fun σ_ S_ => ?_
    walk_at "dl"
    refine x_tixS ?_
    walk_at "dl"
    refine x_tixSK (s := o) (ns := C) (by assumption) (by walk_at "tm") hi.1 ?_
    walk_at "dl"
    refine x_c1 0 (by assumption) rfl (by walk_at "slt") ⟨a, A, B, C, c, rfl, rfl, hs, hi.2, rfl⟩ ?_
    rintro _ _ ⟨rfl, rfl⟩ H_ M_ w_ hw S_
    cases hw
    walk_at "dl"
    exact x_r1 (by assumption) hq (by walk_at "tm") 0 rfl ⟨rfl, rfl⟩
  | has o ro o2 =>
    rename Ds _ _ _ _ _ _ _ _ _ => S_
    simp only [Stm.D] at S_
    walk_at "dl"
    refine x_ixNT 0 (by assumption) rfl (W := C) rfl fun t_ hF_ S_ => ?_
    refine x_gnPl S_ hF_ (by walk_at "tm") (by walk_at "set") fun σ_ S_ => ?_
    walk_at "dl"
    refine x_tixS ?_
    walk_at "dl"
    refine x_tixSK (s := o) (ns := C) (by assumption) (by walk_at "tm") hi.1 ?_
    walk_at "dl"
    refine x_tixS ?_
    walk_at "dl"
    refine x_ixNT 0 (by assumption) rfl (W := B) rfl fun t_ hF_ S_ => ?_
    walk_at "dl"
    refine x_tixSK (s := ro) (ns := B) (by assumption) (by walk_at "tm") hi.2.1 ?_
    walk_at "dl"
    refine x_tixS ?_
    walk_at "dl"
    refine x_tixSK (s := o2) (ns := C) (by assumption) (by walk_at "tm") hi.2.2 ?_
    walk_at "dl"
    exact x_r1 (by assumption) hq (by walk_at "tm") 0 rfl ⟨rfl, rfl⟩
  | never =>
    rename Ds _ _ _ _ _ _ _ _ _ => S_
    simp only [Stm.D] at S_
    walk_at "dl"
    refine x_ixNT 0 (by assumption) rfl (W := C) rfl fun t_ hF_ S_ => ?_
    refine x_gnPl S_ hF_ (by walk_at "tm") (by walk_at "set") fun σ_ S_ => ?_
    walk_at "dl"
    exact x_r1 (by assumption) hq (by walk_at "tm") 0 rfl ⟨rfl, rfl⟩
  | equals => exact hk.elim
  | apart => exact hk.elim
  | domain => exact hk.elim
  | range => exact hk.elim
  | under => exact hk.elim
  | inverse => exact hk.elim
def pInv : Pre := fun ss u post => ∃ (i : Int) (b : Bool), ss = [.d (roD i b)] ∧ u = [] ∧ post = pD fun d => d = roD i (!b)
theorem c_inverse {f : Addr} {fd : FuncData} (D : Df K mg "inverse" s_inverse f fd ["role"]) : Cl P w K mg base 1 "inverse" (spG K pInv) := by
  refine D.go sc_inverse (pInv) (fun ss u post h => by repeat (first | (obtain ⟨rfl, _⟩ := h; rfl) | obtain ⟨_, h⟩ := h)) fun cdv A outer s H M vs Q E ss u post hr hp S hq => ?_
  obtain ⟨i, b, rfl, rfl, rfl⟩ := hp
  refine ⟨_, (pss_cons (ps_asg (pv 0) (kGT (K := K) (n := 2) (pg_tup (by rfl) (pgs_cons (pg_name (i := 1) sc_inverse.nd rfl (.inl rfl)) (pgs_cons (pg_name (i := 2) sc_inverse.nd rfl (.inl rfl)) pgs_nil)))))
      (pss_one (ps_ret (pe_tup (pa_cons (pv 1) (pa_cons (pe_not (pv 2)) pa_nil)))))), ?_⟩
  walk_at "in"
  walk_at "dl"
  exact x_rD (by assumption) hq (by walk_at "tm") rfl
def pTyp (n : Nat) : Pre := fun ss u post => ∃ (a : Addr) (A B C : List (List Nat)) (i : Int) (b : Bool) (c : Con), ss = [.v (.ref a), .d (roD i b), .d c.D] ∧ u = [(a, .nt A B C)] ∧ c.dp < n ∧ c.In A B ∧ post = pNt a A B C (Pt.below (.some i b .any) (c.core A B)).D
theorem c_typing {n m : Nat} {f : Addr} {fd : FuncData} {rA : Addr} (D : Df K mg "_typing" s_typing f fd ["names", "role", "concept"]) (c_core_concept : Cl P w K mg base m "core_concept" (spG K (pCoreT n))) (m_ANYTHING : mg "ANYTHING" = some (.ref rA)) (TA : ∀ M, Dp K M (.ref rA) Cp.any.D) : Cl P w K mg base (m + 1) "_typing" (spG K (pTyp n)) := by
  refine D.go sc_typing (pTyp n) (fun ss u post h => by repeat (first | (obtain ⟨rfl, _⟩ := h; rfl) | obtain ⟨_, h⟩ := h)) fun cdv A outer s H M vs Q E ss u post hr hp S hq => ?_
  obtain ⟨a, A, B, C, i, b, c, rfl, rfl, hc, hi, rfl⟩ := hp
  refine ⟨_, (pss_one (ps_ret (pe_tup (pa_cons pe_str (pa_cons (pe_tup (pa_cons pe_str (pa_cons (pv 1) (pa_cons (pe_glob (v := .ref _) (by rfl) m_ANYTHING rfl) pa_nil)))) (pa_cons (pc c_core_concept hr (by first | decide | omega) (by rfl) (pa_cons (pv 0) (pa_cons (pv 2) pa_nil))) pa_nil)))))), ?_⟩
  walk_at "in"
  walk_at "dl"
  refine x_c1 0 (by assumption) rfl (by walk_at "slt") ⟨a, A, B, C, c, rfl, rfl, hc, hi, rfl⟩ ?_
  rintro _ _ ⟨rfl, rfl⟩ H_ M_ w_ hw S_
  cases hw
  walk_at "dl"
  exact x_r1 (by assumption) hq (by walk_at "tm") 0 rfl ⟨rfl, rfl⟩
def pTwo (n : Nat) : Pre := fun ss u post => ∃ (a : Addr) (A B C : List (List Nat)) (c d : Con) (e : Bool), ss = [.v (.ref a), .d (if e = true then (Stm.equals c d).D else (Stm.apart c d).D)] ∧ u = [(a, .nt A B C)] ∧ (c.dp < n ∧ d.dp < n) ∧ (c.In A B ∧ d.In A B) ∧ post = pNt a A B C (axD (if e = true then (Stm.equals c d).pts A B C else (Stm.apart c d).pts A B C))
theorem c_two {n m : Nat} {f : Addr} {fd : FuncData} {rN : Addr} (D : Df K mg "_parts_of_two_concepts" s_parts_of_two_concepts f fd ["names", "statement"]) (c_core_concept : Cl P w K mg base m "core_concept" (spG K (pCoreT n))) (m_NOTHING : mg "NOTHING" = some (.ref rN)) (TN : ∀ M, Dp K M (.ref rN) (Cp.not .any).D) : Cl P w K mg base (m + 1) "_parts_of_two_concepts" (spG K (pTwo n)) := by
  refine D.go sc_parts_of_two_concepts (pTwo n) (fun ss u post h => by repeat (first | (obtain ⟨rfl, _⟩ := h; rfl) | obtain ⟨_, h⟩ := h)) fun cdv A outer s H M vs Q E ss u post hr hp S hq => ?_
  obtain ⟨a, A, B, C, c, d, e, rfl, rfl, hd, hi, rfl⟩ := hp
  refine ⟨_, (pss_cons (ps_asg (pv 1) (kGT (K := K) (n := 3) (pg_tup (by rfl) (pgs_cons (pg_name (i := 2) sc_parts_of_two_concepts.nd rfl (.inl rfl)) (pgs_cons (pg_name (i := 3) sc_parts_of_two_concepts.nd rfl (.inl rfl)) (pgs_cons (pg_name (i := 4) sc_parts_of_two_concepts.nd rfl (.inl rfl)) pgs_nil))))))
      (pss_cons (ps_set (i := 3) sc_parts_of_two_concepts.nd rfl (.inl rfl) (pc c_core_concept hr (by first | decide | omega) (by rfl) (pa_cons (pv 0) (pa_cons (pv 3) pa_nil))))
      (pss_cons (ps_set (i := 4) sc_parts_of_two_concepts.nd rfl (.inl rfl) (pc c_core_concept hr (by first | decide | omega) (by rfl) (pa_cons (pv 0) (pa_cons (pv 4) pa_nil))))
      (pss_cons (ps_if (pt_cmpR op_eq (pv 2) pe_str (nomark _)) (pss_one (ps_ret (pe_tup (pa_cons (pe_tup (pa_cons pe_str (pa_cons (pv 3) (pa_cons (pv 4) pa_nil)))) (pa_cons (pe_tup (pa_cons pe_str (pa_cons (pv 4) (pa_cons (pv 3) pa_nil)))) pa_nil))))) pss_nil)
      (pss_one (ps_ret (pe_tup (pa_cons (pe_tup (pa_cons pe_str (pa_cons (pe_tup (pa_cons pe_str (pa_cons (pv 3) (pa_cons (pv 4) pa_nil)))) (pa_cons (pe_glob (v := .ref _) (by rfl) m_NOTHING rfl) pa_nil)))) pa_nil)))))))), ?_⟩
  walk_at "in"
  cases e with
  | true =>
    rename Ds _ _ _ _ _ _ _ _ _ => S1
    have S1 : Ds K _ _ _ _ _ [_, .d (.tuple [.str (Str.ofString "equals"), c.D, d.D]), _, _, _] _ _ := S1
    walk_at "dl"
    refine x_c1 0 (by assumption) rfl (by walk_at "slt") ⟨a, A, B, C, c, rfl, rfl, hd.1, hi.1, rfl⟩ ?_
    rintro _ _ ⟨rfl, rfl⟩ H_ M_ w_ hw S_
    cases hw
    walk_at "dl"
    refine x_c1 0 (by assumption) rfl (by walk_at "slt") ⟨a, A, B, C, d, rfl, rfl, hd.2, hi.2, rfl⟩ ?_
    rintro _ _ ⟨rfl, rfl⟩ H_ M_ w_ hw S_
    cases hw
    walk_at "dl"
    exact x_r1 (by assumption) hq (by walk_at "tm") 0 rfl ⟨rfl, rfl⟩
  | false =>
    rename Ds _ _ _ _ _ _ _ _ _ => S1
    have S1 : Ds K _ _ _ _ _ [_, .d (.tuple [.str (Str.ofString "apart"), c.D, d.D]), _, _, _] _ _ := S1
    walk_at "dl"
    refine x_c1 0 (by assumption) rfl (by walk_at "slt") ⟨a, A, B, C, c, rfl, rfl, hd.1, hi.1, rfl⟩ ?_
    rintro _ _ ⟨rfl, rfl⟩ H_ M_ w_ hw S_
    cases hw
    walk_at "dl"
    refine x_c1 0 (by assumption) rfl (by walk_at "slt") ⟨a, A, B, C, d, rfl, rfl, hd.2, hi.2, rfl⟩ ?_
    rintro _ _ ⟨rfl, rfl⟩ H_ M_ w_ hw S_
    cases hw
    walk_at "dl"
    exact x_r1 (by assumption) hq (by walk_at "tm") 0 rfl ⟨rfl, rfl⟩
def pPartsT (n : Nat) : Pre := fun ss u post => ∃ (a : Addr) (A B C : List (List Nat)) (s : Stm), ss = [.v (.ref a), .d s.D] ∧ u = [(a, .nt A B C)] ∧ s.dp < n ∧ s.In A B C ∧ post = pNt a A B C (axD (s.pts A B C))
theorem c_parts {n m : Nat} {f : Addr} {fd : FuncData} (D : Df K mg "parts" s_parts f fd ["names", "statement"]) (c_core_question : Cl P w K mg base m "core_question" (spG K (pQuest n))) (c_role : Cl P w K mg base 1 "_role" (spG K pRoleT)) (c_inverse : Cl P w K mg base 1 "inverse" (spG K pInv)) (c_parts_of_two_concepts : Cl P w K mg base m "_parts_of_two_concepts" (spG K (pTwo n))) (c_typing : Cl P w K mg base m "_typing" (spG K (pTyp n))) (hm : 1 ≤ m) : Cl P w K mg base (m + 1) "parts" (spG K (pPartsT n)) := by
  refine D.go sc_parts (pPartsT n) (fun ss u post h => by repeat (first | (obtain ⟨rfl, _⟩ := h; rfl) | obtain ⟨_, h⟩ := h)) fun cdv A outer s H M vs Q E ss u post hr hp S hq => ?_
  obtain ⟨a, A, B, C, s, rfl, rfl, hs, hi, rfl⟩ := hp
  refine ⟨_, (pss_cons (ps_set (i := 2) sc_parts.nd rfl (.inl rfl) (pe_ix (ixT (K := K)) (pv 1) pe_int (fun _ _ => rfl)))
      (pss_cons (ps_if (pt_cmpR (inD (K := K)) (pv 2) (pe_tup (pa_cons pe_str (pa_cons pe_str pa_nil))) rfl) (pss_one (ps_ret (pc c_parts_of_two_concepts hr (by first | decide | omega) (by rfl) (pa_cons (pv 0) (pa_cons (pv 1) pa_nil))))) pss_nil)
      (pss_cons (ps_if (pt_cmpR op_eq (pv 2) pe_str (nomark _)) (pss_one (ps_ret (pe_tup (pa_cons (pc c_typing hr (by first | decide | omega) (by rfl) (pa_cons (pv 0) (pa_cons (pc c_role hr (by first | decide | omega) (by rfl) (pa_cons (pv 0) (pa_cons (pe_ix (ixT (K := K)) (pv 1) pe_int (fun _ _ => rfl)) pa_nil))) (pa_cons (pe_ix (ixT (K := K)) (pv 1) pe_int (fun _ _ => rfl)) pa_nil)))) pa_nil)))) pss_nil)
      (pss_cons (ps_if (pt_cmpR op_eq (pv 2) pe_str (nomark _)) (pss_one (ps_ret (pe_tup (pa_cons (pc c_typing hr (by first | decide | omega) (by rfl) (pa_cons (pv 0) (pa_cons (pc c_inverse hr (by first | decide | omega) (by rfl) (pa_cons (pc c_role hr (by first | decide | omega) (by rfl) (pa_cons (pv 0) (pa_cons (pe_ix (ixT (K := K)) (pv 1) pe_int (fun _ _ => rfl)) pa_nil))) pa_nil)) (pa_cons (pe_ix (ixT (K := K)) (pv 1) pe_int (fun _ _ => rfl)) pa_nil)))) pa_nil)))) pss_nil)
      (pss_cons (ps_if (pt_cmpR op_eq (pv 2) pe_str (nomark _)) (pss_one (ps_ret (pe_tup (pa_cons (pe_tup (pa_cons pe_str (pa_cons (pc c_role hr (by first | decide | omega) (by rfl) (pa_cons (pv 0) (pa_cons (pe_ix (ixT (K := K)) (pv 1) pe_int (fun _ _ => rfl)) pa_nil))) (pa_cons (pc c_role hr (by first | decide | omega) (by rfl) (pa_cons (pv 0) (pa_cons (pe_ix (ixT (K := K)) (pv 1) pe_int (fun _ _ => rfl)) pa_nil))) pa_nil)))) pa_nil)))) pss_nil)
      (pss_cons (ps_if (pt_cmpR op_eq (pv 2) pe_str (nomark _)) (pss_cons (ps_set (i := 3) sc_parts.nd rfl (.inl rfl) (pc c_role hr (by first | decide | omega) (by rfl) (pa_cons (pv 0) (pa_cons (pe_tup (pa_cons (pe_ix (ixT (K := K)) (pv 1) pe_int (fun _ _ => rfl)) (pa_cons pe_bl pa_nil))) pa_nil))))
      (pss_cons (ps_set (i := 4) sc_parts.nd rfl (.inl rfl) (pc c_role hr (by first | decide | omega) (by rfl) (pa_cons (pv 0) (pa_cons (pe_tup (pa_cons (pe_ix (ixT (K := K)) (pv 1) pe_int (fun _ _ => rfl)) (pa_cons pe_bl pa_nil))) pa_nil))))
      (pss_one (ps_ret (pe_tup (pa_cons (pe_tup (pa_cons pe_str (pa_cons (pv 3) (pa_cons (pv 4) pa_nil)))) (pa_cons (pe_tup (pa_cons pe_str (pa_cons (pv 4) (pa_cons (pv 3) pa_nil)))) pa_nil))))))) pss_nil)
      (pss_one (ps_ret (pe_tup (pa_cons (pc c_core_question hr (by first | decide | omega) (by rfl) (pa_cons (pv 0) (pa_cons (pv 1) pa_nil))) pa_nil)))))))))), ?_⟩
  walk_at "in"
  cases s with
  | below c d =>
    rename Ds _ _ _ _ _ _ _ _ _ => S_
    simp only [Stm.D] at S_
    walk_at "dl"
    refine x_c1 0 (by assumption) rfl (by walk_at "slt") ⟨a, A, B, C, .below c d, rfl, rfl, hs, hi, trivial, rfl⟩ ?_
    rintro _ _ ⟨rfl, rfl⟩ H_ M_ w_ hw S_
    cases hw
    walk_at "dl"
    exact x_r1 (by assumption) hq (by walk_at "tm") 0 rfl ⟨rfl, rfl⟩
  | is o c =>
    rename Ds _ _ _ _ _ _ _ _ _ => S_
    simp only [Stm.D] at S_
    walk_at "dl"
    refine x_c1 0 (by assumption) rfl (by walk_at "slt") ⟨a, A, B, C, .is o c, rfl, rfl, hs, hi, trivial, rfl⟩ ?_
    rintro _ _ ⟨rfl, rfl⟩ H_ M_ w_ hw S_
    cases hw
    walk_at "dl"
    exact x_r1 (by assumption) hq (by walk_at "tm") 0 rfl ⟨rfl, rfl⟩
  | has o ro o2 =>
    rename Ds _ _ _ _ _ _ _ _ _ => S_
    simp only [Stm.D] at S_
    walk_at "dl"
    refine x_c1 0 (by assumption) rfl (by walk_at "slt") ⟨a, A, B, C, .has o ro o2, rfl, rfl, hs, hi, trivial, rfl⟩ ?_
    rintro _ _ ⟨rfl, rfl⟩ H_ M_ w_ hw S_
    cases hw
    walk_at "dl"
    exact x_r1 (by assumption) hq (by walk_at "tm") 0 rfl ⟨rfl, rfl⟩
  | never =>
    rename Ds _ _ _ _ _ _ _ _ _ => S_
    simp only [Stm.D] at S_
    walk_at "dl"
    refine x_c1 0 (by assumption) rfl (by walk_at "slt") ⟨a, A, B, C, .never, rfl, rfl, hs, hi, trivial, rfl⟩ ?_
    rintro _ _ ⟨rfl, rfl⟩ H_ M_ w_ hw S_
    cases hw
    walk_at "dl"
    exact x_r1 (by assumption) hq (by walk_at "tm") 0 rfl ⟨rfl, rfl⟩
  | equals c d =>
    have hs : max c.dp d.dp < n := hs
    rename Ds _ _ _ _ _ _ _ _ _ => S_
    simp only [Stm.D] at S_
    walk_at "dl"
    refine x_c1 0 (by assumption) rfl (by walk_at "slt") ⟨a, A, B, C, c, d, true, rfl, rfl, ⟨by omega, by omega⟩, hi, rfl⟩ ?_
    rintro _ _ ⟨rfl, rfl⟩ H_ M_ w_ hw S_
    cases hw
    walk_at "dl"
    exact x_r1 (by assumption) hq (by walk_at "tm") 0 rfl ⟨rfl, rfl⟩
  | apart c d =>
    have hs : max c.dp d.dp < n := hs
    rename Ds _ _ _ _ _ _ _ _ _ => S_
    simp only [Stm.D] at S_
    walk_at "dl"
    refine x_c1 0 (by assumption) rfl (by walk_at "slt") ⟨a, A, B, C, c, d, false, rfl, rfl, ⟨by omega, by omega⟩, hi, rfl⟩ ?_
    rintro _ _ ⟨rfl, rfl⟩ H_ M_ w_ hw S_
    cases hw
    walk_at "dl"
    exact x_r1 (by assumption) hq (by walk_at "tm") 0 rfl ⟨rfl, rfl⟩
  | domain ro c =>
    rename Ds _ _ _ _ _ _ _ _ _ => S_
    simp only [Stm.D] at S_
    walk_at "dl"
    refine x_c1 0 (by assumption) rfl (by walk_at "slt") ⟨a, A, B, C, ro, rfl, rfl, hi.1, rfl⟩ ?_
    rintro _ _ ⟨rfl, rfl⟩ H_ M_ w_ hw S_
    cases hw
    walk_at "dl"
    refine x_c1 0 (by assumption) rfl (by walk_at "slt") ⟨a, A, B, C, ixI B ro.1, ro.2, c, rfl, rfl, hs, hi.2, rfl⟩ ?_
    rintro _ _ ⟨rfl, rfl⟩ H_ M_ w_ hw S_
    cases hw
    walk_at "dl"
    exact x_r1 (by assumption) hq (by walk_at "tm") 0 rfl ⟨rfl, rfl⟩
  | range ro c =>
    rename Ds _ _ _ _ _ _ _ _ _ => S_
    simp only [Stm.D] at S_
    walk_at "dl"
    refine x_c1 0 (by assumption) rfl (by walk_at "slt") ⟨a, A, B, C, ro, rfl, rfl, hi.1, rfl⟩ ?_
    rintro _ _ ⟨rfl, rfl⟩ H_ M_ w_ hw S_
    cases hw
    walk_at "dl"
    refine x_cD (by assumption) (by walk_at "slt") ⟨_, _, rfl, rfl, rfl⟩ ?_
    rintro _ rfl H_ M_ S_
    walk_at "dl"
    refine x_c1 0 (by assumption) rfl (by walk_at "slt") ⟨a, A, B, C, ixI B ro.1, !ro.2, c, rfl, rfl, hs, hi.2, rfl⟩ ?_
    rintro _ _ ⟨rfl, rfl⟩ H_ M_ w_ hw S_
    cases hw
    walk_at "dl"
    exact x_r1 (by assumption) hq (by walk_at "tm") 0 rfl ⟨rfl, rfl⟩
  | under ro so =>
    rename Ds _ _ _ _ _ _ _ _ _ => S_
    simp only [Stm.D] at S_
    walk_at "dl"
    refine x_c1 0 (by assumption) rfl (by walk_at "slt") ⟨a, A, B, C, ro, rfl, rfl, hi.1, rfl⟩ ?_
    rintro _ _ ⟨rfl, rfl⟩ H_ M_ w_ hw S_
    cases hw
    walk_at "dl"
    refine x_c1 0 (by assumption) rfl (by walk_at "slt") ⟨a, A, B, C, so, rfl, rfl, hi.2, rfl⟩ ?_
    rintro _ _ ⟨rfl, rfl⟩ H_ M_ w_ hw S_
    cases hw
    walk_at "dl"
    exact x_r1 (by assumption) hq (by walk_at "tm") 0 rfl ⟨rfl, rfl⟩
  | inverse x y =>
    rename Ds _ _ _ _ _ _ _ _ _ => S_
    simp only [Stm.D] at S_
    walk_at "dl"
    refine x_c1 0 (by assumption) rfl (by walk_at "slt") ⟨a, A, B, C, (x, false), rfl, rfl, hi.1, rfl⟩ ?_
    rintro _ _ ⟨rfl, rfl⟩ H_ M_ w_ hw S_
    cases hw
    walk_at "dl"
    refine x_c1 0 (by assumption) rfl (by walk_at "slt") ⟨a, A, B, C, (y, true), rfl, rfl, hi.2, rfl⟩ ?_
    rintro _ _ ⟨rfl, rfl⟩ H_ M_ w_ hw S_
    cases hw
    walk_at "dl"
    exact x_r1 (by assumption) hq (by walk_at "tm") 0 rfl ⟨rfl, rfl⟩
end
/-! finite models -/
abbrev isD (ms : List Int) : PyData := .tuple (ms.map .int)
abbrev Lk := Int × Int × Int
abbrev lkD : Lk → PyData := fun l => .tuple [.int l.1, .int l.2.1, .int l.2.2]
abbrev Pr := Int × Int
abbrev prD : Pr → PyData := fun p => .tuple [.int p.1, .int p.2]
abbrev modD (th : List (List Int)) (lk : List Lk) (os : List Int) : PyData := .tuple [.tuple (th.map isD), .tuple (lk.map lkD), .tuple (os.map .int)]
theorem lk_enc : Enc lkD where
  eq := fun a b => by
    show (PyData.eqv (.int a.1) (.int b.1) && (PyData.eqv (.int a.2.1) (.int b.2.1) && (PyData.eqv (.int a.2.2) (.int b.2.2) && true))) = _
    rw [Cp.eqI, Cp.eqI, Cp.eqI, Bool.and_true, Bool.eq_iff_iff, Bool.and_eq_true, Bool.and_eq_true, decide_eq_true_iff, decide_eq_true_iff, decide_eq_true_iff, decide_eq_true_iff]
    exact ⟨fun h => Prod.ext h.1 (Prod.ext h.2.1 h.2.2), fun h => h ▸ ⟨rfl, rfl, rfl⟩⟩
  lay := fun a => rfl
theorem pr_enc : Enc prD where
  eq := fun a b => by
    show (PyData.eqv (.int a.1) (.int b.1) && (PyData.eqv (.int a.2) (.int b.2) && true)) = _
    rw [Cp.eqI, Cp.eqI, Bool.and_true, Bool.eq_iff_iff, Bool.and_eq_true, decide_eq_true_iff, decide_eq_true_iff, decide_eq_true_iff]
    exact ⟨fun h => Prod.ext h.1 h.2, fun h => h ▸ ⟨rfl, rfl⟩⟩
  lay := fun a => rfl
/-- j is behind i by a role -/
def lnk (lk : List Lk) (r : Int) (b : Bool) (i j : Int) : Bool := memD (if b = true then (r, j, i) else (r, i, j)) lk
def sat (th : List (List Int)) (lk : List Lk) : Cp → Int → Bool
  | .any, _ => true
  | .name n, i => memD n (th.getD i.toNat [])
  | .not c, i => !sat th lk c i
  | .both c d, i => sat th lk c i && sat th lk d i
  | .some r b c, i => (rng th.length).any fun j => lnk lk r b i j && sat th lk c j
/-- links go from things to things -/
def LkOk (n : Nat) (lk : List Lk) : Prop := ∀ l ∈ lk, (0 ≤ l.2.1 ∧ l.2.1 < n) ∧ 0 ≤ l.2.2 ∧ l.2.2 < n
theorem memD_t {α : Type} [DecidableEq α] {x : α} {xs : List α} : memD x xs = true ↔ x ∈ xs := decide_eq_true_iff
def swp (b : Bool) (p : Pr) : Pr := if b = true then (p.2, p.1) else p
def rawPairs (lk : List Lk) (r : Int) : List Pr := (lk.filter fun l => decide (l.1 = r)).map fun l => (l.2.1, l.2.2)
theorem swp_no {ps : List Pr} : ps.map (swp false) = ps := by rw [show swp false = id from funext fun p => rfl, List.map_id]
/-- the pairs behind a role, ascending -/
def pairsOf (lk : List Lk) (r : Int) (b : Bool) : List Pr := ((rawPairs lk r).map (swp b)).mergeSort (PySem.W.dataLe false prD)
theorem pairs_mem {lk : List Lk} {r : Int} {b : Bool} {p : Pr} : p ∈ pairsOf lk r b ↔ lnk lk r b p.1 p.2 = true := by
  unfold pairsOf lnk rawPairs
  rw [(List.mergeSort_perm _ _).mem_iff, List.mem_map, memD_t]
  constructor
  · rintro ⟨q, h, rfl⟩
    obtain ⟨l, h1, rfl⟩ := List.mem_map.mp h
    have h1 := List.mem_filter.mp h1
    have h2 : l.1 = r := of_decide_eq_true h1.2
    subst h2
    cases b <;> exact h1.1
  · intro h
    refine ⟨swp b p, List.mem_map.mpr ⟨_, List.mem_filter.mpr ⟨h, ?_⟩, ?_⟩, by cases b <;> rfl⟩
    · cases b <;> exact decide_eq_true rfl
    · cases b <;> rfl
theorem pairs_ok {n : Nat} {lk : List Lk} (h : LkOk n lk) {r : Int} {b : Bool} {p : Pr} (hp : p ∈ pairsOf lk r b) : (0 ≤ p.1 ∧ p.1 < n) ∧ 0 ≤ p.2 ∧ p.2 < n := by
  have := memD_t.mp (pairs_mem.mp hp)
  have := h _ this
  cases b
  · exact this
  · exact ⟨this.2, this.1⟩
theorem pairs_len {lk : List Lk} {r : Int} {b : Bool} : (pairsOf lk r b).length ≤ lk.length := by
  unfold pairsOf rawPairs
  rw [List.length_mergeSort, List.length_map, List.length_map]
  exact List.length_filter_le ..
theorem pr_alike (f : List Pr) : PySem.W.AllAlike (f.map prD) := fun d hd d' hd' => by
  obtain ⟨a, _, rfl⟩ := List.mem_map.mp hd
  obtain ⟨b, _, rfl⟩ := List.mem_map.mp hd'
  rfl
theorem pr_sortable (f : List Pr) : PySem.W.Sortable (f.map prD) := .inl fun d hd => by
  obtain ⟨a, _, rfl⟩ := List.mem_map.mp hd
  exact ⟨_, _, rfl⟩
theorem pr_depth (f : List Pr) : ∀ d ∈ f.map prD, d.depth ≤ 60 := fun d hd => by
  obtain ⟨a, _, rfl⟩ := List.mem_map.mp hd
  exact (by decide : 1 ≤ 60)
theorem srt_pr (f : List Pr) : srt (f.map prD) = (f.mergeSort (PySem.W.dataLe false prD)).map prD := (List.map_mergeSort (f := prD) (r := PySem.W.dataLe false prD) (s := PySem.W.dataLe false id) (l := f) fun _ _ _ _ => rfl).symm
theorem raw_snoc {lk : List Lk} {l : Lk} {r : Int} : rawPairs (lk ++ [l]) r = if l.1 = r then rawPairs lk r ++ [(l.2.1, l.2.2)] else rawPairs lk r := by
  unfold rawPairs
  rw [List.filter_append, List.map_append]
  by_cases h : l.1 = r
  · simp [List.filter_cons, h]
  · simp [List.filter_cons, h]
section
variable {P : Program} {w : World} {K : PySem.W.Frag} {mg : Str → Option Value} {base : Heap}
def pPairs : Pre := fun ss u post => ∃ (th : List (List Int)) (lk : List Lk) (os : List Int) (r : Int) (b : Bool), ss = [.d (modD th lk os), .d (roD r b)] ∧ u = [] ∧ lk.length ≤ 10000 ∧ post = pO fun od => od = .lt ((pairsOf lk r b).map prD)
theorem c_pairs {f : Addr} {fd : FuncData} (D : Df K mg "_pairs" s_pairs f fd ["model", "role"]) (z_sorted : mg "sorted" = none) : Cl P w K mg base 1 "_pairs" (spG K pPairs) := by
  refine D.go sc_pairs (pPairs) (fun ss u post h => by repeat (first | (obtain ⟨rfl, _⟩ := h; rfl) | obtain ⟨_, h⟩ := h)) fun cdv A outer s H M vs Q E ss u post hr hp S hq => ?_
  obtain ⟨th, lk, os, r, b, rfl, rfl, hl, rfl⟩ := hp
  refine ⟨_, (pss_cons (ps_asg (pv 1) (kGT (K := K) (n := 2) (pg_tup (by rfl) (pgs_cons (pg_name (i := 2) sc_pairs.nd rfl (.inr rfl)) (pgs_cons (pg_name (i := 3) sc_pairs.nd rfl (.inl rfl)) pgs_nil)))))
      (pss_cons (ps_setLc (i := 4) (own := [("name", 5), ("first", 6), ("second", 7)]) (g := (gTup K 3 (gCons (gName 5) (gCons (gName 6) (gCons (gName 7) gNil))))) (by rfl) sc_pairs.nd rfl rfl (sw_true rfl rfl rfl (by decide +kernel)) (kIT (K := K) (pi_tup (pe_ix (ixT (K := K)) (pv 0) pe_int (fun _ _ => rfl)))) (blkOk_by (own := [("name", 5), ("first", 6), ("second", 7)]) (N := ["model", "role", "number", "back", "pairs", "name", "first", "second"]) (sc := defScope s_pairs) (by decide +kernel)) (fun _ _ _ _ _ => (kGT (K := K) (n := 3) (pg_tup (by rfl) (pgs_cons (pg_name (i := 5) sc_pairs.nd rfl (.inl rfl)) (pgs_cons (pg_name (i := 6) sc_pairs.nd rfl (.inl rfl)) (pgs_cons (pg_name (i := 7) sc_pairs.nd rfl (.inl rfl)) pgs_nil)))))) (fun _ _ _ _ _ => (pts_one (pt_cmpR op_eq (pv 5) (pv 2) (nomark _)))) (fun _ _ _ _ _ => (pe_tupR (pa_cons (pv 6) (pa_cons (pv 7) pa_nil)))))
      (pss_one (ps_ret (pe_ifExp (pt_val (pv 3)) (pe_callB (kSorted (K := K) (u65 hr)) (by rfl) z_sorted (by decide +kernel) (pa_cons (pe_lc (own := [("first", 6), ("second", 7)]) (g := (gTup K 2 (gCons (gName 6) (gCons (gName 7) gNil)))) (tt := tYes) (by rfl) sc_pairs.nd (kIL (K := K) (pi_list (pv 4))) (blkOk_by (own := [("first", 6), ("second", 7)]) (N := ["model", "role", "number", "back", "pairs", "name", "first", "second"]) (sc := defScope s_pairs) (by decide +kernel)) (fun _ _ _ _ _ => (kGT (K := K) (n := 2) (pg_tup (by rfl) (pgs_cons (pg_name (i := 6) sc_pairs.nd rfl (.inl rfl)) (pgs_cons (pg_name (i := 7) sc_pairs.nd rfl (.inl rfl)) pgs_nil))))) (fun _ _ _ _ _ => pts_nil) (fun _ _ _ _ _ => (pe_tupR (pa_cons (pv 7) (pa_cons (pv 6) pa_nil))))) pa_nil)) (pe_callB (kSorted (K := K) (u65 hr)) (by rfl) z_sorted (by decide +kernel) (pa_cons (pv 4) pa_nil))))))), ?_⟩
  walk_at "in"
  walk_at "dl"
  have hz : ∀ i, ((rawPairs (lk.take i) r).map prD).length < sizeLine := fun i => by
    rw [List.length_map, rawPairs, List.length_map]
    have h1 := List.length_filter_le (fun l : Lk => decide (l.1 = r)) (lk.take i)
    have h2 : (lk.take i).length ≤ lk.length := by rw [List.length_take]; omega
    exact Nat.lt_of_lt_of_le (by omega : _ < 10001) (by decide)
  refine x_wlcTt (vs := [5, 6, 7]) (fun i acc w1 => acc = (rawPairs (lk.take i) r).map prD ∧ w1 = []) (by assumption) (by walk_at "tm") ⟨rfl, rfl⟩ ?_ ?_
  · rintro i d acc w1 hi ⟨rfl, rfl⟩ D4 u4 H4 M4 S4
    obtain ⟨l, hl', rfl⟩ := map_at hi
    refine x_b3 S4 (by decide) (by decide) (by decide) fun σ5 hrw S5 => ?_
    rename Ds _ _ _ _ _ _ _ _ _ => S_
    simp only [uset, List.map_cons, List.map_nil, List.foldr_cons, List.foldr_nil, List.set_cons_succ, List.set_cons_zero] at S_
    walk_at "dl"
    refine x_if (fun h => ?_) (fun h => ?_)
    · have h : l.1 = r := of_decide_eq_true h
      walk_at "dl"
      exact x_lcAt (by assumption) (by assumption) (by assumption) (hz i) ⟨by rw [take_snoc hl', raw_snoc, if_pos h]; exact map_snoc, rfl⟩
    · have h : ¬ l.1 = r := of_decide_eq_false h
      walk_at "dl"
      exact x_lcNt (by assumption) (by assumption) ⟨by rw [take_snoc hl', raw_snoc, if_neg h], rfl⟩
  · rintro acc w1 ⟨rfl, rfl⟩ D4 H4 M4 S4
    rw [show (lk.map lkD).length = lk.length from List.length_map .., take_all] at S4
    have hz := hz lk.length
    rw [take_all] at hz
    walk_at "dl"
    rename Addr => a
    refine x_if (fun hb => ?_) (fun hb => ?_)
    · walk_at "dl"
      rename Ds _ _ _ _ _ _ _ _ _ => S_
      have S_ := S_.ofLt 0 rfl SetAt.z
      rename Ds _ _ _ _ _ _ _ _ _ => S_
      obtain ⟨M_, S_⟩ := S_.frz2 (i := 4) rfl List.not_mem_nil
      simp only [List.set_cons_succ, List.set_cons_zero] at S_
      refine x_wlcLt (vs := [6, 7]) (fun i acc w1 => acc = (((rawPairs lk r).take i).map (swp b)).map prD ∧ w1 = []) (by assumption) (by walk_at "tm") ⟨rfl, rfl⟩ ?_ ?_
      · rintro i d acc w1 hi ⟨rfl, rfl⟩ D4 u4 H4 M4 S4
        obtain ⟨p, hp', rfl⟩ := map_at hi
        refine x_b2 S4 (by decide) (by decide) fun σ5 hrw S5 => ?_
        rename Ds _ _ _ _ _ _ _ _ _ => S_
        simp only [uset, List.map_cons, List.map_nil, List.foldr_cons, List.foldr_nil, List.set_cons_succ, List.set_cons_zero] at S_
        walk_at "dl"
        have hz2 : ((((rawPairs lk r).take i).map (swp b)).map prD).length < sizeLine := by
          rw [List.length_map] at hz
          rw [List.length_map, List.length_map, List.length_take]
          omega
        exact x_lcAt (by assumption) (by assumption) (by assumption) hz2 ⟨by rw [take_snoc hp', List.map_append, List.map_append, hb]; rfl, rfl⟩
      · rintro acc w1 ⟨rfl, rfl⟩ D4 H4 M4 S4
        rw [show ((rawPairs lk r).map prD).length = (rawPairs lk r).length from List.length_map .., take_all] at S4
        walk_at "dl"
        refine x_sortT 0 (by assumption) rfl (pr_alike _) (pr_sortable _) (pr_depth _) fun l_ H_ S_ => ?_
        rw [srt_pr] at S_
        exact x_rO (by assumption) hq 0 rfl rfl
    · walk_at "dl"
      refine x_sortT 0 (by assumption) rfl (pr_alike _) (pr_sortable _) (pr_depth _) fun l_ H_ S_ => ?_
      rw [srt_pr] at S_
      exact x_rO (by assumption) hq 0 rfl (by rw [pairsOf, hb, swp_no])
def colD (th : List (List Int)) (lk : List Lk) (c : Cp) : List PyData := (rng th.length).map fun i => .bool (sat th lk c i)
theorem col_at {th : List (List Int)} {lk : List Lk} {c : Cp} {i : Int} (h0 : 0 ≤ i) (h1 : i < th.length) : atI (colD th lk c) i = some (.bool (sat th lk c i)) := by
  obtain ⟨k, rfl⟩ := Int.eq_ofNat_of_zero_le h0
  exact at_nat (f := fun i => PyData.bool (sat th lk c i)) (rng_at (by omega))
theorem rep1 {β : Type} {a : β} {n : Nat} : (List.replicate n [a]).flatten = (rng n).map fun _ => a := by
  unfold rng
  rw [List.map_map, List.flatten_replicate_singleton]
  induction n with
  | zero => rfl
  | succ n ih => rw [List.replicate_succ', ih, List.range_succ, List.map_append]; rfl
theorem rng_map_succ {β : Type} {f : Int → β} {n : Nat} : (rng (n + 1)).map f = (rng n).map f ++ [f n] := by
  rw [rng_succ, List.map_append]
  rfl
theorem set_rng {β : Type} {f : Int → β} {n k : Nat} {x : β} : ((rng n).map f).set k x = (rng n).map fun i => if i = (k : Int) then x else f i := by
  apply List.ext_getElem?
  intro j
  by_cases hj : j < n
  · rw [List.getElem?_set, List.getElem?_map, List.getElem?_map, rng_at hj]
    by_cases e : k = j
    · subst e
      simp [rng_len, hj]
    · have e2 : ¬ (j : Int) = (k : Int) := fun z => e (by omega)
      simp [e, e2]
  · rw [List.getElem?_eq_none (by rw [List.length_set, List.length_map, rng_len]; omega), List.getElem?_eq_none (by rw [List.length_map, rng_len]; omega)]
theorem ite_orb {i q : Int} {x : Bool} : (if i = q then PyData.bool true else PyData.bool x) = PyData.bool (x || decide (i = q)) := by by_cases h : i = q <;> simp [h]
theorem ixN_of {n : Nat} {i : Int} (h0 : 0 ≤ i) (h1 : i < n) : ixN n i = some i.toNat := by
  obtain ⟨j, rfl⟩ := Int.eq_ofNat_of_zero_le h0
  have h : j < n := by omega
  unfold ixN
  simp [h]
theorem sat_some {th : List (List Int)} {lk : List Lk} {r : Int} {b : Bool} {c : Cp} (hok : LkOk th.length lk) (i : Int) : ((pairsOf lk r b).any fun p => decide (p.1 = i) && sat th lk c p.2) = sat th lk (.some r b c) i := by
  show _ = (rng th.length).any fun j => lnk lk r b i j && sat th lk c j
  rw [Bool.eq_iff_iff, List.any_eq_true, List.any_eq_true]
  constructor
  · rintro ⟨p, h1, h2⟩
    have h2 := Bool.and_eq_true_iff.mp h2
    have e : p.1 = i := of_decide_eq_true h2.1
    subst e
    exact ⟨p.2, rng_mem.mpr (pairs_ok hok h1).2, Bool.and_eq_true_iff.mpr ⟨pairs_mem.mp h1, h2.2⟩⟩
  · rintro ⟨j, h1, h2⟩
    have h2 := Bool.and_eq_true_iff.mp h2
    exact ⟨(i, j), pairs_mem.mpr h2.1, Bool.and_eq_true_iff.mpr ⟨decide_eq_true rfl, h2.2⟩⟩
def pBelonging (n : Nat) : Pre := fun ss u post => ∃ (th : List (List Int)) (lk : List Lk) (os : List Int) (c : Cp), ss = [.d (modD th lk os), .d c.D] ∧ u = [] ∧ c.dp < n ∧ (th.length ≤ 1000 ∧ lk.length ≤ 10000) ∧ LkOk th.length lk ∧ post = pO fun od => od = .lst (colD th lk c)
theorem c_belonging {f : Addr} {fd : FuncData} (D : Df K mg "_belonging" s_belonging f fd ["model", "concept"]) (c_pairs : Cl P w K mg base 1 "_pairs" (spG K pPairs)) (z_len : mg "len" = none) (z_range : mg "range" = none) : ∀ n : Nat, Cl P w K mg base (n + 2) "_belonging" (spG K (pBelonging n))
  | 0 => D.vain sc_belonging _ fun ss u post ⟨th, lk, os, c, _, _, h, _⟩ => absurd h (Nat.not_lt_zero _)
  | n + 1 => by
    have c_belonging := c_belonging D c_pairs z_len z_range n
    refine D.go sc_belonging (pBelonging (n + 1)) (fun ss u post h => by repeat (first | (obtain ⟨rfl, _⟩ := h; rfl) | obtain ⟨_, h⟩ := h)) fun cdv A outer s H M vs Q E ss u post hr hp S hq => ?_
    obtain ⟨th, lk, os, c, rfl, rfl, hc, ⟨hth, hlk⟩, hok, rfl⟩ := hp
    refine ⟨_, (pss_cons (ps_set (i := 2) sc_belonging.nd rfl (.inl rfl) (pe_ix (ixT (K := K)) (pv 0) pe_int (fun _ _ => rfl)))
      (pss_cons (ps_set (i := 3) sc_belonging.nd rfl (.inl rfl) (pe_ix (ixT (K := K)) (pv 1) pe_int (fun _ _ => rfl)))
      (pss_cons (ps_if (pt_cmpR op_eq (pv 3) pe_str (nomark _)) (pss_one (ps_ret (pe_op op_rep (pe_lst (pa_cons pe_bl pa_nil)) (pe_callB (lenQ (K := K)) (by rfl) z_len PySem.boot_len (pa_cons (pv 2) pa_nil))))) pss_nil)
      (pss_cons (ps_if (pt_cmpR op_eq (pv 3) pe_str (nomark _)) (pss_one (ps_ret (pe_lc (own := [("names", 10)]) (g := gName 10) (tt := tYes) (by rfl) sc_belonging.nd (kIT (K := K) (pi_tup (pv 2))) (blkOk_by (own := [("names", 10)]) (N := ["model", "concept", "things", "kind", "first", "second", "thing", "looked", "found", "other", "names", "inside"]) (sc := defScope s_belonging) (by decide +kernel)) (fun _ _ _ _ _ => pg_name (i := 10) sc_belonging.nd rfl (.inl rfl)) (fun _ _ _ _ _ => pts_nil) (fun _ _ _ _ _ => (pe_cmpR (inD (K := K)) (pe_ix (ixT (K := K)) (pv 1) pe_int (fun _ _ => rfl)) (pv 10) rfl))))) pss_nil)
      (pss_cons (ps_if (pt_cmpR op_eq (pv 3) pe_str (nomark _)) (pss_one (ps_ret (pe_lc (own := [("inside", 11)]) (g := gName 11) (tt := tYes) (by rfl) sc_belonging.nd (kIL (K := K) (pi_list (pc c_belonging hr (by first | decide | omega) (by rfl) (pa_cons (pv 0) (pa_cons (pe_ix (ixT (K := K)) (pv 1) pe_int (fun _ _ => rfl)) pa_nil))))) (blkOk_by (own := [("inside", 11)]) (N := ["model", "concept", "things", "kind", "first", "second", "thing", "looked", "found", "other", "names", "inside"]) (sc := defScope s_belonging) (by decide +kernel)) (fun _ _ _ _ _ => pg_name (i := 11) sc_belonging.nd rfl (.inl rfl)) (fun _ _ _ _ _ => pts_nil) (fun _ _ _ _ _ => (pe_not (pv 11)))))) pss_nil)
      (pss_cons (ps_if (pt_cmpR op_eq (pv 3) pe_str (nomark _)) (pss_cons (ps_set (i := 4) sc_belonging.nd rfl (.inr rfl) (pc c_belonging hr (by first | decide | omega) (by rfl) (pa_cons (pv 0) (pa_cons (pe_ix (ixT (K := K)) (pv 1) pe_int (fun _ _ => rfl)) pa_nil))))
      (pss_cons (ps_set (i := 5) sc_belonging.nd rfl (.inr rfl) (pc c_belonging hr (by first | decide | omega) (by rfl) (pa_cons (pv 0) (pa_cons (pe_ix (ixT (K := K)) (pv 1) pe_int (fun _ _ => rfl)) pa_nil))))
      (pss_one (ps_ret (pe_lc (own := [("thing", 6)]) (g := gName 6) (tt := tYes) (by rfl) sc_belonging.nd (pi_range1 (by rfl) z_range (pa_cons (pe_callB (lenQ (K := K)) (by rfl) z_len PySem.boot_len (pa_cons (pv 2) pa_nil)) pa_nil)) (blkOk_by (own := [("thing", 6)]) (N := ["model", "concept", "things", "kind", "first", "second", "thing", "looked", "found", "other", "names", "inside"]) (sc := defScope s_belonging) (by decide +kernel)) (fun _ _ _ _ _ => pg_name (i := 6) sc_belonging.nd rfl (.inl rfl)) (fun _ _ _ _ _ => pts_nil) (fun _ _ _ _ _ => (pe_and (pe_ix (ixL (K := K)) (pv 4) (pv 6) (fun _ _ => rfl)) (pe_one (pe_ix (ixL (K := K)) (pv 5) (pv 6) (fun _ _ => rfl)))))))))) pss_nil)
      (pss_cons (ps_set (i := 7) sc_belonging.nd rfl (.inl rfl) (pc c_belonging hr (by first | decide | omega) (by rfl) (pa_cons (pv 0) (pa_cons (pe_ix (ixT (K := K)) (pv 1) pe_int (fun _ _ => rfl)) pa_nil))))
      (pss_cons (ps_set (i := 8) sc_belonging.nd rfl (.inl rfl) (pe_op op_rep (pe_lst (pa_cons pe_bl pa_nil)) (pe_callB (lenQ (K := K)) (by rfl) z_len PySem.boot_len (pa_cons (pv 2) pa_nil))))
      (pss_cons (ps_for PassesOwn.never rfl (kIL (K := K) (pi_list (pc c_pairs hr (by first | decide | omega) (by rfl) (pa_cons (pv 0) (pa_cons (pe_ix (ixT (K := K)) (pv 1) pe_int (fun _ _ => rfl)) pa_nil))))) (kGT (K := K) (n := 2) (pg_tup (by rfl) (pgs_cons (pg_name (i := 6) sc_belonging.nd rfl (.inl rfl)) (pgs_cons (pg_name (i := 9) sc_belonging.nd rfl (.inl rfl)) pgs_nil)))) (pss_one (ps_if (pt_val (pe_ix (ixL (K := K)) (pv 7) (pv 9) (fun _ _ => rfl))) (pss_one (ps_asg pe_bl (pg_sub (pv 8) (pv 6) set_list))) pss_nil)))
      (pss_one (ps_ret (pv 8)))))))))))), ?_⟩
    walk_at "in"
    have hz : ∀ (f : Int → PyData) (i : Nat), i ≤ th.length → ((rng i).map f).length < sizeLine := fun f i h => by rw [List.length_map, rng_len]; exact Nat.lt_of_lt_of_le (by omega : _ < 1001) (by decide)
    have hL : (List.map isD th).length = th.length := List.length_map ..
    cases c with
    | any =>
      rename Ds _ _ _ _ _ _ _ _ _ => S_
      simp only [Cp.D] at S_
      walk_at "dl"
      rw [hL]
      refine x_repO 0 (by assumption) rfl (by omega) (by omega) (by rw [Int.toNat_natCast]; exact Nat.le_trans (by show 1 * th.length ≤ 1000; omega) (by decide)) fun l_ H_ S_ => ?_
      exact x_rO (by assumption) hq 0 rfl (by rw [Int.toNat_natCast, rep1]; rfl)
    | name m =>
      rename Ds _ _ _ _ _ _ _ _ _ => S_
      simp only [Cp.D] at S_
      walk_at "dl"
      refine x_lc1T (k := 10) (fun i acc w1 => acc = ((rng i).map fun j => .bool (sat th lk (.name m) j)) ∧ w1 = []) (by assumption) (by walk_at "tm") ⟨rfl, rfl⟩ ?_ ?_
      · rintro i d acc w1 hi ⟨rfl, rfl⟩ D4 σ4 H4 M4 hrw S4
        obtain ⟨x, hx, rfl⟩ := map_at hi
        have e : sat th lk (.name m) (i : Int) = decide (m ∈ x) := by
          show memD m (th.getD ((i : Int).toNat) []) = _
          rw [Int.toNat_natCast, List.getD_eq_getElem?_getD, hx]
          exact decide_eq_decide.mpr Iff.rfl
        have hi2 := (List.getElem?_eq_some_iff.mp hx).1
        rename Ds _ _ _ _ _ _ _ _ _ => S_
        simp only [List.set_cons_succ, List.set_cons_zero] at S_
        walk_at "dl"
        exact x_lcA (by assumption) (by assumption) (by walk_at "tm") (hz _ i (by omega)) ⟨by rw [rng_map_succ, e], rfl⟩
      · rintro acc w1 ⟨rfl, rfl⟩ D4 H4 M4 S4
        rw [hL] at S4
        exact x_rO (by assumption) hq 0 rfl rfl
    | not c =>
      have hc : c.dp < n := Nat.lt_of_succ_lt_succ hc
      rename Ds _ _ _ _ _ _ _ _ _ => S_
      simp only [Cp.D] at S_
      walk_at "dl"
      refine x_cO (by assumption) (by walk_at "slt") ⟨th, lk, os, c, rfl, rfl, hc, ⟨hth, hlk⟩, hok, rfl⟩ ?_
      rintro _ rfl a H_ M_ S_
      walk_at "dl"
      rename Ds _ _ _ _ _ _ _ _ _ => S_
      obtain ⟨M_, S_⟩ := S_.freeze List.not_mem_nil
      refine x_lc1L (k := 11) (fun i acc w1 => acc = ((rng i).map fun j => .bool (sat th lk (.not c) j)) ∧ w1 = []) (by assumption) (by walk_at "tm") ⟨rfl, rfl⟩ ?_ ?_
      · rintro i d acc w1 hi ⟨rfl, rfl⟩ D4 σ4 H4 M4 hrw S4
        obtain ⟨x, hx, rfl⟩ := map_at hi
        obtain ⟨hi2, rfl⟩ := rng_at' hx
        rename Ds _ _ _ _ _ _ _ _ _ => S_
        simp only [List.set_cons_succ, List.set_cons_zero] at S_
        walk_at "dl"
        exact x_lcA (by assumption) (by assumption) (by walk_at "tm") (hz _ i (by omega)) ⟨by rw [rng_map_succ]; rfl, rfl⟩
      · rintro acc w1 ⟨rfl, rfl⟩ D4 H4 M4 S4
        rw [show (colD th lk c).length = th.length by rw [colD, List.length_map, rng_len]] at S4
        exact x_rO (by assumption) hq 0 rfl rfl
    | both c d =>
      have hc1 : c.dp < n := by have : max c.dp d.dp + 1 < n + 1 := hc; omega
      have hc2 : d.dp < n := by have : max c.dp d.dp + 1 < n + 1 := hc; omega
      rename Ds _ _ _ _ _ _ _ _ _ => S_
      simp only [Cp.D] at S_
      walk_at "dl"
      refine x_cO (by assumption) (by walk_at "slt") ⟨th, lk, os, c, rfl, rfl, hc1, ⟨hth, hlk⟩, hok, rfl⟩ ?_
      rintro _ rfl a H_ M_ S_
      walk_at "dl"
      refine x_cO (by assumption) (by walk_at "slt") ⟨th, lk, os, d, rfl, rfl, hc2, ⟨hth, hlk⟩, hok, rfl⟩ ?_
      rintro _ rfl a2 H_ M_ S_
      walk_at "dl"
      rename Ds _ _ _ _ _ _ _ _ _ => S_
      obtain ⟨M_, S_⟩ := S_.frz2 (i := 5) rfl List.not_mem_nil
      simp only [List.set_cons_succ, List.set_cons_zero] at S_
      rename Ds _ _ _ _ _ _ _ _ _ => S_
      obtain ⟨M_, S_⟩ := S_.frz2 (i := 4) rfl List.not_mem_nil
      simp only [List.set_cons_succ, List.set_cons_zero] at S_
      rw [hL]
      refine x_lc1R (k := 6) (fun i acc w1 => acc = ((rng i).map fun j => .bool (sat th lk (.both c d) j)) ∧ w1 = []) (by assumption) (by omega) (by omega) ⟨rfl, rfl⟩ ?_ ?_
      · rintro i acc w1 hi ⟨rfl, rfl⟩ D4 σ4 H4 M4 hrw S4
        rename Ds _ _ _ _ _ _ _ _ _ => S_
        simp only [List.set_cons_succ, List.set_cons_zero] at S_
        walk_at "dl"
        refine x_ixL (by assumption) (by walk_at "tm") (col_at (by omega : 0 ≤ (i : Int)) (by omega)) ?_
        walk_at "dl"
        refine x_if (fun h => ?_) (fun h => ?_)
        · walk_at "dl"
          refine x_ixL (by assumption) (by walk_at "tm") (col_at (by omega : 0 ≤ (i : Int)) (by omega)) ?_
          walk_at "dl"
          exact x_lcA (by assumption) (by assumption) (by walk_at "tm") (hz _ i (by omega)) ⟨by rw [rng_map_succ, show sat th lk (.both c d) i = (sat th lk c i && sat th lk d i) from rfl, h, Bool.true_and], rfl⟩
        · walk_at "dl"
          exact x_lcA (by assumption) (by assumption) (by walk_at "tm") (hz _ i (by omega)) ⟨by rw [rng_map_succ, show sat th lk (.both c d) i = (sat th lk c i && sat th lk d i) from rfl, h, Bool.false_and], rfl⟩
      · rintro acc w1 ⟨rfl, rfl⟩ D4 H4 M4 S4
        rw [Int.toNat_natCast] at S4
        exact x_rO (by assumption) hq 0 rfl rfl
    | some r b c =>
      have hc : c.dp < n := Nat.lt_of_succ_lt_succ hc
      have c_pairs := c_pairs.mono (j := n + 2) (by omega)
      rename Ds _ _ _ _ _ _ _ _ _ => S_
      simp only [Cp.D] at S_
      walk_at "dl"
      refine x_cO (by assumption) (by walk_at "slt") ⟨th, lk, os, c, rfl, rfl, hc, ⟨hth, hlk⟩, hok, rfl⟩ ?_
      rintro _ rfl a H_ M_ S_
      walk_at "dl"
      rw [hL]
      refine x_repO 0 (by assumption) rfl (by omega) (by omega) (by rw [Int.toNat_natCast]; exact Nat.le_trans (by show 1 * th.length ≤ 1000; omega) (by decide)) fun l_ H_ S_ => ?_
      rw [Int.toNat_natCast, rep1] at S_
      walk_at "dl"
      refine x_cO (by assumption) (by walk_at "slt") ⟨th, lk, os, r, b, rfl, rfl, hlk, rfl⟩ ?_
      rintro _ rfl pa H_ M_ S_
      walk_at "dl"
      rename Ds _ _ _ _ _ _ _ _ _ => S_
      have S_ := S_.ofLt 0 rfl SetAt.z
      rename Ds _ _ _ _ _ _ _ _ _ => S_
      obtain ⟨M_, S_⟩ := S_.freeze List.not_mem_nil
      have S_ := S_.subw (w' := [(l_, _), (a, _)]) (.cons_cons _ (.cons _ (.refl _)))
      refine x_forL (fun k ρ u => ρ = [.d (modD th lk os), .d (.tuple [sK "some", roD r b, c.D]), .d (.tuple (th.map isD)), .d (sK "some"), .u, .u, .u, .v (.ref a), .v (.ref l_), .u, .u, .u] ∧ u = [(l_, .lst ((rng th.length).map fun i => .bool (((pairsOf lk r b).take k).any fun p => decide (p.1 = i) && sat th lk c p.2))), (a, .lst (colD th lk c))]) (by assumption) (by walk_at "tm") ⟨rfl, rfl⟩ ?_ ?_
      · rintro k d ρ1 u1 hi ⟨rfl, rfl⟩ v σ1 H1 M1 S1
        obtain ⟨p, hp', rfl⟩ := map_at hi
        have hp := pairs_ok hok (List.mem_of_getElem? hp')
        have e : ∀ i, (((pairsOf lk r b).take (k + 1)).any fun p => decide (p.1 = i) && sat th lk c p.2) = ((((pairsOf lk r b).take k).any fun p => decide (p.1 = i) && sat th lk c p.2) || (decide (p.1 = i) && sat th lk c p.2)) := fun i => by rw [take_snoc hp', List.any_append, List.any_cons, List.any_nil, Bool.or_false]
        walk_at "dl"
        refine x_ixO 1 (by assumption) rfl (col_at hp.2.1 hp.2.2) ?_
        walk_at "dl"
        refine x_if (fun h => ?_) (fun h => ?_)
        · walk_at "dl"
          refine x_setO 0 (by assumption) rfl (ixN_of hp.1.1 (by rw [List.length_map, rng_len]; exact hp.1.2)) (d := .bool true) (by walk_at "tm") (by walk_at "set") fun H_ S_ => ?_
          rw [set_rng] at S_
          walk_at "dl"
          exact Nx.at (by assumption) (by walk_at "le") ⟨rfl, by simp only [e, h, Bool.and_true, ite_orb, Int.toNat_of_nonneg hp.1.1, eq_comm (a := p.1)]⟩
        · walk_at "dl"
          exact Nx.at (by assumption) (by walk_at "le") ⟨rfl, by simp only [e, h, Bool.and_false, Bool.or_false]⟩
      · rintro ρ1 u1 ⟨rfl, rfl⟩ σ1 H1 M1 S1
        rw [show ((pairsOf lk r b).map prD).length = (pairsOf lk r b).length from List.length_map .., take_all] at S1
        walk_at "dl"
        exact x_rO (by assumption) hq 0 rfl (by simp only [sat_some hok]; rfl)
/-- the things that belong to a concept -/
def insOf (th : List (List Int)) (lk : List Lk) (c : Cp) : List Int := (rng th.length).filter (sat th lk c)
def pMembers (n : Nat) : Pre := fun ss u post => ∃ (th : List (List Int)) (lk : List Lk) (os : List Int) (c : Cp), ss = [.d (modD th lk os), .d c.D] ∧ u = [] ∧ c.dp < n ∧ (th.length ≤ 1000 ∧ lk.length ≤ 10000) ∧ LkOk th.length lk ∧ post = pD fun d => d = isD (insOf th lk c)
theorem c_members {n : Nat} {f : Addr} {fd : FuncData} (D : Df K mg "members" s_members f fd ["model", "concept"]) (c_belonging : Cl P w K mg base (n + 2) "_belonging" (spG K (pBelonging n))) (z_enumerate : mg "enumerate" = none) (z_tuple : mg "tuple" = none) : Cl P w K mg base (n + 3) "members" (spG K (pMembers n)) := by
  refine D.go sc_members (pMembers n) (fun ss u post h => by repeat (first | (obtain ⟨rfl, _⟩ := h; rfl) | obtain ⟨_, h⟩ := h)) fun cdv A outer s H M vs Q E ss u post hr hp S hq => ?_
  obtain ⟨th, lk, os, c, rfl, rfl, hc, ⟨hth, hlk⟩, hok, rfl⟩ := hp
  refine ⟨_, (pss_one (ps_ret (pe_callTy (call_tupD (K := K)) (by rfl) z_tuple (by decide +kernel) (pa_cons (pe_lc (own := [("thing", 2), ("inside", 3)]) (g := (gTup K 2 (gCons (gName 2) (gCons (gName 3) gNil)))) (by rfl) sc_members.nd (kIE (K := K) (pi_enum (by rfl) z_enumerate (pa_cons (pc c_belonging hr (by first | decide | omega) (by rfl) (pa_cons (pv 0) (pa_cons (pv 1) pa_nil))) pa_nil))) (blkOk_by (own := [("thing", 2), ("inside", 3)]) (N := ["model", "concept", "thing", "inside"]) (sc := defScope s_members) (by decide +kernel)) (fun _ _ _ _ _ => (kGT (K := K) (n := 2) (pg_tup (by rfl) (pgs_cons (pg_name (i := 2) sc_members.nd rfl (.inl rfl)) (pgs_cons (pg_name (i := 3) sc_members.nd rfl (.inl rfl)) pgs_nil))))) (fun _ _ _ _ _ => (pts_one (pt_val (pv 3)))) (fun _ _ _ _ _ => (pv 2))) pa_nil)))), ?_⟩
  walk_at "in"
  walk_at "dl"
  refine x_cO (by assumption) (by walk_at "slt") ⟨th, lk, os, c, rfl, rfl, hc, ⟨hth, hlk⟩, hok, rfl⟩ ?_
  rintro _ rfl a H_ M_ S_
  walk_at "dl"
  rename Ds _ _ _ _ _ _ _ _ _ => S_
  obtain ⟨M_, S_⟩ := S_.freeze List.not_mem_nil
  refine x_wlcE (vs := [2, 3]) (fun i acc w1 => acc = ((rng i).filter (sat th lk c)).map .int ∧ w1 = []) (by assumption) (by walk_at "tm") ⟨rfl, rfl⟩ ?_ ?_
  · rintro i d acc w1 hi ⟨rfl, rfl⟩ D4 u4 H4 M4 S4
    obtain ⟨x, hx, rfl⟩ := map_at hi
    obtain ⟨hi2, rfl⟩ := rng_at' hx
    have hz : (((rng i).filter (sat th lk c)).map PyData.int).length < sizeLine := by
      rw [List.length_map]
      have := List.length_filter_le (sat th lk c) (rng i)
      rw [rng_len] at this
      exact Nat.lt_of_lt_of_le (by omega : _ < 1001) (by decide)
    refine x_b2 S4 (by decide) (by decide) fun σ5 hrw S5 => ?_
    rename Ds _ _ _ _ _ _ _ _ _ => S_
    simp only [uset, List.map_cons, List.map_nil, List.foldr_cons, List.foldr_nil, List.set_cons_succ, List.set_cons_zero] at S_
    walk_at "dl"
    refine x_if (fun h => ?_) (fun h => ?_)
    · walk_at "dl"
      exact x_lcA (by assumption) (by assumption) (by walk_at "tm") hz ⟨by rw [rng_succ, List.filter_append, List.map_append, List.filter_cons_of_pos h]; rfl, rfl⟩
    · walk_at "dl"
      exact x_lcN (by assumption) (by assumption) ⟨by rw [rng_succ, List.filter_append, List.filter_cons_of_neg (by rw [h]; decide), List.filter_nil, List.append_nil], rfl⟩
  · rintro acc w1 ⟨rfl, rfl⟩ D4 H4 M4 S4
    rw [show (colD th lk c).length = th.length by rw [colD, List.length_map, rng_len]] at S4
    walk_at "dl"
    exact x_rD (by assumption) hq (by walk_at "tm") rfl
end
/-! faults of parts -/
def optD : Option (List Int) → PyData
  | none => .none
  | some l => isD l
theorem isNo_opt {o : Option (List Int)} : isNo (optD o) = o.isNone := by cases o <;> rfl
def oneAt (os : List Int) (a : Int) : Int := os.getD a.toNat 0
def faultOf (th : List (List Int)) (lk : List Lk) (os : List Int) : Pt → Option (List Int)
  | .below c d => ((insOf th lk c).filter (sat th lk (.not d))).head?.map fun i => [i]
  | .under r b s b' => ((pairsOf lk r b).filter fun p => !lnk lk s b' p.1 p.2).head?.map fun p => [p.1, p.2]
  | .is a c => if sat th lk c (oneAt os a) = true then none else some [oneAt os a]
  | .has a n b => if lnk lk n false (oneAt os a) (oneAt os b) = true then none else some [oneAt os a, oneAt os b]
  | .never => none
def Pt.In (n m : Nat) : Pt → Prop
  | .below c d => c.dp < n ∧ d.dp < n
  | .under _ _ _ _ => True
  | .is a c => (0 ≤ a ∧ a < m) ∧ c.dp < n
  | .has a _ b => (0 ≤ a ∧ a < m) ∧ 0 ≤ b ∧ b < m
  | .never => False
def Pt.isU : Pt → Bool
  | .under _ _ _ _ => true
  | _ => false
theorem ones_at {os : List Int} {a : Int} (h : 0 ≤ a ∧ a < os.length) : atI (os.map PyData.int) a = some (.int (oneAt os a)) := by
  obtain ⟨j, rfl⟩ := Int.eq_ofNat_of_zero_le h.1
  have h3 : j < os.length := by omega
  unfold atI ixN oneAt
  simp [h3]
theorem ones_in {os : List Int} {a : Int} (h : 0 ≤ a ∧ a < os.length) : oneAt os a ∈ os := by
  obtain ⟨j, rfl⟩ := Int.eq_ofNat_of_zero_le h.1
  have h3 : j < os.length := by omega
  unfold oneAt
  simp [h3]
theorem hd_fil {α : Type} {l : List α} {p : α → Bool} {j : Nat} {x : α} (h : l[j]? = some x) (h0 : (l.take j).filter p = []) (hp : p x = true) : (l.filter p).head? = some x := by
  obtain ⟨hl, e⟩ := List.getElem?_eq_some_iff.mp h
  have e2 : l = l.take j ++ x :: l.drop (j + 1) := by
    rw [← e, ← List.drop_eq_getElem_cons hl, List.take_append_drop]
  rw [e2, List.filter_append, h0, List.nil_append, List.filter_cons_of_pos hp]
  rfl
theorem memD_pairs {lk : List Lk} {r : Int} {b : Bool} {i j : Int} : memD (i, j) (pairsOf lk r b) = lnk lk r b i j := by
  rw [Bool.eq_iff_iff, memD_t]
  exact pairs_mem
theorem mem_insOf {th : List (List Int)} {lk : List Lk} {c : Cp} {i : Int} : i ∈ insOf th lk c ↔ (0 ≤ i ∧ i < th.length) ∧ sat th lk c i = true := by
  unfold insOf
  rw [List.mem_filter, rng_mem]
section
variable {P : Program} {w : World} {K : PySem.W.Frag} {mg : Str → Option Value} {base : Heap}
def pBelowF (n : Nat) : Pre := fun ss u post => ∃ (th : List (List Int)) (lk : List Lk) (os : List Int) (c d : Cp), ss = [.d (modD th lk os), .d c.D, .d d.D] ∧ u = [] ∧ (c.dp < n ∧ d.dp < n) ∧ (th.length ≤ 1000 ∧ lk.length ≤ 10000) ∧ LkOk th.length lk ∧ post = pD fun x => x = optD (faultOf th lk os (.below c d))
theorem c_below_fault {n : Nat} {f : Addr} {fd : FuncData} (D : Df K mg "_below_fault" s_below_fault f fd ["model", "lower", "upper"]) (c_belonging : Cl P w K mg base (n + 2) "_belonging" (spG K (pBelonging n))) (c_members : Cl P w K mg base (n + 3) "members" (spG K (pMembers n))) : Cl P w K mg base (n + 4) "_below_fault" (spG K (pBelowF n)) := by
  refine D.go sc_below_fault (pBelowF n) (fun ss u post h => by repeat (first | (obtain ⟨rfl, _⟩ := h; rfl) | obtain ⟨_, h⟩ := h)) fun cdv A outer s H M vs Q E ss u post hr hp S hq => ?_
  obtain ⟨th, lk, os, c, d, rfl, rfl, ⟨hc, hd⟩, hsz, hok, rfl⟩ := hp
  refine ⟨_, (pss_cons (ps_set (i := 3) sc_below_fault.nd rfl (.inl rfl) (pc c_belonging hr (by first | decide | omega) (by rfl) (pa_cons (pv 0) (pa_cons (pv 2) pa_nil))))
      (pss_cons (ps_for PassesOwn.never rfl (kIT (K := K) (pi_tup (pc c_members hr (by first | decide | omega) (by rfl) (pa_cons (pv 0) (pa_cons (pv 1) pa_nil))))) (pg_name (i := 4) sc_below_fault.nd rfl (.inl rfl)) (pss_one (ps_if (pt_not (pt_val (pe_ix (ixL (K := K)) (pv 3) (pv 4) (fun _ _ => rfl)))) (pss_one (ps_ret (pe_tup (pa_cons (pv 4) pa_nil)))) pss_nil)))
      (pss_one (ps_ret pe_non)))), ?_⟩
  walk_at "in"
  walk_at "dl"
  refine x_cO (by assumption) (by walk_at "slt") ⟨th, lk, os, d, rfl, rfl, hd, hsz, hok, rfl⟩ ?_
  rintro _ rfl a H_ M_ S_
  walk_at "dl"
  refine x_cD (by assumption) (by walk_at "slt") ⟨th, lk, os, c, rfl, rfl, hc, hsz, hok, rfl⟩ ?_
  rintro _ rfl H_ M_ S_
  walk_at "dl"
  refine x_forT (fun j ρ u => ρ = [.d (modD th lk os), .d c.D, .d d.D, .v (.ref a), .u] ∧ u = [(a, .lst (colD th lk d))] ∧ ((insOf th lk c).take j).filter (sat th lk (.not d)) = []) (by assumption) (by walk_at "tm") ⟨rfl, rfl, rfl⟩ ?_ ?_
  · rintro j x ρ1 u1 hj ⟨rfl, rfl, h0⟩ v σ1 H1 M1 S1
    obtain ⟨i, hi, rfl⟩ := map_at hj
    have him := mem_insOf.mp (List.mem_of_getElem? hi)
    walk_at "dl"
    refine x_ixO 0 (by assumption) rfl (col_at him.1.1 him.1.2) ?_
    walk_at "dl"
    refine x_if (fun h => ?_) (fun h => ?_)
    · walk_at "dl"
      exact x_rD (by assumption) hq (by walk_at "tm") (by show isD [i] = optD _; rw [faultOf, hd_fil hi h0 h]; rfl)
    · walk_at "dl"
      exact Nx.at (by assumption) (by walk_at "le") ⟨rfl, rfl, by rw [take_snoc hi, List.filter_append, h0, List.nil_append, List.filter_cons_of_neg (by rw [show sat th lk (.not d) i = false from h]; decide)]; rfl⟩
  · rintro ρ1 u1 ⟨rfl, rfl, h0⟩ σ1 H1 M1 S1
    rw [show ((insOf th lk c).map PyData.int).length = (insOf th lk c).length from List.length_map .., take_all] at h0
    walk_at "dl"
    exact x_rD (by assumption) hq (by walk_at "tm") (by show PyData.none = optD _; rw [faultOf, h0]; rfl)
def pUnderF (U : Bool) : Pre := fun ss u post => ∃ (th : List (List Int)) (lk : List Lk) (os : List Int) (r : Int) (b : Bool) (s : Int) (b' : Bool), ss = [.d (modD th lk os), .d (roD r b), .d (roD s b')] ∧ u = [] ∧ U = true ∧ lk.length ≤ 10000 ∧ post = pD fun x => x = optD (faultOf th lk os (.under r b s b'))
def pPart (U : Bool) (n : Nat) : Pre := fun ss u post => ∃ (th : List (List Int)) (lk : List Lk) (os : List Int) (p : Pt), ss = [.d (modD th lk os), .d p.D] ∧ u = [] ∧ p.In n os.length ∧ (p.isU = true → U = true) ∧ (th.length ≤ 1000 ∧ lk.length ≤ 10000) ∧ LkOk th.length lk ∧ (∀ o ∈ os, 0 ≤ o ∧ o < th.length) ∧ post = pD fun x => x = optD (faultOf th lk os p)
theorem c_part_fault {U : Bool} {n : Nat} {f : Addr} {fd : FuncData} (D : Df K mg "part_fault" s_part_fault f fd ["model", "part"]) (c_pairs : Cl P w K mg base 1 "_pairs" (spG K pPairs)) (c_belonging : Cl P w K mg base (n + 2) "_belonging" (spG K (pBelonging n)))
    (c_below_fault : Cl P w K mg base (n + 4) "_below_fault" (spG K (pBelowF n))) (c_under_fault : Cl P w K mg base (n + 4) "_under_fault" (spG K (pUnderF U))) : Cl P w K mg base (n + 5) "part_fault" (spG K (pPart U n)) := by
  have c_pairs := c_pairs.mono (j := n + 2) (by omega)
  refine D.go sc_part_fault (pPart U n) (fun ss u post h => by repeat (first | (obtain ⟨rfl, _⟩ := h; rfl) | obtain ⟨_, h⟩ := h)) fun cdv A outer s H M vs Q E ss u post hr hp S hq => ?_
  obtain ⟨th, lk, os, p, rfl, rfl, hin, hu, hsz, hok, hos, rfl⟩ := hp
  refine ⟨_, (pss_cons (ps_set (i := 2) sc_part_fault.nd rfl (.inl rfl) (pe_ix (ixT (K := K)) (pv 1) pe_int (fun _ _ => rfl)))
      (pss_cons (ps_if (pt_cmpR op_eq (pv 2) pe_str (nomark _)) (pss_one (ps_ret (pc c_below_fault hr (by first | decide | omega) (by rfl) (pa_cons (pv 0) (pa_cons (pe_ix (ixT (K := K)) (pv 1) pe_int (fun _ _ => rfl)) (pa_cons (pe_ix (ixT (K := K)) (pv 1) pe_int (fun _ _ => rfl)) pa_nil)))))) pss_nil)
      (pss_cons (ps_if (pt_cmpR op_eq (pv 2) pe_str (nomark _)) (pss_one (ps_ret (pc c_under_fault hr (by first | decide | omega) (by rfl) (pa_cons (pv 0) (pa_cons (pe_ix (ixT (K := K)) (pv 1) pe_int (fun _ _ => rfl)) (pa_cons (pe_ix (ixT (K := K)) (pv 1) pe_int (fun _ _ => rfl)) pa_nil)))))) pss_nil)
      (pss_cons (ps_set (i := 3) sc_part_fault.nd rfl (.inl rfl) (pe_ix (ixT (K := K)) (pv 0) pe_int (fun _ _ => rfl)))
      (pss_cons (ps_if (pt_cmpR op_eq (pv 2) pe_str (nomark _)) (pss_cons (ps_set (i := 4) sc_part_fault.nd rfl (.inl rfl) (pe_ix (ixT (K := K)) (pv 3) (pe_ix (ixT (K := K)) (pv 1) pe_int (fun _ _ => rfl)) (fun _ _ => rfl)))
      (pss_one (ps_ret (pe_ifExp (kTru (K := K) (pt_truth (pe_ix (ixL (K := K)) (pc c_belonging hr (by first | decide | omega) (by rfl) (pa_cons (pv 0) (pa_cons (pe_ix (ixT (K := K)) (pv 1) pe_int (fun _ _ => rfl)) pa_nil))) (pv 4) (fun _ _ => rfl)) (by intro _; rfl))) pe_non (pe_tup (pa_cons (pv 4) pa_nil)))))) pss_nil)
      (pss_cons (ps_asg (pv 1) (kGT (K := K) (n := 4) (pg_tup (by rfl) (pgs_cons (pg_name (i := 5) sc_part_fault.nd rfl (.inl rfl)) (pgs_cons (pg_name (i := 6) sc_part_fault.nd rfl (.inl rfl)) (pgs_cons (pg_name (i := 7) sc_part_fault.nd rfl (.inl rfl)) (pgs_cons (pg_name (i := 8) sc_part_fault.nd rfl (.inl rfl)) pgs_nil)))))))
      (pss_cons (ps_set (i := 9) sc_part_fault.nd rfl (.inl rfl) (pe_tup (pa_cons (pe_ix (ixT (K := K)) (pv 3) (pv 6) (fun _ _ => rfl)) (pa_cons (pe_ix (ixT (K := K)) (pv 3) (pv 8) (fun _ _ => rfl)) pa_nil))))
      (pss_one (ps_ret (pe_ifExp (pt_cmpR (kInX (K := K) (u65 hr)) (pv 9) (pc c_pairs hr (by first | decide | omega) (by rfl) (pa_cons (pv 0) (pa_cons (pe_tup (pa_cons (pv 7) (pa_cons pe_bl pa_nil))) pa_nil))) rfl) pe_non (pv 9))))))))))), ?_⟩
  walk_at "in"
  cases p with
  | below c d =>
    rename Ds _ _ _ _ _ _ _ _ _ => S_
    simp only [Pt.D] at S_
    walk_at "dl"
    refine x_cD (by assumption) (by walk_at "slt") ⟨th, lk, os, c, d, rfl, rfl, hin, hsz, hok, rfl⟩ ?_
    rintro _ rfl H_ M_ S_
    walk_at "dl"
    exact x_rD (by assumption) hq (by walk_at "tm") rfl
  | under r b s b' =>
    rename Ds _ _ _ _ _ _ _ _ _ => S_
    simp only [Pt.D] at S_
    walk_at "dl"
    refine x_cD (by assumption) (by walk_at "slt") ⟨th, lk, os, r, b, s, b', rfl, rfl, hu rfl, hsz.2, rfl⟩ ?_
    rintro _ rfl H_ M_ S_
    walk_at "dl"
    exact x_rD (by assumption) hq (by walk_at "tm") rfl
  | is a c =>
    have ho := hos _ (ones_in hin.1)
    rename Ds _ _ _ _ _ _ _ _ _ => S_
    simp only [Pt.D] at S_
    walk_at "dl"
    refine x_ixT (by assumption) (by walk_at "tm") (ones_at hin.1) ?_
    walk_at "dl"
    refine x_cO (by assumption) (by walk_at "slt") ⟨th, lk, os, c, rfl, rfl, hin.2, hsz, hok, rfl⟩ ?_
    rintro _ rfl q H_ M_ S_
    walk_at "dl"
    refine x_ixO 0 (by assumption) rfl (col_at ho.1 ho.2) ?_
    walk_at "dl"
    refine x_if (fun h => ?_) (fun h => ?_)
    · walk_at "dl"
      exact x_rD (by assumption) hq (by walk_at "tm") (by show PyData.none = optD _; rw [faultOf, if_pos h]; rfl)
    · walk_at "dl"
      exact x_rD (by assumption) hq (by walk_at "tm") (by show isD [oneAt os a] = optD _; rw [faultOf, if_neg (by rw [h]; decide)]; rfl)
  | has a m b =>
    rename Ds _ _ _ _ _ _ _ _ _ => S_
    simp only [Pt.D] at S_
    walk_at "dl"
    refine x_ixT (by assumption) (by walk_at "tm") (ones_at hin.1) ?_
    walk_at "dl"
    refine x_ixT (by assumption) (by walk_at "tm") (ones_at hin.2) ?_
    walk_at "dl"
    refine x_cO (by assumption) (by walk_at "slt") ⟨th, lk, os, m, false, rfl, rfl, hsz.2, rfl⟩ ?_
    rintro _ rfl q H_ M_ S_
    walk_at "dl"
    rename Ds _ _ _ _ _ _ _ _ _ => S_
    have S_ := S_.ofLt 0 rfl SetAt.z
    refine z_inO pr_enc 0 (by assumption) rfl (c := (oneAt os a, oneAt os b)) (by walk_at "tm") (by decide : 1 ≤ 64) memD_pairs ?_
    walk_at "dl"
    refine x_if (fun h => ?_) (fun h => ?_)
    · walk_at "dl"
      exact x_rD (by assumption) hq (by walk_at "tm") (by show PyData.none = optD _; rw [faultOf, if_pos h]; rfl)
    · walk_at "dl"
      exact x_rD (by assumption) hq (by walk_at "tm") (by show isD [oneAt os a, oneAt os b] = optD _; rw [faultOf, if_neg (by rw [h]; decide)]; rfl)
  | never => exact hin.elim
end
def prK (q : Pr) : List Key := [.inl q.1, .inl q.2]
theorem prK_inj {p q : Pr} : prK p = prK q ↔ p = q := ⟨fun h => by
  unfold prK at h
  injection h with h1 h2
  injection h2 with h2 _
  exact Prod.ext (Sum.inl.inj h1) (Sum.inl.inj h2), fun h => h ▸ rfl⟩
section
variable {P : Program} {w : World} {K : PySem.W.Frag} {mg : Str → Option Value} {base : Heap}
theorem c_under_fault {U : Bool} {f : Addr} {fd : FuncData} (D : Df K mg "_under_fault" s_under_fault f fd ["model", "lower", "upper"]) (c_pairs : Cl P w K mg base 1 "_pairs" (spG K pPairs)) : Cl P w K mg base 2 "_under_fault" (spG K (pUnderF U)) := by
  refine D.go sc_under_fault (pUnderF U) (fun ss u post h => by repeat (first | (obtain ⟨rfl, _⟩ := h; rfl) | obtain ⟨_, h⟩ := h)) fun cdv A outer s H M vs Q E ss u post hr hp S hq => ?_
  obtain ⟨th, lk, os, r, b, s, b', rfl, rfl, hU, hl, rfl⟩ := hp
  refine ⟨_, (pss_cons (ps_setDct (i := 4) (own := [("pair", 3)]) (g := gName 3) (by rfl) (u0 hr) sc_under_fault.nd rfl rfl (swD rfl rfl rfl (by decide +kernel)) (kIL (K := K) (pi_list (pc c_pairs hr (by first | decide | omega) (by rfl) (pa_cons (pv 0) (pa_cons (pv 2) pa_nil))))) (blkOk_by (own := [("pair", 3)]) (N := ["model", "lower", "upper", "pair", "there"]) (sc := defScope s_under_fault) (by decide +kernel)) (fun _ _ _ _ _ => (pg_name (i := 3) sc_under_fault.nd rfl (.inl rfl))) (fun _ _ _ _ _ => (pv 3)) (fun _ _ _ _ _ => pe_bl))
      (pss_cons (ps_for PassesOwn.never rfl (kIL (K := K) (pi_list (pc c_pairs hr (by first | decide | omega) (by rfl) (pa_cons (pv 0) (pa_cons (pv 1) pa_nil))))) (pg_name (i := 3) sc_under_fault.nd rfl (.inl rfl)) (pss_one (ps_if (pt_cmp (kDni (K := K) (pc_dniS (u1 hr) (pv 3) (pv 4)))) (pss_one (ps_ret (pv 3))) pss_nil)))
      (pss_one (ps_ret pe_non)))), ?_⟩
  walk_at "in"
  walk_at "dl"
  refine x_cO (by assumption) (by walk_at "slt") ⟨th, lk, os, s, b', rfl, rfl, hl, rfl⟩ ?_
  rintro _ rfl a H_ M_ S_
  walk_at "dl"
  have hpl : (pairsOf lk s b').length ≤ 10000 := Nat.le_trans pairs_len hl
  refine x_dctO (k := 3) 0 (fun i kvs => (∀ q : Pr, (valG kvs (prK q)).isSome = memD q ((pairsOf lk s b').take i)) ∧ kvs.length ≤ i) (by assumption) rfl ⟨fun q => rfl, Nat.le_refl _⟩ ?_ ?_
  · rintro i d kvs hi ⟨hv, hl2⟩ Z σ1 H1 M1 hrw S1
    obtain ⟨q, hq', rfl⟩ := map_at hi
    have hi2 := (List.getElem?_eq_some_iff.mp hq').1
    rename Ds _ _ _ _ _ _ _ _ _ => S_
    simp only [List.set_cons_succ, List.set_cons_zero] at S_
    walk_at "dl"
    refine x_dcA (ks := prK q) (by assumption) (by assumption) (by assumption) (d := .bool true) (by walk_at "tm") (Nat.lt_of_lt_of_le (by omega : _ < 10001) (by decide)) ⟨⟨fun q' => ?_, Nat.le_trans putG_len (Nat.succ_le_succ hl2)⟩, rfl⟩
    rw [valG_put, take_snoc hq', Bool.eq_iff_iff, memD_t, List.mem_append, List.mem_singleton]
    by_cases e : q' = q
    · rw [if_pos (prK_inj.mpr e)]
      exact ⟨fun _ => .inr e, fun _ => rfl⟩
    · rw [if_neg fun z => e (prK_inj.mp z), hv, memD_t]
      exact ⟨.inl, fun z => z.resolve_right e⟩
  · rintro kvs ⟨hv, _⟩ Z H1 M1 S1
    rw [show ((pairsOf lk s b').map prD).length = (pairsOf lk s b').length from List.length_map .., take_all] at hv
    walk_at "dl"
    refine x_cO (by assumption) (by walk_at "slt") ⟨th, lk, os, r, b, rfl, rfl, hl, rfl⟩ ?_
    rintro _ rfl a2 H_ M_ S_
    walk_at "dl"
    rename Ds _ _ _ _ _ _ _ _ _ => S_
    have S_ := S_.ofLt 0 rfl SetAt.z
    rename Ds _ _ _ _ _ _ _ _ _ => S_
    obtain ⟨M_, S_⟩ := S_.freeze List.not_mem_nil
    have S_ := S_.subw (w' := [(Z, _)]) (.cons_cons _ (List.nil_sublist _))
    refine x_forL (fun j ρ u => ρ = [.d (modD th lk os), .d (roD r b), .d (roD s b'), .u, .v (.ref Z)] ∧ u = [(Z, .dt kvs)] ∧ ((pairsOf lk r b).take j).filter (fun p => !lnk lk s b' p.1 p.2) = []) (by assumption) (by walk_at "tm") ⟨rfl, rfl, rfl⟩ ?_ ?_
    · rintro j x ρ1 u1 hj ⟨rfl, rfl, h0⟩ v σ1 H1 M1 S1
      obtain ⟨q, hq', rfl⟩ := map_at hj
      have hv := hv q
      rw [show memD q (pairsOf lk s b') = lnk lk s b' q.1 q.2 from memD_pairs] at hv
      walk_at "dl"
      refine x_dnsK (ks := prK q) 0 (by assumption) rfl (by walk_at "tm") ?_
      rw [hv]
      walk_at "dl"
      refine x_if (fun h => ?_) (fun h => ?_)
      · walk_at "dl"
        exact x_rD (by assumption) hq (by walk_at "tm") (by show PyData.tuple [.int q.1, .int q.2] = optD _; rw [faultOf, hd_fil hq' h0 h]; rfl)
      · walk_at "dl"
        exact Nx.at (by assumption) (by walk_at "le") ⟨rfl, rfl, by rw [take_snoc hq', List.filter_append, h0, List.nil_append, List.filter_cons_of_neg (by show ¬ (!lnk lk s b' q.1 q.2) = true; rw [h]; decide)]; rfl⟩
    · rintro ρ1 u1 ⟨rfl, rfl, h0⟩ σ1 H1 M1 S1
      rw [show ((pairsOf lk r b).map prD).length = (pairsOf lk r b).length from List.length_map .., take_all] at h0
      walk_at "dl"
      exact x_rD (by assumption) hq (by walk_at "tm") (by show PyData.none = optD _; rw [faultOf, h0]; rfl)
end
def ffrom (th : List (List Int)) (lk : List Lk) (os : List Int) : Nat → List Pt → Option (Int × List Int)
  | _, [] => none
  | i, p :: r => match faultOf th lk os p with
    | some l => some ((i : Int), l)
    | none => ffrom th lk os (i + 1) r
theorem ffrom_cons {th : List (List Int)} {lk : List Lk} {os : List Int} {p : Pt} {r : List Pt} {i : Nat} : ffrom th lk os i (p :: r) = match faultOf th lk os p with
    | some l => some ((i : Int), l)
    | none => ffrom th lk os (i + 1) r := rfl
theorem ffrom_app {th : List (List Int)} {lk : List Lk} {os : List Int} : ∀ (a b : List Pt) (i : Nat), ffrom th lk os i (a ++ b) = (ffrom th lk os i a).or (ffrom th lk os (i + a.length) b)
  | [], b, i => rfl
  | p :: r, b, i => by
    rw [List.cons_append, ffrom_cons, ffrom_cons]
    cases faultOf th lk os p with
    | some l => rfl
    | none =>
      show ffrom th lk os (i + 1) (r ++ b) = _
      rw [ffrom_app r b (i + 1), show i + 1 + r.length = i + (p :: r).length by rw [List.length_cons]; omega]
theorem ffrom_one {th : List (List Int)} {lk : List Lk} {os : List Int} {p : Pt} {i : Nat} : ffrom th lk os i [p] = (faultOf th lk os p).map fun l => ((i : Int), l) := by
  unfold ffrom
  cases faultOf th lk os p <;> rfl
abbrev firstF (th : List (List Int)) (lk : List Lk) (os : List Int) (ps : List Pt) : Option (Int × List Int) := ffrom th lk os 0 ps
theorem first_take {th : List (List Int)} {lk : List Lk} {os : List Int} {ps : List Pt} {i : Nat} {p : Pt} (h : ps[i]? = some p) : firstF th lk os (ps.take (i + 1)) = (firstF th lk os (ps.take i)).or ((faultOf th lk os p).map fun l => ((i : Int), l)) := by
  rw [take_snoc h, firstF, ffrom_app, ffrom_one, List.length_take, Nat.zero_add, Nat.min_eq_left (Nat.le_of_lt (List.getElem?_eq_some_iff.mp h).1)]
theorem first_some {th : List (List Int)} {lk : List Lk} {os : List Int} {ps : List Pt} {i : Nat} {x : Int × List Int} (h : firstF th lk os (ps.take i) = some x) : firstF th lk os ps = some x := by
  have e : ps = ps.take i ++ ps.drop i := (List.take_append_drop i ps).symm
  rw [e, firstF, ffrom_app, show ffrom th lk os 0 (ps.take i) = some x from h]
  rfl
def ffD : Option (Int × List Int) → PyData
  | none => .none
  | some x => .tuple [.int x.1, isD x.2]
theorem isNo_ff {o : Option (Int × List Int)} : isNo (ffD o) = o.isNone := by cases o <;> rfl
abbrev Br := Int × Int × List Int
abbrev brD : Br → PyData := fun b => .tuple [.int b.1, .int b.2.1, isD b.2.2]
def brk (th : List (List Int)) (lk : List Lk) (os : List Int) (axs : List (List Pt)) (ks : List Int) : List Br := ks.filterMap fun k => (firstF th lk os (axs.getD k.toNat [])).map fun x => (k, x.1, x.2)
theorem brk_snoc {th : List (List Int)} {lk : List Lk} {os : List Int} {axs : List (List Pt)} {ks : List Int} {k : Int} : brk th lk os axs (ks ++ [k]) = brk th lk os axs ks ++ ((firstF th lk os (axs.getD k.toNat [])).map fun x => (k, x.1, x.2)).toList := by
  show List.filterMap _ (ks ++ [k]) = _
  rw [List.filterMap_append]
  refine congrArg (brk th lk os axs ks ++ ·) ?_
  show List.filterMap _ [k] = _
  rw [List.filterMap_cons, List.filterMap_nil]
  cases (firstF th lk os (axs.getD k.toNat [])) <;> rfl
theorem brk_len {th : List (List Int)} {lk : List Lk} {os : List Int} {axs : List (List Pt)} {ks : List Int} : (brk th lk os axs ks).length ≤ ks.length := List.length_filterMap_le ..
def AxIn (n m : Nat) (axs : List (List Pt)) : Prop := axs.length ≤ 1000 ∧ ∀ ps ∈ axs, ps.length ≤ 1000 ∧ ∀ p ∈ ps, p.In n m
theorem getD_mem {α : Type} {l : List α} {k : Int} {a : α} (h : 0 ≤ k ∧ k < l.length) : l.getD k.toNat a ∈ l := by
  obtain ⟨j, rfl⟩ := Int.eq_ofNat_of_zero_le h.1
  have h3 : j < l.length := by omega
  rw [Int.toNat_natCast, List.getD_eq_getElem?_getD, List.getElem?_eq_getElem h3]
  exact List.getElem_mem h3
section
variable {P : Program} {w : World} {K : PySem.W.Frag} {mg : Str → Option Value} {base : Heap}
def pFirstF (n : Nat) : Pre := fun ss u post => ∃ (th : List (List Int)) (lk : List Lk) (os : List Int) (ps : List Pt), ss = [.d (modD th lk os), .d (axD ps)] ∧ u = [] ∧ (∀ p ∈ ps, p.In n os.length) ∧ (th.length ≤ 1000 ∧ lk.length ≤ 10000) ∧ LkOk th.length lk ∧ (∀ o ∈ os, 0 ≤ o ∧ o < th.length) ∧ post = pD fun x => x = ffD (firstF th lk os ps)
theorem c_first_fault {n : Nat} {f : Addr} {fd : FuncData} (D : Df K mg "_first_fault" s_first_fault f fd ["model", "axiom"]) (c_part_fault : Cl P w K mg base (n + 5) "part_fault" (spG K (pPart true n))) (z_enumerate : mg "enumerate" = none) : Cl P w K mg base (n + 6) "_first_fault" (spG K (pFirstF n)) := by
  refine D.go sc_first_fault (pFirstF n) (fun ss u post h => by repeat (first | (obtain ⟨rfl, _⟩ := h; rfl) | obtain ⟨_, h⟩ := h)) fun cdv A outer s H M vs Q E ss u post hr hp S hq => ?_
  obtain ⟨th, lk, os, ps, rfl, rfl, hin, hsz, hok, hos, rfl⟩ := hp
  refine ⟨_, (pss_cons (ps_for PassesOwn.never rfl (kIET (K := K) (pi_enumT (by rfl) z_enumerate (pa_cons (pv 1) pa_nil))) (kGT (K := K) (n := 2) (pg_tup (by rfl) (pgs_cons (pg_name (i := 2) sc_first_fault.nd rfl (.inl rfl)) (pgs_cons (pg_name (i := 3) sc_first_fault.nd rfl (.inl rfl)) pgs_nil)))) (pss_cons (ps_set (i := 4) sc_first_fault.nd rfl (.inl rfl) (pc c_part_fault hr (by first | decide | omega) (by rfl) (pa_cons (pv 0) (pa_cons (pv 3) pa_nil))))
      (pss_one (ps_if (pt_cmpR op_notNo (pv 4) pe_non (nomark _)) (pss_one (ps_ret (pe_tup (pa_cons (pv 2) (pa_cons (pv 4) pa_nil))))) pss_nil))))
      (pss_one (ps_ret pe_non))), ?_⟩
  walk_at "in"
  walk_at "dl"
  refine x_fET ?_
  walk_at "dl"
  refine x_forET (fun i ρ u => ρ = [.d (modD th lk os), .d (axD ps), .u, .u, .u] ∧ u = [] ∧ firstF th lk os (ps.take i) = none) (by assumption) (by walk_at "tm") ⟨rfl, rfl, rfl⟩ ?_ ?_
  · rintro i d ρ1 u1 hi ⟨rfl, rfl, h0⟩ v σ1 H1 M1 S1
    obtain ⟨p, hp, rfl⟩ := map_at hi
    have hf := first_take (th := th) (lk := lk) (os := os) hp
    rw [h0] at hf
    walk_at "dl"
    refine x_cD (by assumption) (by walk_at "slt") ⟨th, lk, os, p, rfl, rfl, hin p (List.mem_of_getElem? hp), (fun _ => rfl), hsz, hok, hos, rfl⟩ ?_
    rintro _ rfl H_ M_ S_
    walk_at "dl"
    generalize faultOf th lk os p = o at *
    cases o with
    | none =>
      walk_at "dl"
      exact Nx.at (by assumption) (by walk_at "le") ⟨rfl, rfl, hf⟩
    | some l =>
      have hf := first_some hf
      walk_at "dl"
      refine x_ifT rfl ?_
      walk_at "dl"
      exact x_rD (by assumption) hq (by walk_at "tm") (by rw [hf]; rfl)
  · rintro ρ1 u1 ⟨rfl, rfl, h0⟩ σ1 H1 M1 S1
    rw [show (ps.map Pt.D).length = ps.length from List.length_map .., take_all] at h0
    walk_at "dl"
    exact x_rD (by assumption) hq (by walk_at "tm") (by rw [h0]; rfl)
def pBreaks (n : Nat) : Pre := fun ss u post => ∃ (th : List (List Int)) (lk : List Lk) (os : List Int) (axs : List (List Pt)) (s : Int) (ks : List Int), ss = [.d (modD th lk os), .d (.tuple [.tuple (axs.map axD), .int s]), .d (isD ks)] ∧ u = [] ∧ AxIn n os.length axs ∧ (∀ k ∈ ks, 0 ≤ k ∧ k < axs.length) ∧ ks.length ≤ 1000 ∧ (th.length ≤ 1000 ∧ lk.length ≤ 10000) ∧ LkOk th.length lk ∧ (∀ o ∈ os, 0 ≤ o ∧ o < th.length) ∧ post = pD fun x => x = .tuple ((brk th lk os axs ks).map brD)
theorem c_breaks {n : Nat} {f : Addr} {fd : FuncData} (D : Df K mg "breaks" s_breaks f fd ["model", "ontology", "places"]) (c_first_fault : Cl P w K mg base (n + 6) "_first_fault" (spG K (pFirstF n))) (z_tuple : mg "tuple" = none) : Cl P w K mg base (n + 7) "breaks" (spG K (pBreaks n)) := by
  refine D.go sc_breaks (pBreaks n) (fun ss u post h => by repeat (first | (obtain ⟨rfl, _⟩ := h; rfl) | obtain ⟨_, h⟩ := h)) fun cdv A outer s H M vs Q E ss u post hr hp S hq => ?_
  obtain ⟨th, lk, os, axs, s, ks, rfl, rfl, hax, hks, hkl, hsz, hok, hos, rfl⟩ := hp
  refine ⟨_, (pss_cons (ps_asg (pv 1) (kGT (K := K) (n := 2) (pg_tup (by rfl) (pgs_cons (pg_name (i := 3) sc_breaks.nd rfl (.inl rfl)) (pgs_cons (pg_name (i := 4) sc_breaks.nd rfl (.inl rfl)) pgs_nil)))))
      (pss_cons (ps_set (i := 5) sc_breaks.nd rfl (.inl rfl) (pe_lst pa_nil))
      (pss_cons (ps_for PassesOwn.never rfl (kIT (K := K) (pi_tup (pv 2))) (pg_name (i := 6) sc_breaks.nd rfl (.inl rfl)) (pss_cons (ps_set (i := 7) sc_breaks.nd rfl (.inl rfl) (pc c_first_fault hr (by first | decide | omega) (by rfl) (pa_cons (pv 0) (pa_cons (pe_ix (ixT (K := K)) (pv 3) (pv 6) (fun _ _ => rfl)) pa_nil))))
      (pss_one (ps_if (pt_cmpR op_notNo (pv 7) pe_non (nomark _)) (pss_one (ps_expr (kBM (K := K) (pe_bm PySem.F.plainAttrs_list PySem.F.slot_list_append PySem.F.type_list_append mt_append (pv 5) (pa_cons (pe_op (kCatA (K := K)) (pe_tup (pa_cons (pv 6) pa_nil)) (pv 7)) pa_nil))))) pss_nil))))
      (pss_one (ps_ret (pe_callTy (call_tupD (K := K)) (by rfl) z_tuple (by decide +kernel) (pa_cons (pv 5) pa_nil))))))), ?_⟩
  walk_at "in"
  walk_at "dl"
  rename Addr => a
  refine x_forT (fun i ρ u => ρ = [.d (modD th lk os), .d (.tuple [.tuple (axs.map axD), .int s]), .d (isD ks), .d (.tuple (axs.map axD)), .d (.int s), .v (.ref a), .u, .u] ∧ u = [(a, .lst ((brk th lk os axs (ks.take i)).map brD))]) (by assumption) (by walk_at "tm") ⟨rfl, rfl⟩ ?_ ?_
  · rintro i d ρ1 u1 hi ⟨rfl, rfl⟩ v σ1 H1 M1 S1
    obtain ⟨k, hk, rfl⟩ := map_at hi
    have hk1 := hks k (List.mem_of_getElem? hk)
    have hps := hax.2 _ (getD_mem (a := []) hk1)
    have hb := brk_snoc (th := th) (lk := lk) (os := os) (axs := axs) (ks := ks.take i) (k := k)
    rw [← take_snoc hk] at hb
    have hz : ((brk th lk os axs (ks.take i)).map brD).length < sizeLine := by
      rw [List.length_map]
      have h1 := brk_len (th := th) (lk := lk) (os := os) (axs := axs) (ks := ks.take i)
      rw [List.length_take] at h1
      exact Nat.lt_of_lt_of_le (by omega : _ < 1001) (by decide)
    walk_at "dl"
    refine x_ixT (by assumption) (by walk_at "tm") (at_get (f := axD) (a := []) hk1.1 hk1.2) ?_
    walk_at "dl"
    refine x_cD (by assumption) (by walk_at "slt") ⟨th, lk, os, _, rfl, rfl, hps.2, hsz, hok, hos, rfl⟩ ?_
    rintro _ rfl H_ M_ S_
    walk_at "dl"
    generalize firstF th lk os (axs.getD k.toNat []) = o at *
    cases o with
    | none =>
      walk_at "dl"
      exact Nx.at (by assumption) (by walk_at "le") ⟨rfl, by rw [hb]; exact congrArg (fun z => [(a, Od.lst (z.map brD))]) (List.append_nil _).symm⟩
    | some x =>
      rename Ds _ _ _ _ _ _ _ _ _ => S_
      have S_ : Ds K _ _ _ _ _ [_, _, _, _, _, _, _, .d (.tuple [.int x.1, isD x.2])] _ _ := S_
      walk_at "dl"
      refine x_ifT rfl ?_
      walk_at "dl"
      refine x_catT (by assumption) (by walk_at "tm") (by walk_at "tm") (by show 1 + 2 ≤ sizeLine; decide) fun u_ H_ M_ S_ => ?_
      walk_at "dl"
      refine x_appK 0 (by assumption) rfl (by walk_at "tm") hz (by walk_at "set") fun H_ S_ => ?_
      walk_at "dl"
      exact Nx.at (by assumption) (by walk_at "le") ⟨rfl, by rw [hb, List.map_append]; rfl⟩
  · rintro ρ1 u1 ⟨rfl, rfl⟩ σ1 H1 M1 S1
    rw [show (ks.map PyData.int).length = ks.length from List.length_map .., take_all] at S1
    walk_at "dl"
    exact x_rD (by assumption) hq (by walk_at "tm") rfl
end
def holdsQ (th : List (List Int)) (lk : List Lk) (os : List Int) : Pt → Bool
  | .never => false
  | p => (faultOf th lk os p).isNone
def Pt.InQ (n m : Nat) : Pt → Prop
  | .never => True
  | .under _ _ _ _ => False
  | p => p.In n m
section
variable {P : Program} {w : World} {K : PySem.W.Frag} {mg : Str → Option Value} {base : Heap}
def pAnswM (n : Nat) : Pre := fun ss u post => ∃ (th : List (List Int)) (lk : List Lk) (os : List Int) (p : Pt), ss = [.d (modD th lk os), .d p.D] ∧ u = [] ∧ p.InQ n os.length ∧ (th.length ≤ 1000 ∧ lk.length ≤ 10000) ∧ LkOk th.length lk ∧ (∀ o ∈ os, 0 ≤ o ∧ o < th.length) ∧ post = pD fun x => x = .bool (holdsQ th lk os p)
theorem c_answers {U : Bool} {n : Nat} {f : Addr} {fd : FuncData} (D : Df K mg "answers" s_answers f fd ["model", "question"]) (c_part_fault : Cl P w K mg base (n + 5) "part_fault" (spG K (pPart U n))) : Cl P w K mg base (n + 6) "answers" (spG K (pAnswM n)) := by
  refine D.go sc_answers (pAnswM n) (fun ss u post h => by repeat (first | (obtain ⟨rfl, _⟩ := h; rfl) | obtain ⟨_, h⟩ := h)) fun cdv A outer s H M vs Q E ss u post hr hp S hq => ?_
  obtain ⟨th, lk, os, p, rfl, rfl, hin, hsz, hok, hos, rfl⟩ := hp
  refine ⟨_, (pss_one (ps_ret (pe_and (pe_cmpR op_ne (pe_ix (ixT (K := K)) (pv 1) pe_int (fun _ _ => rfl)) pe_str (nomark _)) (pe_one (pe_cmpR op_isNo (pc c_part_fault hr (by first | decide | omega) (by rfl) (pa_cons (pv 0) (pa_cons (pv 1) pa_nil))) pe_non (nomark _)))))), ?_⟩
  walk_at "in"
  cases p with
  | never =>
    rename Ds _ _ _ _ _ _ _ _ _ => S_
    simp only [Pt.D] at S_
    walk_at "dl"
    exact x_rD (by assumption) hq (by walk_at "tm") rfl
  | under r b s b' => exact hin.elim
  | below c d =>
    rename Ds _ _ _ _ _ _ _ _ _ => S_
    simp only [Pt.D] at S_
    walk_at "dl"
    refine x_cD (by assumption) (by walk_at "slt") ⟨th, lk, os, .below c d, rfl, rfl, hin, (fun z => nomatch z), hsz, hok, hos, rfl⟩ ?_
    rintro _ rfl H_ M_ S_
    walk_at "dl"
    rw [isNo_opt]
    exact x_rD (by assumption) hq (by walk_at "tm") rfl
  | is a c =>
    rename Ds _ _ _ _ _ _ _ _ _ => S_
    simp only [Pt.D] at S_
    walk_at "dl"
    refine x_cD (by assumption) (by walk_at "slt") ⟨th, lk, os, .is a c, rfl, rfl, hin, (fun z => nomatch z), hsz, hok, hos, rfl⟩ ?_
    rintro _ rfl H_ M_ S_
    walk_at "dl"
    rw [isNo_opt]
    exact x_rD (by assumption) hq (by walk_at "tm") rfl
  | has a m b =>
    rename Ds _ _ _ _ _ _ _ _ _ => S_
    simp only [Pt.D] at S_
    walk_at "dl"
    refine x_cD (by assumption) (by walk_at "slt") ⟨th, lk, os, .has a m b, rfl, rfl, hin, (fun z => nomatch z), hsz, hok, hos, rfl⟩ ?_
    rintro _ rfl H_ M_ S_
    walk_at "dl"
    rw [isNo_opt]
    exact x_rD (by assumption) hq (by walk_at "tm") rfl
end
theorem cutI_map {α : Type} {f : α → PyData} {ds : List α} {lo hi : Option Int} : cutI (ds.map f) lo hi = (cutI ds lo hi).map f := by
  unfold cutI
  rw [List.length_map, List.map_take, List.map_drop]
/-- what is told of a drawn model -/
structure MdW (s2 : Int) (th : List (List Int)) (lk : List Lk) (os : List Int) : Prop where
  h0 : 1 ≤ th.length
  h1 : th.length ≤ 6
  hk : LkOk th.length lk
  hl : lk.length ≤ 10000
  ho : (os.length : Int) = s2
  ht : ∀ o ∈ os, 0 ≤ o ∧ o < th.length
section
variable {P : Program} {w : World} {K : PySem.W.Frag} {mg : Str → Option Value} {base : Heap}
def pLModel : Pre := fun ss u post => ∃ (ns : List Int) (k s0 s1 s2 m : Int), ss = [.d (.list (ns.map .int)), .d (.int k), .d (szD s0 s1 s2), .d (.int m)] ∧ u = [] ∧ 0 ≤ k ∧ SzOk s0 s1 s2 ∧ (1 ≤ m ∧ m ≤ 6) ∧ post = pD fun d => ∃ th lk os, d = modD th lk os ∧ MdW s2 th lk os
theorem c_law_model {f : Addr} {fd : FuncData} (D : Df K mg "_law_model" s_law_model f fd ["script", "first", "sizes", "most"]) (c_law_draws : Cl P w K mg base 2 "_law_draws" (spG K pDraws)) (c_law_take : Cl P w K mg base 1 "_law_take" (spG K pTake)) (z_range : mg "range" = none) (z_tuple : mg "tuple" = none) : Cl P w K mg base 3 "_law_model" (spG K pLModel) := by
  refine D.go sc_law_model (pLModel) (fun ss u post h => by repeat (first | (obtain ⟨rfl, _⟩ := h; rfl) | obtain ⟨_, h⟩ := h)) fun cdv A outer s H M vs Q E ss u post hr hp S hq => ?_
  obtain ⟨ns, k, s0, s1, s2, m, rfl, rfl, hk, hs, ⟨hm0, hm1⟩, rfl⟩ := hp
  refine ⟨_, (pss_cons (ps_set (i := 4) sc_law_model.nd rfl (.inr rfl) (pc c_law_draws hr (by first | decide | omega) (by rfl) (pa_cons (pv 0) (pa_cons (pv 1) (pa_cons pe_int pa_nil)))))
      (pss_cons (ps_set (i := 5) sc_law_model.nd rfl (.inr rfl) (pe_op op_add pe_int (pc c_law_take hr (by first | decide | omega) (by rfl) (pa_cons (pv 4) (pa_cons (pv 3) pa_nil)))))
      (pss_cons (ps_set (i := 6) sc_law_model.nd rfl (.inl rfl) (pe_lst pa_nil))
      (pss_cons (ps_set (i := 7) sc_law_model.nd rfl (.inl rfl) (pe_lst pa_nil))
      (pss_cons (ps_for PassesOwn.never rfl (pi_range1 (by rfl) z_range (pa_cons (pv 5) pa_nil)) (pg_name (i := 8) sc_law_model.nd rfl (.inl rfl)) (pss_cons (ps_set (i := 9) sc_law_model.nd rfl (.inr rfl) (pc c_law_draws hr (by first | decide | omega) (by rfl) (pa_cons (pv 0) (pa_cons (pe_op op_add (pe_op op_add (pv 1) pe_int) (pe_op op_mod (pv 8) pe_int)) (pa_cons pe_int pa_nil)))))
      (pss_cons (ps_set (i := 9) sc_law_model.nd rfl (.inr rfl) (pe_slice (kSlL (K := K)) (pv 9) (po_some (pe_op op_mul (pe_op op_fdiv (pv 8) pe_int) pe_int)) po_none))
      (pss_one (ps_expr (kBM (K := K) (pe_bm PySem.F.plainAttrs_list PySem.F.slot_list_append PySem.F.type_list_append mt_append (pv 6) (pa_cons (pe_callTy (call_tupD (K := K)) (by rfl) z_tuple (by decide +kernel) (pa_cons (pe_lc (own := [("name", 15)]) (g := gName 15) (by rfl) sc_law_model.nd (pi_range1 (by rfl) z_range (pa_cons (pe_ix (ixT (K := K)) (pv 2) pe_int (fun _ _ => rfl)) pa_nil)) (blkOk_by (own := [("name", 15)]) (N := ["script", "first", "sizes", "most", "draws", "many", "things", "links", "thing", "inner", "role", "start", "end", "ones", "one", "name"]) (sc := defScope s_law_model) (by decide +kernel)) (fun _ _ _ _ _ => pg_name (i := 15) sc_law_model.nd rfl (.inl rfl)) (fun _ _ _ _ _ => (pts_one (pt_cmpR op_eq (pc c_law_take hr (by first | decide | omega) (by rfl) (pa_cons (pv 9) (pa_cons pe_int pa_nil))) pe_int (nomark _)))) (fun _ _ _ _ _ => (pv 15))) pa_nil)) pa_nil))))))))
      (pss_cons (ps_for PassesOwn.never rfl (pi_range1 (by rfl) z_range (pa_cons (pe_ix (ixT (K := K)) (pv 2) pe_int (fun _ _ => rfl)) pa_nil)) (pg_name (i := 10) sc_law_model.nd rfl (.inl rfl)) (pss_one (ps_for PassesOwn.never rfl (pi_range1 (by rfl) z_range (pa_cons (pv 5) pa_nil)) (pg_name (i := 11) sc_law_model.nd rfl (.inl rfl)) (pss_cons (ps_set (i := 9) sc_law_model.nd rfl (.inr rfl) (pc c_law_draws hr (by first | decide | omega) (by rfl) (pa_cons (pv 0) (pa_cons (pe_op op_add (pe_op op_add (pv 1) pe_int) (pe_op op_mod (pe_op op_add (pv 10) (pv 11)) pe_int)) (pa_cons pe_int pa_nil)))))
      (pss_cons (ps_set (i := 9) sc_law_model.nd rfl (.inr rfl) (pe_slice (kSlL (K := K)) (pv 9) (po_some (pe_op op_mul (pe_op op_fdiv (pv 11) pe_int) pe_int)) po_none))
      (pss_one (ps_for PassesOwn.never rfl (pi_range1 (by rfl) z_range (pa_cons (pv 5) pa_nil)) (pg_name (i := 12) sc_law_model.nd rfl (.inl rfl)) (pss_one (ps_if (pt_cmpR op_eq (pc c_law_take hr (by first | decide | omega) (by rfl) (pa_cons (pv 9) (pa_cons pe_int pa_nil))) pe_int (nomark _)) (pss_one (ps_expr (kBM (K := K) (pe_bm PySem.F.plainAttrs_list PySem.F.slot_list_append PySem.F.type_list_append mt_append (pv 7) (pa_cons (pe_tup (pa_cons (pv 10) (pa_cons (pv 11) (pa_cons (pv 12) pa_nil)))) pa_nil))))) pss_nil)))))))))
      (pss_cons (ps_set (i := 13) sc_law_model.nd rfl (.inl rfl) (pe_callTy (call_tupD (K := K)) (by rfl) z_tuple (by decide +kernel) (pa_cons (pe_lc (own := [("one", 14)]) (g := gName 14) (tt := tYes) (by rfl) sc_law_model.nd (pi_range1 (by rfl) z_range (pa_cons (pe_ix (ixT (K := K)) (pv 2) pe_int (fun _ _ => rfl)) pa_nil)) (blkOk_by (own := [("one", 14)]) (N := ["script", "first", "sizes", "most", "draws", "many", "things", "links", "thing", "inner", "role", "start", "end", "ones", "one", "name"]) (sc := defScope s_law_model) (by decide +kernel)) (fun _ _ _ _ _ => pg_name (i := 14) sc_law_model.nd rfl (.inl rfl)) (fun _ _ _ _ _ => pts_nil) (fun _ _ _ _ _ => (pc c_law_take hr (by first | decide | omega) (by rfl) (pa_cons (pv 4) (pa_cons (pv 5) pa_nil))))) pa_nil)))
      (pss_one (ps_ret (pe_tup (pa_cons (pe_callTy (call_tupD (K := K)) (by rfl) z_tuple (by decide +kernel) (pa_cons (pv 6) pa_nil)) (pa_cons (pe_callTy (call_tupD (K := K)) (by rfl) z_tuple (by decide +kernel) (pa_cons (pv 7) pa_nil)) (pa_cons (pv 13) pa_nil))))))))))))), ?_⟩
  walk_at "in"
  walk_at "dl"
  have hs0 := hs.a0
  have hs1 := hs.a1
  have hb0 := hs.b0
  have hb1 := hs.b1
  have hc0 := hs.c0
  have hc1 := hs.c1
  refine x_cO (by assumption) (by walk_at "slt") ⟨ns, k, 40, rfl, rfl, hk, ⟨by decide, by decide⟩, rfl⟩ ?_
  rintro _ ⟨ds, rfl, hds⟩ dr H_ M_ S_
  walk_at "dl"
  rename Ds _ _ _ _ _ _ _ _ _ => S_
  have S_ := S_.toN 0 rfl .z
  refine x_c1 0 (by assumption) rfl (by walk_at "slt") ⟨dr, m, rfl, rfl, by omega, rfl⟩ ?_
  rintro _ _ ⟨rfl, x, rfl, hx0, hx1⟩ H_ M_ w_ hw S_
  cases hw
  walk_at "dl"
  obtain ⟨n, hn⟩ : ∃ n : Nat, 1 + x = (n : Int) := ⟨(1 + x).toNat, by omega⟩
  rename Ds _ _ _ _ _ _ _ _ _ => S_
  rw [hn] at S_ ⊢
  have hn6 : n ≤ 6 := by omega
  have hn1 : 1 ≤ n := by omega
  refine x_forR (fun i ρ u => ∃ t l, ρ = [.d (.list (ns.map .int)), .d (.int k), .d (szD s0 s1 s2), .d (.int m), .v (.ref dr), .d (.int n), .v (.ref t), .v (.ref l), .u, .u, .u, .u, .u, .u, .u, .u] ∧ ∃ th : List (List Int), u = [(l, .lst []), (t, .lst (th.map isD)), (dr, .nums)] ∧ th.length = i) S_ (by omega) (by omega) ⟨_, _, rfl, [], rfl, rfl⟩ ?_ ?_
  · rintro i ρ1 u1 hi ⟨t, l, rfl, th, rfl, hl⟩ σ1 H1 M1 S1
    have hz : (th.map isD).length < sizeLine := by rw [List.length_map]; exact Nat.lt_of_lt_of_le (by omega : _ < 1001) (by decide)
    walk_at "dl"
    refine x_cO (by assumption) (by walk_at "slt") ⟨ns, _, 60, rfl, rfl, by omega, ⟨by decide, by decide⟩, rfl⟩ ?_
    rintro _ ⟨es, rfl, hes⟩ d2 H_ M_ S_
    walk_at "dl"
    refine x_slO 0 (by assumption) rfl cutI_map fun l2 H_ S_ => ?_
    have S_ := S_.toN 0 rfl .z
    have S_ := S_.subw (w' := [(l2, .nums), (l, .lst []), (t, .lst (th.map isD)), (dr, .nums)]) (by repeat (first | exact List.Sublist.refl _ | apply List.Sublist.cons_cons | apply List.Sublist.cons))
    walk_at "dl"
    refine x_lc1R (k := 15) (fun i acc w1 => (∃ xs : List Int, acc = xs.map .int ∧ xs.length ≤ i) ∧ w1 = [(l2, .nums), (l, .lst []), (t, .lst (th.map isD)), (dr, .nums)]) (by assumption) (by omega) (by omega) ⟨⟨[], rfl, Nat.le_refl _⟩, rfl⟩ ?_ ?_
    · rintro j acc w1 hj ⟨⟨xs, rfl, hxl⟩, rfl⟩ D4 σ4 H4 M4 hrw S4
      rename Ds _ _ _ _ _ _ _ _ _ => S_
      simp only [List.set_cons_succ, List.set_cons_zero] at S_
      walk_at "dl"
      refine x_c1 1 (by assumption) rfl (by walk_at "slt") ⟨l2, 2, rfl, rfl, by decide, rfl⟩ ?_
      rintro _ _ ⟨rfl, y, rfl, _, _⟩ H_ M_ w_ hw S_
      cases hw
      rename SetAt _ _ _ _ => hw
      cases hw
      walk_at "dl"
      refine x_if (fun hy => ?_) (fun hy => ?_)
      · walk_at "dl"
        exact x_lcA (by assumption) (by assumption) (by walk_at "tm") (by rw [List.length_map]; exact Nat.lt_of_lt_of_le (by omega : _ < 1001) (by decide)) ⟨⟨xs ++ [(j : Int)], map_snoc, by rw [List.length_append]; exact Nat.succ_le_succ hxl⟩, rfl⟩
      · walk_at "dl"
        exact x_lcN (by assumption) (by assumption) ⟨⟨xs, rfl, by omega⟩, rfl⟩
    rintro acc w1 ⟨⟨xs, rfl, hxl⟩, rfl⟩ D4 H4 M4 S4
    walk_at "dl"
    refine x_appK 3 (by assumption) rfl (by walk_at "tm") hz (by walk_at "set") fun H_ S_ => ?_
    walk_at "dl"
    rename Ds _ _ _ _ _ _ _ _ _ => S_
    have S_ := S_.subw (w' := [(l, .lst []), (t, .lst (th.map isD ++ [isD xs])), (dr, .nums)]) (by repeat (first | exact List.Sublist.refl _ | apply List.Sublist.cons_cons | apply List.Sublist.cons))
    exact Nx.at S_ (by walk_at "le") ⟨t, l, rfl, th ++ [xs], by rw [List.map_append]; rfl, by rw [List.length_append, hl]; rfl⟩
  rintro ρ1 u1 ⟨t, l, rfl, th, rfl, hl⟩ σ1 H1 M1 S1
  rw [Int.toNat_natCast] at hl
  walk_at "dl"
  have low : ∀ (l : List Lk), l.length ≤ 200 → (l.map lkD).length < sizeLine := fun l h => by rw [List.length_map]; exact Nat.lt_of_lt_of_le (by omega : _ < 1001) (by decide)
  refine x_forR (fun i ρ u => ρ = [.d (.list (ns.map .int)), .d (.int k), .d (szD s0 s1 s2), .d (.int m), .v (.ref dr), .d (.int n), .v (.ref t), .v (.ref l), .u, .u, .u, .u, .u, .u, .u, .u] ∧ ∃ lk : List Lk, u = [(l, .lst (lk.map lkD)), (t, .lst (th.map isD)), (dr, .nums)] ∧ lk.length ≤ 36 * i ∧ LkOk n lk) (by assumption) (by omega) (by omega) ⟨rfl, [], rfl, Nat.zero_le _, fun _ h => nomatch h⟩ ?_ ?_
  · rintro i ρ1 u1 hi ⟨rfl, lk, rfl, hlk, hok⟩ σ1 H1 M1 S1
    walk_at "dl"
    refine x_forR (fun j ρ u => ρ = [.d (.list (ns.map .int)), .d (.int k), .d (szD s0 s1 s2), .d (.int m), .v (.ref dr), .d (.int n), .v (.ref t), .v (.ref l), .u, .u, .d (.int i), .u, .u, .u, .u, .u] ∧ ∃ lk : List Lk, u = [(l, .lst (lk.map lkD)), (t, .lst (th.map isD)), (dr, .nums)] ∧ lk.length ≤ 36 * i + 6 * j ∧ LkOk n lk) (by assumption) (by omega) (by omega) ⟨rfl, lk, rfl, hlk, hok⟩ ?_ ?_
    · clear hlk hok
      rintro j ρ1 u1 hj ⟨rfl, lk, rfl, hlk, hok⟩ σ1 H1 M1 S1
      walk_at "dl"
      refine x_cO (by assumption) (by walk_at "slt") ⟨ns, _, 60, rfl, rfl, by omega, ⟨by decide, by decide⟩, rfl⟩ ?_
      rintro _ ⟨es, rfl, hes⟩ d2 H_ M_ S_
      walk_at "dl"
      refine x_slO 0 (by assumption) rfl cutI_map fun l2 H_ S_ => ?_
      have S_ := S_.toN 0 rfl .z
      have S_ := S_.subw (w' := [(l2, .nums), (l, .lst (lk.map lkD)), (t, .lst (th.map isD)), (dr, .nums)]) (by repeat (first | exact List.Sublist.refl _ | apply List.Sublist.cons_cons | apply List.Sublist.cons))
      walk_at "dl"
      refine x_forR (fun e ρ u => ρ = [.d (.list (ns.map .int)), .d (.int k), .d (szD s0 s1 s2), .d (.int m), .v (.ref dr), .d (.int n), .v (.ref t), .v (.ref l), .u, .v (.ref l2), .d (.int i), .d (.int j), .u, .u, .u, .u] ∧ ∃ lk : List Lk, u = [(l2, .nums), (l, .lst (lk.map lkD)), (t, .lst (th.map isD)), (dr, .nums)] ∧ lk.length ≤ 36 * i + 6 * j + e ∧ LkOk n lk) (by assumption) (by omega) (by omega) ⟨rfl, lk, rfl, hlk, hok⟩ ?_ ?_
      · clear hlk hok
        rintro e ρ1 u1 he ⟨rfl, lk, rfl, hlk, hok⟩ σ1 H1 M1 S1
        rw [Int.toNat_natCast] at hj he
        walk_at "dl"
        refine x_c1 0 (by assumption) rfl (by walk_at "slt") ⟨l2, 3, rfl, rfl, by decide, rfl⟩ ?_
        rintro _ _ ⟨rfl, y, rfl, _, _⟩ H_ M_ w_ hw S_
        cases hw
        walk_at "dl"
        refine x_if (fun hy => ?_) (fun hy => ?_)
        · walk_at "dl"
          refine x_appK 1 (by assumption) rfl (e := lkD (i, j, e)) (by walk_at "tm") (low lk (by omega)) (by walk_at "set") fun H_ S_ => ?_
          walk_at "dl"
          exact Nx.at (by assumption) (by walk_at "le") ⟨rfl, lk ++ [((i : Int), (j : Int), (e : Int))], by rw [List.map_append]; rfl, by rw [List.length_append]; show lk.length + 1 ≤ _; omega, fun q hq => (List.mem_append.mp hq).elim (hok q) fun z => by rw [List.mem_singleton.mp z]; exact ⟨⟨by show (0 : Int) ≤ j; omega, by show (j : Int) < n; omega⟩, by show (0 : Int) ≤ e; omega, by show (e : Int) < n; omega⟩⟩
        · walk_at "dl"
          exact Nx.at (by assumption) (by walk_at "le") ⟨rfl, lk, rfl, by omega, hok⟩
      · clear hlk hok
        rintro ρ1 u1 ⟨rfl, lk, rfl, hlk, hok⟩ σ1 H1 M1 S1
        rw [Int.toNat_natCast] at hlk
        have S1 := S1.drop
        walk_at "dl"
        exact Nx.at (by assumption) (by walk_at "le") ⟨rfl, lk, rfl, by omega, hok⟩
    · clear hlk hok
      rintro ρ1 u1 ⟨rfl, lk, rfl, hlk, hok⟩ σ1 H1 M1 S1
      rw [Int.toNat_natCast] at hlk
      walk_at "dl"
      exact Nx.at (by assumption) (by walk_at "le") ⟨rfl, lk, rfl, by omega, hok⟩
  rintro ρ1 u1 ⟨rfl, lk, rfl, hlk, hok⟩ σ1 H1 M1 S1
  walk_at "dl"
  refine x_lc1R (k := 14) (fun i acc w1 => (∃ os : List Int, acc = os.map .int ∧ os.length = i ∧ ∀ o ∈ os, 0 ≤ o ∧ o < n) ∧ w1 = [(l, .lst (lk.map lkD)), (t, .lst (th.map isD)), (dr, .nums)]) (by assumption) (by omega) (by omega) ⟨⟨[], rfl, rfl, fun _ h => nomatch h⟩, rfl⟩ ?_ ?_
  · rintro i acc w1 hi ⟨⟨os, rfl, hol, hos⟩, rfl⟩ D4 σ4 H4 M4 hrw S4
    have hz : (os.map PyData.int).length < sizeLine := by rw [List.length_map]; exact Nat.lt_of_lt_of_le (by omega : _ < 10000) (by decide)
    rename Ds _ _ _ _ _ _ _ _ _ => S_
    simp only [List.set_cons_succ, List.set_cons_zero] at S_
    walk_at "dl"
    refine x_c1 3 (by assumption) rfl (by walk_at "slt") ⟨dr, _, rfl, rfl, by omega, rfl⟩ ?_
    rintro _ _ ⟨rfl, o, rfl, ho0, ho1⟩ H_ M_ w_ hw S_
    cases hw
    rename SetAt _ _ _ _ => hw
    cases hw
    rename SetAt _ _ _ _ => hw
    cases hw
    rename SetAt _ _ _ _ => hw
    cases hw
    walk_at "dl"
    exact x_lcA (by assumption) (by assumption) (by walk_at "tm") hz ⟨⟨os ++ [o], map_snoc, by rw [List.length_append, hol]; rfl, fun q hq => (List.mem_append.mp hq).elim (hos q) fun z => by rw [List.mem_singleton.mp z]; exact ⟨ho0, ho1⟩⟩, rfl⟩
  · rintro acc w1 ⟨⟨os, rfl, hol, hos⟩, rfl⟩ D4 H4 M4 S4
    walk_at "dl"
    exact x_rD (by assumption) hq (by walk_at "tm") ⟨th, lk, os, rfl, ⟨by omega, by omega, by rw [hl]; exact hok, by omega, by omega, by rw [hl]; exact hos⟩⟩
end
abbrev namL (A B C E : List (List Nat)) : PyData := .list [rowD A, rowD B, rowD C, rowD E]
section
variable {P : Program} {w : World} {K : PySem.W.Frag} {mg : Str → Option Value} {base : Heap}
def pLLinked : Pre := fun ss u post => ∃ (th : List (List Int)) (lk : List Lk) (os : List Int) (A B C E : List (List Nat)) (ro : Rol) (i j : Int), ss = [.d (modD th lk os), .d (namL A B C E), .d (rolD ro), .d (.int i), .d (.int j)] ∧ u = [] ∧ ro.1 ∈ B ∧ post = pD fun d => d = .bool (lnk lk (ixI B ro.1) ro.2 i j)
theorem c_law_linked {f : Addr} {fd : FuncData} (D : Df K mg "_law_linked" s_law_linked f fd ["model", "names", "role", "first", "second"]) : Cl P w K mg base 1 "_law_linked" (spG K pLLinked) := by
  refine D.go sc_law_linked (pLLinked) (fun ss u post h => by repeat (first | (obtain ⟨rfl, _⟩ := h; rfl) | obtain ⟨_, h⟩ := h)) fun cdv A outer s H M vs Q E ss u post hr hp S hq => ?_
  obtain ⟨th, lk, os, A, B, C, E, ro, i, j, rfl, rfl, hi, rfl⟩ := hp
  refine ⟨_, (pss_cons (ps_set (i := 5) sc_law_linked.nd rfl (.inl rfl) (kBM (K := K) (pe_bm PySem.F.plainAttrs_list PySem.F.slot_list_index PySem.F.type_list_index (kLixS (K := K)) (pe_ix (ixL (K := K)) (pv 1) pe_int (fun _ _ => rfl)) (pa_cons (pe_ix (ixT (K := K)) (pv 2) pe_int (fun _ _ => rfl)) pa_nil))))
      (pss_cons (ps_if (pt_val (pe_ix (ixT (K := K)) (pv 2) pe_int (fun _ _ => rfl))) (pss_one (ps_ret (pe_cmpR (kInX (K := K) (u65 hr)) (pe_tup (pa_cons (pv 5) (pa_cons (pv 4) (pa_cons (pv 3) pa_nil)))) (pe_ix (ixT (K := K)) (pv 0) pe_int (fun _ _ => rfl)) rfl))) pss_nil)
      (pss_one (ps_ret (pe_cmpR (kInX (K := K) (u65 hr)) (pe_tup (pa_cons (pv 5) (pa_cons (pv 3) (pa_cons (pv 4) pa_nil)))) (pe_ix (ixT (K := K)) (pv 0) pe_int (fun _ _ => rfl)) rfl))))), ?_⟩
  walk_at "in"
  rename Ds _ _ _ _ _ _ _ _ _ => S_
  simp only [rolD] at S_
  walk_at "dl"
  refine x_lixS ?_
  walk_at "dl"
  refine x_lixSK (s := ro.1) (ns := B) (by assumption) (by walk_at "tm") hi ?_
  walk_at "dl"
  refine x_if (fun hb => ?_) (fun hb => ?_)
  · walk_at "dl"
    refine z_inT lk_enc (by assumption) (c := (ixI B ro.1, j, i)) (by walk_at "tm") (by walk_at "tm") (by decide : 1 ≤ 64) rfl ?_
    exact x_rD (by assumption) hq (by walk_at "tm") (by rw [hb]; rfl)
  · walk_at "dl"
    refine z_inT lk_enc (by assumption) (c := (ixI B ro.1, i, j)) (by walk_at "tm") (by walk_at "tm") (by decide : 1 ≤ 64) rfl ?_
    exact x_rD (by assumption) hq (by walk_at "tm") (by rw [hb]; rfl)
theorem any_fil {f g : Int → Bool} {l : List Int} : (((l.filter f).map g).any id) = l.any fun j => f j && g j := by
  rw [List.any_map, List.any_filter]
  rfl
theorem all_fil {f g : Int → Bool} {l : List Int} : (((l.filter f).map g).all id) = !(l.any fun j => f j && !g j) := by
  rw [List.all_map, List.all_filter, List.not_any_eq_all_not]
  congr 1
  funext j
  show (!f j || g j) = !(f j && !g j)
  cases f j <;> cases g j <;> rfl
theorem fil_rngC {f : Int → Bool} {i : Nat} : (rng (i + 1)).filter f = (rng i).filter f ++ if f i = true then [(i : Int)] else [] := by
  rw [rng_succ, List.filter_append]
  by_cases h : f i = true
  · rw [if_pos h, List.filter_cons_of_pos h]
    rfl
  · rw [if_neg h, List.filter_cons_of_neg h]
    rfl
def pBel (n : Nat) : Pre := fun ss u post => ∃ (th : List (List Int)) (lk : List Lk) (os : List Int) (A B C E : List (List Nat)) (c : Con), ss = [.d (modD th lk os), .d (namL A B C E), .d c.D] ∧ u = [] ∧ c.dp < n ∧ c.In A B ∧ th.length ≤ 6 ∧ post = pO fun od => od = .lst (colD th lk (c.core A B))
theorem c_law_belongs {f : Addr} {fd : FuncData} (D : Df K mg "_law_belongs" s_law_belongs f fd ["model", "names", "concept"]) (c_law_linked : Cl P w K mg base 1 "_law_linked" (spG K pLLinked)) (z_len : mg "len" = none) (z_range : mg "range" = none) (z_any : mg "any" = none) (z_all : mg "all" = none) : ∀ n : Nat, Cl P w K mg base (n + 2) "_law_belongs" (spG K (pBel n))
  | 0 => D.vain sc_law_belongs _ fun ss u post ⟨th, lk, os, A, B, C, E, c, _, _, h, _⟩ => absurd h (Nat.not_lt_zero _)
  | n + 1 => by
    have c_law_belongs := c_law_belongs D c_law_linked z_len z_range z_any z_all n
    refine D.go sc_law_belongs (pBel (n + 1)) (fun ss u post h => by repeat (first | (obtain ⟨rfl, _⟩ := h; rfl) | obtain ⟨_, h⟩ := h)) fun cdv A outer s H M vs Q E ss u post hr hp S hq => ?_
    obtain ⟨th, lk, os, A, B, C, E, cc, rfl, rfl, hc, hi2, hth, rfl⟩ := hp
    refine ⟨_, (pss_cons (ps_set (i := 3) sc_law_belongs.nd rfl (.inl rfl) (pe_callB (lenQ (K := K)) (by rfl) z_len PySem.boot_len (pa_cons (pe_ix (ixT (K := K)) (pv 0) pe_int (fun _ _ => rfl)) pa_nil)))
      (pss_cons (ps_set (i := 4) sc_law_belongs.nd rfl (.inr rfl) (pe_ix (ixT (K := K)) (pv 2) pe_int (fun _ _ => rfl)))
      (pss_cons (ps_if (PW.pt (pw_or (pt_cmpR op_eq (pv 4) pe_str (nomark _)) (pw_or1 (pt_cmpR op_eq (pv 4) pe_str (nomark _))))) (pss_one (ps_ret (pe_lc (own := [("thing", 5)]) (g := gName 5) (tt := tYes) (by rfl) sc_law_belongs.nd (pi_range1 (by rfl) z_range (pa_cons (pv 3) pa_nil)) (blkOk_by (own := [("thing", 5)]) (N := ["model", "names", "concept", "many", "kind", "thing", "left", "right", "inner", "rows", "behind", "row", "other"]) (sc := defScope s_law_belongs) (by decide +kernel)) (fun _ _ _ _ _ => pg_name (i := 5) sc_law_belongs.nd rfl (.inl rfl)) (fun _ _ _ _ _ => pts_nil) (fun _ _ _ _ _ => (pe_cmpR op_eq (pv 4) pe_str (nomark _)))))) pss_nil)
      (pss_cons (ps_if (pt_cmpR op_eq (pv 4) pe_str (nomark _)) (pss_one (ps_ret (pe_lc (own := [("thing", 5)]) (g := gName 5) (tt := tYes) (by rfl) sc_law_belongs.nd (pi_range1 (by rfl) z_range (pa_cons (pv 3) pa_nil)) (blkOk_by (own := [("thing", 5)]) (N := ["model", "names", "concept", "many", "kind", "thing", "left", "right", "inner", "rows", "behind", "row", "other"]) (sc := defScope s_law_belongs) (by decide +kernel)) (fun _ _ _ _ _ => pg_name (i := 5) sc_law_belongs.nd rfl (.inl rfl)) (fun _ _ _ _ _ => pts_nil) (fun _ _ _ _ _ => (pe_cmpR (inD (K := K)) (kBM (K := K) (pe_bm PySem.F.plainAttrs_list PySem.F.slot_list_index PySem.F.type_list_index (kLixS (K := K)) (pe_ix (ixL (K := K)) (pv 1) pe_int (fun _ _ => rfl)) (pa_cons (pe_ix (ixT (K := K)) (pv 2) pe_int (fun _ _ => rfl)) pa_nil))) (pe_ix (ixT (K := K)) (pe_ix (ixT (K := K)) (pv 0) pe_int (fun _ _ => rfl)) (pv 5) (fun _ _ => rfl)) rfl))))) pss_nil)
      (pss_cons (ps_if (pt_cmpR op_eq (pv 4) pe_str (nomark _)) (pss_one (ps_ret (pe_lc (own := [("row", 11)]) (g := gName 11) (tt := tYes) (by rfl) sc_law_belongs.nd (kIL (K := K) (pi_list (pc c_law_belongs hr (by first | decide | omega) (by rfl) (pa_cons (pv 0) (pa_cons (pv 1) (pa_cons (pe_ix (ixT (K := K)) (pv 2) pe_int (fun _ _ => rfl)) pa_nil)))))) (blkOk_by (own := [("row", 11)]) (N := ["model", "names", "concept", "many", "kind", "thing", "left", "right", "inner", "rows", "behind", "row", "other"]) (sc := defScope s_law_belongs) (by decide +kernel)) (fun _ _ _ _ _ => pg_name (i := 11) sc_law_belongs.nd rfl (.inl rfl)) (fun _ _ _ _ _ => pts_nil) (fun _ _ _ _ _ => (pe_not (pv 11)))))) pss_nil)
      (pss_cons (ps_if (PW.pt (pw_or (pt_cmpR op_eq (pv 4) pe_str (nomark _)) (pw_or1 (pt_cmpR op_eq (pv 4) pe_str (nomark _))))) (pss_cons (ps_set (i := 6) sc_law_belongs.nd rfl (.inr rfl) (pc c_law_belongs hr (by first | decide | omega) (by rfl) (pa_cons (pv 0) (pa_cons (pv 1) (pa_cons (pe_ix (ixT (K := K)) (pv 2) pe_int (fun _ _ => rfl)) pa_nil)))))
      (pss_cons (ps_set (i := 7) sc_law_belongs.nd rfl (.inr rfl) (pc c_law_belongs hr (by first | decide | omega) (by rfl) (pa_cons (pv 0) (pa_cons (pv 1) (pa_cons (pe_ix (ixT (K := K)) (pv 2) pe_int (fun _ _ => rfl)) pa_nil)))))
      (pss_cons (ps_if (pt_cmpR op_eq (pv 4) pe_str (nomark _)) (pss_one (ps_ret (pe_lc (own := [("thing", 5)]) (g := gName 5) (tt := tYes) (by rfl) sc_law_belongs.nd (pi_range1 (by rfl) z_range (pa_cons (pv 3) pa_nil)) (blkOk_by (own := [("thing", 5)]) (N := ["model", "names", "concept", "many", "kind", "thing", "left", "right", "inner", "rows", "behind", "row", "other"]) (sc := defScope s_law_belongs) (by decide +kernel)) (fun _ _ _ _ _ => pg_name (i := 5) sc_law_belongs.nd rfl (.inl rfl)) (fun _ _ _ _ _ => pts_nil) (fun _ _ _ _ _ => (pe_and (pe_ix (ixL (K := K)) (pv 6) (pv 5) (fun _ _ => rfl)) (pe_one (pe_ix (ixL (K := K)) (pv 7) (pv 5) (fun _ _ => rfl)))))))) pss_nil)
      (pss_one (ps_ret (pe_lc (own := [("thing", 5)]) (g := gName 5) (tt := tYes) (by rfl) sc_law_belongs.nd (pi_range1 (by rfl) z_range (pa_cons (pv 3) pa_nil)) (blkOk_by (own := [("thing", 5)]) (N := ["model", "names", "concept", "many", "kind", "thing", "left", "right", "inner", "rows", "behind", "row", "other"]) (sc := defScope s_law_belongs) (by decide +kernel)) (fun _ _ _ _ _ => pg_name (i := 5) sc_law_belongs.nd rfl (.inl rfl)) (fun _ _ _ _ _ => pts_nil) (fun _ _ _ _ _ => (pe_or (pe_ix (ixL (K := K)) (pv 6) (pv 5) (fun _ _ => rfl)) (pe_one (pe_ix (ixL (K := K)) (pv 7) (pv 5) (fun _ _ => rfl))))))))))) pss_nil)
      (pss_cons (ps_set (i := 8) sc_law_belongs.nd rfl (.inr rfl) (pc c_law_belongs hr (by first | decide | omega) (by rfl) (pa_cons (pv 0) (pa_cons (pv 1) (pa_cons (pe_ix (ixT (K := K)) (pv 2) pe_int (fun _ _ => rfl)) pa_nil)))))
      (pss_cons (ps_set (i := 9) sc_law_belongs.nd rfl (.inl rfl) (pe_lst pa_nil))
      (pss_cons (ps_for PassesOwn.never rfl (pi_range1 (by rfl) z_range (pa_cons (pv 3) pa_nil)) (pg_name (i := 5) sc_law_belongs.nd rfl (.inr rfl)) (pss_cons (ps_setLc (i := 10) (own := [("other", 12)]) (g := gName 12) (by rfl) sc_law_belongs.nd rfl rfl (sw_true rfl rfl rfl (by decide +kernel)) (pi_range1 (by rfl) z_range (pa_cons (pv 3) pa_nil)) (blkOk_by (own := [("other", 12)]) (N := ["model", "names", "concept", "many", "kind", "thing", "left", "right", "inner", "rows", "behind", "row", "other"]) (sc := defScope s_law_belongs) (by decide +kernel)) (fun _ _ _ _ _ => pg_name (i := 12) sc_law_belongs.nd rfl (.inl rfl)) (fun _ _ _ _ _ => (pts_one (pt_val (pc c_law_linked hr (by first | decide | omega) (by rfl) (pa_cons (pv 0) (pa_cons (pv 1) (pa_cons (pe_ix (ixT (K := K)) (pv 2) pe_int (fun _ _ => rfl)) (pa_cons (pv 5) (pa_cons (pv 12) pa_nil))))))))) (fun _ _ _ _ _ => (pe_ix (ixL (K := K)) (pv 8) (pv 12) (fun _ _ => rfl))))
      (pss_one (ps_if (pt_cmpR op_eq (pv 4) pe_str (nomark _)) (pss_one (ps_expr (kBM (K := K) (pe_bm PySem.F.plainAttrs_list PySem.F.slot_list_append PySem.F.type_list_append mt_append (pv 9) (pa_cons (pe_callB (kAny (K := K) rfl) (by rfl) z_any (by decide +kernel) (pa_cons (pv 10) pa_nil)) pa_nil))))) (pss_one (ps_expr (kBM (K := K) (pe_bm PySem.F.plainAttrs_list PySem.F.slot_list_append PySem.F.type_list_append mt_append (pv 9) (pa_cons (pe_callB (kAll (K := K) rfl) (by rfl) z_all (by decide +kernel) (pa_cons (pv 10) pa_nil)) pa_nil)))))))))
      (pss_one (ps_ret (pv 9)))))))))))), ?_⟩
    walk_at "in"
    have hL : (List.map isD th).length = th.length := List.length_map ..
    have hz : ∀ (f : Int → PyData) (i : Nat), i ≤ th.length → ((rng i).map f).length < sizeLine := fun f i h => by rw [List.length_map, rng_len]; exact Nat.lt_of_lt_of_le (by omega : _ < 1001) (by decide)
    walk_at "dl"
    rename Ds _ _ _ _ _ _ _ _ _ => S_
    rw [hL] at S_
    cases hcc : cc with
    | any =>
      subst hcc
      rename Ds _ _ _ _ _ _ _ _ _ => S_
      simp only [Con.D] at S_
      walk_at "dl"
      refine x_lc1R (k := 5) (fun i acc w1 => acc = ((rng i).map fun j => .bool (sat th lk (Con.any.core A B) j)) ∧ w1 = []) (by assumption) (by omega) (by omega) ⟨rfl, rfl⟩ ?_ ?_
      · rintro i acc w1 hi ⟨rfl, rfl⟩ D4 σ4 H4 M4 hrw S4
        rw [Int.toNat_natCast] at hi
        rename Ds _ _ _ _ _ _ _ _ _ => S_
        simp only [List.set_cons_succ, List.set_cons_zero] at S_
        walk_at "dl"
        exact x_lcA (by assumption) (by assumption) (by walk_at "tm") (hz _ i (by omega)) ⟨by rw [rng_map_succ, show sat th lk (Con.any.core A B) i = decide (Str.ofString "anything" = Str.ofString "anything") from (by decide +kernel : true = decide (Str.ofString "anything" = Str.ofString "anything"))], rfl⟩
      · rintro acc w1 ⟨rfl, rfl⟩ D4 H4 M4 S4
        rw [Int.toNat_natCast] at S4
        exact x_rO (by assumption) hq 0 rfl rfl
    | nothing =>
      subst hcc
      rename Ds _ _ _ _ _ _ _ _ _ => S_
      simp only [Con.D] at S_
      walk_at "dl"
      refine x_lc1R (k := 5) (fun i acc w1 => acc = ((rng i).map fun j => .bool (sat th lk (Con.nothing.core A B) j)) ∧ w1 = []) (by assumption) (by omega) (by omega) ⟨rfl, rfl⟩ ?_ ?_
      · rintro i acc w1 hi ⟨rfl, rfl⟩ D4 σ4 H4 M4 hrw S4
        rw [Int.toNat_natCast] at hi
        rename Ds _ _ _ _ _ _ _ _ _ => S_
        simp only [List.set_cons_succ, List.set_cons_zero] at S_
        walk_at "dl"
        exact x_lcA (by assumption) (by assumption) (by walk_at "tm") (hz _ i (by omega)) ⟨by rw [rng_map_succ, show sat th lk (Con.nothing.core A B) i = decide (Str.ofString "nothing" = Str.ofString "anything") from (by decide +kernel : false = decide (Str.ofString "nothing" = Str.ofString "anything"))], rfl⟩
      · rintro acc w1 ⟨rfl, rfl⟩ D4 H4 M4 S4
        rw [Int.toNat_natCast] at S4
        exact x_rO (by assumption) hq 0 rfl rfl
    | name s =>
      subst hcc
      rename Ds _ _ _ _ _ _ _ _ _ => S_
      simp only [Con.D] at S_
      walk_at "dl"
      refine x_lc1R (k := 5) (fun i acc w1 => acc = ((rng i).map fun j => .bool (sat th lk ((Con.name s).core A B) j)) ∧ w1 = []) (by assumption) (by omega) (by omega) ⟨rfl, rfl⟩ ?_ ?_
      · rintro i acc w1 hi ⟨rfl, rfl⟩ D4 σ4 H4 M4 hrw S4
        rw [Int.toNat_natCast] at hi
        rename Ds _ _ _ _ _ _ _ _ _ => S_
        simp only [List.set_cons_succ, List.set_cons_zero] at S_
        walk_at "dl"
        refine x_lixS ?_
        walk_at "dl"
        refine x_lixSK (s := s) (ns := A) (by assumption) (by walk_at "tm") hi2 ?_
        walk_at "dl"
        refine x_ixT (by assumption) (by walk_at "tm") (at_get (f := isD) (a := []) (by omega : 0 ≤ (i : Int)) (by omega)) ?_
        walk_at "dl"
        exact x_lcA (by assumption) (by assumption) (by walk_at "tm") (hz _ i (by omega)) ⟨by rw [rng_map_succ]; rfl, rfl⟩
      · rintro acc w1 ⟨rfl, rfl⟩ D4 H4 M4 S4
        rw [Int.toNat_natCast] at S4
        exact x_rO (by assumption) hq 0 rfl rfl
    | not c =>
      subst hcc
      have hc : c.dp < n := Nat.lt_of_succ_lt_succ hc
      rename Ds _ _ _ _ _ _ _ _ _ => S_
      simp only [Con.D] at S_
      walk_at "dl"
      refine x_cO (by assumption) (by walk_at "slt") ⟨th, lk, os, A, B, C, E, c, rfl, rfl, hc, hi2, hth, rfl⟩ ?_
      rintro _ rfl a H_ M_ S_
      walk_at "dl"
      rename Ds _ _ _ _ _ _ _ _ _ => S_
      obtain ⟨M_, S_⟩ := S_.freeze List.not_mem_nil
      refine x_lc1L (k := 11) (fun i acc w1 => acc = ((rng i).map fun j => .bool (sat th lk ((Con.not c).core A B) j)) ∧ w1 = []) (by assumption) (by walk_at "tm") ⟨rfl, rfl⟩ ?_ ?_
      · rintro i d acc w1 hi ⟨rfl, rfl⟩ D4 σ4 H4 M4 hrw S4
        obtain ⟨x, hx, rfl⟩ := map_at hi
        obtain ⟨hi2, rfl⟩ := rng_at' hx
        rename Ds _ _ _ _ _ _ _ _ _ => S_
        simp only [List.set_cons_succ, List.set_cons_zero] at S_
        walk_at "dl"
        exact x_lcA (by assumption) (by assumption) (by walk_at "tm") (hz _ i (by omega)) ⟨by rw [rng_map_succ]; rfl, rfl⟩
      · rintro acc w1 ⟨rfl, rfl⟩ D4 H4 M4 S4
        rw [colD, List.length_map, rng_len] at S4
        exact x_rO (by assumption) hq 0 rfl rfl
    | both c d =>
      subst hcc
      have kc : c.dp < n := by have : max c.dp d.dp + 1 < n + 1 := hc; omega
      have kd : d.dp < n := by have : max c.dp d.dp + 1 < n + 1 := hc; omega
      rename Ds _ _ _ _ _ _ _ _ _ => S_
      simp only [Con.D] at S_
      walk_at "dl"
      refine x_cO (by assumption) (by walk_at "slt") ⟨th, lk, os, A, B, C, E, c, rfl, rfl, kc, hi2.1, hth, rfl⟩ ?_
      rintro _ rfl a H_ M_ S_
      walk_at "dl"
      refine x_cO (by assumption) (by walk_at "slt") ⟨th, lk, os, A, B, C, E, d, rfl, rfl, kd, hi2.2, hth, rfl⟩ ?_
      rintro _ rfl a2 H_ M_ S_
      walk_at "dl"
      rename Ds _ _ _ _ _ _ _ _ _ => S_
      obtain ⟨M_, S_⟩ := S_.frz2 (i := 7) rfl List.not_mem_nil
      simp only [List.set_cons_succ, List.set_cons_zero] at S_
      rename Ds _ _ _ _ _ _ _ _ _ => S_
      obtain ⟨M_, S_⟩ := S_.frz2 (i := 6) rfl List.not_mem_nil
      simp only [List.set_cons_succ, List.set_cons_zero] at S_
      refine x_lc1R (k := 5) (fun i acc w1 => acc = ((rng i).map fun j => .bool (sat th lk ((Con.both c d).core A B) j)) ∧ w1 = []) (by assumption) (by omega) (by omega) ⟨rfl, rfl⟩ ?_ ?_
      · rintro i acc w1 hi ⟨rfl, rfl⟩ D4 σ4 H4 M4 hrw S4
        rw [Int.toNat_natCast] at hi
        rename Ds _ _ _ _ _ _ _ _ _ => S_
        simp only [List.set_cons_succ, List.set_cons_zero] at S_
        walk_at "dl"
        refine x_ixL (by assumption) (by walk_at "tm") (col_at (by omega : 0 ≤ (i : Int)) (by omega)) ?_
        walk_at "dl"
        refine x_if (fun h1 => ?_) (fun h1 => ?_)
        · walk_at "dl"
          refine x_ixL (by assumption) (by walk_at "tm") (col_at (by omega : 0 ≤ (i : Int)) (by omega)) ?_
          walk_at "dl"
          exact x_lcA (by assumption) (by assumption) (by walk_at "tm") (hz _ i (by omega)) ⟨by rw [rng_map_succ, show sat th lk ((Con.both c d).core A B) i = (sat th lk (c.core A B) i && sat th lk (d.core A B) i) from rfl, h1]; rfl, rfl⟩
        · walk_at "dl"
          exact x_lcA (by assumption) (by assumption) (by walk_at "tm") (hz _ i (by omega)) ⟨by rw [rng_map_succ, show sat th lk ((Con.both c d).core A B) i = (sat th lk (c.core A B) i && sat th lk (d.core A B) i) from rfl, h1]; rfl, rfl⟩
      · rintro acc w1 ⟨rfl, rfl⟩ D4 H4 M4 S4
        rw [Int.toNat_natCast] at S4
        exact x_rO (by assumption) hq 0 rfl rfl
    | either c d =>
      subst hcc
      have kc : c.dp < n := by have : max c.dp d.dp + 1 < n + 1 := hc; omega
      have kd : d.dp < n := by have : max c.dp d.dp + 1 < n + 1 := hc; omega
      have e : ∀ i : Int, sat th lk ((Con.either c d).core A B) i = (sat th lk (c.core A B) i || sat th lk (d.core A B) i) := fun i => by
        show (!(!sat th lk (c.core A B) i && !sat th lk (d.core A B) i)) = _
        cases sat th lk (c.core A B) i <;> cases sat th lk (d.core A B) i <;> rfl
      rename Ds _ _ _ _ _ _ _ _ _ => S_
      simp only [Con.D] at S_
      walk_at "dl"
      refine x_cO (by assumption) (by walk_at "slt") ⟨th, lk, os, A, B, C, E, c, rfl, rfl, kc, hi2.1, hth, rfl⟩ ?_
      rintro _ rfl a H_ M_ S_
      walk_at "dl"
      refine x_cO (by assumption) (by walk_at "slt") ⟨th, lk, os, A, B, C, E, d, rfl, rfl, kd, hi2.2, hth, rfl⟩ ?_
      rintro _ rfl a2 H_ M_ S_
      walk_at "dl"
      rename Ds _ _ _ _ _ _ _ _ _ => S_
      obtain ⟨M_, S_⟩ := S_.frz2 (i := 7) rfl List.not_mem_nil
      simp only [List.set_cons_succ, List.set_cons_zero] at S_
      rename Ds _ _ _ _ _ _ _ _ _ => S_
      obtain ⟨M_, S_⟩ := S_.frz2 (i := 6) rfl List.not_mem_nil
      simp only [List.set_cons_succ, List.set_cons_zero] at S_
      refine x_lc1R (k := 5) (fun i acc w1 => acc = ((rng i).map fun j => .bool (sat th lk ((Con.either c d).core A B) j)) ∧ w1 = []) (by assumption) (by omega) (by omega) ⟨rfl, rfl⟩ ?_ ?_
      · rintro i acc w1 hi ⟨rfl, rfl⟩ D4 σ4 H4 M4 hrw S4
        rw [Int.toNat_natCast] at hi
        rename Ds _ _ _ _ _ _ _ _ _ => S_
        simp only [List.set_cons_succ, List.set_cons_zero] at S_
        walk_at "dl"
        refine x_ixL (by assumption) (by walk_at "tm") (col_at (by omega : 0 ≤ (i : Int)) (by omega)) ?_
        walk_at "dl"
        refine x_if (fun h1 => ?_) (fun h1 => ?_)
        · walk_at "dl"
          exact x_lcA (by assumption) (by assumption) (by walk_at "tm") (hz _ i (by omega)) ⟨by rw [rng_map_succ, e, h1]; rfl, rfl⟩
        · walk_at "dl"
          refine x_ixL (by assumption) (by walk_at "tm") (col_at (by omega : 0 ≤ (i : Int)) (by omega)) ?_
          walk_at "dl"
          exact x_lcA (by assumption) (by assumption) (by walk_at "tm") (hz _ i (by omega)) ⟨by rw [rng_map_succ, e, h1]; rfl, rfl⟩
      · rintro acc w1 ⟨rfl, rfl⟩ D4 H4 M4 S4
        rw [Int.toNat_natCast] at S4
        exact x_rO (by assumption) hq 0 rfl rfl
    | some ro c =>
      subst hcc
      have kc : c.dp < n := Nat.lt_of_succ_lt_succ hc
      rename Ds _ _ _ _ _ _ _ _ _ => S_
      simp only [Con.D] at S_
      walk_at "dl"
      refine x_cO (by assumption) (by walk_at "slt") ⟨th, lk, os, A, B, C, E, c, rfl, rfl, kc, hi2.2, hth, rfl⟩ ?_
      rintro _ rfl a H_ M_ S_
      walk_at "dl"
      rename Ds _ _ _ _ _ _ _ _ _ => S_
      have S_ := S_.perm (List.Perm.swap _ _ _)
      rename Ds _ _ _ _ _ _ _ _ _ => S_
      obtain ⟨M_, S_⟩ := S_.frz2 (i := 8) rfl List.not_mem_nil
      simp only [List.set_cons_succ, List.set_cons_zero] at S_
      walk_at "dl"
      refine x_forR (fun i ρ u => ∃ fr, ρ = [.d (modD th lk os), .d (namL A B C E), .d (.tuple [.str (Str.ofString "some"), rolD ro, c.D]), .d (.int th.length), .d (.str (Str.ofString "some")), .u, .u, .u, .d (.list (colD th lk (c.core A B))), .v (.ref fr), .u, .u, .u] ∧ u = [(fr, .lst ((rng i).map fun j => .bool (sat th lk ((Con.some ro c).core A B) j)))]) (by assumption) (by omega) (by omega) ⟨_, rfl, rfl⟩ ?_ ?_
      · rintro i ρ1 u1 hi ⟨fr, rfl, rfl⟩ σ1 H1 M1 S1
        rw [Int.toNat_natCast] at hi
        walk_at "dl"
        refine x_lc1R (k := 12) (fun j acc w1 => acc = ((rng j).filter fun j => lnk lk (ixI B ro.1) ro.2 i j).map (fun j => .bool (sat th lk (c.core A B) j)) ∧ w1 = [(fr, .lst ((rng i).map fun j => .bool (sat th lk ((Con.some ro c).core A B) j)))]) (by assumption) (by omega) (by omega) ⟨rfl, rfl⟩ ?_ ?_
        · rintro j acc w1 hj ⟨rfl, rfl⟩ D4 σ4 H4 M4 hrw S4
          rw [Int.toNat_natCast] at hj
          have hz2 : (((rng j).filter fun j => lnk lk (ixI B ro.1) ro.2 i j).map fun j => PyData.bool (sat th lk (c.core A B) j)).length < sizeLine := by
            have := List.length_filter_le (fun j => lnk lk (ixI B ro.1) ro.2 i j) (rng j)
            rw [rng_len] at this
            rw [List.length_map]
            exact Nat.lt_of_lt_of_le (by omega : _ < 1001) (by decide)
          rename Ds _ _ _ _ _ _ _ _ _ => S_
          simp only [List.set_cons_succ, List.set_cons_zero] at S_
          walk_at "dl"
          refine x_cD (by assumption) (by walk_at "slt") ⟨th, lk, os, A, B, C, E, ro, i, j, rfl, rfl, hi2.1, rfl⟩ ?_
          rintro _ rfl H_ M_ S_
          walk_at "dl"
          refine x_if (fun hl => ?_) (fun hl => ?_)
          · walk_at "dl"
            refine x_ixL (by assumption) (by walk_at "tm") (col_at (by omega : 0 ≤ (j : Int)) (by omega)) ?_
            walk_at "dl"
            exact x_lcA (by assumption) (by assumption) (by walk_at "tm") hz2 ⟨by rw [fil_rngC, if_pos hl, List.map_append]; rfl, rfl⟩
          · walk_at "dl"
            exact x_lcN (by assumption) (by assumption) ⟨by rw [fil_rngC, if_neg (by rw [hl]; decide), List.append_nil], rfl⟩
        rintro acc w1 ⟨rfl, rfl⟩ D4 H4 M4 S4
        rw [Int.toNat_natCast, show (((rng th.length).filter fun j => lnk lk (ixI B ro.1) ro.2 i j).map fun j => PyData.bool (sat th lk (c.core A B) j)) = (((rng th.length).filter fun j => lnk lk (ixI B ro.1) ro.2 i j).map fun j => sat th lk (c.core A B) j).map .bool by rw [List.map_map]; rfl] at S4
        walk_at "dl"
        refine x_anyO 0 (by assumption) rfl ?_
        rw [any_fil]
        refine x_appK 1 (by assumption) rfl (by walk_at "tm") (hz _ i (by omega)) (by walk_at "set") fun H_ S_ => ?_
        walk_at "dl"
        rename Ds _ _ _ _ _ _ _ _ _ => S_
        have S_ := S_.drop
        exact Nx.at S_ (by walk_at "le") ⟨fr, rfl, by rw [rng_map_succ]; rfl⟩
      · rintro ρ1 u1 ⟨fr, rfl, rfl⟩ σ1 H1 M1 S1
        rw [Int.toNat_natCast] at S1
        walk_at "dl"
        exact x_rO (by assumption) hq 0 rfl rfl
    | all ro c =>
      subst hcc
      have kc : c.dp < n := Nat.lt_of_succ_lt_succ hc
      rename Ds _ _ _ _ _ _ _ _ _ => S_
      simp only [Con.D] at S_
      walk_at "dl"
      refine x_cO (by assumption) (by walk_at "slt") ⟨th, lk, os, A, B, C, E, c, rfl, rfl, kc, hi2.2, hth, rfl⟩ ?_
      rintro _ rfl a H_ M_ S_
      walk_at "dl"
      rename Ds _ _ _ _ _ _ _ _ _ => S_
      have S_ := S_.perm (List.Perm.swap _ _ _)
      rename Ds _ _ _ _ _ _ _ _ _ => S_
      obtain ⟨M_, S_⟩ := S_.frz2 (i := 8) rfl List.not_mem_nil
      simp only [List.set_cons_succ, List.set_cons_zero] at S_
      walk_at "dl"
      refine x_forR (fun i ρ u => ∃ fr, ρ = [.d (modD th lk os), .d (namL A B C E), .d (.tuple [.str (Str.ofString "all"), rolD ro, c.D]), .d (.int th.length), .d (.str (Str.ofString "all")), .u, .u, .u, .d (.list (colD th lk (c.core A B))), .v (.ref fr), .u, .u, .u] ∧ u = [(fr, .lst ((rng i).map fun j => .bool (sat th lk ((Con.all ro c).core A B) j)))]) (by assumption) (by omega) (by omega) ⟨_, rfl, rfl⟩ ?_ ?_
      · rintro i ρ1 u1 hi ⟨fr, rfl, rfl⟩ σ1 H1 M1 S1
        rw [Int.toNat_natCast] at hi
        walk_at "dl"
        refine x_lc1R (k := 12) (fun j acc w1 => acc = ((rng j).filter fun j => lnk lk (ixI B ro.1) ro.2 i j).map (fun j => .bool (sat th lk (c.core A B) j)) ∧ w1 = [(fr, .lst ((rng i).map fun j => .bool (sat th lk ((Con.all ro c).core A B) j)))]) (by assumption) (by omega) (by omega) ⟨rfl, rfl⟩ ?_ ?_
        · rintro j acc w1 hj ⟨rfl, rfl⟩ D4 σ4 H4 M4 hrw S4
          rw [Int.toNat_natCast] at hj
          have hz2 : (((rng j).filter fun j => lnk lk (ixI B ro.1) ro.2 i j).map fun j => PyData.bool (sat th lk (c.core A B) j)).length < sizeLine := by
            have := List.length_filter_le (fun j => lnk lk (ixI B ro.1) ro.2 i j) (rng j)
            rw [rng_len] at this
            rw [List.length_map]
            exact Nat.lt_of_lt_of_le (by omega : _ < 1001) (by decide)
          rename Ds _ _ _ _ _ _ _ _ _ => S_
          simp only [List.set_cons_succ, List.set_cons_zero] at S_
          walk_at "dl"
          refine x_cD (by assumption) (by walk_at "slt") ⟨th, lk, os, A, B, C, E, ro, i, j, rfl, rfl, hi2.1, rfl⟩ ?_
          rintro _ rfl H_ M_ S_
          walk_at "dl"
          refine x_if (fun hl => ?_) (fun hl => ?_)
          · walk_at "dl"
            refine x_ixL (by assumption) (by walk_at "tm") (col_at (by omega : 0 ≤ (j : Int)) (by omega)) ?_
            walk_at "dl"
            exact x_lcA (by assumption) (by assumption) (by walk_at "tm") hz2 ⟨by rw [fil_rngC, if_pos hl, List.map_append]; rfl, rfl⟩
          · walk_at "dl"
            exact x_lcN (by assumption) (by assumption) ⟨by rw [fil_rngC, if_neg (by rw [hl]; decide), List.append_nil], rfl⟩
        rintro acc w1 ⟨rfl, rfl⟩ D4 H4 M4 S4
        rw [Int.toNat_natCast, show (((rng th.length).filter fun j => lnk lk (ixI B ro.1) ro.2 i j).map fun j => PyData.bool (sat th lk (c.core A B) j)) = (((rng th.length).filter fun j => lnk lk (ixI B ro.1) ro.2 i j).map fun j => sat th lk (c.core A B) j).map .bool by rw [List.map_map]; rfl] at S4
        walk_at "dl"
        refine x_allO 0 (by assumption) rfl ?_
        rw [all_fil]
        refine x_appK 1 (by assumption) rfl (by walk_at "tm") (hz _ i (by omega)) (by walk_at "set") fun H_ S_ => ?_
        walk_at "dl"
        rename Ds _ _ _ _ _ _ _ _ _ => S_
        have S_ := S_.drop
        exact Nx.at S_ (by walk_at "le") ⟨fr, rfl, by rw [rng_map_succ]; rfl⟩
      · rintro ρ1 u1 ⟨fr, rfl, rfl⟩ σ1 H1 M1 S1
        rw [Int.toNat_natCast] at S1
        walk_at "dl"
        exact x_rO (by assumption) hq 0 rfl rfl
end
theorem bl_enc : Enc PyData.bool where
  eq := fun a b => Cp.eqB
  lay := fun a => rfl
/-- the statement, as it is written, holds -/
def trueOf (th : List (List Int)) (lk : List Lk) (os : List Int) (A B C : List (List Nat)) : Stm → Bool
  | .never => false
  | s => (s.pts A B C).all fun p => (faultOf th lk os p).isNone
section
variable {th : List (List Int)} {lk : List Lk} {os : List Int}
theorem bel_none {c d : Cp} : (faultOf th lk os (.below c d)).isNone = ((rng th.length).filter (sat th lk c)).all (sat th lk d) := by
  show (((((rng th.length).filter (sat th lk c)).filter (sat th lk (.not d))).head?).map fun i => [i]).isNone = _
  rw [Bool.eq_iff_iff, Option.isNone_map, List.all_eq_true, Option.isNone_iff_eq_none, List.head?_eq_none_iff, List.filter_eq_nil_iff]
  refine forall_congr' fun x => forall_congr' fun _ => ?_
  show ¬ (!sat th lk d x) = true ↔ _
  cases sat th lk d x <;> simp
theorem und_none {r s : Int} {b b' : Bool} (hok : LkOk th.length lk) : (faultOf th lk os (.under r b s b')).isNone = (rng th.length).all fun i => (rng th.length).all fun j => !(lnk lk r b i j && !lnk lk s b' i j) := by
  show ((((pairsOf lk r b).filter fun p => !lnk lk s b' p.1 p.2).head?).map fun p => [p.1, p.2]).isNone = _
  rw [Bool.eq_iff_iff, Option.isNone_map, List.all_eq_true, Option.isNone_iff_eq_none, List.head?_eq_none_iff, List.filter_eq_nil_iff]
  constructor
  · intro h i hi
    rw [List.all_eq_true]
    intro j hj
    cases e : lnk lk r b i j with
    | false => rfl
    | true =>
      have := h (i, j) (pairs_mem.mpr e)
      rw [Bool.true_and, Bool.not_not]
      cases e2 : lnk lk s b' i j with
      | true => rfl
      | false => exact absurd (by show (!lnk lk s b' i j) = true; rw [e2]; rfl) this
  · rintro h p hp e
    have hr := pairs_ok hok hp
    have h2 := List.all_eq_true.mp (h p.1 (rng_mem.mpr hr.1)) p.2 (rng_mem.mpr hr.2)
    rw [pairs_mem.mp hp, e] at h2
    cases h2
end
section
variable {P : Program} {w : World} {K : PySem.W.Frag} {mg : Str → Option Value} {base : Heap}
def pLTrue (n : Nat) : Pre := fun ss u post => ∃ (th : List (List Int)) (lk : List Lk) (os : List Int) (A B C E C' : List (List Nat)) (s : Stm), ss = [.d (modD th lk os), .d (namL A B C E), .d s.D] ∧ u = [] ∧ s.dp < n ∧ s.In A B C' ∧ th.length ≤ 6 ∧ LkOk th.length lk ∧ (∀ o ∈ C', o ∈ C ∧ ixI C o < os.length) ∧ (∀ o ∈ os, 0 ≤ o ∧ o < th.length) ∧ post = pD fun d => d = .bool (trueOf th lk os A B C s)
theorem bools_at {f : Int → Bool} {n : Nat} : ((rng n).map fun i => PyData.bool (f i)) = ((rng n).map f).map .bool := by rw [List.map_map]; rfl
theorem c_law_true {n : Nat} {f : Addr} {fd : FuncData} (D : Df K mg "_law_true" s_law_true f fd ["model", "names", "tree"]) (c_law_linked : Cl P w K mg base 1 "_law_linked" (spG K pLLinked)) (c_law_belongs : Cl P w K mg base (n + 2) "_law_belongs" (spG K (pBel n))) (z_len : mg "len" = none) (z_range : mg "range" = none) (z_any : mg "any" = none) (z_all : mg "all" = none) (z_list : mg "list" = none) : Cl P w K mg base (n + 3) "_law_true" (spG K (pLTrue n)) := by
  have c_law_linked := c_law_linked.mono (j := n + 2) (by omega)
  refine D.go sc_law_true (pLTrue n) (fun ss u post h => by repeat (first | (obtain ⟨rfl, _⟩ := h; rfl) | obtain ⟨_, h⟩ := h)) fun cdv A outer s H M vs Q E ss u post hr hp S hq => ?_
  obtain ⟨th, lk, os, A, B, C, E, C', s, rfl, rfl, hs, hi, hth, hok, hos, hob, rfl⟩ := hp
  refine ⟨_, (pss_cons (ps_set (i := 3) sc_law_true.nd rfl (.inl rfl) (pe_ix (ixT (K := K)) (pv 2) pe_int (fun _ _ => rfl)))
      (pss_cons (ps_set (i := 4) sc_law_true.nd rfl (.inl rfl) (pe_listRg rfl (by rfl) z_list (prg_1 (by rfl) z_range (pe_callB (lenQ (K := K)) (by rfl) z_len PySem.boot_len (pa_cons (pe_ix (ixT (K := K)) (pv 0) pe_int (fun _ _ => rfl)) pa_nil)))))
      (pss_cons (ps_if (pt_cmpR (inD (K := K)) (pv 3) (pe_tup (pa_cons pe_str (pa_cons pe_str (pa_cons pe_str pa_nil)))) rfl) (pss_cons (ps_set (i := 5) sc_law_true.nd rfl (.inr rfl) (pc c_law_belongs hr (by first | decide | omega) (by rfl) (pa_cons (pv 0) (pa_cons (pv 1) (pa_cons (pe_ix (ixT (K := K)) (pv 2) pe_int (fun _ _ => rfl)) pa_nil)))))
      (pss_cons (ps_set (i := 6) sc_law_true.nd rfl (.inr rfl) (pc c_law_belongs hr (by first | decide | omega) (by rfl) (pa_cons (pv 0) (pa_cons (pv 1) (pa_cons (pe_ix (ixT (K := K)) (pv 2) pe_int (fun _ _ => rfl)) pa_nil)))))
      (pss_cons (ps_if (pt_cmpR op_eq (pv 3) pe_str (nomark _)) (pss_one (ps_ret (pe_callB (kAll (K := K) rfl) (by rfl) z_all (by decide +kernel) (pa_cons (pe_lc (own := [("thing", 7)]) (g := gName 7) (tt := tYes) (by rfl) sc_law_true.nd (kIL (K := K) (pi_list (pv 4))) (blkOk_by (own := [("thing", 7)]) (N := ["model", "names", "tree", "kind", "things", "left", "right", "thing", "inside", "role", "other", "first", "second"]) (sc := defScope s_law_true) (by decide +kernel)) (fun _ _ _ _ _ => pg_name (i := 7) sc_law_true.nd rfl (.inl rfl)) (fun _ _ _ _ _ => pts_nil) (fun _ _ _ _ _ => (pe_not (pe_and (pe_ix (ixL (K := K)) (pv 5) (pv 7) (fun _ _ => rfl)) (pe_one (pe_ix (ixL (K := K)) (pv 6) (pv 7) (fun _ _ => rfl))))))) pa_nil)))) pss_nil)
      (pss_cons (ps_if (pt_cmpR op_eq (pv 3) pe_str (nomark _)) (pss_one (ps_ret (pe_cmpR (kEqD (K := K) hr.units) (pv 5) (pv 6) (nomark _)))) pss_nil)
      (pss_one (ps_ret (pe_callB (kAll (K := K) rfl) (by rfl) z_all (by decide +kernel) (pa_cons (pe_lc (own := [("thing", 7)]) (g := gName 7) (by rfl) sc_law_true.nd (kIL (K := K) (pi_list (pv 4))) (blkOk_by (own := [("thing", 7)]) (N := ["model", "names", "tree", "kind", "things", "left", "right", "thing", "inside", "role", "other", "first", "second"]) (sc := defScope s_law_true) (by decide +kernel)) (fun _ _ _ _ _ => pg_name (i := 7) sc_law_true.nd rfl (.inl rfl)) (fun _ _ _ _ _ => (pts_one (pt_val (pe_ix (ixL (K := K)) (pv 5) (pv 7) (fun _ _ => rfl))))) (fun _ _ _ _ _ => (pe_ix (ixL (K := K)) (pv 6) (pv 7) (fun _ _ => rfl)))) pa_nil)))))))) pss_nil)
      (pss_cons (ps_if (PW.pt (pw_or (pt_cmpR op_eq (pv 3) pe_str (nomark _)) (pw_or1 (pt_cmpR op_eq (pv 3) pe_str (nomark _))))) (pss_cons (ps_set (i := 8) sc_law_true.nd rfl (.inl rfl) (pc c_law_belongs hr (by first | decide | omega) (by rfl) (pa_cons (pv 0) (pa_cons (pv 1) (pa_cons (pe_ix (ixT (K := K)) (pv 2) pe_int (fun _ _ => rfl)) pa_nil)))))
      (pss_cons (ps_set (i := 9) sc_law_true.nd rfl (.inr rfl) (pe_ix (ixT (K := K)) (pv 2) pe_int (fun _ _ => rfl)))
      (pss_cons (ps_if (pt_cmpR op_eq (pv 3) pe_str (nomark _)) (pss_one (ps_set (i := 9) sc_law_true.nd rfl (.inr rfl) (pe_tup (pa_cons (pe_ix (ixT (K := K)) (pv 9) pe_int (fun _ _ => rfl)) (pa_cons (pe_not (pe_ix (ixT (K := K)) (pv 9) pe_int (fun _ _ => rfl))) pa_nil))))) pss_nil)
      (pss_cons (ps_for PassesOwn.never rfl (kIL (K := K) (pi_list (pv 4))) (pg_name (i := 7) sc_law_true.nd rfl (.inr rfl)) (pss_one (ps_if (PW.pt (pw_and (pt_val (pe_callB (kAny (K := K) rfl) (by rfl) z_any (by decide +kernel) (pa_cons (pe_lc (own := [("other", 10)]) (g := gName 10) (tt := tYes) (by rfl) sc_law_true.nd (kIL (K := K) (pi_list (pv 4))) (blkOk_by (own := [("other", 10)]) (N := ["model", "names", "tree", "kind", "things", "left", "right", "thing", "inside", "role", "other", "first", "second"]) (sc := defScope s_law_true) (by decide +kernel)) (fun _ _ _ _ _ => pg_name (i := 10) sc_law_true.nd rfl (.inl rfl)) (fun _ _ _ _ _ => pts_nil) (fun _ _ _ _ _ => (pc c_law_linked hr (by first | decide | omega) (by rfl) (pa_cons (pv 0) (pa_cons (pv 1) (pa_cons (pv 9) (pa_cons (pv 7) (pa_cons (pv 10) pa_nil)))))))) pa_nil))) (pw_and1 (pt_not (pt_val (pe_ix (ixL (K := K)) (pv 8) (pv 7) (fun _ _ => rfl))))))) (pss_one (ps_ret pe_bl)) pss_nil)))
      (pss_one (ps_ret pe_bl)))))) pss_nil)
      (pss_cons (ps_if (PW.pt (pw_or (pt_cmpR op_eq (pv 3) pe_str (nomark _)) (pw_or1 (pt_cmpR op_eq (pv 3) pe_str (nomark _))))) (pss_cons (ps_set (i := 11) sc_law_true.nd rfl (.inl rfl) (pe_ifExp (pt_cmpR op_eq (pv 3) pe_str (nomark _)) (pe_tup (pa_cons (pe_ix (ixT (K := K)) (pv 2) pe_int (fun _ _ => rfl)) (pa_cons pe_bl pa_nil))) (pe_ix (ixT (K := K)) (pv 2) pe_int (fun _ _ => rfl))))
      (pss_cons (ps_set (i := 12) sc_law_true.nd rfl (.inl rfl) (pe_ifExp (pt_cmpR op_eq (pv 3) pe_str (nomark _)) (pe_tup (pa_cons (pe_ix (ixT (K := K)) (pv 2) pe_int (fun _ _ => rfl)) (pa_cons pe_bl pa_nil))) (pe_ix (ixT (K := K)) (pv 2) pe_int (fun _ _ => rfl))))
      (pss_cons (ps_for PassesOwn.never rfl (kIL (K := K) (pi_list (pv 4))) (pg_name (i := 7) sc_law_true.nd rfl (.inr rfl)) (pss_one (ps_for PassesOwn.never rfl (kIL (K := K) (pi_list (pv 4))) (pg_name (i := 10) sc_law_true.nd rfl (.inl rfl)) (pss_cons (ps_set (i := 5) sc_law_true.nd rfl (.inr rfl) (pc c_law_linked hr (by first | decide | omega) (by rfl) (pa_cons (pv 0) (pa_cons (pv 1) (pa_cons (pv 11) (pa_cons (pv 7) (pa_cons (pv 10) pa_nil)))))))
      (pss_cons (ps_set (i := 6) sc_law_true.nd rfl (.inr rfl) (pc c_law_linked hr (by first | decide | omega) (by rfl) (pa_cons (pv 0) (pa_cons (pv 1) (pa_cons (pv 12) (pa_cons (pv 7) (pa_cons (pv 10) pa_nil)))))))
      (pss_one (ps_if (PW.pt (pw_or (PW.pt (pw_and (kTru (K := K) (pt_truth (pv 5) (by intro _; rfl))) (pw_and1 (pt_not (kTru (K := K) (pt_truth (pv 6) (by intro _; rfl))))))) (pw_or1 (PW.pt (pw_and (pt_cmpR op_eq (pv 3) pe_str (nomark _)) (pw_and (kTru (K := K) (pt_truth (pv 6) (by intro _; rfl))) (pw_and1 (pt_not (kTru (K := K) (pt_truth (pv 5) (by intro _; rfl))))))))))) (pss_one (ps_ret pe_bl)) pss_nil)))))))
      (pss_one (ps_ret pe_bl))))) pss_nil)
      (pss_cons (ps_if (pt_cmpR op_eq (pv 3) pe_str (nomark _)) (pss_one (ps_ret (pe_ix (ixL (K := K)) (pc c_law_belongs hr (by first | decide | omega) (by rfl) (pa_cons (pv 0) (pa_cons (pv 1) (pa_cons (pe_ix (ixT (K := K)) (pv 2) pe_int (fun _ _ => rfl)) pa_nil)))) (pe_ix (ixT (K := K)) (pe_ix (ixT (K := K)) (pv 0) pe_int (fun _ _ => rfl)) (kBM (K := K) (pe_bm PySem.F.plainAttrs_list PySem.F.slot_list_index PySem.F.type_list_index (kLixS (K := K)) (pe_ix (ixL (K := K)) (pv 1) pe_int (fun _ _ => rfl)) (pa_cons (pe_ix (ixT (K := K)) (pv 2) pe_int (fun _ _ => rfl)) pa_nil))) (fun _ _ => rfl)) (fun _ _ => rfl)))) pss_nil)
      (pss_cons (ps_if (pt_cmpR op_eq (pv 3) pe_str (nomark _)) (pss_cons (ps_set (i := 11) sc_law_true.nd rfl (.inl rfl) (pe_ix (ixT (K := K)) (pe_ix (ixT (K := K)) (pv 0) pe_int (fun _ _ => rfl)) (kBM (K := K) (pe_bm PySem.F.plainAttrs_list PySem.F.slot_list_index PySem.F.type_list_index (kLixS (K := K)) (pe_ix (ixL (K := K)) (pv 1) pe_int (fun _ _ => rfl)) (pa_cons (pe_ix (ixT (K := K)) (pv 2) pe_int (fun _ _ => rfl)) pa_nil))) (fun _ _ => rfl)))
      (pss_one (ps_ret (pc c_law_linked hr (by first | decide | omega) (by rfl) (pa_cons (pv 0) (pa_cons (pv 1) (pa_cons (pe_tup (pa_cons (pe_ix (ixT (K := K)) (pv 2) pe_int (fun _ _ => rfl)) (pa_cons pe_bl pa_nil))) (pa_cons (pv 11) (pa_cons (pe_ix (ixT (K := K)) (pe_ix (ixT (K := K)) (pv 0) pe_int (fun _ _ => rfl)) (kBM (K := K) (pe_bm PySem.F.plainAttrs_list PySem.F.slot_list_index PySem.F.type_list_index (kLixS (K := K)) (pe_ix (ixL (K := K)) (pv 1) pe_int (fun _ _ => rfl)) (pa_cons (pe_ix (ixT (K := K)) (pv 2) pe_int (fun _ _ => rfl)) pa_nil))) (fun _ _ => rfl)) pa_nil))))))))) pss_nil)
      (pss_one (ps_ret pe_bl))))))))), ?_⟩
  walk_at "in"
  have hL : (List.map isD th).length = th.length := List.length_map ..
  have hz : ∀ (l : List Int) (f : Int → PyData) (i : Nat), i ≤ th.length → l.length ≤ i → (l.map f).length < sizeLine := fun l f i h h2 => by rw [List.length_map]; exact Nat.lt_of_lt_of_le (by omega : _ < 1001) (by decide)
  have hzb : ∀ (l : List Bool) (i : Nat), i ≤ th.length → l.length ≤ i → (l.map PyData.bool).length < sizeLine := fun l i h h2 => by rw [List.length_map]; exact Nat.lt_of_lt_of_le (by omega : _ < 1001) (by decide)
  have hmm : ∀ (s : List Nat), s ∈ C' → 0 ≤ ixI C s ∧ ixI C s < os.length := fun s h => ⟨by show (0 : Int) ≤ (C.idxOf s : Nat); omega, (hos s h).2⟩
  cases s with
  | below c d =>
    have hs : max c.dp d.dp < n := hs
    rename Ds _ _ _ _ _ _ _ _ _ => S_
    simp only [Stm.D] at S_
    walk_at "dl"
    rw [hL]
    refine x_lrK (by assumption) (by omega) (by omega) fun a_ H_ S_ => ?_
    rw [Int.toNat_natCast] at S_
    walk_at "dl"
    rename Ds _ _ _ _ _ _ _ _ _ => S_
    obtain ⟨M_, S_⟩ := S_.frz2 (i := 4) rfl List.not_mem_nil
    simp only [List.set_cons_succ, List.set_cons_zero] at S_
    walk_at "dl"
    refine x_cO (by assumption) (by walk_at "slt") ⟨th, lk, os, A, B, C, E, c, rfl, rfl, by omega, hi.1, hth, rfl⟩ ?_
    rintro _ rfl a H_ M_ S_
    walk_at "dl"
    refine x_cO (by assumption) (by walk_at "slt") ⟨th, lk, os, A, B, C, E, d, rfl, rfl, by omega, hi.2, hth, rfl⟩ ?_
    rintro _ rfl a2 H_ M_ S_
    walk_at "dl"
    rename Ds _ _ _ _ _ _ _ _ _ => S_
    obtain ⟨M_, S_⟩ := S_.frz2 (i := 6) rfl List.not_mem_nil
    simp only [List.set_cons_succ, List.set_cons_zero] at S_
    rename Ds _ _ _ _ _ _ _ _ _ => S_
    obtain ⟨M_, S_⟩ := S_.frz2 (i := 5) rfl List.not_mem_nil
    simp only [List.set_cons_succ, List.set_cons_zero] at S_
    walk_at "dl"
    refine x_lc1L (k := 7) (fun i acc w1 => acc = (((rng i).filter (sat th lk (c.core A B))).map (sat th lk (d.core A B))).map .bool ∧ w1 = []) (by assumption) (by walk_at "tm") ⟨rfl, rfl⟩ ?_ ?_
    · rintro i x acc w1 hi' ⟨rfl, rfl⟩ D4 σ4 H4 M4 hrw S4
      obtain ⟨y, hy, rfl⟩ := map_at hi'
      obtain ⟨hil, rfl⟩ := rng_at' hy
      have hfl := List.length_filter_le (sat th lk (c.core A B)) (rng i)
      rw [rng_len] at hfl
      rename Ds _ _ _ _ _ _ _ _ _ => S_
      simp only [List.set_cons_succ, List.set_cons_zero] at S_
      walk_at "dl"
      refine x_ixL (by assumption) (by walk_at "tm") (col_at (by omega : 0 ≤ (i : Int)) (by omega)) ?_
      walk_at "dl"
      refine x_if (fun h1 => ?_) (fun h1 => ?_)
      · walk_at "dl"
        refine x_ixL (by assumption) (by walk_at "tm") (col_at (by omega : 0 ≤ (i : Int)) (by omega)) ?_
        walk_at "dl"
        exact x_lcA (by assumption) (by assumption) (by walk_at "tm") (hzb _ i (by omega) (by rw [List.length_map]; exact hfl)) ⟨by rw [fil_rngC, if_pos h1, List.map_append, List.map_append]; rfl, rfl⟩
      · walk_at "dl"
        exact x_lcN (by assumption) (by assumption) ⟨by rw [fil_rngC, if_neg (by rw [h1]; decide), List.append_nil], rfl⟩
    rintro acc w1 ⟨rfl, rfl⟩ D4 H4 M4 S4
    rw [show ((rng th.length).map PyData.int).length = th.length by rw [List.length_map, rng_len]] at S4
    walk_at "dl"
    refine x_allO 0 (by assumption) rfl ?_
    exact x_rD (by assumption) hq (by walk_at "tm") (by show PyData.bool _ = .bool ((faultOf th lk os (.below (c.core A B) (d.core A B))).isNone && true); rw [bel_none, Bool.and_true, List.all_map]; rfl)
  | apart c d =>
    have hs : max c.dp d.dp < n := hs
    rename Ds _ _ _ _ _ _ _ _ _ => S_
    simp only [Stm.D] at S_
    walk_at "dl"
    rw [hL]
    refine x_lrK (by assumption) (by omega) (by omega) fun a_ H_ S_ => ?_
    rw [Int.toNat_natCast] at S_
    walk_at "dl"
    rename Ds _ _ _ _ _ _ _ _ _ => S_
    obtain ⟨M_, S_⟩ := S_.frz2 (i := 4) rfl List.not_mem_nil
    simp only [List.set_cons_succ, List.set_cons_zero] at S_
    walk_at "dl"
    refine x_cO (by assumption) (by walk_at "slt") ⟨th, lk, os, A, B, C, E, c, rfl, rfl, by omega, hi.1, hth, rfl⟩ ?_
    rintro _ rfl a H_ M_ S_
    walk_at "dl"
    refine x_cO (by assumption) (by walk_at "slt") ⟨th, lk, os, A, B, C, E, d, rfl, rfl, by omega, hi.2, hth, rfl⟩ ?_
    rintro _ rfl a2 H_ M_ S_
    walk_at "dl"
    rename Ds _ _ _ _ _ _ _ _ _ => S_
    obtain ⟨M_, S_⟩ := S_.frz2 (i := 6) rfl List.not_mem_nil
    simp only [List.set_cons_succ, List.set_cons_zero] at S_
    rename Ds _ _ _ _ _ _ _ _ _ => S_
    obtain ⟨M_, S_⟩ := S_.frz2 (i := 5) rfl List.not_mem_nil
    simp only [List.set_cons_succ, List.set_cons_zero] at S_
    walk_at "dl"
    refine x_lc1L (k := 7) (fun i acc w1 => acc = ((rng i).map fun i => !(sat th lk (c.core A B) i && sat th lk (d.core A B) i)).map .bool ∧ w1 = []) (by assumption) (by walk_at "tm") ⟨rfl, rfl⟩ ?_ ?_
    · rintro i x acc w1 hi' ⟨rfl, rfl⟩ D4 σ4 H4 M4 hrw S4
      obtain ⟨y, hy, rfl⟩ := map_at hi'
      obtain ⟨hil, rfl⟩ := rng_at' hy
      rename Ds _ _ _ _ _ _ _ _ _ => S_
      simp only [List.set_cons_succ, List.set_cons_zero] at S_
      walk_at "dl"
      refine x_ixL (by assumption) (by walk_at "tm") (col_at (by omega : 0 ≤ (i : Int)) (by omega)) ?_
      walk_at "dl"
      refine x_if (fun h1 => ?_) (fun h1 => ?_)
      · walk_at "dl"
        refine x_ixL (by assumption) (by walk_at "tm") (col_at (by omega : 0 ≤ (i : Int)) (by omega)) ?_
        walk_at "dl"
        exact x_lcA (by assumption) (by assumption) (by walk_at "tm") (hzb _ i (by omega) (by rw [List.length_map, rng_len]; exact Nat.le_refl _)) ⟨by rw [rng_map_succ, List.map_append, h1]; rfl, rfl⟩
      · walk_at "dl"
        exact x_lcA (by assumption) (by assumption) (by walk_at "tm") (hzb _ i (by omega) (by rw [List.length_map, rng_len]; exact Nat.le_refl _)) ⟨by rw [rng_map_succ, List.map_append, h1]; rfl, rfl⟩
    rintro acc w1 ⟨rfl, rfl⟩ D4 H4 M4 S4
    rw [show ((rng th.length).map PyData.int).length = th.length by rw [List.length_map, rng_len]] at S4
    walk_at "dl"
    refine x_allO 0 (by assumption) rfl ?_
    exact x_rD (by assumption) hq (by walk_at "tm") (by
      show PyData.bool _ = .bool ((faultOf th lk os (.below (.both (c.core A B) (d.core A B)) (.not .any))).isNone && true)
      rw [bel_none, Bool.and_true, List.all_map, List.all_filter]
      congr 2
      funext i
      show _ = (!(sat th lk (c.core A B) i && sat th lk (d.core A B) i) || false)
      rw [Bool.or_false]
      rfl)
  | equals c d =>
    have hs : max c.dp d.dp < n := hs
    rename Ds _ _ _ _ _ _ _ _ _ => S_
    simp only [Stm.D] at S_
    walk_at "dl"
    rw [hL]
    refine x_lrK (by assumption) (by omega) (by omega) fun a_ H_ S_ => ?_
    rw [Int.toNat_natCast] at S_
    walk_at "dl"
    rename Ds _ _ _ _ _ _ _ _ _ => S_
    obtain ⟨M_, S_⟩ := S_.frz2 (i := 4) rfl List.not_mem_nil
    simp only [List.set_cons_succ, List.set_cons_zero] at S_
    walk_at "dl"
    refine x_cO (by assumption) (by walk_at "slt") ⟨th, lk, os, A, B, C, E, c, rfl, rfl, by omega, hi.1, hth, rfl⟩ ?_
    rintro _ rfl a H_ M_ S_
    walk_at "dl"
    refine x_cO (by assumption) (by walk_at "slt") ⟨th, lk, os, A, B, C, E, d, rfl, rfl, by omega, hi.2, hth, rfl⟩ ?_
    rintro _ rfl a2 H_ M_ S_
    walk_at "dl"
    rename Ds _ _ _ _ _ _ _ _ _ => S_
    obtain ⟨M_, S_⟩ := S_.frz2 (i := 6) rfl List.not_mem_nil
    simp only [List.set_cons_succ, List.set_cons_zero] at S_
    rename Ds _ _ _ _ _ _ _ _ _ => S_
    obtain ⟨M_, S_⟩ := S_.frz2 (i := 5) rfl List.not_mem_nil
    simp only [List.set_cons_succ, List.set_cons_zero] at S_
    rename Ds _ _ _ _ _ _ _ _ _ => S_
    rw [colD, colD, bools_at, bools_at] at S_
    walk_at "dl"
    refine x_eqX (Enc.list bl_enc) (c := (rng th.length).map (sat th lk (c.core A B))) (d := (rng th.length).map (sat th lk (d.core A B))) (by assumption) (by walk_at "tm") (by walk_at "tm") (Nat.le_trans (depth_list (n := 0) fun _ _ => Nat.le_refl _) (by decide)) (Nat.le_trans (depth_list (n := 0) fun _ _ => Nat.le_refl _) (by decide)) ?_
    exact x_rD (by assumption) hq (by walk_at "tm") (by
      show PyData.bool _ = .bool ((faultOf th lk os (.below (c.core A B) (d.core A B))).isNone && ((faultOf th lk os (.below (d.core A B) (c.core A B))).isNone && true))
      rw [bel_none, bel_none, Bool.and_true]
      congr 1
      rw [Bool.eq_iff_iff, decide_eq_true_iff, Bool.and_eq_true, List.map_inj_left, List.all_filter, List.all_filter, List.all_eq_true, List.all_eq_true]
      constructor
      · intro h
        exact ⟨fun i hi => by rw [h i hi]; cases sat th lk (d.core A B) i <;> rfl, fun i hi => by rw [h i hi]; cases sat th lk (d.core A B) i <;> rfl⟩
      · rintro ⟨h1, h2⟩ i hi
        have h1 := h1 i hi
        have h2 := h2 i hi
        revert h1 h2
        cases sat th lk (c.core A B) i <;> cases sat th lk (d.core A B) i <;> simp)
  | is o c =>
    rename Ds _ _ _ _ _ _ _ _ _ => S_
    simp only [Stm.D] at S_
    walk_at "dl"
    rw [hL]
    refine x_lrK (by assumption) (by omega) (by omega) fun a_ H_ S_ => ?_
    rw [Int.toNat_natCast] at S_
    walk_at "dl"
    rename Ds _ _ _ _ _ _ _ _ _ => S_
    obtain ⟨M_, S_⟩ := S_.frz2 (i := 4) rfl List.not_mem_nil
    simp only [List.set_cons_succ, List.set_cons_zero] at S_
    walk_at "dl"
    refine x_cO (by assumption) (by walk_at "slt") ⟨th, lk, os, A, B, C, E, c, rfl, rfl, hs, hi.2, hth, rfl⟩ ?_
    rintro _ rfl a H_ M_ S_
    walk_at "dl"
    refine x_lixS ?_
    walk_at "dl"
    refine x_lixSK (s := o) (ns := C) (by assumption) (by walk_at "tm") (hos o hi.1).1 ?_
    walk_at "dl"
    refine x_ixT (by assumption) (by walk_at "tm") (ones_at (hmm o hi.1)) ?_
    walk_at "dl"
    have ho := hob _ (ones_in (hmm o hi.1))
    refine x_ixO 0 (by assumption) rfl (col_at ho.1 ho.2) ?_
    walk_at "dl"
    exact x_rD (by assumption) hq (by walk_at "tm") (by
      show PyData.bool _ = .bool ((if sat th lk (c.core A B) (oneAt os (ixI C o)) = true then none else some [oneAt os (ixI C o)] : Option (List Int)).isNone && true)
      cases sat th lk (c.core A B) (oneAt os (ixI C o)) <;> rfl)
  | has o ro o2 =>
    rename Ds _ _ _ _ _ _ _ _ _ => S_
    simp only [Stm.D] at S_
    walk_at "dl"
    rw [hL]
    refine x_lrK (by assumption) (by omega) (by omega) fun a_ H_ S_ => ?_
    rw [Int.toNat_natCast] at S_
    walk_at "dl"
    rename Ds _ _ _ _ _ _ _ _ _ => S_
    obtain ⟨M_, S_⟩ := S_.frz2 (i := 4) rfl List.not_mem_nil
    simp only [List.set_cons_succ, List.set_cons_zero] at S_
    walk_at "dl"
    refine x_lixS ?_
    walk_at "dl"
    refine x_lixSK (s := o) (ns := C) (by assumption) (by walk_at "tm") (hos o hi.1).1 ?_
    walk_at "dl"
    refine x_ixT (by assumption) (by walk_at "tm") (ones_at (hmm o hi.1)) ?_
    walk_at "dl"
    refine x_lixS ?_
    walk_at "dl"
    refine x_lixSK (s := o2) (ns := C) (by assumption) (by walk_at "tm") (hos o2 hi.2.2).1 ?_
    walk_at "dl"
    refine x_ixT (by assumption) (by walk_at "tm") (ones_at (hmm o2 hi.2.2)) ?_
    walk_at "dl"
    refine x_cD (by assumption) (by walk_at "slt") ⟨th, lk, os, A, B, C, E, (ro, false), _, _, rfl, rfl, hi.2.1, rfl⟩ ?_
    rintro _ rfl H_ M_ S_
    walk_at "dl"
    exact x_rD (by assumption) hq (by walk_at "tm") (by
      show PyData.bool _ = .bool ((if lnk lk (ixI B ro) false (oneAt os (ixI C o)) (oneAt os (ixI C o2)) = true then none else some [oneAt os (ixI C o), oneAt os (ixI C o2)] : Option (List Int)).isNone && true)
      show PyData.bool (lnk lk (ixI B ro) false (oneAt os (ixI C o)) (oneAt os (ixI C o2))) = _
      cases lnk lk (ixI B ro) false (oneAt os (ixI C o)) (oneAt os (ixI C o2)) <;> rfl)
  | never =>
    rename Ds _ _ _ _ _ _ _ _ _ => S_
    simp only [Stm.D] at S_
    walk_at "dl"
    rw [hL]
    refine x_lrK (by assumption) (by omega) (by omega) fun a_ H_ S_ => ?_
    rw [Int.toNat_natCast] at S_
    walk_at "dl"
    rename Ds _ _ _ _ _ _ _ _ _ => S_
    obtain ⟨M_, S_⟩ := S_.frz2 (i := 4) rfl List.not_mem_nil
    simp only [List.set_cons_succ, List.set_cons_zero] at S_
    walk_at "dl"
    exact x_rD (by assumption) hq (by walk_at "tm") rfl
  | domain ro c =>
    rename Ds _ _ _ _ _ _ _ _ _ => S_
    simp only [Stm.D] at S_
    walk_at "dl"
    rw [hL]
    refine x_lrK (by assumption) (by omega) (by omega) fun a_ H_ S_ => ?_
    rw [Int.toNat_natCast] at S_
    walk_at "dl"
    rename Ds _ _ _ _ _ _ _ _ _ => S_
    obtain ⟨M_, S_⟩ := S_.frz2 (i := 4) rfl List.not_mem_nil
    simp only [List.set_cons_succ, List.set_cons_zero] at S_
    walk_at "dl"
    refine x_cO (by assumption) (by walk_at "slt") ⟨th, lk, os, A, B, C, E, c, rfl, rfl, hs, hi.2, hth, rfl⟩ ?_
    rintro _ rfl a H_ M_ S_
    walk_at "dl"
    rename Ds _ _ _ _ _ _ _ _ _ => S_
    obtain ⟨M_, S_⟩ := S_.frz2 (i := 8) rfl List.not_mem_nil
    simp only [List.set_cons_succ, List.set_cons_zero] at S_
    rename Ds _ _ _ _ _ _ _ _ _ => S_
    simp only [rolD] at S_
    walk_at "dl"
    have key : trueOf th lk os A B C (.domain ro c) = (rng th.length).all fun i => !((rng th.length).any (fun j => lnk lk (ixI B ro.1) (ro.2) i j)) || sat th lk (c.core A B) i := by
      show ((faultOf th lk os (.below (.some (ixI B ro.1) (ro.2) .any) (c.core A B))).isNone && true) = _
      rw [bel_none, Bool.and_true, List.all_filter]
      congr 1
      funext i
      show (!(rng th.length).any (fun j => lnk lk (ixI B ro.1) (ro.2) i j && true) || _) = _
      simp only [Bool.and_true]
    refine x_forL (fun i ρ u => ρ = [.d (modD th lk os), .d (namL A B C E), .d (.tuple [.str (Str.ofString "domain"), .tuple [.str (T ro.1), .bool ro.2], c.D]), .d (.str (Str.ofString "domain")), .d (.list ((rng th.length).map .int)), .u, .u, .u, .d (.list (colD th lk (c.core A B))), .d (rolD ro), .u, .u, .u] ∧ u = [] ∧ ∀ k : Int, 0 ≤ k → k < i → (!((rng th.length).any (fun j => lnk lk (ixI B ro.1) (ro.2) k j)) || sat th lk (c.core A B) k) = true) (by assumption) (by walk_at "tm") ⟨rfl, rfl, fun k h0 h1 => absurd h1 (by omega)⟩ ?_ ?_
    · rintro i x ρ1 u1 hi' ⟨rfl, rfl, hk⟩ v σ1 H1 M1 S1
      obtain ⟨y, hy, rfl⟩ := map_at hi'
      obtain ⟨hil, rfl⟩ := rng_at' hy
      have hnx : (!((rng th.length).any (fun j => lnk lk (ixI B ro.1) (ro.2) i j)) || sat th lk (c.core A B) i) = true → ∀ k : Int, 0 ≤ k → k < ((i + 1 : Nat) : Int) → (!((rng th.length).any (fun j => lnk lk (ixI B ro.1) (ro.2) k j)) || sat th lk (c.core A B) k) = true := fun h k h0 h1 => by
        by_cases e : k = i
        · subst e
          exact h
        · exact hk k h0 (by omega)
      walk_at "dl"
      refine x_lc1L (k := 10) (fun j acc w1 => acc = ((rng j).map fun j => lnk lk (ixI B ro.1) (ro.2) i j).map .bool ∧ w1 = []) (by assumption) (by walk_at "tm") ⟨rfl, rfl⟩ ?_ ?_
      · rintro j x acc w1 hj' ⟨rfl, rfl⟩ D4 σ4 H4 M4 hrw S4
        obtain ⟨y, hy, rfl⟩ := map_at hj'
        obtain ⟨hjl, rfl⟩ := rng_at' hy
        rename Ds _ _ _ _ _ _ _ _ _ => S_
        simp only [List.set_cons_succ, List.set_cons_zero] at S_
        walk_at "dl"
        refine x_cD (by assumption) (by walk_at "slt") ⟨th, lk, os, A, B, C, E, ro, i, j, rfl, rfl, hi.1, rfl⟩ ?_
        rintro _ rfl H_ M_ S_
        walk_at "dl"
        exact x_lcA (by assumption) (by assumption) (by walk_at "tm") (hzb _ j (by omega) (by rw [List.length_map, rng_len]; exact Nat.le_refl _)) ⟨by rw [rng_map_succ, List.map_append]; rfl, rfl⟩
      rintro acc w1 ⟨rfl, rfl⟩ D4 H4 M4 S4
      rw [show ((rng th.length).map PyData.int).length = th.length by rw [List.length_map, rng_len]] at S4
      walk_at "dl"
      refine x_anyO 0 (by assumption) rfl ?_
      rw [show ((rng th.length).map fun j => lnk lk (ixI B ro.1) (ro.2) i j).any id = (rng th.length).any (fun j => lnk lk (ixI B ro.1) (ro.2) i j) by rw [List.any_map]; rfl]
      walk_at "dl"
      refine x_if (fun h1 => ?_) (fun h1 => ?_)
      · walk_at "dl"
        refine x_ixL (by assumption) (by walk_at "tm") (col_at (by omega : 0 ≤ (i : Int)) (by omega)) ?_
        walk_at "dl"
        refine x_if (fun h2 => ?_) (fun h2 => ?_)
        · have h2 : sat th lk (c.core A B) i = false := by rw [← Bool.not_eq_true']; exact h2
          walk_at "dl"
          exact x_rD (by assumption) hq (by walk_at "tm") (by
            rw [key]
            congr 1
            refine (List.all_eq_false.mpr ⟨(i : Int), rng_mem.mpr ⟨by omega, by omega⟩, ?_⟩).symm
            rw [h1, h2]
            decide)
        · have h2 : sat th lk (c.core A B) i = true := by rw [← Bool.not_eq_false']; exact h2
          walk_at "dl"
          rename Ds _ _ _ _ _ _ _ _ _ => S_
          have S_ := S_.drop
          exact Nx.at S_ (by walk_at "le") ⟨rfl, rfl, hnx (by rw [h2, Bool.or_true])⟩
      · walk_at "dl"
        rename Ds _ _ _ _ _ _ _ _ _ => S_
        have S_ := S_.drop
        exact Nx.at S_ (by walk_at "le") ⟨rfl, rfl, hnx (by rw [h1]; rfl)⟩
    · rintro ρ1 u1 ⟨rfl, rfl, hk⟩ σ1 H1 M1 S1
      rw [List.length_map, rng_len] at hk
      walk_at "dl"
      exact x_rD (by assumption) hq (by walk_at "tm") (by
        rw [key]
        congr 1
        exact (List.all_eq_true.mpr fun i hi => hk i (rng_mem.mp hi).1 (rng_mem.mp hi).2).symm)
  | range ro c =>
    rename Ds _ _ _ _ _ _ _ _ _ => S_
    simp only [Stm.D] at S_
    walk_at "dl"
    rw [hL]
    refine x_lrK (by assumption) (by omega) (by omega) fun a_ H_ S_ => ?_
    rw [Int.toNat_natCast] at S_
    walk_at "dl"
    rename Ds _ _ _ _ _ _ _ _ _ => S_
    obtain ⟨M_, S_⟩ := S_.frz2 (i := 4) rfl List.not_mem_nil
    simp only [List.set_cons_succ, List.set_cons_zero] at S_
    walk_at "dl"
    refine x_cO (by assumption) (by walk_at "slt") ⟨th, lk, os, A, B, C, E, c, rfl, rfl, hs, hi.2, hth, rfl⟩ ?_
    rintro _ rfl a H_ M_ S_
    walk_at "dl"
    rename Ds _ _ _ _ _ _ _ _ _ => S_
    obtain ⟨M_, S_⟩ := S_.frz2 (i := 8) rfl List.not_mem_nil
    simp only [List.set_cons_succ, List.set_cons_zero] at S_
    rename Ds _ _ _ _ _ _ _ _ _ => S_
    simp only [rolD] at S_
    walk_at "dl"
    have key : trueOf th lk os A B C (.range ro c) = (rng th.length).all fun i => !((rng th.length).any (fun j => lnk lk (ixI B ro.1) (!ro.2) i j)) || sat th lk (c.core A B) i := by
      show ((faultOf th lk os (.below (.some (ixI B ro.1) (!ro.2) .any) (c.core A B))).isNone && true) = _
      rw [bel_none, Bool.and_true, List.all_filter]
      congr 1
      funext i
      show (!(rng th.length).any (fun j => lnk lk (ixI B ro.1) (!ro.2) i j && true) || _) = _
      simp only [Bool.and_true]
    refine x_forL (fun i ρ u => ρ = [.d (modD th lk os), .d (namL A B C E), .d (.tuple [.str (Str.ofString "range"), .tuple [.str (T ro.1), .bool ro.2], c.D]), .d (.str (Str.ofString "range")), .d (.list ((rng th.length).map .int)), .u, .u, .u, .d (.list (colD th lk (c.core A B))), .d (rolD (ro.1, !ro.2)), .u, .u, .u] ∧ u = [] ∧ ∀ k : Int, 0 ≤ k → k < i → (!((rng th.length).any (fun j => lnk lk (ixI B ro.1) (!ro.2) k j)) || sat th lk (c.core A B) k) = true) (by assumption) (by walk_at "tm") ⟨rfl, rfl, fun k h0 h1 => absurd h1 (by omega)⟩ ?_ ?_
    · rintro i x ρ1 u1 hi' ⟨rfl, rfl, hk⟩ v σ1 H1 M1 S1
      obtain ⟨y, hy, rfl⟩ := map_at hi'
      obtain ⟨hil, rfl⟩ := rng_at' hy
      have hnx : (!((rng th.length).any (fun j => lnk lk (ixI B ro.1) (!ro.2) i j)) || sat th lk (c.core A B) i) = true → ∀ k : Int, 0 ≤ k → k < ((i + 1 : Nat) : Int) → (!((rng th.length).any (fun j => lnk lk (ixI B ro.1) (!ro.2) k j)) || sat th lk (c.core A B) k) = true := fun h k h0 h1 => by
        by_cases e : k = i
        · subst e
          exact h
        · exact hk k h0 (by omega)
      walk_at "dl"
      refine x_lc1L (k := 10) (fun j acc w1 => acc = ((rng j).map fun j => lnk lk (ixI B ro.1) (!ro.2) i j).map .bool ∧ w1 = []) (by assumption) (by walk_at "tm") ⟨rfl, rfl⟩ ?_ ?_
      · rintro j x acc w1 hj' ⟨rfl, rfl⟩ D4 σ4 H4 M4 hrw S4
        obtain ⟨y, hy, rfl⟩ := map_at hj'
        obtain ⟨hjl, rfl⟩ := rng_at' hy
        rename Ds _ _ _ _ _ _ _ _ _ => S_
        simp only [List.set_cons_succ, List.set_cons_zero] at S_
        walk_at "dl"
        refine x_cD (by assumption) (by walk_at "slt") ⟨th, lk, os, A, B, C, E, (ro.1, !ro.2), i, j, rfl, rfl, hi.1, rfl⟩ ?_
        rintro _ rfl H_ M_ S_
        walk_at "dl"
        exact x_lcA (by assumption) (by assumption) (by walk_at "tm") (hzb _ j (by omega) (by rw [List.length_map, rng_len]; exact Nat.le_refl _)) ⟨by rw [rng_map_succ, List.map_append]; rfl, rfl⟩
      rintro acc w1 ⟨rfl, rfl⟩ D4 H4 M4 S4
      rw [show ((rng th.length).map PyData.int).length = th.length by rw [List.length_map, rng_len]] at S4
      walk_at "dl"
      refine x_anyO 0 (by assumption) rfl ?_
      rw [show ((rng th.length).map fun j => lnk lk (ixI B ro.1) (!ro.2) i j).any id = (rng th.length).any (fun j => lnk lk (ixI B ro.1) (!ro.2) i j) by rw [List.any_map]; rfl]
      walk_at "dl"
      refine x_if (fun h1 => ?_) (fun h1 => ?_)
      · walk_at "dl"
        refine x_ixL (by assumption) (by walk_at "tm") (col_at (by omega : 0 ≤ (i : Int)) (by omega)) ?_
        walk_at "dl"
        refine x_if (fun h2 => ?_) (fun h2 => ?_)
        · have h2 : sat th lk (c.core A B) i = false := by rw [← Bool.not_eq_true']; exact h2
          walk_at "dl"
          exact x_rD (by assumption) hq (by walk_at "tm") (by
            rw [key]
            congr 1
            refine (List.all_eq_false.mpr ⟨(i : Int), rng_mem.mpr ⟨by omega, by omega⟩, ?_⟩).symm
            rw [h1, h2]
            decide)
        · have h2 : sat th lk (c.core A B) i = true := by rw [← Bool.not_eq_false']; exact h2
          walk_at "dl"
          rename Ds _ _ _ _ _ _ _ _ _ => S_
          have S_ := S_.drop
          exact Nx.at S_ (by walk_at "le") ⟨rfl, rfl, hnx (by rw [h2, Bool.or_true])⟩
      · walk_at "dl"
        rename Ds _ _ _ _ _ _ _ _ _ => S_
        have S_ := S_.drop
        exact Nx.at S_ (by walk_at "le") ⟨rfl, rfl, hnx (by rw [h1]; rfl)⟩
    · rintro ρ1 u1 ⟨rfl, rfl, hk⟩ σ1 H1 M1 S1
      rw [List.length_map, rng_len] at hk
      walk_at "dl"
      exact x_rD (by assumption) hq (by walk_at "tm") (by
        rw [key]
        congr 1
        exact (List.all_eq_true.mpr fun i hi => hk i (rng_mem.mp hi).1 (rng_mem.mp hi).2).symm)
  | under ro so =>
    rename Ds _ _ _ _ _ _ _ _ _ => S_
    simp only [Stm.D] at S_
    walk_at "dl"
    rw [hL]
    refine x_lrK (by assumption) (by omega) (by omega) fun a_ H_ S_ => ?_
    rw [Int.toNat_natCast] at S_
    walk_at "dl"
    rename Ds _ _ _ _ _ _ _ _ _ => S_
    obtain ⟨M_, S_⟩ := S_.frz2 (i := 4) rfl List.not_mem_nil
    simp only [List.set_cons_succ, List.set_cons_zero] at S_
    walk_at "dl"
    have key : trueOf th lk os A B C (.under ro so) = (rng th.length).all fun i => (rng th.length).all fun j => (!(lnk lk (ixI B ro.1) ro.2 i j && !lnk lk (ixI B so.1) so.2 i j)) := by
      show ((faultOf th lk os (.under (ixI B ro.1) ro.2 (ixI B so.1) so.2)).isNone && true) = _
      rw [und_none hok, Bool.and_true]
    refine x_forL (fun i ρ u => ρ = [.d (modD th lk os), .d (namL A B C E), .d (.tuple [.str (Str.ofString "under"), rolD ro, rolD so]), .d (.str (Str.ofString "under")), .d (.list ((rng th.length).map .int)), .u, .u, .u, .u, .u, .u, .d (rolD ro), .d (rolD so)] ∧ u = [] ∧ ∀ k : Int, 0 ≤ k → k < i → ((rng th.length).all fun j => (!(lnk lk (ixI B ro.1) ro.2 k j && !lnk lk (ixI B so.1) so.2 k j))) = true) (by assumption) (by walk_at "tm") ⟨rfl, rfl, fun k h0 h1 => absurd h1 (by omega)⟩ ?_ ?_
    · rintro i x_ ρ1 u1 hi' ⟨rfl, rfl, hk⟩ v σ1 H1 M1 S1
      obtain ⟨y_, hy, rfl⟩ := map_at hi'
      obtain ⟨hil, rfl⟩ := rng_at' hy
      walk_at "dl"
      refine x_forL (fun j ρ u => ρ = [.d (modD th lk os), .d (namL A B C E), .d (.tuple [.str (Str.ofString "under"), rolD ro, rolD so]), .d (.str (Str.ofString "under")), .d (.list ((rng th.length).map .int)), .u, .u, .d (.int i), .u, .u, .u, .d (rolD ro), .d (rolD so)] ∧ u = [] ∧ ∀ k : Int, 0 ≤ k → k < j → (!(lnk lk (ixI B ro.1) ro.2 i k && !lnk lk (ixI B so.1) so.2 i k)) = true) (by assumption) (by walk_at "tm") ⟨rfl, rfl, fun k h0 h1 => absurd h1 (by omega)⟩ ?_ ?_
      · rintro j x_ ρ1 u1 hj' ⟨rfl, rfl, hk2⟩ v σ1 H1 M1 S1
        obtain ⟨y_, hy, rfl⟩ := map_at hj'
        obtain ⟨hjl, rfl⟩ := rng_at' hy
        have hnx2 : (!(lnk lk (ixI B ro.1) ro.2 i j && !lnk lk (ixI B so.1) so.2 i j)) = true → ∀ k : Int, 0 ≤ k → k < ((j + 1 : Nat) : Int) → (!(lnk lk (ixI B ro.1) ro.2 i k && !lnk lk (ixI B so.1) so.2 i k)) = true := fun h k h0 h1 => by
          by_cases e : k = j
          · subst e
            exact h
          · exact hk2 k h0 (by omega)
        walk_at "dl"
        refine x_cD (by assumption) (by walk_at "slt") ⟨th, lk, os, A, B, C, E, ro, i, j, rfl, rfl, hi.1, rfl⟩ ?_
        rintro _ rfl H_ M_ S_
        walk_at "dl"
        refine x_cD (by assumption) (by walk_at "slt") ⟨th, lk, os, A, B, C, E, so, i, j, rfl, rfl, hi.2, rfl⟩ ?_
        rintro _ rfl H_ M_ S_
        walk_at "dl"
        cases hl : lnk lk (ixI B ro.1) ro.2 i j <;> cases hr : lnk lk (ixI B so.1) so.2 i j
        · rename Ds _ _ _ _ _ _ _ _ _ => S_
          rw [show lnk lk (ixI B (ro).1) (ro).2 i j = false from hl, show lnk lk (ixI B (so).1) (so).2 i j = false from hr] at S_
          walk_at "dl"
          exact Nx.at (by assumption) (by walk_at "le") ⟨rfl, rfl, hnx2 (by rw [hl, hr]; rfl)⟩
        · rename Ds _ _ _ _ _ _ _ _ _ => S_
          rw [show lnk lk (ixI B (ro).1) (ro).2 i j = false from hl, show lnk lk (ixI B (so).1) (so).2 i j = true from hr] at S_
          walk_at "dl"
          exact Nx.at (by assumption) (by walk_at "le") ⟨rfl, rfl, hnx2 (by rw [hl, hr]; rfl)⟩
        · rename Ds _ _ _ _ _ _ _ _ _ => S_
          rw [show lnk lk (ixI B (ro).1) (ro).2 i j = true from hl, show lnk lk (ixI B (so).1) (so).2 i j = false from hr] at S_
          walk_at "dl"
          exact x_rD (by assumption) hq (by walk_at "tm") (by
            rw [key]
            congr 1
            refine (List.all_eq_false.mpr ⟨(i : Int), rng_mem.mpr ⟨by omega, by omega⟩, fun z => ?_⟩).symm
            have := List.all_eq_true.mp z (j : Int) (rng_mem.mpr ⟨by omega, by omega⟩)
            rw [hl, hr] at this
            cases this)
        · rename Ds _ _ _ _ _ _ _ _ _ => S_
          rw [show lnk lk (ixI B (ro).1) (ro).2 i j = true from hl, show lnk lk (ixI B (so).1) (so).2 i j = true from hr] at S_
          walk_at "dl"
          exact Nx.at (by assumption) (by walk_at "le") ⟨rfl, rfl, hnx2 (by rw [hl, hr]; rfl)⟩
      · rintro ρ1 u1 ⟨rfl, rfl, hk2⟩ σ1 H1 M1 S1
        rw [List.length_map, rng_len] at hk2
        walk_at "dl"
        exact Nx.at (by assumption) (by walk_at "le") ⟨rfl, rfl, fun k h0 h1 => by
          by_cases e : k = i
          · subst e
            exact List.all_eq_true.mpr fun j hj => hk2 j (rng_mem.mp hj).1 (rng_mem.mp hj).2
          · exact hk k h0 (by omega)⟩
    · rintro ρ1 u1 ⟨rfl, rfl, hk⟩ σ1 H1 M1 S1
      rw [List.length_map, rng_len] at hk
      walk_at "dl"
      exact x_rD (by assumption) hq (by walk_at "tm") (by
        rw [key]
        congr 1
        exact (List.all_eq_true.mpr fun i hi => hk i (rng_mem.mp hi).1 (rng_mem.mp hi).2).symm)
  | inverse x y =>
    rename Ds _ _ _ _ _ _ _ _ _ => S_
    simp only [Stm.D] at S_
    walk_at "dl"
    rw [hL]
    refine x_lrK (by assumption) (by omega) (by omega) fun a_ H_ S_ => ?_
    rw [Int.toNat_natCast] at S_
    walk_at "dl"
    rename Ds _ _ _ _ _ _ _ _ _ => S_
    obtain ⟨M_, S_⟩ := S_.frz2 (i := 4) rfl List.not_mem_nil
    simp only [List.set_cons_succ, List.set_cons_zero] at S_
    walk_at "dl"
    have key : trueOf th lk os A B C (.inverse x y) = (rng th.length).all fun i => (rng th.length).all fun j => (!(lnk lk (ixI B x) false i j && !lnk lk (ixI B y) true i j) && !(lnk lk (ixI B y) true i j && !lnk lk (ixI B x) false i j)) := by
      show ((faultOf th lk os (.under (ixI B x) false (ixI B y) true)).isNone && ((faultOf th lk os (.under (ixI B y) true (ixI B x) false)).isNone && true)) = _
      rw [und_none hok, und_none hok, Bool.and_true, Bool.eq_iff_iff, Bool.and_eq_true]
      simp only [List.all_eq_true, Bool.and_eq_true]
      exact ⟨fun h i hi j hj => ⟨h.1 i hi j hj, h.2 i hi j hj⟩, fun h => ⟨fun i hi j hj => (h i hi j hj).1, fun i hi j hj => (h i hi j hj).2⟩⟩
    refine x_forL (fun i ρ u => ρ = [.d (modD th lk os), .d (namL A B C E), .d (.tuple [.str (Str.ofString "inverse"), .str (T x), .str (T y)]), .d (.str (Str.ofString "inverse")), .d (.list ((rng th.length).map .int)), .u, .u, .u, .u, .u, .u, .d (rolD (x, false)), .d (rolD (y, true))] ∧ u = [] ∧ ∀ k : Int, 0 ≤ k → k < i → ((rng th.length).all fun j => (!(lnk lk (ixI B x) false k j && !lnk lk (ixI B y) true k j) && !(lnk lk (ixI B y) true k j && !lnk lk (ixI B x) false k j))) = true) (by assumption) (by walk_at "tm") ⟨rfl, rfl, fun k h0 h1 => absurd h1 (by omega)⟩ ?_ ?_
    · rintro i x_ ρ1 u1 hi' ⟨rfl, rfl, hk⟩ v σ1 H1 M1 S1
      obtain ⟨y_, hy, rfl⟩ := map_at hi'
      obtain ⟨hil, rfl⟩ := rng_at' hy
      walk_at "dl"
      refine x_forL (fun j ρ u => ρ = [.d (modD th lk os), .d (namL A B C E), .d (.tuple [.str (Str.ofString "inverse"), .str (T x), .str (T y)]), .d (.str (Str.ofString "inverse")), .d (.list ((rng th.length).map .int)), .u, .u, .d (.int i), .u, .u, .u, .d (rolD (x, false)), .d (rolD (y, true))] ∧ u = [] ∧ ∀ k : Int, 0 ≤ k → k < j → (!(lnk lk (ixI B x) false i k && !lnk lk (ixI B y) true i k) && !(lnk lk (ixI B y) true i k && !lnk lk (ixI B x) false i k)) = true) (by assumption) (by walk_at "tm") ⟨rfl, rfl, fun k h0 h1 => absurd h1 (by omega)⟩ ?_ ?_
      · rintro j x_ ρ1 u1 hj' ⟨rfl, rfl, hk2⟩ v σ1 H1 M1 S1
        obtain ⟨y_, hy, rfl⟩ := map_at hj'
        obtain ⟨hjl, rfl⟩ := rng_at' hy
        have hnx2 : (!(lnk lk (ixI B x) false i j && !lnk lk (ixI B y) true i j) && !(lnk lk (ixI B y) true i j && !lnk lk (ixI B x) false i j)) = true → ∀ k : Int, 0 ≤ k → k < ((j + 1 : Nat) : Int) → (!(lnk lk (ixI B x) false i k && !lnk lk (ixI B y) true i k) && !(lnk lk (ixI B y) true i k && !lnk lk (ixI B x) false i k)) = true := fun h k h0 h1 => by
          by_cases e : k = j
          · subst e
            exact h
          · exact hk2 k h0 (by omega)
        walk_at "dl"
        refine x_cD (by assumption) (by walk_at "slt") ⟨th, lk, os, A, B, C, E, (x, false), i, j, rfl, rfl, hi.1, rfl⟩ ?_
        rintro _ rfl H_ M_ S_
        walk_at "dl"
        refine x_cD (by assumption) (by walk_at "slt") ⟨th, lk, os, A, B, C, E, (y, true), i, j, rfl, rfl, hi.2, rfl⟩ ?_
        rintro _ rfl H_ M_ S_
        walk_at "dl"
        cases hl : lnk lk (ixI B x) false i j <;> cases hr : lnk lk (ixI B y) true i j
        · rename Ds _ _ _ _ _ _ _ _ _ => S_
          rw [show lnk lk (ixI B ((x, false)).1) ((x, false)).2 i j = false from hl, show lnk lk (ixI B ((y, true)).1) ((y, true)).2 i j = false from hr] at S_
          walk_at "dl"
          exact Nx.at (by assumption) (by walk_at "le") ⟨rfl, rfl, hnx2 (by rw [hl, hr]; rfl)⟩
        · rename Ds _ _ _ _ _ _ _ _ _ => S_
          rw [show lnk lk (ixI B ((x, false)).1) ((x, false)).2 i j = false from hl, show lnk lk (ixI B ((y, true)).1) ((y, true)).2 i j = true from hr] at S_
          walk_at "dl"
          exact x_rD (by assumption) hq (by walk_at "tm") (by
            rw [key]
            congr 1
            refine (List.all_eq_false.mpr ⟨(i : Int), rng_mem.mpr ⟨by omega, by omega⟩, fun z => ?_⟩).symm
            have := List.all_eq_true.mp z (j : Int) (rng_mem.mpr ⟨by omega, by omega⟩)
            rw [hl, hr] at this
            cases this)
        · rename Ds _ _ _ _ _ _ _ _ _ => S_
          rw [show lnk lk (ixI B ((x, false)).1) ((x, false)).2 i j = true from hl, show lnk lk (ixI B ((y, true)).1) ((y, true)).2 i j = false from hr] at S_
          walk_at "dl"
          exact x_rD (by assumption) hq (by walk_at "tm") (by
            rw [key]
            congr 1
            refine (List.all_eq_false.mpr ⟨(i : Int), rng_mem.mpr ⟨by omega, by omega⟩, fun z => ?_⟩).symm
            have := List.all_eq_true.mp z (j : Int) (rng_mem.mpr ⟨by omega, by omega⟩)
            rw [hl, hr] at this
            cases this)
        · rename Ds _ _ _ _ _ _ _ _ _ => S_
          rw [show lnk lk (ixI B ((x, false)).1) ((x, false)).2 i j = true from hl, show lnk lk (ixI B ((y, true)).1) ((y, true)).2 i j = true from hr] at S_
          walk_at "dl"
          exact Nx.at (by assumption) (by walk_at "le") ⟨rfl, rfl, hnx2 (by rw [hl, hr]; rfl)⟩
      · rintro ρ1 u1 ⟨rfl, rfl, hk2⟩ σ1 H1 M1 S1
        rw [List.length_map, rng_len] at hk2
        walk_at "dl"
        exact Nx.at (by assumption) (by walk_at "le") ⟨rfl, rfl, fun k h0 h1 => by
          by_cases e : k = i
          · subst e
            exact List.all_eq_true.mpr fun j hj => hk2 j (rng_mem.mp hj).1 (rng_mem.mp hj).2
          · exact hk k h0 (by omega)⟩
    · rintro ρ1 u1 ⟨rfl, rfl, hk⟩ σ1 H1 M1 S1
      rw [List.length_map, rng_len] at hk
      walk_at "dl"
      exact x_rD (by assumption) hq (by walk_at "tm") (by
        rw [key]
        congr 1
        exact (List.all_eq_true.mpr fun i hi => hk i (rng_mem.mp hi).1 (rng_mem.mp hi).2).symm)
end
section
variable {P : Program} {w : World} {K : PySem.W.Frag} {mg : Str → Option Value} {base : Heap}
def pSameI : Pre := fun ss u post => ∃ i : Int, ss = [.d (.int i), .d (.int i)] ∧ u = [] ∧ post = pD fun d => d = .bool true
def pNone : Pre := fun _ _ _ => False
theorem c_same_none {f : Addr} {fd : FuncData} (D : Df K mg "_law_same" s_law_same f fd ["actual", "due"]) : Cl P w K mg base 1 "_law_same" (spG K pNone) := D.vain sc_law_same _ fun ss u post h => h
theorem c_same_int {f : Addr} {fd : FuncData} (D : Df K mg "_law_same" s_law_same f fd ["actual", "due"]) (c_law_same : Cl P w K mg base 1 "_law_same" (spG K pNone)) (z_len : mg "len" = none) (z_range : mg "range" = none) (z_all : mg "all" = none) (z_isinstance : mg "isinstance" = none) (z_tuple : mg "tuple" = none) (z_int : mg "int" = none) (z_bool : mg "bool" = none) (z_str : mg "str" = none) : Cl P w K mg base 2 "_law_same" (spG K pSameI) := by
  refine D.go sc_law_same (pSameI) (fun ss u post h => by repeat (first | (obtain ⟨rfl, _⟩ := h; rfl) | obtain ⟨_, h⟩ := h)) fun cdv A outer s H M vs Q E ss u post hr hp S hq => ?_
  obtain ⟨i, rfl, rfl, rfl⟩ := hp
  refine ⟨_, (pss_cons (ps_if (pt_val (pe_callB (kIsi (K := K)) (by rfl) z_isinstance (by decide +kernel) (pa_cons (pv 1) (pa_cons (pe_bltn (v := .ty "tuple") (u := .type "tuple") (by rfl) z_tuple (by decide +kernel) rfl) pa_nil)))) (pss_cons (ps_if (PW.pt (pw_or (pt_not (pt_val (pe_callB (kIsi (K := K)) (by rfl) z_isinstance (by decide +kernel) (pa_cons (pv 0) (pa_cons (pe_bltn (v := .ty "tuple") (u := .type "tuple") (by rfl) z_tuple (by decide +kernel) rfl) pa_nil))))) (pw_or1 (pt_cmpR op_ne (pe_callB (lenQ (K := K)) (by rfl) z_len PySem.boot_len (pa_cons (pv 0) pa_nil)) (pe_callB (lenQ (K := K)) (by rfl) z_len PySem.boot_len (pa_cons (pv 1) pa_nil)) (nomark _))))) (pss_one (ps_ret pe_bl)) pss_nil)
      (pss_one (ps_ret (pe_callB (kAll (K := K) rfl) (by rfl) z_all (by decide +kernel) (pa_cons (pe_lc (own := [("k", 2)]) (g := gName 2) (tt := tYes) (by rfl) sc_law_same.nd (pi_range1 (by rfl) z_range (pa_cons (pe_callB (lenQ (K := K)) (by rfl) z_len PySem.boot_len (pa_cons (pv 1) pa_nil)) pa_nil)) (blkOk_by (own := [("k", 2)]) (N := ["actual", "due", "k"]) (sc := defScope s_law_same) (by decide +kernel)) (fun _ _ _ _ _ => pg_name (i := 2) sc_law_same.nd rfl (.inl rfl)) (fun _ _ _ _ _ => pts_nil) (fun _ _ _ _ _ => (pc c_law_same hr (by first | decide | omega) (by rfl) (pa_cons (pe_ix (ixT (K := K)) (pv 0) (pv 2) (fun _ _ => rfl)) (pa_cons (pe_ix (ixT (K := K)) (pv 1) (pv 2) (fun _ _ => rfl)) pa_nil))))) pa_nil))))) pss_nil)
      (pss_cons (ps_if (pt_val (pe_callB (kIsi (K := K)) (by rfl) z_isinstance (by decide +kernel) (pa_cons (pv 1) (pa_cons (pe_bltn (v := .ty "bool") (u := .type "bool") (by rfl) z_bool (by decide +kernel) rfl) pa_nil)))) (pss_one (ps_ret (pe_and (pe_callB (kIsi (K := K)) (by rfl) z_isinstance (by decide +kernel) (pa_cons (pv 0) (pa_cons (pe_bltn (v := .ty "bool") (u := .type "bool") (by rfl) z_bool (by decide +kernel) rfl) pa_nil))) (pe_one (pe_cmpR op_eq (pv 0) (pv 1) (nomark _)))))) pss_nil)
      (pss_cons (ps_if (pt_val (pe_callB (kIsi (K := K)) (by rfl) z_isinstance (by decide +kernel) (pa_cons (pv 1) (pa_cons (pe_bltn (v := .ty "int") (u := .type "int") (by rfl) z_int (by decide +kernel) rfl) pa_nil)))) (pss_one (ps_ret (pe_and (pe_callB (kIsi (K := K)) (by rfl) z_isinstance (by decide +kernel) (pa_cons (pv 0) (pa_cons (pe_bltn (v := .ty "int") (u := .type "int") (by rfl) z_int (by decide +kernel) rfl) pa_nil))) (pe_and (pe_not (pe_callB (kIsi (K := K)) (by rfl) z_isinstance (by decide +kernel) (pa_cons (pv 0) (pa_cons (pe_bltn (v := .ty "bool") (u := .type "bool") (by rfl) z_bool (by decide +kernel) rfl) pa_nil)))) (pe_one (pe_cmpR op_eq (pv 0) (pv 1) (nomark _))))))) pss_nil)
      (pss_cons (ps_if (pt_val (pe_callB (kIsi (K := K)) (by rfl) z_isinstance (by decide +kernel) (pa_cons (pv 1) (pa_cons (pe_bltn (v := .ty "str") (u := .type "str") (by rfl) z_str (by decide +kernel) rfl) pa_nil)))) (pss_one (ps_ret (pe_and (pe_callB (kIsi (K := K)) (by rfl) z_isinstance (by decide +kernel) (pa_cons (pv 0) (pa_cons (pe_bltn (v := .ty "str") (u := .type "str") (by rfl) z_str (by decide +kernel) rfl) pa_nil))) (pe_one (pe_cmpR op_eq (pv 0) (pv 1) (nomark _)))))) pss_nil)
      (pss_one (ps_ret (pe_cmpR op_isNo (pv 0) pe_non (nomark _)))))))), ?_⟩
  walk_at "in"
  walk_at "dl"
  exact x_rD (by assumption) hq (by walk_at "tm") (congrArg PyData.bool (decide_eq_true rfl))
def pSameT : Pre := fun ss u post => ∃ is : List Int, ss = [.d (.tuple (is.map .int)), .d (.tuple (is.map .int))] ∧ u = [] ∧ is.length ≤ 1000 ∧ post = pD fun d => d = .bool true
theorem c_same_ints {f : Addr} {fd : FuncData} (D : Df K mg "_law_same" s_law_same f fd ["actual", "due"]) (c_law_same : Cl P w K mg base 2 "_law_same" (spG K pSameI)) (z_len : mg "len" = none) (z_range : mg "range" = none) (z_all : mg "all" = none) (z_isinstance : mg "isinstance" = none) (z_tuple : mg "tuple" = none) (z_int : mg "int" = none) (z_bool : mg "bool" = none) (z_str : mg "str" = none) : Cl P w K mg base 3 "_law_same" (spG K pSameT) := by
  refine D.go sc_law_same (pSameT) (fun ss u post h => by repeat (first | (obtain ⟨rfl, _⟩ := h; rfl) | obtain ⟨_, h⟩ := h)) fun cdv A outer s H M vs Q E ss u post hr hp S hq => ?_
  obtain ⟨is, rfl, rfl, hl, rfl⟩ := hp
  refine ⟨_, (pss_cons (ps_if (pt_val (pe_callB (kIsi (K := K)) (by rfl) z_isinstance (by decide +kernel) (pa_cons (pv 1) (pa_cons (pe_bltn (v := .ty "tuple") (u := .type "tuple") (by rfl) z_tuple (by decide +kernel) rfl) pa_nil)))) (pss_cons (ps_if (PW.pt (pw_or (pt_not (pt_val (pe_callB (kIsi (K := K)) (by rfl) z_isinstance (by decide +kernel) (pa_cons (pv 0) (pa_cons (pe_bltn (v := .ty "tuple") (u := .type "tuple") (by rfl) z_tuple (by decide +kernel) rfl) pa_nil))))) (pw_or1 (pt_cmpR op_ne (pe_callB (lenQ (K := K)) (by rfl) z_len PySem.boot_len (pa_cons (pv 0) pa_nil)) (pe_callB (lenQ (K := K)) (by rfl) z_len PySem.boot_len (pa_cons (pv 1) pa_nil)) (nomark _))))) (pss_one (ps_ret pe_bl)) pss_nil)
      (pss_one (ps_ret (pe_callB (kAll (K := K) rfl) (by rfl) z_all (by decide +kernel) (pa_cons (pe_lc (own := [("k", 2)]) (g := gName 2) (tt := tYes) (by rfl) sc_law_same.nd (pi_range1 (by rfl) z_range (pa_cons (pe_callB (lenQ (K := K)) (by rfl) z_len PySem.boot_len (pa_cons (pv 1) pa_nil)) pa_nil)) (blkOk_by (own := [("k", 2)]) (N := ["actual", "due", "k"]) (sc := defScope s_law_same) (by decide +kernel)) (fun _ _ _ _ _ => pg_name (i := 2) sc_law_same.nd rfl (.inl rfl)) (fun _ _ _ _ _ => pts_nil) (fun _ _ _ _ _ => (pc c_law_same hr (by first | decide | omega) (by rfl) (pa_cons (pe_ix (ixT (K := K)) (pv 0) (pv 2) (fun _ _ => rfl)) (pa_cons (pe_ix (ixT (K := K)) (pv 1) (pv 2) (fun _ _ => rfl)) pa_nil))))) pa_nil))))) pss_nil)
      (pss_cons (ps_if (pt_val (pe_callB (kIsi (K := K)) (by rfl) z_isinstance (by decide +kernel) (pa_cons (pv 1) (pa_cons (pe_bltn (v := .ty "bool") (u := .type "bool") (by rfl) z_bool (by decide +kernel) rfl) pa_nil)))) (pss_one (ps_ret (pe_and (pe_callB (kIsi (K := K)) (by rfl) z_isinstance (by decide +kernel) (pa_cons (pv 0) (pa_cons (pe_bltn (v := .ty "bool") (u := .type "bool") (by rfl) z_bool (by decide +kernel) rfl) pa_nil))) (pe_one (pe_cmpR op_eq (pv 0) (pv 1) (nomark _)))))) pss_nil)
      (pss_cons (ps_if (pt_val (pe_callB (kIsi (K := K)) (by rfl) z_isinstance (by decide +kernel) (pa_cons (pv 1) (pa_cons (pe_bltn (v := .ty "int") (u := .type "int") (by rfl) z_int (by decide +kernel) rfl) pa_nil)))) (pss_one (ps_ret (pe_and (pe_callB (kIsi (K := K)) (by rfl) z_isinstance (by decide +kernel) (pa_cons (pv 0) (pa_cons (pe_bltn (v := .ty "int") (u := .type "int") (by rfl) z_int (by decide +kernel) rfl) pa_nil))) (pe_and (pe_not (pe_callB (kIsi (K := K)) (by rfl) z_isinstance (by decide +kernel) (pa_cons (pv 0) (pa_cons (pe_bltn (v := .ty "bool") (u := .type "bool") (by rfl) z_bool (by decide +kernel) rfl) pa_nil)))) (pe_one (pe_cmpR op_eq (pv 0) (pv 1) (nomark _))))))) pss_nil)
      (pss_cons (ps_if (pt_val (pe_callB (kIsi (K := K)) (by rfl) z_isinstance (by decide +kernel) (pa_cons (pv 1) (pa_cons (pe_bltn (v := .ty "str") (u := .type "str") (by rfl) z_str (by decide +kernel) rfl) pa_nil)))) (pss_one (ps_ret (pe_and (pe_callB (kIsi (K := K)) (by rfl) z_isinstance (by decide +kernel) (pa_cons (pv 0) (pa_cons (pe_bltn (v := .ty "str") (u := .type "str") (by rfl) z_str (by decide +kernel) rfl) pa_nil))) (pe_one (pe_cmpR op_eq (pv 0) (pv 1) (nomark _)))))) pss_nil)
      (pss_one (ps_ret (pe_cmpR op_isNo (pv 0) pe_non (nomark _)))))))), ?_⟩
  walk_at "in"
  walk_at "dl"
  refine x_ifF (by rw [decide_eq_true rfl]; rfl) ?_
  walk_at "dl"
  refine x_lc1R (k := 2) (fun i acc w1 => acc = (List.replicate i true).map .bool ∧ w1 = []) (by assumption) (by omega) (by rw [List.length_map]; omega) ⟨rfl, rfl⟩ ?_ ?_
  · rintro i acc w1 hi ⟨rfl, rfl⟩ D4 σ4 H4 M4 hrw S4
    rw [List.length_map, Int.toNat_natCast] at hi
    have hat := at_nat (f := PyData.int) (List.getElem?_eq_getElem hi)
    rename Ds _ _ _ _ _ _ _ _ _ => S_
    simp only [List.set_cons_succ, List.set_cons_zero] at S_
    walk_at "dl"
    refine x_ixT (by assumption) (by walk_at "tm") hat ?_
    walk_at "dl"
    refine x_ixT (by assumption) (by walk_at "tm") hat ?_
    walk_at "dl"
    refine x_cD (by assumption) (by walk_at "slt") ⟨_, rfl, rfl, rfl⟩ ?_
    rintro _ rfl H_ M_ S_
    walk_at "dl"
    exact x_lcA (by assumption) (by assumption) (by walk_at "tm") (by rw [List.length_map, List.length_replicate]; exact Nat.lt_of_lt_of_le (by omega : _ < 10000) (by decide)) ⟨by rw [List.replicate_succ', List.map_append]; rfl, rfl⟩
  · rintro acc w1 ⟨rfl, rfl⟩ D4 H4 M4 S4
    walk_at "dl"
    refine x_allO 0 (by assumption) rfl ?_
    exact x_rD (by assumption) hq (by walk_at "tm") (by simp)
end
theorem Con.In.mono {A B A' B' : List (List Nat)} (hA : ∀ s ∈ A, s ∈ A') (hB : ∀ s ∈ B, s ∈ B') : ∀ {c : Con}, c.In A B → c.In A' B'
  | .any, _ => trivial
  | .nothing, _ => trivial
  | .name _, h => hA _ h
  | .not c, h => Con.In.mono (c := c) hA hB h
  | .both _ _, h => ⟨Con.In.mono hA hB h.1, Con.In.mono hA hB h.2⟩
  | .either _ _, h => ⟨Con.In.mono hA hB h.1, Con.In.mono hA hB h.2⟩
  | .some _ _, h => ⟨hB _ h.1, Con.In.mono hA hB h.2⟩
  | .all _ _, h => ⟨hB _ h.1, Con.In.mono hA hB h.2⟩
theorem idx_take {A : List (List Nat)} {k : Nat} {s : List Nat} (h : s ∈ A.take k) : (A.take k).idxOf s = A.idxOf s := by
  conv => rhs; rw [← List.take_append_drop k A]
  rw [List.idxOf_append, if_pos h]
theorem ixI_take {A : List (List Nat)} {k : Nat} {s : List Nat} (h : s ∈ A.take k) : ixI (A.take k) s = ixI A s := congrArg (fun n : Nat => (n : Int)) (idx_take h)
theorem core_take {A B : List (List Nat)} {k m : Nat} : ∀ {c : Con}, c.In (A.take k) (B.take m) → c.core (A.take k) (B.take m) = c.core A B
  | .any, _ => rfl
  | .nothing, _ => rfl
  | .name s, h => congrArg Cp.name (ixI_take h)
  | .not c, h => congrArg Cp.not (core_take (c := c) h)
  | .both c d, h => by
    show Cp.both _ _ = Cp.both _ _
    rw [core_take h.1, core_take h.2]
  | .either c d, h => by
    show Cp.not (Cp.both (Cp.not _) (Cp.not _)) = Cp.not (Cp.both (Cp.not _) (Cp.not _))
    rw [core_take h.1, core_take h.2]
  | .some r c, h => by
    show Cp.some _ _ _ = Cp.some _ _ _
    rw [ixI_take h.1, core_take h.2]
  | .all r c, h => by
    show Cp.not (Cp.some _ _ (Cp.not _)) = Cp.not (Cp.some _ _ (Cp.not _))
    rw [ixI_take h.1, core_take h.2]
theorem pts_take {A B C : List (List Nat)} {k m n : Nat} {s : Stm} (h : s.In (A.take k) (B.take m) (C.take n)) : s.pts (A.take k) (B.take m) (C.take n) = s.pts A B C := by
  cases s with
  | below c d => show [Pt.below _ _] = [Pt.below _ _]; rw [core_take h.1, core_take h.2]
  | equals c d => show [Pt.below _ _, Pt.below _ _] = [Pt.below _ _, Pt.below _ _]; rw [core_take h.1, core_take h.2]
  | apart c d => show [Pt.below (Cp.both _ _) _] = [Pt.below (Cp.both _ _) _]; rw [core_take h.1, core_take h.2]
  | domain r c => show [Pt.below (Cp.some _ _ _) _] = [Pt.below (Cp.some _ _ _) _]; rw [ixI_take h.1, core_take h.2]
  | range r c => show [Pt.below (Cp.some _ _ _) _] = [Pt.below (Cp.some _ _ _) _]; rw [ixI_take h.1, core_take h.2]
  | under r s => show [Pt.under _ _ _ _] = [Pt.under _ _ _ _]; rw [ixI_take h.1, ixI_take h.2]
  | inverse a b => show [Pt.under _ _ _ _, Pt.under _ _ _ _] = [Pt.under _ _ _ _, Pt.under _ _ _ _]; rw [ixI_take h.1, ixI_take h.2]
  | is a c => show [Pt.is _ _] = [Pt.is _ _]; rw [ixI_take h.1, core_take h.2]
  | has a b c => show [Pt.has _ _ _] = [Pt.has _ _ _]; rw [ixI_take h.1, ixI_take h.2.1, ixI_take h.2.2]
  | never => rfl
theorem qst_pts {A B C : List (List Nat)} {s : Stm} (h : QK s) : s.pts A B C = [s.qst A B C] := by
  cases s <;> first | rfl | exact h.elim
theorem qst_take {A B C : List (List Nat)} {k m n : Nat} {s : Stm} (hq : QK s) (h : s.In (A.take k) (B.take m) (C.take n)) : s.qst (A.take k) (B.take m) (C.take n) = s.qst A B C := by
  have := pts_take h
  rw [qst_pts hq, qst_pts hq] at this
  exact List.head_eq_of_cons_eq this
section
variable {th : List (List Int)} {lk : List Lk} {os : List Int}
theorem ffrom_none : ∀ {ps : List Pt} {i : Nat}, (ffrom th lk os i ps).isNone = ps.all fun p => (faultOf th lk os p).isNone
  | [], _ => rfl
  | p :: r, i => by
    rw [ffrom_cons, List.all_cons]
    cases faultOf th lk os p with
    | some l => rfl
    | none => exact ffrom_none (ps := r) (i := i + 1)
theorem brk_one {ps : List Pt} : decide ((brk th lk os [ps] [0]).length = 0) = ps.all fun p => (faultOf th lk os p).isNone := by
  rw [← ffrom_none (i := 0)]
  have e : brk th lk os [ps] [0] = ((firstF th lk os ps).map fun x => ((0 : Int), x.1, x.2)).toList := brk_snoc (th := th) (lk := lk) (os := os) (axs := [ps]) (ks := []) (k := 0)
  rw [e]
  show _ = (firstF th lk os ps).isNone
  cases firstF th lk os ps <;> rfl
end
theorem core_lt {A B : List (List Nat)} {c : Con} (h : c.dp < 4) : (c.core A B).dp < 11 := by
  have := Con.core_dp A B c
  omega
theorem pts_in {A B C : List (List Nat)} {m : Nat} {s : Stm} (hd : s.dp < 4) (hn : s ≠ .never) (hi : ∀ o ∈ C, ixI C o < m) (h : s.In A B C) : (s.pts A B C).length ≤ 1000 ∧ ∀ p ∈ s.pts A B C, p.In 12 m := by
  have one : ∀ {p q : Pt}, p.In 12 m → q ∈ [p] → q.In 12 m := fun h hq => by rw [List.mem_singleton.mp hq]; exact h
  have two : ∀ {p p' q : Pt}, p.In 12 m → p'.In 12 m → q ∈ [p, p'] → q.In 12 m := fun h h' hq => (List.mem_cons.mp hq).elim (fun e => e ▸ h) fun hq => by rw [List.mem_singleton.mp hq]; exact h'
  have z0 : ∀ o : List Nat, 0 ≤ ixI C o := fun o => by show (0 : Int) ≤ (C.idxOf o : Nat); omega
  cases s with
  | below c d =>
    have hd : max c.dp d.dp < 4 := hd
    have h1 := core_lt (A := A) (B := B) (c := c) (by omega)
    have h2 := core_lt (A := A) (B := B) (c := d) (by omega)
    exact ⟨by show 1 ≤ 1000; decide, fun q hq => one (p := .below (c.core A B) (d.core A B)) ⟨by omega, by omega⟩ hq⟩
  | equals c d =>
    have hd : max c.dp d.dp < 4 := hd
    have h1 := core_lt (A := A) (B := B) (c := c) (by omega)
    have h2 := core_lt (A := A) (B := B) (c := d) (by omega)
    exact ⟨by show 2 ≤ 1000; decide, fun q hq => two (p := .below (c.core A B) (d.core A B)) (p' := .below (d.core A B) (c.core A B)) ⟨by omega, by omega⟩ ⟨by omega, by omega⟩ hq⟩
  | apart c d =>
    have hd : max c.dp d.dp < 4 := hd
    have h1 := core_lt (A := A) (B := B) (c := c) (by omega)
    have h2 := core_lt (A := A) (B := B) (c := d) (by omega)
    exact ⟨by show 1 ≤ 1000; decide, fun q hq => one (p := .below (.both (c.core A B) (d.core A B)) (.not .any)) ⟨by show max (c.core A B).dp (d.core A B).dp + 1 < 12; omega, by show 1 < 12; decide⟩ hq⟩
  | domain r c =>
    have h1 := core_lt (A := A) (B := B) (c := c) hd
    exact ⟨by show 1 ≤ 1000; decide, fun q hq => one (p := .below (.some (ixI B r.1) r.2 .any) (c.core A B)) ⟨by show 1 < 12; decide, by omega⟩ hq⟩
  | range r c =>
    have h1 := core_lt (A := A) (B := B) (c := c) hd
    exact ⟨by show 1 ≤ 1000; decide, fun q hq => one (p := .below (.some (ixI B r.1) (!r.2) .any) (c.core A B)) ⟨by show 1 < 12; decide, by omega⟩ hq⟩
  | under r s => exact ⟨by show 1 ≤ 1000; decide, fun q hq => one (p := .under (ixI B r.1) r.2 (ixI B s.1) s.2) trivial hq⟩
  | inverse a b => exact ⟨by show 2 ≤ 1000; decide, fun q hq => two (p := .under (ixI B a) false (ixI B b) true) (p' := .under (ixI B b) true (ixI B a) false) trivial trivial hq⟩
  | is a c =>
    have h1 := core_lt (A := A) (B := B) (c := c) hd
    exact ⟨by show 1 ≤ 1000; decide, fun q hq => one (p := .is (ixI C a) (c.core A B)) ⟨⟨z0 a, hi a h.1⟩, by omega⟩ hq⟩
  | has a b c => exact ⟨by show 1 ≤ 1000; decide, fun q hq => one (p := .has (ixI C a) (ixI B b) (ixI C c)) ⟨⟨z0 a, hi a h.1⟩, z0 c, hi c h.2.2⟩ hq⟩
  | never => exact absurd rfl hn
theorem qst_in {A B C : List (List Nat)} {m : Nat} {s : Stm} (hd : s.dp < 4) (hq : QK s) (hi : ∀ o ∈ C, ixI C o < m) (h : s.In A B C) : (s.qst A B C).InQ 12 m := by
  by_cases hn : s = .never
  · subst hn
    trivial
  have := (pts_in hd hn hi h).2 (s.qst A B C) (by rw [qst_pts hq]; exact List.mem_cons_self ..)
  cases s <;> first | exact this | exact hq.elim | exact absurd rfl hn
theorem true_qst {th : List (List Int)} {lk : List Lk} {os : List Int} {A B C : List (List Nat)} {s : Stm} (hq : QK s) : trueOf th lk os A B C s = holdsQ th lk os (s.qst A B C) := by
  cases s <;> first | exact hq.elim | rfl | exact Bool.and_true _
theorem true_pts {th : List (List Int)} {lk : List Lk} {os : List Int} {A B C : List (List Nat)} {s : Stm} (hn : s ≠ .never) : trueOf th lk os A B C s = (s.pts A B C).all fun p => (faultOf th lk os p).isNone := by
  cases s <;> first | rfl | exact absurd rfl hn
section
variable {P : Program} {w : World} {K : PySem.W.Frag} {mg : Str → Option Value} {base : Heap}
theorem take_in {α : Type} {l : List α} {n : Nat} : ∀ s ∈ l.take n, s ∈ l := fun _ h => List.mem_of_mem_take h
theorem ok_law {f : Addr} {fd : FuncData} (F : Fun K "law" "law" s_law f fd) (c_law_draws : Cl P w K mg base 2 "_law_draws" (spG K pDraws)) (c_law_take : Cl P w K mg base 1 "_law_take" (spG K pTake)) (c_law_names : Cl P w K mg base 3 "_law_names" (spG K pNames)) (c_law_sizes : Cl P w K mg base 2 "_law_sizes" (spG K pSizesN)) (c_law_told_names : Cl P w K mg base 1 "_law_told_names" (spG K pTold))
    (c_law_model : Cl P w K mg base 3 "_law_model" (spG K pLModel)) (c_law_concept : Cl P w K mg base 7 "_law_concept" (spG K (pConN 4))) (c_law_statement : Cl P w K mg base 8 "_law_statement" (spG K (pStmN 4))) (c_law_question : Cl P w K mg base 8 "_law_question" (spG K (pQstN 4))) (c_law_belongs : Cl P w K mg base 6 "_law_belongs" (spG K (pBel 4))) (c_law_true : Cl P w K mg base 7 "_law_true" (spG K (pLTrue 4)))
    (c_core_concept : Cl P w K mg base 6 "core_concept" (spG K (pCoreT 4))) (c_core_question : Cl P w K mg base 7 "core_question" (spG K (pQuest 4))) (c_parts : Cl P w K mg base 8 "parts" (spG K (pPartsT 4))) (c_members : Cl P w K mg base 15 "members" (spG K (pMembers 12))) (c_breaks : Cl P w K mg base 19 "breaks" (spG K (pBreaks 12))) (c_answers : Cl P w K mg base 18 "answers" (spG K (pAnswM 12))) (c_law_same : Cl P w K mg base 3 "_law_same" (spG K pSameT))
    (z_len : mg "len" = none) (z_range : mg "range" = none) (z_tuple : mg "tuple" = none) (z_isinstance : mg "isinstance" = none) (z_bool : mg "bool" = none) : FnOk P w K mg base CX0 20 f fd ["script"] (spLaw K) := by
  refine law_go F sc_law fun cdv A outer s H vs Q E ns hr h63 S hq => ?_
  refine ⟨_, (pss_cons (ps_set (i := 1) sc_law.nd rfl (.inl rfl) (pc c_law_draws hr (by first | decide | omega) (by rfl) (pa_cons (pv 0) (pa_cons pe_int (pa_cons pe_int pa_nil)))))
      (pss_cons (ps_set (i := 2) sc_law.nd rfl (.inl rfl) (pc c_law_names hr (by first | decide | omega) (by rfl) (pa_cons (pv 1) pa_nil)))
      (pss_cons (ps_set (i := 3) sc_law.nd rfl (.inl rfl) (pc c_law_sizes hr (by first | decide | omega) (by rfl) (pa_cons (pv 1) pa_nil)))
      (pss_cons (ps_set (i := 4) sc_law.nd rfl (.inl rfl) (pc c_law_told_names hr (by first | decide | omega) (by rfl) (pa_cons (pv 2) (pa_cons (pv 3) pa_nil))))
      (pss_cons (ps_set (i := 5) sc_law.nd rfl (.inl rfl) (pc c_law_model hr (by first | decide | omega) (by rfl) (pa_cons (pv 0) (pa_cons pe_int (pa_cons (pv 3) (pa_cons pe_int pa_nil))))))
      (pss_cons (ps_set (i := 6) sc_law.nd rfl (.inl rfl) (pc c_law_concept hr (by first | decide | omega) (by rfl) (pa_cons (pv 1) (pa_cons (pv 2) (pa_cons (pv 3) (pa_cons (pc c_law_take hr (by first | decide | omega) (by rfl) (pa_cons (pv 1) (pa_cons pe_int pa_nil))) pa_nil))))))
      (pss_cons (ps_set (i := 7) sc_law.nd rfl (.inr rfl) (pc c_law_belongs hr (by first | decide | omega) (by rfl) (pa_cons (pv 5) (pa_cons (pv 2) (pa_cons (pv 6) pa_nil)))))
      (pss_cons (ps_set (i := 8) sc_law.nd rfl (.inl rfl) (pe_callTy (call_tupD (K := K)) (by rfl) z_tuple (by decide +kernel) (pa_cons (pe_lc (own := [("thing", 12)]) (g := gName 12) (by rfl) sc_law.nd (pi_range1 (by rfl) z_range (pa_cons (pe_callB (lenQ (K := K)) (by rfl) z_len PySem.boot_len (pa_cons (pv 7) pa_nil)) pa_nil)) (blkOk_by (own := [("thing", 12)]) (N := ["script", "draws", "names", "sizes", "told", "model", "concept", "inside", "due", "tree", "actual", "asked", "thing"]) (sc := defScope s_law) (by decide +kernel)) (fun _ _ _ _ _ => pg_name (i := 12) sc_law.nd rfl (.inl rfl)) (fun _ _ _ _ _ => (pts_one (pt_val (pe_ix (ixL (K := K)) (pv 7) (pv 12) (fun _ _ => rfl))))) (fun _ _ _ _ _ => (pv 12))) pa_nil)))
      (pss_cons (ps_if (pt_not (pt_val (pc c_law_same hr (by first | decide | omega) (by rfl) (pa_cons (pc c_members hr (by first | decide | omega) (by rfl) (pa_cons (pv 5) (pa_cons (pc c_core_concept hr (by first | decide | omega) (by rfl) (pa_cons (pv 4) (pa_cons (pv 6) pa_nil))) pa_nil))) (pa_cons (pv 8) pa_nil))))) (pss_one (ps_ret pe_bl)) pss_nil)
      (pss_cons (ps_set (i := 9) sc_law.nd rfl (.inl rfl) (pc c_law_statement hr (by first | decide | omega) (by rfl) (pa_cons (pc c_law_draws hr (by first | decide | omega) (by rfl) (pa_cons (pv 0) (pa_cons pe_int (pa_cons pe_int pa_nil)))) (pa_cons (pv 2) (pa_cons (pv 3) (pa_cons pe_int pa_nil))))))
      (pss_cons (ps_set (i := 10) sc_law.nd rfl (.inl rfl) (pc c_breaks hr (by first | decide | omega) (by rfl) (pa_cons (pv 5) (pa_cons (pe_tup (pa_cons (pe_tup (pa_cons (pc c_parts hr (by first | decide | omega) (by rfl) (pa_cons (pv 4) (pa_cons (pv 9) pa_nil))) pa_nil)) (pa_cons (pe_ix (ixT (K := K)) (pv 3) pe_int (fun _ _ => rfl)) pa_nil))) (pa_cons (pe_tup (pa_cons pe_int pa_nil)) pa_nil)))))
      (pss_cons (ps_if (PW.pt (pw_or (pt_not (pt_val (pe_callB (kIsi (K := K)) (by rfl) z_isinstance (by decide +kernel) (pa_cons (pv 10) (pa_cons (pe_bltn (v := .ty "tuple") (u := .type "tuple") (by rfl) z_tuple (by decide +kernel) rfl) pa_nil))))) (pw_or1 (pt_cmpR op_ne (pe_cmpR op_eq (pe_callB (lenQ (K := K)) (by rfl) z_len PySem.boot_len (pa_cons (pv 10) pa_nil)) pe_int (nomark _)) (pc c_law_true hr (by first | decide | omega) (by rfl) (pa_cons (pv 5) (pa_cons (pv 2) (pa_cons (pv 9) pa_nil)))) (nomark _))))) (pss_one (ps_ret pe_bl)) pss_nil)
      (pss_cons (ps_set (i := 11) sc_law.nd rfl (.inl rfl) (pc c_law_question hr (by first | decide | omega) (by rfl) (pa_cons (pc c_law_draws hr (by first | decide | omega) (by rfl) (pa_cons (pv 0) (pa_cons pe_int (pa_cons pe_int pa_nil)))) (pa_cons (pv 2) (pa_cons (pv 3) (pa_cons pe_int pa_nil))))))
      (pss_cons (ps_set (i := 10) sc_law.nd rfl (.inl rfl) (pc c_answers hr (by first | decide | omega) (by rfl) (pa_cons (pv 5) (pa_cons (pc c_core_question hr (by first | decide | omega) (by rfl) (pa_cons (pv 4) (pa_cons (pv 11) pa_nil))) pa_nil))))
      (pss_one (ps_ret (pe_and (pe_callB (kIsi (K := K)) (by rfl) z_isinstance (by decide +kernel) (pa_cons (pv 10) (pa_cons (pe_bltn (v := .ty "bool") (u := .type "bool") (by rfl) z_bool (by decide +kernel) rfl) pa_nil))) (pe_one (pe_cmpR op_eq (pv 10) (pc c_law_true hr (by first | decide | omega) (by rfl) (pa_cons (pv 5) (pa_cons (pv 2) (pa_cons (pv 11) pa_nil)))) (nomark _)))))))))))))))))))), ?_⟩
  walk_at "in"
  walk_at "dl"
  refine x_cO (by assumption) (by walk_at "slt") ⟨ns, 0, 60, rfl, rfl, by decide, ⟨by decide, by decide⟩, rfl⟩ ?_
  rintro _ ⟨ds, rfl, hds⟩ d H_ M_ S_
  walk_at "dl"
  rename Ds _ _ _ _ _ _ _ _ _ => S_
  have S_ := S_.toN 0 rfl .z
  refine x_c1 0 (by assumption) rfl (by walk_at "slt") ⟨d, rfl, rfl, rfl⟩ ?_
  rintro _ _ ⟨rfl, l, r, rfl, hf⟩ H_ M_ w_ hw S_
  cases hw
  walk_at "dl"
  refine x_c1 0 (by assumption) rfl (by walk_at "slt") ⟨d, rfl, rfl, rfl⟩ ?_
  rintro _ _ ⟨rfl, s0, s1, s2, rfl, hs, _, _, _⟩ H_ M_ w_ hw S_
  cases hw
  walk_at "dl"
  refine x_cO (by assumption) (by walk_at "slt") ⟨l, r, s0, s1, s2, rfl, rfl, hs, rfl⟩ ?_
  rintro _ rfl td H_ M_ S_
  walk_at "dl"
  refine x_cD (by assumption) (by walk_at "slt") ⟨ns, 1, s0, s1, s2, 6, rfl, rfl, by decide, hs, ⟨by decide, by decide⟩, rfl⟩ ?_
  rintro _ ⟨th, lk, os, rfl, hmd⟩ H_ M_ S_
  walk_at "dl"
  have hsz : th.length ≤ 1000 ∧ lk.length ≤ 10000 := ⟨Nat.le_trans hmd.h1 (by decide), hmd.hl⟩
  have up : ∀ s : Stm, s.In (cpN l r s0) (rlN l r s1) (inN l r s2) → s.In (nmL l r mk0) (nmL l r mk1) (inN l r s2) := fun s h => by
    cases s with
    | below c d => exact ⟨h.1.mono take_in take_in, h.2.mono take_in take_in⟩
    | equals c d => exact ⟨h.1.mono take_in take_in, h.2.mono take_in take_in⟩
    | apart c d => exact ⟨h.1.mono take_in take_in, h.2.mono take_in take_in⟩
    | domain r c => exact ⟨take_in _ h.1, h.2.mono take_in take_in⟩
    | range r c => exact ⟨take_in _ h.1, h.2.mono take_in take_in⟩
    | under r s => exact ⟨take_in _ h.1, take_in _ h.2⟩
    | inverse a b => exact ⟨take_in _ h.1, take_in _ h.2⟩
    | is a c => exact ⟨h.1, h.2.mono take_in take_in⟩
    | has a b c => exact ⟨h.1, take_in _ h.2.1, h.2.2⟩
    | never => trivial
  have hio : ∀ o ∈ inN l r s2, o ∈ nmL l r mk2 ∧ ixI (nmL l r mk2) o < os.length := fun o h => by
    have e : ixI (inN l r s2) o = ixI (nmL l r mk2) o := ixI_take h
    have h1 := List.idxOf_lt_length_of_mem h
    have h2 : (inN l r s2).length ≤ s2.toNat := by unfold inN; rw [List.length_take]; omega
    have h3 := hmd.ho
    refine ⟨take_in _ h, ?_⟩
    rw [← e]
    show ((inN l r s2).idxOf o : Int) < _
    omega
  have hio2 : ∀ o ∈ inN l r s2, ixI (inN l r s2) o < os.length := fun o h => by
    rw [show ixI (inN l r s2) o = ixI (nmL l r mk2) o from ixI_take h]
    exact (hio o h).2
  refine x_c1 1 (by assumption) rfl (by walk_at "slt") ⟨d, 4, rfl, rfl, by decide, rfl⟩ ?_
  rintro _ _ ⟨rfl, y, rfl, hy0, hy1⟩ H_ M_ w_ hw S_
  cases hw
  rename SetAt _ _ _ _ => hw
  cases hw
  walk_at "dl"
  refine x_c1 1 (by assumption) rfl (by walk_at "slt") ⟨d, l, r, s0, s1, s2, y, rfl, rfl, hs, hy0, by omega, rfl⟩ ?_
  rintro _ _ ⟨rfl, c, rfl, hcd, hci⟩ H_ M_ w_ hw S_
  cases hw
  rename SetAt _ _ _ _ => hw
  cases hw
  walk_at "dl"
  have hcd : c.dp < 4 := by omega
  have hcore : c.core (cpN l r s0) (rlN l r s1) = c.core (nmL l r mk0) (nmL l r mk1) := core_take hci
  refine x_cO (by assumption) (by walk_at "slt") ⟨th, lk, os, nmL l r mk0, nmL l r mk1, nmL l r mk2, nmL l r mk3, c, rfl, rfl, hcd, hci.mono take_in take_in, hmd.h1, rfl⟩ ?_
  rintro _ rfl ia H_ M_ S_
  walk_at "dl"
  rename Ds _ _ _ _ _ _ _ _ _ => S_
  obtain ⟨M_, S_⟩ := S_.frz2 (i := 7) rfl List.not_mem_nil
  simp only [List.set_cons_succ, List.set_cons_zero] at S_
  walk_at "dl"
  generalize hcc : c.core (nmL l r mk0) (nmL l r mk1) = cc at *
  have hL : (colD th lk cc).length = th.length := by rw [colD, List.length_map, rng_len]
  rw [hL]
  refine x_lc1R (k := 12) (fun i acc w1 => acc = ((rng i).filter (sat th lk cc)).map .int ∧ w1 = [(td, .nt (cpN l r s0) (rlN l r s1) (inN l r s2)), (d, .nums)]) (by assumption) (by have := hmd.h1; omega) (by have := hmd.h1; omega) ⟨rfl, rfl⟩ ?_ ?_
  · rintro i acc w1 hi ⟨rfl, rfl⟩ D4 σ4 H4 M4 hrw S4
    rw [Int.toNat_natCast] at hi
    have h6 := hmd.h1
    have hz2 : (((rng i).filter (sat th lk cc)).map PyData.int).length < sizeLine := by
      have := List.length_filter_le (sat th lk cc) (rng i)
      rw [rng_len] at this
      rw [List.length_map]
      exact Nat.lt_of_lt_of_le (by omega : _ < 1001) (by decide)
    rename Ds _ _ _ _ _ _ _ _ _ => S_
    simp only [List.set_cons_succ, List.set_cons_zero] at S_
    walk_at "dl"
    refine x_ixL (by assumption) (by walk_at "tm") (col_at (by omega : 0 ≤ (i : Int)) (by omega)) ?_
    walk_at "dl"
    refine x_if (fun hl => ?_) (fun hl => ?_)
    · walk_at "dl"
      exact x_lcA (by assumption) (by assumption) (by walk_at "tm") hz2 ⟨by rw [fil_rngC, if_pos hl, List.map_append]; rfl, rfl⟩
    · walk_at "dl"
      exact x_lcN (by assumption) (by assumption) ⟨by rw [fil_rngC, if_neg (by rw [hl]; decide), List.append_nil], rfl⟩
  rintro acc w1 ⟨rfl, rfl⟩ D4 H4 M4 S4
  rw [Int.toNat_natCast] at S4
  walk_at "dl"
  refine x_c1 1 (by assumption) rfl (by walk_at "slt") ⟨td, cpN l r s0, rlN l r s1, inN l r s2, c, rfl, rfl, hcd, hci, rfl⟩ ?_
  rintro _ _ ⟨rfl, rfl⟩ H_ M_ w_ hw S_
  cases hw
  rename SetAt _ _ _ _ => hw
  cases hw
  walk_at "dl"
  refine x_cD (by assumption) (by walk_at "slt") ⟨th, lk, os, c.core (cpN l r s0) (rlN l r s1), rfl, rfl, by have := core_lt (A := cpN l r s0) (B := rlN l r s1) hcd; omega, hsz, hmd.hk, rfl⟩ ?_
  rintro _ rfl H_ M_ S_
  walk_at "dl"
  refine x_cD (by assumption) (by walk_at "slt") ⟨insOf th lk cc, by rw [hcore]; rfl, rfl, by unfold insOf; have := List.length_filter_le (sat th lk cc) (rng th.length); rw [rng_len] at this; omega, rfl⟩ ?_
  rintro _ rfl H_ M_ S_
  walk_at "dl"
  refine x_cO (by assumption) (by walk_at "slt") ⟨ns, 10, 60, rfl, rfl, by decide, ⟨by decide, by decide⟩, rfl⟩ ?_
  rintro _ ⟨e1, rfl, he1⟩ d2 H_ M_ S_
  walk_at "dl"
  rename Ds _ _ _ _ _ _ _ _ _ => S_
  have S_ := S_.toN 0 rfl .z
  refine x_c1 0 (by assumption) rfl (by walk_at "slt") ⟨d2, l, r, s0, s1, s2, 2, rfl, rfl, hs, by decide, by decide, rfl⟩ ?_
  rintro _ _ ⟨rfl, s, rfl, hsd, hsn, hsi⟩ H_ M_ w_ hw S_
  cases hw
  walk_at "dl"
  have hsd : s.dp < 4 := by have : s.dp ≤ 2 := hsd; omega
  refine x_c1 2 (by assumption) rfl (by walk_at "slt") ⟨td, cpN l r s0, rlN l r s1, inN l r s2, s, rfl, rfl, hsd, hsi, rfl⟩ ?_
  rintro _ _ ⟨rfl, rfl⟩ H_ M_ w_ hw S_
  cases hw
  rename SetAt _ _ _ _ => hw
  cases hw
  rename SetAt _ _ _ _ => hw
  cases hw
  walk_at "dl"
  have hpin := pts_in hsd hsn hio2 hsi
  refine x_cD (by assumption) (by walk_at "slt") ⟨th, lk, os, [s.pts (cpN l r s0) (rlN l r s1) (inN l r s2)], s2, [0], rfl, rfl, ⟨by show 1 ≤ 1000; decide, fun ps h => by rw [List.mem_singleton.mp h]; exact hpin⟩, (fun k hk => by rw [List.mem_singleton.mp hk]; exact ⟨by decide, by show (0 : Int) < 1; decide⟩), by show 1 ≤ 1000; decide, hsz, hmd.hk, hmd.ht, rfl⟩ ?_
  rintro _ rfl H_ M_ S_
  walk_at "dl"
  refine x_cD (by assumption) (by walk_at "slt") ⟨th, lk, os, nmL l r mk0, nmL l r mk1, nmL l r mk2, nmL l r mk3, inN l r s2, s, rfl, rfl, hsd, up s hsi, hmd.h1, hmd.hk, hio, hmd.ht, rfl⟩ ?_
  rintro _ rfl H_ M_ S_
  walk_at "dl"
  have hbrk : decide ((((brk th lk os [s.pts (cpN l r s0) (rlN l r s1) (inN l r s2)] [0]).map brD).length : Int) = 0) = trueOf th lk os (nmL l r mk0) (nmL l r mk1) (nmL l r mk2) s := by
    rw [true_pts hsn, ← pts_take hsi, ← brk_one, List.length_map]
    exact decide_eq_decide.mpr ⟨fun h => by exact_mod_cast h, fun h => by exact_mod_cast h⟩
  rw [hbrk, decide_eq_true rfl]
  walk_at "dl"
  refine x_cO (by assumption) (by walk_at "slt") ⟨ns, 11, 60, rfl, rfl, by decide, ⟨by decide, by decide⟩, rfl⟩ ?_
  rintro _ ⟨e3, rfl, he3⟩ d3 H_ M_ S_
  walk_at "dl"
  rename Ds _ _ _ _ _ _ _ _ _ => S_
  have S_ := S_.toN 0 rfl .z
  refine x_c1 0 (by assumption) rfl (by walk_at "slt") ⟨d3, l, r, s0, s1, s2, 2, rfl, rfl, hs, by decide, by decide, rfl⟩ ?_
  rintro _ _ ⟨rfl, q, rfl, hqd, hqk, hqi⟩ H_ M_ w_ hw S_
  cases hw
  walk_at "dl"
  have hqd : q.dp < 4 := by have : q.dp ≤ 2 := hqd; omega
  refine x_c1 3 (by assumption) rfl (by walk_at "slt") ⟨td, cpN l r s0, rlN l r s1, inN l r s2, q, rfl, rfl, hqd, hqi, hqk, rfl⟩ ?_
  rintro _ _ ⟨rfl, rfl⟩ H_ M_ w_ hw S_
  cases hw
  rename SetAt _ _ _ _ => hw
  cases hw
  rename SetAt _ _ _ _ => hw
  cases hw
  rename SetAt _ _ _ _ => hw
  cases hw
  walk_at "dl"
  refine x_cD (by assumption) (by walk_at "slt") ⟨th, lk, os, q.qst (cpN l r s0) (rlN l r s1) (inN l r s2), rfl, rfl, qst_in hqd hqk hio2 hqi, hsz, hmd.hk, hmd.ht, rfl⟩ ?_
  rintro _ rfl H_ M_ S_
  walk_at "dl"
  refine x_cD (by assumption) (by walk_at "slt") ⟨th, lk, os, nmL l r mk0, nmL l r mk1, nmL l r mk2, nmL l r mk3, inN l r s2, q, rfl, rfl, hqd, up q hqi, hmd.h1, hmd.hk, hio, hmd.ht, rfl⟩ ?_
  rintro _ rfl H_ M_ S_
  walk_at "dl"
  rw [true_qst hqk, show q.qst (nmL l r mk0) (nmL l r mk1) (nmL l r mk2) = q.qst (cpN l r s0) (rlN l r s1) (inN l r s2) from (qst_take hqk hqi).symm, decide_eq_true rfl]
  exact hq _
end
theorem all_mk {l : PySem.W.OpenLaw} {w : World} {K : PySem.W.Frag} {h : Heap} {mg : Str → Option Value} {fa : Addr} (X : K.In h) (G : h.Ns mainGlobals mg) (hfa : mg "law" = some (.ref fa))
    {f_inverse : Addr} {od_inverse an_inverse : Option Addr} {sl_inverse : Array (Option Value)} {oc_inverse kV_inverse dc_inverse pm_inverse cd_inverse ct_inverse : Value}
    {f_core_concept : Addr} {od_core_concept an_core_concept : Option Addr} {sl_core_concept : Array (Option Value)} {oc_core_concept kV_core_concept dc_core_concept pm_core_concept cd_core_concept ct_core_concept : Value}
    {f_core_question : Addr} {od_core_question an_core_question : Option Addr} {sl_core_question : Array (Option Value)} {oc_core_question kV_core_question dc_core_question pm_core_question cd_core_question ct_core_question : Value}
    {f_parts : Addr} {od_parts an_parts : Option Addr} {sl_parts : Array (Option Value)} {oc_parts kV_parts dc_parts pm_parts cd_parts ct_parts : Value}
    {f_role : Addr} {od_role an_role : Option Addr} {sl_role : Array (Option Value)} {oc_role kV_role dc_role pm_role cd_role ct_role : Value}
    {f_parts_of_two_concepts : Addr} {od_parts_of_two_concepts an_parts_of_two_concepts : Option Addr} {sl_parts_of_two_concepts : Array (Option Value)} {oc_parts_of_two_concepts kV_parts_of_two_concepts dc_parts_of_two_concepts pm_parts_of_two_concepts cd_parts_of_two_concepts ct_parts_of_two_concepts : Value}
    {f_typing : Addr} {od_typing an_typing : Option Addr} {sl_typing : Array (Option Value)} {oc_typing kV_typing dc_typing pm_typing cd_typing ct_typing : Value}
    {f_members : Addr} {od_members an_members : Option Addr} {sl_members : Array (Option Value)} {oc_members kV_members dc_members pm_members cd_members ct_members : Value}
    {f_part_fault : Addr} {od_part_fault an_part_fault : Option Addr} {sl_part_fault : Array (Option Value)} {oc_part_fault kV_part_fault dc_part_fault pm_part_fault cd_part_fault ct_part_fault : Value}
    {f_breaks : Addr} {od_breaks an_breaks : Option Addr} {sl_breaks : Array (Option Value)} {oc_breaks kV_breaks dc_breaks pm_breaks cd_breaks ct_breaks : Value}
    {f_answers : Addr} {od_answers an_answers : Option Addr} {sl_answers : Array (Option Value)} {oc_answers kV_answers dc_answers pm_answers cd_answers ct_answers : Value}
    {f_belonging : Addr} {od_belonging an_belonging : Option Addr} {sl_belonging : Array (Option Value)} {oc_belonging kV_belonging dc_belonging pm_belonging cd_belonging ct_belonging : Value}
    {f_pairs : Addr} {od_pairs an_pairs : Option Addr} {sl_pairs : Array (Option Value)} {oc_pairs kV_pairs dc_pairs pm_pairs cd_pairs ct_pairs : Value}
    {f_below_fault : Addr} {od_below_fault an_below_fault : Option Addr} {sl_below_fault : Array (Option Value)} {oc_below_fault kV_below_fault dc_below_fault pm_below_fault cd_below_fault ct_below_fault : Value}
    {f_under_fault : Addr} {od_under_fault an_under_fault : Option Addr} {sl_under_fault : Array (Option Value)} {oc_under_fault kV_under_fault dc_under_fault pm_under_fault cd_under_fault ct_under_fault : Value}
    {f_first_fault : Addr} {od_first_fault an_first_fault : Option Addr} {sl_first_fault : Array (Option Value)} {oc_first_fault kV_first_fault dc_first_fault pm_first_fault cd_first_fault ct_first_fault : Value}
    {f_law_cell : Addr} {od_law_cell an_law_cell : Option Addr} {sl_law_cell : Array (Option Value)} {oc_law_cell kV_law_cell dc_law_cell pm_law_cell cd_law_cell ct_law_cell : Value}
    {f_law_draws : Addr} {od_law_draws an_law_draws : Option Addr} {sl_law_draws : Array (Option Value)} {oc_law_draws kV_law_draws dc_law_draws pm_law_draws cd_law_draws ct_law_draws : Value}
    {f_law_take : Addr} {od_law_take an_law_take : Option Addr} {sl_law_take : Array (Option Value)} {oc_law_take kV_law_take dc_law_take pm_law_take cd_law_take ct_law_take : Value}
    {f_law_frame : Addr} {od_law_frame an_law_frame : Option Addr} {sl_law_frame : Array (Option Value)} {oc_law_frame kV_law_frame dc_law_frame pm_law_frame cd_law_frame ct_law_frame : Value}
    {f_law_names : Addr} {od_law_names an_law_names : Option Addr} {sl_law_names : Array (Option Value)} {oc_law_names kV_law_names dc_law_names pm_law_names cd_law_names ct_law_names : Value}
    {f_law_role : Addr} {od_law_role an_law_role : Option Addr} {sl_law_role : Array (Option Value)} {oc_law_role kV_law_role dc_law_role pm_law_role cd_law_role ct_law_role : Value}
    {f_law_concept : Addr} {od_law_concept an_law_concept : Option Addr} {sl_law_concept : Array (Option Value)} {oc_law_concept kV_law_concept dc_law_concept pm_law_concept cd_law_concept ct_law_concept : Value}
    {f_law_statement : Addr} {od_law_statement an_law_statement : Option Addr} {sl_law_statement : Array (Option Value)} {oc_law_statement kV_law_statement dc_law_statement pm_law_statement cd_law_statement ct_law_statement : Value}
    {f_law_question : Addr} {od_law_question an_law_question : Option Addr} {sl_law_question : Array (Option Value)} {oc_law_question kV_law_question dc_law_question pm_law_question cd_law_question ct_law_question : Value}
    {f_law_sizes : Addr} {od_law_sizes an_law_sizes : Option Addr} {sl_law_sizes : Array (Option Value)} {oc_law_sizes kV_law_sizes dc_law_sizes pm_law_sizes cd_law_sizes ct_law_sizes : Value}
    {f_law_same : Addr} {od_law_same an_law_same : Option Addr} {sl_law_same : Array (Option Value)} {oc_law_same kV_law_same dc_law_same pm_law_same cd_law_same ct_law_same : Value}
    {f_law_model : Addr} {od_law_model an_law_model : Option Addr} {sl_law_model : Array (Option Value)} {oc_law_model kV_law_model dc_law_model pm_law_model cd_law_model ct_law_model : Value}
    {f_law_linked : Addr} {od_law_linked an_law_linked : Option Addr} {sl_law_linked : Array (Option Value)} {oc_law_linked kV_law_linked dc_law_linked pm_law_linked cd_law_linked ct_law_linked : Value}
    {f_law_belongs : Addr} {od_law_belongs an_law_belongs : Option Addr} {sl_law_belongs : Array (Option Value)} {oc_law_belongs kV_law_belongs dc_law_belongs pm_law_belongs cd_law_belongs ct_law_belongs : Value}
    {f_law_true : Addr} {od_law_true an_law_true : Option Addr} {sl_law_true : Array (Option Value)} {oc_law_true kV_law_true dc_law_true pm_law_true cd_law_true ct_law_true : Value}
    {f_law_told_names : Addr} {od_law_told_names an_law_told_names : Option Addr} {sl_law_told_names : Array (Option Value)} {oc_law_told_names kV_law_told_names dc_law_told_names pm_law_told_names cd_law_told_names ct_law_told_names : Value}
    {r_ANYTHING : Addr} {oo_ANYTHING : Option Addr} {os_ANYTHING : Array (Option Value)} {i_ANYTHING : Array Value} {n_ANYTHING : Nat}
    {r_NOTHING : Addr}
    {od_law an_law : Option Addr} {sl_law : Array (Option Value)} {oc_law kV_law dc_law pm_law cd_law ct_law : Value} {f_law : Addr}
    (a_inverse : PySem.W.nsIn K mainGlobals "inverse" = some (some (.ref f_inverse))) (l_inverse : K.lookup f_inverse = some ⟨oc_inverse, od_inverse, .func (PySem.W.fnOf "inverse" "inverse" (defArgs s_inverse) (defBody s_inverse) (defScope s_inverse) .none kV_inverse dc_inverse pm_inverse an_inverse cd_inverse ct_inverse), sl_inverse⟩) (w_inverse : PySem.W.codeIn K cd_inverse "inverse" = true) (k_inverse : PySem.W.keepIn K (.ref f_inverse) = true)
    (a_core_concept : PySem.W.nsIn K mainGlobals "core_concept" = some (some (.ref f_core_concept))) (l_core_concept : K.lookup f_core_concept = some ⟨oc_core_concept, od_core_concept, .func (PySem.W.fnOf "core_concept" "core_concept" (defArgs s_core_concept) (defBody s_core_concept) (defScope s_core_concept) .none kV_core_concept dc_core_concept pm_core_concept an_core_concept cd_core_concept ct_core_concept), sl_core_concept⟩) (w_core_concept : PySem.W.codeIn K cd_core_concept "core_concept" = true) (k_core_concept : PySem.W.keepIn K (.ref f_core_concept) = true)
    (a_core_question : PySem.W.nsIn K mainGlobals "core_question" = some (some (.ref f_core_question))) (l_core_question : K.lookup f_core_question = some ⟨oc_core_question, od_core_question, .func (PySem.W.fnOf "core_question" "core_question" (defArgs s_core_question) (defBody s_core_question) (defScope s_core_question) .none kV_core_question dc_core_question pm_core_question an_core_question cd_core_question ct_core_question), sl_core_question⟩) (w_core_question : PySem.W.codeIn K cd_core_question "core_question" = true) (k_core_question : PySem.W.keepIn K (.ref f_core_question) = true)
    (a_parts : PySem.W.nsIn K mainGlobals "parts" = some (some (.ref f_parts))) (l_parts : K.lookup f_parts = some ⟨oc_parts, od_parts, .func (PySem.W.fnOf "parts" "parts" (defArgs s_parts) (defBody s_parts) (defScope s_parts) .none kV_parts dc_parts pm_parts an_parts cd_parts ct_parts), sl_parts⟩) (w_parts : PySem.W.codeIn K cd_parts "parts" = true) (k_parts : PySem.W.keepIn K (.ref f_parts) = true)
    (a_role : PySem.W.nsIn K mainGlobals "_role" = some (some (.ref f_role))) (l_role : K.lookup f_role = some ⟨oc_role, od_role, .func (PySem.W.fnOf "_role" "_role" (defArgs s_role) (defBody s_role) (defScope s_role) .none kV_role dc_role pm_role an_role cd_role ct_role), sl_role⟩) (w_role : PySem.W.codeIn K cd_role "_role" = true) (k_role : PySem.W.keepIn K (.ref f_role) = true)
    (a_parts_of_two_concepts : PySem.W.nsIn K mainGlobals "_parts_of_two_concepts" = some (some (.ref f_parts_of_two_concepts))) (l_parts_of_two_concepts : K.lookup f_parts_of_two_concepts = some ⟨oc_parts_of_two_concepts, od_parts_of_two_concepts, .func (PySem.W.fnOf "_parts_of_two_concepts" "_parts_of_two_concepts" (defArgs s_parts_of_two_concepts) (defBody s_parts_of_two_concepts) (defScope s_parts_of_two_concepts) .none kV_parts_of_two_concepts dc_parts_of_two_concepts pm_parts_of_two_concepts an_parts_of_two_concepts cd_parts_of_two_concepts ct_parts_of_two_concepts), sl_parts_of_two_concepts⟩) (w_parts_of_two_concepts : PySem.W.codeIn K cd_parts_of_two_concepts "_parts_of_two_concepts" = true) (k_parts_of_two_concepts : PySem.W.keepIn K (.ref f_parts_of_two_concepts) = true)
    (a_typing : PySem.W.nsIn K mainGlobals "_typing" = some (some (.ref f_typing))) (l_typing : K.lookup f_typing = some ⟨oc_typing, od_typing, .func (PySem.W.fnOf "_typing" "_typing" (defArgs s_typing) (defBody s_typing) (defScope s_typing) .none kV_typing dc_typing pm_typing an_typing cd_typing ct_typing), sl_typing⟩) (w_typing : PySem.W.codeIn K cd_typing "_typing" = true) (k_typing : PySem.W.keepIn K (.ref f_typing) = true)
    (a_members : PySem.W.nsIn K mainGlobals "members" = some (some (.ref f_members))) (l_members : K.lookup f_members = some ⟨oc_members, od_members, .func (PySem.W.fnOf "members" "members" (defArgs s_members) (defBody s_members) (defScope s_members) .none kV_members dc_members pm_members an_members cd_members ct_members), sl_members⟩) (w_members : PySem.W.codeIn K cd_members "members" = true) (k_members : PySem.W.keepIn K (.ref f_members) = true)
    (a_part_fault : PySem.W.nsIn K mainGlobals "part_fault" = some (some (.ref f_part_fault))) (l_part_fault : K.lookup f_part_fault = some ⟨oc_part_fault, od_part_fault, .func (PySem.W.fnOf "part_fault" "part_fault" (defArgs s_part_fault) (defBody s_part_fault) (defScope s_part_fault) .none kV_part_fault dc_part_fault pm_part_fault an_part_fault cd_part_fault ct_part_fault), sl_part_fault⟩) (w_part_fault : PySem.W.codeIn K cd_part_fault "part_fault" = true) (k_part_fault : PySem.W.keepIn K (.ref f_part_fault) = true)
    (a_breaks : PySem.W.nsIn K mainGlobals "breaks" = some (some (.ref f_breaks))) (l_breaks : K.lookup f_breaks = some ⟨oc_breaks, od_breaks, .func (PySem.W.fnOf "breaks" "breaks" (defArgs s_breaks) (defBody s_breaks) (defScope s_breaks) .none kV_breaks dc_breaks pm_breaks an_breaks cd_breaks ct_breaks), sl_breaks⟩) (w_breaks : PySem.W.codeIn K cd_breaks "breaks" = true) (k_breaks : PySem.W.keepIn K (.ref f_breaks) = true)
    (a_answers : PySem.W.nsIn K mainGlobals "answers" = some (some (.ref f_answers))) (l_answers : K.lookup f_answers = some ⟨oc_answers, od_answers, .func (PySem.W.fnOf "answers" "answers" (defArgs s_answers) (defBody s_answers) (defScope s_answers) .none kV_answers dc_answers pm_answers an_answers cd_answers ct_answers), sl_answers⟩) (w_answers : PySem.W.codeIn K cd_answers "answers" = true) (k_answers : PySem.W.keepIn K (.ref f_answers) = true)
    (a_belonging : PySem.W.nsIn K mainGlobals "_belonging" = some (some (.ref f_belonging))) (l_belonging : K.lookup f_belonging = some ⟨oc_belonging, od_belonging, .func (PySem.W.fnOf "_belonging" "_belonging" (defArgs s_belonging) (defBody s_belonging) (defScope s_belonging) .none kV_belonging dc_belonging pm_belonging an_belonging cd_belonging ct_belonging), sl_belonging⟩) (w_belonging : PySem.W.codeIn K cd_belonging "_belonging" = true) (k_belonging : PySem.W.keepIn K (.ref f_belonging) = true)
    (a_pairs : PySem.W.nsIn K mainGlobals "_pairs" = some (some (.ref f_pairs))) (l_pairs : K.lookup f_pairs = some ⟨oc_pairs, od_pairs, .func (PySem.W.fnOf "_pairs" "_pairs" (defArgs s_pairs) (defBody s_pairs) (defScope s_pairs) .none kV_pairs dc_pairs pm_pairs an_pairs cd_pairs ct_pairs), sl_pairs⟩) (w_pairs : PySem.W.codeIn K cd_pairs "_pairs" = true) (k_pairs : PySem.W.keepIn K (.ref f_pairs) = true)
    (a_below_fault : PySem.W.nsIn K mainGlobals "_below_fault" = some (some (.ref f_below_fault))) (l_below_fault : K.lookup f_below_fault = some ⟨oc_below_fault, od_below_fault, .func (PySem.W.fnOf "_below_fault" "_below_fault" (defArgs s_below_fault) (defBody s_below_fault) (defScope s_below_fault) .none kV_below_fault dc_below_fault pm_below_fault an_below_fault cd_below_fault ct_below_fault), sl_below_fault⟩) (w_below_fault : PySem.W.codeIn K cd_below_fault "_below_fault" = true) (k_below_fault : PySem.W.keepIn K (.ref f_below_fault) = true)
    (a_under_fault : PySem.W.nsIn K mainGlobals "_under_fault" = some (some (.ref f_under_fault))) (l_under_fault : K.lookup f_under_fault = some ⟨oc_under_fault, od_under_fault, .func (PySem.W.fnOf "_under_fault" "_under_fault" (defArgs s_under_fault) (defBody s_under_fault) (defScope s_under_fault) .none kV_under_fault dc_under_fault pm_under_fault an_under_fault cd_under_fault ct_under_fault), sl_under_fault⟩) (w_under_fault : PySem.W.codeIn K cd_under_fault "_under_fault" = true) (k_under_fault : PySem.W.keepIn K (.ref f_under_fault) = true)
    (a_first_fault : PySem.W.nsIn K mainGlobals "_first_fault" = some (some (.ref f_first_fault))) (l_first_fault : K.lookup f_first_fault = some ⟨oc_first_fault, od_first_fault, .func (PySem.W.fnOf "_first_fault" "_first_fault" (defArgs s_first_fault) (defBody s_first_fault) (defScope s_first_fault) .none kV_first_fault dc_first_fault pm_first_fault an_first_fault cd_first_fault ct_first_fault), sl_first_fault⟩) (w_first_fault : PySem.W.codeIn K cd_first_fault "_first_fault" = true) (k_first_fault : PySem.W.keepIn K (.ref f_first_fault) = true)
    (a_law_cell : PySem.W.nsIn K mainGlobals "_law_cell" = some (some (.ref f_law_cell))) (l_law_cell : K.lookup f_law_cell = some ⟨oc_law_cell, od_law_cell, .func (PySem.W.fnOf "_law_cell" "_law_cell" (defArgs s_law_cell) (defBody s_law_cell) (defScope s_law_cell) .none kV_law_cell dc_law_cell pm_law_cell an_law_cell cd_law_cell ct_law_cell), sl_law_cell⟩) (w_law_cell : PySem.W.codeIn K cd_law_cell "_law_cell" = true) (k_law_cell : PySem.W.keepIn K (.ref f_law_cell) = true)
    (a_law_draws : PySem.W.nsIn K mainGlobals "_law_draws" = some (some (.ref f_law_draws))) (l_law_draws : K.lookup f_law_draws = some ⟨oc_law_draws, od_law_draws, .func (PySem.W.fnOf "_law_draws" "_law_draws" (defArgs s_law_draws) (defBody s_law_draws) (defScope s_law_draws) .none kV_law_draws dc_law_draws pm_law_draws an_law_draws cd_law_draws ct_law_draws), sl_law_draws⟩) (w_law_draws : PySem.W.codeIn K cd_law_draws "_law_draws" = true) (k_law_draws : PySem.W.keepIn K (.ref f_law_draws) = true)
    (a_law_take : PySem.W.nsIn K mainGlobals "_law_take" = some (some (.ref f_law_take))) (l_law_take : K.lookup f_law_take = some ⟨oc_law_take, od_law_take, .func (PySem.W.fnOf "_law_take" "_law_take" (defArgs s_law_take) (defBody s_law_take) (defScope s_law_take) .none kV_law_take dc_law_take pm_law_take an_law_take cd_law_take ct_law_take), sl_law_take⟩) (w_law_take : PySem.W.codeIn K cd_law_take "_law_take" = true) (k_law_take : PySem.W.keepIn K (.ref f_law_take) = true)
    (a_law_frame : PySem.W.nsIn K mainGlobals "_law_frame" = some (some (.ref f_law_frame))) (l_law_frame : K.lookup f_law_frame = some ⟨oc_law_frame, od_law_frame, .func (PySem.W.fnOf "_law_frame" "_law_frame" (defArgs s_law_frame) (defBody s_law_frame) (defScope s_law_frame) .none kV_law_frame dc_law_frame pm_law_frame an_law_frame cd_law_frame ct_law_frame), sl_law_frame⟩) (w_law_frame : PySem.W.codeIn K cd_law_frame "_law_frame" = true) (k_law_frame : PySem.W.keepIn K (.ref f_law_frame) = true)
    (a_law_names : PySem.W.nsIn K mainGlobals "_law_names" = some (some (.ref f_law_names))) (l_law_names : K.lookup f_law_names = some ⟨oc_law_names, od_law_names, .func (PySem.W.fnOf "_law_names" "_law_names" (defArgs s_law_names) (defBody s_law_names) (defScope s_law_names) .none kV_law_names dc_law_names pm_law_names an_law_names cd_law_names ct_law_names), sl_law_names⟩) (w_law_names : PySem.W.codeIn K cd_law_names "_law_names" = true) (k_law_names : PySem.W.keepIn K (.ref f_law_names) = true)
    (a_law_role : PySem.W.nsIn K mainGlobals "_law_role" = some (some (.ref f_law_role))) (l_law_role : K.lookup f_law_role = some ⟨oc_law_role, od_law_role, .func (PySem.W.fnOf "_law_role" "_law_role" (defArgs s_law_role) (defBody s_law_role) (defScope s_law_role) .none kV_law_role dc_law_role pm_law_role an_law_role cd_law_role ct_law_role), sl_law_role⟩) (w_law_role : PySem.W.codeIn K cd_law_role "_law_role" = true) (k_law_role : PySem.W.keepIn K (.ref f_law_role) = true)
    (a_law_concept : PySem.W.nsIn K mainGlobals "_law_concept" = some (some (.ref f_law_concept))) (l_law_concept : K.lookup f_law_concept = some ⟨oc_law_concept, od_law_concept, .func (PySem.W.fnOf "_law_concept" "_law_concept" (defArgs s_law_concept) (defBody s_law_concept) (defScope s_law_concept) .none kV_law_concept dc_law_concept pm_law_concept an_law_concept cd_law_concept ct_law_concept), sl_law_concept⟩) (w_law_concept : PySem.W.codeIn K cd_law_concept "_law_concept" = true) (k_law_concept : PySem.W.keepIn K (.ref f_law_concept) = true)
    (a_law_statement : PySem.W.nsIn K mainGlobals "_law_statement" = some (some (.ref f_law_statement))) (l_law_statement : K.lookup f_law_statement = some ⟨oc_law_statement, od_law_statement, .func (PySem.W.fnOf "_law_statement" "_law_statement" (defArgs s_law_statement) (defBody s_law_statement) (defScope s_law_statement) .none kV_law_statement dc_law_statement pm_law_statement an_law_statement cd_law_statement ct_law_statement), sl_law_statement⟩) (w_law_statement : PySem.W.codeIn K cd_law_statement "_law_statement" = true) (k_law_statement : PySem.W.keepIn K (.ref f_law_statement) = true)
    (a_law_question : PySem.W.nsIn K mainGlobals "_law_question" = some (some (.ref f_law_question))) (l_law_question : K.lookup f_law_question = some ⟨oc_law_question, od_law_question, .func (PySem.W.fnOf "_law_question" "_law_question" (defArgs s_law_question) (defBody s_law_question) (defScope s_law_question) .none kV_law_question dc_law_question pm_law_question an_law_question cd_law_question ct_law_question), sl_law_question⟩) (w_law_question : PySem.W.codeIn K cd_law_question "_law_question" = true) (k_law_question : PySem.W.keepIn K (.ref f_law_question) = true)
    (a_law_sizes : PySem.W.nsIn K mainGlobals "_law_sizes" = some (some (.ref f_law_sizes))) (l_law_sizes : K.lookup f_law_sizes = some ⟨oc_law_sizes, od_law_sizes, .func (PySem.W.fnOf "_law_sizes" "_law_sizes" (defArgs s_law_sizes) (defBody s_law_sizes) (defScope s_law_sizes) .none kV_law_sizes dc_law_sizes pm_law_sizes an_law_sizes cd_law_sizes ct_law_sizes), sl_law_sizes⟩) (w_law_sizes : PySem.W.codeIn K cd_law_sizes "_law_sizes" = true) (k_law_sizes : PySem.W.keepIn K (.ref f_law_sizes) = true)
    (a_law_same : PySem.W.nsIn K mainGlobals "_law_same" = some (some (.ref f_law_same))) (l_law_same : K.lookup f_law_same = some ⟨oc_law_same, od_law_same, .func (PySem.W.fnOf "_law_same" "_law_same" (defArgs s_law_same) (defBody s_law_same) (defScope s_law_same) .none kV_law_same dc_law_same pm_law_same an_law_same cd_law_same ct_law_same), sl_law_same⟩) (w_law_same : PySem.W.codeIn K cd_law_same "_law_same" = true) (k_law_same : PySem.W.keepIn K (.ref f_law_same) = true)
    (a_law_model : PySem.W.nsIn K mainGlobals "_law_model" = some (some (.ref f_law_model))) (l_law_model : K.lookup f_law_model = some ⟨oc_law_model, od_law_model, .func (PySem.W.fnOf "_law_model" "_law_model" (defArgs s_law_model) (defBody s_law_model) (defScope s_law_model) .none kV_law_model dc_law_model pm_law_model an_law_model cd_law_model ct_law_model), sl_law_model⟩) (w_law_model : PySem.W.codeIn K cd_law_model "_law_model" = true) (k_law_model : PySem.W.keepIn K (.ref f_law_model) = true)
    (a_law_linked : PySem.W.nsIn K mainGlobals "_law_linked" = some (some (.ref f_law_linked))) (l_law_linked : K.lookup f_law_linked = some ⟨oc_law_linked, od_law_linked, .func (PySem.W.fnOf "_law_linked" "_law_linked" (defArgs s_law_linked) (defBody s_law_linked) (defScope s_law_linked) .none kV_law_linked dc_law_linked pm_law_linked an_law_linked cd_law_linked ct_law_linked), sl_law_linked⟩) (w_law_linked : PySem.W.codeIn K cd_law_linked "_law_linked" = true) (k_law_linked : PySem.W.keepIn K (.ref f_law_linked) = true)
    (a_law_belongs : PySem.W.nsIn K mainGlobals "_law_belongs" = some (some (.ref f_law_belongs))) (l_law_belongs : K.lookup f_law_belongs = some ⟨oc_law_belongs, od_law_belongs, .func (PySem.W.fnOf "_law_belongs" "_law_belongs" (defArgs s_law_belongs) (defBody s_law_belongs) (defScope s_law_belongs) .none kV_law_belongs dc_law_belongs pm_law_belongs an_law_belongs cd_law_belongs ct_law_belongs), sl_law_belongs⟩) (w_law_belongs : PySem.W.codeIn K cd_law_belongs "_law_belongs" = true) (k_law_belongs : PySem.W.keepIn K (.ref f_law_belongs) = true)
    (a_law_true : PySem.W.nsIn K mainGlobals "_law_true" = some (some (.ref f_law_true))) (l_law_true : K.lookup f_law_true = some ⟨oc_law_true, od_law_true, .func (PySem.W.fnOf "_law_true" "_law_true" (defArgs s_law_true) (defBody s_law_true) (defScope s_law_true) .none kV_law_true dc_law_true pm_law_true an_law_true cd_law_true ct_law_true), sl_law_true⟩) (w_law_true : PySem.W.codeIn K cd_law_true "_law_true" = true) (k_law_true : PySem.W.keepIn K (.ref f_law_true) = true)
    (a_law_told_names : PySem.W.nsIn K mainGlobals "_law_told_names" = some (some (.ref f_law_told_names))) (l_law_told_names : K.lookup f_law_told_names = some ⟨oc_law_told_names, od_law_told_names, .func (PySem.W.fnOf "_law_told_names" "_law_told_names" (defArgs s_law_told_names) (defBody s_law_told_names) (defScope s_law_told_names) .none kV_law_told_names dc_law_told_names pm_law_told_names an_law_told_names cd_law_told_names ct_law_told_names), sl_law_told_names⟩) (w_law_told_names : PySem.W.codeIn K cd_law_told_names "_law_told_names" = true) (k_law_told_names : PySem.W.keepIn K (.ref f_law_told_names) = true)
    (a_law : PySem.W.nsIn K mainGlobals "law" = some (some (.ref f_law))) (l_law : K.lookup f_law = some ⟨oc_law, od_law, .func (PySem.W.fnOf "law" "law" (defArgs s_law) (defBody s_law) (defScope s_law) .none kV_law dc_law pm_law an_law cd_law ct_law), sl_law⟩) (w_law : PySem.W.codeIn K cd_law "law" = true) (k_law : PySem.W.keepIn K (.ref f_law) = true)
    (y_all : PySem.W.nsIn K mainGlobals "all" = some none)
    (y_any : PySem.W.nsIn K mainGlobals "any" = some none)
    (y_bool : PySem.W.nsIn K mainGlobals "bool" = some none)
    (y_enumerate : PySem.W.nsIn K mainGlobals "enumerate" = some none)
    (y_inO : PySem.W.nsIn K mainGlobals "inO" = some none)
    (y_inT : PySem.W.nsIn K mainGlobals "inT" = some none)
    (y_int : PySem.W.nsIn K mainGlobals "int" = some none)
    (y_isinstance : PySem.W.nsIn K mainGlobals "isinstance" = some none)
    (y_len : PySem.W.nsIn K mainGlobals "len" = some none)
    (y_list : PySem.W.nsIn K mainGlobals "list" = some none)
    (y_min : PySem.W.nsIn K mainGlobals "min" = some none)
    (y_range : PySem.W.nsIn K mainGlobals "range" = some none)
    (y_sorted : PySem.W.nsIn K mainGlobals "sorted" = some none)
    (y_str : PySem.W.nsIn K mainGlobals "str" = some none)
    (y_tuple : PySem.W.nsIn K mainGlobals "tuple" = some none)
    (g_ANYTHING : PySem.W.nsIn K mainGlobals "ANYTHING" = some (some (.ref r_ANYTHING))) (u_ANYTHING : K.lookup r_ANYTHING = some ⟨.type "tuple", oo_ANYTHING, .seq i_ANYTHING n_ANYTHING, os_ANYTHING⟩)
    (v_ANYTHING : StrIts i_ANYTHING.toList K_ANYTHING = true) (vs_ANYTHING : decide (i_ANYTHING.size ≤ 1000) = true)
    (g_NOTHING : PySem.W.nsIn K mainGlobals "NOTHING" = some (some (.ref r_NOTHING))) (v_NOTHING : datOk K 8 (.ref r_NOTHING) K_NOTHING = true) :
    ∃ fd : FuncData, (∀ (s : Shared) (v : Value), BindsTo s fd ⟨[v], []⟩ [("script", v)]) ∧ ∀ base : Heap, K.In base → base.Ns mainGlobals mg → FnOk l.prog w K mg base CX0 20 fa fd ["script"] (spLaw K) := by
  have e := hfa.symm.trans (PySem.W.mg_of X G a_law)
  cases e
  have D_inverse : Df K mg "inverse" s_inverse f_inverse _ ["role"] := ⟨fun_mk (st := s_inverse) l_inverse w_inverse k_inverse, PySem.W.mg_of X G a_inverse, k_inverse, (fun_mk (st := s_inverse) l_inverse w_inverse k_inverse).binds (ps := ["role"]) fun _ _ _ _ _ _ us hl => match us, hl with | [_], _ => rfl⟩
  have D_core_concept : Df K mg "core_concept" s_core_concept f_core_concept _ ["names", "concept"] := ⟨fun_mk (st := s_core_concept) l_core_concept w_core_concept k_core_concept, PySem.W.mg_of X G a_core_concept, k_core_concept, (fun_mk (st := s_core_concept) l_core_concept w_core_concept k_core_concept).binds (ps := ["names", "concept"]) fun _ _ _ _ _ _ us hl => match us, hl with | [_, _], _ => rfl⟩
  have D_core_question : Df K mg "core_question" s_core_question f_core_question _ ["names", "question"] := ⟨fun_mk (st := s_core_question) l_core_question w_core_question k_core_question, PySem.W.mg_of X G a_core_question, k_core_question, (fun_mk (st := s_core_question) l_core_question w_core_question k_core_question).binds (ps := ["names", "question"]) fun _ _ _ _ _ _ us hl => match us, hl with | [_, _], _ => rfl⟩
  have D_parts : Df K mg "parts" s_parts f_parts _ ["names", "statement"] := ⟨fun_mk (st := s_parts) l_parts w_parts k_parts, PySem.W.mg_of X G a_parts, k_parts, (fun_mk (st := s_parts) l_parts w_parts k_parts).binds (ps := ["names", "statement"]) fun _ _ _ _ _ _ us hl => match us, hl with | [_, _], _ => rfl⟩
  have D_role : Df K mg "_role" s_role f_role _ ["names", "role"] := ⟨fun_mk (st := s_role) l_role w_role k_role, PySem.W.mg_of X G a_role, k_role, (fun_mk (st := s_role) l_role w_role k_role).binds (ps := ["names", "role"]) fun _ _ _ _ _ _ us hl => match us, hl with | [_, _], _ => rfl⟩
  have D_parts_of_two_concepts : Df K mg "_parts_of_two_concepts" s_parts_of_two_concepts f_parts_of_two_concepts _ ["names", "statement"] := ⟨fun_mk (st := s_parts_of_two_concepts) l_parts_of_two_concepts w_parts_of_two_concepts k_parts_of_two_concepts, PySem.W.mg_of X G a_parts_of_two_concepts, k_parts_of_two_concepts, (fun_mk (st := s_parts_of_two_concepts) l_parts_of_two_concepts w_parts_of_two_concepts k_parts_of_two_concepts).binds (ps := ["names", "statement"]) fun _ _ _ _ _ _ us hl => match us, hl with | [_, _], _ => rfl⟩
  have D_typing : Df K mg "_typing" s_typing f_typing _ ["names", "role", "concept"] := ⟨fun_mk (st := s_typing) l_typing w_typing k_typing, PySem.W.mg_of X G a_typing, k_typing, (fun_mk (st := s_typing) l_typing w_typing k_typing).binds (ps := ["names", "role", "concept"]) fun _ _ _ _ _ _ us hl => match us, hl with | [_, _, _], _ => rfl⟩
  have D_members : Df K mg "members" s_members f_members _ ["model", "concept"] := ⟨fun_mk (st := s_members) l_members w_members k_members, PySem.W.mg_of X G a_members, k_members, (fun_mk (st := s_members) l_members w_members k_members).binds (ps := ["model", "concept"]) fun _ _ _ _ _ _ us hl => match us, hl with | [_, _], _ => rfl⟩
  have D_part_fault : Df K mg "part_fault" s_part_fault f_part_fault _ ["model", "part"] := ⟨fun_mk (st := s_part_fault) l_part_fault w_part_fault k_part_fault, PySem.W.mg_of X G a_part_fault, k_part_fault, (fun_mk (st := s_part_fault) l_part_fault w_part_fault k_part_fault).binds (ps := ["model", "part"]) fun _ _ _ _ _ _ us hl => match us, hl with | [_, _], _ => rfl⟩
  have D_breaks : Df K mg "breaks" s_breaks f_breaks _ ["model", "ontology", "places"] := ⟨fun_mk (st := s_breaks) l_breaks w_breaks k_breaks, PySem.W.mg_of X G a_breaks, k_breaks, (fun_mk (st := s_breaks) l_breaks w_breaks k_breaks).binds (ps := ["model", "ontology", "places"]) fun _ _ _ _ _ _ us hl => match us, hl with | [_, _, _], _ => rfl⟩
  have D_answers : Df K mg "answers" s_answers f_answers _ ["model", "question"] := ⟨fun_mk (st := s_answers) l_answers w_answers k_answers, PySem.W.mg_of X G a_answers, k_answers, (fun_mk (st := s_answers) l_answers w_answers k_answers).binds (ps := ["model", "question"]) fun _ _ _ _ _ _ us hl => match us, hl with | [_, _], _ => rfl⟩
  have D_belonging : Df K mg "_belonging" s_belonging f_belonging _ ["model", "concept"] := ⟨fun_mk (st := s_belonging) l_belonging w_belonging k_belonging, PySem.W.mg_of X G a_belonging, k_belonging, (fun_mk (st := s_belonging) l_belonging w_belonging k_belonging).binds (ps := ["model", "concept"]) fun _ _ _ _ _ _ us hl => match us, hl with | [_, _], _ => rfl⟩
  have D_pairs : Df K mg "_pairs" s_pairs f_pairs _ ["model", "role"] := ⟨fun_mk (st := s_pairs) l_pairs w_pairs k_pairs, PySem.W.mg_of X G a_pairs, k_pairs, (fun_mk (st := s_pairs) l_pairs w_pairs k_pairs).binds (ps := ["model", "role"]) fun _ _ _ _ _ _ us hl => match us, hl with | [_, _], _ => rfl⟩
  have D_below_fault : Df K mg "_below_fault" s_below_fault f_below_fault _ ["model", "lower", "upper"] := ⟨fun_mk (st := s_below_fault) l_below_fault w_below_fault k_below_fault, PySem.W.mg_of X G a_below_fault, k_below_fault, (fun_mk (st := s_below_fault) l_below_fault w_below_fault k_below_fault).binds (ps := ["model", "lower", "upper"]) fun _ _ _ _ _ _ us hl => match us, hl with | [_, _, _], _ => rfl⟩
  have D_under_fault : Df K mg "_under_fault" s_under_fault f_under_fault _ ["model", "lower", "upper"] := ⟨fun_mk (st := s_under_fault) l_under_fault w_under_fault k_under_fault, PySem.W.mg_of X G a_under_fault, k_under_fault, (fun_mk (st := s_under_fault) l_under_fault w_under_fault k_under_fault).binds (ps := ["model", "lower", "upper"]) fun _ _ _ _ _ _ us hl => match us, hl with | [_, _, _], _ => rfl⟩
  have D_first_fault : Df K mg "_first_fault" s_first_fault f_first_fault _ ["model", "axiom"] := ⟨fun_mk (st := s_first_fault) l_first_fault w_first_fault k_first_fault, PySem.W.mg_of X G a_first_fault, k_first_fault, (fun_mk (st := s_first_fault) l_first_fault w_first_fault k_first_fault).binds (ps := ["model", "axiom"]) fun _ _ _ _ _ _ us hl => match us, hl with | [_, _], _ => rfl⟩
  have D_law_cell : Df K mg "_law_cell" s_law_cell f_law_cell _ ["script", "k"] := ⟨fun_mk (st := s_law_cell) l_law_cell w_law_cell k_law_cell, PySem.W.mg_of X G a_law_cell, k_law_cell, (fun_mk (st := s_law_cell) l_law_cell w_law_cell k_law_cell).binds (ps := ["script", "k"]) fun _ _ _ _ _ _ us hl => match us, hl with | [_, _], _ => rfl⟩
  have D_law_draws : Df K mg "_law_draws" s_law_draws f_law_draws _ ["script", "k", "count"] := ⟨fun_mk (st := s_law_draws) l_law_draws w_law_draws k_law_draws, PySem.W.mg_of X G a_law_draws, k_law_draws, (fun_mk (st := s_law_draws) l_law_draws w_law_draws k_law_draws).binds (ps := ["script", "k", "count"]) fun _ _ _ _ _ _ us hl => match us, hl with | [_, _, _], _ => rfl⟩
  have D_law_take : Df K mg "_law_take" s_law_take f_law_take _ ["draws", "many"] := ⟨fun_mk (st := s_law_take) l_law_take w_law_take k_law_take, PySem.W.mg_of X G a_law_take, k_law_take, (fun_mk (st := s_law_take) l_law_take w_law_take k_law_take).binds (ps := ["draws", "many"]) fun _ _ _ _ _ _ us hl => match us, hl with | [_, _], _ => rfl⟩
  have D_law_frame : Df K mg "_law_frame" s_law_frame f_law_frame _ ["draws"] := ⟨fun_mk (st := s_law_frame) l_law_frame w_law_frame k_law_frame, PySem.W.mg_of X G a_law_frame, k_law_frame, (fun_mk (st := s_law_frame) l_law_frame w_law_frame k_law_frame).binds (ps := ["draws"]) fun _ _ _ _ _ _ us hl => match us, hl with | [_], _ => rfl⟩
  have D_law_names : Df K mg "_law_names" s_law_names f_law_names _ ["draws"] := ⟨fun_mk (st := s_law_names) l_law_names w_law_names k_law_names, PySem.W.mg_of X G a_law_names, k_law_names, (fun_mk (st := s_law_names) l_law_names w_law_names k_law_names).binds (ps := ["draws"]) fun _ _ _ _ _ _ us hl => match us, hl with | [_], _ => rfl⟩
  have D_law_role : Df K mg "_law_role" s_law_role f_law_role _ ["draws", "names", "sizes"] := ⟨fun_mk (st := s_law_role) l_law_role w_law_role k_law_role, PySem.W.mg_of X G a_law_role, k_law_role, (fun_mk (st := s_law_role) l_law_role w_law_role k_law_role).binds (ps := ["draws", "names", "sizes"]) fun _ _ _ _ _ _ us hl => match us, hl with | [_, _, _], _ => rfl⟩
  have D_law_concept : Df K mg "_law_concept" s_law_concept f_law_concept _ ["draws", "names", "sizes", "depth"] := ⟨fun_mk (st := s_law_concept) l_law_concept w_law_concept k_law_concept, PySem.W.mg_of X G a_law_concept, k_law_concept, (fun_mk (st := s_law_concept) l_law_concept w_law_concept k_law_concept).binds (ps := ["draws", "names", "sizes", "depth"]) fun _ _ _ _ _ _ us hl => match us, hl with | [_, _, _, _], _ => rfl⟩
  have D_law_statement : Df K mg "_law_statement" s_law_statement f_law_statement _ ["draws", "names", "sizes", "depth"] := ⟨fun_mk (st := s_law_statement) l_law_statement w_law_statement k_law_statement, PySem.W.mg_of X G a_law_statement, k_law_statement, (fun_mk (st := s_law_statement) l_law_statement w_law_statement k_law_statement).binds (ps := ["draws", "names", "sizes", "depth"]) fun _ _ _ _ _ _ us hl => match us, hl with | [_, _, _, _], _ => rfl⟩
  have D_law_question : Df K mg "_law_question" s_law_question f_law_question _ ["draws", "names", "sizes", "depth"] := ⟨fun_mk (st := s_law_question) l_law_question w_law_question k_law_question, PySem.W.mg_of X G a_law_question, k_law_question, (fun_mk (st := s_law_question) l_law_question w_law_question k_law_question).binds (ps := ["draws", "names", "sizes", "depth"]) fun _ _ _ _ _ _ us hl => match us, hl with | [_, _, _, _], _ => rfl⟩
  have D_law_sizes : Df K mg "_law_sizes" s_law_sizes f_law_sizes _ ["draws"] := ⟨fun_mk (st := s_law_sizes) l_law_sizes w_law_sizes k_law_sizes, PySem.W.mg_of X G a_law_sizes, k_law_sizes, (fun_mk (st := s_law_sizes) l_law_sizes w_law_sizes k_law_sizes).binds (ps := ["draws"]) fun _ _ _ _ _ _ us hl => match us, hl with | [_], _ => rfl⟩
  have D_law_same : Df K mg "_law_same" s_law_same f_law_same _ ["actual", "due"] := ⟨fun_mk (st := s_law_same) l_law_same w_law_same k_law_same, PySem.W.mg_of X G a_law_same, k_law_same, (fun_mk (st := s_law_same) l_law_same w_law_same k_law_same).binds (ps := ["actual", "due"]) fun _ _ _ _ _ _ us hl => match us, hl with | [_, _], _ => rfl⟩
  have D_law_model : Df K mg "_law_model" s_law_model f_law_model _ ["script", "first", "sizes", "most"] := ⟨fun_mk (st := s_law_model) l_law_model w_law_model k_law_model, PySem.W.mg_of X G a_law_model, k_law_model, (fun_mk (st := s_law_model) l_law_model w_law_model k_law_model).binds (ps := ["script", "first", "sizes", "most"]) fun _ _ _ _ _ _ us hl => match us, hl with | [_, _, _, _], _ => rfl⟩
  have D_law_linked : Df K mg "_law_linked" s_law_linked f_law_linked _ ["model", "names", "role", "first", "second"] := ⟨fun_mk (st := s_law_linked) l_law_linked w_law_linked k_law_linked, PySem.W.mg_of X G a_law_linked, k_law_linked, (fun_mk (st := s_law_linked) l_law_linked w_law_linked k_law_linked).binds (ps := ["model", "names", "role", "first", "second"]) fun _ _ _ _ _ _ us hl => match us, hl with | [_, _, _, _, _], _ => rfl⟩
  have D_law_belongs : Df K mg "_law_belongs" s_law_belongs f_law_belongs _ ["model", "names", "concept"] := ⟨fun_mk (st := s_law_belongs) l_law_belongs w_law_belongs k_law_belongs, PySem.W.mg_of X G a_law_belongs, k_law_belongs, (fun_mk (st := s_law_belongs) l_law_belongs w_law_belongs k_law_belongs).binds (ps := ["model", "names", "concept"]) fun _ _ _ _ _ _ us hl => match us, hl with | [_, _, _], _ => rfl⟩
  have D_law_true : Df K mg "_law_true" s_law_true f_law_true _ ["model", "names", "tree"] := ⟨fun_mk (st := s_law_true) l_law_true w_law_true k_law_true, PySem.W.mg_of X G a_law_true, k_law_true, (fun_mk (st := s_law_true) l_law_true w_law_true k_law_true).binds (ps := ["model", "names", "tree"]) fun _ _ _ _ _ _ us hl => match us, hl with | [_, _, _], _ => rfl⟩
  have D_law_told_names : Df K mg "_law_told_names" s_law_told_names f_law_told_names _ ["names", "sizes"] := ⟨fun_mk (st := s_law_told_names) l_law_told_names w_law_told_names k_law_told_names, PySem.W.mg_of X G a_law_told_names, k_law_told_names, (fun_mk (st := s_law_told_names) l_law_told_names w_law_told_names k_law_told_names).binds (ps := ["names", "sizes"]) fun _ _ _ _ _ _ us hl => match us, hl with | [_, _], _ => rfl⟩
  have z_all : mg "all" = none := PySem.W.mg_none_of X G y_all
  have z_any : mg "any" = none := PySem.W.mg_none_of X G y_any
  have z_bool : mg "bool" = none := PySem.W.mg_none_of X G y_bool
  have z_enumerate : mg "enumerate" = none := PySem.W.mg_none_of X G y_enumerate
  have z_inO : mg "inO" = none := PySem.W.mg_none_of X G y_inO
  have z_inT : mg "inT" = none := PySem.W.mg_none_of X G y_inT
  have z_int : mg "int" = none := PySem.W.mg_none_of X G y_int
  have z_isinstance : mg "isinstance" = none := PySem.W.mg_none_of X G y_isinstance
  have z_len : mg "len" = none := PySem.W.mg_none_of X G y_len
  have z_list : mg "list" = none := PySem.W.mg_none_of X G y_list
  have z_min : mg "min" = none := PySem.W.mg_none_of X G y_min
  have z_range : mg "range" = none := PySem.W.mg_none_of X G y_range
  have z_sorted : mg "sorted" = none := PySem.W.mg_none_of X G y_sorted
  have z_str : mg "str" = none := PySem.W.mg_none_of X G y_str
  have z_tuple : mg "tuple" = none := PySem.W.mg_none_of X G y_tuple
  have m_ANYTHING : mg "ANYTHING" = some _ := PySem.W.mg_of X G g_ANYTHING
  have T_ANYTHING : ∀ H, SqT K H r_ANYTHING (K_ANYTHING.map V.str) := fun H => sqt_of u_ANYTHING v_ANYTHING vs_ANYTHING
  have m_NOTHING : mg "NOTHING" = some _ := PySem.W.mg_of X G g_NOTHING
  have T_NOTHING := dat_ref v_NOTHING
  have F_law := fun_mk (st := s_law) l_law w_law k_law
  refine ⟨PySem.W.fnOf "law" "law" (defArgs s_law) (defBody s_law) (defScope s_law) .none kV_law dc_law pm_law an_law cd_law ct_law, fun s v => .of_eq rfl, fun base _ _ => ?_⟩
  have c1 := c_law_cell (P := l.prog) (w := w) (base := base) D_law_cell z_len z_int
  have ct := c_law_take (P := l.prog) (w := w) (base := base) D_law_take z_int
  have cd := c_law_draws D_law_draws c1 z_int z_range
  have lr := c_law_role D_law_role ct
  have lc := c_law_concept D_law_concept ct lr 4
  have ro := c_role (P := l.prog) (w := w) (base := base) D_role
  have TA : ∀ M, Dp K M (.ref _) Cp.any.D := fun M => .tup (T_ANYTHING M) (.cons (.str _) .nil)
  have cc := c_core D_core_concept m_ANYTHING m_NOTHING TA T_NOTHING ro 4
  have cq := c_quest D_core_question cc
  have pp := c_parts D_parts cq ro (c_inverse D_inverse) (c_two D_parts_of_two_concepts cc m_NOTHING T_NOTHING) (c_typing D_typing cc m_ANYTHING TA) (by decide)
  have cp := c_pairs (P := l.prog) (w := w) (base := base) D_pairs z_sorted
  have cg := c_belonging D_belonging cp z_len z_range 12
  have cm := c_members D_members cg z_enumerate z_tuple
  have cpf := c_part_fault D_part_fault cp cg (c_below_fault D_below_fault cg cm) ((c_under_fault (U := true) D_under_fault cp).mono (by decide))
  have cll := c_law_linked (P := l.prog) (w := w) (base := base) D_law_linked
  have clb := c_law_belongs D_law_belongs cll z_len z_range z_any z_all 4
  have s0 := c_same_none (P := l.prog) (w := w) (base := base) D_law_same
  have s1 := c_same_int D_law_same s0 z_len z_range z_all z_isinstance z_tuple z_int z_bool z_str
  exact ok_law F_law cd ct (c_law_names D_law_names (c_law_frame D_law_frame ct z_range)) (c_law_sizes D_law_sizes ct) (c_told D_law_told_names z_tuple) (c_law_model D_law_model cd ct z_range z_tuple) lc (c_law_statement (by decide) D_law_statement ct lr lc z_min) (c_law_question (by decide) D_law_question ct lc) clb (c_law_true D_law_true cll clb z_len z_range z_any z_all z_list) cc cq pp cm (c_breaks D_breaks (c_first_fault D_first_fault cpf z_enumerate) z_tuple) (c_answers D_answers cpf) (c_same_ints D_law_same s1 z_len z_range z_all z_isinstance z_tuple z_int z_bool z_str) z_len z_range z_tuple z_isinstance z_bool
end Pf
open PySem PySem.W PyProof.Rows
set_option maxHeartbeats 0 in
theorem PySem.Challenge.cw_ontoworks_k54_whole_meaning_holds : PySem.Challenge.rw_ontoworks_k54_whole_meaning.Holds := by
  w_on; o_law; k_head; (case hw => w_witness2)
  k_fill
  refine L2.walk_of (l := PySem.Challenge.rw_ontoworks_k54_whole_meaning) (n := 63) (k := 20) (x := "script") (CX := fun _ => L2.CX0) (sp := fun w => Pf.spLaw _) rfl (by decide) rfl ⟨rfl, by decide, by decide⟩ (fun w h Y => PySem.W.kIn_of Y) ?F (fun _ _ a ns hl _ hS => ⟨a, ns, rfl, hS, hl, fun _ => rfl⟩) (fun _ _ _ _ _ h => h)
  case F =>
    intro w mg fa h KX G hmg
    refine' Pf.all_mk KX G hmg ?a_inverse ?l_inverse ?w_inverse ?k_inverse ?a_core_concept ?l_core_concept ?w_core_concept ?k_core_concept ?a_core_question ?l_core_question ?w_core_question ?k_core_question ?a_parts ?l_parts ?w_parts ?k_parts ?a_role ?l_role ?w_role ?k_role ?a_parts_of_two_concepts ?l_parts_of_two_concepts ?w_parts_of_two_concepts ?k_parts_of_two_concepts ?a_typing ?l_typing ?w_typing ?k_typing ?a_members ?l_members ?w_members ?k_members ?a_part_fault ?l_part_fault ?w_part_fault ?k_part_fault ?a_breaks ?l_breaks ?w_breaks ?k_breaks ?a_answers ?l_answers ?w_answers ?k_answers ?a_belonging ?l_belonging ?w_belonging ?k_belonging ?a_pairs ?l_pairs ?w_pairs ?k_pairs ?a_below_fault ?l_below_fault ?w_below_fault ?k_below_fault ?a_under_fault ?l_under_fault ?w_under_fault ?k_under_fault ?a_first_fault ?l_first_fault ?w_first_fault ?k_first_fault ?a_law_cell ?l_law_cell ?w_law_cell ?k_law_cell ?a_law_draws ?l_law_draws ?w_law_draws ?k_law_draws ?a_law_take ?l_law_take ?w_law_take ?k_law_take ?a_law_frame ?l_law_frame ?w_law_frame ?k_law_frame ?a_law_names ?l_law_names ?w_law_names ?k_law_names ?a_law_role ?l_law_role ?w_law_role ?k_law_role ?a_law_concept ?l_law_concept ?w_law_concept ?k_law_concept ?a_law_statement ?l_law_statement ?w_law_statement ?k_law_statement ?a_law_question ?l_law_question ?w_law_question ?k_law_question ?a_law_sizes ?l_law_sizes ?w_law_sizes ?k_law_sizes ?a_law_same ?l_law_same ?w_law_same ?k_law_same ?a_law_model ?l_law_model ?w_law_model ?k_law_model ?a_law_linked ?l_law_linked ?w_law_linked ?k_law_linked ?a_law_belongs ?l_law_belongs ?w_law_belongs ?k_law_belongs ?a_law_true ?l_law_true ?w_law_true ?k_law_true ?a_law_told_names ?l_law_told_names ?w_law_told_names ?k_law_told_names ?a_law ?l_law ?w_law ?k_law ?y_all ?y_any ?y_bool ?y_enumerate ?y_inO ?y_inT ?y_int ?y_isinstance ?y_len ?y_list ?y_min ?y_range ?y_sorted ?y_str ?y_tuple ?g_ANYTHING ?u_ANYTHING ?v_ANYTHING ?vs_ANYTHING ?g_NOTHING ?v_NOTHING
    (case a_inverse => k_is)
    (case l_inverse => k_is)
    (case w_inverse => k_is)
    (case k_inverse => k_is)
    (case a_core_concept => k_is)
    (case l_core_concept => k_is)
    (case w_core_concept => k_is)
    (case k_core_concept => k_is)
    (case a_core_question => k_is)
    (case l_core_question => k_is)
    (case w_core_question => k_is)
    (case k_core_question => k_is)
    (case a_parts => k_is)
    (case l_parts => k_is)
    (case w_parts => k_is)
    (case k_parts => k_is)
    (case a_role => k_is)
    (case l_role => k_is)
    (case w_role => k_is)
    (case k_role => k_is)
    (case a_parts_of_two_concepts => k_is)
    (case l_parts_of_two_concepts => k_is)
    (case w_parts_of_two_concepts => k_is)
    (case k_parts_of_two_concepts => k_is)
    (case a_typing => k_is)
    (case l_typing => k_is)
    (case w_typing => k_is)
    (case k_typing => k_is)
    (case a_members => k_is)
    (case l_members => k_is)
    (case w_members => k_is)
    (case k_members => k_is)
    (case a_part_fault => k_is)
    (case l_part_fault => k_is)
    (case w_part_fault => k_is)
    (case k_part_fault => k_is)
    (case a_breaks => k_is)
    (case l_breaks => k_is)
    (case w_breaks => k_is)
    (case k_breaks => k_is)
    (case a_answers => k_is)
    (case l_answers => k_is)
    (case w_answers => k_is)
    (case k_answers => k_is)
    (case a_belonging => k_is)
    (case l_belonging => k_is)
    (case w_belonging => k_is)
    (case k_belonging => k_is)
    (case a_pairs => k_is)
    (case l_pairs => k_is)
    (case w_pairs => k_is)
    (case k_pairs => k_is)
    (case a_below_fault => k_is)
    (case l_below_fault => k_is)
    (case w_below_fault => k_is)
    (case k_below_fault => k_is)
    (case a_under_fault => k_is)
    (case l_under_fault => k_is)
    (case w_under_fault => k_is)
    (case k_under_fault => k_is)
    (case a_first_fault => k_is)
    (case l_first_fault => k_is)
    (case w_first_fault => k_is)
    (case k_first_fault => k_is)
    (case a_law_cell => k_is)
    (case l_law_cell => k_is)
    (case w_law_cell => k_is)
    (case k_law_cell => k_is)
    (case a_law_draws => k_is)
    (case l_law_draws => k_is)
    (case w_law_draws => k_is)
    (case k_law_draws => k_is)
    (case a_law_take => k_is)
    (case l_law_take => k_is)
    (case w_law_take => k_is)
    (case k_law_take => k_is)
    (case a_law_frame => k_is)
    (case l_law_frame => k_is)
    (case w_law_frame => k_is)
    (case k_law_frame => k_is)
    (case a_law_names => k_is)
    (case l_law_names => k_is)
    (case w_law_names => k_is)
    (case k_law_names => k_is)
    (case a_law_role => k_is)
    (case l_law_role => k_is)
    (case w_law_role => k_is)
    (case k_law_role => k_is)
    (case a_law_concept => k_is)
    (case l_law_concept => k_is)
    (case w_law_concept => k_is)
    (case k_law_concept => k_is)
    (case a_law_statement => k_is)
    (case l_law_statement => k_is)
    (case w_law_statement => k_is)
    (case k_law_statement => k_is)
    (case a_law_question => k_is)
    (case l_law_question => k_is)
    (case w_law_question => k_is)
    (case k_law_question => k_is)
    (case a_law_sizes => k_is)
    (case l_law_sizes => k_is)
    (case w_law_sizes => k_is)
    (case k_law_sizes => k_is)
    (case a_law_same => k_is)
    (case l_law_same => k_is)
    (case w_law_same => k_is)
    (case k_law_same => k_is)
    (case a_law_model => k_is)
    (case l_law_model => k_is)
    (case w_law_model => k_is)
    (case k_law_model => k_is)
    (case a_law_linked => k_is)
    (case l_law_linked => k_is)
    (case w_law_linked => k_is)
    (case k_law_linked => k_is)
    (case a_law_belongs => k_is)
    (case l_law_belongs => k_is)
    (case w_law_belongs => k_is)
    (case k_law_belongs => k_is)
    (case a_law_true => k_is)
    (case l_law_true => k_is)
    (case w_law_true => k_is)
    (case k_law_true => k_is)
    (case a_law_told_names => k_is)
    (case l_law_told_names => k_is)
    (case w_law_told_names => k_is)
    (case k_law_told_names => k_is)
    (case a_law => k_is)
    (case l_law => k_is)
    (case w_law => k_is)
    (case k_law => k_is)
    (case y_all => k_is)
    (case y_any => k_is)
    (case y_bool => k_is)
    (case y_enumerate => k_is)
    (case y_inO => k_is)
    (case y_inT => k_is)
    (case y_int => k_is)
    (case y_isinstance => k_is)
    (case y_len => k_is)
    (case y_list => k_is)
    (case y_min => k_is)
    (case y_range => k_is)
    (case y_sorted => k_is)
    (case y_str => k_is)
    (case y_tuple => k_is)
    (case g_ANYTHING => k_is); (case u_ANYTHING => k_is)
    (case v_ANYTHING => decide +kernel); (case vs_ANYTHING => decide +kernel)
    (case g_NOTHING => k_is); (case v_NOTHING => first | kernel_rfl | rfl)