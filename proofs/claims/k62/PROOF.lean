import PyProof.Rows.All
import Wide.All
import OpenK.AllK
import Wide.FinOn
import HandS.ForMost
import HandS.StrMore
import HandS.IsInst
import HandS.FStr
import HandS.Wide
import HandS.Flow
import HandS.TupAny
import HandS.Evl
import HandS.More
import HandS.CallLocal
import HandS.Strs
import HandS.Replace
import HandS.ReplaceList
import HandS.Deep
import HandS.Walk
import HandS.MethStar
import KE.KStar
import HandS.Conv
import HandS.TupMul
import HandS.Style
import HandS.SetBool
import HandS.Gcd
import HandS.EndTab
import KE.KRevSl
import KE.SortData
import KE.SortKeyHeap
import KE.OsSortAny
import KE.GoesMore
import KE.KMathGC
import HandS.DictComp
import PySem.Challenge.RW_ontoworks_k62_shares
set_option Elab.async false
set_option linter.all false
set_option maxRecDepth 100000
set_option maxHeartbeats 4000000

namespace Pf
open PySem PySem.Spec PyProof.Rows L2
/-- a def of the top under its name, bound without defaults -/
structure Df (K : PySem.W.Frag) (mg : Str → Option Value) (x : Str) (st : Stmt) (f : Addr) (fd : FuncData) (ps : List Str) : Prop where
  fn : Fun K x x st f fd
  mgf : mg x = some (.ref f)
  kp : PySem.W.keepIn K (.ref f) = true
  bd : Binds K fd ps []
/-- a def that keeps a promise, by its name -/
structure Cl (P : Program) (w : World) (K : PySem.W.Frag) (mg : Str → Option Value) (base : Heap) (k : Nat) (x : Str) (sp : Sp) : Prop where
  ex : ∃ (f : Addr) (fd : FuncData) (ps : List Str), FnOk P w K mg base CX0 k f fd ps sp ∧ mg x = some (.ref f) ∧ PySem.W.keepIn K (.ref f) = true ∧ Binds K fd ps []
section
variable {P : Program} {w : World} {K : PySem.W.Frag} {mg : Str → Option Value} {base : Heap}
theorem Df.cl {x : Str} {st : Stmt} {f : Addr} {fd : FuncData} {ps N : List Str} {k : Nat} {sp : Sp} (D : Df K mg x st f fd ps) (S : FnScope N ps (defScope st)) (len : ∀ vs H Q E, sp vs H Q E → vs.length = ps.length)
    (hbody : ∀ (cdv : Value) (A : Around) (outer : List Env) (s : Shared) (H : Hp) (vs : List V) (Q : VK) (E : XK), Room k (A.deeper (envOfC x (defScope st) s.heap.objs.size f cdv)) → sp vs H Q E →
      ∃ t, PSs (cxOf CX0 P w K mg base N x (defScope st) f cdv A outer s H E).nox (defBody st) t ∧ t { nx := fun _ H' => Q .non H', rt := Q } (start N vs) H) : Cl P w K mg base (k + 1) x sp :=
  ⟨f, fd, ps, D.fn.ok S len hbody, D.mgf, D.kp, D.bd⟩
theorem Cl.imp {x : Str} {k : Nat} {sp sp' : Sp} (c : Cl P w K mg base k x sp) (h : ∀ vs H Q E, sp' vs H Q E → sp vs H Q E) : Cl P w K mg base k x sp' := by
  obtain ⟨f, fd, ps, F, r⟩ := c.ex
  exact ⟨f, fd, ps, F.imp h, r⟩
theorem Cl.mono {x : Str} {k j : Nat} {sp : Sp} (c : Cl P w K mg base k x sp) (h : k ≤ j) : Cl P w K mg base j x sp := by
  obtain ⟨f, fd, ps, F, r⟩ := c.ex
  exact ⟨f, fd, ps, F.mono h, r⟩
end
section
variable {X : Cx} {k j : Nat} {x : Str} {sp : Sp} {p pos : Pos} {e : Expr} {es : List Expr} {t : TA}
theorem pc (c : Cl X.prog X.w X.K X.mg X.base k x sp) (hr : Room j X.A) (hk : k ≤ j) (hg : Gl X x) (ha : PA X (e :: es) t)
    (hdb : (x == ("__debug__" : Str)) = false := by decide) (he : starEach (e :: es) X.env = (false, eval e X.env) :: starEach es X.env := by rfl) (hpl : (backTo pos (starEach es X.env)).any (·.1) = false := by rfl) :
    PE X (.Call (.Name x p) (e :: es) [] pos) (tCall sp [] E0 t) := by
  obtain ⟨f, fd, ps, F, hm, kp, b⟩ := c.ex
  exact pe_call F (hr.mono hk) hg hm kp b .nil pass0 ha hdb he hpl
theorem pc0 (c : Cl X.prog X.w X.K X.mg X.base k x sp) (hr : Room j X.A) (hk : k ≤ j) (hg : Gl X x)
    (hdb : (x == ("__debug__" : Str)) = false := by decide) :
    PE X (.Call (.Name x p) [] [] pos) (tCall sp [] E0 tNil) := by
  obtain ⟨f, fd, ps, F, hm, kp, b⟩ := c.ex
  exact pe_call0 F (hr.mono hk) hg hm kp b .nil pass0 hdb
end
/-! heaps -/
theorem Same.new {H : Hp} {p : Addr} (o : HO) (h : H p = none) : Same H (upd H p o) := fun b u e => by
  rw [upd_ne (ne_of_none e h)]
  exact e
theorem Same.seqT {K : PySem.W.Frag} {H H' : Hp} {a : Addr} {xs : List V} (e : Same H H') (h : SqT K H a xs) : SqT K H' a xs := by
  rcases h with (h | ⟨o, h⟩) | h
  · exact .inl (.inl (e _ _ h))
  · exact .inl (.inr ⟨o, e _ _ h⟩)
  · exact .inr h
theorem upd_self {H : Hp} {a : Addr} {o : HO} (h : H a = some o) : upd H a o = H := by
  funext b
  unfold upd
  split
  · rename_i e
    rw [e, h]
  · rfl
/-! one short for the sign of a code -/
abbrev sg (c : Nat) : Str := ⟨#[c]⟩
/-! a written tuple of texts -/
def StrIts : List Value → List Str → Bool
  | [], [] => true
  | .str x _ :: vs, y :: ys => decide (x = y) && StrIts vs ys
  | _, _ => false
theorem strIts_vals : ∀ {vs : List Value} {ys : List Str}, StrIts vs ys = true → Vals (ys.map V.str) vs
  | [], [], _ => .nil
  | .str x t :: vs, y :: ys, h => by
    unfold StrIts at h
    rw [Bool.and_eq_true] at h
    have e := of_decide_eq_true h.1
    subst e
    exact .cons ⟨t, rfl⟩ (strIts_vals h.2)
theorem sqt_of {K : PySem.W.Frag} {H : Hp} {a : Addr} {od : Option Addr} {its : Array Value} {n : Nat} {sl : Array (Option Value)} {ys : List Str} (l : K.lookup a = some ⟨.type "tuple", od, .seq its n, sl⟩) (h : StrIts its.toList ys = true) (hs : decide (its.size ≤ 1000) = true) : SqT K H a (ys.map V.str) :=
  .inr ⟨_, its, n, l, rfl, rfl, Nat.le_trans (of_decide_eq_true hs) (by decide), strIts_vals h⟩
/-! the drawing helpers: what a caller needs of them -/
/-- _law_cell: some int -/
def spCell (K : PySem.W.Frag) : Sp := fun vs H Q _ => ∃ (a : Addr) (ns : List Int) (k : Int), vs = [.ref a, .int k] ∧ SqL K H a (ns.map V.int) ∧ ns.length ≤ 63 ∧ 0 ≤ k ∧ ∀ c : Int, Q (.int c) H
/-- _law_draws: a new list of so many ints, none below 0 -/
def spDraws (K : PySem.W.Frag) : Sp := fun vs H Q _ => ∃ (a : Addr) (ns : List Int) (k n : Int), vs = [.ref a, .int k, .int n] ∧ SqL K H a (ns.map V.int) ∧ ns.length ≤ 63 ∧ 0 ≤ k ∧ 0 ≤ n ∧ n ≤ 1000 ∧
  ∀ (ds : List Int) (p : Addr) (H' : Hp), Same H H' → H p = none → H' p = some (.lst (ds.map V.int)) → (ds.length : Int) = n → Q (.ref p) H'
/-- _law_take: an int below m; the list without its first -/
def spTake : Sp := fun vs H Q _ => ∃ (l : Addr) (ds : List Int) (m : Int), vs = [.ref l, .int m] ∧ H l = some (.lst (ds.map V.int)) ∧ 0 < m ∧ ∀ r : Int, 0 ≤ r → r < m → Q (.int r) (upd H l (.lst (ds.tail.map V.int)))
theorem map_tail {ds : List Int} : (ds.map V.int).tail = ds.tail.map V.int := by cases ds <;> rfl
theorem eraseIdx0 {α : Type} (xs : List α) : xs.eraseIdx 0 = xs.tail := by cases xs <;> rfl
/-- text * count -/
def rMulS : R2 := fun x y H Q => ∃ (z : Str) (n : Int), x = .str z ∧ y = .int n ∧ 0 ≤ n ∧ n ≤ 1000 ∧ z.length ≤ 10000 ∧ Q (.str (Txt.mul z n)) H
theorem mul_ok {z : Str} {n : Int} (h0 : 0 ≤ n) (h1 : n ≤ 1000) (hz : z.length ≤ 10000) : MulOk z n := by
  refine ⟨?_, fun h2 _ => ?_, fun _ _ => ?_⟩
  · rw [decide_eq_false (by omega), decide_eq_false (by omega)]
    rfl
  · intro h3
    have h4 : (2 ^ 63 - 1) / n ≥ (2 ^ 63 - 1) / 1000 := by
      refine Int.le_ediv_of_mul_le (by omega) ?_
      have : (2 ^ 63 - 1 : Int) / 1000 * n ≤ (2 ^ 63 - 1) / 1000 * 1000 := Int.mul_le_mul_of_nonneg_left h1 (by decide)
      exact Int.le_trans this (by decide)
    have h5 : ((2 : Int) ^ 63 - 1) / 1000 ≥ 10001 := by decide
    omega
  · unfold Builtin.Str.tooLong
    refine decide_eq_false ?_
    have : z.length * n.toNat ≤ 10000 * 1000 := Nat.mul_le_mul hz (by omega)
    have : sizeLine ≥ 10000000 := by decide
    omega
theorem op_mul_str {X : Cx} : OpR X (binaryOp .Mult) rMulS := by
  intro pins s σ H x y v u Q I rx ry h
  obtain ⟨z, n, rfl, rfl, h0, h1, hz, q⟩ := h
  obtain ⟨t, rfl⟩ := rx
  obtain ⟨t', rfl⟩ := ry
  exact PySem.SB.mul (mul_ok h0 h1 hz) fun t' k => ⟨.str (Txt.mul z n), H, I.tok _, ⟨_, rfl⟩, q⟩
/-- data of tuples, so many deep -/
def TupN : Nat → PyData → Prop
  | 0, _ => False
  | n + 1, .tuple ds => ds.length ≤ 100000 ∧ ∀ d ∈ ds, TupN n d
  | _ + 1, .list _ => False
  | _ + 1, .dict _ => False
  | _ + 1, _ => True
/-- _law_same upon the same data twice -/
def spSame (K : PySem.W.Frag) (n : Nat) : Sp := fun vs H Q _ => ∃ (x y : V) (d : PyData), vs = [x, y] ∧ Dp K H x d ∧ Dp K H y d ∧ TupN n d ∧ ∀ H', Same H H' → Q (.bl true) H'
theorem dpAll_len {K : PySem.W.Frag} {H : Hp} : ∀ {vs : List V} {ds : List PyData}, DpAll K H vs ds → vs.length = ds.length
  | _, _, .nil => rfl
  | _, _, .cons _ t => congrArg Nat.succ (dpAll_len t)
theorem dpAll_at {K : PySem.W.Frag} {H : Hp} : ∀ {vs : List V} {ds : List PyData}, DpAll K H vs ds → ∀ (i : Nat) (v : V) (d : PyData), vs[i]? = some v → ds[i]? = some d → Dp K H v d
  | _, _, .nil, i, v, d, h, _ => by simp at h
  | _, _, .cons a _, 0, v, d, h, h' => by
    simp at h h'
    rw [← h, ← h']
    exact a
  | _, _, .cons _ t, i + 1, v, d, h, h' => dpAll_at t i v d (by simpa using h) (by simpa using h')
mutual
theorem Dp.same {K : PySem.W.Frag} {H H' : Hp} (e : Same H H') : ∀ {d : PyData} {v : V}, Dp K H v d → Dp K H' v d
  | _, _, .non => .non
  | _, _, .bl b => .bl b
  | _, _, .int i => .int i
  | _, _, .str x => .str x
  | _, _, .lst h a => .lst (e.seq h) (DpAll.same e a)
  | _, _, .tup h a => .tup (Same.seqT e h) (DpAll.same e a)
theorem DpAll.same {K : PySem.W.Frag} {H H' : Hp} (e : Same H H') : ∀ {ds : List PyData} {vs : List V}, DpAll K H vs ds → DpAll K H' vs ds
  | _, _, .nil => .nil
  | _, _, .cons a t => .cons (Dp.same e a) (DpAll.same e t)
end
theorem tyT {K : PySem.W.Frag} {H : Hp} {a : Addr} {xs : List V} (h : SqT K H a xs) : TyX K H (.ref a) (.type "tuple") := by
  rcases h with (h | ⟨o, h⟩) | ⟨o, _, _, h, hc, _⟩
  · exact .base (.tup h)
  · exact .fTuple h
  · exact .kTuple h hc
theorem atI_some {α : Type} {xs : List α} {i : Nat} (h : i < xs.length) : atI xs (i : Int) = some xs[i] := atI_nat (List.getElem?_eq_getElem h)
/-- a sign that a text may have -/
def ChrOk (c : Nat) : Prop := 32 ≤ c ∧ c ≤ 126 ∧ c ≠ 37
instance (c : Nat) : Decidable (ChrOk c) := inferInstanceAs (Decidable (_ ∧ _))
def spChar : Sp := fun vs H Q _ => ∃ d : Int, vs = [.int d] ∧ ∀ c : Nat, ChrOk c → Q (.str (sg c)) H
/-! rules whose reading names the written part, said with it given (a comprehension's block wants that) -/
theorem ixT {X : Cx} {K : PySem.W.Frag} (h : X.K = K := by rfl) : IxR X (rIxT K) := by
  subst h
  exact ix_tup
theorem ixL {X : Cx} {K : PySem.W.Frag} (h : X.K = K := by rfl) : IxR X (rIxL K) := by
  subst h
  exact ix_list
def rLenQ (K : PySem.W.Frag) : List V → Hp → VK → Prop := fun xs H Q => ∃ p ys, xs = [.ref p] ∧ (SqL K H p ys ∨ SqT K H p ys) ∧ Q (.int ys.length) H
theorem lenQ {X : Cx} {K : PySem.W.Frag} (h : X.K = K := by rfl) : CallR X (.builtin "len") (rLenQ K) := by
  subst h
  exact call_len_seq
section
variable {K : PySem.W.Frag} {σ : L2.St} {H : Hp} {i : Nat} {x : V} {t T : String} {tt u : TS} {D : Ends}
theorem ev_isi {b : Bool} {Q : VK} (h : σ[i]? = some (some x)) (ty : TyX K H x (.type t)) (k : kitB t T = some b) (q : Q (.bl b) H) : tCB (rIsi K) (tCons (tVar i) (tCons (tC (.ty T)) tNil)) σ H Q := ⟨x, h, x, .ty T, _, _, b, rfl, .ty _, ty, kit_ty k, q⟩
theorem if_isiF (h : σ[i]? = some (some x)) (ty : TyX K H x (.type t)) (k : kitB t T = some false) (q : u D σ H) : tIfS (tB (tCB (rIsi K) (tCons (tVar i) (tCons (tC (.ty T)) tNil)))) tt u D σ H := ev_isi h ty k ⟨_, rfl, iteF q⟩
theorem if_isiT (h : σ[i]? = some (some x)) (ty : TyX K H x (.type t)) (k : kitB t T = some true) (q : tt D σ H) : tIfS (tB (tCB (rIsi K) (tCons (tVar i) (tCons (tC (.ty T)) tNil)))) tt u D σ H := ev_isi h ty k ⟨_, rfl, iteT q⟩
end
/-- an object that H does not know may change -/
theorem Same.mut {H H1 : Hp} {p : Addr} (o : HO) (e : Same H H1) (n : H p = none) : Same H (upd H1 p o) := fun b u h => by
  rw [upd_ne (ne_of_none h n)]
  exact e b u h
end Pf
namespace Pf
open PySem PySem.Spec PyProof.Rows L2
/-! data of tuples stands while lists change -/
def KT (K : PySem.W.Frag) (H H' : Hp) : Prop := ∀ a xs, SqT K H a xs → SqT K H' a xs
theorem KT.of {K : PySem.W.Frag} {H H' : Hp} (e : Same H H') : KT K H H' := fun _ _ h => Same.seqT e h
theorem KT.trans {K : PySem.W.Frag} {H H1 H2 : Hp} (a : KT K H H1) (b : KT K H1 H2) : KT K H H2 := fun x xs h => b x xs (a x xs h)
theorem KT.lst {K : PySem.W.Frag} {H : Hp} {l : Addr} {xs : List V} (o : HO) (h : H l = some (.lst xs)) : KT K H (upd H l o) := fun a ys q => by
  rcases q with (q | ⟨ob, q⟩) | q
  · exact .inl (.inl ((upd_ne (ne_of q h (by intro z; cases z))).trans q))
  · exact .inl (.inr ⟨ob, (upd_ne (ne_of q h (by intro z; cases z))).trans q⟩)
  · exact .inr q
theorem KT.ins {K : PySem.W.Frag} {H : Hp} {l C dx : Addr} {fs : List (Str × V)} (o : HO) (h : H l = some (.ins C dx fs)) : KT K H (upd H l o) := fun a ys q => by
  rcases q with (q | ⟨ob, q⟩) | q
  · exact .inl (.inl ((upd_ne (ne_of q h (by intro z; cases z))).trans q))
  · exact .inl (.inr ⟨ob, (upd_ne (ne_of q h (by intro z; cases z))).trans q⟩)
  · exact .inr q
theorem KT.new {K : PySem.W.Frag} {H : Hp} {l : Addr} (o : HO) (h : H l = none) : KT K H (upd H l o) := KT.of (Same.new o h)
mutual
theorem Dp.kt {K : PySem.W.Frag} {H H' : Hp} (e : KT K H H') : ∀ {n : Nat} {d : PyData} {v : V}, TupN n d → Dp K H v d → Dp K H' v d
  | _, _, _, _, .non => .non
  | _, _, _, _, .bl b => .bl b
  | _, _, _, _, .int i => .int i
  | _, _, _, _, .str x => .str x
  | 0, _, _, z, .lst _ _ => z.elim
  | _ + 1, _, _, z, .lst _ _ => z.elim
  | 0, _, _, z, .tup _ _ => z.elim
  | _ + 1, _, _, z, .tup h a => .tup (e _ _ h) (DpAll.kt e z.2 a)
theorem DpAll.kt {K : PySem.W.Frag} {H H' : Hp} (e : KT K H H') : ∀ {n : Nat} {ds : List PyData} {vs : List V}, (∀ d ∈ ds, TupN n d) → DpAll K H vs ds → DpAll K H' vs ds
  | _, _, _, _, .nil => .nil
  | _, _, _, z, .cons a t => .cons (Dp.kt e (z _ (List.mem_cons_self ..)) a) (DpAll.kt e (fun d hd => z d (List.mem_cons_of_mem _ hd)) t)
end
theorem dpAll_app {K : PySem.W.Frag} {H : Hp} : ∀ {vs ws : List V} {ds es : List PyData}, DpAll K H vs ds → DpAll K H ws es → DpAll K H (vs ++ ws) (ds ++ es)
  | _, _, _, _, .nil, h => h
  | _, _, _, _, .cons a t, h => .cons a (dpAll_app t h)
/-! a slice of a list of ints -/
def cutI {α : Type} (ds : List α) (lo hi : Option Int) : List α := (ds.drop (HT.sIx ds.length 0 lo)).take (HT.sIx ds.length ds.length hi - HT.sIx ds.length 0 lo)
theorem cutV_map {α : Type} (f : α → V) (ds : List α) (lo hi : Option Int) : cutV (ds.map f) lo hi = (cutI ds lo hi).map f := by
  unfold cutV cutI
  rw [List.length_map, List.map_take, List.map_drop]
end Pf
namespace Pf
open PySem PySem.Spec PyProof.Rows L2
/-- all but d stands -/
def SameX (d : Addr) (H H' : Hp) : Prop := ∀ b o, b ≠ d → H b = some o → H' b = some o
theorem SameX.refl (d : Addr) (H : Hp) : SameX d H H := fun _ _ _ h => h
theorem SameX.trans {d : Addr} {H H1 H2 : Hp} (a : SameX d H H1) (b : SameX d H1 H2) : SameX d H H2 := fun x o n h => b x o n (a x o n h)
theorem SameX.new {d p : Addr} {H : Hp} (o : HO) (h : H p = none) : SameX d H (upd H p o) := fun b u _ e => Same.new o h b u e
theorem SameX.at {d : Addr} {H : Hp} (o : HO) : SameX d H (upd H d o) := fun b u n e => (upd_ne n).trans e
theorem SameX.mut {d p : Addr} {H H1 : Hp} (o : HO) (e : SameX d H H1) (h : H p = none) : SameX d H (upd H1 p o) := fun b u n q => by
  rw [upd_ne (ne_of_none q h)]
  exact e b u n q
theorem SameX.of {d : Addr} {H H' : Hp} (e : Same H H') : SameX d H H' := fun b o _ h => e b o h
theorem KT.x {K : PySem.W.Frag} {d : Addr} {H H' : Hp} {xs : List V} (h : H d = some (.lst xs)) (e : SameX d H H') : KT K H H' := fun a ys q => by
  rcases q with (q | ⟨ob, q⟩) | q
  · exact .inl (.inl (e _ _ (ne_of q h (by intro z; cases z)) q))
  · exact .inl (.inr ⟨ob, e _ _ (ne_of q h (by intro z; cases z)) q⟩)
  · exact .inr q
theorem SameX.free {d p : Addr} {H H' : Hp} (e : SameX d H H') (n : p ≠ d) (h : H' p = none) : H p = none := by
  cases q : H p with
  | none => rfl
  | some o =>
    rw [e p o n q] at h
    cases h
end Pf

namespace Pf
open PySem PySem.Spec PyProof.Rows L2
/-! texts by the lists of their codes -/
abbrev T (l : List Nat) : Str := ⟨l.toArray⟩
theorem T_of (x : Str) : x = T x.cps.toList := TL.ext_tl rfl
theorem T_len (l : List Nat) : (T l).length = l.length := by simp [Str.length]
theorem T_cat (a b : List Nat) : T a ++ T b = T (a ++ b) := TL.ext_tl (TL.tl_append (T a) (T b))
theorem T_inj {a b : List Nat} (h : T a = T b) : a = b := congrArg (fun x : Str => x.cps.toList) h
theorem T_eq {a b : List Nat} : decide (T a = T b) = decide (a = b) := by
  by_cases h : a = b
  · rw [h, decide_eq_true rfl, decide_eq_true rfl]
  · rw [decide_eq_false h, decide_eq_false fun e => h (T_inj e)]
theorem V_eq {a b : List Nat} : decide (V.str (T a) = V.str (T b)) = decide (a = b) := by
  by_cases h : a = b
  · rw [h, decide_eq_true rfl, decide_eq_true rfl]
  · rw [decide_eq_false h, decide_eq_false fun e => h (T_inj (V.str.inj e))]
theorem cut_to (l : List Nat) (n : Nat) : cutS (T l) none (some (n : Int)) = T (l.take n) := by
  unfold cutS
  rw [HT.sIx_none, HT.sIx_nat, T_len]
  refine TL.ext_tl ?_
  show (l.drop 0).take (min n l.length - 0) = l.take n
  rw [List.drop_zero, Nat.sub_zero, ← List.take_eq_take_min]
theorem cut_from (l : List Nat) (n : Nat) : cutS (T l) (some (n : Int)) none = T (l.drop n) := by
  unfold cutS
  rw [HT.sIx_none, HT.sIx_nat, T_len]
  refine TL.ext_tl ?_
  show (l.drop (min n l.length)).take (l.length - min n l.length) = l.drop n
  by_cases h : n ≤ l.length
  · rw [Nat.min_eq_left h, List.take_of_length_le (by rw [List.length_drop]; omega)]
  · rw [Nat.min_eq_right (by omega), List.drop_eq_nil_of_le (by omega), List.drop_eq_nil_of_le (by omega), List.take_nil]
theorem cut_mid (l : List Nat) {a b : Nat} (ha : a ≤ b) (hb : b ≤ l.length) : cutS (T l) (some (a : Int)) (some (b : Int)) = T ((l.drop a).take (b - a)) := by
  unfold cutS
  rw [HT.sIx_nat, HT.sIx_nat, T_len, Nat.min_eq_left (show a ≤ l.length by omega), Nat.min_eq_left hb]
/-- a text walked by its signs -/
theorem for_txt {l : List Nat} {g : TG} {tb : TS} {D : Ends} {σ : L2.St} {H : Hp} (Pv : Nat → L2.St → Hp → Prop) (h0 : Pv 0 σ H)
    (hs : ∀ i c σ H, l[i]? = some c → Pv i σ H → g (.str (sg c)) σ H fun σ2 H2 => tb { D with nx := Pv (i + 1), ct := Pv (i + 1), bk := D.nx } σ2 H2) (hd : ∀ σ H, Pv l.length σ H → D.nx σ H) :
    ∃ W : Nat → Nat → L2.St → Hp → Prop, (∃ m, W 0 m σ H) ∧ ∀ i m σ H, W i m σ H →
      ((Its (T l)).stop i H ∧ D.nx σ H) ∨ ((Its (T l)).go i H ∧ ∃ N : L2.St → Hp → Prop, (∀ σ' H', N σ' H' → ∃ m', m' < m ∧ W (i + 1) m' σ' H') ∧ ∀ x H', (Its (T l)).yld i H x H' → g x σ H' fun σ2 H2 => tb { D with nx := N, ct := N, bk := D.nx } σ2 H2) := by
  refine ⟨fun i m σ H => m = l.length - i ∧ i ≤ l.length ∧ Pv i σ H, ⟨l.length, by simp, Nat.zero_le _, h0⟩, ?_⟩
  rintro i m σ H ⟨rfl, hi, p⟩
  by_cases hlt : i < l.length
  · refine .inr ⟨(by show i < l.toArray.size; simpa using hlt), Pv (i + 1), fun σ' H' p' => ⟨l.length - (i + 1), by omega, rfl, hlt, p'⟩, fun x H' y => ?_⟩
    obtain ⟨rfl, c, hc, rfl⟩ := y
    exact hs i c σ H' (by simpa using hc) p
  · have e : i = l.length := by omega
    subst e
    exact .inl ⟨(by show l.toArray.size ≤ l.length; simp), hd _ _ p⟩
/-- a comprehension over a text -/
theorem lc_txt {l : List Nat} {g : TG} {tt : TT} {te : TE} {vs : List Nat} {σ : L2.St} {H1 : Hp} {D : Addr} {Qd : Hp → Prop} (Pv : Nat → Hp → Prop) (h0 : Pv 0 (upd H1 D (.lst [])))
    (hs : ∀ i c H, l[i]? = some c → Pv i H → g (.str (sg c)) (wipe σ vs) H fun σ2 H2 => wipe σ2 vs = wipe σ vs ∧ tt σ2 H2 fun b H3 =>
      if b = true then te σ2 H3 fun y H4 => ∃ acc, H4 D = some (.lst acc) ∧ acc.length < sizeLine ∧ Pv (i + 1) (upd H4 D (.lst (acc ++ [y]))) else Pv (i + 1) H3) (hd : ∀ H, Pv l.length H → Qd H) :
    ∃ W : Nat → Nat → Hp → Prop, (∃ m, W 0 m (upd H1 D (.lst []))) ∧ ∀ i m H, W i m H →
      ((Its (T l)).stop i H ∧ Qd H) ∨ ((Its (T l)).go i H ∧ ∃ Nx : Hp → Prop, (∀ H', Nx H' → ∃ m', m' < m ∧ W (i + 1) m' H') ∧ ∀ x H', (Its (T l)).yld i H x H' → g x (wipe σ vs) H' fun σ2 H2 => wipe σ2 vs = wipe σ vs ∧ tt σ2 H2 fun b H3 =>
        if b = true then te σ2 H3 fun y H4 => ∃ acc, H4 D = some (.lst acc) ∧ acc.length < sizeLine ∧ Nx (upd H4 D (.lst (acc ++ [y]))) else Nx H3) := by
  refine ⟨fun i m H => m = l.length - i ∧ i ≤ l.length ∧ Pv i H, ⟨l.length, by simp, Nat.zero_le _, h0⟩, ?_⟩
  rintro i m H ⟨rfl, hi, p⟩
  by_cases hlt : i < l.length
  · refine .inr ⟨(by show i < l.toArray.size; simpa using hlt), Pv (i + 1), fun H' p' => ⟨l.length - (i + 1), by omega, rfl, hlt, p'⟩, fun x H' y => ?_⟩
    obtain ⟨rfl, c, hc, rfl⟩ := y
    exact hs i c H' (by simpa using hc) p
  · have e : i = l.length := by omega
    subst e
    exact .inl ⟨(by show l.toArray.size ≤ l.length; simp), hd _ p⟩
theorem small9 {n : Nat} (h : n ≤ 1000000) : n ≤ sizeLine := Nat.le_trans h (by decide)
/-- a sign of a text all of whose signs are of a kind -/
theorem ix_of {z : Str} {i : Int} {H : Hp} {Q : VK} (p : Nat → Bool) (h0 : 0 ≤ i) (h1 : i < (z.length : Int)) (hz : z.length ≤ sizeLine) (hc : z.cps.toList.all p = true) (q : ∀ c, p c = true → Q (.str (sg c)) H) : rIxS (.str z) (.int i) H Q := by
  have hl : z.length = z.cps.toList.length := by simp [Str.length]
  have hi : i.toNat < z.cps.toList.length := by omega
  have ei : i = ((i.toNat : Nat) : Int) := by omega
  refine ⟨z, i, z.cps.toList[i.toNat], rfl, rfl, hz, ?_, q _ (List.all_eq_true.mp hc _ (List.getElem_mem hi))⟩
  have := atI_some hi
  rw [← ei] at this
  exact this
theorem nl_eq : Str.ofString "\n" = T [10] := by decide +kernel
theorem e_eq : Str.ofString "" = T [] := by decide +kernel
theorem at_any {α : Type} {xs : List α} (p : α → Prop) {i : Int} (h0 : 0 ≤ i) (h1 : i < (xs.length : Int)) (h : ∀ x ∈ xs, p x) : ∃ v, p v ∧ atI xs i = some v := by
  have hi : i.toNat < xs.length := by omega
  have ei : i = ((i.toNat : Nat) : Int) := by omega
  refine ⟨xs[i.toNat], h _ (List.getElem_mem hi), ?_⟩
  have := atI_some hi
  rw [← ei] at this
  exact this
theorem inV_strs (x : Str) (ys : List Str) : inV (.str x) (ys.map V.str) = decide (x ∈ ys) := by
  unfold inV
  rw [List.any_map]
  induction ys with
  | nil => rfl
  | cons y ys ih =>
    rw [List.any_cons, ih]
    show ((y == x) || decide (x ∈ ys)) = decide (x ∈ y :: ys)
    by_cases h : y = x
    · subst h
      rw [beq_self_eq_true, Bool.true_or, decide_eq_true (List.mem_cons_self ..)]
    · rw [beq_false_of_ne h, Bool.false_or]
      by_cases h2 : x ∈ ys
      · rw [decide_eq_true h2, decide_eq_true (List.mem_cons_of_mem _ h2)]
      · rw [decide_eq_false h2, decide_eq_false]
        intro h3
        rcases List.mem_cons.mp h3 with h3 | h3
        · exact h h3.symm
        · exact h2 h3
theorem flat_strs (ys : List Str) : (ys.map V.str).all flatV = true := by
  rw [List.all_map, List.all_eq_true]
  intro x _
  rfl
theorem join_T (a : List Nat) (ys : List (List Nat)) : Txt.join (T a) (ys.map T) = T (TL.joinL a ys) := by
  rw [TL.join_eq]
  refine TL.ext_tl ?_
  rw [TL.tl_join, List.map_map]
  have e : ys.map (TL.tl ∘ T) = ys := by
    induction ys with
    | nil => rfl
    | cons y ys ih =>
      rw [List.map_cons, ih]
      rfl
  rw [e]
/-! the kinds of signs -/
def isL (c : Nat) : Bool := decide (c ∈ (Str.ofString "abcdefghijklmnopqrstuvwxyzABCDEFGHIJKLMNOPQRSTUVWXYZ_").cps.toList)
def isW (c : Nat) : Bool := isL c || decide (c ∈ (Str.ofString "0123456789").cps.toList)
def isB (c : Nat) : Bool := decide (c ∈ (Str.ofString " \n").cps.toList)
def isS (c : Nat) : Bool := decide (c ∈ (Str.ofString "();,:").cps.toList)
end Pf

namespace Pf
open PySem PySem.Spec PyProof.Rows L2
/-! written trees as data -/
def strsV (ns : List (List Nat)) : List V := ns.map fun n => V.str (T n)
def lit (s : String) : List Nat := (Str.ofString s).cps.toList
theorem lit_T (s : String) : Str.ofString s = T (lit s) := T_of _
abbrev Rol := List Nat × Bool
def rolD (r : Rol) : PyData := .tuple [.str (T r.1), .bool r.2]
inductive Con where
  | any | nothing
  | name (s : List Nat)
  | not (c : Con)
  | both (c d : Con)
  | either (c d : Con)
  | some (r : Rol) (c : Con)
  | all (r : Rol) (c : Con)
namespace Con
def D : Con → PyData
  | .any => .tuple [.str (Str.ofString "anything")]
  | .nothing => .tuple [.str (Str.ofString "nothing")]
  | .name s => .tuple [.str (Str.ofString "name"), .str (T s)]
  | .not c => .tuple [.str (Str.ofString "not"), c.D]
  | .both c d => .tuple [.str (Str.ofString "and"), c.D, d.D]
  | .either c d => .tuple [.str (Str.ofString "or"), c.D, d.D]
  | .some r c => .tuple [.str (Str.ofString "some"), rolD r, c.D]
  | .all r c => .tuple [.str (Str.ofString "all"), rolD r, c.D]
/-- how many trees are within one another -/
def dp : Con → Nat
  | .not c => c.dp + 1
  | .both c d => max c.dp d.dp + 1
  | .either c d => max c.dp d.dp + 1
  | .some _ c => c.dp + 1
  | .all _ c => c.dp + 1
  | _ => 0
/-- a bound of its text -/
def sz : Con → Nat
  | .name s => s.length + 20
  | .not c => c.sz + 20
  | .both c d => c.sz + d.sz + 20
  | .either c d => c.sz + d.sz + 20
  | .some r c => r.1.length + c.sz + 40
  | .all r c => r.1.length + c.sz + 40
  | _ => 20
end Con
theorem rolN (r : Rol) : TupN 2 (rolD r) := ⟨(by show 2 ≤ 100000; decide), fun d hd => by
  rcases List.mem_cons.mp hd with rfl | hd
  · trivial
  rw [List.mem_singleton.mp hd]
  trivial⟩
theorem TupN.up : ∀ {n : Nat} {d : PyData}, TupN n d → TupN (n + 1) d
  | 0, _, h => h.elim
  | n + 1, .tuple ds, h => ⟨h.1, fun d hd => TupN.up (h.2 d hd)⟩
  | _ + 1, .list _, h => h.elim
  | _ + 1, .dict _, h => h.elim
  | _ + 1, .none, _ => trivial
  | _ + 1, .bool _, _ => trivial
  | _ + 1, .int _, _ => trivial
  | _ + 1, .str _, _ => trivial
theorem TupN.le {n m : Nat} {d : PyData} (h : TupN n d) (e : n ≤ m) : TupN m d := by
  obtain ⟨k, rfl⟩ : ∃ k, m = n + k := ⟨m - n, by omega⟩
  induction k with
  | zero => exact h
  | succ k ih => exact (ih (by omega)).up
theorem tupN_of {n : Nat} {ds : List PyData} (hl : ds.length ≤ 100000) (h : ∀ d ∈ ds, TupN n d) : TupN (n + 1) (.tuple ds) := ⟨hl, h⟩
theorem tup1 {n : Nat} {a : PyData} (ha : TupN n a) : TupN (n + 1) (.tuple [a]) := ⟨(by show 1 ≤ 100000; decide), fun d hd => by
  rw [List.mem_singleton.mp hd]
  exact ha⟩
theorem tup2 {n : Nat} {a b : PyData} (ha : TupN n a) (hb : TupN n b) : TupN (n + 1) (.tuple [a, b]) := ⟨(by show 2 ≤ 100000; decide), fun d hd => by
  rcases List.mem_cons.mp hd with rfl | hd
  · exact ha
  rw [List.mem_singleton.mp hd]
  exact hb⟩
theorem tup3 {n : Nat} {a b c : PyData} (ha : TupN n a) (hb : TupN n b) (hc : TupN n c) : TupN (n + 1) (.tuple [a, b, c]) := ⟨(by show 3 ≤ 100000; decide), fun d hd => by
  rcases List.mem_cons.mp hd with rfl | hd
  · exact ha
  rcases List.mem_cons.mp hd with rfl | hd
  · exact hb
  rw [List.mem_singleton.mp hd]
  exact hc⟩
theorem tup4 {n : Nat} {a b c e : PyData} (ha : TupN n a) (hb : TupN n b) (hc : TupN n c) (he : TupN n e) : TupN (n + 1) (.tuple [a, b, c, e]) := ⟨(by show 4 ≤ 100000; decide), fun d hd => by
  rcases List.mem_cons.mp hd with rfl | hd
  · exact ha
  rcases List.mem_cons.mp hd with rfl | hd
  · exact hb
  rcases List.mem_cons.mp hd with rfl | hd
  · exact hc
  rw [List.mem_singleton.mp hd]
  exact he⟩
theorem strN (n : Nat) (x : Str) : TupN (n + 1) (.str x) := trivial
theorem Con.tn : ∀ c : Con, TupN (c.dp + 3) c.D
  | .any => tup1 trivial
  | .nothing => tup1 trivial
  | .name _ => tup2 trivial trivial
  | .not c => tup2 trivial (Con.tn c)
  | .both c d => tup3 trivial ((Con.tn c).le (by show c.dp + 3 ≤ max c.dp d.dp + 3; omega)) ((Con.tn d).le (by show d.dp + 3 ≤ max c.dp d.dp + 3; omega))
  | .either c d => tup3 trivial ((Con.tn c).le (by show c.dp + 3 ≤ max c.dp d.dp + 3; omega)) ((Con.tn d).le (by show d.dp + 3 ≤ max c.dp d.dp + 3; omega))
  | .some r c => tup3 trivial ((rolN r).le (by omega)) (Con.tn c)
  | .all r c => tup3 trivial ((rolN r).le (by omega)) (Con.tn c)
/-! data taken apart -/
section
variable {K : PySem.W.Frag} {H : Hp} {v : V}
theorem dp_tup {ds : List PyData} (h : Dp K H v (.tuple ds)) : ∃ a xs, v = .ref a ∧ SqT K H a xs ∧ DpAll K H xs ds := by
  cases h with
  | tup h a => exact ⟨_, _, rfl, h, a⟩
theorem dp_str {x : Str} (h : Dp K H v (.str x)) : v = .str x := by
  cases h
  rfl
theorem dp_bool {b : Bool} (h : Dp K H v (.bool b)) : v = .bl b := by
  cases h
  rfl
theorem dp_int {i : Int} (h : Dp K H v (.int i)) : v = .int i := by
  cases h
  rfl
theorem da_cons {xs : List V} {d : PyData} {ds : List PyData} (h : DpAll K H xs (d :: ds)) : ∃ x r, xs = x :: r ∧ Dp K H x d ∧ DpAll K H r ds := by
  cases h with
  | cons a t => exact ⟨_, _, rfl, a, t⟩
theorem da_nil {xs : List V} (h : DpAll K H xs []) : xs = [] := by
  cases h
  rfl
theorem dp1 {x : Str} (h : Dp K H v (.tuple [.str x])) : ∃ a, v = .ref a ∧ SqT K H a [.str x] := by
  obtain ⟨a, xs, rfl, hs, hd⟩ := dp_tup h
  obtain ⟨y, r, rfl, h1, hd⟩ := da_cons hd
  cases da_nil hd
  cases dp_str h1
  exact ⟨a, rfl, hs⟩
theorem dp2 {x : Str} {d : PyData} (h : Dp K H v (.tuple [.str x, d])) : ∃ a y, v = .ref a ∧ SqT K H a [.str x, y] ∧ Dp K H y d := by
  obtain ⟨a, xs, rfl, hs, hd⟩ := dp_tup h
  obtain ⟨y, r, rfl, h1, hd⟩ := da_cons hd
  obtain ⟨z, r, rfl, h2, hd⟩ := da_cons hd
  cases da_nil hd
  cases dp_str h1
  exact ⟨a, z, rfl, hs, h2⟩
theorem dp3 {x : Str} {d e : PyData} (h : Dp K H v (.tuple [.str x, d, e])) : ∃ a y z, v = .ref a ∧ SqT K H a [.str x, y, z] ∧ Dp K H y d ∧ Dp K H z e := by
  obtain ⟨a, xs, rfl, hs, hd⟩ := dp_tup h
  obtain ⟨y, r, rfl, h1, hd⟩ := da_cons hd
  obtain ⟨z, r, rfl, h2, hd⟩ := da_cons hd
  obtain ⟨w, r, rfl, h3, hd⟩ := da_cons hd
  cases da_nil hd
  cases dp_str h1
  exact ⟨a, z, w, rfl, hs, h2, h3⟩
theorem dp4 {x : Str} {d e g : PyData} (h : Dp K H v (.tuple [.str x, d, e, g])) : ∃ a y z w, v = .ref a ∧ SqT K H a [.str x, y, z, w] ∧ Dp K H y d ∧ Dp K H z e ∧ Dp K H w g := by
  obtain ⟨a, xs, rfl, hs, hd⟩ := dp_tup h
  obtain ⟨y, r, rfl, h1, hd⟩ := da_cons hd
  obtain ⟨z, r, rfl, h2, hd⟩ := da_cons hd
  obtain ⟨w, r, rfl, h3, hd⟩ := da_cons hd
  obtain ⟨u, r, rfl, h4, hd⟩ := da_cons hd
  cases da_nil hd
  cases dp_str h1
  exact ⟨a, z, w, u, rfl, hs, h2, h3, h4⟩
theorem dpRol {r : Rol} (h : Dp K H v (rolD r)) : ∃ a, v = .ref a ∧ SqT K H a [.str (T r.1), .bl r.2] := by
  obtain ⟨a, y, rfl, hs, h2⟩ := dp2 h
  cases dp_bool h2
  exact ⟨a, rfl, hs⟩
end
/-! a test whose texts are written -/
section
variable {K : PySem.W.Frag} {σ : L2.St} {H : Hp} {i : Nat} {s t t' : Str} {tt u : TS} {D : Ends}
theorem if_eqF (h : σ[i]? = some (some (.str s))) (hd : decide (s = t) = false) (q : u D σ H) : tIfS (tTest (tOp rEq (tVar i) (tC (.str t)))) tt u D σ H := ⟨_, h, rfl, _, rfl, by
  rw [decide_eq_false (fun z => of_decide_eq_false hd (V.str.inj z))]
  exact iteF q⟩
theorem if_eqT (h : σ[i]? = some (some (.str s))) (hd : decide (s = t) = true) (q : tt D σ H) : tIfS (tTest (tOp rEq (tVar i) (tC (.str t)))) tt u D σ H := ⟨_, h, rfl, _, rfl, by
  rw [decide_eq_true (congrArg V.str (of_decide_eq_true hd))]
  exact iteT q⟩
theorem if_eq2F (h : σ[i]? = some (some (.str s))) (hd : (decide (s = t) || decide (s = t')) = false) (q : u D σ H) : tIfS (tOr (tTest (tOp rEq (tVar i) (tC (.str t)))) (tTest (tOp rEq (tVar i) (tC (.str t'))))) tt u D σ H := by
  rw [Bool.or_eq_false_iff] at hd
  refine ⟨_, h, rfl, _, rfl, ?_⟩
  rw [decide_eq_false (fun z => of_decide_eq_false hd.1 (V.str.inj z))]
  refine iteF ⟨_, h, rfl, _, rfl, ?_⟩
  rw [decide_eq_false (fun z => of_decide_eq_false hd.2 (V.str.inj z))]
  exact iteF q
theorem if_eq2T (h : σ[i]? = some (some (.str s))) (hd : (decide (s = t) || decide (s = t')) = true) (q : tt D σ H) : tIfS (tOr (tTest (tOp rEq (tVar i) (tC (.str t)))) (tTest (tOp rEq (tVar i) (tC (.str t'))))) tt u D σ H := by
  refine ⟨_, h, rfl, _, rfl, ?_⟩
  by_cases e : s = t
  · rw [decide_eq_true (congrArg V.str e)]
    exact iteT (iteT q)
  · rw [decide_eq_false (fun z => e (V.str.inj z))]
    rw [decide_eq_false e, Bool.false_or] at hd
    refine iteF ⟨_, h, rfl, _, rfl, ?_⟩
    rw [decide_eq_true (congrArg V.str (of_decide_eq_true hd))]
    exact iteT q
theorem if_in2 {b : Bool} (h : σ[i]? = some (some (.str s))) (hd : (decide (s = t) || decide (s = t')) = b) (q1 : b = true → ∀ p, H p = none → tt D σ (upd H p (.tup [.str t, .str t']))) (q2 : b = false → ∀ p, H p = none → u D σ (upd H p (.tup [.str t, .str t']))) :
    tIfS (tTest (tOp (rIn K false) (tVar i) (tTup (tCons (tC (.str t)) (tCons (tC (.str t')) tNil))))) tt u D σ H := by
  refine ⟨_, h, by show 2 ≤ sizeLine; decide, fun p hp => ⟨p, _, rfl, .inr (SqT.of upd_same), rfl, rfl, b, ?_, ?_⟩⟩
  · show V.bl (inV (.str s) [.str t, .str t']) = .bl b
    rw [show [V.str t, V.str t'] = [t, t'].map V.str from rfl, inV_strs, ← hd, ← Bool.decide_or]
    exact congrArg V.bl (decide_eq_decide.mpr (by simp))
  · cases b with
    | true => exact iteT (q1 rfl p hp)
    | false => exact iteF (q2 rfl p hp)
theorem if_in2T (h : σ[i]? = some (some (.str s))) (hd : (decide (s = t) || decide (s = t')) = true) (q : ∀ p, H p = none → tt D σ (upd H p (.tup [.str t, .str t']))) :
    tIfS (tTest (tOp (rIn K false) (tVar i) (tTup (tCons (tC (.str t)) (tCons (tC (.str t')) tNil))))) tt u D σ H := if_in2 h hd (fun _ => q) (fun z => Bool.noConfusion z)
theorem if_in2F (h : σ[i]? = some (some (.str s))) (hd : (decide (s = t) || decide (s = t')) = false) (q : ∀ p, H p = none → u D σ (upd H p (.tup [.str t, .str t']))) :
    tIfS (tTest (tOp (rIn K false) (tVar i) (tTup (tCons (tC (.str t)) (tCons (tC (.str t')) tNil))))) tt u D σ H := if_in2 h hd (fun z => Bool.noConfusion z) (fun _ => q)
end
/-! texts glued in an f-string -/
section
variable {σ : L2.St} {H : Hp} {ts : List TE} {te : TE} {Q : Str → Hp → Prop}
theorem js_c {a : List Nat} {s : String} (hl : decide ((lit s).length ≤ 20) = true) (hz : a.length ≤ 400000) (q : tJs ts (T (a ++ lit s)) σ H Q) : tJs (tC (.str (Str.ofString s)) :: ts) (T a) σ H Q := by
  refine ⟨Str.ofString s, rfl, ?_, ?_⟩
  · rw [Str.length_append, lit_T, T_len, T_len]
    have := of_decide_eq_true hl
    exact small9 (by omega)
  · rw [lit_T s, T_cat]
    exact q
/-- a field whose value is a text: te gives it, the heap may have grown -/
theorem js_e {a b : List Nat} (ht : ∀ R : VK, (∀ H', Same H H' → R (.str (T b)) H') → te σ H R) (hb : b.length ≤ 400000) (hz : a.length ≤ 400000) (q : ∀ H', Same H H' → tJs ts (T (a ++ b)) σ H' Q) : tJs (tFmt te :: ts) (T a) σ H Q := by
  refine ht _ fun H' e => .inl ⟨T b, rfl, by rw [T_len]; exact small9 (by omega), T b, rfl, by rw [Str.length_append, T_len, T_len]; exact small9 (by omega), ?_⟩
  rw [T_cat]
  exact q H' e
theorem js_0 (q : tJs ts (T []) σ H Q) : tJs ts Str.empty σ H Q := q
theorem js_end {a : List Nat} (q : Q (T a) H) : tJs [] (T a) σ H Q := q
end
end Pf
namespace Pf
open PySem PySem.Spec PyProof.Rows L2
/-! what gives a text, from a heap on -/
def GT (te : TE) (σ : L2.St) (H : Hp) (b : List Nat) : Prop := ∀ H1, Same H H1 → ∀ R : VK, (∀ H', Same H1 H' → R (.str (T b)) H') → te σ H1 R
def rAddS : R2 := fun x y H Q => ∃ i j, x = V.str i ∧ y = V.str j ∧ i.length + j.length ≤ sizeLine ∧ Q (.str (i ++ j)) H
section
variable {σ : L2.St} {H H' : Hp} {ta tb te : TE} {a b : List Nat} {i : Nat}
theorem GT.mono (g : GT te σ H b) (e : Same H H') : GT te σ H' b := fun H1 e1 R r => g H1 (e.trans e1) R r
theorem gt_c (s : String) : GT (tC (.str (Str.ofString s))) σ H (lit s) := fun H1 _ R r => by
  have := r H1 (Same.refl _)
  rw [← lit_T] at this
  exact this
theorem gt_var (h : σ[i]? = some (some (.str (T b)))) : GT (tVar i) σ H b := fun H1 _ R r => ⟨_, h, r H1 (Same.refl _)⟩
theorem gt_varL {s : String} (h : σ[i]? = some (some (.str (Str.ofString s)))) : GT (tVar i) σ H (lit s) := fun H1 _ R r => ⟨_, h, by
  have := r H1 (Same.refl _)
  rw [← lit_T] at this
  exact this⟩
theorem gt_add (ha : GT ta σ H a) (hb : GT tb σ H b) (la : a.length ≤ 400000) (lb : b.length ≤ 400000) : GT (tOp rAddS ta tb) σ H (a ++ b) := fun H1 e R r =>
  ha H1 e _ fun H2 e2 => hb H2 (e.trans e2) _ fun H3 e3 => ⟨_, _, rfl, rfl, by rw [T_len, T_len]; exact small9 (by omega), by
    rw [T_cat]
    exact r H3 (e2.trans e3)⟩
theorem gt_ret {D : Ends} (h : GT te σ H b) (q : ∀ H', Same H H' → D.rt (.str (T b)) H') : tRet te D σ H := h H (Same.refl _) _ q
theorem gt_set {D : Ends} (h : GT te σ H b) (q : ∀ H', Same H H' → D.nx (σ.set i (some (.str (T b)))) H') : tAsg te (gName i) D σ H := h H (Same.refl _) _ q
end
/-! statements and questions as they are written -/
inductive Stm where
  | below (c d : Con) | equals (c d : Con) | apart (c d : Con)
  | domain (r : Rol) (c : Con) | range (r : Rol) (c : Con)
  | under (r s : Rol) | inverse (a b : List Nat) | is (a : List Nat) (c : Con) | has (a b c : List Nat) | never
namespace Stm
def D : Stm → PyData
  | .below c d => .tuple [.str (Str.ofString "below"), c.D, d.D]
  | .equals c d => .tuple [.str (Str.ofString "equals"), c.D, d.D]
  | .apart c d => .tuple [.str (Str.ofString "apart"), c.D, d.D]
  | .domain r c => .tuple [.str (Str.ofString "domain"), rolD r, c.D]
  | .range r c => .tuple [.str (Str.ofString "range"), rolD r, c.D]
  | .under r s => .tuple [.str (Str.ofString "under"), rolD r, rolD s]
  | .inverse a b => .tuple [.str (Str.ofString "inverse"), .str (T a), .str (T b)]
  | .is a c => .tuple [.str (Str.ofString "is"), .str (T a), c.D]
  | .has a b c => .tuple [.str (Str.ofString "has"), .str (T a), .str (T b), .str (T c)]
  | .never => .tuple [.str (Str.ofString "never")]
def dp : Stm → Nat
  | .below c d | .equals c d | .apart c d => max c.dp d.dp
  | .domain _ c | .range _ c | .is _ c => c.dp
  | _ => 0
def sz : Stm → Nat
  | .below c d | .equals c d | .apart c d => c.sz + d.sz + 40
  | .domain r c | .range r c => r.1.length + c.sz + 40
  | .is a c => a.length + c.sz + 40
  | .under r s => r.1.length + s.1.length + 40
  | .inverse a b => a.length + b.length + 40
  | .has a b c => a.length + b.length + c.length + 40
  | .never => 40
theorem tn : ∀ s : Stm, TupN (s.dp + 4) s.D
  | .below c d | .equals c d | .apart c d => tup3 trivial ((Con.tn c).le (by show c.dp + 3 ≤ max c.dp d.dp + 3; omega)) ((Con.tn d).le (by show d.dp + 3 ≤ max c.dp d.dp + 3; omega))
  | .domain r c | .range r c => tup3 trivial ((rolN r).le (by omega)) (Con.tn c)
  | .under r s => tup3 trivial ((rolN r).le (by omega)) ((rolN s).le (by omega))
  | .inverse a b => tup3 trivial trivial trivial
  | .is a c => tup3 trivial trivial (Con.tn c)
  | .has a b c => tup4 trivial trivial trivial trivial
  | .never => tup1 trivial
end Stm
end Pf

namespace Pf
open PySem PySem.Spec PyProof.Rows L2
/-! pure expressions: what gives a value, or data, from a heap on that only grows -/
def GV (te : TE) (σ : L2.St) (H : Hp) (v : V) : Prop := ∀ H1, Same H H1 → ∀ R : VK, (∀ H', Same H1 H' → R v H') → te σ H1 R
def GD (K : PySem.W.Frag) (te : TE) (σ : L2.St) (H : Hp) (d : PyData) : Prop := ∀ H1, Same H H1 → ∀ R : VK, (∀ v H', Same H1 H' → Dp K H' v d → R v H') → te σ H1 R
def GDs (K : PySem.W.Frag) (ta : TA) (σ : L2.St) (H : Hp) (ds : List PyData) : Prop := ∀ H1, Same H H1 → ∀ R : List V → Hp → Prop, (∀ vs H', Same H1 H' → DpAll K H' vs ds → R vs H') → ta σ H1 R
/-- a tuple whose object has no attributes of its own -/
def PlainT (o : Obj) : Prop := o.cls = .type "tuple" ∧ o.dict = none
def FzT (K : PySem.W.Frag) (H : Hp) (p : Addr) : Prop := (∃ o u, H p = some (.frz o u) ∧ PlainT o) ∨ ∃ o, K.lookup p = some o ∧ PlainT o
section
variable {X : Cx}
/-- tuple(a list), its object known -/
theorem call_tupleF : CallR X (.type "tuple") (fun xs H Q => ∃ p ys, xs = [.ref p] ∧ SqL X.K H p ys ∧ ∀ l o, H l = none → PlainT o → Q (.ref l) (upd H l (.frz o (.tup ys)))) := by
  intro pins s σ H xs us Q I rel hyp
  obtain ⟨p, ys, hx, hq, q⟩ := hyp
  subst hx
  obtain ⟨u, hu, rx⟩ := vals1 rel
  subst hu
  cases rx
  obtain ⟨its, hv, pl, hz⟩ := I.list hq
  have hl := hv.length
  refine call_tuple_list pl.isList (fun h2 kp => ?_) (by simp only [List.size_toArray] <;> omega)
  have J : Inv X pins σ H { s with heap := h2 } := I.kept (t' := s.toks) kp
  refine ⟨.ref h2.objs.size, upd H h2.objs.size (.frz { cls := .type "tuple", data := .seq its.toArray } (.tup ys)), ?_, rfl, q _ _ (J.hok.fresh (Nat.le_refl _)) ⟨rfl, rfl⟩⟩
  refine J.laid (t' := s.toks) (fun b o e => Heap.get?_push_of_some _ e) (Nat.le_refl _) ⟨Heap.get?_push_size _ rfl, ?_⟩
  exact ⟨hz, its, hv, IsTup.new _ _⟩
theorem fzT_is {pins : List (Addr × Obj)} {σ : L2.St} {H : Hp} {s : Shared} {p : Addr} (I : Inv X pins σ H s) (h : FzT X.K H p) :
    s.TypeIs (.ref p) "tuple" ∧ ∀ a, Value.ref p = .ref a → ∃ ob, s.heap.get? a = some ob ∧ ob.dict = none := by
  rcases h with ⟨o, u, h1, h2⟩ | ⟨o, h1, h2⟩
  · have h3 := (I.hok p _ h1).1
    refine ⟨⟨o, h3, h2.1⟩, fun a e => ?_⟩
    cases e
    exact ⟨o, h3, h2.2⟩
  · have h3 := I.kIn p o h1
    refine ⟨⟨o, h3, h2.1⟩, fun a e => ?_⟩
    cases e
    exact ⟨o, h3, h2.2⟩
def tBMT (K : PySem.W.Frag) (r : V → List V → Hp → VK → Prop) (to : TE) (t : TA) : TE := fun σ H Q => to σ H fun x H1 => (∃ p, x = .ref p ∧ FzT K H1 p) ∧ t σ H1 fun xs H2 => r x xs H2 Q
/-- a method of such a tuple -/
theorem pe_bmT {o e : Expr} {es : List Expr} {to : TE} {t : TA} {name : Str} {apos cpos : Pos} {id : String} {r : V → List V → Hp → VK → Prop} (slot : Slot "tuple" name id) (hty : typeOf (.builtin id) = pure (.type "method_descriptor")) (hm : MtR X id r) (ho : PE X o to) (ha : PA X (e :: es) t)
    (h1 : attributeBase o name X.env (eval o X.env) = eval o X.env := by rfl)
    (h2 : ((backTo cpos (starEach (e :: es) X.env)).all (fun x => !x.1) && (backToKw cpos (keywordEach [] X.env)).all (fun x => x.1.isSome) && decide ((e :: es).length + ([] : List Keyword).length + (if ([] : List Keyword).isEmpty then 0 else 1) < 30)) = true := by rfl)
    (h3 : (apos.endLine == cpos.line) = true := by rfl) (h4 : starEach (e :: es) X.env = (false, eval e X.env) :: starEach es X.env := by rfl) (h5 : (backTo cpos (starEach es X.env)).any (·.1) = false := by rfl) :
    PE X (.Call (.Attribute o name apos) (e :: es) [] cpos) (tBMT X.K r to t) := by
  refine ⟨fun pins s σ H Q I h => wpAny_Call_method_late h1 h2 h3 rfl (thn (ho.run pins s σ H _ I h) fun v s1 q => ?_)⟩
  obtain ⟨x, H1, I1, r1, ⟨p, ex, hp⟩, q1⟩ := q
  subst ex
  cases r1
  obtain ⟨k1, k2⟩ := fzT_is I1 hp
  refine ⟨"tuple", id, PySem.F.plainAttrs_tuple, slot, hty, k1, k2, ?_⟩
  have hA := ha.run cpos pins s1 σ H1 _ I1 q1
  rw [h4] at hA ⊢
  refine Calls.callWith_builtin (by show (false || (backTo cpos (starEach es X.env)).any (·.1)) = false; rw [h5] <;> rfl) (Calls.evalArgs_plain ?_)
  exact thn hA fun us s2 ⟨vs, H2, I2, r2, q2⟩ => hm pins s2 σ H2 (.ref p) vs (.ref p) us Q I2 rfl r2 q2
end
section
variable {K : PySem.W.Frag} {σ : L2.St} {H H' : Hp} {ta tb te tf to : TE} {tl : TA} {v : V} {d e : PyData} {ds : List PyData} {D : Ends} {i : Nat}
theorem GV.mono (g : GV te σ H v) (e : Same H H') : GV te σ H' v := fun H1 e1 R r => g H1 (e.trans e1) R r
theorem GD.mono (g : GD K te σ H d) (e : Same H H') : GD K te σ H' d := fun H1 e1 R r => g H1 (e.trans e1) R r
theorem GDs.mono (g : GDs K tl σ H ds) (e : Same H H') : GDs K tl σ H' ds := fun H1 e1 R r => g H1 (e.trans e1) R r
theorem gv_c : GV (tC v) σ H v := fun H1 _ R r => r H1 (Same.refl _)
theorem gv_var (h : σ[i]? = some (some v)) : GV (tVar i) σ H v := fun H1 _ R r => ⟨_, h, r H1 (Same.refl _)⟩
theorem gv_ixT {a : Addr} {xs : List V} {j : Int} {x : V} (h : GV te σ H (.ref a)) (hs : SqT K H a xs) (hx : atI xs j = some x) : GV (tOp (rIxT K) te (tC (.int j))) σ H x := fun H1 e R r =>
  h H1 e _ fun H2 e2 => ⟨a, _, j, _, rfl, rfl, Same.seqT (e.trans e2) hs, hx, r H2 e2⟩
theorem gv_ixL {a : Addr} {xs : List V} {j : Int} {x : V} (h : GV te σ H (.ref a)) (hs : SqL K H a xs) (hx : atI xs j = some x) : GV (tOp (rIxL K) te (tC (.int j))) σ H x := fun H1 e R r =>
  h H1 e _ fun H2 e2 => ⟨a, _, j, _, rfl, rfl, (e.trans e2).seq hs, hx, r H2 e2⟩
theorem strs_at {ns : List (List Nat)} {s : List Nat} (h : s ∈ ns) : (strsV ns)[ns.idxOf s]? = some (.str (T s)) := by
  have h1 := List.idxOf_lt_length_of_mem h
  show (ns.map _)[ns.idxOf s]? = _
  rw [List.getElem?_map, List.getElem?_eq_getElem h1, List.getElem_idxOf]
  rfl
theorem strs_ne {ns : List (List Nat)} {s t : List Nat} {m : Nat} (h : m < ns.idxOf s) (ht : ns[m]? = some t) : t ≠ s := by
  intro e
  obtain ⟨h1, h2⟩ := List.getElem?_eq_some_iff.mp ht
  have := List.not_of_lt_findIdx (p := (· == s)) (xs := ns) (i := m) h
  rw [h2, e] at this
  simp at this
theorem gv_idxL {a : Addr} {ns : List (List Nat)} {s : List Nat} (h : GV to σ H (.ref a)) (hs : SqL K H a (strsV ns)) (hx : GV te σ H (.str (T s))) (hm : s ∈ ns) : GV (tBM K "list" (rIndex K) to (tCons te tNil)) σ H (.int ((ns.idxOf s : Nat) : Int)) := fun H1 e1 R r =>
  h H1 e1 _ fun H2 e2 => ⟨.inl ⟨rfl, _, (e1.trans e2).seq hs⟩, hx H2 (e1.trans e2) _ fun H3 e3 => ⟨a, strsV ns, _, ns.idxOf s, _, rfl, rfl, ((e1.trans e2).trans e3).seq hs, rfl, by
    unfold strsV
    rw [List.all_map, List.all_eq_true]
    intro x _
    rfl, strs_at hm, beq_self_eq_true _, fun m z hml hz => by
      unfold strsV at hz
      rw [List.getElem?_map] at hz
      cases ht : ns[m]? with
      | none => rw [ht] at hz; cases hz
      | some t =>
        rw [ht] at hz
        cases hz
        exact beq_false_of_ne fun q => strs_ne hml ht (T_inj q), r H3 (e2.trans e3)⟩⟩
theorem gv_idxT {a : Addr} {ns : List (List Nat)} {s : List Nat} (h : GV to σ H (.ref a)) (hs : SqT K H a (strsV ns)) (hf : FzT K H a) (hx : GV te σ H (.str (T s))) (hm : s ∈ ns) :
    GV (tBMT K (fun x xs H Q => ∃ p, ∃ ys : List Str, ∃ z j, x = .ref p ∧ xs = [.str z] ∧ SqT K H p (ys.map V.str) ∧ ys[j]? = some z ∧ (∀ m, m < j → ys[m]? ≠ some z) ∧ Q (.int (j : Nat)) H) to (tCons te tNil)) σ H (.int ((ns.idxOf s : Nat) : Int)) := fun H1 e1 R r =>
  h H1 e1 _ fun H2 e2 => ⟨⟨a, rfl, by
    rcases hf with ⟨o, u, h1, h2⟩ | h1
    · exact .inl ⟨o, u, e2 _ _ (e1 _ _ h1), h2⟩
    · exact .inr h1⟩, hx H2 (e1.trans e2) _ fun H3 e3 => ⟨a, ns.map T, T s, ns.idxOf s, rfl, rfl, by
      rw [List.map_map]
      exact Same.seqT ((e1.trans e2).trans e3) hs, by
      have h1 := List.idxOf_lt_length_of_mem hm
      rw [List.getElem?_map, List.getElem?_eq_getElem h1, List.getElem_idxOf]
      rfl, fun m hml hz => by
      rw [List.getElem?_map] at hz
      cases ht : ns[m]? with
      | none => rw [ht] at hz; cases hz
      | some t =>
        rw [ht] at hz
        exact strs_ne hml ht (T_inj (Option.some.inj hz)), r H3 (e2.trans e3)⟩⟩
theorem gd_of (g : GV te σ H v) (h : Dp K H v d) : GD K te σ H d := fun H1 e R r => g H1 e R fun H' e' => r v H' e' (Dp.same (e.trans e') h)
theorem gd_str {s : Str} : GD K (tC (.str s)) σ H (.str s) := gd_of gv_c (.str s)
theorem gd_int {j : Int} (g : GV te σ H (.int j)) : GD K te σ H (.int j) := gd_of g (.int j)
theorem gd_bl {b : Bool} (g : GV te σ H (.bl b)) : GD K te σ H (.bool b) := gd_of g (.bl b)
theorem gd_var (h : σ[i]? = some (some v)) (hd : Dp K H v d) : GD K (tVar i) σ H d := gd_of (gv_var h) hd
theorem gds_nil : GDs K tNil σ H [] := fun H1 _ R r => r [] H1 (Same.refl _) .nil
theorem gds_cons (h : GD K te σ H d) (t : GDs K tl σ H ds) : GDs K (tCons te tl) σ H (d :: ds) := fun H1 e R r =>
  h H1 e _ fun v H2 e2 hv => t H2 (e.trans e2) _ fun vs H3 e3 hs => r (v :: vs) H3 (e2.trans e3) (.cons (Dp.same e3 hv) hs)
theorem gd_tup (h : GDs K tl σ H ds) (hl : ds.length ≤ 1000) : GD K (tTup tl) σ H (.tuple ds) := fun H1 e R r =>
  h H1 e _ fun vs H2 e2 hv => ⟨by rw [dpAll_len hv]; exact Nat.le_trans hl (by decide), fun p hp => r (.ref p) _ (e2.trans (Same.new _ hp)) (.tup (.of upd_same) (DpAll.same (Same.new _ hp) hv))⟩
theorem gd_ret (g : GD K te σ H d) (q : ∀ v H', Same H H' → Dp K H' v d → D.rt v H') : tRet te D σ H := g H (Same.refl _) _ q
theorem gd_set (g : GD K te σ H d) (q : ∀ v H', Same H H' → Dp K H' v d → D.nx (σ.set i (some v)) H') : tAsg te (gName i) D σ H := g H (Same.refl _) _ q
theorem gv_set (g : GV te σ H v) (q : ∀ H', Same H H' → D.nx (σ.set i (some v)) H') : tAsg te (gName i) D σ H := g H (Same.refl _) _ q
theorem gd_1 (h : GD K te σ H d) : GDs K (tCons te tNil) σ H [d] := gds_cons h gds_nil
theorem gd_t1 (h : GD K te σ H d) : GD K (tTup (tCons te tNil)) σ H (.tuple [d]) := gd_tup (gd_1 h) (by show 1 ≤ 1000; decide)
theorem gd_t2 (h : GD K ta σ H d) (h' : GD K tb σ H e) : GD K (tTup (tCons ta (tCons tb tNil))) σ H (.tuple [d, e]) := gd_tup (gds_cons h (gd_1 h')) (by show 2 ≤ 1000; decide)
theorem gd_t3 {e' : PyData} (h : GD K ta σ H d) (h' : GD K tb σ H e) (h2 : GD K te σ H e') : GD K (tTup (tCons ta (tCons tb (tCons te tNil)))) σ H (.tuple [d, e, e']) := gd_tup (gds_cons h (gds_cons h' (gd_1 h2))) (by show 3 ≤ 1000; decide)
theorem gd_t4 {e' e2 : PyData} (h : GD K ta σ H d) (h' : GD K tb σ H e) (h2 : GD K te σ H e') (h3 : GD K tf σ H e2) : GD K (tTup (tCons ta (tCons tb (tCons te (tCons tf tNil))))) σ H (.tuple [d, e, e', e2]) := gd_tup (gds_cons h (gds_cons h' (gds_cons h2 (gd_1 h3)))) (by show 4 ≤ 1000; decide)
theorem gv_not {b : Bool} (h : GV te σ H (.bl b)) : GV (tNotV te) σ H (.bl (!b)) := fun H1 e R r => h H1 e _ fun H2 e2 => ⟨b, rfl, r H2 e2⟩
theorem gv_eq {x y : V} (ha : GV ta σ H x) (hb : GV tb σ H y) (hs : scal x y = true) : GV (tOp rEq ta tb) σ H (.bl (decide (x = y))) := fun H1 e1 R r =>
  ha H1 e1 _ fun H2 e2 => hb H2 (e1.trans e2) _ fun H3 e3 => ⟨hs, r H3 (e2.trans e3)⟩
theorem da_strs : ∀ {ws : List Str} {vs : List V}, DpAll K H vs (ws.map PyData.str) → vs = ws.map V.str
  | [], _, h => da_nil h
  | w :: ws, _, h => by
    obtain ⟨x, r, rfl, h1, h2⟩ := da_cons h
    cases dp_str h1
    rw [da_strs h2]
    rfl
theorem if_inS {ws : List Str} {s : Str} {b : Bool} {tt u : TS} (h : σ[i]? = some (some (.str s))) (hg : GDs K tl σ H (ws.map PyData.str)) (hl : decide (ws.length ≤ 1000) = true) (hd : decide (s ∈ ws) = b) (q1 : b = true → ∀ H', Same H H' → tt D σ H') (q2 : b = false → ∀ H', Same H H' → u D σ H') :
    tIfS (tTest (tOp (rIn K false) (tVar i) (tTup tl))) tt u D σ H := by
  refine ⟨_, h, hg H (Same.refl _) _ fun vs H1 e1 hv => ?_⟩
  cases da_strs hv
  refine ⟨by rw [List.length_map]; exact Nat.le_trans (of_decide_eq_true hl) (by decide), fun p hp => ⟨p, ws.map V.str, rfl, .inr (.of upd_same), rfl, flat_strs ws, b, ?_, ?_⟩⟩
  · show V.bl (inV (.str s) (ws.map V.str)) = .bl b
    rw [inV_strs, hd]
  · cases b with
    | true => exact iteT (q1 rfl _ (e1.trans (Same.new _ hp)))
    | false => exact iteF (q2 rfl _ (e1.trans (Same.new _ hp)))
theorem if_inT {ws : List Str} {s : Str} {tt u : TS} (h : σ[i]? = some (some (.str s))) (hg : GDs K tl σ H (ws.map PyData.str)) (hl : decide (ws.length ≤ 1000) = true) (hd : decide (s ∈ ws) = true) (q : ∀ H', Same H H' → tt D σ H') :
    tIfS (tTest (tOp (rIn K false) (tVar i) (tTup tl))) tt u D σ H := if_inS h hg hl hd (fun _ => q) (fun z => Bool.noConfusion z)
theorem if_inF {ws : List Str} {s : Str} {tt u : TS} (h : σ[i]? = some (some (.str s))) (hg : GDs K tl σ H (ws.map PyData.str)) (hl : decide (ws.length ≤ 1000) = true) (hd : decide (s ∈ ws) = false) (q : ∀ H', Same H H' → u D σ H') :
    tIfS (tTest (tOp (rIn K false) (tVar i) (tTup tl))) tt u D σ H := if_inS h hg hl hd (fun z => Bool.noConfusion z) (fun _ => q)
theorem gds_2 {s t : Str} : GDs K (tCons (tC (.str s)) (tCons (tC (.str t)) tNil)) σ H ([s, t].map PyData.str) := gds_cons gd_str (gd_1 gd_str)
theorem gds_3 {s t t2 : Str} : GDs K (tCons (tC (.str s)) (tCons (tC (.str t)) (tCons (tC (.str t2)) tNil))) σ H ([s, t, t2].map PyData.str) := gds_cons gd_str (gds_cons gd_str (gd_1 gd_str))
end
/-! data of the written part -/
def datOk (K : PySem.W.Frag) : Nat → Value → PyData → Bool
  | 0, _, _ => false
  | _ + 1, .str x _, .str y => decide (x = y)
  | n + 1, .ref a, .tuple ds => match K.lookup a with
    | some ⟨.type nm, none, .seq its _, _⟩ => decide (nm = "tuple") && decide (its.size ≤ 1000) && decide (its.toList.length = ds.length) && (its.toList.zip ds).all fun p => datOk K n p.1 p.2
    | _ => false
  | _ + 1, _, _ => false
theorem datAll_of {K : PySem.W.Frag} {n : Nat} (ih : ∀ {v : Value} {d : PyData}, datOk K n v d = true → ∃ x, RelV x v ∧ ∀ H, Dp K H x d) : ∀ {vs : List Value} {ds : List PyData}, vs.length = ds.length → ((vs.zip ds).all fun p => datOk K n p.1 p.2) = true → ∃ xs, Vals xs vs ∧ ∀ H, DpAll K H xs ds
  | [], [], _, _ => ⟨[], .nil, fun _ => .nil⟩
  | [], _ :: _, h, _ => by simp at h
  | _ :: _, [], h, _ => by simp at h
  | v :: vs, d :: ds, hl, h => by
    rw [List.zip_cons_cons, List.all_cons, Bool.and_eq_true] at h
    obtain ⟨x, rx, hx⟩ := ih h.1
    obtain ⟨xs, rs, hs⟩ := datAll_of ih (by simpa using hl) h.2
    exact ⟨x :: xs, .cons rx rs, fun H => .cons (hx H) (hs H)⟩
theorem dat_of {K : PySem.W.Frag} : ∀ (n : Nat) {v : Value} {d : PyData}, datOk K n v d = true → ∃ x, RelV x v ∧ ∀ H, Dp K H x d
  | 0, _, _, h => by simp [datOk] at h
  | n + 1, v, d, h => by
    unfold datOk at h
    split at h
    · cases ‹_ + 1 = 0›
    · rw [← of_decide_eq_true h]
      exact ⟨.str _, ⟨_, rfl⟩, fun H => .str _⟩
    · split at h
      · rename_i m a ds hm o nm its k sl hk
        simp only [Bool.and_eq_true] at h
        obtain ⟨⟨⟨h1, h2⟩, h3⟩, h4⟩ := h
        cases of_decide_eq_true h1
        cases hm
        obtain ⟨xs, rs, hs⟩ := datAll_of (dat_of n) (of_decide_eq_true h3) h4
        exact ⟨.ref a, rfl, fun H => .tup (.inr ⟨_, its, k, hk, rfl, rfl, Nat.le_trans (of_decide_eq_true h2) (by decide), rs⟩) (hs H)⟩
      · cases h
    · cases h
theorem dat_ref {K : PySem.W.Frag} {n : Nat} {a : Addr} {d : PyData} (h : datOk K n (.ref a) d = true) : ∀ H, Dp K H (.ref a) d := fun H => by
  obtain ⟨x, rx, hx⟩ := dat_of n h
  cases x with
  | ref b =>
    cases rx
    exact hx H
  | _ => first | (cases rx; done) | (obtain ⟨t, z⟩ := rx; cases z)
end Pf

namespace Pf
open PySem PySem.Spec PyProof.Rows L2
/-! the data logic: what slots, own lists and passing values hold, as one fact (Ds) that each step of a reading renews -/
/-- what is known of a slot: nothing, its data, its very value -/
inductive Sl where
  | u | d (x : PyData) | v (x : V) | p (x : PyData) | t (x : PyData)
/-- what is known of an object that may change -/
inductive Od where
  | lst (ds : List PyData) | nums | box | ho (o : HO)
  | dk (kvs : List (Key × PyData)) | dt (kvs : List (List Key × PyData)) | lt (ds : List PyData)
  | tab (q : Str)
abbrev Own := List (Addr × Od)
/-- the value is a tuple that was made while the program ran -/
def TupM (K : PySem.W.Frag) (M : Hp) (v : V) (x : PyData) : Prop := ∃ b xs ds, v = .ref b ∧ x = .tuple ds ∧ M b = some (.tup xs) ∧ DpAll K M xs ds
def SlV (K : PySem.W.Frag) (M : Hp) (v : V) : Sl → Prop
  | .u => True
  | .d x => Dp K M v x
  | .v x => v = x
  | .p x => Dp K M v x ∧ ∃ a, v = .ref a ∧ FzT K M a
  | .t x => TupM K M v x
inductive SlVs (K : PySem.W.Frag) (M : Hp) : List V → List Sl → Prop
  | nil : SlVs K M [] []
  | cons {v : V} {vs : List V} {s : Sl} {ss : List Sl} : SlV K M v s → SlVs K M vs ss → SlVs K M (v :: vs) (s :: ss)
/-- the table at a of code objects, all of the name q -/
def TabOk (M H : Hp) (a : Addr) (q : Str) : Prop := ∃ ps : Array Value, H a = some (.tbl ps) ∧ TriplesOk ps.toList ∧ ∀ (pos : Pos) (cv : Value), codeAmong pos ps.toList = some cv → ∃ c, cv = .ref c ∧ M c = some (LamX.CodeO c q)
def OdOk (K : PySem.W.Frag) (M H : Hp) (a : Addr) : Od → Prop
  | .lst ds => ∃ vs, H a = some (.lst vs) ∧ DpAll K M vs ds
  | .nums => ∃ ns : List Int, H a = some (.lst (ns.map V.int))
  | .box => ∃ (p : Addr) (ns : List Int) (i : Int), H a = some (.lst [.ref p, .int i]) ∧ SqL K M p (ns.map V.int) ∧ 0 ≤ i
  | .ho o => H a = some o
  | .dk kvs => ∃ ws : List (Key × V), H a = some (.dK ws) ∧ Paired (fun p q => p.1 = q.1 ∧ Dp K M p.2 q.2) ws kvs
  | .dt kvs => ∃ ws : List (List Key × V), H a = some (.dT ws) ∧ Paired (fun p q => p.1 = q.1 ∧ Dp K M p.2 q.2) ws kvs
  | .tab q => TabOk M H a q
  | .lt ds => ∃ vs, H a = some (.lst vs) ∧ Paired (TupM K M) vs ds
/-- from H, M to H', M': all but O stands; M, the part that never changes, has grown by new things alone -/
structure Fr (O : List Addr) (H M H' M' : Hp) : Prop where
  fr : ∀ b o, b ∉ O → H b = some o → H' b = some o
  al : ∀ b, H b ≠ none → H' b ≠ none
  sm : Same M M'
  sub : Same M' H'
  mn : ∀ b, M b = none → H b ≠ none → M' b = none
structure Fx where
  H : Hp
  M : Hp
  O : List Addr
structure Ds (K : PySem.W.Frag) (C : Fx) (B : Hp) (σ : L2.St) (H M : Hp) (ρ : List Sl) (w : Own) (tp : List (V × PyData)) : Prop where
  ln : σ.length = ρ.length
  sl : ∀ (i : Nat) (s : Sl), ρ[i]? = some s → s = .u ∨ ∃ v, σ[i]? = some (some v) ∧ SlV K M v s
  tm : ∀ p ∈ tp, Dp K M p.1 p.2
  own : ∀ p ∈ w, M p.1 = none ∧ OdOk K M H p.1 p.2
  nd : (w.map (·.1)).Nodup
  F : Fr C.O C.H C.M H M
  ow : ∀ p ∈ w, p.1 ∈ C.O ∨ C.H p.1 = none
  bs : Same B M
theorem set_self {α : Type} : ∀ {l : List α} {i : Nat} {x : α}, l[i]? = some x → l.set i x = l
  | [], _, _, h => by simp at h
  | _ :: _, 0, _, h => by
    simp at h
    rw [h]
    rfl
  | a :: l, i + 1, x, h => congrArg (a :: ·) (set_self (by simpa using h))
section
variable {K : PySem.W.Frag} {C : Fx} {B : Hp} {σ : L2.St} {H M H' M' : Hp} {ρ : List Sl} {w : Own} {tp : List (V × PyData)}
theorem OdOk.there {a : Addr} {od : Od} (h : OdOk K M H a od) : H a ≠ none := by
  cases od with
  | lst ds => obtain ⟨vs, h, _⟩ := h; rw [h]; exact fun z => nomatch z
  | nums => obtain ⟨vs, h⟩ := h; rw [h]; exact fun z => nomatch z
  | box => obtain ⟨p, ns, i, h, _⟩ := h; rw [h]; exact fun z => nomatch z
  | ho o => rw [show H a = some o from h]; exact fun z => nomatch z
  | dk kvs => obtain ⟨ws, h, _⟩ := h; rw [h]; exact fun z => nomatch z
  | dt kvs => obtain ⟨ws, h, _⟩ := h; rw [h]; exact fun z => nomatch z
  | tab q => obtain ⟨ps, h, _⟩ := h; rw [h]; exact fun z => nomatch z
  | lt ds => obtain ⟨vs, h, _⟩ := h; rw [h]; exact fun z => nomatch z
theorem OdOk.keep {a : Addr} {od : Od} (h : OdOk K M H a od) (e : Same M M') (k : ∀ o, H a = some o → H' a = some o) : OdOk K M' H' a od := by
  cases od with
  | lst ds => obtain ⟨vs, h, d⟩ := h; exact ⟨vs, k _ h, DpAll.same e d⟩
  | nums => obtain ⟨vs, h⟩ := h; exact ⟨vs, k _ h⟩
  | box => obtain ⟨p, ns, i, h, s, z⟩ := h; exact ⟨p, ns, i, k _ h, e.seq s, z⟩
  | ho o => exact k _ h
  | dk kvs => obtain ⟨ws, h, d⟩ := h; exact ⟨ws, k _ h, L2.Paired.mapP d fun _ _ z => ⟨z.1, Dp.same e z.2⟩⟩
  | dt kvs => obtain ⟨ws, h, d⟩ := h; exact ⟨ws, k _ h, L2.Paired.mapP d fun _ _ z => ⟨z.1, Dp.same e z.2⟩⟩
  | tab q =>
    obtain ⟨ps, h, t, d⟩ := h
    exact ⟨ps, k _ h, t, fun pos cv z => (d pos cv z).elim fun c z => ⟨c, z.1, e _ _ z.2⟩⟩
  | lt ds =>
    obtain ⟨vs, h, d⟩ := h
    exact ⟨vs, k _ h, L2.Paired.mapP d fun _ _ z => by
      obtain ⟨b, xs, es, h1, h2, h3, h4⟩ := z
      exact ⟨b, xs, es, h1, h2, e _ _ h3, DpAll.same e h4⟩⟩
theorem FzT.same {H H' : Hp} {p : Addr} (h : FzT K H p) (e : Same H H') : FzT K H' p := by
  rcases h with ⟨o, u, h1, h2⟩ | h
  · exact .inl ⟨o, u, e _ _ h1, h2⟩
  · exact .inr h
theorem TupM.same {v : V} {x : PyData} (h : TupM K M v x) (e : Same M M') : TupM K M' v x := by
  obtain ⟨b, xs, ds, h1, h2, h3, h4⟩ := h
  exact ⟨b, xs, ds, h1, h2, e _ _ h3, DpAll.same e h4⟩
theorem TupM.dp {v : V} {x : PyData} (h : TupM K M v x) : Dp K M v x := by
  obtain ⟨b, xs, ds, rfl, rfl, h3, h4⟩ := h
  exact .tup (.of h3) h4
theorem SlV.same {v : V} {s : Sl} (h : SlV K M v s) (e : Same M M') : SlV K M' v s := by
  cases s with
  | u => trivial
  | d x => exact Dp.same e h
  | v x => exact h
  | p x => exact ⟨Dp.same e h.1, h.2.elim fun a z => ⟨a, z.1, z.2.same e⟩⟩
  | t x => exact TupM.same h e
theorem SlVs.same (e : Same M M') : ∀ {vs : List V} {ss : List Sl}, SlVs K M vs ss → SlVs K M' vs ss
  | _, _, .nil => .nil
  | _, _, .cons h t => .cons (h.same e) (t.same e)
theorem SlVs.length : ∀ {vs : List V} {ss : List Sl}, SlVs K M vs ss → vs.length = ss.length
  | _, _, .nil => rfl
  | _, _, .cons _ t => congrArg Nat.succ t.length
theorem SlVs.at : ∀ {vs : List V} {ss : List Sl}, SlVs K M vs ss → ∀ (i : Nat) (s : Sl), ss[i]? = some s → ∃ v, vs[i]? = some v ∧ SlV K M v s
  | _, _, .nil, i, s, h => by simp at h
  | _, _, .cons (v := v) h _, 0, s, e => by
    simp at e
    subst e
    exact ⟨v, rfl, h⟩
  | _, _, .cons _ t, i + 1, s, e => by
    obtain ⟨v, h1, h2⟩ := t.at i s (by simpa using e)
    exact ⟨v, by simpa using h1, h2⟩
theorem Fr.refl (O : List Addr) (h : Same M H) : Fr O H M H M := ⟨fun _ _ _ e => e, fun _ e => e, Same.refl _, h, fun _ e _ => e⟩
theorem Fr.trans {O O' : List Addr} {H0 M0 : Hp} (a : Fr O H0 M0 H M) (b : Fr O' H M H' M') (h : ∀ x ∈ O', x ∈ O ∨ H0 x = none) : Fr O H0 M0 H' M' where
  fr := fun x o hx e => b.fr x o (fun z => (h x z).elim hx fun q => by rw [q] at e; cases e) (a.fr x o hx e)
  al := fun x e => b.al x (a.al x e)
  sm := a.sm.trans b.sm
  sub := b.sub
  mn := fun x e f => b.mn x (a.mn x e f) (a.al x f)
/-- a step: the objects at O change, the rest stands -/
theorem Ds.step {O : List Addr} {w' : Own} (S : Ds K C B σ H M ρ w tp) (F : Fr O H M H' M') (hO : ∀ b ∈ O, b ∈ w.map (·.1)) (hw : w'.map (·.1) = w.map (·.1)) (ok : ∀ p ∈ w', OdOk K M' H' p.1 p.2) : Ds K C B σ H' M' ρ w' tp where
  ln := S.ln
  sl := fun i s h => (S.sl i s h).imp id fun ⟨v, a, b⟩ => ⟨v, a, b.same F.sm⟩
  tm := fun p h => Dp.same F.sm (S.tm p h)
  own := fun p h => by
    have h1 : p.1 ∈ w.map (·.1) := hw ▸ List.mem_map_of_mem h
    obtain ⟨q, hq, e⟩ := List.mem_map.mp h1
    refine ⟨?_, ok p h⟩
    rw [← e]
    exact F.mn _ (S.own q hq).1 (S.own q hq).2.there
  nd := hw ▸ S.nd
  F := S.F.trans F fun x hx => by
    obtain ⟨q, hq, e⟩ := List.mem_map.mp (hO x hx)
    rw [← e]
    exact S.ow q hq
  ow := fun p h => by
    have h1 : p.1 ∈ w.map (·.1) := hw ▸ List.mem_map_of_mem h
    obtain ⟨q, hq, e⟩ := List.mem_map.mp h1
    rw [← e]
    exact S.ow q hq
  bs := S.bs.trans F.sm
theorem Ds.pure (S : Ds K C B σ H M ρ w tp) (F : Fr [] H M H' M') : Ds K C B σ H' M' ρ w tp :=
  S.step F (fun _ h => nomatch h) rfl fun p h => (S.own p h).2.keep F.sm fun o e => F.fr _ o (fun z => nomatch z) e
theorem Ds.push {v : V} {d : PyData} (S : Ds K C B σ H M ρ w tp) (h : Dp K M v d) : Ds K C B σ H M ρ w ((v, d) :: tp) := by
  refine { S with tm := fun p hp => ?_ }
  rcases List.mem_cons.mp hp with rfl | hp
  · exact h
  · exact S.tm p hp
theorem Ds.clr (S : Ds K C B σ H M ρ w tp) : Ds K C B σ H M ρ w [] := { S with tm := fun _ h => nomatch h }
theorem Ds.rest {x : V × PyData} (S : Ds K C B σ H M ρ w (x :: tp)) : Ds K C B σ H M ρ w tp := { S with tm := fun p h => S.tm p (List.mem_cons_of_mem _ h) }
theorem Ds.sub (S : Ds K C B σ H M ρ w tp) : Same M H := S.F.sub
/-- a new tuple -/
theorem Ds.newT {p : Addr} {vs : List V} {ds : List PyData} (S : Ds K C B σ H M ρ w tp) (hp : H p = none) (hv : DpAll K M vs ds) : Ds K C B σ (upd H p (.tup vs)) (upd M p (.tup vs)) ρ w ((.ref p, .tuple ds) :: tp) := by
  have hm : M p = none := S.sub.free hp
  have e := Same.new (.tup vs) hm
  refine (S.pure ⟨fun b o _ h => Same.new _ hp b o h, fun b h => ?_, e, fun b o h => ?_, fun b h1 h2 => ?_⟩).push (.tup (.of upd_same) (DpAll.same e hv))
  · by_cases q : b = p
    · rw [q, upd_same]
      exact fun z => nomatch z
    · rw [upd_ne q]
      exact h
  · by_cases q : b = p
    · rw [q, upd_same] at h
      rw [q, upd_same]
      exact h
    · rw [upd_ne q] at h
      rw [upd_ne q]
      exact S.sub b o h
  · rw [upd_ne (fun q => h2 (by rw [q]; exact hp))]
    exact h1
/-- a new object that may change -/
theorem Ds.newO {p : Addr} {o : HO} {od : Od} (S : Ds K C B σ H M ρ w tp) (hp : H p = none) (ok : OdOk K M (upd H p o) p od) : Ds K C B σ (upd H p o) M ρ ((p, od) :: w) tp := by
  have hm : M p = none := S.sub.free hp
  have S' : Ds K C B σ (upd H p o) M ρ w tp := S.pure ⟨fun b o _ h => Same.new _ hp b o h, fun b h => by
    by_cases q : b = p
    · rw [q, upd_same]
      exact fun z => nomatch z
    · rw [upd_ne q]
      exact h, Same.refl _, fun b o h => (upd_ne (ne_of_none h hm)).trans (S.sub b o h), fun b h _ => h⟩
  refine { S' with own := fun q hq => ?_, nd := ?_, ow := fun q hq => ?_ }
  · rcases List.mem_cons.mp hq with rfl | hq
    · exact ⟨hm, ok⟩
    · exact S'.own q hq
  · rw [List.map_cons, List.nodup_cons]
    refine ⟨fun z => ?_, S.nd⟩
    obtain ⟨q, hq, e⟩ := List.mem_map.mp z
    exact (S.own q hq).2.there (e ▸ hp)
  · rcases List.mem_cons.mp hq with rfl | hq
    · refine .inr ?_
      show C.H p = none
      cases z : C.H p with
      | none => rfl
      | some o => exact absurd hp (S.F.al p (by rw [z]; exact fun z => nomatch z))
    · exact S.ow q hq
theorem Ds.newL {p : Addr} {vs : List V} {ds : List PyData} (S : Ds K C B σ H M ρ w tp) (hp : H p = none) (hv : DpAll K M vs ds) : Ds K C B σ (upd H p (.lst vs)) M ρ ((p, .lst ds) :: w) tp :=
  S.newO hp ⟨vs, upd_same, hv⟩
/-- the object at place j changes -/
theorem Ds.mut {j : Nat} {a : Addr} {od od' : Od} {o : HO} (S : Ds K C B σ H M ρ w tp) (hj : w[j]? = some (a, od)) (ok : OdOk K M (upd H a o) a od') : Ds K C B σ (upd H a o) M ρ (w.set j (a, od')) tp := by
  have hm := List.mem_of_getElem? hj
  have h1 := (S.own _ hm).1
  refine S.step (O := [a]) ⟨fun b u h e => ?_, fun b h => ?_, Same.refl _, fun b u h => ?_, fun b h _ => h⟩ (fun b h => ?_) ?_ fun p hp => ?_
  · rw [upd_ne (fun z => h (by rw [z]; exact List.mem_singleton_self a))]
    exact e
  · by_cases q : b = a
    · rw [q, upd_same]
      exact fun z => nomatch z
    · rw [upd_ne q]
      exact h
  · rw [upd_ne (ne_of_none h h1)]
    exact S.sub b u h
  · rw [List.mem_singleton.mp h]
    exact List.mem_map_of_mem (f := Prod.fst) hm
  · rw [List.map_set]
    have : (w.map (·.1))[j]? = some a := by rw [List.getElem?_map, hj]; rfl
    exact set_self this
  · rcases List.mem_or_eq_of_mem_set hp with hp' | rfl
    · by_cases q : p.1 = a
      · -- the same address: it is the place j
        obtain ⟨k, hk⟩ := List.getElem?_of_mem hp
        by_cases kj : k = j
        · subst kj
          rw [List.getElem?_set_self (List.getElem?_eq_some_iff.mp hj).1] at hk
          cases hk
          exact ok
        · rw [List.getElem?_set_ne (Ne.symm kj)] at hk
          have e1 : (w.map (·.1))[k]? = some a := by rw [List.getElem?_map, hk]; exact congrArg some q
          have e2 : (w.map (·.1))[j]? = some a := by rw [List.getElem?_map, hj]; rfl
          have lt := (List.getElem?_eq_some_iff.mp e1).1
          exact absurd ((List.getElem?_inj lt S.nd).mp (e1.trans e2.symm)) kj
      · exact (S.own p hp').2.keep (Same.refl _) fun u e => (upd_ne q).trans e
    · exact ok
/-- an own thing is looked at no more -/
theorem Ds.drop {x : Addr × Od} (S : Ds K C B σ H M ρ (x :: w) tp) : Ds K C B σ H M ρ w tp :=
  { S with own := fun p h => S.own p (List.mem_cons_of_mem _ h), nd := (List.nodup_cons.mp S.nd).2, ow := fun p h => S.ow p (List.mem_cons_of_mem _ h) }
/-- a list changes no more: from now on it is data -/
theorem Ds.freeze {p : Addr} {ds : List PyData} (S : Ds K C B σ H M ρ ((p, .lst ds) :: w) tp) (hO : p ∉ C.O) : ∃ M', Ds K C B σ H M' ρ w ((.ref p, .list ds) :: tp) := by
  obtain ⟨hm, vs, hp, hv⟩ := S.own (p, .lst ds) (List.mem_cons_self ..)
  have e := Same.new (.lst vs) hm
  have hn : C.H p = none := (S.ow (p, .lst ds) (List.mem_cons_self ..)).resolve_left hO
  have sub : Same (upd M p (.lst vs)) H := fun b o h => by
    by_cases q : b = p
    · rw [q, upd_same] at h
      rw [q, ← h]
      exact hp
    · rw [upd_ne q] at h
      exact S.sub b o h
  refine ⟨upd M p (.lst vs), { ln := S.ln, sl := fun i s h => (S.sl i s h).imp id fun ⟨v, a, b⟩ => ⟨v, a, b.same e⟩, tm := fun q hq => ?_, own := fun q hq => ?_, nd := (List.nodup_cons.mp S.nd).2, F := ?_, ow := fun q h => S.ow q (List.mem_cons_of_mem _ h), bs := S.bs.trans e }⟩
  · rcases List.mem_cons.mp hq with rfl | hq
    · exact .lst (.of upd_same) (DpAll.same e hv)
    · exact Dp.same e (S.tm q hq)
  · have h1 := S.own q (List.mem_cons_of_mem _ hq)
    have ne : q.1 ≠ p := fun z => (List.nodup_cons.mp S.nd).1 (by show p ∈ w.map (·.1); rw [← z]; exact List.mem_map_of_mem (f := Prod.fst) hq)
    exact ⟨(upd_ne ne).trans h1.1, h1.2.keep e fun _ z => z⟩
  · refine ⟨S.F.fr, S.F.al, S.F.sm.trans e, sub, fun b h1 h2 => ?_⟩
    rw [upd_ne (fun z => h2 (by rw [z]; exact hn))]
    exact S.F.mn b h1 h2
/-- less is known of the slots -/
inductive SlLe : List Sl → List Sl → Prop
  | nil : SlLe [] []
  | same {s : Sl} {a b : List Sl} : SlLe a b → SlLe (s :: a) (s :: b)
  | less {s : Sl} {a b : List Sl} : SlLe a b → SlLe (s :: a) (.u :: b)
theorem SlLe.refl : ∀ a : List Sl, SlLe a a
  | [] => .nil
  | _ :: r => .same (SlLe.refl r)
theorem SlLe.length : ∀ {a b : List Sl}, SlLe a b → a.length = b.length
  | _, _, .nil => rfl
  | _, _, .same t => congrArg Nat.succ t.length
  | _, _, .less t => congrArg Nat.succ t.length
theorem SlLe.at : ∀ {a b : List Sl}, SlLe a b → ∀ (i : Nat) (s : Sl), b[i]? = some s → s = .u ∨ a[i]? = some s
  | _, _, .nil, i, s, h => by simp at h
  | _, _, .same _, 0, s, h => by
    simp at h
    subst h
    exact .inr rfl
  | _, _, .less _, 0, s, h => by
    simp at h
    exact .inl h.symm
  | _, _, .same t, i + 1, s, h => by
    have := t.at i s (by simpa using h)
    simpa using this
  | _, _, .less t, i + 1, s, h => by
    have := t.at i s (by simpa using h)
    simpa using this
theorem Ds.weak {ρ' : List Sl} (S : Ds K C B σ H M ρ w tp) (h : SlLe ρ ρ') : Ds K C B σ H M ρ' w tp :=
  { S with ln := S.ln.trans h.length, sl := fun i s hs => (h.at i s hs).elim .inl fun z => S.sl i s z }
/-- a slot is set -/
theorem Ds.set {i : Nat} {v : V} {s : Sl} (S : Ds K C B σ H M ρ w tp) (h : SlV K M v s) : Ds K C B (σ.set i (some v)) H M (ρ.set i s) w tp where
  ln := by rw [List.length_set, List.length_set]; exact S.ln
  sl := fun k t ht => by
    by_cases e : k = i
    · subst e
      have lt : k < ρ.length := by
        have := (List.getElem?_eq_some_iff.mp ht).1
        rwa [List.length_set] at this
      rw [List.getElem?_set_self lt] at ht
      cases ht
      exact .inr ⟨v, List.getElem?_set_self (by rw [S.ln]; exact lt), h⟩
    · rw [List.getElem?_set_ne (Ne.symm e)] at ht ⊢
      exact S.sl k t ht
  tm := S.tm
  own := S.own
  nd := S.nd
  F := S.F
  ow := S.ow
  bs := S.bs
/-- what a slot holds is known otherwise, too -/
theorem Ds.slot {i : Nat} {v : V} {s : Sl} (S : Ds K C B σ H M ρ w tp) (hv : σ[i]? = some (some v)) (h : SlV K M v s) : Ds K C B σ H M (ρ.set i s) w tp := by
  refine { S with ln := by rw [List.length_set]; exact S.ln, sl := fun k t ht => ?_ }
  by_cases e : k = i
  · subst e
    have lt : k < ρ.length := by
      have := (List.getElem?_eq_some_iff.mp ht).1
      rwa [List.length_set] at this
    rw [List.getElem?_set_self lt] at ht
    cases ht
    exact .inr ⟨v, hv, h⟩
  · rw [List.getElem?_set_ne (Ne.symm e)] at ht
    exact S.sl k t ht
theorem Ds.get {i : Nat} {s : Sl} (S : Ds K C B σ H M ρ w tp) (h : ρ[i]? = some s) (n : s ≠ .u) : ∃ v, σ[i]? = some (some v) ∧ SlV K M v s := (S.sl i s h).resolve_left n
/-- from now on M is at least this one -/
theorem Ds.base (S : Ds K C B σ H M ρ w tp) : Ds K C M σ H M ρ w tp := { S with bs := Same.refl _ }
theorem Ds.base' {B' : Hp} (S : Ds K C B σ H M ρ w tp) (h : Same B' B) : Ds K C B' σ H M ρ w tp := { S with bs := h.trans S.bs }
end
/-! promises -/
/-- what a call gives: data or a very value, or a new list -/
inductive Rs where
  | s (x : Sl) | o (od : Od)
def RsOk (K : PySem.W.Frag) (C : Fx) (M' H' : Hp) (v : V) : Rs → Prop
  | .s x => SlV K M' v x
  | .o od => ∃ p, v = .ref p ∧ C.H p = none ∧ M' p = none ∧ OdOk K M' H' p od
structure Fin (K : PySem.W.Frag) (C : Fx) (r : Rs) (w' : Own) (v : V) (H' : Hp) : Prop where
  ex : ∃ M', Fr C.O C.H C.M H' M' ∧ w'.map (·.1) = C.O ∧ (∀ p ∈ w', OdOk K M' H' p.1 p.2) ∧ RsOk K C M' H' v r
abbrev Pre := List Sl → Own → (Rs → Own → Prop) → Prop
def spG (K : PySem.W.Frag) (pre : Pre) : Sp := fun vs H Q _ => ∃ (M : Hp) (ss : List Sl) (w : Own) (post : Rs → Own → Prop), Same M H ∧ SlVs K M vs ss ∧ (∀ p ∈ w, M p.1 = none ∧ OdOk K M H p.1 p.2) ∧ (w.map (·.1)).Nodup ∧ pre ss w post ∧
  ∀ r w' v H', post r w' → Fin K ⟨H, M, w.map (·.1)⟩ r w' v H' → Q v H'
/-- what a caller has behind a call -/
def Res (K : PySem.W.Frag) (C : Fx) (B : Hp) (σ : L2.St) (H' M' : Hp) (ρ : List Sl) (w : Own) (tp : List (V × PyData)) (v : V) : Rs → Prop
  | .s (.d x) => Ds K C B σ H' M' ρ w ((v, x) :: tp)
  | .s x => SlV K M' v x ∧ Ds K C B σ H' M' ρ w tp
  | .o od => ∃ p, v = .ref p ∧ Ds K C B σ H' M' ρ ((p, od) :: w) tp
section
variable {K : PySem.W.Frag} {C : Fx} {B : Hp} {σ : L2.St} {H M H' M' : Hp} {ρ : List Sl} {w : Own} {tp : List (V × PyData)} {Q : VK} {E : XK} {R : VK} {D : Ends}
theorem Res.of {v : V} {r : Rs} (S : Ds K C B σ H' M' ρ w tp) (hc : ∀ p, H p = none → C.H p = none) (hw : ∀ q ∈ w, H q.1 ≠ none) {O : List Addr} {M0 : Hp} (h : RsOk K ⟨H, M0, O⟩ M' H' v r) : Res K C B σ H' M' ρ w tp v r := by
  cases r with
  | s x =>
    cases x with
    | d x => exact S.push h
    | u => exact ⟨h, S⟩
    | v x => exact ⟨h, S⟩
    | p x => exact ⟨h, S⟩
    | t x => exact ⟨h, S⟩
  | o od =>
    obtain ⟨p, rfl, h1, h2, h3⟩ := h
    refine ⟨p, rfl, { S with own := fun q hq => ?_, nd := ?_, ow := fun q hq => ?_ }⟩
    · rcases List.mem_cons.mp hq with rfl | hq
      · exact ⟨h2, h3⟩
      · exact S.own q hq
    · rw [List.map_cons, List.nodup_cons]
      refine ⟨fun z => ?_, S.nd⟩
      obtain ⟨q, hq, e⟩ := List.mem_map.mp z
      exact hw q hq (e ▸ h1)
    · rcases List.mem_cons.mp hq with rfl | hq
      · exact .inr (hc p h1)
      · exact S.ow q hq
theorem Ds.new_none (S : Ds K C B σ H M ρ w tp) : ∀ p, H p = none → C.H p = none := fun p h => by
  cases z : C.H p with
  | none => rfl
  | some o => exact absurd h (S.F.al p (by rw [z]; exact fun z => nomatch z))
/-- a call that changes nothing -/
theorem x_call0 {pre : Pre} {vs : List V} {ss : List Sl} {post : Rs → Own → Prop} (S : Ds K C B σ H M ρ w tp) (hv : SlVs K M vs ss) (hp : pre ss [] post)
    (q : ∀ r w', post r w' → ∀ v H' M', Res K C B σ H' M' ρ w tp v r → Q v H') : spG K pre vs H Q E :=
  ⟨M, ss, [], post, S.sub, hv, (fun _ h => nomatch h), List.nodup_nil, hp, fun r w' v H' hr hf => by
    obtain ⟨M', F, _, _, ho⟩ := hf.ex
    exact q r w' hr v H' M' (Res.of (S.pure F) S.new_none (fun z hz => (S.own z hz).2.there) ho)⟩
/-- a call that may change the own object at place j -/
theorem x_call1 {pre : Pre} {vs : List V} {ss : List Sl} {post : Rs → Own → Prop} {a : Addr} {od : Od} (j : Nat) (S : Ds K C B σ H M ρ w tp) (hj : w[j]? = some (a, od)) (hv : SlVs K M vs ss) (hp : pre ss [(a, od)] post)
    (q : ∀ r od', post r [(a, od')] → ∀ v H' M', Res K C B σ H' M' ρ (w.set j (a, od')) tp v r → Q v H') : spG K pre vs H Q E := by
  have hm := List.mem_of_getElem? hj
  refine ⟨M, ss, [(a, od)], post, S.sub, hv, fun p hp => List.mem_singleton.mp hp ▸ S.own _ hm, List.nodup_cons.mpr ⟨(fun z => nomatch z), List.nodup_nil⟩, hp, fun r w' v H' hr hf => ?_⟩
  obtain ⟨M', F, hw, ok, ho⟩ := hf.ex
  have F : Fr [a] H M H' M' := F
  obtain ⟨od', rfl⟩ : ∃ od', w' = [(a, od')] := by
    match w', hw with
    | [x], e => exact ⟨x.2, by have : x.1 = a := List.head_eq_of_cons_eq e; rw [← this]⟩
  have okA : OdOk K M' H' a od' := ok _ (List.mem_singleton_self _)
  have es : (w.set j (a, od')).map (·.1) = w.map (·.1) := by
    rw [List.map_set]
    exact set_self (by rw [List.getElem?_map, hj]; rfl)
  refine q r od' hr v H' M' (Res.of (S.step F (fun b h => ?_) es fun p hp => ?_) S.new_none (fun z hz => ?_) ho)
  · rw [List.mem_singleton.mp h]
    exact List.mem_map_of_mem (f := Prod.fst) hm
  · rcases List.mem_or_eq_of_mem_set hp with hp' | rfl
    · by_cases q : p.1 = a
      · obtain ⟨k, hk⟩ := List.getElem?_of_mem hp
        by_cases kj : k = j
        · subst kj
          rw [List.getElem?_set_self (List.getElem?_eq_some_iff.mp hj).1] at hk
          cases hk
          exact okA
        · rw [List.getElem?_set_ne (Ne.symm kj)] at hk
          have e1 : (w.map (·.1))[k]? = some a := by rw [List.getElem?_map, hk]; exact congrArg some q
          have e2 : (w.map (·.1))[j]? = some a := by rw [List.getElem?_map, hj]; rfl
          exact absurd ((List.getElem?_inj (List.getElem?_eq_some_iff.mp e1).1 S.nd).mp (e1.trans e2.symm)) kj
      · exact (S.own p hp').2.keep F.sm fun u e => F.fr _ u (fun z => q (List.mem_singleton.mp z)) e
    · exact okA
  · have h1 : z.1 ∈ w.map (·.1) := es ▸ List.mem_map_of_mem hz
    obtain ⟨y, hy, e⟩ := List.mem_map.mp h1
    rw [← e]
    exact (S.own y hy).2.there
/-- what a def may assume at its start -/
theorem Ds.init {vs : List V} {ss : List Sl} {N : List Str} (hs : Same M H) (hv : SlVs K M vs ss) (hw : ∀ p ∈ w, M p.1 = none ∧ OdOk K M H p.1 p.2) (nd : (w.map (·.1)).Nodup) :
    Ds K ⟨H, M, w.map (·.1)⟩ M (L2.start N vs) H M (ss ++ List.replicate (N.length - ss.length) .u) w [] where
  ln := by
    unfold L2.start
    rw [List.length_append, List.length_append, List.length_map, List.length_replicate, List.length_replicate, hv.length]
  sl := fun i s h => by
    by_cases lt : i < ss.length
    · rw [List.getElem?_append_left lt] at h
      obtain ⟨v, h1, h2⟩ := hv.at i s h
      refine .inr ⟨v, ?_, h2⟩
      unfold L2.start
      rw [List.getElem?_append_left (by rw [List.length_map, hv.length]; exact lt), List.getElem?_map, h1]
      rfl
    · rw [List.getElem?_append_right (by omega)] at h
      exact .inl (List.eq_of_mem_replicate (List.mem_of_getElem? h))
  tm := fun _ h => nomatch h
  own := hw
  nd := nd
  F := Fr.refl _ hs
  ow := fun p h => .inl (List.mem_map_of_mem h)
  bs := Same.refl _
/-- a def hands back: the own things that are its caller's, and the result -/
theorem Ds.fin {r : Rs} {w' : Own} {v : V} (S : Ds K C B σ H M ρ w tp) (hw : w'.map (·.1) = C.O) (hs : ∀ p ∈ w', p ∈ w) (h : RsOk K C M H v r) : Fin K C r w' v H :=
  ⟨M, S.F, hw, fun p hp => (S.own p (hs p hp)).2, h⟩
end
end Pf

namespace Pf
open PySem PySem.Spec PyProof.Rows L2
/-! steps of readings over Ds -/
inductive Tm (tp : List (V × PyData)) : V → PyData → Prop
  | i (j : Int) : Tm tp (.int j) (.int j)
  | b (c : Bool) : Tm tp (.bl c) (.bool c)
  | s (x : Str) : Tm tp (.str x) (.str x)
  | n : Tm tp .non .none
  | m {v : V} {d : PyData} : (v, d) ∈ tp → Tm tp v d
inductive TmAll (tp : List (V × PyData)) : List V → List PyData → Prop
  | nil : TmAll tp [] []
  | cons {v : V} {vs : List V} {d : PyData} {ds : List PyData} : Tm tp v d → TmAll tp vs ds → TmAll tp (v :: vs) (d :: ds)
inductive SlT (K : PySem.W.Frag) (M : Hp) (tp : List (V × PyData)) : List V → List Sl → Prop
  | nil : SlT K M tp [] []
  | d {v : V} {vs : List V} {x : PyData} {ss : List Sl} : Tm tp v x → SlT K M tp vs ss → SlT K M tp (v :: vs) (.d x :: ss)
  | p {a : Addr} {vs : List V} {x : PyData} {ss : List Sl} : FzT K M a → Tm tp (.ref a) x → SlT K M tp vs ss → SlT K M tp (.ref a :: vs) (.p x :: ss)
  | v {v : V} {vs : List V} {ss : List Sl} : SlT K M tp vs ss → SlT K M tp (v :: vs) (.v v :: ss)
inductive SetAt {α : Type} : List α → Nat → α → List α → Prop
  | z {a x : α} {l : List α} : SetAt (a :: l) 0 x (x :: l)
  | s {a x : α} {l l' : List α} {n : Nat} : SetAt l n x l' → SetAt (a :: l) (n + 1) x (a :: l')
theorem SetAt.eq {α : Type} : ∀ {l l' : List α} {n : Nat} {x : α}, SetAt l n x l' → l' = l.set n x
  | _, _, _, _, .z => rfl
  | _, _, _, _, .s h => congrArg (_ :: ·) h.eq
theorem SetAt.of {α : Type} {l : List α} {n : Nat} {x : α} (h : n < l.length) : SetAt l n x (l.set n x) := by
  induction l generalizing n with
  | nil => simp at h
  | cons a l ih =>
    cases n with
    | zero => exact .z
    | succ n => exact .s (ih (by simpa using h))
def Giv (K : PySem.W.Frag) (M H : Hp) (R : VK) (d : PyData) : Prop := ∀ v, Dp K M v d → R v H
def rIsNo : R2 := fun x y H Q => y = .non ∧ Q (.bl (decide (x = .non))) H
def rNotNo : R2 := fun x y H Q => y = .non ∧ Q (.bl (!decide (x = .non))) H
def rInt1 : List V → Hp → VK → Prop := fun xs H Q => (∃ i, xs = [.int i] ∧ Q (.int i) H) ∨ ∃ k, xs = [.bl k] ∧ Q (.int (if k then 1 else 0)) H
def rLstOf (K : PySem.W.Frag) : List V → Hp → VK → Prop := fun xs H Q => ∃ p ys, xs = [.ref p] ∧ (SqL K H p ys ∨ SqT K H p ys) ∧ ∀ l, H l = none → Q (.ref l) (upd H l (.lst ys))
def rTupOf (K : PySem.W.Frag) : List V → Hp → VK → Prop := fun xs H Q => ∃ p ys, xs = [.ref p] ∧ ((SqL K H p ys ∧ ∀ l, H l = none → Q (.ref l) (upd H l (.tup ys))) ∨ (SqT K H p ys ∧ Q (.ref p) H))
section
variable {X : Cx}
theorem op_isNo : OpR X (compareOp .Is) rIsNo := op_isN
theorem op_notNo : OpR X (compareOp .IsNot) rNotNo := op_notN
theorem call_intD : CallR X (.type "int") rInt1 := call_int1
theorem call_lstD {K : PySem.W.Frag} (h : X.K = K := by rfl) : CallR X (.type "list") (rLstOf K) := by
  subst h
  exact call_list_of
theorem call_tupD {K : PySem.W.Frag} (h : X.K = K := by rfl) : CallR X (.type "tuple") (rTupOf K) := by
  subst h
  exact call_tuple_of
theorem inD {K : PySem.W.Frag} (h : X.K = K := by rfl) : OpR X (compareOp .In) (rIn K false) := by
  subst h
  exact op_in_seq
theorem notInD {K : PySem.W.Frag} (h : X.K = K := by rfl) : OpR X (compareOp .NotIn) (rIn K true) := by
  subst h
  exact op_notIn_seq
end
def TupK (Q : VK) (xs : List V) (H1 : Hp) : Prop := xs.length ≤ sizeLine ∧ ∀ p, H1 p = none → Q (.ref p) (upd H1 p (.tup xs))
def LstK (Q : VK) (xs : List V) (H1 : Hp) : Prop := xs.length ≤ sizeLine ∧ ∀ p, H1 p = none → Q (.ref p) (upd H1 p (.lst xs))
def AppK (K : PySem.W.Frag) (Q : VK) (x y : V) (H2 : Hp) : Prop := rAppend x [y] H2 Q
section
variable {K : PySem.W.Frag} {C : Fx} {B : Hp} {σ : L2.St} {H M H' M' : Hp} {ρ ρ' : List Sl} {w w' : Own} {tp : List (V × PyData)} {Q R : VK} {QB : Bool → Hp → Prop} {D : Ends} {E : XK}
variable {i j n : Nat} {a b : Int} {v x y : V} {d e : PyData} {ds es : List PyData} {te ta tb : TE} {t u : TS} {tt tu : TT} {tl : TA} {g : TG} {p : Addr}
theorem Tm.dp (S : Ds K C B σ H M ρ w tp) (h : Tm tp v d) : Dp K M v d := by
  cases h with
  | i j => exact .int j
  | b c => exact .bl c
  | s x => exact .str x
  | n => exact .non
  | m h => exact S.tm _ h
theorem TmAll.dp (S : Ds K C B σ H M ρ w tp) : ∀ {vs : List V} {ds : List PyData}, TmAll tp vs ds → DpAll K M vs ds
  | _, _, .nil => .nil
  | _, _, .cons h t => .cons (h.dp S) (t.dp S)
theorem SlT.dp (S : Ds K C B σ H M ρ w tp) : ∀ {vs : List V} {ss : List Sl}, SlT K M tp vs ss → SlVs K M vs ss
  | _, _, .nil => .nil
  | _, _, .d h t => .cons (h.dp S) (t.dp S)
  | _, _, .p f h t => .cons ⟨h.dp S, _, rfl, f⟩ (t.dp S)
  | _, _, .v t => .cons rfl (t.dp S)
theorem DpAll.up (e : Same M H) {vs : List V} {ds : List PyData} (h : DpAll K M vs ds) : DpAll K H vs ds := DpAll.same e h
/-! what a part gives -/
theorem x_gI (h : R (.int a) H) : Giv K M H R (.int a) := fun v e => by cases e; exact h
theorem x_gB {c : Bool} (h : R (.bl c) H) : Giv K M H R (.bool c) := fun v e => by cases e; exact h
theorem x_gS {s : Str} (h : R (.str s) H) : Giv K M H R (.str s) := fun v e => by cases e; exact h
theorem x_gN (h : R .non H) : Giv K M H R .none := fun v e => by cases e; exact h
theorem x_gP (S : Ds K C B σ H M ρ w tp) (h : ∀ v, Ds K C B σ H M ρ w ((v, d) :: tp) → R v H) : Giv K M H R d := fun v e => h v (S.push e)
/-! expressions -/
theorem x_var (S : Ds K C B σ H M ρ w tp) (h : ρ[i]? = some (.d d)) (q : Giv K M H R d) : tVar i σ H R := by
  obtain ⟨v, h1, h2⟩ := S.get h (fun z => nomatch z)
  exact ⟨v, h1, q v h2⟩
theorem x_varP (S : Ds K C B σ H M ρ w tp) (h : ρ[i]? = some (.p d)) (q : ∀ a, FzT K M a → Ds K C B σ H M ρ w ((.ref a, d) :: tp) → R (.ref a) H) : tVar i σ H R := by
  obtain ⟨v, h1, h2, a, rfl, h3⟩ := S.get h (fun z => nomatch z)
  exact ⟨_, h1, q a h3 (S.push h2)⟩
theorem x_varV (S : Ds K C B σ H M ρ w tp) (h : ρ[i]? = some (.v x)) (q : R x H) : tVar i σ H R := by
  obtain ⟨v, h1, h2⟩ := S.get h (fun z => nomatch z)
  exact ⟨x, by rw [h1, show v = x from h2], q⟩
theorem x_c (q : R v H) : tC v σ H R := q
theorem x_cR {r : Addr} (S : Ds K C B σ H M ρ w tp) (h : ∀ M, Dp K M (.ref r) d) (q : Ds K C B σ H M ρ w ((.ref r, d) :: tp) → R (.ref r) H) : tC (.ref r) σ H R := q (S.push (h M))
theorem x_op {r : R2} (h : ta σ H fun x H1 => tb σ H1 fun y H2 => r x y H2 R) : tOp r ta tb σ H R := h
theorem x_un {r : V → Hp → VK → Prop} (h : ta σ H fun x H1 => r x H1 R) : tUn r ta σ H R := h
theorem x_U {gg : Int → V} (h : R (gg a) H) : rU gg (.int a) H R := ⟨a, rfl, h⟩
theorem x_I0 {gg : Int → Int → V} (h : R (gg a b) H) : rI0 gg (.int a) (.int b) H R := ⟨a, b, rfl, rfl, h⟩
theorem x_I {cc : Int → Int → Prop} {gg : Int → Int → V} (hc : cc a b) (h : R (gg a b) H) : rI cc gg (.int a) (.int b) H R := ⟨a, b, rfl, rfl, hc, h⟩
theorem x_eqI (h : R (.bl (decide (a = b))) H) : rEq (.int a) (.int b) H R := ⟨rfl, by rw [show decide (V.int a = V.int b) = decide (a = b) from decide_eq_decide.mpr ⟨V.int.inj, congrArg _⟩]; exact h⟩
theorem x_eqS {s s' : Str} (h : R (.bl (decide (s = s'))) H) : rEq (.str s) (.str s') H R := ⟨rfl, by rw [show decide (V.str s = V.str s') = decide (s = s') from decide_eq_decide.mpr ⟨V.str.inj, congrArg _⟩]; exact h⟩
theorem x_eqB {c c' : Bool} (h : R (.bl (decide (c = c'))) H) : rEq (.bl c) (.bl c') H R := ⟨rfl, by rw [show decide (V.bl c = V.bl c') = decide (c = c') from decide_eq_decide.mpr ⟨V.bl.inj, congrArg _⟩]; exact h⟩
theorem x_neI (h : R (.bl (!decide (a = b))) H) : rNe (.int a) (.int b) H R := ⟨rfl, by rw [show decide (V.int a = V.int b) = decide (a = b) from decide_eq_decide.mpr ⟨V.int.inj, congrArg _⟩]; exact h⟩
theorem x_neS {s s' : Str} (h : R (.bl (!decide (s = s'))) H) : rNe (.str s) (.str s') H R := ⟨rfl, by rw [show decide (V.str s = V.str s') = decide (s = s') from decide_eq_decide.mpr ⟨V.str.inj, congrArg _⟩]; exact h⟩
theorem x_neB {c c' : Bool} (h : R (.bl (!decide (c = c'))) H) : rNe (.bl c) (.bl c') H R := ⟨rfl, by rw [show decide (V.bl c = V.bl c') = decide (c = c') from decide_eq_decide.mpr ⟨V.bl.inj, congrArg _⟩]; exact h⟩
theorem x_isNoR {r : Addr} (h : R (.bl false) H) : rIsNo (.ref r) .non H R := ⟨rfl, h⟩
theorem x_isNoN (h : R (.bl true) H) : rIsNo .non .non H R := ⟨rfl, h⟩
theorem x_isNoI (h : R (.bl false) H) : rIsNo (.int a) .non H R := ⟨rfl, h⟩
theorem x_notNoR {r : Addr} (h : R (.bl true) H) : rNotNo (.ref r) .non H R := ⟨rfl, h⟩
theorem x_notNoN (h : R (.bl false) H) : rNotNo .non .non H R := ⟨rfl, h⟩
theorem x_notNoI (h : R (.bl true) H) : rNotNo (.int a) .non H R := ⟨rfl, h⟩
def isNo : PyData → Bool
  | .none => true
  | _ => false
theorem dp_isNo (h : Dp K M v d) : decide (v = .non) = isNo d := by
  cases h <;> simp [isNo]
theorem x_isNoD (S : Ds K C B σ H M ρ w tp) (ht : Tm tp v d) (h : R (.bl (isNo d)) H) : rIsNo v .non H R := ⟨rfl, by rw [dp_isNo (ht.dp S)]; exact h⟩
theorem x_notNoD (S : Ds K C B σ H M ρ w tp) (ht : Tm tp v d) (h : R (.bl (!isNo d)) H) : rNotNo v .non H R := ⟨rfl, by rw [dp_isNo (ht.dp S)]; exact h⟩
/-! places -/
theorem dpAll_get : ∀ {vs : List V} {ds : List PyData}, DpAll K M vs ds → ∀ (i : Nat) (d : PyData), ds[i]? = some d → ∃ v, vs[i]? = some v ∧ Dp K M v d
  | _, _, .nil, i, d, h => by simp at h
  | _, _, .cons (v := v) a _, 0, d, h => by
    simp at h
    subst h
    exact ⟨v, rfl, a⟩
  | _, _, .cons _ t, i + 1, d, h => by
    obtain ⟨v, h1, h2⟩ := dpAll_get t i d (by simpa using h)
    exact ⟨v, by simpa using h1, h2⟩
theorem dpAll_atI {vs : List V} (h : DpAll K M vs ds) (hi : atI ds a = some d) : ∃ v, atI vs a = some v ∧ Dp K M v d := by
  unfold atI at hi ⊢
  rw [← dpAll_len h] at hi
  cases e : ixN vs.length a with
  | none => rw [e] at hi; cases hi
  | some j =>
    rw [e] at hi
    obtain ⟨v, h1, h2⟩ := dpAll_get h j d hi
    exact ⟨v, h1, h2⟩
theorem x_ixT (S : Ds K C B σ H M ρ w tp) (ht : Tm tp v (.tuple ds)) (hi : atI ds a = some d) (q : Giv K M H R d) : rIxT K v (.int a) H R := by
  obtain ⟨p, xs, rfl, h1, h2⟩ := dp_tup (ht.dp S)
  obtain ⟨v, h3, h4⟩ := dpAll_atI h2 hi
  exact ⟨p, xs, a, v, rfl, rfl, Same.seqT S.sub h1, h3, q v h4⟩
theorem dp_lst (h : Dp K M v (.list ds)) : ∃ p xs, v = .ref p ∧ SqL K M p xs ∧ DpAll K M xs ds := by
  cases h with
  | lst h a => exact ⟨_, _, rfl, h, a⟩
theorem x_ixL (S : Ds K C B σ H M ρ w tp) (ht : Tm tp v (.list ds)) (hi : atI ds a = some d) (q : Giv K M H R d) : rIxL K v (.int a) H R := by
  obtain ⟨p, xs, rfl, h1, h2⟩ := dp_lst (ht.dp S)
  obtain ⟨v, h3, h4⟩ := dpAll_atI h2 hi
  exact ⟨p, xs, a, v, rfl, rfl, S.sub.seq h1, h3, q v h4⟩
/-- of an own list, at place j -/
theorem x_ixO (j : Nat) (S : Ds K C B σ H M ρ w tp) (hj : w[j]? = some (p, .lst ds)) (hi : atI ds a = some d) (q : Giv K M H R d) : rIxL K (.ref p) (.int a) H R := by
  obtain ⟨_, vs, h1, h2⟩ := S.own _ (List.mem_of_getElem? hj)
  obtain ⟨v, h3, h4⟩ := dpAll_atI h2 hi
  exact ⟨p, vs, a, v, rfl, rfl, .of h1, h3, q v h4⟩
theorem x_ixSt {s : Str} {c : Nat} (hz : s.length ≤ sizeLine) (hi : atI s.cps.toList a = some c) (q : R (.str ⟨#[c]⟩) H) : rIxS (.str s) (.int a) H R := ⟨s, a, c, rfl, rfl, hz, hi, q⟩
/-! tests -/
theorem x_test (h : te σ H fun x H1 => ∃ k, x = .bl k ∧ QB k H1) : tTest te σ H QB := h
theorem x_tB (h : te σ H fun x H1 => ∃ k, x = .bl k ∧ QB k H1) : tB te σ H QB := h
theorem x_exB {q : Bool → Prop} {c : Bool} (h : q c) : ∃ k, V.bl c = .bl k ∧ q k := ⟨c, rfl, h⟩
theorem x_not (h : tt σ H fun c H1 => QB (!c) H1) : tNot tt σ H QB := h
theorem x_and (h : tt σ H fun c H1 => if c = true then tu σ H1 QB else QB false H1) : tAnd tt tu σ H QB := h
theorem x_or (h : tt σ H fun c H1 => if c = true then QB true H1 else tu σ H1 QB) : tOr tt tu σ H QB := h
theorem x_andV (h : ta σ H fun x H1 => ∃ c, x = .bl c ∧ if c = true then tb σ H1 Q else Q (.bl false) H1) : tAndV ta tb σ H Q := h
theorem x_orV (h : ta σ H fun x H1 => ∃ c, x = .bl c ∧ if c = true then Q (.bl true) H1 else tb σ H1 Q) : tOrV ta tb σ H Q := h
theorem x_notV (h : ta σ H fun x H1 => ∃ c, x = .bl c ∧ Q (.bl (!c)) H1) : tNotV ta σ H Q := h
theorem x_ifE (h : tt σ H fun c H1 => if c = true then ta σ H1 Q else tb σ H1 Q) : tIf tt ta tb σ H Q := h
theorem x_if {c : Bool} {A B : Prop} (h1 : c = true → A) (h2 : c = false → B) : if c = true then A else B := by
  cases c with
  | true => exact h1 rfl
  | false => exact h2 rfl
theorem x_ifT {c : Bool} {A B : Prop} (h : c = true) (h1 : A) : if c = true then A else B := by rw [if_pos h]; exact h1
theorem x_ifF {c : Bool} {A B : Prop} (h : c = false) (h1 : B) : if c = true then A else B := by rw [if_neg (by rw [h]; decide)]; exact h1
/-- truth of a value -/
theorem x_notT (h : ta σ H fun x H1 => ∃ k, TruV K x H1 k ∧ Q (.bl (!k)) H1) : tNotT K ta σ H Q := h
theorem x_truI {q : Bool → Prop} (h : q (a != 0)) : ∃ k, TruV K (.int a) H k ∧ q k := ⟨_, rfl, h⟩
theorem x_truB {q : Bool → Prop} {c : Bool} (h : q c) : ∃ k, TruV K (.bl c) H k ∧ q k := ⟨_, rfl, h⟩
theorem dpAll_emp {vs : List V} (h : DpAll K M vs ds) : (!vs.isEmpty) = !ds.isEmpty := by cases h <;> rfl
theorem x_truT {q : Bool → Prop} (S : Ds K C B σ H M ρ w tp) (ht : Tm tp v (.tuple ds)) (h : q (!ds.isEmpty)) : ∃ k, TruV K v H k ∧ q k := by
  obtain ⟨p, xs, rfl, h1, h2⟩ := dp_tup (ht.dp S)
  exact ⟨_, .inr (.inl ⟨xs, Same.seqT S.sub h1, rfl⟩), by rw [dpAll_emp h2]; exact h⟩
theorem x_truL {q : Bool → Prop} (S : Ds K C B σ H M ρ w tp) (ht : Tm tp v (.list ds)) (h : q (!ds.isEmpty)) : ∃ k, TruV K v H k ∧ q k := by
  obtain ⟨p, xs, rfl, h1, h2⟩ := dp_lst (ht.dp S)
  exact ⟨_, .inl ⟨xs, S.sub.seq h1, rfl⟩, by rw [dpAll_emp h2]; exact h⟩
theorem x_truO {q : Bool → Prop} (j : Nat) (S : Ds K C B σ H M ρ w tp) (hj : w[j]? = some (p, .lst ds)) (h : q (!ds.isEmpty)) : ∃ k, TruV K (.ref p) H k ∧ q k := by
  obtain ⟨_, vs, h1, h2⟩ := S.own _ (List.mem_of_getElem? hj)
  exact ⟨_, .inl ⟨vs, .of h1, rfl⟩, by rw [dpAll_emp h2]; exact h⟩
/-! tuples, lists, arguments -/
theorem x_nil {qa : List V → Hp → Prop} (h : qa [] H) : tNil σ H qa := h
theorem x_cons {qa : List V → Hp → Prop} (h : ta σ H fun x H1 => tl σ H1 fun xs H2 => qa (x :: xs) H2) : tCons ta tl σ H qa := h
theorem x_tup (h : tl σ H fun xs H1 => TupK Q xs H1) : tTup tl σ H Q := h
theorem x_lst (h : tl σ H fun xs H1 => LstK Q xs H1) : tLst tl σ H Q := h
theorem TmAll.len : ∀ {vs : List V} {ds : List PyData}, TmAll tp vs ds → vs.length = ds.length
  | _, _, .nil => rfl
  | _, _, .cons _ t => congrArg Nat.succ t.len
theorem x_tupK {vs : List V} (S : Ds K C B σ H M ρ w tp) (ht : TmAll tp vs ds) (hl : decide (vs.length ≤ 1000) = true) (q : ∀ p H' M', Ds K C B σ H' M' ρ w ((.ref p, .tuple ds) :: tp) → Q (.ref p) H') : TupK Q vs H :=
  ⟨Nat.le_trans (of_decide_eq_true hl) (by decide), fun p hp => q p _ _ (S.newT hp (ht.dp S))⟩
theorem x_lstK {vs : List V} (S : Ds K C B σ H M ρ w tp) (ht : TmAll tp vs ds) (hl : decide (vs.length ≤ 1000) = true) (q : ∀ p H', Ds K C B σ H' M ρ ((p, .lst ds) :: w) tp → Q (.ref p) H') : LstK Q vs H :=
  ⟨Nat.le_trans (of_decide_eq_true hl) (by decide), fun p hp => q p _ (S.newL hp (ht.dp S))⟩
theorem x_cb {r : List V → Hp → VK → Prop} (h : tl σ H fun vs H1 => r vs H1 Q) : tCB r tl σ H Q := h
theorem x_tcall {sp : Sp} (h : tl σ H fun vs H1 => sp vs H1 Q E) : tCall sp [] E tl σ H Q := by
  unfold tCall
  simp only [List.append_nil]
  exact h
theorem x_lenT (S : Ds K C B σ H M ρ w tp) (ht : Tm tp v (.tuple ds)) (q : R (.int ds.length) H) : rLenQ K [v] H R := by
  obtain ⟨p, xs, rfl, h1, h2⟩ := dp_tup (ht.dp S)
  exact ⟨p, xs, rfl, .inr (Same.seqT S.sub h1), by rw [dpAll_len h2]; exact q⟩
theorem x_lenL (S : Ds K C B σ H M ρ w tp) (ht : Tm tp v (.list ds)) (q : R (.int ds.length) H) : rLenQ K [v] H R := by
  obtain ⟨p, xs, rfl, h1, h2⟩ := dp_lst (ht.dp S)
  exact ⟨p, xs, rfl, .inl (S.sub.seq h1), by rw [dpAll_len h2]; exact q⟩
theorem x_lenO (j : Nat) (S : Ds K C B σ H M ρ w tp) (hj : w[j]? = some (p, .lst ds)) (q : R (.int ds.length) H) : rLenQ K [.ref p] H R := by
  obtain ⟨_, vs, h1, h2⟩ := S.own _ (List.mem_of_getElem? hj)
  exact ⟨p, vs, rfl, .inl (.of h1), by rw [dpAll_len h2]; exact q⟩
theorem x_int (q : R (.int a) H) : rInt1 [.int a] H R := .inl ⟨a, rfl, q⟩
theorem x_intB {c : Bool} (q : R (.int (if c then 1 else 0)) H) : rInt1 [.bl c] H R := .inr ⟨c, rfl, q⟩
/-- tuple(an own list), tuple(data) -/
theorem x_tupO (j : Nat) (S : Ds K C B σ H M ρ w tp) (hj : w[j]? = some (p, .lst ds)) (q : ∀ l H' M', Ds K C B σ H' M' ρ w ((.ref l, .tuple ds) :: tp) → R (.ref l) H') : rTupOf K [.ref p] H R := by
  obtain ⟨_, vs, h1, h2⟩ := S.own _ (List.mem_of_getElem? hj)
  exact ⟨p, vs, rfl, .inl ⟨.of h1, fun l hl => q l _ _ (S.newT hl h2)⟩⟩
theorem x_tupL (S : Ds K C B σ H M ρ w tp) (ht : Tm tp v (.list ds)) (q : ∀ l H' M', Ds K C B σ H' M' ρ w ((.ref l, .tuple ds) :: tp) → R (.ref l) H') : rTupOf K [v] H R := by
  obtain ⟨p, xs, rfl, h1, h2⟩ := dp_lst (ht.dp S)
  exact ⟨p, xs, rfl, .inl ⟨S.sub.seq h1, fun l hl => q l _ _ (S.newT hl h2)⟩⟩
theorem x_tupT (S : Ds K C B σ H M ρ w tp) (ht : Tm tp v (.tuple ds)) (q : R v H) : rTupOf K [v] H R := by
  obtain ⟨p, xs, rfl, h1, h2⟩ := dp_tup (ht.dp S)
  exact ⟨p, xs, rfl, .inr ⟨Same.seqT S.sub h1, q⟩⟩
/-- list(data), list(an own list): a new list -/
theorem x_lsT (S : Ds K C B σ H M ρ w tp) (ht : Tm tp v (.tuple ds)) (q : ∀ l H', Ds K C B σ H' M ρ ((l, .lst ds) :: w) tp → R (.ref l) H') : rLstOf K [v] H R := by
  obtain ⟨p, xs, rfl, h1, h2⟩ := dp_tup (ht.dp S)
  exact ⟨p, xs, rfl, .inr (Same.seqT S.sub h1), fun l hl => q l _ (S.newL hl h2)⟩
theorem x_lsL (S : Ds K C B σ H M ρ w tp) (ht : Tm tp v (.list ds)) (q : ∀ l H', Ds K C B σ H' M ρ ((l, .lst ds) :: w) tp → R (.ref l) H') : rLstOf K [v] H R := by
  obtain ⟨p, xs, rfl, h1, h2⟩ := dp_lst (ht.dp S)
  exact ⟨p, xs, rfl, .inl (S.sub.seq h1), fun l hl => q l _ (S.newL hl h2)⟩
theorem x_lsO (j : Nat) (S : Ds K C B σ H M ρ w tp) (hj : w[j]? = some (p, .lst ds)) (q : ∀ l H', Ds K C B σ H' M ρ ((l, .lst ds) :: w) tp → R (.ref l) H') : rLstOf K [.ref p] H R := by
  obtain ⟨_, vs, h1, h2⟩ := S.own _ (List.mem_of_getElem? hj)
  exact ⟨p, vs, rfl, .inl (.of h1), fun l hl => q l _ (S.newL hl h2)⟩
/-! in -/
def flatD : PyData → Bool
  | .none => true
  | .bool _ => true
  | .int _ => true
  | .str _ => true
  | _ => false
theorem dp_flat (h : Dp K M v d) (f : flatD d = true) : flatV v = true := by
  cases h <;> first | rfl | exact absurd f (by simp [flatD])
theorem dpAll_flat : ∀ {vs : List V} {ds : List PyData}, DpAll K M vs ds → (∀ d ∈ ds, flatD d = true) → vs.all flatV = true
  | _, _, .nil, _ => rfl
  | _, _, .cons a t, f => by
    rw [List.all_cons, dp_flat a (f _ (List.mem_cons_self ..)), dpAll_flat t fun d h => f d (List.mem_cons_of_mem _ h)]
    rfl
theorem dpAll_ints : ∀ {ns : List Int} {vs : List V}, DpAll K M vs (ns.map .int) → vs = ns.map .int
  | [], _, .nil => rfl
  | n :: ns, _, .cons a t => by
    cases a
    rw [dpAll_ints t]
    rfl
theorem dpAll_strs : ∀ {ns : List Str} {vs : List V}, DpAll K M vs (ns.map .str) → vs = ns.map .str
  | [], _, .nil => rfl
  | n :: ns, _, .cons a t => by
    cases a
    rw [dpAll_strs t]
    rfl
theorem dpAll_bools : ∀ {ns : List Bool} {vs : List V}, DpAll K M vs (ns.map .bool) → vs = ns.map .bl
  | [], _, .nil => rfl
  | n :: ns, _, .cons a t => by
    cases a
    rw [dpAll_bools t]
    rfl
theorem inV_int {ns : List Int} : inV (.int a) (ns.map .int) = decide (a ∈ ns) := by
  unfold inV
  rw [List.any_map, Bool.eq_iff_iff, List.any_eq_true, decide_eq_true_iff]
  constructor
  · rintro ⟨x, h1, h2⟩
    have : x = a := by simpa [eqV] using h2
    exact this ▸ h1
  · exact fun h => ⟨a, h, by simp [eqV]⟩
theorem flat_ints {ns : List Int} : (ns.map V.int).all flatV = true := by
  rw [List.all_map, List.all_eq_true]
  exact fun _ _ => rfl
theorem bl_not {neg : Bool} {c : Bool} : (if neg = true then !c else c) = (c != neg) := by cases neg <;> cases c <;> rfl
theorem x_inIT {neg : Bool} {ns : List Int} (S : Ds K C B σ H M ρ w tp) (ht : Tm tp v (.tuple (ns.map .int))) (q : R (.bl (if neg then !decide (a ∈ ns) else decide (a ∈ ns))) H) : rIn K neg (.int a) v H R := by
  obtain ⟨p, xs, rfl, h1, h2⟩ := dp_tup (ht.dp S)
  cases dpAll_ints h2
  exact ⟨p, _, rfl, .inr (Same.seqT S.sub h1), rfl, flat_ints, by rw [inV_int]; exact q⟩
theorem x_inIL {neg : Bool} {ns : List Int} (S : Ds K C B σ H M ρ w tp) (ht : Tm tp v (.list (ns.map .int))) (q : R (.bl (if neg then !decide (a ∈ ns) else decide (a ∈ ns))) H) : rIn K neg (.int a) v H R := by
  obtain ⟨p, xs, rfl, h1, h2⟩ := dp_lst (ht.dp S)
  cases dpAll_ints h2
  exact ⟨p, _, rfl, .inl (S.sub.seq h1), rfl, flat_ints, by rw [inV_int]; exact q⟩
theorem x_inIO {neg : Bool} {ns : List Int} (j : Nat) (S : Ds K C B σ H M ρ w tp) (hj : w[j]? = some (p, .lst (ns.map .int))) (q : R (.bl (if neg then !decide (a ∈ ns) else decide (a ∈ ns))) H) : rIn K neg (.int a) (.ref p) H R := by
  obtain ⟨_, vs, h1, h2⟩ := S.own _ (List.mem_of_getElem? hj)
  cases dpAll_ints h2
  exact ⟨p, _, rfl, .inl (.of h1), rfl, flat_ints, by rw [inV_int]; exact q⟩
theorem x_inST {neg : Bool} {ns : List Str} {s : Str} (S : Ds K C B σ H M ρ w tp) (ht : Tm tp v (.tuple (ns.map .str))) (q : R (.bl (if neg then !decide (s ∈ ns) else decide (s ∈ ns))) H) : rIn K neg (.str s) v H R := by
  obtain ⟨p, xs, rfl, h1, h2⟩ := dp_tup (ht.dp S)
  cases dpAll_strs h2
  exact ⟨p, _, rfl, .inr (Same.seqT S.sub h1), rfl, flat_strs ns, by rw [inV_strs]; exact q⟩
/-! == of data -/
theorem x_eqD (S : Ds K C B σ H M ρ w tp) (h1 : Tm tp x d) (h2 : Tm tp y e) (s1 : SeqAt.shaped d = true) (s2 : SeqAt.shaped e = true) (q : R (.bl (PyData.eqv d e)) H) : rEqD K x y H R :=
  ⟨d, e, Dp.same S.sub (h1.dp S), Dp.same S.sub (h2.dp S), s1, s2, q⟩
theorem x_neD (S : Ds K C B σ H M ρ w tp) (h1 : Tm tp x d) (h2 : Tm tp y e) (s1 : SeqAt.shaped d = true) (s2 : SeqAt.shaped e = true) (q : R (.bl (!PyData.eqv d e)) H) : rNeD K x y H R :=
  ⟨d, e, Dp.same S.sub (h1.dp S), Dp.same S.sub (h2.dp S), s1, s2, q⟩
/-! statements -/
theorem x_seq (h : t { D with nx := u D } σ H) : tSeq t u D σ H := h
theorem x_seqN {u : TS} (h : ∀ N : L2.St → Hp → Prop, (∀ σ H, u D σ H → N σ H) → t { nx := N, rt := D.rt, bk := D.bk, ct := D.ct } σ H) : tSeq t u D σ H := h (u D) fun _ _ z => z
theorem x_N {N P : L2.St → Hp → Prop} (hN : ∀ σ H, P σ H → N σ H) (h : P σ H) : N σ H := hN σ H h
theorem x_asg (h : te σ H fun x H1 => g x σ H1 D.nx) : tAsg te g D σ H := h
theorem x_ret (h : te σ H D.rt) : tRet te D σ H := h
theorem x_ifS (h : tt σ H fun c H1 => if c = true then t D σ H1 else u D σ H1) : tIfS tt t u D σ H := h
theorem x_drop (h : te σ H fun _ H1 => D.nx σ H1) : tDrop te D σ H := h
theorem x_next (h : D.nx σ H) : tNext D σ H := h
theorem x_cont (h : D.ct σ H) : tCont D σ H := h
theorem x_break (h : D.bk σ H) : tBreak D σ H := h
theorem x_clr (S : Ds K C B σ H M ρ w tp) {P : Prop} (h : Ds K C B σ H M ρ w [] → P) : P := h S.clr
theorem x_gn {q : L2.St → Hp → Prop} (S : Ds K C B σ H M ρ w tp) (ht : Tm tp v d) (hs : SetAt ρ i (.d d) ρ') (h : ∀ σ', Ds K C B σ' H M ρ' w tp → q σ' H) : gName i v σ H q :=
  h _ (hs.eq ▸ S.set (ht.dp S))
theorem x_gnV {q : L2.St → Hp → Prop} (S : Ds K C B σ H M ρ w tp) (hs : SetAt ρ i (.v v) ρ') (h : ∀ σ', Ds K C B σ' H M ρ' w tp → q σ' H) : gName i v σ H q :=
  h _ (hs.eq ▸ S.set (s := .v v) rfl)
theorem x_gT2 {t1 t2 : TG} {d1 d2 : PyData} {q : L2.St → Hp → Prop} (S : Ds K C B σ H M ρ w tp) (ht : Tm tp v (.tuple [d1, d2])) (h : ∀ x y, Ds K C B σ H M ρ w ((x, d1) :: (y, d2) :: tp) → t1 x σ H fun σ' H' => t2 y σ' H' q) : gTup K 2 (gCons t1 (gCons t2 gNil)) v σ H q := by
  obtain ⟨p, xs, rfl, h1, h2⟩ := dp_tup (ht.dp S)
  obtain ⟨x, r, rfl, k1, h2⟩ := da_cons h2
  obtain ⟨y, r, rfl, k2, h2⟩ := da_cons h2
  cases da_nil h2
  refine ⟨p, _, rfl, Same.seqT S.sub h1, rfl, x, _, rfl, ?_⟩
  have hc : (fun σ' H' => t2 y σ' H' q) = fun σ' H' => gCons t2 gNil [y] σ' H' q := by
    funext σ' H'
    refine propext ⟨fun z => ⟨y, [], rfl, ?_⟩, fun z => ?_⟩
    · have e : q = fun σ2 H2 => gNil [] σ2 H2 q := by
        funext σ2 H2
        exact propext ⟨fun z => ⟨rfl, z⟩, fun z => z.2⟩
      rw [e] at z
      exact z
    · obtain ⟨v, r, e1, z⟩ := z
      cases e1
      have e : q = fun σ2 H2 => gNil [] σ2 H2 q := by
        funext σ2 H2
        exact propext ⟨fun z => ⟨rfl, z⟩, fun z => z.2⟩
      rw [e]
      exact z
  exact hc ▸ h x y ((S.push k2).push k1)
theorem gcons_eq {t2 : TG} {r : List V} {us : TGs} {q : L2.St → Hp → Prop} : (fun σ' H' => gCons t2 us (y :: r) σ' H' q) = fun σ' H' => t2 y σ' H' fun σ2 H2 => us r σ2 H2 q := by
  funext σ' H'
  exact propext ⟨fun ⟨v, r, e1, z⟩ => by cases e1; exact z, fun z => ⟨y, r, rfl, z⟩⟩
theorem gnil_eq {q : L2.St → Hp → Prop} : (fun σ2 H2 => gNil [] σ2 H2 q) = q := by
  funext σ2 H2
  exact propext ⟨fun z => z.2, fun z => ⟨rfl, z⟩⟩
theorem x_gT3 {t1 t2 t3 : TG} {d1 d2 d3 : PyData} {q : L2.St → Hp → Prop} (S : Ds K C B σ H M ρ w tp) (ht : Tm tp v (.tuple [d1, d2, d3])) (h : ∀ x y z, Ds K C B σ H M ρ w ((x, d1) :: (y, d2) :: (z, d3) :: tp) → t1 x σ H fun σ' H' => t2 y σ' H' fun σ2 H2 => t3 z σ2 H2 q) :
    gTup K 3 (gCons t1 (gCons t2 (gCons t3 gNil))) v σ H q := by
  obtain ⟨p, xs, rfl, h1, h2⟩ := dp_tup (ht.dp S)
  obtain ⟨x, r, rfl, k1, h2⟩ := da_cons h2
  obtain ⟨y, r, rfl, k2, h2⟩ := da_cons h2
  obtain ⟨z, r, rfl, k3, h2⟩ := da_cons h2
  cases da_nil h2
  refine ⟨p, _, rfl, Same.seqT S.sub h1, rfl, x, _, rfl, ?_⟩
  rw [gcons_eq]
  have e : (fun σ2 H2 => gCons t3 gNil [z] σ2 H2 q) = fun σ2 H2 => t3 z σ2 H2 q := by rw [gcons_eq, gnil_eq]
  rw [e]
  exact h x y z (((S.push k3).push k2).push k1)
theorem x_gT4 {t1 t2 t3 t4 : TG} {d1 d2 d3 d4 : PyData} {q : L2.St → Hp → Prop} (S : Ds K C B σ H M ρ w tp) (ht : Tm tp v (.tuple [d1, d2, d3, d4])) (h : ∀ x y z u, Ds K C B σ H M ρ w ((x, d1) :: (y, d2) :: (z, d3) :: (u, d4) :: tp) → t1 x σ H fun σ' H' => t2 y σ' H' fun σ2 H2 => t3 z σ2 H2 fun σ3 H3 => t4 u σ3 H3 q) :
    gTup K 4 (gCons t1 (gCons t2 (gCons t3 (gCons t4 gNil)))) v σ H q := by
  obtain ⟨p, xs, rfl, h1, h2⟩ := dp_tup (ht.dp S)
  obtain ⟨x, r, rfl, k1, h2⟩ := da_cons h2
  obtain ⟨y, r, rfl, k2, h2⟩ := da_cons h2
  obtain ⟨z, r, rfl, k3, h2⟩ := da_cons h2
  obtain ⟨u, r, rfl, k4, h2⟩ := da_cons h2
  cases da_nil h2
  refine ⟨p, _, rfl, Same.seqT S.sub h1, rfl, x, _, rfl, ?_⟩
  rw [gcons_eq]
  have e : (fun σ2 H2 => gCons t3 (gCons t4 gNil) [z, u] σ2 H2 q) = fun σ2 H2 => t3 z σ2 H2 fun σ3 H3 => t4 u σ3 H3 q := by rw [gcons_eq, gcons_eq, gnil_eq]
  rw [e]
  exact h x y z u ((((S.push k4).push k3).push k2).push k1)
/-- x += e -/
theorem x_augI {f : Int → Int → Int} (S : Ds K C B σ H M ρ w tp) (h : ρ[i]? = some (.d (.int a))) (q : te σ H fun y H1 => ipI f (.int a) y H1 fun z H2 => D.nx (σ.set i (some z)) H2) : tAug i te (ipI f) D σ H := by
  obtain ⟨v, h1, h2⟩ := S.get h (fun z => nomatch z)
  cases h2
  exact ⟨.int a, h1, q⟩
theorem x_ipI {f : Int → Int → Int} (S : Ds K C B σ H M ρ w tp) (hs : SetAt ρ i (.d (.int (f a b))) ρ') (h : ∀ σ', Ds K C B σ' H M ρ' w tp → D.nx σ' H) : ipI f (.int a) (.int b) H fun z H2 => D.nx (σ.set i (some z)) H2 :=
  ⟨a, b, rfl, rfl, h _ (hs.eq ▸ S.set (.int _))⟩
/-- xs.append(e), xs an own list -/
theorem x_app (S : Ds K C B σ H M ρ w tp) (h : ρ[i]? = some (.v (.ref p))) (j : Nat) (hj : w[j]? = some (p, .lst ds)) (q : te σ H fun y H2 => AppK K Q (.ref p) y H2) : tBM K "list" rAppend (tVar i) (tCons te tNil) σ H Q := by
  obtain ⟨v, h1, h2⟩ := S.get h (fun z => nomatch z)
  cases (show v = .ref p from h2)
  obtain ⟨_, vs, h3, _⟩ := S.own _ (List.mem_of_getElem? hj)
  exact ⟨_, h1, .inl ⟨rfl, vs, .of h3⟩, q⟩
theorem x_appK (j : Nat) (S : Ds K C B σ H M ρ w tp) (hj : w[j]? = some (p, .lst ds)) (ht : Tm tp y e) (hl : ds.length < sizeLine) (hw : SetAt w j (p, .lst (ds ++ [e])) w') (q : ∀ H', Ds K C B σ H' M ρ w' tp → Q .non H') : AppK K Q (.ref p) y H := by
  obtain ⟨_, vs, h1, h2⟩ := S.own _ (List.mem_of_getElem? hj)
  refine ⟨p, vs, y, rfl, rfl, h1, by rw [dpAll_len h2]; exact hl, q _ ?_⟩
  rw [hw.eq]
  exact S.mut hj ⟨_, upd_same, dpAll_app h2 (.cons (ht.dp S) .nil)⟩
end
/-! loops -/
/-- what a turn reaches: I at the turn's number -/
def Nx (K : PySem.W.Frag) (C : Fx) (B : Hp) (I : Nat → List Sl → Own → Prop) (i : Nat) : L2.St → Hp → Prop := fun σ H => ∃ M ρ w, I i ρ w ∧ Ds K C B σ H M ρ w []
def ForT (K : PySem.W.Frag) (R : It → Hp → Prop) (x : V) (H1 : Hp) : Prop := ∃ a, x = .ref a ∧ (∃ xs, SqT K H1 a xs) ∧ R (Itt K a) H1
def ForL (K : PySem.W.Frag) (R : It → Hp → Prop) (x : V) (H1 : Hp) : Prop := ∃ a, x = .ref a ∧ (∃ xs, SqL K H1 a xs) ∧ R (Itl K a) H1
/-- the for behind its iterable -/
def ForB (g : TG) (tb : TS) (D : Ends) (σ0 : L2.St) (J : It) (H1 : Hp) : Prop := ∃ W : Nat → Nat → L2.St → Hp → Prop, (∃ m, W 0 m σ0 H1) ∧ ∀ i m σ H, W i m σ H →
  (J.stop i H ∧ D.nx σ H) ∨ (J.go i H ∧ ∃ N : L2.St → Hp → Prop, (∀ σ' H', N σ' H' → ∃ m', m' < m ∧ W (i + 1) m' σ' H') ∧ ∀ x H', J.yld i H x H' → g x σ H' fun σ2 H2 => tb { D with nx := N, ct := N, bk := D.nx } σ2 H2)
section
variable {K : PySem.W.Frag} {C : Fx} {B : Hp} {σ : L2.St} {H M H' M' : Hp} {ρ ρ' : List Sl} {w w' : Own} {tp : List (V × PyData)} {D : Ends} {te : TE} {tb : TS} {tl : TA} {g : TG} {v : V} {ds : List PyData} {p : Addr}
theorem x_fT (h : te σ H fun x H1 => ForT K (ForB g tb D σ) x H1) : tFor (iTup K te) g tb D σ H := h
theorem x_fL (h : te σ H fun x H1 => ForL K (ForB g tb D σ) x H1) : tFor (iList K te) g tb D σ H := h
theorem x_forT (I : Nat → List Sl → Own → Prop) (S : Ds K C B σ H M ρ w tp) (ht : Tm tp v (.tuple ds)) (h0 : I 0 ρ w)
    (hs : ∀ i d ρ1 w1, ds[i]? = some d → I i ρ1 w1 → ∀ u σ1 H1 M1, Ds K C M σ1 H1 M1 ρ1 w1 [(u, d)] → g u σ1 H1 fun σ2 H2 => tb { D with nx := Nx K C M I (i + 1), ct := Nx K C M I (i + 1), bk := D.nx } σ2 H2)
    (hd : ∀ ρ1 w1, I ds.length ρ1 w1 → ∀ σ1 H1 M1, Ds K C B σ1 H1 M1 ρ1 w1 [] → D.nx σ1 H1) : ForT K (ForB g tb D σ) v H := by
  obtain ⟨p, xs, rfl, h1, h2⟩ := dp_tup (ht.dp S)
  refine ⟨p, rfl, ⟨xs, Same.seqT S.sub h1⟩, for_tup (xs := xs) (Nx K C M I) ⟨M, ρ, w, h0, S.base.clr⟩ (fun i σ1 H1 _ q => ?_) (fun i x σ1 H1 hx q => ?_) (fun σ1 H1 q => ?_)⟩
  · obtain ⟨M1, ρ1, w1, _, S1⟩ := q
    exact Same.seqT (S1.bs.trans S1.sub) h1
  · obtain ⟨M1, ρ1, w1, q, S1⟩ := q
    have hi : i < ds.length := by rw [← dpAll_len h2]; exact (List.getElem?_eq_some_iff.mp hx).1
    have e := List.getElem?_eq_getElem hi
    exact hs i _ ρ1 w1 e q x σ1 H1 M1 (S1.push (Dp.same S1.bs (dpAll_at h2 i x _ hx e)))
  · obtain ⟨M1, ρ1, w1, q, S1⟩ := q
    exact hd ρ1 w1 (dpAll_len h2 ▸ q) σ1 H1 M1 (S1.base' S.bs)
theorem x_forL (I : Nat → List Sl → Own → Prop) (S : Ds K C B σ H M ρ w tp) (ht : Tm tp v (.list ds)) (h0 : I 0 ρ w)
    (hs : ∀ i d ρ1 w1, ds[i]? = some d → I i ρ1 w1 → ∀ u σ1 H1 M1, Ds K C M σ1 H1 M1 ρ1 w1 [(u, d)] → g u σ1 H1 fun σ2 H2 => tb { D with nx := Nx K C M I (i + 1), ct := Nx K C M I (i + 1), bk := D.nx } σ2 H2)
    (hd : ∀ ρ1 w1, I ds.length ρ1 w1 → ∀ σ1 H1 M1, Ds K C B σ1 H1 M1 ρ1 w1 [] → D.nx σ1 H1) : ForL K (ForB g tb D σ) v H := by
  obtain ⟨p, xs, rfl, h1, h2⟩ := dp_lst (ht.dp S)
  refine ⟨p, rfl, ⟨xs, S.sub.seq h1⟩, for_list (xs := xs) (Nx K C M I) ⟨M, ρ, w, h0, S.base.clr⟩ (fun i σ1 H1 _ q => ?_) (fun i x σ1 H1 hx q => ?_) (fun σ1 H1 q => ?_)⟩
  · obtain ⟨M1, ρ1, w1, _, S1⟩ := q
    exact (S1.bs.trans S1.sub).seq h1
  · obtain ⟨M1, ρ1, w1, q, S1⟩ := q
    have hi : i < ds.length := by rw [← dpAll_len h2]; exact (List.getElem?_eq_some_iff.mp hx).1
    have e := List.getElem?_eq_getElem hi
    exact hs i _ ρ1 w1 e q x σ1 H1 M1 (S1.push (Dp.same S1.bs (dpAll_at h2 i x _ hx e)))
  · obtain ⟨M1, ρ1, w1, q, S1⟩ := q
    exact hd ρ1 w1 (dpAll_len h2 ▸ q) σ1 H1 M1 (S1.base' S.bs)
end
end Pf
namespace Pf
open PySem PySem.Spec PyProof.Rows L2
/-! readings with the written part told by its name -/
def tTruD (K : PySem.W.Frag) (ta : TE) : TT := fun σ H Q => ta σ H fun x H' => ∃ k, TruV K x H' k ∧ Q k H'
section
variable {X : Cx} {K : PySem.W.Frag} {e : Expr} {tg : Expr}
theorem kBM {T : String} {r : V → List V → Hp → VK → Prop} {to : TE} {t : TA} (p : PE X e (tBM X.K T r to t)) (h : X.K = K := by rfl) : PE X e (tBM K T r to t) := h ▸ p
theorem kBM0 {T : String} {r : V → List V → Hp → VK → Prop} {to : TE} (p : PE X e (tBM0 X.K T r to)) (h : X.K = K := by rfl) : PE X e (tBM0 K T r to) := h ▸ p
theorem kNotT {ta : TE} (p : PE X e (tNotT X.K ta)) (h : X.K = K := by rfl) : PE X e (tNotT K ta) := h ▸ p
theorem kTru {ta : TE} (p : PT X e (fun σ H Q => ta σ H fun x H' => ∃ k, TruV X.K x H' k ∧ Q k H')) (h : X.K = K := by rfl) : PT X e (tTruD K ta) := by
  subst h
  exact p
theorem kIT {te : TE} (p : PI X tg e (iTup X.K te)) (h : X.K = K := by rfl) : PI X tg e (iTup K te) := h ▸ p
theorem kIL {te : TE} (p : PI X tg e (iList X.K te)) (h : X.K = K := by rfl) : PI X tg e (iList K te) := h ▸ p
theorem kGT {n : Nat} {t : TGs} (p : PG X e (gTup X.K n t)) (h : X.K = K := by rfl) : PG X e (gTup K n t) := h ▸ p
theorem kFld {ta : TE} {f : Str} (p : PE X e (tFld X.K ta f)) (h : X.K = K := by rfl) : PE X e (tFld K ta f) := h ▸ p
theorem kEqD (hu : X.A.units + 64 < cLine) (h : X.K = K := by rfl) : OpR X (compareOp .Eq) (rEqD K) := h ▸ op_eqD hu
theorem kNeD (hu : X.A.units + 64 < cLine) (h : X.K = K := by rfl) : OpR X (compareOp .NotEq) (rNeD K) := h ▸ op_neD hu
theorem kAny (hc : X.calm = true) (h : X.K = K := by rfl) : CallR X (.builtin "any") (rAny K) := h ▸ cr_any hc
theorem kAll (hc : X.calm = true) (h : X.K = K := by rfl) : CallR X (.builtin "all") (rAll K) := h ▸ cr_all hc
theorem kSum (hc : X.calm = true) (h : X.K = K := by rfl) : CallR X (.builtin "sum") (rSum K) := h ▸ cr_sum hc
theorem kIsi (h : X.K = K := by rfl) : CallR X (.builtin "isinstance") (rIsi K) := h ▸ call_isi
theorem kCatA (h : X.K = K := by rfl) : OpR X (binaryOp .Add) (rCatA K) := h ▸ op_catA
theorem kSlA (h : X.K = K := by rfl) : SlR X (rSlA K) := h ▸ sl_tupA
theorem kSlL (h : X.K = K := by rfl) : SlR X (rSlL K) := h ▸ sl_list
end
section
variable {K : PySem.W.Frag} {C : Fx} {B : Hp} {σ : L2.St} {H M H' M' : Hp} {ρ ρ' : List Sl} {w w' : Own} {tp : List (V × PyData)} {Q R : VK} {QB : Bool → Hp → Prop} {D : Ends} {te ta : TE}
theorem x_truD (h : ta σ H fun x H' => ∃ k, TruV K x H' k ∧ QB k H') : tTruD K ta σ H QB := h
end
end Pf
namespace Pf
open PySem PySem.Spec PyProof.Rows L2
/-! the heads alone -/
section
variable {K : PySem.W.Frag} {σ : L2.St} {H M : Hp} {Q R : VK} {D : Ends} {i n : Nat} {a b : Int} {v x y : V} {d : PyData} {te ta tb : TE} {tl : TA} {vs : List V} {q : L2.St → Hp → Prop} {qb : Bool → Prop} {t : TGs} {cc : Int → Int → Prop} {gg : Int → Int → V} {f : Int → Int → Int} {r : Addr} {k : L2.St → V → Hp → Prop}
theorem h_var (h : tVar i σ H R) : tVar i σ H R := h
theorem h_ite {c : Bool} {A B : Prop} (h : if c = true then A else B) : if c = true then A else B := h
theorem h_cR (h : tC (.ref r) σ H R) : tC (.ref r) σ H R := h
theorem h_giv (h : Giv K M H R d) : Giv K M H R d := h
theorem h_tupK (h : TupK Q vs H) : TupK Q vs H := h
theorem h_lstK (h : LstK Q vs H) : LstK Q vs H := h
theorem h_ixT (h : rIxT K x y H R) : rIxT K x y H R := h
theorem h_ixL (h : rIxL K x y H R) : rIxL K x y H R := h
theorem h_I (h : rI cc gg x y H R) : rI cc gg x y H R := h
theorem h_gn (h : gName i v σ H q) : gName i v σ H q := h
theorem h_gT (h : gTup K n t v σ H q) : gTup K n t v σ H q := h
theorem h_tru (h : ∃ k, TruV K v H k ∧ qb k) : ∃ k, TruV K v H k ∧ qb k := h
theorem h_len (h : rLenQ K vs H R) : rLenQ K vs H R := h
theorem h_tupOf (h : rTupOf K vs H R) : rTupOf K vs H R := h
theorem h_lstOf (h : rLstOf K vs H R) : rLstOf K vs H R := h
theorem h_aug (h : tAug i te (ipI f) D σ H) : tAug i te (ipI f) D σ H := h
theorem h_ip {P : V → Hp → Prop} (h : ipI f x y H P) : ipI f x y H P := h
theorem h_app (h : tBM K "list" rAppend ta tl σ H Q) : tBM K "list" rAppend ta tl σ H Q := h
theorem h_isNo (h : rIsNo x y H R) : rIsNo x y H R := h
theorem h_notNo (h : rNotNo x y H R) : rNotNo x y H R := h
theorem h_eq (h : rEq x y H R) : rEq x y H R := h
theorem h_ne (h : rNe x y H R) : rNe x y H R := h
end
end Pf

namespace Pf
open PySem PySem.Spec PyProof.Rows L2
/-! == , in and index of data at any depth -/
def rInX (K : PySem.W.Frag) (neg : Bool) : R2 := fun x y H Q => ∃ d ds, Dp K H x d ∧ (Dp K H y (.list ds) ∨ Dp K H y (.tuple ds)) ∧ d.canLay0 = true ∧ d.depth ≤ 64 ∧ PyData.canLayAll0 ds = true ∧ Q (.bl (if neg then !ds.any (fun z => PyData.eqv z d) else ds.any fun z => PyData.eqv z d)) H
def rTupIx (K : PySem.W.Frag) : V → List V → Hp → VK → Prop := fun x xs H Q => ∃ (a : Addr) (y : V) (d : PyData) (ds : List PyData) (j : Nat) (z : PyData), x = V.ref a ∧ xs = [y] ∧ Dp K H (V.ref a) (.tuple ds) ∧ Dp K H y d ∧ d.canLay0 = true ∧ d.depth ≤ 64 ∧ PyData.canLayAll0 ds = true ∧
  ds[j]? = some z ∧ PyData.eqv z d = true ∧ (∀ (m : Nat) (z' : PyData), m < j → ds[m]? = some z' → PyData.eqv z' d = false) ∧ Q (.int (j : Nat)) H
section
variable {X : Cx}
theorem in_room {A : Around} {d : PyData} {ds : List PyData} (h : d.depth ≤ 64) (hu : A.units + 65 < cLine) : A.units + 1 + min (PyData.depthAll ds) d.depth < cLine := by
  have h2 : min (PyData.depthAll ds) d.depth ≤ d.depth := Nat.min_le_right _ _
  omega
theorem op_inX (hu : X.A.units + 65 < cLine) : OpR X (compareOp .In) (rInX X.K false) := by
  intro pins s σ H x y v u Q I rx ry h
  obtain ⟨d, ds, hd, he, l1, l2, l3, q⟩ := h
  obtain ⟨as, r1⟩ := Dp.reads I d x v hd rx
  rcases he with he | he
  · obtain ⟨bs, r2⟩ := Dp.reads I _ y u he ry
    exact SeqAt.in_list_reads r2 r1 l3 l1 (in_room l2 hu) ⟨.bl _, H, I, rfl, q⟩
  · obtain ⟨bs, r2⟩ := Dp.reads I _ y u he ry
    exact SeqAt.in_tuple_reads r2 r1 l3 l1 (in_room l2 hu) ⟨.bl _, H, I, rfl, q⟩
theorem op_notInX (hu : X.A.units + 65 < cLine) : OpR X (compareOp .NotIn) (rInX X.K true) := by
  intro pins s σ H x y v u Q I rx ry h
  obtain ⟨d, ds, hd, he, l1, l2, l3, q⟩ := h
  obtain ⟨as, r1⟩ := Dp.reads I d x v hd rx
  rcases he with he | he
  · obtain ⟨bs, r2⟩ := Dp.reads I _ y u he ry
    exact SeqAt.notIn_list_reads r2 r1 l3 l1 (in_room l2 hu) ⟨.bl _, H, I, rfl, q⟩
  · obtain ⟨bs, r2⟩ := Dp.reads I _ y u he ry
    exact SeqAt.notIn_tuple_reads r2 r1 l3 l1 (in_room l2 hu) ⟨.bl _, H, I, rfl, q⟩
theorem mt_tupIx (hu : X.A.units + 65 < cLine) : MtR X "tuple.index" (rTupIx X.K) := by
  intro pins s σ H x xs v us Q I rx rxs h
  obtain ⟨p, y, d, ds, j, z, rfl, rfl, hl, hy, l1, l2, l3, hz, hzj, hno, q⟩ := h
  cases rx
  obtain ⟨uy, rfl, ry⟩ := vals1 rxs
  obtain ⟨bs, r1⟩ := Dp.reads I d y uy hy ry
  cases hl with
  | tup hs ha =>
    obtain ⟨its, rv, pl, hlen⟩ := I.tuple hs
    obtain ⟨⟨cls, dd, dt, sl⟩, ho, hc, n, hd⟩ := pl
    simp only at hc hd
    subst hc
    subst hd
    obtain ⟨as, h4⟩ := Dp.readsAll I ds _ its ha rv
    have hn := SeqAt.ReadsAll.length ds its as h4
    have hmap := SeqAt.readsAll_map ds its as l3 h4
    have hjd := (List.getElem?_eq_some_iff.mp hz).1
    have hj : j < its.toArray.size := by rw [List.size_toArray]; omega
    have tell : ∀ (m : Nat) (hm : m < its.toArray.size) (z' : PyData), ds[m]? = some z' → SeqAt.readOf s.heap its.toArray[m] = z' := fun m hm z' hz' => by
      have hml : m < its.length := by rw [← List.size_toArray]; exact hm
      rw [← hmap, List.getElem?_map, List.getElem?_eq_getElem hml] at hz'
      have e1 := Option.some.inj hz'
      rw [← e1]
      simp
    refine call_meets PySem.F.slot_tuple_index ⟨_, ho, rfl⟩ PySem.F.entry_tuple_index (PySem.F.args_tuple_index_2 _ _)
      (TI.tuple_indexAt p its.toArray n dd sl uy (fun u => PyData.eqv (SeqAt.readOf s.heap u) d) j hj ?_ ?_) ⟨ho, ?_, ?_⟩
    · show PyData.eqv _ d = true
      rw [tell j hj z hz]
      exact hzj
    · intro m hm hmj
      have hmd : m < ds.length := by omega
      show PyData.eqv _ d = false
      rw [tell m hm _ (List.getElem?_eq_getElem hmd)]
      exact hno m _ hmj (List.getElem?_eq_getElem hmd)
    · exact SeqAt.items_eqAt (vs := its.toArray) h4 r1 l3 l1 (in_room l2 hu)
    · exact ⟨.int (j : Nat), H, I.tok _, ⟨_, rfl⟩, q⟩
end
/-! data that == tells apart: each is one of a kind of its own -/
structure Enc {α : Type} [DecidableEq α] (f : α → PyData) : Prop where
  eq : ∀ a b, PyData.eqv (f a) (f b) = decide (a = b)
  lay : ∀ a, (f a).canLay0 = true
theorem Enc.any {α : Type} [DecidableEq α] {f : α → PyData} (e : Enc f) (xs : List α) (x : α) : ((xs.map f).any fun z => PyData.eqv z (f x)) = decide (x ∈ xs) := by
  rw [List.any_map, Bool.eq_iff_iff, List.any_eq_true, decide_eq_true_iff]
  constructor
  · rintro ⟨y, h1, h2⟩
    have h3 : PyData.eqv (f y) (f x) = true := h2
    rw [e.eq] at h3
    exact of_decide_eq_true h3 ▸ h1
  · intro h
    refine ⟨x, h, ?_⟩
    show PyData.eqv (f x) (f x) = true
    rw [e.eq]
    exact decide_eq_true rfl
theorem Enc.layAll {α : Type} [DecidableEq α] {f : α → PyData} (e : Enc f) : ∀ xs : List α, PyData.canLayAll0 (xs.map f) = true
  | [] => rfl
  | x :: xs => by
    show (PyData.canLay0 (f x) && PyData.canLayAll0 (xs.map f)) = true
    rw [e.lay, e.layAll xs]
    rfl
theorem Enc.idx {α : Type} [DecidableEq α] {f : α → PyData} (e : Enc f) {xs : List α} {x : α} (h : x ∈ xs) : (xs.map f)[xs.idxOf x]? = some (f x) ∧ ∀ (m : Nat) (z : PyData), m < xs.idxOf x → (xs.map f)[m]? = some z → PyData.eqv z (f x) = false := by
  have h1 := List.idxOf_lt_length_of_mem h
  refine ⟨by rw [List.getElem?_map, List.getElem?_eq_getElem h1, List.getElem_idxOf]; rfl, fun m z hm hz => ?_⟩
  have hl : m < xs.length := by omega
  rw [List.getElem?_map, List.getElem?_eq_getElem hl] at hz
  cases hz
  rw [e.eq]
  refine decide_eq_false fun q => ?_
  have h2 := List.not_of_lt_findIdx (p := (· == x)) (xs := xs) (i := m) hm
  rw [q] at h2
  simp at h2
section
variable {K : PySem.W.Frag} {C : Fx} {B : Hp} {σ : L2.St} {H M H' M' : Hp} {ρ ρ' : List Sl} {w w' : Own} {tp : List (V × PyData)} {Q R : VK} {te ta : TE} {v x y : V} {a : Addr}
variable {α : Type} [DecidableEq α] {f : α → PyData} {xs : List α} {c : α} {neg : Bool}
theorem x_inXT (e : Enc f) (S : Ds K C B σ H M ρ w tp) (hx : Tm tp x (f c)) (hy : Tm tp y (.tuple (xs.map f))) (hd : (f c).depth ≤ 64) (q : R (.bl (if neg then !decide (c ∈ xs) else decide (c ∈ xs))) H) : rInX K neg x y H R :=
  ⟨f c, xs.map f, Dp.same S.sub (hx.dp S), .inr (Dp.same S.sub (hy.dp S)), e.lay c, hd, e.layAll xs, by rw [e.any]; exact q⟩
theorem x_inXL (e : Enc f) (S : Ds K C B σ H M ρ w tp) (hx : Tm tp x (f c)) (hy : Tm tp y (.list (xs.map f))) (hd : (f c).depth ≤ 64) (q : R (.bl (if neg then !decide (c ∈ xs) else decide (c ∈ xs))) H) : rInX K neg x y H R :=
  ⟨f c, xs.map f, Dp.same S.sub (hx.dp S), .inl (Dp.same S.sub (hy.dp S)), e.lay c, hd, e.layAll xs, by rw [e.any]; exact q⟩
theorem x_inXO (e : Enc f) (j : Nat) (S : Ds K C B σ H M ρ w tp) (hj : w[j]? = some (a, .lst (xs.map f))) (hx : Tm tp x (f c)) (hd : (f c).depth ≤ 64) (q : R (.bl (if neg then !decide (c ∈ xs) else decide (c ∈ xs))) H) : rInX K neg x (.ref a) H R := by
  obtain ⟨_, vs, h1, h2⟩ := S.own _ (List.mem_of_getElem? hj)
  exact ⟨f c, xs.map f, Dp.same S.sub (hx.dp S), .inl (.lst (.of h1) (DpAll.same S.sub h2)), e.lay c, hd, e.layAll xs, by rw [e.any]; exact q⟩
theorem x_eqX (e : Enc f) {d : α} (S : Ds K C B σ H M ρ w tp) (hx : Tm tp x (f c)) (hy : Tm tp y (f d)) (h1 : (f c).depth ≤ 64) (h2 : (f d).depth ≤ 64) (q : R (.bl (decide (c = d))) H) : rEqD K x y H R :=
  ⟨f c, f d, Dp.same S.sub (hx.dp S), Dp.same S.sub (hy.dp S), by unfold SeqAt.shaped; rw [e.lay, decide_eq_true h1]; rfl, by unfold SeqAt.shaped; rw [e.lay, decide_eq_true h2]; rfl, by rw [e.eq]; exact q⟩
/-- t.index(x), t a plain tuple -/
theorem x_tix (h : ta σ H fun x H1 => (∃ p, x = .ref p ∧ FzT K H1 p) ∧ te σ H1 fun y H2 => rTupIx K x [y] H2 Q) : tBMT K (rTupIx K) ta (tCons te tNil) σ H Q := h
theorem h_tixF {A : Prop} (h : (∃ p, V.ref a = .ref p ∧ FzT K H p) ∧ A) : (∃ p, V.ref a = .ref p ∧ FzT K H p) ∧ A := h
theorem x_tixF {A : Prop} (S : Ds K C B σ H M ρ w tp) (hf : FzT K M a) (h : A) : (∃ p, V.ref a = .ref p ∧ FzT K H p) ∧ A := ⟨⟨a, rfl, hf.same S.sub⟩, h⟩
theorem x_tixK (e : Enc f) (S : Ds K C B σ H M ρ w tp) (hx : Tm tp (.ref a) (.tuple (xs.map f))) (hy : Tm tp y (f c)) (hd : (f c).depth ≤ 64) (hm : c ∈ xs) (q : Q (.int (xs.idxOf c : Nat)) H) : rTupIx K (.ref a) [y] H Q :=
  ⟨a, y, f c, xs.map f, xs.idxOf c, f c, rfl, rfl, Dp.same S.sub (hx.dp S), Dp.same S.sub (hy.dp S), e.lay c, hd, e.layAll xs, (e.idx hm).1, by rw [e.eq]; exact decide_eq_true rfl, (e.idx hm).2, q⟩
/-- l.index(x) -/
theorem x_lix (h : ta σ H fun x H1 => tyV K "list" x H1 ∧ te σ H1 fun y H2 => rIndexD K x [y] H2 Q) : tBM K "list" (rIndexD K) ta (tCons te tNil) σ H Q := h
theorem h_lixF {A : Prop} (h : tyV K "list" v H ∧ A) : tyV K "list" v H ∧ A := h
theorem x_lixF {A : Prop} {ds : List PyData} (S : Ds K C B σ H M ρ w tp) (hx : Tm tp v (.list ds)) (h : A) : tyV K "list" v H ∧ A := by
  obtain ⟨p, ys, rfl, h1, _⟩ := dp_lst (hx.dp S)
  exact ⟨.inl ⟨rfl, ys, S.sub.seq h1⟩, h⟩
theorem x_lixK (e : Enc f) (S : Ds K C B σ H M ρ w tp) (hx : Tm tp v (.list (xs.map f))) (hy : Tm tp y (f c)) (hd : (f c).depth ≤ 64) (hd2 : ∀ x ∈ xs, (f x).depth ≤ 63) (hm : c ∈ xs) (q : Q (.int (xs.idxOf c : Nat)) H) : rIndexD K v [y] H Q := by
  obtain ⟨a, ys, rfl, h1, h2⟩ := dp_lst (hx.dp S)
  refine ⟨a, y, f c, xs.map f, xs.idxOf c, f c, rfl, rfl, Dp.same S.sub (.lst h1 h2), Dp.same S.sub (hy.dp S), ?_, by unfold SeqAt.shaped; rw [e.lay, decide_eq_true hd]; rfl, (e.idx hm).1, by rw [e.eq]; exact decide_eq_true rfl, (e.idx hm).2, q⟩
  have hs : ∀ ys : List α, (∀ x ∈ ys, (f x).depth ≤ 63) → PyData.depthAll (ys.map f) ≤ 63 := fun ys => by
    induction ys with
    | nil => exact fun _ => Nat.zero_le _
    | cons y ys ih =>
      intro h
      have h1 := h y (List.mem_cons_self ..)
      have h2 := ih fun x hx => h x (List.mem_cons_of_mem _ hx)
      show max (f y).depth (PyData.depthAll (ys.map f)) ≤ 63
      omega
  unfold SeqAt.shaped
  have h3 := hs xs hd2
  have h4 : (PyData.list (xs.map f)).canLay0 = true := e.layAll xs
  rw [h4, Bool.true_and]
  refine decide_eq_true ?_
  show PyData.depthAll (xs.map f) + 1 ≤ 64
  omega
end
section
variable {X : Cx} {K : PySem.W.Frag} {e : Expr}
theorem kInX (hu : X.A.units + 65 < cLine) (h : X.K = K := by rfl) : OpR X (compareOp .In) (rInX K false) := h ▸ op_inX hu
theorem kNotInX (hu : X.A.units + 65 < cLine) (h : X.K = K := by rfl) : OpR X (compareOp .NotIn) (rInX K true) := h ▸ op_notInX hu
theorem kTupIx (hu : X.A.units + 65 < cLine) (h : X.K = K := by rfl) : MtR X "tuple.index" (rTupIx K) := h ▸ mt_tupIx hu
theorem kLstIx (hu : X.A.units + 65 < cLine) (h : X.K = K := by rfl) : MtR X "list.index" (rIndexD K) := h ▸ mt_indexD hu
theorem kBMT {r : V → List V → Hp → VK → Prop} {to : TE} {t : TA} (p : PE X e (tBMT X.K r to t)) (h : X.K = K := by rfl) : PE X e (tBMT K r to t) := h ▸ p
end
end Pf
namespace Pf
open PySem PySem.Spec PyProof.Rows L2
/-! a def that keeps a promise over Ds -/
section
variable {P : Program} {w : World} {K : PySem.W.Frag} {mg : Str → Option Value} {base : Heap}
theorem Df.go {x : Str} {st : Stmt} {f : Addr} {fd : FuncData} {ps N : List Str} {k : Nat} (D : Df K mg x st f fd ps) (S : FnScope N ps (defScope st)) (pre : Pre) (len : ∀ ss u post, pre ss u post → ss.length = ps.length)
    (hbody : ∀ (cdv : Value) (A : Around) (outer : List Env) (s : Shared) (H M : Hp) (vs : List V) (Q : VK) (E : XK) (ss : List Sl) (u : Own) (post : Rs → Own → Prop), Room k (A.deeper (envOfC x (defScope st) s.heap.objs.size f cdv)) → pre ss u post →
      Ds K ⟨H, M, u.map (·.1)⟩ M (L2.start N vs) H M (ss ++ List.replicate (N.length - ss.length) .u) u [] → (∀ r u' v H', post r u' → Fin K ⟨H, M, u.map (·.1)⟩ r u' v H' → Q v H') →
      ∃ t, PSs (cxOf CX0 P w K mg base N x (defScope st) f cdv A outer s H E).nox (defBody st) t ∧ t { nx := fun _ H' => Q .non H', rt := Q } (L2.start N vs) H) : Cl P w K mg base (k + 1) x (spG K pre) := by
  refine D.cl S (fun vs H Q E h => ?_) (fun cdv A outer s H vs Q E hr h => ?_)
  · obtain ⟨M, ss, u, post, _, h2, _, _, h5, _⟩ := h
    exact h2.length.trans (len _ _ _ h5)
  · obtain ⟨M, ss, u, post, h1, h2, h3, h4, h5, q⟩ := h
    exact hbody cdv A outer s H M vs Q E ss u post hr h5 (Ds.init h1 h2 h3 h4) q
end
section
variable {K : PySem.W.Frag} {B : Hp} {σ : L2.St} {H M H0 M0 : Hp} {ρ : List Sl} {w : Own} {tp : List (V × PyData)} {Q : VK} {post : Rs → Own → Prop} {v : V} {d : PyData} {p a : Addr} {od : Od}
theorem x_ret0 (S : Ds K ⟨H0, M0, []⟩ B σ H M ρ w tp) (hq : ∀ r w' v H', post r w' → Fin K ⟨H0, M0, []⟩ r w' v H' → Q v H') (ht : Tm tp v d) (hp : post (.s (.d d)) []) : Q v H :=
  hq _ _ v H hp (S.fin rfl (fun _ h => nomatch h) (ht.dp S))
theorem x_retO0 (S : Ds K ⟨H0, M0, []⟩ B σ H M ρ w tp) (hq : ∀ r w' v H', post r w' → Fin K ⟨H0, M0, []⟩ r w' v H' → Q v H') (j : Nat) (hj : w[j]? = some (p, od)) (hp : post (.o od) []) : Q (.ref p) H := by
  have hm := List.mem_of_getElem? hj
  exact hq _ _ _ H hp (S.fin rfl (fun _ h => nomatch h) ⟨p, rfl, (S.ow _ hm).resolve_left (fun z => nomatch z), (S.own _ hm).1, (S.own _ hm).2⟩)
theorem x_ret1 (S : Ds K ⟨H0, M0, [a]⟩ B σ H M ρ w tp) (hq : ∀ r w' v H', post r w' → Fin K ⟨H0, M0, [a]⟩ r w' v H' → Q v H') (ht : Tm tp v d) (j : Nat) (hj : w[j]? = some (a, od)) (hp : post (.s (.d d)) [(a, od)]) : Q v H :=
  hq _ _ v H hp (S.fin rfl (fun x h => by rw [List.mem_singleton.mp h]; exact List.mem_of_getElem? hj) (ht.dp S))
end
/-! range -/
def ForR (R : It → Hp → Prop) (vs : List V) (H1 : Hp) : Prop := ∃ j : Int, vs = [.int j] ∧ -(2 ^ 62) ≤ j ∧ j < 2 ^ 62 ∧ R (Itr 0 j.toNat) H1
def ForR2 (R : It → Hp → Prop) (vs : List V) (H1 : Hp) : Prop := ∃ i j : Int, vs = [.int i, .int j] ∧ (-(2 ^ 62) ≤ i ∧ i < 2 ^ 62 ∧ -(2 ^ 62) ≤ j ∧ j < 2 ^ 62) ∧ R (Itr i (j - i).toNat) H1
section
variable {K : PySem.W.Frag} {C : Fx} {B : Hp} {σ : L2.St} {H M H' M' : Hp} {ρ ρ' : List Sl} {w w' : Own} {tp : List (V × PyData)} {D : Ends} {te : TE} {tb : TS} {tl : TA} {g : TG} {v : V} {ds : List PyData} {p : Addr} {a : Int}
theorem x_fR (h : tl σ H fun vs H1 => ForR (ForB g tb D σ) vs H1) : tFor (iRng1 tl) g tb D σ H := h
theorem x_fR2 (h : tl σ H fun vs H1 => ForR2 (ForB g tb D σ) vs H1) : tFor (iRng2 tl) g tb D σ H := h
theorem x_forR (I : Nat → List Sl → Own → Prop) (S : Ds K C B σ H M ρ w tp) (b1 : -(2 ^ 62) ≤ a) (b2 : a < 2 ^ 62) (h0 : I 0 ρ w)
    (hs : ∀ i ρ1 w1, i < a.toNat → I i ρ1 w1 → ∀ σ1 H1 M1, Ds K C M σ1 H1 M1 ρ1 w1 [] → g (.int (i : Int)) σ1 H1 fun σ2 H2 => tb { D with nx := Nx K C M I (i + 1), ct := Nx K C M I (i + 1), bk := D.nx } σ2 H2)
    (hd : ∀ ρ1 w1, I a.toNat ρ1 w1 → ∀ σ1 H1 M1, Ds K C B σ1 H1 M1 ρ1 w1 [] → D.nx σ1 H1) : ForR (ForB g tb D σ) [.int a] H := by
  refine ⟨a, rfl, b1, b2, for_range (lo := 0) (n := a.toNat) (Nx K C M I) ⟨M, ρ, w, h0, S.base.clr⟩ (fun i σ1 H1 hi q => ?_) (fun σ1 H1 q => ?_)⟩
  · obtain ⟨M1, ρ1, w1, q, S1⟩ := q
    rw [Int.zero_add]
    exact hs i ρ1 w1 hi q σ1 H1 M1 S1
  · obtain ⟨M1, ρ1, w1, q, S1⟩ := q
    exact hd ρ1 w1 q σ1 H1 M1 (S1.base' S.bs)
/-- the slots and own things are functions of the turn -/
abbrev At (P : Nat → List Sl) (W : Nat → Own) : Nat → List Sl → Own → Prop := fun i ρ w => ρ = P i ∧ w = W i
theorem Nx.at {I : Nat → List Sl → Own → Prop} {i : Nat} (S : Ds K C B σ H M ρ w tp) (hl : SlLe ρ ρ') (h : I i ρ' w) : Nx K C B I i σ H := ⟨M, ρ', w, h, S.clr.weak hl⟩
end
end Pf
namespace Pf
open PySem PySem.Spec PyProof.Rows L2
/-! what holds between two statements -/
def Md (K : PySem.W.Frag) (C : Fx) (B : Hp) (I : List Sl → Own → Prop) : L2.St → Hp → Prop := fun σ H => ∃ M ρ w, I ρ w ∧ Ds K C B σ H M ρ w []
section
variable {K : PySem.W.Frag} {C : Fx} {B : Hp} {σ : L2.St} {H M H' M' : Hp} {ρ ρ' : List Sl} {w w' : Own} {tp : List (V × PyData)} {D : Ends} {t u : TS}
theorem x_cut (I : List Sl → Own → Prop) (S : Ds K C B σ H M ρ w tp) (h1 : t { D with nx := Md K C B I } σ H) (h2 : ∀ M σ H ρ w, I ρ w → Ds K C B σ H M ρ w [] → u D σ H) : Evl.tCut t u D σ H :=
  ⟨_, h1, fun σ' H' ⟨M, ρ, w, a, b⟩ => h2 M σ' H' ρ w a b⟩
theorem Md.at {I : List Sl → Own → Prop} (S : Ds K C B σ H M ρ w tp) (hl : SlLe ρ ρ') (h : I ρ' w) : Md K C B I σ H := ⟨M, ρ', w, h, S.clr.weak hl⟩
end
end Pf
namespace Pf
open PySem
theorem map_snoc {α β : Type} {f : α → β} {xs : List α} {x : α} : xs.map f ++ [f x] = (xs ++ [x]).map f := by
  rw [List.map_append]
  rfl
theorem own_snoc {α : Type} {f : α → PyData} {xs : List α} {x : α} {p : Addr} {w : Own} : (p, Od.lst (xs.map f ++ [f x])) :: w = (p, Od.lst ((xs ++ [x]).map f)) :: w := by rw [map_snoc]
end Pf
namespace Pf
open PySem PySem.Spec PyProof.Rows L2
/-! promises of usual forms -/
/-- data -/
abbrev pD (P : PyData → Prop) : Rs → Own → Prop := fun r u => u = [] ∧ ∃ d, P d ∧ r = .s (.d d)
/-- a new own object -/
abbrev pO (P : Od → Prop) : Rs → Own → Prop := fun r u => u = [] ∧ ∃ od, P od ∧ r = .o od
/-- data, and the own object that was handed over -/
abbrev pD1 (a : Addr) (P : PyData → Od → Prop) : Rs → Own → Prop := fun r u => ∃ d od, P d od ∧ r = .s (.d d) ∧ u = [(a, od)]
section
variable {K : PySem.W.Frag} {C : Fx} {B : Hp} {σ : L2.St} {H M H0 M0 : Hp} {ρ : List Sl} {w : Own} {tp : List (V × PyData)} {Q : VK} {E : XK} {v : V} {d : PyData} {p a : Addr} {od : Od} {P : PyData → Prop} {PO : Od → Prop} {P1 : PyData → Od → Prop} {pre : Pre} {vs : List V} {ss : List Sl}
theorem x_cD (S : Ds K C B σ H M ρ w tp) (hs : SlT K M tp vs ss) (hp : pre ss [] (pD P)) (q : ∀ d, P d → ∀ H' M', Ds K C B σ H' M' ρ w tp → Giv K M' H' Q d) : spG K pre vs H Q E :=
  x_call0 S (hs.dp S) hp fun r u hr v H' M' R => by
    obtain ⟨_, d, hd, rfl⟩ := hr
    have R : Ds K C B σ H' M' ρ w ((v, d) :: tp) := R
    exact q d hd H' M' R.rest v (R.tm _ (List.mem_cons_self ..))
theorem x_cO (S : Ds K C B σ H M ρ w tp) (hs : SlT K M tp vs ss) (hp : pre ss [] (pO PO)) (q : ∀ od, PO od → ∀ p H' M', Ds K C B σ H' M' ρ ((p, od) :: w) tp → Q (.ref p) H') : spG K pre vs H Q E :=
  x_call0 S (hs.dp S) hp fun r u hr v H' M' R => by
    obtain ⟨_, od, hd, rfl⟩ := hr
    obtain ⟨p, rfl, R⟩ : ∃ p, v = .ref p ∧ Ds K C B σ H' M' ρ ((p, od) :: w) tp := R
    exact q od hd p H' M' R
theorem x_c1 (j : Nat) (S : Ds K C B σ H M ρ w tp) (hj : w[j]? = some (a, od)) (hs : SlT K M tp vs ss) (hp : pre ss [(a, od)] (pD1 a P1)) (q : ∀ d od', P1 d od' → ∀ H' M' w', SetAt w j (a, od') w' → Ds K C B σ H' M' ρ w' tp → Giv K M' H' Q d) : spG K pre vs H Q E :=
  x_call1 j S hj (hs.dp S) hp fun r od1 hr v H' M' R => by
    obtain ⟨d, od', hd, rfl, e⟩ := hr
    obtain rfl : od1 = od' := by
      have := List.head_eq_of_cons_eq e
      exact congrArg Prod.snd this
    have R : Ds K C B σ H' M' ρ (w.set j (a, od1)) ((v, d) :: tp) := R
    exact q d od1 hd H' M' _ (.of (List.getElem?_eq_some_iff.mp hj).1) R.rest v (R.tm _ (List.mem_cons_self ..))
theorem x_rD (S : Ds K ⟨H0, M0, []⟩ B σ H M ρ w tp) (hq : ∀ r w' v H', pD P r w' → Fin K ⟨H0, M0, []⟩ r w' v H' → Q v H') (ht : Tm tp v d) (hp : P d) : Q v H := x_ret0 S hq ht ⟨rfl, d, hp, rfl⟩
theorem x_rO (S : Ds K ⟨H0, M0, []⟩ B σ H M ρ w tp) (hq : ∀ r w' v H', pO PO r w' → Fin K ⟨H0, M0, []⟩ r w' v H' → Q v H') (j : Nat) (hj : w[j]? = some (p, od)) (hp : PO od) : Q (.ref p) H := x_retO0 S hq j hj ⟨rfl, od, hp, rfl⟩
theorem x_r1 (S : Ds K ⟨H0, M0, [a]⟩ B σ H M ρ w tp) (hq : ∀ r w' v H', pD1 a P1 r w' → Fin K ⟨H0, M0, [a]⟩ r w' v H' → Q v H') (ht : Tm tp v d) (j : Nat) (hj : w[j]? = some (a, od)) (hp : P1 d od) : Q v H := x_ret1 S hq ht j hj ⟨d, od, hp, rfl, rfl⟩
end
end Pf
namespace Pf
open PySem PySem.Spec PyProof.Rows L2
/-! objects known to the letter -/
section
variable {K : PySem.W.Frag} {C : Fx} {B : Hp} {σ : L2.St} {H M : Hp} {ρ : List Sl} {w w' : Own} {tp : List (V × PyData)} {Q R : VK} {p a : Addr} {i : Int} {xs : List V} {v x : V} {od od' : Od} {to ti : TE} {t : TSet} {q : L2.St → Hp → Prop}
theorem Ds.reOd {j : Nat} (S : Ds K C B σ H M ρ w tp) (hj : w[j]? = some (a, od)) (ok : OdOk K M H a od') : Ds K C B σ H M ρ (w.set j (a, od')) tp := by
  have hm := List.mem_of_getElem? hj
  refine S.step (O := []) (Fr.refl _ S.sub) (fun _ h => nomatch h) ?_ fun y hy => ?_
  · rw [List.map_set]
    exact set_self (by rw [List.getElem?_map, hj]; rfl)
  · rcases List.mem_or_eq_of_mem_set hy with h | rfl
    · exact (S.own y h).2
    · exact ok
theorem x_ixH (j : Nat) (S : Ds K C B σ H M ρ w tp) (hj : w[j]? = some (p, .ho (.lst xs))) (hi : atI xs i = some v) (q : R v H) : rIxL K (.ref p) (.int i) H R :=
  ⟨p, xs, i, v, rfl, rfl, .of (S.own _ (List.mem_of_getElem? hj)).2, hi, q⟩
theorem x_gSub (h : to σ H fun o H1 => ti σ H1 fun i H2 => t o i v H2 fun H3 => q σ H3) : gSub to ti t v σ H q := h
theorem h_setL {P : Hp → Prop} {o k : V} (h : rSetL o k v H P) : rSetL o k v H P := h
theorem x_setH {P : Hp → Prop} {k : Nat} (j : Nat) (S : Ds K C B σ H M ρ w tp) (hj : w[j]? = some (p, .ho (.lst xs))) (hk : ixN xs.length i = some k) (hw : SetAt w j (p, .ho (.lst (xs.set k v))) w') (q : ∀ H', Ds K C B σ H' M ρ w' tp → P H') : rSetL (.ref p) (.int i) v H P :=
  ⟨p, xs, i, k, rfl, rfl, (S.own _ (List.mem_of_getElem? hj)).2, hk, q _ (hw.eq ▸ S.mut hj upd_same)⟩
theorem x_open (j : Nat) {A : Prop} (S : Ds K C B σ H M ρ w tp) (hj : w[j]? = some (a, .box)) (q : ∀ (p : Addr) (ns : List Int) (i : Int) (w' : Own), 0 ≤ i → SetAt w j (a, .ho (.lst [.ref p, .int i])) w' → Ds K C B σ H M ρ w' ((.ref p, .list (ns.map .int)) :: tp) → A) : A := by
  obtain ⟨_, p, ns, i, h1, h2, h3⟩ := S.own _ (List.mem_of_getElem? hj)
  refine q p ns i _ h3 (.of (List.getElem?_eq_some_iff.mp hj).1) ((S.reOd (od' := .ho (.lst [.ref p, .int i])) hj h1).push (.lst h2 ?_))
  have hs : ∀ ns : List Int, DpAll K M (ns.map V.int) (ns.map PyData.int) := fun ns => by
    induction ns with
    | nil => exact .nil
    | cons n ns ih => exact .cons (.int n) ih
  exact hs ns
theorem Ds.close {j : Nat} {ns : List Int} (S : Ds K C B σ H M ρ w tp) (hj : w[j]? = some (a, .ho (.lst [.ref p, .int i]))) (h0 : 0 ≤ i) (ht : Tm tp (.ref p) (.list (ns.map .int))) : Ds K C B σ H M ρ (w.set j (a, .box)) tp := by
  obtain ⟨p', ys, e, h1, h2⟩ := dp_lst (ht.dp S)
  cases e
  cases dpAll_ints h2
  exact S.reOd hj ⟨p, ns, i, (S.own _ (List.mem_of_getElem? hj)).2, h1, h0⟩
end
/-! boxes of digits -/
section
variable {K : PySem.W.Frag} {C : Fx} {B : Hp} {σ : L2.St} {H M : Hp} {ρ : List Sl} {w w' : Own} {tp : List (V × PyData)} {Q : VK} {p a : Addr} {i : Int} {ns : List Int}
theorem x_lstBox (S : Ds K C B σ H M ρ ((p, .lst (ns.map .int)) :: w) tp) (hO : p ∉ C.O) (hz : 0 ≤ i) (q : ∀ b H' M', Ds K C B σ H' M' ρ ((b, .box) :: w) tp → Q (.ref b) H') : LstK Q [.ref p, .int i] H := by
  refine ⟨by show 2 ≤ sizeLine; decide, fun b hb => ?_⟩
  obtain ⟨M', S'⟩ := S.freeze hO
  have h1 := S'.tm (.ref p, .list (ns.map .int)) (List.mem_cons_self ..)
  obtain ⟨p', xs, e, h2, h3⟩ := dp_lst h1
  cases e
  cases dpAll_ints h3
  exact q b _ M' (S'.newO (od := .box) hb ⟨p, ns, i, upd_same, h2, hz⟩).rest
end
end Pf
namespace Pf
open PySem PySem.Spec PyProof.Rows L2
section
variable {P : Program} {w : World} {K : PySem.W.Frag} {mg : Str → Option Value} {base : Heap}
theorem Df.vain {x : Str} {st : Stmt} {f : Addr} {fd : FuncData} {ps N : List Str} {k : Nat} (D : Df K mg x st f fd ps) (S : FnScope N ps (defScope st)) (pre : Pre) (h : ∀ ss u post, ¬ pre ss u post) : Cl P w K mg base (k + 1) x (spG K pre) :=
  D.go S pre (fun ss u post z => (h _ _ _ z).elim) fun cdv A outer s H M vs Q E ss u post hr z _ _ => (h _ _ _ z).elim
end
end Pf
namespace Pf
open PySem PySem.Spec PyProof.Rows L2
/-! more steps -/
theorem u65 {k : Nat} {A : Around} (r : Room k A) : A.units + 65 < cLine := by have := r.un; omega
section
variable {K : PySem.W.Frag} {C : Fx} {B : Hp} {σ : L2.St} {H M : Hp} {ρ : List Sl} {w w' : Own} {tp : List (V × PyData)} {Q R : VK} {p a : Addr} {i : Int} {v x y : V} {te : TE} {tl th : TO} {ds es : List PyData} {lo hi : Option Int} {neg : Bool} {s s1 s2 s3 s4 : Str}
theorem h_in (h : rIn K neg x y H R) : rIn K neg x y H R := h
theorem x_inS2 (S : Ds K C B σ H M ρ w tp) (ht : Tm tp y (.tuple [.str s1, .str s2])) (q : R (.bl (if neg then !decide (s ∈ [s1, s2]) else decide (s ∈ [s1, s2]))) H) : rIn K neg (.str s) y H R := x_inST (ns := [s1, s2]) S ht q
theorem x_inS3 (S : Ds K C B σ H M ρ w tp) (ht : Tm tp y (.tuple [.str s1, .str s2, .str s3])) (q : R (.bl (if neg then !decide (s ∈ [s1, s2, s3]) else decide (s ∈ [s1, s2, s3]))) H) : rIn K neg (.str s) y H R := x_inST (ns := [s1, s2, s3]) S ht q
theorem x_inI2 {a b c : Int} (S : Ds K C B σ H M ρ w tp) (ht : Tm tp y (.tuple [.int a, .int b])) (q : R (.bl (if neg then !decide (c ∈ [a, b]) else decide (c ∈ [a, b]))) H) : rIn K neg (.int c) y H R := x_inIT (ns := [a, b]) S ht q
theorem x_inI3 {a b d c : Int} (S : Ds K C B σ H M ρ w tp) (ht : Tm tp y (.tuple [.int a, .int b, .int d])) (q : R (.bl (if neg then !decide (c ∈ [a, b, d]) else decide (c ∈ [a, b, d]))) H) : rIn K neg (.int c) y H R := x_inIT (ns := [a, b, d]) S ht q
theorem x_sl {r : V → Option Int → Option Int → Hp → VK → Prop} (h : te σ H fun x H1 => tl σ H1 fun l H2 => th σ H2 fun u H3 => r x l u H3 Q) : tSl r te tl th σ H Q := h
theorem x_noPart {q : Option Int → Hp → Prop} (h : q none H) : tNoPart σ H q := h
theorem x_part {q : Option Int → Hp → Prop} (h : te σ H fun x H1 => ∃ i, x = .int i ∧ q (some i) H1) : tPart te σ H q := h
theorem x_exI {q : Int → Prop} (h : q i) : ∃ j, V.int i = .int j ∧ q j := ⟨i, rfl, h⟩
theorem dpAll_cut {vs : List V} (h : DpAll K M vs ds) : DpAll K M (cutV vs lo hi) (cutI ds lo hi) := by
  have hd : ∀ (n : Nat) {vs : List V} {ds : List PyData}, DpAll K M vs ds → DpAll K M (vs.drop n) (ds.drop n) := fun n => by
    induction n with
    | zero => exact fun h => h
    | succ n ih =>
      intro vs ds h
      cases h with
      | nil => exact .nil
      | cons _ t => exact ih t
  have ht : ∀ (n : Nat) {vs : List V} {ds : List PyData}, DpAll K M vs ds → DpAll K M (vs.take n) (ds.take n) := fun n => by
    induction n with
    | zero => exact fun _ => .nil
    | succ n ih =>
      intro vs ds h
      cases h with
      | nil => exact .nil
      | cons a t => exact .cons a (ih t)
  unfold cutV cutI
  rw [dpAll_len h]
  exact ht _ (hd _ h)
theorem cutI_all {α : Type} {ds : List α} (h : HT.sIx ds.length 0 lo = 0 ∧ HT.sIx ds.length ds.length hi = ds.length) : cutI ds lo hi = ds := by
  unfold cutI
  rw [h.1, h.2]
  simp
theorem h_slA (h : rSlA K v lo hi H R) : rSlA K v lo hi H R := h
theorem x_slA (S : Ds K C B σ H M ρ w tp) (ht : Tm tp v (.tuple ds)) (hc : cutI ds lo hi = es) (q : ∀ u H' M', Ds K C B σ H' M' ρ w ((u, .tuple es) :: tp) → R u H') : rSlA K v lo hi H R := by
  obtain ⟨p, xs, rfl, h1, h2⟩ := dp_tup (ht.dp S)
  have hl := dpAll_len h2
  refine ⟨p, xs, rfl, Same.seqT S.sub h1, fun hw => ?_, fun hw b hb => ?_⟩
  · rw [hl] at hw
    rw [cutI_all hw] at hc
    subst hc
    exact q _ H M (S.push (.tup h1 h2))
  · exact q _ _ _ (S.newT hb (hc ▸ dpAll_cut h2))
theorem h_slL (h : rSlL K v lo hi H R) : rSlL K v lo hi H R := h
/-- a list's slice: a new list -/
theorem x_slL (S : Ds K C B σ H M ρ w tp) (ht : Tm tp v (.list ds)) (hc : cutI ds lo hi = es) (q : ∀ p H', Ds K C B σ H' M ρ ((p, .lst es) :: w) tp → R (.ref p) H') : rSlL K v lo hi H R := by
  obtain ⟨p, xs, rfl, h1, h2⟩ := dp_lst (ht.dp S)
  exact ⟨p, xs, rfl, S.sub.seq h1, fun b hb => q b _ (S.newL hb (hc ▸ dpAll_cut h2))⟩
end
end Pf
namespace Pf
open PySem PySem.Spec PyProof.Rows L2
/-! in, not in, one by one -/
section
variable {K : PySem.W.Frag} {C : Fx} {B : Hp} {σ : L2.St} {H M : Hp} {ρ : List Sl} {w w' : Own} {tp : List (V × PyData)} {Q R : VK} {p a : Addr} {v x y : V}
variable {α : Type} [DecidableEq α] {f : α → PyData} {xs : List α} {c : α} {ns : List Int} {k k1 k2 k3 : Int} {ss : List Str} {s s1 s2 s3 : Str}
theorem y_inT (e : Enc f) (S : Ds K C B σ H M ρ w tp) (hx : Tm tp x (f c)) (hy : Tm tp y (.tuple (xs.map f))) (hd : (f c).depth ≤ 64) (q : R (.bl (decide (c ∈ xs))) H) : rInX K false x y H R := x_inXT e S hx hy hd q
theorem y_niT (e : Enc f) (S : Ds K C B σ H M ρ w tp) (hx : Tm tp x (f c)) (hy : Tm tp y (.tuple (xs.map f))) (hd : (f c).depth ≤ 64) (q : R (.bl (!decide (c ∈ xs))) H) : rInX K true x y H R := x_inXT e S hx hy hd q
theorem y_inL (e : Enc f) (S : Ds K C B σ H M ρ w tp) (hx : Tm tp x (f c)) (hy : Tm tp y (.list (xs.map f))) (hd : (f c).depth ≤ 64) (q : R (.bl (decide (c ∈ xs))) H) : rInX K false x y H R := x_inXL e S hx hy hd q
theorem y_niL (e : Enc f) (S : Ds K C B σ H M ρ w tp) (hx : Tm tp x (f c)) (hy : Tm tp y (.list (xs.map f))) (hd : (f c).depth ≤ 64) (q : R (.bl (!decide (c ∈ xs))) H) : rInX K true x y H R := x_inXL e S hx hy hd q
theorem y_inO (e : Enc f) (j : Nat) (S : Ds K C B σ H M ρ w tp) (hj : w[j]? = some (a, .lst (xs.map f))) (hx : Tm tp x (f c)) (hd : (f c).depth ≤ 64) (q : R (.bl (decide (c ∈ xs))) H) : rInX K false x (.ref a) H R := x_inXO e j S hj hx hd q
theorem y_niO (e : Enc f) (j : Nat) (S : Ds K C B σ H M ρ w tp) (hj : w[j]? = some (a, .lst (xs.map f))) (hx : Tm tp x (f c)) (hd : (f c).depth ≤ 64) (q : R (.bl (!decide (c ∈ xs))) H) : rInX K true x (.ref a) H R := x_inXO e j S hj hx hd q
theorem i_inT (S : Ds K C B σ H M ρ w tp) (ht : Tm tp y (.tuple (ns.map .int))) (q : R (.bl (decide (k ∈ ns))) H) : rIn K false (.int k) y H R := x_inIT S ht q
theorem i_niT (S : Ds K C B σ H M ρ w tp) (ht : Tm tp y (.tuple (ns.map .int))) (q : R (.bl (!decide (k ∈ ns))) H) : rIn K true (.int k) y H R := x_inIT S ht q
theorem i_inL (S : Ds K C B σ H M ρ w tp) (ht : Tm tp y (.list (ns.map .int))) (q : R (.bl (decide (k ∈ ns))) H) : rIn K false (.int k) y H R := x_inIL S ht q
theorem i_niL (S : Ds K C B σ H M ρ w tp) (ht : Tm tp y (.list (ns.map .int))) (q : R (.bl (!decide (k ∈ ns))) H) : rIn K true (.int k) y H R := x_inIL S ht q
theorem i_inO (j : Nat) (S : Ds K C B σ H M ρ w tp) (hj : w[j]? = some (p, .lst (ns.map .int))) (q : R (.bl (decide (k ∈ ns))) H) : rIn K false (.int k) (.ref p) H R := x_inIO j S hj q
theorem i_niO (j : Nat) (S : Ds K C B σ H M ρ w tp) (hj : w[j]? = some (p, .lst (ns.map .int))) (q : R (.bl (!decide (k ∈ ns))) H) : rIn K true (.int k) (.ref p) H R := x_inIO j S hj q
theorem s_inT (S : Ds K C B σ H M ρ w tp) (ht : Tm tp y (.tuple (ss.map .str))) (q : R (.bl (decide (s ∈ ss))) H) : rIn K false (.str s) y H R := x_inST S ht q
theorem s_in2 (S : Ds K C B σ H M ρ w tp) (ht : Tm tp y (.tuple [.str s1, .str s2])) (q : R (.bl (decide (s ∈ [s1, s2]))) H) : rIn K false (.str s) y H R := x_inST (ns := [s1, s2]) S ht q
theorem s_ni2 (S : Ds K C B σ H M ρ w tp) (ht : Tm tp y (.tuple [.str s1, .str s2])) (q : R (.bl (!decide (s ∈ [s1, s2]))) H) : rIn K true (.str s) y H R := x_inST (ns := [s1, s2]) S ht q
theorem s_in3 (S : Ds K C B σ H M ρ w tp) (ht : Tm tp y (.tuple [.str s1, .str s2, .str s3])) (q : R (.bl (decide (s ∈ [s1, s2, s3]))) H) : rIn K false (.str s) y H R := x_inST (ns := [s1, s2, s3]) S ht q
theorem i_in1 (S : Ds K C B σ H M ρ w tp) (ht : Tm tp y (.tuple [.int k1])) (q : R (.bl (decide (k ∈ [k1]))) H) : rIn K false (.int k) y H R := x_inIT (ns := [k1]) S ht q
theorem i_in2 (S : Ds K C B σ H M ρ w tp) (ht : Tm tp y (.tuple [.int k1, .int k2])) (q : R (.bl (decide (k ∈ [k1, k2]))) H) : rIn K false (.int k) y H R := x_inIT (ns := [k1, k2]) S ht q
theorem i_ni2 (S : Ds K C B σ H M ρ w tp) (ht : Tm tp y (.tuple [.int k1, .int k2])) (q : R (.bl (!decide (k ∈ [k1, k2]))) H) : rIn K true (.int k) y H R := x_inIT (ns := [k1, k2]) S ht q
theorem i_in3 (S : Ds K C B σ H M ρ w tp) (ht : Tm tp y (.tuple [.int k1, .int k2, .int k3])) (q : R (.bl (decide (k ∈ [k1, k2, k3]))) H) : rIn K false (.int k) y H R := x_inIT (ns := [k1, k2, k3]) S ht q
end
end Pf
namespace Pf
open PySem PySem.Spec PyProof.Rows L2
/-! comprehensions -/
/-- what a turn reaches: the new list at D holds acc -/
def LcN (K : PySem.W.Frag) (C : Fx) (B : Hp) (I : Nat → List PyData → Own → Prop) (σ : L2.St) (ρ : List Sl) (D : Addr) (i : Nat) : Hp → Prop := fun H => ∃ M acc w, I i acc w ∧ Ds K C B σ H M ρ ((D, .lst acc) :: w) []
def LcA (N : Hp → Prop) (D : Addr) (y : V) (H4 : Hp) : Prop := ∃ acc, H4 D = some (.lst acc) ∧ acc.length < sizeLine ∧ N (upd H4 D (.lst (acc ++ [y])))
/-- a comprehension behind its iterable -/
def LcB (g : TG) (tt : TT) (te : TE) (vs : List Nat) (Q : VK) (σ : L2.St) (J : It) (H1 : Hp) : Prop := ∀ D, H1 D = none → ∃ W : Nat → Nat → Hp → Prop, (∃ m, W 0 m (upd H1 D (.lst []))) ∧ ∀ i m H, W i m H →
  (J.stop i H ∧ Q (.ref D) H) ∨ (J.go i H ∧ ∃ N : Hp → Prop, (∀ H', N H' → ∃ m', m' < m ∧ W (i + 1) m' H') ∧ ∀ x H', J.yld i H x H' → g x (wipe σ vs) H' fun σ2 H2 => wipe σ2 vs = wipe σ vs ∧ tt σ2 H2 fun b H3 =>
    if b = true then te σ2 H3 (LcA N D) else N H3)
section
variable {K : PySem.W.Frag} {C : Fx} {B : Hp} {σ : L2.St} {H M H' M' : Hp} {ρ ρ' ρ2 : List Sl} {w w' : Own} {tp : List (V × PyData)} {Q : VK} {te : TE} {tt : TT} {tl : TA} {g : TG} {v y : V} {ds acc : List PyData} {e : PyData} {D p : Addr} {a : Int} {vs : List Nat} {k : Nat} {i : Nat} {I : Nat → List PyData → Own → Prop}
theorem x_lcT (h : te σ H fun x H1 => ForT K (LcB g tt tb vs Q σ) x H1) : tLc (iTup K te) g tt tb vs σ H Q := h
theorem x_lcL (h : te σ H fun x H1 => ForL K (LcB g tt tb vs Q σ) x H1) : tLc (iList K te) g tt tb vs σ H Q := h
theorem x_lcR (h : tl σ H fun x H1 => ForR (LcB g tt tb vs Q σ) x H1) : tLc (iRng1 tl) g tt tb vs σ H Q := h
theorem x_lcR2 (h : tl σ H fun x H1 => ForR2 (LcB g tt tb vs Q σ) x H1) : tLc (iRng2 tl) g tt tb vs σ H Q := h
theorem x_yes {q : Bool → Hp → Prop} (h : q true H) : tYes σ H q := h
/-- the state within the block: the slots of its own wiped -/
theorem Ds.wiped (S : Ds K C B σ H M ρ w tp) : ∀ vs : List Nat, Ds K C B (wipe σ vs) H M (vs.foldr (fun k r => r.set k .u) ρ) w tp
  | [] => S
  | k :: vs => by
    have S1 := Ds.wiped S vs
    have h : ∀ {σ : L2.St} {ρ : List Sl}, Ds K C B σ H M ρ w tp → Ds K C B (σ.set k none) H M (ρ.set k .u) w tp := fun {σ ρ} S => by
      refine { S with ln := by rw [List.length_set, List.length_set]; exact S.ln, sl := fun j s hj => ?_ }
      by_cases q : j = k
      · subst q
        have lt : j < ρ.length := by
          have := (List.getElem?_eq_some_iff.mp hj).1
          rwa [List.length_set] at this
        rw [List.getElem?_set_self lt] at hj
        cases hj
        exact .inl rfl
      · rw [List.getElem?_set_ne (Ne.symm q)] at hj ⊢
        exact S.sl j s hj
    exact h S1
/-- from a turn's state back to the block's -/
def Rew (K : PySem.W.Frag) (C : Fx) (B : Hp) (σ1 : L2.St) (ρ1 : List Sl) (σ0 : L2.St) (ρ0 : List Sl) : Prop := ∀ {H M : Hp} {w : Own} {tp : List (V × PyData)}, Ds K C B σ1 H M ρ1 w tp → Ds K C B σ0 H M ρ0 w []
theorem x_lcA {σ0 : L2.St} (S : Ds K C B σ H M ρ ((D, .lst acc) :: w) tp) (hr : Rew K C B σ ρ σ0 ρ2) (ht : Tm tp y e) (hl : acc.length < sizeLine) (hI : I (i + 1) (acc ++ [e]) w) : LcA (LcN K C B I σ0 ρ2 D (i + 1)) D y H := by
  obtain ⟨_, us, h1, h2⟩ := S.own _ (List.mem_cons_self ..)
  exact ⟨us, h1, by rw [dpAll_len h2]; exact hl, M, acc ++ [e], w, hI, hr (S.mut (j := 0) (od' := .lst (acc ++ [e])) rfl ⟨_, upd_same, dpAll_app h2 (.cons (ht.dp S) .nil)⟩)⟩
theorem x_lcN {σ0 : L2.St} (S : Ds K C B σ H M ρ ((D, .lst acc) :: w) tp) (hr : Rew K C B σ ρ σ0 ρ2) (hI : I (i + 1) acc w) : LcN K C B I σ0 ρ2 D (i + 1) H := ⟨M, acc, w, hI, hr S⟩
/-- out of the block: the slots as they were ahead of it -/
theorem Ds.outof {σ1 : L2.St} {ρ1 : List Sl} {H1 M1 : Hp} {w1 : Own} (S : Ds K C B σ H M ρ w tp) (S1 : Ds K C M σ1 H1 M1 ρ1 w1 []) : Ds K C B σ H1 M1 ρ w1 tp where
  ln := S.ln
  sl := fun i s h => (S.sl i s h).imp id fun ⟨v, a, b⟩ => ⟨v, a, b.same S1.bs⟩
  tm := fun p h => Dp.same S1.bs (S.tm p h)
  own := S1.own
  nd := S1.nd
  F := S1.F
  ow := S1.ow
  bs := S.bs.trans S1.bs
theorem wipe1 {x : V} : wipe ((wipe σ [k]).set k (some x)) [k] = wipe σ [k] := by
  show ((σ.set k none).set k (some x)).set k none = σ.set k none
  rw [List.set_set, List.set_set]
theorem rew1 {B : Hp} {x : V} {s : Sl} : Rew K C B ((wipe σ [k]).set k (some x)) (ρ.set k s) (wipe σ [k]) (ρ.set k .u) := fun S => by
  have S1 := S.clr.wiped [k]
  rw [wipe1] at S1
  have h : (ρ.set k s).set k .u = ρ.set k .u := List.set_set ..
  exact h ▸ S1
/-- over a tuple, one name -/
theorem x_lc1T (I : Nat → List PyData → Own → Prop) (S : Ds K C B σ H M ρ w tp) (ht : Tm tp v (.tuple ds)) (h0 : I 0 [] w)
    (hs : ∀ i d acc w1, ds[i]? = some d → I i acc w1 → ∀ D σ1 H1 M1, Rew K C M σ1 (ρ.set k (.d d)) (wipe σ [k]) (ρ.set k .u) → Ds K C M σ1 H1 M1 (ρ.set k (.d d)) ((D, .lst acc) :: w1) [] → tt σ1 H1 fun b H3 => if b = true then te σ1 H3 (LcA (LcN K C M I (wipe σ [k]) (ρ.set k .u) D (i + 1)) D) else LcN K C M I (wipe σ [k]) (ρ.set k .u) D (i + 1) H3)
    (hd : ∀ acc w1, I ds.length acc w1 → ∀ D H1 M1, Ds K C B σ H1 M1 ρ ((D, .lst acc) :: w1) tp → Q (.ref D) H1) : ForT K (LcB (gName k) tt te [k] Q σ) v H := by
  obtain ⟨p, xs, rfl, h1, h2⟩ := dp_tup (ht.dp S)
  refine ⟨p, rfl, ⟨xs, Same.seqT S.sub h1⟩, fun D hD => lc_tup (xs := xs) (LcN K C M I (wipe σ [k]) (ρ.set k .u) D) ?_ (fun i H1 _ q => ?_) (fun i x H1 hx q => ?_) (fun H1 q => ?_)⟩
  · exact ⟨M, [], w, h0, (S.base.clr.wiped [k]).newL hD .nil⟩
  · obtain ⟨M1, acc, w1, _, S1⟩ := q
    exact Same.seqT (S1.bs.trans S1.sub) h1
  · obtain ⟨M1, acc, w1, q, S1⟩ := q
    have hi : i < ds.length := by rw [← dpAll_len h2]; exact (List.getElem?_eq_some_iff.mp hx).1
    have e := List.getElem?_eq_getElem hi
    have d1 : Dp K M1 x ds[i] := Dp.same S1.bs (dpAll_at h2 i x _ hx e)
    have S2 := S1.set (i := k) (v := x) (s := .d ds[i]) d1
    rw [List.set_set] at S2
    exact ⟨wipe1, hs i _ acc w1 e q D _ H1 M1 rew1 S2⟩
  · obtain ⟨M1, acc, w1, q, S1⟩ := q
    exact hd acc w1 (dpAll_len h2 ▸ q) D H1 M1 (S.outof S1)
theorem x_lc1L (I : Nat → List PyData → Own → Prop) (S : Ds K C B σ H M ρ w tp) (ht : Tm tp v (.list ds)) (h0 : I 0 [] w)
    (hs : ∀ i d acc w1, ds[i]? = some d → I i acc w1 → ∀ D σ1 H1 M1, Rew K C M σ1 (ρ.set k (.d d)) (wipe σ [k]) (ρ.set k .u) → Ds K C M σ1 H1 M1 (ρ.set k (.d d)) ((D, .lst acc) :: w1) [] → tt σ1 H1 fun b H3 => if b = true then te σ1 H3 (LcA (LcN K C M I (wipe σ [k]) (ρ.set k .u) D (i + 1)) D) else LcN K C M I (wipe σ [k]) (ρ.set k .u) D (i + 1) H3)
    (hd : ∀ acc w1, I ds.length acc w1 → ∀ D H1 M1, Ds K C B σ H1 M1 ρ ((D, .lst acc) :: w1) tp → Q (.ref D) H1) : ForL K (LcB (gName k) tt te [k] Q σ) v H := by
  obtain ⟨p, xs, rfl, h1, h2⟩ := dp_lst (ht.dp S)
  refine ⟨p, rfl, ⟨xs, S.sub.seq h1⟩, fun D hD => lc_list (xs := xs) (LcN K C M I (wipe σ [k]) (ρ.set k .u) D) ?_ (fun i H1 _ q => ?_) (fun i x H1 hx q => ?_) (fun H1 q => ?_)⟩
  · exact ⟨M, [], w, h0, (S.base.clr.wiped [k]).newL hD .nil⟩
  · obtain ⟨M1, acc, w1, _, S1⟩ := q
    exact (S1.bs.trans S1.sub).seq h1
  · obtain ⟨M1, acc, w1, q, S1⟩ := q
    have hi : i < ds.length := by rw [← dpAll_len h2]; exact (List.getElem?_eq_some_iff.mp hx).1
    have e := List.getElem?_eq_getElem hi
    have d1 : Dp K M1 x ds[i] := Dp.same S1.bs (dpAll_at h2 i x _ hx e)
    have S2 := S1.set (i := k) (v := x) (s := .d ds[i]) d1
    rw [List.set_set] at S2
    exact ⟨wipe1, hs i _ acc w1 e q D _ H1 M1 rew1 S2⟩
  · obtain ⟨M1, acc, w1, q, S1⟩ := q
    exact hd acc w1 (dpAll_len h2 ▸ q) D H1 M1 (S.outof S1)
theorem x_lc1R (I : Nat → List PyData → Own → Prop) (S : Ds K C B σ H M ρ w tp) (b1 : -(2 ^ 62) ≤ a) (b2 : a < 2 ^ 62) (h0 : I 0 [] w)
    (hs : ∀ (i : Nat) acc w1, i < a.toNat → I i acc w1 → ∀ D σ1 H1 M1, Rew K C M σ1 (ρ.set k (.d (.int i))) (wipe σ [k]) (ρ.set k .u) → Ds K C M σ1 H1 M1 (ρ.set k (.d (.int i))) ((D, .lst acc) :: w1) [] → tt σ1 H1 fun b H3 => if b = true then te σ1 H3 (LcA (LcN K C M I (wipe σ [k]) (ρ.set k .u) D (i + 1)) D) else LcN K C M I (wipe σ [k]) (ρ.set k .u) D (i + 1) H3)
    (hd : ∀ acc w1, I a.toNat acc w1 → ∀ D H1 M1, Ds K C B σ H1 M1 ρ ((D, .lst acc) :: w1) tp → Q (.ref D) H1) : ForR (LcB (gName k) tt te [k] Q σ) [.int a] H := by
  refine ⟨a, rfl, b1, b2, fun D hD => lc_range (lo := 0) (n := a.toNat) (LcN K C M I (wipe σ [k]) (ρ.set k .u) D) ?_ (fun i H1 hi q => ?_) (fun H1 q => ?_)⟩
  · exact ⟨M, [], w, h0, (S.base.clr.wiped [k]).newL hD .nil⟩
  · obtain ⟨M1, acc, w1, q, S1⟩ := q
    rw [Int.zero_add]
    have S2 := S1.set (i := k) (v := .int i) (s := .d (.int i)) (.int _)
    rw [List.set_set] at S2
    exact ⟨wipe1, hs i acc w1 hi q D _ H1 M1 rew1 S2⟩
  · obtain ⟨M1, acc, w1, q, S1⟩ := q
    exact hd acc w1 q D H1 M1 (S.outof S1)
end
end Pf
namespace Pf
open PySem PySem.Spec PyProof.Rows L2
/-! isinstance -/
section
variable {K : PySem.W.Frag} {C : Fx} {B : Hp} {σ : L2.St} {H M : Hp} {ρ : List Sl} {w w' : Own} {tp : List (V × PyData)} {Q R : VK} {v : V} {b : Bool} {T : String} {vs : List V} {ds : List PyData} {c : Bool} {i : Int} {s : Str}
theorem h_isi (h : rIsi K vs H R) : rIsi K vs H R := h
theorem x_isiB (k : kitB "bool" T = some b) (q : R (.bl b) H) : rIsi K [.bl c, .ty T] H R := ⟨.bl c, .ty T, _, _, b, rfl, .ty _, .base (.bl c), kit_ty k, q⟩
theorem x_isiI (k : kitB "int" T = some b) (q : R (.bl b) H) : rIsi K [.int i, .ty T] H R := ⟨.int i, .ty T, _, _, b, rfl, .ty _, .base (.int i), kit_ty k, q⟩
theorem x_isiS (k : kitB "str" T = some b) (q : R (.bl b) H) : rIsi K [.str s, .ty T] H R := ⟨.str s, .ty T, _, _, b, rfl, .ty _, .base (.str s), kit_ty k, q⟩
theorem x_isiN (k : kitB "NoneType" T = some b) (q : R (.bl b) H) : rIsi K [.non, .ty T] H R := ⟨.non, .ty T, _, _, b, rfl, .ty _, .base .non, kit_ty k, q⟩
theorem x_isiT (S : Ds K C B σ H M ρ w tp) (ht : Tm tp v (.tuple ds)) (k : kitB "tuple" T = some b) (q : R (.bl b) H) : rIsi K [v, .ty T] H R := by
  obtain ⟨p, xs, rfl, h1, h2⟩ := dp_tup (ht.dp S)
  exact ⟨.ref p, .ty T, _, _, b, rfl, .ty _, tyT (Same.seqT S.sub h1), kit_ty k, q⟩
end
end Pf
namespace Pf
open PySem PySem.Spec PyProof.Rows L2
/-! the law -/
def spLaw (K : PySem.W.Frag) : Sp := fun vs H Q _ => ∃ (a : Addr) (ns : List Int), vs = [.ref a] ∧ SqL K H a (ns.map V.int) ∧ ns.length ≤ 63 ∧ ∀ H', Q (.bl true) H'
section
variable {P : Program} {w : World} {K : PySem.W.Frag} {mg : Str → Option Value} {base : Heap}
theorem law_go {x qual : Str} {st : Stmt} {f : Addr} {fd : FuncData} {N : List Str} {k : Nat} (F : Fun K x qual st f fd) (S : FnScope N ["script"] (defScope st))
    (hbody : ∀ (cdv : Value) (A : Around) (outer : List Env) (s : Shared) (H : Hp) (vs : List V) (Q : VK) (E : XK) (ns : List Int), Room k (A.deeper (envOfC qual (defScope st) s.heap.objs.size f cdv)) → ns.length ≤ 63 →
      Ds K ⟨H, H, []⟩ H (L2.start N vs) H H ([.d (.list (ns.map .int))] ++ List.replicate (N.length - [Sl.d (.list (ns.map .int))].length) .u) [] [] → (∀ H', Q (.bl true) H') →
      ∃ t, PSs (cxOf CX0 P w K mg base N qual (defScope st) f cdv A outer s H E).nox (defBody st) t ∧ t { nx := fun _ H' => Q .non H', rt := Q } (L2.start N vs) H) : FnOk P w K mg base CX0 (k + 1) f fd ["script"] (spLaw K) := by
  refine F.ok S (fun vs H Q E h => ?_) (fun cdv A outer s H vs Q E hr h => ?_)
  · obtain ⟨a, ns, rfl, _⟩ := h
    rfl
  · obtain ⟨a, ns, rfl, hS, h63, q⟩ := h
    have hs : ∀ ns : List Int, DpAll K H (ns.map V.int) (ns.map PyData.int) := fun ns => by
      induction ns with
      | nil => exact .nil
      | cons n ns ih => exact .cons (.int n) ih
    exact hbody cdv A outer s H _ Q E ns hr h63 (Ds.init (w := []) (Same.refl _) (.cons (Dp.lst hS (hs ns)) .nil) (fun _ h => nomatch h) List.nodup_nil) q
end
/-! a plain tuple of a list -/
def rTupF (K : PySem.W.Frag) : List V → Hp → VK → Prop := fun xs H Q => ∃ p ys, xs = [.ref p] ∧ SqL K H p ys ∧ ∀ l o, H l = none → PlainT o → Q (.ref l) (upd H l (.frz o (.tup ys)))
theorem call_tupFD {X : Cx} {K : PySem.W.Frag} (h : X.K = K := by rfl) : CallR X (.type "tuple") (rTupF K) := by
  subst h
  exact call_tupleF
section
variable {K : PySem.W.Frag} {C : Fx} {B : Hp} {σ : L2.St} {H M : Hp} {ρ : List Sl} {w w' : Own} {tp : List (V × PyData)} {Q R : VK} {v : V} {ds : List PyData} {p : Addr}
theorem h_tupF {vs : List V} (h : rTupF K vs H R) : rTupF K vs H R := h
theorem Ds.newF {p : Addr} {o : Obj} {vs : List V} (S : Ds K C B σ H M ρ w tp) (hp : H p = none) (hv : DpAll K M vs ds) : Ds K C B σ (upd H p (.frz o (.tup vs))) (upd M p (.frz o (.tup vs))) ρ w ((.ref p, .tuple ds) :: tp) := by
  have hm : M p = none := S.sub.free hp
  have e := Same.new (.frz o (.tup vs)) hm
  refine (S.pure ⟨fun b u _ h => Same.new _ hp b u h, fun b h => ?_, e, fun b u h => ?_, fun b h1 h2 => ?_⟩).push (.tup (.inl (.inr ⟨o, upd_same⟩)) (DpAll.same e hv))
  · by_cases q : b = p
    · rw [q, upd_same]
      exact fun z => nomatch z
    · rw [upd_ne q]
      exact h
  · by_cases q : b = p
    · rw [q, upd_same] at h
      rw [q, upd_same]
      exact h
    · rw [upd_ne q] at h
      rw [upd_ne q]
      exact S.sub b u h
  · rw [upd_ne (fun q => h2 (by rw [q]; exact hp))]
    exact h1
theorem x_tupFL (S : Ds K C B σ H M ρ w tp) (ht : Tm tp v (.list ds)) (q : ∀ l H' M', FzT K M' l → Ds K C B σ H' M' ρ w ((.ref l, .tuple ds) :: tp) → R (.ref l) H') : rTupF K [v] H R := by
  obtain ⟨p, xs, rfl, h1, h2⟩ := dp_lst (ht.dp S)
  exact ⟨p, xs, rfl, S.sub.seq h1, fun l o hl ho => q l _ _ (.inl ⟨o, _, upd_same, ho⟩) (S.newF hl h2)⟩
/-- an own list in a slot is data from now on -/
theorem Ds.frozen {i : Nat} (S : Ds K C B σ H M ρ ((p, .lst ds) :: w) tp) (hi : ρ[i]? = some (.v (.ref p))) (hO : p ∉ C.O) : ∃ M', Ds K C B σ H M' (ρ.set i (.d (.list ds))) w [] := by
  obtain ⟨v, h1, h2⟩ := S.get hi (fun z => nomatch z)
  cases (show v = .ref p from h2)
  obtain ⟨M', S'⟩ := S.freeze hO
  exact ⟨M', S'.clr.slot h1 (S'.tm (.ref p, .list ds) (List.mem_cons_self ..))⟩
end
end Pf
namespace Pf
open PySem PySem.Spec PyProof.Rows L2
/-! a list or a tuple that is walked -/
def iSeq (K : PySem.W.Frag) (te : TE) : TI := fun σ H R => iList K te σ H R ∨ iTup K te σ H R
theorem pi_seqD {X : Cx} {tg l : Expr} {tl : TE} {K : PySem.W.Frag} (hl : PE X l tl) (h : X.K = K := by rfl) : PI X tg l (iSeq K tl) := by
  subst h
  exact ⟨fun pins s σ H R I q => q.elim ((pi_list hl).run pins s σ H R I) ((pi_tup hl).run pins s σ H R I)⟩
section
variable {K : PySem.W.Frag} {σ : L2.St} {H : Hp} {Q : VK} {te : TE} {tt : TT} {g : TG} {t : TS} {tb : TE} {vs : List Nat} {D : Ends}
theorem x_fSL (h : tFor (iList K te) g t D σ H) : tFor (iSeq K te) g t D σ H := .inl h
theorem x_fST (h : tFor (iTup K te) g t D σ H) : tFor (iSeq K te) g t D σ H := .inr h
theorem x_lcSL (h : tLc (iList K te) g tt tb vs σ H Q) : tLc (iSeq K te) g tt tb vs σ H Q := .inl h
theorem x_lcST (h : tLc (iTup K te) g tt tb vs σ H Q) : tLc (iSeq K te) g tt tb vs σ H Q := .inr h
end
/-- a list's or a tuple's data -/
def seqD : Bool → List PyData → PyData
  | true, ds => .tuple ds
  | false, ds => .list ds
end Pf

namespace Pf
open PySem PySem.Spec PyProof.Rows L2
/-! further data rules: own lists put together, a list or a tuple of a slot -/
section
variable {K : PySem.W.Frag} {C : Fx} {B : Hp} {σ : L2.St} {H M H' M' : Hp} {ρ ρ' : List Sl} {w w' : Own} {tp : List (V × PyData)} {Q R : VK} {D : Ends} {te : TE} {tb : TS} {g : TG} {v : V} {ds es : List PyData} {p q : Addr} {b : Bool} {i : Nat}
theorem Ds.subw (S : Ds K C B σ H M ρ w tp) (h : w'.Sublist w) : Ds K C B σ H M ρ w' tp :=
  { S with own := fun p hp => S.own p (h.subset hp), nd := (h.map (·.1)).nodup S.nd, ow := fun p hp => S.ow p (h.subset hp) }
theorem Ds.perm (S : Ds K C B σ H M ρ w tp) (h : w'.Perm w) : Ds K C B σ H M ρ w' tp :=
  { S with own := fun p hp => S.own p (h.mem_iff.mp hp), nd := (h.map (·.1)).nodup_iff.mpr S.nd, ow := fun p hp => S.ow p (h.mem_iff.mp hp) }
theorem dpAll_cat : ∀ {vs us : List V} {ds es : List PyData}, DpAll K M vs ds → DpAll K M us es → DpAll K M (vs ++ us) (ds ++ es)
  | _, _, _, _, .nil, h => h
  | _, _, _, _, .cons a t, h => .cons a (dpAll_cat t h)
theorem x_cat (j k : Nat) (S : Ds K C B σ H M ρ w tp) (hj : w[j]? = some (p, .lst ds)) (hk : w[k]? = some (q, .lst es)) (hl : ds.length + es.length ≤ sizeLine)
    (z : ∀ a H', Ds K C B σ H' M ρ ((a, .lst (ds ++ es)) :: w) tp → R (.ref a) H') : rCat (.ref p) (.ref q) H R := by
  obtain ⟨_, xs, h1, h2⟩ := S.own _ (List.mem_of_getElem? hj)
  obtain ⟨_, ys, h3, h4⟩ := S.own _ (List.mem_of_getElem? hk)
  exact ⟨p, q, xs, ys, rfl, rfl, h1, h3, by rw [dpAll_len h2, dpAll_len h4]; exact hl, fun a ha => z a _ (S.newL ha (dpAll_cat h2 h4))⟩
theorem h_lsOf {vs : List V} (h : rLstOf K vs H R) : rLstOf K vs H R := h
theorem x_lsS (S : Ds K C B σ H M ρ w tp) (ht : Tm tp v (seqD b ds)) (q : ∀ l H', Ds K C B σ H' M ρ ((l, .lst ds) :: w) tp → R (.ref l) H') : rLstOf K [v] H R := by
  cases b with
  | true => exact x_lsT S ht q
  | false => exact x_lsL S ht q
theorem x_forSV (I : Nat → List Sl → Own → Prop) (S : Ds K C B σ H M ρ w tp) (hi : ρ[i]? = some (.d (seqD b ds))) (h0 : I 0 ρ w)
    (hs : ∀ i d ρ1 w1, ds[i]? = some d → I i ρ1 w1 → ∀ u σ1 H1 M1, Ds K C M σ1 H1 M1 ρ1 w1 [(u, d)] → g u σ1 H1 fun σ2 H2 => tb { D with nx := Nx K C M I (i + 1), ct := Nx K C M I (i + 1), bk := D.nx } σ2 H2)
    (hd : ∀ ρ1 w1, I ds.length ρ1 w1 → ∀ σ1 H1 M1, Ds K C B σ1 H1 M1 ρ1 w1 [] → D.nx σ1 H1) : tFor (iSeq K (tVar i)) g tb D σ H := by
  cases b with
  | true => exact x_fST (x_fT (x_var S hi (x_gP S fun v S => x_forT I S (.m (List.mem_cons_self ..)) h0 hs hd)))
  | false => exact x_fSL (x_fL (x_var S hi (x_gP S fun v S => x_forL I S (.m (List.mem_cons_self ..)) h0 hs hd)))
end
end Pf
namespace Pf
open PySem PySem.Spec PyProof.Rows L2
/-! lists and tuples of such data are such data -/
section
variable {α : Type} [DecidableEq α] {f : α → PyData}
theorem Enc.eqs (e : Enc f) : ∀ xs ys : List α, PyData.eqv (.list (xs.map f)) (.list (ys.map f)) = decide (xs = ys)
  | [], [] => by
    show true = _
    exact (decide_eq_true rfl).symm
  | [], _ :: _ => by rfl
  | _ :: _, [] => by rfl
  | x :: xs, y :: ys => by
    show (PyData.eqv (f x) (f y) && PyData.eqv (.list (xs.map f)) (.list (ys.map f))) = _
    rw [e.eq, eqs e xs ys]
    simp
theorem Enc.eqt (e : Enc f) : ∀ xs ys : List α, PyData.eqv (.tuple (xs.map f)) (.tuple (ys.map f)) = decide (xs = ys)
  | [], [] => by
    show true = _
    exact (decide_eq_true rfl).symm
  | [], _ :: _ => by rfl
  | _ :: _, [] => by rfl
  | x :: xs, y :: ys => by
    show (PyData.eqv (f x) (f y) && PyData.eqv (.tuple (xs.map f)) (.tuple (ys.map f))) = _
    rw [e.eq, eqt e xs ys]
    simp
theorem Enc.list (e : Enc f) : Enc (fun xs : List α => PyData.list (xs.map f)) := ⟨e.eqs, e.layAll⟩
theorem Enc.tuple (e : Enc f) : Enc (fun xs : List α => PyData.tuple (xs.map f)) := ⟨e.eqt, e.layAll⟩
theorem Enc.int : Enc PyData.int := ⟨fun a b => by
  show (a == b) = _
  rw [Bool.eq_iff_iff]
  simp, fun _ => rfl⟩
theorem depth_all {n : Nat} : ∀ {xs : List α}, (∀ x ∈ xs, (f x).depth ≤ n) → PyData.depthAll (xs.map f) ≤ n
  | [], _ => Nat.zero_le _
  | x :: xs, h => by
    have h1 := h x (List.mem_cons_self ..)
    have h2 := depth_all fun y hy => h y (List.mem_cons_of_mem _ hy)
    show max (f x).depth (PyData.depthAll (xs.map f)) ≤ n
    omega
theorem depth_list {n : Nat} {xs : List α} (h : ∀ x ∈ xs, (f x).depth ≤ n) : (PyData.list (xs.map f)).depth ≤ n + 1 := Nat.succ_le_succ (depth_all h)
theorem depth_tuple {n : Nat} {xs : List α} (h : ∀ x ∈ xs, (f x).depth ≤ n) : (PyData.tuple (xs.map f)).depth ≤ n + 1 := Nat.succ_le_succ (depth_all h)
end
end Pf

namespace Pf
open PySem PySem.Spec PyProof.Rows L2
/-! while, pop, extend, any and all, comprehensions with two names -/
theorem fold_get {α : Type} (a : α) : ∀ (vs : List Nat) (l : List α) (j : Nat), (vs.foldr (fun k r => r.set k a) l)[j]? = if j ∈ vs then (l[j]?).map (fun _ => a) else l[j]?
  | [], l, j => by simp
  | v :: vs, l, j => by
    show ((vs.foldr (fun k r => r.set k a) l).set v a)[j]? = _
    rw [List.getElem?_set]
    have ih := fold_get a vs l
    have hl : (vs.foldr (fun k r => r.set k a) l).length = l.length := by
      clear ih
      induction vs with
      | nil => rfl
      | cons v vs ih => show ((vs.foldr (fun k r => r.set k a) l).set v a).length = _; rw [List.length_set, ih]
    by_cases e : v = j
    · subst e
      rw [if_pos rfl, if_pos (List.mem_cons_self ..), hl]
      by_cases h : v < l.length
      · rw [if_pos h, List.getElem?_eq_getElem h]
        rfl
      · rw [if_neg h, List.getElem?_eq_none (by omega)]
        rfl
    · rw [if_neg e, ih]
      have : (j ∈ v :: vs) ↔ j ∈ vs := by
        rw [List.mem_cons]
        exact ⟨fun z => z.resolve_left fun q => e q.symm, .inr⟩
      by_cases h : j ∈ vs
      · rw [if_pos h, if_pos (this.mpr h)]
      · rw [if_neg h, if_neg fun z => h (this.mp z)]
theorem fold_set {α : Type} {a x : α} {vs : List Nat} {k : Nat} {l : List α} (h : k ∈ vs) : vs.foldr (fun k r => r.set k a) (l.set k x) = vs.foldr (fun k r => r.set k a) l := by
  apply List.ext_getElem?
  intro j
  rw [fold_get, fold_get]
  by_cases e : j ∈ vs
  · rw [if_pos e, if_pos e, List.getElem?_set]
    by_cases q : k = j
    · subst q
      rw [if_pos rfl]
      by_cases h2 : k < l.length
      · rw [if_pos h2, List.getElem?_eq_getElem h2]
        rfl
      · rw [if_neg h2, List.getElem?_eq_none (by omega)]
    · rw [if_neg q]
  · rw [if_neg e, if_neg e, List.getElem?_set_ne (fun (q : k = j) => e (q ▸ h))]
theorem fold_fold {α : Type} {a : α} {vs : List Nat} {l : List α} : vs.foldr (fun k r => r.set k a) (vs.foldr (fun k r => r.set k a) l) = vs.foldr (fun k r => r.set k a) l := by
  apply List.ext_getElem?
  intro j
  rw [fold_get, fold_get]
  by_cases e : j ∈ vs
  · rw [if_pos e, if_pos e, Option.map_map]
    rfl
  · rw [if_neg e, if_neg e]
theorem wipe_fold {σ : L2.St} : ∀ vs : List Nat, wipe σ vs = vs.foldr (fun k r => r.set k none) σ
  | [] => rfl
  | v :: vs => by
    show (wipe σ vs).set v none = (vs.foldr (fun k r => r.set k none) σ).set v none
    rw [wipe_fold vs]
/-- the own names of a block know nothing -/
def uset (vs : List Nat) (ρ : List Sl) : List Sl := vs.foldr (fun k r => r.set k .u) ρ
def WhB (K : PySem.W.Frag) (C : Fx) (B : Hp) (I : Nat → List Sl → Own → Prop) (m : Nat) (tb : TS) (D : Ends) (σ1 : L2.St) (b : Bool) (H1 : Hp) : Prop :=
  if b = true then ∃ N : L2.St → Hp → Prop, (∀ σ' H', N σ' H' → ∃ m', m' < m ∧ ∃ M ρ w, I m' ρ w ∧ Ds K C B σ' H' M ρ w []) ∧ tb { D with nx := N, ct := N, bk := D.nx } σ1 H1 else D.nx σ1 H1
/-- what a turn of a while reaches -/
def Wx (K : PySem.W.Frag) (C : Fx) (B : Hp) (I : Nat → List Sl → Own → Prop) (m : Nat) : L2.St → Hp → Prop := fun σ' H' => ∃ m', m' < m ∧ ∃ M ρ w, I m' ρ w ∧ Ds K C B σ' H' M ρ w []
section
variable {K : PySem.W.Frag} {C : Fx} {B : Hp} {σ : L2.St} {H M H' M' : Hp} {ρ ρ' ρ2 : List Sl} {w w' : Own} {tp : List (V × PyData)} {Q R : VK} {D : Ends} {te : TE} {tt : TT} {tb : TS} {g : TG} {v y : V} {ds es acc : List PyData} {d : PyData} {p q : Addr} {b : Bool} {i m m' : Nat} {I : Nat → List Sl → Own → Prop} {vs : List Nat}
theorem x_while (I : Nat → List Sl → Own → Prop) (m : Nat) (S : Ds K C B σ H M ρ w tp) (h0 : I m ρ w)
    (hs : ∀ m ρ1 w1, I m ρ1 w1 → ∀ σ1 H1 M1, Ds K C B σ1 H1 M1 ρ1 w1 [] → tt σ1 H1 (WhB K C B I m tb D σ1)) : tWhile tt tb D σ H := by
  refine ⟨fun m σ H => ∃ M ρ w, I m ρ w ∧ Ds K C B σ H M ρ w [], ⟨m, M, ρ, w, h0, S.clr⟩, ?_⟩
  rintro m σ1 H1 ⟨M1, ρ1, w1, h, S1⟩
  exact hs m ρ1 w1 h σ1 H1 M1 S1
theorem x_whB (h1 : b = true → tb { D with nx := Wx K C B I m, ct := Wx K C B I m, bk := D.nx } σ H) (h2 : b = false → D.nx σ H) : WhB K C B I m tb D σ b H := by
  unfold WhB
  cases b with
  | true => exact ⟨Wx K C B I m, fun _ _ h => h, h1 rfl⟩
  | false => exact h2 rfl
theorem Wx.at {ρ' : List Sl} (m' : Nat) (S : Ds K C B σ H M ρ w tp) (hl : SlLe ρ ρ') (hm : m' < m) (h : I m' ρ' w) : Wx K C B I m σ H := ⟨m', hm, M, ρ', w, h, S.clr.weak hl⟩
theorem dpAll_dropLast : ∀ {xs : List V} {ds : List PyData}, DpAll K M xs ds → DpAll K M xs.dropLast ds.dropLast
  | _, _, .nil => .nil
  | _, _, .cons _ .nil => .nil
  | _, _, .cons a (.cons b t) => .cons a (dpAll_dropLast (.cons b t))
theorem dpAll_snoc {xs : List V} (h : DpAll K M xs (ds ++ [d])) : ∃ v, xs[xs.length - 1]? = some v ∧ Dp K M v d := by
  have h1 := dpAll_len h
  rw [List.length_append, List.length_singleton] at h1
  obtain ⟨v, h2, h3⟩ := dpAll_get h (xs.length - 1) d (by rw [show xs.length - 1 = ds.length by omega, List.getElem?_append_right (Nat.le_refl _), Nat.sub_self]; rfl)
  exact ⟨v, h2, h3⟩
/-- p.pop(), p an own list in a slot -/
theorem x_pop (j : Nat) (S : Ds K C B σ H M ρ w tp) (h : ρ[i]? = some (.v (.ref p))) (hj : w[j]? = some (p, .lst (ds ++ [d]))) (hw : SetAt w j (p, .lst ds) w') (z : ∀ v H', Ds K C B σ H' M ρ w' ((v, d) :: tp) → Q v H') : tBM0 K "list" rPop (tVar i) σ H Q := by
  obtain ⟨v, h1, h2⟩ := S.get h (fun z => nomatch z)
  cases (show v = .ref p from h2)
  obtain ⟨_, xs, h3, h4⟩ := S.own _ (List.mem_of_getElem? hj)
  obtain ⟨v, h5, h6⟩ := dpAll_snoc h4
  have h7 := dpAll_dropLast h4
  rw [List.dropLast_concat] at h7
  refine ⟨_, h1, .inl ⟨rfl, xs, .of h3⟩, p, xs, v, rfl, rfl, h3, h5, z v _ ?_⟩
  rw [hw.eq]
  exact (S.mut (od' := .lst ds) hj ⟨_, upd_same, h7⟩).push h6
def ExtK (Q : VK) (x y : V) (H2 : Hp) : Prop := rExtend x [y] H2 Q
theorem x_ext (S : Ds K C B σ H M ρ w tp) (h : ρ[i]? = some (.v (.ref p))) (j : Nat) (hj : w[j]? = some (p, .lst ds)) (z : te σ H fun y H2 => ExtK Q (.ref p) y H2) : tBM K "list" rExtend (tVar i) (tCons te tNil) σ H Q := by
  obtain ⟨v, h1, h2⟩ := S.get h (fun z => nomatch z)
  cases (show v = .ref p from h2)
  obtain ⟨_, vs, h3, _⟩ := S.own _ (List.mem_of_getElem? hj)
  exact ⟨_, h1, .inl ⟨rfl, vs, .of h3⟩, z⟩
theorem h_ext (h : tBM K "list" rExtend (tVar i) (tCons te tNil) σ H Q) : tBM K "list" rExtend (tVar i) (tCons te tNil) σ H Q := h
theorem x_extK (j k : Nat) (S : Ds K C B σ H M ρ w tp) (hj : w[j]? = some (p, .lst ds)) (hk : w[k]? = some (q, .lst es)) (hl : ds.length + es.length ≤ sizeLine) (hw : SetAt w j (p, .lst (ds ++ es)) w') (z : ∀ H', Ds K C B σ H' M ρ w' tp → Q .non H') : ExtK Q (.ref p) (.ref q) H := by
  obtain ⟨_, xs, h1, h2⟩ := S.own _ (List.mem_of_getElem? hj)
  obtain ⟨_, ys, h3, h4⟩ := S.own _ (List.mem_of_getElem? hk)
  refine ⟨p, q, xs, ys, rfl, rfl, h1, h3, by rw [dpAll_len h2, dpAll_len h4]; exact hl, z _ ?_⟩
  rw [hw.eq]
  exact S.mut hj ⟨_, upd_same, dpAll_cat h2 h4⟩
theorem dpAll_bls : ∀ {xs : List V} {bs : List Bool}, DpAll K M xs (bs.map .bool) → xs = bs.map V.bl
  | _, [], .nil => rfl
  | _, _ :: _, .cons h t => by
    cases h
    rw [dpAll_bls t]
    rfl
theorem h_any {vs : List V} (h : rAny K vs H R) : rAny K vs H R := h
theorem h_all {vs : List V} (h : rAll K vs H R) : rAll K vs H R := h
theorem x_anyO {bs : List Bool} (j : Nat) (S : Ds K C B σ H M ρ w tp) (hj : w[j]? = some (p, .lst (bs.map .bool))) (z : R (.bl (bs.any id)) H) : rAny K [.ref p] H R := by
  obtain ⟨_, xs, h1, h2⟩ := S.own _ (List.mem_of_getElem? hj)
  rw [dpAll_bls h2] at h1
  exact ⟨p, bs, rfl, .of h1, z⟩
theorem x_allO {bs : List Bool} (j : Nat) (S : Ds K C B σ H M ρ w tp) (hj : w[j]? = some (p, .lst (bs.map .bool))) (z : R (.bl (bs.all id)) H) : rAll K [.ref p] H R := by
  obtain ⟨_, xs, h1, h2⟩ := S.own _ (List.mem_of_getElem? hj)
  rw [dpAll_bls h2] at h1
  exact ⟨p, bs, rfl, .of h1, z⟩
theorem x_anyL {bs : List Bool} (S : Ds K C B σ H M ρ w tp) (ht : Tm tp v (.list (bs.map .bool))) (z : R (.bl (bs.any id)) H) : rAny K [v] H R := by
  obtain ⟨p, xs, rfl, h1, h2⟩ := dp_lst (ht.dp S)
  rw [dpAll_bls h2] at h1
  exact ⟨p, bs, rfl, S.sub.seq h1, z⟩
theorem x_allL {bs : List Bool} (S : Ds K C B σ H M ρ w tp) (ht : Tm tp v (.list (bs.map .bool))) (z : R (.bl (bs.all id)) H) : rAll K [v] H R := by
  obtain ⟨p, xs, rfl, h1, h2⟩ := dp_lst (ht.dp S)
  rw [dpAll_bls h2] at h1
  exact ⟨p, bs, rfl, S.sub.seq h1, z⟩
/-! comprehensions with two names -/
theorem rew2 {B : Hp} {k1 k2 : Nat} {x y : V} {s t : Sl} (m1 : k1 ∈ vs) (m2 : k2 ∈ vs) : Rew K C B (((wipe σ vs).set k1 (some x)).set k2 (some y)) (((uset vs ρ).set k1 s).set k2 t) (wipe σ vs) (uset vs ρ) := fun S => by
  have S1 := S.clr.wiped vs
  rw [wipe_fold, wipe_fold, fold_set m2, fold_set m1, fold_fold, fold_set m2, fold_set m1] at S1
  rw [wipe_fold]
  have : uset vs (uset vs ρ) = uset vs ρ := fold_fold
  exact this ▸ S1
theorem wipe2 {k1 k2 : Nat} {x y : Option V} (m1 : k1 ∈ vs) (m2 : k2 ∈ vs) : wipe (((wipe σ vs).set k1 x).set k2 y) vs = wipe σ vs := by
  rw [wipe_fold, wipe_fold, fold_set m2, fold_set m1, fold_fold]
theorem x_lc2T {k1 k2 : Nat} (I : Nat → List PyData → Own → Prop) (m1 : k1 ∈ vs) (m2 : k2 ∈ vs) (S : Ds K C B σ H M ρ w tp) (ht : Tm tp v (.tuple ds)) (hd2 : ∀ d ∈ ds, ∃ d1 d2, d = .tuple [d1, d2]) (h0 : I 0 [] w)
    (hs : ∀ i d1 d2 acc w1, ds[i]? = some (.tuple [d1, d2]) → I i acc w1 → ∀ D σ1 H1 M1, Rew K C M σ1 (((uset vs ρ).set k1 (.d d1)).set k2 (.d d2)) (wipe σ vs) (uset vs ρ) → Ds K C M σ1 H1 M1 (((uset vs ρ).set k1 (.d d1)).set k2 (.d d2)) ((D, .lst acc) :: w1) [] → tt σ1 H1 fun b H3 => if b = true then te σ1 H3 (LcA (LcN K C M I (wipe σ vs) (uset vs ρ) D (i + 1)) D) else LcN K C M I (wipe σ vs) (uset vs ρ) D (i + 1) H3)
    (hd : ∀ acc w1, I ds.length acc w1 → ∀ D H1 M1, Ds K C B σ H1 M1 ρ ((D, .lst acc) :: w1) tp → Q (.ref D) H1) : ForT K (LcB (gTup K 2 (gCons (gName k1) (gCons (gName k2) gNil))) tt te vs Q σ) v H := by
  obtain ⟨p, xs, rfl, h1, h2⟩ := dp_tup (ht.dp S)
  refine ⟨p, rfl, ⟨xs, Same.seqT S.sub h1⟩, fun D hD => lc_tup (xs := xs) (LcN K C M I (wipe σ vs) (uset vs ρ) D) ?_ (fun i H1 _ q => ?_) (fun i x H1 hx q => ?_) (fun H1 q => ?_)⟩
  · exact ⟨M, [], w, h0, (S.base.clr.wiped vs).newL hD .nil⟩
  · obtain ⟨M1, acc, w1, _, S1⟩ := q
    exact Same.seqT (S1.bs.trans S1.sub) h1
  · obtain ⟨M1, acc, w1, q, S1⟩ := q
    have hi : i < ds.length := by rw [← dpAll_len h2]; exact (List.getElem?_eq_some_iff.mp hx).1
    have e := List.getElem?_eq_getElem hi
    have dd : Dp K M1 x ds[i] := Dp.same S1.bs (dpAll_at h2 i x _ hx e)
    obtain ⟨d1, d2, e2⟩ := hd2 ds[i] (List.getElem_mem hi)
    rw [e2] at dd e
    refine x_gT2 (S1.push dd) (.m (List.mem_cons_self ..)) fun y z S2 => ?_
    have hy : Dp K M1 y d1 := S2.tm (y, d1) (List.mem_cons_self ..)
    have hz : Dp K M1 z d2 := S2.tm (z, d2) (List.mem_cons_of_mem _ (List.mem_cons_self ..))
    have S3 := ((S2.clr.set (i := k1) (v := y) (s := .d d1) hy).set (i := k2) (v := z) (s := .d d2) hz)
    exact ⟨wipe2 m1 m2, hs i d1 d2 acc w1 e q D _ H1 M1 (rew2 m1 m2) S3⟩
  · obtain ⟨M1, acc, w1, q, S1⟩ := q
    exact hd acc w1 (dpAll_len h2 ▸ q) D H1 M1 (S.outof S1)
end
abbrev memD {α : Type} [DecidableEq α] (x : α) (xs : List α) : Bool := decide (x ∈ xs)
section
variable {K : PySem.W.Frag} {C : Fx} {B : Hp} {σ : L2.St} {H M H' M' : Hp} {ρ ρ' : List Sl} {w w' : Own} {tp : List (V × PyData)} {Q R : VK} {te ta : TE} {v x y : V} {a : Addr}
variable {α : Type} [DecidableEq α] {f : α → PyData} {xs : List α} {c : α} {b : Bool}
theorem z_inT (e : Enc f) (S : Ds K C B σ H M ρ w tp) (hx : Tm tp x (f c)) (hy : Tm tp y (.tuple (xs.map f))) (hd : (f c).depth ≤ 64) (hb : memD c xs = b) (q : R (.bl b) H) : rInX K false x y H R := y_inT e S hx hy hd (by rw [show decide (c ∈ xs) = b from hb]; exact q)
theorem z_inL (e : Enc f) (S : Ds K C B σ H M ρ w tp) (hx : Tm tp x (f c)) (hy : Tm tp y (.list (xs.map f))) (hd : (f c).depth ≤ 64) (hb : memD c xs = b) (q : R (.bl b) H) : rInX K false x y H R := y_inL e S hx hy hd (by rw [show decide (c ∈ xs) = b from hb]; exact q)
theorem z_inO (e : Enc f) (j : Nat) (S : Ds K C B σ H M ρ w tp) (hj : w[j]? = some (a, .lst (xs.map f))) (hx : Tm tp x (f c)) (hd : (f c).depth ≤ 64) (hb : memD c xs = b) (q : R (.bl b) H) : rInX K false x (.ref a) H R := y_inO e j S hj hx hd (by rw [show decide (c ∈ xs) = b from hb]; exact q)
theorem x_sel {ys : List α} {i j : Nat} (S : Ds K C B σ H M ρ w tp) (h1 : ρ[i]? = some (.d (.list (xs.map f)))) (h2 : ρ[j]? = some (.d (.list (ys.map f)))) (q : Giv K M H R (.list ((if b = true then xs else ys).map f))) : if b = true then tVar i σ H R else tVar j σ H R := by
  cases b with
  | true => exact x_var S h1 q
  | false => exact x_var S h2 q
end
end Pf

namespace Pf
open PySem PySem.Spec PyProof.Rows L2
/-! dicts with keys that are integers or texts, as own things -/
def valD (kvs : List (Key × PyData)) (k : Key) : Option PyData := (kvs.find? fun kv => decide (kv.1 = k)).map (·.2)
def putD (kvs : List (Key × PyData)) (k : Key) (d : PyData) : List (Key × PyData) :=
  if (kvs.any fun kv => decide (kv.1 = k)) = true then kvs.map (fun kv => if kv.1 = k then (kv.1, d) else kv) else kvs ++ [(k, d)]
theorem valD_nil {k : Key} : valD [] k = none := rfl
theorem valD_cons {p : Key × PyData} {r : List (Key × PyData)} {k : Key} : valD (p :: r) k = if p.1 = k then some p.2 else valD r k := by
  unfold valD
  rw [List.find?_cons]
  by_cases h : p.1 = k
  · simp [h]
  · simp [h]
theorem valD_any (k : Key) : ∀ kvs : List (Key × PyData), (kvs.any fun kv => decide (kv.1 = k)) = (valD kvs k).isSome
  | [] => rfl
  | p :: r => by
    rw [List.any_cons, valD_any k r, valD_cons]
    by_cases h : p.1 = k
    · simp [h]
    · simp [h]
theorem valD_put {kvs : List (Key × PyData)} {k k' : Key} {d : PyData} : valD (putD kvs k d) k' = if k' = k then some d else valD kvs k' := by
  unfold putD
  split
  · rename_i h
    induction kvs with
    | nil => simp at h
    | cons p r ih =>
      rw [List.map_cons, valD_cons, valD_cons]
      by_cases e : p.1 = k
      · rw [if_pos e]
        by_cases e2 : k' = k
        · rw [if_pos e2]
          simp [e, e2]
        · rw [if_neg e2]
          have e3 : ¬ p.1 = k' := fun z => e2 (z.symm.trans e)
          rw [if_neg e3, if_neg e3]
          by_cases h2 : (r.any fun kv => decide (kv.1 = k)) = true
          · rw [ih h2, if_neg e2]
          · have : r.map (fun kv => if kv.1 = k then (kv.1, d) else kv) = r := by
              rw [List.map_congr_left (g := id), List.map_id]
              intro x hx
              have : ¬ x.1 = k := fun z => h2 (List.any_eq_true.mpr ⟨x, hx, decide_eq_true z⟩)
              rw [if_neg this]
              rfl
            rw [this]
      · rw [if_neg e]
        rw [List.any_cons, decide_eq_false e, Bool.false_or] at h
        rw [ih h]
        by_cases e2 : k' = k
        · have e3 : ¬ p.1 = k' := fun z => e (z.trans e2)
          rw [if_neg e3, if_pos e2, if_pos e2]
        · rw [if_neg e2, if_neg e2]
  · rename_i h0
    have h : valD kvs k = none := by
      rw [valD_any] at h0
      cases e : valD kvs k with
      | none => rfl
      | some x => rw [e] at h0; exact absurd rfl h0
    clear h0
    induction kvs with
    | nil =>
      show valD [(k, d)] k' = _
      rw [valD_cons, valD_nil]
      by_cases e : k' = k
      · rw [if_pos e, if_pos e.symm]
      · rw [if_neg e, if_neg fun z => e z.symm]
    | cons p r ih =>
      rw [valD_cons] at h
      by_cases e : p.1 = k
      · rw [if_pos e] at h
        cases h
      · rw [if_neg e] at h
        rw [List.cons_append, valD_cons, valD_cons, ih h]
        by_cases e2 : k' = k
        · have e3 : ¬ p.1 = k' := fun z => e (z.trans e2)
          rw [if_neg e3, if_pos e2, if_pos e2]
        · rw [if_neg e2, if_neg e2]
section
variable {K : PySem.W.Frag} {C : Fx} {B : Hp} {σ : L2.St} {H M H' M' : Hp} {ρ ρ' : List Sl} {w w' : Own} {tp : List (V × PyData)} {Q R : VK} {D : Ends} {te td ty tv : TE} {v y : V} {d : PyData} {p : Addr} {kvs : List (Key × PyData)} {k : Key} {ws : List (Key × V)}
abbrev PK (K : PySem.W.Frag) (M : Hp) : Key × V → Key × PyData → Prop := fun p q => p.1 = q.1 ∧ Dp K M p.2 q.2
theorem pk_val : ∀ {ws : List (Key × V)} {kvs : List (Key × PyData)}, Paired (PK K M) ws kvs → ∀ k : Key, (valV ws k = none ∧ valD kvs k = none) ∨ ∃ v d, valV ws k = some v ∧ valD kvs k = some d ∧ Dp K M v d
  | _, _, .nil, k => .inl ⟨rfl, rfl⟩
  | a :: _, b :: _, .cons h t, k => by
    obtain ⟨e, hd⟩ := h
    by_cases q : b.1 = k
    · exact .inr ⟨a.2, b.2, valV_pos (e.trans q), by rw [valD_cons, if_pos q], hd⟩
    · rw [valV_neg (fun z => q (e.symm.trans z)), valD_cons, if_neg q]
      exact pk_val t k
theorem pk_map (hd : Dp K M v d) : ∀ {ws : List (Key × V)} {kvs : List (Key × PyData)}, Paired (PK K M) ws kvs → Paired (PK K M) (ws.map (fun kv => if kv.1 = k then (kv.1, v) else kv)) (kvs.map (fun kv => if kv.1 = k then (kv.1, d) else kv))
  | _, _, .nil => .nil
  | a :: _, b :: _, .cons h t => by
    refine .cons ?_ (pk_map hd t)
    obtain ⟨e, hd2⟩ := h
    show PK K M (if a.1 = k then (a.1, v) else a) (if b.1 = k then (b.1, d) else b)
    by_cases q : b.1 = k
    · rw [if_pos q, if_pos (e.trans q)]
      exact ⟨e, hd⟩
    · rw [if_neg q, if_neg fun z => q (e.symm.trans z)]
      exact ⟨e, hd2⟩
theorem pk_len (h : Paired (PK K M) ws kvs) : ws.length = kvs.length := by
  induction h with
  | nil => rfl
  | cons _ _ ih => exact congrArg Nat.succ ih
theorem pk_put (h : Paired (PK K M) ws kvs) (hd : Dp K M v d) : Paired (PK K M) (putK ws k v) (putD kvs k d) := by
  have he : (ws.any fun kv => decide (kv.1 = k)) = kvs.any fun kv => decide (kv.1 = k) := by
    rw [valV_any, valD_any]
    rcases pk_val h k with ⟨a, b⟩ | ⟨_, _, a, b, _⟩
    · rw [a, b]
      rfl
    · rw [a, b]
      rfl
  unfold putK putD
  rw [he]
  split
  · exact pk_map hd h
  · exact h.snoc ⟨rfl, hd⟩
theorem x_dnew (q : ∀ p H', Ds K C B σ H' M ρ ((p, .dk []) :: w) tp → Q (.ref p) H') (S : Ds K C B σ H M ρ w tp) : tDNewK σ H Q := fun p hp => q p _ (S.newO hp ⟨[], upd_same, .nil⟩)
def DgK (Q : VK) (x y : V) (H : Hp) : Prop := ∃ a v, x = .ref a ∧ DGet H a y (some v) ∧ Q v H
def DnK (Q : VK) (x y : V) (H : Hp) : Prop := ∃ a o, x = .ref a ∧ DGet H a y o ∧ Q (.bl (!o.isSome)) H
def DiK (Q : VK) (x y : V) (H : Hp) : Prop := ∃ a o, x = .ref a ∧ DGet H a y o ∧ Q (.bl o.isSome) H
def DsK (D : Ends) (σ : L2.St) (x y v : V) (H : Hp) : Prop := ∃ a H4, x = .ref a ∧ DPut H a y v H4 ∧ D.nx σ H4
theorem x_dg (h : td σ H fun x H1 => ty σ H1 fun y H2 => DgK Q x y H2) : tDGet td ty σ H Q := h
theorem x_dn (h : ty σ H fun y H1 => td σ H1 fun x H2 => DnK Q x y H2) : tDNotIn ty td σ H Q := h
theorem x_di (h : ty σ H fun y H1 => td σ H1 fun x H2 => DiK Q x y H2) : tDIn ty td σ H Q := h
theorem x_ds (h : tv σ H fun v H1 => td σ H1 fun x H2 => ty σ H2 fun y H3 => DsK D σ x y v H3) : sDPut td ty tv D σ H := h
theorem x_dgK {i : Int} (j : Nat) (S : Ds K C B σ H M ρ w tp) (hj : w[j]? = some (p, .dk kvs)) (hv : valD kvs (.inl i) = some d) (q : Giv K M H Q d) : DgK Q (.ref p) (.int i) H := by
  obtain ⟨_, ws, h1, h2⟩ := S.own _ (List.mem_of_getElem? hj)
  rcases pk_val h2 (.inl i) with ⟨_, b⟩ | ⟨v, d', a, b, c⟩
  · rw [b] at hv
    cases hv
  · rw [b] at hv
    cases hv
    exact ⟨p, v, rfl, a ▸ DGet.k (k := .inl i) h1, q v c⟩
theorem x_dnK {i : Int} (j : Nat) (S : Ds K C B σ H M ρ w tp) (hj : w[j]? = some (p, .dk kvs)) (q : Q (.bl (!(valD kvs (.inl i)).isSome)) H) : DnK Q (.ref p) (.int i) H := by
  obtain ⟨_, ws, h1, h2⟩ := S.own _ (List.mem_of_getElem? hj)
  have e : (valV ws (.inl i)).isSome = (valD kvs (.inl i)).isSome := by
    rcases pk_val h2 (.inl i) with ⟨a, b⟩ | ⟨v, d', a, b, c⟩
    · rw [a, b]
      rfl
    · rw [a, b]
      rfl
  exact ⟨p, _, rfl, DGet.k (k := .inl i) h1, by rw [e]; exact q⟩
theorem x_dsK {i : Int} (j : Nat) (S : Ds K C B σ H M ρ w tp) (hj : w[j]? = some (p, .dk kvs)) (ht : Tm tp v d) (hl : kvs.length < sizeLine) (hw : SetAt w j (p, .dk (putD kvs (.inl i) d)) w') (q : ∀ H', Ds K C B σ H' M ρ w' tp → D.nx σ H') : DsK D σ (.ref p) (.int i) v H := by
  obtain ⟨_, ws, h1, h2⟩ := S.own _ (List.mem_of_getElem? hj)
  refine ⟨p, _, rfl, DPut.k (k := .inl i) h1 (by rw [pk_len h2]; exact hl), q _ ?_⟩
  rw [hw.eq]
  exact S.mut (od' := .dk (putD kvs (.inl i) d)) hj ⟨_, upd_same, pk_put h2 (ht.dp S)⟩
end
theorem u1 {k : Nat} {A : Around} (r : Room k A) : A.units + 1 < cLine := by have := r.un; omega
theorem memD_true {α : Type} [DecidableEq α] {x : α} {xs : List α} (h : x ∈ xs) : memD x xs = true := decide_eq_true h
section
variable {K : PySem.W.Frag} {C : Fx} {B : Hp} {σ : L2.St} {H M : Hp} {ρ : List Sl} {w : Own} {tp : List (V × PyData)} {ds : List PyData} {p : Addr}
/-- an own list in a slot is data from now on; the temps stay -/
theorem Ds.frz2 {i : Nat} (S : Ds K C B σ H M ρ ((p, .lst ds) :: w) tp) (hi : ρ[i]? = some (.v (.ref p))) (hO : p ∉ C.O) : ∃ M', Ds K C B σ H M' (ρ.set i (.d (.list ds))) w ((.ref p, .list ds) :: tp) := by
  obtain ⟨v, h1, h2⟩ := S.get hi (fun z => nomatch z)
  cases (show v = .ref p from h2)
  obtain ⟨M', S'⟩ := S.freeze hO
  exact ⟨M', S'.slot h1 (S'.tm (.ref p, .list ds) (List.mem_cons_self ..))⟩
end
theorem memD_in {α : Type} [DecidableEq α] {x : α} {xs : List α} (h : memD x xs = true) : x ∈ xs := of_decide_eq_true h
theorem memD_no {α : Type} [DecidableEq α] {x : α} {xs : List α} (h : memD x xs = false) : x ∉ xs := of_decide_eq_false h
section
variable {K : PySem.W.Frag} {C : Fx} {B : Hp} {σ : L2.St} {H M : Hp} {ρ : List Sl} {w : Own} {tp : List (V × PyData)} {R : VK} {x y : V} {a : Addr}
variable {α : Type} [DecidableEq α] {f : α → PyData} {xs : List α} {c : α} {b : Bool}
theorem z_niT (e : Enc f) (S : Ds K C B σ H M ρ w tp) (hx : Tm tp x (f c)) (hy : Tm tp y (.tuple (xs.map f))) (hd : (f c).depth ≤ 64) (hb : memD c xs = b) (q : R (.bl (!b)) H) : rInX K true x y H R := y_niT e S hx hy hd (by rw [show decide (c ∈ xs) = b from hb]; exact q)
theorem z_niL (e : Enc f) (S : Ds K C B σ H M ρ w tp) (hx : Tm tp x (f c)) (hy : Tm tp y (.list (xs.map f))) (hd : (f c).depth ≤ 64) (hb : memD c xs = b) (q : R (.bl (!b)) H) : rInX K true x y H R := y_niL e S hx hy hd (by rw [show decide (c ∈ xs) = b from hb]; exact q)
theorem z_niO (e : Enc f) (j : Nat) (S : Ds K C B σ H M ρ w tp) (hj : w[j]? = some (a, .lst (xs.map f))) (hx : Tm tp x (f c)) (hd : (f c).depth ≤ 64) (hb : memD c xs = b) (q : R (.bl (!b)) H) : rInX K true x (.ref a) H R := y_niO e j S hj hx hd (by rw [show decide (c ∈ xs) = b from hb]; exact q)
theorem x_neX (e : Enc f) {d : α} (S : Ds K C B σ H M ρ w tp) (hx : Tm tp x (f c)) (hy : Tm tp y (f d)) (h1 : (f c).depth ≤ 64) (h2 : (f d).depth ≤ 64) (q : R (.bl (!decide (c = d))) H) : rNeD K x y H R :=
  x_neD S hx hy (by unfold SeqAt.shaped; rw [e.lay, decide_eq_true h1]; rfl) (by unfold SeqAt.shaped; rw [e.lay, decide_eq_true h2]; rfl) (by rw [e.eq]; exact q)
end
end Pf

namespace Pf
open PySem PySem.Spec PyProof.Rows L2
/-! sorted of lists of data that can be ordered -/
def rSortedX (K : PySem.W.Frag) : List V → Hp → VK → Prop := fun vs H Q => ∃ (T : V → PyData → Prop) (a : Addr) (xs : List V) (ds : List PyData), vs = [V.ref a] ∧ (∀ x d, T x d → Dp K H x d) ∧ SqL K H a xs ∧ Paired T xs ds ∧ PySem.W.AllAlike ds ∧ PySem.W.Sortable ds ∧ (∀ d ∈ ds, d.depth ≤ 60) ∧
  ∀ ys p, H p = none → Paired T ys (ds.mergeSort (PySem.W.dataLe false id)) → Q (.ref p) (upd H p (.lst ys))
theorem dp_paired {K : PySem.W.Frag} {M : Hp} : ∀ {xs : List V} {ds : List PyData}, DpAll K M xs ds → Paired (Dp K M) xs ds
  | _, _, .nil => .nil
  | _, _, .cons h t => .cons h (dp_paired t)
theorem paired_dp {K : PySem.W.Frag} {M : Hp} : ∀ {xs : List V} {ds : List PyData}, Paired (Dp K M) xs ds → DpAll K M xs ds
  | _, _, .nil => .nil
  | _, _, .cons h t => .cons h (paired_dp t)
section
variable {X : Cx}
theorem each_of {T : V → PyData → Prop} {xs : List V} {its : List Value} {ds : List PyData} (r : Vals xs its) (h : Paired T xs ds) : PySem.W.EachIs (fun v d => ∃ x, RelV x v ∧ T x d) its ds := by
  induction r generalizing ds with
  | nil =>
    cases h
    exact .nil
  | cons r _ ih =>
    cases h with
    | cons h t => exact .cons ⟨_, r, h⟩ (ih t)
theorem each_back {T : V → PyData → Prop} {out : List Value} {ds : List PyData} (e : PySem.W.EachIs (fun v d => ∃ x, RelV x v ∧ T x d) out ds) : ∃ ys, Vals ys out ∧ Paired T ys ds := by
  induction e with
  | nil => exact ⟨[], .nil, .nil⟩
  | cons h _ ih =>
    obtain ⟨x, r, h⟩ := h
    obtain ⟨ys, a, b⟩ := ih
    exact ⟨x :: ys, .cons r a, .cons h b⟩
theorem cr_sortedX (hu : X.A.units + 65 < cLine) : CallR X (.builtin "sorted") (rSortedX X.K) := by
  intro pins s σ H vs us Q I r h
  obtain ⟨T, a, xs, ds, rfl, sm, hs, ha, hal, hk, hd, q⟩ := h
  obtain ⟨its, rv, pl, hz⟩ := I.list hs
  rw [Vals.ref1 r]
  have e := each_of rv ha
  have er : PySem.W.EachIs (fun v d => ∃ as, Reads s.heap v (id d) as) its ds := e.mono fun v d ⟨x, rx, h⟩ => Dp.reads I d x v (sm x d h) rx
  have hlen : ds.length = its.length := by rw [← Paired.length ha]; exact rv.length
  refine PySem.W.sorted_data (enc := id) pl.isList e er (by rw [List.map_id]; exact hal) (by rw [List.map_id]; exact hk) (by rw [hlen, ← rv.length]; exact hz) (fun d h => ?_) fun out ho eo => ?_
  · have := hd d h
    show X.A.units + 2 + d.depth < cLine
    omega
  · obtain ⟨ys, k1, k2⟩ := each_back eo
    obtain ⟨ep, he'⟩ := PyProof.Rows.sortedAll_at s.heap its out.toArray
    exact ⟨.ref _, upd H (s.heap.objs.size + 1) (.lst ys), I.laid (t' := s.toks) (fun _ _ => PyProof.Rows.sortedAll_old) (Nat.le_succ _) ⟨by rw [k1.length, ho, hlen, ← rv.length]; exact hz, out, ep, k1, he'⟩, rfl, q ys _ (I.hok.fresh (Nat.le_succ _)) k2⟩
theorem kSorted {K : PySem.W.Frag} (hu : X.A.units + 65 < cLine) (h : X.K = K := by rfl) : CallR X (.builtin "sorted") (rSortedX K) := h ▸ cr_sortedX hu
end
/-- what sorted gives -/
def srt (ds : List PyData) : List PyData := ds.mergeSort (PySem.W.dataLe false id)
theorem srt_perm (ds : List PyData) : (srt ds).Perm ds := List.mergeSort_perm ..
section
variable {K : PySem.W.Frag} {C : Fx} {B : Hp} {σ : L2.St} {H M H' M' : Hp} {ρ : List Sl} {w : Own} {tp : List (V × PyData)} {R : VK} {v : V} {ds : List PyData} {p : Addr}
theorem x_sortO (j : Nat) (S : Ds K C B σ H M ρ w tp) (hj : w[j]? = some (p, .lst ds)) (h1 : PySem.W.AllAlike ds) (h2 : PySem.W.Sortable ds) (h3 : ∀ d ∈ ds, d.depth ≤ 60) (q : ∀ l H', Ds K C B σ H' M ρ ((l, .lst (srt ds)) :: w) tp → R (.ref l) H') : rSortedX K [.ref p] H R := by
  obtain ⟨_, vs, a, b⟩ := S.own _ (List.mem_of_getElem? hj)
  exact ⟨Dp K M, p, vs, ds, rfl, fun _ _ => Dp.same S.sub, .of a, dp_paired b, h1, h2, h3, fun ys l hl hy => q l _ (S.newL hl (paired_dp hy))⟩
theorem x_sortL (S : Ds K C B σ H M ρ w tp) (ht : Tm tp v (.list ds)) (h1 : PySem.W.AllAlike ds) (h2 : PySem.W.Sortable ds) (h3 : ∀ d ∈ ds, d.depth ≤ 60) (q : ∀ l H', Ds K C B σ H' M ρ ((l, .lst (srt ds)) :: w) tp → R (.ref l) H') : rSortedX K [v] H R := by
  obtain ⟨p, xs, rfl, a, b⟩ := dp_lst (ht.dp S)
  exact ⟨Dp K M, p, xs, ds, rfl, fun _ _ => Dp.same S.sub, S.sub.seq a, dp_paired b, h1, h2, h3, fun ys l hl hy => q l _ (S.newL hl (paired_dp hy))⟩
end
end Pf

namespace Pf
open PySem PySem.Spec PyProof.Rows L2
/-! tuples put together, lists repeated, items set, comprehensions over anything with any names, enumerate -/
section
variable {K : PySem.W.Frag} {C : Fx} {B : Hp} {σ : L2.St} {H M H' M' : Hp} {ρ ρ' : List Sl} {w w' : Own} {tp : List (V × PyData)} {Q R : VK} {D : Ends} {te : TE} {tt : TT} {tb : TS} {tl : TA} {g : TG} {v x y : V} {ds es : List PyData} {d d1 d2 d3 : PyData} {p q : Addr} {b : Bool} {k k1 k2 k3 : Nat} {vs : List Nat} {i : Int}
theorem h_catA (h : rCatA K x y H R) : rCatA K x y H R := h
theorem x_catT (S : Ds K C B σ H M ρ w tp) (h1 : Tm tp x (.tuple ds)) (h2 : Tm tp y (.tuple es)) (hl : ds.length + es.length ≤ sizeLine) (q : ∀ u H' M', Ds K C B σ H' M' ρ w ((u, .tuple (ds ++ es)) :: tp) → R u H') : rCatA K x y H R := by
  obtain ⟨p, xs, rfl, a1, a2⟩ := dp_tup (h1.dp S)
  obtain ⟨p', ys, rfl, b1, b2⟩ := dp_tup (h2.dp S)
  refine ⟨p, p', xs, ys, rfl, rfl, Same.seqT S.sub a1, Same.seqT S.sub b1, by rw [dpAll_len a2, dpAll_len b2]; exact hl, fun e => ?_, fun _ e => ?_, fun _ _ l hl => ?_⟩
  · subst e
    cases a2
    exact q _ H M (S.push (.tup b1 b2))
  · subst e
    cases b2
    rw [List.append_nil] at q
    exact q _ H M (S.push (.tup a1 a2))
  · exact q _ _ _ (S.newT hl (dpAll_cat a2 b2))
theorem dpAll_set : ∀ {us : List V} {ds : List PyData} (k : Nat), DpAll K M us ds → Dp K M v d → DpAll K M (us.set k v) (ds.set k d)
  | _, _, _, .nil, _ => .nil
  | _, _, 0, .cons _ t, h => .cons h t
  | _, _, k + 1, .cons a t, h => .cons a (dpAll_set k t h)
theorem x_setO {P : Hp → Prop} {k : Nat} (j : Nat) (S : Ds K C B σ H M ρ w tp) (hj : w[j]? = some (p, .lst ds)) (hk : ixN ds.length i = some k) (ht : Tm tp v d) (hw : SetAt w j (p, .lst (ds.set k d)) w') (q : ∀ H', Ds K C B σ H' M ρ w' tp → P H') : rSetL (.ref p) (.int i) v H P := by
  obtain ⟨_, us, h1, h2⟩ := S.own _ (List.mem_of_getElem? hj)
  refine ⟨p, us, i, k, rfl, rfl, h1, by rw [dpAll_len h2]; exact hk, q _ ?_⟩
  rw [hw.eq]
  exact S.mut (od' := .lst (ds.set k d)) hj ⟨_, upd_same, dpAll_set k h2 (ht.dp S)⟩
theorem dpAll_rep {us : List V} {ds : List PyData} (h : DpAll K M us ds) : ∀ n : Nat, DpAll K M (List.replicate n us).flatten (List.replicate n ds).flatten
  | 0 => .nil
  | n + 1 => by
    rw [List.replicate_succ, List.replicate_succ, List.flatten_cons, List.flatten_cons]
    exact dpAll_cat h (dpAll_rep h n)
theorem h_rep (h : rRep x y H R) : rRep x y H R := h
theorem x_repO (j : Nat) (S : Ds K C B σ H M ρ w tp) (hj : w[j]? = some (p, .lst ds)) (h0 : -(2 ^ 63) ≤ i) (h1 : i < 2 ^ 63) (hz : ds.length * i.toNat ≤ sizeLine) (q : ∀ l H', Ds K C B σ H' M ρ ((l, .lst (List.replicate i.toNat ds).flatten) :: w) tp → R (.ref l) H') : rRep (.ref p) (.int i) H R := by
  obtain ⟨_, us, h2, h3⟩ := S.own _ (List.mem_of_getElem? hj)
  exact ⟨p, i, us, rfl, rfl, h2, h0, h1, by rw [dpAll_len h3]; exact hz, fun l hl => q l _ (S.newL hl (dpAll_rep h3 _))⟩
theorem h_repT (h : rRepT K x y H R) : rRepT K x y H R := h
theorem x_repT (S : Ds K C B σ H M ρ w tp) (ht : Tm tp x (.tuple ds)) (hne : ds ≠ []) (h0 : 2 ≤ i) (h1 : i ≤ 1000) (hz : ds.length ≤ 1000) (q : ∀ l H' M', Ds K C B σ H' M' ρ w ((.ref l, .tuple (List.replicate i.toNat ds).flatten) :: tp) → R (.ref l) H') : rRepT K x (.int i) H R := by
  obtain ⟨p, xs, rfl, a1, a2⟩ := dp_tup (ht.dp S)
  exact ⟨p, i, xs, rfl, rfl, Same.seqT S.sub a1, (fun e => by subst e; cases a2; exact hne rfl), h0, h1, by rw [dpAll_len a2]; exact hz, fun l hl => q l _ _ (S.newT hl (dpAll_rep a2 _))⟩
theorem x_ifNoT {ds : List PyData} {A B : Prop} (h : B) : if isNo (.tuple ds) = true then A else B := by rw [if_neg (show ¬ isNo (.tuple ds) = true from fun z => nomatch z)]; exact h
theorem x_ifNoF {ds : List PyData} {A B : Prop} (h : A) : if (!isNo (.tuple ds)) = true then A else B := by rw [if_pos (show (!isNo (.tuple ds)) = true from rfl)]; exact h
/-! names of a block bound -/
theorem wipe_in1 {x : Option V} (m1 : k1 ∈ vs) : wipe ((wipe σ vs).set k1 x) vs = wipe σ vs := by
  rw [wipe_fold, wipe_fold, fold_set m1, fold_fold]
theorem wipe_in3 {x y z : Option V} (m1 : k1 ∈ vs) (m2 : k2 ∈ vs) (m3 : k3 ∈ vs) : wipe ((((wipe σ vs).set k1 x).set k2 y).set k3 z) vs = wipe σ vs := by
  rw [wipe_fold, wipe_fold, fold_set m3, fold_set m2, fold_set m1, fold_fold]
theorem rew_in1 {B : Hp} {x : V} {s : Sl} (m1 : k1 ∈ vs) : Rew K C B ((wipe σ vs).set k1 (some x)) ((uset vs ρ).set k1 s) (wipe σ vs) (uset vs ρ) := fun S => by
  have S1 := S.clr.wiped vs
  rw [wipe_fold, wipe_fold, fold_set m1, fold_fold, fold_set m1] at S1
  rw [wipe_fold]
  have : uset vs (uset vs ρ) = uset vs ρ := fold_fold
  exact this ▸ S1
theorem rew_in3 {B : Hp} {x y z : V} {s t u : Sl} (m1 : k1 ∈ vs) (m2 : k2 ∈ vs) (m3 : k3 ∈ vs) : Rew K C B ((((wipe σ vs).set k1 (some x)).set k2 (some y)).set k3 (some z)) ((((uset vs ρ).set k1 s).set k2 t).set k3 u) (wipe σ vs) (uset vs ρ) := fun S => by
  have S1 := S.clr.wiped vs
  rw [wipe_fold, wipe_fold, fold_set m3, fold_set m2, fold_set m1, fold_fold, fold_set m3, fold_set m2, fold_set m1] at S1
  rw [wipe_fold]
  have : uset vs (uset vs ρ) = uset vs ρ := fold_fold
  exact this ▸ S1
theorem x_b1 {Z : L2.St → Hp → Prop} (S : Ds K C B (wipe σ vs) H M (uset vs ρ) w ((x, d1) :: tp)) (m1 : k1 ∈ vs)
    (q : ∀ σ1, Rew K C B σ1 ((uset vs ρ).set k1 (.d d1)) (wipe σ vs) (uset vs ρ) → Ds K C B σ1 H M ((uset vs ρ).set k1 (.d d1)) w [] → Z σ1 H) : gName k1 x (wipe σ vs) H fun σ2 H2 => wipe σ2 vs = wipe σ vs ∧ Z σ2 H2 :=
  ⟨wipe_in1 m1, q _ (rew_in1 m1) (S.clr.set (s := .d d1) (S.tm (x, d1) (List.mem_cons_self ..)))⟩
theorem x_b2 {Z : L2.St → Hp → Prop} (S : Ds K C B (wipe σ vs) H M (uset vs ρ) w ((x, .tuple [d1, d2]) :: tp)) (m1 : k1 ∈ vs) (m2 : k2 ∈ vs)
    (q : ∀ σ1, Rew K C B σ1 (((uset vs ρ).set k1 (.d d1)).set k2 (.d d2)) (wipe σ vs) (uset vs ρ) → Ds K C B σ1 H M (((uset vs ρ).set k1 (.d d1)).set k2 (.d d2)) w [] → Z σ1 H) :
    gTup K 2 (gCons (gName k1) (gCons (gName k2) gNil)) x (wipe σ vs) H fun σ2 H2 => wipe σ2 vs = wipe σ vs ∧ Z σ2 H2 := by
  refine x_gT2 S (.m (List.mem_cons_self ..)) fun y z S2 => ?_
  have hy : Dp K M y d1 := S2.tm (y, d1) (List.mem_cons_self ..)
  have hz : Dp K M z d2 := S2.tm (z, d2) (List.mem_cons_of_mem _ (List.mem_cons_self ..))
  exact ⟨wipe2 m1 m2, q _ (rew2 m1 m2) ((S2.clr.set (i := k1) (v := y) (s := .d d1) hy).set (i := k2) (v := z) (s := .d d2) hz)⟩
theorem x_b3 {Z : L2.St → Hp → Prop} (S : Ds K C B (wipe σ vs) H M (uset vs ρ) w ((x, .tuple [d1, d2, d3]) :: tp)) (m1 : k1 ∈ vs) (m2 : k2 ∈ vs) (m3 : k3 ∈ vs)
    (q : ∀ σ1, Rew K C B σ1 ((((uset vs ρ).set k1 (.d d1)).set k2 (.d d2)).set k3 (.d d3)) (wipe σ vs) (uset vs ρ) → Ds K C B σ1 H M ((((uset vs ρ).set k1 (.d d1)).set k2 (.d d2)).set k3 (.d d3)) w [] → Z σ1 H) :
    gTup K 3 (gCons (gName k1) (gCons (gName k2) (gCons (gName k3) gNil))) x (wipe σ vs) H fun σ2 H2 => wipe σ2 vs = wipe σ vs ∧ Z σ2 H2 := by
  refine x_gT3 S (.m (List.mem_cons_self ..)) fun y z u S2 => ?_
  have hy : Dp K M y d1 := S2.tm (y, d1) (List.mem_cons_self ..)
  have hz : Dp K M z d2 := S2.tm (z, d2) (List.mem_cons_of_mem _ (List.mem_cons_self ..))
  have hu : Dp K M u d3 := S2.tm (u, d3) (List.mem_cons_of_mem _ (List.mem_cons_of_mem _ (List.mem_cons_self ..)))
  exact ⟨wipe_in3 m1 m2 m3, q _ (rew_in3 m1 m2 m3) (((S2.clr.set (i := k1) (v := y) (s := .d d1) hy).set (i := k2) (v := z) (s := .d d2) hz).set (i := k3) (v := u) (s := .d d3) hu)⟩
/-! comprehensions over tuples, lists, enumerate -/
abbrev LcStep (K : PySem.W.Frag) (C : Fx) (B : Hp) (I : Nat → List PyData → Own → Prop) (σ : L2.St) (ρ : List Sl) (g : TG) (tt : TT) (te : TE) (vs : List Nat) (D : Addr) (i : Nat) (u : V) (H : Hp) : Prop :=
  g u (wipe σ vs) H fun σ2 H2 => wipe σ2 vs = wipe σ vs ∧ tt σ2 H2 fun b H3 => if b = true then te σ2 H3 (LcA (LcN K C B I (wipe σ vs) (uset vs ρ) D (i + 1)) D) else LcN K C B I (wipe σ vs) (uset vs ρ) D (i + 1) H3
theorem x_wlcT (I : Nat → List PyData → Own → Prop) (S : Ds K C B σ H M ρ w tp) (ht : Tm tp v (.tuple ds)) (h0 : I 0 [] w)
    (hs : ∀ i d acc w1, ds[i]? = some d → I i acc w1 → ∀ D u H1 M1, Ds K C M (wipe σ vs) H1 M1 (uset vs ρ) ((D, .lst acc) :: w1) [(u, d)] → LcStep K C M I σ ρ g tt te vs D i u H1)
    (hd : ∀ acc w1, I ds.length acc w1 → ∀ D H1 M1, Ds K C B σ H1 M1 ρ ((D, .lst acc) :: w1) tp → Q (.ref D) H1) : ForT K (LcB g tt te vs Q σ) v H := by
  obtain ⟨p, xs, rfl, h1, h2⟩ := dp_tup (ht.dp S)
  refine ⟨p, rfl, ⟨xs, Same.seqT S.sub h1⟩, fun D hD => lc_tup (xs := xs) (LcN K C M I (wipe σ vs) (uset vs ρ) D) ?_ (fun i H1 _ q => ?_) (fun i x H1 hx q => ?_) (fun H1 q => ?_)⟩
  · exact ⟨M, [], w, h0, (S.base.clr.wiped vs).newL hD .nil⟩
  · obtain ⟨M1, acc, w1, _, S1⟩ := q
    exact Same.seqT (S1.bs.trans S1.sub) h1
  · obtain ⟨M1, acc, w1, q, S1⟩ := q
    have hi : i < ds.length := by rw [← dpAll_len h2]; exact (List.getElem?_eq_some_iff.mp hx).1
    have e := List.getElem?_eq_getElem hi
    exact hs i _ acc w1 e q D x H1 M1 (S1.push (Dp.same S1.bs (dpAll_at h2 i x _ hx e)))
  · obtain ⟨M1, acc, w1, q, S1⟩ := q
    exact hd acc w1 (dpAll_len h2 ▸ q) D H1 M1 (S.outof S1)
theorem x_wlcL (I : Nat → List PyData → Own → Prop) (S : Ds K C B σ H M ρ w tp) (ht : Tm tp v (.list ds)) (h0 : I 0 [] w)
    (hs : ∀ i d acc w1, ds[i]? = some d → I i acc w1 → ∀ D u H1 M1, Ds K C M (wipe σ vs) H1 M1 (uset vs ρ) ((D, .lst acc) :: w1) [(u, d)] → LcStep K C M I σ ρ g tt te vs D i u H1)
    (hd : ∀ acc w1, I ds.length acc w1 → ∀ D H1 M1, Ds K C B σ H1 M1 ρ ((D, .lst acc) :: w1) tp → Q (.ref D) H1) : ForL K (LcB g tt te vs Q σ) v H := by
  obtain ⟨p, xs, rfl, h1, h2⟩ := dp_lst (ht.dp S)
  refine ⟨p, rfl, ⟨xs, S.sub.seq h1⟩, fun D hD => lc_list (xs := xs) (LcN K C M I (wipe σ vs) (uset vs ρ) D) ?_ (fun i H1 _ q => ?_) (fun i x H1 hx q => ?_) (fun H1 q => ?_)⟩
  · exact ⟨M, [], w, h0, (S.base.clr.wiped vs).newL hD .nil⟩
  · obtain ⟨M1, acc, w1, _, S1⟩ := q
    exact (S1.bs.trans S1.sub).seq h1
  · obtain ⟨M1, acc, w1, q, S1⟩ := q
    have hi : i < ds.length := by rw [← dpAll_len h2]; exact (List.getElem?_eq_some_iff.mp hx).1
    have e := List.getElem?_eq_getElem hi
    exact hs i _ acc w1 e q D x H1 M1 (S1.push (Dp.same S1.bs (dpAll_at h2 i x _ hx e)))
  · obtain ⟨M1, acc, w1, q, S1⟩ := q
    exact hd acc w1 (dpAll_len h2 ▸ q) D H1 M1 (S.outof S1)
def ForE (K : PySem.W.Frag) (R : It → Hp → Prop) (us : List V) (H1 : Hp) : Prop := ∃ a xs, us = [.ref a] ∧ SqL K H1 a xs ∧ R (Ite K a) H1
theorem x_fE (h : tl σ H fun us H1 => ForE K (ForB g tb D σ) us H1) : tFor (iEnum K tl) g tb D σ H := h
theorem x_lcE (h : tl σ H fun us H1 => ForE K (LcB g tt te vs Q σ) us H1) : tLc (iEnum K tl) g tt te vs σ H Q := h
theorem x_wlcE (I : Nat → List PyData → Own → Prop) (S : Ds K C B σ H M ρ w tp) (ht : Tm tp v (.list ds)) (h0 : I 0 [] w)
    (hs : ∀ i d acc w1, ds[i]? = some d → I i acc w1 → ∀ D u H1 M1, Ds K C M (wipe σ vs) H1 M1 (uset vs ρ) ((D, .lst acc) :: w1) [(u, .tuple [.int (i : Nat), d])] → LcStep K C M I σ ρ g tt te vs D i u H1)
    (hd : ∀ acc w1, I ds.length acc w1 → ∀ D H1 M1, Ds K C B σ H1 M1 ρ ((D, .lst acc) :: w1) tp → Q (.ref D) H1) : ForE K (LcB g tt te vs Q σ) [v] H := by
  obtain ⟨p, xs, rfl, h1, h2⟩ := dp_lst (ht.dp S)
  refine ⟨p, xs, rfl, S.sub.seq h1, fun D hD => lc_it (walk_enum (K := K) (a := p) (xs := xs)) (LcN K C M I (wipe σ vs) (uset vs ρ) D) ?_ (fun i H1 _ q => ?_) (fun i x H1 H2 hx q y => ?_) (fun H1 q => ?_)⟩
  · exact ⟨M, [], w, h0, (S.base.clr.wiped vs).newL hD .nil⟩
  · obtain ⟨M1, acc, w1, _, S1⟩ := q
    exact (S1.bs.trans S1.sub).seq h1
  · obtain ⟨M1, acc, w1, q, S1⟩ := q
    obtain ⟨T, x1, x2, rfl, hT, rfl, e1, e2⟩ := y
    cases e1
    have hi : i < ds.length := by rw [← dpAll_len h2]; exact hx
    have e := List.getElem?_eq_getElem hi
    exact hs i _ acc w1 e q D _ _ _ (S1.newT hT (.cons (.int _) (.cons (Dp.same S1.bs (dpAll_at h2 i x2 _ e2 e)) .nil)))
  · obtain ⟨M1, acc, w1, q, S1⟩ := q
    exact hd acc w1 (dpAll_len h2 ▸ q) D H1 M1 (S.outof S1)
theorem x_forE (I : Nat → List Sl → Own → Prop) (S : Ds K C B σ H M ρ w tp) (ht : Tm tp v (.list ds)) (h0 : I 0 ρ w)
    (hs : ∀ i d ρ1 w1, ds[i]? = some d → I i ρ1 w1 → ∀ u σ1 H1 M1, Ds K C M σ1 H1 M1 ρ1 w1 [(u, .tuple [.int (i : Nat), d])] → g u σ1 H1 fun σ2 H2 => tb { D with nx := Nx K C M I (i + 1), ct := Nx K C M I (i + 1), bk := D.nx } σ2 H2)
    (hd : ∀ ρ1 w1, I ds.length ρ1 w1 → ∀ σ1 H1 M1, Ds K C B σ1 H1 M1 ρ1 w1 [] → D.nx σ1 H1) : ForE K (ForB g tb D σ) [v] H := by
  obtain ⟨p, xs, rfl, h1, h2⟩ := dp_lst (ht.dp S)
  refine ⟨p, xs, rfl, S.sub.seq h1, for_it (walk_enum (K := K) (a := p) (xs := xs)) (Nx K C M I) ⟨M, ρ, w, h0, S.base.clr⟩ (fun i σ1 H1 _ q => ?_) (fun i x σ1 H1 H2 hx q y => ?_) (fun σ1 H1 q => ?_)⟩
  · obtain ⟨M1, ρ1, w1, _, S1⟩ := q
    exact (S1.bs.trans S1.sub).seq h1
  · obtain ⟨M1, ρ1, w1, q, S1⟩ := q
    obtain ⟨T, x1, x2, rfl, hT, rfl, e1, e2⟩ := y
    cases e1
    have hi : i < ds.length := by rw [← dpAll_len h2]; exact hx
    have e := List.getElem?_eq_getElem hi
    exact hs i _ ρ1 w1 e q _ σ1 _ _ (S1.newT hT (.cons (.int _) (.cons (Dp.same S1.bs (dpAll_at h2 i x2 _ e2 e)) .nil)))
  · obtain ⟨M1, ρ1, w1, q, S1⟩ := q
    exact hd ρ1 w1 (dpAll_len h2 ▸ q) σ1 H1 M1 (S1.base' S.bs)
end
section
variable {X : Cx} {K : PySem.W.Frag} {tg e : Expr}
theorem kRepT (h : X.K = K := by rfl) : OpR X (binaryOp .Mult) (rRepT K) := h ▸ op_repT
theorem kIE {tl : TA} (p : PI X tg e (iEnum X.K tl)) (h : X.K = K := by rfl) : PI X tg e (iEnum K tl) := h ▸ p
end
end Pf

namespace Pf
open PySem PySem.Spec PyProof.Rows L2 HT
/-! t[::-1] of a tuple -/
section
variable {prog : Program} {w : World} {A : Around} {E : Value → Shared → Prop} {s : Shared}
theorem adjust_rev (n : Nat) : Builtin.Slice.sliceAdjust none none (-1) (n : Int) = ((n : Int) - 1, -1) := by
  unfold Builtin.Slice.sliceAdjust
  rfl
theorem places_rev (n : Nat) : Builtin.Slice.slicePlaces ((n : Int) - 1) (-1) (-1) = n := by
  unfold Builtin.Slice.slicePlaces
  have h1 : ¬ ((-1 : Int) > 0) := by omega
  simp only [h1, if_false]
  split
  · rw [show (- -1 : Int) = 1 by decide, Int.ediv_one]
    omega
  · omega
theorem sliceApplied_rev {sl : Addr} {vl vu vs : Value} {n : Nat} {Q : Int × Int × Nat → Shared → Prop} (hs : s.heap.IsSliceOf sl vl vu vs) (pl : IsPart vl none) (pu : IsPart vu none) (ps : IsPart vs (some (-1)))
    (h : Q ((n : Int) - 1, -1, n) s) : wpAny (model prog w) A (Builtin.Slice.sliceApplied (.ref sl) (pure (n : Int))) Q E s := by
  obtain ⟨os, hos, hcs, hds⟩ := id hs
  unfold Builtin.Slice.sliceApplied Builtin.Slice.sliceFields
  refine wpAny_bind (wpAny_bind (wpAny_field hos hds (x := vl) rfl (wpAny_bind (wpAny_field hos hds (x := vu) rfl (wpAny_bind (wpAny_field hos hds (x := vs) rfl (wpAny_pure ?_)))))))
  refine wpAny_bind (slicePart_ ps ?_)
  show wpAny _ _ (if ((-1 : Int) == 0) = true then _ else _) _ _ s
  rw [if_neg (by decide)]
  refine wpAny_bind (slicePart_ pl (wpAny_bind (slicePart_ pu (wpAny_bind (wpAny_pure ?_)))))
  show wpAny _ _ (match Builtin.Slice.sliceAdjust none none (-1) (n : Int) with | (lo, hi) => pure (lo, (-1 : Int), Builtin.Slice.slicePlaces lo hi (-1))) _ _ s
  rw [adjust_rev n]
  show wpAny _ _ (pure ((n : Int) - 1, (-1 : Int), Builtin.Slice.slicePlaces ((n : Int) - 1) (-1) (-1))) _ _ s
  rw [places_rev]
  exact wpAny_pure h
theorem fm_congr {α β : Type} {f g : α → Option β} : ∀ {l : List α}, (∀ x ∈ l, f x = g x) → l.filterMap f = l.filterMap g
  | [], _ => rfl
  | x :: l, h => by
    rw [List.filterMap_cons, List.filterMap_cons, h x (List.mem_cons_self ..), fm_congr fun y hy => h y (List.mem_cons_of_mem _ hy)]
theorem pick_rev (xs : Array Value) : ((List.range xs.size).filterMap fun (m : Nat) => xs[((xs.size : Int) - 1 + (m : Int) * -1).toNat]?).toArray = xs.toList.reverse.toArray := by
  have e : (List.range xs.size).filterMap (fun (m : Nat) => xs[((xs.size : Int) - 1 + (m : Int) * -1).toNat]?) = ((List.range xs.size).map fun k => xs.size - 1 - k).filterMap (xs[·]?) := by
    rw [List.filterMap_map]
    refine fm_congr fun m hm => ?_
    have := List.mem_range.mp hm
    have e2 : ((xs.size : Int) - 1 + (m : Int) * -1).toNat = xs.size - 1 - m := by omega
    rw [e2]
    rfl
  rw [e, PySem.W.krv_range, List.filterMap_reverse, PySem.W.krv_all]
theorem getItem_tuple_rev {t sl : Addr} {items : Array Value} {vl vu vs : Value} {Q : Value → Shared → Prop} (ht : IsTup s.heap t items) (hs : s.heap.IsSliceOf sl vl vu vs) (pl : IsPart vl none) (pu : IsPart vu none) (ps : IsPart vs (some (-1)))
    (h : Q (.ref s.heap.objs.size) { s with heap := s.heap.push { cls := .type "tuple", data := .seq items.toList.reverse.toArray } })
    (hsz : items.size ≤ sizeLine) : wpAny (model prog w) A (getItem (.ref t) (.ref sl)) Q E s := by
  have htake : sizeOk (.seq items.toList.reverse.toArray) := by
    show items.toList.reverse.toArray.size ≤ sizeLine
    rw [List.size_toArray, List.length_reverse, Array.length_toList]
    exact hsz
  obtain ⟨os, hos, hcs, hds⟩ := id hs
  have hTs : s.TypeIs (.ref sl) "slice" := ⟨os, hos, hcs⟩
  unfold getItem
  try with_reducible refine wpAny_holding ?_
  first | refine wpAny_bind (wpAny_pure ?_) | skip
  refine wpAny_bind (wpAny_sequenceKey ht.typeIs (by decide) ?_)
  refine wpAny_bind (wpAny_callSpecial?_slot (name := Str.ofString "__getitem__") ht.typeIs PyProof.Rows.slot_tuple_getitem
    (wpAny_call_entry PyProof.Rows.slot_tuple_getitem ht.typeIs entry_tuple_getitem ?_ (args_tuple_getitem _ _)))
  show wpAny _ _ (Builtin.Tuple.tupleItemsOf (.ref t) >>= _) _ _ s
  refine wpAny_bind (tupleItemsOf_ ht ?_)
  refine wpAny_bind (wpAny_typeOf hTs ?_)
  rw [if_pos (by decide)]
  refine wpAny_bind (sliceApplied_rev hs pl pu ps ?_)
  have hno : ¬ ((((items.size : Int) - 1) == 0 && (-1 : Int) == 1 && items.size == items.size) = true) := by
    intro q
    rw [Bool.and_eq_true, Bool.and_eq_true] at q
    exact absurd q.1.2 (by decide)
  show wpAny _ _ (if (((items.size : Int) - 1) == 0 && (-1 : Int) == 1 && items.size == items.size) = true then _ else _) _ _ s
  rw [if_neg hno, pick_rev]
  first
    | exact wpAny_bind (m := Builtin.Tuple.tupleExact _) (wpAny_newObj_type (wpAny_pure ⟨_, rfl, wpAny_pure h⟩) htake)
    | exact wpAny_bind (m := Builtin.Tuple.tupleExact _) (wpAny_newObj_type (wpAny_bind (wpAny_pure (wpAny_pure ⟨_, rfl, wpAny_pure h⟩))) htake)
    | exact wpAny_bind (wpAny_bind (m := Builtin.Tuple.tupleExact _) (wpAny_newObj_type (wpAny_pure (wpAny_pure ⟨_, rfl, wpAny_pure h⟩)) htake))
    | exact wpAny_bind (wpAny_bind (m := Builtin.Tuple.tupleExact _) (wpAny_newObj_type (wpAny_pure ⟨_, rfl, wpAny_pure h⟩) htake))
end
section
variable {X : Cx}
def rRevT (K : PySem.W.Frag) (Q : VK) (x : V) (H1 : Hp) : Prop := ∃ a xs, x = .ref a ∧ SqT K H1 a xs ∧ ∀ p, H1 p = none → Q (.ref p) (upd H1 p (.tup xs.reverse))
def tRevT (K : PySem.W.Frag) (te : TE) : TE := fun σ H Q => te σ H fun x H1 => rRevT K Q x H1
theorem pe_revT {e : Expr} {te : TE} {K : PySem.W.Frag} {k : Nat} {p1 p2 p3 pos : Pos} (he : PE X e te) (hK : X.K = K := by rfl) : PE X (.Subscript e (.Slice none none (some (.UnaryOp .USub (.Constant (.int 1) k p1) p2)) p3) pos) (tRevT K te) := by
  subst hK
  refine ⟨fun pins s σ H Q I h => ?_⟩
  refine Subscript_ (thn (he.run pins s σ H _ I h) fun v s1 ⟨x, H1, I1, r1, q1⟩ => ?_)
  obtain ⟨a, xs, ex, hx, q⟩ := q1
  subst ex
  cases r1
  have hst : PO X (some (.UnaryOp .USub (.Constant (.int 1) k p1) p2)) (tPart (tUn (rU fun i => .int (-i)) (tC (.int 1)))) := po_some (pe_un un_neg pe_int)
  refine wpAny_Slice (thn (po_none.run pins s1 σ H1 (fun o H2 => o = none ∧ H2 = H1) I1 ⟨rfl, rfl⟩) fun vl s2 ⟨l, H2, I2, pl, el, e2⟩ => ?_)
  subst el e2
  refine thn (po_none.run pins s2 σ H2 (fun o H3 => o = none ∧ H3 = H2) I2 ⟨rfl, rfl⟩) fun vu s3 ⟨u, H3, I3, pu, eu, e3⟩ => ?_
  subst eu e3
  refine thn (hst.run pins s3 σ H3 (fun o H4 => o = some (-1) ∧ H4 = H3) I3 ⟨1, rfl, -1, rfl, rfl, rfl⟩) fun vs s4 ⟨o, H4, I4, ps, eo, e4⟩ => ?_
  subst eo e4
  have I5 : Inv X pins σ H4 { s4 with heap := s4.heap.push { cls := .type "slice", data := .fields #[vl, vu, vs] } } := I4.kept (t' := s4.toks) fun b ob q => Heap.get?_push_of_some _ q
  obtain ⟨its, r, ht, hz⟩ := I5.tuple hx
  have hlen := r.length
  show wpAny (model X.prog X.w) X.A (subscriptTail e (.Slice none none (some (.UnaryOp .USub (.Constant (.int 1) k p1) p2)) p3) (.ref a) (.ref s4.heap.objs.size)) (EP X pins σ Q) X.xe { s4 with heap := s4.heap.push { cls := .type "slice", data := .fields #[vl, vu, vs] } }
  refine tail_any (ops := [.ref a, .ref s4.heap.objs.size]) ht.typeIs (PyProof.Rows.slot_tuple_getitem.lookup) ?_ (by with_unfolding_all rfl)
  refine getItem_tuple_rev ht (Heap.IsSliceOf.new _ vl vu vs) pl pu ps ?_ (by rw [List.size_toArray]; omega)
  refine ⟨.ref _, _, I5.laid (t' := s4.toks) (o := .tup xs.reverse) (fun b ob q => Heap.get?_push_of_some _ q) (Nat.le_refl _) ?_, rfl, q _ (I5.hok.fresh (Nat.le_refl _))⟩
  exact ⟨by rw [List.length_reverse]; exact hz, _, r.reverse, IsTup.new _ _⟩
end
section
variable {K : PySem.W.Frag} {C : Fx} {B : Hp} {σ : L2.St} {H M : Hp} {ρ : List Sl} {w : Own} {tp : List (V × PyData)} {Q : VK} {te : TE} {v : V} {ds es : List PyData}
theorem dpAll_rev {vs : List V} {ds : List PyData} (h : DpAll K M vs ds) : DpAll K M vs.reverse ds.reverse := by
  induction vs generalizing ds with
  | nil =>
    cases h
    exact .nil
  | cons v vs ih =>
    cases h with
    | cons a t =>
      rw [List.reverse_cons, List.reverse_cons]
      exact dpAll_app (ih t) (.cons a .nil)
theorem x_revT (h : te σ H fun x H1 => rRevT K Q x H1) : tRevT K te σ H Q := h
theorem h_revT (h : rRevT K Q v H) : rRevT K Q v H := h
theorem x_revK (S : Ds K C B σ H M ρ w tp) (ht : Tm tp v (.tuple ds)) (q : ∀ p H' M', Ds K C B σ H' M' ρ w ((.ref p, .tuple ds.reverse) :: tp) → Q (.ref p) H') : rRevT K Q v H := by
  obtain ⟨p, xs, rfl, h1, h2⟩ := dp_tup (ht.dp S)
  exact ⟨p, xs, rfl, Same.seqT S.sub h1, fun l hl => q l _ _ (S.newT hl (dpAll_rev h2))⟩
end
end Pf

namespace Pf
open PySem PySem.Spec PyProof.Rows L2
/-! list(range(n)), tuple(range(n)) -/
/-- 0 .. n - 1 -/
def rng (n : Nat) : List Int := (List.range n).map fun (i : Nat) => (i : Int)
theorem rng_len {n : Nat} : (rng n).length = n := by unfold rng; rw [List.length_map, List.length_range]
theorem rng_mem {n : Nat} {i : Int} : i ∈ rng n ↔ 0 ≤ i ∧ i < n := by
  unfold rng
  rw [List.mem_map]
  constructor
  · rintro ⟨j, h, rfl⟩
    have := List.mem_range.mp h
    omega
  · rintro ⟨h0, h1⟩
    exact ⟨i.toNat, List.mem_range.mpr (by omega), by omega⟩
theorem rng_at {n k : Nat} (h : k < n) : (rng n)[k]? = some (k : Int) := by
  unfold rng
  rw [List.getElem?_map, List.getElem?_range h]
  rfl
theorem rng_at' {n k : Nat} {i : Int} (h : (rng n)[k]? = some i) : k < n ∧ i = (k : Int) := by
  have h1 := (List.getElem?_eq_some_iff.mp h).1
  rw [rng_len] at h1
  rw [rng_at h1] at h
  exact ⟨h1, (Option.some.inj h).symm⟩
theorem rng_succ {n : Nat} : rng (n + 1) = rng n ++ [(n : Int)] := by
  unfold rng
  rw [List.range_succ, List.map_append]
  rfl
theorem rng_sorted {n : Nat} : (rng n).Pairwise (· < ·) := by
  unfold rng
  rw [List.pairwise_map]
  exact (List.pairwise_lt_range).imp fun h => by omega
def LrK (Q : VK) (a b : Int) (H : Hp) : Prop := RgOk a b ∧ ∀ q, H q = none → Q (.ref q) (upd H q (.lst (rgV a b)))
def TrK (Q : VK) (a b : Int) (H : Hp) : Prop := RgOk a b ∧ ∀ q, H q = none → Q (.ref q) (upd H q (.tup (rgV a b)))
def R1K (R : Int → Int → Hp → Prop) (x : V) (H : Hp) : Prop := ∃ n, x = .int n ∧ R 0 n H
def R2K (R : Int → Int → Hp → Prop) (x y : V) (H : Hp) : Prop := ∃ i j, x = .int i ∧ y = .int j ∧ R i j H
section
variable {K : PySem.W.Frag} {C : Fx} {B : Hp} {σ : L2.St} {H M : Hp} {ρ : List Sl} {w : Own} {tp : List (V × PyData)} {Q : VK} {te ta : TE} {n m : Int} {R : Int → Int → Hp → Prop} {t : L2.St → Hp → (Int → Int → Hp → Prop) → Prop}
theorem x_lrg (h : t σ H fun a b H1 => LrK Q a b H1) : tLstRg t σ H Q := h
theorem x_trg (h : t σ H fun a b H1 => TrK Q a b H1) : tTupRg t σ H Q := h
theorem x_rg1 (h : te σ H fun x H1 => R1K R x H1) : tRg1 te σ H R := h
theorem x_rg2 (h : te σ H fun x H1 => ta σ H1 fun y H2 => R2K R x y H2) : tRg2 te ta σ H R := h
theorem x_r1K (h : R 0 n H) : R1K R (.int n) H := ⟨n, rfl, h⟩
theorem x_r2K (h : R n m H) : R2K R (.int n) (.int m) H := ⟨n, m, rfl, rfl, h⟩
theorem dp_rg (n : Int) : DpAll K M (rgV 0 n) ((rng n.toNat).map .int) := by
  unfold rgV rng
  rw [Int.sub_zero, List.map_map]
  generalize n.toNat = k
  induction k with
  | zero => exact .nil
  | succ k ih =>
    rw [List.range_succ, List.map_append, List.map_append]
    refine dpAll_cat ih (.cons ?_ .nil)
    show Dp K M (V.int (0 + (k : Int))) (PyData.int (k : Int))
    rw [Int.zero_add]
    exact .int _
theorem h_lrK {a b : Int} (h : LrK Q a b H) : LrK Q a b H := h
theorem x_lrK (S : Ds K C B σ H M ρ w tp) (h0 : 0 ≤ n) (h1 : n ≤ 16777216) (q : ∀ p H', Ds K C B σ H' M ρ ((p, .lst ((rng n.toNat).map .int)) :: w) tp → Q (.ref p) H') : LrK Q 0 n H :=
  ⟨.of_le (by decide) h1 (by decide) h0, fun l hl => q l _ (S.newL hl (dp_rg n))⟩
theorem x_trK (S : Ds K C B σ H M ρ w tp) (h0 : 0 ≤ n) (h1 : n ≤ 16777216) (q : ∀ p H' M', Ds K C B σ H' M' ρ w ((.ref p, .tuple ((rng n.toNat).map .int)) :: tp) → Q (.ref p) H') : TrK Q 0 n H :=
  ⟨.of_le (by decide) h1 (by decide) h0, fun l hl => q l _ _ (S.newT hl (dp_rg n))⟩
end
end Pf

namespace Pf
open PySem PySem.Spec PyProof.Rows L2
/-! tuples that are keys, dicts with such keys, instances, calls that change several own things -/
def tTupR (tl : TA) : TE := tTup tl
def TupKR (Q : VK) (xs : List V) (H1 : Hp) : Prop := TupK Q xs H1
theorem pe_tupR {X : Cx} {es : List Expr} {t : TA} {x1 : Nat} {pos : Pos} (h : PA X es t) : PE X (.Tuple es x1 pos) (tTupR t) := pe_tup h
/-! dicts by any keys -/
section
variable {κ : Type} [DecidableEq κ]
def valG (kvs : List (κ × PyData)) (k : κ) : Option PyData := (kvs.find? fun kv => decide (kv.1 = k)).map (·.2)
def putG (kvs : List (κ × PyData)) (k : κ) (d : PyData) : List (κ × PyData) :=
  if (kvs.any fun kv => decide (kv.1 = k)) = true then kvs.map (fun kv => if kv.1 = k then (kv.1, d) else kv) else kvs ++ [(k, d)]
theorem valG_nil {k : κ} : valG ([] : List (κ × PyData)) k = none := rfl
theorem valG_cons {p : κ × PyData} {r : List (κ × PyData)} {k : κ} : valG (p :: r) k = if p.1 = k then some p.2 else valG r k := by
  unfold valG
  rw [List.find?_cons]
  by_cases h : p.1 = k
  · simp [h]
  · simp [h]
theorem valG_any (k : κ) : ∀ kvs : List (κ × PyData), (kvs.any fun kv => decide (kv.1 = k)) = (valG kvs k).isSome
  | [] => rfl
  | p :: r => by
    rw [List.any_cons, valG_any k r, valG_cons]
    by_cases h : p.1 = k
    · simp [h]
    · simp [h]
theorem putG_new {kvs : List (κ × PyData)} {k : κ} {d : PyData} (h : valG kvs k = none) : putG kvs k d = kvs ++ [(k, d)] := by
  unfold putG
  rw [valG_any, h]
  rfl
theorem valG_app {kvs ls : List (κ × PyData)} {k : κ} : valG (kvs ++ ls) k = (valG kvs k).or (valG ls k) := by
  induction kvs with
  | nil => rfl
  | cons p r ih =>
    rw [List.cons_append, valG_cons, valG_cons, ih]
    by_cases h : p.1 = k
    · simp [h]
    · simp [h]
theorem valG_map {kvs : List (κ × PyData)} {k k' : κ} {d : PyData} : valG (kvs.map fun kv => if kv.1 = k then (kv.1, d) else kv) k' = if k' = k then (valG kvs k').map fun _ => d else valG kvs k' := by
  induction kvs with
  | nil => rw [List.map_nil, valG_nil]; split <;> rfl
  | cons p r ih =>
    rw [List.map_cons, valG_cons, valG_cons, ih]
    by_cases e : p.1 = k
    · rw [if_pos e]
      by_cases e2 : k' = k
      · have e3 : p.1 = k' := e.trans e2.symm
        rw [if_pos e3, if_pos e2, if_pos e3]
        rfl
      · have e3 : ¬ p.1 = k' := fun z => e2 (z.symm.trans e)
        rw [if_neg e3, if_neg e2, if_neg e2, if_neg e3]
    · rw [if_neg e]
      by_cases e2 : k' = k
      · have e3 : ¬ p.1 = k' := fun z => e (z.trans e2)
        rw [if_neg e3, if_pos e2, if_pos e2, if_neg e3]
      · rw [if_neg e2, if_neg e2]
theorem valG_put {kvs : List (κ × PyData)} {k k' : κ} {d : PyData} : valG (putG kvs k d) k' = if k' = k then some d else valG kvs k' := by
  unfold putG
  rw [valG_any]
  cases h : valG kvs k with
  | some x =>
    rw [if_pos (show (some x).isSome = true from rfl), valG_map]
    by_cases e : k' = k
    · rw [if_pos e, if_pos e, e, h]
      rfl
    · rw [if_neg e, if_neg e]
  | none =>
    rw [if_neg (show ¬ (none : Option PyData).isSome = true from fun z => nomatch z), valG_app, valG_cons, valG_nil]
    by_cases e : k' = k
    · rw [if_pos e, e, h, if_pos rfl]
      rfl
    · rw [if_neg e, if_neg fun z => e z.symm]
      cases valG kvs k' <;> rfl
theorem putG_len {kvs : List (κ × PyData)} {k : κ} {d : PyData} : (putG kvs k d).length ≤ kvs.length + 1 := by
  unfold putG
  split
  · rw [List.length_map]
    omega
  · rw [List.length_append]
    exact Nat.le_refl _
theorem valG_one {k k' : κ} {d : PyData} : valG [(k, d)] k' = if k = k' then some d else none := by
  rw [valG_cons, valG_nil]
end
def keyD : Key → PyData
  | .inl i => .int i
  | .inr s => .str s
section
variable {K : PySem.W.Frag} {C : Fx} {B : Hp} {σ : L2.St} {H M H' M' : Hp} {ρ ρ' : List Sl} {w w' : Own} {tp : List (V × PyData)} {Q R : VK} {E : XK} {D : Ends} {te td ty tv : TE} {tl : TA} {v x y : V} {d : PyData} {ds : List PyData} {p b : Addr} {kvs : List (List Key × PyData)} {ks : List Key} {ws : List (List Key × V)} {i : Nat}
theorem x_tupR (h : tl σ H fun xs H1 => TupKR Q xs H1) : tTupR tl σ H Q := h
theorem h_tupR {xs : List V} (h : TupKR Q xs H) : TupKR Q xs H := h
theorem x_tupRK {us : List V} (S : Ds K C B σ H M ρ w tp) (ht : TmAll tp us ds) (hl : decide (us.length ≤ 1000) = true) (q : ∀ p H' M', TupM K M' (.ref p) (.tuple ds) → Ds K C B σ H' M' ρ w ((.ref p, .tuple ds) :: tp) → Q (.ref p) H') : TupKR Q us H :=
  ⟨Nat.le_trans (of_decide_eq_true hl) (by decide), fun p hp => q p _ _ ⟨p, us, ds, rfl, rfl, upd_same, DpAll.same (Same.new _ (S.sub.free hp)) (ht.dp S)⟩ (S.newT hp (ht.dp S))⟩
theorem x_gnT {q : L2.St → Hp → Prop} (S : Ds K C B σ H M ρ w tp) (ht : TupM K M v d) (hs : SetAt ρ i (.t d) ρ') (h : ∀ σ', Ds K C B σ' H M ρ' w tp → q σ' H) : gName i v σ H q :=
  h _ (hs.eq ▸ S.set (s := .t d) ht)
theorem x_varT (S : Ds K C B σ H M ρ w tp) (h : ρ[i]? = some (.t d)) (q : ∀ a, TupM K M (.ref a) d → Ds K C B σ H M ρ w ((.ref a, d) :: tp) → R (.ref a) H) : tVar i σ H R := by
  obtain ⟨v, h1, h2⟩ := S.get h (fun z => nomatch z)
  have h3 : TupM K M v d := h2
  obtain ⟨a, xs, es, rfl, _⟩ := id h3
  exact ⟨_, h1, q a h3 (S.push h3.dp)⟩
theorem dpAll_keys : ∀ {ks : List Key} {us : List V}, DpAll K M us (ks.map keyD) → us = ks.map kV
  | [], _, .nil => rfl
  | .inl i :: ks, _, .cons h t => by
    cases h
    rw [dpAll_keys t]
    rfl
  | .inr i :: ks, _, .cons h t => by
    cases h
    rw [dpAll_keys t]
    rfl
theorem TupM.key (h : TupM K M (.ref b) (.tuple (ks.map keyD))) (e : Same M H) : H b = some (.tup (ks.map kV)) := by
  obtain ⟨b', xs, es, e1, e2, h3, h4⟩ := h
  cases e1
  cases e2
  rw [dpAll_keys h4] at h3
  exact e _ _ h3
abbrev PT (K : PySem.W.Frag) (M : Hp) : List Key × V → List Key × PyData → Prop := fun p q => p.1 = q.1 ∧ Dp K M p.2 q.2
theorem ptk_val : ∀ {ws : List (List Key × V)} {kvs : List (List Key × PyData)}, Paired (PT K M) ws kvs → ∀ k : List Key, (valV ws k = none ∧ valG kvs k = none) ∨ ∃ v d, valV ws k = some v ∧ valG kvs k = some d ∧ Dp K M v d
  | _, _, .nil, k => .inl ⟨rfl, rfl⟩
  | a :: _, b :: _, .cons h t, k => by
    obtain ⟨e, hd⟩ := h
    by_cases q : b.1 = k
    · exact .inr ⟨a.2, b.2, valV_pos (e.trans q), by rw [valG_cons, if_pos q], hd⟩
    · rw [valV_neg (fun z => q (e.symm.trans z)), valG_cons, if_neg q]
      exact ptk_val t k
theorem ptk_map (hd : Dp K M v d) : ∀ {ws : List (List Key × V)} {kvs : List (List Key × PyData)}, Paired (PT K M) ws kvs → Paired (PT K M) (ws.map (fun kv => if kv.1 = ks then (kv.1, v) else kv)) (kvs.map (fun kv => if kv.1 = ks then (kv.1, d) else kv))
  | _, _, .nil => .nil
  | a :: _, b :: _, .cons h t => by
    refine .cons ?_ (ptk_map hd t)
    obtain ⟨e, hd2⟩ := h
    show PT K M (if a.1 = ks then (a.1, v) else a) (if b.1 = ks then (b.1, d) else b)
    by_cases q : b.1 = ks
    · rw [if_pos q, if_pos (e.trans q)]
      exact ⟨e, hd⟩
    · rw [if_neg q, if_neg fun z => q (e.symm.trans z)]
      exact ⟨e, hd2⟩
theorem ptk_len (h : Paired (PT K M) ws kvs) : ws.length = kvs.length := by
  induction h with
  | nil => rfl
  | cons _ _ ih => exact congrArg Nat.succ ih
theorem ptk_put (h : Paired (PT K M) ws kvs) (hd : Dp K M v d) : Paired (PT K M) (putK ws ks v) (putG kvs ks d) := by
  have he : (ws.any fun kv => decide (kv.1 = ks)) = kvs.any fun kv => decide (kv.1 = ks) := by
    rw [valV_any, valG_any]
    rcases ptk_val h ks with ⟨a, b⟩ | ⟨_, _, a, b, _⟩
    · rw [a, b]
      rfl
    · rw [a, b]
      rfl
  unfold putK putG
  rw [he]
  split
  · exact ptk_map hd h
  · exact h.snoc ⟨rfl, hd⟩
theorem x_dnewT (q : ∀ p H', Ds K C B σ H' M ρ ((p, .dt []) :: w) tp → Q (.ref p) H') (S : Ds K C B σ H M ρ w tp) : tDNewT σ H Q := fun p hp => q p _ (S.newO hp ⟨[], upd_same, .nil⟩)
theorem x_dtg (j : Nat) (S : Ds K C B σ H M ρ w tp) (hj : w[j]? = some (p, .dt kvs)) (hb : TupM K M (.ref b) (.tuple (ks.map keyD))) (hv : valG kvs ks = some d) (q : Giv K M H Q d) : DgK Q (.ref p) (.ref b) H := by
  obtain ⟨_, ws, h1, h2⟩ := S.own _ (List.mem_of_getElem? hj)
  rcases ptk_val h2 ks with ⟨_, b⟩ | ⟨v, d', a, b, c⟩
  · rw [b] at hv
    cases hv
  · rw [b] at hv
    cases hv
    exact ⟨p, v, rfl, a ▸ DGet.t h1 (hb.key S.sub), q v c⟩
theorem x_dtn (j : Nat) (S : Ds K C B σ H M ρ w tp) (hj : w[j]? = some (p, .dt kvs)) (hb : TupM K M (.ref b) (.tuple (ks.map keyD))) (q : Q (.bl (!(valG kvs ks).isSome)) H) : DnK Q (.ref p) (.ref b) H := by
  obtain ⟨_, ws, h1, h2⟩ := S.own _ (List.mem_of_getElem? hj)
  have e : (valV ws ks).isSome = (valG kvs ks).isSome := by
    rcases ptk_val h2 ks with ⟨a, b⟩ | ⟨v, d', a, b, c⟩
    · rw [a, b]
      rfl
    · rw [a, b]
      rfl
  exact ⟨p, _, rfl, DGet.t h1 (hb.key S.sub), by rw [e]; exact q⟩
theorem x_dts (j : Nat) (S : Ds K C B σ H M ρ w tp) (hj : w[j]? = some (p, .dt kvs)) (hb : TupM K M (.ref b) (.tuple (ks.map keyD))) (ht : Tm tp v d) (hl : kvs.length < sizeLine) (hw : SetAt w j (p, .dt (putG kvs ks d)) w') (q : ∀ H', Ds K C B σ H' M ρ w' tp → D.nx σ H') : DsK D σ (.ref p) (.ref b) v H := by
  obtain ⟨_, ws, h1, h2⟩ := S.own _ (List.mem_of_getElem? hj)
  refine ⟨p, _, rfl, DPut.t h1 (hb.key S.sub) (by rw [ptk_len h2]; exact hl), q _ ?_⟩
  rw [hw.eq]
  exact S.mut (od' := .dt (putG kvs ks d)) hj ⟨_, upd_same, ptk_put h2 (ht.dp S)⟩
theorem x_diK {i : Int} {kvs : List (Key × PyData)} (j : Nat) (S : Ds K C B σ H M ρ w tp) (hj : w[j]? = some (p, .dk kvs)) (q : Q (.bl (valD kvs (.inl i)).isSome) H) : DiK Q (.ref p) (.int i) H := by
  obtain ⟨_, ws, h1, h2⟩ := S.own _ (List.mem_of_getElem? hj)
  have e : (valV ws (.inl i)).isSome = (valD kvs (.inl i)).isSome := by
    rcases pk_val h2 (.inl i) with ⟨a, b⟩ | ⟨v, d', a, b, c⟩
    · rw [a, b]
      rfl
    · rw [a, b]
      rfl
  exact ⟨p, _, rfl, DGet.k (k := .inl i) h1, by rw [e]; exact q⟩
theorem x_ifSn {A B : Prop} (h : B) : if (!(some d).isSome) = true then A else B := by rw [if_neg (show ¬ (!(some d).isSome) = true from fun z => nomatch z)]; exact h
theorem x_ifSs {A B : Prop} (h : A) : if (some d).isSome = true then A else B := by rw [if_pos (show (some d).isSome = true from rfl)]; exact h
/-! a dict that is written down -/
def DspK (p : Addr) (Q : VK) (ps : List (V × V)) (H2 : Hp) : Prop := H2 p = some (.dK []) ∧ ∃ kvs : List (Key × V), ps = kvs.map (fun kv => (kV kv.1, kv.2)) ∧ kvs.length ≤ 15 ∧ Q (.ref p) (upd H2 p (.dK (mergeK [] kvs)))
theorem x_disp {trs : List (TE × TE)} (S : Ds K C B σ H M ρ w tp) (q : ∀ p H', Ds K C B σ H' M ρ ((p, .dk []) :: w) tp → tPairs trs σ H' (DspK p Q)) : tDisp trs σ H Q := fun p hp => q p _ (S.newO hp ⟨[], upd_same, .nil⟩)
theorem x_prC {trs : List (TE × TE)} {q : List (V × V) → Hp → Prop} (h : td σ H fun x H1 => tv σ H1 fun y H2 => tPairs trs σ H2 fun ps H3 => q ((x, y) :: ps) H3) : tPairs ((td, tv) :: trs) σ H q := h
theorem x_prN {q : List (V × V) → Hp → Prop} (h : q [] H) : tPairs [] σ H q := h
theorem x_dsp2 {i1 i2 : Int} {v1 v2 : V} {d1 d2 : PyData} (S : Ds K C B σ H M ρ ((p, .dk []) :: w) tp) (h1 : Tm tp v1 d1) (h2 : Tm tp v2 d2) (q : ∀ H', Ds K C B σ H' M ρ ((p, .dk (putD (putD [] (.inl i1) d1) (.inl i2) d2)) :: w) tp → Q (.ref p) H') : DspK p Q [(.int i1, v1), (.int i2, v2)] H := by
  obtain ⟨_, ws, a, b⟩ := S.own _ (List.mem_cons_self ..)
  cases b
  refine ⟨a, [(.inl i1, v1), (.inl i2, v2)], rfl, by show 2 ≤ 15; decide, q _ ?_⟩
  exact S.mut (j := 0) (od' := .dk (putD (putD [] (.inl i1) d1) (.inl i2) d2)) rfl ⟨_, upd_same, pk_put (pk_put .nil (h1.dp S)) (h2.dp S)⟩
/-! min of an own list of ints -/
theorem x_minO {ns : List Int} (j : Nat) (S : Ds K C B σ H M ρ w tp) (hj : w[j]? = some (p, .lst (ns.map .int))) (h0 : 0 < ns.length) (q : ∀ m, m ∈ ns → (∀ y ∈ ns, m ≤ y) → R (.int m) H) : rMin K [.ref p] H R := by
  obtain ⟨_, us, h1, h2⟩ := S.own _ (List.mem_of_getElem? hj)
  rw [dpAll_ints h2] at h1
  exact ⟨p, ns, rfl, .of h1, h0, q⟩
/-! fields and methods -/
def FldK (K : PySem.W.Frag) (f : Str) (R : VK) (x : V) (H : Hp) : Prop := ∃ a C dx fs v, x = .ref a ∧ H a = some (.ins C dx fs) ∧ Cls K C ∧ NoAttr K C f ∧ fs.lookup f = some v ∧ R v H
theorem x_fld {f : Str} (h : te σ H fun x H1 => FldK K f R x H1) : tFld K te f σ H R := h
theorem x_fldK {f : Str} {A dx : Addr} {fs : List (Str × V)} (j : Nat) (S : Ds K C B σ H M ρ w tp) (hj : w[j]? = some (p, .ho (.ins A dx fs))) (c : Cls K A) (n : NoAttr K A f) (l : fs.lookup f = some v) (q : R v H) : FldK K f R (.ref p) H :=
  ⟨p, A, dx, fs, v, rfl, (S.own _ (List.mem_of_getElem? hj)).2, c, n, l, q⟩
def SFldK (K : PySem.W.Frag) (f : Str) (D : Ends) (σ : L2.St) (y x : V) (H2 : Hp) : Prop := ∃ a C dx fs, x = .ref a ∧ H2 a = some (.ins C dx fs) ∧ Cls K C ∧ NoAttr K C f ∧ fs.length < 1000 ∧ D.nx σ (upd H2 a (.ins C dx (putF f y fs)))
theorem x_sfld {f : Str} (h : tv σ H fun y H1 => te σ H1 fun x H2 => SFldK K f D σ y x H2) : sFld K te tv f D σ H := h
theorem x_sfldK {f : Str} {A dx : Addr} {fs : List (Str × V)} (j : Nat) (S : Ds K C B σ H M ρ w tp) (hj : w[j]? = some (p, .ho (.ins A dx fs))) (c : Cls K A) (n : NoAttr K A f) (l : fs.length < 1000) (hw : SetAt w j (p, .ho (.ins A dx (putF f y fs))) w') (q : ∀ H', Ds K C B σ H' M ρ w' tp → D.nx σ H') : SFldK K f D σ y (.ref p) H :=
  ⟨p, A, dx, fs, rfl, (S.own _ (List.mem_of_getElem? hj)).2, c, n, l, q _ (hw.eq ▸ S.mut hj upd_same)⟩
theorem x_meth {sp : Sp} {A dx : Addr} {m : Str} {fs : List (Str × V)} (j : Nat) (S : Ds K C B σ H M ρ w tp) (h : ρ[i]? = some (.v (.ref p))) (hj : w[j]? = some (p, .ho (.ins A dx fs))) (l : fs.lookup m = none) (q : tl σ H fun us H2 => sp (.ref p :: us) H2 Q E) : tMeth A m sp [] E (tVar i) tl σ H Q := by
  obtain ⟨v, h1, h2⟩ := S.get h (fun z => nomatch z)
  cases (show v = .ref p from h2)
  refine ⟨_, h1, p, dx, fs, rfl, (S.own _ (List.mem_of_getElem? hj)).2, l, ?_⟩
  simp only [List.append_nil]
  exact q
end
/-! calls that may change several own things -/
/-- data, by what became of the own things -/
abbrev pW (P : PyData → Own → Prop) : Rs → Own → Prop := fun r u => ∃ d, P d u ∧ r = .s (.d d)
section
variable {K : PySem.W.Frag} {C : Fx} {B : Hp} {σ : L2.St} {H M H' M' H0 M0 : Hp} {ρ : List Sl} {w u u' : Own} {tp : List (V × PyData)} {Q : VK} {E : XK} {v : V} {d : PyData} {P : PyData → Own → Prop} {pre : Pre} {vs : List V} {ss : List Sl} {O : List Addr}
theorem x_callW {post : Rs → Own → Prop} (w1 u w2 : Own) (S : Ds K C B σ H M ρ w tp) (hw : w = w1 ++ (u ++ w2)) (hv : SlVs K M vs ss) (hp : pre ss u post)
    (q : ∀ r u', post r u' → u'.map (·.1) = u.map (·.1) → ∀ v H' M', Res K C B σ H' M' ρ (w1 ++ (u' ++ w2)) tp v r → Q v H') : spG K pre vs H Q E := by
  subst hw
  have hu : ∀ p ∈ u, p ∈ w1 ++ (u ++ w2) := fun p h => List.mem_append.mpr (.inr (List.mem_append.mpr (.inl h)))
  have hn := S.nd
  rw [List.map_append, List.map_append] at hn
  have hn2 := (List.nodup_append.mp hn).2.1
  refine ⟨M, ss, u, post, S.sub, hv, fun p h => S.own p (hu p h), (List.nodup_append.mp hn2).1, hp, fun r u' v H' hr hf => ?_⟩
  obtain ⟨M', F, hw, ok, ho⟩ := hf.ex
  have F : Fr (u.map (·.1)) H M H' M' := F
  have hw : u'.map (·.1) = u.map (·.1) := hw
  have apart : ∀ p ∈ w1 ++ (u' ++ w2), OdOk K M' H' p.1 p.2 := fun p h => by
    rcases List.mem_append.mp h with h | h
    · refine (S.own p (List.mem_append.mpr (.inl h))).2.keep F.sm fun o e => F.fr _ o (fun z => ?_) e
      exact (List.nodup_append.mp hn).2.2 p.1 (List.mem_map_of_mem h) p.1 (List.mem_append.mpr (.inl z)) rfl
    · rcases List.mem_append.mp h with h | h
      · exact ok p h
      · refine (S.own p (List.mem_append.mpr (.inr (List.mem_append.mpr (.inr h))))).2.keep F.sm fun o e => F.fr _ o (fun z => ?_) e
        exact (List.nodup_append.mp hn2).2.2 p.1 z p.1 (List.mem_map_of_mem h) rfl
  have em : (w1 ++ (u' ++ w2)).map (·.1) = (w1 ++ (u ++ w2)).map (·.1) := by simp only [List.map_append, hw]
  refine q r u' hr hw v H' M' (Res.of (S.step F (fun b h => ?_) em apart) S.new_none (fun z hz => ?_) ho)
  · obtain ⟨p, h1, rfl⟩ := List.mem_map.mp h
    exact List.mem_map_of_mem (hu p h1)
  · have h1 : z.1 ∈ (w1 ++ (u ++ w2)).map (·.1) := em ▸ List.mem_map_of_mem hz
    obtain ⟨y, hy, e⟩ := List.mem_map.mp h1
    rw [← e]
    exact (S.own y hy).2.there
theorem x_cW (w1 u w2 : Own) (S : Ds K C B σ H M ρ w tp) (hw : w = w1 ++ (u ++ w2)) (hs : SlT K M tp vs ss) (hp : pre ss u (pW P)) (q : ∀ d u', P d u' → ∀ H' M', Ds K C B σ H' M' ρ (w1 ++ (u' ++ w2)) tp → Giv K M' H' Q d) : spG K pre vs H Q E :=
  x_callW w1 u w2 S hw (hs.dp S) hp fun r u' hr hm v H' M' R => by
    obtain ⟨d, hd, rfl⟩ := hr
    have R : Ds K C B σ H' M' ρ (w1 ++ (u' ++ w2)) ((v, d) :: tp) := R
    exact q d u' hd H' M' R.rest v (R.tm _ (List.mem_cons_self ..))
theorem x_rW (S : Ds K ⟨H0, M0, O⟩ B σ H M ρ w tp) (hq : ∀ r w' v H', pW P r w' → Fin K ⟨H0, M0, O⟩ r w' v H' → Q v H') (ht : Tm tp v d) (u' : Own) (hu : u'.map (·.1) = O) (hs : ∀ p ∈ u', p ∈ w) (hp : P d u') : Q v H :=
  hq _ u' v H ⟨d, hp, rfl⟩ (S.fin hu hs (ht.dp S))
/-! promises that hand out new own things -/
structure FinX (K : PySem.W.Frag) (C : Fx) (u' ex : Own) (v : V) (H' : Hp) : Prop where
  ex : ∃ M', Fr C.O C.H C.M H' M' ∧ u'.map (·.1) = C.O ∧ (∀ p ∈ u', OdOk K M' H' p.1 p.2) ∧ (∀ p ∈ ex, C.H p.1 = none ∧ M' p.1 = none ∧ OdOk K M' H' p.1 p.2) ∧ (ex.map (·.1)).Nodup ∧ v = .non
def spX (K : PySem.W.Frag) (pre : List Sl → Own → (Own → Own → Prop) → Prop) : Sp := fun vs H Q _ => ∃ (M : Hp) (ss : List Sl) (w : Own) (post : Own → Own → Prop), Same M H ∧ SlVs K M vs ss ∧ (∀ p ∈ w, M p.1 = none ∧ OdOk K M H p.1 p.2) ∧ (w.map (·.1)).Nodup ∧ pre ss w post ∧
  ∀ u' ex v H', post u' ex → FinX K ⟨H, M, w.map (·.1)⟩ u' ex v H' → Q v H'
theorem x_retX {C : Fx} {post : Own → Own → Prop} (S : Ds K C B σ H M ρ w tp) (hq : ∀ u' ex v H', post u' ex → FinX K C u' ex v H' → Q v H') (u' ex : Own) (hw : (u' ++ ex).Perm w) (hu : u'.map (·.1) = C.O) (hp : post u' ex) : Q .non H := by
  have S2 := S.perm hw
  have hn := S2.nd
  rw [List.map_append] at hn
  refine hq u' ex _ H hp ⟨M, S2.F, hu, fun p h => (S2.own p (List.mem_append.mpr (.inl h))).2, fun p h => ?_, (List.nodup_append.mp hn).2.1, rfl⟩
  have h1 := S2.own p (List.mem_append.mpr (.inr h))
  refine ⟨(S2.ow p (List.mem_append.mpr (.inr h))).resolve_left fun z => ?_, h1.1, h1.2⟩
  rw [← hu] at z
  exact (List.nodup_append.mp hn).2.2 p.1 z p.1 (List.mem_map_of_mem h) rfl
/-- a new instance, its __init__ run -/
theorem x_make {A : Addr} {pre : List Sl → Own → (Own → Own → Prop) → Prop} {post : Addr → Addr → Own → Own → Prop} (S : Ds K C B σ H M ρ w tp) (hp : ∀ x dx, pre [.v (.ref x)] [(x, .ho (.ins A dx []))] (post x dx))
    (q : ∀ x dx u' ex H' M', post x dx u' ex → Ds K C B σ H' M' ρ (ex ++ (u' ++ w)) tp → Q (.ref x) H') : tMake A (spX K pre) [] E tNil σ H Q := by
  intro x dx hx hdx hne
  have S1 := S.newO (od := .ho (.own x)) (o := .own x) hdx upd_same
  have hx1 : upd H dx (.own x) x = none := by rw [upd_ne (fun e => hne e.symm)]; exact hx
  have S2 := (S1.newO (od := .ho (.ins A dx [])) (o := .ins A dx []) hx1 upd_same).subw (w' := (x, .ho (.ins A dx [])) :: w) (.cons_cons _ (.cons _ (.refl _)))
  generalize upd (upd H dx (.own x)) x (.ins A dx []) = H1 at S2
  refine ⟨M, [.v (.ref x)], [(x, .ho (.ins A dx []))], post x dx, S2.sub, .cons rfl .nil, fun p h => List.mem_singleton.mp h ▸ S2.own _ (List.mem_cons_self ..), List.nodup_cons.mpr ⟨(fun z => nomatch z), List.nodup_nil⟩, hp x dx, fun u' ex v H' hpost hf => ?_⟩
  obtain ⟨M', F, hw, ok, oke, nde, rfl⟩ := hf.ex
  refine ⟨rfl, q x dx u' ex H' M' hpost ?_⟩
  have F : Fr [x] H1 M H' M' := F
  have hw : u'.map (·.1) = [x] := hw
  have S3 : Ds K C B σ H' M' ρ (u' ++ w) tp := by
    refine S2.step F (fun b h => by rw [List.mem_singleton.mp h]; exact List.mem_cons_self ..) (by rw [List.map_append, hw]; rfl) fun p h => ?_
    rcases List.mem_append.mp h with h | h
    · exact ok p h
    · refine (S2.own p (List.mem_cons_of_mem _ h)).2.keep F.sm fun o e => F.fr _ o (fun z => ?_) e
      have := S2.nd
      rw [List.map_cons, List.nodup_cons] at this
      refine this.1 ?_
      show x ∈ w.map (·.1)
      rw [← List.mem_singleton.mp z]
      exact List.mem_map_of_mem (f := Prod.fst) h
  refine { S3 with own := fun p h => ?_, nd := ?_, ow := fun p h => ?_ }
  · rcases List.mem_append.mp h with h | h
    · exact (oke p h).2
    · exact S3.own p h
  · rw [List.map_append]
    refine List.nodup_append.mpr ⟨nde, S3.nd, fun a ha b hb e => ?_⟩
    subst e
    obtain ⟨p, h1, rfl⟩ := List.mem_map.mp ha
    obtain ⟨p2, h2, e2⟩ := List.mem_map.mp hb
    have h3 : H1 p.1 = none := (oke p h1).1
    have h4 : p2.1 ∈ ((x, Od.ho (.ins A dx [])) :: w).map (·.1) := by
      have : p2.1 ∈ (u' ++ w).map (·.1) := List.mem_map_of_mem h2
      rw [List.map_append, hw] at this
      exact this
    obtain ⟨p3, h5, e3⟩ := List.mem_map.mp h4
    exact (S2.own p3 h5).2.there (by rw [e3, e2]; exact h3)
  · rcases List.mem_append.mp h with h | h
    · exact .inr (S2.new_none _ (oke p h).1)
    · exact S3.ow p h
end
section
variable {P : Program} {w : World} {K : PySem.W.Frag} {mg : Str → Option Value} {base : Heap}
/-- a method that keeps a promise -/
structure Mt (P : Program) (w : World) (K : PySem.W.Frag) (mg : Str → Option Value) (base : Heap) (k : Nat) (C : Addr) (m : Str) (f : Addr) (fd : FuncData) (ps : List Str) (sp : Sp) : Prop where
  F : FnOk P w K mg base CX0 k f fd ps sp
  M : Meth K C m f
  b : Binds K fd ps []
/-- a class that is made by an __init__ that keeps a promise -/
structure MkC (P : Program) (w : World) (K : PySem.W.Frag) (mg : Str → Option Value) (base : Heap) (k : Nat) (C : Addr) (f : Addr) (fd : FuncData) (ps : List Str) (sp : Sp) : Prop where
  F : FnOk P w K mg base CX0 k f fd ps sp
  M : Mk K C f
  b : Binds K fd ps []
theorem Fun.go {x qual : Str} {st : Stmt} {f : Addr} {fd : FuncData} {ps N : List Str} {k : Nat} (F : Fun K x qual st f fd) (S : FnScope N ps (defScope st)) (pre : Pre) (len : ∀ ss u post, pre ss u post → ss.length = ps.length)
    (hbody : ∀ (cdv : Value) (A : Around) (outer : List Env) (s : Shared) (H M : Hp) (vs : List V) (Q : VK) (E : XK) (ss : List Sl) (u : Own) (post : Rs → Own → Prop), Room k (A.deeper (envOfC qual (defScope st) s.heap.objs.size f cdv)) → pre ss u post →
      Ds K ⟨H, M, u.map (·.1)⟩ M (L2.start N vs) H M (ss ++ List.replicate (N.length - ss.length) .u) u [] → (∀ r u' v H', post r u' → Fin K ⟨H, M, u.map (·.1)⟩ r u' v H' → Q v H') →
      ∃ t, PSs (cxOf CX0 P w K mg base N qual (defScope st) f cdv A outer s H E).nox (defBody st) t ∧ t { nx := fun _ H' => Q .non H', rt := Q } (L2.start N vs) H) : FnOk P w K mg base CX0 (k + 1) f fd ps (spG K pre) := by
  refine F.ok S (fun vs H Q E h => ?_) (fun cdv A outer s H vs Q E hr h => ?_)
  · obtain ⟨M, ss, u, post, _, h2, _, _, h5, _⟩ := h
    exact h2.length.trans (len _ _ _ h5)
  · obtain ⟨M, ss, u, post, h1, h2, h3, h4, h5, q⟩ := h
    exact hbody cdv A outer s H M vs Q E ss u post hr h5 (Ds.init h1 h2 h3 h4) q
theorem Fun.vain {x qual : Str} {st : Stmt} {f : Addr} {fd : FuncData} {ps N : List Str} {k : Nat} (F : Fun K x qual st f fd) (S : FnScope N ps (defScope st)) (pre : Pre) (h : ∀ ss u post, ¬ pre ss u post) : FnOk P w K mg base CX0 (k + 1) f fd ps (spG K pre) :=
  Fun.go F S pre (fun ss u post z => (h _ _ _ z).elim) fun cdv A outer s H M vs Q E ss u post hr z _ _ => (h _ _ _ z).elim
theorem Fun.goX {x qual : Str} {st : Stmt} {f : Addr} {fd : FuncData} {ps N : List Str} {k : Nat} (F : Fun K x qual st f fd) (S : FnScope N ps (defScope st)) (pre : List Sl → Own → (Own → Own → Prop) → Prop) (len : ∀ ss u post, pre ss u post → ss.length = ps.length)
    (hbody : ∀ (cdv : Value) (A : Around) (outer : List Env) (s : Shared) (H M : Hp) (vs : List V) (Q : VK) (E : XK) (ss : List Sl) (u : Own) (post : Own → Own → Prop), Room k (A.deeper (envOfC qual (defScope st) s.heap.objs.size f cdv)) → pre ss u post →
      Ds K ⟨H, M, u.map (·.1)⟩ M (L2.start N vs) H M (ss ++ List.replicate (N.length - ss.length) .u) u [] → (∀ u' ex v H', post u' ex → FinX K ⟨H, M, u.map (·.1)⟩ u' ex v H' → Q v H') →
      ∃ t, PSs (cxOf CX0 P w K mg base N qual (defScope st) f cdv A outer s H E).nox (defBody st) t ∧ t { nx := fun _ H' => Q .non H', rt := Q } (L2.start N vs) H) : FnOk P w K mg base CX0 (k + 1) f fd ps (spX K pre) := by
  refine F.ok S (fun vs H Q E h => ?_) (fun cdv A outer s H vs Q E hr h => ?_)
  · obtain ⟨M, ss, u, post, _, h2, _, _, h5, _⟩ := h
    exact h2.length.trans (len _ _ _ h5)
  · obtain ⟨M, ss, u, post, h1, h2, h3, h4, h5, q⟩ := h
    exact hbody cdv A outer s H M vs Q E ss u post hr h5 (Ds.init h1 h2 h3 h4) q
end
/-! xs.append(e), xs anything -/
def AppG (K : PySem.W.Frag) (te : TE) (σ : L2.St) (Q : VK) (x : V) (H1 : Hp) : Prop := tyV K "list" x H1 ∧ te σ H1 fun y H2 => AppK K Q x y H2
section
variable {K : PySem.W.Frag} {C : Fx} {B : Hp} {σ : L2.St} {H M : Hp} {ρ : List Sl} {w : Own} {tp : List (V × PyData)} {Q : VK} {te ta : TE} {p : Addr} {ds : List PyData} {v : V}
theorem x_appG (h : ta σ H fun x H1 => AppG K te σ Q x H1) : tBM K "list" rAppend ta (tCons te tNil) σ H Q := h
theorem h_appG (h : AppG K te σ Q v H) : AppG K te σ Q v H := h
theorem x_appGK (j : Nat) (S : Ds K C B σ H M ρ w tp) (hj : w[j]? = some (p, .lst ds)) (q : te σ H fun y H2 => AppK K Q (.ref p) y H2) : AppG K te σ Q (.ref p) H := by
  obtain ⟨_, us, h1, _⟩ := S.own _ (List.mem_of_getElem? hj)
  exact ⟨.inl ⟨rfl, us, .of h1⟩, q⟩
end
section
variable {X : Cx} {K : PySem.W.Frag} {st : Stmt}
theorem kSF {ta tv : TE} {f : Str} (p : PS X st (sFld X.K ta tv f)) (h : X.K = K := by rfl) : PS X st (sFld K ta tv f) := h ▸ p
theorem kMin (hc : X.calm = true) (h : X.K = K := by rfl) : CallR X (.builtin "min") (rMin K) := h ▸ cr_min hc
theorem kMax (hc : X.calm = true) (h : X.K = K := by rfl) : CallR X (.builtin "max") (rMax K) := h ▸ cr_max hc
end
section
variable {P : Program} {w : World} {K : PySem.W.Frag} {mg : Str → Option Value} {base : Heap}
theorem Mt.fr {k : Nat} {C f : Addr} {m : Str} {fd : FuncData} {ps : List Str} {sp : Sp} (t : Mt P w K mg base k C m f fd ps sp) : FnR P w K mg base CX0 k f sp :=
  (t.F.raw t.b .nil).imp fun vs H Q E h => by rw [List.append_nil]; exact h
end
/-! o.m(*y) -/
section
variable {X : Cx} {o e2 : Expr} {m : Str} {p apos pos : Pos} {A g : Addr} {sp : Sp} {ta t2 : TE}
def tMethS (A : Addr) (m : Str) (K : PySem.W.Frag) (g : Addr) (sp : Sp) (E : XK) (ta t2 : TE) : TE := fun σ H Q => ta σ H fun x H1 => ∃ a dx fs, x = .ref a ∧ H1 a = some (.ins A dx fs) ∧ fs.lookup m = none ∧
  ∀ q, H1 q = none → t2 σ (upd H1 q (.met g a)) fun y2 H2 => ∃ b vs, y2 = .ref b ∧ (SqT K H2 b vs ∨ SqL K H2 b vs) ∧ H2 q = some (.met g a) ∧ sp (.ref a :: vs) H2 Q E
theorem pe_methS {CX : CXT} {k : Nat} {K : PySem.W.Frag} {E : XK} (he : PE X o ta) (c : Cls X.K A) (b : BMeth X.K A m g) (F : FnR X.prog X.w X.K X.mg X.base CX k g sp) (hr : Room k X.A) (hx : Passes CX X E) (h2 : PE X e2 t2) (hK : X.K = K := by rfl) (hbase : attributeBase o m X.env (eval o X.env) = eval o X.env := by rfl)
    (hst : starEach [.Starred e2 p] X.env = [(true, eval e2 X.env)] := by rfl) : PE X (.Call (.Attribute o m apos) [.Starred e2 p] [] pos) (tMethS A m K g sp E ta t2) := by
  subst hK
  refine ⟨fun pins s σ H Q I h => ?_⟩
  have hke : backToKw pos (keywordEach [] X.env) = [] := rfl
  have hform : methodCallForm ([Expr.Starred e2 p].length + ([] : List Keyword).length) (backTo pos [(true, eval e2 X.env)]) [] = false := rfl
  have hcal : ∀ ov, calleeOf false o X.env ov m = (getAttr ov m true >>= fun v => pure (v, [])) := fun _ => rfl
  rw [arm_eval_Call, hbase, hst, hke]
  refine wpAny_bind (thn (he.run pins s σ H _ I h) fun u s1 ⟨x, H1, I1, rx, a, dx, fs, ex, ea, l, q⟩ => ?_)
  subst ex
  obtain rfl : u = Value.ref a := rx
  refine wpAny_bind (wpAny_standAt ?_)
  unfold methodCall
  rw [hform, show methodCallPos false o X.env apos pos = pure pos from rfl, hcal]
  refine wpAny_bind (wpAny_holding (wpAny_bind (getbound_ok I1 ea c b l fun q1 s2 hq1 I2 => wpAny_pure ?_)))
  refine wpAny_bind (wpAny_pure ?_)
  refine PySem.W.ks_call (P := PySem.W.MethP X.K q1 g (.ref a)) rfl (PySem.W.keeps_M b.fi) (PySem.W.ks_lone (thn (h2.run pins s2 σ _ _ I2 (q q1 hq1)) fun v2 s4 ⟨y2, H3, I4, ry2, t, vs, ey, ht, hm, hsp⟩ => ?_))
  subst ey
  obtain rfl : v2 = Value.ref t := ry2
  refine StX.star_any I4 ht fun us s5 I5 rv => ?_
  exact ⟨met_P I5 hm, wpAny_call (PySem.W.method_call (met_P I5 hm).1 (run_fnR (us := Value.ref a :: us) (vs := V.ref a :: vs) F hr hx I5 (.cons rfl rv) hsp))⟩
end
section
variable {K : PySem.W.Frag} {C : Fx} {B : Hp} {σ : L2.St} {H M : Hp} {ρ : List Sl} {w : Own} {tp : List (V × PyData)} {Q : VK} {E : XK} {t2 : TE} {i : Nat} {p A g dx : Addr} {m : Str} {sp : Sp} {fs : List (Str × V)} {ds : List PyData}
def StarK (K : PySem.W.Frag) (g a q : Addr) (sp : Sp) (E : XK) (Q : VK) (y2 : V) (H2 : Hp) : Prop := ∃ b vs, y2 = .ref b ∧ (SqT K H2 b vs ∨ SqL K H2 b vs) ∧ H2 q = some (.met g a) ∧ sp (.ref a :: vs) H2 Q E
theorem x_methS (j : Nat) (S : Ds K C B σ H M ρ w tp) (h : ρ[i]? = some (.v (.ref p))) (hj : w[j]? = some (p, .ho (.ins A dx fs))) (l : fs.lookup m = none) (q : ∀ q H', Ds K C B σ H' M ρ ((q, .ho (.met g p)) :: w) tp → t2 σ H' (StarK K g p q sp E Q)) : tMethS A m K g sp E (tVar i) t2 σ H Q := by
  obtain ⟨v, h1, h2⟩ := S.get h (fun z => nomatch z)
  cases (show v = .ref p from h2)
  exact ⟨_, h1, p, dx, fs, rfl, (S.own _ (List.mem_of_getElem? hj)).2, l, fun q' hq => q q' _ (S.newO (od := .ho (.met g p)) hq upd_same)⟩
/-- the list that is handed on, an own one of three ints -/
theorem x_star3 {q b : Addr} {a1 a2 a3 : Int} (j : Nat) (S : Ds K C B σ H M ρ ((q, .ho (.met g p)) :: w) tp) (hj : w[j]? = some (b, .lst [.int a1, .int a2, .int a3])) (h : sp [.ref p, .int a1, .int a2, .int a3] H Q E) : StarK K g p q sp E Q (.ref b) H := by
  obtain ⟨_, us, h1, h2⟩ := S.own _ (List.mem_cons_of_mem _ (List.mem_of_getElem? hj))
  rw [dpAll_ints (ns := [a1, a2, a3]) h2] at h1
  exact ⟨b, _, rfl, .inr (.of h1), (S.own _ (List.mem_cons_self ..)).2, h⟩
end
end Pf

namespace Pf
open PySem PySem.Spec PyProof.Rows L2
/-! lists of tuples that were made while the program ran; dicts that a comprehension makes of them -/
section
variable {K : PySem.W.Frag} {C : Fx} {B : Hp} {σ : L2.St} {H M H' M' : Hp} {ρ ρ' ρ2 : List Sl} {w w' w1 : Own} {tp : List (V × PyData)} {Q R : VK} {te tk tv : TE} {tt : TT} {g : TG} {v y x : V} {ds acc : List PyData} {e d : PyData} {p a b Z : Addr} {vs : List Nat} {i : Nat} {D : Addr} {kvs : List (List Key × PyData)} {ks : List Key}
theorem tups_dp (h : Paired (TupM K M) (us : List V) ds) : DpAll K M us ds := paired_dp (L2.Paired.mapP h fun _ _ z => z.dp)
/-- such a list is a list -/
theorem Ds.ofLt (j : Nat) (S : Ds K C B σ H M ρ w tp) (hj : w[j]? = some (a, .lt ds)) (hw : SetAt w j (a, .lst ds) w') : Ds K C B σ H M ρ w' tp := by
  have e := hw.eq
  subst e
  refine S.step (O := []) (Fr.refl [] S.sub) (fun _ h => nomatch h) ?_ fun q hq => ?_
  · rw [List.map_set]
    exact set_self (by rw [List.getElem?_map, hj]; rfl)
  · rcases List.mem_or_eq_of_mem_set hq with hq | rfl
    · exact (S.own q hq).2
    · obtain ⟨us, h1, h2⟩ := (S.own _ (List.mem_of_getElem? hj)).2
      exact ⟨us, h1, tups_dp h2⟩
/-- what a turn of a comprehension reaches -/
def LcNt (K : PySem.W.Frag) (C : Fx) (B : Hp) (I : Nat → List PyData → Own → Prop) (σ : L2.St) (ρ : List Sl) (D : Addr) (i : Nat) : Hp → Prop := fun H => ∃ M acc w, I i acc w ∧ Ds K C B σ H M ρ ((D, .lt acc) :: w) []
abbrev LcStepT (K : PySem.W.Frag) (C : Fx) (B : Hp) (I : Nat → List PyData → Own → Prop) (σ : L2.St) (ρ : List Sl) (g : TG) (tt : TT) (te : TE) (vs : List Nat) (D : Addr) (i : Nat) (u : V) (H : Hp) : Prop :=
  g u (wipe σ vs) H fun σ2 H2 => wipe σ2 vs = wipe σ vs ∧ tt σ2 H2 fun b H3 => if b = true then te σ2 H3 (LcA (LcNt K C B I (wipe σ vs) (uset vs ρ) D (i + 1)) D) else LcNt K C B I (wipe σ vs) (uset vs ρ) D (i + 1) H3
theorem x_wlcTt (I : Nat → List PyData → Own → Prop) (S : Ds K C B σ H M ρ w tp) (ht : Tm tp v (.tuple ds)) (h0 : I 0 [] w)
    (hs : ∀ i d acc w1, ds[i]? = some d → I i acc w1 → ∀ D u H1 M1, Ds K C M (wipe σ vs) H1 M1 (uset vs ρ) ((D, .lt acc) :: w1) [(u, d)] → LcStepT K C M I σ ρ g tt te vs D i u H1)
    (hd : ∀ acc w1, I ds.length acc w1 → ∀ D H1 M1, Ds K C B σ H1 M1 ρ ((D, .lt acc) :: w1) tp → Q (.ref D) H1) : ForT K (LcB g tt te vs Q σ) v H := by
  obtain ⟨p, xs, rfl, h1, h2⟩ := dp_tup (ht.dp S)
  refine ⟨p, rfl, ⟨xs, Same.seqT S.sub h1⟩, fun D hD => lc_tup (xs := xs) (LcNt K C M I (wipe σ vs) (uset vs ρ) D) ?_ (fun i H1 _ q => ?_) (fun i x H1 hx q => ?_) (fun H1 q => ?_)⟩
  · exact ⟨M, [], w, h0, (S.base.clr.wiped vs).newO (od := .lt []) hD ⟨[], upd_same, .nil⟩⟩
  · obtain ⟨M1, acc, w1, _, S1⟩ := q
    exact Same.seqT (S1.bs.trans S1.sub) h1
  · obtain ⟨M1, acc, w1, q, S1⟩ := q
    have hi : i < ds.length := by rw [← dpAll_len h2]; exact (List.getElem?_eq_some_iff.mp hx).1
    have e := List.getElem?_eq_getElem hi
    exact hs i _ acc w1 e q D x H1 M1 (S1.push (Dp.same S1.bs (dpAll_at h2 i x _ hx e)))
  · obtain ⟨M1, acc, w1, q, S1⟩ := q
    exact hd acc w1 (dpAll_len h2 ▸ q) D H1 M1 (S.outof S1)
theorem x_wlcLt (I : Nat → List PyData → Own → Prop) (S : Ds K C B σ H M ρ w tp) (ht : Tm tp v (.list ds)) (h0 : I 0 [] w)
    (hs : ∀ i d acc w1, ds[i]? = some d → I i acc w1 → ∀ D u H1 M1, Ds K C M (wipe σ vs) H1 M1 (uset vs ρ) ((D, .lt acc) :: w1) [(u, d)] → LcStepT K C M I σ ρ g tt te vs D i u H1)
    (hd : ∀ acc w1, I ds.length acc w1 → ∀ D H1 M1, Ds K C B σ H1 M1 ρ ((D, .lt acc) :: w1) tp → Q (.ref D) H1) : ForL K (LcB g tt te vs Q σ) v H := by
  obtain ⟨p, xs, rfl, h1, h2⟩ := dp_lst (ht.dp S)
  refine ⟨p, rfl, ⟨xs, S.sub.seq h1⟩, fun D hD => lc_list (xs := xs) (LcNt K C M I (wipe σ vs) (uset vs ρ) D) ?_ (fun i H1 _ q => ?_) (fun i x H1 hx q => ?_) (fun H1 q => ?_)⟩
  · exact ⟨M, [], w, h0, (S.base.clr.wiped vs).newO (od := .lt []) hD ⟨[], upd_same, .nil⟩⟩
  · obtain ⟨M1, acc, w1, _, S1⟩ := q
    exact (S1.bs.trans S1.sub).seq h1
  · obtain ⟨M1, acc, w1, q, S1⟩ := q
    have hi : i < ds.length := by rw [← dpAll_len h2]; exact (List.getElem?_eq_some_iff.mp hx).1
    have e := List.getElem?_eq_getElem hi
    exact hs i _ acc w1 e q D x H1 M1 (S1.push (Dp.same S1.bs (dpAll_at h2 i x _ hx e)))
  · obtain ⟨M1, acc, w1, q, S1⟩ := q
    exact hd acc w1 (dpAll_len h2 ▸ q) D H1 M1 (S.outof S1)
theorem x_lcAt {I : Nat → List PyData → Own → Prop} {σ0 : L2.St} (S : Ds K C B σ H M ρ ((D, .lt acc) :: w) tp) (hr : Rew K C B σ ρ σ0 ρ2) (ht : TupM K M y e) (hl : acc.length < sizeLine) (hI : I (i + 1) (acc ++ [e]) w) : LcA (LcNt K C B I σ0 ρ2 D (i + 1)) D y H := by
  obtain ⟨_, us, h1, h2⟩ := S.own _ (List.mem_cons_self ..)
  exact ⟨us, h1, by rw [Paired.length h2]; exact hl, M, acc ++ [e], w, hI, hr (S.mut (j := 0) (od' := .lt (acc ++ [e])) rfl ⟨_, upd_same, h2.snoc ht⟩)⟩
theorem x_lcNt {I : Nat → List PyData → Own → Prop} {σ0 : L2.St} (S : Ds K C B σ H M ρ ((D, .lt acc) :: w) tp) (hr : Rew K C B σ ρ σ0 ρ2) (hI : I (i + 1) acc w) : LcNt K C B I σ0 ρ2 D (i + 1) H := ⟨M, acc, w, hI, hr S⟩
theorem x_sortT (j : Nat) (S : Ds K C B σ H M ρ w tp) (hj : w[j]? = some (p, .lt ds)) (h1 : PySem.W.AllAlike ds) (h2 : PySem.W.Sortable ds) (h3 : ∀ d ∈ ds, d.depth ≤ 60) (q : ∀ l H', Ds K C B σ H' M ρ ((l, .lt (srt ds)) :: w) tp → R (.ref l) H') : rSortedX K [.ref p] H R := by
  obtain ⟨_, us, c, d⟩ := S.own _ (List.mem_of_getElem? hj)
  exact ⟨TupM K M, p, us, ds, rfl, fun _ _ z => Dp.same S.sub z.dp, .of c, d, h1, h2, h3, fun ys l hl hy => q l _ (S.newO (od := .lt (srt ds)) hl ⟨ys, upd_same, hy⟩)⟩
end
theorem paired_at {α β : Type} {F : α → β → Prop} : ∀ {l : List α} {m : List β} {i : Nat} {x : α} {y : β}, Paired F l m → l[i]? = some x → m[i]? = some y → F x y
  | _, _, i, _, _, .nil, h, _ => by simp at h
  | _, _, 0, _, _, .cons h _, h1, h2 => by
    simp at h1 h2
    subst h1
    subst h2
    exact h
  | _, _, i + 1, _, _, .cons _ t, h1, h2 => paired_at t (by simpa using h1) (by simpa using h2)
theorem u0 {k : Nat} {A : Around} (r : Room k A) : A.units < cLine := by have := r.un; omega
/-! a dict by a comprehension, its keys tuples -/
def DcA (Z : Addr) (N : Hp → Prop) (y z : V) (H : Hp) : Prop := ∃ (b : Addr) (kvs : List (List Key × V)) (k : List Key), y = .ref b ∧ H b = some (.tup (k.map kV)) ∧ H Z = some (.dT kvs) ∧ kvs.length < sizeLine ∧ N (upd H Z (.dT (putK kvs k z)))
def DcB (g : TG) (tk tv : TE) (vs : List Nat) (Q : VK) (σ : L2.St) (J : It) (H1 : Hp) : Prop := ∀ Z, H1 Z = none → ∃ U : Nat → Nat → Hp → Prop, (∃ m, U 0 m (upd H1 Z (.dT []))) ∧ ∀ i m H, U i m H →
  (J.stop i H ∧ Q (.ref Z) H) ∨ (J.go i H ∧ ∃ N : Hp → Prop, (∀ H', N H' → ∃ m', m' < m ∧ U (i + 1) m' H') ∧ ∀ x H', J.yld i H x H' → g x (wipe σ vs) H' fun σ2 H2 => wipe σ2 vs = wipe σ vs ∧ tk σ2 H2 fun y H3 => tv σ2 H3 (DcA Z N y))
def tDct (wi : TI) (g : TG) (tk tv : TE) (vs : List Nat) : TE := fun σ H Q => wi σ H (DcB g tk tv vs Q σ)
section
variable {X : Cx}
theorem d_setT {pins : List (Addr × Obj)} {σ : L2.St} {H : Hp} {s : Shared} {E : Value → Shared → Prop} {Z b : Addr} {kvs : List (List Key × V)} {k : List Key} {v : V} {r : Value} {Q : Unit → Shared → Prop} (hu : X.A.units < cLine) (I : Inv X pins σ H s) (hZ : H Z = some (.dT kvs)) (l : kvs.length < sizeLine)
    (eb : H b = some (.tup (k.map kV))) (rv : RelV v r) (h : ∀ s', Inv X pins σ (upd H Z (.dT (putK kvs k v))) s' → Q () s') : wpAny (model X.prog X.w) X.A (dictSet Z (.ref b) r) Q E s := by
  obtain ⟨z, hd, xs, rel, dd⟩ := dt_of I.hok hZ
  have hz : xs.length ≤ sizeLine := by rw [← Paired.length rel]; exact z
  have hl : (putK kvs k v).length ≤ sizeLine := by have := length_putK kvs k v; omega
  refine wpAny_dictSet_heap (hsz := hz) (knd := tupleKind (mixKind X.prog X.w)) hu (key_of I.hok eb) dd fun h' dd' hs => h _ ?_
  obtain ⟨q, es, ep, hq, h2, h3, h4, _, h5⟩ := dd'
  refine d_write I (by rw [hZ]; exact True.intro) hs ⟨q, hq⟩ ⟨hl, hd, _, (rel.put k eb rv).keeps fun c ys ec => ?_, q, es, ep, hq, h2, h3, h4, h5⟩
  rw [upd_ne (ne_of ec hZ (fun z => nomatch z))]
  exact ec
theorem dct_core {pins : List (Addr × Obj)} {s : Shared} {σ : L2.St} {H : Hp} {Q : VK} {use : Option (Value → Sem Unit)} {Qf : Value → Shared → Prop} {pos' : Pos} {ke ve tg iter : Expr} {scope : Scope} {own : List (Str × Nat)} {pos : Pos} {wi : TI} {g : TG} {tk tv : TE} (calm : X.calm = true) (hu : X.A.units < cLine) (nd : X.N.Nodup) (I : Inv X pins σ H s) (pit : PI X tg iter wi) (blk : BlkOk X.N X.env.scope scope own)
    (ptg : ∀ s H C cl fp, PG (X.blk s H scope (compEnvC scope cl C X.env) fp) tg g) (pke : ∀ s H C cl fp, PE (X.blk s H scope (compEnvC scope cl C X.env) fp) ke tk) (pve : ∀ s H C cl fp, PE (X.blk s H scope (compEnvC scope cl C X.env) fp) ve tv) (fold : ∀ x, foldedSetIterable iter X.env x = pure x) (start : tDct wi g tk tv (own.map (·.2)) σ H Q)
    (ends : ∀ Z C s' m H', Inv X pins σ H' s' → Q (.ref Z) H' → s'.heap.Ns C m → FpOk X pins H' C → compPost (model X.prog X.w) X.A X.xe use Qf (.ref Z) C (.ok .next) s') :
    wpAny (model X.prog X.w) X.A (comprehension (.DictComp ke ve [⟨tg, iter, [], 0⟩] scope pos) scope X.env pos' newDict false (eval iter X.env) use) Qf X.xe s := by
  have clo : ∀ y ∈ scope.names, y.2 = .free → ∃ c, X.env.cells.lookup y.1 = some c := fun y hy e => (blk.free y hy e).elim (fun k => I.ok.has _ (.inl k)) (fun k => I.ok.has _ (.inr k))
  refine wpAny_comprehension_free (use := use) rfl fold (closure_ok clo) blk.kind (fun y hy e => by rw [blk.uniq y hy, e]) (thn (pit.run pins s σ H _ I start) fun _ _ got => thn got fun _ s2 ⟨it, fp, tn, J, H2, e, I2, T, st2, f2, body⟩ => ?_)
  subst e
  refine wpAny_newObj_type (newEnv_comp ?_)
  generalize hz : s2.heap.objs.size = Z
  have zn : H2 Z = none := I2.hok.fresh (Nat.le_of_eq hz)
  obtain ⟨U, ⟨m0, u0⟩, turns⟩ := body Z zn
  generalize h3 : ({ s2 with heap := s2.heap.push { cls := .type "dict", data := .dict #[] } } : Shared) = s3
  have hp3 : s3.heap = s2.heap.push { cls := .type "dict", data := .dict #[] } := by subst h3; rfl
  have old : ∀ b o, s2.heap.get? b = some o → s3.heap.get? b = some o := fun b o q => by rw [hp3]; exact Heap.get?_push_of_some _ q
  have I3 : Inv X pins σ (upd H2 Z (.dT [])) s3 := by
    subst h3
    subst hz
    exact I2.laid (t' := s2.toks) (fun _ _ q => Heap.get?_push_of_some _ q) (Nat.le_refl _) (dt_empty s2.heap I2.big)
  have f3 : ∀ b ∈ fp, FpOk X pins (upd H2 Z (.dT [])) b ∧ b < s3.heap.objs.size := fun b hb => by
    obtain ⟨o, q, _⟩ := T.obj _ _ st2 b hb
    have lt := Heap.lt_size q
    exact ⟨⟨(upd_ne (hz ▸ Nat.ne_of_lt lt)).trans (f2 b hb).1, (f2 b hb).2⟩, by rw [hp3, Heap.size_push]; exact Nat.lt_succ_of_lt lt⟩
  have st3 := T.keep _ _ _ st2 fun b _ => old b
  have I4 := block_start I3 blk nd f3
  have ptg := ptg s3 (upd H2 Z (.dT [])) s3.heap.objs.size (cellsFrom (s3.heap.objs.size + 1) scope.names (cloFrom X.env.cells scope.names [])) fp
  have pke := pke s3 (upd H2 Z (.dT [])) s3.heap.objs.size (cellsFrom (s3.heap.objs.size + 1) scope.names (cloFrom X.env.cells scope.names [])) fp
  have pve := pve s3 (upd H2 Z (.dT [])) s3.heap.objs.size (cellsFrom (s3.heap.objs.size + 1) scope.names (cloFrom X.env.cells scope.names [])) fp
  have z3 : ∀ b ∈ fp, (upd H2 Z (.dT [])) b = none := fun b hb => (f3 b hb).1.1
  show codeAny _ _ (.compStart _ 0 (.ref it) (.ref Z) (compEnvC scope (cellsFrom (s3.heap.objs.size + 1) scope.names (cloFrom X.env.cells scope.names [])) s3.heap.objs.size X.env)) (compPost _ X.A X.xe use _ (.ref Z) s3.heap.objs.size) { s3 with heap := pushCells (s3.heap.push { cls := .type "dict", data := .dict #[] }) scope.names }
  generalize hce : compEnvC scope (cellsFrom (s3.heap.objs.size + 1) scope.names (cloFrom X.env.cells scope.names [])) s3.heap.objs.size X.env = ce at I4 ptg pke pve ⊢
  have loc : ce.locals = s3.heap.objs.size := by subst hce; rfl
  generalize upd H2 Z (.dT []) = H3 at I3 I4 ptg pke pve u0 z3 f3
  have st4 : tn 0 (pushCells (s3.heap.push { cls := .type "dict", data := .dict #[] }) scope.names) := T.keep _ _ _ st3 fun b _ o q => pushCells_keeps _ _ _ _ (Heap.get?_push_of_some _ q)
  generalize h4 : ({ s3 with heap := pushCells (s3.heap.push { cls := .type "dict", data := .dict #[] }) scope.names } : Shared) = s4 at I4 ⊢
  have st4 : tn 0 s4.heap := by subst h4; exact st4
  have fps : ∀ {σ' : L2.St} {H' : Hp} {s' : Shared}, Inv (X.blk s3 H3 scope ce fp) [] σ' H' s' → (∀ b ∈ fp, H' b = none) → ∀ b ∈ fp, FpOk (X.blk s3 H3 scope ce fp) [] H' b := fun {_ _ _} J n b hb =>
    ⟨n b hb, (J.ok.exf b hb).1, J.ok.exfs b hb, .inl hb, fun x c q => (J.ok.exf b hb).2 x c q, fun p hp => by cases (show p ∈ ([] : List (Addr × Obj)) from hp)⟩
  have run : codeAny (model X.prog X.w) X.A (.compLoop (.DictComp ke ve [⟨tg, iter, [], 0⟩] scope pos) 0 (.ref it) (.ref Z) ce) (compPost (model X.prog X.w) X.A X.xe use Qf (.ref Z) s3.heap.objs.size) s4 := by
    refine compLoop_anyD (fun n s' => ∃ i H', Inv (X.blk s3 H3 scope ce fp) [] (wipe σ (own.map (·.2))) H' s' ∧ tn i s'.heap ∧ (∀ b ∈ fp, H' b = none) ∧ U i n H') ?_ m0 ⟨0, H3, I4, st4, z3, u0⟩
    rintro n s5 ⟨i, H5, I5, st5, z5, u5⟩
    rcases turns i n H5 u5 with ⟨stop, fin⟩ | ⟨go, N, less, step⟩
    · refine thnF (T.done (X.blk s3 H3 scope ce fp) rfl rfl rfl calm i [] s5 _ H5 (fun _ _ => False) I5 (fps I5 z5) st5 stop) fun r s6 ⟨hr, I6⟩ => ?_
      subst hr
      have fr : H5 s3.heap.objs.size = none := loc ▸ I6.free
      have I7 : Inv X pins σ H5 s6 := I3.call' (ch := fp) I6.os I6.base I6.hok I6.bare fun b hb => by
        obtain ⟨⟨_, q1, q2, q3, q4, q5⟩, _⟩ := f3 b hb
        exact ⟨q3, q1, q4, q5⟩
      obtain ⟨m, hn, _⟩ := I6.loc
      exact ends Z s3.heap.objs.size s6 m H5 I7 fin (loc ▸ (show s6.heap.Ns ce.locals m from hn)) (I3.fpOk (Nat.le_refl _) fr)
    · refine thnF (T.item (X.blk s3 H3 scope ce fp) rfl rfl rfl calm i [] s5 _ H5 (fun _ _ => False) I5 (fps I5 z5) st5 go) fun r s6 ⟨u, hr, h6⟩ => ?_
      subst hr
      refine thnF h6 fun _ s7 ⟨x, H7, I7, r7, y7, st7, z7⟩ => ?_
      refine thnF (ptg.run _ s7 _ H7 x u _ (I7.pinned (fps I7 z7) (T.obj _ _ st7)) r7 (step x H7 y7)) fun _ s8 ⟨σ8, H8, I8, w8, q8⟩ => ?_
      refine thnF ((pts_nil (X := X.blk s3 H3 scope ce fp)).run _ s8 σ8 H8 (fun c H' => c = true ∧ H' = H8) I8 ⟨rfl, rfl⟩) fun b s9 ⟨H9, I9, hb, e9⟩ => ?_
      subst hb
      subst e9
      rw [if_pos rfl]
      refine thnF (pke.run _ s9 σ8 H9 _ I9 q8) fun z s10 ⟨yk, H10, I10, r10, q10⟩ => ?_
      refine thnF (pve.run _ s10 σ8 H10 _ I10 q10) fun z2 s11 ⟨yv, H11, I11, r11, kb, kvs, k, ek, hk, hZ, room, nx⟩ => ?_
      subst ek
      obtain rfl : z = Value.ref kb := r10
      refine d_setT (X := X.blk s3 H3 scope ce fp) hu I11 hZ room hk r11 fun s12 I12 => ?_
      obtain ⟨m', lt, u'⟩ := less _ nx
      have keep : ∀ b ∈ fp, ∀ o, s7.heap.get? b = some o → s12.heap.get? b = some o ∧ (upd H11 Z (.dT (putK kvs k yv))) b = none := fun b hb o q =>
        have := I12.pin (b, o) (List.mem_append_right _ (List.mem_append_right _ (mem_pinsAt hb q)))
        ⟨this.1, this.2.1⟩
      refine ⟨m', lt, i + 1, _, (I12.unpinned (pins := [])).weak (by rw [← w8, wipe_length]) (fun j v q => (wipe_some (w8 ▸ q)).1), T.keep _ _ _ st7 fun b hb o q => (keep b hb o q).1, fun b hb => ?_, u'⟩
      obtain ⟨o, q, _⟩ := T.obj _ _ st7 b hb
      exact (keep b hb o q).2
  exact codeAny_compStart_dict run (T.self X.A 0 _ _ _ st4 run)
theorem pe_dct {ke ve tg iter : Expr} {scope : Scope} {own : List (Str × Nat)} {pos : Pos} {wi : TI} {g : TG} {tk tv : TE} (calm : X.calm = true) (hu : X.A.units < cLine) (nd : X.N.Nodup) (pit : PI X tg iter wi) (blk : BlkOk X.N X.env.scope scope own)
    (ptg : ∀ s H C cl fp, PG (X.blk s H scope (compEnvC scope cl C X.env) fp) tg g) (pke : ∀ s H C cl fp, PE (X.blk s H scope (compEnvC scope cl C X.env) fp) ke tk) (pve : ∀ s H C cl fp, PE (X.blk s H scope (compEnvC scope cl C X.env) fp) ve tv) (fold : ∀ x, foldedSetIterable iter X.env x = pure x := by intro _; rfl) :
    PE X (.DictComp ke ve [⟨tg, iter, [], 0⟩] scope pos) (tDct wi g tk tv (own.map (·.2))) := by
  refine ⟨fun pins s σ H Q I start => ?_⟩
  rw [arm_eval_DictComp]
  refine dct_core calm hu nd I pit blk ptg pke pve fold start fun Z C s' m H' I' q hn f => ⟨m, hn, fun h'' sb => ?_⟩
  obtain ⟨g0, g1, g2, g3, g4, g5⟩ := f
  exact ⟨.ref Z, H', I'.turned (t' := s'.toks) (fun b o hb q => (sb.2 b hb).trans q) g0 g1 g3 g4 g5, rfl, q⟩
theorem swD {ke ve : Expr} {gs : List Comprehension} {scope : Scope} {pos py : Pos} {y : Str} {l : Nat} {env : Env} (fn : env.scope.kind = .function) (lo : env.scope.names.lookup y = some .local) (row : (py.line == pos.line) = true)
    (free : (scope.names.any fun (n, k) => n == y && (k == .local || k == .cell)) = false) : swapsWith (.DictComp ke ve gs scope pos) (some (.Name y py)) l env = pure true := by
  have e1 : env.kindOf y = some .local := lo
  have e2 : env.blockKind = .function := by
    unfold Env.blockKind
    rw [fn]
    rfl
  unfold swapsWith
  simp only [e1, e2, free, Expr.pos, row]
  rfl
/-- y = {k: v for ..} -/
theorem ps_setDct {i : Nat} {y : Str} {py spos : Pos} {ke ve tg iter : Expr} {scope : Scope} {own : List (Str × Nat)} {pos : Pos} {wi : TI} {g : TG} {tk tv : TE} (calm : X.calm = true) (hu : X.A.units < cLine) (nd : X.N.Nodup) (at_ : X.N[i]? = some y) (lo : X.env.scope.names.lookup y = some .local)
    (sw : swapsWith (.DictComp ke ve [⟨tg, iter, [], 0⟩] scope pos) (some (.Name y py)) spos.line X.env = pure true) (pit : PI X tg iter wi) (blk : BlkOk X.N X.env.scope scope own)
    (ptg : ∀ s H C cl fp, PG (X.blk s H scope (compEnvC scope cl C X.env) fp) tg g) (pke : ∀ s H C cl fp, PE (X.blk s H scope (compEnvC scope cl C X.env) fp) ke tk) (pve : ∀ s H C cl fp, PE (X.blk s H scope (compEnvC scope cl C X.env) fp) ve tv) (fold : ∀ x, foldedSetIterable iter X.env x = pure x := by intro _; rfl) :
    PS X (.Assign [.Name y py] (.DictComp ke ve [⟨tg, iter, [], 0⟩] scope pos) spos) (tAsg (tDct wi g tk tv (own.map (·.2))) (gName i)) := by
  refine ⟨fun pins s σ H D I start => ?_⟩
  rw [exec_Assign_Name_used _ _ _ _ sw]
  refine wpAny_bind (wpAny_standAt (wpAny_bind ?_))
  show wpAny _ X.A (do let _ ← comprehension (.DictComp ke ve [⟨tg, iter, [], 0⟩] scope pos) scope X.env (firstIterPos [⟨tg, iter, [], 0⟩] pos) newDict false (eval iter X.env) (some (assign (.Name y py) X.env))) _ _ s
  refine wpAny_bind (thn (dct_core (Qf := fun _ s' => SP X pins D .next s') (Q := fun x H1 => gName i x σ H1 D.nx) calm hu nd I pit blk ptg pke pve fold start fun Z C s' m H' I' q hn f => ?_) fun _ s' hq => wpAny_pure (wpAny_pure hq))
  show wpAny _ _ (assign (.Name y py) X.env (.ref Z)) _ _ _
  refine wpAny_assign_Name (store_ok2 (v := V.ref Z) I' nd at_ (.inl lo) rfl (fun s2 I2 ⟨c, sb, hc⟩ => ?_) (.inr lo))
  obtain ⟨g0, g1, g2, g3, g4, g5⟩ := f
  have ne : C ≠ c := hc.elim (fun z => z ▸ g1) fun z e => g4 y c z e.symm
  exact ⟨m, hn.sameBut sb ne, fun h3 sb3 => ⟨_, H', I2.turned (t' := s2.toks) (fun b o hb e => (sb3.2 b hb).trans e) g0 g1 g3 g4 g5, q⟩⟩
/-- y not in d, y any tuple -/
def tDniS (K : PySem.W.Frag) (ty td : TE) : TE := fun σ H Q => ty σ H fun y H1 => td σ H1 fun x H2 => ∃ a b kvs k, x = .ref a ∧ y = .ref b ∧ H2 a = some (.dT kvs) ∧ SqT K H2 b (k.map kV) ∧ Q (.bl (!(valV kvs k).isSome)) H2
theorem pc_dniS {o i : Expr} {td ty : TE} (hu : X.A.units + 1 < cLine) (hi : PE X i ty) (ho : PE X o td) : PC X .NotIn i o (tDniS X.K ty td) := by
  refine ⟨fun pins s σ H Q I h => ?_⟩
  refine thn (hi.run pins s σ H _ I h) fun iv s1 ⟨y, H1, I1, ry, q1⟩ => thn (ho.run pins s1 σ H1 _ I1 q1) fun u s2 ⟨x, H2, I2, rx, a, b, kvs, k, ex, ey, ha, hb, q2⟩ => ?_
  subst ex
  subst ey
  obtain rfl : u = Value.ref a := rx
  obtain rfl : iv = Value.ref b := ry
  obtain ⟨z, hd, xs, rel, dd⟩ := dt_of I2.hok ha
  obtain ⟨its, r, ⟨ob, h1, h2, n, h3⟩, _⟩ := I2.tuple hb
  refine wpAny_notIn_heap (knd := tupleKind (mixKind X.prog X.w)) (tupleKind_room_in1 hu) (show (tupleKind (mixKind X.prog X.w)).is s2.heap k b from ⟨ob, its.toArray, n, h1, h2, h3, by simpa using items_are r⟩) hd dd ?_
  have q := (rel.val k).isSome_eq
  rw [Option.isSome_map] at q
  rw [← q]
  exact ⟨.bl _, H2, I2.tok _, rfl, q2⟩
theorem kDni {K : PySem.W.Frag} {o i : Expr} {td ty : TE} (p : PC X .NotIn i o (tDniS X.K ty td)) (h : X.K = K := by rfl) : PC X .NotIn i o (tDniS K ty td) := h ▸ p
end
def DcN (K : PySem.W.Frag) (C : Fx) (B : Hp) (I : Nat → List (List Key × PyData) → Own → Prop) (σ : L2.St) (ρ : List Sl) (Z : Addr) (i : Nat) : Hp → Prop := fun H => ∃ M kvs w, I i kvs w ∧ Ds K C B σ H M ρ ((Z, .dt kvs) :: w) []
section
variable {K : PySem.W.Frag} {C : Fx} {B : Hp} {σ : L2.St} {H M H' M' : Hp} {ρ ρ' ρ2 : List Sl} {w w' w1 : Own} {tp : List (V × PyData)} {Q R : VK} {te tk tv ty td : TE} {tt : TT} {g : TG} {v y x : V} {ds acc : List PyData} {e d : PyData} {p a b Z : Addr} {vs : List Nat} {i : Nat} {D : Addr} {kvs : List (List Key × PyData)} {ks : List Key}
theorem x_dctL (h : te σ H fun x H1 => ForL K (DcB g tk tv vs Q σ) x H1) : tDct (iList K te) g tk tv vs σ H Q := h
/-- over an own list of tuples that were made at run time, one name -/
theorem x_dctO {k : Nat} (j : Nat) (I : Nat → List (List Key × PyData) → Prop) (S : Ds K C B σ H M ρ w tp) (hj : w[j]? = some (p, .lt ds)) (h0 : I 0 [])
    (hs : ∀ i d kvs, ds[i]? = some d → I i kvs → ∀ Z σ1 H1 M1, Rew K C M σ1 (ρ.set k (.t d)) (wipe σ [k]) (ρ.set k .u) → Ds K C M σ1 H1 M1 (ρ.set k (.t d)) ((Z, .dt kvs) :: w) [] → tk σ1 H1 fun y H3 => tv σ1 H3 (DcA Z (DcN K C M (fun i kvs w1 => I i kvs ∧ w1 = w) (wipe σ [k]) (ρ.set k .u) Z (i + 1)) y))
    (hd : ∀ kvs, I ds.length kvs → ∀ Z H1 M1, Ds K C B σ H1 M1 ρ ((Z, .dt kvs) :: w) tp → Q (.ref Z) H1) : ForL K (DcB (gName k) tk tv [k] Q σ) (.ref p) H := by
  obtain ⟨_, xs, h1, h2⟩ := S.own _ (List.mem_of_getElem? hj)
  have hlen : xs.length = ds.length := Paired.length h2
  have live : ∀ {σ2 : L2.St} {H1 M1 : Hp} {kvs : List (List Key × PyData)} {Z : Addr} {ρ2 : List Sl}, Ds K C M σ2 H1 M1 ρ2 ((Z, .dt kvs) :: w) [] → ∃ xs, H1 p = some (.lst xs) ∧ Paired (TupM K M1) xs ds := fun S1 => by
    obtain ⟨_, ys, a, b⟩ := S1.own _ (List.mem_of_getElem? (l := (_, .dt _) :: w) (i := j + 1) (by simpa using hj))
    exact ⟨ys, a, b⟩
  refine ⟨p, rfl, ⟨xs, .of h1⟩, fun Z hZ => ⟨fun i m H1 => m = ds.length - i ∧ i ≤ ds.length ∧ DcN K C M (fun i kvs w1 => I i kvs ∧ w1 = w) (wipe σ [k]) (ρ.set k .u) Z i H1, ⟨ds.length, rfl, Nat.zero_le _, M, [], w, ⟨h0, rfl⟩, (S.base.clr.wiped [k]).newO (od := .dt []) hZ ⟨[], upd_same, .nil⟩⟩, ?_⟩⟩
  rintro i m H1 ⟨rfl, hi, M1, kvs, w1, ⟨hI, rfl⟩, S1⟩
  obtain ⟨ys, hy, hp⟩ := live S1
  have hl2 : ys.length = ds.length := Paired.length hp
  have sq : SqL K H1 p ys := .of hy
  by_cases lt : i < ds.length
  · refine .inr ⟨⟨ys, ys[i]'(by omega), sq, List.getElem?_eq_getElem (by omega)⟩, DcN K C M (fun i kvs w2 => I i kvs ∧ w2 = w1) (wipe σ [k]) (ρ.set k .u) Z (i + 1), fun H' q => ⟨ds.length - (i + 1), by omega, rfl, lt, q⟩, ?_⟩
    rintro x H' ⟨rfl, yl⟩
    have hx := yl ys sq
    have e := List.getElem?_eq_getElem lt
    have ht : TupM K M1 x ds[i] := paired_at hp hx e
    have S2 := S1.set (i := k) (v := x) (s := .t ds[i]) ht
    rw [List.set_set] at S2
    exact ⟨wipe1, hs i _ kvs e hI Z _ _ M1 rew1 S2⟩
  · have e : i = ds.length := by omega
    exact .inl ⟨⟨ys, sq, by omega⟩, hd kvs (e ▸ hI) Z H1 M1 (S.outof S1)⟩
theorem x_dcA {I : Nat → List (List Key × PyData) → Own → Prop} {σ0 : L2.St} (S : Ds K C B σ H M ρ ((Z, .dt kvs) :: w) tp) (hr : Rew K C B σ ρ σ0 ρ2) (hb : TupM K M (.ref b) (.tuple (ks.map keyD))) (ht : Tm tp v d) (hl : kvs.length < sizeLine) (hI : I (i + 1) (putG kvs ks d) w) : DcA Z (DcN K C B I σ0 ρ2 Z (i + 1)) (.ref b) v H := by
  obtain ⟨_, ws, h1, h2⟩ := S.own _ (List.mem_cons_self ..)
  exact ⟨b, ws, ks, rfl, hb.key S.sub, h1, by rw [ptk_len h2]; exact hl, M, _, w, hI, hr (S.mut (j := 0) (od' := .dt (putG kvs ks d)) rfl ⟨_, upd_same, ptk_put h2 (ht.dp S)⟩)⟩
def DnsK (K : PySem.W.Frag) (Q : VK) (x y : V) (H : Hp) : Prop := ∃ a b kvs k, x = .ref a ∧ y = .ref b ∧ H a = some (.dT kvs) ∧ SqT K H b (k.map kV) ∧ Q (.bl (!(valV kvs k).isSome)) H
theorem x_dns (h : ty σ H fun y H1 => td σ H1 fun x H2 => DnsK K Q x y H2) : tDniS K ty td σ H Q := h
theorem x_dnsK (j : Nat) (S : Ds K C B σ H M ρ w tp) (hj : w[j]? = some (p, .dt kvs)) (hy : Tm tp y (.tuple (ks.map keyD))) (q : Q (.bl (!(valG kvs ks).isSome)) H) : DnsK K Q (.ref p) y H := by
  obtain ⟨_, ws, h1, h2⟩ := S.own _ (List.mem_of_getElem? hj)
  obtain ⟨b, xs, rfl, h3, h4⟩ := dp_tup (hy.dp S)
  rw [dpAll_keys h4] at h3
  have e : (valV ws ks).isSome = (valG kvs ks).isSome := by
    rcases ptk_val h2 ks with ⟨a, b⟩ | ⟨v, d', a, b, c⟩
    · rw [a, b]
      rfl
    · rw [a, b]
      rfl
  exact ⟨p, b, ws, ks, rfl, rfl, h1, Same.seqT S.sub h3, by rw [e]; exact q⟩
end
end Pf

namespace L2
open PySem PySem.Spec PyProof PyProof.Rows
variable {X : Cx}
/-- list + list, whatever they are -/
def rCatL (K : PySem.W.Frag) : R2 := fun x y H Q => ∃ a b xs ys, x = .ref a ∧ y = .ref b ∧ SqL K H a xs ∧ SqL K H b ys ∧ xs.length + ys.length ≤ sizeLine ∧ ∀ p, H p = none → Q (.ref p) (upd H p (.lst (xs ++ ys)))
theorem op_catL : OpR X (binaryOp .Add) (rCatL X.K) := by
  intro pins s σ H x y v u Q I rx ry h
  obtain ⟨a, b, xs, ys, rfl, rfl, ha, hb, hz, q⟩ := h
  cases rx
  cases ry
  obtain ⟨its, r, p1, _⟩ := I.list ha
  obtain ⟨its2, r2, p2, _⟩ := I.list hb
  obtain ⟨⟨cls, dd, data, sl⟩, ho, hc, n, hd⟩ := p1.isList
  obtain ⟨⟨cls2, dd2, data2, sl2⟩, ho2, hc2, n2, hd2⟩ := p2.isList
  simp only at hc hd hc2 hd2
  subst hc hd hc2 hd2
  have e1 := r.length
  have e2 := r2.length
  have ea : its.toArray ++ its2.toArray = (its ++ its2).toArray := by simp
  refine concat_meets ⟨_, ho, rfl⟩ ⟨_, ho2, rfl⟩ noFill_list_add seq_list_add PySem.F.slot_list_add PySem.F.entry_list_add (PySem.F.args_list_add_2 _ _) (list_addW a b its.toArray its2.toArray n n2 dd dd2 sl sl2 (by simp; omega)) ⟨ho, ho2, ?_⟩
  rw [ea]
  exact ⟨.ref _, _, I.lnew (t' := s.toks) (r.append r2) (by rw [List.length_append]; omega), rfl, q _ I.fresh⟩
end L2
namespace Pf
open PySem PySem.Spec PyProof.Rows L2
theorem kCatL {X : Cx} {K : PySem.W.Frag} (h : X.K = K := by rfl) : OpR X (binaryOp .Add) (rCatL K) := h ▸ op_catL
section
variable {K : PySem.W.Frag} {C : Fx} {B : Hp} {σ : L2.St} {H M : Hp} {ρ : List Sl} {w : Own} {tp : List (V × PyData)} {R : VK} {x : V} {p : Addr} {ds es : List PyData}
theorem x_catLO (j : Nat) (S : Ds K C B σ H M ρ w tp) (ht : Tm tp x (.list ds)) (hj : w[j]? = some (p, .lst es)) (hl : ds.length + es.length ≤ sizeLine)
    (z : ∀ a H', Ds K C B σ H' M ρ ((a, .lst (ds ++ es)) :: w) tp → R (.ref a) H') : rCatL K x (.ref p) H R := by
  obtain ⟨q, xs, rfl, h1, h2⟩ := dp_lst (ht.dp S)
  obtain ⟨_, ys, h3, h4⟩ := S.own _ (List.mem_of_getElem? hj)
  exact ⟨q, p, xs, ys, rfl, rfl, S.sub.seq h1, .of h3, by rw [dpAll_len h2, dpAll_len h4]; exact hl, fun a ha => z a _ (S.newL ha (dpAll_cat h2 h4))⟩
theorem x_chain {r r' : R2} {ta tb tc : TE} {Q : VK} (h : ta σ H fun x H1 => tb σ H1 fun y H2 => r x y H2 fun z H3 => ∃ k, z = .bl k ∧ (if k = true then tc σ H3 fun w' H4 => r' y w' H4 Q else Q (.bl false) H3)) : tChain r r' ta tb tc σ H Q := h
end
end Pf

namespace Pf
open PySem PySem.Spec PyProof.Rows L2
/-! concepts with numbers -/
inductive Cp where
  | any | name (n : Int) | not (c : Cp) | both (c d : Cp) | some (r : Int) (b : Bool) (c : Cp)
  deriving DecidableEq
abbrev sK (s : String) : PyData := .str (Str.ofString s)
abbrev roD (r : Int) (b : Bool) : PyData := .tuple [.int r, .bool b]
namespace Cp
def D : Cp → PyData
  | .any => .tuple [sK "any"]
  | .name n => .tuple [sK "name", .int n]
  | .not c => .tuple [sK "not", c.D]
  | .both c d => .tuple [sK "and", c.D, d.D]
  | .some r b c => .tuple [sK "some", roD r b, c.D]
def dp : Cp → Nat
  | .not c => c.dp + 1
  | .both c d => max c.dp d.dp + 1
  | .some _ _ c => c.dp + 1
  | _ => 0
def kind : Cp → String
  | .any => "any"
  | .name _ => "name"
  | .not _ => "not"
  | .both _ _ => "and"
  | .some _ _ _ => "some"
theorem lay : ∀ c : Cp, c.D.canLay0 = true
  | .any => by decide +kernel
  | .name n => by
    show (PyData.canLay0 (sK "name") && (true && true)) = true
    decide +kernel
  | .not c => by
    show (PyData.canLay0 (sK "not") && (c.D.canLay0 && true)) = true
    rw [lay c]
    decide +kernel
  | .both c d => by
    show (PyData.canLay0 (sK "and") && (c.D.canLay0 && (d.D.canLay0 && true))) = true
    rw [lay c, lay d]
    decide +kernel
  | .some r b c => by
    show (PyData.canLay0 (sK "some") && (PyData.canLay0 (roD r b) && (c.D.canLay0 && true))) = true
    rw [lay c, show PyData.canLay0 (roD r b) = true from rfl]
    decide +kernel
theorem depth : ∀ c : Cp, c.D.depth ≤ c.dp + 2
  | .any => by decide
  | .name n => by
    show max 0 (max 0 0) + 1 ≤ 0 + 2
    decide
  | .not c => by
    have := depth c
    show max 0 (max c.D.depth 0) + 1 ≤ c.dp + 1 + 2
    omega
  | .both c d => by
    have h1 := depth c
    have h2 := depth d
    show max 0 (max c.D.depth (max d.D.depth 0)) + 1 ≤ max c.dp d.dp + 1 + 2
    omega
  | .some r b c => by
    have h1 := depth c
    show max 0 (max 1 (max c.D.depth 0)) + 1 ≤ c.dp + 1 + 2
    omega
theorem eqS {s t : Str} : PyData.eqv (.str s) (.str t) = decide (s = t) := by
  show (s == t) = _
  rw [Bool.eq_iff_iff]
  simp
theorem eqI {a b : Int} : PyData.eqv (.int a) (.int b) = decide (a = b) := by
  show (a == b) = _
  rw [Bool.eq_iff_iff]
  simp
theorem eqB {a b : Bool} : PyData.eqv (.bool a) (.bool b) = decide (a = b) := by
  show (a == b) = _
  rw [Bool.eq_iff_iff]
  simp
theorem eqRo {r r' : Int} {b b' : Bool} : PyData.eqv (roD r b) (roD r' b') = (decide (r = r') && decide (b = b')) := by
  show (PyData.eqv (.int r) (.int r') && (PyData.eqv (.bool b) (.bool b') && true)) = _
  rw [eqI, eqB, Bool.and_true]
theorem kindEq {s t : String} (h : s = t) : PyData.eqv (sK s) (sK t) = true := by
  rw [h, eqS]
  exact decide_eq_true rfl
theorem eq : ∀ c d : Cp, PyData.eqv c.D d.D = decide (c = d)
  | .any, .any => by decide +kernel
  | .any, .name _ => by rfl
  | .any, .not _ => by rfl
  | .any, .both _ _ => by rfl
  | .any, .some _ _ _ => by rfl
  | .name _, .any => by rfl
  | .name m, .name n => by
    show (PyData.eqv (sK "name") (sK "name") && (PyData.eqv (.int m) (.int n) && true)) = _
    rw [kindEq rfl, eqI]
    simp
  | .name _, .not _ => by rfl
  | .name _, .both _ _ => by rfl
  | .name _, .some _ _ _ => by rfl
  | .not _, .any => by rfl
  | .not _, .name _ => by rfl
  | .not c, .not d => by
    show (PyData.eqv (sK "not") (sK "not") && (PyData.eqv c.D d.D && true)) = _
    rw [kindEq rfl, eq c d]
    simp
  | .not _, .both _ _ => by rfl
  | .not _, .some _ _ _ => by rfl
  | .both _ _, .any => by rfl
  | .both _ _, .name _ => by rfl
  | .both _ _, .not _ => by rfl
  | .both c c', .both d d' => by
    show (PyData.eqv (sK "and") (sK "and") && (PyData.eqv c.D d.D && (PyData.eqv c'.D d'.D && true))) = _
    rw [kindEq rfl, eq c d, eq c' d']
    simp
  | .both _ _, .some _ _ _ => by rfl
  | .some _ _ _, .any => by rfl
  | .some _ _ _, .name _ => by rfl
  | .some _ _ _, .not _ => by rfl
  | .some _ _ _, .both _ _ => by rfl
  | .some r b c, .some r' b' c' => by
    show (PyData.eqv (sK "some") (sK "some") && (PyData.eqv (roD r b) (roD r' b') && (PyData.eqv c.D c'.D && true))) = _
    rw [kindEq rfl, eqRo, eq c c']
    simp [Bool.and_assoc]
theorem enc : Enc Cp.D := ⟨eq, lay⟩
/-- names and roles are there -/
def Ok (s0 s1 : Int) : Cp → Prop
  | .any => True
  | .name n => 0 ≤ n ∧ n < s0
  | .not c => c.Ok s0 s1
  | .both c d => c.Ok s0 s1 ∧ d.Ok s0 s1
  | .some r _ c => (0 ≤ r ∧ r < s1) ∧ c.Ok s0 s1
end Cp
abbrev szD (a b c : Int) : PyData := .tuple [.int a, .int b, .int c]
end Pf

namespace Pf
open PySem PySem.Spec PyProof.Rows L2
/-! parts of axioms, and questions -/
inductive Pt where
  | below (c d : Cp) | under (r : Int) (b : Bool) (s : Int) (b' : Bool) | is (a : Int) (c : Cp) | has (a n b : Int) | never
  deriving DecidableEq
namespace Pt
def D : Pt → PyData
  | .below c d => .tuple [sK "below", c.D, d.D]
  | .under r b s b' => .tuple [sK "under", roD r b, roD s b']
  | .is a c => .tuple [sK "is", .int a, c.D]
  | .has a n b => .tuple [sK "has", .int a, .int n, .int b]
  | .never => .tuple [sK "never"]
end Pt
abbrev axD (ps : List Pt) : PyData := .tuple (ps.map Pt.D)
/-- names, roles, individuals are there; the concepts are at most so deep -/
def Pt.Ok (s0 s1 s2 : Int) (n : Nat) : Pt → Prop
  | .below c d => (c.Ok s0 s1 ∧ c.dp ≤ n) ∧ d.Ok s0 s1 ∧ d.dp ≤ n
  | .under r _ s _ => (0 ≤ r ∧ r < s1) ∧ 0 ≤ s ∧ s < s1
  | .is a c => (0 ≤ a ∧ a < s2) ∧ c.Ok s0 s1 ∧ c.dp ≤ n
  | .has a r b => (0 ≤ a ∧ a < s2) ∧ (0 ≤ r ∧ r < s1) ∧ 0 ≤ b ∧ b < s2
  | .never => True
def Pt.IsUnder (s1 : Int) : Pt → Prop
  | .under r _ s _ => (0 ≤ r ∧ r < s1) ∧ 0 ≤ s ∧ s < s1
  | _ => False
end Pf

namespace Pf
/-! conditions as trees: a number, what is left without it, what is left with it -/
inductive Tr where
  | leaf (b : Bool) | node (n : Int) (t u : Tr)
  deriving DecidableEq
namespace Tr
def ev (S : Int → Bool) : Tr → Bool
  | .leaf b => b
  | .node n t u => if S n = true then ev S u else ev S t
def ht : Tr → Nat
  | .leaf _ => 0
  | .node _ t u => max t.ht u.ht + 1
def sz : Tr → Nat
  | .leaf _ => 1
  | .node _ t u => t.sz + u.sz + 1
/-- the first number is above m -/
def Ab (m : Int) : Tr → Prop
  | .leaf _ => True
  | .node n _ _ => m < n
/-- numbers ascend, and no node is needless -/
def Ok : Tr → Prop
  | .leaf _ => True
  | .node n t u => t.Ok ∧ u.Ok ∧ t ≠ u ∧ t.Ab n ∧ u.Ab n
/-- the numbers are among these -/
def Ov (vs : List Int) : Tr → Prop
  | .leaf _ => True
  | .node n t u => n ∈ vs ∧ t.Ov vs ∧ u.Ov vs
theorem Ab.mono {m k : Int} : ∀ {t : Tr}, t.Ab m → k ≤ m → t.Ab k
  | .leaf _, _, _ => trivial
  | .node n _ _, h, e => by
    have h : m < n := h
    show k < n
    omega
/-- what is not above does not matter -/
theorem ev_above : ∀ {t : Tr} {m : Int} {S S' : Int → Bool}, t.Ok → t.Ab m → (∀ k, m < k → S k = S' k) → t.ev S = t.ev S'
  | .leaf _, _, _, _, _, _, _ => rfl
  | .node n t u, m, S, S', ho, ha, h => by
    have ha : m < n := ha
    show (if S n = true then u.ev S else t.ev S) = if S' n = true then u.ev S' else t.ev S'
    rw [h n ha, ev_above ho.1 (ho.2.2.2.1.mono (Int.le_of_lt ha)) h, ev_above ho.2.1 (ho.2.2.2.2.mono (Int.le_of_lt ha)) h]
def put (S : Int → Bool) (n : Int) (b : Bool) : Int → Bool := fun k => if k = n then b else S k
theorem put_at {S : Int → Bool} {n : Int} {b : Bool} : put S n b n = b := if_pos rfl
theorem put_ne {S : Int → Bool} {n k : Int} {b : Bool} (h : k ≠ n) : put S n b k = S k := if_neg h
theorem ev_put {t : Tr} {n : Int} {S : Int → Bool} {b : Bool} (ho : t.Ok) (ha : t.Ab n) : t.ev (put S n b) = t.ev S := ev_above ho ha fun k h => put_ne (by omega)
theorem ev_f {n : Int} {t u : Tr} {S : Int → Bool} (h : (Tr.node n t u).Ok) : (Tr.node n t u).ev (put S n false) = t.ev S := by
  show (if put S n false n = true then _ else _) = _
  rw [put_at, if_neg (by decide)]
  exact ev_put h.1 h.2.2.2.1
theorem ev_t {n : Int} {t u : Tr} {S : Int → Bool} (h : (Tr.node n t u).Ok) : (Tr.node n t u).ev (put S n true) = u.ev S := by
  show (if put S n true n = true then _ else _) = _
  rw [put_at, if_pos rfl]
  exact ev_put h.2.1 h.2.2.2.2
/-- two of one meaning are one -/
theorem canon : ∀ (N : Nat) (t u : Tr), t.sz + u.sz ≤ N → t.Ok → u.Ok → (∀ S, t.ev S = u.ev S) → t = u
  | 0, t, u, h, _, _, _ => by cases t <;> simp [sz] at h
  | N + 1, .leaf a, .leaf b, _, _, _, e => congrArg Tr.leaf (e fun _ => true)
  | N + 1, .leaf a, .node m t' u', h, h1, h2, e => by
    have h : 1 + (t'.sz + u'.sz + 1) ≤ N + 1 := h
    have e1 := canon N (.leaf a) t' (by show 1 + t'.sz ≤ N; omega) h1 h2.1 fun S => (e (put S m false)).trans (ev_f h2)
    have e2 := canon N (.leaf a) u' (by show 1 + u'.sz ≤ N; omega) h1 h2.2.1 fun S => (e (put S m true)).trans (ev_t h2)
    exact absurd (e1.symm.trans e2) h2.2.2.1
  | N + 1, .node n t u, .leaf b, h, h1, h2, e => by
    have h : t.sz + u.sz + 1 + 1 ≤ N + 1 := h
    have e1 := canon N t (.leaf b) (by show t.sz + 1 ≤ N; omega) h1.1 h2 fun S => (ev_f h1).symm.trans (e (put S n false))
    have e2 := canon N u (.leaf b) (by show u.sz + 1 ≤ N; omega) h1.2.1 h2 fun S => (ev_t h1).symm.trans (e (put S n true))
    exact absurd (e1.trans e2.symm) h1.2.2.1
  | N + 1, .node n t u, .node m t' u', h, h1, h2, e => by
    have h : t.sz + u.sz + 1 + (t'.sz + u'.sz + 1) ≤ N + 1 := h
    rcases Int.lt_trichotomy n m with c | c | c
    · have c2 : (Tr.node m t' u').Ab n := c
      have e1 := canon N t (.node m t' u') (by show t.sz + (t'.sz + u'.sz + 1) ≤ N; omega) h1.1 h2 fun S => (ev_f h1).symm.trans ((e (put S n false)).trans (ev_put h2 c2))
      have e2 := canon N u (.node m t' u') (by show u.sz + (t'.sz + u'.sz + 1) ≤ N; omega) h1.2.1 h2 fun S => (ev_t h1).symm.trans ((e (put S n true)).trans (ev_put h2 c2))
      exact absurd (e1.trans e2.symm) h1.2.2.1
    · subst c
      have e1 := canon N t t' (by omega) h1.1 h2.1 fun S => (ev_f h1).symm.trans ((e (put S n false)).trans (ev_f h2))
      have e2 := canon N u u' (by omega) h1.2.1 h2.2.1 fun S => (ev_t h1).symm.trans ((e (put S n true)).trans (ev_t h2))
      rw [e1, e2]
    · have c2 : (Tr.node n t u).Ab m := c
      have e1 := canon N (.node n t u) t' (by show t.sz + u.sz + 1 + t'.sz ≤ N; omega) h1 h2.1 fun S => (ev_put h1 c2).symm.trans ((e (put S m false)).trans (ev_f h2))
      have e2 := canon N (.node n t u) u' (by show t.sz + u.sz + 1 + u'.sz ≤ N; omega) h1 h2.2.1 fun S => (ev_put h1 c2).symm.trans ((e (put S m true)).trans (ev_t h2))
      exact absurd (e1.symm.trans e2) h2.2.2.1
theorem same {t u : Tr} (h1 : t.Ok) (h2 : u.Ok) (e : ∀ S, t.ev S = u.ev S) : t = u := canon _ t u (Nat.le_refl _) h1 h2 e
theorem differ {t u : Tr} (h1 : t.Ok) (h2 : u.Ok) (h : t ≠ u) : ∃ S, t.ev S ≠ u.ev S := Classical.byContradiction fun c => h (same h1 h2 fun S => Classical.byContradiction fun z => c ⟨S, z⟩)
/-- its first number matters -/
theorem matters {n : Int} {t u : Tr} (h : (Tr.node n t u).Ok) : ∃ S, (Tr.node n t u).ev (put S n false) ≠ (Tr.node n t u).ev (put S n true) := by
  obtain ⟨S, e⟩ := differ h.1 h.2.1 h.2.2.1
  exact ⟨S, by rw [ev_f h, ev_t h]; exact e⟩
theorem ab_of {t : Tr} {m : Int} (ho : t.Ok) (h : ∀ S S' : Int → Bool, (∀ k, m < k → S k = S' k) → t.ev S = t.ev S') : t.Ab m := by
  cases t with
  | leaf b => trivial
  | node n t u =>
    refine Classical.byContradiction fun c => ?_
    have c : n ≤ m := Int.not_lt.mp c
    obtain ⟨S, e⟩ := matters ho
    exact e (h _ _ fun k hk => by rw [put_ne (by omega), put_ne (by omega)])
theorem ov_of {vs : List Int} : ∀ {t : Tr}, t.Ok → (∀ S S' : Int → Bool, (∀ k ∈ vs, S k = S' k) → t.ev S = t.ev S') → t.Ov vs
  | .leaf _, _, _ => trivial
  | .node n t u, ho, h => by
    refine ⟨Classical.byContradiction fun c => ?_, ov_of ho.1 fun S S' e => ?_, ov_of ho.2.1 fun S S' e => ?_⟩
    · obtain ⟨S, e⟩ := matters ho
      exact e (h _ _ fun k hk => by rw [put_ne (fun z : k = n => c (by rw [← z]; exact hk)), put_ne (fun z : k = n => c (by rw [← z]; exact hk))])
    · rw [← ev_f ho, ← ev_f (S := S') ho]
      refine h _ _ fun k hk => ?_
      unfold put
      by_cases z : k = n
      · rw [if_pos z, if_pos z]
      · rw [if_neg z, if_neg z, e k hk]
    · rw [← ev_t ho, ← ev_t (S := S') ho]
      refine h _ _ fun k hk => ?_
      unfold put
      by_cases z : k = n
      · rw [if_pos z, if_pos z]
      · rw [if_neg z, if_neg z, e k hk]
theorem ev_ov {vs : List Int} : ∀ {t : Tr} {S S' : Int → Bool}, t.Ov vs → (∀ k ∈ vs, S k = S' k) → t.ev S = t.ev S'
  | .leaf _, _, _, _, _ => rfl
  | .node n t u, S, S', h, e => by
    show (if S n = true then u.ev S else t.ev S) = if S' n = true then u.ev S' else t.ev S'
    rw [e n h.1, ev_ov h.2.1 e, ev_ov h.2.2 e]
theorem Ov.mono {vs us : List Int} (h : ∀ x ∈ vs, x ∈ us) : ∀ {t : Tr}, t.Ov vs → t.Ov us
  | .leaf _, _ => trivial
  | .node _ _ _, z => ⟨h _ z.1, Ov.mono h z.2.1, Ov.mono h z.2.2⟩
/-- few numbers: not high -/
theorem ht_le : ∀ (vs : List Int) {t : Tr}, t.Ok → t.Ov vs → t.ht ≤ vs.length := fun vs => by
  generalize hn : vs.length = n
  induction n generalizing vs with
  | zero =>
    intro t _ hv
    cases t with
    | leaf b => exact Nat.le_refl _
    | node m t u =>
      rw [List.eq_nil_of_length_eq_zero hn] at hv
      exact nomatch hv.1
  | succ n ih =>
    intro t ho hv
    cases t with
    | leaf b => exact Nat.zero_le _
    | node m t u =>
      have hl : (vs.erase m).length = n := by rw [List.length_erase_of_mem hv.1, hn]; rfl
      have sub : ∀ {s : Tr}, s.Ok → s.Ab m → s.Ov vs → s.Ov (vs.erase m) := fun {s} a b c => ov_of a fun S S' e => by
        rw [← ev_put (b := S m) a b, ← ev_put (S := S') (b := S m) a b]
        refine ev_ov c fun k hk => ?_
        unfold put
        by_cases z : k = m
        · rw [if_pos z, if_pos z]
        · rw [if_neg z, if_neg z]
          exact e k ((List.mem_erase_of_ne z).mpr hk)
      have h1 := ih _ hl ho.1 (sub ho.1 ho.2.2.2.1 hv.2.1)
      have h2 := ih _ hl ho.2.1 (sub ho.2.1 ho.2.2.2.2 hv.2.2)
      show max t.ht u.ht + 1 ≤ n + 1
      omega
/-- a node where it is needed -/
def mk (n : Int) (t u : Tr) : Tr := if t = u then t else .node n t u
theorem mk_ev {n : Int} {t u : Tr} {S : Int → Bool} : (mk n t u).ev S = if S n = true then u.ev S else t.ev S := by
  unfold mk
  by_cases h : t = u
  · rw [if_pos h, h]
    cases S n <;> rfl
  · rw [if_neg h]
    rfl
theorem mk_ok {n : Int} {t u : Tr} (h1 : t.Ok) (h2 : u.Ok) (a1 : t.Ab n) (a2 : u.Ab n) : (mk n t u).Ok := by
  unfold mk
  by_cases h : t = u
  · rw [if_pos h]
    exact h1
  · rw [if_neg h]
    exact ⟨h1, h2, h, a1, a2⟩
/-- what is left once the first number is known -/
def kn (m : Int) (b : Bool) : Tr → Tr
  | .leaf c => .leaf c
  | .node n t u => if n = m then (if b = true then u else t) else .node n t u
theorem kn_node {m n : Int} {b : Bool} {t u : Tr} : kn m b (.node n t u) = if n = m then (if b = true then u else t) else .node n t u := rfl
theorem kn_ok {m : Int} {b : Bool} {t : Tr} (h : t.Ok) : (kn m b t).Ok := by
  cases t with
  | leaf c => trivial
  | node n t u =>
    rw [kn_node]
    by_cases e : n = m
    · rw [if_pos e]
      cases b
      · exact h.1
      · exact h.2.1
    · rw [if_neg e]
      exact h
theorem kn_ab {m : Int} {b : Bool} {t : Tr} (h : t.Ok) (ha : t.Ab (m - 1)) : (kn m b t).Ab m := by
  cases t with
  | leaf c => trivial
  | node n t u =>
    have ha : m - 1 < n := ha
    rw [kn_node]
    by_cases e : n = m
    · rw [if_pos e]
      subst e
      cases b
      · exact h.2.2.2.1
      · exact h.2.2.2.2
    · rw [if_neg e]
      show m < n
      omega
theorem kn_ev {m : Int} {t : Tr} {S : Int → Bool} : (kn m (S m) t).ev S = t.ev S := by
  cases t with
  | leaf c => rfl
  | node n t u =>
    rw [kn_node]
    by_cases e : n = m
    · rw [if_pos e]
      subst e
      show _ = if S n = true then u.ev S else t.ev S
      cases S n <;> rfl
    · rw [if_neg e]
theorem kn_ht {m : Int} {b : Bool} {t : Tr} : (kn m b t).ht ≤ t.ht := by
  cases t with
  | leaf c => exact Nat.le_refl _
  | node n t u =>
    rw [kn_node]
    by_cases e : n = m
    · rw [if_pos e]
      show _ ≤ max t.ht u.ht + 1
      cases b
      · show t.ht ≤ _
        omega
      · show u.ht ≤ _
        omega
    · rw [if_neg e]
      exact Nat.le_refl _
theorem kn_lt {m : Int} {b : Bool} {t u : Tr} : (kn m b (.node m t u)).ht < (Tr.node m t u).ht := by
  rw [kn_node]
  rw [if_pos rfl]
  show _ < max t.ht u.ht + 1
  cases b
  · show t.ht < _
    omega
  · show u.ht < _
    omega
theorem kn_ov {m : Int} {b : Bool} {vs : List Int} {t : Tr} (h : t.Ov vs) : (kn m b t).Ov vs := by
  cases t with
  | leaf c => trivial
  | node n t u =>
    rw [kn_node]
    by_cases e : n = m
    · rw [if_pos e]
      cases b
      · exact h.2.1
      · exact h.2.2
    · rw [if_neg e]
      exact h
/-! how it is written -/
def wr : Tr → List Tr → List Tr
  | .leaf _, o => o
  | .node n a b, o => if Tr.node n a b ∈ o then o else wr b (wr a o) ++ [.node n a b]
def idx (o : List Tr) : Tr → Int
  | .leaf b => if b = true then 1 else 0
  | .node n a b => 2 + (o.idxOf (Tr.node n a b) : Nat)
/-- it stands in o, or needs not -/
def Here (o : List Tr) : Tr → Prop
  | .leaf _ => True
  | .node n a b => Tr.node n a b ∈ o
/-- what stands in o stands behind its parts -/
structure Bh (o : List Tr) : Prop where
  nd : o.Nodup
  bh : ∀ (i : Nat) (t : Tr), o[i]? = some t → ∃ n a b, t = .node n a b ∧ Here (o.take i) a ∧ Here (o.take i) b
theorem Here.mono {o o' : List Tr} (h : ∀ x ∈ o, x ∈ o') : ∀ {t : Tr}, Here o t → Here o' t
  | .leaf _, _ => trivial
  | .node _ _ _, z => h _ z
theorem Bh.nil : Bh [] := ⟨List.nodup_nil, fun i t h => by simp at h⟩
theorem Bh.snoc {o : List Tr} {n : Int} {a b : Tr} (h : Bh o) (h1 : Tr.node n a b ∉ o) (ha : Here o a) (hb : Here o b) : Bh (o ++ [.node n a b]) where
  nd := List.nodup_append.mpr ⟨h.nd, List.nodup_cons.mpr ⟨(fun z => nomatch z), List.nodup_nil⟩, fun x hx y hy e => h1 (by rw [List.mem_singleton.mp hy] at e; exact e ▸ hx)⟩
  bh := fun i t e => by
    by_cases hi : i < o.length
    · rw [List.getElem?_append_left hi] at e
      obtain ⟨n', a', b', e1, e2, e3⟩ := h.bh i t e
      have : (o ++ [Tr.node n a b]).take i = o.take i := List.take_append_of_le_length (Nat.le_of_lt hi)
      rw [this]
      exact ⟨n', a', b', e1, e2, e3⟩
    · have hi2 : i = o.length := by
        have := (List.getElem?_eq_some_iff.mp e).1
        rw [List.length_append] at this
        have : i < o.length + 1 := this
        omega
      subst hi2
      rw [List.getElem?_append_right (Nat.le_refl _), Nat.sub_self] at e
      cases e
      rw [List.take_append_of_le_length (Nat.le_refl _), List.take_length]
      exact ⟨n, a, b, rfl, ha, hb⟩
theorem wr_old : ∀ (t : Tr) {o : List Tr} {x : Tr}, x ∈ o → x ∈ wr t o
  | .leaf _, _, _, h => h
  | .node n a b, o, x, h => by
    unfold wr
    by_cases e : Tr.node n a b ∈ o
    · rw [if_pos e]
      exact h
    · rw [if_neg e]
      exact List.mem_append.mpr (.inl (wr_old b (wr_old a h)))
theorem wr_here : ∀ (t : Tr) (o : List Tr), Here (wr t o) t
  | .leaf _, _ => trivial
  | .node n a b, o => by
    unfold wr
    by_cases e : Tr.node n a b ∈ o
    · rw [if_pos e]
      exact e
    · rw [if_neg e]
      exact List.mem_append.mpr (.inr (List.mem_singleton.mpr rfl))
theorem wr_sz : ∀ (t : Tr) {o : List Tr} {x : Tr}, x ∈ wr t o → x ∈ o ∨ x.sz ≤ t.sz
  | .leaf _, _, _, h => .inl h
  | .node n a b, o, x, h => by
    unfold wr at h
    by_cases e : Tr.node n a b ∈ o
    · rw [if_pos e] at h
      exact .inl h
    · rw [if_neg e] at h
      rcases List.mem_append.mp h with h | h
      · rcases wr_sz b h with h | h
        · rcases wr_sz a h with h | h
          · exact .inl h
          · exact .inr (by show x.sz ≤ a.sz + b.sz + 1; omega)
        · exact .inr (by show x.sz ≤ a.sz + b.sz + 1; omega)
      · rw [List.mem_singleton.mp h]
        exact .inr (Nat.le_refl _)
theorem wr_new {n : Int} {a b : Tr} {o : List Tr} (h : Tr.node n a b ∉ o) : Tr.node n a b ∉ wr b (wr a o) := fun z => by
  have e : (Tr.node n a b).sz = a.sz + b.sz + 1 := rfl
  rcases wr_sz b z with z | z
  · rcases wr_sz a z with z | z
    · exact h z
    · omega
  · omega
theorem wr_bh : ∀ (t : Tr) {o : List Tr}, Bh o → Bh (wr t o)
  | .leaf _, _, h => h
  | .node n a b, o, h => by
    unfold wr
    by_cases e : Tr.node n a b ∈ o
    · rw [if_pos e]
      exact h
    · rw [if_neg e]
      exact (wr_bh b (wr_bh a h)).snoc (wr_new e) ((wr_here a o).mono fun _ h => wr_old b h) (wr_here b _)
theorem wr_pre : ∀ (t : Tr) (o : List Tr), ∃ p, wr t o = o ++ p
  | .leaf _, o => ⟨[], (List.append_nil _).symm⟩
  | .node n a b, o => by
    unfold wr
    by_cases e : Tr.node n a b ∈ o
    · rw [if_pos e]
      exact ⟨[], (List.append_nil _).symm⟩
    · rw [if_neg e]
      obtain ⟨p, h1⟩ := wr_pre a o
      obtain ⟨q, h2⟩ := wr_pre b (wr a o)
      exact ⟨p ++ (q ++ [.node n a b]), by rw [h2, h1, List.append_assoc, List.append_assoc]⟩
theorem wr_len : ∀ (t : Tr) (o : List Tr), (wr t o).length + 1 ≤ o.length + 2 ^ t.ht
  | .leaf _, o => Nat.le_refl _
  | .node n a b, o => by
    have h3 : 2 ^ a.ht ≤ 2 ^ (max a.ht b.ht) := Nat.pow_le_pow_right (by decide) (by omega)
    have h4 : 2 ^ b.ht ≤ 2 ^ (max a.ht b.ht) := Nat.pow_le_pow_right (by decide) (by omega)
    have h5 : 2 ^ (Tr.node n a b).ht = 2 ^ (max a.ht b.ht) * 2 := Nat.pow_succ ..
    have h6 : 0 < 2 ^ (max a.ht b.ht) := Nat.pow_pos (by decide)
    unfold wr
    by_cases e : Tr.node n a b ∈ o
    · rw [if_pos e]
      omega
    · rw [if_neg e, List.length_append, List.length_singleton]
      have h1 := wr_len a o
      have h2 := wr_len b (wr a o)
      omega
/-- what holds of the whole holds of all that is written -/
theorem wr_all {Z : Tr → Prop} (hz : ∀ n a b, Z (.node n a b) → Z a ∧ Z b) : ∀ (t : Tr) {o : List Tr}, Z t → (∀ x ∈ o, Z x) → ∀ x ∈ wr t o, Z x
  | .leaf _, _, _, h => h
  | .node n a b, o, ht, h => by
    unfold wr
    by_cases e : Tr.node n a b ∈ o
    · rw [if_pos e]
      exact h
    · rw [if_neg e]
      intro x hx
      rcases List.mem_append.mp hx with hx | hx
      · exact wr_all hz b (hz n a b ht).2 (wr_all hz a (hz n a b ht).1 h) x hx
      · rw [List.mem_singleton.mp hx]
        exact ht
theorem idx_app {o p : List Tr} {t : Tr} (h : Here o t) : idx (o ++ p) t = idx o t := by
  cases t with
  | leaf b => rfl
  | node n a b =>
    show 2 + (((o ++ p).idxOf (Tr.node n a b) : Nat) : Int) = 2 + ((o.idxOf (Tr.node n a b) : Nat) : Int)
    rw [List.idxOf_append, if_pos (show Tr.node n a b ∈ o from h)]
theorem idx_pos {o : List Tr} {t : Tr} : 0 ≤ idx o t := by
  cases t with
  | leaf b => cases b <;> simp [idx]
  | node n a b =>
    show (0 : Int) ≤ 2 + ((o.idxOf (Tr.node n a b) : Nat) : Int)
    omega
theorem idx_lt {o : List Tr} {t : Tr} (h : Here o t) : idx o t < 2 + (o.length : Nat) := by
  cases t with
  | leaf b =>
    have : idx o (.leaf b) ≤ 1 := by cases b <;> simp [idx]
    omega
  | node n a b =>
    have := List.idxOf_lt_length_of_mem h
    show 2 + ((o.idxOf (Tr.node n a b) : Nat) : Int) < 2 + (o.length : Nat)
    omega
def rowOf (o : List Tr) : Tr → Int × Int × Int
  | .leaf _ => (0, 0, 0)
  | .node n a b => (n, idx o a, idx o b)
/-- the rows of o do not change when o grows -/
theorem rows_app {o p : List Tr} (h : Bh o) : o.map (rowOf (o ++ p)) = o.map (rowOf o) := List.map_congr_left fun t ht => by
  obtain ⟨i, hi⟩ := List.getElem?_of_mem ht
  obtain ⟨n, a, b, rfl, h1, h2⟩ := h.bh i t hi
  have m : ∀ x ∈ o.take i, x ∈ o := fun x hx => List.mem_of_mem_take hx
  show (n, idx (o ++ p) a, idx (o ++ p) b) = (n, idx o a, idx o b)
  rw [idx_app (h1.mono m), idx_app (h2.mono m)]
/-! rows of a table: the trees of its diagrams -/
abbrev Nd := Int × Int × Int
def trs (ns : List Nd) : List Tr := ns.foldl (fun acc nd => acc ++ [.node nd.1 (acc.getD nd.2.1.toNat (.leaf false)) (acc.getD nd.2.2.toNat (.leaf false))]) [.leaf false, .leaf true]
def tr (ns : List Nd) (d : Int) : Tr := (trs ns).getD d.toNat (.leaf false)
theorem trs_snoc {ns : List Nd} {nd : Nd} : trs (ns ++ [nd]) = trs ns ++ [.node nd.1 (tr ns nd.2.1) (tr ns nd.2.2)] := by
  unfold trs tr
  rw [List.foldl_append]
  rfl
theorem trs_pre (ns ms : List Nd) : ∃ p, trs (ns ++ ms) = trs ns ++ p := by
  induction ms generalizing ns with
  | nil => exact ⟨[], by rw [List.append_nil, List.append_nil]⟩
  | cons m ms ih =>
    obtain ⟨p, h⟩ := ih (ns ++ [m])
    rw [List.append_assoc] at h
    exact ⟨_, by rw [show ns ++ m :: ms = ns ++ ([m] ++ ms) from rfl, h, trs_snoc, List.append_assoc]⟩
theorem trs_len {ns : List Nd} : (trs ns).length = ns.length + 2 := by
  unfold trs
  have h : ∀ (ns : List Nd) (acc : List Tr), (ns.foldl (fun acc nd => acc ++ [.node nd.1 (acc.getD nd.2.1.toNat (.leaf false)) (acc.getD nd.2.2.toNat (.leaf false))]) acc).length = acc.length + ns.length := fun ns => by
    induction ns with
    | nil => exact fun _ => rfl
    | cons n ns ih =>
      intro acc
      rw [List.foldl_cons, ih, List.length_append, List.length_cons]
      show acc.length + 1 + ns.length = acc.length + (ns.length + 1)
      omega
  rw [h, Nat.add_comm]
  rfl
/-- a diagram of the table -/
def In (ns : List Nd) (d : Int) : Prop := 0 ≤ d ∧ d < (ns.length : Nat) + 2
theorem In.mono {ns : List Nd} {d : Int} (h : In ns d) (ms : List Nd) : In (ns ++ ms) d := by
  unfold In at h ⊢
  rw [List.length_append]
  omega
theorem tr_app {ns : List Nd} {d : Int} (h : In ns d) (ms : List Nd) : tr (ns ++ ms) d = tr ns d := by
  obtain ⟨p, e⟩ := trs_pre ns ms
  unfold tr
  rw [e, List.getD_eq_getElem?_getD, List.getD_eq_getElem?_getD, List.getElem?_append_left (by rw [trs_len]; unfold In at h; omega)]
theorem tr_new {ns : List Nd} {nd : Nd} : tr (ns ++ [nd]) ((ns.length : Nat) + 2 : Int) = .node nd.1 (tr ns nd.2.1) (tr ns nd.2.2) := by
  unfold tr
  rw [trs_snoc, List.getD_eq_getElem?_getD, show (((ns.length : Nat) : Int) + 2).toNat = (trs ns).length by rw [trs_len]; omega, List.getElem?_append_right (Nat.le_refl _), Nat.sub_self]
  rfl
theorem tr_0 {ns : List Nd} : tr ns 0 = .leaf false := by
  have := tr_app (ns := []) (d := 0) ⟨by decide, by decide⟩ ns
  rw [List.nil_append] at this
  rw [this]
  rfl
theorem tr_1 {ns : List Nd} : tr ns 1 = .leaf true := by
  have := tr_app (ns := []) (d := 1) ⟨by decide, by decide⟩ ns
  rw [List.nil_append] at this
  rw [this]
  rfl
/-- a table without needless rows -/
structure TOk (ns : List Nd) : Prop where
  row : ∀ (i : Nat) (nd : Nd), ns[i]? = some nd → ((0 ≤ nd.2.1 ∧ nd.2.1 < (i : Nat) + 2) ∧ 0 ≤ nd.2.2 ∧ nd.2.2 < (i : Nat) + 2) ∧ nd.2.1 ≠ nd.2.2 ∧ (tr ns nd.2.1).Ab nd.1 ∧ (tr ns nd.2.2).Ab nd.1
  nd : ns.Nodup
theorem TOk.nil : TOk [] := ⟨fun i nd h => by simp at h, List.nodup_nil⟩
theorem tr_at {ns : List Nd} (h : TOk ns) {i : Nat} {nd : Nd} (e : ns[i]? = some nd) : tr ns ((i : Nat) + 2 : Int) = .node nd.1 (tr ns nd.2.1) (tr ns nd.2.2) := by
  obtain ⟨h1, h2⟩ := List.getElem?_eq_some_iff.mp e
  have hr := (h.row i nd e).1
  have e1 : ns = ns.take i ++ ([nd] ++ ns.drop (i + 1)) := by
    rw [← List.append_assoc]
    have : ns.take (i + 1) = ns.take i ++ [nd] := by rw [List.take_succ, e]; rfl
    rw [← this, List.take_append_drop]
  have hl : (ns.take i).length = i := by rw [List.length_take]; omega
  have key : tr (ns.take i ++ ([nd] ++ ns.drop (i + 1))) ((i : Nat) + 2 : Int) = .node nd.1 (tr (ns.take i ++ ([nd] ++ ns.drop (i + 1))) nd.2.1) (tr (ns.take i ++ ([nd] ++ ns.drop (i + 1))) nd.2.2) := by
    rw [tr_app (d := nd.2.1) (by unfold In; rw [hl]; omega), tr_app (d := nd.2.2) (by unfold In; rw [hl]; omega), ← List.append_assoc, tr_app (by unfold In; rw [List.length_append, hl]; show 0 ≤ (i : Int) + 2 ∧ (i : Int) + 2 < ((i + 1 : Nat) : Int) + 2; omega)]
    have := tr_new (ns := ns.take i) (nd := nd)
    rw [hl] at this
    exact this
  rw [← e1] at key
  exact key
theorem in_cases {ns : List Nd} {d : Int} (h : In ns d) : d = 0 ∨ d = 1 ∨ ∃ (i : Nat) (nd : Nd), d = (i : Nat) + 2 ∧ ns[i]? = some nd := by
  unfold In at h
  by_cases h0 : d = 0
  · exact .inl h0
  by_cases h1 : d = 1
  · exact .inr (.inl h1)
  · have hl : (d - 2).toNat < ns.length := by omega
    exact .inr (.inr ⟨(d - 2).toNat, _, by omega, List.getElem?_eq_getElem hl⟩)
theorem row_in {ns : List Nd} (h : TOk ns) {i : Nat} {nd : Nd} (e : ns[i]? = some nd) : In ns nd.2.1 ∧ In ns nd.2.2 := by
  have h1 := (h.row i nd e).1
  have h2 := (List.getElem?_eq_some_iff.mp e).1
  exact ⟨⟨h1.1.1, by omega⟩, h1.2.1, by omega⟩
theorem tr_inj {ns : List Nd} (h : TOk ns) : ∀ (N : Nat) {d e : Int}, d.toNat ≤ N → In ns d → In ns e → tr ns d = tr ns e → d = e := fun N => by
  induction N with
  | zero =>
    intro d e hN hd he q
    have : d = 0 := by have := hd.1; omega
    subst this
    rw [tr_0] at q
    rcases in_cases he with rfl | rfl | ⟨i, nd, rfl, e1⟩
    · rfl
    · rw [tr_1] at q
      cases q
    · rw [tr_at h e1] at q
      cases q
  | succ N ih =>
    intro d e hN hd he q
    rcases in_cases hd with rfl | rfl | ⟨i, nd, rfl, e1⟩
    · rw [tr_0] at q
      rcases in_cases he with rfl | rfl | ⟨i, nd, rfl, e1⟩
      · rfl
      · rw [tr_1] at q
        cases q
      · rw [tr_at h e1] at q
        cases q
    · rw [tr_1] at q
      rcases in_cases he with rfl | rfl | ⟨i, nd, rfl, e1⟩
      · rw [tr_0] at q
        cases q
      · rfl
      · rw [tr_at h e1] at q
        cases q
    · rw [tr_at h e1] at q
      rcases in_cases he with rfl | rfl | ⟨j, md, rfl, e2⟩
      · rw [tr_0] at q
        cases q
      · rw [tr_1] at q
        cases q
      · rw [tr_at h e2] at q
        injection q with q1 q2 q3
        have r1 := (h.row i nd e1).1
        have a1 := ih (d := nd.2.1) (e := md.2.1) (by omega) (row_in h e1).1 (row_in h e2).1 q2
        have a2 := ih (d := nd.2.2) (e := md.2.2) (by omega) (row_in h e1).2 (row_in h e2).2 q3
        have : nd = md := Prod.ext q1 (Prod.ext a1 a2)
        subst this
        have hi := (List.getElem?_eq_some_iff.mp e1).1
        rw [(List.getElem?_inj hi h.nd).mp (e1.trans e2.symm)]
theorem TOk.inj {ns : List Nd} (h : TOk ns) {d e : Int} (hd : In ns d) (he : In ns e) (q : tr ns d = tr ns e) : d = e := tr_inj h d.toNat (Nat.le_refl _) hd he q
theorem tr_ok {ns : List Nd} (h : TOk ns) : ∀ (N : Nat) {d : Int}, d.toNat ≤ N → In ns d → (tr ns d).Ok := fun N => by
  induction N with
  | zero =>
    intro d hN hd
    have : d = 0 := by have := hd.1; omega
    subst this
    rw [tr_0]
    trivial
  | succ N ih =>
    intro d hN hd
    rcases in_cases hd with rfl | rfl | ⟨i, nd, rfl, e1⟩
    · rw [tr_0]
      trivial
    · rw [tr_1]
      trivial
    · rw [tr_at h e1]
      have r1 := h.row i nd e1
      exact ⟨ih (by omega) (row_in h e1).1, ih (by omega) (row_in h e1).2, fun z => r1.2.1 (h.inj (row_in h e1).1 (row_in h e1).2 z), r1.2.2.1, r1.2.2.2⟩
theorem TOk.ok {ns : List Nd} (h : TOk ns) {d : Int} (hd : In ns d) : (tr ns d).Ok := tr_ok h d.toNat (Nat.le_refl _) hd
theorem TOk.snoc {ns : List Nd} {n a b : Int} (h : TOk ns) (ha : In ns a) (hb : In ns b) (hab : a ≠ b) (h1 : (tr ns a).Ab n) (h2 : (tr ns b).Ab n) (hn : (n, a, b) ∉ ns) : TOk (ns ++ [(n, a, b)]) where
  row := fun i nd e => by
    by_cases hi : i < ns.length
    · rw [List.getElem?_append_left hi] at e
      have r := h.row i nd e
      have q := row_in h e
      rw [tr_app q.1, tr_app q.2]
      exact r
    · have : i = ns.length := by
        have := (List.getElem?_eq_some_iff.mp e).1
        rw [List.length_append] at this
        have : i < ns.length + 1 := this
        omega
      subst this
      rw [List.getElem?_append_right (Nat.le_refl _), Nat.sub_self] at e
      cases e
      rw [tr_app ha, tr_app hb]
      exact ⟨⟨ha, hb⟩, hab, h1, h2⟩
  nd := List.nodup_append.mpr ⟨h.nd, List.nodup_cons.mpr ⟨(fun z => nomatch z), List.nodup_nil⟩, fun x hx y hy e => hn (by rw [List.mem_singleton.mp hy] at e; exact e ▸ hx)⟩
/-- of what is left of a diagram once a number is known -/
def knI (ns : List Nd) (d m : Int) (b : Bool) : Int :=
  if d < 2 then d else
    match ns[(d - 2).toNat]? with
    | some nd => if nd.1 = m then (if b = true then nd.2.2 else nd.2.1) else d
    | none => d
theorem knI_tr {ns : List Nd} (h : TOk ns) {d m : Int} {b : Bool} (hd : In ns d) : In ns (knI ns d m b) ∧ tr ns (knI ns d m b) = kn m b (tr ns d) := by
  rcases in_cases hd with rfl | rfl | ⟨i, nd, rfl, e1⟩
  · exact ⟨hd, by rw [show knI ns 0 m b = 0 from rfl, tr_0]; rfl⟩
  · exact ⟨hd, by rw [show knI ns 1 m b = 1 from rfl, tr_1]; rfl⟩
  · have e : knI ns ((i : Nat) + 2 : Int) m b = if nd.1 = m then (if b = true then nd.2.2 else nd.2.1) else ((i : Nat) + 2 : Int) := by
      unfold knI
      rw [if_neg (by omega), show (((i : Nat) : Int) + 2 - 2).toNat = i by omega, e1]
    have q := row_in h e1
    rw [e, tr_at h e1, kn_node]
    by_cases c : nd.1 = m
    · rw [if_pos c, if_pos c]
      cases b
      · exact ⟨q.1, rfl⟩
      · exact ⟨q.2, rfl⟩
    · rw [if_neg c, if_neg c]
      exact ⟨hd, tr_at h e1⟩
end Tr
end Pf

namespace Pf
open PySem PySem.Spec PyProof.Rows L2
/-! a comprehension that gives a set of ints; sorted of such a set -/
/-- what a turn hands on: the set at Z has one member more -/
def StA (W : World) (Z : Addr) (N : Hp → Prop) (y : V) (H : Hp) : Prop := ∃ (k : Int) (F : Int → Bool) (n : Nat), y = .int k ∧ H Z = some (SetO W Z F n) ∧ n + 1 < scanBound ∧ N (upd H Z (SetO W Z (fun j => F j || decide (j = k)) (if F k = true then n else n + 1)))
def StB (W : World) (g : TG) (te : TE) (vs : List Nat) (Q : VK) (σ : L2.St) (J : It) (H1 : Hp) : Prop := ∀ Z, H1 Z = none → ∃ U : Nat → Nat → Hp → Prop, (∃ m, U 0 m (upd H1 Z (SetO W Z (fun _ => false) 0))) ∧ ∀ i m H, U i m H →
  (J.stop i H ∧ Q (.ref Z) H) ∨ (J.go i H ∧ ∃ N : Hp → Prop, (∀ H', N H' → ∃ m', m' < m ∧ U (i + 1) m' H') ∧ ∀ x H', J.yld i H x H' → g x (wipe σ vs) H' fun σ2 H2 => wipe σ2 vs = wipe σ vs ∧ te σ2 H2 (StA W Z N))
def tSt (W : World) (wi : TI) (g : TG) (te : TE) (vs : List Nat) : TE := fun σ H Q => wi σ H (StB W g te vs Q σ)
section
variable {X : Cx}
theorem pe_st {elt tg iter : Expr} {scope : Scope} {own : List (Str × Nat)} {pos : Pos} {wi : TI} {g : TG} {te : TE} (calm : X.calm = true) (nd : X.N.Nodup) (pit : PI X tg iter wi) (blk : BlkOk X.N X.env.scope scope own)
    (ptg : ∀ s H C cl fp, PG (X.blk s H scope (compEnvC scope cl C X.env) fp) tg g) (pel : ∀ s H C cl fp, PE (X.blk s H scope (compEnvC scope cl C X.env) fp) elt te) (fold : ∀ x, foldedSetIterable iter X.env x = pure x := by intro _; rfl) :
    PE X (.SetComp elt [⟨tg, iter, [], 0⟩] scope pos) (tSt X.w wi g te (own.map (·.2))) := by
  refine ⟨fun pins s σ H Q I start => ?_⟩
  rw [PpSet.eval_SetComp]
  have clo : ∀ y ∈ scope.names, y.2 = .free → ∃ c, X.env.cells.lookup y.1 = some c := fun y hy e => (blk.free y hy e).elim (fun k => I.ok.has _ (.inl k)) (fun k => I.ok.has _ (.inr k))
  refine wpAny_comprehension_free (use := none) rfl fold (closure_ok clo) blk.kind (fun y hy e => by rw [blk.uniq y hy, e]) (thn (pit.run pins s σ H _ I start) fun _ _ got => thn got fun _ s2 ⟨it, fp, tn, J, H2, e, I2, T, st2, f2, body⟩ => ?_)
  subst e
  refine PpSet.newSet_ok (newEnv_comp ?_)
  generalize hz : s2.heap.objs.size = Z
  have zn : H2 Z = none := I2.hok.fresh (Nat.le_of_eq hz)
  obtain ⟨U, ⟨m0, u0⟩, turns⟩ := body Z zn
  generalize h3 : ({ s2 with heap := s2.heap.push { cls := .type "set", dict := none, data := .set #[] 0 (.fresh 0 0 (!X.w.params.followText "set-order")) } } : Shared) = s3
  have hp3 : s3.heap = s2.heap.push { cls := .type "set", dict := none, data := .set #[] 0 (.fresh 0 0 (!X.w.params.followText "set-order")) } := by subst h3; rfl
  have old : ∀ b o, s2.heap.get? b = some o → s3.heap.get? b = some o := fun b o q => by rw [hp3]; exact Heap.get?_push_of_some _ q
  have I3 : Inv X pins σ (upd H2 Z (SetO X.w Z (fun _ => false) 0)) s3 := by
    subst h3
    subst hz
    exact I2.laid (t' := s2.toks) (fun _ _ q => Heap.get?_push_of_some _ q) (Nat.le_refl _) (setO_new (setR_fresh X.w))
  have f3 : ∀ b ∈ fp, FpOk X pins (upd H2 Z (SetO X.w Z (fun _ => false) 0)) b ∧ b < s3.heap.objs.size := fun b hb => by
    obtain ⟨o, q, _⟩ := T.obj _ _ st2 b hb
    have lt := Heap.lt_size q
    exact ⟨⟨(upd_ne (hz ▸ Nat.ne_of_lt lt)).trans (f2 b hb).1, (f2 b hb).2⟩, by rw [hp3, Heap.size_push]; exact Nat.lt_succ_of_lt lt⟩
  have st3 := T.keep _ _ _ st2 fun b _ => old b
  have I4 := block_start I3 blk nd f3
  have ptg := ptg s3 (upd H2 Z (SetO X.w Z (fun _ => false) 0)) s3.heap.objs.size (cellsFrom (s3.heap.objs.size + 1) scope.names (cloFrom X.env.cells scope.names [])) fp
  have pel := pel s3 (upd H2 Z (SetO X.w Z (fun _ => false) 0)) s3.heap.objs.size (cellsFrom (s3.heap.objs.size + 1) scope.names (cloFrom X.env.cells scope.names [])) fp
  have z3 : ∀ b ∈ fp, (upd H2 Z (SetO X.w Z (fun _ => false) 0)) b = none := fun b hb => (f3 b hb).1.1
  show codeAny _ _ (.compStart _ 0 (.ref it) (.ref Z) (compEnvC scope (cellsFrom (s3.heap.objs.size + 1) scope.names (cloFrom X.env.cells scope.names [])) s3.heap.objs.size X.env)) (compPost _ X.A X.xe none _ (.ref Z) s3.heap.objs.size) { s3 with heap := pushCells (s3.heap.push { cls := .type "dict", data := .dict #[] }) scope.names }
  generalize hce : compEnvC scope (cellsFrom (s3.heap.objs.size + 1) scope.names (cloFrom X.env.cells scope.names [])) s3.heap.objs.size X.env = ce at I4 ptg pel ⊢
  have loc : ce.locals = s3.heap.objs.size := by subst hce; rfl
  generalize upd H2 Z (SetO X.w Z (fun _ => false) 0) = H3 at I3 I4 ptg pel u0 z3 f3
  have st4 : tn 0 (pushCells (s3.heap.push { cls := .type "dict", data := .dict #[] }) scope.names) := T.keep _ _ _ st3 fun b _ o q => pushCells_keeps _ _ _ _ (Heap.get?_push_of_some _ q)
  generalize h4 : ({ s3 with heap := pushCells (s3.heap.push { cls := .type "dict", data := .dict #[] }) scope.names } : Shared) = s4 at I4 ⊢
  have st4 : tn 0 s4.heap := by subst h4; exact st4
  have fps : ∀ {σ' : L2.St} {H' : Hp} {s' : Shared}, Inv (X.blk s3 H3 scope ce fp) [] σ' H' s' → (∀ b ∈ fp, H' b = none) → ∀ b ∈ fp, FpOk (X.blk s3 H3 scope ce fp) [] H' b := fun {_ _ _} J n b hb =>
    ⟨n b hb, (J.ok.exf b hb).1, J.ok.exfs b hb, .inl hb, fun x c q => (J.ok.exf b hb).2 x c q, fun p hp => by cases (show p ∈ ([] : List (Addr × Obj)) from hp)⟩
  have run : codeAny (model X.prog X.w) X.A (.compLoop (.SetComp elt [⟨tg, iter, [], 0⟩] scope pos) 0 (.ref it) (.ref Z) ce) (compPost (model X.prog X.w) X.A X.xe none (EP X pins σ Q) (.ref Z) s3.heap.objs.size) s4 := by
    refine PpSet.compLoopS_any (fun n s' => ∃ i H', Inv (X.blk s3 H3 scope ce fp) [] (wipe σ (own.map (·.2))) H' s' ∧ tn i s'.heap ∧ (∀ b ∈ fp, H' b = none) ∧ U i n H') ?_ m0 ⟨0, H3, I4, st4, z3, u0⟩
    rintro n s5 ⟨i, H5, I5, st5, z5, u5⟩
    rcases turns i n H5 u5 with ⟨stop, fin⟩ | ⟨go, N, less, step⟩
    · refine thnF (T.done (X.blk s3 H3 scope ce fp) rfl rfl rfl calm i [] s5 _ H5 (fun _ _ => False) I5 (fps I5 z5) st5 stop) fun r s6 ⟨hr, I6⟩ => ?_
      subst hr
      have fr : H5 s3.heap.objs.size = none := loc ▸ I6.free
      have I7 : Inv X pins σ H5 s6 := I3.call' (ch := fp) I6.os I6.base I6.hok I6.bare fun b hb => by
        obtain ⟨⟨_, q1, q2, q3, q4, q5⟩, _⟩ := f3 b hb
        exact ⟨q3, q1, q4, q5⟩
      obtain ⟨m, hn, _⟩ := I6.loc
      obtain ⟨g0, g1, g2, g3, g4, g5⟩ := I3.fpOk (Nat.le_refl _) fr
      exact ⟨m, loc ▸ (show s6.heap.Ns ce.locals m from hn), fun h'' sb => ⟨.ref Z, H5, I7.turned (t' := s6.toks) (fun b o hb q => (sb.2 b hb).trans q) g0 g1 g3 g4 g5, rfl, fin⟩⟩
    · refine thnF (T.item (X.blk s3 H3 scope ce fp) rfl rfl rfl calm i [] s5 _ H5 (fun _ _ => False) I5 (fps I5 z5) st5 go) fun r s6 ⟨u, hr, h6⟩ => ?_
      subst hr
      refine thnF h6 fun _ s7 ⟨x, H7, I7, r7, y7, st7, z7⟩ => ?_
      refine thnF (ptg.run _ s7 _ H7 x u _ (I7.pinned (fps I7 z7) (T.obj _ _ st7)) r7 (step x H7 y7)) fun _ s8 ⟨σ8, H8, I8, w8, q8⟩ => ?_
      refine thnF ((pts_nil (X := X.blk s3 H3 scope ce fp)).run _ s8 σ8 H8 (fun c H' => c = true ∧ H' = H8) I8 ⟨rfl, rfl⟩) fun b s9 ⟨H9, I9, hb, e9⟩ => ?_
      subst hb
      subst e9
      rw [if_pos rfl]
      refine thnF (pel.run _ s9 σ8 H9 _ I9 q8) fun z s10 ⟨yv, H10, I10, r10, k, F, cnt, ey, hZ, room, nx⟩ => ?_
      subst ey
      refine thnF (mt_sadd (X := X.blk s3 H3 scope ce fp) _ s10 σ8 H10 (.ref Z) [.int k] (.ref Z) [z] (fun _ H' => N H') I10 rfl (.cons r10 .nil) ⟨Z, k, F, cnt, rfl, rfl, hZ, room, nx⟩) fun _ s11 ⟨_, H11, I11, _, n11⟩ => ?_
      obtain ⟨m', lt, u'⟩ := less H11 n11
      have keep : ∀ b ∈ fp, ∀ o, s7.heap.get? b = some o → s11.heap.get? b = some o ∧ H11 b = none := fun b hb o q =>
        have := I11.pin (b, o) (List.mem_append_right _ (List.mem_append_right _ (mem_pinsAt hb q)))
        ⟨this.1, this.2.1⟩
      refine ⟨m', lt, i + 1, H11, (I11.unpinned (pins := [])).weak (by rw [← w8, wipe_length]) (fun j v q => (wipe_some (w8 ▸ q)).1), T.keep _ _ _ st7 fun b hb o q => (keep b hb o q).1, fun b hb => ?_, u'⟩
      obtain ⟨o, q, _⟩ := T.obj _ _ st7 b hb
      exact (keep b hb o q).2
  exact PpSet.codeAny_compStart_set run (T.self X.A 0 _ _ _ st4 run)
theorem kSt {W : World} {e : Expr} {wi : TI} {g : TG} {te : TE} {vs : List Nat} (p : PE X e (tSt X.w wi g te vs)) (h : X.w = W := by rfl) : PE X e (tSt W wi g te vs) := h ▸ p
theorem kSortSet {W : World} (calm : X.calm = true) (h : X.w = W := by rfl) : CallR X (.builtin "sorted") (rSortedSet W) := h ▸ cr_sortedSet calm
end
/-- what a turn reaches -/
def StN (K : PySem.W.Frag) (C : Fx) (B : Hp) (I : Nat → (Int → Bool) → Nat → Own → Prop) (W : World) (σ : L2.St) (ρ : List Sl) (Z : Addr) (i : Nat) : Hp → Prop := fun H => ∃ M F n w, I i F n w ∧ Ds K C B σ H M ρ ((Z, .ho (SetO W Z F n)) :: w) []
section
variable {K : PySem.W.Frag} {C : Fx} {B : Hp} {σ : L2.St} {H M : Hp} {ρ ρ2 : List Sl} {w : Own} {tp : List (V × PyData)} {Q : VK} {te ti : TE} {tl : TA} {g : TG} {v y : V} {ds : List PyData} {Z : Addr} {vs : List Nat} {k i n : Nat} {W : World} {F : Int → Bool} {I : Nat → (Int → Bool) → Nat → Own → Prop} {a : Int} {R : VK}
theorem x_stT (h : ti σ H fun x H1 => ForT K (StB W g te vs Q σ) x H1) : tSt W (iTup K ti) g te vs σ H Q := h
theorem x_stA {σ0 : L2.St} (S : Ds K C B σ H M ρ ((Z, .ho (SetO W Z F n)) :: w) tp) (hr : Rew K C B σ ρ σ0 ρ2) (room : n + 1 < scanBound) (hI : I (i + 1) (fun j => F j || decide (j = a)) (if F a = true then n else n + 1) w) :
    StA W Z (StN K C B I W σ0 ρ2 Z (i + 1)) (.int a) H := by
  obtain ⟨_, e⟩ := S.own _ (List.mem_cons_self ..)
  exact ⟨a, F, n, rfl, e, room, M, _, _, w, hI, hr (S.mut (j := 0) (od' := .ho (SetO W Z (fun j => F j || decide (j = a)) (if F a = true then n else n + 1))) rfl upd_same)⟩
/-- over a tuple, one name -/
theorem x_st1T (I : Nat → (Int → Bool) → Nat → Own → Prop) (S : Ds K C B σ H M ρ w tp) (ht : Tm tp v (.tuple ds)) (h0 : I 0 (fun _ => false) 0 w)
    (hs : ∀ i d F n w1, ds[i]? = some d → I i F n w1 → ∀ Z σ1 H1 M1, Rew K C M σ1 (ρ.set k (.d d)) (wipe σ [k]) (ρ.set k .u) → Ds K C M σ1 H1 M1 (ρ.set k (.d d)) ((Z, .ho (SetO W Z F n)) :: w1) [] → te σ1 H1 (StA W Z (StN K C M I W (wipe σ [k]) (ρ.set k .u) Z (i + 1))))
    (hd : ∀ F n w1, I ds.length F n w1 → ∀ Z H1 M1, Ds K C B σ H1 M1 ρ ((Z, .ho (SetO W Z F n)) :: w1) tp → Q (.ref Z) H1) : ForT K (StB W (gName k) te [k] Q σ) v H := by
  obtain ⟨p, xs, rfl, h1, h2⟩ := dp_tup (ht.dp S)
  refine ⟨p, rfl, ⟨xs, Same.seqT S.sub h1⟩, fun Z hZ => ⟨fun i m H1 => m = xs.length - i ∧ i ≤ xs.length ∧ StN K C M I W (wipe σ [k]) (ρ.set k .u) Z i H1, ⟨xs.length, rfl, Nat.zero_le _, M, _, 0, w, h0, (S.base.clr.wiped [k]).newO hZ upd_same⟩, ?_⟩⟩
  rintro i m H1 ⟨rfl, hi, M1, F, n, w1, hI, S1⟩
  have sq : SqT K H1 p xs := Same.seqT (S1.bs.trans S1.sub) h1
  by_cases lt : i < xs.length
  · refine .inr ⟨⟨xs, xs[i], sq, List.getElem?_eq_getElem lt⟩, StN K C M I W (wipe σ [k]) (ρ.set k .u) Z (i + 1), fun H' q => ⟨xs.length - (i + 1), by omega, rfl, lt, q⟩, ?_⟩
    rintro x H' ⟨rfl, yl⟩
    have hx := yl xs sq
    have hi' : i < ds.length := by rw [← dpAll_len h2]; exact lt
    have e := List.getElem?_eq_getElem hi'
    have S2 := S1.set (i := k) (v := x) (s := .d ds[i]) (Dp.same S1.bs (dpAll_at h2 i x _ hx e))
    rw [List.set_set] at S2
    exact ⟨wipe1, hs i _ F n w1 e hI Z _ _ M1 rew1 S2⟩
  · have e : i = ds.length := by rw [← dpAll_len h2]; omega
    exact .inl ⟨⟨xs, sq, by omega⟩, hd F n w1 (e ▸ hI) Z H1 M1 (S.outof S1)⟩
theorem dpA_ints : ∀ {ns : List Int}, DpAll K M (ns.map V.int) (ns.map PyData.int)
  | [] => .nil
  | n :: _ => .cons (.int n) dpA_ints
theorem h_sortS {us : List V} (h : rSortedSet W us H R) : rSortedSet W us H R := h
theorem x_sortS {p : Addr} (j : Nat) (S : Ds K C B σ H M ρ w tp) (hj : w[j]? = some (p, .ho (SetO W p F n))) (h64 : n < 64) (q : ∀ (ns : List Int) (l : Addr) H', ns.Pairwise (· < ·) → (∀ k : Int, k ∈ ns ↔ F k = true) → ns.length = n → Ds K C B σ H' M ρ ((l, .lst (ns.map .int)) :: w) tp → R (.ref l) H') : rSortedSet W [.ref p] H R := by
  obtain ⟨_, e⟩ := S.own _ (List.mem_of_getElem? hj)
  exact ⟨p, F, n, rfl, e, h64, fun ns l h1 h2 h3 hl => q ns l _ h1 h2 h3 (S.newL hl dpA_ints)⟩
end
end Pf

namespace Pf
open PySem PySem.Spec PyProof.Rows L2 HT
/-! xs[0::2], xs[1::2] of a list; pop(0); the place in an own list -/
def evens {α : Type} : List α → List α
  | [] => []
  | [x] => [x]
  | x :: _ :: r => x :: evens r
def odds {α : Type} : List α → List α
  | [] => []
  | [_] => []
  | _ :: y :: r => y :: odds r
theorem evens_len {α : Type} : ∀ l : List α, (evens l).length = (l.length + 1) / 2
  | [] => by simp [evens]
  | [_] => by simp [evens]
  | _ :: _ :: r => by
    show (evens r).length + 1 = (r.length + 1 + 1 + 1) / 2
    rw [evens_len r]
    omega
theorem odds_len {α : Type} : ∀ l : List α, (odds l).length = l.length / 2
  | [] => by simp [odds]
  | [_] => by simp [odds]
  | _ :: _ :: r => by
    show (odds r).length + 1 = (r.length + 1 + 1) / 2
    rw [odds_len r]
    omega
theorem evens_at {α : Type} : ∀ (l : List α) (k : Nat), (evens l)[k]? = l[2 * k]?
  | [], k => by simp [evens]
  | [x], 0 => rfl
  | [x], k + 1 => by
    show ([] : List α)[k]? = [x][2 * (k + 1)]?
    rw [List.getElem?_eq_none (Nat.zero_le _), List.getElem?_eq_none (by show 1 ≤ _; omega)]
  | x :: y :: r, 0 => rfl
  | x :: y :: r, k + 1 => by
    show (evens r)[k]? = (x :: y :: r)[2 * (k + 1)]?
    rw [evens_at r k, show 2 * (k + 1) = 2 * k + 1 + 1 by omega]
    rfl
theorem odds_at {α : Type} : ∀ (l : List α) (k : Nat), (odds l)[k]? = l[2 * k + 1]?
  | [], k => by simp [odds]
  | [x], k => by
    show ([] : List α)[k]? = [x][2 * k + 1]?
    rw [List.getElem?_eq_none (Nat.zero_le _), List.getElem?_eq_none (by show 1 ≤ _; omega)]
  | x :: y :: r, 0 => rfl
  | x :: y :: r, k + 1 => by
    show (odds r)[k]? = (x :: y :: r)[2 * (k + 1) + 1]?
    rw [odds_at r k, show 2 * (k + 1) + 1 = 2 * k + 1 + 1 + 1 by omega]
    rfl
def everyB {α : Type} (b : Bool) (l : List α) : List α := if b = true then odds l else evens l
theorem every_at {α : Type} (b : Bool) (l : List α) (k : Nat) : (everyB b l)[k]? = l[2 * k + if b = true then 1 else 0]? := by
  cases b
  · exact evens_at l k
  · exact odds_at l k
theorem every_len {α : Type} (b : Bool) (l : List α) : (everyB b l).length = (l.length + if b = true then 0 else 1) / 2 := by
  cases b
  · exact evens_len l
  · exact odds_len l
theorem evens_map {α β : Type} {f : α → β} : ∀ l : List α, evens (l.map f) = (evens l).map f
  | [] => by simp [evens]
  | [_] => by simp [evens]
  | x :: _ :: r => congrArg (f x :: ·) (evens_map r)
theorem odds_map {α β : Type} {f : α → β} : ∀ l : List α, odds (l.map f) = (odds l).map f
  | [] => by simp [odds]
  | [_] => by simp [odds]
  | _ :: y :: r => congrArg (f y :: ·) (odds_map r)
theorem every_map {α β : Type} {f : α → β} (b : Bool) (l : List α) : everyB b (l.map f) = (everyB b l).map f := by
  cases b
  · exact evens_map l
  · exact odds_map l
theorem fm_range {α : Type} (f : Nat → Nat) (l : List α) : ∀ (n : Nat) (m : List α), m.length = n → (∀ k, k < n → l[f k]? = m[k]?) → ((List.range n).map f).filterMap (l[·]?) = m := by
  intro n
  induction n with
  | zero =>
    intro m h _
    rw [List.length_eq_zero_iff.mp h]
    rfl
  | succ n ih =>
    intro m h q
    obtain ⟨m', x, rfl⟩ : ∃ m' x, m = m' ++ [x] := ⟨_, _, (List.dropLast_concat_getLast (by intro e; rw [e] at h; cases h)).symm⟩
    rw [List.length_append] at h
    have hl : m'.length = n := by
      have : m'.length + 1 = n + 1 := h
      omega
    rw [List.range_succ, List.map_append, List.filterMap_append, ih m' hl fun k hk => by rw [q k (by omega), List.getElem?_append_left (by omega)]]
    have := q n (Nat.lt_succ_self n)
    rw [List.getElem?_append_right (by omega), hl, Nat.sub_self] at this
    show m' ++ [f n].filterMap (l[·]?) = m' ++ [x]
    rw [List.filterMap_cons, this]
    rfl
theorem pick2 (b : Bool) (its : List Value) : slicePick its.toArray (some (if b = true then 1 else 0)) none (some 2) = (everyB b its).toArray := by
  have key : ∀ c : Int, 0 ≤ c → c ≤ 1 → ∀ k : Nat, (max 0 (min c (its.length : Int)) + 2 * (k : Int)).toNat = 2 * k + (max 0 (min c (its.length : Int))).toNat := fun c h0 h1 k => by omega
  unfold slicePick sliceBounds sliceRange
  have hs : its.toArray.size = its.length := List.size_toArray ..
  congr 1
  dsimp only [Option.getD_some]
  rw [hs]
  simp only [show (2 : Int) > 0 by decide, if_true]
  have hm : ∀ k, (its.toArray)[k]? = its[k]? := fun k => List.getElem?_toArray ..
  simp only [hm]
  cases b with
  | false =>
    rw [show max 0 (min (if (if false = true then (1 : Int) else 0) < 0 then (if false = true then (1 : Int) else 0) + (its.length : Int) else if false = true then 1 else 0) (its.length : Int)) = 0 by
      simp only [Bool.false_eq_true, if_false]
      rw [if_neg (by decide)]
      omega]
    refine fm_range _ _ _ _ ?_ fun k hk => ?_
    · rw [every_len]
      simp only [Bool.false_eq_true, if_false]
      split <;> omega
    · rw [every_at]
      congr 1
      simp only [Bool.false_eq_true, if_false]
      omega
  | true =>
    rw [show max 0 (min (if (if true = true then (1 : Int) else 0) < 0 then (if true = true then (1 : Int) else 0) + (its.length : Int) else if true = true then 1 else 0) (its.length : Int)) = min 1 (its.length : Int) by
      simp only [if_true]
      rw [if_neg (by decide)]
      omega]
    refine fm_range _ _ _ _ ?_ fun k hk => ?_
    · rw [every_len]
      simp only [if_true]
      split <;> omega
    · rw [every_at]
      congr 1
      simp only [if_true]
      split at hk <;> omega
theorem vals_every : ∀ (b : Bool) {xs : List V} {its : List Value}, Vals xs its → Vals (everyB b xs) (everyB b its)
  | false, _, _, .nil => .nil
  | true, _, _, .nil => .nil
  | false, _, _, .cons r .nil => .cons r .nil
  | true, _, _, .cons _ .nil => .nil
  | false, _, _, .cons r (.cons _ t) => .cons r (vals_every false t)
  | true, _, _, .cons _ (.cons r t) => .cons r (vals_every true t)
theorem every_le {α : Type} (b : Bool) (l : List α) : (everyB b l).length ≤ l.length := by
  rw [every_len]
  cases b
  · simp only [Bool.false_eq_true, if_false]
    omega
  · simp only [if_true]
    omega
section
variable {X : Cx}
def rEvery (K : PySem.W.Frag) (b : Bool) (Q : VK) (x : V) (H1 : Hp) : Prop := ∃ a xs, x = .ref a ∧ SqL K H1 a xs ∧ ∀ p, H1 p = none → Q (.ref p) (upd H1 p (.lst (everyB b xs)))
def tEvery (K : PySem.W.Frag) (b : Bool) (te : TE) : TE := fun σ H Q => te σ H fun x H1 => rEvery K b Q x H1
theorem pe_every (b : Bool) {e : Expr} {te : TE} {K : PySem.W.Frag} {k1 k2 : Nat} {p1 p2 p3 pos : Pos} (he : PE X e te) (hK : X.K = K := by rfl) : PE X (.Subscript e (.Slice (some (.Constant (.int (if b = true then 1 else 0)) k1 p1)) none (some (.Constant (.int 2) k2 p2)) p3) pos) (tEvery K b te) := by
  subst hK
  refine ⟨fun pins s σ H Q I h => Subscript_ (thn (he.run pins s σ H _ I h) fun v s1 ⟨x, H1, I1, r1, a, xs, ex, hx, q⟩ => ?_)⟩
  subst ex
  cases r1
  have plo : PO X (some (.Constant (.int (if b = true then 1 else 0)) k1 p1)) (tPart (tC (.int (if b = true then 1 else 0)))) := po_some pe_int
  have pst : PO X (some (.Constant (.int 2) k2 p2)) (tPart (tC (.int 2))) := po_some pe_int
  refine wpAny_Slice (thn (plo.run pins s1 σ H1 (fun o J => o = some (if b = true then 1 else 0) ∧ J = H1) I1 ⟨_, rfl, rfl, rfl⟩) fun vl s2 ⟨l, H2, I2, pl, el, e2⟩ => ?_)
  subst el
  subst e2
  refine thn (po_none.run pins s2 σ H2 (fun o J => o = none ∧ J = H2) I2 ⟨rfl, rfl⟩) fun vu s3 ⟨u, H3, I3, pu, eu, e3⟩ => ?_
  subst eu
  subst e3
  refine thn (pst.run pins s3 σ H3 (fun o J => o = some 2 ∧ J = H3) I3 ⟨_, rfl, rfl, rfl⟩) fun vs s4 ⟨o, H4, I4, ps, eo, e4⟩ => ?_
  subst eo
  subst e4
  obtain ⟨its, r, ht, hz⟩ := (I4.kept (t' := s4.toks) (h' := s4.heap.push { cls := .type "slice", data := .fields #[vl, vu, vs] }) fun _ _ q => Heap.get?_push_of_some _ q).list hx
  have I5 : Inv X pins σ H4 { s4 with heap := s4.heap.push { cls := .type "slice", data := .fields #[vl, vu, vs] } } := I4.kept (t' := s4.toks) fun _ _ q => Heap.get?_push_of_some _ q
  refine tail_any (ops := [.ref a, .ref s4.heap.objs.size]) ht.isList.typeIs PySem.slot_list_getitem.lookup ?_ (by with_unfolding_all rfl)
  refine wpAny_getItem_list_slice ht.isList (Heap.IsSliceOf.new _ vl vu vs) pl pu ps (by decide) ?_ (by rw [List.size_toArray, ← r.length]; exact hz)
  rw [pick2]
  refine ⟨.ref _, upd H4 _ (.lst (everyB b xs)), I5.laid (t' := s4.toks) (o := .lst (everyB b xs)) (fun _ _ q => Heap.get?_push_of_some _ q) (Nat.le_refl _) ?_, rfl, q _ (I5.hok.fresh (Nat.le_refl _))⟩
  exact ⟨Nat.le_trans (every_le b xs) hz, _, 0, vals_every b r, Heap.get?_push_size _ rfl⟩
end
section
variable {K : PySem.W.Frag} {C : Fx} {B : Hp} {σ : L2.St} {H M : Hp} {ρ : List Sl} {w w' : Own} {tp : List (V × PyData)} {Q R : VK} {te : TE} {v y : V} {ds : List PyData} {d : PyData} {b : Bool} {i : Nat} {p : Addr}
theorem dpAll_every : ∀ (b : Bool) {us : List V} {ds : List PyData}, DpAll K M us ds → DpAll K M (everyB b us) (everyB b ds)
  | false, _, _, .nil => .nil
  | true, _, _, .nil => .nil
  | false, _, _, .cons r .nil => .cons r .nil
  | true, _, _, .cons _ .nil => .nil
  | false, _, _, .cons r (.cons _ t) => .cons r (dpAll_every false t)
  | true, _, _, .cons _ (.cons r t) => .cons r (dpAll_every true t)
theorem x_every (h : te σ H fun x H1 => rEvery K b Q x H1) : tEvery K b te σ H Q := h
theorem h_every (h : rEvery K b Q v H) : rEvery K b Q v H := h
theorem x_everyL (S : Ds K C B σ H M ρ w tp) (ht : Tm tp v (.list ds)) (q : ∀ p H', Ds K C B σ H' M ρ ((p, .lst (everyB b ds)) :: w) tp → Q (.ref p) H') : rEvery K b Q v H := by
  obtain ⟨p, xs, rfl, h1, h2⟩ := dp_lst (ht.dp S)
  exact ⟨p, xs, rfl, S.sub.seq h1, fun l hl => q l _ (S.newL hl (dpAll_every b h2))⟩
/-- p.pop(0), p an own list in a slot -/
def PopK (Q : VK) (x y : V) (H2 : Hp) : Prop := rPopAt x [y] H2 Q
theorem h_pop0 (h : tBM K "list" rPopAt (tVar i) (tCons te tNil) σ H Q) : tBM K "list" rPopAt (tVar i) (tCons te tNil) σ H Q := h
theorem x_pop0 (j : Nat) (S : Ds K C B σ H M ρ w tp) (h : ρ[i]? = some (.v (.ref p))) (hj : w[j]? = some (p, .lst (d :: ds))) (hw : SetAt w j (p, .lst ds) w') (z : ∀ H', Ds K C B σ H' M ρ w' tp → Giv K M H' Q d) : tBM K "list" rPopAt (tVar i) (tCons (tC (.int 0)) tNil) σ H Q := by
  obtain ⟨v, h1, h2⟩ := S.get h (fun z => nomatch z)
  cases (show v = .ref p from h2)
  obtain ⟨_, xs, h3, h4⟩ := S.own _ (List.mem_of_getElem? hj)
  cases h4 with
  | cons hd ht =>
    refine ⟨_, h1, .inl ⟨rfl, _, .of h3⟩, p, _, 0, 0, _, rfl, rfl, h3, by decide, by decide, ?_, rfl, z _ ?_ _ hd⟩
    · simp [seqIndex?]
    · rw [hw.eq]
      exact S.mut (od' := .lst ds) hj ⟨_, upd_same, ht⟩
theorem nums_open {j : Nat} (S : Ds K C B σ H M ρ w tp) (hj : w[j]? = some (p, .nums)) : ∃ ns : List Int, Ds K C B σ H M ρ (w.set j (p, .lst (ns.map .int))) tp := by
  obtain ⟨_, ns, h⟩ := S.own _ (List.mem_of_getElem? hj)
  exact ⟨ns, S.reOd hj ⟨_, h, dpA_ints⟩⟩
theorem nums_close {j : Nat} {ns : List Int} (S : Ds K C B σ H M ρ w tp) (hj : w[j]? = some (p, .lst (ns.map .int))) : Ds K C B σ H M ρ (w.set j (p, .nums)) tp := by
  obtain ⟨_, us, h, e⟩ := S.own _ (List.mem_of_getElem? hj)
  cases dpAll_ints e
  exact S.reOd hj ⟨ns, h⟩
/-- the place of an item in an own list -/
theorem nd_ne {x : Addr} {od od' : Od} (S : Ds K C B σ H M ρ ((x, od) :: (p, od') :: w) tp) : x ∉ [p] := fun z => (List.nodup_cons.mp S.nd).1 (by rw [List.mem_singleton.mp z]; exact List.mem_cons_self ..)
theorem x_lixFO {A : Prop} (j : Nat) (S : Ds K C B σ H M ρ w tp) (hj : w[j]? = some (p, .lst ds)) (h : A) : tyV K "list" (.ref p) H ∧ A := by
  obtain ⟨_, us, e, _⟩ := S.own _ (List.mem_of_getElem? hj)
  exact ⟨.inl ⟨rfl, _, .of e⟩, h⟩
theorem x_lixO {α : Type} [DecidableEq α] {f : α → PyData} {xs : List α} {c : α} (e : Enc f) (j : Nat) (S : Ds K C B σ H M ρ w tp) (hj : w[j]? = some (p, .lst (xs.map f))) (hy : Tm tp y (f c)) (hd : (f c).depth ≤ 64) (hd2 : ∀ x ∈ xs, (f x).depth ≤ 63) (hm : c ∈ xs) (q : Q (.int (xs.idxOf c : Nat)) H) : rIndexD K (.ref p) [y] H Q := by
  obtain ⟨_, us, h1, h2⟩ := S.own _ (List.mem_of_getElem? hj)
  refine ⟨p, y, f c, xs.map f, xs.idxOf c, f c, rfl, rfl, .lst (.of h1) (DpAll.same S.sub h2), Dp.same S.sub (hy.dp S), ?_, by unfold SeqAt.shaped; rw [e.lay, decide_eq_true hd]; rfl, (e.idx hm).1, by rw [e.eq]; exact decide_eq_true rfl, (e.idx hm).2, q⟩
  have deep : ∀ zs : List α, (∀ x ∈ zs, (f x).depth ≤ 63) → PyData.depthAll (zs.map f) ≤ 63 := fun zs h => by
    induction zs with
    | nil => exact Nat.zero_le _
    | cons z zs ih =>
      have a := h z (List.mem_cons_self ..)
      have b := ih fun x hx => h x (List.mem_cons_of_mem _ hx)
      show max (f z).depth (PyData.depthAll (zs.map f)) ≤ 63
      omega
  have a := deep xs hd2
  unfold SeqAt.shaped
  rw [show (PyData.list (xs.map f)).canLay0 = true from e.layAll xs, Bool.true_and]
  refine decide_eq_true ?_
  show PyData.depthAll (xs.map f) + 1 ≤ 64
  omega
end
end Pf

namespace Pf
open PySem PySem.Spec PyProof.Rows L2
open Tr
/-! the tree of a table of truth -/
def bt : Nat → Int → List Bool → Tr
  | 0, _, bs => .leaf (bs.all id)
  | n + 1, k, bs => if bs.all id = true then .leaf true else if bs.any id = true then mk k (bt n (k + 1) (everyB false bs)) (bt n (k + 1) (everyB true bs)) else .leaf false
/-- the place of a set in the table -/
def code (S : Int → Bool) : Nat → Int → Nat
  | 0, _ => 0
  | n + 1, k => 2 * code S n (k + 1) + if S k = true then 1 else 0
theorem code_lt {S : Int → Bool} : ∀ (n : Nat) (k : Int), code S n k < 2 ^ n
  | 0, _ => Nat.one_pos
  | n + 1, k => by
    have := code_lt (S := S) n (k + 1)
    show 2 * code S n (k + 1) + (if S k = true then 1 else 0) < 2 ^ (n + 1)
    rw [Nat.pow_succ]
    split <;> omega
theorem all_at {bs : List Bool} {i : Nat} {x : Bool} (h : bs.all id = true) (e : bs[i]? = some x) : x = true := List.all_eq_true.mp h x (List.mem_of_getElem? e)
theorem any_at {bs : List Bool} {i : Nat} {x : Bool} (h : bs.any id = false) (e : bs[i]? = some x) : x = false := by
  cases x with
  | false => rfl
  | true =>
    have : bs.any id = true := List.any_eq_true.mpr ⟨true, List.mem_of_getElem? e, rfl⟩
    rw [h] at this
    cases this
theorem half_len {b : Bool} {bs : List Bool} {n : Nat} (h : bs.length = 2 ^ (n + 1)) : (everyB b bs).length = 2 ^ n := by
  rw [every_len, h, Nat.pow_succ]
  cases b
  · simp only [Bool.false_eq_true, if_false]
    omega
  · simp only [if_true]
    omega
theorem bt_ev {S : Int → Bool} : ∀ (n : Nat) (k : Int) (bs : List Bool), bs.length = 2 ^ n → bs[code S n k]? = some ((bt n k bs).ev S)
  | 0, k, bs, h => by
    obtain ⟨b, rfl⟩ := List.length_eq_one_iff.mp h
    show some b = some (b && true)
    rw [Bool.and_true]
  | n + 1, k, bs, h => by
    have lt := code_lt (S := S) (n + 1) k
    obtain ⟨x, hx⟩ : ∃ x, bs[code S (n + 1) k]? = some x := ⟨_, List.getElem?_eq_getElem (by omega)⟩
    unfold bt
    by_cases h1 : bs.all id = true
    · rw [if_pos h1, hx, all_at h1 hx]
      rfl
    · rw [if_neg h1]
      by_cases h2 : bs.any id = true
      · rw [if_pos h2, mk_ev]
        have i1 := bt_ev (S := S) n (k + 1) (everyB false bs) (half_len h)
        have i2 := bt_ev (S := S) n (k + 1) (everyB true bs) (half_len h)
        rw [every_at] at i1 i2
        show bs[2 * code S n (k + 1) + if S k = true then 1 else 0]? = _
        by_cases hk : S k = true
        · rw [if_pos hk, if_pos hk]
          exact i2
        · rw [if_neg hk, if_neg hk]
          exact i1
      · rw [if_neg h2, hx, any_at (Bool.eq_false_iff.mpr h2) hx]
        rfl
theorem bt_ok : ∀ (n : Nat) (k : Int) (bs : List Bool), (bt n k bs).Ok ∧ (bt n k bs).Ab (k - 1)
  | 0, _, _ => ⟨trivial, trivial⟩
  | n + 1, k, bs => by
    unfold bt
    by_cases h1 : bs.all id = true
    · rw [if_pos h1]
      exact ⟨trivial, trivial⟩
    · rw [if_neg h1]
      by_cases h2 : bs.any id = true
      · rw [if_pos h2]
        obtain ⟨o1, a1⟩ := bt_ok n (k + 1) (everyB false bs)
        obtain ⟨o2, a2⟩ := bt_ok n (k + 1) (everyB true bs)
        rw [show k + 1 - 1 = k by omega] at a1 a2
        refine ⟨mk_ok o1 o2 a1 a2, ?_⟩
        unfold mk
        by_cases e : bt n (k + 1) (everyB false bs) = bt n (k + 1) (everyB true bs)
        · rw [if_pos e]
          exact a1.mono (by omega)
        · rw [if_neg e]
          show k - 1 < k
          omega
      · rw [if_neg h2]
        exact ⟨trivial, trivial⟩
theorem bt_ov {vs : List Int} : ∀ (n : Nat) (k : Int) (bs : List Bool), (∀ j, k ≤ j → j < k + n → j ∈ vs) → (bt n k bs).Ov vs
  | 0, _, _, _ => trivial
  | n + 1, k, bs, h => by
    unfold bt
    by_cases h1 : bs.all id = true
    · rw [if_pos h1]
      trivial
    · rw [if_neg h1]
      by_cases h2 : bs.any id = true
      · rw [if_pos h2]
        have o1 := bt_ov n (k + 1) (everyB false bs) fun j a b => h j (by omega) (by omega)
        have o2 := bt_ov n (k + 1) (everyB true bs) fun j a b => h j (by omega) (by omega)
        unfold mk
        by_cases e : bt n (k + 1) (everyB false bs) = bt n (k + 1) (everyB true bs)
        · rw [if_pos e]
          exact o1
        · rw [if_neg e]
          exact ⟨h k (by omega) (by omega), o1, o2⟩
      · rw [if_neg h2]
        trivial
theorem bt_ht : ∀ (n : Nat) (k : Int) (bs : List Bool), (bt n k bs).ht ≤ n
  | 0, _, _ => Nat.le_refl _
  | n + 1, k, bs => by
    unfold bt
    by_cases h1 : bs.all id = true
    · rw [if_pos h1]
      exact Nat.zero_le _
    · rw [if_neg h1]
      by_cases h2 : bs.any id = true
      · rw [if_pos h2]
        have a := bt_ht n (k + 1) (everyB false bs)
        have b := bt_ht n (k + 1) (everyB true bs)
        unfold mk
        by_cases e : bt n (k + 1) (everyB false bs) = bt n (k + 1) (everyB true bs)
        · rw [if_pos e]
          omega
        · rw [if_neg e]
          show max _ _ + 1 ≤ n + 1
          omega
      · rw [if_neg h2]
        exact Nat.zero_le _
theorem wr_same {o : List Tr} : ∀ {t : Tr}, Here o t → wr t o = o
  | .leaf _, _ => rfl
  | .node n a b, h => by
    unfold wr
    exact if_pos h
theorem bh_parts {o : List Tr} {n : Int} {a b : Tr} (hb : Bh o) (h : Tr.node n a b ∈ o) : Here o a ∧ Here o b := by
  obtain ⟨i, hi⟩ := List.getElem?_of_mem h
  obtain ⟨_, _, _, e, h1, h2⟩ := hb.bh i _ hi
  cases e
  exact ⟨h1.mono fun _ z => List.mem_of_mem_take z, h2.mono fun _ z => List.mem_of_mem_take z⟩
theorem wr_eq {n : Int} {a : Tr} {o : List Tr} : wr (mk n a a) o = wr a (wr a o) := by
  unfold mk
  rw [if_pos rfl, wr_same (wr_here a o)]
theorem wr_in {n : Int} {a b : Tr} {o : List Tr} (hb : Bh o) (h : Tr.node n a b ∈ wr b (wr a o)) : wr (.node n a b) o = wr b (wr a o) := by
  by_cases e : Tr.node n a b ∈ o
  · obtain ⟨h1, h2⟩ := bh_parts hb e
    rw [wr_same (show Here o (.node n a b) from e), wr_same h1, wr_same h2]
  · exact absurd h (wr_new e)
theorem wr_out {n : Int} {a b : Tr} {o : List Tr} (h : Tr.node n a b ∉ wr b (wr a o)) : wr (.node n a b) o = wr b (wr a o) ++ [.node n a b] := by
  have e : Tr.node n a b ∉ o := fun z => h (wr_old b (wr_old a z))
  rw [wr, if_neg e]
theorem get_idx {o : List Tr} {x : Tr} (h : x ∈ o) : o[o.idxOf x]? = some x := by
  rw [List.getElem?_eq_getElem (List.idxOf_lt_length_of_mem h), List.getElem_idxOf]
theorem idx_leaf {o : List Tr} {b : Bool} : idx o (.leaf b) ≤ 1 := by cases b <;> simp [idx]
theorem idx_inj {o : List Tr} {a b : Tr} (ha : Here o a) (hb : Here o b) (e : idx o a = idx o b) : a = b := by
  cases a with
  | leaf x =>
    cases b with
    | leaf y =>
      cases x <;> cases y <;> first | rfl | exact absurd e (by simp [idx])
    | node n c d =>
      have h1 : idx o (.leaf x) ≤ 1 := idx_leaf
      have h2 : idx o (.node n c d) = 2 + (o.idxOf (Tr.node n c d) : Nat) := rfl
      omega
  | node m f g =>
    cases b with
    | leaf y =>
      have h1 : idx o (.leaf y) ≤ 1 := idx_leaf
      have h2 : idx o (.node m f g) = 2 + (o.idxOf (Tr.node m f g) : Nat) := rfl
      omega
    | node n c d =>
      have h1 : idx o (.node m f g) = 2 + (o.idxOf (Tr.node m f g) : Nat) := rfl
      have h2 : idx o (.node n c d) = 2 + (o.idxOf (Tr.node n c d) : Nat) := rfl
      have h3 : o.idxOf (Tr.node m f g) = o.idxOf (Tr.node n c d) := by omega
      have h4 := get_idx (show Tr.node m f g ∈ o from ha)
      rw [h3, get_idx (show Tr.node n c d ∈ o from hb)] at h4
      exact (Option.some.inj h4).symm
theorem row_inj {o : List Tr} {t s : Tr} (hb : Bh o) (hs : s ∈ o) {n : Int} {a b : Tr} (ht : t = .node n a b) (ha : Here o a) (hb2 : Here o b) (e : rowOf o t = rowOf o s) : t = s := by
  obtain ⟨i, hi⟩ := List.getElem?_of_mem hs
  obtain ⟨m, c, d, rfl, h1, h2⟩ := hb.bh i _ hi
  subst ht
  have up : ∀ x ∈ o.take i, x ∈ o := fun _ z => List.mem_of_mem_take z
  have e1 : n = m := congrArg (·.1) e
  have e2 : idx o a = idx o c := congrArg (·.2.1) e
  have e3 : idx o b = idx o d := congrArg (·.2.2) e
  rw [e1, idx_inj ha (h1.mono up) e2, idx_inj hb2 (h2.mono up) e3]
theorem row_mem {o : List Tr} {n : Int} {a b : Tr} (hb : Bh o) (ha : Here o a) (hb2 : Here o b) : rowOf o (.node n a b) ∈ o.map (rowOf o) ↔ Tr.node n a b ∈ o :=
  ⟨fun h => by
    obtain ⟨s, hs, e⟩ := List.mem_map.mp h
    rw [row_inj hb hs rfl ha hb2 e.symm]
    exact hs, fun h => List.mem_map_of_mem h⟩
theorem idxOf_inj {α β : Type} [DecidableEq α] [DecidableEq β] {f : α → β} {x : α} : ∀ {l : List α}, x ∈ l → (∀ y ∈ l, f x = f y → x = y) → (l.map f).idxOf (f x) = l.idxOf x
  | [], h, _ => nomatch h
  | y :: l, h, inj => by
    rw [List.map_cons, List.idxOf_cons, List.idxOf_cons]
    by_cases e : y = x
    · rw [e, beq_self_eq_true, beq_self_eq_true]
      rfl
    · have e2 : f y ≠ f x := fun z => e (inj y (List.mem_cons_self ..) z.symm).symm
      rw [beq_eq_false_iff_ne.mpr e, beq_eq_false_iff_ne.mpr e2]
      show _ + 1 = _ + 1
      rw [idxOf_inj ((List.mem_cons.mp h).resolve_left fun z => e z.symm) fun z hz => inj z (List.mem_cons_of_mem _ hz)]
theorem row_idx {o : List Tr} {n : Int} {a b : Tr} (hb : Bh o) (h : Tr.node n a b ∈ o) : @List.idxOf (Int × Int × Int) instBEqOfDecidableEq (rowOf o (.node n a b)) (o.map (rowOf o)) = o.idxOf (.node n a b) := by
  obtain ⟨h1, h2⟩ := bh_parts hb h
  exact idxOf_inj h fun y hy e => row_inj hb hy rfl h1 h2 e
/-! families -/
/-- some row lies within -/
def famB (rs : List (List Int)) (S : Int → Bool) : Bool := rs.any fun r => r.all S
def bits (m c : Nat) : List Int := (rng m).filter fun p => decide ((c : Int) / 2 ^ p.toNat % 2 = 1)
theorem code_bit {S : Int → Bool} : ∀ (m : Nat) (k : Int) (j : Nat), j < m → code S m k / 2 ^ j % 2 = if S (k + j) = true then 1 else 0
  | 0, _, _, h => absurd h (Nat.not_lt_zero _)
  | m + 1, k, 0, _ => by
    show (2 * code S m (k + 1) + if S k = true then 1 else 0) / 1 % 2 = _
    rw [Nat.div_one, show k + ((0 : Nat) : Int) = k from Int.add_zero k]
    split <;> omega
  | m + 1, k, j + 1, h => by
    have ih := code_bit (S := S) m (k + 1) j (by omega)
    show (2 * code S m (k + 1) + if S k = true then 1 else 0) / 2 ^ (j + 1) % 2 = _
    rw [Nat.pow_succ, Nat.mul_comm (2 ^ j) 2, ← Nat.div_div_eq_div_mul]
    have e : (2 * code S m (k + 1) + if S k = true then 1 else 0) / 2 = code S m (k + 1) := by split <;> omega
    rw [e, ih, show k + 1 + (j : Int) = k + ((j + 1 : Nat) : Int) by omega]
theorem bits_code {S : Int → Bool} {m : Nat} {p : Int} (hp : p ∈ rng m) : decide (p ∈ bits m (code S m 0)) = S p := by
  obtain ⟨h0, h1⟩ := rng_mem.mp hp
  obtain ⟨j, rfl⟩ := Int.eq_ofNat_of_zero_le h0
  have hc := code_bit (S := S) m 0 j (by omega)
  rw [Int.zero_add] at hc
  have e : ((code S m 0 : Nat) : Int) / 2 ^ ((j : Nat) : Int).toNat % 2 = ((code S m 0 / 2 ^ j % 2 : Nat) : Int) := by
    rw [Int.toNat_natCast]
    simp
  rw [Bool.eq_iff_iff, decide_eq_true_iff]
  unfold bits
  rw [List.mem_filter, decide_eq_true_iff, e, hc]
  by_cases h : S (j : Int) = true
  · rw [if_pos h]
    exact ⟨fun _ => h, fun _ => ⟨hp, rfl⟩⟩
  · rw [if_neg h]
    exact ⟨fun z => absurd z.2 (by decide), fun z => absurd z h⟩
theorem fam_congr {rs : List (List Int)} {m : Nat} {S S' : Int → Bool} (hr : ∀ r ∈ rs, r.Sublist (rng m)) (h : ∀ p ∈ rng m, S p = S' p) : famB rs S = famB rs S' := by
  have e : ∀ r ∈ rs, r.all S = r.all S' := fun r hr2 => by
    rw [Bool.eq_iff_iff, List.all_eq_true, List.all_eq_true]
    exact ⟨fun z x hx => (h x ((hr r hr2).subset hx)) ▸ z x hx, fun z x hx => (h x ((hr r hr2).subset hx)).symm ▸ z x hx⟩
  unfold famB
  rw [Bool.eq_iff_iff, List.any_eq_true, List.any_eq_true]
  exact ⟨fun ⟨r, a, b⟩ => ⟨r, a, e r a ▸ b⟩, fun ⟨r, a, b⟩ => ⟨r, a, (e r a).symm ▸ b⟩⟩
def truthOf (rs : List (List Int)) (m : Nat) : List Bool := (List.range (2 ^ m)).map fun c => famB rs fun p => decide (p ∈ bits m c)
theorem truth_ev {rs : List (List Int)} {m : Nat} (hr : ∀ r ∈ rs, r.Sublist (rng m)) (S : Int → Bool) : (bt m 0 (truthOf rs m)).ev S = famB rs S := by
  have h := bt_ev (S := S) m 0 (truthOf rs m) (by unfold truthOf; rw [List.length_map, List.length_range])
  unfold truthOf at h
  rw [List.getElem?_map, List.getElem?_range (code_lt m 0)] at h
  have h := Option.some.inj h
  unfold truthOf
  rw [← h]
  exact fam_congr hr fun p hp => bits_code hp
end Pf

namespace Pf
open PySem PySem.Spec PyProof.Rows L2
/-! sets as ascending lists, their order, least ones -/
theorem snoc_ind {α : Type} {motive : List α → Prop} (nil : motive []) (snoc : ∀ l x, motive l → motive (l ++ [x])) (l : List α) : motive l := by
  have h : ∀ n (l : List α), l.length = n → motive l := fun n => by
    induction n with
    | zero => exact fun l h => List.length_eq_zero_iff.mp h ▸ nil
    | succ n ih =>
      intro l h
      obtain ⟨us, x, rfl⟩ : ∃ us x, l = us ++ [x] := ⟨_, _, (List.dropLast_concat_getLast (by intro e; rw [e] at h; cases h)).symm⟩
      rw [List.length_append] at h
      exact snoc us x (ih us (Nat.succ.inj h))
  exact h _ l rfl
abbrev Asc (a : List Int) : Prop := a.Pairwise (· < ·)
def lxLt : List Int → List Int → Prop
  | a :: as, b :: bs => a < b ∨ (a = b ∧ lxLt as bs)
  | _, _ => False
def sLt (a b : List Int) : Prop := a.length < b.length ∨ (a.length = b.length ∧ lxLt a b)
theorem lx_irr : ∀ a : List Int, ¬ lxLt a a
  | [], h => h
  | a :: as, h => by
    rcases h with h | h
    · omega
    · exact lx_irr as h.2
theorem lx_tr : ∀ {a b c : List Int}, lxLt a b → lxLt b c → lxLt a c
  | [], _, _, h, _ => h.elim
  | _ :: _, [], _, h, _ => h.elim
  | _ :: _, _ :: _, [], _, h => h.elim
  | a :: as, b :: bs, c :: cs, h, k => by
    rcases h with h | ⟨h1, h2⟩ <;> rcases k with k | ⟨k1, k2⟩
    · exact .inl (by omega)
    · exact .inl (by omega)
    · exact .inl (by omega)
    · exact .inr ⟨by omega, lx_tr h2 k2⟩
theorem lx_tri : ∀ {a b : List Int}, a.length = b.length → a = b ∨ lxLt a b ∨ lxLt b a
  | [], [], _ => .inl rfl
  | [], _ :: _, h => nomatch h
  | _ :: _, [], h => nomatch h
  | a :: as, b :: bs, h => by
    by_cases h1 : a < b
    · exact .inr (.inl (.inl h1))
    · by_cases h2 : b < a
      · exact .inr (.inr (.inl h2))
      · have e : a = b := by omega
        subst e
        rcases lx_tri (a := as) (b := bs) (Nat.succ.inj h) with h | h | h
        · exact .inl (by rw [h])
        · exact .inr (.inl (.inr ⟨rfl, h⟩))
        · exact .inr (.inr (.inr ⟨rfl, h⟩))
theorem lx_snoc {x y : Int} : ∀ {a b : List Int}, a.length = b.length → lxLt a b → lxLt (a ++ [x]) (b ++ [y])
  | [], _, _, h => h.elim
  | _ :: _, [], _, h => h.elim
  | a :: as, b :: bs, e, h => by
    rcases h with h | ⟨h1, h2⟩
    · exact .inl h
    · exact .inr ⟨h1, lx_snoc (Nat.succ.inj e) h2⟩
theorem lx_last {x y : Int} (h : x < y) : ∀ a : List Int, lxLt (a ++ [x]) (a ++ [y])
  | [] => .inl h
  | _ :: as => .inr ⟨rfl, lx_last h as⟩
theorem s_irr (a : List Int) : ¬ sLt a a := fun h => h.elim (fun z => Nat.lt_irrefl _ z) fun z => lx_irr a z.2
theorem s_tr {a b c : List Int} (h : sLt a b) (k : sLt b c) : sLt a c := by
  rcases h with h | ⟨h1, h2⟩ <;> rcases k with k | ⟨k1, k2⟩
  · exact .inl (by omega)
  · exact .inl (by omega)
  · exact .inl (by omega)
  · exact .inr ⟨by omega, lx_tr h2 k2⟩
theorem s_tri (a b : List Int) : a = b ∨ sLt a b ∨ sLt b a := by
  by_cases h1 : a.length < b.length
  · exact .inr (.inl (.inl h1))
  · by_cases h2 : b.length < a.length
    · exact .inr (.inr (.inl h2))
    · have e : a.length = b.length := by omega
      rcases lx_tri e with h | h | h
      · exact .inl h
      · exact .inr (.inl (.inr ⟨e, h⟩))
      · exact .inr (.inr (.inr ⟨e.symm, h⟩))
theorem s_snoc {a b : List Int} {x y : Int} (h : sLt a b) : sLt (a ++ [x]) (b ++ [y]) := by
  rcases h with h | ⟨h1, h2⟩
  · exact .inl (by rw [List.length_append, List.length_append]; show a.length + 1 < b.length + 1; omega)
  · exact .inr ⟨by rw [List.length_append, List.length_append]; show a.length + 1 = b.length + 1; omega, lx_snoc h1 h2⟩
theorem s_ext : ∀ {a b : List (List Int)}, a.Pairwise sLt → b.Pairwise sLt → (∀ x, x ∈ a ↔ x ∈ b) → a = b
  | [], [], _, _, _ => rfl
  | [], y :: _, _, _, h => nomatch (h y).mpr (List.mem_cons_self ..)
  | x :: _, [], _, _, h => nomatch (h x).mp (List.mem_cons_self ..)
  | x :: xs, y :: ys, ha, hb, h => by
    obtain ⟨a1, a2⟩ := List.pairwise_cons.mp ha
    obtain ⟨b1, b2⟩ := List.pairwise_cons.mp hb
    have e : x = y := by
      rcases List.mem_cons.mp ((h x).mp (List.mem_cons_self ..)) with e | e
      · exact e
      · rcases List.mem_cons.mp ((h y).mpr (List.mem_cons_self ..)) with e' | e'
        · exact e'.symm
        · exact absurd (s_tr (b1 _ e) (a1 _ e')) (s_irr _)
    subst e
    rw [s_ext a2 b2 fun z => ⟨fun hz => ((List.mem_cons.mp ((h z).mp (List.mem_cons_of_mem _ hz))).resolve_left fun e => s_irr _ (e ▸ a1 _ hz)), fun hz => ((List.mem_cons.mp ((h z).mpr (List.mem_cons_of_mem _ hz))).resolve_left fun e => s_irr _ (e ▸ b1 _ hz))⟩]
theorem asc_sub : ∀ {a b : List Int}, Asc a → Asc b → (∀ x ∈ a, x ∈ b) → a.Sublist b
  | [], b, _, _, _ => List.nil_sublist b
  | x :: _, [], _, _, h => nomatch h x (List.mem_cons_self ..)
  | x :: xs, y :: ys, ha, hb, h => by
    obtain ⟨a1, a2⟩ := List.pairwise_cons.mp ha
    obtain ⟨b1, b2⟩ := List.pairwise_cons.mp hb
    by_cases e : x = y
    · subst e
      exact (asc_sub a2 b2 fun z hz => (List.mem_cons.mp (h z (List.mem_cons_of_mem _ hz))).resolve_left fun e => by have := a1 _ hz; omega).cons₂ _
    · refine (asc_sub ha b2 fun z hz => (List.mem_cons.mp (h z hz)).resolve_left fun e' => ?_).cons _
      have hx := (List.mem_cons.mp (h x (List.mem_cons_self ..))).resolve_left e
      have h1 := b1 _ hx
      rcases List.mem_cons.mp hz with hz | hz
      · omega
      · have := a1 _ hz
        omega
theorem asc_eq {a b : List Int} (ha : Asc a) (hb : Asc b) (h : ∀ x ∈ a, x ∈ b) (hl : b.length ≤ a.length) : a = b := by
  have := asc_sub ha hb h
  exact this.eq_of_length (Nat.le_antisymm this.length_le hl)
theorem asc_of {a b : List Int} (h : a.Sublist b) (hb : Asc b) : Asc a := hb.sublist h
def subB (a b : List Int) : Bool := a.all fun p => decide (p ∈ b)
theorem subB_iff {a b : List Int} : subB a b = true ↔ ∀ x ∈ a, x ∈ b := by
  unfold subB
  rw [List.all_eq_true]
  exact ⟨fun h x hx => of_decide_eq_true (h x hx), fun h x hx => decide_eq_true (h x hx)⟩
/-- the ones that hold and lie above no found one -/
def scan (G : List Int → Bool) (l : List (List Int)) : List (List Int) := l.foldl (fun acc x => if (G x && !acc.any fun z => subB z x) = true then acc ++ [x] else acc) []
theorem scan_snoc {G : List Int → Bool} {l : List (List Int)} {x : List Int} : scan G (l ++ [x]) = if (G x && !(scan G l).any fun z => subB z x) = true then scan G l ++ [x] else scan G l := by
  unfold scan
  rw [List.foldl_append]
  rfl
theorem scan_len {G : List Int → Bool} {l : List (List Int)} : (scan G l).length ≤ l.length := by
  induction l using snoc_ind with
  | nil => exact Nat.le_refl _
  | snoc l x ih =>
    rw [scan_snoc, List.length_append]
    split
    · rw [List.length_append]
      exact Nat.succ_le_succ ih
    · exact Nat.le_succ_of_le ih
def Least (G : List Int → Bool) (l : List (List Int)) (m : List Int) : Prop := m ∈ l ∧ G m = true ∧ ∀ y ∈ l, G y = true → (∀ x ∈ y, x ∈ m) → y = m
theorem least_in {G : List Int → Bool} {l : List (List Int)} (ha : ∀ m ∈ l, Asc m) : ∀ (n : Nat) {y : List Int}, y.length ≤ n → y ∈ l → G y = true → ∃ z, Least G l z ∧ ∀ x ∈ z, x ∈ y
  | n, y, hn, hy, hG => by
    by_cases h : ∃ z ∈ l, G z = true ∧ (∀ x ∈ z, x ∈ y) ∧ z ≠ y
    · obtain ⟨z, hz, hGz, hs, hne⟩ := h
      have hl : z.length < y.length := by
        rcases Nat.lt_or_ge z.length y.length with q | q
        · exact q
        · exact absurd (asc_eq (ha z hz) (ha y hy) hs q) hne
      match n with
      | 0 => omega
      | n + 1 =>
        obtain ⟨u, hu, hus⟩ := least_in ha n (y := z) (by omega) hz hGz
        exact ⟨u, hu, fun x hx => hs x (hus x hx)⟩
    · refine ⟨y, ⟨hy, hG, fun z hz hGz hs => ?_⟩, fun _ h => h⟩
      exact Classical.byContradiction fun hne => h ⟨z, hz, hGz, hs, hne⟩
theorem scan_spec {G : List Int → Bool} (l : List (List Int)) (ha : ∀ m ∈ l, Asc m) (ho : l.Pairwise fun a b => ¬ sLt b a) : (scan G l).Pairwise sLt ∧ ∀ m, m ∈ scan G l ↔ Least G l m := by
  induction l using snoc_ind with
  | nil => exact ⟨List.Pairwise.nil, fun m => Iff.intro (fun h => absurd h List.not_mem_nil) (fun h => absurd h.1 List.not_mem_nil)⟩
  | snoc l x ih =>
    obtain ⟨o1, _, o3⟩ := List.pairwise_append.mp ho
    obtain ⟨i1, i2⟩ := ih (fun m hm => ha m (List.mem_append_left _ hm)) o1
    have hax := ha x (List.mem_append_right _ (List.mem_singleton.mpr rfl))
    have hle : ∀ z ∈ l, z.length ≤ x.length := fun z hz => Nat.le_of_not_lt fun q => o3 z hz x (List.mem_singleton.mpr rfl) (.inl q)
    have key : ((scan G l).any fun z => subB z x) = true ↔ ∃ y ∈ l, G y = true ∧ ∀ p ∈ y, p ∈ x := by
      rw [List.any_eq_true]
      constructor
      · rintro ⟨z, hz, hs⟩
        have := (i2 z).mp hz
        exact ⟨z, this.1, this.2.1, subB_iff.mp hs⟩
      · rintro ⟨y, hy, hG, hs⟩
        obtain ⟨z, hz, hzs⟩ := least_in (G := G) (fun m hm => ha m (List.mem_append_left _ hm)) y.length (Nat.le_refl _) hy hG
        exact ⟨z, (i2 z).mpr hz, subB_iff.mpr fun p hp => hs p (hzs p hp)⟩
    have old : ∀ m, Least G l m → Least G (l ++ [x]) m := fun m hm => ⟨List.mem_append_left _ hm.1, hm.2.1, fun y hy hG hs => by
      rcases List.mem_append.mp hy with hy | hy
      · exact hm.2.2 y hy hG hs
      · rw [List.mem_singleton.mp hy] at hs ⊢
        exact asc_eq hax (ha m (List.mem_append_left _ hm.1)) hs (hle m hm.1)⟩
    have back : ∀ m, m ∈ l → Least G (l ++ [x]) m → Least G l m := fun m hm h => ⟨hm, h.2.1, fun y hy => h.2.2 y (List.mem_append_left _ hy)⟩
    rw [scan_snoc]
    by_cases hk : (G x && !(scan G l).any fun z => subB z x) = true
    · rw [if_pos hk]
      rw [Bool.and_eq_true, Bool.not_eq_true'] at hk
      have hno : ¬ ∃ y ∈ l, G y = true ∧ ∀ p ∈ y, p ∈ x := fun z => by rw [key.mpr z] at hk; cases hk.2
      refine ⟨List.pairwise_append.mpr ⟨i1, List.pairwise_singleton _ _, fun z hz y hy => ?_⟩, fun m => ?_⟩
      · rw [List.mem_singleton.mp hy]
        have hz2 := (i2 z).mp hz
        rcases s_tri z x with e | e | e
        · exact absurd ⟨z, hz2.1, hz2.2.1, fun p hp => e ▸ hp⟩ hno
        · exact e
        · exact absurd e (o3 z hz2.1 x (List.mem_singleton.mpr rfl))
      · rw [List.mem_append, List.mem_singleton]
        constructor
        · rintro (h | rfl)
          · exact old m ((i2 m).mp h)
          · exact ⟨List.mem_append_right _ (List.mem_singleton.mpr rfl), hk.1, fun y hy hG hs => by
              rcases List.mem_append.mp hy with hy | hy
              · exact absurd ⟨y, hy, hG, hs⟩ hno
              · exact List.mem_singleton.mp hy⟩
        · intro h
          rcases List.mem_append.mp h.1 with hm | hm
          · exact .inl ((i2 m).mpr (back m hm h))
          · exact .inr (List.mem_singleton.mp hm)
    · rw [if_neg hk]
      refine ⟨i1, fun m => ⟨fun h => old m ((i2 m).mp h), fun h => ?_⟩⟩
      rcases List.mem_append.mp h.1 with hm | hm
      · exact (i2 m).mpr (back m hm h)
      · rw [List.mem_singleton.mp hm] at h ⊢
        have hs : ((scan G l).any fun z => subB z x) = true := by
          cases q : (scan G l).any fun z => subB z x with
          | true => rfl
          | false => exact absurd (by rw [h.2.1, q]; rfl) hk
        obtain ⟨z, hz, hzs⟩ := List.any_eq_true.mp hs
        have hz2 := (i2 z).mp hz
        have e := h.2.2 z (List.mem_append_left _ hz2.1) hz2.2.1 (subB_iff.mp hzs)
        exact e ▸ hz
/-! all sets of numbers, as the search makes them -/
def lastOk (u : List Int) (n : Int) : Bool := match u.getLast? with
  | none => true
  | some y => decide (y < n)
def kids (ks u : List Int) : List (List Int) := (ks.filter (lastOk u)).map fun n => u ++ [n]
/-- found at `at` -/
structure Bfs (ks : List Int) (n : Nat) (F : List (List Int)) : Prop where
  le : n ≤ F.length
  eq : F = [] :: (F.take n).flatMap (kids ks)
  up : F.Pairwise sLt
  sub : ∀ a ∈ F, a.Sublist ks
theorem kids_up {ks u : List Int} (h : Asc ks) : (kids ks u).Pairwise sLt := by
  unfold kids
  rw [List.pairwise_map]
  exact (h.filter _).imp fun {a b} hab => .inr ⟨by rw [List.length_append, List.length_append]; rfl, lx_last hab u⟩
theorem last_asc {u : List Int} {n : Int} (hu : Asc u) (h : lastOk u n = true) : Asc (u ++ [n]) := by
  refine List.pairwise_append.mpr ⟨hu, List.pairwise_singleton _ _, fun x hx y hy => ?_⟩
  rw [List.mem_singleton.mp hy]
  unfold lastOk at h
  cases e : u.getLast? with
  | none =>
    rw [List.getLast?_eq_none_iff.mp e] at hx
    exact nomatch hx
  | some z =>
    rw [e] at h
    have h : z < n := of_decide_eq_true h
    obtain ⟨v, rfl⟩ := List.getLast?_eq_some_iff.mp e
    rcases List.mem_append.mp hx with hx | hx
    · have := (List.pairwise_append.mp hu).2.2 x hx z (List.mem_singleton.mpr rfl)
      omega
    · rw [List.mem_singleton.mp hx]
      exact h
theorem kids_mem {ks u a : List Int} (hk : Asc ks) (hu : u.Sublist ks) : a ∈ kids ks u ↔ ∃ n, a = u ++ [n] ∧ a.Sublist ks := by
  unfold kids
  rw [List.mem_map]
  constructor
  · rintro ⟨n, hn, rfl⟩
    obtain ⟨h1, h2⟩ := List.mem_filter.mp hn
    refine ⟨n, rfl, asc_sub (last_asc (asc_of hu hk) h2) hk fun x hx => ?_⟩
    rcases List.mem_append.mp hx with hx | hx
    · exact hu.subset hx
    · rw [List.mem_singleton.mp hx]
      exact h1
  · rintro ⟨n, rfl, hs⟩
    refine ⟨n, List.mem_filter.mpr ⟨hs.subset (List.mem_append_right _ (List.mem_singleton.mpr rfl)), ?_⟩, rfl⟩
    unfold lastOk
    cases e : u.getLast? with
    | none => rfl
    | some z =>
      have := (List.pairwise_append.mp (asc_of hs hk)).2.2 z (by obtain ⟨v, rfl⟩ := List.getLast?_eq_some_iff.mp e; exact List.mem_append_right _ (List.mem_singleton.mpr rfl)) n (List.mem_singleton.mpr rfl)
      exact decide_eq_true this
theorem Bfs.zero (ks : List Int) : Bfs ks 0 [[]] := ⟨Nat.zero_le _, rfl, List.pairwise_singleton _ _, fun a ha => by rw [List.mem_singleton.mp ha]; exact List.nil_sublist ks⟩
theorem Bfs.step {ks : List Int} {n : Nat} {F : List (List Int)} {u : List Int} (hk : Asc ks) (h : Bfs ks n F) (hu : F[n]? = some u) : Bfs ks (n + 1) (F ++ kids ks u) := by
  have hn : n < F.length := (List.getElem?_eq_some_iff.mp hu).1
  have hus := h.sub u (List.mem_of_getElem? hu)
  have et : (F ++ kids ks u).take (n + 1) = F.take n ++ [u] := by
    rw [List.take_append_of_le_length (by omega), List.take_succ, hu]
    rfl
  refine ⟨by rw [List.length_append]; omega, ?_, List.pairwise_append.mpr ⟨h.up, kids_up hk, fun y hy z hz => ?_⟩, fun a ha => ?_⟩
  · rw [et, List.flatMap_append]
    show F ++ kids ks u = [] :: ((F.take n).flatMap (kids ks) ++ (kids ks u ++ []))
    rw [List.append_nil, ← List.cons_append, ← h.eq]
  · obtain ⟨b, rfl, _⟩ := (kids_mem hk hus).mp hz
    rw [h.eq] at hy
    rcases List.mem_cons.mp hy with rfl | hy
    · exact .inl (by rw [List.length_append]; exact Nat.succ_pos _)
    · obtain ⟨v, hv, hy⟩ := List.mem_flatMap.mp hy
      obtain ⟨j, hj⟩ := List.getElem?_of_mem hv
      rw [List.getElem?_take] at hj
      split at hj
      · rename_i hjn
        obtain ⟨a, rfl, _⟩ := (kids_mem hk (h.sub v (List.mem_of_getElem? hj))).mp hy
        obtain ⟨q1, e1⟩ := List.getElem?_eq_some_iff.mp hj
        obtain ⟨q2, e2⟩ := List.getElem?_eq_some_iff.mp hu
        have := List.pairwise_iff_getElem.mp h.up j n q1 q2 hjn
        rw [e1, e2] at this
        exact s_snoc this
      · cases hj
  · rcases List.mem_append.mp ha with ha | ha
    · exact h.sub a ha
    · obtain ⟨_, _, q⟩ := (kids_mem hk hus).mp ha
      exact q
theorem Bfs.all {ks : List Int} {F : List (List Int)} (hk : Asc ks) (h : Bfs ks F.length F) (a : List Int) : a ∈ F ↔ a.Sublist ks := by
  refine ⟨h.sub a, fun hs => ?_⟩
  have he := h.eq
  rw [List.take_length] at he
  induction a using snoc_ind with
  | nil =>
    rw [he]
    exact List.mem_cons_self ..
  | snoc u b ih =>
    have hu := ih ((List.sublist_append_left u [b]).trans hs)
    rw [he]
    exact List.mem_cons_of_mem _ (List.mem_flatMap.mpr ⟨u, hu, (kids_mem hk (h.sub u hu)).mpr ⟨b, rfl, hs⟩⟩)
theorem nodup_le {α : Type} [DecidableEq α] : ∀ {l m : List α}, l.Nodup → (∀ x ∈ l, x ∈ m) → l.length ≤ m.length
  | [], _, _, _ => Nat.zero_le _
  | x :: l, m, hd, h => by
    obtain ⟨h1, h2⟩ := List.nodup_cons.mp hd
    have hx := h x (List.mem_cons_self ..)
    have ih := nodup_le (m := m.erase x) h2 fun y hy => (List.mem_erase_of_ne (show y ≠ x from fun e => h1 (e ▸ hy))).mpr (h y (List.mem_cons_of_mem _ hy))
    rw [List.length_erase_of_mem hx] at ih
    have := List.length_pos_of_mem hx
    show l.length + 1 ≤ m.length
    omega
def allSubs : List Int → List (List Int)
  | [] => [[]]
  | x :: r => (allSubs r).map (x :: ·) ++ allSubs r
theorem allSubs_len : ∀ l : List Int, (allSubs l).length = 2 ^ l.length
  | [] => rfl
  | x :: r => by
    show ((allSubs r).map (x :: ·) ++ allSubs r).length = 2 ^ (r.length + 1)
    rw [List.length_append, List.length_map, allSubs_len r, Nat.pow_succ]
    omega
theorem allSubs_mem : ∀ {l a : List Int}, a.Sublist l → a ∈ allSubs l
  | [], _, h => by rw [List.sublist_nil.mp h]; exact List.mem_singleton.mpr rfl
  | x :: r, a, h => by
    rcases List.sublist_cons_iff.mp h with h | ⟨b, e, h⟩
    · exact List.mem_append_right _ (allSubs_mem h)
    · rw [e]
      exact List.mem_append_left _ (List.mem_map_of_mem (allSubs_mem h))
theorem s_nodup {F : List (List Int)} (h : F.Pairwise sLt) : F.Nodup := List.Pairwise.imp (fun {a b} (q : sLt a b) (e : a = b) => s_irr b (e ▸ q)) h
theorem Bfs.len {ks : List Int} {n : Nat} {F : List (List Int)} (h : Bfs ks n F) : F.length ≤ 2 ^ ks.length := by
  rw [← allSubs_len]
  exact nodup_le (s_nodup h.up) fun a ha => allSubs_mem (h.sub a ha)
end Pf

namespace Pf
open PySem PySem.Spec PyProof.Rows L2
/-! a comprehension over an own list that stays as it is -/
section
variable {K : PySem.W.Frag} {C : Fx} {B : Hp} {σ : L2.St} {H M : Hp} {ρ : List Sl} {w : Own} {tp : List (V × PyData)} {Q : VK} {te : TE} {tt : TT} {g : TG} {ds : List PyData} {p : Addr} {vs : List Nat}
theorem x_wlcO (j : Nat) (I : Nat → List PyData → Prop) (S : Ds K C B σ H M ρ w tp) (hj : w[j]? = some (p, .lst ds)) (h0 : I 0 [])
    (hs : ∀ i d acc xs, ds[i]? = some d → I i acc → ∀ D u H1 M1, Ds K C M (wipe σ vs) H1 M1 (uset vs ρ) ((D, .lst acc) :: w.set j (p, .ho (.lst xs))) [(u, d)] → LcStep K C M (fun i acc w1 => I i acc ∧ w1 = w.set j (p, .ho (.lst xs))) σ ρ g tt te vs D i u H1)
    (hd : ∀ acc, I ds.length acc → ∀ D H1 M1, Ds K C B σ H1 M1 ρ ((D, .lst acc) :: w) tp → Q (.ref D) H1) : ForL K (LcB g tt te vs Q σ) (.ref p) H := by
  obtain ⟨_, xs, h1, h2⟩ := S.own _ (List.mem_of_getElem? hj)
  have S0 := S.reOd hj (od' := .ho (.lst xs)) h1
  have jl := (List.getElem?_eq_some_iff.mp hj).1
  have jw : (w.set j (p, Od.ho (.lst xs)))[j]? = some (p, .ho (.lst xs)) := List.getElem?_set_self jl
  have seq : ∀ {σ1 : L2.St} {H1 M1 : Hp} {ρ1 : List Sl} {D : Addr} {acc : List PyData} {tp1 : List (V × PyData)} {B1 : Hp}, Ds K C B1 σ1 H1 M1 ρ1 ((D, .lst acc) :: w.set j (p, .ho (.lst xs))) tp1 → H1 p = some (.lst xs) := fun S1 => (S1.own _ (List.mem_cons_of_mem _ (List.mem_of_getElem? jw))).2
  refine ⟨p, rfl, ⟨xs, .of h1⟩, fun D hD => lc_list (xs := xs) (LcN K C M (fun i acc w1 => I i acc ∧ w1 = w.set j (p, .ho (.lst xs))) (wipe σ vs) (uset vs ρ) D) ?_ (fun i H1 _ q => ?_) (fun i x H1 hx q => ?_) (fun H1 q => ?_)⟩
  · exact ⟨M, [], _, ⟨h0, rfl⟩, (S0.base.clr.wiped vs).newL hD .nil⟩
  · obtain ⟨M1, acc, w1, ⟨_, rfl⟩, S1⟩ := q
    exact .of (seq S1)
  · obtain ⟨M1, acc, w1, ⟨q, rfl⟩, S1⟩ := q
    have hi : i < ds.length := by rw [← dpAll_len h2]; exact (List.getElem?_eq_some_iff.mp hx).1
    have e := List.getElem?_eq_getElem hi
    exact hs i _ acc xs e q D x H1 M1 (S1.push (Dp.same S1.bs (dpAll_at h2 i x _ hx e)))
  · obtain ⟨M1, acc, w1, ⟨q, rfl⟩, S1⟩ := q
    have S2 := S0.outof S1
    have S3 := S2.reOd (j := j + 1) (od' := .lst ds) (by rw [List.getElem?_cons_succ]; exact jw) ⟨xs, seq S2, DpAll.same S1.bs h2⟩
    rw [List.set_cons_succ, List.set_set, set_self hj] at S3
    exact hd acc (dpAll_len h2 ▸ q) D H1 M1 S3
end
end Pf

namespace Pf
open PySem PySem.Spec PyProof.Rows L2
/-! sorted(rows, key=lambda row: (len(row), row)) -/
abbrev rowSc : Scope := { kind := .function, names := [(Str.ofString "row", .local), (Str.ofString "len", .globalImplicit)], isGenerator := false, isCoroutine := false, more := [] }
abbrev rowPs (p : Pos) : Arguments := { posonlyargs := [], args := [{ arg := "row", annotation := none, pos := p }], vararg := none, kwonlyargs := [], kw_defaults := [], kwarg := none, defaults := [] }
abbrev rowBody (p1 p2 p3 p4 p5 : Pos) : Expr := .Tuple [.Call (.Name "len" p1) [.Name "row" p2] [] p3, .Name "row" p4] 0 p5
def rowKey (r : List Int) : PyData := .tuple [.int (r.length : Nat), .tuple (r.map .int)]
section
variable {X : Cx} {pins : List (Addr × Obj)} {σ : L2.St} {H M : Hp} {s : Shared}
theorem Fr.id (O : List Addr) (h : Same M H) : Fr O H M H M := Fr.refl O h
/-- the lambda is made -/
theorem lam_tab {c P : Addr} {params : Arguments} {body : Expr} {scope : Scope} {pos : Pos} {E : Value → Shared → Prop} {Q : Value → Shared → Prop} (I : Inv X pins σ H s) (TB : LamX.TabB X.base X.mg c P) (hcode : X.env.code = .ref c) (hs : Same M H) (hP : M P = none) (hT : TabOk M H P (X.env.qual ++ "<lambda>"))
    (hdef : defaultsOf params X.env = ([], [])) (hcl : closureFor scope X.env = pure [])
    (h : ∀ (f c' : Addr) (pm ctv : Value) (H1 M1 : Hp) (s' : Shared), Inv X pins σ H1 s' → Fr [P] H M H1 M1 → TabOk M1 H1 P (X.env.qual ++ "<lambda>") → s'.heap.get? f = some (PySem.W.kla_obj "<lambda>" (X.env.qual ++ "<lambda>") params body scope [] pm c' ctv) → H1 c' = some (LamX.CodeO c' (X.env.qual ++ "<lambda>")) → Q (.ref f) s') :
    wpAny (model X.prog X.w) X.A (eval (.Lambda params body scope pos) X.env) Q E s := by
  obtain ⟨ps, tb, tr, am⟩ := hT
  refine PySem.W.kla_eval hdef ?_
  have bP : s.heap.BuiltinsAt X.mg P := TB.bm.keeps I.bk
  have oP : s.heap.get? P = some { cls := .none, data := .fields ps } := I.hok P _ tb
  cases hc : codeAmong pos ps.toList with
  | some cv =>
    obtain ⟨c', rfl, hco⟩ := am pos cv hc
    refine PySem.W.kla_makeFunctionHit (mg := X.mg) (c := c) (P := P) (ps := ps) hcl I.ok.glob (I.mod.glob.keeps I.bk) hcode (TB.code.keeps I.bk) oP tr hc bP fun ctv h' tk hx hsz => ?_
    exact h _ c' _ ctv H M _ (I.kept (t' := tk) fun b o e => Heap.get?_push_of_some _ (hx b o e)) (Fr.refl _ hs) ⟨ps, tb, tr, am⟩ (Heap.get?_push_size _ rfl) (hs _ _ hco)
  | none =>
    refine PySem.W.kla_makeFunction (mg := X.mg) (c := c) (P := P) (ps := ps) hcl I.ok.glob (I.mod.glob.keeps I.bk) hcode (TB.code.keeps I.bk) oP tr hc TB.gP bP fun c' ctv h' tk hx hge hlt hrec htb => ?_
    obtain ⟨c2, oc, us, t, e2, hoc, hd, hv⟩ := hrec
    cases e2
    have nH : H c' = none := I.hok.fresh hge
    have nM : M c' = none := hs.free nH
    have nPc : P ≠ c' := fun z => by rw [z, nH] at tb; cases tb
    have I1 := LamX.inv_table (t' := tk) (more := #[rawInt pos.line, rawInt pos.col, .ref c']) (q := X.env.qual ++ "<lambda>") (h' := h'.push (PySem.W.kla_obj "<lambda>" (X.env.qual ++ "<lambda>") params body scope [] ((X.mg "__name__").getD .none) c' ctv)) I tb
      (fun b o hb e => Heap.get?_push_of_some _ (hx b o hb e)) (Heap.get?_push_of_some _ htb) hge ⟨oc, us, t, Heap.get?_push_of_some _ hoc, hd, hv⟩
    have el : (ps ++ #[rawInt pos.line, rawInt pos.col, .ref c']).toList = ps.toList ++ [rawInt pos.line, rawInt pos.col, .ref c'] := by simp
    refine h _ c' _ ctv _ (upd M c' (LamX.CodeO c' (X.env.qual ++ "<lambda>"))) _ I1 ⟨fun b o hb e => ?_, fun b e => ?_, Same.new _ nM, fun b o e => ?_, fun b e f => ?_⟩ ⟨_, by rw [upd_ne nPc, upd_same], by rw [el]; exact PySem.TriplesOk_snoc _ _ _ _ tr, fun p' cv hcv => ?_⟩ (Heap.get?_push_size _ rfl) upd_same
    · rw [upd_ne (fun z => by rw [z, nH] at e; cases e), upd_ne (fun z => hb (by rw [z]; exact List.mem_singleton_self _))]
      exact e
    · by_cases q : b = c'
      · rw [q, upd_same]
        exact fun z => nomatch z
      · rw [upd_ne q]
        by_cases q2 : b = P
        · rw [q2, upd_same]
          exact fun z => nomatch z
        · rw [upd_ne q2]
          exact e
    · by_cases q : b = c'
      · rw [q, upd_same] at e
        rw [q, upd_same]
        exact e
      · rw [upd_ne q] at e
        rw [upd_ne q, upd_ne (fun z => by rw [z, hP] at e; cases e)]
        exact hs _ _ e
    · rw [upd_ne (fun z => f (by rw [z]; exact nH))]
      exact e
    · rw [el] at hcv
      rcases LamX.among_app _ tr hcv with z | z
      · obtain ⟨c0, e1, e2⟩ := am p' cv z
        exact ⟨c0, e1, Same.new _ nM _ _ e2⟩
      · exact ⟨c', z, upd_same⟩
theorem readsAll_ints {h : Heap} : ∀ {us : List Value} {r : List Int}, IntsAre us r → ReadsAll h us (r.map .int) []
  | _, _, .nil => .nil
  | _, _, .cons k t e => .cons (.int k t) (readsAll_ints e)
/-- the lambda's call -/
theorem lam_call {A : Around} {E : Value → Shared → Prop} {f c' t : Addr} {q : Str} {pm ctv : Value} {p0 p1 p2 p3 p4 p5 : Pos} {r : List Int} {its : List Value} {h : Heap} {tk : Nat} (I : Inv X pins σ H s) (len : X.mg "len" = none) (deep : A.depth < recursionLimit)
    (hx : ∀ b o, s.heap.get? b = some o → h.get? b = some o) (hf : s.heap.get? f = some (PySem.W.kla_obj "<lambda>" q (rowPs p0) (rowBody p1 p2 p3 p4 p5) rowSc [] pm c' ctv)) (hco : s.heap.CodeRec (.ref c') q) (ht : IsTup s.heap t its.toArray) (hi : IntsAre its r) (hl : its.length ≤ sizeLine) :
    wpAny (model X.prog X.w) A (call (.ref f) [.ref t]) (PySem.W.KeyPure (rowKey r) { s with heap := h, toks := tk }) E { s with heap := h, toks := tk } := by
  have J : Inv X pins σ H { s with heap := h, toks := tk } := I.kept hx
  obtain ⟨c2, oc, us, tt, e2, hoc, hd, hv⟩ := hco
  cases e2
  refine wpAny_call (PySem.W.kla_callFunE (o := _) deep (hx _ _ hf) rfl rfl rfl rfl ⟨c', oc, us, tt, rfl, hx _ _ hoc, hd, hv⟩ ?_)
  rw [show bindArgs (PySem.W.kla_fn "<lambda>" q (rowPs p0) (rowBody p1 p2 p3 p4 p5) rowSc [] pm (.ref c') ctv) ⟨[.ref t], []⟩ = pure [(Str.ofString "row", .ref t)] from rfl]
  refine wpAny_pure (wpAny_newFunctionEnv (show ∀ x ∈ rowSc.names, x.2 ≠ .cell by decide) (fun x hx => by rw [List.mem_singleton.mp hx]; rfl) (fun h₁ hns hsb => ⟨J.nolimit.fresh _ hsb, ?_⟩) rfl)
  have kp : ∀ b o, h.get? b = some o → h₁.get? b = some o := fun b o e => hsb.extBut b o (Nat.ne_of_lt (Heap.lt_size e)) (Heap.get?_push_of_some _ e)
  refine PySem.W.kla_codeExpr (wpAny_Tuple_spliced ?_)
  have sz : h.objs.size < h₁.objs.size := hns.lt
  generalize hen : newEnv rowSc h.objs.size mainGlobals [] _ (some f) (.ref c') none builtinsNs = env
  have env1 : env.scope = rowSc := by subst hen; rfl
  have env2 : env.locals = h.objs.size := by subst hen; rfl
  have env3 : env.globals = mainGlobals := by subst hen; rfl
  have env4 : env.builtins = builtinsNs := by subst hen; rfl
  have kr : env.kindOf "row" = some .local := by subst hen; rfl
  have kl : env.kindOf "len" = some .globalImplicit := by subst hen; rfl
  have kf : env.scope.kind = .function := by rw [env1]
  have rd : ∀ {A : Around} {E : Value → Shared → Prop} {p : Pos} {tk : Nat} {Q : Value → Shared → Prop}, Q (.ref t) { s with heap := h₁, toks := tk } → wpAny (model X.prog X.w) A (eval (.Name "row" p) env) Q E { s with heap := h₁, toks := tk } := fun {A E p tk Q} q =>
    wpAny_Name (wpAny_loadName_local kf kr (by rw [env2]; exact hns) rfl q)
  have ht1 : IsTup h₁ t its.toArray := by
    obtain ⟨o, a, b, d⟩ := ht
    exact ⟨o, kp _ _ (hx _ _ a), b, d⟩
  show wpAny _ _ (spliced ((false, eval (.Call (.Name "len" p1) [.Name "row" p2] [] p3) env) :: backTo p5 [(false, eval (.Name "row" p4) env)])) _ _ _
  refine Calls.spliced_cons (wpAny_Call_Name_kw ?_)
  obtain ⟨mb, b1, b2⟩ := J.mod.blt
  refine Calls.Name_function_global kf kl (Calls.loadGlobal_builtin (by rw [env3]; exact (J.mod.glob.keeps J.bk).keeps kp) len (by rw [env4]; exact (b1.keeps J.bk).keeps kp) ((b2 "len" (by decide)).trans PySem.boot_len) ?_)
  refine PyProof.Rows.callWith_builtin1 (e := .Name "row" p2) (rest := []) ?_
  show wpAny _ _ (spliced ((false, eval (.Name "row" p2) env) :: [])) _ _ _
  refine Calls.spliced_cons (rd (Calls.spliced_nil ?_))
  refine len_tuple ht1 (by rw [List.size_toArray]; have := line63; omega) ?_
  show wpAny _ _ (spliced ((false, eval (.Name "row" p4) env) :: [])) _ _ _
  refine Calls.spliced_cons (rd (Calls.spliced_nil ⟨by show 2 ≤ sizeLine; decide, ?_⟩))
  obtain ⟨ot, t1, t2, nt, t3⟩ := ht1
  have hz : its.toArray.size = r.length := by rw [List.size_toArray, hi.length]
  refine ⟨_, _, rfl, fun b o e => Heap.get?_push_of_some _ (kp b o e), ?_⟩
  rw [hz]
  refine Reads.tuple (Heap.get?_push_size _ rfl) rfl rfl (ReadsAll.cons (as := []) (bs := []) (.int _ _) (ReadsAll.cons (as := []) (bs := []) (Reads.tuple (Heap.get?_push_of_some _ t1) t2 t3 (readsAll_ints hi)) .nil))
end
/-- the rows in the order of sorted by that key -/
def sortRows (rs : List (List Int)) : List (List Int) := rs.mergeSort (PySem.W.dataLe false rowKey)
theorem rowKey_alike : ∀ b b' : List Int, PySem.W.alike (rowKey b) (rowKey b') = true := fun b b' => by
  show (true && (PySem.W.alikeAll (b.map .int) (b'.map .int) && true)) = true
  rw [PySem.W.alike_ints]
  rfl
theorem rowKey_depth (b : List Int) : (rowKey b).depth ≤ 2 := by
  show max 0 (max (PyData.depthAll (b.map .int) + 1) 0) + 1 ≤ 2
  rw [PySem.W.depth_ints]
  decide
def SortRowK (K : PySem.W.Frag) (P : Addr) (q : Str) (Q : VK) (x : V) (H1 : Hp) : Prop := ∃ (M : Hp) (a : Addr) (xs : List V) (rs : List (List Int)), x = .ref a ∧ Same M H1 ∧ M P = none ∧ TabOk M H1 P q ∧ SqL K H1 a xs ∧ DpAll K M xs (rs.map fun r => .tuple (r.map .int)) ∧
  ∀ ys p H2 M2, Fr [P] H1 M H2 M2 → TabOk M2 H2 P q → H1 p = none → M2 p = none → H2 p = some (.lst ys) → DpAll K M2 ys ((sortRows rs).map fun r => .tuple (r.map .int)) → Q (.ref p) H2
def tSortRow (K : PySem.W.Frag) (P : Addr) (q : Str) (te : TE) : TE := fun σ H Q => te σ H (SortRowK K P q Q)
section
variable {X : Cx}
theorem sqL_fr {K : PySem.W.Frag} {P a : Addr} {H M H' M' : Hp} {xs : List V} (F : Fr [P] H M H' M') (hP : ∃ ps, H P = some (.tbl ps)) (h : SqL K H a xs) : SqL K H' a xs := by
  obtain ⟨ps, hP⟩ := hP
  have ne : ∀ {o : HO}, H a = some o → (∀ ps, o ≠ .tbl ps) → a ∉ [P] := fun {o} e n z => by
    rw [List.mem_singleton.mp z, hP] at e
    cases e
    exact n ps rfl
  rcases h with (h | ⟨o, h⟩) | h
  · exact .inl (.inl (F.fr _ _ (ne h fun _ z => nomatch z) h))
  · exact .inl (.inr ⟨o, F.fr _ _ (ne h fun _ z => nomatch z) h⟩)
  · exact .inr h
theorem pe_sortRow {K : PySem.W.Frag} {c P : Addr} {k : Nat} {e : Expr} {te : TE} {p p0 p1 p2 p3 p4 p5 lp kp pos : Pos} (hr : Room (k + 1) X.A) (hg : Gl X "sorted") (hm : X.mg "sorted" = none) (len : X.mg "len" = none) (TB : LamX.TabB X.base X.mg c P) (hcode : X.env.code = .ref c) (he : PE X e te) (hK : X.K = K := by rfl)
    (hs : starEach [e] X.env = (false, eval e X.env) :: starEach [] X.env := by rfl) (hdef : defaultsOf (rowPs p0) X.env = ([], []) := by rfl) (hcl : closureFor rowSc X.env = pure [] := by rfl) :
    PE X (.Call (.Name "sorted" p) [e] [⟨some "key", .Lambda (rowPs p0) (rowBody p1 p2 p3 p4 p5) rowSc lp, kp⟩] pos) (tSortRow K P (X.env.qual ++ "<lambda>") te) := by
  subst hK
  refine ⟨fun pins s σ H Q I h => ?_⟩
  refine wpAny_Call_Name_kw (ld_blt I hg hm (show bootBuiltins "sorted" = some (.builtin "sorted") by decide +kernel) ?_)
  refine PyProof.Rows.callWith_kw (e := e) (rest := []) (thn ((pa_cons he pa_nil hs).run pos pins s σ H (fun us H1 => match us with | [x] => SortRowK X.K P (X.env.qual ++ "<lambda>") Q x H1 | _ => False) I h) fun us s1 ⟨vs, H1, I1, rv, hk⟩ => ?_) (by rw [hs]; rfl) (by rw [hs]; rfl)
  obtain ⟨x, rfl⟩ : ∃ x, vs = [x] := by
    match vs, hk with
    | [x], _ => exact ⟨x, rfl⟩
  obtain ⟨M, a, xs, rs, rfl, sm, hP, tb, sq, da, q⟩ := hk
  rw [Vals.ref1 rv]
  show wpAny _ _ (evalAll ((do let v ← eval (.Lambda (rowPs p0) (rowBody p1 p2 p3 p4 p5) rowSc lp) X.env; standAt pos; pure v) :: [])) _ _ s1
  refine wpAny_evalAll_cons (wpAny_bind (lam_tab I1 TB hcode sm hP tb hdef hcl fun f c' pm ctv H2 M2 s2 I2 F2 tb2 hf hco => wpAny_bind (wpAny_standAt (wpAny_pure (wpAny_evalAll_nil ?_)))))
  have sq2 := sqL_fr F2 (let ⟨ps, z, _⟩ := tb; ⟨ps, z⟩) sq
  have da2 : DpAll X.K M2 xs _ := DpAll.same F2.sm da
  obtain ⟨its, rv2, pl, hz⟩ := I2.list sq2
  have hco2 : s2.heap.CodeRec (.ref c') (X.env.qual ++ "<lambda>") := by
    obtain ⟨oc, us, t, h1, h2, h3⟩ := (I2.hok c' _ hco).1
    exact ⟨c', oc, us, t, rfl, h1, h2, h3⟩
  have each : PySem.W.EachIs (fun v r => ∃ t us, v = .ref t ∧ IsTup s2.heap t us.toArray ∧ IntsAre us r ∧ us.length ≤ sizeLine ∧ Dp X.K M2 (.ref t) (.tuple (r.map .int))) its rs := by
    clear q
    generalize hds : (rs.map fun r => PyData.tuple (r.map .int)) = ds at da2
    clear da sq sq2 pl hz rv
    induction rv2 generalizing ds rs with
    | nil =>
      cases da2
      cases rs with
      | nil => exact .nil
      | cons r rs => cases hds
    | cons r1 _ ih =>
      cases da2 with
      | cons d1 d2 =>
        cases rs with
        | nil => cases hds
        | cons r rs =>
          rw [List.map_cons] at hds
          obtain ⟨e3, e4⟩ := List.cons.inj hds
          subst e3
          obtain ⟨t, ys, rfl, h1, h2⟩ := dp_tup d1
          cases dpAll_ints h2
          obtain ⟨us, w1, w2, w3⟩ := I2.tuple (Same.seqT F2.sub h1)
          exact .cons ⟨t, us, r1, w2, w1.ints, by rw [← w1.length]; exact w3, d1⟩ (ih rs _ e4 d2)
  show wpAny _ _ (call (.builtin "sorted") [.ref a] [(Str.ofString "key", .ref f)]) _ _ s2
  refine PySem.W.sorted_key_data (b := false) (kw := [(Str.ofString "key", .ref f)]) rowKey pl.isList each (PySem.W.AllAlike.of rowKey_alike) (PySem.W.Sortable.tuples fun b => ⟨_, _, rfl⟩) (by rw [← each.length, ← rv2.length]; exact hz) (fun x _ => ?_) (PyProof.Rows.ksk_s1 _ _) (fun x => PyProof.Rows.ksk_l1 _ _) (fun x => PyProof.Rows.ksk_t1 _ _) (fun v r hR _ h tk hx => ?_) fun out cc h' tk hx hn hD hl ho => ?_
  · have h1 := rowKey_depth x
    have h2 := hr.un
    omega
  · obtain ⟨t, us, rfl, h1, h2, h3, _⟩ := hR
    exact lam_call I2 len (by have := hr.dp; show X.A.depth < recursionLimit; omega) hx hf hco2 h1 h2 h3
  · obtain ⟨ys, k1, k2⟩ : ∃ ys, Vals ys out ∧ DpAll X.K M2 ys ((sortRows rs).map fun r => .tuple (r.map .int)) := by
      clear hD hl q
      unfold sortRows
      generalize rs.mergeSort (PySem.W.dataLe false rowKey) = ss at ho ⊢
      induction ho with
      | nil => exact ⟨[], .nil, .nil⟩
      | cons h _ ih =>
        obtain ⟨t, us, rfl, _, _, _, d⟩ := h
        obtain ⟨ys, a, b⟩ := ih
        exact ⟨.ref t :: ys, .cons rfl a, .cons d b⟩
    have hfree : H2 (s2.heap.objs.size + 1) = none := I2.hok.fresh (Nat.le_succ _)
    have hm2 : M2 (s2.heap.objs.size + 1) = none := F2.sub.free hfree
    have hll : ys.length ≤ sizeLine := by
      rw [k1.length, hl, ← each.length, ← rv2.length]
      exact hz
    have nP : P ≠ s2.heap.objs.size + 1 := fun z => by
      obtain ⟨ps, e, _⟩ := tb2
      rw [z, hfree] at e
      cases e
    have old : H1 (s2.heap.objs.size + 1) = none := by
      cases z : H1 (s2.heap.objs.size + 1) with
      | none => rfl
      | some o => exact absurd hfree (F2.al _ (by rw [z]; exact fun z => nomatch z))
    refine ⟨.ref _, upd H2 (s2.heap.objs.size + 1) (.lst ys), I2.laid (t' := tk) hx (Nat.le_succ _) ⟨hll, out, cc, k1, hD⟩, rfl, q ys _ _ M2 ⟨fun b o hb e => ?_, fun b e => ?_, F2.sm, fun b o e => ?_, F2.mn⟩ ?_ old hm2 upd_same k2⟩
    · have e2 := F2.fr b o hb e
      rw [upd_ne (ne_of_none e2 hfree)]
      exact e2
    · by_cases z : b = s2.heap.objs.size + 1
      · rw [z, upd_same]
        exact fun z => nomatch z
      · rw [upd_ne z]
        exact F2.al b e
    · rw [upd_ne (ne_of_none e hm2)]
      exact F2.sub b o e
    · obtain ⟨ps, e1, e2, e3⟩ := tb2
      exact ⟨ps, by rw [upd_ne nP]; exact e1, e2, e3⟩
end
end Pf

namespace Pf
open PySem PySem.Spec PyProof.Rows L2
/-! what that order is; a step for it; a def whose code object is known; the end with a table -/
theorem lx_iff : ∀ {a b : List Int}, a.length = b.length → (lxLt a b ↔ a < b)
  | [], [], _ => ⟨fun h => h.elim, fun h => absurd h (List.lt_irrefl [])⟩
  | [], _ :: _, h => nomatch h
  | _ :: _, [], h => nomatch h
  | a :: as, b :: bs, h => by
    rw [List.cons_lt_cons_iff, ← lx_iff (Nat.succ.inj h)]
    exact Iff.rfl
theorem key_lt (a b : List Int) : PySem.W.dataLt (rowKey a) (rowKey b) = true ↔ sLt a b := by
  unfold rowKey
  rw [PySem.W.dataLt_pair (show PySem.W.alike (.int _) (.int _) = true by simp [PySem.W.alike]) (show PySem.W.alike (.tuple (a.map .int)) (.tuple (b.map .int)) = true by simp [PySem.W.alike, PySem.W.alike_ints]), PySem.W.dataLt_int, PySem.W.dataLt_tuple]
  rw [show PyProof.Rows.lexLt PyProof.Rows.itemOrd (PySem.W.keyToksAll (a.map .int)) (PySem.W.keyToksAll (b.map .int)) = decide (a < b) from PySem.W.dataLt_ints a b]
  have e1 : PyData.eqv (.int (a.length : Nat)) (.int (b.length : Nat)) = decide (a.length = b.length) := by
    rw [Cp.eqI, Bool.eq_iff_iff, decide_eq_true_iff, decide_eq_true_iff]
    omega
  have e2 : PyData.eqv (.tuple (a.map .int)) (.tuple (b.map .int)) = decide (a = b) := (Enc.tuple Enc.int).eq a b
  rw [e1, e2]
  unfold sLt
  by_cases h : a.length = b.length
  · rw [decide_eq_true h, if_pos rfl]
    by_cases q : a = b
    · rw [decide_eq_true q, if_pos rfl]
      subst q
      exact ⟨(fun z => nomatch z), fun z => absurd z (s_irr a)⟩
    · rw [decide_eq_false q, if_neg (by decide), decide_eq_true_iff, ← lx_iff h]
      exact ⟨fun z => .inr ⟨h, z⟩, fun z => z.elim (fun z => by omega) fun z => z.2⟩
  · rw [decide_eq_false h, if_neg (by decide), decide_eq_true_iff]
    exact ⟨fun z => .inl (by omega), fun z => z.elim (fun z => by omega) fun z => absurd z.1 h⟩
theorem sort_up (rs : List (List Int)) : (sortRows rs).Pairwise fun a b => ¬ sLt b a := by
  have le : ∀ a b : List Int, PySem.W.dataLe false rowKey a b = true ↔ ¬ sLt b a := fun a b => by
    show (!PySem.W.dataLt (rowKey b) (rowKey a)) = true ↔ _
    rw [Bool.not_eq_true', ← key_lt, Bool.not_eq_true]
  have h := List.pairwise_mergeSort (le := PySem.W.dataLe false rowKey) (fun a b c h1 h2 => by
    rw [le] at h1 h2 ⊢
    intro z
    rcases s_tri a b with e | e | e
    · exact h2 (e ▸ z)
    · exact h2 (s_tr z e)
    · exact h1 e) (fun a b => by
    rw [Bool.or_eq_true, le, le]
    rcases s_tri a b with e | e | e
    · exact .inl (e ▸ s_irr _)
    · exact .inl fun z => s_irr _ (s_tr z e)
    · exact .inr fun z => s_irr _ (s_tr z e)) rs
  exact h.imp fun {a b} q => (le a b).mp q
theorem sort_mem {rs : List (List Int)} {r : List Int} : r ∈ sortRows rs ↔ r ∈ rs := (List.mergeSort_perm ..).mem_iff
theorem sort_len {rs : List (List Int)} : (sortRows rs).length = rs.length := (List.mergeSort_perm ..).length_eq
section
variable {K : PySem.W.Frag} {C : Fx} {B : Hp} {σ : L2.St} {H M : Hp} {ρ : List Sl} {w : Own} {tp : List (V × PyData)} {Q : VK} {te : TE} {v : V} {q : Str} {T : Addr} {rs : List (List Int)}
theorem x_sr (h : te σ H (SortRowK K T q Q)) : tSortRow K T q te σ H Q := h
theorem h_sr (h : SortRowK K T q Q v H) : SortRowK K T q Q v H := h
theorem x_srL (j : Nat) (S : Ds K C B σ H M ρ w tp) (hj : w[j]? = some (T, .tab q)) (ht : Tm tp v (.list (rs.map fun r => .tuple (r.map .int)))) (z : ∀ p H' M', Ds K C B σ H' M' ρ ((p, .lst ((sortRows rs).map fun r => .tuple (r.map .int))) :: w) tp → Q (.ref p) H') : SortRowK K T q Q v H := by
  obtain ⟨a, xs, rfl, h1, h2⟩ := dp_lst (ht.dp S)
  have hm := List.mem_of_getElem? hj
  obtain ⟨hT, tb⟩ := S.own _ hm
  refine ⟨M, a, xs, rs, rfl, S.sub, hT, tb, S.sub.seq h1, h2, fun ys p H2 M2 F tb2 hp hm2 hl hd => ?_⟩
  have S2 : Ds K C B σ H2 M2 ρ w tp := S.step (O := [T]) F (fun b hb => by rw [List.mem_singleton.mp hb]; exact List.mem_map_of_mem (f := Prod.fst) hm) rfl fun x hx => by
    by_cases e : x.1 = T
    · obtain ⟨k, hk⟩ := List.getElem?_of_mem hx
      have e1 : (w.map (·.1))[k]? = some T := by rw [List.getElem?_map, hk]; exact congrArg some e
      have e2 : (w.map (·.1))[j]? = some T := by rw [List.getElem?_map, hj]; rfl
      have kj := (List.getElem?_inj (List.getElem?_eq_some_iff.mp e1).1 S.nd).mp (e1.trans e2.symm)
      rw [kj, hj] at hk
      rw [← Option.some.inj hk]
      exact tb2
    · exact (S.own x hx).2.keep F.sm fun o eo => F.fr _ o (fun y => e (List.mem_singleton.mp y)) eo
  obtain ⟨p', e, S3⟩ := Res.of (r := .o (.lst ((sortRows rs).map fun r => .tuple (r.map .int)))) (v := .ref p) (M0 := M) (O := []) S2 S.new_none (fun y hy => (S.own y hy).2.there) ⟨p, rfl, hp, hm2, ys, hl, hd⟩
  cases e
  exact z p H2 M2 S3
end
section
variable {P : Program} {w : World} {K : PySem.W.Frag} {mg : Str → Option Value} {base : Heap}
/-- a def whose code object is known -/
theorem code_go {x : Str} {st : Stmt} {f : Addr} {od an : Option Addr} {osl : Array (Option Value)} {oc kV doc pm cd ct : Value} {ps N : List Str} {k : Nat} (lk : K.lookup f = some ⟨oc, od, .func (PySem.W.fnOf x x (defArgs st) (defBody st) (defScope st) .none kV doc pm an cd ct), osl⟩) (hc : PySem.W.codeIn K cd x = true) (hm : mg x = some (.ref f)) (kp : PySem.W.keepIn K (.ref f) = true)
    (bd : Binds K (PySem.W.fnOf x x (defArgs st) (defBody st) (defScope st) .none kV doc pm an cd ct) ps []) (S : FnScope N ps (defScope st)) (pre : Pre) (len : ∀ ss u post, pre ss u post → ss.length = ps.length)
    (hbody : ∀ (A : Around) (outer : List Env) (s : Shared) (H M : Hp) (vs : List V) (Q : VK) (E : XK) (ss : List Sl) (u : Own) (post : Rs → Own → Prop), Room k (A.deeper (envOfC x (defScope st) s.heap.objs.size f cd)) → pre ss u post →
      Ds K ⟨H, M, u.map (·.1)⟩ M (L2.start N vs) H M (ss ++ List.replicate (N.length - ss.length) .u) u [] → (∀ r u' v H', post r u' → Fin K ⟨H, M, u.map (·.1)⟩ r u' v H' → Q v H') →
      ∃ t, PSs (cxOf CX0 P w K mg base N x (defScope st) f cd A outer s H E).nox (defBody st) t ∧ t { nx := fun _ H' => Q .non H', rt := Q } (L2.start N vs) H) : Cl P w K mg base (k + 1) x (spG K pre) :=
  ⟨f, _, ps, fn_of lk hc S (fun vs H Q E h => by
    obtain ⟨M, ss, u, post, _, h2, _, _, h5, _⟩ := h
    exact h2.length.trans (len _ _ _ h5)) fun A outer s H vs Q E hr h => by
    obtain ⟨M, ss, u, post, h1, h2, h3, h4, h5, q⟩ := h
    obtain ⟨t, h, z⟩ := hbody A outer s H M vs Q E ss u post hr h5 (Ds.init h1 h2 h3 h4) q
    exact ⟨t, h.nox, z⟩, hm, kp, bd⟩
end
/-- a law whose run changes a table of code objects -/
def spLawT (K : PySem.W.Frag) (T : Addr) : Sp := fun vs H Q _ => ∃ (a : Addr) (ns : List Int), vs = [.ref a] ∧ SqL K H a (ns.map V.int) ∧ ns.length ≤ 63 ∧ H T = some (.tbl #[]) ∧ ∀ H', Q (.bl true) H'
section
variable {P : Program} {w : World} {K : PySem.W.Frag} {mg : Str → Option Value} {base : Heap} {T : Addr}
theorem law_goT (q : Str) {x qual : Str} {st : Stmt} {f : Addr} {fd : FuncData} {N : List Str} {k : Nat} (F : Fun K x qual st f fd) (S : FnScope N ["script"] (defScope st))
    (hbody : ∀ (cdv : Value) (A : Around) (outer : List Env) (s : Shared) (H M : Hp) (vs : List V) (Q : VK) (E : XK) (ns : List Int), Room k (A.deeper (envOfC qual (defScope st) s.heap.objs.size f cdv)) → ns.length ≤ 63 →
      Ds K ⟨H, M, [T]⟩ M (L2.start N vs) H M ([.d (.list (ns.map .int))] ++ List.replicate (N.length - [Sl.d (.list (ns.map .int))].length) .u) [(T, .tab q)] [] → (∀ H', Q (.bl true) H') →
      ∃ t, PSs (cxOf CX0 P w K mg base N qual (defScope st) f cdv A outer s H E).nox (defBody st) t ∧ t { nx := fun _ H' => Q .non H', rt := Q } (L2.start N vs) H) : FnOk P w K mg base CX0 (k + 1) f fd ["script"] (spLawT K T) := by
  refine F.ok S (fun vs H Q E h => ?_) (fun cdv A outer s H vs Q E hr h => ?_)
  · obtain ⟨a, ns, rfl, _⟩ := h
    rfl
  · obtain ⟨a, ns, rfl, hS, h63, hT, z⟩ := h
    have sm : Same (fun b => if b = T then none else H b) H := fun b o e => by
      dsimp only at e
      split at e
      · cases e
      · exact e
    have ne : ∀ {o : HO}, H a = some o → (∀ ps, o ≠ .tbl ps) → a ≠ T := fun {o} e n y => by
      rw [y, hT] at e
      cases e
      exact n _ rfl
    have hS2 : SqL K (fun b => if b = T then none else H b) a (ns.map V.int) := by
      rcases hS with (h | ⟨o, h⟩) | h
      · exact .inl (.inl (by show (if a = T then none else H a) = _; rw [if_neg (ne h fun _ y => nomatch y)]; exact h))
      · exact .inl (.inr ⟨o, by show (if a = T then none else H a) = _; rw [if_neg (ne h fun _ y => nomatch y)]; exact h⟩)
      · exact .inr h
    exact hbody cdv A outer s H _ _ Q E ns hr h63 (Ds.init (w := [(T, .tab q)]) sm (.cons (Dp.lst hS2 dpA_ints) .nil) (fun x hx => by
      rw [List.mem_singleton.mp hx]
      exact ⟨if_pos rfl, #[], hT, trivial, fun pos cv hc => by
        have hc : codeAmong pos [] = some cv := hc
        simp [codeAmong] at hc⟩) (List.nodup_cons.mpr ⟨List.not_mem_nil, List.nodup_nil⟩)) z
end
/-- the end of a law one of whose defs, z, has a table of code objects -/
theorem walk_tab {l : PySem.W.OpenLaw} {n k : Nat} {q : Program} {loose : List Str} {XP : (Str → Option Value) → Heap → Prop} {YP : World → Heap → Prop} {d : DefRec} {K : Params → PySem.W.Frag} {CX : World → CXT} {x : Str} (z : Str)
    (hn : l.most = some n) (hn2 : n ≤ sizeLine) (hdf : d.params.defaults = []) (hr : Room k callerA) (hz : ((recsOf q).any fun e => e.name == z) = true) (hY : ∀ (w : World) (h : Heap), YP w h → (K w.params).In h)
    (F : ∀ (w : World) (mg : Str → Option Value) (fa : Addr) (h : Heap), (K w.params).In h → h.Ns mainGlobals mg → mg d.name = some (.ref fa) → (∀ c T, PySem.W.tabIn (K w.params) z = some (c, T) → PySem.W.CodeHd h c T ∧ h.get? T = some (PySem.W.tabObj #[])) → LamX.LawAtS l w (K w.params) (CX w) k n x mg fa h)
    (hCX : ∀ (w : World) (H : Hp) (s : Shared) (e : Value) (s' : Shared), CX w [] H s (fun _ _ _ => False) e s' → False) :
    PySem.W.WalkO q loose XP YP l.row.toRowW d [] (fun f vs => PySem.call f vs) := by
  refine Att.attach_callB hn hdf fun w s₀ s₁ mg mb fa o pm cd doc a vs ns G Y ho hd hcd hmg hobj hints hlen hbits hg => ?_
  have KX := hY w _ Y
  have own : ∀ c T, PySem.W.tabIn (K w.params) z = some (c, T) → PySem.W.CodeHd s₁.heap c T ∧ s₁.heap.get? T = some (PySem.W.tabObj #[]) := fun c T ht => by
    cases hf : (recsOf q).find? fun e => e.name == z with
    | some dz => exact PySem.W.tab_of G.T KX hf ht
    | none =>
      obtain ⟨e, he, hez⟩ := List.any_eq_true.mp hz
      exact absurd hez (List.find?_eq_none.mp hf e he)
  obtain ⟨fd, cs, sp, hT, nT, Cd, hb, hsp, hF⟩ := F w mg fa _ KX G.T.g hmg own
  exact LamX.law_callTs KX G.T.g G.T.b G.T.builtins G.T.nolimit hg hT nT Cd G.T.bmain hobj hints (Nat.le_trans hlen hn2) hr hF hb (fun H hH hS => hsp H a ns hlen hbits hH hS) fun H e s' => hCX w H s₁ e s'
theorem law_at {l : PySem.W.OpenLaw} {w : World} {K : PySem.W.Frag} {mg : Str → Option Value} {fa cc T : Addr} {h : Heap} {k : Nat} {z : Str} (own : ∀ c T, PySem.W.tabIn K z = some (c, T) → PySem.W.CodeHd h c T ∧ h.get? T = some (PySem.W.tabObj #[])) {f : Addr} {o1 o2 : Value} {d1 d2 : Option Addr} {fd1 : FuncData} {us : Array Value} {s1 s2 : Array (Option Value)} (t1 : PySem.W.nsIn K mainGlobals z = some (some (.ref f))) (t2 : K.lookup f = some ⟨o1, d1, .func fd1, s1⟩) (t3 : fd1.code = .ref cc) (t4 : K.lookup cc = some ⟨o2, d2, .fields us, s2⟩) (t5 : (us[11]? : Option Value) = some (.ref T)) (nT : K.lookup T = none)
    (A : ∃ fd : FuncData, (∀ (s : Shared) (v : Value), BindsTo s fd ⟨[v], []⟩ [("script", v)]) ∧ ∀ base : Heap, K.In base → base.Ns mainGlobals mg → LamX.TabB base mg cc T → FnOk l.prog w K mg base CX0 k fa fd ["script"] (spLawT K T)) : LamX.LawAtS l w K CX0 k 63 "script" mg fa h := by
  obtain ⟨fd, hb, hF⟩ := A
  obtain ⟨h1, h2⟩ := own cc T (by unfold PySem.W.tabIn; rw [t1]; dsimp only; rw [t2]; dsimp only; rw [t3]; dsimp only; rw [t4]; dsimp only; rw [t5])
  refine ⟨fd, [(cc, T)], spLawT K T, fun p hp => ?_, fun p hp => ?_, fun p hp => ?_, hb, fun H a ns hl _ hH hS => ⟨a, ns, rfl, hS, hl, hH _ (List.mem_singleton.mpr rfl), fun _ => rfl⟩, fun base b1 b2 b3 => hF base b1 b2 (b3 _ (List.mem_singleton.mpr rfl))⟩
  · rw [List.mem_singleton.mp hp]
    exact h2
  · rw [List.mem_singleton.mp hp]
    exact nT
  · rw [List.mem_singleton.mp hp]
    exact h1
end Pf

namespace Pf
open PySem PySem.Spec PyProof.Rows L2
/-! all sets of some numbers, one by one; a set without another -/
def lsubs (vs : List Int) : List (List Int) := vs.foldl (fun rs x => rs ++ rs.map fun r => r ++ [x]) [[]]
theorem lsubs_snoc {vs : List Int} {x : Int} : lsubs (vs ++ [x]) = lsubs vs ++ (lsubs vs).map fun r => r ++ [x] := by
  unfold lsubs
  rw [List.foldl_append]
  rfl
theorem lsubs_len (vs : List Int) : (lsubs vs).length = 2 ^ vs.length := by
  induction vs using snoc_ind with
  | nil => rfl
  | snoc vs x ih =>
    rw [lsubs_snoc, List.length_append, List.length_map, ih, List.length_append, show [x].length = 1 from rfl, Nat.pow_succ]
    omega
theorem sub_snoc_iff {a vs : List Int} {x : Int} : a.Sublist (vs ++ [x]) ↔ a.Sublist vs ∨ ∃ b, a = b ++ [x] ∧ b.Sublist vs := by
  constructor
  · intro h
    obtain ⟨a1, a2, rfl, h1, h2⟩ := List.sublist_append_iff.mp h
    rcases List.sublist_cons_iff.mp h2 with h2 | ⟨c, e, h2⟩
    · rw [List.sublist_nil.mp h2, List.append_nil]
      exact .inl h1
    · rw [e, List.sublist_nil.mp h2]
      exact .inr ⟨a1, rfl, h1⟩
  · rintro (h | ⟨b, rfl, h⟩)
    · exact h.trans (List.sublist_append_left ..)
    · exact h.append (List.Sublist.refl _)
theorem lsubs_mem {vs a : List Int} : a ∈ lsubs vs ↔ a.Sublist vs := by
  induction vs using snoc_ind generalizing a with
  | nil => exact ⟨fun h => by rw [List.mem_singleton.mp h]; exact List.Sublist.refl _, fun h => by rw [List.sublist_nil.mp h]; exact List.mem_singleton.mpr rfl⟩
  | snoc vs x ih =>
    rw [lsubs_snoc, List.mem_append, ih, sub_snoc_iff, List.mem_map]
    exact or_congr Iff.rfl ⟨fun ⟨b, h, e⟩ => ⟨b, e.symm, ih.mp h⟩, fun ⟨b, e, h⟩ => ⟨b, ih.mpr h, e.symm⟩⟩
/-- a set without another -/
def wo (a b : List Int) : List Int := a.filter fun n => !decide (n ∈ b)
theorem wo_mem {a b : List Int} {x : Int} : x ∈ wo a b ↔ x ∈ a ∧ x ∉ b := by
  unfold wo
  rw [List.mem_filter, Bool.not_eq_true', decide_eq_false_iff_not]
theorem wo_sub (a b : List Int) : (wo a b).Sublist a := List.filter_sublist
theorem wo_len (a b : List Int) : (wo a b).length ≤ a.length := (wo_sub a b).length_le
end Pf

namespace Pf
open PySem PySem.Spec PyProof.Rows L2
/-! the cheapest of some sets, and the first such one -/
def oD : Option Int → PyData
  | none => .none
  | some v => .int v
theorem o_enc : Enc oD where
  eq := fun a b => by
    cases a <;> cases b
    · rfl
    · rfl
    · rfl
    · rename_i a b
      show PyData.eqv (.int a) (.int b) = _
      rw [Cp.eqI, Bool.eq_iff_iff, decide_eq_true_iff, decide_eq_true_iff]
      exact ⟨fun h => congrArg some h, fun h => Option.some.inj h⟩
  lay := fun a => by cases a <;> rfl
def prices (cs : List (Option Int)) (r : List Int) : List (Option Int) := r.map fun a => (cs[a.toNat]?).getD none
def cost (cs : List (Option Int)) (r : List Int) : Int := ((prices cs r).map fun p => p.getD 0).sum
def freeB (cs : List (Option Int)) (r : List Int) : Bool := !memD none (prices cs r)
def cheap (cs : List (Option Int)) (b : Option (Int × List Int)) (r : List Int) : Bool := match b with
  | none => true
  | some p => decide (cost cs r < p.1)
def stepB (cs : List (Option Int)) (b : Option (Int × List Int)) (r : List Int) : Option (Int × List Int) := if (freeB cs r && cheap cs b r) = true then some (cost cs r, r) else b
def bestOf (cs : List (Option Int)) (l : List (List Int)) : Option (Int × List Int) := l.foldl (stepB cs) none
theorem best_snoc {cs : List (Option Int)} {l : List (List Int)} {x : List Int} : bestOf cs (l ++ [x]) = stepB cs (bestOf cs l) x := by
  unfold bestOf
  rw [List.foldl_append]
  rfl
def IsB (cs : List (Option Int)) (Mm : List Int → Prop) : Option (Int × List Int) → Prop
  | none => ∀ x, Mm x → freeB cs x = false
  | some p => Mm p.2 ∧ freeB cs p.2 = true ∧ p.1 = cost cs p.2 ∧ ∀ x, Mm x → freeB cs x = true → p.1 < cost cs x ∨ (p.1 = cost cs x ∧ ¬ sLt x p.2)
theorem isb_uniq {cs : List (Option Int)} {Mm : List Int → Prop} : ∀ {a b : Option (Int × List Int)}, IsB cs Mm a → IsB cs Mm b → a = b
  | none, none, _, _ => rfl
  | none, some p, h, k => by have := h _ k.1; rw [k.2.1] at this; cases this
  | some p, none, h, k => by have := k _ h.1; rw [h.2.1] at this; cases this
  | some (v, r), some (v', r'), ⟨h1, h2, h3, h4⟩, ⟨k1, k2, k3, k4⟩ => by
    have a1 := h4 r' k1 k2
    have a2 := k4 r h1 h2
    dsimp only at *
    have e : v = v' := by omega
    have b1 : ¬ sLt r' r := (a1.resolve_left (by omega)).2
    have b2 : ¬ sLt r r' := (a2.resolve_left (by omega)).2
    rw [e, ((s_tri r r').resolve_right fun z => z.elim b2 b1)]
theorem best_isb {cs : List (Option Int)} {l : List (List Int)} (ho : l.Pairwise fun a b => ¬ sLt b a) : IsB cs (· ∈ l) (bestOf cs l) := by
  induction l using snoc_ind with
  | nil => exact fun x h => nomatch h
  | snoc l x ih =>
    obtain ⟨o1, _, o3⟩ := List.pairwise_append.mp ho
    have i := ih o1
    have o4 : ∀ z ∈ l, ¬ sLt x z := fun z hz => o3 z hz x (List.mem_singleton.mpr rfl)
    rw [best_snoc]
    unfold stepB
    generalize bestOf cs l = b at *
    cases b with
    | none =>
      have i : ∀ z, z ∈ l → freeB cs z = false := i
      cases q : freeB cs x with
      | false =>
        rw [Bool.false_and, if_neg (by decide)]
        exact fun z hz => (List.mem_append.mp hz).elim (i z) fun e => by rw [List.mem_singleton.mp e]; exact q
      | true =>
        rw [Bool.true_and, if_pos (show cheap cs none x = true from rfl)]
        refine ⟨List.mem_append_right _ (List.mem_singleton.mpr rfl), q, rfl, fun z hz hf => ?_⟩
        rcases List.mem_append.mp hz with hz | hz
        · rw [i z hz] at hf
          cases hf
        · rw [List.mem_singleton.mp hz]
          exact .inr ⟨rfl, s_irr _⟩
    | some p =>
      obtain ⟨v, r⟩ := p
      obtain ⟨h1, h2, h3, h4⟩ := i
      dsimp only at *
      by_cases hk : (freeB cs x && cheap cs (some (v, r)) x) = true
      · rw [if_pos hk]
        obtain ⟨k1, k2⟩ := Bool.and_eq_true _ _ ▸ hk
        have k2 : cost cs x < v := of_decide_eq_true k2
        refine ⟨List.mem_append_right _ (List.mem_singleton.mpr rfl), k1, rfl, fun z hz hf => ?_⟩
        rcases List.mem_append.mp hz with hz | hz
        · rcases h4 z hz hf with e | e
          · exact .inl (by show cost cs x < _; omega)
          · exact .inl (by show cost cs x < _; omega)
        · rw [List.mem_singleton.mp hz]
          exact .inr ⟨rfl, s_irr _⟩
      · rw [if_neg hk]
        refine ⟨List.mem_append_left _ h1, h2, h3, fun z hz hf => ?_⟩
        rcases List.mem_append.mp hz with hz | hz
        · exact h4 z hz hf
        · rw [List.mem_singleton.mp hz] at hf ⊢
          have : ¬ cost cs x < v := fun e => hk (by rw [hf, Bool.true_and]; exact decide_eq_true e)
          by_cases e : v = cost cs x
          · exact .inr ⟨e, o4 r h1⟩
          · exact .inl (by show v < _; omega)
theorem price_sub {cs : List (Option Int)} {a b : List Int} (h : a.Sublist b) : (prices cs a).Sublist (prices cs b) := h.map _
theorem free_iff {cs : List (Option Int)} {r : List Int} : freeB cs r = true ↔ none ∉ prices cs r := by
  unfold freeB memD
  rw [Bool.not_eq_true', decide_eq_false_iff_not]
theorem free_sub {cs : List (Option Int)} {a b : List Int} (h : a.Sublist b) (hb : freeB cs b = true) : freeB cs a = true := free_iff.mpr fun z => free_iff.mp hb ((price_sub h).subset z)
theorem sum_sub : ∀ {a b : List Int}, a.Sublist b → (∀ x ∈ b, 0 ≤ x) → a.sum ≤ b.sum
  | _, _, .slnil, _ => Int.le_refl _
  | _, _, .cons x h, hb => by
    have := sum_sub h fun y hy => hb y (List.mem_cons_of_mem _ hy)
    have := hb x (List.mem_cons_self ..)
    rw [List.sum_cons]
    omega
  | _, _, .cons₂ x h, hb => by
    have := sum_sub h fun y hy => hb y (List.mem_cons_of_mem _ hy)
    rw [List.sum_cons, List.sum_cons]
    omega
theorem cost_sub {cs : List (Option Int)} (hc : ∀ c ∈ cs, ∀ v, c = some v → 0 ≤ v) {a b : List Int} (h : a.Sublist b) : cost cs a ≤ cost cs b := by
  refine sum_sub ((price_sub h).map _) fun x hx => ?_
  obtain ⟨p, hp, rfl⟩ := List.mem_map.mp hx
  obtain ⟨q, hq, rfl⟩ := List.mem_map.mp hp
  cases e : cs[q.toNat]? with
  | none => exact Int.le_refl 0
  | some c =>
    cases c with
    | none => exact Int.le_refl 0
    | some v => exact hc _ (List.mem_of_getElem? e) v rfl
/-- the cheapest of the least ones is the cheapest of all -/
theorem isb_least {cs : List (Option Int)} (hc : ∀ c ∈ cs, ∀ v, c = some v → 0 ≤ v) {l L : List (List Int)} (ha : ∀ m ∈ l, Asc m) (hL : ∀ m, m ∈ L ↔ Least (fun _ => true) l m) {b : Option (Int × List Int)} (h : IsB cs (· ∈ L) b) : IsB cs (· ∈ l) b := by
  have key : ∀ x ∈ l, ∃ z ∈ L, z.Sublist x := fun x hx => by
    obtain ⟨z, hz, hs⟩ := least_in (G := fun _ => true) ha x.length (Nat.le_refl _) hx rfl
    exact ⟨z, (hL z).mpr hz, asc_sub (ha z hz.1) (ha x hx) hs⟩
  cases b with
  | none =>
    intro x hx
    obtain ⟨z, hz, hs⟩ := key x hx
    refine Bool.eq_false_iff.mpr fun q => ?_
    have := h z hz
    rw [free_sub hs q] at this
    cases this
  | some p =>
    obtain ⟨v, r⟩ := p
    obtain ⟨h1, h2, h3, h4⟩ := h
    dsimp only at *
    refine ⟨((hL r).mp h1).1, h2, h3, fun x hx hf => ?_⟩
    dsimp only
    obtain ⟨z, hz, hs⟩ := key x hx
    have c1 := cost_sub hc hs
    rcases h4 z hz (free_sub hs hf) with e | ⟨e1, e2⟩
    · exact .inl (by omega)
    · by_cases e : v = cost cs x
      · refine .inr ⟨e, fun q => e2 ?_⟩
        by_cases ez : z.length < x.length
        · exact s_tr (.inl ez) q
        · rw [hs.eq_of_length (Nat.le_antisymm hs.length_le (Nat.le_of_not_lt ez))]
          exact q
      · exact .inl (by omega)
theorem best_least {cs : List (Option Int)} (hc : ∀ c ∈ cs, ∀ v, c = some v → 0 ≤ v) {l : List (List Int)} (ha : ∀ m ∈ l, Asc m) (ho : l.Pairwise fun a b => ¬ sLt b a) : bestOf cs (scan (fun _ => true) l) = bestOf cs l := by
  obtain ⟨s1, s2⟩ := scan_spec (G := fun _ => true) l ha ho
  exact isb_uniq (isb_least hc ha s2 (best_isb (s1.imp fun {a b} q z => s_irr a (s_tr q z)))) (best_isb ho)
theorem price_ints {cs : List (Option Int)} {r : List Int} (h : freeB cs r = true) : (prices cs r).map oD = ((prices cs r).map fun p => p.getD 0).map .int := by
  rw [List.map_map]
  refine List.map_congr_left fun p hp => ?_
  cases p with
  | none => exact absurd hp (free_iff.mp h)
  | some v => rfl
section
variable {K : PySem.W.Frag} {C : Fx} {B : Hp} {σ : L2.St} {H M : Hp} {ρ : List Sl} {w : Own} {tp : List (V × PyData)} {p : Addr} {R : VK}
theorem nd_ne2 {q T : Addr} {a b c : Od} (S : Ds K C B σ H M ρ ((q, a) :: (p, b) :: (T, c) :: w) tp) : q ∉ [T] := fun z => by
  have h := (List.nodup_cons.mp S.nd).1
  rw [List.mem_singleton.mp z] at h
  exact h (List.mem_cons_of_mem _ (List.mem_cons_self ..))
theorem x_sumO {ns : List Int} (j : Nat) (S : Ds K C B σ H M ρ w tp) (hj : w[j]? = some (p, .lst (ns.map .int))) (z : R (.int ns.sum) H) : rSum K [.ref p] H R := by
  obtain ⟨_, xs, h1, h2⟩ := S.own _ (List.mem_of_getElem? hj)
  rw [dpAll_ints h2] at h1
  exact ⟨p, ns, rfl, .of h1, z⟩
end
/-- the best as data -/
def bD : Option (Int × List Int) → PyData
  | none => .none
  | some p => .tuple [.int p.1, .tuple (p.2.map .int)]
end Pf

namespace Pf
open PySem PySem.Spec PyProof.Rows L2
/-! the first set after which it hangs on one -/
def hangB (E : (Int → Bool) → Bool) (tk : List Int) (a : Int) (x : List Int) : Bool := E (fun k => decide (k ∈ wo tk x)) && !E (fun k => decide (k ∈ wo (wo tk x) [a]))
def firstB (E : (Int → Bool) → Bool) (tk : List Int) (a : Int) : Option (List Int) := (sortRows (lsubs (wo tk [a]))).find? (hangB E tk a)
def IsL (Mm : List Int → Prop) (h : List Int → Bool) : Option (List Int) → Prop
  | none => ∀ x, Mm x → h x = false
  | some m => Mm m ∧ h m = true ∧ ∀ y, Mm y → h y = true → ¬ sLt y m
theorem isl_uniq {Mm : List Int → Prop} {h : List Int → Bool} : ∀ {a b : Option (List Int)}, IsL Mm h a → IsL Mm h b → a = b
  | none, none, _, _ => rfl
  | none, some p, i, k => by have := i _ k.1; rw [k.2.1] at this; cases this
  | some p, none, i, k => by have := k _ i.1; rw [i.2.1] at this; cases this
  | some r, some r', ⟨h1, h2, h3⟩, ⟨k1, k2, k3⟩ => by rw [(s_tri r r').resolve_right fun z => z.elim (k3 r h1 h2) (h3 r' k1 k2)]
theorem find_isl {h : List Int → Bool} : ∀ {l : List (List Int)}, (l.Pairwise fun a b => ¬ sLt b a) → IsL (· ∈ l) h (l.find? h)
  | [], _ => fun x hx => nomatch hx
  | x :: l, ho => by
    obtain ⟨o1, o2⟩ := List.pairwise_cons.mp ho
    cases e : h x with
    | true =>
      rw [List.find?_cons_of_pos e]
      refine ⟨List.mem_cons_self .., e, fun y hy _ => ?_⟩
      rcases List.mem_cons.mp hy with rfl | hy
      · exact s_irr _
      · exact o1 y hy
    | false =>
      rw [List.find?_cons_of_neg (by rw [e]; decide)]
      have i := find_isl (h := h) o2
      generalize l.find? h = o at *
      cases o with
      | none => exact fun y hy => (List.mem_cons.mp hy).elim (fun z => z ▸ e) (i y)
      | some m => exact ⟨List.mem_cons_of_mem _ i.1, i.2.1, fun y hy hh => (List.mem_cons.mp hy).elim (fun z => by rw [z, e] at hh; cases hh) fun z => i.2.2 y z hh⟩
theorem first_isl (E : (Int → Bool) → Bool) (tk : List Int) (a : Int) : IsL (fun x => x.Sublist (wo tk [a])) (hangB E tk a) (firstB E tk a) := by
  have i := find_isl (h := hangB E tk a) (sort_up (lsubs (wo tk [a])))
  rw [show (fun x => x ∈ sortRows (lsubs (wo tk [a]))) = fun x => x.Sublist (wo tk [a]) from funext fun x => propext (by rw [sort_mem, lsubs_mem])] at i
  exact i
theorem find_at {h : List Int → Bool} {l : List (List Int)} {i : Nat} {m : List Int} (hm : l[i]? = some m) (hp : h m = true) (hn : (l.take i).any h = false) : l.find? h = some m := by
  rw [← List.take_append_drop (i + 1) l, show l.take (i + 1) = l.take i ++ [m] from by rw [List.take_succ, hm]; rfl, List.append_assoc, List.find?_append, List.find?_eq_none.mpr fun x hx z => List.any_eq_false.mp hn x hx z]
  show ([m] ++ l.drop (i + 1)).find? h = some m
  exact List.find?_cons_of_pos hp
theorem find_no {h : List Int → Bool} {l : List (List Int)} (hn : l.any h = false) : l.find? h = none := List.find?_eq_none.mpr fun x hx z => List.any_eq_false.mp hn x hx z
def due (g : Int → Option (List Int)) (l : List Int) : List (Int × List Int) := l.filterMap fun a => (g a).map fun x => (a, x)
theorem due_snoc {g : Int → Option (List Int)} {l : List Int} {a : Int} : due g (l ++ [a]) = due g l ++ due g [a] := List.filterMap_append ..
theorem due_none {g : Int → Option (List Int)} {a : Int} (h : g a = none) : due g [a] = [] := by
  unfold due
  rw [List.filterMap_cons_none (by rw [h]; rfl)]
  rfl
theorem due_some {g : Int → Option (List Int)} {a : Int} {x : List Int} (h : g a = some x) : due g [a] = [(a, x)] := by
  unfold due
  rw [List.filterMap_cons_some (b := (a, x)) (by rw [h]; rfl)]
  rfl
theorem due_filter {g : Int → Option (List Int)} {p : Int → Bool} : ∀ {l : List Int}, (∀ a ∈ l, p a = false → g a = none) → due g (l.filter p) = due g l
  | [], _ => rfl
  | a :: l, h => by
    have ih := due_filter (g := g) (p := p) (l := l) fun x hx => h x (List.mem_cons_of_mem _ hx)
    have e : ∀ l, due g (a :: l) = due g [a] ++ due g l := fun l => by
      show due g ([a] ++ l) = _
      unfold due
      exact List.filterMap_append ..
    cases q : p a with
    | true => rw [List.filter_cons_of_pos q, e (l.filter p), e l, ih]
    | false => rw [List.filter_cons_of_neg (by rw [q]; decide), ih, e l, due_none (h a (List.mem_cons_self ..) q)]; rfl
theorem due_len {g : Int → Option (List Int)} {l : List Int} : (due g l).length ≤ l.length := List.length_filterMap_le ..
theorem due_fst {g : Int → Option (List Int)} : ∀ {l : List Int}, (due g l).map (·.1) = l.filter fun a => (g a).isSome
  | [] => rfl
  | a :: l => by
    have e : due g (a :: l) = due g [a] ++ due g l := by
      show due g ([a] ++ l) = _
      unfold due
      exact List.filterMap_append ..
    rw [e, List.map_append, due_fst (l := l)]
    cases q : g a with
    | none => rw [due_none q, List.filter_cons_of_neg (by rw [q]; decide)]; rfl
    | some x => rw [due_some q, List.filter_cons_of_pos (by rw [q]; rfl)]; rfl
theorem due_mem {g : Int → Option (List Int)} {l : List Int} {p : Int × List Int} (h : p ∈ due g l) : p.1 ∈ l ∧ g p.1 = some p.2 := by
  obtain ⟨a, ha, e⟩ := List.mem_filterMap.mp h
  obtain ⟨x, hx, rfl⟩ := Option.map_eq_some_iff.mp e
  exact ⟨ha, hx⟩
def lD : Option (List Int) → PyData
  | none => .none
  | some x => .tuple (x.map .int)
def dueD : Int × List Int → PyData := fun p => .tuple [.int p.1, .tuple (p.2.map .int)]
end Pf

namespace Pf
open PySem PySem.Spec PyProof.Rows L2
/-! a comprehension inside a comprehension -/
theorem look_nest {p : Str → NameKind → Bool} {k0 : NameKind} (h0 : k0 = .cell ∨ k0 = .free) : ∀ {names : List (Str × NameKind)} {x : Str}, names.lookup x = some k0 →
    (names.map fun (n, k) => if p n k = true then (n, NameKind.cell) else (n, k)).lookup x = some .cell ∨ (names.map fun (n, k) => if p n k = true then (n, NameKind.cell) else (n, k)).lookup x = some .free
  | [], _, h => by simp at h
  | (n, k) :: r, x, h => by
    have ih := @look_nest p k0 h0 r x
    by_cases e : (x == n) = true
    · rw [List.lookup_cons, e] at h
      have h : k = k0 := Option.some.inj h
      show (((if p n k = true then (n, NameKind.cell) else (n, k)) :: _).lookup x = _) ∨ (((if p n k = true then (n, NameKind.cell) else (n, k)) :: _).lookup x = _)
      by_cases q : p n k = true
      · rw [if_pos q, List.lookup_cons, e]
        exact .inl rfl
      · rw [if_neg q, List.lookup_cons, e, h]
        exact h0.elim (fun z => .inl (by rw [z])) fun z => .inr (by rw [z])
    · have e : (x == n) = false := Bool.eq_false_iff.mpr e
      rw [List.lookup_cons, e] at h
      have ih := ih h
      show (((if p n k = true then (n, NameKind.cell) else (n, k)) :: _).lookup x = _) ∨ (((if p n k = true then (n, NameKind.cell) else (n, k)) :: _).lookup x = _)
      by_cases q : p n k = true
      · rw [if_pos q, List.lookup_cons, e]
        exact ih
      · rw [if_neg q, List.lookup_cons, e]
        exact ih
theorem blk_nest {N : List Str} {scope scope' : Scope} {own : List (Str × Nat)} {cl : List (Str × Addr)} {C : Addr} {env : Env} (h : blkC N scope scope' own = true) : BlkOk N (compEnvC scope cl C env).scope scope' own := by
  have b := blkOk_by h
  refine ⟨b.kind, b.uniq, b.ix, fun y hy e => ?_, b.own⟩
  rcases b.free y hy e with q | q
  · exact look_nest (p := fun n k => k == .free && env.scope.kind == .function && env.kindOf n == some .cell) (.inl rfl) q
  · exact look_nest (p := fun n k => k == .free && env.scope.kind == .function && env.kindOf n == some .cell) (.inr rfl) q
end Pf

namespace Pf
open PySem PySem.Spec PyProof.Rows L2
open Tr
/-! how many of all cases: a tree's value, level by level, and the sum over all sets -/
def chAt (cs : List Int) (p : Int) : Int := (cs[p.toNat]?).getD 0
/-- out of 1000 ^ d cases -/
def qv (c : Int → Int) : Tr → Nat → Int
  | .leaf b, d => if b = true then 1000 ^ d else 0
  | .node _ _ _, 0 => 0
  | .node k a b, d + 1 => (1000 - c k) * qv c a d + c k * qv c b d
theorem qv_up {c : Int → Int} : ∀ {t : Tr} {d : Nat}, t.ht ≤ d → qv c t (d + 1) = 1000 * qv c t d
  | .leaf b, d, _ => by
    show (if b = true then (1000 : Int) ^ (d + 1) else 0) = 1000 * (if b = true then (1000 : Int) ^ d else 0)
    cases b
    · rfl
    · rw [if_pos rfl, if_pos rfl, Int.pow_succ, Int.mul_comm]
  | .node k a b, 0, h => by
    have : (Tr.node k a b).ht = max a.ht b.ht + 1 := rfl
    omega
  | .node k a b, d + 1, h => by
    have : (Tr.node k a b).ht = max a.ht b.ht + 1 := rfl
    show (1000 - c k) * qv c a (d + 1) + c k * qv c b (d + 1) = 1000 * ((1000 - c k) * qv c a d + c k * qv c b d)
    rw [qv_up (t := a) (d := d) (by omega), qv_up (t := b) (d := d) (by omega), Int.mul_add, ← Int.mul_assoc, ← Int.mul_assoc, ← Int.mul_assoc, ← Int.mul_assoc, Int.mul_comm (1000 - c k) 1000, Int.mul_comm (c k) 1000]
/-- all cases, over the numbers in their order -/
def exC (c : Int → Int) (F : (Int → Bool) → Int) : List Int → (Int → Bool) → Int
  | [], S => F S
  | x :: vs, S => (1000 - c x) * exC c F vs (put S x false) + c x * exC c F vs (put S x true)
theorem exC_const {c : Int → Int} {v : Int} : ∀ {vs : List Int} {S : Int → Bool}, exC c (fun _ => v) vs S = 1000 ^ vs.length * v
  | [], S => by
    show v = 1000 ^ 0 * v
    rw [Int.pow_zero, Int.one_mul]
  | x :: vs, S => by
    show (1000 - c x) * exC c (fun _ => v) vs _ + c x * exC c (fun _ => v) vs _ = 1000 ^ (vs.length + 1) * v
    rw [exC_const, exC_const, ← Int.add_mul, Int.sub_add_cancel, Int.pow_succ, Int.mul_comm (1000 ^ vs.length) 1000, Int.mul_assoc]
theorem exC_snoc {c : Int → Int} {F : (Int → Bool) → Int} {x : Int} : ∀ {vs : List Int} {S : Int → Bool}, exC c F (vs ++ [x]) S = exC c (fun S => (1000 - c x) * F (put S x false) + c x * F (put S x true)) vs S
  | [], S => rfl
  | y :: vs, S => by
    show (1000 - c y) * exC c F (vs ++ [x]) _ + c y * exC c F (vs ++ [x]) _ = _
    rw [exC_snoc, exC_snoc]
    rfl
theorem exC_congr {c : Int → Int} {F G : (Int → Bool) → Int} : ∀ {vs : List Int} {S : Int → Bool}, (∀ S', (∀ k, k ∉ vs → S' k = S k) → F S' = G S') → exC c F vs S = exC c G vs S
  | [], S, h => h S fun _ _ => rfl
  | x :: vs, S, h => by
    have key : ∀ b, exC c F vs (put S x b) = exC c G vs (put S x b) := fun b => exC_congr fun S' h' => h S' fun k hk => by
      rw [h' k fun z => hk (List.mem_cons_of_mem _ z), put_ne fun e => hk (by rw [e]; exact List.mem_cons_self ..)]
    show _ * exC c F vs _ + _ * exC c F vs _ = _ * exC c G vs _ + _ * exC c G vs _
    rw [key, key]
def b01 (b : Bool) : Int := if b = true then 1 else 0
theorem ab_mono {x n : Int} {a : Tr} (h : a.Ab n) (hx : x < n) : a.Ab x := by
  cases a with
  | leaf b => trivial
  | node m t u =>
    have h : n < m := h
    show x < m
    omega
theorem ov_tail {x : Int} {vs : List Int} : ∀ {t : Tr}, t.Ok → t.Ab x → t.Ov (x :: vs) → t.Ov vs
  | .leaf _, _, _, _ => trivial
  | .node n a b, hk, ha, ho => by
    have ha : x < n := ha
    exact ⟨(List.mem_cons.mp ho.1).resolve_left (by omega), ov_tail hk.1 (ab_mono hk.2.2.2.1 ha) ho.2.1, ov_tail hk.2.1 (ab_mono hk.2.2.2.2 ha) ho.2.2⟩
/-- a tree over ascending numbers -/
theorem exC_tree {c : Int → Int} : ∀ {vs : List Int} {t : Tr} {S : Int → Bool}, Asc vs → t.Ok → t.Ov vs → exC c (fun S => b01 (t.ev S)) vs S = qv c t vs.length
  | [], .leaf b, S, _, _, _ => by cases b <;> rfl
  | [], .node k a b, S, _, _, h => nomatch h.1
  | x :: vs, .leaf b, S, _, _, _ => by
    show exC c (fun _ => b01 b) (x :: vs) S = _
    rw [exC_const]
    cases b
    · show 1000 ^ (x :: vs).length * (0 : Int) = 0
      rw [Int.mul_zero]
    · show 1000 ^ (x :: vs).length * (1 : Int) = 1000 ^ (x :: vs).length
      rw [Int.mul_one]
  | x :: vs, .node k a b, S, hv, hk, ho => by
    obtain ⟨v1, v2⟩ := List.pairwise_cons.mp hv
    have hx : x ∉ vs := fun z => by have := v1 x z; omega
    by_cases e : k = x
    · subst e
      have oa := ov_tail hk.1 hk.2.2.2.1 ho.2.1
      have ob := ov_tail hk.2.1 hk.2.2.2.2 ho.2.2
      have ea : exC c (fun S => b01 ((Tr.node k a b).ev S)) vs (put S k false) = qv c a vs.length := by
        rw [← exC_tree (c := c) (S := put S k false) v2 hk.1 oa]
        refine exC_congr fun S' h => ?_
        show b01 (if S' k = true then b.ev S' else a.ev S') = b01 (a.ev S')
        rw [h k hx, put_at, if_neg (by decide)]
      have eb : exC c (fun S => b01 ((Tr.node k a b).ev S)) vs (put S k true) = qv c b vs.length := by
        rw [← exC_tree (c := c) (S := put S k true) v2 hk.2.1 ob]
        refine exC_congr fun S' h => ?_
        show b01 (if S' k = true then b.ev S' else a.ev S') = b01 (b.ev S')
        rw [h k hx, put_at, if_pos rfl]
      show (1000 - c k) * exC c _ vs _ + c k * exC c _ vs _ = (1000 - c k) * qv c a vs.length + c k * qv c b vs.length
      rw [ea, eb]
    · have hkx : k ∈ vs := (List.mem_cons.mp ho.1).resolve_left e
      have ht : (Tr.node k a b).Ov vs := ov_tail hk (show x < k from v1 k hkx) ho
      show (1000 - c x) * exC c (fun S => b01 ((Tr.node k a b).ev S)) vs _ + c x * exC c (fun S => b01 ((Tr.node k a b).ev S)) vs _ = qv c (.node k a b) (vs.length + 1)
      rw [exC_tree v2 hk ht, exC_tree v2 hk ht, qv_up (ht_le vs hk ht), ← Int.add_mul, Int.sub_add_cancel]
/-- a row's cases -/
def wrow (c : Int → Int) (vs row : List Int) : Int := vs.foldl (fun a p => a * (if p ∈ row then c p else 1000 - c p)) 1
theorem wrow_snoc {c : Int → Int} {vs row : List Int} {x : Int} : wrow c (vs ++ [x]) row = wrow c vs row * (if x ∈ row then c x else 1000 - c x) := by
  unfold wrow
  rw [List.foldl_append]
  rfl
theorem wrow_congr {c : Int → Int} {vs row row' : List Int} (h : ∀ p ∈ vs, p ∈ row ↔ p ∈ row') : wrow c vs row = wrow c vs row' := by
  induction vs using snoc_ind with
  | nil => rfl
  | snoc vs x ih =>
    rw [wrow_snoc, wrow_snoc, ih fun p hp => h p (List.mem_append_left _ hp)]
    have := h x (List.mem_append_right _ (List.mem_singleton.mpr rfl))
    by_cases e : x ∈ row
    · rw [if_pos e, if_pos (this.mp e)]
    · rw [if_neg e, if_neg fun z => e (this.mpr z)]
theorem sum_rows {c : Int → Int} {F : (Int → Bool) → Int} {vs : List Int} (hv : vs.Nodup) : ((lsubs vs).map fun row => wrow c vs row * F fun k => decide (k ∈ row)).sum = exC c F vs fun _ => false := by
  induction vs using snoc_ind generalizing F with
  | nil =>
    show ((1 : Int) * F fun k => decide (k ∈ [])) + 0 = F fun _ => false
    rw [Int.add_zero, Int.one_mul]
    exact congrArg F (funext fun k => decide_eq_false List.not_mem_nil)
  | snoc vs x ih =>
    obtain ⟨n1, _, n3⟩ := List.nodup_append.mp hv
    have hx : x ∉ vs := fun z => n3 x z x (List.mem_singleton.mpr rfl) rfl
    rw [exC_snoc, ← ih (F := fun S => (1000 - c x) * F (put S x false) + c x * F (put S x true)) n1, lsubs_snoc, List.map_append, List.sum_append, List.map_map]
    have key : ∀ L : List (List Int), (∀ r ∈ L, x ∉ r) → (L.map fun row => wrow c (vs ++ [x]) row * F fun k => decide (k ∈ row)).sum + (L.map ((fun row => wrow c (vs ++ [x]) row * F fun k => decide (k ∈ row)) ∘ fun r => r ++ [x])).sum = (L.map fun row => wrow c vs row * ((1000 - c x) * F (put (fun k => decide (k ∈ row)) x false) + c x * F (put (fun k => decide (k ∈ row)) x true))).sum := by
      intro L
      induction L with
      | nil => exact fun _ => rfl
      | cons r L ih =>
        intro h
        have hr := h r (List.mem_cons_self ..)
        have i := ih fun y hy => h y (List.mem_cons_of_mem _ hy)
        have f1 : put (fun k => decide (k ∈ r)) x false = fun k => decide (k ∈ r) := funext fun k => by
          by_cases e : k = x
          · rw [e, put_at]
            exact (decide_eq_false hr).symm
          · rw [put_ne e]
        have f2 : put (fun k => decide (k ∈ r)) x true = fun k => decide (k ∈ r ++ [x]) := funext fun k => by
          by_cases e : k = x
          · rw [e, put_at]
            exact (decide_eq_true (List.mem_append_right _ (List.mem_singleton.mpr rfl))).symm
          · rw [put_ne e, Bool.eq_iff_iff, decide_eq_true_iff, decide_eq_true_iff, List.mem_append, List.mem_singleton]
            exact ⟨.inl, fun z => z.resolve_right e⟩
        have w1 : wrow c (vs ++ [x]) r = wrow c vs r * (1000 - c x) := by rw [wrow_snoc, if_neg hr]
        have w2 : wrow c (vs ++ [x]) (r ++ [x]) = wrow c vs r * c x := by
          rw [wrow_snoc, if_pos (List.mem_append_right _ (List.mem_singleton.mpr rfl)), wrow_congr (row' := r) fun p hp => ?_]
          rw [List.mem_append, List.mem_singleton]
          exact ⟨fun z => z.resolve_right fun e => hx (e ▸ hp), .inl⟩
        rw [List.map_cons, List.map_cons, List.map_cons, List.sum_cons, List.sum_cons, List.sum_cons, ← i, f1, f2]
        show wrow c (vs ++ [x]) r * _ + _ + (wrow c (vs ++ [x]) (r ++ [x]) * (F fun k => decide (k ∈ r ++ [x])) + _) = _
        rw [w1, w2, Int.mul_add, ← Int.mul_assoc, ← Int.mul_assoc]
        omega
    exact key _ fun r hr z => hx ((lsubs_mem.mp hr).subset z)
theorem qv_more {c : Int → Int} {t : Tr} {d : Nat} (h : t.ht ≤ d) : ∀ j, qv c t (d + j) = 1000 ^ j * qv c t d
  | 0 => by rw [Int.pow_zero, Int.one_mul]; rfl
  | j + 1 => by rw [← Nat.add_assoc, qv_up (by omega), qv_more h j, Int.pow_succ, Int.mul_comm (1000 ^ j) 1000, Int.mul_assoc]
theorem qv_eq {c : Int → Int} {t : Tr} {n m : Nat} (hn : t.ht ≤ n) (hm : t.ht ≤ m) : qv c t n * 1000 ^ m = qv c t m * 1000 ^ n := by
  obtain ⟨j, rfl⟩ : ∃ j, n = t.ht + j := ⟨n - t.ht, by omega⟩
  obtain ⟨k, rfl⟩ : ∃ k, m = t.ht + k := ⟨m - t.ht, by omega⟩
  rw [qv_more (Nat.le_refl _), qv_more (Nat.le_refl _), Int.pow_add, Int.pow_add]
  generalize (1000 : Int) ^ t.ht = A
  generalize (1000 : Int) ^ j = B
  generalize (1000 : Int) ^ k = C
  generalize qv c t t.ht = D
  rw [Int.mul_assoc, Int.mul_assoc, Int.mul_left_comm D, Int.mul_left_comm D, Int.mul_left_comm B, Int.mul_left_comm C A, Int.mul_left_comm B D, Int.mul_left_comm C D, Int.mul_comm B C]
theorem qv_range {c : Int → Int} (hc : ∀ k, 0 ≤ c k ∧ c k ≤ 1000) : ∀ {t : Tr} {d : Nat}, 0 ≤ qv c t d ∧ qv c t d ≤ 1000 ^ d
  | .leaf b, d => by
    have : (0 : Int) < 1000 ^ d := Int.pow_pos (by decide)
    show 0 ≤ (if b = true then (1000 : Int) ^ d else 0) ∧ (if b = true then (1000 : Int) ^ d else 0) ≤ 1000 ^ d
    cases b
    · rw [if_neg (by decide)]
      omega
    · rw [if_pos rfl]
      omega
  | .node _ _ _, 0 => ⟨Int.le_refl 0, by show (0 : Int) ≤ 1000 ^ 0; decide⟩
  | .node k a b, d + 1 => by
    obtain ⟨a1, a2⟩ := qv_range hc (t := a) (d := d)
    obtain ⟨b1, b2⟩ := qv_range hc (t := b) (d := d)
    obtain ⟨c1, c2⟩ := hc k
    show 0 ≤ (1000 - c k) * qv c a d + c k * qv c b d ∧ (1000 - c k) * qv c a d + c k * qv c b d ≤ 1000 ^ (d + 1)
    have p1 := Int.mul_nonneg (show 0 ≤ 1000 - c k by omega) a1
    have p2 := Int.mul_nonneg c1 b1
    have p3 := Int.mul_le_mul_of_nonneg_left a2 (show 0 ≤ 1000 - c k by omega)
    have p4 := Int.mul_le_mul_of_nonneg_left b2 c1
    have e : (1000 - c k) * 1000 ^ d + c k * 1000 ^ d = 1000 ^ (d + 1) := by rw [← Int.add_mul, Int.sub_add_cancel, Int.pow_succ, Int.mul_comm]
    omega
theorem put_comm {S : Int → Bool} {p x : Int} {a b : Bool} (h : p ≠ x) : put (put S p a) x b = put (put S x b) p a := funext fun k => by
  by_cases e1 : k = x
  · rw [e1, put_at, put_ne (Ne.symm h), put_at]
  · rw [put_ne e1]
    by_cases e2 : k = p
    · rw [e2, put_at, put_at]
    · rw [put_ne e2, put_ne e2, put_ne e1]
theorem exC_indep {c : Int → Int} {F : (Int → Bool) → Int} {p : Int} (hF : ∀ S b, F (put S p b) = F S) : ∀ {vs : List Int} {S : Int → Bool} {b : Bool}, p ∉ vs → exC c F vs (put S p b) = exC c F vs S
  | [], S, b, _ => hF S b
  | x :: vs, S, b, h => by
    have hx : p ≠ x := fun e => h (by rw [e]; exact List.mem_cons_self ..)
    have hv : p ∉ vs := fun z => h (List.mem_cons_of_mem _ z)
    show (1000 - c x) * exC c F vs (put (put S p b) x false) + c x * exC c F vs (put (put S p b) x true) = (1000 - c x) * exC c F vs (put S x false) + c x * exC c F vs (put S x true)
    rw [put_comm hx, put_comm hx, exC_indep hF hv, exC_indep hF hv]
/-- the cases with one number in -/
theorem exC_pin {c : Int → Int} {G : (Int → Bool) → Int} {p : Int} (hG : ∀ S b, G (put S p b) = G S) : ∀ {vs : List Int} {S : Int → Bool}, vs.Nodup → p ∈ vs → 1000 * exC c (fun S => b01 (S p) * G S) vs S = c p * exC c G vs S
  | [], _, _, h => nomatch h
  | x :: vs, S, hn, h => by
    obtain ⟨n1, n2⟩ := List.nodup_cons.mp hn
    show 1000 * ((1000 - c x) * exC c (fun S => b01 (S p) * G S) vs (put S x false) + c x * exC c (fun S => b01 (S p) * G S) vs (put S x true)) = c p * ((1000 - c x) * exC c G vs (put S x false) + c x * exC c G vs (put S x true))
    by_cases e : p = x
    · subst e
      have e0 : exC c (fun S => b01 (S p) * G S) vs (put S p false) = 0 := by
        rw [exC_congr (G := fun _ => 0) fun S' h' => by
          rw [h' p n1, put_at]
          exact Int.zero_mul _, exC_const, Int.mul_zero]
      have e1 : exC c (fun S => b01 (S p) * G S) vs (put S p true) = exC c G vs (put S p true) := exC_congr fun S' h' => by
        rw [h' p n1, put_at]
        exact Int.one_mul _
      rw [e0, e1, exC_indep hG n1, exC_indep hG n1, Int.mul_zero, Int.zero_add, ← Int.add_mul, Int.sub_add_cancel, Int.mul_left_comm]
    · have hp := (List.mem_cons.mp h).resolve_left e
      have i0 := exC_pin (c := c) hG (S := put S x false) n2 hp
      have i1 := exC_pin (c := c) hG (S := put S x true) n2 hp
      rw [Int.mul_add, Int.mul_left_comm 1000, i0, Int.mul_left_comm 1000 (c x), i1, Int.mul_add, Int.mul_left_comm (c p), Int.mul_left_comm (c p) (c x)]
end Pf

namespace Pf
open PySem PySem.Spec PyProof.Rows L2
open AutoSeq1 (wpAny_loadPart')
/-! enumerate of a tuple -/
theorem meets_enumT (l : Addr) (items : Array Value) (n : Nat) (dct : Option Addr) (sl : Array (Option Value)) :
    Meets (Builtin.«enumerate.__new__» ⟨[.type "enumerate", .ref l], []⟩) (fun _ R s => s.heap.get? l = some { cls := .type "tuple", dict := dct, data := .seq items n, slots := sl } ∧
      R (.ok (.ret (.ref (s.heap.push { cls := .type "tuple_iterator", data := .fields #[.ref l, .int 0 0] }).objs.size)))
        { s with heap := (s.heap.push { cls := .type "tuple_iterator", data := .fields #[.ref l, .int 0 0] }).push { cls := .type "enumerate", data := .fields #[.none, .bool false, .ref s.heap.objs.size, rawInt 0, .none, .none] } }) :=
  .of_wp fun prog w A R s h => by
    obtain ⟨hp, g, d, tk, os⟩ := s
    obtain ⟨hl, h⟩ := h
    have hsub := sub_enumerate
    have hL : Heap.IsTuple (Shared.heap ⟨hp, g, d, tk, os⟩) l items := ⟨_, hl, rfl, n, rfl⟩
    wp_walk using wpAny_loadPart' hl
    refine wpAny_stack_any fun st => wpAny_pure ?_
    split
    · rename_i c _ _ _ _ _
      cases (c == Value.type "enumerate")
      · wp_walk using wpAny_loadPart' hl, wpAny_pyIter_tuple hL
        exact ⟨_, rfl, h⟩
      · wp_walk using wpAny_loadPart' hl, wpAny_pyIter_tuple hL
        exact ⟨_, rfl, h⟩
    · wp_walk using wpAny_loadPart' hl, wpAny_pyIter_tuple hL
      exact ⟨_, rfl, h⟩
theorem call_enumT {prog : Program} {w : World} {A : Around} {E : Value → Shared → Prop} {s : Shared} {l : Addr} {items : Array Value} {Q : Value → Shared → Prop} (hL : s.heap.IsTuple l items)
    (h : ∀ h', IsEnum h' (s.heap.objs.size + 1) s.heap.objs.size 0 .none → h'.IsTupleIter s.heap.objs.size l 0 → (∀ b o, s.heap.get? b = some o → h'.get? b = some o) → Q (.ref (s.heap.objs.size + 1)) { s with heap := h' }) :
    wpAny (model prog w) A (call (.type "enumerate") [.ref l]) Q E s := by
  obtain ⟨⟨c, dct, dt, sl⟩, hl, hc, n, hd⟩ := hL
  replace hc : c = .type "tuple" := hc
  replace hd : dt = .seq items n := hd
  subst hc hd
  refine callType_new F.called_enumerate (by decide) (F.typeCall_enumerate_1 _) (F.newCall_enumerate_1 _) (fun obj => F.args_object_init_2 obj _) F.entry_enumerate_new (meets_enumT l items n dct sl) ⟨hl, ?_⟩
  have hz : (s.heap.push { cls := .type "tuple_iterator", data := .fields #[.ref l, .int 0 0] }).objs.size = s.heap.objs.size + 1 := Heap.size_push ..
  show _ ∧ _
  rw [hz]
  have he : IsEnum ((s.heap.push { cls := .type "tuple_iterator", data := .fields #[.ref l, .int 0 0] }).push { cls := .type "enumerate", data := .fields #[.none, .bool false, .ref s.heap.objs.size, rawInt 0, .none, .none] }) (s.heap.objs.size + 1) s.heap.objs.size 0 .none := by
    have := Heap.get?_push_size (s.heap.push { cls := .type "tuple_iterator", data := .fields #[.ref l, .int 0 0] }) (o := { cls := .type "enumerate", data := .fields #[.none, .bool false, .ref s.heap.objs.size, rawInt 0, .none, .none] }) rfl
    rw [hz] at this
    exact this
  exact ⟨⟨_, he, rfl⟩, h _ he ⟨_, Heap.get?_push_of_some _ (Heap.get?_push_size _ rfl), rfl, rfl⟩ fun b o x => Heap.get?_push_of_some _ (Heap.get?_push_of_some _ x)⟩
/-- the tuple at a, each item in a new pair -/
def IteT (K : PySem.W.Frag) (a : Addr) : It :=
  ⟨fun i H => ∃ (xs : List V) (x : V), SqT K H a xs ∧ xs[i]? = some x, fun i H v H' => ∃ T x, v = .ref T ∧ H T = none ∧ H' = upd H T (.tup [.int (i : Nat), x]) ∧ ∀ xs, SqT K H a xs → xs[i]? = some x, fun i H => ∃ xs : List V, SqT K H a xs ∧ xs.length = i⟩
theorem tup_apart {h : Heap} {a it : Addr} {i : Nat} {its : Array Value} (p : h.IsTuple a its) (hit : h.IsTupleIter it a i) : a ≠ it := fun z => by
  obtain ⟨o, e1, c1, _⟩ := p
  obtain ⟨o', e2, c2, _⟩ := hit
  rw [z] at e1
  rw [e1] at e2
  cases e2
  rw [c1] at c2
  exact absurd c2 (by decide)
theorem turn_enumT {P : Program} {w : World} {K : PySem.W.Frag} {elts : List Expr} {kk : Nat} {tpos : Pos} (a e it : Addr) :
    Turn P w K (.Tuple elts kk tpos) (IteT K a) [e, it] e (fun i h => (∃ old, IsEnum h e it ((i : Nat) : Int) old) ∧ h.IsTupleIter it a i ∧ e ≠ it) where
  mem := by simp
  obj := fun i h st b hb => by
    obtain ⟨⟨old, he⟩, ⟨o, ho, hc, hd⟩, _⟩ := st
    rcases List.mem_cons.mp hb with z | z
    · rw [z]
      exact ⟨_, he, fun v q => nomatch q⟩
    · rw [List.mem_singleton.mp z]
      exact ⟨o, ho, fun v q => by rw [hd] at q; cases q⟩
  keep := fun i h h' st k => let ⟨⟨old, he⟩, hi, hne⟩ := st; ⟨⟨old, k e (by simp) _ he⟩, hi.at fun o q => k it (by simp) o q, hne⟩
  item := by
    intro X hP hw hK hc i pins s σ H E I hf st hg
    subst hP hw hK
    obtain ⟨⟨old, he⟩, hit, hne⟩ := st
    obtain ⟨xs, x, hq, hx⟩ := hg
    obtain ⟨its, rv, p, hz⟩ := I.tuple hq
    obtain ⟨u, hu, ru⟩ := rv.get hx
    have hel : e < s.heap.objs.size := Heap.lt_size he
    have hil : it < s.heap.objs.size := by obtain ⟨_, q, _⟩ := hit; exact Heap.lt_size q
    have hea : e ∉ [it, a] := fun z => by
      rcases List.mem_cons.mp z with z | z
      · exact hne z
      · obtain ⟨o, e1, c1, _⟩ := p
        rw [← List.mem_singleton.mp z, he] at e1
        cases e1
        exact absurd (show Value.type "enumerate" = Value.type "tuple" from c1) (by decide)
    have hlt : i < its.toArray.size := by
      have := (List.getElem?_eq_some_iff.mp hu).1
      simpa using this
    refine wpAny_pyNext_enum_itemD (Draws.tuple (by rw [show X.A.in1.handled = none from I.ok.hd hc]) it a (tup_apart p hit) its.toArray) he ⟨hit, p⟩ hlt hne hea fun x' h' tk hP ho hst hT hsz hk => ?_
    have ex : x' = u := by
      have hP : its.toArray[i]? = some x' := hP
      rw [show its.toArray[i]? = its[i]? by simp, hu] at hP
      exact (Option.some.inj hP).symm
    subst ex
    refine ⟨_, rfl, wpAny_letOwnedTupleGo_enum (s := { s with heap := h', toks := tk + 1 }) ho fun h'' he' sb => ?_⟩
    have hT2 : h''.get? s.heap.objs.size = some { cls := .type "tuple", data := .seq #[.int i tk, x'] } := (sb.2 _ (Nat.ne_of_gt hel)).trans hT
    have new : ObjOk X.prog X.w (upd H s.heap.objs.size (.tup [.int (i : Nat), x])) h'' s.heap.objs.size (.tup [.int (i : Nat), x]) :=
      ⟨by show 2 ≤ sizeLine; decide, [.int i tk, x'], .cons ⟨_, rfl⟩ (.cons ru .nil), ⟨_, hT2, rfl, _, rfl⟩⟩
    have I1 : Inv X pins σ (upd H s.heap.objs.size (.tup [.int (i : Nat), x])) { s with heap := h'', toks := tk + 1 } :=
      I.turnedNew (ch := [e, it]) (fun b ob hb q => (sb.2 b (fun z => hb (by simp [z]))).trans (hk b ob (fun z => hb (by simp [z])) (fun z => hb (by simp [z])) q)) hf (Nat.le_refl _) new
    refine ⟨.ref s.heap.objs.size, _, I1, rfl, ⟨_, x, rfl, I.hok.fresh (Nat.le_refl _), rfl, fun ys hy => by rw [I.tuple_inj hy hq]; exact hx⟩, ⟨⟨x', ?_⟩, hst.1.at fun o q => (sb.2 it (Ne.symm hne)).trans q, hne⟩, fun b hb => ?_⟩
    · have e1 : ((i + 1 : Nat) : Int) = (i : Int) + 1 := by omega
      rw [e1]
      exact he'
    · have hb' : b < s.heap.objs.size := by
        rcases List.mem_cons.mp hb with z | z
        · rw [z]; exact hel
        · rw [List.mem_singleton.mp z]; exact hil
      rw [upd_ne (Nat.ne_of_lt hb')]
      exact (hf b hb).1
  done := by
    intro X hP hw hK hc i pins s σ H E I hf st hg
    subst hP hw hK
    obtain ⟨⟨old, he⟩, hit, hne⟩ := st
    obtain ⟨xs, hq, hx⟩ := hg
    obtain ⟨its, rv, p, hz⟩ := I.tuple hq
    obtain ⟨f0, f1, f2, f3, f4, f5⟩ := hf it (by simp)
    have hl := rv.length
    exact wpAny_pyNext_enum_endD (Draws.tuple (by rw [show X.A.in1.handled = none from I.ok.hd hc]) it a (tup_apart p hit) its.toArray) he ⟨by rw [List.size_toArray, ← hl, hx]; exact hit, p⟩ fun h' eb => ⟨rfl, I.turned (t' := s.toks) (fun b o hb q => eb b o hb q) f0 f1 f3 f4 f5⟩
  self := fun A i s Q E st h => let ⟨⟨_, he⟩, _⟩ := st; wpAny_pyIter_enum he h
def iEnumT (K : PySem.W.Frag) (ta : TA) : TI := fun σ H R => ta σ H fun vs H1 => ∃ a xs, vs = [.ref a] ∧ SqT K H1 a xs ∧ R (IteT K a) H1
theorem pi_enumT {X : Cx} {e : Expr} {ta : TA} {p pos tpos : Pos} {elts : List Expr} {kk : Nat} (hg : Gl X "enumerate") (hm : X.mg "enumerate" = none) (ha : PA X [e] ta) (hs : starEach [e] X.env = [(false, eval e X.env)] := by rfl) :
    PI X (.Tuple elts kk tpos) (.Call (.Name "enumerate" p) [e] [] pos) (iEnumT X.K ta) := by
  refine ⟨fun pins s σ H R I h => ?_⟩
  refine Call_ (ld_blt I hg hm boot_enumerate (PyProof.Rows.callWith_type1 (thn (ha.run pos pins s σ H _ I h) fun us s1 ⟨vs, H1, I1, r1, q1⟩ => ?_) hs rfl))
  obtain ⟨a, xs, ex, hq, q⟩ := q1
  subst ex
  cases r1 with
  | cons r rr =>
    cases rr
    cases r
    obtain ⟨its, rv, p', hz⟩ := I1.tuple hq
    refine call_enumT p' fun h' he hit hk => wpAny_pyIter_enum he ?_
    have I2 : Inv X pins σ H1 { s1 with heap := h' } := I1.kept (t' := s1.toks) hk
    refine ⟨s1.heap.objs.size + 1, [s1.heap.objs.size + 1, s1.heap.objs.size], _, _, H1, rfl, I2, turn_enumT a (s1.heap.objs.size + 1) s1.heap.objs.size, ⟨⟨.none, he⟩, hit, Nat.succ_ne_self _⟩, fun b hb => ?_, q⟩
    have hle : s1.heap.objs.size ≤ b := by
      rcases List.mem_cons.mp hb with z | z
      · rw [z]; exact Nat.le_add_right _ _
      · rw [List.mem_singleton.mp z]; exact Nat.le_refl _
    exact I1.fpOk hle (I1.hok.fresh hle)
section
variable {K : PySem.W.Frag} {C : Fx} {B : Hp} {σ : L2.St} {H M : Hp} {ρ : List Sl} {w : Own} {tp : List (V × PyData)} {a : Addr} {xs : List V} {v : V} {ds : List PyData} {g : TG} {tb : TS} {D : Ends} {X : Cx} {tg e : Expr}
theorem walk_enumT : Walk (IteT K a) xs.length (fun H => SqT K H a xs) (YPair (fun i => some (.int (i : Nat))) (fun i => xs[i]?)) := by
  refine ⟨fun i _ hi q => ⟨xs, xs[i], q, by simp [hi]⟩, fun _ q => ⟨xs, q, rfl⟩, fun i H v H' _ q y => ?_⟩
  obtain ⟨T, x, h1, h2, h3, h4⟩ := y
  exact ⟨T, .int (i : Nat), x, h1, h2, h3, rfl, h4 xs q⟩
def ForET (K : PySem.W.Frag) (R : It → Hp → Prop) (us : List V) (H1 : Hp) : Prop := ∃ a xs, us = [.ref a] ∧ SqT K H1 a xs ∧ R (IteT K a) H1
theorem x_fET {tl : TA} (h : tl σ H fun us H1 => ForET K (ForB g tb D σ) us H1) : tFor (iEnumT K tl) g tb D σ H := h
theorem x_forET (I : Nat → List Sl → Own → Prop) (S : Ds K C B σ H M ρ w tp) (ht : Tm tp v (.tuple ds)) (h0 : I 0 ρ w)
    (hs : ∀ i d ρ1 w1, ds[i]? = some d → I i ρ1 w1 → ∀ u σ1 H1 M1, Ds K C M σ1 H1 M1 ρ1 w1 [(u, .tuple [.int (i : Nat), d])] → g u σ1 H1 fun σ2 H2 => tb { D with nx := Nx K C M I (i + 1), ct := Nx K C M I (i + 1), bk := D.nx } σ2 H2)
    (hd : ∀ ρ1 w1, I ds.length ρ1 w1 → ∀ σ1 H1 M1, Ds K C B σ1 H1 M1 ρ1 w1 [] → D.nx σ1 H1) : ForET K (ForB g tb D σ) [v] H := by
  obtain ⟨p, xs, rfl, h1, h2⟩ := dp_tup (ht.dp S)
  refine ⟨p, xs, rfl, Same.seqT S.sub h1, for_it (walk_enumT (K := K) (a := p) (xs := xs)) (Nx K C M I) ⟨M, ρ, w, h0, S.base.clr⟩ (fun i σ1 H1 _ q => ?_) (fun i x σ1 H1 H2 hx q y => ?_) (fun σ1 H1 q => ?_)⟩
  · obtain ⟨M1, ρ1, w1, _, S1⟩ := q
    exact Same.seqT (S1.bs.trans S1.sub) h1
  · obtain ⟨M1, ρ1, w1, q, S1⟩ := q
    obtain ⟨T, x1, x2, rfl, hT, rfl, e1, e2⟩ := y
    cases e1
    have hi : i < ds.length := by rw [← dpAll_len h2]; exact hx
    have e := List.getElem?_eq_getElem hi
    exact hs i _ ρ1 w1 e q _ σ1 _ _ (S1.newT hT (.cons (.int _) (.cons (Dp.same S1.bs (dpAll_at h2 i x2 _ e2 e)) .nil)))
  · obtain ⟨M1, ρ1, w1, q, S1⟩ := q
    exact hd ρ1 w1 (dpAll_len h2 ▸ q) σ1 H1 M1 (S1.base' S.bs)
theorem kIET {tl : TA} (p : PI X tg e (iEnumT X.K tl)) (h : X.K = K := by rfl) : PI X tg e (iEnumT K tl) := h ▸ p
end
end Pf

namespace Pf
open PySem PySem.Spec PyProof.Rows L2
/-! sorted of a tuple of ints; math.factorial; xs[i] += n -/
def rSortedTI (K : PySem.W.Frag) : List V → Hp → VK → Prop := fun vs H Q => ∃ (a : Addr) (ns : List Int), vs = [V.ref a] ∧ SqT K H a (ns.map V.int) ∧ ns.length < 64 ∧ ∀ (ns' : List Int) (p : Addr), ns'.Perm ns → ns'.Pairwise (· ≤ ·) → H p = none → Q (.ref p) (upd H p (.lst (ns'.map V.int)))
section
variable {X : Cx}
theorem cr_sortedTI : CallR X (.builtin "sorted") (rSortedTI X.K) := by
  intro pins s σ H vs us Q I r h
  obtain ⟨a, ns, rfl, hs, h64, q⟩ := h
  obtain ⟨its, rv, ⟨o, ho, hc, n, hd⟩, hz⟩ := I.tuple hs
  rw [Vals.ref1 r]
  have hi := rv.ints
  have h64' : its.length < 64 := by rw [hi.length]; exact h64
  have hsz : its.length ≤ sizeLine := small64 h64'
  refine Calls.call_function_entry kind_sorted plain_sorted entry_sorted (args_sorted1 _) ?_
  unfold Builtin.«sorted»
  refine wpAny_bind (m := checkCount "sorted" 1 1 _) (wpAny_pure ?_)
  refine wpAny_bind (wpAny_collect_seq (hsz := by rw [List.size_toArray]; exact hsz) a (.inr rfl) ho hc hd fun h' keep => ?_)
  refine wpAny_bind (wpAny_newList ?_ hsz)
  have at_ : (h'.push (seqObj "list" its.toArray 0)).get? h'.objs.size = some (seqObj "list" its.toArray 0) := Heap.get?_push_size _ rfl
  show wpAny _ _ _ _ _ { s with heap := h'.push (seqObj "list" its.toArray 0) }
  refine wpAny_bind (wpAny_holding (wpAny_call_entry slot_list_sort ⟨_, at_, rfl⟩ entry_list_sort (list_sort_tree at_ hi h64' fun out ns' a1 a2 a3 => ⟨_, rfl, ?_⟩) (args_list_sort _)))
  refine wpAny_pure ⟨_, rfl, ?_⟩
  obtain ⟨ep, he'⟩ := sortedHeap_at (vs := its) (out := out) at_
  have hlen : (ns'.map V.int).length ≤ sizeLine := by rw [List.length_map, a2.length_eq]; exact small64 h64
  have I1 : Inv X pins σ H { s with heap := h' } := I.kept (t' := s.toks) keep
  have old : ∀ b u, h'.get? b = some u → (sortedHeap (h'.push (seqObj "list" its.toArray 0)) h'.objs.size its out).get? b = some u := fun b u e => by
    have lt := Heap.lt_size e
    rw [sortedHeap_old (Nat.ne_of_lt lt) (by rw [size_push']; exact Nat.lt_succ_of_lt lt)]
    exact Heap.get?_push_of_some _ e
  exact ⟨.ref _, upd H h'.objs.size (.lst (ns'.map V.int)), I1.laid (t' := s.toks) old (Nat.le_refl _) ⟨hlen, out.toList, ep, vals_of_ints a1, he'⟩, rfl, q ns' _ a2 a3 (I1.hok.fresh (Nat.le_refl _))⟩
theorem kSortedTI {K : PySem.W.Frag} (h : X.K = K := by rfl) : CallR X (.builtin "sorted") (rSortedTI K) := h ▸ cr_sortedTI
/-- math.factorial -/
def rFac : List V → Hp → VK → Prop := fun vs H Q => ∃ a : Int, vs = [.int a] ∧ 0 ≤ a ∧ a ≤ 20000 ∧ Q (.int ((Builtin.Math.factorialNat a.toNat : Nat) : Int)) H
theorem cr_fac : CallR X (.builtin "math.factorial") rFac := by
  intro pins s σ H vs us Q I r h
  obtain ⟨a, rfl, h0, h1, q⟩ := h
  cases r with
  | cons r rr =>
    cases rr
    obtain ⟨t, rfl⟩ := r
    exact PySem.W.mc_factorial h0 h1 fun _ => ⟨.int _, H, I.tok _, ⟨_, rfl⟩, q⟩
/-- xs[i] within xs[i] += n, i not below 0 -/
def rGetL (K : PySem.W.Frag) : V → V → Hp → VK → Prop := fun o i H Q => ∃ p xs k v, o = .ref p ∧ i = .int k ∧ 0 ≤ k ∧ SqL K H p xs ∧ atI xs k = some v ∧ Q v H
theorem get_L : PGet X (rGetL X.K) := by
  intro pins s σ H o i ov iv Q I ro ri h
  obtain ⟨p, xs, k, v, rfl, rfl, h0, hq, he, q⟩ := h
  cases ro
  obtain ⟨t, rfl⟩ := ri
  obtain ⟨its, r, pl, hz⟩ := I.list hq
  obtain ⟨j, h1, h2, h3, h4, h5⟩ := atI_get he
  obtain ⟨u, eu, ru⟩ := r.get h2
  have hl := r.length
  have hn := line63
  have hj : k.toNat = j := by
    rw [seqIndex_of h0 h5] at h1
    exact Option.some.inj h1
  exact wpAny_getItem_list pl.isList h0 (by omega) (by rw [hj]; simpa using eu) ⟨v, H, I, ru, q⟩
theorem kGetL {K : PySem.W.Frag} (h : X.K = K := by rfl) : PGet X (rGetL K) := h ▸ get_L
end
section
variable {K : PySem.W.Frag} {C : Fx} {B : Hp} {σ : L2.St} {H M H' M' : Hp} {ρ : List Sl} {w w' : Own} {tp : List (V × PyData)} {R : VK} {v : V} {p : Addr} {ns : List Int} {D : Ends} {to ti te : TE} {ds : List PyData} {i : Int}
theorem dp_ints : ∀ {us : List V} {ns : List Int}, DpAll K M us (ns.map .int) → us = ns.map V.int
  | [], [], _ => rfl
  | _, n :: ns, .cons h t => by
    cases h
    rw [dp_ints t]
    rfl
theorem x_sortTI (S : Ds K C B σ H M ρ w tp) (ht : Tm tp v (.tuple (ns.map .int))) (hl : ns.length < 64) (q : ∀ (ns' : List Int) l H', ns'.Perm ns → ns'.Pairwise (· ≤ ·) → Ds K C B σ H' M ρ ((l, .lst (ns'.map .int)) :: w) tp → R (.ref l) H') : rSortedTI K [v] H R := by
  obtain ⟨a, xs, rfl, h1, h2⟩ := dp_tup (ht.dp S)
  rw [dp_ints h2] at h1
  exact ⟨a, ns, rfl, Same.seqT S.sub h1, hl, fun ns' l h3 h4 h5 => q ns' l _ h3 h4 (S.newL h5 (dpA_ints))⟩
theorem x_augS {t : TSet} {tg : V → V → Hp → VK → Prop} {ip : TIp} (h : to σ H fun o H1 => ti σ H1 fun i H2 => tg o i H2 fun x H3 => te σ H3 fun y H4 => ip x y H4 fun z H5 => t o i z H5 fun H6 => D.nx σ H6) : tAugS to ti te tg ip t D σ H := h
theorem x_getL {d : PyData} (j : Nat) (S : Ds K C B σ H M ρ w tp) (hj : w[j]? = some (p, .lst ds)) (h0 : 0 ≤ i) (hi : atI ds i = some d) (q : Giv K M H R d) : rGetL K (.ref p) (.int i) H R := by
  obtain ⟨us, k, x, e1, e2, h1, h2, h3⟩ : ∃ us k x, V.ref p = .ref p ∧ V.int i = .int k ∧ SqL K H p us ∧ atI us k = some x ∧ R x H := by
    obtain ⟨b, us, k, x, e1, e2, h1, h2, h3⟩ := x_ixO (R := R) j S hj hi q
    cases e1
    exact ⟨us, k, x, rfl, e2, h1, h2, h3⟩
  cases e2
  exact ⟨p, us, _, x, rfl, rfl, h0, h1, h2, h3⟩
theorem x_fac {a : Int} (h0 : 0 ≤ a) (h1 : a ≤ 20000) (q : R (.int ((Builtin.Math.factorialNat a.toNat : Nat) : Int)) H) : rFac [.int a] H R := ⟨a, rfl, h0, h1, q⟩
end
end Pf

namespace Pf
open PySem PySem.Spec PyProof.Rows L2
/-! orders of coming, and how many of them turn on one number -/
section
variable {α β : Type}
def ins1 (p : α) (o : List α) : List (List α) := (List.range (o.length + 1)).map fun i => o.take i ++ p :: o.drop i
def orders (ps : List α) : List (List α) := ps.foldl (fun rs p => rs.flatMap (ins1 p)) [[]]
theorem orders_snoc {ps : List α} {p : α} : orders (ps ++ [p]) = (orders ps).flatMap (ins1 p) := by
  unfold orders
  rw [List.foldl_append]
  rfl
theorem ins_map (f : α → β) (p : α) (o : List α) : ins1 (f p) (o.map f) = (ins1 p o).map (List.map f) := by
  unfold ins1
  rw [List.length_map, List.map_map]
  refine List.map_congr_left fun i _ => ?_
  show (o.map f).take i ++ f p :: (o.map f).drop i = (o.take i ++ p :: o.drop i).map f
  rw [List.map_append, List.map_cons, List.map_take, List.map_drop]
theorem orders_map (f : α → β) (ps : List α) : orders (ps.map f) = (orders ps).map (List.map f) := by
  induction ps using snoc_ind with
  | nil => rfl
  | snoc ps p ih =>
    rw [List.map_append, List.map_cons, List.map_nil, orders_snoc, orders_snoc, ih, List.flatMap_map, List.map_flatMap]
    congr 1
    funext o
    exact ins_map f p o
theorem orders_perm {ps : List α} {o : List α} (h : o ∈ orders ps) : o.Perm ps := by
  induction ps using snoc_ind generalizing o with
  | nil =>
    rw [List.mem_singleton.mp h]
  | snoc ps p ih =>
    rw [orders_snoc] at h
    obtain ⟨o', h1, h2⟩ := List.mem_flatMap.mp h
    obtain ⟨i, _, rfl⟩ := List.mem_map.mp h2
    have e : (o'.take i ++ p :: o'.drop i).Perm (p :: (o'.take i ++ o'.drop i)) := List.perm_middle
    rw [List.take_append_drop] at e
    exact e.trans (((ih h1).cons p).trans (List.perm_append_singleton p ps).symm)
/-- all sets of some numbers -/
def subsP (vs : List α) : List (List α) := vs.foldl (fun rs x => rs ++ rs.map fun r => r ++ [x]) [[]]
theorem subs_snoc {vs : List α} {x : α} : subsP (vs ++ [x]) = subsP vs ++ (subsP vs).map fun r => r ++ [x] := by
  unfold subsP
  rw [List.foldl_append]
  rfl
theorem subs_map (f : α → β) (vs : List α) : subsP (vs.map f) = (subsP vs).map (List.map f) := by
  induction vs using snoc_ind with
  | nil => rfl
  | snoc vs x ih =>
    rw [List.map_append, List.map_cons, List.map_nil, subs_snoc, subs_snoc, ih, List.map_append, List.map_map, List.map_map]
    congr 1
    refine List.map_congr_left fun r _ => ?_
    show r.map f ++ [f x] = (r ++ [x]).map f
    rw [List.map_append]
    rfl
end
theorem nodup_permR {α : Type} [DecidableEq α] : ∀ (f g : List α), f.Nodup → g.Nodup → (∀ x, x ∈ f ↔ x ∈ g) → f.Perm g
  | [], [], _, _, _ => .nil
  | [], y :: _, _, _, h => nomatch (h y).mpr (List.mem_cons_self ..)
  | x :: f, g, hf, hg, h => by
    obtain ⟨h1, h2⟩ := List.nodup_cons.mp hf
    have hx : x ∈ g := (h x).mp (List.mem_cons_self ..)
    refine (List.Perm.cons x (nodup_permR f (g.erase x) h2 (hg.erase x) fun y => ?_)).trans (List.perm_cons_erase hx).symm
    rw [hg.mem_erase_iff]
    constructor
    · exact fun hy => ⟨fun e => h1 (e ▸ hy), (h y).mp (List.mem_cons_of_mem _ hy)⟩
    · rintro ⟨ne, hy⟩
      exact (List.mem_cons.mp ((h y).mpr hy)).resolve_left ne
theorem lsubs_nodup {vs : List Int} (hv : vs.Pairwise (· < ·)) : (lsubs vs).Nodup := by
  induction vs using snoc_ind with
  | nil => exact List.nodup_cons.mpr ⟨(fun z => nomatch z), List.nodup_nil⟩
  | snoc vs x ih =>
    obtain ⟨h1, _, h3⟩ := List.pairwise_append.mp hv
    have i := ih h1
    rw [lsubs_snoc]
    refine List.nodup_append.mpr ⟨i, ?_, fun a ha b hb e => ?_⟩
    · refine List.Pairwise.map _ (fun a b ne e => ne ?_) i
      exact List.append_cancel_right e
    · obtain ⟨c, _, rfl⟩ := List.mem_map.mp hb
      have := (lsubs_mem.mp ha).subset (e ▸ List.mem_append_right c (List.mem_singleton.mpr rfl))
      have := h3 x this x (List.mem_singleton.mpr rfl)
      omega
def fac (n : Nat) : Nat := Builtin.Math.factorialNat n
def wN (n m : Nat) : Nat := fac m * fac (n - 1 - m)
def befA (n k : Nat) : List (List Nat) := (orders (List.range n)).map fun o => (List.range n).filter fun i => decide (i ∈ o.take (o.idxOf k))
def befB (n k : Nat) : List (List Nat) := (subsP ((List.range n).filter fun i => decide (i ≠ k))).flatMap fun S => List.replicate (wN n S.length) S
theorem bef_perm : ∀ n < 6, ∀ k < n, (befA n k).Perm (befB n k) := by decide +kernel
theorem orders_len : ∀ n < 6, (orders (List.range n)).length = fac n := by decide +kernel
theorem fac_pos : ∀ n < 11, 0 < fac n := by decide +kernel
theorem fac_le : ∀ n < 11, fac n ≤ 3628800 := by decide +kernel
def shSum (g : List Int → Bool) (n : Nat) (F : List (List Int)) : Nat := (F.map fun x => if g x = true then wN n x.length else 0).sum
theorem idx_map {f : Nat → Int} {k : Nat} : ∀ {l : List Nat}, (∀ x ∈ l, f x = f k → x = k) → (l.map f).idxOf (f k) = l.idxOf k
  | [], _ => rfl
  | x :: l, h => by
    rw [List.map_cons, List.idxOf_cons, List.idxOf_cons]
    by_cases e : x = k
    · subst e
      rw [show (f x == f x) = true from beq_self_eq_true _, show (x == x) = true from beq_self_eq_true _]
      rfl
    · have e2 : ¬ f x = f k := fun z => e (h x (List.mem_cons_self ..) z)
      rw [idx_map fun y hy => h y (List.mem_cons_of_mem _ hy), show (f x == f k) = false from beq_eq_false_iff_ne.mpr e2, show (x == k) = false from beq_eq_false_iff_ne.mpr e]
theorem count_rep {p : List Nat → Bool} {w : List Nat → Nat} : ∀ L : List (List Nat), (L.flatMap fun S => List.replicate (w S) S).countP p = (L.map fun S => if p S = true then w S else 0).sum
  | [] => rfl
  | S :: L => by
    rw [List.flatMap_cons, List.countP_append, count_rep L, List.map_cons, List.sum_cons, List.countP_replicate]
theorem order_sum {ks : List Int} (nd : ks.Nodup) (h5 : ks.length ≤ 5) {a : Int} (ha : a ∈ ks) {g : List Int → Bool} (gm : ∀ x y : List Int, (∀ z, z ∈ x ↔ z ∈ y) → g x = g y) :
    (orders ks).countP (fun o => g (o.take (o.idxOf a))) = shSum g ks.length (lsubs (wo ks [a])) := by
  generalize hn : ks.length = n at *
  let f : Nat → Int := fun i => ks.getD i 0
  have hks : ks = (List.range n).map f := by
    apply List.ext_getElem?
    intro i
    by_cases h : i < n
    · rw [List.getElem?_map, List.getElem?_range h]
      show ks[i]? = some (ks.getD i 0)
      rw [List.getD_eq_getElem?_getD, List.getElem?_eq_getElem (by omega)]
      rfl
    · rw [List.getElem?_eq_none (by omega), List.getElem?_eq_none (by rw [List.length_map, List.length_range]; omega)]
  have inj : ∀ i < n, ∀ j < n, f i = f j → i = j := fun i hi j hj e => by
    have e : ks.getD i 0 = ks.getD j 0 := e
    rw [List.getD_eq_getElem?_getD, List.getD_eq_getElem?_getD, List.getElem?_eq_getElem (by omega), List.getElem?_eq_getElem (by omega)] at e
    exact (List.getElem_inj nd).mp e
  obtain ⟨k, hk, rfl⟩ : ∃ k, k < n ∧ f k = a := by
    rw [hks] at ha
    obtain ⟨k, h1, h2⟩ := List.mem_map.mp ha
    exact ⟨k, List.mem_range.mp h1, h2⟩
  have e1 : (orders ks).countP (fun o => g (o.take (o.idxOf (f k)))) = (befA n k).countP fun S => g (S.map f) := by
    rw [show orders ks = (orders (List.range n)).map (List.map f) by rw [← orders_map, ← hks], befA, List.countP_map, List.countP_map]
    refine List.countP_congr fun o ho => ?_
    have hp := orders_perm ho
    have hlt : ∀ x ∈ o, x < n := fun x hx => List.mem_range.mp (hp.mem_iff.mp hx)
    show (g ((o.map f).take ((o.map f).idxOf (f k))) = true) ↔ (g (((List.range n).filter fun i => decide (i ∈ o.take (o.idxOf k))).map f) = true)
    rw [idx_map fun x hx e => inj x (hlt x hx) k hk e, ← List.map_take]
    rw [gm _ (((List.range n).filter fun i => decide (i ∈ o.take (o.idxOf k))).map f) fun z => ?_]
    rw [List.mem_map, List.mem_map]
    constructor
    · rintro ⟨x, hx, e⟩
      exact ⟨x, List.mem_filter.mpr ⟨List.mem_range.mpr (hlt x (List.mem_of_mem_take hx)), decide_eq_true hx⟩, e⟩
    · rintro ⟨x, hx, e⟩
      exact ⟨x, of_decide_eq_true (List.mem_filter.mp hx).2, e⟩
  have e2 : wo ks [f k] = ((List.range n).filter fun i => decide (i ≠ k)).map f := by
    unfold wo
    rw [show ks.filter (fun m => !decide (m ∈ [f k])) = ((List.range n).map f).filter (fun m => !decide (m ∈ [f k])) by rw [← hks], List.filter_map]
    congr 1
    refine List.filter_congr fun i hi => ?_
    have hi := List.mem_range.mp hi
    show (!decide (f i ∈ [f k])) = decide (i ≠ k)
    by_cases e : i = k
    · rw [e]
      simp
    · have : ¬ f i = f k := fun z => e (inj i hi k hk z)
      simp [e, this]
  rw [e1, (bef_perm n (by omega) k hk).countP_eq, befB, count_rep, shSum, e2, show lsubs (((List.range n).filter fun i => decide (i ≠ k)).map f) = subsP (((List.range n).filter fun i => decide (i ≠ k)).map f) from rfl, subs_map, List.map_map]
  congr 1
  refine List.map_congr_left fun S _ => ?_
  show _ = if g (S.map f) = true then wN n (S.map f).length else 0
  rw [List.length_map]
/-! where an order turns -/
def turn (h : List Int → Bool) (o : List Int) (i : Nat) : Bool := h (o.take (i + 1)) && !h (o.take i)
def pvs (h : List Int → Bool) (o : List Int) (j : Nat) : List Int := (List.range j).flatMap fun i => if turn h o i = true then [o.getD i 0] else []
theorem pvs_succ {h : List Int → Bool} {o : List Int} {j : Nat} : pvs h o (j + 1) = pvs h o j ++ if turn h o j = true then [o.getD j 0] else [] := by
  unfold pvs
  rw [List.range_succ, List.flatMap_append]
  congr 1
  exact List.append_nil _
theorem pvs_len {h : List Int → Bool} (hm : ∀ x y : List Int, (∀ z ∈ x, z ∈ y) → h x = true → h y = true) {o : List Int} : ∀ j, (pvs h o j).length = if (h (o.take j) && !h []) = true then 1 else 0
  | 0 => by
    show 0 = _
    rw [List.take_zero]
    cases h [] <;> rfl
  | j + 1 => by
    rw [pvs_succ, List.length_append, pvs_len hm j]
    have m1 : h (o.take j) = true → h (o.take (j + 1)) = true := hm _ _ fun z hz => (List.take_subset_take_left o (Nat.le_succ j)) hz
    have m2 : h [] = true → h (o.take j) = true := hm _ _ fun z hz => nomatch hz
    unfold turn
    cases e1 : h (o.take (j + 1)) <;> cases e2 : h (o.take j) <;> cases e3 : h [] <;> simp_all
theorem pvs_mem {h : List Int → Bool} {o : List Int} {j : Nat} (hj : j ≤ o.length) {x : Int} (hx : x ∈ pvs h o j) : x ∈ o := by
  obtain ⟨i, hi, h2⟩ := List.mem_flatMap.mp hx
  have hi := List.mem_range.mp hi
  split at h2
  · rw [List.mem_singleton.mp h2, List.getD_eq_getElem?_getD, List.getElem?_eq_getElem (by omega)]
    exact List.getElem_mem _
  · cases h2
theorem pvs_count {h : List Int → Bool} {o : List Int} (nd : o.Nodup) {a : Int} (ha : a ∈ o) : ∀ j, j ≤ o.length → (pvs h o j).count a = if o.idxOf a < j ∧ turn h o (o.idxOf a) = true then 1 else 0
  | 0, _ => by
    rw [if_neg fun z => Nat.not_lt_zero _ z.1]
    rfl
  | j + 1, hj => by
    have hlt := List.idxOf_lt_length_of_mem ha
    have hget : o[o.idxOf a] = a := List.getElem_idxOf hlt
    rw [pvs_succ, List.count_append, pvs_count nd ha j (by omega)]
    have hjj : o.getD j 0 = o[j] := by rw [List.getD_eq_getElem?_getD, List.getElem?_eq_getElem (by omega)]; rfl
    by_cases e : o.idxOf a = j
    · have e3 : o[j] = a := by
        have : o[j] = o[o.idxOf a] := by congr 1; exact e.symm
        rw [this, hget]
      rw [if_neg (by omega), e, hjj, e3]
      by_cases t : turn h o j = true
      · rw [if_pos t, if_pos ⟨Nat.lt_succ_self _, t⟩]
        simp
      · rw [if_neg t, if_neg fun z => t z.2]
        rfl
    · have e3 : ¬ o[j] = a := fun z => e ((List.getElem_inj nd).mp (hget.trans z.symm))
      have e4 : (if turn h o j = true then [o.getD j 0] else []).count a = 0 := by
        split
        · rw [hjj]
          simp [e3]
        · rfl
      rw [e4, Nat.add_zero]
      by_cases q : o.idxOf a < j
      · by_cases t : turn h o (o.idxOf a) = true
        · rw [if_pos ⟨q, t⟩, if_pos ⟨by omega, t⟩]
        · rw [if_neg fun z => t z.2, if_neg fun z => t z.2]
      · rw [if_neg fun z => q z.1, if_neg fun z => by have := z.1; omega]
end Pf

namespace Pf
open PySem PySem.Spec PyProof.Rows L2
def topS (i : Nat) : Stmt := PySem.Challenge.pw_ontoworks_k62_shares.main.body.getD i (.Pass ⟨0, 0, 0, 0⟩)
abbrev K_ALWAYS : Int := 1
abbrev K_FIRST_NODE : Int := 2
abbrev s_holds : Stmt := topS 4
theorem sc_holds : FnScope ["condition", "members", "nodes", "diagram", "number", "without", "within"] ["condition", "members"] (defScope s_holds) := ⟨rfl, rfl, rfl, by decide +kernel, rfl, by decide +kernel, by decide +kernel⟩
abbrev s_asks : Stmt := topS 5
theorem sc_asks : FnScope ["condition", "nodes", "_", "row"] ["condition"] (defScope s_asks) := ⟨rfl, rfl, rfl, by decide +kernel, rfl, by decide +kernel, by decide +kernel⟩
abbrev s_shares : Stmt := topS 7
theorem sc_shares : FnScope ["condition", "taken", "concerned", "axiom"] ["condition", "taken"] (defScope s_shares) := ⟨rfl, rfl, rfl, by decide +kernel, rfl, by decide +kernel, by decide +kernel⟩
abbrev s_subsets : Stmt := topS 8
theorem sc_subsets : FnScope ["numbers", "found", "at", "members", "number"] ["numbers"] (defScope s_subsets) := ⟨rfl, rfl, rfl, by decide +kernel, rfl, by decide +kernel, by decide +kernel⟩
abbrev s_without : Stmt := topS 9
theorem sc_without : FnScope ["members", "removed", "number"] ["members", "removed"] (defScope s_without) := ⟨rfl, rfl, rfl, by decide +kernel, rfl, by decide +kernel, by decide +kernel⟩
abbrev s_concerned : Stmt := topS 10
theorem sc_concerned : FnScope ["condition", "taken", "axiom"] ["condition", "taken"] (defScope s_concerned) := ⟨rfl, rfl, rfl, by decide +kernel, rfl, by decide +kernel, by decide +kernel⟩
abbrev s_share : Stmt := topS 11
theorem sc_share : FnScope ["condition", "concerned", "axiom", "count", "orders", "before"] ["condition", "concerned", "axiom"] (defScope s_share) := ⟨rfl, rfl, rfl, by decide +kernel, rfl, by decide +kernel, by decide +kernel⟩
abbrev s_fraction : Stmt := topS 12
theorem sc_fraction : FnScope ["numerator", "denominator", "common"] ["numerator", "denominator"] (defScope s_fraction) := ⟨rfl, rfl, rfl, by decide +kernel, rfl, by decide +kernel, by decide +kernel⟩
abbrev s_law_cell : Stmt := topS 14
theorem sc_law_cell : FnScope ["script", "k"] ["script", "k"] (defScope s_law_cell) := ⟨rfl, rfl, rfl, by decide +kernel, rfl, by decide +kernel, by decide +kernel⟩
abbrev s_law_draws : Stmt := topS 15
theorem sc_law_draws : FnScope ["script", "k", "count", "cell", "rest", "seed", "found", "at"] ["script", "k", "count"] (defScope s_law_draws) := ⟨rfl, rfl, rfl, by decide +kernel, rfl, by decide +kernel, by decide +kernel⟩
abbrev s_law_take : Stmt := topS 16
theorem sc_law_take : FnScope ["draws", "many"] ["draws", "many"] (defScope s_law_take) := ⟨rfl, rfl, rfl, by decide +kernel, rfl, by decide +kernel, by decide +kernel⟩
abbrev s_law_number : Stmt := topS 17
theorem sc_law_number : FnScope ["actual"] ["actual"] (defScope s_law_number) := ⟨rfl, rfl, rfl, by decide +kernel, rfl, by decide +kernel, by decide +kernel⟩
abbrev s_law_ordered : Stmt := topS 18
theorem sc_law_ordered : FnScope ["rows"] ["rows"] (defScope s_law_ordered) := ⟨rfl, rfl, rfl, by decide +kernel, rfl, by decide +kernel, by decide +kernel⟩
abbrev s_law_inside : Stmt := topS 19
theorem sc_law_inside : FnScope ["row", "other", "place"] ["row", "other"] (defScope s_law_inside) := ⟨rfl, rfl, rfl, by decide +kernel, rfl, by decide +kernel, by decide +kernel⟩
abbrev s_law_least : Stmt := topS 20
theorem sc_law_least : FnScope ["rows", "found", "row", "other"] ["rows"] (defScope s_law_least) := ⟨rfl, rfl, rfl, by decide +kernel, rfl, by decide +kernel, by decide +kernel⟩
abbrev s_law_table : Stmt := topS 21
theorem sc_law_table : FnScope ["rows", "many", "truth", "code", "members", "nodes", "root", "place", "row"] ["rows", "many"] (defScope s_law_table) := ⟨rfl, rfl, rfl, by decide +kernel, rfl, by decide +kernel, by decide +kernel⟩
abbrev s_law_node : Stmt := topS 22
theorem sc_law_node : FnScope ["truth", "place", "nodes", "without", "with_it", "row"] ["truth", "place", "nodes"] (defScope s_law_node) := ⟨rfl, rfl, rfl, by decide +kernel, rfl, by decide +kernel, by decide +kernel⟩
abbrev s_law_family : Stmt := topS 23
theorem sc_law_family : FnScope ["script", "first", "many", "rows", "draws", "k", "place"] ["script", "first", "many"] (defScope s_law_family) := ⟨rfl, rfl, rfl, by decide +kernel, rfl, by decide +kernel, by decide +kernel⟩
abbrev s_law_set : Stmt := topS 24
theorem sc_law_set : FnScope ["script", "k", "many", "draws", "place"] ["script", "k", "many"] (defScope s_law_set) := ⟨rfl, rfl, rfl, by decide +kernel, rfl, by decide +kernel, by decide +kernel⟩
abbrev s_law_same : Stmt := topS 25
theorem sc_law_same : FnScope ["actual", "due", "k"] ["actual", "due"] (defScope s_law_same) := ⟨rfl, rfl, rfl, by decide +kernel, rfl, by decide +kernel, by decide +kernel⟩
abbrev s_law_holds : Stmt := topS 26
theorem sc_law_holds : FnScope ["rows", "members", "row"] ["rows", "members"] (defScope s_law_holds) := ⟨rfl, rfl, rfl, by decide +kernel, rfl, by decide +kernel, by decide +kernel⟩
abbrev s_law_gcd : Stmt := topS 27
theorem sc_law_gcd : FnScope ["first", "second", "k", "rest"] ["first", "second"] (defScope s_law_gcd) := ⟨rfl, rfl, rfl, by decide +kernel, rfl, by decide +kernel, by decide +kernel⟩
abbrev s_law_fraction : Stmt := topS 28
theorem sc_law_fraction : FnScope ["actual", "numerator", "denominator"] ["actual", "numerator", "denominator"] (defScope s_law_fraction) := ⟨rfl, rfl, rfl, by decide +kernel, rfl, by decide +kernel, by decide +kernel⟩
abbrev s_law_depends : Stmt := topS 29
theorem sc_law_depends : FnScope ["rows", "many", "place", "row"] ["rows", "many"] (defScope s_law_depends) := ⟨rfl, rfl, rfl, by decide +kernel, rfl, by decide +kernel, by decide +kernel⟩
abbrev s_law_orders : Stmt := topS 30
theorem sc_law_orders : FnScope ["places", "rows", "place", "longer", "row", "at"] ["places"] (defScope s_law_orders) := ⟨rfl, rfl, rfl, by decide +kernel, rfl, by decide +kernel, by decide +kernel⟩
abbrev s_law : Stmt := topS 31
theorem sc_law : FnScope ["script", "many", "rows", "taken", "concerned", "orders", "counts", "order", "at", "whole", "actual", "k", "place"] ["script"] (defScope s_law) := ⟨rfl, rfl, rfl, by decide +kernel, rfl, by decide +kernel, by decide +kernel⟩
local macro_rules | `(tactic| walk_at "tm") => `(tactic| (first | exact Tm.i _ | exact Tm.b _ | exact Tm.s _ | exact Tm.n | (apply Tm.m; (repeat (first | exact List.mem_cons_self .. | apply List.mem_cons_of_mem)); (first | done | fail))))
local macro_rules | `(tactic| walk_at "tma") => `(tactic| ((repeat (first | exact TmAll.nil | apply TmAll.cons (by first | exact Tm.i _ | exact Tm.b _ | exact Tm.s _ | exact Tm.n | (apply Tm.m; (repeat (first | exact List.mem_cons_self .. | apply List.mem_cons_of_mem)); (first | done | fail))))); (first | done | fail)))
local macro_rules | `(tactic| walk_at "slt") => `(tactic| ((repeat (first | exact SlT.nil | apply SlT.p (by assumption) (by first | exact Tm.i _ | exact Tm.b _ | exact Tm.s _ | exact Tm.n | (apply Tm.m; (repeat (first | exact List.mem_cons_self .. | apply List.mem_cons_of_mem)); (first | done | fail))) | apply SlT.d (by first | exact Tm.i _ | exact Tm.b _ | exact Tm.s _ | exact Tm.n | (apply Tm.m; (repeat (first | exact List.mem_cons_self .. | apply List.mem_cons_of_mem)); (first | done | fail))) | apply SlT.v)); (first | done | fail)))
local macro_rules | `(tactic| walk_at "set") => `(tactic| ((repeat (first | exact SetAt.z | apply SetAt.s)); (first | done | fail)))
local macro_rules | `(tactic| walk_at "le") => `(tactic| ((repeat (first | exact SlLe.nil | apply SlLe.same | apply SlLe.less)); (first | done | fail)))
local macro_rules | `(tactic| walk_at "ar") => `(tactic| (with_unfolding_all first | decide | (dsimp only; omega) | (refine .inl ?_; constructor <;> first | decide | omega) | (refine .inr ?_; constructor <;> first | decide | omega) | (constructor <;> first | decide | omega | (constructor <;> first | decide | omega)) | assumption))
local macro_rules | `(tactic| walk_at "in") => `(tactic| (rename Ds _ _ _ _ _ _ _ _ _ => S1; simp only [List.map_nil, List.map_cons, List.length_cons, List.length_nil, Nat.zero_add, Nat.reduceAdd, Nat.reduceSub, Nat.sub_self, List.replicate_zero, List.replicate_succ, List.append_nil, List.cons_append, List.nil_append] at S1; generalize L2.start _ _ = σ0 at S1 ⊢))
local macro_rules | `(tactic| walk_at "dl") => `(tactic| repeat (first
  | (with_reducible refine h_var ?_; first | with_reducible refine x_var (by assumption) (by with_unfolding_all rfl) ?_ | with_reducible refine x_varV (by assumption) (by with_unfolding_all rfl) ?_ | (with_reducible refine x_varP (by assumption) (by with_unfolding_all rfl) ?_; intro _ _ _) | (with_reducible refine x_varT (by assumption) (by with_unfolding_all rfl) ?_; intro _ _ _))
  | (with_reducible refine h_giv ?_; first | with_reducible refine x_gI ?_ | with_reducible refine x_gB ?_ | with_reducible refine x_gS ?_ | with_reducible refine x_gN ?_ | (with_reducible refine x_gP (by assumption) ?_; intro _ _))
  | with_reducible refine x_op ?_
  | (with_reducible refine h_cR ?_; first | (with_reducible refine x_cR (by assumption) (by assumption) ?_; intro _) | with_reducible refine x_c ?_)
  | with_reducible refine x_c ?_
  | with_reducible refine x_I0 ?_
  | with_reducible refine x_cons ?_
  | with_reducible refine x_nil ?_
  | with_reducible refine x_tup ?_
  | (with_reducible refine h_tupK ?_; first | (with_reducible refine x_tupK (by assumption) (by (repeat (first | exact TmAll.nil | apply TmAll.cons (by first | exact Tm.i _ | exact Tm.b _ | exact Tm.s _ | exact Tm.n | (apply Tm.m; (repeat (first | exact List.mem_cons_self .. | apply List.mem_cons_of_mem)); (first | done | fail))))); (first | done | fail)) (by with_unfolding_all rfl) ?_; intro _ _ _ _))
  | (with_reducible refine h_eq ?_; first | with_reducible refine x_eqI ?_ | with_reducible refine x_eqS ?_ | with_reducible refine x_eqB ?_)
  | (with_reducible refine h_ne ?_; first | with_reducible refine x_neI ?_ | with_reducible refine x_neS ?_ | with_reducible refine x_neB ?_)
  | (with_reducible refine h_ixT ?_; first | with_reducible refine x_ixT (by assumption) (by first | exact Tm.i _ | exact Tm.b _ | exact Tm.s _ | exact Tm.n | (apply Tm.m; (repeat (first | exact List.mem_cons_self .. | apply List.mem_cons_of_mem)); (first | done | fail))) (by with_unfolding_all rfl) ?_)
  | (with_reducible refine h_ixL ?_; first | with_reducible refine x_ixL (by assumption) (by first | exact Tm.i _ | exact Tm.b _ | exact Tm.s _ | exact Tm.n | (apply Tm.m; (repeat (first | exact List.mem_cons_self .. | apply List.mem_cons_of_mem)); (first | done | fail))) (by with_unfolding_all rfl) ?_ | with_reducible refine x_ixO 0 (by assumption) (by with_unfolding_all rfl) (by with_unfolding_all rfl) ?_ | with_reducible refine x_ixO 1 (by assumption) (by with_unfolding_all rfl) (by with_unfolding_all rfl) ?_ | with_reducible refine x_ixO 2 (by assumption) (by with_unfolding_all rfl) (by with_unfolding_all rfl) ?_ | with_reducible refine x_ixH 0 (by assumption) (by with_unfolding_all rfl) (by with_unfolding_all rfl) ?_ | with_reducible refine x_ixH 1 (by assumption) (by with_unfolding_all rfl) (by with_unfolding_all rfl) ?_ | with_reducible refine x_ixH 2 (by assumption) (by with_unfolding_all rfl) (by with_unfolding_all rfl) ?_)
  | (with_reducible refine h_I ?_; first | with_reducible refine x_I (by with_unfolding_all first | decide | (dsimp only; omega) | (refine .inl ?_; constructor <;> first | decide | omega) | (refine .inr ?_; constructor <;> first | decide | omega) | (constructor <;> first | decide | omega | (constructor <;> first | decide | omega)) | assumption) ?_)
  | with_reducible refine x_test ?_
  | with_reducible refine x_exB ?_
  | (with_reducible refine h_ite ?_; first | (with_reducible refine x_ifNoT ?_) | (with_reducible refine x_ifNoF ?_) | (with_reducible refine x_ifSn ?_) | (with_reducible refine x_ifSs ?_) | with_reducible refine x_ifT (by decide +kernel) ?_ | with_reducible refine x_ifF (by decide +kernel) ?_)
  | (with_reducible refine h_gn ?_; first | (with_reducible refine x_gnT (by assumption) (by assumption) (by (repeat (first | exact SetAt.z | apply SetAt.s)); (first | done | fail)) ?_; intro _ _; try dsimp only) | (with_reducible refine x_gn (by assumption) (by first | exact Tm.i _ | exact Tm.b _ | exact Tm.s _ | exact Tm.n | (apply Tm.m; (repeat (first | exact List.mem_cons_self .. | apply List.mem_cons_of_mem)); (first | done | fail))) (by (repeat (first | exact SetAt.z | apply SetAt.s)); (first | done | fail)) ?_; intro _ _; try dsimp only) | (with_reducible refine x_gnV (by assumption) (by (repeat (first | exact SetAt.z | apply SetAt.s)); (first | done | fail)) ?_; intro _ _; try dsimp only))
  | (with_reducible refine x_seqN ?_; intro _ _; try dsimp only)
  | with_reducible refine x_asg ?_
  | with_reducible refine x_ifS ?_
  | with_reducible refine x_ret ?_
  | with_reducible refine x_drop ?_
  | (with_reducible refine x_next ?_; try dsimp only)
  | (with_reducible refine x_cont ?_; try dsimp only)
  | (with_reducible refine x_break ?_; try dsimp only)
  | with_reducible refine x_un ?_
  | with_reducible refine x_U ?_
  | with_reducible refine x_tB ?_
  | with_reducible refine x_not ?_
  | with_reducible refine x_and ?_
  | with_reducible refine x_or ?_
  | with_reducible refine x_andV ?_
  | with_reducible refine x_orV ?_
  | with_reducible refine x_notV ?_
  | with_reducible refine x_ifE ?_
  | with_reducible refine x_notT ?_
  | with_reducible refine x_truD ?_
  | with_reducible refine x_truI ?_
  | with_reducible refine x_truB ?_
  | with_reducible refine x_lst ?_
  | (with_reducible refine h_tru ?_; first | with_reducible refine x_truT (by assumption) (by first | exact Tm.i _ | exact Tm.b _ | exact Tm.s _ | exact Tm.n | (apply Tm.m; (repeat (first | exact List.mem_cons_self .. | apply List.mem_cons_of_mem)); (first | done | fail))) ?_ | with_reducible refine x_truL (by assumption) (by first | exact Tm.i _ | exact Tm.b _ | exact Tm.s _ | exact Tm.n | (apply Tm.m; (repeat (first | exact List.mem_cons_self .. | apply List.mem_cons_of_mem)); (first | done | fail))) ?_ | with_reducible refine x_truO 0 (by assumption) (by with_unfolding_all rfl) ?_ | with_reducible refine x_truO 1 (by assumption) (by with_unfolding_all rfl) ?_ | with_reducible refine x_truO 2 (by assumption) (by with_unfolding_all rfl) ?_)
  | (with_reducible refine h_lstK ?_; first | (with_reducible refine x_lstK (by assumption) (by (repeat (first | exact TmAll.nil | apply TmAll.cons (by first | exact Tm.i _ | exact Tm.b _ | exact Tm.s _ | exact Tm.n | (apply Tm.m; (repeat (first | exact List.mem_cons_self .. | apply List.mem_cons_of_mem)); (first | done | fail))))); (first | done | fail)) (by with_unfolding_all rfl) ?_; intro _ _ _))
  | with_reducible refine x_cb ?_
  | with_reducible refine x_tcall ?_
  | with_reducible refine x_gSub ?_
  | with_reducible refine x_sl ?_
  | with_reducible refine x_noPart ?_
  | with_reducible refine x_part ?_
  | with_reducible refine x_exI ?_
  | (with_reducible refine h_slA ?_; first | (with_reducible refine x_slA (by assumption) (by first | exact Tm.i _ | exact Tm.b _ | exact Tm.s _ | exact Tm.n | (apply Tm.m; (repeat (first | exact List.mem_cons_self .. | apply List.mem_cons_of_mem)); (first | done | fail))) (by with_unfolding_all rfl) ?_; intro _ _ _ _))
  | (with_reducible refine h_slL ?_; first | (with_reducible refine x_slL (by assumption) (by first | exact Tm.i _ | exact Tm.b _ | exact Tm.s _ | exact Tm.n | (apply Tm.m; (repeat (first | exact List.mem_cons_self .. | apply List.mem_cons_of_mem)); (first | done | fail))) (by with_unfolding_all rfl) ?_; intro _ _ _))
  | (with_reducible refine h_in ?_; first | with_reducible refine s_in2 (by assumption) (by first | exact Tm.i _ | exact Tm.b _ | exact Tm.s _ | exact Tm.n | (apply Tm.m; (repeat (first | exact List.mem_cons_self .. | apply List.mem_cons_of_mem)); (first | done | fail))) ?_ | with_reducible refine s_ni2 (by assumption) (by first | exact Tm.i _ | exact Tm.b _ | exact Tm.s _ | exact Tm.n | (apply Tm.m; (repeat (first | exact List.mem_cons_self .. | apply List.mem_cons_of_mem)); (first | done | fail))) ?_ | with_reducible refine s_in3 (by assumption) (by first | exact Tm.i _ | exact Tm.b _ | exact Tm.s _ | exact Tm.n | (apply Tm.m; (repeat (first | exact List.mem_cons_self .. | apply List.mem_cons_of_mem)); (first | done | fail))) ?_ | with_reducible refine i_in2 (by assumption) (by first | exact Tm.i _ | exact Tm.b _ | exact Tm.s _ | exact Tm.n | (apply Tm.m; (repeat (first | exact List.mem_cons_self .. | apply List.mem_cons_of_mem)); (first | done | fail))) ?_ | with_reducible refine i_ni2 (by assumption) (by first | exact Tm.i _ | exact Tm.b _ | exact Tm.s _ | exact Tm.n | (apply Tm.m; (repeat (first | exact List.mem_cons_self .. | apply List.mem_cons_of_mem)); (first | done | fail))) ?_ | with_reducible refine i_in3 (by assumption) (by first | exact Tm.i _ | exact Tm.b _ | exact Tm.s _ | exact Tm.n | (apply Tm.m; (repeat (first | exact List.mem_cons_self .. | apply List.mem_cons_of_mem)); (first | done | fail))) ?_ | with_reducible refine i_in1 (by assumption) (by first | exact Tm.i _ | exact Tm.b _ | exact Tm.s _ | exact Tm.n | (apply Tm.m; (repeat (first | exact List.mem_cons_self .. | apply List.mem_cons_of_mem)); (first | done | fail))) ?_ | with_reducible refine i_inT (by assumption) (by first | exact Tm.i _ | exact Tm.b _ | exact Tm.s _ | exact Tm.n | (apply Tm.m; (repeat (first | exact List.mem_cons_self .. | apply List.mem_cons_of_mem)); (first | done | fail))) ?_ | with_reducible refine i_niT (by assumption) (by first | exact Tm.i _ | exact Tm.b _ | exact Tm.s _ | exact Tm.n | (apply Tm.m; (repeat (first | exact List.mem_cons_self .. | apply List.mem_cons_of_mem)); (first | done | fail))) ?_ | with_reducible refine i_inL (by assumption) (by first | exact Tm.i _ | exact Tm.b _ | exact Tm.s _ | exact Tm.n | (apply Tm.m; (repeat (first | exact List.mem_cons_self .. | apply List.mem_cons_of_mem)); (first | done | fail))) ?_ | with_reducible refine i_niL (by assumption) (by first | exact Tm.i _ | exact Tm.b _ | exact Tm.s _ | exact Tm.n | (apply Tm.m; (repeat (first | exact List.mem_cons_self .. | apply List.mem_cons_of_mem)); (first | done | fail))) ?_ | with_reducible refine i_inO 0 (by assumption) (by with_unfolding_all rfl) ?_ | with_reducible refine i_inO 1 (by assumption) (by with_unfolding_all rfl) ?_ | with_reducible refine i_inO 2 (by assumption) (by with_unfolding_all rfl) ?_ | with_reducible refine i_niO 0 (by assumption) (by with_unfolding_all rfl) ?_ | with_reducible refine i_niO 1 (by assumption) (by with_unfolding_all rfl) ?_ | with_reducible refine i_niO 2 (by assumption) (by with_unfolding_all rfl) ?_)
  | (with_reducible refine h_len ?_; first | with_reducible refine x_lenT (by assumption) (by first | exact Tm.i _ | exact Tm.b _ | exact Tm.s _ | exact Tm.n | (apply Tm.m; (repeat (first | exact List.mem_cons_self .. | apply List.mem_cons_of_mem)); (first | done | fail))) ?_ | with_reducible refine x_lenL (by assumption) (by first | exact Tm.i _ | exact Tm.b _ | exact Tm.s _ | exact Tm.n | (apply Tm.m; (repeat (first | exact List.mem_cons_self .. | apply List.mem_cons_of_mem)); (first | done | fail))) ?_ | with_reducible refine x_lenO 0 (by assumption) (by with_unfolding_all rfl) ?_ | with_reducible refine x_lenO 1 (by assumption) (by with_unfolding_all rfl) ?_ | with_reducible refine x_lenO 2 (by assumption) (by with_unfolding_all rfl) ?_)
  | with_reducible refine x_int ?_
  | with_reducible refine x_intB ?_
  | (with_reducible refine h_tupF ?_; first | (with_reducible refine x_tupFL (by assumption) (by first | exact Tm.i _ | exact Tm.b _ | exact Tm.s _ | exact Tm.n | (apply Tm.m; (repeat (first | exact List.mem_cons_self .. | apply List.mem_cons_of_mem)); (first | done | fail))) ?_; intro _ _ _ _ _))
  | (with_reducible refine h_isi ?_; first | with_reducible refine x_isiB (b := true) (by decide +kernel) ?_ | with_reducible refine x_isiB (b := false) (by decide +kernel) ?_ | with_reducible refine x_isiI (b := true) (by decide +kernel) ?_ | with_reducible refine x_isiI (b := false) (by decide +kernel) ?_ | with_reducible refine x_isiS (b := true) (by decide +kernel) ?_ | with_reducible refine x_isiS (b := false) (by decide +kernel) ?_ | with_reducible refine x_isiN (b := true) (by decide +kernel) ?_ | with_reducible refine x_isiN (b := false) (by decide +kernel) ?_ | with_reducible refine x_isiT (b := true) (by assumption) (by first | exact Tm.i _ | exact Tm.b _ | exact Tm.s _ | exact Tm.n | (apply Tm.m; (repeat (first | exact List.mem_cons_self .. | apply List.mem_cons_of_mem)); (first | done | fail))) (by decide +kernel) ?_ | with_reducible refine x_isiT (b := false) (by assumption) (by first | exact Tm.i _ | exact Tm.b _ | exact Tm.s _ | exact Tm.n | (apply Tm.m; (repeat (first | exact List.mem_cons_self .. | apply List.mem_cons_of_mem)); (first | done | fail))) (by decide +kernel) ?_)
  | (with_reducible refine h_tupOf ?_; first | with_reducible refine x_tupT (by assumption) (by first | exact Tm.i _ | exact Tm.b _ | exact Tm.s _ | exact Tm.n | (apply Tm.m; (repeat (first | exact List.mem_cons_self .. | apply List.mem_cons_of_mem)); (first | done | fail))) ?_ | (with_reducible refine x_tupL (by assumption) (by first | exact Tm.i _ | exact Tm.b _ | exact Tm.s _ | exact Tm.n | (apply Tm.m; (repeat (first | exact List.mem_cons_self .. | apply List.mem_cons_of_mem)); (first | done | fail))) ?_; intro _ _ _ _) | (with_reducible refine x_tupO 0 (by assumption) (by with_unfolding_all rfl) ?_; intro _ _ _ _) | (with_reducible refine x_tupO 1 (by assumption) (by with_unfolding_all rfl) ?_; intro _ _ _ _) | (with_reducible refine x_tupO 2 (by assumption) (by with_unfolding_all rfl) ?_; intro _ _ _ _))
  | (with_reducible refine h_lsOf ?_; first | (with_reducible refine x_lsT (by assumption) (by first | exact Tm.i _ | exact Tm.b _ | exact Tm.s _ | exact Tm.n | (apply Tm.m; (repeat (first | exact List.mem_cons_self .. | apply List.mem_cons_of_mem)); (first | done | fail))) ?_; intro _ _ _) | (with_reducible refine x_lsL (by assumption) (by first | exact Tm.i _ | exact Tm.b _ | exact Tm.s _ | exact Tm.n | (apply Tm.m; (repeat (first | exact List.mem_cons_self .. | apply List.mem_cons_of_mem)); (first | done | fail))) ?_; intro _ _ _) | (with_reducible refine x_lsS (by assumption) (by first | exact Tm.i _ | exact Tm.b _ | exact Tm.s _ | exact Tm.n | (apply Tm.m; (repeat (first | exact List.mem_cons_self .. | apply List.mem_cons_of_mem)); (first | done | fail))) ?_; intro _ _ _) | (with_reducible refine x_lsO 0 (by assumption) (by with_unfolding_all rfl) ?_; intro _ _ _) | (with_reducible refine x_lsO 1 (by assumption) (by with_unfolding_all rfl) ?_; intro _ _ _) | (with_reducible refine x_lsO 2 (by assumption) (by with_unfolding_all rfl) ?_; intro _ _ _))
  | (with_reducible refine h_gT ?_; first | (with_reducible refine x_gT2 (by assumption) (by first | exact Tm.i _ | exact Tm.b _ | exact Tm.s _ | exact Tm.n | (apply Tm.m; (repeat (first | exact List.mem_cons_self .. | apply List.mem_cons_of_mem)); (first | done | fail))) ?_; intro _ _ _) | (with_reducible refine x_gT3 (by assumption) (by first | exact Tm.i _ | exact Tm.b _ | exact Tm.s _ | exact Tm.n | (apply Tm.m; (repeat (first | exact List.mem_cons_self .. | apply List.mem_cons_of_mem)); (first | done | fail))) ?_; intro _ _ _ _) | (with_reducible refine x_gT4 (by assumption) (by first | exact Tm.i _ | exact Tm.b _ | exact Tm.s _ | exact Tm.n | (apply Tm.m; (repeat (first | exact List.mem_cons_self .. | apply List.mem_cons_of_mem)); (first | done | fail))) ?_; intro _ _ _ _ _))
  | (with_reducible refine h_isNo ?_; first | with_reducible refine x_isNoR ?_ | with_reducible refine x_isNoN ?_ | with_reducible refine x_isNoI ?_ | with_reducible refine x_isNoD (by assumption) (by first | exact Tm.i _ | exact Tm.b _ | exact Tm.s _ | exact Tm.n | (apply Tm.m; (repeat (first | exact List.mem_cons_self .. | apply List.mem_cons_of_mem)); (first | done | fail))) ?_)
  | (with_reducible refine h_notNo ?_; first | with_reducible refine x_notNoR ?_ | with_reducible refine x_notNoN ?_ | with_reducible refine x_notNoI ?_ | with_reducible refine x_notNoD (by assumption) (by first | exact Tm.i _ | exact Tm.b _ | exact Tm.s _ | exact Tm.n | (apply Tm.m; (repeat (first | exact List.mem_cons_self .. | apply List.mem_cons_of_mem)); (first | done | fail))) ?_)
  | (with_reducible refine h_setL ?_; first | (with_reducible refine x_setH 0 (by assumption) (by with_unfolding_all rfl) (by with_unfolding_all rfl) (by (repeat (first | exact SetAt.z | apply SetAt.s)); (first | done | fail)) ?_; intro _ _; try dsimp only) | (with_reducible refine x_setH 1 (by assumption) (by with_unfolding_all rfl) (by with_unfolding_all rfl) (by (repeat (first | exact SetAt.z | apply SetAt.s)); (first | done | fail)) ?_; intro _ _; try dsimp only) | (with_reducible refine x_setH 2 (by assumption) (by with_unfolding_all rfl) (by with_unfolding_all rfl) (by (repeat (first | exact SetAt.z | apply SetAt.s)); (first | done | fail)) ?_; intro _ _; try dsimp only))
  | (with_reducible refine h_aug ?_; first | with_reducible refine x_augI (by assumption) (by with_unfolding_all rfl) ?_)
  | (with_reducible refine h_ip ?_; first | (with_reducible refine x_ipI (by assumption) (by (repeat (first | exact SetAt.z | apply SetAt.s)); (first | done | fail)) ?_; intro _ _; try dsimp only))
  | (with_reducible refine h_app ?_; first | with_reducible refine x_app (by assumption) (by with_unfolding_all rfl) 0 (by with_unfolding_all rfl) ?_ | with_reducible refine x_app (by assumption) (by with_unfolding_all rfl) 1 (by with_unfolding_all rfl) ?_ | with_reducible refine x_app (by assumption) (by with_unfolding_all rfl) 2 (by with_unfolding_all rfl) ?_)
  | with_reducible refine x_appG ?_
  | with_reducible refine x_lcT ?_
  | with_reducible refine x_lcL ?_
  | with_reducible refine x_lcR ?_
  | with_reducible refine x_lcR2 ?_
  | with_reducible refine x_yes ?_
  | with_reducible refine x_tix ?_
  | with_reducible refine x_lix ?_
  | (with_reducible refine h_lixF ?_; first | with_reducible refine x_lixF (by assumption) (by first | exact Tm.i _ | exact Tm.b _ | exact Tm.s _ | exact Tm.n | (apply Tm.m; (repeat (first | exact List.mem_cons_self .. | apply List.mem_cons_of_mem)); (first | done | fail))) ?_)
  | (with_reducible refine h_tixF ?_; first | with_reducible refine x_tixF (by assumption) (by assumption) ?_)
  | with_reducible refine x_dctL ?_
  | with_reducible refine x_dns ?_
  | with_reducible refine x_augS ?_
  | with_reducible refine x_revT ?_
  | with_reducible refine x_tupR ?_
  | (with_reducible refine h_tupR ?_; first | (with_reducible refine x_tupRK (by assumption) (by (repeat (first | exact TmAll.nil | apply TmAll.cons (by first | exact Tm.i _ | exact Tm.b _ | exact Tm.s _ | exact Tm.n | (apply Tm.m; (repeat (first | exact List.mem_cons_self .. | apply List.mem_cons_of_mem)); (first | done | fail))))); (first | done | fail)) (by with_unfolding_all rfl) ?_; intro _ _ _ _ _))
  | with_reducible refine x_fld ?_
  | with_reducible refine x_dg ?_
  | with_reducible refine x_dn ?_
  | with_reducible refine x_di ?_
  | with_reducible refine x_ds ?_
  | with_reducible refine x_sfld ?_
  | with_reducible refine x_prC ?_
  | with_reducible refine x_prN ?_
  | with_reducible refine x_lrg ?_
  | with_reducible refine x_trg ?_
  | with_reducible refine x_rg1 ?_
  | with_reducible refine x_rg2 ?_
  | with_reducible refine x_r1K ?_
  | with_reducible refine x_r2K ?_
  | (with_reducible refine h_revT ?_; first | (with_reducible refine x_revK (by assumption) (by first | exact Tm.i _ | exact Tm.b _ | exact Tm.s _ | exact Tm.n | (apply Tm.m; (repeat (first | exact List.mem_cons_self .. | apply List.mem_cons_of_mem)); (first | done | fail))) ?_; intro _ _ _ _))
  | with_reducible refine x_fE ?_
  | with_reducible refine x_lcE ?_
  | with_reducible refine x_fT ?_
  | with_reducible refine x_fL ?_
  | with_reducible refine x_fR ?_
  | with_reducible refine x_fR2 ?_
  | dsimp only
  | with_reducible refine x_N (by assumption) ?_))
local macro_rules | `(tactic| walk_at "dl1") => `(tactic| (first
  | (with_reducible refine h_var ?_; first | with_reducible refine x_var (by assumption) (by with_unfolding_all rfl) ?_ | with_reducible refine x_varV (by assumption) (by with_unfolding_all rfl) ?_ | (with_reducible refine x_varP (by assumption) (by with_unfolding_all rfl) ?_; intro _ _ _) | (with_reducible refine x_varT (by assumption) (by with_unfolding_all rfl) ?_; intro _ _ _))
  | (with_reducible refine h_giv ?_; first | with_reducible refine x_gI ?_ | with_reducible refine x_gB ?_ | with_reducible refine x_gS ?_ | with_reducible refine x_gN ?_ | (with_reducible refine x_gP (by assumption) ?_; intro _ _))
  | with_reducible refine x_op ?_
  | (with_reducible refine h_cR ?_; first | (with_reducible refine x_cR (by assumption) (by assumption) ?_; intro _) | with_reducible refine x_c ?_)
  | with_reducible refine x_c ?_
  | with_reducible refine x_I0 ?_
  | with_reducible refine x_cons ?_
  | with_reducible refine x_nil ?_
  | with_reducible refine x_tup ?_
  | (with_reducible refine h_tupK ?_; first | (with_reducible refine x_tupK (by assumption) (by (repeat (first | exact TmAll.nil | apply TmAll.cons (by first | exact Tm.i _ | exact Tm.b _ | exact Tm.s _ | exact Tm.n | (apply Tm.m; (repeat (first | exact List.mem_cons_self .. | apply List.mem_cons_of_mem)); (first | done | fail))))); (first | done | fail)) (by with_unfolding_all rfl) ?_; intro _ _ _ _))
  | (with_reducible refine h_eq ?_; first | with_reducible refine x_eqI ?_ | with_reducible refine x_eqS ?_ | with_reducible refine x_eqB ?_)
  | (with_reducible refine h_ne ?_; first | with_reducible refine x_neI ?_ | with_reducible refine x_neS ?_ | with_reducible refine x_neB ?_)
  | (with_reducible refine h_ixT ?_; first | with_reducible refine x_ixT (by assumption) (by first | exact Tm.i _ | exact Tm.b _ | exact Tm.s _ | exact Tm.n | (apply Tm.m; (repeat (first | exact List.mem_cons_self .. | apply List.mem_cons_of_mem)); (first | done | fail))) (by with_unfolding_all rfl) ?_)
  | (with_reducible refine h_ixL ?_; first | with_reducible refine x_ixL (by assumption) (by first | exact Tm.i _ | exact Tm.b _ | exact Tm.s _ | exact Tm.n | (apply Tm.m; (repeat (first | exact List.mem_cons_self .. | apply List.mem_cons_of_mem)); (first | done | fail))) (by with_unfolding_all rfl) ?_ | with_reducible refine x_ixO 0 (by assumption) (by with_unfolding_all rfl) (by with_unfolding_all rfl) ?_ | with_reducible refine x_ixO 1 (by assumption) (by with_unfolding_all rfl) (by with_unfolding_all rfl) ?_ | with_reducible refine x_ixO 2 (by assumption) (by with_unfolding_all rfl) (by with_unfolding_all rfl) ?_ | with_reducible refine x_ixH 0 (by assumption) (by with_unfolding_all rfl) (by with_unfolding_all rfl) ?_ | with_reducible refine x_ixH 1 (by assumption) (by with_unfolding_all rfl) (by with_unfolding_all rfl) ?_ | with_reducible refine x_ixH 2 (by assumption) (by with_unfolding_all rfl) (by with_unfolding_all rfl) ?_)
  | (with_reducible refine h_I ?_; first | with_reducible refine x_I (by with_unfolding_all first | decide | (dsimp only; omega) | (refine .inl ?_; constructor <;> first | decide | omega) | (refine .inr ?_; constructor <;> first | decide | omega) | (constructor <;> first | decide | omega | (constructor <;> first | decide | omega)) | assumption) ?_)
  | with_reducible refine x_test ?_
  | with_reducible refine x_exB ?_
  | (with_reducible refine h_ite ?_; first | (with_reducible refine x_ifNoT ?_) | (with_reducible refine x_ifNoF ?_) | (with_reducible refine x_ifSn ?_) | (with_reducible refine x_ifSs ?_) | with_reducible refine x_ifT (by decide +kernel) ?_ | with_reducible refine x_ifF (by decide +kernel) ?_)
  | (with_reducible refine h_gn ?_; first | (with_reducible refine x_gnT (by assumption) (by assumption) (by (repeat (first | exact SetAt.z | apply SetAt.s)); (first | done | fail)) ?_; intro _ _; try dsimp only) | (with_reducible refine x_gn (by assumption) (by first | exact Tm.i _ | exact Tm.b _ | exact Tm.s _ | exact Tm.n | (apply Tm.m; (repeat (first | exact List.mem_cons_self .. | apply List.mem_cons_of_mem)); (first | done | fail))) (by (repeat (first | exact SetAt.z | apply SetAt.s)); (first | done | fail)) ?_; intro _ _; try dsimp only) | (with_reducible refine x_gnV (by assumption) (by (repeat (first | exact SetAt.z | apply SetAt.s)); (first | done | fail)) ?_; intro _ _; try dsimp only))
  | (with_reducible refine x_seqN ?_; intro _ _; try dsimp only)
  | with_reducible refine x_asg ?_
  | with_reducible refine x_ifS ?_
  | with_reducible refine x_ret ?_
  | with_reducible refine x_drop ?_
  | (with_reducible refine x_next ?_; try dsimp only)
  | (with_reducible refine x_cont ?_; try dsimp only)
  | (with_reducible refine x_break ?_; try dsimp only)
  | with_reducible refine x_un ?_
  | with_reducible refine x_U ?_
  | with_reducible refine x_tB ?_
  | with_reducible refine x_not ?_
  | with_reducible refine x_and ?_
  | with_reducible refine x_or ?_
  | with_reducible refine x_andV ?_
  | with_reducible refine x_orV ?_
  | with_reducible refine x_notV ?_
  | with_reducible refine x_ifE ?_
  | with_reducible refine x_notT ?_
  | with_reducible refine x_truD ?_
  | with_reducible refine x_truI ?_
  | with_reducible refine x_truB ?_
  | with_reducible refine x_lst ?_
  | (with_reducible refine h_tru ?_; first | with_reducible refine x_truT (by assumption) (by first | exact Tm.i _ | exact Tm.b _ | exact Tm.s _ | exact Tm.n | (apply Tm.m; (repeat (first | exact List.mem_cons_self .. | apply List.mem_cons_of_mem)); (first | done | fail))) ?_ | with_reducible refine x_truL (by assumption) (by first | exact Tm.i _ | exact Tm.b _ | exact Tm.s _ | exact Tm.n | (apply Tm.m; (repeat (first | exact List.mem_cons_self .. | apply List.mem_cons_of_mem)); (first | done | fail))) ?_ | with_reducible refine x_truO 0 (by assumption) (by with_unfolding_all rfl) ?_ | with_reducible refine x_truO 1 (by assumption) (by with_unfolding_all rfl) ?_ | with_reducible refine x_truO 2 (by assumption) (by with_unfolding_all rfl) ?_)
  | (with_reducible refine h_lstK ?_; first | (with_reducible refine x_lstK (by assumption) (by (repeat (first | exact TmAll.nil | apply TmAll.cons (by first | exact Tm.i _ | exact Tm.b _ | exact Tm.s _ | exact Tm.n | (apply Tm.m; (repeat (first | exact List.mem_cons_self .. | apply List.mem_cons_of_mem)); (first | done | fail))))); (first | done | fail)) (by with_unfolding_all rfl) ?_; intro _ _ _))
  | with_reducible refine x_cb ?_
  | with_reducible refine x_tcall ?_
  | with_reducible refine x_gSub ?_
  | with_reducible refine x_sl ?_
  | with_reducible refine x_noPart ?_
  | with_reducible refine x_part ?_
  | with_reducible refine x_exI ?_
  | (with_reducible refine h_slA ?_; first | (with_reducible refine x_slA (by assumption) (by first | exact Tm.i _ | exact Tm.b _ | exact Tm.s _ | exact Tm.n | (apply Tm.m; (repeat (first | exact List.mem_cons_self .. | apply List.mem_cons_of_mem)); (first | done | fail))) (by with_unfolding_all rfl) ?_; intro _ _ _ _))
  | (with_reducible refine h_slL ?_; first | (with_reducible refine x_slL (by assumption) (by first | exact Tm.i _ | exact Tm.b _ | exact Tm.s _ | exact Tm.n | (apply Tm.m; (repeat (first | exact List.mem_cons_self .. | apply List.mem_cons_of_mem)); (first | done | fail))) (by with_unfolding_all rfl) ?_; intro _ _ _))
  | (with_reducible refine h_in ?_; first | with_reducible refine s_in2 (by assumption) (by first | exact Tm.i _ | exact Tm.b _ | exact Tm.s _ | exact Tm.n | (apply Tm.m; (repeat (first | exact List.mem_cons_self .. | apply List.mem_cons_of_mem)); (first | done | fail))) ?_ | with_reducible refine s_ni2 (by assumption) (by first | exact Tm.i _ | exact Tm.b _ | exact Tm.s _ | exact Tm.n | (apply Tm.m; (repeat (first | exact List.mem_cons_self .. | apply List.mem_cons_of_mem)); (first | done | fail))) ?_ | with_reducible refine s_in3 (by assumption) (by first | exact Tm.i _ | exact Tm.b _ | exact Tm.s _ | exact Tm.n | (apply Tm.m; (repeat (first | exact List.mem_cons_self .. | apply List.mem_cons_of_mem)); (first | done | fail))) ?_ | with_reducible refine i_in2 (by assumption) (by first | exact Tm.i _ | exact Tm.b _ | exact Tm.s _ | exact Tm.n | (apply Tm.m; (repeat (first | exact List.mem_cons_self .. | apply List.mem_cons_of_mem)); (first | done | fail))) ?_ | with_reducible refine i_ni2 (by assumption) (by first | exact Tm.i _ | exact Tm.b _ | exact Tm.s _ | exact Tm.n | (apply Tm.m; (repeat (first | exact List.mem_cons_self .. | apply List.mem_cons_of_mem)); (first | done | fail))) ?_ | with_reducible refine i_in3 (by assumption) (by first | exact Tm.i _ | exact Tm.b _ | exact Tm.s _ | exact Tm.n | (apply Tm.m; (repeat (first | exact List.mem_cons_self .. | apply List.mem_cons_of_mem)); (first | done | fail))) ?_ | with_reducible refine i_in1 (by assumption) (by first | exact Tm.i _ | exact Tm.b _ | exact Tm.s _ | exact Tm.n | (apply Tm.m; (repeat (first | exact List.mem_cons_self .. | apply List.mem_cons_of_mem)); (first | done | fail))) ?_ | with_reducible refine i_inT (by assumption) (by first | exact Tm.i _ | exact Tm.b _ | exact Tm.s _ | exact Tm.n | (apply Tm.m; (repeat (first | exact List.mem_cons_self .. | apply List.mem_cons_of_mem)); (first | done | fail))) ?_ | with_reducible refine i_niT (by assumption) (by first | exact Tm.i _ | exact Tm.b _ | exact Tm.s _ | exact Tm.n | (apply Tm.m; (repeat (first | exact List.mem_cons_self .. | apply List.mem_cons_of_mem)); (first | done | fail))) ?_ | with_reducible refine i_inL (by assumption) (by first | exact Tm.i _ | exact Tm.b _ | exact Tm.s _ | exact Tm.n | (apply Tm.m; (repeat (first | exact List.mem_cons_self .. | apply List.mem_cons_of_mem)); (first | done | fail))) ?_ | with_reducible refine i_niL (by assumption) (by first | exact Tm.i _ | exact Tm.b _ | exact Tm.s _ | exact Tm.n | (apply Tm.m; (repeat (first | exact List.mem_cons_self .. | apply List.mem_cons_of_mem)); (first | done | fail))) ?_ | with_reducible refine i_inO 0 (by assumption) (by with_unfolding_all rfl) ?_ | with_reducible refine i_inO 1 (by assumption) (by with_unfolding_all rfl) ?_ | with_reducible refine i_inO 2 (by assumption) (by with_unfolding_all rfl) ?_ | with_reducible refine i_niO 0 (by assumption) (by with_unfolding_all rfl) ?_ | with_reducible refine i_niO 1 (by assumption) (by with_unfolding_all rfl) ?_ | with_reducible refine i_niO 2 (by assumption) (by with_unfolding_all rfl) ?_)
  | (with_reducible refine h_len ?_; first | with_reducible refine x_lenT (by assumption) (by first | exact Tm.i _ | exact Tm.b _ | exact Tm.s _ | exact Tm.n | (apply Tm.m; (repeat (first | exact List.mem_cons_self .. | apply List.mem_cons_of_mem)); (first | done | fail))) ?_ | with_reducible refine x_lenL (by assumption) (by first | exact Tm.i _ | exact Tm.b _ | exact Tm.s _ | exact Tm.n | (apply Tm.m; (repeat (first | exact List.mem_cons_self .. | apply List.mem_cons_of_mem)); (first | done | fail))) ?_ | with_reducible refine x_lenO 0 (by assumption) (by with_unfolding_all rfl) ?_ | with_reducible refine x_lenO 1 (by assumption) (by with_unfolding_all rfl) ?_ | with_reducible refine x_lenO 2 (by assumption) (by with_unfolding_all rfl) ?_)
  | with_reducible refine x_int ?_
  | with_reducible refine x_intB ?_
  | (with_reducible refine h_tupF ?_; first | (with_reducible refine x_tupFL (by assumption) (by first | exact Tm.i _ | exact Tm.b _ | exact Tm.s _ | exact Tm.n | (apply Tm.m; (repeat (first | exact List.mem_cons_self .. | apply List.mem_cons_of_mem)); (first | done | fail))) ?_; intro _ _ _ _ _))
  | (with_reducible refine h_isi ?_; first | with_reducible refine x_isiB (b := true) (by decide +kernel) ?_ | with_reducible refine x_isiB (b := false) (by decide +kernel) ?_ | with_reducible refine x_isiI (b := true) (by decide +kernel) ?_ | with_reducible refine x_isiI (b := false) (by decide +kernel) ?_ | with_reducible refine x_isiS (b := true) (by decide +kernel) ?_ | with_reducible refine x_isiS (b := false) (by decide +kernel) ?_ | with_reducible refine x_isiN (b := true) (by decide +kernel) ?_ | with_reducible refine x_isiN (b := false) (by decide +kernel) ?_ | with_reducible refine x_isiT (b := true) (by assumption) (by first | exact Tm.i _ | exact Tm.b _ | exact Tm.s _ | exact Tm.n | (apply Tm.m; (repeat (first | exact List.mem_cons_self .. | apply List.mem_cons_of_mem)); (first | done | fail))) (by decide +kernel) ?_ | with_reducible refine x_isiT (b := false) (by assumption) (by first | exact Tm.i _ | exact Tm.b _ | exact Tm.s _ | exact Tm.n | (apply Tm.m; (repeat (first | exact List.mem_cons_self .. | apply List.mem_cons_of_mem)); (first | done | fail))) (by decide +kernel) ?_)
  | (with_reducible refine h_tupOf ?_; first | with_reducible refine x_tupT (by assumption) (by first | exact Tm.i _ | exact Tm.b _ | exact Tm.s _ | exact Tm.n | (apply Tm.m; (repeat (first | exact List.mem_cons_self .. | apply List.mem_cons_of_mem)); (first | done | fail))) ?_ | (with_reducible refine x_tupL (by assumption) (by first | exact Tm.i _ | exact Tm.b _ | exact Tm.s _ | exact Tm.n | (apply Tm.m; (repeat (first | exact List.mem_cons_self .. | apply List.mem_cons_of_mem)); (first | done | fail))) ?_; intro _ _ _ _) | (with_reducible refine x_tupO 0 (by assumption) (by with_unfolding_all rfl) ?_; intro _ _ _ _) | (with_reducible refine x_tupO 1 (by assumption) (by with_unfolding_all rfl) ?_; intro _ _ _ _) | (with_reducible refine x_tupO 2 (by assumption) (by with_unfolding_all rfl) ?_; intro _ _ _ _))
  | (with_reducible refine h_lsOf ?_; first | (with_reducible refine x_lsT (by assumption) (by first | exact Tm.i _ | exact Tm.b _ | exact Tm.s _ | exact Tm.n | (apply Tm.m; (repeat (first | exact List.mem_cons_self .. | apply List.mem_cons_of_mem)); (first | done | fail))) ?_; intro _ _ _) | (with_reducible refine x_lsL (by assumption) (by first | exact Tm.i _ | exact Tm.b _ | exact Tm.s _ | exact Tm.n | (apply Tm.m; (repeat (first | exact List.mem_cons_self .. | apply List.mem_cons_of_mem)); (first | done | fail))) ?_; intro _ _ _) | (with_reducible refine x_lsS (by assumption) (by first | exact Tm.i _ | exact Tm.b _ | exact Tm.s _ | exact Tm.n | (apply Tm.m; (repeat (first | exact List.mem_cons_self .. | apply List.mem_cons_of_mem)); (first | done | fail))) ?_; intro _ _ _) | (with_reducible refine x_lsO 0 (by assumption) (by with_unfolding_all rfl) ?_; intro _ _ _) | (with_reducible refine x_lsO 1 (by assumption) (by with_unfolding_all rfl) ?_; intro _ _ _) | (with_reducible refine x_lsO 2 (by assumption) (by with_unfolding_all rfl) ?_; intro _ _ _))
  | (with_reducible refine h_gT ?_; first | (with_reducible refine x_gT2 (by assumption) (by first | exact Tm.i _ | exact Tm.b _ | exact Tm.s _ | exact Tm.n | (apply Tm.m; (repeat (first | exact List.mem_cons_self .. | apply List.mem_cons_of_mem)); (first | done | fail))) ?_; intro _ _ _) | (with_reducible refine x_gT3 (by assumption) (by first | exact Tm.i _ | exact Tm.b _ | exact Tm.s _ | exact Tm.n | (apply Tm.m; (repeat (first | exact List.mem_cons_self .. | apply List.mem_cons_of_mem)); (first | done | fail))) ?_; intro _ _ _ _) | (with_reducible refine x_gT4 (by assumption) (by first | exact Tm.i _ | exact Tm.b _ | exact Tm.s _ | exact Tm.n | (apply Tm.m; (repeat (first | exact List.mem_cons_self .. | apply List.mem_cons_of_mem)); (first | done | fail))) ?_; intro _ _ _ _ _))
  | (with_reducible refine h_isNo ?_; first | with_reducible refine x_isNoR ?_ | with_reducible refine x_isNoN ?_ | with_reducible refine x_isNoI ?_ | with_reducible refine x_isNoD (by assumption) (by first | exact Tm.i _ | exact Tm.b _ | exact Tm.s _ | exact Tm.n | (apply Tm.m; (repeat (first | exact List.mem_cons_self .. | apply List.mem_cons_of_mem)); (first | done | fail))) ?_)
  | (with_reducible refine h_notNo ?_; first | with_reducible refine x_notNoR ?_ | with_reducible refine x_notNoN ?_ | with_reducible refine x_notNoI ?_ | with_reducible refine x_notNoD (by assumption) (by first | exact Tm.i _ | exact Tm.b _ | exact Tm.s _ | exact Tm.n | (apply Tm.m; (repeat (first | exact List.mem_cons_self .. | apply List.mem_cons_of_mem)); (first | done | fail))) ?_)
  | (with_reducible refine h_setL ?_; first | (with_reducible refine x_setH 0 (by assumption) (by with_unfolding_all rfl) (by with_unfolding_all rfl) (by (repeat (first | exact SetAt.z | apply SetAt.s)); (first | done | fail)) ?_; intro _ _; try dsimp only) | (with_reducible refine x_setH 1 (by assumption) (by with_unfolding_all rfl) (by with_unfolding_all rfl) (by (repeat (first | exact SetAt.z | apply SetAt.s)); (first | done | fail)) ?_; intro _ _; try dsimp only) | (with_reducible refine x_setH 2 (by assumption) (by with_unfolding_all rfl) (by with_unfolding_all rfl) (by (repeat (first | exact SetAt.z | apply SetAt.s)); (first | done | fail)) ?_; intro _ _; try dsimp only))
  | (with_reducible refine h_aug ?_; first | with_reducible refine x_augI (by assumption) (by with_unfolding_all rfl) ?_)
  | (with_reducible refine h_ip ?_; first | (with_reducible refine x_ipI (by assumption) (by (repeat (first | exact SetAt.z | apply SetAt.s)); (first | done | fail)) ?_; intro _ _; try dsimp only))
  | (with_reducible refine h_app ?_; first | with_reducible refine x_app (by assumption) (by with_unfolding_all rfl) 0 (by with_unfolding_all rfl) ?_ | with_reducible refine x_app (by assumption) (by with_unfolding_all rfl) 1 (by with_unfolding_all rfl) ?_ | with_reducible refine x_app (by assumption) (by with_unfolding_all rfl) 2 (by with_unfolding_all rfl) ?_)
  | with_reducible refine x_appG ?_
  | with_reducible refine x_lcT ?_
  | with_reducible refine x_lcL ?_
  | with_reducible refine x_lcR ?_
  | with_reducible refine x_lcR2 ?_
  | with_reducible refine x_yes ?_
  | with_reducible refine x_tix ?_
  | with_reducible refine x_lix ?_
  | (with_reducible refine h_lixF ?_; first | with_reducible refine x_lixF (by assumption) (by first | exact Tm.i _ | exact Tm.b _ | exact Tm.s _ | exact Tm.n | (apply Tm.m; (repeat (first | exact List.mem_cons_self .. | apply List.mem_cons_of_mem)); (first | done | fail))) ?_)
  | (with_reducible refine h_tixF ?_; first | with_reducible refine x_tixF (by assumption) (by assumption) ?_)
  | with_reducible refine x_dctL ?_
  | with_reducible refine x_dns ?_
  | with_reducible refine x_augS ?_
  | with_reducible refine x_revT ?_
  | with_reducible refine x_tupR ?_
  | (with_reducible refine h_tupR ?_; first | (with_reducible refine x_tupRK (by assumption) (by (repeat (first | exact TmAll.nil | apply TmAll.cons (by first | exact Tm.i _ | exact Tm.b _ | exact Tm.s _ | exact Tm.n | (apply Tm.m; (repeat (first | exact List.mem_cons_self .. | apply List.mem_cons_of_mem)); (first | done | fail))))); (first | done | fail)) (by with_unfolding_all rfl) ?_; intro _ _ _ _ _))
  | with_reducible refine x_fld ?_
  | with_reducible refine x_dg ?_
  | with_reducible refine x_dn ?_
  | with_reducible refine x_di ?_
  | with_reducible refine x_ds ?_
  | with_reducible refine x_sfld ?_
  | with_reducible refine x_prC ?_
  | with_reducible refine x_prN ?_
  | with_reducible refine x_lrg ?_
  | with_reducible refine x_trg ?_
  | with_reducible refine x_rg1 ?_
  | with_reducible refine x_rg2 ?_
  | with_reducible refine x_r1K ?_
  | with_reducible refine x_r2K ?_
  | (with_reducible refine h_revT ?_; first | (with_reducible refine x_revK (by assumption) (by first | exact Tm.i _ | exact Tm.b _ | exact Tm.s _ | exact Tm.n | (apply Tm.m; (repeat (first | exact List.mem_cons_self .. | apply List.mem_cons_of_mem)); (first | done | fail))) ?_; intro _ _ _ _))
  | with_reducible refine x_fE ?_
  | with_reducible refine x_lcE ?_
  | with_reducible refine x_fT ?_
  | with_reducible refine x_fL ?_
  | with_reducible refine x_fR ?_
  | with_reducible refine x_fR2 ?_
  | dsimp only
  | with_reducible refine x_N (by assumption) ?_))
theorem map_at {α β : Type} {f : α → β} {l : List α} {i : Nat} {y : β} (h : (l.map f)[i]? = some y) : ∃ x, l[i]? = some x ∧ y = f x := by
  rw [List.getElem?_map] at h
  cases e : l[i]? with
  | none => rw [e] at h; cases h
  | some x => rw [e] at h; exact ⟨x, rfl, (Option.some.inj h).symm⟩
theorem take_snoc {α : Type} {l : List α} {i : Nat} {x : α} (h : l[i]? = some x) : l.take (i + 1) = l.take i ++ [x] := by
  obtain ⟨h1, h2⟩ := List.getElem?_eq_some_iff.mp h
  rw [List.take_succ, h]
  rfl
theorem take_all {α : Type} {l : List α} : l.take l.length = l := List.take_length
theorem at_nat {α : Type} {f : α → PyData} {xs : List α} {i : Nat} {x : α} (h : xs[i]? = some x) : atI (xs.map f) (i : Int) = some (f x) := by
  obtain ⟨h1, h2⟩ := List.getElem?_eq_some_iff.mp h
  unfold atI ixN
  simp [h1, h2]
theorem at_get {α : Type} {f : α → PyData} {xs : List α} {m : Int} {a : α} (h1 : 0 ≤ m) (h2 : m < (xs.length : Nat)) : atI (xs.map f) m = some (f (xs.getD m.toNat a)) := by
  obtain ⟨j, rfl⟩ := Int.eq_ofNat_of_zero_le h1
  have h3 : j < xs.length := by omega
  unfold atI ixN
  simp [h3]
section
variable {P : Program} {w : World} {K : PySem.W.Frag} {mg : Str → Option Value} {base : Heap}
theorem atI_ints {ns : List Int} {k : Int} (h0 : 0 ≤ k) (h : k < ns.length) : ∃ c : Int, atI (ns.map PyData.int) k = some (.int c) := by
  have hk : k.toNat < ns.length := by omega
  have ek : k = ((k.toNat : Nat) : Int) := by omega
  have q : atI (ns.map PyData.int) ((k.toNat : Nat) : Int) = some (.int ns[k.toNat]) := atI_nat (by rw [List.getElem?_map, List.getElem?_eq_getElem hk] <;> rfl)
  rw [← ek] at q
  exact ⟨_, q⟩
/-- _law_cell: some int -/
def pCell : Pre := fun ss u post => ∃ (ns : List Int) (k : Int), ss = [.d (.list (ns.map .int)), .d (.int k)] ∧ u = [] ∧ 0 ≤ k ∧ post = pD fun d => ∃ c : Int, d = .int c
theorem c_law_cell {f : Addr} {fd : FuncData} (D : Df K mg "_law_cell" s_law_cell f fd ["script", "k"]) (z_len : mg "len" = none) (z_int : mg "int" = none) : Cl P w K mg base 1 "_law_cell" (spG K pCell) := by
  refine D.go sc_law_cell (pCell) (fun ss u post h => by repeat (first | (obtain ⟨rfl, _⟩ := h; rfl) | obtain ⟨_, h⟩ := h)) fun cdv A outer s H M vs Q E ss u post hr hp S hq => ?_
  obtain ⟨ns, k, rfl, rfl, h0, rfl⟩ := hp
  refine ⟨_, (pss_cons (ps_if (pt_cmpR op_lt (pv 1) (pe_callB (lenQ (K := K)) (by rfl) z_len PySem.boot_len (pa_cons (pv 0) pa_nil)) (nomark _)) (pss_one (ps_ret (pe_callTy call_intD (by rfl) z_int (by decide +kernel) (pa_cons (pe_ix (ixL (K := K)) (pv 0) (pv 1) (fun _ _ => rfl)) pa_nil)))) pss_nil)
      (pss_one (ps_ret pe_int))), ?_⟩
  walk_at "in"
  walk_at "dl"
  refine x_if (fun c => ?_) (fun c => ?_)
  · have c := of_decide_eq_true c
    rw [List.length_map] at c
    obtain ⟨x, hx⟩ := atI_ints h0 c
    walk_at "dl"
    refine x_ixL (by assumption) (by walk_at "tm") hx ?_
    walk_at "dl"
    exact x_rD (by assumption) hq (by walk_at "tm") ⟨x, rfl⟩
  · walk_at "dl"
    exact x_rD (by assumption) hq (by walk_at "tm") ⟨0, rfl⟩
/-- _law_draws: a new list of ints -/
def pDraws : Pre := fun ss u post => ∃ (ns : List Int) (k : Int) (n : Nat), ss = [.d (.list (ns.map .int)), .d (.int k), .d (.int n)] ∧ u = [] ∧ 0 ≤ k ∧ n ≤ 1000 ∧ post = pO fun od => od = .nums
theorem c_law_draws {f : Addr} {fd : FuncData} (D : Df K mg "_law_draws" s_law_draws f fd ["script", "k", "count"]) (z_int : mg "int" = none) (z_range : mg "range" = none) (c_law_cell : Cl P w K mg base 1 "_law_cell" (spG K pCell)) : Cl P w K mg base 2 "_law_draws" (spG K pDraws) := by
  refine D.go sc_law_draws (pDraws) (fun ss u post h => by repeat (first | (obtain ⟨rfl, _⟩ := h; rfl) | obtain ⟨_, h⟩ := h)) fun cdv A outer s H M vs Q E ss u post hr hp S hq => ?_
  obtain ⟨ns, k, n, rfl, rfl, h0, hn, rfl⟩ := hp
  refine ⟨_, (pss_cons (ps_set (i := 3) sc_law_draws.nd rfl (.inl rfl) (pc c_law_cell hr (by first | decide | omega) (by rfl) (pa_cons (pv 0) (pa_cons (pv 1) pa_nil))))
      (pss_cons (ps_set (i := 4) sc_law_draws.nd rfl (.inl rfl) pe_int)
      (Evl.pss_cut (ps_if (pt_cmpR op_ge (pv 3) (pe_op op_pow pe_int pe_int) (nomark _)) (pss_one (ps_set (i := 4) sc_law_draws.nd rfl (.inl rfl) (pe_op op_fdivW (pv 3) (pe_op op_pow pe_int pe_int)))) pss_nil)
      (pss_cons (ps_set (i := 5) sc_law_draws.nd rfl (.inl rfl) (pe_op op_mod (pe_callTy call_intD (by rfl) z_int (by decide +kernel) (pa_cons (pe_op op_add (pe_op op_add (pe_op op_mul (pv 3) pe_int) (pe_op op_mul (pv 1) pe_int)) pe_int) pa_nil)) pe_int))
      (pss_cons (ps_set (i := 6) sc_law_draws.nd rfl (.inl rfl) (pe_lst pa_nil))
      (pss_cons (ps_for PassesOwn.never rfl (pi_range1 (by rfl) z_range (pa_cons (pv 2) pa_nil)) (pg_name (i := 7) sc_law_draws.nd rfl (.inl rfl)) (pss_cons (ps_set (i := 5) sc_law_draws.nd rfl (.inl rfl) (pe_op op_mod (pe_callTy call_intD (by rfl) z_int (by decide +kernel) (pa_cons (pe_op op_add (pe_op op_add (pe_op op_mul (pv 5) pe_int) (pe_op op_mul (pv 7) pe_int)) pe_int) pa_nil)) pe_int))
      (pss_one (ps_if (pt_cmpR op_gt (pv 4) pe_int (nomark _)) (pss_cons (ps_expr (kBM (K := K) (pe_bm PySem.F.plainAttrs_list PySem.F.slot_list_append PySem.F.type_list_append mt_append (pv 6) (pa_cons (pe_op op_mod (pe_callTy call_intD (by rfl) z_int (by decide +kernel) (pa_cons (pv 4) pa_nil)) pe_int) pa_nil))))
      (pss_one (ps_set (i := 4) sc_law_draws.nd rfl (.inl rfl) (pe_op op_fdiv (pv 4) pe_int)))) (pss_one (ps_expr (kBM (K := K) (pe_bm PySem.F.plainAttrs_list PySem.F.slot_list_append PySem.F.type_list_append mt_append (pv 6) (pa_cons (pe_op op_mod (pe_callTy call_intD (by rfl) z_int (by decide +kernel) (pa_cons (pe_op op_fdiv (pv 5) pe_int) pa_nil)) pe_int) pa_nil)))))))))
      (pss_one (ps_ret (pv 6))))))))), ?_⟩
  walk_at "in"
  walk_at "dl"
  refine x_cD (by assumption) (by walk_at "slt") ⟨ns, k, rfl, rfl, h0, rfl⟩ ?_
  rintro _ ⟨c, rfl⟩ H_ M_ S_
  walk_at "dl"
  refine x_cut (fun ρ u => (∃ r : Int, ρ = [.d (.list (ns.map .int)), .d (.int k), .d (.int n), .d (.int c), .d (.int r), .u, .u, .u]) ∧ u = []) (by assumption) ?_ ?_
  · walk_at "dl"
    refine x_if (fun h => ?_) (fun h => ?_)
    · walk_at "dl"
      exact Md.at (by assumption) (by walk_at "le") ⟨⟨_, rfl⟩, rfl⟩
    · walk_at "dl"
      exact Md.at (by assumption) (by walk_at "le") ⟨⟨_, rfl⟩, rfl⟩
  rintro M1 σ1 H1 ρ1 u1 ⟨⟨r, rfl⟩, rfl⟩ S1
  walk_at "dl"
  rename Addr => p
  refine x_forR (fun i ρ u => (∃ r s : Int, ρ = [.d (.list (ns.map .int)), .d (.int k), .d (.int n), .d (.int c), .d (.int r), .d (.int s), .v (.ref p), .u]) ∧ ∃ ms : List Int, u = [(p, .lst (ms.map .int))] ∧ ms.length ≤ i) (by assumption) (by omega) (by omega) ⟨⟨_, _, rfl⟩, [], rfl, Nat.le_refl _⟩ ?_ ?_
  · rintro i ρ2 u2 hi ⟨⟨r, s, rfl⟩, ms, rfl, hm⟩ σ2 H2 M2 S2
    have hi2 : i < 1000 := by omega
    have hz : (ms.map PyData.int).length < sizeLine := by rw [List.length_map]; exact Nat.lt_of_lt_of_le (by omega : _ < 1001) (by decide)
    walk_at "dl"
    refine x_if (fun h => ?_) (fun h => ?_)
    · walk_at "dl"
      refine x_appK 0 (by assumption) rfl (by walk_at "tm") hz (by walk_at "set") fun H_ S_ => ?_
      walk_at "dl"
      exact Nx.at (by assumption) (by walk_at "le") ⟨⟨_, _, rfl⟩, ms ++ [_], own_snoc, (by rw [List.length_append]; exact Nat.succ_le_succ hm)⟩
    · walk_at "dl"
      refine x_appK 0 (by assumption) rfl (by walk_at "tm") hz (by walk_at "set") fun H_ S_ => ?_
      walk_at "dl"
      exact Nx.at (by assumption) (by walk_at "le") ⟨⟨_, _, rfl⟩, ms ++ [_], own_snoc, (by rw [List.length_append]; exact Nat.succ_le_succ hm)⟩
  rintro ρ2 u2 ⟨⟨r, s, rfl⟩, ms, rfl, hm⟩ σ2 H2 M2 S2
  have S2 := nums_close (j := 0) S2 rfl
  simp only [List.set_cons_zero] at S2
  walk_at "dl"
  exact x_rO (by assumption) hq 0 rfl rfl
/-- _law_take: an int below many -/
def pTake : Pre := fun ss u post => ∃ (b : Addr) (m : Int), ss = [.v (.ref b), .d (.int m)] ∧ u = [(b, .nums)] ∧ 0 < m ∧ post = pD1 b fun d od => od = .nums ∧ ∃ x : Int, d = .int x ∧ 0 ≤ x ∧ x < m
theorem c_law_take {f : Addr} {fd : FuncData} (D : Df K mg "_law_take" s_law_take f fd ["draws", "many"]) (z_int : mg "int" = none) : Cl P w K mg base 1 "_law_take" (spG K pTake) := by
  refine D.go sc_law_take (pTake) (fun ss u post h => by repeat (first | (obtain ⟨rfl, _⟩ := h; rfl) | obtain ⟨_, h⟩ := h)) fun cdv A outer s H M vs Q E ss u post hr hp S hq => ?_
  obtain ⟨b, m, rfl, rfl, h0, rfl⟩ := hp
  refine ⟨_, (pss_cons (ps_if (pt_not (kTru (K := K) (pt_truth (pv 0) (by intro _; rfl)))) (pss_one (ps_ret pe_int)) pss_nil)
      (pss_one (ps_ret (pe_op op_mod (pe_callTy call_intD (by rfl) z_int (by decide +kernel) (pa_cons (kBM (K := K) (pe_bm PySem.F.plainAttrs_list PySem.F.slot_list_pop PySem.F.type_list_pop mt_popAt (pv 0) (pa_cons pe_int pa_nil))) pa_nil)) (pv 1))))), ?_⟩
  walk_at "in"
  rename Ds _ _ _ _ _ _ _ _ _ => S_
  obtain ⟨ns, S2⟩ := nums_open (j := 0) S_ rfl
  simp only [List.set_cons_zero] at S2
  cases ns with
  | nil =>
    walk_at "dl"
    rename Ds _ _ _ _ _ _ _ _ _ => S_
    have S_ := nums_close (j := 0) (ns := []) S_ rfl
    simp only [List.set_cons_zero] at S_
    exact x_r1 (by assumption) hq (by walk_at "tm") 0 rfl ⟨rfl, _, rfl, Int.le_refl _, h0⟩
  | cons n ns =>
    walk_at "dl"
    refine x_ifF rfl ?_
    walk_at "dl"
    refine x_pop0 0 (by assumption) rfl rfl (by walk_at "set") fun H_ S_ => ?_
    walk_at "dl"
    rename Ds _ _ _ _ _ _ _ _ _ => S_
    have S_ := nums_close (j := 0) (ns := ns) S_ rfl
    simp only [List.set_cons_zero] at S_
    exact x_r1 (by assumption) hq (by walk_at "tm") 0 rfl ⟨rfl, _, rfl, Int.emod_nonneg _ (by omega), Int.emod_lt_of_pos _ h0⟩
end
section
variable {P : Program} {w : World} {K : PySem.W.Frag} {mg : Str → Option Value} {base : Heap}
abbrev insD : List Int → PyData := fun r => .tuple (r.map .int)
theorem sub_next {r : List Int} {i : Nat} (h : r.Sublist (rng i)) : r.Sublist (rng (i + 1)) := by
  rw [rng_succ]
  exact h.trans (List.sublist_append_left ..)
theorem sub_more {r : List Int} {i : Nat} (h : r.Sublist (rng i)) : (r ++ [(i : Int)]).Sublist (rng (i + 1)) := by
  rw [rng_succ]
  exact h.append (List.Sublist.refl _)
theorem sub_len {r : List Int} {i : Nat} (h : r.Sublist (rng i)) : r.length ≤ i := Nat.le_trans h.length_le (Nat.le_of_eq rng_len)
/-- _law_family: rows, each some places -/
def pFamily : Pre := fun ss u post => ∃ (ns : List Int) (k : Int) (m : Nat), ss = [.d (.list (ns.map .int)), .d (.int k), .d (.int m)] ∧ u = [] ∧ 0 ≤ k ∧ m ≤ 1000 ∧ post = pO fun od => ∃ rs : List (List Int), od = .lst (rs.map insD) ∧ rs.length ≤ 5 ∧ ∀ r ∈ rs, r.Sublist (rng m)
theorem c_law_family {f : Addr} {fd : FuncData} (D : Df K mg "_law_family" s_law_family f fd ["script", "first", "many"]) (z_range : mg "range" = none) (z_tuple : mg "tuple" = none) (c_law_draws : Cl P w K mg base 2 "_law_draws" (spG K pDraws)) (c_law_take : Cl P w K mg base 1 "_law_take" (spG K pTake)) : Cl P w K mg base 3 "_law_family" (spG K pFamily) := by
  refine D.go sc_law_family (pFamily) (fun ss u post h => by repeat (first | (obtain ⟨rfl, _⟩ := h; rfl) | obtain ⟨_, h⟩ := h)) fun cdv A outer s H M vs Q E ss u post hr hp S hq => ?_
  obtain ⟨ns, k, m, rfl, rfl, h0, hm, rfl⟩ := hp
  refine ⟨_, (pss_cons (ps_set (i := 3) sc_law_family.nd rfl (.inl rfl) (pe_lst pa_nil))
      (pss_cons (ps_set (i := 4) sc_law_family.nd rfl (.inr rfl) (pc c_law_draws hr (by first | decide | omega) (by rfl) (pa_cons (pv 0) (pa_cons (pv 1) (pa_cons pe_int pa_nil)))))
      (pss_cons (ps_for PassesOwn.never rfl (pi_range1 (by rfl) z_range (pa_cons (pc c_law_take hr (by first | decide | omega) (by rfl) (pa_cons (pv 4) (pa_cons pe_int pa_nil))) pa_nil)) (pg_name (i := 5) sc_law_family.nd rfl (.inl rfl)) (pss_one (ps_expr (kBM (K := K) (pe_bm PySem.F.plainAttrs_list PySem.F.slot_list_append PySem.F.type_list_append mt_append (pv 3) (pa_cons (pe_callTy (call_tupD (K := K)) (by rfl) z_tuple (by decide +kernel) (pa_cons (pe_lc (own := [("place", 6)]) (g := gName 6) (by rfl) sc_law_family.nd (pi_range1 (by rfl) z_range (pa_cons (pv 2) pa_nil)) (blkOk_by (own := [("place", 6)]) (N := ["script", "first", "many", "rows", "draws", "k", "place"]) (sc := defScope s_law_family) (by decide +kernel)) (fun _ _ _ _ _ => pg_name (i := 6) sc_law_family.nd rfl (.inl rfl)) (fun _ _ _ _ _ => (pts_one (pt_cmpR op_lt (pc c_law_take hr (by first | decide | omega) (by rfl) (pa_cons (pv 4) (pa_cons pe_int pa_nil))) pe_int (nomark _)))) (fun _ _ _ _ _ => (pv 6))) pa_nil)) pa_nil))))))
      (pss_one (ps_ret (pv 3)))))), ?_⟩
  walk_at "in"
  walk_at "dl"
  rename Addr => p
  refine x_cO (by assumption) (by walk_at "slt") ⟨ns, k, 40, rfl, rfl, h0, by decide, rfl⟩ ?_
  rintro _ rfl b H_ M_ S_
  walk_at "dl"
  refine x_c1 0 (by assumption) rfl (by walk_at "slt") ⟨b, 6, rfl, rfl, by decide, rfl⟩ ?_
  rintro _ _ ⟨rfl, x, rfl, hx0, hx1⟩ H_ M_ w_ hw S_
  cases hw
  walk_at "dl"
  refine x_forR (fun i ρ u => ρ = [.d (.list (ns.map .int)), .d (.int k), .d (.int m), .v (.ref p), .v (.ref b), .u, .u] ∧ ∃ rs : List (List Int), u = [(b, .nums), (p, .lst (rs.map insD))] ∧ rs.length ≤ i ∧ ∀ r ∈ rs, r.Sublist (rng m)) (by assumption) (by omega) (by omega) ⟨rfl, [], rfl, Nat.le_refl _, fun _ z => nomatch z⟩ ?_ ?_
  · rintro i ρ2 u2 hi ⟨rfl, rs, rfl, hl, hs⟩ σ2 H2 M2 S2
    have hi5 : i < 5 := by omega
    walk_at "dl"
    refine x_lc1R (k := 6) (fun i acc w1 => ∃ r : List Int, acc = r.map .int ∧ r.Sublist (rng i) ∧ w1 = [(b, .nums), (p, .lst (rs.map insD))]) (by assumption) (by omega) (by omega) ⟨[], rfl, List.Sublist.refl _, rfl⟩ ?_ ?_
    · rintro j acc w1 hj ⟨r, rfl, hr, rfl⟩ D4 σ4 H4 M4 hrw S4
      rename Ds _ _ _ _ _ _ _ _ _ => S_
      simp only [List.set_cons_succ, List.set_cons_zero] at S_
      walk_at "dl"
      refine x_c1 1 (by assumption) rfl (by walk_at "slt") ⟨b, 5, rfl, rfl, by decide, rfl⟩ ?_
      rintro _ _ ⟨rfl, y, rfl, hy0, hy1⟩ H_ M_ w_ hw S_
      cases hw
      rename SetAt _ _ _ _ => hw
      cases hw
      walk_at "dl"
      have hj2 : j < m := by omega
      have hrl := sub_len hr
      refine x_if (fun h => ?_) (fun h => ?_)
      · walk_at "dl"
        exact x_lcA (by assumption) (by assumption) (by walk_at "tm") (by rw [List.length_map]; exact Nat.lt_of_lt_of_le (by omega : _ < 1001) (by decide)) ⟨r ++ [(j : Int)], by rw [List.map_append]; rfl, sub_more hr, rfl⟩
      · exact x_lcN (by assumption) (by assumption) ⟨r, rfl, sub_next hr, rfl⟩
    · rintro acc w1 ⟨r, rfl, hr, rfl⟩ D4 H4 M4 S4
      rw [Int.toNat_natCast] at hr
      walk_at "dl"
      refine x_appK 2 (by assumption) rfl (by walk_at "tm") (by rw [List.length_map]; exact Nat.lt_of_lt_of_le (by omega : _ < 10) (by decide)) (by walk_at "set") fun H_ S_ => ?_
      walk_at "dl"
      rename Ds _ _ _ _ _ _ _ _ _ => S_
      have S_ := S_.drop
      refine Nx.at S_ (by walk_at "le") ⟨rfl, rs ++ [r], by rw [List.map_append]; rfl, (by rw [List.length_append]; exact Nat.succ_le_succ hl), fun q hq => ?_⟩
      rcases List.mem_append.mp hq with hq | hq
      · exact hs q hq
      · rw [List.mem_singleton.mp hq]
        exact hr
  · rintro ρ2 u2 ⟨rfl, rs, rfl, hl, hs⟩ σ2 H2 M2 S2
    walk_at "dl"
    exact x_rO (by assumption) hq 1 rfl ⟨rs, rfl, by omega, hs⟩
end
section
variable {P : Program} {w : World} {K : PySem.W.Frag} {mg : Str → Option Value} {base : Heap}
/-- _law_set: some places -/
def pSet : Pre := fun ss u post => ∃ (ns : List Int) (k : Int) (m : Nat), ss = [.d (.list (ns.map .int)), .d (.int k), .d (.int m)] ∧ u = [] ∧ 0 ≤ k ∧ m ≤ 1000 ∧ post = pD fun d => ∃ r : List Int, d = insD r ∧ r.Sublist (rng m)
theorem c_law_set {f : Addr} {fd : FuncData} (D : Df K mg "_law_set" s_law_set f fd ["script", "k", "many"]) (z_range : mg "range" = none) (z_tuple : mg "tuple" = none) (c_law_draws : Cl P w K mg base 2 "_law_draws" (spG K pDraws)) (c_law_take : Cl P w K mg base 1 "_law_take" (spG K pTake)) : Cl P w K mg base 3 "_law_set" (spG K pSet) := by
  refine D.go sc_law_set (pSet) (fun ss u post h => by repeat (first | (obtain ⟨rfl, _⟩ := h; rfl) | obtain ⟨_, h⟩ := h)) fun cdv A outer s H M vs Q E ss u post hr hp S hq => ?_
  obtain ⟨ns, k, m, rfl, rfl, h0, hm, rfl⟩ := hp
  refine ⟨_, (pss_cons (ps_set (i := 3) sc_law_set.nd rfl (.inr rfl) (pc c_law_draws hr (by first | decide | omega) (by rfl) (pa_cons (pv 0) (pa_cons (pv 1) (pa_cons (pv 2) pa_nil)))))
      (pss_one (ps_ret (pe_callTy (call_tupD (K := K)) (by rfl) z_tuple (by decide +kernel) (pa_cons (pe_lc (own := [("place", 4)]) (g := gName 4) (by rfl) sc_law_set.nd (pi_range1 (by rfl) z_range (pa_cons (pv 2) pa_nil)) (blkOk_by (own := [("place", 4)]) (N := ["script", "k", "many", "draws", "place"]) (sc := defScope s_law_set) (by decide +kernel)) (fun _ _ _ _ _ => pg_name (i := 4) sc_law_set.nd rfl (.inl rfl)) (fun _ _ _ _ _ => (pts_one (pt_cmpR op_gt (pc c_law_take hr (by first | decide | omega) (by rfl) (pa_cons (pv 3) (pa_cons pe_int pa_nil))) pe_int (nomark _)))) (fun _ _ _ _ _ => (pv 4))) pa_nil))))), ?_⟩
  walk_at "in"
  walk_at "dl"
  refine x_cO (by assumption) (by walk_at "slt") ⟨ns, k, m, rfl, rfl, h0, hm, rfl⟩ ?_
  rintro _ rfl b H_ M_ S_
  walk_at "dl"
  refine x_lc1R (k := 4) (fun i acc w1 => ∃ r : List Int, acc = r.map .int ∧ r.Sublist (rng i) ∧ w1 = [(b, .nums)]) (by assumption) (by omega) (by omega) ⟨[], rfl, List.Sublist.refl _, rfl⟩ ?_ ?_
  · rintro j acc w1 hj ⟨r, rfl, hr, rfl⟩ D4 σ4 H4 M4 hrw S4
    rename Ds _ _ _ _ _ _ _ _ _ => S_
    simp only [List.set_cons_succ, List.set_cons_zero] at S_
    walk_at "dl"
    refine x_c1 1 (by assumption) rfl (by walk_at "slt") ⟨b, 4, rfl, rfl, by decide, rfl⟩ ?_
    rintro _ _ ⟨rfl, y, rfl, hy0, hy1⟩ H_ M_ w_ hw S_
    cases hw
    rename SetAt _ _ _ _ => hw
    cases hw
    walk_at "dl"
    have hj2 : j < m := by omega
    have hrl := sub_len hr
    refine x_if (fun h => ?_) (fun h => ?_)
    · walk_at "dl"
      exact x_lcA (by assumption) (by assumption) (by walk_at "tm") (by rw [List.length_map]; exact Nat.lt_of_lt_of_le (by omega : _ < 1001) (by decide)) ⟨r ++ [(j : Int)], by rw [List.map_append]; rfl, sub_more hr, rfl⟩
    · exact x_lcN (by assumption) (by assumption) ⟨r, rfl, sub_next hr, rfl⟩
  · rintro acc w1 ⟨r, rfl, hr, rfl⟩ D4 H4 M4 S4
    rw [Int.toNat_natCast] at hr
    walk_at "dl"
    exact x_rD (by assumption) hq (by walk_at "tm") ⟨r, rfl, hr⟩
end
open Tr
abbrev ndD : Nd → PyData := fun l => .tuple [.int l.1, .int l.2.1, .int l.2.2]
theorem nd_enc : Enc ndD where
  eq := fun a b => by
    show (PyData.eqv (.int a.1) (.int b.1) && (PyData.eqv (.int a.2.1) (.int b.2.1) && (PyData.eqv (.int a.2.2) (.int b.2.2) && true))) = _
    rw [Cp.eqI, Cp.eqI, Cp.eqI, Bool.and_true, Bool.eq_iff_iff, Bool.and_eq_true, Bool.and_eq_true, decide_eq_true_iff, decide_eq_true_iff, decide_eq_true_iff, decide_eq_true_iff]
    exact ⟨fun h => Prod.ext h.1 (Prod.ext h.2.1 h.2.2), fun h => h ▸ ⟨rfl, rfl, rfl⟩⟩
  lay := fun a => rfl
abbrev rowsOf (o : List Tr) : List Nd := o.map (rowOf o)
/-- a condition as data -/
def canD (t : Tr) : PyData := .tuple [.tuple ((rowsOf (wr t [])).map ndD), .int (idx (wr t []) t)]
theorem idxOf_take {α : Type} [DecidableEq α] {l : List α} {k : Nat} {x : α} (h : x ∈ l.take k) : l.idxOf x < k ∧ l[l.idxOf x]? = some x := by
  have h1 : x ∈ l := List.mem_of_mem_take h
  have e : l.idxOf x = (l.take k).idxOf x := by
    have e : (l.take k ++ l.drop k).idxOf x = (l.take k).idxOf x := by rw [List.idxOf_append, if_pos h]
    rw [List.take_append_drop] at e
    exact e
  have h2 := List.idxOf_lt_length_of_mem h
  rw [List.length_take] at h2
  refine ⟨by omega, ?_⟩
  rw [List.getElem?_eq_getElem (List.idxOf_lt_length_of_mem h1), List.getElem_idxOf]
open Tr
theorem fil_t {α : Type} {p : α → Bool} {x : α} (h : p x = true) : [x].filter p = [x] := List.filter_cons_of_pos h
theorem fil_f {α : Type} {p : α → Bool} {x : α} (h : p x = false) : [x].filter p = [] := List.filter_cons_of_neg (by rw [h]; decide)
section
variable {P : Program} {w : World} {K : PySem.W.Frag} {mg : Str → Option Value} {base : Heap}
def pInside : Pre := fun ss u post => ∃ (r ks : List Int) (o : PyData), (o = .list (ks.map .int) ∨ o = .tuple (ks.map .int)) ∧ ss = [.d (insD r), .d o] ∧ u = [] ∧ r.length ≤ 1000 ∧ post = pD fun d => d = .bool (r.all fun p => decide (p ∈ ks))
theorem c_law_inside {f : Addr} {fd : FuncData} (D : Df K mg "_law_inside" s_law_inside f fd ["row", "other"]) (z_all : mg "all" = none) : Cl P w K mg base 1 "_law_inside" (spG K pInside) := by
  refine D.go sc_law_inside pInside (fun ss u post h => by obtain ⟨r, ks, o, _, rfl, _⟩ := h; rfl) fun cdv A outer s H M vs Q E ss u post hr hp S hq => ?_
  obtain ⟨r, ks, o, ho, rfl, rfl, hl, rfl⟩ := hp
  refine ⟨_, (pss_one (ps_ret (pe_callB (kAll (K := K) rfl) (by rfl) z_all (by decide +kernel) (pa_cons (pe_lc (own := [("place", 2)]) (g := gName 2) (tt := tYes) (by rfl) sc_law_inside.nd (kIT (K := K) (pi_tup (pv 0))) (blkOk_by (own := [("place", 2)]) (N := ["row", "other", "place"]) (sc := defScope s_law_inside) (by decide +kernel)) (fun _ _ _ _ _ => pg_name (i := 2) sc_law_inside.nd rfl (.inl rfl)) (fun _ _ _ _ _ => pts_nil) (fun _ _ _ _ _ => (pe_cmpR (inD (K := K)) (pv 2) (pv 1) rfl))) pa_nil)))), ?_⟩
  walk_at "in"
  have e : ∀ bs : List Bool, (∀ i, bs = (r.take i).map (fun p => decide (p ∈ ks)) → bs.length < sizeLine) := fun bs i h => by
    rw [h, List.length_map, List.length_take]
    exact Nat.lt_of_lt_of_le (by omega : _ < 1001) (by decide)
  have ha : (r.map fun p => decide (p ∈ ks)).all id = r.all fun p => decide (p ∈ ks) := List.all_map ..
  rcases ho with rfl | rfl
  all_goals
    walk_at "dl"
    refine x_wlcT (vs := [2]) (fun i acc w1 => acc = ((r.take i).map fun p => decide (p ∈ ks)).map .bool ∧ w1 = []) (by assumption) (by walk_at "tm") ⟨rfl, rfl⟩ ?_ ?_
    · rintro i d acc w1 hi ⟨rfl, rfl⟩ D4 u4 H4 M4 S4
      obtain ⟨p, hp, rfl⟩ := map_at hi
      refine x_b1 S4 (by decide) fun σ5 hrw S5 => ?_
      rename Ds _ _ _ _ _ _ _ _ _ => S_
      simp only [uset, List.map_cons, List.map_nil, List.foldr_cons, List.foldr_nil, List.set_cons_succ, List.set_cons_zero] at S_
      walk_at "dl"
      exact x_lcA (by assumption) (by assumption) (by walk_at "tm") (by rw [List.length_map]; exact e _ i rfl) ⟨by rw [take_snoc hp, List.map_append, List.map_append]; rfl, rfl⟩
    · rintro acc w1 ⟨rfl, rfl⟩ D4 H4 M4 S4
      rw [show (r.map PyData.int).length = r.length from List.length_map .., take_all] at S4
      walk_at "dl"
      refine x_allO 0 (by assumption) rfl ?_
      rw [ha]
      exact x_rD (by assumption) hq (by walk_at "tm") rfl
def pNodL (N : Nat) : Pre := fun ss u post => ∃ (n : Nat) (bs : List Bool) (k : Int) (p : Addr) (o : List Tr), ss = [.d (.list (bs.map .bool)), .d (.int k), .v (.ref p)] ∧ u = [(p, .lst ((rowsOf o).map ndD))] ∧ n < N ∧ bs.length = 2 ^ n ∧ Bh o ∧ o.length + 2 ^ n ≤ 100000 ∧
  post = pD1 p fun d od => d = .int (idx (wr (bt n k bs) o) (bt n k bs)) ∧ od = .lst ((rowsOf (wr (bt n k bs) o)).map ndD)
theorem rows_snoc {o : List Tr} {t : Tr} (h : Bh o) (ht : rowOf (o ++ [t]) t = rowOf o t) : rowsOf (o ++ [t]) = rowsOf o ++ [rowOf o t] := by
  show (o ++ [t]).map (rowOf (o ++ [t])) = _
  rw [List.map_append, rows_app h]
  show _ ++ [rowOf (o ++ [t]) t] = _
  rw [ht]
theorem c_law_node {f : Addr} {fd : FuncData} (D : Df K mg "_law_node" s_law_node f fd ["truth", "place", "nodes"]) (z_all : mg "all" = none) (z_any : mg "any" = none) : ∀ N : Nat, Cl P w K mg base (N + 1) "_law_node" (spG K (pNodL N))
  | 0 => D.vain sc_law_node _ fun ss u post ⟨_, _, _, _, _, _, _, h, _⟩ => absurd h (Nat.not_lt_zero _)
  | N + 1 => by
    have c_law_node := c_law_node D z_all z_any N
    refine D.go sc_law_node (pNodL (N + 1)) (fun ss u post h => by repeat (first | (obtain ⟨rfl, _⟩ := h; rfl) | obtain ⟨_, h⟩ := h)) fun cdv A outer s H M vs Q E ss u post hr hp S hq => ?_
    obtain ⟨n, bs, k, p, o, rfl, rfl, hn, hb, ho, hz, rfl⟩ := hp
    refine ⟨_, (pss_cons (ps_if (pt_val (pe_callB (kAll (K := K) rfl) (by rfl) z_all (by decide +kernel) (pa_cons (pv 0) pa_nil))) (pss_one (ps_ret pe_int)) pss_nil)
      (pss_cons (ps_if (pt_not (pt_val (pe_callB (kAny (K := K) rfl) (by rfl) z_any (by decide +kernel) (pa_cons (pv 0) pa_nil)))) (pss_one (ps_ret pe_int)) pss_nil)
      (pss_cons (ps_set (i := 3) sc_law_node.nd rfl (.inl rfl) (pc c_law_node hr (by first | decide | omega) (by rfl) (pa_cons (pe_every (K := K) false (pv 0)) (pa_cons (pe_op op_add (pv 1) pe_int) (pa_cons (pv 2) pa_nil)))))
      (pss_cons (ps_set (i := 4) sc_law_node.nd rfl (.inl rfl) (pc c_law_node hr (by first | decide | omega) (by rfl) (pa_cons (pe_every (K := K) true (pv 0)) (pa_cons (pe_op op_add (pv 1) pe_int) (pa_cons (pv 2) pa_nil)))))
      (pss_cons (ps_if (pt_cmpR op_eq (pv 3) (pv 4) (nomark _)) (pss_one (ps_ret (pv 3))) pss_nil)
      (pss_cons (ps_set (i := 5) sc_law_node.nd rfl (.inl rfl) (pe_tup (pa_cons (pv 1) (pa_cons (pv 3) (pa_cons (pv 4) pa_nil)))))
      (pss_cons (ps_if (pt_cmpR (kNotInX (K := K) (u65 hr)) (pv 5) (pv 2) rfl) (pss_one (ps_expr (kBM (K := K) (pe_bm PySem.F.plainAttrs_list PySem.F.slot_list_append PySem.F.type_list_append mt_append (pv 2) (pa_cons (pv 5) pa_nil))))) pss_nil)
      (pss_one (ps_ret (pe_op op_add (kBM (K := K) (pe_bm PySem.F.plainAttrs_list PySem.F.slot_list_index PySem.F.type_list_index (kLstIx (K := K) (u65 hr)) (pv 2) (pa_cons (pv 5) pa_nil))) pe_int)))))))))), ?_⟩
    walk_at "in"
    walk_at "dl"
    refine x_allL (by assumption) (by walk_at "tm") ?_
    refine ⟨_, rfl, ?_⟩
    refine x_if (fun h => ?_) (fun h => ?_)
    · have e : bt n k bs = .leaf true := by
        cases n with
        | zero => exact congrArg Tr.leaf h
        | succ n => unfold bt; rw [if_pos h]
      rw [e] at hq
      walk_at "dl"
      exact x_r1 (by assumption) hq (by walk_at "tm") 0 rfl ⟨rfl, rfl⟩
    · walk_at "dl"
      refine x_anyL (by assumption) (by walk_at "tm") ?_
      walk_at "dl"
      refine x_if (fun h2 => ?_) (fun h2 => ?_)
      · have h2 : bs.any id = false := by
          rw [Bool.not_eq_true'] at h2
          exact h2
        have e : bt n k bs = .leaf false := by
          cases n with
          | zero => exact congrArg Tr.leaf h
          | succ n => unfold bt; rw [if_neg (by rw [h]; decide), if_neg (by rw [h2]; decide)]
        rw [e] at hq
        walk_at "dl"
        exact x_r1 (by assumption) hq (by walk_at "tm") 0 rfl ⟨rfl, rfl⟩
      · have h2 : bs.any id = true := by
          rw [Bool.not_eq_false'] at h2
          exact h2
        cases n with
        | zero =>
          obtain ⟨b, rfl⟩ := List.length_eq_one_iff.mp hb
          cases b
          · exact absurd h2 (by decide)
          · exact absurd h (by decide)
        | succ n =>
          have e : bt (n + 1) k bs = mk k (bt n (k + 1) (everyB false bs)) (bt n (k + 1) (everyB true bs)) := by
            rw [bt, if_neg (by rw [h]; decide), if_pos h2]
          rw [e] at hq
          have la := half_len (b := false) hb
          have lb := half_len (b := true) hb
          have hta := bt_ht n (k + 1) (everyB false bs)
          have htb0 := bt_ht n (k + 1) (everyB true bs)
          generalize hea : bt n (k + 1) (everyB false bs) = a at *
          generalize heb : bt n (k + 1) (everyB true bs) = b at *
          have hp2 : 2 ^ (n + 1) = 2 ^ n + 2 ^ n := by rw [Nat.pow_succ]; omega
          have w1 := wr_len a o
          have hp3 : 2 ^ a.ht ≤ 2 ^ n := Nat.pow_le_pow_right (by decide) hta
          have ha1 := wr_here a o
          have hb1 := wr_bh a ho
          walk_at "dl"
          refine x_every ?_
          walk_at "dl"
          refine x_everyL (by assumption) (by walk_at "tm") fun q_ H_ S_ => ?_
          rw [show everyB false (bs.map PyData.bool) = (everyB false bs).map .bool from every_map false bs] at S_
          rename Ds _ _ _ _ _ _ _ _ _ => S_
          obtain ⟨M_, S_⟩ := S_.freeze (nd_ne S_)
          walk_at "dl"
          refine x_c1 0 (by assumption) rfl (by walk_at "slt") ⟨n, everyB false bs, k + 1, p, o, rfl, rfl, by omega, la, ho, by omega, rfl⟩ ?_
          rintro _ _ ⟨rfl, rfl⟩ H_ M_ w_ hw S_
          cases hw
          walk_at "dl"
          rw [hea] at *
          refine x_every ?_
          walk_at "dl"
          refine x_everyL (by assumption) (by walk_at "tm") fun q_ H_ S_ => ?_
          rw [show everyB true (bs.map PyData.bool) = (everyB true bs).map .bool from every_map true bs] at S_
          rename Ds _ _ _ _ _ _ _ _ _ => S_
          obtain ⟨M_, S_⟩ := S_.freeze (nd_ne S_)
          walk_at "dl"
          refine x_c1 0 (by assumption) rfl (by walk_at "slt") ⟨n, everyB true bs, k + 1, p, wr a o, rfl, rfl, by omega, lb, hb1, by omega, rfl⟩ ?_
          rintro _ _ ⟨rfl, rfl⟩ H_ M_ w_ hw S_
          cases hw
          walk_at "dl"
          rw [heb] at *
          obtain ⟨q, hq2⟩ := wr_pre b (wr a o)
          have hia : idx (wr b (wr a o)) a = idx (wr a o) a := by rw [hq2]; exact idx_app ha1
          have ha2 : Here (wr b (wr a o)) a := ha1.mono fun _ z => wr_old b z
          have hb2 := wr_here b (wr a o)
          have hb3 := wr_bh b hb1
          rename Ds _ _ _ _ _ _ _ _ _ => S_
          rw [← hia] at S_ ⊢
          refine x_if (fun c => ?_) (fun c => ?_)
          · have hab : a = b := idx_inj ha2 hb2 (of_decide_eq_true c)
            have e2 : wr (mk k a b) o = wr b (wr a o) := by rw [← hab]; exact wr_eq
            have e3 : mk k a b = a := by unfold mk; rw [if_pos hab]
            rw [e2, e3] at hq
            walk_at "dl"
            exact x_r1 (by assumption) hq (by walk_at "tm") 0 rfl ⟨rfl, rfl⟩
          · have hab : a ≠ b := fun z => by
              rw [← z] at c
              exact absurd rfl (of_decide_eq_false c)
            have e3 : mk k a b = .node k a b := by unfold mk; rw [if_neg hab]
            rw [e3] at hq
            have hrow : rowOf (wr b (wr a o)) (.node k a b) = (k, idx (wr b (wr a o)) a, idx (wr b (wr a o)) b) := rfl
            have hmem := row_mem (n := k) hb3 ha2 hb2
            have hin := wr_in (n := k) (a := a) (b := b) ho
            have hout := wr_out (n := k) (a := a) (b := b) (o := o)
            have hidx := row_idx (n := k) (a := a) (b := b) hb3
            have hl2 := wr_len b (wr a o)
            have htb : 2 ^ b.ht ≤ 2 ^ n := Nat.pow_le_pow_right (by decide) htb0
            have hsn := hb3.snoc (n := k) (a := a) (b := b)
            generalize wr b (wr a o) = o2 at *
            walk_at "dl"
            by_cases hm : Tr.node k a b ∈ o2
            · refine z_niO nd_enc (c := (k, idx o2 a, idx o2 b)) 0 (by assumption) rfl (by walk_at "tm") (show 1 ≤ 64 by decide) (memD_true (hmem.mpr hm)) ?_
              walk_at "dl"
              refine x_lixFO 0 (by assumption) rfl ?_
              walk_at "dl"
              refine x_lixO nd_enc (c := (k, idx o2 a, idx o2 b)) 0 (by assumption) rfl (by walk_at "tm") (show 1 ≤ 64 by decide) (fun _ _ => (show 1 ≤ 63 by decide)) (hmem.mpr hm) ?_
              walk_at "dl"
              rw [hin hm] at hq
              rw [← hrow, hidx hm]
              refine x_r1 (by assumption) hq (.i _) 0 rfl ⟨?_, rfl⟩
              show PyData.int _ = PyData.int (2 + _)
              rw [Int.add_comm]
            · refine z_niO nd_enc (c := (k, idx o2 a, idx o2 b)) 0 (by assumption) rfl (by walk_at "tm") (show 1 ≤ 64 by decide) (Bool.eq_false_iff.mpr fun z => hm (hmem.mp (memD_in z))) ?_
              walk_at "dl"
              refine x_appK 0 (by assumption) rfl (by walk_at "tm") (by rw [List.length_map, List.length_map]; exact Nat.lt_of_lt_of_le (by omega : _ < 100000) (by decide)) (by walk_at "set") fun H_ S_ => ?_
              walk_at "dl"
              have h3 := hsn hm ha2 hb2
              have hr2 : rowOf (o2 ++ [Tr.node k a b]) (.node k a b) = rowOf o2 (.node k a b) := by
                show (k, idx (o2 ++ [Tr.node k a b]) a, idx (o2 ++ [Tr.node k a b]) b) = _
                rw [idx_app ha2, idx_app hb2]
                rfl
              have hmem3 : Tr.node k a b ∈ o2 ++ [Tr.node k a b] := List.mem_append_right _ (List.mem_singleton.mpr rfl)
              have hidx3 := row_idx h3 hmem3
              rw [hr2, hrow] at hidx3
              have hrm : (k, idx o2 a, idx o2 b) ∈ rowsOf (o2 ++ [Tr.node k a b]) := by
                rw [rows_snoc hb3 hr2, hrow]
                exact List.mem_append_right _ (List.mem_singleton.mpr rfl)
              have hlst : (rowsOf o2).map ndD ++ [ndD (k, idx o2 a, idx o2 b)] = (rowsOf (o2 ++ [Tr.node k a b])).map ndD := by
                rw [rows_snoc hb3 hr2, hrow, List.map_append]
                rfl
              rename Ds _ _ _ _ _ _ _ _ _ => S_
              rw [show (PyData.tuple [PyData.int k, .int (idx o2 a), .int (idx o2 b)]) = ndD (k, idx o2 a, idx o2 b) from rfl, hlst] at S_
              refine x_lixFO 0 S_ rfl ?_
              walk_at "dl"
              refine x_lixO nd_enc (c := (k, idx o2 a, idx o2 b)) 0 (by assumption) rfl (by walk_at "tm") (show 1 ≤ 64 by decide) (fun _ _ => (show 1 ≤ 63 by decide)) hrm ?_
              walk_at "dl"
              rw [hout hm] at hq
              rw [hidx3]
              refine x_r1 (by assumption) hq (.i _) 0 rfl ⟨?_, rfl⟩
              show PyData.int _ = PyData.int (2 + _)
              rw [Int.add_comm]
end
open Tr
theorem pw5 : ∀ {j : Nat}, j < 5 → atI [PyData.int 1, .int 2, .int 4, .int 8, .int 16] (j : Int) = some (.int ((2 ^ j : Nat) : Int))
  | 0, _ => rfl
  | 1, _ => rfl
  | 2, _ => rfl
  | 3, _ => rfl
  | 4, _ => rfl
  | n + 5, h => absurd h (by omega)
theorem pw6 : ∀ {j : Nat}, j < 6 → atI [PyData.int 1, .int 2, .int 4, .int 8, .int 16, .int 32] (j : Int) = some (.int ((2 ^ j : Nat) : Int))
  | 0, _ => rfl
  | 1, _ => rfl
  | 2, _ => rfl
  | 3, _ => rfl
  | 4, _ => rfl
  | 5, _ => rfl
  | n + 6, h => absurd h (by omega)
theorem pw_le {j : Nat} (h : j < 6) : 2 ^ j ≤ 32 := Nat.pow_le_pow_right (show 0 < 2 by decide) (show j ≤ 5 by omega)
section
variable {P : Program} {w : World} {K : PySem.W.Frag} {mg : Str → Option Value} {base : Heap}
def pTable : Pre := fun ss u post => ∃ (rs : List (List Int)) (m : Nat), ss = [.d (.list (rs.map insD)), .d (.int m)] ∧ u = [] ∧ m ≤ 5 ∧ rs.length ≤ 1000 ∧ (∀ r ∈ rs, r.Sublist (rng m)) ∧ post = pD fun d => ∃ t : Tr, d = canD t ∧ t.Ok ∧ t.Ov (rng m) ∧ ∀ S, t.ev S = famB rs S
theorem c_law_table {f : Addr} {fd : FuncData} (D : Df K mg "_law_table" s_law_table f fd ["rows", "many"]) (z_range : mg "range" = none) (z_any : mg "any" = none) (z_tuple : mg "tuple" = none) (c_law_inside : Cl P w K mg base 1 "_law_inside" (spG K pInside)) (c_law_node : Cl P w K mg base 7 "_law_node" (spG K (pNodL 6))) : Cl P w K mg base 8 "_law_table" (spG K pTable) := by
  refine D.go sc_law_table (pTable) (fun ss u post h => by repeat (first | (obtain ⟨rfl, _⟩ := h; rfl) | obtain ⟨_, h⟩ := h)) fun cdv A outer s H M vs Q E ss u post hr hp S hq => ?_
  obtain ⟨rs, m, rfl, rfl, hm, hrl, hrs, rfl⟩ := hp
  refine ⟨_, (pss_cons (ps_set (i := 2) sc_law_table.nd rfl (.inl rfl) (pe_lst pa_nil))
      (pss_cons (ps_for PassesOwn.never rfl (pi_range1 (by rfl) z_range (pa_cons (pe_op op_pow pe_int pe_int) pa_nil)) (pg_name (i := 3) sc_law_table.nd rfl (.inr rfl)) (pss_cons (ps_set (i := 4) sc_law_table.nd rfl (.inr rfl) (pe_lc (own := [("place", 7)]) (g := gName 7) (by rfl) sc_law_table.nd (pi_range1 (by rfl) z_range (pa_cons (pv 1) pa_nil)) (blkOk_by (own := [("place", 7)]) (N := ["rows", "many", "truth", "code", "members", "nodes", "root", "place", "row"]) (sc := defScope s_law_table) (by decide +kernel)) (fun _ _ _ _ _ => pg_name (i := 7) sc_law_table.nd rfl (.inl rfl)) (fun _ _ _ _ _ => (pts_one (pt_cmpR op_eq (pe_op op_mod (pe_op op_fdiv (pv 3) (pe_ix (ixT (K := K)) (pe_tup (pa_cons pe_int (pa_cons pe_int (pa_cons pe_int (pa_cons pe_int (pa_cons pe_int pa_nil)))))) (pv 7) (fun _ _ => rfl))) pe_int) pe_int (nomark _)))) (fun _ _ _ _ _ => (pv 7))))
      (pss_one (ps_if (pt_cmpR op_lt (pv 3) (pe_ix (ixT (K := K)) (pe_tup (pa_cons pe_int (pa_cons pe_int (pa_cons pe_int (pa_cons pe_int (pa_cons pe_int (pa_cons pe_int pa_nil))))))) (pv 1) (fun _ _ => rfl)) (nomark _)) (pss_one (ps_expr (kBM (K := K) (pe_bm PySem.F.plainAttrs_list PySem.F.slot_list_append PySem.F.type_list_append mt_append (pv 2) (pa_cons (pe_callB (kAny (K := K) rfl) (by rfl) z_any (by decide +kernel) (pa_cons (pe_lc (own := [("row", 8)]) (g := gName 8) (tt := tYes) (by rfl) sc_law_table.nd (kIL (K := K) (pi_list (pv 0))) (blkOk_by (own := [("row", 8)]) (N := ["rows", "many", "truth", "code", "members", "nodes", "root", "place", "row"]) (sc := defScope s_law_table) (by decide +kernel)) (fun _ _ _ _ _ => pg_name (i := 8) sc_law_table.nd rfl (.inl rfl)) (fun _ _ _ _ _ => pts_nil) (fun _ _ _ _ _ => (pc c_law_inside hr (by first | decide | omega) (by rfl) (pa_cons (pv 8) (pa_cons (pv 4) pa_nil))))) pa_nil)) pa_nil))))) pss_nil))))
      (pss_cons (ps_set (i := 5) sc_law_table.nd rfl (.inl rfl) (pe_lst pa_nil))
      (pss_cons (ps_set (i := 6) sc_law_table.nd rfl (.inl rfl) (pc c_law_node hr (by first | decide | omega) (by rfl) (pa_cons (pv 2) (pa_cons pe_int (pa_cons (pv 5) pa_nil)))))
      (pss_one (ps_ret (pe_tup (pa_cons (pe_callTy (call_tupD (K := K)) (by rfl) z_tuple (by decide +kernel) (pa_cons (pv 5) pa_nil)) (pa_cons (pv 6) pa_nil))))))))), ?_⟩
  walk_at "in"
  walk_at "dl"
  rename Addr => p
  have hp2 := pw_le (j := m) (by omega)
  have htl : ∀ i, ((List.range (min i (2 ^ m))).map fun c => famB rs fun p => decide (p ∈ bits m c)).length ≤ 32 := fun i => by
    rw [List.length_map, List.length_range]
    omega
  refine x_forR (fun i ρ u => ρ = [.d (.list (rs.map insD)), .d (.int m), .v (.ref p), .u, .u, .u, .u, .u, .u] ∧ u = [(p, .lst (((List.range (min i (2 ^ m))).map fun c => famB rs fun p => decide (p ∈ bits m c)).map .bool))]) (by assumption) (by decide) (by decide) ⟨rfl, by rw [Nat.zero_min]; rfl⟩ ?_ ?_
  · rintro i ρ1 u1 hi ⟨rfl, rfl⟩ σ1 H1 M1 S1
    have htl := htl i
    generalize htr : ((List.range (min i (2 ^ m))).map fun c => famB rs fun p => decide (p ∈ bits m c)) = tr at *
    walk_at "dl"
    refine x_lc1R (k := 7) (fun j acc w1 => acc = ((rng j).filter fun p => decide ((i : Int) / 2 ^ p.toNat % 2 = 1)).map .int ∧ w1 = [(p, .lst (tr.map .bool))]) (by assumption) (by omega) (by omega) ⟨rfl, rfl⟩ ?_ ?_
    · rintro j acc w1 hj ⟨rfl, rfl⟩ D4 σ4 H4 M4 hrw S4
      have hj5 : j < 5 := by omega
      have hj32 := pw_le (j := j) (by omega)
      have hjp : 0 < 2 ^ j := Nat.pow_pos (by decide)
      have hfl : ((rng j).filter fun p => decide ((i : Int) / 2 ^ p.toNat % 2 = 1)).length ≤ 5 := Nat.le_trans (List.length_filter_le ..) (by rw [rng_len]; omega)
      have htest : decide ((i : Int) / ((2 ^ j : Nat) : Int) % 2 = 1) = decide ((i : Int) / 2 ^ ((j : Nat) : Int).toNat % 2 = 1) := by
        rw [Int.toNat_natCast, Int.natCast_pow]
        rfl
      rename Ds _ _ _ _ _ _ _ _ _ => S_
      simp only [List.set_cons_succ, List.set_cons_zero] at S_
      walk_at "dl"
      refine x_ixT (by assumption) (by walk_at "tm") (pw5 hj5) ?_
      walk_at "dl"
      rw [htest]
      refine x_if (fun h => ?_) (fun h => ?_)
      · walk_at "dl"
        exact x_lcA (by assumption) (by assumption) (by walk_at "tm") (by rw [List.length_map]; exact Nat.lt_of_lt_of_le (by omega : _ < 10) (by decide)) ⟨by rw [rng_succ, List.filter_append, fil_t (p := fun p : Int => decide ((i : Int) / 2 ^ p.toNat % 2 = 1)) h, List.map_append]; rfl, rfl⟩
      · exact x_lcN (by assumption) (by assumption) ⟨by rw [rng_succ, List.filter_append, fil_f (p := fun p : Int => decide ((i : Int) / 2 ^ p.toNat % 2 = 1)) h, List.append_nil], rfl⟩
    · rintro acc w1 ⟨rfl, rfl⟩ D4 H4 M4 S4
      rw [Int.toNat_natCast, show ((rng m).filter fun p => decide ((i : Int) / 2 ^ p.toNat % 2 = 1)) = bits m i from rfl] at S4
      walk_at "dl"
      rename Ds _ _ _ _ _ _ _ _ _ => S_
      obtain ⟨M_, S_⟩ := S_.frz2 (i := 4) rfl List.not_mem_nil
      simp only [List.set_cons_succ, List.set_cons_zero] at S_
      refine x_ixT (by assumption) (by walk_at "tm") (pw6 (show m < 6 by omega)) ?_
      walk_at "dl"
      refine x_if (fun h => ?_) (fun h => ?_)
      · have h : i < 2 ^ m := Int.ofNat_lt.mp (of_decide_eq_true h)
        walk_at "dl"
        refine x_wlcL (vs := [8]) (fun j acc w1 => acc = ((rs.take j).map fun r => r.all fun p => decide (p ∈ bits m i)).map .bool ∧ w1 = [(p, .lst (tr.map .bool))]) (by assumption) (by walk_at "tm") ⟨rfl, rfl⟩ ?_ ?_
        · rintro j d acc w1 hj ⟨rfl, rfl⟩ D5 u5 H5 M5 S5
          obtain ⟨r, hr, rfl⟩ := map_at hj
          have hj2 : j < rs.length := (List.getElem?_eq_some_iff.mp hr).1
          have hrl2 := sub_len (hrs r (List.mem_of_getElem? hr))
          refine x_b1 S5 (by decide) fun σ6 hrw S6 => ?_
          rename Ds _ _ _ _ _ _ _ _ _ => S_
          simp only [uset, List.map_cons, List.map_nil, List.foldr_cons, List.foldr_nil, List.set_cons_succ, List.set_cons_zero] at S_
          walk_at "dl"
          refine x_cD (by assumption) (by walk_at "slt") ⟨r, bits m i, _, .inl rfl, rfl, rfl, by omega, rfl⟩ ?_
          rintro _ rfl H_ M_ S_
          walk_at "dl"
          exact x_lcA (by assumption) (by assumption) (by walk_at "tm") (by rw [List.length_map, List.length_map, List.length_take]; exact Nat.lt_of_lt_of_le (by omega : _ < 1001) (by decide)) ⟨by rw [take_snoc hr, List.map_append, List.map_append]; rfl, rfl⟩
        · rintro acc w1 ⟨rfl, rfl⟩ D5 H5 M5 S5
          rw [show (rs.map insD).length = rs.length from List.length_map .., take_all] at S5
          walk_at "dl"
          refine x_anyO 0 (by assumption) rfl ?_
          rw [show (rs.map fun r => r.all fun p => decide (p ∈ bits m i)).any id = famB rs fun p => decide (p ∈ bits m i) from List.any_map ..]
          walk_at "dl"
          refine x_appK 1 (by assumption) rfl (by walk_at "tm") (by rw [List.length_map]; exact Nat.lt_of_lt_of_le (by omega : _ < 100) (by decide)) (by walk_at "set") fun H_ S_ => ?_
          walk_at "dl"
          rename Ds _ _ _ _ _ _ _ _ _ => S_
          refine Nx.at S_.drop (by walk_at "le") ⟨rfl, ?_⟩
          rw [show min (i + 1) (2 ^ m) = i + 1 by omega, List.range_succ, List.map_append, List.map_append, ← htr, show min i (2 ^ m) = i by omega]
          rfl
      · have h : ¬ i < 2 ^ m := fun z => of_decide_eq_false h (Int.ofNat_lt.mpr z)
        walk_at "dl"
        exact Nx.at (by assumption) (by walk_at "le") ⟨rfl, by rw [show min (i + 1) (2 ^ m) = min i (2 ^ m) by omega, htr]⟩
  · rintro ρ1 u1 ⟨rfl, rfl⟩ σ1 H1 M1 S1
    have e : ((List.range (min (2 ^ Int.toNat 5 : Int).toNat (2 ^ m))).map fun c => famB rs fun p => decide (p ∈ bits m c)) = truthOf rs m := by
      rw [show (2 ^ Int.toNat 5 : Int).toNat = 32 from rfl, show min 32 (2 ^ m) = 2 ^ m by omega]
      rfl
    rw [e] at S1
    rename Ds _ _ _ _ _ _ _ _ _ => S_
    obtain ⟨M_, S_⟩ := S_.frozen (i := 2) rfl List.not_mem_nil
    simp only [List.set_cons_succ, List.set_cons_zero] at S_
    walk_at "dl"
    rename Addr => q
    refine x_c1 0 (by assumption) rfl (by walk_at "slt") ⟨m, truthOf rs m, 0, q, [], rfl, rfl, by omega, by unfold truthOf; rw [List.length_map, List.length_range], Bh.nil, by show 0 + 2 ^ m ≤ 100000; omega, rfl⟩ ?_
    rintro _ _ ⟨rfl, rfl⟩ H_ M_ w_ hw S_
    cases hw
    walk_at "dl"
    exact x_rD (by assumption) hq (by walk_at "tm") ⟨_, rfl, (bt_ok m 0 _).1, bt_ov m 0 _ fun j a b => rng_mem.mpr ⟨a, by omega⟩, truth_ev hrs⟩
end
open Tr
theorem at_last {v : List Int} {z : Int} : atI ((v ++ [z]).map PyData.int) (-1) = some (.int z) := by
  have h : ixN ((v ++ [z]).map PyData.int).length (-1) = some v.length := by
    rw [List.length_map, List.length_append]
    unfold ixN
    simp
    omega
  unfold atI
  rw [h]
  show ((v ++ [z]).map PyData.int)[v.length]? = _
  rw [List.getElem?_map, List.getElem?_append_right (Nat.le_refl _), Nat.sub_self]
  rfl
theorem snoc_cases (u : List Int) : u = [] ∨ ∃ v z, u = v ++ [z] := by
  cases h : u.getLast? with
  | none => exact .inl (List.getLast?_eq_none_iff.mp h)
  | some z =>
    obtain ⟨v, e⟩ := List.getLast?_eq_some_iff.mp h
    exact .inr ⟨v, z, e⟩
theorem lastOk_snoc {v : List Int} {z x : Int} : lastOk (v ++ [z]) x = decide (x > z) := by
  unfold lastOk
  rw [List.getLast?_append]
  rfl
theorem insD_depth {r : List Int} : (insD r).depth ≤ 1 := depth_tuple (n := 0) fun _ _ => Nat.le_refl _
section
variable {P : Program} {w : World} {K : PySem.W.Frag} {mg : Str → Option Value} {base : Heap}
def pSubs : Pre := fun ss u post => ∃ ks : List Int, ss = [.d (insD ks)] ∧ u = [] ∧ Asc ks ∧ ks.length ≤ 10 ∧ post = pO fun od => ∃ F : List (List Int), od = .lst (F.map insD) ∧ F.Pairwise sLt ∧ (∀ a, a ∈ F ↔ a.Sublist ks) ∧ F.length ≤ 1024
theorem c_subsets {f : Addr} {fd : FuncData} (D : Df K mg "_subsets" s_subsets f fd ["numbers"]) (z_len : mg "len" = none) : Cl P w K mg base 1 "_subsets" (spG K pSubs) := by
  refine D.go sc_subsets (pSubs) (fun ss u post h => by repeat (first | (obtain ⟨rfl, _⟩ := h; rfl) | obtain ⟨_, h⟩ := h)) fun cdv A outer s H M vs Q E ss u post hr hp S hq => ?_
  obtain ⟨ks, rfl, rfl, hk, hl, rfl⟩ := hp
  refine ⟨_, (pss_cons (ps_set (i := 1) sc_subsets.nd rfl (.inl rfl) (pe_lst (pa_cons (pe_tup pa_nil) pa_nil)))
      (pss_cons (ps_set (i := 2) sc_subsets.nd rfl (.inl rfl) pe_int)
      (pss_cons (ps_while PassesOwn.never (pt_cmpR op_lt (pv 2) (pe_callB (lenQ (K := K)) (by rfl) z_len PySem.boot_len (pa_cons (pv 1) pa_nil)) (nomark _)) (pss_cons (ps_set (i := 3) sc_subsets.nd rfl (.inr rfl) (pe_ix (ixL (K := K)) (pv 1) (pv 2) (fun _ _ => rfl)))
      (pss_cons (ps_expr (kBM (K := K) (pe_bm PySem.F.plainAttrs_list PySem.F.slot_list_extend PySem.F.type_list_extend mt_extend (pv 1) (pa_cons (pe_lc (own := [("number", 4)]) (g := gName 4) (by rfl) sc_subsets.nd (kIT (K := K) (pi_tup (pv 0))) (blkOk_by (own := [("number", 4)]) (N := ["numbers", "found", "at", "members", "number"]) (sc := defScope s_subsets) (by decide +kernel)) (fun _ _ _ _ _ => pg_name (i := 4) sc_subsets.nd rfl (.inl rfl)) (fun _ _ _ _ _ => (pts_one (PW.pt (pw_or (pt_cmpR (kEqD (K := K) hr.units) (pv 3) (pe_tup pa_nil) (nomark _)) (pw_or1 (pt_cmpR op_gt (pv 4) (pe_ix (ixT (K := K)) (pv 3) (pe_un un_neg pe_int) (fun _ _ => rfl)) (nomark _))))))) (fun _ _ _ _ _ => (pe_op (kCatA (K := K)) (pv 3) (pe_tup (pa_cons (pv 4) pa_nil))))) pa_nil))))
      (pss_one (ps_aug (i := 2) sc_subsets.nd rfl (.inl rfl) pe_int ip_add)))))
      (pss_one (ps_ret (pv 1)))))), ?_⟩
  walk_at "in"
  walk_at "dl"
  rename Addr => p
  have hpw : 2 ^ ks.length ≤ 1024 := Nat.pow_le_pow_right (show 0 < 2 by decide) hl
  refine x_while (fun m ρ u => ∃ (n : Nat) (F : List (List Int)), ρ = [.d (insD ks), .v (.ref p), .d (.int n), .u, .u] ∧ u = [(p, .lst (F.map insD))] ∧ Bfs ks n F ∧ m = 1024 - n) 1024 (by assumption) ⟨0, [[]], rfl, rfl, Bfs.zero ks, rfl⟩ ?_
  rintro m ρ1 u1 ⟨n, F, rfl, rfl, hF, rfl⟩ σ1 H1 M1 S1
  have hFl := hF.len
  walk_at "dl"
  rw [List.length_map]
  refine x_whB (fun c => ?_) fun c => ?_
  · have c : n < F.length := Int.ofNat_lt.mp (of_decide_eq_true c)
    obtain ⟨u, hu⟩ : ∃ u, F[n]? = some u := ⟨_, List.getElem?_eq_getElem c⟩
    have hul : u.length ≤ 10 := Nat.le_trans (hF.sub u (List.mem_of_getElem? hu)).length_le hl
    have hS := hF.step hk hu
    have hSl := hS.len
    walk_at "dl"
    refine x_ixO 0 (by assumption) rfl (at_nat (f := insD) hu) ?_
    walk_at "dl"
    refine x_ext (by assumption) rfl 0 rfl ?_
    walk_at "dl"
    refine x_wlcT (vs := [4]) (fun i acc w1 => acc = (((ks.take i).filter (lastOk u)).map fun n => u ++ [n]).map insD ∧ w1 = [(p, .lst (F.map insD))]) (by assumption) (by walk_at "tm") ⟨rfl, rfl⟩ ?_ ?_
    · rintro i d acc w1 hi ⟨rfl, rfl⟩ D4 u4 H4 M4 S4
      obtain ⟨x, hx, rfl⟩ := map_at hi
      have hal : ((((ks.take i).filter (lastOk u)).map fun n => u ++ [n]).map insD).length < sizeLine := by
        rw [List.length_map, List.length_map]
        exact Nat.lt_of_le_of_lt (Nat.le_trans (List.length_filter_le ..) (by rw [List.length_take]; omega : _ ≤ 10)) (by decide)
      refine x_b1 S4 (by decide) fun σ5 hrw S5 => ?_
      rename Ds _ _ _ _ _ _ _ _ _ => S_
      simp only [uset, List.map_cons, List.map_nil, List.foldr_cons, List.foldr_nil, List.set_cons_succ, List.set_cons_zero] at S_
      walk_at "dl"
      have hne : u.map PyData.int ++ [PyData.int x] = (u ++ [x]).map .int := by rw [List.map_append]; rfl
      refine x_eqX (Enc.tuple Enc.int) (c := u) (d := []) (by assumption) (by walk_at "tm") (by walk_at "tm") (Nat.le_trans insD_depth (by decide)) (by decide) ?_
      have yes : lastOk u x = true → (((ks.take (i + 1)).filter (lastOk u)).map fun n => u ++ [n]).map insD = (((ks.take i).filter (lastOk u)).map fun n => u ++ [n]).map insD ++ [insD (u ++ [x])] := fun h => by
        rw [take_snoc hx, List.filter_append, fil_t (p := lastOk u) h, List.map_append, List.map_append]
        rfl
      have no : lastOk u x = false → (((ks.take (i + 1)).filter (lastOk u)).map fun n => u ++ [n]).map insD = (((ks.take i).filter (lastOk u)).map fun n => u ++ [n]).map insD := fun h => by
        rw [take_snoc hx, List.filter_append, fil_f (p := lastOk u) h, List.append_nil]
      rcases snoc_cases u with rfl | ⟨v, z, rfl⟩
      · walk_at "dl"
        refine x_catT (by assumption) (by walk_at "tm") (by walk_at "tm") (by rw [List.length_map]; exact Nat.le_trans (by show _ + 1 ≤ 20; omega) (by decide)) fun u_ H_ M_ S_ => ?_
        walk_at "dl"
        rename Ds _ _ _ _ _ _ _ _ _ => S_
        rw [hne] at S_
        exact x_lcA (by assumption) (by assumption) (by walk_at "tm") hal ⟨(yes rfl).symm, rfl⟩
      · rw [decide_eq_false (show ¬ v ++ [z] = [] from fun e => by cases v <;> cases e)]
        walk_at "dl"
        refine x_ixT (by assumption) (by walk_at "tm") at_last ?_
        walk_at "dl"
        rw [← lastOk_snoc]
        refine x_if (fun h => ?_) (fun h => ?_)
        · walk_at "dl"
          refine x_catT (by assumption) (by walk_at "tm") (by walk_at "tm") (by rw [List.length_map]; exact Nat.le_trans (by show _ + 1 ≤ 20; omega) (by decide)) fun u_ H_ M_ S_ => ?_
          walk_at "dl"
          rename Ds _ _ _ _ _ _ _ _ _ => S_
          rw [hne] at S_
          exact x_lcA (by assumption) (by assumption) (by walk_at "tm") hal ⟨(yes h).symm, rfl⟩
        · exact x_lcN (by assumption) (by assumption) ⟨(no h).symm, rfl⟩
    · rintro acc w1 ⟨rfl, rfl⟩ D4 H4 M4 S4
      rw [show (ks.map PyData.int).length = ks.length from List.length_map .., take_all] at S4
      walk_at "dl"
      refine x_extK 1 0 (by assumption) rfl rfl (by rw [List.length_map, List.length_map]; show F.length + (kids ks u).length ≤ sizeLine; rw [List.length_append] at hSl; exact Nat.le_trans (Nat.le_trans hSl hpw) (by decide)) (by walk_at "set") fun H_ S_ => ?_
      rw [show F.map insD ++ ((ks.filter (lastOk u)).map fun n => u ++ [n]).map insD = (F ++ kids ks u).map insD from (List.map_append ..).symm] at S_
      walk_at "dl"
      rename Ds _ _ _ _ _ _ _ _ _ => S_
      rw [show ((n : Nat) : Int) + 1 = ((n + 1 : Nat) : Int) from rfl] at S_
      exact Wx.at (1024 - (n + 1)) S_.drop (by walk_at "le") (by omega) ⟨n + 1, F ++ kids ks u, rfl, rfl, hS, rfl⟩
  · have c : ¬ n < F.length := fun z => of_decide_eq_false c (Int.ofNat_lt.mpr z)
    have e : n = F.length := Nat.le_antisymm hF.le (Nat.le_of_not_lt c)
    subst e
    walk_at "dl"
    exact x_rO (by assumption) hq 0 rfl ⟨F, rfl, hF.up, hF.all hk, Nat.le_trans hFl hpw⟩
end
open Tr
/-! the numbers of a tree -/
def Tr.has (k : Int) : Tr → Bool
  | .leaf _ => false
  | .node n a b => decide (n = k) || (a.has k || b.has k)
theorem has_node {k n : Int} {a b : Tr} : (Tr.node n a b).has k = true ↔ n = k ∨ a.has k = true ∨ b.has k = true := by
  show (decide (n = k) || (a.has k || b.has k)) = true ↔ _
  rw [Bool.or_eq_true, Bool.or_eq_true, decide_eq_true_iff]
theorem has_no {k : Int} {c : Bool} {S : Int → Bool} : ∀ {t : Tr}, t.has k = false → t.ev (put S k c) = t.ev S
  | .leaf _, _ => rfl
  | .node n a b, h => by
    have h1 : ¬ (n = k ∨ a.has k = true ∨ b.has k = true) := fun z => by rw [has_node.mpr z] at h; cases h
    have ha : a.has k = false := Bool.eq_false_iff.mpr fun z => h1 (.inr (.inl z))
    have hb : b.has k = false := Bool.eq_false_iff.mpr fun z => h1 (.inr (.inr z))
    show (if put S k c n = true then b.ev (put S k c) else a.ev (put S k c)) = if S n = true then b.ev S else a.ev S
    rw [put_ne (fun z => h1 (.inl z)), has_no ha, has_no hb]
theorem has_ab {m k : Int} : ∀ {t : Tr}, t.Ok → t.Ab m → t.has k = true → m < k
  | .leaf _, _, _, h => nomatch h
  | .node n a b, ho, h, hk => by
    have h : m < n := h
    rcases has_node.mp hk with e | e | e
    · omega
    · have := has_ab (t := a) ho.1 ho.2.2.2.1 e
      omega
    · have := has_ab (t := b) ho.2.1 ho.2.2.2.2 e
      omega
theorem has_dep {k : Int} : ∀ {t : Tr}, t.Ok → t.has k = true → ∃ S, t.ev (put S k false) ≠ t.ev (put S k true)
  | .leaf _, _, h => nomatch h
  | .node n a b, ho, h => by
    have sw : ∀ (S : Int → Bool) (c d : Bool), n < k → put (put S n c) k d n = c := fun S c d lt => by rw [put_ne (by omega), put_at]
    have cm : ∀ (S : Int → Bool) (c d : Bool) {t : Tr}, t.Ok → t.Ab n → t.ev (put (put S n c) k d) = t.ev (put S k d) := fun S c d t o a => by
      refine ev_above o a fun x hx => ?_
      by_cases e : x = k
      · rw [e, put_at, put_at]
      · rw [put_ne e, put_ne e, put_ne (by omega)]
    rcases has_node.mp h with e | e | e
    · subst e
      exact matters ho
    · obtain ⟨S, hS⟩ := has_dep (t := a) ho.1 e
      have lt := has_ab ho.1 ho.2.2.2.1 e
      refine ⟨put S n false, ?_⟩
      show (if put (put S n false) k false n = true then b.ev _ else a.ev _) ≠ (if put (put S n false) k true n = true then b.ev _ else a.ev _)
      rw [sw _ _ _ lt, sw _ _ _ lt, if_neg (by decide), if_neg (by decide), cm _ _ _ ho.1 ho.2.2.2.1, cm _ _ _ ho.1 ho.2.2.2.1]
      exact hS
    · obtain ⟨S, hS⟩ := has_dep (t := b) ho.2.1 e
      have lt := has_ab ho.2.1 ho.2.2.2.2 e
      refine ⟨put S n true, ?_⟩
      show (if put (put S n true) k false n = true then b.ev _ else a.ev _) ≠ (if put (put S n true) k true n = true then b.ev _ else a.ev _)
      rw [sw _ _ _ lt, sw _ _ _ lt, if_pos rfl, if_pos rfl, cm _ _ _ ho.2.1 ho.2.2.2.2, cm _ _ _ ho.2.1 ho.2.2.2.2]
      exact hS
theorem has_ov {k : Int} {vs : List Int} : ∀ {t : Tr}, t.Ov vs → t.has k = true → k ∈ vs
  | .leaf _, _, h => nomatch h
  | .node n a b, ho, h => by
    rcases has_node.mp h with e | e | e
    · exact e ▸ ho.1
    · exact has_ov (t := a) ho.2.1 e
    · exact has_ov (t := b) ho.2.2 e
/-- all numbers of a tree's table -/
theorem has_here {o : List Tr} {k : Int} (hb : Bh o) : ∀ {t : Tr}, Here o t → t.has k = true → k ∈ (rowsOf o).map (·.1)
  | .leaf _, _, h => nomatch h
  | .node n a b, hh, h => by
    have hm : Tr.node n a b ∈ o := hh
    obtain ⟨i, hi⟩ := List.getElem?_of_mem hm
    obtain ⟨_, _, _, e, ha, hb2⟩ := hb.bh i _ hi
    cases e
    have up : ∀ {x : Tr}, Here (o.take i) x → Here o x := fun h => h.mono fun _ h => List.mem_of_mem_take h
    rcases has_node.mp h with e | e | e
    · rw [List.map_map]
      exact List.mem_map.mpr ⟨_, hm, e⟩
    · exact has_here hb (up ha) e
    · exact has_here hb (up hb2) e
theorem has_rows {t : Tr} {k : Int} : k ∈ (rowsOf (wr t [])).map (·.1) ↔ t.has k = true := by
  have hb := wr_bh t Bh.nil
  constructor
  · intro h
    rw [List.map_map] at h
    obtain ⟨x, hx, e⟩ := List.mem_map.mp h
    have hz := wr_all (Z := fun x => ∀ k, x.has k = true → t.has k = true) (fun n a b h => ⟨fun k q => h k (has_node.mpr (.inr (.inl q))), fun k q => h k (has_node.mpr (.inr (.inr q)))⟩) t (fun _ q => q) (o := []) (fun _ z => nomatch z) x hx
    obtain ⟨i, hi⟩ := List.getElem?_of_mem hx
    obtain ⟨n, a, b, rfl, _⟩ := hb.bh i _ hi
    exact hz k (has_node.mpr (.inl e))
  · exact has_here hb (wr_here t [])
theorem up_ext : ∀ {a b : List Int}, a.Pairwise (· < ·) → b.Pairwise (· < ·) → (∀ x, x ∈ a ↔ x ∈ b) → a = b
  | [], [], _, _, _ => rfl
  | [], y :: _, _, _, h => nomatch (h y).mpr (List.mem_cons_self ..)
  | x :: _, [], _, _, h => nomatch (h x).mp (List.mem_cons_self ..)
  | x :: xs, y :: ys, ha, hb, h => by
    obtain ⟨a1, a2⟩ := List.pairwise_cons.mp ha
    obtain ⟨b1, b2⟩ := List.pairwise_cons.mp hb
    have e : x = y := by
      rcases List.mem_cons.mp ((h x).mp (List.mem_cons_self ..)) with e | e
      · exact e
      · rcases List.mem_cons.mp ((h y).mpr (List.mem_cons_self ..)) with e' | e'
        · exact e'.symm
        · have := b1 _ e
          have := a1 _ e'
          omega
    subst e
    rw [up_ext a2 b2 fun z => ⟨fun hz => ((List.mem_cons.mp ((h z).mp (List.mem_cons_of_mem _ hz))).resolve_left fun e => by have := a1 _ hz; omega), fun hz => ((List.mem_cons.mp ((h z).mpr (List.mem_cons_of_mem _ hz))).resolve_left fun e => by have := b1 _ hz; omega)⟩]
section
variable {P : Program} {w : World} {K : PySem.W.Frag} {mg : Str → Option Value} {base : Heap}
def pAsks : Pre := fun ss u post => ∃ t : Tr, ss = [.d (canD t)] ∧ u = [] ∧ (rowsOf (wr t [])).length < 64 ∧ post = pD fun d => ∃ ks : List Int, d = .tuple (ks.map .int) ∧ ks.Pairwise (· < ·) ∧ ∀ k, k ∈ ks ↔ t.has k = true
theorem c_asks {f : Addr} {fd : FuncData} (D : Df K mg "asks" s_asks f fd ["condition"]) (z_tuple : mg "tuple" = none) (z_sorted : mg "sorted" = none) : Cl P w K mg base 1 "asks" (spG K pAsks) := by
  refine D.go sc_asks (pAsks) (fun ss u post h => by repeat (first | (obtain ⟨rfl, _⟩ := h; rfl) | obtain ⟨_, h⟩ := h)) fun cdv A outer s H M vs Q E ss u post hr hp S hq => ?_
  obtain ⟨t, rfl, rfl, hl, rfl⟩ := hp
  refine ⟨_, (pss_cons (ps_asg (pv 0) (kGT (K := K) (n := 2) (pg_tup (by rfl) (pgs_cons (pg_name (i := 1) sc_asks.nd rfl (.inl rfl)) (pgs_cons (pg_name (i := 2) sc_asks.nd rfl (.inl rfl)) pgs_nil)))))
      (pss_one (ps_ret (pe_callTy (call_tupD (K := K)) (by rfl) z_tuple (by decide +kernel) (pa_cons (pe_callB (kSortSet (W := w) rfl) (by rfl) z_sorted (by decide +kernel) (pa_cons (kSt (W := w) (pe_st (own := [("row", 3)]) (g := gName 3) (by rfl) sc_asks.nd (kIT (K := K) (pi_tup (pv 1))) (blkOk_by (own := [("row", 3)]) (N := ["condition", "nodes", "_", "row"]) (sc := defScope s_asks) (by decide +kernel)) (fun _ _ _ _ _ => (pg_name (i := 3) sc_asks.nd rfl (.inl rfl))) (fun _ _ _ _ _ => (pe_ix (ixT (K := K)) (pv 3) pe_int (fun _ _ => rfl))))) pa_nil)) pa_nil))))), ?_⟩
  walk_at "in"
  rename Ds _ _ _ _ _ _ _ _ _ => S_
  simp only [canD] at S_
  have hmem := fun k => has_rows (t := t) (k := k)
  generalize rowsOf (wr t []) = rs at *
  walk_at "dl"
  refine x_stT ?_
  walk_at "dl"
  refine x_st1T (k := 3) (fun i F n w1 => (∀ k, F k = true ↔ k ∈ (rs.take i).map (·.1)) ∧ n ≤ i ∧ w1 = []) (by assumption) (by walk_at "tm") ⟨fun k => ⟨fun z => (by cases z), fun z => (by rw [List.take_zero] at z; cases z)⟩, Nat.le_refl _, rfl⟩ ?_ ?_
  · rintro i d F n w1 hi ⟨hF, hn, rfl⟩ Z σ1 H1 M1 hrw S1
    obtain ⟨nd, hnd, rfl⟩ := map_at hi
    have hi2 : i < rs.length := (List.getElem?_eq_some_iff.mp hnd).1
    rename Ds _ _ _ _ _ _ _ _ _ => S_
    simp only [List.set_cons_succ, List.set_cons_zero] at S_
    walk_at "dl"
    refine x_stA (by assumption) (by assumption) (Nat.lt_of_lt_of_le (by omega : n + 1 < 66) (by decide)) ⟨fun k => ?_, by split <;> omega, rfl⟩
    rw [take_snoc hnd, List.map_append, List.mem_append, Bool.or_eq_true, decide_eq_true_iff, hF]
    exact or_congr Iff.rfl ⟨fun e => List.mem_singleton.mpr e, fun e => List.mem_singleton.mp e⟩
  · rintro F n w1 ⟨hF, hn, rfl⟩ Z H1 M1 S1
    rw [show (rs.map ndD).length = rs.length from List.length_map ..] at hF hn
    rw [take_all] at hF
    walk_at "dl"
    refine x_sortS 0 (by assumption) rfl (by omega) fun ks l H2 h1 h2 h3 S2 => ?_
    walk_at "dl"
    exact x_rD (by assumption) hq (by walk_at "tm") ⟨ks, rfl, h1, fun k => by rw [h2, hF, hmem]⟩
end
open Tr
section
variable {P : Program} {w : World} {K : PySem.W.Frag} {mg : Str → Option Value} {base : Heap}
theorem getElem?_idxOf {α : Type} [DecidableEq α] {o : List α} {x : α} (h : x ∈ o) : o[o.idxOf x]? = some x := by
  rw [List.getElem?_eq_getElem (List.idxOf_lt_length_of_mem h), List.getElem_idxOf]
def pHolds : Pre := fun ss u post => ∃ (t : Tr) (ks : List Int), ss = [.d (canD t), .d (.tuple (ks.map .int))] ∧ u = [] ∧ post = pD fun d => d = .bool (t.ev fun k => decide (k ∈ ks))
theorem c_holds {t_A t_F : Tok} {f : Addr} {fd : FuncData} (D : Df K mg "holds" s_holds f fd ["condition", "members"]) (m_ALWAYS : mg "ALWAYS" = some (.int K_ALWAYS t_A)) (m_FIRST_NODE : mg "FIRST_NODE" = some (.int K_FIRST_NODE t_F)) : Cl P w K mg base 1 "holds" (spG K pHolds) := by
  refine D.go sc_holds (pHolds) (fun ss u post h => by repeat (first | (obtain ⟨rfl, _⟩ := h; rfl) | obtain ⟨_, h⟩ := h)) fun cdv A outer s H M vs Q E ss u post hr hp S hq => ?_
  obtain ⟨t, ks, rfl, rfl, rfl⟩ := hp
  refine ⟨_, (pss_cons (ps_asg (pv 0) (kGT (K := K) (n := 2) (pg_tup (by rfl) (pgs_cons (pg_name (i := 2) sc_holds.nd rfl (.inl rfl)) (pgs_cons (pg_name (i := 3) sc_holds.nd rfl (.inl rfl)) pgs_nil)))))
      (pss_cons (ps_while PassesOwn.never (pt_cmpR op_ge (pv 3) (pe_glob (v := .int K_FIRST_NODE) (by rfl) m_FIRST_NODE ⟨_, rfl⟩) (nomark _)) (pss_cons (ps_asg (pe_ix (ixT (K := K)) (pv 2) (pe_op op_sub (pv 3) (pe_glob (v := .int K_FIRST_NODE) (by rfl) m_FIRST_NODE ⟨_, rfl⟩)) (fun _ _ => rfl)) (kGT (K := K) (n := 3) (pg_tup (by rfl) (pgs_cons (pg_name (i := 4) sc_holds.nd rfl (.inl rfl)) (pgs_cons (pg_name (i := 5) sc_holds.nd rfl (.inl rfl)) (pgs_cons (pg_name (i := 6) sc_holds.nd rfl (.inl rfl)) pgs_nil))))))
      (pss_one (ps_set (i := 3) sc_holds.nd rfl (.inl rfl) (pe_ifExp (pt_cmpR (inD (K := K)) (pv 4) (pv 1) rfl) (pv 6) (pv 5))))))
      (pss_one (ps_ret (pe_cmpR op_eq (pv 3) (pe_glob (v := .int K_ALWAYS) (by rfl) m_ALWAYS ⟨_, rfl⟩) (nomark _)))))), ?_⟩
  walk_at "in"
  rename Ds _ _ _ _ _ _ _ _ _ => S_
  simp only [canD] at S_
  have hb := wr_bh t Bh.nil
  have hhere := wr_here t []
  generalize wr t [] = o at *
  walk_at "dl"
  refine x_while (fun m ρ u => u = [] ∧ ∃ t' : Tr, ρ = [.d (.tuple [.tuple ((rowsOf o).map ndD), .int (idx o t)]), .d (.tuple (ks.map .int)), .d (.tuple ((rowsOf o).map ndD)), .d (.int (idx o t')), .u, .u, .u] ∧ Here o t' ∧ t'.ev (fun k => decide (k ∈ ks)) = t.ev (fun k => decide (k ∈ ks)) ∧ m = t'.sz) _ (by assumption) ⟨rfl, t, rfl, hhere, rfl, rfl⟩ ?_
  rintro m ρ1 u1 ⟨rfl, t', rfl, hh, he, rfl⟩ σ1 H1 M1 S1
  walk_at "dl"
  refine x_whB (fun c => ?_) fun c => ?_
  · have c := of_decide_eq_true c
    cases t' with
    | leaf b =>
      have c : (2 : Int) ≤ if b = true then 1 else 0 := c
      cases b <;> exact absurd c (by decide)
    | node n a b =>
      have hm : Tr.node n a b ∈ o := hh
      obtain ⟨_, _, _, e, ha, hb2⟩ := hb.bh _ _ (getElem?_idxOf hm)
      cases e
      have hat : atI ((rowsOf o).map ndD) (idx o (.node n a b) - 2) = some (ndD (rowOf o (.node n a b))) := by
        show atI _ (2 + ((o.idxOf (Tr.node n a b) : Nat) : Int) - 2) = _
        rw [show (2 : Int) + ((o.idxOf (Tr.node n a b) : Nat) : Int) - 2 = ((o.idxOf (Tr.node n a b) : Nat) : Int) by omega]
        refine at_nat ?_
        rw [List.getElem?_map, getElem?_idxOf hm]
        rfl
      have hlt : (Tr.node n a b).sz = a.sz + b.sz + 1 := rfl
      have hev : (Tr.node n a b).ev (fun k => decide (k ∈ ks)) = if decide (n ∈ ks) = true then b.ev (fun k => decide (k ∈ ks)) else a.ev (fun k => decide (k ∈ ks)) := rfl
      have hl : ∀ {x : Tr}, Here (o.take (o.idxOf (Tr.node n a b))) x → Here o x := fun h => h.mono fun _ h => List.mem_of_mem_take h
      walk_at "dl"
      refine x_ixT (by assumption) (by walk_at "tm") hat ?_
      walk_at "dl"
      rename Ds _ _ _ _ _ _ _ _ _ => S_
      simp only [Tr.rowOf] at S_
      walk_at "dl"
      refine x_if (fun h1 => ?_) (fun h1 => ?_)
      · have h1 : n ∈ ks := of_decide_eq_true h1
        walk_at "dl"
        exact Wx.at (b.sz) (by assumption) (by walk_at "le") (by omega) ⟨rfl, b, rfl, hl hb2, by rw [← he, hev, if_pos (decide_eq_true h1)], rfl⟩
      · have h1 : ¬ n ∈ ks := of_decide_eq_false h1
        walk_at "dl"
        exact Wx.at (a.sz) (by assumption) (by walk_at "le") (by omega) ⟨rfl, a, rfl, hl ha, by rw [← he, hev, if_neg (fun z => h1 (of_decide_eq_true z))], rfl⟩
  · have c := of_decide_eq_false c
    walk_at "dl"
    cases t' with
    | node n a b =>
      have c : ¬ (2 : Int) ≤ 2 + ((o.idxOf (Tr.node n a b) : Nat) : Int) := c
      exact absurd c (by omega)
    | leaf b =>
      have he : b = _ := he
      exact x_rD (by assumption) hq (by walk_at "tm") (by rw [← he]; cases b <;> rfl)
end
open Tr
/-- a least set for which the tree says yes -/
def MinT (t : Tr) (m : List Int) : Prop := Asc m ∧ (∀ x ∈ m, t.has x = true) ∧ t.ev (fun k => decide (k ∈ m)) = true ∧ ∀ y, Asc y → (∀ x ∈ y, x ∈ m) → t.ev (fun k => decide (k ∈ y)) = true → y = m
theorem has_le {t : Tr} {vs ks : List Int} (hv : t.Ov vs) (hk : Asc ks) (h : ∀ k, k ∈ ks ↔ t.has k = true) : ks.length ≤ vs.length :=
  nodup_le (hk.imp fun {a b} q e => by omega) fun x hx => has_ov hv ((h x).mp hx)
theorem rows_small {t : Tr} (h : t.ht ≤ 5) : (rowsOf (wr t [])).length < 64 := by
  have h1 := wr_len t []
  have h2 : 2 ^ t.ht ≤ 2 ^ 5 := Nat.pow_le_pow_right (by decide) h
  rw [List.length_map]
  have : ([] : List Tr).length = 0 := rfl
  omega
open Tr
theorem ev_has {S S' : Int → Bool} : ∀ {t : Tr}, (∀ k, t.has k = true → S k = S' k) → t.ev S = t.ev S'
  | .leaf _, _ => rfl
  | .node n a b, h => by
    show (if S n = true then b.ev S else a.ev S) = if S' n = true then b.ev S' else a.ev S'
    rw [h n (has_node.mpr (.inl rfl)), ev_has (t := a) fun k hk => h k (has_node.mpr (.inr (.inl hk))), ev_has (t := b) fun k hk => h k (has_node.mpr (.inr (.inr hk)))]
open Tr
section
variable {P : Program} {w : World} {K : PySem.W.Frag} {mg : Str → Option Value} {base : Heap}
def pWo : Pre := fun ss u post => ∃ a b : List Int, ss = [.d (insD a), .d (insD b)] ∧ u = [] ∧ a.length ≤ 1000 ∧ post = pD fun d => d = insD (wo a b)
theorem c_without {f : Addr} {fd : FuncData} (D : Df K mg "_without" s_without f fd ["members", "removed"]) (z_tuple : mg "tuple" = none) : Cl P w K mg base 1 "_without" (spG K pWo) := by
  refine D.go sc_without (pWo) (fun ss u post h => by repeat (first | (obtain ⟨rfl, _⟩ := h; rfl) | obtain ⟨_, h⟩ := h)) fun cdv A outer s H M vs Q E ss u post hr hp S hq => ?_
  obtain ⟨a, b, rfl, rfl, ha, rfl⟩ := hp
  refine ⟨_, (pss_one (ps_ret (pe_callTy (call_tupD (K := K)) (by rfl) z_tuple (by decide +kernel) (pa_cons (pe_lc (own := [("number", 2)]) (g := gName 2) (by rfl) sc_without.nd (kIT (K := K) (pi_tup (pv 0))) (blkOk_by (own := [("number", 2)]) (N := ["members", "removed", "number"]) (sc := defScope s_without) (by decide +kernel)) (fun _ _ _ _ _ => pg_name (i := 2) sc_without.nd rfl (.inl rfl)) (fun _ _ _ _ _ => (pts_one (pt_cmpR (notInD (K := K)) (pv 2) (pv 1) rfl))) (fun _ _ _ _ _ => (pv 2))) pa_nil)))), ?_⟩
  walk_at "in"
  walk_at "dl"
  refine x_wlcT (vs := [2]) (fun i acc w1 => acc = ((a.take i).filter fun n => !decide (n ∈ b)).map .int ∧ w1 = []) (by assumption) (by walk_at "tm") ⟨rfl, rfl⟩ ?_ ?_
  · rintro i d acc w1 hi ⟨rfl, rfl⟩ D4 u4 H4 M4 S4
    obtain ⟨x, hx, rfl⟩ := map_at hi
    have hfl : ((a.take i).filter fun n => !decide (n ∈ b)).length ≤ 1000 := Nat.le_trans (List.length_filter_le ..) (by rw [List.length_take]; omega)
    refine x_b1 S4 (by decide) fun σ5 hrw S5 => ?_
    rename Ds _ _ _ _ _ _ _ _ _ => S_
    simp only [uset, List.map_cons, List.map_nil, List.foldr_cons, List.foldr_nil, List.set_cons_succ, List.set_cons_zero] at S_
    walk_at "dl"
    refine x_if (fun h => ?_) (fun h => ?_)
    · walk_at "dl"
      exact x_lcA (by assumption) (by assumption) (by walk_at "tm") (by rw [List.length_map]; exact Nat.lt_of_lt_of_le (by omega : _ < 1001) (by decide)) ⟨by rw [take_snoc hx, List.filter_append, fil_t (p := fun n : Int => !decide (n ∈ b)) h, List.map_append]; rfl, rfl⟩
    · exact x_lcN (by assumption) (by assumption) ⟨by rw [take_snoc hx, List.filter_append, fil_f (p := fun n : Int => !decide (n ∈ b)) h, List.append_nil], rfl⟩
  · rintro acc w1 ⟨rfl, rfl⟩ D4 H4 M4 S4
    rw [show (a.map PyData.int).length = a.length from List.length_map .., take_all] at S4
    walk_at "dl"
    exact x_rD (by assumption) hq (by walk_at "tm") rfl
def pConc : Pre := fun ss u post => ∃ (t : Tr) (vs tk : List Int), ss = [.d (canD t), .d (insD tk)] ∧ u = [] ∧ t.ht ≤ 5 ∧ t.Ov vs ∧ vs.length ≤ 10 ∧ post = pD fun d => ∃ ks : List Int, d = insD ks ∧ Asc ks ∧ (∀ k, k ∈ ks ↔ t.has k = true ∧ k ∈ tk) ∧ ks.length ≤ 10
theorem c_concerned {f : Addr} {fd : FuncData} (D : Df K mg "_concerned" s_concerned f fd ["condition", "taken"]) (z_tuple : mg "tuple" = none) (c_asks : Cl P w K mg base 1 "asks" (spG K pAsks)) : Cl P w K mg base 2 "_concerned" (spG K pConc) := by
  refine D.go sc_concerned (pConc) (fun ss u post h => by repeat (first | (obtain ⟨rfl, _⟩ := h; rfl) | obtain ⟨_, h⟩ := h)) fun cdv A outer s H M vs Q E ss u post hr hp S hq => ?_
  obtain ⟨t, vs, tk, rfl, rfl, hht, hov, hvl, rfl⟩ := hp
  refine ⟨_, (pss_one (ps_ret (pe_callTy (call_tupD (K := K)) (by rfl) z_tuple (by decide +kernel) (pa_cons (pe_lc (own := [("axiom", 2)]) (g := gName 2) (by rfl) sc_concerned.nd (kIT (K := K) (pi_tup (pc c_asks hr (by first | decide | omega) (by rfl) (pa_cons (pv 0) pa_nil)))) (blkOk_by (own := [("axiom", 2)]) (N := ["condition", "taken", "axiom"]) (sc := defScope s_concerned) (by decide +kernel)) (fun _ _ _ _ _ => pg_name (i := 2) sc_concerned.nd rfl (.inl rfl)) (fun _ _ _ _ _ => (pts_one (pt_cmpR (inD (K := K)) (pv 2) (pv 1) rfl))) (fun _ _ _ _ _ => (pv 2))) pa_nil)))), ?_⟩
  walk_at "in"
  walk_at "dl"
  refine x_cD (by assumption) (by walk_at "slt") ⟨t, rfl, rfl, rows_small hht, rfl⟩ ?_
  rintro _ ⟨ks, rfl, hk, hks⟩ H_ M_ S_
  walk_at "dl"
  have hkl := has_le hov hk hks
  refine x_wlcT (vs := [2]) (fun i acc w1 => acc = ((ks.take i).filter fun n => decide (n ∈ tk)).map .int ∧ w1 = []) (by assumption) (by walk_at "tm") ⟨rfl, rfl⟩ ?_ ?_
  · rintro i d acc w1 hi ⟨rfl, rfl⟩ D4 u4 H4 M4 S4
    obtain ⟨x, hx, rfl⟩ := map_at hi
    have hfl : ((ks.take i).filter fun n => decide (n ∈ tk)).length ≤ 10 := Nat.le_trans (List.length_filter_le ..) (by rw [List.length_take]; omega)
    refine x_b1 S4 (by decide) fun σ5 hrw S5 => ?_
    rename Ds _ _ _ _ _ _ _ _ _ => S_
    simp only [uset, List.map_cons, List.map_nil, List.foldr_cons, List.foldr_nil, List.set_cons_succ, List.set_cons_zero] at S_
    walk_at "dl"
    refine x_if (fun h => ?_) (fun h => ?_)
    · walk_at "dl"
      exact x_lcA (by assumption) (by assumption) (by walk_at "tm") (by rw [List.length_map]; exact Nat.lt_of_lt_of_le (by omega : _ < 1001) (by decide)) ⟨by rw [take_snoc hx, List.filter_append, fil_t (p := fun n : Int => decide (n ∈ tk)) h, List.map_append]; rfl, rfl⟩
    · exact x_lcN (by assumption) (by assumption) ⟨by rw [take_snoc hx, List.filter_append, fil_f (p := fun n : Int => decide (n ∈ tk)) h, List.append_nil], rfl⟩
  · rintro acc w1 ⟨rfl, rfl⟩ D4 H4 M4 S4
    rw [show (ks.map PyData.int).length = ks.length from List.length_map .., take_all] at S4
    walk_at "dl"
    exact x_rD (by assumption) hq (by walk_at "tm") ⟨ks.filter fun n => decide (n ∈ tk), rfl, hk.filter _, fun k => by rw [List.mem_filter, decide_eq_true_iff, hks], Nat.le_trans (List.length_filter_le ..) (by omega)⟩
end
theorem two_pow {x y a b c : Nat} (hx : x ≤ 2 ^ a) (hy : y ≤ 2 ^ b) (h : a + b ≤ c) : x * y ≤ 2 ^ c := Nat.le_trans (Nat.mul_le_mul hx hy) (by rw [← Nat.pow_add]; exact Nat.pow_le_pow_right (by decide) h)
section
variable {P : Program} {w : World} {K : PySem.W.Frag} {mg : Str → Option Value} {base : Heap}
def fracD (a b : Int) : PyData := .tuple [.int (a / (Nat.gcd a.natAbs b.natAbs : Nat)), .int (b / (Nat.gcd a.natAbs b.natAbs : Nat))]
def pFrac : Pre := fun ss u post => ∃ a b : Int, ss = [.d (.int a), .d (.int b)] ∧ u = [] ∧ 0 < b ∧ b.natAbs < 2 ^ 200 ∧ post = pD fun d => d = fracD a b
theorem c_fraction {f : Addr} {fd : FuncData} (D : Df K mg "_fraction" s_fraction f fd ["numerator", "denominator"]) (m_gcd : mg "gcd" = some (.builtin "math.gcd")) : Cl P w K mg base 1 "_fraction" (spG K pFrac) := by
  refine D.go sc_fraction (pFrac) (fun ss u post h => by repeat (first | (obtain ⟨rfl, _⟩ := h; rfl) | obtain ⟨_, h⟩ := h)) fun cdv A outer s H M vs Q E ss u post hr hp S hq => ?_
  obtain ⟨a, b, rfl, rfl, hb, hb3, rfl⟩ := hp
  refine ⟨_, (pss_cons (ps_set (i := 2) sc_fraction.nd rfl (.inl rfl) (pe_callBfun cr_gcd (by rfl) m_gcd (pa_cons (pv 0) (pa_cons (pv 1) pa_nil))))
      (pss_one (ps_ret (pe_tup (pa_cons (pe_op op_fdivW (pv 0) (pv 2)) (pa_cons (pe_op op_fdivW (pv 1) (pv 2)) pa_nil)))))), ?_⟩
  walk_at "in"
  walk_at "dl"
  refine ⟨a, b, rfl, ?_⟩
  have hg : (0 : Int) < (Nat.gcd a.natAbs b.natAbs : Nat) := by
    have := Nat.gcd_pos_of_pos_right a.natAbs (show 0 < b.natAbs by omega)
    omega
  have hgb : (Nat.gcd a.natAbs b.natAbs : Nat).log2 < 9000 := Nat.lt_trans (PySem.Flt.log2_lt_of (show 0 < 200 by decide) (Nat.lt_of_le_of_lt (Nat.gcd_le_right _ (by omega)) hb3)) (by decide)
  have e : fracD a b = fracD a b := rfl
  conv at e => rhs; unfold fracD
  have hgb : ((Nat.gcd a.natAbs b.natAbs : Nat) : Int).natAbs.log2 < 9000 := by rw [Int.natAbs_natCast]; exact hgb
  generalize ((Nat.gcd a.natAbs b.natAbs : Nat) : Int) = g at *
  walk_at "dl"
  exact x_rD (by assumption) hq (by walk_at "tm") e.symm
def pNumber : Pre := fun ss u post => ∃ i : Int, ss = [.d (.int i)] ∧ u = [] ∧ post = pD fun d => d = .bool true
theorem c_law_number {f : Addr} {fd : FuncData} (D : Df K mg "_law_number" s_law_number f fd ["actual"]) (z_isinstance : mg "isinstance" = none) (z_int : mg "int" = none) (z_bool : mg "bool" = none) : Cl P w K mg base 1 "_law_number" (spG K pNumber) := by
  refine D.go sc_law_number (pNumber) (fun ss u post h => by repeat (first | (obtain ⟨rfl, _⟩ := h; rfl) | obtain ⟨_, h⟩ := h)) fun cdv A outer s H M vs Q E ss u post hr hp S hq => ?_
  obtain ⟨i, rfl, rfl, rfl⟩ := hp
  refine ⟨_, (pss_one (ps_ret (pe_and (pe_callB (kIsi (K := K)) (by rfl) z_isinstance (by decide +kernel) (pa_cons (pv 0) (pa_cons (pe_bltn (v := .ty "int") (u := .type "int") (by rfl) z_int (by decide +kernel) rfl) pa_nil))) (pe_one (pe_not (pe_callB (kIsi (K := K)) (by rfl) z_isinstance (by decide +kernel) (pa_cons (pv 0) (pa_cons (pe_bltn (v := .ty "bool") (u := .type "bool") (by rfl) z_bool (by decide +kernel) rfl) pa_nil)))))))), ?_⟩
  walk_at "in"
  walk_at "dl"
  exact x_rD (by assumption) hq (by walk_at "tm") rfl
def pGcd : Pre := fun ss u post => ∃ a b : Nat, ss = [.d (.int a), .d (.int b)] ∧ u = [] ∧ a * b ≤ 2 ^ 2000 ∧ post = pD fun d => d = .int (Nat.gcd a b)
theorem eu_less {x y : Nat} (h : y ≤ x) : 2 * (y * (x % y)) ≤ x * y := by
  by_cases hy : y = 0
  · rw [hy, Nat.zero_mul, Nat.mul_zero]
    exact Nat.zero_le _
  have h2 : 2 * (x % y) ≤ x := by
    · have := Nat.div_add_mod x y
      have := Nat.mod_lt x (Nat.pos_of_ne_zero hy)
      have := Nat.div_pos h (Nat.pos_of_ne_zero hy)
      have : y * 1 ≤ y * (x / y) := Nat.mul_le_mul_left y this
      omega
  calc 2 * (y * (x % y)) = (2 * (x % y)) * y := by rw [Nat.mul_comm y, Nat.mul_assoc]
    _ ≤ x * y := Nat.mul_le_mul_right y h2
theorem c_law_gcd {f : Addr} {fd : FuncData} (D : Df K mg "_law_gcd" s_law_gcd f fd ["first", "second"]) (z_int : mg "int" = none) (z_range : mg "range" = none) : Cl P w K mg base 1 "_law_gcd" (spG K pGcd) := by
  refine D.go sc_law_gcd (pGcd) (fun ss u post h => by repeat (first | (obtain ⟨rfl, _⟩ := h; rfl) | obtain ⟨_, h⟩ := h)) fun cdv A outer s H M vs Q E ss u post hr hp S hq => ?_
  obtain ⟨a, b, rfl, rfl, hab, rfl⟩ := hp
  refine ⟨_, (pss_cons (ps_for PassesOwn.never rfl (pi_range1 (by rfl) z_range (pa_cons pe_int pa_nil)) (pg_name (i := 2) sc_law_gcd.nd rfl (.inl rfl)) (pss_cons (ps_if (pt_cmpR op_eq (pv 1) pe_int (nomark _)) (pss_one ps_break) pss_nil)
      (pss_cons (ps_set (i := 3) sc_law_gcd.nd rfl (.inl rfl) (pe_op op_mod (pe_callTy call_intD (by rfl) z_int (by decide +kernel) (pa_cons (pv 0) pa_nil)) (pv 1)))
      (pss_cons (ps_set (i := 0) sc_law_gcd.nd rfl (.inl rfl) (pv 1))
      (pss_one (ps_set (i := 1) sc_law_gcd.nd rfl (.inl rfl) (pv 3)))))))
      (pss_one (ps_ret (pv 0)))), ?_⟩
  walk_at "in"
  walk_at "dl"
  refine x_forR (fun i ρ u => ∃ x y : Nat, ρ = [.d (.int x), .d (.int y), .u, .u] ∧ u = [] ∧ Nat.gcd x y = Nat.gcd a b ∧ (i = 0 ∨ y ≤ x) ∧ 2 ^ (i - 1) * (x * y) ≤ 2 ^ 2000) (by assumption) (by decide) (by decide) ⟨a, b, rfl, rfl, rfl, .inl rfl, by rw [Nat.zero_sub, Nat.pow_zero, Nat.one_mul]; exact hab⟩ ?_ ?_
  · rintro i ρ1 u1 hi ⟨x, y, rfl, rfl, hg, ho, hm⟩ σ1 H1 M1 S1
    walk_at "dl"
    refine x_if (fun h => ?_) (fun h => ?_)
    · have h : ((y : Nat) : Int) = 0 := of_decide_eq_true h
      have hy : y = 0 := by omega
      rw [hy, Nat.gcd_zero_right] at hg
      rw [← hg] at hq
      walk_at "dl"
      exact x_rD (by assumption) hq (by walk_at "tm") rfl
    · have h : ¬ ((y : Nat) : Int) = 0 := of_decide_eq_false h
      have hy : 0 < y := by omega
      walk_at "dl"
      refine x_I (show (0 : Int) < (y : Int) by omega) ?_
      walk_at "dl"
      rename Ds _ _ _ _ _ _ _ _ _ => S_
      rw [show ((x : Nat) : Int) % ((y : Nat) : Int) = ((x % y : Nat) : Int) from rfl] at S_
      refine Nx.at S_ (by walk_at "le") ⟨y, x % y, rfl, rfl, by rw [← hg, Nat.gcd_comm x y, Nat.gcd_rec y x, Nat.gcd_comm], .inr (Nat.le_of_lt (Nat.mod_lt x hy)), ?_⟩
      rw [Nat.add_sub_cancel]
      rcases ho with rfl | ho
      · rw [Nat.pow_zero, Nat.one_mul]
        rw [Nat.zero_sub, Nat.pow_zero, Nat.one_mul] at hm
        refine Nat.le_trans ?_ hm
        rw [Nat.mul_comm x y]
        exact Nat.mul_le_mul_left y (Nat.mod_le x y)
      · cases i with
        | zero =>
          rw [Nat.pow_zero, Nat.one_mul]
          rw [Nat.zero_sub, Nat.pow_zero, Nat.one_mul] at hm
          refine Nat.le_trans ?_ hm
          rw [Nat.mul_comm x y]
          exact Nat.mul_le_mul_left y (Nat.mod_le x y)
        | succ i =>
          rw [Nat.add_sub_cancel] at hm
          refine Nat.le_trans ?_ hm
          rw [Nat.pow_succ, Nat.mul_assoc]
          exact Nat.mul_le_mul_left _ (eu_less ho)
  · rintro ρ1 u1 ⟨x, y, rfl, rfl, hg, ho, hm⟩ σ1 H1 M1 S1
    have hy : y = 0 := by
      rcases Nat.eq_zero_or_pos y with e | e
      · exact e
      · exfalso
        have h1 : y ≤ x := ho.resolve_left (by decide)
        have h2 : 1 ≤ x * y := Nat.mul_pos (by omega) e
        have h3 : 2 ^ (Int.toNat 4000 - 1) * 1 ≤ 2 ^ 2000 := Nat.le_trans (Nat.mul_le_mul_left _ h2) hm
        rw [Nat.mul_one] at h3
        exact absurd ((Nat.pow_le_pow_iff_right (by decide)).mp h3) (by decide)
    rw [hy, Nat.gcd_zero_right] at hg
    rw [← hg] at hq
    walk_at "dl"
    exact x_rD (by assumption) hq (by walk_at "tm") rfl
theorem frac_facts {a b n d : Int} (ha : 0 ≤ a) (hb : 0 < b) (h1 : a.natAbs < 2 ^ 200) (h2 : b.natAbs < 2 ^ 200) (h : a * d = n * b) : ∃ x y : Nat, fracD a b = .tuple [.int x, .int y] ∧ 0 < y ∧ (x : Int) * d = n * (y : Int) ∧ Nat.gcd x y = 1 ∧ x < 2 ^ 200 ∧ y < 2 ^ 200 := by
  obtain ⟨A, rfl⟩ := Int.eq_ofNat_of_zero_le ha
  obtain ⟨B, rfl⟩ := Int.eq_ofNat_of_zero_le (Int.le_of_lt hb)
  rw [Int.natAbs_natCast] at h1 h2
  have hB : 0 < B := by omega
  have hg := Nat.gcd_pos_of_pos_right A hB
  obtain ⟨x, hx⟩ := Nat.gcd_dvd_left A B
  obtain ⟨y, hy⟩ := Nat.gcd_dvd_right A B
  have e1 : A / Nat.gcd A B = x := Nat.div_eq_of_eq_mul_right hg hx
  have e2 : B / Nat.gcd A B = y := Nat.div_eq_of_eq_mul_right hg hy
  refine ⟨x, y, ?_, ?_, ?_, ?_, ?_, ?_⟩
  · rw [← e1, ← e2]
    rfl
  · rcases Nat.eq_zero_or_pos y with e | e
    · rw [e, Nat.mul_zero] at hy
      omega
    · exact e
  · have hc : ((A : Nat) : Int) = ((Nat.gcd A B : Nat) : Int) * (x : Int) := by rw [← Int.natCast_mul, ← hx]
    have hd : ((B : Nat) : Int) = ((Nat.gcd A B : Nat) : Int) * (y : Int) := by rw [← Int.natCast_mul, ← hy]
    have hg2 : ((Nat.gcd A B : Nat) : Int) ≠ 0 := by omega
    refine Int.eq_of_mul_eq_mul_left hg2 ?_
    generalize ((Nat.gcd A B : Nat) : Int) = G at *
    rw [hc, hd] at h
    rw [← Int.mul_assoc, h, ← Int.mul_assoc, ← Int.mul_assoc, Int.mul_comm n G]
  · have := Nat.gcd_div (Nat.gcd_dvd_left A B) (Nat.gcd_dvd_right A B)
    rw [e1, e2, Nat.div_self hg] at this
    exact this
  · exact Nat.lt_of_le_of_lt (by rw [← e1]; exact Nat.div_le_self ..) h1
  · exact Nat.lt_of_le_of_lt (by rw [← e2]; exact Nat.div_le_self ..) h2
def pLawFrac : Pre := fun ss u post => ∃ a b n d : Int, ss = [.d (fracD a b), .d (.int n), .d (.int d)] ∧ u = [] ∧ 0 ≤ a ∧ 0 < b ∧ a.natAbs < 2 ^ 200 ∧ b.natAbs < 2 ^ 200 ∧ n.natAbs < 2 ^ 200 ∧ d.natAbs < 2 ^ 200 ∧ a * d = n * b ∧ post = pD fun r => r = .bool true
theorem c_law_fraction {f : Addr} {fd : FuncData} (D : Df K mg "_law_fraction" s_law_fraction f fd ["actual", "numerator", "denominator"]) (z_isinstance : mg "isinstance" = none) (z_tuple : mg "tuple" = none) (z_len : mg "len" = none) (z_abs : mg "abs" = none) (c_law_number : Cl P w K mg base 1 "_law_number" (spG K pNumber)) (c_law_gcd : Cl P w K mg base 1 "_law_gcd" (spG K pGcd)) : Cl P w K mg base 2 "_law_fraction" (spG K pLawFrac) := by
  refine D.go sc_law_fraction (pLawFrac) (fun ss u post h => by repeat (first | (obtain ⟨rfl, _⟩ := h; rfl) | obtain ⟨_, h⟩ := h)) fun cdv A outer s H M vs Q E ss u post hr hp S hq => ?_
  obtain ⟨a, b, n, d, rfl, rfl, ha, hb, h1, h2, h3, h4, h5, rfl⟩ := hp
  refine ⟨_, (pss_cons (ps_if (PW.pt (pw_or (pt_not (pt_val (pe_callB (kIsi (K := K)) (by rfl) z_isinstance (by decide +kernel) (pa_cons (pv 0) (pa_cons (pe_bltn (v := .ty "tuple") (u := .type "tuple") (by rfl) z_tuple (by decide +kernel) rfl) pa_nil))))) (pw_or1 (pt_cmpR op_ne (pe_callB (lenQ (K := K)) (by rfl) z_len PySem.boot_len (pa_cons (pv 0) pa_nil)) pe_int (nomark _))))) (pss_one (ps_ret pe_bl)) pss_nil)
      (pss_cons (ps_if (PW.pt (pw_or (pt_not (pt_val (pc c_law_number hr (by first | decide | omega) (by rfl) (pa_cons (pe_ix (ixT (K := K)) (pv 0) pe_int (fun _ _ => rfl)) pa_nil)))) (pw_or (pt_not (pt_val (pc c_law_number hr (by first | decide | omega) (by rfl) (pa_cons (pe_ix (ixT (K := K)) (pv 0) pe_int (fun _ _ => rfl)) pa_nil)))) (pw_or1 (pt_cmpR op_lt (pe_ix (ixT (K := K)) (pv 0) pe_int (fun _ _ => rfl)) pe_int (nomark _)))))) (pss_one (ps_ret pe_bl)) pss_nil)
      (pss_cons (ps_if (pt_cmpR op_ne (pe_op op_mulW (pe_ix (ixT (K := K)) (pv 0) pe_int (fun _ _ => rfl)) (pv 2)) (pe_op op_mulW (pv 1) (pe_ix (ixT (K := K)) (pv 0) pe_int (fun _ _ => rfl))) (nomark _)) (pss_one (ps_ret pe_bl)) pss_nil)
      (pss_one (ps_ret (pe_cmpR op_eq (pc c_law_gcd hr (by first | decide | omega) (by rfl) (pa_cons (pe_callB call_abs (by rfl) z_abs (by decide +kernel) (pa_cons (pe_ix (ixT (K := K)) (pv 0) pe_int (fun _ _ => rfl)) pa_nil)) (pa_cons (pe_ix (ixT (K := K)) (pv 0) pe_int (fun _ _ => rfl)) pa_nil))) pe_int (nomark _))))))), ?_⟩
  walk_at "in"
  obtain ⟨x, y, e, hy, hxy, hg, hx2, hy2⟩ := frac_facts ha hb h1 h2 h5
  rename Ds _ _ _ _ _ _ _ _ _ => S_
  rw [e] at S_
  walk_at "dl"
  refine x_ifF rfl ?_
  walk_at "dl"
  refine x_cD (by assumption) (by walk_at "slt") ⟨x, rfl, rfl, rfl⟩ ?_
  rintro _ rfl H_ M_ S_
  walk_at "dl"
  refine x_cD (by assumption) (by walk_at "slt") ⟨y, rfl, rfl, rfl⟩ ?_
  rintro _ rfl H_ M_ S_
  walk_at "dl"
  refine x_ifF (decide_eq_false (by omega)) ?_
  walk_at "dl"
  refine x_I (wide_mul (a := 200) (b := 200) (by rw [Int.natAbs_natCast]; exact hx2) h4 (by decide) (by decide) (by decide)) ?_
  walk_at "dl"
  refine x_I (wide_mul (a := 200) (b := 200) h3 (by rw [Int.natAbs_natCast]; exact hy2) (by decide) (by decide) (by decide)) ?_
  walk_at "dl"
  refine x_ifF (by rw [hxy, decide_eq_true rfl]; rfl) ?_
  walk_at "dl"
  refine ⟨_, rfl, ?_⟩
  rw [if_neg (show ¬ ((x : Nat) : Int) < 0 by omega)]
  walk_at "dl"
  refine x_cD (by assumption) (by walk_at "slt") ⟨x, y, rfl, rfl, two_pow (Nat.le_of_lt hx2) (Nat.le_of_lt hy2) (by decide), rfl⟩ ?_
  rintro _ rfl H_ M_ S_
  walk_at "dl"
  rw [hg]
  rw [show decide (((1 : Nat) : Int) = 1) = true from rfl]
  exact x_rD (by assumption) hq (by walk_at "tm") rfl
end
open Tr
def gOf (t : Tr) (a : Int) (x : List Int) : Bool := !t.ev (fun k => decide (k ∈ x)) && t.ev fun k => decide (k ∈ x ++ [a])
theorem shSum_snoc {g : List Int → Bool} {n : Nat} {F : List (List Int)} {x : List Int} : shSum g n (F ++ [x]) = shSum g n F + if g x = true then wN n x.length else 0 := by
  unfold shSum
  rw [List.map_append, List.sum_append]
  show _ + (_ + 0) = _
  rw [Nat.add_zero]
theorem wN_le {n m : Nat} (hn : n ≤ 5) (hm : m ≤ n) : wN n m ≤ 14400 := by
  have : ∀ n < 6, ∀ m < n + 1, wN n m ≤ 14400 := by decide +kernel
  exact this n (by omega) m (by omega)
theorem shSum_perm {g : List Int → Bool} {n : Nat} {F G : List (List Int)} (h : F.Perm G) : shSum g n F = shSum g n G := (h.map _).sum_nat
theorem shSum_le {g : List Int → Bool} {n : Nat} (hn : n ≤ 5) : ∀ {F : List (List Int)}, (∀ x ∈ F, x.length ≤ n) → shSum g n F ≤ F.length * 14400
  | [], _ => Nat.zero_le _
  | x :: F, h => by
    have i := shSum_le (g := g) hn (F := F) fun y hy => h y (List.mem_cons_of_mem _ hy)
    have w := wN_le hn (h x (List.mem_cons_self ..))
    show (if g x = true then wN n x.length else 0) + shSum g n F ≤ _
    rw [List.length_cons, Nat.succ_mul]
    split <;> omega
theorem subs_perm {ks : List Int} {a : Int} (hk : Asc ks) {F : List (List Int)} (h1 : F.Pairwise sLt) (h2 : ∀ x, x ∈ F ↔ x.Sublist (wo ks [a])) : F.Perm (lsubs (wo ks [a])) := by
  have n1 : F.Nodup := h1.imp fun {x y} q (e : x = y) => s_irr y (by rw [e] at q; exact q)
  have n2 : (lsubs (wo ks [a])).Nodup := lsubs_nodup (asc_of (wo_sub ks [a]) hk)
  exact nodup_permR F _ n1 n2 fun x => by rw [h2, lsubs_mem]
section
variable {P : Program} {w : World} {K : PySem.W.Frag} {mg : Str → Option Value} {base : Heap}
def shareD (t : Tr) (ks : List Int) (a : Int) : PyData := fracD (shSum (gOf t a) ks.length (lsubs (wo ks [a])) : Nat) (fac ks.length : Nat)
def pShare : Pre := fun ss u post => ∃ (t : Tr) (ks : List Int) (a : Int), ss = [.d (canD t), .d (insD ks), .d (.int a)] ∧ u = [] ∧ Asc ks ∧ ks.length ≤ 5 ∧ a ∈ ks ∧ post = pD fun d => d = shareD t ks a
theorem c_share {f : Addr} {fd : FuncData} (D : Df K mg "_share" s_share f fd ["condition", "concerned", "axiom"]) (z_len : mg "len" = none) (z_sorted : mg "sorted" = none) (z_tuple : mg "tuple" = none) (m_factorial : mg "factorial" = some (.builtin "math.factorial")) (c_without : Cl P w K mg base 1 "_without" (spG K pWo)) (c_subsets : Cl P w K mg base 1 "_subsets" (spG K pSubs)) (c_holds : Cl P w K mg base 1 "holds" (spG K pHolds)) (c_fraction : Cl P w K mg base 1 "_fraction" (spG K pFrac)) : Cl P w K mg base 2 "_share" (spG K pShare) := by
  refine D.go sc_share (pShare) (fun ss u post h => by repeat (first | (obtain ⟨rfl, _⟩ := h; rfl) | obtain ⟨_, h⟩ := h)) fun cdv A outer s H M vs Q E ss u post hr hp S hq => ?_
  obtain ⟨t, ks, a, rfl, rfl, hk, hkl, ha, rfl⟩ := hp
  refine ⟨_, (pss_cons (ps_set (i := 3) sc_share.nd rfl (.inl rfl) (pe_callB (lenQ (K := K)) (by rfl) z_len PySem.boot_len (pa_cons (pv 1) pa_nil)))
      (pss_cons (ps_set (i := 4) sc_share.nd rfl (.inl rfl) pe_int)
      (pss_cons (ps_for PassesOwn.never rfl (kIL (K := K) (pi_list (pc c_subsets hr (by first | decide | omega) (by rfl) (pa_cons (pc c_without hr (by first | decide | omega) (by rfl) (pa_cons (pv 1) (pa_cons (pe_tup (pa_cons (pv 2) pa_nil)) pa_nil))) pa_nil)))) (pg_name (i := 5) sc_share.nd rfl (.inl rfl)) (pss_one (ps_if (PW.pt (pw_and (pt_not (pt_val (pc c_holds hr (by first | decide | omega) (by rfl) (pa_cons (pv 0) (pa_cons (pv 5) pa_nil))))) (pw_and1 (pt_val (pc c_holds hr (by first | decide | omega) (by rfl) (pa_cons (pv 0) (pa_cons (pe_callTy (call_tupD (K := K)) (by rfl) z_tuple (by decide +kernel) (pa_cons (pe_callB (kSortedTI (K := K)) (by rfl) z_sorted (by decide +kernel) (pa_cons (pe_op (kCatA (K := K)) (pv 5) (pe_tup (pa_cons (pv 2) pa_nil))) pa_nil)) pa_nil)) pa_nil))))))) (pss_one (ps_set (i := 4) sc_share.nd rfl (.inl rfl) (pe_op op_add (pv 4) (pe_op op_mul (pe_callBfun cr_fac (by rfl) m_factorial (pa_cons (pe_callB (lenQ (K := K)) (by rfl) z_len PySem.boot_len (pa_cons (pv 5) pa_nil)) pa_nil)) (pe_callBfun cr_fac (by rfl) m_factorial (pa_cons (pe_op op_sub (pe_op op_sub (pv 3) pe_int) (pe_callB (lenQ (K := K)) (by rfl) z_len PySem.boot_len (pa_cons (pv 5) pa_nil))) pa_nil)))))) pss_nil)))
      (pss_one (ps_ret (pc c_fraction hr (by first | decide | omega) (by rfl) (pa_cons (pv 4) (pa_cons (pe_callBfun cr_fac (by rfl) m_factorial (pa_cons (pv 3) pa_nil)) pa_nil)))))))), ?_⟩
  walk_at "in"
  have hwl : (wo ks [a]).length + 1 ≤ ks.length := by
    have h1 : (wo ks [a]).length < ks.length := by
      refine Nat.lt_of_le_of_ne (wo_len ks [a]) fun e => ?_
      have e2 := (wo_sub ks [a]).eq_of_length e
      have h2 : a ∈ wo ks [a] := by rw [e2]; exact ha
      exact (wo_mem.mp h2).2 (List.mem_singleton.mpr rfl)
    exact h1
  walk_at "dl"
  refine x_cD (by assumption) (by walk_at "slt") ⟨ks, [a], rfl, rfl, by omega, rfl⟩ ?_
  rintro _ rfl H_ M_ S_
  walk_at "dl"
  refine x_cO (by assumption) (by walk_at "slt") ⟨wo ks [a], rfl, rfl, asc_of (wo_sub ks [a]) hk, by omega, rfl⟩ ?_
  rintro _ ⟨F, rfl, hF1, hF2, hF3⟩ q H_ M_ S_
  walk_at "dl"
  rename Ds _ _ _ _ _ _ _ _ _ => S_
  obtain ⟨M_, S_⟩ := S_.freeze List.not_mem_nil
  have hpm := shSum_perm (g := gOf t a) (n := ks.length) (subs_perm hk hF1 hF2)
  rw [show shareD t ks a = fracD (shSum (gOf t a) ks.length F : Nat) (fac ks.length : Nat) by rw [hpm]; rfl] at hq
  have hFl : F.length ≤ 16 := by
    rw [(subs_perm hk hF1 hF2).length_eq, lsubs_len]
    exact Nat.le_trans (Nat.pow_le_pow_right (by decide) (by omega : (wo ks [a]).length ≤ 4)) (by decide)
  have hFx : ∀ x ∈ F, x.length ≤ ks.length - 1 := fun x hx => by have := ((hF2 x).mp hx).length_le; omega
  rename Ds _ _ _ _ _ _ _ _ _ => S_
  rw [List.length_map] at S_
  refine x_forL (fun i ρ u => ∃ A : Nat, A = shSum (gOf t a) ks.length (F.take i) ∧ ρ = [.d (canD t), .d (insD ks), .d (.int a), .d (.int ks.length), .d (.int A), .u] ∧ u = []) (by assumption) (by walk_at "tm") ⟨0, rfl, rfl, rfl⟩ ?_ ?_
  · rintro i d ρ1 u1 hi ⟨A, hA, rfl, rfl⟩ v1 σ1 H1 M1 S1
    obtain ⟨x, hx, rfl⟩ := map_at hi
    have hxl := hFx x (List.mem_of_getElem? hx)
    have hs := shSum_snoc (g := gOf t a) (n := ks.length) (F := F.take i) (x := x)
    rw [← take_snoc hx] at hs
    have hle := shSum_le (g := gOf t a) (n := ks.length) hkl (F := F.take i) fun y hy => by have := hFx y (List.mem_of_mem_take hy); omega
    have htl : (F.take i).length ≤ 16 := by rw [List.length_take]; omega
    rw [← hA] at hs hle
    have hge : gOf t a x = (!t.ev (fun k => decide (k ∈ x)) && t.ev fun k => decide (k ∈ x ++ [a])) := rfl
    walk_at "dl"
    refine x_cD (by assumption) (by walk_at "slt") ⟨t, x, rfl, rfl, rfl⟩ ?_
    rintro _ rfl H_ M_ S_
    walk_at "dl"
    refine x_if (fun h => ?_) (fun h => ?_)
    · walk_at "dl"
      refine x_catT (by assumption) (by walk_at "tm") (by walk_at "tm") (by show _ + 1 ≤ sizeLine; rw [List.length_map]; exact Nat.le_trans (by omega : _ ≤ 60) (by decide)) fun u_ H_ M_ S_ => ?_
      walk_at "dl"
      refine x_sortTI (ns := x ++ [a]) (by assumption) (by rw [List.map_append]; walk_at "tm") (by rw [List.length_append]; show _ + 1 < 64; omega) fun ns' l H_ hp hsrt S_ => ?_
      walk_at "dl"
      refine x_cD (by assumption) (by walk_at "slt") ⟨t, ns', rfl, rfl, rfl⟩ ?_
      rintro _ rfl H_ M_ S_
      walk_at "dl"
      rw [show (fun k => decide (k ∈ ns')) = (fun k => decide (k ∈ x ++ [a])) from funext fun k => decide_eq_decide.mpr hp.mem_iff]
      refine x_if (fun h2 => ?_) (fun h2 => ?_)
      · walk_at "dl"
        have hx5 : x.length ≤ ks.length := by omega
        have hw := wN_le hkl hx5
        have hf1 := fac_le x.length (by omega)
        have hf2 := fac_le (ks.length - 1 - x.length) (by omega)
        have en : ((ks.length : Int) - 1 - ((x.map PyData.int).length : Nat)).toNat = ks.length - 1 - x.length := by rw [List.length_map]; omega
        refine x_fac (by omega) (by rw [List.length_map]; omega) ?_
        walk_at "dl"
        refine x_fac (by rw [List.length_map]; omega) (by rw [List.length_map]; omega) ?_
        rw [en, Int.toNat_natCast, List.length_map]
        have hf1 : Builtin.Math.factorialNat x.length ≤ 3628800 := hf1
        refine x_I (.inl ⟨by omega, by omega⟩) ?_
        walk_at "dl"
        rename Ds _ _ _ _ _ _ _ _ _ => S_
        rw [show ((A : Int) + (Builtin.Math.factorialNat x.length : Nat) * (Builtin.Math.factorialNat (ks.length - 1 - x.length) : Nat)) = ((A + wN ks.length x.length : Nat) : Int) from by
          show _ = ((A + fac x.length * fac (ks.length - 1 - x.length) : Nat) : Int)
          rw [Int.natCast_add, Int.natCast_mul]
          rfl] at S_
        exact Nx.at (S_.subw (w' := []) (List.nil_sublist _)) (by walk_at "le") ⟨A + wN ks.length x.length, by rw [hs, hge, h, h2]; rfl, rfl, rfl⟩
      · walk_at "dl"
        rename Ds _ _ _ _ _ _ _ _ _ => S_
        exact Nx.at (S_.subw (w' := []) (List.nil_sublist _)) (by walk_at "le") ⟨A, by rw [hs, hge, h, h2]; rfl, rfl, rfl⟩
    · walk_at "dl"
      exact Nx.at (by assumption) (by walk_at "le") ⟨A, by rw [hs, hge, h]; rfl, rfl, rfl⟩
  · rintro ρ1 u1 ⟨A, hA, rfl, rfl⟩ σ1 H1 M1 S1
    rw [show (F.map insD).length = F.length from List.length_map .., take_all] at hA
    have hf1 := fac_le ks.length (by omega)
    have hf2 := fac_pos ks.length (by omega)
    walk_at "dl"
    refine x_fac (by omega) (by omega) ?_
    rw [Int.toNat_natCast]
    walk_at "dl"
    refine x_cD (by assumption) (by walk_at "slt") ⟨(A : Int), (fac ks.length : Nat), rfl, rfl, by omega, by rw [Int.natAbs_natCast]; exact Nat.lt_of_le_of_lt hf1 (by decide), rfl⟩ ?_
    rintro _ rfl H_ M_ S_
    walk_at "dl"
    exact x_rD (by assumption) hq (by walk_at "tm") (by rw [hA])
def pShares : Pre := fun ss u post => ∃ (t : Tr) (vs tk : List Int), ss = [.d (canD t), .d (insD tk)] ∧ u = [] ∧ t.ht ≤ 5 ∧ t.Ov vs ∧ vs.length ≤ 5 ∧ post = pD fun d => ∃ ks : List Int, d = .tuple (ks.map fun a => .tuple [.int a, shareD t ks a]) ∧ Asc ks ∧ (∀ k, k ∈ ks ↔ t.has k = true ∧ k ∈ tk) ∧ ks.length ≤ 5
theorem c_shares {f : Addr} {fd : FuncData} (D : Df K mg "shares" s_shares f fd ["condition", "taken"]) (z_tuple : mg "tuple" = none) (c_concerned : Cl P w K mg base 2 "_concerned" (spG K pConc)) (c_share : Cl P w K mg base 2 "_share" (spG K pShare)) : Cl P w K mg base 3 "shares" (spG K pShares) := by
  refine D.go sc_shares (pShares) (fun ss u post h => by repeat (first | (obtain ⟨rfl, _⟩ := h; rfl) | obtain ⟨_, h⟩ := h)) fun cdv A outer s H M vs Q E ss u post hr hp S hq => ?_
  obtain ⟨t, vs, tk, rfl, rfl, hht, hov, hvl, rfl⟩ := hp
  refine ⟨_, (pss_cons (ps_set (i := 2) sc_shares.nd rfl (.inr rfl) (pc c_concerned hr (by first | decide | omega) (by rfl) (pa_cons (pv 0) (pa_cons (pv 1) pa_nil))))
      (pss_one (ps_ret (pe_callTy (call_tupD (K := K)) (by rfl) z_tuple (by decide +kernel) (pa_cons (pe_lc (own := [("axiom", 3)]) (g := gName 3) (tt := tYes) (by rfl) sc_shares.nd (kIT (K := K) (pi_tup (pv 2))) (blkOk_by (own := [("axiom", 3)]) (N := ["condition", "taken", "concerned", "axiom"]) (sc := defScope s_shares) (by decide +kernel)) (fun _ _ _ _ _ => pg_name (i := 3) sc_shares.nd rfl (.inl rfl)) (fun _ _ _ _ _ => pts_nil) (fun _ _ _ _ _ => (pe_tup (pa_cons (pv 3) (pa_cons (pc c_share hr (by first | decide | omega) (by rfl) (pa_cons (pv 0) (pa_cons (pv 2) (pa_cons (pv 3) pa_nil)))) pa_nil))))) pa_nil))))), ?_⟩
  walk_at "in"
  walk_at "dl"
  refine x_cD (by assumption) (by walk_at "slt") ⟨t, vs, tk, rfl, rfl, hht, hov, by omega, rfl⟩ ?_
  rintro _ ⟨ks, rfl, hk, hks, _⟩ H_ M_ S_
  walk_at "dl"
  have hkl : ks.length ≤ 5 := by
    have := nodup_le (l := ks) (m := vs) (hk.imp fun {a b} q e => by omega) fun k h => has_ov hov ((hks k).mp h).1
    omega
  refine x_wlcT (vs := [3]) (fun i acc w1 => acc = ((ks.take i).map fun a => .tuple [.int a, shareD t ks a]) ∧ w1 = []) (by assumption) (by walk_at "tm") ⟨rfl, rfl⟩ ?_ ?_
  · rintro i d acc w1 hi ⟨rfl, rfl⟩ D4 u4 H4 M4 S4
    obtain ⟨a, ha, rfl⟩ := map_at hi
    refine x_b1 S4 (by decide) fun σ5 hrw S5 => ?_
    rename Ds _ _ _ _ _ _ _ _ _ => S_
    simp only [uset, List.map_cons, List.map_nil, List.foldr_cons, List.foldr_nil, List.set_cons_succ, List.set_cons_zero] at S_
    walk_at "dl"
    refine x_cD (by assumption) (by walk_at "slt") ⟨t, ks, a, rfl, rfl, hk, hkl, List.mem_of_getElem? ha, rfl⟩ ?_
    rintro _ rfl H_ M_ S_
    walk_at "dl"
    exact x_lcA (by assumption) (by assumption) (by walk_at "tm") (by rw [List.length_map, List.length_take]; exact Nat.lt_of_lt_of_le (by omega : _ < 1001) (by decide)) ⟨by rw [take_snoc ha, List.map_append]; rfl, rfl⟩
  · rintro acc w1 ⟨rfl, rfl⟩ D4 H4 M4 S4
    rw [show (ks.map PyData.int).length = ks.length from List.length_map .., take_all] at S4
    walk_at "dl"
    exact x_rD (by assumption) hq (by walk_at "tm") ⟨ks, rfl, hk, hks, hkl⟩
end
open Tr
abbrev qOrd : Str := Str.ofString "_law_ordered" ++ Str.ofString ".<locals>." ++ Str.ofString "<lambda>"
section
variable {P : Program} {w : World} {K : PySem.W.Frag} {mg : Str → Option Value} {base : Heap} {T : Addr}
def pOrd (T : Addr) : Pre := fun ss u post => ∃ rs : List (List Int), ss = [.d (.list (rs.map insD))] ∧ u = [(T, .tab qOrd)] ∧ post = pD1 T fun d od => od = .tab qOrd ∧ d = .list ((sortRows rs).map insD)
theorem c_law_ordered {f cc : Addr} {od an : Option Addr} {osl : Array (Option Value)} {oc kV doc pm ct : Value} (lk : K.lookup f = some ⟨oc, od, .func (PySem.W.fnOf "_law_ordered" "_law_ordered" (defArgs s_law_ordered) (defBody s_law_ordered) (defScope s_law_ordered) .none kV doc pm an (.ref cc) ct), osl⟩) (hc : PySem.W.codeIn K (.ref cc) "_law_ordered" = true)
    (D : Df K mg "_law_ordered" s_law_ordered f (PySem.W.fnOf "_law_ordered" "_law_ordered" (defArgs s_law_ordered) (defBody s_law_ordered) (defScope s_law_ordered) .none kV doc pm an (.ref cc) ct) ["rows"]) (TB : LamX.TabB base mg cc T) (z_sorted : mg "sorted" = none) (z_len : mg "len" = none) : Cl P w K mg base 2 "_law_ordered" (spG K (pOrd T)) := by
  refine code_go lk hc D.mgf D.kp D.bd sc_law_ordered (pOrd T) (fun ss u post h => by obtain ⟨rs, rfl, _⟩ := h; rfl) fun A outer s H M vs Q E ss u post hr hp S hq => ?_
  obtain ⟨rs, rfl, rfl, rfl⟩ := hp
  refine ⟨_, (pss_one (ps_ret (pe_sortRow (K := K) hr (by rfl) z_sorted z_len TB rfl (pv 0)))), ?_⟩
  walk_at "in"
  walk_at "dl"
  refine x_sr ?_
  walk_at "dl"
  refine x_srL 0 (by assumption) rfl (by walk_at "tm") fun p_ H_ M_ S_ => ?_
  rename Ds _ _ _ _ _ _ _ _ _ => S_
  obtain ⟨M_, S_⟩ := S_.freeze (nd_ne S_)
  exact x_r1 (by assumption) hq (by walk_at "tm") 0 rfl ⟨rfl, rfl⟩
theorem scan_sub {G : List Int → Bool} {l : List (List Int)} : ∀ x ∈ scan G l, x ∈ l := by
  induction l using snoc_ind with
  | nil => exact fun x h => h
  | snoc l y ih =>
    intro x hx
    rw [scan_snoc] at hx
    split at hx
    · rcases List.mem_append.mp hx with hx | hx
      · exact List.mem_append_left _ (ih x hx)
      · exact List.mem_append_right _ hx
    · exact List.mem_append_left _ (ih x hx)
end
open Tr
section
variable {P : Program} {w : World} {K : PySem.W.Frag} {mg : Str → Option Value} {base : Heap} {T : Addr}
def pLeast (T : Addr) : Pre := fun ss u post => ∃ rs : List (List Int), ss = [.d (.list (rs.map insD))] ∧ u = [(T, .tab qOrd)] ∧ (∀ r ∈ rs, r.length ≤ 10) ∧ rs.length ≤ 1024 ∧ post = pD1 T fun d od => od = .tab qOrd ∧ d = .list ((scan (fun _ => true) (sortRows rs)).map insD)
theorem c_law_least {f : Addr} {fd : FuncData} (D : Df K mg "_law_least" s_law_least f fd ["rows"]) (z_any : mg "any" = none) (c_law_ordered : Cl P w K mg base 2 "_law_ordered" (spG K (pOrd T))) (c_law_inside : Cl P w K mg base 1 "_law_inside" (spG K pInside)) : Cl P w K mg base 3 "_law_least" (spG K (pLeast T)) := by
  refine D.go sc_law_least (pLeast T) (fun ss u post h => by repeat (first | (obtain ⟨rfl, _⟩ := h; rfl) | obtain ⟨_, h⟩ := h)) fun cdv A outer s H M vs Q E ss u post hr hp S hq => ?_
  obtain ⟨rs, rfl, rfl, hrl, hrn, rfl⟩ := hp
  refine ⟨_, (pss_cons (ps_set (i := 1) sc_law_least.nd rfl (.inl rfl) (pe_lst pa_nil))
      (pss_cons (ps_for PassesOwn.never rfl (kIL (K := K) (pi_list (pc c_law_ordered hr (by first | decide | omega) (by rfl) (pa_cons (pv 0) pa_nil)))) (pg_name (i := 2) sc_law_least.nd rfl (.inr rfl)) (pss_one (ps_if (pt_not (pt_val (pe_callB (kAny (K := K) rfl) (by rfl) z_any (by decide +kernel) (pa_cons (pe_lc (own := [("other", 3)]) (g := gName 3) (tt := tYes) (by rfl) sc_law_least.nd (kIL (K := K) (pi_list (pv 1))) (blkOk_by (own := [("other", 3)]) (N := ["rows", "found", "row", "other"]) (sc := defScope s_law_least) (by decide +kernel)) (fun _ _ _ _ _ => pg_name (i := 3) sc_law_least.nd rfl (.inl rfl)) (fun _ _ _ _ _ => pts_nil) (fun _ _ _ _ _ => (pc c_law_inside hr (by first | decide | omega) (by rfl) (pa_cons (pv 3) (pa_cons (pv 2) pa_nil))))) pa_nil)))) (pss_one (ps_expr (kBM (K := K) (pe_bm PySem.F.plainAttrs_list PySem.F.slot_list_append PySem.F.type_list_append mt_append (pv 1) (pa_cons (pv 2) pa_nil))))) pss_nil)))
      (pss_one (ps_ret (pv 1))))), ?_⟩
  walk_at "in"
  walk_at "dl"
  rename Addr => p
  refine x_c1 1 (by assumption) rfl (by walk_at "slt") ⟨rs, rfl, rfl, rfl⟩ ?_
  rintro _ _ ⟨rfl, rfl⟩ H_ M_ w_ hw S_
  cases hw
  rename SetAt _ _ _ _ => hw
  cases hw
  walk_at "dl"
  have hsl : (sortRows rs).length ≤ 1024 := by rw [sort_len]; exact hrn
  have hsr : ∀ r ∈ sortRows rs, r.length ≤ 10 := fun r hr => hrl r (sort_mem.mp hr)
  generalize sortRows rs = F at *
  refine x_forL (fun i ρ u => ρ = [.d (.list (rs.map insD)), .v (.ref p), .u, .u] ∧ u = [(p, .lst ((scan (fun _ => true) (F.take i)).map insD)), (T, .tab qOrd)]) (by assumption) (by walk_at "tm") ⟨rfl, rfl⟩ ?_ ?_
  · rintro i d ρ1 u1 hi ⟨rfl, rfl⟩ v1 σ1 H1 M1 S1
    obtain ⟨m, hm, rfl⟩ := map_at hi
    have hi2 : i < F.length := (List.getElem?_eq_some_iff.mp hm).1
    have hml := hsr m (List.mem_of_getElem? hm)
    have hsc := scan_snoc (G := fun _ => true) (l := F.take i) (x := m)
    rw [← take_snoc hm] at hsc
    have hl := scan_len (G := fun _ => true) (l := F.take i)
    rw [List.length_take] at hl
    have hsub : ∀ z ∈ scan (fun _ => true) (F.take i), z.length ≤ 10 := fun z hz => hsr z (List.mem_of_mem_take (scan_sub z hz))
    generalize scan (fun _ => true) (F.take i) = L at *
    walk_at "dl"
    refine x_wlcO (vs := [3]) 0 (fun i acc => acc = ((L.take i).map fun z => subB z m).map .bool) (by assumption) rfl rfl ?_ ?_
    · rintro j d acc xs hj rfl D4 u4 H4 M4 S4
      obtain ⟨z, hz, rfl⟩ := map_at hj
      have hj2 : j < L.length := (List.getElem?_eq_some_iff.mp hz).1
      have hzl := hsub z (List.mem_of_getElem? hz)
      refine x_b1 S4 (by decide) fun σ5 hrw S5 => ?_
      rename Ds _ _ _ _ _ _ _ _ _ => S_
      simp only [uset, List.map_cons, List.map_nil, List.foldr_cons, List.foldr_nil, List.set_cons_succ, List.set_cons_zero] at S_
      walk_at "dl"
      refine x_cD (by assumption) (by walk_at "slt") ⟨z, m, _, .inr rfl, rfl, rfl, by omega, rfl⟩ ?_
      rintro _ rfl H_ M_ S_
      walk_at "dl"
      exact x_lcA (by assumption) (by assumption) (by walk_at "tm") (by rw [List.length_map, List.length_map, List.length_take]; exact Nat.lt_of_lt_of_le (by omega : _ < 2000) (by decide)) ⟨by rw [take_snoc hz, List.map_append, List.map_append]; rfl, rfl⟩
    · rintro acc rfl D4 H4 M4 S4
      rw [show (L.map insD).length = L.length from List.length_map .., take_all] at S4
      walk_at "dl"
      refine x_anyO 0 (by assumption) rfl ?_
      rw [show (L.map fun z => subB z m).any id = L.any fun z => subB z m from List.any_map ..]
      rename Ds _ _ _ _ _ _ _ _ _ => S_
      have S_ := S_.drop
      walk_at "dl"
      refine x_if (fun h2 => ?_) (fun h2 => ?_)
      · walk_at "dl"
        refine x_appK 0 (by assumption) rfl (by walk_at "tm") (by rw [List.length_map]; exact Nat.lt_of_lt_of_le (by omega : _ < 2000) (by decide)) (by walk_at "set") fun H_ S_ => ?_
        walk_at "dl"
        rw [h2, Bool.true_and, if_pos rfl] at hsc
        exact Nx.at (by assumption) (by walk_at "le") ⟨rfl, by rw [hsc, List.map_append]; rfl⟩
      · walk_at "dl"
        rw [h2, Bool.true_and, if_neg (by decide)] at hsc
        exact Nx.at (by assumption) (by walk_at "le") ⟨rfl, by rw [hsc]⟩
  · rintro ρ1 u1 ⟨rfl, rfl⟩ σ1 H1 M1 S1
    rw [show (F.map insD).length = F.length from List.length_map .., take_all] at S1
    walk_at "dl"
    rename Ds _ _ _ _ _ _ _ _ _ => S_
    obtain ⟨M_, S_⟩ := S_.frz2 (i := 1) rfl (nd_ne S_)
    simp only [List.set_cons_succ, List.set_cons_zero] at S_
    exact x_r1 (by assumption) hq (by walk_at "tm") 0 rfl ⟨rfl, rfl⟩
end
section
variable {P : Program} {w : World} {K : PySem.W.Frag} {mg : Str → Option Value} {base : Heap}
def pHoldsF : Pre := fun ss u post => ∃ (rs : List (List Int)) (ks : List Int) (o : PyData), (o = .list (ks.map .int) ∨ o = .tuple (ks.map .int)) ∧ ss = [.d (.list (rs.map insD)), .d o] ∧ u = [] ∧ rs.length ≤ 1000 ∧ (∀ r ∈ rs, r.length ≤ 1000) ∧ post = pD fun d => d = .bool (famB rs fun k => decide (k ∈ ks))
theorem c_law_holds {f : Addr} {fd : FuncData} (D : Df K mg "_law_holds" s_law_holds f fd ["rows", "members"]) (z_any : mg "any" = none) (c_law_inside : Cl P w K mg base 1 "_law_inside" (spG K pInside)) : Cl P w K mg base 2 "_law_holds" (spG K pHoldsF) := by
  refine D.go sc_law_holds pHoldsF (fun ss u post h => by obtain ⟨r, ks, o, _, rfl, _⟩ := h; rfl) fun cdv A outer s H M vs Q E ss u post hr hp S hq => ?_
  obtain ⟨rs, ks, o, ho, rfl, rfl, hrl, hrs, rfl⟩ := hp
  refine ⟨_, (pss_one (ps_ret (pe_callB (kAny (K := K) rfl) (by rfl) z_any (by decide +kernel) (pa_cons (pe_lc (own := [("row", 2)]) (g := gName 2) (tt := tYes) (by rfl) sc_law_holds.nd (kIL (K := K) (pi_list (pv 0))) (blkOk_by (own := [("row", 2)]) (N := ["rows", "members", "row"]) (sc := defScope s_law_holds) (by decide +kernel)) (fun _ _ _ _ _ => pg_name (i := 2) sc_law_holds.nd rfl (.inl rfl)) (fun _ _ _ _ _ => pts_nil) (fun _ _ _ _ _ => (pc c_law_inside hr (by first | decide | omega) (by rfl) (pa_cons (pv 2) (pa_cons (pv 1) pa_nil))))) pa_nil)))), ?_⟩
  walk_at "in"
  walk_at "dl"
  refine x_wlcL (vs := [2]) (fun i acc w1 => acc = ((rs.take i).map fun r => r.all fun p => decide (p ∈ ks)).map .bool ∧ w1 = []) (by assumption) (by walk_at "tm") ⟨rfl, rfl⟩ ?_ ?_
  · rintro i d acc w1 hi ⟨rfl, rfl⟩ D4 u4 H4 M4 S4
    obtain ⟨r, hr, rfl⟩ := map_at hi
    have hi2 : i < rs.length := (List.getElem?_eq_some_iff.mp hr).1
    have hrr := hrs r (List.mem_of_getElem? hr)
    refine x_b1 S4 (by decide) fun σ5 hrw S5 => ?_
    rename Ds _ _ _ _ _ _ _ _ _ => S_
    simp only [uset, List.map_cons, List.map_nil, List.foldr_cons, List.foldr_nil, List.set_cons_succ, List.set_cons_zero] at S_
    walk_at "dl"
    refine x_cD (by assumption) (by walk_at "slt") ⟨r, ks, o, ho, rfl, rfl, hrr, rfl⟩ ?_
    rintro _ rfl H_ M_ S_
    walk_at "dl"
    exact x_lcA (by assumption) (by assumption) (by walk_at "tm") (by rw [List.length_map, List.length_map, List.length_take]; exact Nat.lt_of_lt_of_le (by omega : _ < 1001) (by decide)) ⟨by rw [take_snoc hr, List.map_append, List.map_append]; rfl, rfl⟩
  · rintro acc w1 ⟨rfl, rfl⟩ D4 H4 M4 S4
    rw [show (rs.map insD).length = rs.length from List.length_map .., take_all] at S4
    walk_at "dl"
    refine x_anyO 0 (by assumption) rfl ?_
    rw [show (rs.map fun r => r.all fun p => decide (p ∈ ks)).any id = famB rs fun k => decide (k ∈ ks) from List.any_map ..]
    exact x_rD (by assumption) hq (by walk_at "tm") rfl
end
/-- nested tuples of ints and None -/
def ShP : Nat → PyData → Prop
  | _, .int _ => True
  | _, .none => True
  | n + 1, .tuple ds => ds.length ≤ 2000 ∧ ∀ d ∈ ds, ShP n d
  | _, _ => False
theorem shp_rows {L : List (List Int)} (h : L.length ≤ 2000) (h2 : ∀ r ∈ L, r.length ≤ 2000) : ShP 2 (.tuple (L.map insD)) := ⟨by rw [List.length_map]; exact h, fun d hd => by
  obtain ⟨r, hr, rfl⟩ := List.mem_map.mp hd
  exact ⟨by rw [List.length_map]; exact h2 r hr, fun e he => by
    obtain ⟨i, _, rfl⟩ := List.mem_map.mp he
    trivial⟩⟩
section
variable {P : Program} {w : World} {K : PySem.W.Frag} {mg : Str → Option Value} {base : Heap}
def pSame (n : Nat) : Pre := fun ss u post => ∃ (d : PyData) (m : Nat), ss = [.d d, .d d] ∧ u = [] ∧ m < n ∧ ShP m d ∧ post = pD fun x => x = .bool true
theorem c_law_same {f : Addr} {fd : FuncData} (D : Df K mg "_law_same" s_law_same f fd ["actual", "due"]) (z_isinstance : mg "isinstance" = none) (z_tuple : mg "tuple" = none) (z_bool : mg "bool" = none) (z_int : mg "int" = none) (z_str : mg "str" = none) (z_len : mg "len" = none) (z_all : mg "all" = none) (z_range : mg "range" = none) : ∀ n : Nat, Cl P w K mg base (n + 1) "_law_same" (spG K (pSame n))
  | 0 => D.vain sc_law_same _ fun ss u post ⟨_, _, _, _, h, _⟩ => absurd h (Nat.not_lt_zero _)
  | n + 1 => by
    have c_law_same := c_law_same D z_isinstance z_tuple z_bool z_int z_str z_len z_all z_range n
    refine D.go sc_law_same (pSame (n + 1)) (fun ss u post h => by repeat (first | (obtain ⟨rfl, _⟩ := h; rfl) | obtain ⟨_, h⟩ := h)) fun cdv A outer s H M vs Q E ss u post hr hp S hq => ?_
    obtain ⟨d, m, rfl, rfl, hm, hd, rfl⟩ := hp
    refine ⟨_, (pss_cons (ps_if (pt_val (pe_callB (kIsi (K := K)) (by rfl) z_isinstance (by decide +kernel) (pa_cons (pv 1) (pa_cons (pe_bltn (v := .ty "tuple") (u := .type "tuple") (by rfl) z_tuple (by decide +kernel) rfl) pa_nil)))) (pss_cons (ps_if (PW.pt (pw_or (pt_not (pt_val (pe_callB (kIsi (K := K)) (by rfl) z_isinstance (by decide +kernel) (pa_cons (pv 0) (pa_cons (pe_bltn (v := .ty "tuple") (u := .type "tuple") (by rfl) z_tuple (by decide +kernel) rfl) pa_nil))))) (pw_or1 (pt_cmpR op_ne (pe_callB (lenQ (K := K)) (by rfl) z_len PySem.boot_len (pa_cons (pv 0) pa_nil)) (pe_callB (lenQ (K := K)) (by rfl) z_len PySem.boot_len (pa_cons (pv 1) pa_nil)) (nomark _))))) (pss_one (ps_ret pe_bl)) pss_nil)
      (pss_one (ps_ret (pe_callB (kAll (K := K) rfl) (by rfl) z_all (by decide +kernel) (pa_cons (pe_lc (own := [("k", 2)]) (g := gName 2) (tt := tYes) (by rfl) sc_law_same.nd (pi_range1 (by rfl) z_range (pa_cons (pe_callB (lenQ (K := K)) (by rfl) z_len PySem.boot_len (pa_cons (pv 1) pa_nil)) pa_nil)) (blkOk_by (own := [("k", 2)]) (N := ["actual", "due", "k"]) (sc := defScope s_law_same) (by decide +kernel)) (fun _ _ _ _ _ => pg_name (i := 2) sc_law_same.nd rfl (.inl rfl)) (fun _ _ _ _ _ => pts_nil) (fun _ _ _ _ _ => (pc c_law_same hr (by first | decide | omega) (by rfl) (pa_cons (pe_ix (ixT (K := K)) (pv 0) (pv 2) (fun _ _ => rfl)) (pa_cons (pe_ix (ixT (K := K)) (pv 1) (pv 2) (fun _ _ => rfl)) pa_nil))))) pa_nil))))) pss_nil)
      (pss_cons (ps_if (pt_val (pe_callB (kIsi (K := K)) (by rfl) z_isinstance (by decide +kernel) (pa_cons (pv 1) (pa_cons (pe_bltn (v := .ty "bool") (u := .type "bool") (by rfl) z_bool (by decide +kernel) rfl) pa_nil)))) (pss_one (ps_ret (pe_and (pe_callB (kIsi (K := K)) (by rfl) z_isinstance (by decide +kernel) (pa_cons (pv 0) (pa_cons (pe_bltn (v := .ty "bool") (u := .type "bool") (by rfl) z_bool (by decide +kernel) rfl) pa_nil))) (pe_one (pe_cmpR op_eq (pv 0) (pv 1) (nomark _)))))) pss_nil)
      (pss_cons (ps_if (pt_val (pe_callB (kIsi (K := K)) (by rfl) z_isinstance (by decide +kernel) (pa_cons (pv 1) (pa_cons (pe_bltn (v := .ty "int") (u := .type "int") (by rfl) z_int (by decide +kernel) rfl) pa_nil)))) (pss_one (ps_ret (pe_and (pe_callB (kIsi (K := K)) (by rfl) z_isinstance (by decide +kernel) (pa_cons (pv 0) (pa_cons (pe_bltn (v := .ty "int") (u := .type "int") (by rfl) z_int (by decide +kernel) rfl) pa_nil))) (pe_and (pe_not (pe_callB (kIsi (K := K)) (by rfl) z_isinstance (by decide +kernel) (pa_cons (pv 0) (pa_cons (pe_bltn (v := .ty "bool") (u := .type "bool") (by rfl) z_bool (by decide +kernel) rfl) pa_nil)))) (pe_one (pe_cmpR op_eq (pv 0) (pv 1) (nomark _))))))) pss_nil)
      (pss_cons (ps_if (pt_val (pe_callB (kIsi (K := K)) (by rfl) z_isinstance (by decide +kernel) (pa_cons (pv 1) (pa_cons (pe_bltn (v := .ty "str") (u := .type "str") (by rfl) z_str (by decide +kernel) rfl) pa_nil)))) (pss_one (ps_ret (pe_and (pe_callB (kIsi (K := K)) (by rfl) z_isinstance (by decide +kernel) (pa_cons (pv 0) (pa_cons (pe_bltn (v := .ty "str") (u := .type "str") (by rfl) z_str (by decide +kernel) rfl) pa_nil))) (pe_one (pe_cmpR op_eq (pv 0) (pv 1) (nomark _)))))) pss_nil)
      (pss_one (ps_ret (pe_cmpR op_isNo (pv 0) pe_non (nomark _)))))))), ?_⟩
    walk_at "in"
    cases d with
    | int i =>
      walk_at "dl"
      exact x_rD (by assumption) hq (by walk_at "tm") (by rw [decide_eq_true rfl])
    | none =>
      walk_at "dl"
      exact x_rD (by assumption) hq (by walk_at "tm") rfl
    | tuple ds =>
      obtain ⟨m, rfl⟩ : ∃ k, m = k + 1 := by
        cases m with
        | zero => exact hd.elim
        | succ k => exact ⟨k, rfl⟩
      obtain ⟨hl, hds⟩ := hd
      walk_at "dl"
      refine x_ifF (by rw [decide_eq_true rfl]; rfl) ?_
      walk_at "dl"
      refine x_lc1R (k := 2) (fun i acc w1 => acc = (List.replicate i true).map .bool ∧ w1 = []) (by assumption) (by omega) (by omega) ⟨rfl, rfl⟩ ?_ ?_
      · rintro i acc w1 hi ⟨rfl, rfl⟩ D4 σ4 H4 M4 hrw S4
        obtain ⟨d, hd⟩ : ∃ d, ds[i]? = some d := ⟨_, List.getElem?_eq_getElem (by omega)⟩
        have hat : atI ds ((i : Nat) : Int) = some d := atI_nat hd
        rename Ds _ _ _ _ _ _ _ _ _ => S_
        simp only [List.set_cons_succ, List.set_cons_zero] at S_
        walk_at "dl"
        refine x_ixT (by assumption) (by walk_at "tm") hat ?_
        walk_at "dl"
        refine x_ixT (by assumption) (by walk_at "tm") hat ?_
        walk_at "dl"
        refine x_cD (by assumption) (by walk_at "slt") ⟨d, m, rfl, rfl, by omega, hds d (List.mem_of_getElem? hd), rfl⟩ ?_
        rintro _ rfl H_ M_ S_
        walk_at "dl"
        exact x_lcA (by assumption) (by assumption) (by walk_at "tm") (by rw [List.length_map, List.length_replicate]; exact Nat.lt_of_lt_of_le (by omega : _ < 2001) (by decide)) ⟨by rw [List.replicate_succ', List.map_append]; rfl, rfl⟩
      · rintro acc w1 ⟨rfl, rfl⟩ D4 H4 M4 S4
        walk_at "dl"
        refine x_allO 0 (by assumption) rfl ?_
        rw [show (List.replicate ((ds.length : Nat) : Int).toNat true).all id = true from List.all_eq_true.mpr fun x hx => by rw [List.eq_of_mem_replicate hx]; rfl]
        exact x_rD (by assumption) hq (by walk_at "tm") rfl
    | _ => cases m <;> exact hd.elim
end
/-! what is least among the rows, and what the search finds -/
open Tr
theorem sub_asc {r : List Int} {m : Nat} (h : r.Sublist (rng m)) : Asc r := asc_of h rng_sorted
theorem fam_iff {rs : List (List Int)} {S : Int → Bool} : famB rs S = true ↔ ∃ r ∈ rs, ∀ p ∈ r, S p = true := by
  unfold famB
  rw [List.any_eq_true]
  exact ⟨fun ⟨r, a, b⟩ => ⟨r, a, List.all_eq_true.mp b⟩, fun ⟨r, a, b⟩ => ⟨r, a, List.all_eq_true.mpr b⟩⟩
theorem fam_mem {rs : List (List Int)} {m : List Int} : famB rs (fun k => decide (k ∈ m)) = true ↔ ∃ r ∈ rs, ∀ p ∈ r, p ∈ m := by
  rw [fam_iff]
  exact ⟨fun ⟨r, a, b⟩ => ⟨r, a, fun p hp => of_decide_eq_true (b p hp)⟩, fun ⟨r, a, b⟩ => ⟨r, a, fun p hp => decide_eq_true (b p hp)⟩⟩
theorem fam_mono {rs : List (List Int)} {a b : List Int} (h : ∀ p ∈ a, p ∈ b) (ha : famB rs (fun k => decide (k ∈ a)) = true) : famB rs (fun k => decide (k ∈ b)) = true := by
  rw [fam_mem] at *
  obtain ⟨r, hr, hs⟩ := ha
  exact ⟨r, hr, fun p hp => h p (hs p hp)⟩
theorem fam_not {rs : List (List Int)} {a b : List Int} (h : ∀ p ∈ a, p ∈ b) (hb : famB rs (fun k => decide (k ∈ b)) = false) : famB rs (fun k => decide (k ∈ a)) = false :=
  Bool.eq_false_iff.mpr fun z => by rw [fam_mono h z] at hb; cases hb
/-- a least row's members are numbers of the tree -/
theorem least_has {t : Tr} {rs : List (List Int)} {m : Nat} (hrs : ∀ r ∈ rs, r.Sublist (rng m)) (hev : ∀ S, t.ev S = famB rs S) {r : List Int} (hr : r ∈ rs) (hl : ∀ y ∈ rs, (∀ x ∈ y, x ∈ r) → y = r) {p : Int} (hp : p ∈ r) : t.has p = true := by
  cases q : t.has p with
  | true => rfl
  | false =>
    exfalso
    have h1 : t.ev (put (fun k => decide (k ∈ r)) p false) = true := by
      rw [has_no q, hev, fam_mem]
      exact ⟨r, hr, fun _ h => h⟩
    rw [hev, fam_iff] at h1
    obtain ⟨y, hy, hys⟩ := h1
    have hsub : ∀ x ∈ y, x ∈ r ∧ x ≠ p := fun x hx => by
      have := hys x hx
      by_cases e : x = p
      · rw [e, put_at] at this
        cases this
      · rw [put_ne e] at this
        exact ⟨of_decide_eq_true this, e⟩
    have e := hl y hy fun x hx => (hsub x hx).1
    exact (hsub p (e ▸ hp)).2 rfl
theorem min_iff {t : Tr} {rs : List (List Int)} {m : Nat} (hrs : ∀ r ∈ rs, r.Sublist (rng m)) (hev : ∀ S, t.ev S = famB rs S) (x : List Int) : MinT t x ↔ x ∈ rs ∧ ∀ y ∈ rs, (∀ p ∈ y, p ∈ x) → y = x := by
  constructor
  · rintro ⟨h1, h2, h3, h4⟩
    rw [hev, fam_mem] at h3
    obtain ⟨r, hr, hrx⟩ := h3
    have key : ∀ y ∈ rs, (∀ p ∈ y, p ∈ x) → y = x := fun y hy hs => h4 y (sub_asc (hrs y hy)) hs (by rw [hev, fam_mem]; exact ⟨y, hy, fun _ h => h⟩)
    exact ⟨key r hr hrx ▸ hr, key⟩
  · rintro ⟨h1, h2⟩
    refine ⟨sub_asc (hrs x h1), fun p hp => least_has hrs hev h1 h2 hp, by rw [hev, fam_mem]; exact ⟨x, h1, fun _ h => h⟩, fun y hy hs ht => ?_⟩
    rw [hev, fam_mem] at ht
    obtain ⟨r, hr, hry⟩ := ht
    have e := h2 r hr fun p hp => hs p (hry p hp)
    rw [e] at hry
    exact asc_eq hy (sub_asc (hrs x h1)) hs (asc_sub (sub_asc (hrs x h1)) hy hry).length_le
theorem rows_asc {rs : List (List Int)} {m : Nat} (hrs : ∀ r ∈ rs, r.Sublist (rng m)) : ∀ r ∈ sortRows rs, Asc r := fun r hr => sub_asc (hrs r (sort_mem.mp hr))
theorem leastRows {t : Tr} {rs L : List (List Int)} {m : Nat} (hrs : ∀ r ∈ rs, r.Sublist (rng m)) (hev : ∀ S, t.ev S = famB rs S) (h1 : L.Pairwise sLt) (h2 : ∀ x, x ∈ L ↔ MinT t x) : L = scan (fun _ => true) (sortRows rs) := by
  obtain ⟨s1, s2⟩ := scan_spec (G := fun _ => true) (sortRows rs) (rows_asc hrs) (sort_up rs)
  refine s_ext h1 s1 fun x => ?_
  rw [h2, min_iff hrs hev, s2]
  exact ⟨fun h => ⟨sort_mem.mpr h.1, rfl, fun y hy _ => h.2 y (sort_mem.mp hy)⟩, fun h => ⟨sort_mem.mp h.1, fun y hy => h.2.2 y (sort_mem.mpr hy) rfl⟩⟩
open Tr
theorem dep_iff {t : Tr} {rs : List (List Int)} {m : Nat} (hok : t.Ok) (hrs : ∀ r ∈ rs, r.Sublist (rng m)) (hev : ∀ S, t.ev S = famB rs S) {k : Int} : ((scan (fun _ => true) (sortRows rs)).any fun r => decide (k ∈ r)) = t.has k := by
  obtain ⟨s1, s2⟩ := scan_spec (G := fun _ => true) (sortRows rs) (rows_asc hrs) (sort_up rs)
  rw [Bool.eq_iff_iff, List.any_eq_true]
  constructor
  · rintro ⟨r, hr, hk⟩
    have h1 := (s2 r).mp hr
    exact least_has hrs hev (sort_mem.mp h1.1) (fun y hy hs => h1.2.2 y (sort_mem.mpr hy) rfl hs) (of_decide_eq_true hk)
  · intro h
    obtain ⟨S, hS⟩ := has_dep hok h
    rw [hev, hev] at hS
    have mono : famB rs (put S k false) = true → famB rs (put S k true) = true := fun h => by
      obtain ⟨r, hr, hs⟩ := fam_iff.mp h
      refine fam_iff.mpr ⟨r, hr, fun p hp => ?_⟩
      have := hs p hp
      by_cases e : p = k
      · rw [e, put_at]
      · rw [put_ne e] at this ⊢
        exact this
    have h2 : famB rs (put S k true) = true := by
      cases q : famB rs (put S k true) with
      | true => rfl
      | false =>
        cases q2 : famB rs (put S k false) with
        | true => rw [mono q2] at q; cases q
        | false => rw [q, q2] at hS; exact absurd rfl hS
    have h3 : famB rs (put S k false) = false := by
      cases q : famB rs (put S k false) with
      | false => rfl
      | true => rw [q, h2] at hS; exact absurd rfl hS
    obtain ⟨r, hr, hs⟩ := fam_iff.mp h2
    obtain ⟨z, hz, hzs⟩ := least_in (G := fun _ => true) (l := sortRows rs) (rows_asc hrs) r.length (Nat.le_refl _) (sort_mem.mpr hr) rfl
    refine ⟨z, (s2 z).mpr hz, decide_eq_true (Classical.byContradiction fun nk => ?_)⟩
    have : famB rs (put S k false) = true := fam_iff.mpr ⟨z, sort_mem.mp hz.1, fun p hp => by
      have e : p ≠ k := fun e => nk (e ▸ hp)
      have := hs p (hzs p hp)
      rw [put_ne e] at this ⊢
      exact this⟩
    rw [this] at h3
    cases h3
theorem cutI_toP {α : Type} (ds : List α) (n : Nat) : cutI ds none (some (n : Int)) = ds.take n := by
  unfold cutI
  rw [HT.sIx_none, HT.sIx_nat, List.drop_zero, Nat.sub_zero, ← List.take_eq_take_min]
theorem cutI_fromP {α : Type} {ds : List α} {n : Nat} (h : n ≤ ds.length) : cutI ds (some (n : Int)) none = ds.drop n := by
  unfold cutI
  rw [HT.sIx_none, HT.sIx_nat, Nat.min_eq_left h]
  exact List.take_of_length_le (by rw [List.length_drop]; exact Nat.le_refl _)
theorem ordersN {ks : List Int} (h5 : ks.length ≤ 5) : (orders ks).length = fac ks.length := by
  have hks : ks = (List.range ks.length).map fun i => ks.getD i 0 := by
    apply List.ext_getElem?
    intro i
    by_cases h : i < ks.length
    · rw [List.getElem?_map, List.getElem?_range h]
      show ks[i]? = some (ks.getD i 0)
      rw [List.getD_eq_getElem?_getD, List.getElem?_eq_getElem h]
      rfl
    · rw [List.getElem?_eq_none (by omega), List.getElem?_eq_none (by rw [List.length_map, List.length_range]; omega)]
  rw [← orders_len ks.length (by omega)]
  conv => lhs; rw [hks, orders_map, List.length_map]
theorem ins_len {p : Int} : ∀ {L : List (List Int)}, (∀ o ∈ L, o.length ≤ 5) → (L.flatMap (ins1 p)).length ≤ L.length * 6
  | [], _ => Nat.zero_le _
  | o :: L, h => by
    have i := ins_len (p := p) (L := L) fun o ho => h o (List.mem_cons_of_mem _ ho)
    have := h o (List.mem_cons_self ..)
    rw [List.flatMap_cons, List.length_append, List.length_cons, Nat.succ_mul, show (ins1 p o).length = o.length + 1 by unfold ins1; rw [List.length_map, List.length_range]]
    omega
section
variable {P : Program} {w : World} {K : PySem.W.Frag} {mg : Str → Option Value} {base : Heap} {T : Addr}
def depsOf (rs : List (List Int)) (m : Nat) : List Int := (rng m).filter fun p => (scan (fun _ => true) (sortRows rs)).any fun r => decide (p ∈ r)
def pDeps (T : Addr) : Pre := fun ss u post => ∃ (rs : List (List Int)) (m : Nat), ss = [.d (.list (rs.map insD)), .d (.int m)] ∧ u = [(T, .tab qOrd)] ∧ (∀ r ∈ rs, r.length ≤ 10) ∧ rs.length ≤ 1024 ∧ m ≤ 5 ∧ post = pD1 T fun d od => od = .tab qOrd ∧ d = .list ((depsOf rs m).map .int)
theorem c_law_depends {f : Addr} {fd : FuncData} (D : Df K mg "_law_depends" s_law_depends f fd ["rows", "many"]) (z_any : mg "any" = none) (z_range : mg "range" = none) (c_law_least : Cl P w K mg base 3 "_law_least" (spG K (pLeast T))) : Cl P w K mg base 4 "_law_depends" (spG K (pDeps T)) := by
  refine D.go sc_law_depends (pDeps T) (fun ss u post h => by repeat (first | (obtain ⟨rfl, _⟩ := h; rfl) | obtain ⟨_, h⟩ := h)) fun cdv A outer s H M vs Q E ss u post hr hp S hq => ?_
  obtain ⟨rs, m, rfl, rfl, hrl, hrn, hm5, rfl⟩ := hp
  refine ⟨_, (pss_one (ps_ret (pe_lc (own := [("place", 2)]) (g := gName 2) (by rfl) sc_law_depends.nd (pi_range1 (by rfl) z_range (pa_cons (pv 1) pa_nil)) (blkOk_by (own := [("place", 2)]) (N := ["rows", "many", "place", "row"]) (sc := defScope s_law_depends) (by decide +kernel)) (fun _ _ _ _ _ => pg_name (i := 2) sc_law_depends.nd rfl (.inr rfl)) (fun _ _ _ _ _ => (pts_one (pt_val (pe_callB (kAny (K := K) rfl) (by rfl) z_any (by decide +kernel) (pa_cons (pe_lc (own := [("row", 3)]) (g := gName 3) (tt := tYes) (by rfl) sc_law_depends.nd (kIL (K := K) (pi_list (pc c_law_least hr (by first | decide | omega) (by rfl) (pa_cons (pv 0) pa_nil)))) (by refine blk_nest (own := [("row", 3)]) (N := ["rows", "many", "place", "row"]) ?_; decide +kernel) (fun _ _ _ _ _ => pg_name (i := 3) sc_law_depends.nd rfl (.inl rfl)) (fun _ _ _ _ _ => pts_nil) (fun _ _ _ _ _ => (pe_cmpR (inD (K := K)) (pv 2) (pv 3) rfl))) pa_nil))))) (fun _ _ _ _ _ => (pv 2))))), ?_⟩
  walk_at "in"
  walk_at "dl"
  have hsl : (scan (fun _ => true) (sortRows rs)).length ≤ 1024 := Nat.le_trans scan_len (by rw [sort_len]; exact hrn)
  refine x_lc1R (k := 2) (fun i acc w1 => acc = ((rng i).filter fun p => (scan (fun _ => true) (sortRows rs)).any fun r => decide (p ∈ r)).map .int ∧ w1 = [(T, .tab qOrd)]) (by assumption) (by omega) (by omega) ⟨rfl, rfl⟩ ?_ ?_
  · rintro i acc w1 hi ⟨rfl, rfl⟩ D4 σ4 H4 M4 hrw S4
    rw [Int.toNat_natCast] at hi
    have hfl : ((rng i).filter fun p => (scan (fun _ => true) (sortRows rs)).any fun r => decide (p ∈ r)).length ≤ 5 := Nat.le_trans (List.length_filter_le ..) (by rw [rng_len]; omega)
    have hsn : ∀ b : Bool, ((scan (fun _ => true) (sortRows rs)).any fun r => decide ((i : Int) ∈ r)) = b → (rng (i + 1)).filter (fun p => (scan (fun _ => true) (sortRows rs)).any fun r => decide (p ∈ r)) = ((rng i).filter fun p => (scan (fun _ => true) (sortRows rs)).any fun r => decide (p ∈ r)) ++ if b = true then [(i : Int)] else [] := fun b hb => by
      rw [rng_succ, List.filter_append]
      congr 1
      cases b
      · exact List.filter_cons_of_neg (by rw [hb]; decide)
      · exact List.filter_cons_of_pos hb
    rename Ds _ _ _ _ _ _ _ _ _ => S_
    simp only [List.set_cons_succ, List.set_cons_zero] at S_
    walk_at "dl"
    refine x_c1 1 (by assumption) rfl (by walk_at "slt") ⟨rs, rfl, rfl, hrl, hrn, rfl⟩ ?_
    rintro _ _ ⟨rfl, rfl⟩ H_ M_ w_ hw S_
    cases hw
    rename SetAt _ _ _ _ => hw
    cases hw
    walk_at "dl"
    generalize scan (fun _ => true) (sortRows rs) = R at *
    refine x_wlcL (vs := [3]) (fun j acc w1 => acc = ((R.take j).map fun r => decide ((i : Int) ∈ r)).map .bool ∧ w1 = _) (by assumption) (by walk_at "tm") ⟨rfl, rfl⟩ ?_ ?_
    · rintro j d acc w1 hj ⟨rfl, rfl⟩ D8 u8 H8 M8 S8
      obtain ⟨x, hx, rfl⟩ := map_at hj
      have hj2 : j < R.length := (List.getElem?_eq_some_iff.mp hx).1
      refine x_b1 S8 (by decide) fun σ9 hrw S9 => ?_
      rename Ds _ _ _ _ _ _ _ _ _ => S_
      simp only [uset, List.map_cons, List.map_nil, List.foldr_cons, List.foldr_nil, List.set_cons_succ, List.set_cons_zero] at S_
      walk_at "dl"
      exact x_lcA (by assumption) (by assumption) (by walk_at "tm") (by rw [List.length_map, List.length_map, List.length_take]; exact Nat.lt_of_lt_of_le (by omega : _ < 2000) (by decide)) ⟨by rw [take_snoc hx, List.map_append, List.map_append]; rfl, rfl⟩
    · rintro acc w1 ⟨rfl, rfl⟩ D8 H8 M8 S8
      rw [show (R.map insD).length = R.length from List.length_map .., take_all] at S8
      walk_at "dl"
      refine x_anyO 0 (by assumption) rfl ?_
      rw [show (R.map fun r => decide ((i : Int) ∈ r)).any id = R.any fun r => decide ((i : Int) ∈ r) from List.any_map ..]
      rename Ds _ _ _ _ _ _ _ _ _ => S_
      have S_ := S_.drop
      refine ⟨_, rfl, ?_⟩
      refine x_if (fun h => ?_) (fun h => ?_)
      · walk_at "dl"
        exact x_lcA (by assumption) (by assumption) (by walk_at "tm") (by rw [List.length_map]; exact Nat.lt_of_lt_of_le (by omega : _ < 2000) (by decide)) ⟨by rw [hsn true h, List.map_append]; rfl, rfl⟩
      · exact x_lcN (by assumption) (by assumption) ⟨by rw [hsn false h]; exact congrArg (List.map PyData.int) (List.append_nil _).symm, rfl⟩
  · rintro acc w1 ⟨rfl, rfl⟩ D4 H4 M4 S4
    rw [Int.toNat_natCast] at S4
    walk_at "dl"
    rename Ds _ _ _ _ _ _ _ _ _ => S_
    obtain ⟨M_, S_⟩ := S_.freeze (nd_ne S_)
    exact x_r1 (by assumption) hq (by walk_at "tm") 0 rfl ⟨rfl, rfl⟩
def pOrders : Pre := fun ss u post => ∃ ks : List Int, ss = [.d (.list (ks.map .int))] ∧ u = [] ∧ ks.length ≤ 5 ∧ post = pD fun d => d = .list ((orders ks).map insD)
theorem c_law_orders {f : Addr} {fd : FuncData} (D : Df K mg "_law_orders" s_law_orders f fd ["places"]) (z_len : mg "len" = none) (z_range : mg "range" = none) : Cl P w K mg base 1 "_law_orders" (spG K pOrders) := by
  refine D.go sc_law_orders (pOrders) (fun ss u post h => by repeat (first | (obtain ⟨rfl, _⟩ := h; rfl) | obtain ⟨_, h⟩ := h)) fun cdv A outer s H M vs Q E ss u post hr hp S hq => ?_
  obtain ⟨ks, rfl, rfl, hkl, rfl⟩ := hp
  refine ⟨_, (pss_cons (ps_set (i := 1) sc_law_orders.nd rfl (.inl rfl) (pe_lst (pa_cons (pe_tup pa_nil) pa_nil)))
      (pss_cons (ps_for PassesOwn.never rfl (kIL (K := K) (pi_list (pv 0))) (pg_name (i := 2) sc_law_orders.nd rfl (.inl rfl)) (pss_cons (ps_set (i := 3) sc_law_orders.nd rfl (.inl rfl) (pe_lst pa_nil))
      (pss_cons (ps_for PassesOwn.never rfl (kIL (K := K) (pi_list (pv 1))) (pg_name (i := 4) sc_law_orders.nd rfl (.inl rfl)) (pss_one (ps_for PassesOwn.never rfl (pi_range1 (by rfl) z_range (pa_cons (pe_op op_add (pe_callB (lenQ (K := K)) (by rfl) z_len PySem.boot_len (pa_cons (pv 4) pa_nil)) pe_int) pa_nil)) (pg_name (i := 5) sc_law_orders.nd rfl (.inl rfl)) (pss_one (ps_expr (kBM (K := K) (pe_bm PySem.F.plainAttrs_list PySem.F.slot_list_append PySem.F.type_list_append mt_append (pv 3) (pa_cons (pe_op (kCatA (K := K)) (pe_op (kCatA (K := K)) (pe_slice (kSlA (K := K)) (pv 4) po_none (po_some (pv 5))) (pe_tup (pa_cons (pv 2) pa_nil))) (pe_slice (kSlA (K := K)) (pv 4) (po_some (pv 5)) po_none)) pa_nil))))))))
      (pss_one (ps_set (i := 1) sc_law_orders.nd rfl (.inl rfl) (pv 3))))))
      (pss_one (ps_ret (pv 1))))), ?_⟩
  walk_at "in"
  walk_at "dl"
  rename Addr => p
  rename Ds _ _ _ _ _ _ _ _ _ => S_
  obtain ⟨M_, S_⟩ := S_.frz2 (i := 1) rfl List.not_mem_nil
  simp only [List.set_cons_succ, List.set_cons_zero] at S_
  refine x_forL (fun i ρ u => ρ = [.d (.list (ks.map .int)), .d (.list ((orders (ks.take i)).map insD)), .u, .u, .u, .u] ∧ u = []) (by assumption) (by walk_at "tm") ⟨rfl, rfl⟩ ?_ ?_
  · rintro i d ρ1 u1 hi ⟨rfl, rfl⟩ v1 σ1 H1 M1 S1
    obtain ⟨x, hx, rfl⟩ := map_at hi
    have hi2 : i < ks.length := (List.getElem?_eq_some_iff.mp hx).1
    have hos := orders_snoc (ps := ks.take i) (p := x)
    rw [← take_snoc hx] at hos
    have htl : (ks.take i).length ≤ 4 := by rw [List.length_take]; omega
    have hol := ordersN (ks := ks.take i) (by omega)
    have hfl := fac_le (ks.take i).length (by omega)
    have hf24 : (orders (ks.take i)).length ≤ 24 := by
      rw [hol]
      have : ∀ n < 5, fac n ≤ 24 := by decide +kernel
      exact this _ (by omega)
    have hox : ∀ o ∈ orders (ks.take i), o.length ≤ 4 := fun o ho => by rw [(orders_perm ho).length_eq]; exact htl
    generalize orders (ks.take i) = L at *
    walk_at "dl"
    rename Addr => q
    refine x_forL (fun j ρ u => ρ = [.d (.list (ks.map .int)), .d (.list (L.map insD)), .d (.int x), .v (.ref q), .u, .u] ∧ u = [(q, .lst (((L.take j).flatMap (ins1 x)).map insD))]) (by assumption) (by walk_at "tm") ⟨rfl, rfl⟩ ?_ ?_
    · rintro j d ρ2 u2 hj ⟨rfl, rfl⟩ v2 σ2 H2 M2 S2
      obtain ⟨o, ho, rfl⟩ := map_at hj
      have hj2 : j < L.length := (List.getElem?_eq_some_iff.mp ho).1
      have ho4 := hox o (List.mem_of_getElem? ho)
      have hbl := ins_len (p := x) (L := L.take j) fun y hy => by have := hox y (List.mem_of_mem_take hy); omega
      rw [List.length_take] at hbl
      walk_at "dl"
      rw [List.length_map]
      refine x_forR (fun k ρ u => ρ = [.d (.list (ks.map .int)), .d (.list (L.map insD)), .d (.int x), .v (.ref q), .d (insD o), .u] ∧ u = [(q, .lst ((((L.take j).flatMap (ins1 x)) ++ ((List.range k).map fun i => o.take i ++ x :: o.drop i)).map insD))]) (by assumption) (by omega) (by omega) ⟨rfl, by show _ = [(q, Od.lst ((_ ++ []).map insD))]; rw [List.append_nil]⟩ ?_ ?_
      · rintro k ρ3 u3 hk ⟨rfl, rfl⟩ σ3 H3 M3 S3
        have hk : k ≤ o.length := by omega
        walk_at "dl"
        have e1 : cutI (o.map PyData.int) none (some (k : Int)) = (o.take k).map .int := by rw [cutI_toP, List.map_take]
        have e2 : cutI (o.map PyData.int) (some (k : Int)) none = (o.drop k).map .int := by rw [cutI_fromP (by rw [List.length_map]; exact hk), List.map_drop]
        rename Ds _ _ _ _ _ _ _ _ _ => S_
        rw [e1] at S_
        have hL : ∀ n : Nat, n ≤ 100 → n ≤ sizeLine := fun n h => Nat.le_trans h (by decide)
        refine x_catT (by assumption) (by walk_at "tm") (by walk_at "tm") (hL _ (by rw [List.length_map, List.length_take]; show _ + 1 ≤ 100; omega)) fun u_ H_ M_ S_ => ?_
        walk_at "dl"
        rename Ds _ _ _ _ _ _ _ _ _ => S_
        rw [e2] at S_
        refine x_catT (by assumption) (by walk_at "tm") (by walk_at "tm") (hL _ (by rw [List.length_append, List.length_map, List.length_map, List.length_take, List.length_drop]; show _ + 1 + _ ≤ 100; omega)) fun u_ H_ M_ S_ => ?_
        walk_at "dl"
        refine x_appK 0 (by assumption) rfl (by walk_at "tm") (by rw [List.length_map, List.length_append, List.length_map, List.length_range]; exact Nat.lt_of_lt_of_le (by omega : _ < 1001) (by decide)) (by walk_at "set") fun H_ S_ => ?_
        walk_at "dl"
        exact Nx.at (by assumption) (by walk_at "le") ⟨rfl, by simp only [List.range_succ, List.map_append, List.map_cons, List.map_nil, List.append_assoc, List.cons_append, List.nil_append, insD]⟩
      · rintro ρ3 u3 ⟨rfl, rfl⟩ σ3 H3 M3 S3
        rw [show ((o.length : Int) + 1).toNat = o.length + 1 by omega] at S3
        walk_at "dl"
        exact Nx.at (by assumption) (by walk_at "le") ⟨rfl, by rw [take_snoc ho, List.flatMap_append]; show _ = [(q, Od.lst ((_ ++ (ins1 x o ++ [])).map insD))]; rw [List.append_nil]; rfl⟩
    · rintro ρ2 u2 ⟨rfl, rfl⟩ σ2 H2 M2 S2
      rw [show (L.map insD).length = L.length from List.length_map .., take_all, ← hos] at S2
      rename Ds _ _ _ _ _ _ _ _ _ => S_
      obtain ⟨M_, S_⟩ := S_.frz2 (i := 3) rfl List.not_mem_nil
      simp only [List.set_cons_succ, List.set_cons_zero] at S_
      walk_at "dl"
      exact Nx.at (by assumption) (by walk_at "le") ⟨rfl, rfl⟩
  · rintro ρ1 u1 ⟨rfl, rfl⟩ σ1 H1 M1 S1
    rw [show (ks.map PyData.int).length = ks.length from List.length_map .., take_all] at S1
    walk_at "dl"
    exact x_rD (by assumption) hq (by walk_at "tm") rfl
end
open Tr
def cnts (ks PV : List Int) : List Int := ks.map fun a => (PV.count a : Int)
theorem cnt_set {ks PV : List Int} (nd : ks.Nodup) {x : Int} (hx : x ∈ ks) : (cnts ks PV).set (ks.idxOf x) ((PV.count x : Int) + 1) = cnts ks (PV ++ [x]) := by
  apply List.ext_getElem?
  intro i
  have hl := List.idxOf_lt_length_of_mem hx
  have hg : ks[ks.idxOf x] = x := List.getElem_idxOf hl
  unfold cnts
  rw [List.getElem?_set, List.getElem?_map, List.getElem?_map, List.length_map]
  by_cases h : i < ks.length
  · rw [List.getElem?_eq_getElem h]
    by_cases e : ks.idxOf x = i
    · subst e
      rw [if_pos rfl, if_pos hl, hg]
      show some ((PV.count x : Int) + 1) = some (((PV ++ [x]).count x : Nat) : Int)
      rw [List.count_append, show [x].count x = 1 by simp, Int.natCast_add]
      rfl
    · have ne : ¬ x = ks[i] := fun z => e ((List.getElem_inj nd).mp (hg.trans z))
      rw [if_neg e]
      show some ((PV.count ks[i] : Nat) : Int) = some (((PV ++ [x]).count ks[i] : Nat) : Int)
      rw [List.count_append, show [x].count ks[i] = 0 by simp [ne], Nat.add_zero]
  · rw [List.getElem?_eq_none (by omega), if_neg (by omega)]
    rfl
theorem sum_one {x : Int} : ∀ {ks : List Int}, ks.Nodup → (ks.map fun a => (if x = a then (1 : Int) else 0)).sum = if x ∈ ks then 1 else 0
  | [], _ => rfl
  | a :: ks, h => by
    obtain ⟨h1, h2⟩ := List.nodup_cons.mp h
    rw [List.map_cons, List.sum_cons, sum_one h2]
    by_cases e : x = a
    · subst e
      rw [if_pos rfl, if_neg h1, if_pos (List.mem_cons_self ..)]
      rfl
    · rw [if_neg e, Int.zero_add]
      by_cases q : x ∈ ks
      · rw [if_pos q, if_pos (List.mem_cons_of_mem _ q)]
      · rw [if_neg q, if_neg fun z => (List.mem_cons.mp z).elim e q]
theorem sum_addI {α : Type} {f g : α → Int} : ∀ l : List α, (l.map fun a => f a + g a).sum = (l.map f).sum + (l.map g).sum
  | [] => rfl
  | a :: l => by
    rw [List.map_cons, List.map_cons, List.map_cons, List.sum_cons, List.sum_cons, List.sum_cons, sum_addI l]
    omega
theorem sum_cnts {ks : List Int} (nd : ks.Nodup) : ∀ {PV : List Int}, (∀ x ∈ PV, x ∈ ks) → (cnts ks PV).sum = PV.length
  | [], _ => by
    have : ∀ l : List Int, (l.map fun a => (([] : List Int).count a : Int)).sum = 0 := fun l => by
      induction l with
      | nil => rfl
      | cons a l ih => rw [List.map_cons, List.sum_cons, ih]; rfl
    exact this ks
  | x :: PV, h => by
    have e : cnts ks (x :: PV) = ks.map fun a => (if x = a then (1 : Int) else 0) + (PV.count a : Int) := by
      refine List.map_congr_left fun a _ => ?_
      rw [List.count_cons, Int.natCast_add, Int.add_comm]
      congr 1
      by_cases q : x = a
      · subst q
        simp
      · simp [q]
    rw [e, sum_addI, sum_one nd, if_pos (h x (List.mem_cons_self ..)), show (ks.map fun a => (PV.count a : Int)).sum = (cnts ks PV).sum from rfl, sum_cnts nd fun y hy => h y (List.mem_cons_of_mem _ hy), List.length_cons]
    omega
theorem flat_const {f : List Int → List Int} {c : Nat} : ∀ {L : List (List Int)}, (∀ o ∈ L, (f o).length = c) → (L.flatMap f).length = L.length * c
  | [], _ => (Nat.zero_mul c).symm
  | o :: L, h => by
    rw [List.flatMap_cons, List.length_append, h o (List.mem_cons_self ..), flat_const fun y hy => h y (List.mem_cons_of_mem _ hy), List.length_cons, Nat.succ_mul]
    omega
theorem flat_count {f : List Int → List Int} {a : Int} {p : List Int → Bool} : ∀ {L : List (List Int)}, (∀ o ∈ L, (f o).count a = if p o = true then 1 else 0) → (L.flatMap f).count a = L.countP p
  | [], _ => rfl
  | o :: L, h => by
    rw [List.flatMap_cons, List.count_append, h o (List.mem_cons_self ..), flat_count fun y hy => h y (List.mem_cons_of_mem _ hy), List.countP_cons]
    omega
def hF (rs : List (List Int)) (x : List Int) : Bool := famB rs fun k => decide (k ∈ x)
theorem hF_mono {rs : List (List Int)} : ∀ x y : List Int, (∀ z ∈ x, z ∈ y) → hF rs x = true → hF rs y = true := fun _ _ h => fam_mono h
theorem hF_eq {rs : List (List Int)} {x y : List Int} (h : ∀ z, z ∈ x ↔ z ∈ y) : hF rs x = hF rs y := by
  unfold hF
  congr 1
  exact funext fun k => decide_eq_decide.mpr (h k)
def allPv (rs : List (List Int)) (L : List (List Int)) : List Int := L.flatMap fun o => pvs (hF rs) o o.length
theorem take_idx {o : List Int} {a : Int} (ha : a ∈ o) : o.take (o.idxOf a + 1) = o.take (o.idxOf a) ++ [a] := by
  have hl := List.idxOf_lt_length_of_mem ha
  rw [List.take_succ, List.getElem?_eq_getElem hl, List.getElem_idxOf hl]
  rfl
theorem allPv_len {rs : List (List Int)} {ks : List Int} : (allPv rs (orders ks)).length = (orders ks).length * if (hF rs ks && !hF rs []) = true then 1 else 0 := by
  refine flat_const fun o ho => ?_
  rw [pvs_len hF_mono, List.take_length, hF_eq fun z => (orders_perm ho).mem_iff]
theorem allPv_mem {rs : List (List Int)} {ks : List Int} {L : List (List Int)} (hL : ∀ o ∈ L, o.Perm ks) {x : Int} (hx : x ∈ allPv rs L) : x ∈ ks := by
  obtain ⟨o, ho, h⟩ := List.mem_flatMap.mp hx
  exact (hL o ho).mem_iff.mp (pvs_mem (Nat.le_refl _) h)
theorem allPv_count {rs : List (List Int)} {t : Tr} (hev : ∀ S, t.ev S = famB rs S) {ks : List Int} (nd : ks.Nodup) (h5 : ks.length ≤ 5) {a : Int} (ha : a ∈ ks) : (allPv rs (orders ks)).count a = shSum (gOf t a) ks.length (lsubs (wo ks [a])) := by
  rw [← order_sum nd h5 ha (g := gOf t a) fun x y h => ?_]
  · refine flat_count fun o ho => ?_
    have hp := orders_perm ho
    have hao := hp.mem_iff.mpr ha
    have hndo : o.Nodup := hp.nodup_iff.mpr nd
    rw [pvs_count hndo hao _ (Nat.le_refl _)]
    have hl := List.idxOf_lt_length_of_mem hao
    have e : turn (hF rs) o (o.idxOf a) = gOf t a (o.take (o.idxOf a)) := by
      unfold turn gOf
      rw [take_idx hao, hev, hev, Bool.and_comm]
      rfl
    rw [e]
    by_cases q : gOf t a (o.take (o.idxOf a)) = true
    · rw [if_pos ⟨hl, q⟩, if_pos q]
    · rw [if_neg fun z => q z.2, if_neg q]
  · unfold gOf
    rw [show (fun k => decide (k ∈ x)) = (fun k => decide (k ∈ y)) from funext fun k => decide_eq_decide.mpr (h k), show (fun k => decide (k ∈ x ++ [a])) = (fun k => decide (k ∈ y ++ [a])) from funext fun k => decide_eq_decide.mpr (by rw [List.mem_append, List.mem_append, h])]
section
variable {P : Program} {w : World} {K : PySem.W.Frag} {mg : Str → Option Value} {base : Heap} {T : Addr}
theorem ok_law {f : Addr} {fd : FuncData} (F : Fun K "law" "law" s_law f fd) (c_law_cell : Cl P w K mg base 1 "_law_cell" (spG K pCell)) (c_law_family : Cl P w K mg base 3 "_law_family" (spG K pFamily)) (c_law_set : Cl P w K mg base 3 "_law_set" (spG K pSet)) (c_law_table : Cl P w K mg base 8 "_law_table" (spG K pTable)) (c_shares : Cl P w K mg base 3 "shares" (spG K pShares))
    (c_law_depends : Cl P w K mg base 4 "_law_depends" (spG K (pDeps T))) (c_law_orders : Cl P w K mg base 1 "_law_orders" (spG K pOrders)) (c_law_holds : Cl P w K mg base 2 "_law_holds" (spG K pHoldsF)) (c_law_same : Cl P w K mg base 5 "_law_same" (spG K (pSame 4))) (c_law_fraction : Cl P w K mg base 2 "_law_fraction" (spG K pLawFrac))
    (z_int : mg "int" = none) (z_tuple : mg "tuple" = none) (z_len : mg "len" = none) (z_range : mg "range" = none) (z_sum : mg "sum" = none) (z_isinstance : mg "isinstance" = none) : FnOk P w K mg base CX0 12 f fd ["script"] (spLawT K T) := by
  refine law_goT qOrd F sc_law fun cdv A outer s H M vs Q E ns hr h63 S hq => ?_
  refine ⟨_, (pss_cons (ps_set (i := 1) sc_law.nd rfl (.inl rfl) (pe_op op_add pe_int (pe_op op_mod (pe_callTy call_intD (by rfl) z_int (by decide +kernel) (pa_cons (pc c_law_cell hr (by first | decide | omega) (by rfl) (pa_cons (pv 0) (pa_cons pe_int pa_nil))) pa_nil)) pe_int)))
      (pss_cons (ps_set (i := 2) sc_law.nd rfl (.inl rfl) (pc c_law_family hr (by first | decide | omega) (by rfl) (pa_cons (pv 0) (pa_cons pe_int (pa_cons (pv 1) pa_nil)))))
      (pss_cons (ps_set (i := 3) sc_law.nd rfl (.inr rfl) (pc c_law_set hr (by first | decide | omega) (by rfl) (pa_cons (pv 0) (pa_cons pe_int (pa_cons (pv 1) pa_nil)))))
      (pss_cons (ps_setLc (i := 4) (own := [("place", 12)]) (g := gName 12) (by rfl) sc_law.nd rfl rfl (sw_true rfl rfl rfl (by decide +kernel)) (kIL (K := K) (pi_list (pc c_law_depends hr (by first | decide | omega) (by rfl) (pa_cons (pv 2) (pa_cons (pv 1) pa_nil))))) (blkOk_by (own := [("place", 12)]) (N := ["script", "many", "rows", "taken", "concerned", "orders", "counts", "order", "at", "whole", "actual", "k", "place"]) (sc := defScope s_law) (by decide +kernel)) (fun _ _ _ _ _ => pg_name (i := 12) sc_law.nd rfl (.inl rfl)) (fun _ _ _ _ _ => (pts_one (pt_cmpR (inD (K := K)) (pv 12) (pv 3) rfl))) (fun _ _ _ _ _ => (pv 12)))
      (pss_cons (ps_set (i := 5) sc_law.nd rfl (.inl rfl) (pc c_law_orders hr (by first | decide | omega) (by rfl) (pa_cons (pv 4) pa_nil)))
      (pss_cons (ps_setLc (i := 6) (own := [("place", 12)]) (g := gName 12) (tt := tYes) (by rfl) sc_law.nd rfl rfl (sw_true rfl rfl rfl (by decide +kernel)) (kIL (K := K) (pi_list (pv 4))) (blkOk_by (own := [("place", 12)]) (N := ["script", "many", "rows", "taken", "concerned", "orders", "counts", "order", "at", "whole", "actual", "k", "place"]) (sc := defScope s_law) (by decide +kernel)) (fun _ _ _ _ _ => pg_name (i := 12) sc_law.nd rfl (.inl rfl)) (fun _ _ _ _ _ => pts_nil) (fun _ _ _ _ _ => pe_int))
      (pss_cons (ps_for PassesOwn.never rfl (kIL (K := K) (pi_list (pv 5))) (pg_name (i := 7) sc_law.nd rfl (.inl rfl)) (pss_one (ps_for PassesOwn.never rfl (pi_range1 (by rfl) z_range (pa_cons (pe_callB (lenQ (K := K)) (by rfl) z_len PySem.boot_len (pa_cons (pv 7) pa_nil)) pa_nil)) (pg_name (i := 8) sc_law.nd rfl (.inl rfl)) (pss_one (ps_if (PW.pt (pw_and (pt_val (pc c_law_holds hr (by first | decide | omega) (by rfl) (pa_cons (pv 2) (pa_cons (pe_slice (kSlA (K := K)) (pv 7) po_none (po_some (pe_op op_add (pv 8) pe_int))) pa_nil)))) (pw_and1 (pt_not (pt_val (pc c_law_holds hr (by first | decide | omega) (by rfl) (pa_cons (pv 2) (pa_cons (pe_slice (kSlA (K := K)) (pv 7) po_none (po_some (pv 8))) pa_nil)))))))) (pss_one (ps_augS (pv 6) (kBM (K := K) (pe_bm PySem.F.plainAttrs_list PySem.F.slot_list_index PySem.F.type_list_index (kLstIx (K := K) (u65 hr)) (pv 4) (pa_cons (pe_ix (ixT (K := K)) (pv 7) (pv 8) (fun _ _ => rfl)) pa_nil))) (kGetL (K := K)) pe_int ip_add set_list)) pss_nil)))))
      (Evl.pss_cut (ps_set (i := 9) sc_law.nd rfl (.inl rfl) (pe_and (pc c_law_holds hr (by first | decide | omega) (by rfl) (pa_cons (pv 2) (pa_cons (pv 4) pa_nil))) (pe_one (pe_not (pc c_law_holds hr (by first | decide | omega) (by rfl) (pa_cons (pv 2) (pa_cons (pe_lst pa_nil) pa_nil)))))))
      (pss_cons (ps_if (pt_cmpR op_ne (pe_callB (kSum (K := K) rfl) (by rfl) z_sum (by decide +kernel) (pa_cons (pv 6) pa_nil)) (pe_op op_mul (pe_callB (lenQ (K := K)) (by rfl) z_len PySem.boot_len (pa_cons (pv 5) pa_nil)) (pe_callTy call_intD (by rfl) z_int (by decide +kernel) (pa_cons (pv 9) pa_nil))) (nomark _)) (pss_one (ps_ret pe_bl)) pss_nil)
      (pss_cons (ps_set (i := 10) sc_law.nd rfl (.inl rfl) (pc c_shares hr (by first | decide | omega) (by rfl) (pa_cons (pc c_law_table hr (by first | decide | omega) (by rfl) (pa_cons (pv 2) (pa_cons (pv 1) pa_nil))) (pa_cons (pv 3) pa_nil))))
      (pss_cons (ps_if (PW.pt (pw_or (pt_not (pt_val (pe_callB (kIsi (K := K)) (by rfl) z_isinstance (by decide +kernel) (pa_cons (pv 10) (pa_cons (pe_bltn (v := .ty "tuple") (u := .type "tuple") (by rfl) z_tuple (by decide +kernel) rfl) pa_nil))))) (pw_or1 (pt_cmpR op_ne (pe_callB (lenQ (K := K)) (by rfl) z_len PySem.boot_len (pa_cons (pv 10) pa_nil)) (pe_callB (lenQ (K := K)) (by rfl) z_len PySem.boot_len (pa_cons (pv 4) pa_nil)) (nomark _))))) (pss_one (ps_ret pe_bl)) pss_nil)
      (pss_cons (ps_for PassesOwn.never rfl (pi_range1 (by rfl) z_range (pa_cons (pe_callB (lenQ (K := K)) (by rfl) z_len PySem.boot_len (pa_cons (pv 4) pa_nil)) pa_nil)) (pg_name (i := 11) sc_law.nd rfl (.inl rfl)) (pss_cons (ps_if (PW.pt (pw_or (pt_not (pt_val (pe_callB (kIsi (K := K)) (by rfl) z_isinstance (by decide +kernel) (pa_cons (pe_ix (ixT (K := K)) (pv 10) (pv 11) (fun _ _ => rfl)) (pa_cons (pe_bltn (v := .ty "tuple") (u := .type "tuple") (by rfl) z_tuple (by decide +kernel) rfl) pa_nil))))) (pw_or (pt_cmpR op_ne (pe_callB (lenQ (K := K)) (by rfl) z_len PySem.boot_len (pa_cons (pe_ix (ixT (K := K)) (pv 10) (pv 11) (fun _ _ => rfl)) pa_nil)) pe_int (nomark _)) (pw_or1 (pt_not (pt_val (pc c_law_same hr (by first | decide | omega) (by rfl) (pa_cons (pe_ix (ixT (K := K)) (pe_ix (ixT (K := K)) (pv 10) (pv 11) (fun _ _ => rfl)) pe_int (fun _ _ => rfl)) (pa_cons (pe_ix (ixL (K := K)) (pv 4) (pv 11) (fun _ _ => rfl)) pa_nil))))))))) (pss_one (ps_ret pe_bl)) pss_nil)
      (pss_one (ps_if (pt_not (pt_val (pc c_law_fraction hr (by first | decide | omega) (by rfl) (pa_cons (pe_ix (ixT (K := K)) (pe_ix (ixT (K := K)) (pv 10) (pv 11) (fun _ _ => rfl)) pe_int (fun _ _ => rfl)) (pa_cons (pe_ix (ixL (K := K)) (pv 6) (pv 11) (fun _ _ => rfl)) (pa_cons (pe_callB (lenQ (K := K)) (by rfl) z_len PySem.boot_len (pa_cons (pv 5) pa_nil)) pa_nil)))))) (pss_one (ps_ret pe_bl)) pss_nil))))
      (pss_one (ps_ret pe_bl)))))))))))))), ?_⟩
  walk_at "in"
  walk_at "dl"
  refine x_cD (by assumption) (by walk_at "slt") ⟨ns, 0, rfl, rfl, by decide, rfl⟩ ?_
  rintro _ ⟨k, rfl⟩ H_ M_ S_
  walk_at "dl"
  have e0 := Int.emod_nonneg k (show (5 : Int) ≠ 0 by decide)
  have e1 := Int.emod_lt_of_pos k (show (0 : Int) < 5 by decide)
  obtain ⟨m, hm⟩ : ∃ m : Nat, 1 + k % 5 = (m : Int) := ⟨(1 + k % 5).toNat, by omega⟩
  have hm5 : m ≤ 5 := by omega
  rename Ds _ _ _ _ _ _ _ _ _ => S_
  rw [hm] at S_ ⊢
  walk_at "dl"
  refine x_cO (by assumption) (by walk_at "slt") ⟨ns, 1, m, rfl, rfl, by decide, by omega, rfl⟩ ?_
  rintro _ ⟨rs, rfl, hrl, hrs⟩ p H_ M_ S_
  walk_at "dl"
  rename Ds _ _ _ _ _ _ _ _ _ => S_
  obtain ⟨M_, S_⟩ := S_.frz2 (i := 2) rfl (nd_ne S_)
  simp only [List.set_cons_succ, List.set_cons_zero] at S_
  have hr10 : ∀ r ∈ rs, r.length ≤ 5 := fun r hr => by have := sub_len (hrs r hr); omega
  walk_at "dl"
  refine x_cD (by assumption) (by walk_at "slt") ⟨ns, 3, m, rfl, rfl, by decide, by omega, rfl⟩ ?_
  rintro _ ⟨tk, rfl, htk⟩ H_ M_ S_
  walk_at "dl"
  have htl := sub_len htk
  have hta := sub_asc htk
  refine x_c1 0 (by assumption) rfl (by walk_at "slt") ⟨rs, m, rfl, rfl, fun r hr => by have := hr10 r hr; omega, by omega, hm5, rfl⟩ ?_
  rintro _ _ ⟨rfl, rfl⟩ H_ M_ w_ hw S_
  cases hw
  walk_at "dl"
  have hdl : (depsOf rs m).length ≤ 5 := Nat.le_trans (List.length_filter_le ..) (by rw [rng_len]; exact hm5)
  have hda : Asc (depsOf rs m) := (asc_of List.filter_sublist rng_sorted)
  have hdm : ∀ x, x ∈ depsOf rs m ↔ x ∈ rng m ∧ ((scan (fun _ => true) (sortRows rs)).any fun r => decide (x ∈ r)) = true := fun x => List.mem_filter
  generalize depsOf rs m = ds at *
  refine x_wlcL (vs := [12]) (fun i acc w1 => acc = ((ds.take i).filter fun a => decide (a ∈ tk)).map .int ∧ w1 = [(T, .tab qOrd)]) (by assumption) (by walk_at "tm") ⟨rfl, rfl⟩ ?_ ?_
  · rintro i d acc w1 hi ⟨rfl, rfl⟩ D4 u4 H4 M4 S4
    obtain ⟨a, ha, rfl⟩ := map_at hi
    have hfl : ((ds.take i).filter fun a => decide (a ∈ tk)).length ≤ 5 := Nat.le_trans (List.length_filter_le ..) (by rw [List.length_take]; omega)
    refine x_b1 S4 (by decide) fun σ5 hrw S5 => ?_
    rename Ds _ _ _ _ _ _ _ _ _ => S_
    simp only [uset, List.map_cons, List.map_nil, List.foldr_cons, List.foldr_nil, List.set_cons_succ, List.set_cons_zero] at S_
    walk_at "dl"
    refine x_if (fun h => ?_) (fun h => ?_)
    · walk_at "dl"
      exact x_lcA (by assumption) (by assumption) (by walk_at "tm") (by rw [List.length_map]; exact Nat.lt_of_lt_of_le (by omega : _ < 2000) (by decide)) ⟨by rw [take_snoc ha, List.filter_append, fil_t (p := fun a => decide (a ∈ tk)) h, List.map_append]; rfl, rfl⟩
    · exact x_lcN (by assumption) (by assumption) ⟨by rw [take_snoc ha, List.filter_append, fil_f (p := fun a => decide (a ∈ tk)) h, List.append_nil], rfl⟩
  rintro acc w1 ⟨rfl, rfl⟩ D4 H4 M4 S4
  rw [show (ds.map PyData.int).length = ds.length from List.length_map .., take_all] at S4
  have hcl : (ds.filter fun a => decide (a ∈ tk)).length ≤ 5 := Nat.le_trans (List.length_filter_le ..) hdl
  have hca : Asc (ds.filter fun a => decide (a ∈ tk)) := hda.filter _
  have hcm : ∀ x, x ∈ (ds.filter fun a => decide (a ∈ tk)) ↔ (x ∈ rng m ∧ ((scan (fun _ => true) (sortRows rs)).any fun r => decide (x ∈ r)) = true) ∧ x ∈ tk := fun x => by rw [List.mem_filter, hdm, decide_eq_true_iff]
  generalize (ds.filter fun a => decide (a ∈ tk)) = ks at *
  have hnd : ks.Nodup := hca.imp fun {a b} q e => by omega
  walk_at "dl"
  rename Ds _ _ _ _ _ _ _ _ _ => S_
  obtain ⟨M_, S_⟩ := S_.frz2 (i := 4) rfl (nd_ne S_)
  simp only [List.set_cons_succ, List.set_cons_zero] at S_
  walk_at "dl"
  refine x_cD (by assumption) (by walk_at "slt") ⟨ks, rfl, rfl, hcl, rfl⟩ ?_
  rintro _ rfl H_ M_ S_
  walk_at "dl"
  have hol := ordersN hcl
  have hofl := fac_le ks.length (by omega)
  refine x_wlcL (vs := [12]) (fun i acc w1 => acc = ((cnts (ks.take i) []).map .int) ∧ w1 = [(T, .tab qOrd)]) (by assumption) (by walk_at "tm") ⟨rfl, rfl⟩ ?_ ?_
  · rintro i d acc w1 hi ⟨rfl, rfl⟩ D5 u5 H5 M5 S5
    obtain ⟨a, ha, rfl⟩ := map_at hi
    refine x_b1 S5 (by decide) fun σ5 hrw S5 => ?_
    rename Ds _ _ _ _ _ _ _ _ _ => S_
    simp only [uset, List.map_cons, List.map_nil, List.foldr_cons, List.foldr_nil, List.set_cons_succ, List.set_cons_zero] at S_
    walk_at "dl"
    exact x_lcA (by assumption) (by assumption) (by walk_at "tm") (by rw [List.length_map, cnts, List.length_map, List.length_take]; exact Nat.lt_of_lt_of_le (by omega : _ < 2000) (by decide)) ⟨by rw [take_snoc ha, cnts, cnts, List.map_append, List.map_append]; rfl, rfl⟩
  rintro acc w1 ⟨rfl, rfl⟩ c H5 M5 S5
  rw [show (ks.map PyData.int).length = ks.length from List.length_map .., take_all] at S5
  walk_at "dl"
  refine x_forL (fun i ρ u => ∃ PV : List Int, PV = allPv rs ((orders ks).take i) ∧ ρ = [.d (.list (ns.map .int)), .d (.int m), .d (.list (rs.map insD)), .d (insD tk), .d (.list (ks.map .int)), .d (.list ((orders ks).map insD)), .v (.ref c), .u, .u, .u, .u, .u, .u] ∧ u = [(c, .lst ((cnts ks PV).map .int)), (T, .tab qOrd)]) (by assumption) (by walk_at "tm") ⟨[], rfl, rfl, rfl⟩ ?_ ?_
  · rintro i d ρ1 u1 hi ⟨PV, hPV, rfl, rfl⟩ v1 σ1 H1 M1 S1
    obtain ⟨o, ho, rfl⟩ := map_at hi
    have hop := orders_perm (List.mem_of_getElem? ho)
    have hol5 : o.length ≤ 5 := by rw [hop.length_eq]; exact hcl
    have hPn : allPv rs ((orders ks).take (i + 1)) = PV ++ pvs (hF rs) o o.length := by
      rw [take_snoc ho, hPV]
      unfold allPv
      rw [List.flatMap_append, List.flatMap_cons, List.flatMap_nil, List.append_nil]
    walk_at "dl"
    rw [List.length_map]
    refine x_forR (fun j ρ u => ∃ PV' : List Int, PV' = PV ++ pvs (hF rs) o j ∧ ρ = [.d (.list (ns.map .int)), .d (.int m), .d (.list (rs.map insD)), .d (insD tk), .d (.list (ks.map .int)), .d (.list ((orders ks).map insD)), .v (.ref c), .d (insD o), .u, .u, .u, .u, .u] ∧ u = [(c, .lst ((cnts ks PV').map .int)), (T, .tab qOrd)]) (by assumption) (by omega) (by omega) ⟨PV, (List.append_nil PV).symm, rfl, rfl⟩ ?_ ?_
    · rintro j ρ2 u2 hj ⟨PV', hPV', rfl, rfl⟩ σ2 H2 M2 S2
      rw [Int.toNat_natCast] at hj
      have hps := pvs_succ (h := hF rs) (o := o) (j := j)
      have hdef : turn (hF rs) o j = ((famB rs fun k => decide (k ∈ o.take (j + 1))) && !famB rs fun k => decide (k ∈ o.take j)) := rfl
      have ea : cutI (o.map PyData.int) none (some ((j : Int) + 1)) = (o.take (j + 1)).map .int := by rw [show ((j : Int) + 1) = ((j + 1 : Nat) : Int) from rfl, cutI_toP, List.map_take]
      have eb : cutI (o.map PyData.int) none (some (j : Int)) = (o.take j).map .int := by rw [cutI_toP, List.map_take]
      walk_at "dl"
      rename Ds _ _ _ _ _ _ _ _ _ => S_
      rw [ea] at S_
      refine x_cD (by assumption) (by walk_at "slt") ⟨rs, o.take (j + 1), _, .inr rfl, rfl, rfl, by omega, fun r hr => by have := hr10 r hr; omega, rfl⟩ ?_
      rintro _ rfl H_ M_ S_
      walk_at "dl"
      refine x_if (fun h => ?_) (fun h => ?_)
      · walk_at "dl"
        rename Ds _ _ _ _ _ _ _ _ _ => S_
        rw [eb] at S_
        refine x_cD (by assumption) (by walk_at "slt") ⟨rs, o.take j, _, .inr rfl, rfl, rfl, by omega, fun r hr => by have := hr10 r hr; omega, rfl⟩ ?_
        rintro _ rfl H_ M_ S_
        walk_at "dl"
        refine x_if (fun h2 => ?_) (fun h2 => ?_)
        · have hx : o[j]? = some (o.getD j 0) := by rw [List.getD_eq_getElem?_getD, List.getElem?_eq_getElem hj]; rfl
          have hxk : o.getD j 0 ∈ ks := hop.mem_iff.mp (List.mem_of_getElem? hx)
          rw [hdef, h, h2, if_pos (show (true && true) = true from rfl)] at hps
          generalize o.getD j 0 = x at *
          have hg := cnt_set (PV := PV') hnd hxk
          have hil := List.idxOf_lt_length_of_mem hxk
          have hat : atI (o.map PyData.int) (j : Int) = some (.int x) := at_nat hx
          have hac : atI ((cnts ks PV').map PyData.int) ((ks.idxOf x : Nat) : Int) = some (.int (PV'.count x : Nat)) := at_nat (by
            unfold cnts
            rw [List.getElem?_map, List.getElem?_eq_getElem hil, List.getElem_idxOf hil]
            rfl)
          have hix : ixN ((cnts ks PV').map PyData.int).length ((ks.idxOf x : Nat) : Int) = some (ks.idxOf x) := by
            unfold ixN
            rw [List.length_map, cnts, List.length_map]
            simp [hil]
          walk_at "dl"
          refine x_ixT (by assumption) (by walk_at "tm") hat ?_
          walk_at "dl"
          refine x_lixK Enc.int (xs := ks) (c := x) (by assumption) (by walk_at "tm") (by walk_at "tm") (by decide : 0 ≤ 64) (fun _ _ => (by decide : 0 ≤ 63)) hxk ?_
          refine x_getL 0 (by assumption) rfl (by omega) hac ?_
          walk_at "dl"
          refine ⟨_, _, rfl, rfl, ?_⟩
          refine x_setO 0 (by assumption) rfl hix (d := .int ((PV'.count x : Int) + 1)) (by walk_at "tm") (by walk_at "set") fun H_ S_ => ?_
          rw [show ((cnts ks PV').map PyData.int).set (ks.idxOf x) (.int ((PV'.count x : Int) + 1)) = (cnts ks (PV' ++ [x])).map .int by rw [← hg, List.map_set]] at S_
          exact Nx.at (by assumption) (by walk_at "le") ⟨PV' ++ [x], by rw [hps, hPV', List.append_assoc], rfl, rfl⟩
        · walk_at "dl"
          exact Nx.at (by assumption) (by walk_at "le") ⟨PV', by rw [hps, hdef, h, h2, hPV']; exact congrArg (PV ++ ·) (List.append_nil _).symm, rfl, rfl⟩
      · walk_at "dl"
        exact Nx.at (by assumption) (by walk_at "le") ⟨PV', by rw [hps, hdef, h, hPV']; exact congrArg (PV ++ ·) (List.append_nil _).symm, rfl, rfl⟩
    · rintro ρ2 u2 ⟨PV', hPV', rfl, rfl⟩ σ2 H2 M2 S2
      rw [Int.toNat_natCast] at hPV'
      walk_at "dl"
      exact Nx.at (by assumption) (by walk_at "le") ⟨PV', by rw [hPV', hPn], rfl, rfl⟩
  · rintro ρ1 u1 ⟨PV, hPV, rfl, rfl⟩ σ1 H1 M1 S1
    rw [show ((orders ks).map insD).length = (orders ks).length from List.length_map .., take_all] at hPV
    have hlen := allPv_len (rs := rs) (ks := ks)
    have hsum := sum_cnts hnd (PV := allPv rs (orders ks)) fun x hx => allPv_mem (fun o ho => orders_perm ho) hx
    rw [← hPV] at hlen hsum
    have hksl : ks.length ≤ 1000 := by omega
    walk_at "dl"
    refine x_cut (fun ρ u => ρ = [.d (.list (ns.map .int)), .d (.int m), .d (.list (rs.map insD)), .d (insD tk), .d (.list (ks.map .int)), .d (.list ((orders ks).map insD)), .v (.ref c), .u, .u, .d (.bool (hF rs ks && !hF rs [])), .u, .u, .u] ∧ u = [(c, .lst ((cnts ks PV).map .int)), (T, .tab qOrd)]) (by assumption) ?_ ?_
    · walk_at "dl"
      refine x_cD (by assumption) (by walk_at "slt") ⟨rs, ks, _, .inl rfl, rfl, rfl, by omega, fun r hr => by have := hr10 r hr; omega, rfl⟩ ?_
      rintro _ rfl H_ M_ S_
      walk_at "dl"
      refine x_if (fun h => ?_) (fun h => ?_)
      · walk_at "dl"
        rename Ds _ _ _ _ _ _ _ _ _ => S_
        rename Ds _ _ _ _ _ _ _ _ _ => S_
        obtain ⟨M_, S_⟩ := S_.freeze (nd_ne2 S_)
        refine x_cD (by assumption) (by walk_at "slt") ⟨rs, [], _, .inl rfl, rfl, rfl, by omega, fun r hr => by have := hr10 r hr; omega, rfl⟩ ?_
        rintro _ rfl H_ M_ S_
        walk_at "dl"
        rename Ds _ _ _ _ _ _ _ _ _ => S_
        rw [show (!famB rs fun k => decide (k ∈ ([] : List Int))) = (hF rs ks && !hF rs []) by rw [show hF rs ks = true from h]; rfl] at S_
        exact Md.at (by assumption) (by walk_at "le") ⟨rfl, rfl⟩
      · walk_at "dl"
        rename Ds _ _ _ _ _ _ _ _ _ => S_
        have S_ : Ds K _ _ _ _ _ [_, _, _, _, _, _, _, _, _, .d (.bool false), _, _, _] _ _ := S_
        rw [show false = (hF rs ks && !hF rs []) by rw [show hF rs ks = false from h]; rfl] at S_
        exact Md.at (by assumption) (by walk_at "le") ⟨rfl, rfl⟩
    rintro M6 σ6 H6 ρ6 u6 ⟨rfl, rfl⟩ S6
    generalize (hF rs ks && !hF rs []) = W at *
    walk_at "dl"
    refine x_sumO 0 (by assumption) rfl ?_
    walk_at "dl"
    rw [List.length_map]
    refine x_ifF (by rw [hsum, hlen]; cases W <;> simp) ?_
    walk_at "dl"
    refine x_cD (by assumption) (by walk_at "slt") ⟨rs, m, rfl, rfl, hm5, by omega, hrs, rfl⟩ ?_
    rintro _ ⟨t, rfl, k1, k2, k3⟩ H_ M_ S_
    walk_at "dl"
    have hht := ht_le (rng m) k1 k2
    rw [rng_len] at hht
    refine x_cD (by assumption) (by walk_at "slt") ⟨t, rng m, tk, rfl, rfl, by omega, k2, by rw [rng_len]; omega, rfl⟩ ?_
    rintro _ ⟨ks', rfl, hk1, hk2, hk3⟩ H_ M_ S_
    walk_at "dl"
    have hkk : ks' = ks := up_ext hk1 hca fun x => by
      rw [hk2, hcm, dep_iff k1 hrs k3]
      exact ⟨fun z => ⟨⟨has_ov k2 z.1, z.1⟩, z.2⟩, fun z => ⟨z.1.2, z.2⟩⟩
    subst hkk
    have hcnt : ∀ a ∈ ks', PV.count a = shSum (gOf t a) ks'.length (lsubs (wo ks' [a])) := fun a ha => by rw [hPV]; exact allPv_count k3 hnd hcl ha
    refine x_ifF (by rw [List.length_map, List.length_map, decide_eq_true rfl]; rfl) ?_
    walk_at "dl"
    rw [List.length_map]
    refine x_forR (fun j ρ u => ρ = [.d (.list (ns.map .int)), .d (.int m), .d (.list (rs.map insD)), .d (insD tk), .d (.list (ks'.map .int)), .d (.list ((orders ks').map insD)), .v (.ref c), .u, .u, .d (.bool W), .d (.tuple (ks'.map fun a => .tuple [.int a, shareD t ks' a])), .u, .u] ∧ u = [(c, .lst ((cnts ks' PV).map .int)), (T, .tab qOrd)]) (by assumption) (by omega) (by omega) ⟨rfl, rfl⟩ ?_ ?_
    · rintro j ρ2 u2 hj ⟨rfl, rfl⟩ σ2 H2 M2 S2
      rw [Int.toNat_natCast] at hj
      obtain ⟨a, ha⟩ : ∃ a, ks'[j]? = some a := ⟨_, List.getElem?_eq_getElem hj⟩
      have ham := List.mem_of_getElem? ha
      have h1 : atI (ks'.map fun a => PyData.tuple [.int a, shareD t ks' a]) (j : Int) = some (.tuple [.int a, shareD t ks' a]) := at_nat (f := fun a => PyData.tuple [.int a, shareD t ks' a]) ha
      have h2 : atI (ks'.map PyData.int) (j : Int) = some (.int a) := at_nat ha
      have h3 : atI ((cnts ks' PV).map PyData.int) (j : Int) = some (.int (PV.count a : Nat)) := at_nat (by
        unfold cnts
        rw [List.getElem?_map, ha]
        rfl)
      have hc := hcnt a ham
      have hA := shSum_le (g := gOf t a) (n := ks'.length) hcl (F := lsubs (wo ks' [a])) fun y hy => by
        have := (lsubs_mem.mp hy).length_le
        have := (wo_sub ks' [a]).length_le
        omega
      have hlb : (lsubs (wo ks' [a])).length ≤ 32 := by
        rw [lsubs_len]
        exact Nat.le_trans (Nat.pow_le_pow_right (by decide) (by have := wo_len ks' [a]; omega : (wo ks' [a]).length ≤ 5)) (by decide)
      have hfp := fac_pos ks'.length (by omega)
      have hds : shareD t ks' a = fracD (shSum (gOf t a) ks'.length (lsubs (wo ks' [a])) : Nat) (fac ks'.length : Nat) := rfl
      generalize shSum (gOf t a) ks'.length (lsubs (wo ks' [a])) = A at *
      rw [hds] at h1
      have hbig : ∀ n : Nat, n ≤ 4000000 → (n : Int).natAbs < 2 ^ 200 := fun n hn => by rw [Int.natAbs_natCast]; exact Nat.lt_of_le_of_lt hn (by decide)
      walk_at "dl"
      refine x_ixT (by assumption) (by walk_at "tm") h1 ?_
      walk_at "dl"
      refine x_ixT (by assumption) (by walk_at "tm") h1 ?_
      walk_at "dl"
      refine x_ifF rfl ?_
      walk_at "dl"
      refine x_ixT (by assumption) (by walk_at "tm") h1 ?_
      walk_at "dl"
      refine x_ixL (by assumption) (by walk_at "tm") h2 ?_
      walk_at "dl"
      refine x_cD (by assumption) (by walk_at "slt") ⟨.int a, 0, rfl, rfl, by decide, trivial, rfl⟩ ?_
      rintro _ rfl H_ M_ S_
      walk_at "dl"
      refine x_ixT (by assumption) (by walk_at "tm") h1 ?_
      walk_at "dl"
      refine x_ixO 0 (by assumption) rfl h3 ?_
      walk_at "dl"
      rw [List.length_map]
      refine x_cD (by assumption) (by walk_at "slt") ⟨(A : Nat), (fac ks'.length : Nat), (PV.count a : Nat), ((orders ks').length : Nat), rfl, rfl, by omega, by omega, hbig _ (by omega), hbig _ (by omega), hbig _ (by omega), hbig _ (by omega), by rw [hc, hol], rfl⟩ ?_
      rintro _ rfl H_ M_ S_
      walk_at "dl"
      exact Nx.at (by assumption) (by walk_at "le") ⟨rfl, rfl⟩
    · rintro ρ2 u2 ⟨rfl, rfl⟩ σ2 H2 M2 S2
      walk_at "dl"
      exact hq _
end
theorem all_mk {l : PySem.W.OpenLaw} {w : World} {K : PySem.W.Frag} {h : Heap} {mg : Str → Option Value} {fa : Addr} (X : K.In h) (G : h.Ns mainGlobals mg) (hfa : mg "law" = some (.ref fa))
    {f_holds : Addr} {od_holds an_holds : Option Addr} {sl_holds : Array (Option Value)} {oc_holds kV_holds dc_holds pm_holds cd_holds ct_holds : Value}
    {f_asks : Addr} {od_asks an_asks : Option Addr} {sl_asks : Array (Option Value)} {oc_asks kV_asks dc_asks pm_asks cd_asks ct_asks : Value}
    {f_shares : Addr} {od_shares an_shares : Option Addr} {sl_shares : Array (Option Value)} {oc_shares kV_shares dc_shares pm_shares cd_shares ct_shares : Value}
    {f_subsets : Addr} {od_subsets an_subsets : Option Addr} {sl_subsets : Array (Option Value)} {oc_subsets kV_subsets dc_subsets pm_subsets cd_subsets ct_subsets : Value}
    {f_without : Addr} {od_without an_without : Option Addr} {sl_without : Array (Option Value)} {oc_without kV_without dc_without pm_without cd_without ct_without : Value}
    {f_concerned : Addr} {od_concerned an_concerned : Option Addr} {sl_concerned : Array (Option Value)} {oc_concerned kV_concerned dc_concerned pm_concerned cd_concerned ct_concerned : Value}
    {f_share : Addr} {od_share an_share : Option Addr} {sl_share : Array (Option Value)} {oc_share kV_share dc_share pm_share cd_share ct_share : Value}
    {f_fraction : Addr} {od_fraction an_fraction : Option Addr} {sl_fraction : Array (Option Value)} {oc_fraction kV_fraction dc_fraction pm_fraction cd_fraction ct_fraction : Value}
    {f_law_cell : Addr} {od_law_cell an_law_cell : Option Addr} {sl_law_cell : Array (Option Value)} {oc_law_cell kV_law_cell dc_law_cell pm_law_cell cd_law_cell ct_law_cell : Value}
    {f_law_draws : Addr} {od_law_draws an_law_draws : Option Addr} {sl_law_draws : Array (Option Value)} {oc_law_draws kV_law_draws dc_law_draws pm_law_draws cd_law_draws ct_law_draws : Value}
    {f_law_take : Addr} {od_law_take an_law_take : Option Addr} {sl_law_take : Array (Option Value)} {oc_law_take kV_law_take dc_law_take pm_law_take cd_law_take ct_law_take : Value}
    {f_law_number : Addr} {od_law_number an_law_number : Option Addr} {sl_law_number : Array (Option Value)} {oc_law_number kV_law_number dc_law_number pm_law_number cd_law_number ct_law_number : Value}
    {f_law_ordered : Addr} {od_law_ordered an_law_ordered : Option Addr} {sl_law_ordered : Array (Option Value)} {oc_law_ordered kV_law_ordered dc_law_ordered pm_law_ordered cd_law_ordered ct_law_ordered : Value}
    {f_law_inside : Addr} {od_law_inside an_law_inside : Option Addr} {sl_law_inside : Array (Option Value)} {oc_law_inside kV_law_inside dc_law_inside pm_law_inside cd_law_inside ct_law_inside : Value}
    {f_law_least : Addr} {od_law_least an_law_least : Option Addr} {sl_law_least : Array (Option Value)} {oc_law_least kV_law_least dc_law_least pm_law_least cd_law_least ct_law_least : Value}
    {f_law_table : Addr} {od_law_table an_law_table : Option Addr} {sl_law_table : Array (Option Value)} {oc_law_table kV_law_table dc_law_table pm_law_table cd_law_table ct_law_table : Value}
    {f_law_node : Addr} {od_law_node an_law_node : Option Addr} {sl_law_node : Array (Option Value)} {oc_law_node kV_law_node dc_law_node pm_law_node cd_law_node ct_law_node : Value}
    {f_law_family : Addr} {od_law_family an_law_family : Option Addr} {sl_law_family : Array (Option Value)} {oc_law_family kV_law_family dc_law_family pm_law_family cd_law_family ct_law_family : Value}
    {f_law_set : Addr} {od_law_set an_law_set : Option Addr} {sl_law_set : Array (Option Value)} {oc_law_set kV_law_set dc_law_set pm_law_set cd_law_set ct_law_set : Value}
    {f_law_same : Addr} {od_law_same an_law_same : Option Addr} {sl_law_same : Array (Option Value)} {oc_law_same kV_law_same dc_law_same pm_law_same cd_law_same ct_law_same : Value}
    {f_law_holds : Addr} {od_law_holds an_law_holds : Option Addr} {sl_law_holds : Array (Option Value)} {oc_law_holds kV_law_holds dc_law_holds pm_law_holds cd_law_holds ct_law_holds : Value}
    {f_law_gcd : Addr} {od_law_gcd an_law_gcd : Option Addr} {sl_law_gcd : Array (Option Value)} {oc_law_gcd kV_law_gcd dc_law_gcd pm_law_gcd cd_law_gcd ct_law_gcd : Value}
    {f_law_fraction : Addr} {od_law_fraction an_law_fraction : Option Addr} {sl_law_fraction : Array (Option Value)} {oc_law_fraction kV_law_fraction dc_law_fraction pm_law_fraction cd_law_fraction ct_law_fraction : Value}
    {f_law_depends : Addr} {od_law_depends an_law_depends : Option Addr} {sl_law_depends : Array (Option Value)} {oc_law_depends kV_law_depends dc_law_depends pm_law_depends cd_law_depends ct_law_depends : Value}
    {f_law_orders : Addr} {od_law_orders an_law_orders : Option Addr} {sl_law_orders : Array (Option Value)} {oc_law_orders kV_law_orders dc_law_orders pm_law_orders cd_law_orders ct_law_orders : Value}
    {t_ALWAYS : Tok}
    {t_FIRST_NODE : Tok}
    {od_law an_law : Option Addr} {sl_law : Array (Option Value)} {oc_law kV_law dc_law pm_law cd_law ct_law : Value} {f_law : Addr}
    {cc_T tb_T : Addr}
    (a_holds : PySem.W.nsIn K mainGlobals "holds" = some (some (.ref f_holds))) (l_holds : K.lookup f_holds = some ⟨oc_holds, od_holds, .func (PySem.W.fnOf "holds" "holds" (defArgs s_holds) (defBody s_holds) (defScope s_holds) .none kV_holds dc_holds pm_holds an_holds cd_holds ct_holds), sl_holds⟩) (w_holds : PySem.W.codeIn K cd_holds "holds" = true) (k_holds : PySem.W.keepIn K (.ref f_holds) = true)
    (a_asks : PySem.W.nsIn K mainGlobals "asks" = some (some (.ref f_asks))) (l_asks : K.lookup f_asks = some ⟨oc_asks, od_asks, .func (PySem.W.fnOf "asks" "asks" (defArgs s_asks) (defBody s_asks) (defScope s_asks) .none kV_asks dc_asks pm_asks an_asks cd_asks ct_asks), sl_asks⟩) (w_asks : PySem.W.codeIn K cd_asks "asks" = true) (k_asks : PySem.W.keepIn K (.ref f_asks) = true)
    (a_shares : PySem.W.nsIn K mainGlobals "shares" = some (some (.ref f_shares))) (l_shares : K.lookup f_shares = some ⟨oc_shares, od_shares, .func (PySem.W.fnOf "shares" "shares" (defArgs s_shares) (defBody s_shares) (defScope s_shares) .none kV_shares dc_shares pm_shares an_shares cd_shares ct_shares), sl_shares⟩) (w_shares : PySem.W.codeIn K cd_shares "shares" = true) (k_shares : PySem.W.keepIn K (.ref f_shares) = true)
    (a_subsets : PySem.W.nsIn K mainGlobals "_subsets" = some (some (.ref f_subsets))) (l_subsets : K.lookup f_subsets = some ⟨oc_subsets, od_subsets, .func (PySem.W.fnOf "_subsets" "_subsets" (defArgs s_subsets) (defBody s_subsets) (defScope s_subsets) .none kV_subsets dc_subsets pm_subsets an_subsets cd_subsets ct_subsets), sl_subsets⟩) (w_subsets : PySem.W.codeIn K cd_subsets "_subsets" = true) (k_subsets : PySem.W.keepIn K (.ref f_subsets) = true)
    (a_without : PySem.W.nsIn K mainGlobals "_without" = some (some (.ref f_without))) (l_without : K.lookup f_without = some ⟨oc_without, od_without, .func (PySem.W.fnOf "_without" "_without" (defArgs s_without) (defBody s_without) (defScope s_without) .none kV_without dc_without pm_without an_without cd_without ct_without), sl_without⟩) (w_without : PySem.W.codeIn K cd_without "_without" = true) (k_without : PySem.W.keepIn K (.ref f_without) = true)
    (a_concerned : PySem.W.nsIn K mainGlobals "_concerned" = some (some (.ref f_concerned))) (l_concerned : K.lookup f_concerned = some ⟨oc_concerned, od_concerned, .func (PySem.W.fnOf "_concerned" "_concerned" (defArgs s_concerned) (defBody s_concerned) (defScope s_concerned) .none kV_concerned dc_concerned pm_concerned an_concerned cd_concerned ct_concerned), sl_concerned⟩) (w_concerned : PySem.W.codeIn K cd_concerned "_concerned" = true) (k_concerned : PySem.W.keepIn K (.ref f_concerned) = true)
    (a_share : PySem.W.nsIn K mainGlobals "_share" = some (some (.ref f_share))) (l_share : K.lookup f_share = some ⟨oc_share, od_share, .func (PySem.W.fnOf "_share" "_share" (defArgs s_share) (defBody s_share) (defScope s_share) .none kV_share dc_share pm_share an_share cd_share ct_share), sl_share⟩) (w_share : PySem.W.codeIn K cd_share "_share" = true) (k_share : PySem.W.keepIn K (.ref f_share) = true)
    (a_fraction : PySem.W.nsIn K mainGlobals "_fraction" = some (some (.ref f_fraction))) (l_fraction : K.lookup f_fraction = some ⟨oc_fraction, od_fraction, .func (PySem.W.fnOf "_fraction" "_fraction" (defArgs s_fraction) (defBody s_fraction) (defScope s_fraction) .none kV_fraction dc_fraction pm_fraction an_fraction cd_fraction ct_fraction), sl_fraction⟩) (w_fraction : PySem.W.codeIn K cd_fraction "_fraction" = true) (k_fraction : PySem.W.keepIn K (.ref f_fraction) = true)
    (a_law_cell : PySem.W.nsIn K mainGlobals "_law_cell" = some (some (.ref f_law_cell))) (l_law_cell : K.lookup f_law_cell = some ⟨oc_law_cell, od_law_cell, .func (PySem.W.fnOf "_law_cell" "_law_cell" (defArgs s_law_cell) (defBody s_law_cell) (defScope s_law_cell) .none kV_law_cell dc_law_cell pm_law_cell an_law_cell cd_law_cell ct_law_cell), sl_law_cell⟩) (w_law_cell : PySem.W.codeIn K cd_law_cell "_law_cell" = true) (k_law_cell : PySem.W.keepIn K (.ref f_law_cell) = true)
    (a_law_draws : PySem.W.nsIn K mainGlobals "_law_draws" = some (some (.ref f_law_draws))) (l_law_draws : K.lookup f_law_draws = some ⟨oc_law_draws, od_law_draws, .func (PySem.W.fnOf "_law_draws" "_law_draws" (defArgs s_law_draws) (defBody s_law_draws) (defScope s_law_draws) .none kV_law_draws dc_law_draws pm_law_draws an_law_draws cd_law_draws ct_law_draws), sl_law_draws⟩) (w_law_draws : PySem.W.codeIn K cd_law_draws "_law_draws" = true) (k_law_draws : PySem.W.keepIn K (.ref f_law_draws) = true)
    (a_law_take : PySem.W.nsIn K mainGlobals "_law_take" = some (some (.ref f_law_take))) (l_law_take : K.lookup f_law_take = some ⟨oc_law_take, od_law_take, .func (PySem.W.fnOf "_law_take" "_law_take" (defArgs s_law_take) (defBody s_law_take) (defScope s_law_take) .none kV_law_take dc_law_take pm_law_take an_law_take cd_law_take ct_law_take), sl_law_take⟩) (w_law_take : PySem.W.codeIn K cd_law_take "_law_take" = true) (k_law_take : PySem.W.keepIn K (.ref f_law_take) = true)
    (a_law_number : PySem.W.nsIn K mainGlobals "_law_number" = some (some (.ref f_law_number))) (l_law_number : K.lookup f_law_number = some ⟨oc_law_number, od_law_number, .func (PySem.W.fnOf "_law_number" "_law_number" (defArgs s_law_number) (defBody s_law_number) (defScope s_law_number) .none kV_law_number dc_law_number pm_law_number an_law_number cd_law_number ct_law_number), sl_law_number⟩) (w_law_number : PySem.W.codeIn K cd_law_number "_law_number" = true) (k_law_number : PySem.W.keepIn K (.ref f_law_number) = true)
    (a_law_ordered : PySem.W.nsIn K mainGlobals "_law_ordered" = some (some (.ref f_law_ordered))) (l_law_ordered : K.lookup f_law_ordered = some ⟨oc_law_ordered, od_law_ordered, .func (PySem.W.fnOf "_law_ordered" "_law_ordered" (defArgs s_law_ordered) (defBody s_law_ordered) (defScope s_law_ordered) .none kV_law_ordered dc_law_ordered pm_law_ordered an_law_ordered cd_law_ordered ct_law_ordered), sl_law_ordered⟩) (w_law_ordered : PySem.W.codeIn K cd_law_ordered "_law_ordered" = true) (k_law_ordered : PySem.W.keepIn K (.ref f_law_ordered) = true)
    (a_law_inside : PySem.W.nsIn K mainGlobals "_law_inside" = some (some (.ref f_law_inside))) (l_law_inside : K.lookup f_law_inside = some ⟨oc_law_inside, od_law_inside, .func (PySem.W.fnOf "_law_inside" "_law_inside" (defArgs s_law_inside) (defBody s_law_inside) (defScope s_law_inside) .none kV_law_inside dc_law_inside pm_law_inside an_law_inside cd_law_inside ct_law_inside), sl_law_inside⟩) (w_law_inside : PySem.W.codeIn K cd_law_inside "_law_inside" = true) (k_law_inside : PySem.W.keepIn K (.ref f_law_inside) = true)
    (a_law_least : PySem.W.nsIn K mainGlobals "_law_least" = some (some (.ref f_law_least))) (l_law_least : K.lookup f_law_least = some ⟨oc_law_least, od_law_least, .func (PySem.W.fnOf "_law_least" "_law_least" (defArgs s_law_least) (defBody s_law_least) (defScope s_law_least) .none kV_law_least dc_law_least pm_law_least an_law_least cd_law_least ct_law_least), sl_law_least⟩) (w_law_least : PySem.W.codeIn K cd_law_least "_law_least" = true) (k_law_least : PySem.W.keepIn K (.ref f_law_least) = true)
    (a_law_table : PySem.W.nsIn K mainGlobals "_law_table" = some (some (.ref f_law_table))) (l_law_table : K.lookup f_law_table = some ⟨oc_law_table, od_law_table, .func (PySem.W.fnOf "_law_table" "_law_table" (defArgs s_law_table) (defBody s_law_table) (defScope s_law_table) .none kV_law_table dc_law_table pm_law_table an_law_table cd_law_table ct_law_table), sl_law_table⟩) (w_law_table : PySem.W.codeIn K cd_law_table "_law_table" = true) (k_law_table : PySem.W.keepIn K (.ref f_law_table) = true)
    (a_law_node : PySem.W.nsIn K mainGlobals "_law_node" = some (some (.ref f_law_node))) (l_law_node : K.lookup f_law_node = some ⟨oc_law_node, od_law_node, .func (PySem.W.fnOf "_law_node" "_law_node" (defArgs s_law_node) (defBody s_law_node) (defScope s_law_node) .none kV_law_node dc_law_node pm_law_node an_law_node cd_law_node ct_law_node), sl_law_node⟩) (w_law_node : PySem.W.codeIn K cd_law_node "_law_node" = true) (k_law_node : PySem.W.keepIn K (.ref f_law_node) = true)
    (a_law_family : PySem.W.nsIn K mainGlobals "_law_family" = some (some (.ref f_law_family))) (l_law_family : K.lookup f_law_family = some ⟨oc_law_family, od_law_family, .func (PySem.W.fnOf "_law_family" "_law_family" (defArgs s_law_family) (defBody s_law_family) (defScope s_law_family) .none kV_law_family dc_law_family pm_law_family an_law_family cd_law_family ct_law_family), sl_law_family⟩) (w_law_family : PySem.W.codeIn K cd_law_family "_law_family" = true) (k_law_family : PySem.W.keepIn K (.ref f_law_family) = true)
    (a_law_set : PySem.W.nsIn K mainGlobals "_law_set" = some (some (.ref f_law_set))) (l_law_set : K.lookup f_law_set = some ⟨oc_law_set, od_law_set, .func (PySem.W.fnOf "_law_set" "_law_set" (defArgs s_law_set) (defBody s_law_set) (defScope s_law_set) .none kV_law_set dc_law_set pm_law_set an_law_set cd_law_set ct_law_set), sl_law_set⟩) (w_law_set : PySem.W.codeIn K cd_law_set "_law_set" = true) (k_law_set : PySem.W.keepIn K (.ref f_law_set) = true)
    (a_law_same : PySem.W.nsIn K mainGlobals "_law_same" = some (some (.ref f_law_same))) (l_law_same : K.lookup f_law_same = some ⟨oc_law_same, od_law_same, .func (PySem.W.fnOf "_law_same" "_law_same" (defArgs s_law_same) (defBody s_law_same) (defScope s_law_same) .none kV_law_same dc_law_same pm_law_same an_law_same cd_law_same ct_law_same), sl_law_same⟩) (w_law_same : PySem.W.codeIn K cd_law_same "_law_same" = true) (k_law_same : PySem.W.keepIn K (.ref f_law_same) = true)
    (a_law_holds : PySem.W.nsIn K mainGlobals "_law_holds" = some (some (.ref f_law_holds))) (l_law_holds : K.lookup f_law_holds = some ⟨oc_law_holds, od_law_holds, .func (PySem.W.fnOf "_law_holds" "_law_holds" (defArgs s_law_holds) (defBody s_law_holds) (defScope s_law_holds) .none kV_law_holds dc_law_holds pm_law_holds an_law_holds cd_law_holds ct_law_holds), sl_law_holds⟩) (w_law_holds : PySem.W.codeIn K cd_law_holds "_law_holds" = true) (k_law_holds : PySem.W.keepIn K (.ref f_law_holds) = true)
    (a_law_gcd : PySem.W.nsIn K mainGlobals "_law_gcd" = some (some (.ref f_law_gcd))) (l_law_gcd : K.lookup f_law_gcd = some ⟨oc_law_gcd, od_law_gcd, .func (PySem.W.fnOf "_law_gcd" "_law_gcd" (defArgs s_law_gcd) (defBody s_law_gcd) (defScope s_law_gcd) .none kV_law_gcd dc_law_gcd pm_law_gcd an_law_gcd cd_law_gcd ct_law_gcd), sl_law_gcd⟩) (w_law_gcd : PySem.W.codeIn K cd_law_gcd "_law_gcd" = true) (k_law_gcd : PySem.W.keepIn K (.ref f_law_gcd) = true)
    (a_law_fraction : PySem.W.nsIn K mainGlobals "_law_fraction" = some (some (.ref f_law_fraction))) (l_law_fraction : K.lookup f_law_fraction = some ⟨oc_law_fraction, od_law_fraction, .func (PySem.W.fnOf "_law_fraction" "_law_fraction" (defArgs s_law_fraction) (defBody s_law_fraction) (defScope s_law_fraction) .none kV_law_fraction dc_law_fraction pm_law_fraction an_law_fraction cd_law_fraction ct_law_fraction), sl_law_fraction⟩) (w_law_fraction : PySem.W.codeIn K cd_law_fraction "_law_fraction" = true) (k_law_fraction : PySem.W.keepIn K (.ref f_law_fraction) = true)
    (a_law_depends : PySem.W.nsIn K mainGlobals "_law_depends" = some (some (.ref f_law_depends))) (l_law_depends : K.lookup f_law_depends = some ⟨oc_law_depends, od_law_depends, .func (PySem.W.fnOf "_law_depends" "_law_depends" (defArgs s_law_depends) (defBody s_law_depends) (defScope s_law_depends) .none kV_law_depends dc_law_depends pm_law_depends an_law_depends cd_law_depends ct_law_depends), sl_law_depends⟩) (w_law_depends : PySem.W.codeIn K cd_law_depends "_law_depends" = true) (k_law_depends : PySem.W.keepIn K (.ref f_law_depends) = true)
    (a_law_orders : PySem.W.nsIn K mainGlobals "_law_orders" = some (some (.ref f_law_orders))) (l_law_orders : K.lookup f_law_orders = some ⟨oc_law_orders, od_law_orders, .func (PySem.W.fnOf "_law_orders" "_law_orders" (defArgs s_law_orders) (defBody s_law_orders) (defScope s_law_orders) .none kV_law_orders dc_law_orders pm_law_orders an_law_orders cd_law_orders ct_law_orders), sl_law_orders⟩) (w_law_orders : PySem.W.codeIn K cd_law_orders "_law_orders" = true) (k_law_orders : PySem.W.keepIn K (.ref f_law_orders) = true)
    (a_law : PySem.W.nsIn K mainGlobals "law" = some (some (.ref f_law))) (l_law : K.lookup f_law = some ⟨oc_law, od_law, .func (PySem.W.fnOf "law" "law" (defArgs s_law) (defBody s_law) (defScope s_law) .none kV_law dc_law pm_law an_law cd_law ct_law), sl_law⟩) (w_law : PySem.W.codeIn K cd_law "law" = true) (k_law : PySem.W.keepIn K (.ref f_law) = true)
    (y_abs : PySem.W.nsIn K mainGlobals "abs" = some none)
    (y_all : PySem.W.nsIn K mainGlobals "all" = some none)
    (y_any : PySem.W.nsIn K mainGlobals "any" = some none)
    (y_bool : PySem.W.nsIn K mainGlobals "bool" = some none)
    (y_int : PySem.W.nsIn K mainGlobals "int" = some none)
    (y_isinstance : PySem.W.nsIn K mainGlobals "isinstance" = some none)
    (y_len : PySem.W.nsIn K mainGlobals "len" = some none)
    (y_niO : PySem.W.nsIn K mainGlobals "niO" = some none)
    (y_range : PySem.W.nsIn K mainGlobals "range" = some none)
    (y_sorted : PySem.W.nsIn K mainGlobals "sorted" = some none)
    (y_str : PySem.W.nsIn K mainGlobals "str" = some none)
    (y_sum : PySem.W.nsIn K mainGlobals "sum" = some none)
    (y_tuple : PySem.W.nsIn K mainGlobals "tuple" = some none)
    (g_ALWAYS : PySem.W.nsIn K mainGlobals "ALWAYS" = some (some (.int K_ALWAYS t_ALWAYS)))
    (g_FIRST_NODE : PySem.W.nsIn K mainGlobals "FIRST_NODE" = some (some (.int K_FIRST_NODE t_FIRST_NODE)))
    (g_gcd : PySem.W.nsIn K mainGlobals "gcd" = some (some (.builtin "math.gcd")))
    (g_factorial : PySem.W.nsIn K mainGlobals "factorial" = some (some (.builtin "math.factorial")))
    (t_T : cd_law_ordered = .ref cc_T) :
    ∃ fd : FuncData, (∀ (s : Shared) (v : Value), BindsTo s fd ⟨[v], []⟩ [("script", v)]) ∧ ∀ base : Heap, K.In base → base.Ns mainGlobals mg → LamX.TabB base mg cc_T tb_T → FnOk l.prog w K mg base CX0 12 fa fd ["script"] (spLawT K tb_T) := by
  subst t_T
  have e := hfa.symm.trans (PySem.W.mg_of X G a_law)
  cases e
  have D_holds : Df K mg "holds" s_holds f_holds _ ["condition", "members"] := ⟨fun_mk (st := s_holds) l_holds w_holds k_holds, PySem.W.mg_of X G a_holds, k_holds, (fun_mk (st := s_holds) l_holds w_holds k_holds).binds (ps := ["condition", "members"]) fun _ _ _ _ _ _ us hl => match us, hl with | [_, _], _ => rfl⟩
  have D_asks : Df K mg "asks" s_asks f_asks _ ["condition"] := ⟨fun_mk (st := s_asks) l_asks w_asks k_asks, PySem.W.mg_of X G a_asks, k_asks, (fun_mk (st := s_asks) l_asks w_asks k_asks).binds (ps := ["condition"]) fun _ _ _ _ _ _ us hl => match us, hl with | [_], _ => rfl⟩
  have D_shares : Df K mg "shares" s_shares f_shares _ ["condition", "taken"] := ⟨fun_mk (st := s_shares) l_shares w_shares k_shares, PySem.W.mg_of X G a_shares, k_shares, (fun_mk (st := s_shares) l_shares w_shares k_shares).binds (ps := ["condition", "taken"]) fun _ _ _ _ _ _ us hl => match us, hl with | [_, _], _ => rfl⟩
  have D_subsets : Df K mg "_subsets" s_subsets f_subsets _ ["numbers"] := ⟨fun_mk (st := s_subsets) l_subsets w_subsets k_subsets, PySem.W.mg_of X G a_subsets, k_subsets, (fun_mk (st := s_subsets) l_subsets w_subsets k_subsets).binds (ps := ["numbers"]) fun _ _ _ _ _ _ us hl => match us, hl with | [_], _ => rfl⟩
  have D_without : Df K mg "_without" s_without f_without _ ["members", "removed"] := ⟨fun_mk (st := s_without) l_without w_without k_without, PySem.W.mg_of X G a_without, k_without, (fun_mk (st := s_without) l_without w_without k_without).binds (ps := ["members", "removed"]) fun _ _ _ _ _ _ us hl => match us, hl with | [_, _], _ => rfl⟩
  have D_concerned : Df K mg "_concerned" s_concerned f_concerned _ ["condition", "taken"] := ⟨fun_mk (st := s_concerned) l_concerned w_concerned k_concerned, PySem.W.mg_of X G a_concerned, k_concerned, (fun_mk (st := s_concerned) l_concerned w_concerned k_concerned).binds (ps := ["condition", "taken"]) fun _ _ _ _ _ _ us hl => match us, hl with | [_, _], _ => rfl⟩
  have D_share : Df K mg "_share" s_share f_share _ ["condition", "concerned", "axiom"] := ⟨fun_mk (st := s_share) l_share w_share k_share, PySem.W.mg_of X G a_share, k_share, (fun_mk (st := s_share) l_share w_share k_share).binds (ps := ["condition", "concerned", "axiom"]) fun _ _ _ _ _ _ us hl => match us, hl with | [_, _, _], _ => rfl⟩
  have D_fraction : Df K mg "_fraction" s_fraction f_fraction _ ["numerator", "denominator"] := ⟨fun_mk (st := s_fraction) l_fraction w_fraction k_fraction, PySem.W.mg_of X G a_fraction, k_fraction, (fun_mk (st := s_fraction) l_fraction w_fraction k_fraction).binds (ps := ["numerator", "denominator"]) fun _ _ _ _ _ _ us hl => match us, hl with | [_, _], _ => rfl⟩
  have D_law_cell : Df K mg "_law_cell" s_law_cell f_law_cell _ ["script", "k"] := ⟨fun_mk (st := s_law_cell) l_law_cell w_law_cell k_law_cell, PySem.W.mg_of X G a_law_cell, k_law_cell, (fun_mk (st := s_law_cell) l_law_cell w_law_cell k_law_cell).binds (ps := ["script", "k"]) fun _ _ _ _ _ _ us hl => match us, hl with | [_, _], _ => rfl⟩
  have D_law_draws : Df K mg "_law_draws" s_law_draws f_law_draws _ ["script", "k", "count"] := ⟨fun_mk (st := s_law_draws) l_law_draws w_law_draws k_law_draws, PySem.W.mg_of X G a_law_draws, k_law_draws, (fun_mk (st := s_law_draws) l_law_draws w_law_draws k_law_draws).binds (ps := ["script", "k", "count"]) fun _ _ _ _ _ _ us hl => match us, hl with | [_, _, _], _ => rfl⟩
  have D_law_take : Df K mg "_law_take" s_law_take f_law_take _ ["draws", "many"] := ⟨fun_mk (st := s_law_take) l_law_take w_law_take k_law_take, PySem.W.mg_of X G a_law_take, k_law_take, (fun_mk (st := s_law_take) l_law_take w_law_take k_law_take).binds (ps := ["draws", "many"]) fun _ _ _ _ _ _ us hl => match us, hl with | [_, _], _ => rfl⟩
  have D_law_number : Df K mg "_law_number" s_law_number f_law_number _ ["actual"] := ⟨fun_mk (st := s_law_number) l_law_number w_law_number k_law_number, PySem.W.mg_of X G a_law_number, k_law_number, (fun_mk (st := s_law_number) l_law_number w_law_number k_law_number).binds (ps := ["actual"]) fun _ _ _ _ _ _ us hl => match us, hl with | [_], _ => rfl⟩
  have D_law_ordered : Df K mg "_law_ordered" s_law_ordered f_law_ordered _ ["rows"] := ⟨fun_mk (st := s_law_ordered) l_law_ordered w_law_ordered k_law_ordered, PySem.W.mg_of X G a_law_ordered, k_law_ordered, (fun_mk (st := s_law_ordered) l_law_ordered w_law_ordered k_law_ordered).binds (ps := ["rows"]) fun _ _ _ _ _ _ us hl => match us, hl with | [_], _ => rfl⟩
  have D_law_inside : Df K mg "_law_inside" s_law_inside f_law_inside _ ["row", "other"] := ⟨fun_mk (st := s_law_inside) l_law_inside w_law_inside k_law_inside, PySem.W.mg_of X G a_law_inside, k_law_inside, (fun_mk (st := s_law_inside) l_law_inside w_law_inside k_law_inside).binds (ps := ["row", "other"]) fun _ _ _ _ _ _ us hl => match us, hl with | [_, _], _ => rfl⟩
  have D_law_least : Df K mg "_law_least" s_law_least f_law_least _ ["rows"] := ⟨fun_mk (st := s_law_least) l_law_least w_law_least k_law_least, PySem.W.mg_of X G a_law_least, k_law_least, (fun_mk (st := s_law_least) l_law_least w_law_least k_law_least).binds (ps := ["rows"]) fun _ _ _ _ _ _ us hl => match us, hl with | [_], _ => rfl⟩
  have D_law_table : Df K mg "_law_table" s_law_table f_law_table _ ["rows", "many"] := ⟨fun_mk (st := s_law_table) l_law_table w_law_table k_law_table, PySem.W.mg_of X G a_law_table, k_law_table, (fun_mk (st := s_law_table) l_law_table w_law_table k_law_table).binds (ps := ["rows", "many"]) fun _ _ _ _ _ _ us hl => match us, hl with | [_, _], _ => rfl⟩
  have D_law_node : Df K mg "_law_node" s_law_node f_law_node _ ["truth", "place", "nodes"] := ⟨fun_mk (st := s_law_node) l_law_node w_law_node k_law_node, PySem.W.mg_of X G a_law_node, k_law_node, (fun_mk (st := s_law_node) l_law_node w_law_node k_law_node).binds (ps := ["truth", "place", "nodes"]) fun _ _ _ _ _ _ us hl => match us, hl with | [_, _, _], _ => rfl⟩
  have D_law_family : Df K mg "_law_family" s_law_family f_law_family _ ["script", "first", "many"] := ⟨fun_mk (st := s_law_family) l_law_family w_law_family k_law_family, PySem.W.mg_of X G a_law_family, k_law_family, (fun_mk (st := s_law_family) l_law_family w_law_family k_law_family).binds (ps := ["script", "first", "many"]) fun _ _ _ _ _ _ us hl => match us, hl with | [_, _, _], _ => rfl⟩
  have D_law_set : Df K mg "_law_set" s_law_set f_law_set _ ["script", "k", "many"] := ⟨fun_mk (st := s_law_set) l_law_set w_law_set k_law_set, PySem.W.mg_of X G a_law_set, k_law_set, (fun_mk (st := s_law_set) l_law_set w_law_set k_law_set).binds (ps := ["script", "k", "many"]) fun _ _ _ _ _ _ us hl => match us, hl with | [_, _, _], _ => rfl⟩
  have D_law_same : Df K mg "_law_same" s_law_same f_law_same _ ["actual", "due"] := ⟨fun_mk (st := s_law_same) l_law_same w_law_same k_law_same, PySem.W.mg_of X G a_law_same, k_law_same, (fun_mk (st := s_law_same) l_law_same w_law_same k_law_same).binds (ps := ["actual", "due"]) fun _ _ _ _ _ _ us hl => match us, hl with | [_, _], _ => rfl⟩
  have D_law_holds : Df K mg "_law_holds" s_law_holds f_law_holds _ ["rows", "members"] := ⟨fun_mk (st := s_law_holds) l_law_holds w_law_holds k_law_holds, PySem.W.mg_of X G a_law_holds, k_law_holds, (fun_mk (st := s_law_holds) l_law_holds w_law_holds k_law_holds).binds (ps := ["rows", "members"]) fun _ _ _ _ _ _ us hl => match us, hl with | [_, _], _ => rfl⟩
  have D_law_gcd : Df K mg "_law_gcd" s_law_gcd f_law_gcd _ ["first", "second"] := ⟨fun_mk (st := s_law_gcd) l_law_gcd w_law_gcd k_law_gcd, PySem.W.mg_of X G a_law_gcd, k_law_gcd, (fun_mk (st := s_law_gcd) l_law_gcd w_law_gcd k_law_gcd).binds (ps := ["first", "second"]) fun _ _ _ _ _ _ us hl => match us, hl with | [_, _], _ => rfl⟩
  have D_law_fraction : Df K mg "_law_fraction" s_law_fraction f_law_fraction _ ["actual", "numerator", "denominator"] := ⟨fun_mk (st := s_law_fraction) l_law_fraction w_law_fraction k_law_fraction, PySem.W.mg_of X G a_law_fraction, k_law_fraction, (fun_mk (st := s_law_fraction) l_law_fraction w_law_fraction k_law_fraction).binds (ps := ["actual", "numerator", "denominator"]) fun _ _ _ _ _ _ us hl => match us, hl with | [_, _, _], _ => rfl⟩
  have D_law_depends : Df K mg "_law_depends" s_law_depends f_law_depends _ ["rows", "many"] := ⟨fun_mk (st := s_law_depends) l_law_depends w_law_depends k_law_depends, PySem.W.mg_of X G a_law_depends, k_law_depends, (fun_mk (st := s_law_depends) l_law_depends w_law_depends k_law_depends).binds (ps := ["rows", "many"]) fun _ _ _ _ _ _ us hl => match us, hl with | [_, _], _ => rfl⟩
  have D_law_orders : Df K mg "_law_orders" s_law_orders f_law_orders _ ["places"] := ⟨fun_mk (st := s_law_orders) l_law_orders w_law_orders k_law_orders, PySem.W.mg_of X G a_law_orders, k_law_orders, (fun_mk (st := s_law_orders) l_law_orders w_law_orders k_law_orders).binds (ps := ["places"]) fun _ _ _ _ _ _ us hl => match us, hl with | [_], _ => rfl⟩
  have z_abs : mg "abs" = none := PySem.W.mg_none_of X G y_abs
  have z_all : mg "all" = none := PySem.W.mg_none_of X G y_all
  have z_any : mg "any" = none := PySem.W.mg_none_of X G y_any
  have z_bool : mg "bool" = none := PySem.W.mg_none_of X G y_bool
  have z_int : mg "int" = none := PySem.W.mg_none_of X G y_int
  have z_isinstance : mg "isinstance" = none := PySem.W.mg_none_of X G y_isinstance
  have z_len : mg "len" = none := PySem.W.mg_none_of X G y_len
  have z_niO : mg "niO" = none := PySem.W.mg_none_of X G y_niO
  have z_range : mg "range" = none := PySem.W.mg_none_of X G y_range
  have z_sorted : mg "sorted" = none := PySem.W.mg_none_of X G y_sorted
  have z_str : mg "str" = none := PySem.W.mg_none_of X G y_str
  have z_sum : mg "sum" = none := PySem.W.mg_none_of X G y_sum
  have z_tuple : mg "tuple" = none := PySem.W.mg_none_of X G y_tuple
  have m_ALWAYS : mg "ALWAYS" = some _ := PySem.W.mg_of X G g_ALWAYS
  have m_FIRST_NODE : mg "FIRST_NODE" = some _ := PySem.W.mg_of X G g_FIRST_NODE
  have m_gcd : mg "gcd" = some _ := PySem.W.mg_of X G g_gcd
  have m_factorial : mg "factorial" = some _ := PySem.W.mg_of X G g_factorial
  have F_law := fun_mk (st := s_law) l_law w_law k_law
  refine ⟨PySem.W.fnOf "law" "law" (defArgs s_law) (defBody s_law) (defScope s_law) .none kV_law dc_law pm_law an_law cd_law ct_law, fun s v => .of_eq rfl, fun base _ _ TB => ?_⟩
  have cc := c_law_cell (P := l.prog) (w := w) (base := base) D_law_cell z_len z_int
  have cdr := c_law_draws D_law_draws z_int z_range cc
  have ct := c_law_take (P := l.prog) (w := w) (base := base) D_law_take z_int
  have ci := c_law_inside (P := l.prog) (w := w) (base := base) D_law_inside z_all
  have cn := c_concerned (P := l.prog) (w := w) (base := base) D_concerned z_tuple (c_asks D_asks z_tuple z_sorted)
  have cor := c_law_ordered (P := l.prog) (w := w) l_law_ordered w_law_ordered D_law_ordered TB z_sorted z_len
  have cle := c_law_least D_law_least z_any cor ci
  have cf := c_law_fraction D_law_fraction z_isinstance z_tuple z_len z_abs (c_law_number (P := l.prog) (w := w) (base := base) D_law_number z_isinstance z_int z_bool) (c_law_gcd D_law_gcd z_int z_range)
  have csh : Cl l.prog w K mg base 2 "_share" (spG K pShare) := c_share D_share z_len z_sorted z_tuple m_factorial (c_without D_without z_tuple) (c_subsets D_subsets z_len) (c_holds D_holds m_ALWAYS m_FIRST_NODE) (c_fraction D_fraction m_gcd)
  exact ok_law F_law cc (c_law_family D_law_family z_range z_tuple cdr ct) (c_law_set D_law_set z_range z_tuple cdr ct) (c_law_table D_law_table z_range z_any z_tuple ci (c_law_node D_law_node z_all z_any 6)) (c_shares D_shares z_tuple cn csh) (c_law_depends D_law_depends z_any z_range cle) (c_law_orders D_law_orders z_len z_range) (c_law_holds D_law_holds z_any ci) (c_law_same D_law_same z_isinstance z_tuple z_bool z_int z_str z_len z_all z_range 4) cf z_int z_tuple z_len z_range z_sum z_isinstance
end Pf
open PySem PySem.W PyProof.Rows
set_option maxHeartbeats 0 in
theorem PySem.Challenge.cw_ontoworks_k62_shares_holds : PySem.Challenge.rw_ontoworks_k62_shares.Holds := by
  w_on; o_law; k_head; (case hw => w_witness2)
  k_fill
  refine Pf.walk_tab (l := PySem.Challenge.rw_ontoworks_k62_shares) (n := 63) (k := 12) (x := "script") (CX := fun _ => L2.CX0) "_law_ordered" rfl (by decide) rfl ⟨rfl, by decide, by decide⟩ (by decide +kernel) (fun w h Y => PySem.W.km_in_of Y) ?F (fun _ _ _ _ _ h => h)
  case F =>
    intro w mg fa h KX G hmg own
    refine' Pf.law_at own ?t1 ?t2 ?t3 ?t4 ?t5 ?nT ?A
    (case t1 => k_is)
    (case t2 => k_is)
    (case t3 => rfl)
    (case t4 => k_is)
    (case t5 => rfl)
    (case nT => first | kernel_rfl | rfl | decide +kernel)
    (case A =>
      refine' Pf.all_mk KX G hmg ?a_holds ?l_holds ?w_holds ?k_holds ?a_asks ?l_asks ?w_asks ?k_asks ?a_shares ?l_shares ?w_shares ?k_shares ?a_subsets ?l_subsets ?w_subsets ?k_subsets ?a_without ?l_without ?w_without ?k_without ?a_concerned ?l_concerned ?w_concerned ?k_concerned ?a_share ?l_share ?w_share ?k_share ?a_fraction ?l_fraction ?w_fraction ?k_fraction ?a_law_cell ?l_law_cell ?w_law_cell ?k_law_cell ?a_law_draws ?l_law_draws ?w_law_draws ?k_law_draws ?a_law_take ?l_law_take ?w_law_take ?k_law_take ?a_law_number ?l_law_number ?w_law_number ?k_law_number ?a_law_ordered ?l_law_ordered ?w_law_ordered ?k_law_ordered ?a_law_inside ?l_law_inside ?w_law_inside ?k_law_inside ?a_law_least ?l_law_least ?w_law_least ?k_law_least ?a_law_table ?l_law_table ?w_law_table ?k_law_table ?a_law_node ?l_law_node ?w_law_node ?k_law_node ?a_law_family ?l_law_family ?w_law_family ?k_law_family ?a_law_set ?l_law_set ?w_law_set ?k_law_set ?a_law_same ?l_law_same ?w_law_same ?k_law_same ?a_law_holds ?l_law_holds ?w_law_holds ?k_law_holds ?a_law_gcd ?l_law_gcd ?w_law_gcd ?k_law_gcd ?a_law_fraction ?l_law_fraction ?w_law_fraction ?k_law_fraction ?a_law_depends ?l_law_depends ?w_law_depends ?k_law_depends ?a_law_orders ?l_law_orders ?w_law_orders ?k_law_orders ?a_law ?l_law ?w_law ?k_law ?y_abs ?y_all ?y_any ?y_bool ?y_int ?y_isinstance ?y_len ?y_niO ?y_range ?y_sorted ?y_str ?y_sum ?y_tuple ?g_ALWAYS ?g_FIRST_NODE ?g_gcd ?g_factorial ?t_T
      (case a_holds => k_is)
      (case l_holds => k_is)
      (case w_holds => k_is)
      (case k_holds => k_is)
      (case a_asks => k_is)
      (case l_asks => k_is)
      (case w_asks => k_is)
      (case k_asks => k_is)
      (case a_shares => k_is)
      (case l_shares => k_is)
      (case w_shares => k_is)
      (case k_shares => k_is)
      (case a_subsets => k_is)
      (case l_subsets => k_is)
      (case w_subsets => k_is)
      (case k_subsets => k_is)
      (case a_without => k_is)
      (case l_without => k_is)
      (case w_without => k_is)
      (case k_without => k_is)
      (case a_concerned => k_is)
      (case l_concerned => k_is)
      (case w_concerned => k_is)
      (case k_concerned => k_is)
      (case a_share => k_is)
      (case l_share => k_is)
      (case w_share => k_is)
      (case k_share => k_is)
      (case a_fraction => k_is)
      (case l_fraction => k_is)
      (case w_fraction => k_is)
      (case k_fraction => k_is)
      (case a_law_cell => k_is)
      (case l_law_cell => k_is)
      (case w_law_cell => k_is)
      (case k_law_cell => k_is)
      (case a_law_draws => k_is)
      (case l_law_draws => k_is)
      (case w_law_draws => k_is)
      (case k_law_draws => k_is)
      (case a_law_take => k_is)
      (case l_law_take => k_is)
      (case w_law_take => k_is)
      (case k_law_take => k_is)
      (case a_law_number => k_is)
      (case l_law_number => k_is)
      (case w_law_number => k_is)
      (case k_law_number => k_is)
      (case a_law_ordered => k_is)
      (case l_law_ordered => k_is)
      (case w_law_ordered => k_is)
      (case k_law_ordered => k_is)
      (case a_law_inside => k_is)
      (case l_law_inside => k_is)
      (case w_law_inside => k_is)
      (case k_law_inside => k_is)
      (case a_law_least => k_is)
      (case l_law_least => k_is)
      (case w_law_least => k_is)
      (case k_law_least => k_is)
      (case a_law_table => k_is)
      (case l_law_table => k_is)
      (case w_law_table => k_is)
      (case k_law_table => k_is)
      (case a_law_node => k_is)
      (case l_law_node => k_is)
      (case w_law_node => k_is)
      (case k_law_node => k_is)
      (case a_law_family => k_is)
      (case l_law_family => k_is)
      (case w_law_family => k_is)
      (case k_law_family => k_is)
      (case a_law_set => k_is)
      (case l_law_set => k_is)
      (case w_law_set => k_is)
      (case k_law_set => k_is)
      (case a_law_same => k_is)
      (case l_law_same => k_is)
      (case w_law_same => k_is)
      (case k_law_same => k_is)
      (case a_law_holds => k_is)
      (case l_law_holds => k_is)
      (case w_law_holds => k_is)
      (case k_law_holds => k_is)
      (case a_law_gcd => k_is)
      (case l_law_gcd => k_is)
      (case w_law_gcd => k_is)
      (case k_law_gcd => k_is)
      (case a_law_fraction => k_is)
      (case l_law_fraction => k_is)
      (case w_law_fraction => k_is)
      (case k_law_fraction => k_is)
      (case a_law_depends => k_is)
      (case l_law_depends => k_is)
      (case w_law_depends => k_is)
      (case k_law_depends => k_is)
      (case a_law_orders => k_is)
      (case l_law_orders => k_is)
      (case w_law_orders => k_is)
      (case k_law_orders => k_is)
      (case a_law => k_is)
      (case l_law => k_is)
      (case w_law => k_is)
      (case k_law => k_is)
      (case y_abs => k_is)
      (case y_all => k_is)
      (case y_any => k_is)
      (case y_bool => k_is)
      (case y_int => k_is)
      (case y_isinstance => k_is)
      (case y_len => k_is)
      (case y_niO => k_is)
      (case y_range => k_is)
      (case y_sorted => k_is)
      (case y_str => k_is)
      (case y_sum => k_is)
      (case y_tuple => k_is)
      (case g_ALWAYS => k_is)
      (case g_FIRST_NODE => k_is)
      (case g_gcd => k_is)
      (case g_factorial => k_is)
      (case t_T => rfl))