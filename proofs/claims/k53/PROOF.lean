import PyProof.Rows.All
import Wide.All
import OpenK.AllK
import Wide.FinOn
import HandS.ForMost
import HandS.StrMore
import HandS.IsInst
import HandS.FStr
import HandS.Wide
import HandS.Flow
import HandS.TupAny
import HandS.Evl
import HandS.More
import HandS.CallLocal
import HandS.Strs
import PySem.Challenge.RW_ontoworks_k53_trees_with_numbers
set_option Elab.async false
set_option linter.all false
set_option maxRecDepth 100000
set_option maxHeartbeats 4000000

namespace Pf
open PySem PySem.Spec PyProof.Rows L2
/-- a def of the top under its name, bound without defaults -/
structure Df (K : PySem.W.Frag) (mg : Str → Option Value) (x : Str) (st : Stmt) (f : Addr) (fd : FuncData) (ps : List Str) : Prop where
  fn : Fun K x x st f fd
  mgf : mg x = some (.ref f)
  kp : PySem.W.keepIn K (.ref f) = true
  bd : Binds K fd ps []
/-- a def that keeps a promise, by its name -/
structure Cl (P : Program) (w : World) (K : PySem.W.Frag) (mg : Str → Option Value) (base : Heap) (k : Nat) (x : Str) (sp : Sp) : Prop where
  ex : ∃ (f : Addr) (fd : FuncData) (ps : List Str), FnOk P w K mg base CX0 k f fd ps sp ∧ mg x = some (.ref f) ∧ PySem.W.keepIn K (.ref f) = true ∧ Binds K fd ps []
section
variable {P : Program} {w : World} {K : PySem.W.Frag} {mg : Str → Option Value} {base : Heap}
theorem Df.cl {x : Str} {st : Stmt} {f : Addr} {fd : FuncData} {ps N : List Str} {k : Nat} {sp : Sp} (D : Df K mg x st f fd ps) (S : FnScope N ps (defScope st)) (len : ∀ vs H Q E, sp vs H Q E → vs.length = ps.length)
    (hbody : ∀ (cdv : Value) (A : Around) (outer : List Env) (s : Shared) (H : Hp) (vs : List V) (Q : VK) (E : XK), Room k (A.deeper (envOfC x (defScope st) s.heap.objs.size f cdv)) → sp vs H Q E →
      ∃ t, PSs (cxOf CX0 P w K mg base N x (defScope st) f cdv A outer s H E).nox (defBody st) t ∧ t { nx := fun _ H' => Q .non H', rt := Q } (start N vs) H) : Cl P w K mg base (k + 1) x sp :=
  ⟨f, fd, ps, D.fn.ok S len hbody, D.mgf, D.kp, D.bd⟩
theorem Cl.imp {x : Str} {k : Nat} {sp sp' : Sp} (c : Cl P w K mg base k x sp) (h : ∀ vs H Q E, sp' vs H Q E → sp vs H Q E) : Cl P w K mg base k x sp' := by
  obtain ⟨f, fd, ps, F, r⟩ := c.ex
  exact ⟨f, fd, ps, F.imp h, r⟩
theorem Cl.mono {x : Str} {k j : Nat} {sp : Sp} (c : Cl P w K mg base k x sp) (h : k ≤ j) : Cl P w K mg base j x sp := by
  obtain ⟨f, fd, ps, F, r⟩ := c.ex
  exact ⟨f, fd, ps, F.mono h, r⟩
end
section
variable {X : Cx} {k j : Nat} {x : Str} {sp : Sp} {p pos : Pos} {e : Expr} {es : List Expr} {t : TA}
theorem pc (c : Cl X.prog X.w X.K X.mg X.base k x sp) (hr : Room j X.A) (hk : k ≤ j) (hg : Gl X x) (ha : PA X (e :: es) t)
    (hdb : (x == ("__debug__" : Str)) = false := by decide) (he : starEach (e :: es) X.env = (false, eval e X.env) :: starEach es X.env := by rfl) (hpl : (backTo pos (starEach es X.env)).any (·.1) = false := by rfl) :
    PE X (.Call (.Name x p) (e :: es) [] pos) (tCall sp [] E0 t) := by
  obtain ⟨f, fd, ps, F, hm, kp, b⟩ := c.ex
  exact pe_call F (hr.mono hk) hg hm kp b .nil pass0 ha hdb he hpl
theorem pc0 (c : Cl X.prog X.w X.K X.mg X.base k x sp) (hr : Room j X.A) (hk : k ≤ j) (hg : Gl X x)
    (hdb : (x == ("__debug__" : Str)) = false := by decide) :
    PE X (.Call (.Name x p) [] [] pos) (tCall sp [] E0 tNil) := by
  obtain ⟨f, fd, ps, F, hm, kp, b⟩ := c.ex
  exact pe_call0 F (hr.mono hk) hg hm kp b .nil pass0 hdb
end
/-! heaps -/
theorem Same.new {H : Hp} {p : Addr} (o : HO) (h : H p = none) : Same H (upd H p o) := fun b u e => by
  rw [upd_ne (ne_of_none e h)]
  exact e
theorem Same.seqT {K : PySem.W.Frag} {H H' : Hp} {a : Addr} {xs : List V} (e : Same H H') (h : SqT K H a xs) : SqT K H' a xs := by
  rcases h with (h | ⟨o, h⟩) | h
  · exact .inl (.inl (e _ _ h))
  · exact .inl (.inr ⟨o, e _ _ h⟩)
  · exact .inr h
theorem upd_self {H : Hp} {a : Addr} {o : HO} (h : H a = some o) : upd H a o = H := by
  funext b
  unfold upd
  split
  · rename_i e
    rw [e, h]
  · rfl
/-! one short for the sign of a code -/
abbrev sg (c : Nat) : Str := ⟨#[c]⟩
/-! a written tuple of texts -/
def StrIts : List Value → List Str → Bool
  | [], [] => true
  | .str x _ :: vs, y :: ys => decide (x = y) && StrIts vs ys
  | _, _ => false
theorem strIts_vals : ∀ {vs : List Value} {ys : List Str}, StrIts vs ys = true → Vals (ys.map V.str) vs
  | [], [], _ => .nil
  | .str x t :: vs, y :: ys, h => by
    unfold StrIts at h
    rw [Bool.and_eq_true] at h
    have e := of_decide_eq_true h.1
    subst e
    exact .cons ⟨t, rfl⟩ (strIts_vals h.2)
theorem sqt_of {K : PySem.W.Frag} {H : Hp} {a : Addr} {od : Option Addr} {its : Array Value} {n : Nat} {sl : Array (Option Value)} {ys : List Str} (l : K.lookup a = some ⟨.type "tuple", od, .seq its n, sl⟩) (h : StrIts its.toList ys = true) (hs : decide (its.size ≤ 1000) = true) : SqT K H a (ys.map V.str) :=
  .inr ⟨_, its, n, l, rfl, rfl, Nat.le_trans (of_decide_eq_true hs) (by decide), strIts_vals h⟩
/-! the drawing helpers: what a caller needs of them -/
/-- _law_cell: some int -/
def spCell (K : PySem.W.Frag) : Sp := fun vs H Q _ => ∃ (a : Addr) (ns : List Int) (k : Int), vs = [.ref a, .int k] ∧ SqL K H a (ns.map V.int) ∧ ns.length ≤ 63 ∧ 0 ≤ k ∧ ∀ c : Int, Q (.int c) H
/-- _law_draws: a new list of so many ints, none below 0 -/
def spDraws (K : PySem.W.Frag) : Sp := fun vs H Q _ => ∃ (a : Addr) (ns : List Int) (k n : Int), vs = [.ref a, .int k, .int n] ∧ SqL K H a (ns.map V.int) ∧ ns.length ≤ 63 ∧ 0 ≤ k ∧ 0 ≤ n ∧ n ≤ 1000 ∧
  ∀ (ds : List Int) (p : Addr) (H' : Hp), Same H H' → H p = none → H' p = some (.lst (ds.map V.int)) → (ds.length : Int) = n → Q (.ref p) H'
/-- _law_take: an int below m; the list without its first -/
def spTake : Sp := fun vs H Q _ => ∃ (l : Addr) (ds : List Int) (m : Int), vs = [.ref l, .int m] ∧ H l = some (.lst (ds.map V.int)) ∧ 0 < m ∧ ∀ r : Int, 0 ≤ r → r < m → Q (.int r) (upd H l (.lst (ds.tail.map V.int)))
theorem map_tail {ds : List Int} : (ds.map V.int).tail = ds.tail.map V.int := by cases ds <;> rfl
theorem eraseIdx0 {α : Type} (xs : List α) : xs.eraseIdx 0 = xs.tail := by cases xs <;> rfl
/-- text * count -/
def rMulS : R2 := fun x y H Q => ∃ (z : Str) (n : Int), x = .str z ∧ y = .int n ∧ 0 ≤ n ∧ n ≤ 1000 ∧ z.length ≤ 10000 ∧ Q (.str (Txt.mul z n)) H
theorem mul_ok {z : Str} {n : Int} (h0 : 0 ≤ n) (h1 : n ≤ 1000) (hz : z.length ≤ 10000) : MulOk z n := by
  refine ⟨?_, fun h2 _ => ?_, fun _ _ => ?_⟩
  · rw [decide_eq_false (by omega), decide_eq_false (by omega)]
    rfl
  · intro h3
    have h4 : (2 ^ 63 - 1) / n ≥ (2 ^ 63 - 1) / 1000 := by
      refine Int.le_ediv_of_mul_le (by omega) ?_
      have : (2 ^ 63 - 1 : Int) / 1000 * n ≤ (2 ^ 63 - 1) / 1000 * 1000 := Int.mul_le_mul_of_nonneg_left h1 (by decide)
      exact Int.le_trans this (by decide)
    have h5 : ((2 : Int) ^ 63 - 1) / 1000 ≥ 10001 := by decide
    omega
  · unfold Builtin.Str.tooLong
    refine decide_eq_false ?_
    have : z.length * n.toNat ≤ 10000 * 1000 := Nat.mul_le_mul hz (by omega)
    have : sizeLine ≥ 10000000 := by decide
    omega
theorem op_mul_str {X : Cx} : OpR X (binaryOp .Mult) rMulS := by
  intro pins s σ H x y v u Q I rx ry h
  obtain ⟨z, n, rfl, rfl, h0, h1, hz, q⟩ := h
  obtain ⟨t, rfl⟩ := rx
  obtain ⟨t', rfl⟩ := ry
  exact PySem.SB.mul (mul_ok h0 h1 hz) fun t' k => ⟨.str (Txt.mul z n), H, I.tok _, ⟨_, rfl⟩, q⟩
/-- data of tuples, so many deep -/
def TupN : Nat → PyData → Prop
  | 0, _ => False
  | n + 1, .tuple ds => ds.length ≤ 100000 ∧ ∀ d ∈ ds, TupN n d
  | _ + 1, .list _ => False
  | _ + 1, .dict _ => False
  | _ + 1, _ => True
/-- _law_same upon the same data twice -/
def spSame (K : PySem.W.Frag) (n : Nat) : Sp := fun vs H Q _ => ∃ (x y : V) (d : PyData), vs = [x, y] ∧ Dp K H x d ∧ Dp K H y d ∧ TupN n d ∧ ∀ H', Same H H' → Q (.bl true) H'
theorem dpAll_len {K : PySem.W.Frag} {H : Hp} : ∀ {vs : List V} {ds : List PyData}, DpAll K H vs ds → vs.length = ds.length
  | _, _, .nil => rfl
  | _, _, .cons _ t => congrArg Nat.succ (dpAll_len t)
theorem dpAll_at {K : PySem.W.Frag} {H : Hp} : ∀ {vs : List V} {ds : List PyData}, DpAll K H vs ds → ∀ (i : Nat) (v : V) (d : PyData), vs[i]? = some v → ds[i]? = some d → Dp K H v d
  | _, _, .nil, i, v, d, h, _ => by simp at h
  | _, _, .cons a _, 0, v, d, h, h' => by
    simp at h h'
    rw [← h, ← h']
    exact a
  | _, _, .cons _ t, i + 1, v, d, h, h' => dpAll_at t i v d (by simpa using h) (by simpa using h')
mutual
theorem Dp.same {K : PySem.W.Frag} {H H' : Hp} (e : Same H H') : ∀ {d : PyData} {v : V}, Dp K H v d → Dp K H' v d
  | _, _, .non => .non
  | _, _, .bl b => .bl b
  | _, _, .int i => .int i
  | _, _, .str x => .str x
  | _, _, .lst h a => .lst (e.seq h) (DpAll.same e a)
  | _, _, .tup h a => .tup (Same.seqT e h) (DpAll.same e a)
theorem DpAll.same {K : PySem.W.Frag} {H H' : Hp} (e : Same H H') : ∀ {ds : List PyData} {vs : List V}, DpAll K H vs ds → DpAll K H' vs ds
  | _, _, .nil => .nil
  | _, _, .cons a t => .cons (Dp.same e a) (DpAll.same e t)
end
theorem tyT {K : PySem.W.Frag} {H : Hp} {a : Addr} {xs : List V} (h : SqT K H a xs) : TyX K H (.ref a) (.type "tuple") := by
  rcases h with (h | ⟨o, h⟩) | ⟨o, _, _, h, hc, _⟩
  · exact .base (.tup h)
  · exact .fTuple h
  · exact .kTuple h hc
theorem atI_some {α : Type} {xs : List α} {i : Nat} (h : i < xs.length) : atI xs (i : Int) = some xs[i] := atI_nat (List.getElem?_eq_getElem h)
/-- a sign that a text may have -/
def ChrOk (c : Nat) : Prop := 32 ≤ c ∧ c ≤ 126 ∧ c ≠ 37
instance (c : Nat) : Decidable (ChrOk c) := inferInstanceAs (Decidable (_ ∧ _))
def spChar : Sp := fun vs H Q _ => ∃ d : Int, vs = [.int d] ∧ ∀ c : Nat, ChrOk c → Q (.str (sg c)) H
/-! rules whose reading names the written part, said with it given (a comprehension's block wants that) -/
theorem ixT {X : Cx} {K : PySem.W.Frag} (h : X.K = K := by rfl) : IxR X (rIxT K) := by
  subst h
  exact ix_tup
theorem ixL {X : Cx} {K : PySem.W.Frag} (h : X.K = K := by rfl) : IxR X (rIxL K) := by
  subst h
  exact ix_list
def rLenQ (K : PySem.W.Frag) : List V → Hp → VK → Prop := fun xs H Q => ∃ p ys, xs = [.ref p] ∧ (SqL K H p ys ∨ SqT K H p ys) ∧ Q (.int ys.length) H
theorem lenQ {X : Cx} {K : PySem.W.Frag} (h : X.K = K := by rfl) : CallR X (.builtin "len") (rLenQ K) := by
  subst h
  exact call_len_seq
section
variable {K : PySem.W.Frag} {σ : L2.St} {H : Hp} {i : Nat} {x : V} {t T : String} {tt u : TS} {D : Ends}
theorem ev_isi {b : Bool} {Q : VK} (h : σ[i]? = some (some x)) (ty : TyX K H x (.type t)) (k : kitB t T = some b) (q : Q (.bl b) H) : tCB (rIsi K) (tCons (tVar i) (tCons (tC (.ty T)) tNil)) σ H Q := ⟨x, h, x, .ty T, _, _, b, rfl, .ty _, ty, kit_ty k, q⟩
theorem if_isiF (h : σ[i]? = some (some x)) (ty : TyX K H x (.type t)) (k : kitB t T = some false) (q : u D σ H) : tIfS (tB (tCB (rIsi K) (tCons (tVar i) (tCons (tC (.ty T)) tNil)))) tt u D σ H := ev_isi h ty k ⟨_, rfl, iteF q⟩
theorem if_isiT (h : σ[i]? = some (some x)) (ty : TyX K H x (.type t)) (k : kitB t T = some true) (q : tt D σ H) : tIfS (tB (tCB (rIsi K) (tCons (tVar i) (tCons (tC (.ty T)) tNil)))) tt u D σ H := ev_isi h ty k ⟨_, rfl, iteT q⟩
end
/-- an object that H does not know may change -/
theorem Same.mut {H H1 : Hp} {p : Addr} (o : HO) (e : Same H H1) (n : H p = none) : Same H (upd H1 p o) := fun b u h => by
  rw [upd_ne (ne_of_none h n)]
  exact e b u h
end Pf
namespace Pf
open PySem PySem.Spec PyProof.Rows L2
/-! data of tuples stands while lists change -/
def KT (K : PySem.W.Frag) (H H' : Hp) : Prop := ∀ a xs, SqT K H a xs → SqT K H' a xs
theorem KT.of {K : PySem.W.Frag} {H H' : Hp} (e : Same H H') : KT K H H' := fun _ _ h => Same.seqT e h
theorem KT.trans {K : PySem.W.Frag} {H H1 H2 : Hp} (a : KT K H H1) (b : KT K H1 H2) : KT K H H2 := fun x xs h => b x xs (a x xs h)
theorem KT.lst {K : PySem.W.Frag} {H : Hp} {l : Addr} {xs : List V} (o : HO) (h : H l = some (.lst xs)) : KT K H (upd H l o) := fun a ys q => by
  rcases q with (q | ⟨ob, q⟩) | q
  · exact .inl (.inl ((upd_ne (ne_of q h (by intro z; cases z))).trans q))
  · exact .inl (.inr ⟨ob, (upd_ne (ne_of q h (by intro z; cases z))).trans q⟩)
  · exact .inr q
theorem KT.ins {K : PySem.W.Frag} {H : Hp} {l C dx : Addr} {fs : List (Str × V)} (o : HO) (h : H l = some (.ins C dx fs)) : KT K H (upd H l o) := fun a ys q => by
  rcases q with (q | ⟨ob, q⟩) | q
  · exact .inl (.inl ((upd_ne (ne_of q h (by intro z; cases z))).trans q))
  · exact .inl (.inr ⟨ob, (upd_ne (ne_of q h (by intro z; cases z))).trans q⟩)
  · exact .inr q
theorem KT.new {K : PySem.W.Frag} {H : Hp} {l : Addr} (o : HO) (h : H l = none) : KT K H (upd H l o) := KT.of (Same.new o h)
mutual
theorem Dp.kt {K : PySem.W.Frag} {H H' : Hp} (e : KT K H H') : ∀ {n : Nat} {d : PyData} {v : V}, TupN n d → Dp K H v d → Dp K H' v d
  | _, _, _, _, .non => .non
  | _, _, _, _, .bl b => .bl b
  | _, _, _, _, .int i => .int i
  | _, _, _, _, .str x => .str x
  | 0, _, _, z, .lst _ _ => z.elim
  | _ + 1, _, _, z, .lst _ _ => z.elim
  | 0, _, _, z, .tup _ _ => z.elim
  | _ + 1, _, _, z, .tup h a => .tup (e _ _ h) (DpAll.kt e z.2 a)
theorem DpAll.kt {K : PySem.W.Frag} {H H' : Hp} (e : KT K H H') : ∀ {n : Nat} {ds : List PyData} {vs : List V}, (∀ d ∈ ds, TupN n d) → DpAll K H vs ds → DpAll K H' vs ds
  | _, _, _, _, .nil => .nil
  | _, _, _, z, .cons a t => .cons (Dp.kt e (z _ (List.mem_cons_self ..)) a) (DpAll.kt e (fun d hd => z d (List.mem_cons_of_mem _ hd)) t)
end
theorem dpAll_app {K : PySem.W.Frag} {H : Hp} : ∀ {vs ws : List V} {ds es : List PyData}, DpAll K H vs ds → DpAll K H ws es → DpAll K H (vs ++ ws) (ds ++ es)
  | _, _, _, _, .nil, h => h
  | _, _, _, _, .cons a t, h => .cons a (dpAll_app t h)
/-! a slice of a list of ints -/
def cutI {α : Type} (ds : List α) (lo hi : Option Int) : List α := (ds.drop (HT.sIx ds.length 0 lo)).take (HT.sIx ds.length ds.length hi - HT.sIx ds.length 0 lo)
theorem cutV_map {α : Type} (f : α → V) (ds : List α) (lo hi : Option Int) : cutV (ds.map f) lo hi = (cutI ds lo hi).map f := by
  unfold cutV cutI
  rw [List.length_map, List.map_take, List.map_drop]
end Pf
namespace Pf
open PySem PySem.Spec PyProof.Rows L2
/-- all but d stands -/
def SameX (d : Addr) (H H' : Hp) : Prop := ∀ b o, b ≠ d → H b = some o → H' b = some o
theorem SameX.refl (d : Addr) (H : Hp) : SameX d H H := fun _ _ _ h => h
theorem SameX.trans {d : Addr} {H H1 H2 : Hp} (a : SameX d H H1) (b : SameX d H1 H2) : SameX d H H2 := fun x o n h => b x o n (a x o n h)
theorem SameX.new {d p : Addr} {H : Hp} (o : HO) (h : H p = none) : SameX d H (upd H p o) := fun b u _ e => Same.new o h b u e
theorem SameX.at {d : Addr} {H : Hp} (o : HO) : SameX d H (upd H d o) := fun b u n e => (upd_ne n).trans e
theorem SameX.mut {d p : Addr} {H H1 : Hp} (o : HO) (e : SameX d H H1) (h : H p = none) : SameX d H (upd H1 p o) := fun b u n q => by
  rw [upd_ne (ne_of_none q h)]
  exact e b u n q
theorem SameX.of {d : Addr} {H H' : Hp} (e : Same H H') : SameX d H H' := fun b o _ h => e b o h
theorem KT.x {K : PySem.W.Frag} {d : Addr} {H H' : Hp} {xs : List V} (h : H d = some (.lst xs)) (e : SameX d H H') : KT K H H' := fun a ys q => by
  rcases q with (q | ⟨ob, q⟩) | q
  · exact .inl (.inl (e _ _ (ne_of q h (by intro z; cases z)) q))
  · exact .inl (.inr ⟨ob, e _ _ (ne_of q h (by intro z; cases z)) q⟩)
  · exact .inr q
theorem SameX.free {d p : Addr} {H H' : Hp} (e : SameX d H H') (n : p ≠ d) (h : H' p = none) : H p = none := by
  cases q : H p with
  | none => rfl
  | some o =>
    rw [e p o n q] at h
    cases h
end Pf

namespace Pf
open PySem PySem.Spec PyProof.Rows L2
/-! texts by the lists of their codes -/
abbrev T (l : List Nat) : Str := ⟨l.toArray⟩
theorem T_of (x : Str) : x = T x.cps.toList := TL.ext_tl rfl
theorem T_len (l : List Nat) : (T l).length = l.length := by simp [Str.length]
theorem T_cat (a b : List Nat) : T a ++ T b = T (a ++ b) := TL.ext_tl (TL.tl_append (T a) (T b))
theorem T_inj {a b : List Nat} (h : T a = T b) : a = b := congrArg (fun x : Str => x.cps.toList) h
theorem T_eq {a b : List Nat} : decide (T a = T b) = decide (a = b) := by
  by_cases h : a = b
  · rw [h, decide_eq_true rfl, decide_eq_true rfl]
  · rw [decide_eq_false h, decide_eq_false fun e => h (T_inj e)]
theorem V_eq {a b : List Nat} : decide (V.str (T a) = V.str (T b)) = decide (a = b) := by
  by_cases h : a = b
  · rw [h, decide_eq_true rfl, decide_eq_true rfl]
  · rw [decide_eq_false h, decide_eq_false fun e => h (T_inj (V.str.inj e))]
theorem cut_to (l : List Nat) (n : Nat) : cutS (T l) none (some (n : Int)) = T (l.take n) := by
  unfold cutS
  rw [HT.sIx_none, HT.sIx_nat, T_len]
  refine TL.ext_tl ?_
  show (l.drop 0).take (min n l.length - 0) = l.take n
  rw [List.drop_zero, Nat.sub_zero, ← List.take_eq_take_min]
theorem cut_from (l : List Nat) (n : Nat) : cutS (T l) (some (n : Int)) none = T (l.drop n) := by
  unfold cutS
  rw [HT.sIx_none, HT.sIx_nat, T_len]
  refine TL.ext_tl ?_
  show (l.drop (min n l.length)).take (l.length - min n l.length) = l.drop n
  by_cases h : n ≤ l.length
  · rw [Nat.min_eq_left h, List.take_of_length_le (by rw [List.length_drop]; omega)]
  · rw [Nat.min_eq_right (by omega), List.drop_eq_nil_of_le (by omega), List.drop_eq_nil_of_le (by omega), List.take_nil]
theorem cut_mid (l : List Nat) {a b : Nat} (ha : a ≤ b) (hb : b ≤ l.length) : cutS (T l) (some (a : Int)) (some (b : Int)) = T ((l.drop a).take (b - a)) := by
  unfold cutS
  rw [HT.sIx_nat, HT.sIx_nat, T_len, Nat.min_eq_left (show a ≤ l.length by omega), Nat.min_eq_left hb]
/-- a text walked by its signs -/
theorem for_txt {l : List Nat} {g : TG} {tb : TS} {D : Ends} {σ : L2.St} {H : Hp} (Pv : Nat → L2.St → Hp → Prop) (h0 : Pv 0 σ H)
    (hs : ∀ i c σ H, l[i]? = some c → Pv i σ H → g (.str (sg c)) σ H fun σ2 H2 => tb { D with nx := Pv (i + 1), ct := Pv (i + 1), bk := D.nx } σ2 H2) (hd : ∀ σ H, Pv l.length σ H → D.nx σ H) :
    ∃ W : Nat → Nat → L2.St → Hp → Prop, (∃ m, W 0 m σ H) ∧ ∀ i m σ H, W i m σ H →
      ((Its (T l)).stop i H ∧ D.nx σ H) ∨ ((Its (T l)).go i H ∧ ∃ N : L2.St → Hp → Prop, (∀ σ' H', N σ' H' → ∃ m', m' < m ∧ W (i + 1) m' σ' H') ∧ ∀ x H', (Its (T l)).yld i H x H' → g x σ H' fun σ2 H2 => tb { D with nx := N, ct := N, bk := D.nx } σ2 H2) := by
  refine ⟨fun i m σ H => m = l.length - i ∧ i ≤ l.length ∧ Pv i σ H, ⟨l.length, by simp, Nat.zero_le _, h0⟩, ?_⟩
  rintro i m σ H ⟨rfl, hi, p⟩
  by_cases hlt : i < l.length
  · refine .inr ⟨(by show i < l.toArray.size; simpa using hlt), Pv (i + 1), fun σ' H' p' => ⟨l.length - (i + 1), by omega, rfl, hlt, p'⟩, fun x H' y => ?_⟩
    obtain ⟨rfl, c, hc, rfl⟩ := y
    exact hs i c σ H' (by simpa using hc) p
  · have e : i = l.length := by omega
    subst e
    exact .inl ⟨(by show l.toArray.size ≤ l.length; simp), hd _ _ p⟩
/-- a comprehension over a text -/
theorem lc_txt {l : List Nat} {g : TG} {tt : TT} {te : TE} {vs : List Nat} {σ : L2.St} {H1 : Hp} {D : Addr} {Qd : Hp → Prop} (Pv : Nat → Hp → Prop) (h0 : Pv 0 (upd H1 D (.lst [])))
    (hs : ∀ i c H, l[i]? = some c → Pv i H → g (.str (sg c)) (wipe σ vs) H fun σ2 H2 => wipe σ2 vs = wipe σ vs ∧ tt σ2 H2 fun b H3 =>
      if b = true then te σ2 H3 fun y H4 => ∃ acc, H4 D = some (.lst acc) ∧ acc.length < sizeLine ∧ Pv (i + 1) (upd H4 D (.lst (acc ++ [y]))) else Pv (i + 1) H3) (hd : ∀ H, Pv l.length H → Qd H) :
    ∃ W : Nat → Nat → Hp → Prop, (∃ m, W 0 m (upd H1 D (.lst []))) ∧ ∀ i m H, W i m H →
      ((Its (T l)).stop i H ∧ Qd H) ∨ ((Its (T l)).go i H ∧ ∃ Nx : Hp → Prop, (∀ H', Nx H' → ∃ m', m' < m ∧ W (i + 1) m' H') ∧ ∀ x H', (Its (T l)).yld i H x H' → g x (wipe σ vs) H' fun σ2 H2 => wipe σ2 vs = wipe σ vs ∧ tt σ2 H2 fun b H3 =>
        if b = true then te σ2 H3 fun y H4 => ∃ acc, H4 D = some (.lst acc) ∧ acc.length < sizeLine ∧ Nx (upd H4 D (.lst (acc ++ [y]))) else Nx H3) := by
  refine ⟨fun i m H => m = l.length - i ∧ i ≤ l.length ∧ Pv i H, ⟨l.length, by simp, Nat.zero_le _, h0⟩, ?_⟩
  rintro i m H ⟨rfl, hi, p⟩
  by_cases hlt : i < l.length
  · refine .inr ⟨(by show i < l.toArray.size; simpa using hlt), Pv (i + 1), fun H' p' => ⟨l.length - (i + 1), by omega, rfl, hlt, p'⟩, fun x H' y => ?_⟩
    obtain ⟨rfl, c, hc, rfl⟩ := y
    exact hs i c H' (by simpa using hc) p
  · have e : i = l.length := by omega
    subst e
    exact .inl ⟨(by show l.toArray.size ≤ l.length; simp), hd _ p⟩
theorem small9 {n : Nat} (h : n ≤ 1000000) : n ≤ sizeLine := Nat.le_trans h (by decide)
/-- a sign of a text all of whose signs are of a kind -/
theorem ix_of {z : Str} {i : Int} {H : Hp} {Q : VK} (p : Nat → Bool) (h0 : 0 ≤ i) (h1 : i < (z.length : Int)) (hz : z.length ≤ sizeLine) (hc : z.cps.toList.all p = true) (q : ∀ c, p c = true → Q (.str (sg c)) H) : rIxS (.str z) (.int i) H Q := by
  have hl : z.length = z.cps.toList.length := by simp [Str.length]
  have hi : i.toNat < z.cps.toList.length := by omega
  have ei : i = ((i.toNat : Nat) : Int) := by omega
  refine ⟨z, i, z.cps.toList[i.toNat], rfl, rfl, hz, ?_, q _ (List.all_eq_true.mp hc _ (List.getElem_mem hi))⟩
  have := atI_some hi
  rw [← ei] at this
  exact this
theorem nl_eq : Str.ofString "\n" = T [10] := by decide +kernel
theorem e_eq : Str.ofString "" = T [] := by decide +kernel
theorem at_any {α : Type} {xs : List α} (p : α → Prop) {i : Int} (h0 : 0 ≤ i) (h1 : i < (xs.length : Int)) (h : ∀ x ∈ xs, p x) : ∃ v, p v ∧ atI xs i = some v := by
  have hi : i.toNat < xs.length := by omega
  have ei : i = ((i.toNat : Nat) : Int) := by omega
  refine ⟨xs[i.toNat], h _ (List.getElem_mem hi), ?_⟩
  have := atI_some hi
  rw [← ei] at this
  exact this
theorem inV_strs (x : Str) (ys : List Str) : inV (.str x) (ys.map V.str) = decide (x ∈ ys) := by
  unfold inV
  rw [List.any_map]
  induction ys with
  | nil => rfl
  | cons y ys ih =>
    rw [List.any_cons, ih]
    show ((y == x) || decide (x ∈ ys)) = decide (x ∈ y :: ys)
    by_cases h : y = x
    · subst h
      rw [beq_self_eq_true, Bool.true_or, decide_eq_true (List.mem_cons_self ..)]
    · rw [beq_false_of_ne h, Bool.false_or]
      by_cases h2 : x ∈ ys
      · rw [decide_eq_true h2, decide_eq_true (List.mem_cons_of_mem _ h2)]
      · rw [decide_eq_false h2, decide_eq_false]
        intro h3
        rcases List.mem_cons.mp h3 with h3 | h3
        · exact h h3.symm
        · exact h2 h3
theorem flat_strs (ys : List Str) : (ys.map V.str).all flatV = true := by
  rw [List.all_map, List.all_eq_true]
  intro x _
  rfl
theorem join_T (a : List Nat) (ys : List (List Nat)) : Txt.join (T a) (ys.map T) = T (TL.joinL a ys) := by
  rw [TL.join_eq]
  refine TL.ext_tl ?_
  rw [TL.tl_join, List.map_map]
  have e : ys.map (TL.tl ∘ T) = ys := by
    induction ys with
    | nil => rfl
    | cons y ys ih =>
      rw [List.map_cons, ih]
      rfl
  rw [e]
/-! the kinds of signs -/
def isL (c : Nat) : Bool := decide (c ∈ (Str.ofString "abcdefghijklmnopqrstuvwxyzABCDEFGHIJKLMNOPQRSTUVWXYZ_").cps.toList)
def isW (c : Nat) : Bool := isL c || decide (c ∈ (Str.ofString "0123456789").cps.toList)
def isB (c : Nat) : Bool := decide (c ∈ (Str.ofString " \n").cps.toList)
def isS (c : Nat) : Bool := decide (c ∈ (Str.ofString "();,:").cps.toList)
end Pf

namespace Pf
open PySem PySem.Spec PyProof.Rows L2
/-! written trees as data -/
def strsV (ns : List (List Nat)) : List V := ns.map fun n => V.str (T n)
def lit (s : String) : List Nat := (Str.ofString s).cps.toList
theorem lit_T (s : String) : Str.ofString s = T (lit s) := T_of _
abbrev Rol := List Nat × Bool
def rolD (r : Rol) : PyData := .tuple [.str (T r.1), .bool r.2]
inductive Con where
  | any | nothing
  | name (s : List Nat)
  | not (c : Con)
  | both (c d : Con)
  | either (c d : Con)
  | some (r : Rol) (c : Con)
  | all (r : Rol) (c : Con)
namespace Con
def D : Con → PyData
  | .any => .tuple [.str (Str.ofString "anything")]
  | .nothing => .tuple [.str (Str.ofString "nothing")]
  | .name s => .tuple [.str (Str.ofString "name"), .str (T s)]
  | .not c => .tuple [.str (Str.ofString "not"), c.D]
  | .both c d => .tuple [.str (Str.ofString "and"), c.D, d.D]
  | .either c d => .tuple [.str (Str.ofString "or"), c.D, d.D]
  | .some r c => .tuple [.str (Str.ofString "some"), rolD r, c.D]
  | .all r c => .tuple [.str (Str.ofString "all"), rolD r, c.D]
/-- how many trees are within one another -/
def dp : Con → Nat
  | .not c => c.dp + 1
  | .both c d => max c.dp d.dp + 1
  | .either c d => max c.dp d.dp + 1
  | .some _ c => c.dp + 1
  | .all _ c => c.dp + 1
  | _ => 0
/-- a bound of its text -/
def sz : Con → Nat
  | .name s => s.length + 20
  | .not c => c.sz + 20
  | .both c d => c.sz + d.sz + 20
  | .either c d => c.sz + d.sz + 20
  | .some r c => r.1.length + c.sz + 40
  | .all r c => r.1.length + c.sz + 40
  | _ => 20
end Con
theorem rolN (r : Rol) : TupN 2 (rolD r) := ⟨(by show 2 ≤ 100000; decide), fun d hd => by
  rcases List.mem_cons.mp hd with rfl | hd
  · trivial
  rw [List.mem_singleton.mp hd]
  trivial⟩
theorem TupN.up : ∀ {n : Nat} {d : PyData}, TupN n d → TupN (n + 1) d
  | 0, _, h => h.elim
  | n + 1, .tuple ds, h => ⟨h.1, fun d hd => TupN.up (h.2 d hd)⟩
  | _ + 1, .list _, h => h.elim
  | _ + 1, .dict _, h => h.elim
  | _ + 1, .none, _ => trivial
  | _ + 1, .bool _, _ => trivial
  | _ + 1, .int _, _ => trivial
  | _ + 1, .str _, _ => trivial
theorem TupN.le {n m : Nat} {d : PyData} (h : TupN n d) (e : n ≤ m) : TupN m d := by
  obtain ⟨k, rfl⟩ : ∃ k, m = n + k := ⟨m - n, by omega⟩
  induction k with
  | zero => exact h
  | succ k ih => exact (ih (by omega)).up
theorem tupN_of {n : Nat} {ds : List PyData} (hl : ds.length ≤ 100000) (h : ∀ d ∈ ds, TupN n d) : TupN (n + 1) (.tuple ds) := ⟨hl, h⟩
theorem tup1 {n : Nat} {a : PyData} (ha : TupN n a) : TupN (n + 1) (.tuple [a]) := ⟨(by show 1 ≤ 100000; decide), fun d hd => by
  rw [List.mem_singleton.mp hd]
  exact ha⟩
theorem tup2 {n : Nat} {a b : PyData} (ha : TupN n a) (hb : TupN n b) : TupN (n + 1) (.tuple [a, b]) := ⟨(by show 2 ≤ 100000; decide), fun d hd => by
  rcases List.mem_cons.mp hd with rfl | hd
  · exact ha
  rw [List.mem_singleton.mp hd]
  exact hb⟩
theorem tup3 {n : Nat} {a b c : PyData} (ha : TupN n a) (hb : TupN n b) (hc : TupN n c) : TupN (n + 1) (.tuple [a, b, c]) := ⟨(by show 3 ≤ 100000; decide), fun d hd => by
  rcases List.mem_cons.mp hd with rfl | hd
  · exact ha
  rcases List.mem_cons.mp hd with rfl | hd
  · exact hb
  rw [List.mem_singleton.mp hd]
  exact hc⟩
theorem tup4 {n : Nat} {a b c e : PyData} (ha : TupN n a) (hb : TupN n b) (hc : TupN n c) (he : TupN n e) : TupN (n + 1) (.tuple [a, b, c, e]) := ⟨(by show 4 ≤ 100000; decide), fun d hd => by
  rcases List.mem_cons.mp hd with rfl | hd
  · exact ha
  rcases List.mem_cons.mp hd with rfl | hd
  · exact hb
  rcases List.mem_cons.mp hd with rfl | hd
  · exact hc
  rw [List.mem_singleton.mp hd]
  exact he⟩
theorem strN (n : Nat) (x : Str) : TupN (n + 1) (.str x) := trivial
theorem Con.tn : ∀ c : Con, TupN (c.dp + 3) c.D
  | .any => tup1 trivial
  | .nothing => tup1 trivial
  | .name _ => tup2 trivial trivial
  | .not c => tup2 trivial (Con.tn c)
  | .both c d => tup3 trivial ((Con.tn c).le (by show c.dp + 3 ≤ max c.dp d.dp + 3; omega)) ((Con.tn d).le (by show d.dp + 3 ≤ max c.dp d.dp + 3; omega))
  | .either c d => tup3 trivial ((Con.tn c).le (by show c.dp + 3 ≤ max c.dp d.dp + 3; omega)) ((Con.tn d).le (by show d.dp + 3 ≤ max c.dp d.dp + 3; omega))
  | .some r c => tup3 trivial ((rolN r).le (by omega)) (Con.tn c)
  | .all r c => tup3 trivial ((rolN r).le (by omega)) (Con.tn c)
/-! data taken apart -/
section
variable {K : PySem.W.Frag} {H : Hp} {v : V}
theorem dp_tup {ds : List PyData} (h : Dp K H v (.tuple ds)) : ∃ a xs, v = .ref a ∧ SqT K H a xs ∧ DpAll K H xs ds := by
  cases h with
  | tup h a => exact ⟨_, _, rfl, h, a⟩
theorem dp_str {x : Str} (h : Dp K H v (.str x)) : v = .str x := by
  cases h
  rfl
theorem dp_bool {b : Bool} (h : Dp K H v (.bool b)) : v = .bl b := by
  cases h
  rfl
theorem dp_int {i : Int} (h : Dp K H v (.int i)) : v = .int i := by
  cases h
  rfl
theorem da_cons {xs : List V} {d : PyData} {ds : List PyData} (h : DpAll K H xs (d :: ds)) : ∃ x r, xs = x :: r ∧ Dp K H x d ∧ DpAll K H r ds := by
  cases h with
  | cons a t => exact ⟨_, _, rfl, a, t⟩
theorem da_nil {xs : List V} (h : DpAll K H xs []) : xs = [] := by
  cases h
  rfl
theorem dp1 {x : Str} (h : Dp K H v (.tuple [.str x])) : ∃ a, v = .ref a ∧ SqT K H a [.str x] := by
  obtain ⟨a, xs, rfl, hs, hd⟩ := dp_tup h
  obtain ⟨y, r, rfl, h1, hd⟩ := da_cons hd
  cases da_nil hd
  cases dp_str h1
  exact ⟨a, rfl, hs⟩
theorem dp2 {x : Str} {d : PyData} (h : Dp K H v (.tuple [.str x, d])) : ∃ a y, v = .ref a ∧ SqT K H a [.str x, y] ∧ Dp K H y d := by
  obtain ⟨a, xs, rfl, hs, hd⟩ := dp_tup h
  obtain ⟨y, r, rfl, h1, hd⟩ := da_cons hd
  obtain ⟨z, r, rfl, h2, hd⟩ := da_cons hd
  cases da_nil hd
  cases dp_str h1
  exact ⟨a, z, rfl, hs, h2⟩
theorem dp3 {x : Str} {d e : PyData} (h : Dp K H v (.tuple [.str x, d, e])) : ∃ a y z, v = .ref a ∧ SqT K H a [.str x, y, z] ∧ Dp K H y d ∧ Dp K H z e := by
  obtain ⟨a, xs, rfl, hs, hd⟩ := dp_tup h
  obtain ⟨y, r, rfl, h1, hd⟩ := da_cons hd
  obtain ⟨z, r, rfl, h2, hd⟩ := da_cons hd
  obtain ⟨w, r, rfl, h3, hd⟩ := da_cons hd
  cases da_nil hd
  cases dp_str h1
  exact ⟨a, z, w, rfl, hs, h2, h3⟩
theorem dp4 {x : Str} {d e g : PyData} (h : Dp K H v (.tuple [.str x, d, e, g])) : ∃ a y z w, v = .ref a ∧ SqT K H a [.str x, y, z, w] ∧ Dp K H y d ∧ Dp K H z e ∧ Dp K H w g := by
  obtain ⟨a, xs, rfl, hs, hd⟩ := dp_tup h
  obtain ⟨y, r, rfl, h1, hd⟩ := da_cons hd
  obtain ⟨z, r, rfl, h2, hd⟩ := da_cons hd
  obtain ⟨w, r, rfl, h3, hd⟩ := da_cons hd
  obtain ⟨u, r, rfl, h4, hd⟩ := da_cons hd
  cases da_nil hd
  cases dp_str h1
  exact ⟨a, z, w, u, rfl, hs, h2, h3, h4⟩
theorem dpRol {r : Rol} (h : Dp K H v (rolD r)) : ∃ a, v = .ref a ∧ SqT K H a [.str (T r.1), .bl r.2] := by
  obtain ⟨a, y, rfl, hs, h2⟩ := dp2 h
  cases dp_bool h2
  exact ⟨a, rfl, hs⟩
end
/-! a test whose texts are written -/
section
variable {K : PySem.W.Frag} {σ : L2.St} {H : Hp} {i : Nat} {s t t' : Str} {tt u : TS} {D : Ends}
theorem if_eqF (h : σ[i]? = some (some (.str s))) (hd : decide (s = t) = false) (q : u D σ H) : tIfS (tTest (tOp rEq (tVar i) (tC (.str t)))) tt u D σ H := ⟨_, h, rfl, _, rfl, by
  rw [decide_eq_false (fun z => of_decide_eq_false hd (V.str.inj z))]
  exact iteF q⟩
theorem if_eqT (h : σ[i]? = some (some (.str s))) (hd : decide (s = t) = true) (q : tt D σ H) : tIfS (tTest (tOp rEq (tVar i) (tC (.str t)))) tt u D σ H := ⟨_, h, rfl, _, rfl, by
  rw [decide_eq_true (congrArg V.str (of_decide_eq_true hd))]
  exact iteT q⟩
theorem if_eq2F (h : σ[i]? = some (some (.str s))) (hd : (decide (s = t) || decide (s = t')) = false) (q : u D σ H) : tIfS (tOr (tTest (tOp rEq (tVar i) (tC (.str t)))) (tTest (tOp rEq (tVar i) (tC (.str t'))))) tt u D σ H := by
  rw [Bool.or_eq_false_iff] at hd
  refine ⟨_, h, rfl, _, rfl, ?_⟩
  rw [decide_eq_false (fun z => of_decide_eq_false hd.1 (V.str.inj z))]
  refine iteF ⟨_, h, rfl, _, rfl, ?_⟩
  rw [decide_eq_false (fun z => of_decide_eq_false hd.2 (V.str.inj z))]
  exact iteF q
theorem if_eq2T (h : σ[i]? = some (some (.str s))) (hd : (decide (s = t) || decide (s = t')) = true) (q : tt D σ H) : tIfS (tOr (tTest (tOp rEq (tVar i) (tC (.str t)))) (tTest (tOp rEq (tVar i) (tC (.str t'))))) tt u D σ H := by
  refine ⟨_, h, rfl, _, rfl, ?_⟩
  by_cases e : s = t
  · rw [decide_eq_true (congrArg V.str e)]
    exact iteT (iteT q)
  · rw [decide_eq_false (fun z => e (V.str.inj z))]
    rw [decide_eq_false e, Bool.false_or] at hd
    refine iteF ⟨_, h, rfl, _, rfl, ?_⟩
    rw [decide_eq_true (congrArg V.str (of_decide_eq_true hd))]
    exact iteT q
theorem if_in2 {b : Bool} (h : σ[i]? = some (some (.str s))) (hd : (decide (s = t) || decide (s = t')) = b) (q1 : b = true → ∀ p, H p = none → tt D σ (upd H p (.tup [.str t, .str t']))) (q2 : b = false → ∀ p, H p = none → u D σ (upd H p (.tup [.str t, .str t']))) :
    tIfS (tTest (tOp (rIn K false) (tVar i) (tTup (tCons (tC (.str t)) (tCons (tC (.str t')) tNil))))) tt u D σ H := by
  refine ⟨_, h, by show 2 ≤ sizeLine; decide, fun p hp => ⟨p, _, rfl, .inr (SqT.of upd_same), rfl, rfl, b, ?_, ?_⟩⟩
  · show V.bl (inV (.str s) [.str t, .str t']) = .bl b
    rw [show [V.str t, V.str t'] = [t, t'].map V.str from rfl, inV_strs, ← hd, ← Bool.decide_or]
    exact congrArg V.bl (decide_eq_decide.mpr (by simp))
  · cases b with
    | true => exact iteT (q1 rfl p hp)
    | false => exact iteF (q2 rfl p hp)
theorem if_in2T (h : σ[i]? = some (some (.str s))) (hd : (decide (s = t) || decide (s = t')) = true) (q : ∀ p, H p = none → tt D σ (upd H p (.tup [.str t, .str t']))) :
    tIfS (tTest (tOp (rIn K false) (tVar i) (tTup (tCons (tC (.str t)) (tCons (tC (.str t')) tNil))))) tt u D σ H := if_in2 h hd (fun _ => q) (fun z => Bool.noConfusion z)
theorem if_in2F (h : σ[i]? = some (some (.str s))) (hd : (decide (s = t) || decide (s = t')) = false) (q : ∀ p, H p = none → u D σ (upd H p (.tup [.str t, .str t']))) :
    tIfS (tTest (tOp (rIn K false) (tVar i) (tTup (tCons (tC (.str t)) (tCons (tC (.str t')) tNil))))) tt u D σ H := if_in2 h hd (fun z => Bool.noConfusion z) (fun _ => q)
end
/-! texts glued in an f-string -/
section
variable {σ : L2.St} {H : Hp} {ts : List TE} {te : TE} {Q : Str → Hp → Prop}
theorem js_c {a : List Nat} {s : String} (hl : decide ((lit s).length ≤ 20) = true) (hz : a.length ≤ 400000) (q : tJs ts (T (a ++ lit s)) σ H Q) : tJs (tC (.str (Str.ofString s)) :: ts) (T a) σ H Q := by
  refine ⟨Str.ofString s, rfl, ?_, ?_⟩
  · rw [Str.length_append, lit_T, T_len, T_len]
    have := of_decide_eq_true hl
    exact small9 (by omega)
  · rw [lit_T s, T_cat]
    exact q
/-- a field whose value is a text: te gives it, the heap may have grown -/
theorem js_e {a b : List Nat} (ht : ∀ R : VK, (∀ H', Same H H' → R (.str (T b)) H') → te σ H R) (hb : b.length ≤ 400000) (hz : a.length ≤ 400000) (q : ∀ H', Same H H' → tJs ts (T (a ++ b)) σ H' Q) : tJs (tFmt te :: ts) (T a) σ H Q := by
  refine ht _ fun H' e => .inl ⟨T b, rfl, by rw [T_len]; exact small9 (by omega), T b, rfl, by rw [Str.length_append, T_len, T_len]; exact small9 (by omega), ?_⟩
  rw [T_cat]
  exact q H' e
theorem js_0 (q : tJs ts (T []) σ H Q) : tJs ts Str.empty σ H Q := q
theorem js_end {a : List Nat} (q : Q (T a) H) : tJs [] (T a) σ H Q := q
end
end Pf
namespace Pf
open PySem PySem.Spec PyProof.Rows L2
/-! what gives a text, from a heap on -/
def GT (te : TE) (σ : L2.St) (H : Hp) (b : List Nat) : Prop := ∀ H1, Same H H1 → ∀ R : VK, (∀ H', Same H1 H' → R (.str (T b)) H') → te σ H1 R
def rAddS : R2 := fun x y H Q => ∃ i j, x = V.str i ∧ y = V.str j ∧ i.length + j.length ≤ sizeLine ∧ Q (.str (i ++ j)) H
section
variable {σ : L2.St} {H H' : Hp} {ta tb te : TE} {a b : List Nat} {i : Nat}
theorem GT.mono (g : GT te σ H b) (e : Same H H') : GT te σ H' b := fun H1 e1 R r => g H1 (e.trans e1) R r
theorem gt_c (s : String) : GT (tC (.str (Str.ofString s))) σ H (lit s) := fun H1 _ R r => by
  have := r H1 (Same.refl _)
  rw [← lit_T] at this
  exact this
theorem gt_var (h : σ[i]? = some (some (.str (T b)))) : GT (tVar i) σ H b := fun H1 _ R r => ⟨_, h, r H1 (Same.refl _)⟩
theorem gt_varL {s : String} (h : σ[i]? = some (some (.str (Str.ofString s)))) : GT (tVar i) σ H (lit s) := fun H1 _ R r => ⟨_, h, by
  have := r H1 (Same.refl _)
  rw [← lit_T] at this
  exact this⟩
theorem gt_add (ha : GT ta σ H a) (hb : GT tb σ H b) (la : a.length ≤ 400000) (lb : b.length ≤ 400000) : GT (tOp rAddS ta tb) σ H (a ++ b) := fun H1 e R r =>
  ha H1 e _ fun H2 e2 => hb H2 (e.trans e2) _ fun H3 e3 => ⟨_, _, rfl, rfl, by rw [T_len, T_len]; exact small9 (by omega), by
    rw [T_cat]
    exact r H3 (e2.trans e3)⟩
theorem gt_ret {D : Ends} (h : GT te σ H b) (q : ∀ H', Same H H' → D.rt (.str (T b)) H') : tRet te D σ H := h H (Same.refl _) _ q
theorem gt_set {D : Ends} (h : GT te σ H b) (q : ∀ H', Same H H' → D.nx (σ.set i (some (.str (T b)))) H') : tAsg te (gName i) D σ H := h H (Same.refl _) _ q
end
/-! statements and questions as they are written -/
inductive Stm where
  | below (c d : Con) | equals (c d : Con) | apart (c d : Con)
  | domain (r : Rol) (c : Con) | range (r : Rol) (c : Con)
  | under (r s : Rol) | inverse (a b : List Nat) | is (a : List Nat) (c : Con) | has (a b c : List Nat) | never
namespace Stm
def D : Stm → PyData
  | .below c d => .tuple [.str (Str.ofString "below"), c.D, d.D]
  | .equals c d => .tuple [.str (Str.ofString "equals"), c.D, d.D]
  | .apart c d => .tuple [.str (Str.ofString "apart"), c.D, d.D]
  | .domain r c => .tuple [.str (Str.ofString "domain"), rolD r, c.D]
  | .range r c => .tuple [.str (Str.ofString "range"), rolD r, c.D]
  | .under r s => .tuple [.str (Str.ofString "under"), rolD r, rolD s]
  | .inverse a b => .tuple [.str (Str.ofString "inverse"), .str (T a), .str (T b)]
  | .is a c => .tuple [.str (Str.ofString "is"), .str (T a), c.D]
  | .has a b c => .tuple [.str (Str.ofString "has"), .str (T a), .str (T b), .str (T c)]
  | .never => .tuple [.str (Str.ofString "never")]
def dp : Stm → Nat
  | .below c d | .equals c d | .apart c d => max c.dp d.dp
  | .domain _ c | .range _ c | .is _ c => c.dp
  | _ => 0
def sz : Stm → Nat
  | .below c d | .equals c d | .apart c d => c.sz + d.sz + 40
  | .domain r c | .range r c => r.1.length + c.sz + 40
  | .is a c => a.length + c.sz + 40
  | .under r s => r.1.length + s.1.length + 40
  | .inverse a b => a.length + b.length + 40
  | .has a b c => a.length + b.length + c.length + 40
  | .never => 40
theorem tn : ∀ s : Stm, TupN (s.dp + 4) s.D
  | .below c d | .equals c d | .apart c d => tup3 trivial ((Con.tn c).le (by show c.dp + 3 ≤ max c.dp d.dp + 3; omega)) ((Con.tn d).le (by show d.dp + 3 ≤ max c.dp d.dp + 3; omega))
  | .domain r c | .range r c => tup3 trivial ((rolN r).le (by omega)) (Con.tn c)
  | .under r s => tup3 trivial ((rolN r).le (by omega)) ((rolN s).le (by omega))
  | .inverse a b => tup3 trivial trivial trivial
  | .is a c => tup3 trivial trivial (Con.tn c)
  | .has a b c => tup4 trivial trivial trivial trivial
  | .never => tup1 trivial
end Stm
end Pf

namespace Pf
open PySem PySem.Spec PyProof.Rows L2
/-! pure expressions: what gives a value, or data, from a heap on that only grows -/
def GV (te : TE) (σ : L2.St) (H : Hp) (v : V) : Prop := ∀ H1, Same H H1 → ∀ R : VK, (∀ H', Same H1 H' → R v H') → te σ H1 R
def GD (K : PySem.W.Frag) (te : TE) (σ : L2.St) (H : Hp) (d : PyData) : Prop := ∀ H1, Same H H1 → ∀ R : VK, (∀ v H', Same H1 H' → Dp K H' v d → R v H') → te σ H1 R
def GDs (K : PySem.W.Frag) (ta : TA) (σ : L2.St) (H : Hp) (ds : List PyData) : Prop := ∀ H1, Same H H1 → ∀ R : List V → Hp → Prop, (∀ vs H', Same H1 H' → DpAll K H' vs ds → R vs H') → ta σ H1 R
/-- a tuple whose object has no attributes of its own -/
def PlainT (o : Obj) : Prop := o.cls = .type "tuple" ∧ o.dict = none
def FzT (K : PySem.W.Frag) (H : Hp) (p : Addr) : Prop := (∃ o u, H p = some (.frz o u) ∧ PlainT o) ∨ ∃ o, K.lookup p = some o ∧ PlainT o
section
variable {X : Cx}
/-- tuple(a list), its object known -/
theorem call_tupleF : CallR X (.type "tuple") (fun xs H Q => ∃ p ys, xs = [.ref p] ∧ SqL X.K H p ys ∧ ∀ l o, H l = none → PlainT o → Q (.ref l) (upd H l (.frz o (.tup ys)))) := by
  intro pins s σ H xs us Q I rel hyp
  obtain ⟨p, ys, hx, hq, q⟩ := hyp
  subst hx
  obtain ⟨u, hu, rx⟩ := vals1 rel
  subst hu
  cases rx
  obtain ⟨its, hv, pl, hz⟩ := I.list hq
  have hl := hv.length
  refine call_tuple_list pl.isList (fun h2 kp => ?_) (by simp only [List.size_toArray] <;> omega)
  have J : Inv X pins σ H { s with heap := h2 } := I.kept (t' := s.toks) kp
  refine ⟨.ref h2.objs.size, upd H h2.objs.size (.frz { cls := .type "tuple", data := .seq its.toArray } (.tup ys)), ?_, rfl, q _ _ (J.hok.fresh (Nat.le_refl _)) ⟨rfl, rfl⟩⟩
  refine J.laid (t' := s.toks) (fun b o e => Heap.get?_push_of_some _ e) (Nat.le_refl _) ⟨Heap.get?_push_size _ rfl, ?_⟩
  exact ⟨hz, its, hv, IsTup.new _ _⟩
theorem fzT_is {pins : List (Addr × Obj)} {σ : L2.St} {H : Hp} {s : Shared} {p : Addr} (I : Inv X pins σ H s) (h : FzT X.K H p) :
    s.TypeIs (.ref p) "tuple" ∧ ∀ a, Value.ref p = .ref a → ∃ ob, s.heap.get? a = some ob ∧ ob.dict = none := by
  rcases h with ⟨o, u, h1, h2⟩ | ⟨o, h1, h2⟩
  · have h3 := (I.hok p _ h1).1
    refine ⟨⟨o, h3, h2.1⟩, fun a e => ?_⟩
    cases e
    exact ⟨o, h3, h2.2⟩
  · have h3 := I.kIn p o h1
    refine ⟨⟨o, h3, h2.1⟩, fun a e => ?_⟩
    cases e
    exact ⟨o, h3, h2.2⟩
def tBMT (K : PySem.W.Frag) (r : V → List V → Hp → VK → Prop) (to : TE) (t : TA) : TE := fun σ H Q => to σ H fun x H1 => (∃ p, x = .ref p ∧ FzT K H1 p) ∧ t σ H1 fun xs H2 => r x xs H2 Q
/-- a method of such a tuple -/
theorem pe_bmT {o e : Expr} {es : List Expr} {to : TE} {t : TA} {name : Str} {apos cpos : Pos} {id : String} {r : V → List V → Hp → VK → Prop} (slot : Slot "tuple" name id) (hty : typeOf (.builtin id) = pure (.type "method_descriptor")) (hm : MtR X id r) (ho : PE X o to) (ha : PA X (e :: es) t)
    (h1 : attributeBase o name X.env (eval o X.env) = eval o X.env := by rfl)
    (h2 : ((backTo cpos (starEach (e :: es) X.env)).all (fun x => !x.1) && (backToKw cpos (keywordEach [] X.env)).all (fun x => x.1.isSome) && decide ((e :: es).length + ([] : List Keyword).length + (if ([] : List Keyword).isEmpty then 0 else 1) < 30)) = true := by rfl)
    (h3 : (apos.endLine == cpos.line) = true := by rfl) (h4 : starEach (e :: es) X.env = (false, eval e X.env) :: starEach es X.env := by rfl) (h5 : (backTo cpos (starEach es X.env)).any (·.1) = false := by rfl) :
    PE X (.Call (.Attribute o name apos) (e :: es) [] cpos) (tBMT X.K r to t) := by
  refine ⟨fun pins s σ H Q I h => wpAny_Call_method_late h1 h2 h3 rfl (thn (ho.run pins s σ H _ I h) fun v s1 q => ?_)⟩
  obtain ⟨x, H1, I1, r1, ⟨p, ex, hp⟩, q1⟩ := q
  subst ex
  cases r1
  obtain ⟨k1, k2⟩ := fzT_is I1 hp
  refine ⟨"tuple", id, PySem.F.plainAttrs_tuple, slot, hty, k1, k2, ?_⟩
  have hA := ha.run cpos pins s1 σ H1 _ I1 q1
  rw [h4] at hA ⊢
  refine Calls.callWith_builtin (by show (false || (backTo cpos (starEach es X.env)).any (·.1)) = false; rw [h5] <;> rfl) (Calls.evalArgs_plain ?_)
  exact thn hA fun us s2 ⟨vs, H2, I2, r2, q2⟩ => hm pins s2 σ H2 (.ref p) vs (.ref p) us Q I2 rfl r2 q2
end
section
variable {K : PySem.W.Frag} {σ : L2.St} {H H' : Hp} {ta tb te tf to : TE} {tl : TA} {v : V} {d e : PyData} {ds : List PyData} {D : Ends} {i : Nat}
theorem GV.mono (g : GV te σ H v) (e : Same H H') : GV te σ H' v := fun H1 e1 R r => g H1 (e.trans e1) R r
theorem GD.mono (g : GD K te σ H d) (e : Same H H') : GD K te σ H' d := fun H1 e1 R r => g H1 (e.trans e1) R r
theorem GDs.mono (g : GDs K tl σ H ds) (e : Same H H') : GDs K tl σ H' ds := fun H1 e1 R r => g H1 (e.trans e1) R r
theorem gv_c : GV (tC v) σ H v := fun H1 _ R r => r H1 (Same.refl _)
theorem gv_var (h : σ[i]? = some (some v)) : GV (tVar i) σ H v := fun H1 _ R r => ⟨_, h, r H1 (Same.refl _)⟩
theorem gv_ixT {a : Addr} {xs : List V} {j : Int} {x : V} (h : GV te σ H (.ref a)) (hs : SqT K H a xs) (hx : atI xs j = some x) : GV (tOp (rIxT K) te (tC (.int j))) σ H x := fun H1 e R r =>
  h H1 e _ fun H2 e2 => ⟨a, _, j, _, rfl, rfl, Same.seqT (e.trans e2) hs, hx, r H2 e2⟩
theorem gv_ixL {a : Addr} {xs : List V} {j : Int} {x : V} (h : GV te σ H (.ref a)) (hs : SqL K H a xs) (hx : atI xs j = some x) : GV (tOp (rIxL K) te (tC (.int j))) σ H x := fun H1 e R r =>
  h H1 e _ fun H2 e2 => ⟨a, _, j, _, rfl, rfl, (e.trans e2).seq hs, hx, r H2 e2⟩
theorem strs_at {ns : List (List Nat)} {s : List Nat} (h : s ∈ ns) : (strsV ns)[ns.idxOf s]? = some (.str (T s)) := by
  have h1 := List.idxOf_lt_length_of_mem h
  show (ns.map _)[ns.idxOf s]? = _
  rw [List.getElem?_map, List.getElem?_eq_getElem h1, List.getElem_idxOf]
  rfl
theorem strs_ne {ns : List (List Nat)} {s t : List Nat} {m : Nat} (h : m < ns.idxOf s) (ht : ns[m]? = some t) : t ≠ s := by
  intro e
  obtain ⟨h1, h2⟩ := List.getElem?_eq_some_iff.mp ht
  have := List.not_of_lt_findIdx (p := (· == s)) (xs := ns) (i := m) h
  rw [h2, e] at this
  simp at this
theorem gv_idxL {a : Addr} {ns : List (List Nat)} {s : List Nat} (h : GV to σ H (.ref a)) (hs : SqL K H a (strsV ns)) (hx : GV te σ H (.str (T s))) (hm : s ∈ ns) : GV (tBM K "list" (rIndex K) to (tCons te tNil)) σ H (.int ((ns.idxOf s : Nat) : Int)) := fun H1 e1 R r =>
  h H1 e1 _ fun H2 e2 => ⟨.inl ⟨rfl, _, (e1.trans e2).seq hs⟩, hx H2 (e1.trans e2) _ fun H3 e3 => ⟨a, strsV ns, _, ns.idxOf s, _, rfl, rfl, ((e1.trans e2).trans e3).seq hs, rfl, by
    unfold strsV
    rw [List.all_map, List.all_eq_true]
    intro x _
    rfl, strs_at hm, beq_self_eq_true _, fun m z hml hz => by
      unfold strsV at hz
      rw [List.getElem?_map] at hz
      cases ht : ns[m]? with
      | none => rw [ht] at hz; cases hz
      | some t =>
        rw [ht] at hz
        cases hz
        exact beq_false_of_ne fun q => strs_ne hml ht (T_inj q), r H3 (e2.trans e3)⟩⟩
theorem gv_idxT {a : Addr} {ns : List (List Nat)} {s : List Nat} (h : GV to σ H (.ref a)) (hs : SqT K H a (strsV ns)) (hf : FzT K H a) (hx : GV te σ H (.str (T s))) (hm : s ∈ ns) :
    GV (tBMT K (fun x xs H Q => ∃ p, ∃ ys : List Str, ∃ z j, x = .ref p ∧ xs = [.str z] ∧ SqT K H p (ys.map V.str) ∧ ys[j]? = some z ∧ (∀ m, m < j → ys[m]? ≠ some z) ∧ Q (.int (j : Nat)) H) to (tCons te tNil)) σ H (.int ((ns.idxOf s : Nat) : Int)) := fun H1 e1 R r =>
  h H1 e1 _ fun H2 e2 => ⟨⟨a, rfl, by
    rcases hf with ⟨o, u, h1, h2⟩ | h1
    · exact .inl ⟨o, u, e2 _ _ (e1 _ _ h1), h2⟩
    · exact .inr h1⟩, hx H2 (e1.trans e2) _ fun H3 e3 => ⟨a, ns.map T, T s, ns.idxOf s, rfl, rfl, by
      rw [List.map_map]
      exact Same.seqT ((e1.trans e2).trans e3) hs, by
      have h1 := List.idxOf_lt_length_of_mem hm
      rw [List.getElem?_map, List.getElem?_eq_getElem h1, List.getElem_idxOf]
      rfl, fun m hml hz => by
      rw [List.getElem?_map] at hz
      cases ht : ns[m]? with
      | none => rw [ht] at hz; cases hz
      | some t =>
        rw [ht] at hz
        exact strs_ne hml ht (T_inj (Option.some.inj hz)), r H3 (e2.trans e3)⟩⟩
theorem gd_of (g : GV te σ H v) (h : Dp K H v d) : GD K te σ H d := fun H1 e R r => g H1 e R fun H' e' => r v H' e' (Dp.same (e.trans e') h)
theorem gd_str {s : Str} : GD K (tC (.str s)) σ H (.str s) := gd_of gv_c (.str s)
theorem gd_int {j : Int} (g : GV te σ H (.int j)) : GD K te σ H (.int j) := gd_of g (.int j)
theorem gd_bl {b : Bool} (g : GV te σ H (.bl b)) : GD K te σ H (.bool b) := gd_of g (.bl b)
theorem gd_var (h : σ[i]? = some (some v)) (hd : Dp K H v d) : GD K (tVar i) σ H d := gd_of (gv_var h) hd
theorem gds_nil : GDs K tNil σ H [] := fun H1 _ R r => r [] H1 (Same.refl _) .nil
theorem gds_cons (h : GD K te σ H d) (t : GDs K tl σ H ds) : GDs K (tCons te tl) σ H (d :: ds) := fun H1 e R r =>
  h H1 e _ fun v H2 e2 hv => t H2 (e.trans e2) _ fun vs H3 e3 hs => r (v :: vs) H3 (e2.trans e3) (.cons (Dp.same e3 hv) hs)
theorem gd_tup (h : GDs K tl σ H ds) (hl : ds.length ≤ 1000) : GD K (tTup tl) σ H (.tuple ds) := fun H1 e R r =>
  h H1 e _ fun vs H2 e2 hv => ⟨by rw [dpAll_len hv]; exact Nat.le_trans hl (by decide), fun p hp => r (.ref p) _ (e2.trans (Same.new _ hp)) (.tup (.of upd_same) (DpAll.same (Same.new _ hp) hv))⟩
theorem gd_ret (g : GD K te σ H d) (q : ∀ v H', Same H H' → Dp K H' v d → D.rt v H') : tRet te D σ H := g H (Same.refl _) _ q
theorem gd_set (g : GD K te σ H d) (q : ∀ v H', Same H H' → Dp K H' v d → D.nx (σ.set i (some v)) H') : tAsg te (gName i) D σ H := g H (Same.refl _) _ q
theorem gv_set (g : GV te σ H v) (q : ∀ H', Same H H' → D.nx (σ.set i (some v)) H') : tAsg te (gName i) D σ H := g H (Same.refl _) _ q
theorem gd_1 (h : GD K te σ H d) : GDs K (tCons te tNil) σ H [d] := gds_cons h gds_nil
theorem gd_t1 (h : GD K te σ H d) : GD K (tTup (tCons te tNil)) σ H (.tuple [d]) := gd_tup (gd_1 h) (by show 1 ≤ 1000; decide)
theorem gd_t2 (h : GD K ta σ H d) (h' : GD K tb σ H e) : GD K (tTup (tCons ta (tCons tb tNil))) σ H (.tuple [d, e]) := gd_tup (gds_cons h (gd_1 h')) (by show 2 ≤ 1000; decide)
theorem gd_t3 {e' : PyData} (h : GD K ta σ H d) (h' : GD K tb σ H e) (h2 : GD K te σ H e') : GD K (tTup (tCons ta (tCons tb (tCons te tNil)))) σ H (.tuple [d, e, e']) := gd_tup (gds_cons h (gds_cons h' (gd_1 h2))) (by show 3 ≤ 1000; decide)
theorem gd_t4 {e' e2 : PyData} (h : GD K ta σ H d) (h' : GD K tb σ H e) (h2 : GD K te σ H e') (h3 : GD K tf σ H e2) : GD K (tTup (tCons ta (tCons tb (tCons te (tCons tf tNil))))) σ H (.tuple [d, e, e', e2]) := gd_tup (gds_cons h (gds_cons h' (gds_cons h2 (gd_1 h3)))) (by show 4 ≤ 1000; decide)
theorem gv_not {b : Bool} (h : GV te σ H (.bl b)) : GV (tNotV te) σ H (.bl (!b)) := fun H1 e R r => h H1 e _ fun H2 e2 => ⟨b, rfl, r H2 e2⟩
theorem gv_eq {x y : V} (ha : GV ta σ H x) (hb : GV tb σ H y) (hs : scal x y = true) : GV (tOp rEq ta tb) σ H (.bl (decide (x = y))) := fun H1 e1 R r =>
  ha H1 e1 _ fun H2 e2 => hb H2 (e1.trans e2) _ fun H3 e3 => ⟨hs, r H3 (e2.trans e3)⟩
theorem da_strs : ∀ {ws : List Str} {vs : List V}, DpAll K H vs (ws.map PyData.str) → vs = ws.map V.str
  | [], _, h => da_nil h
  | w :: ws, _, h => by
    obtain ⟨x, r, rfl, h1, h2⟩ := da_cons h
    cases dp_str h1
    rw [da_strs h2]
    rfl
theorem if_inS {ws : List Str} {s : Str} {b : Bool} {tt u : TS} (h : σ[i]? = some (some (.str s))) (hg : GDs K tl σ H (ws.map PyData.str)) (hl : decide (ws.length ≤ 1000) = true) (hd : decide (s ∈ ws) = b) (q1 : b = true → ∀ H', Same H H' → tt D σ H') (q2 : b = false → ∀ H', Same H H' → u D σ H') :
    tIfS (tTest (tOp (rIn K false) (tVar i) (tTup tl))) tt u D σ H := by
  refine ⟨_, h, hg H (Same.refl _) _ fun vs H1 e1 hv => ?_⟩
  cases da_strs hv
  refine ⟨by rw [List.length_map]; exact Nat.le_trans (of_decide_eq_true hl) (by decide), fun p hp => ⟨p, ws.map V.str, rfl, .inr (.of upd_same), rfl, flat_strs ws, b, ?_, ?_⟩⟩
  · show V.bl (inV (.str s) (ws.map V.str)) = .bl b
    rw [inV_strs, hd]
  · cases b with
    | true => exact iteT (q1 rfl _ (e1.trans (Same.new _ hp)))
    | false => exact iteF (q2 rfl _ (e1.trans (Same.new _ hp)))
theorem if_inT {ws : List Str} {s : Str} {tt u : TS} (h : σ[i]? = some (some (.str s))) (hg : GDs K tl σ H (ws.map PyData.str)) (hl : decide (ws.length ≤ 1000) = true) (hd : decide (s ∈ ws) = true) (q : ∀ H', Same H H' → tt D σ H') :
    tIfS (tTest (tOp (rIn K false) (tVar i) (tTup tl))) tt u D σ H := if_inS h hg hl hd (fun _ => q) (fun z => Bool.noConfusion z)
theorem if_inF {ws : List Str} {s : Str} {tt u : TS} (h : σ[i]? = some (some (.str s))) (hg : GDs K tl σ H (ws.map PyData.str)) (hl : decide (ws.length ≤ 1000) = true) (hd : decide (s ∈ ws) = false) (q : ∀ H', Same H H' → u D σ H') :
    tIfS (tTest (tOp (rIn K false) (tVar i) (tTup tl))) tt u D σ H := if_inS h hg hl hd (fun z => Bool.noConfusion z) (fun _ => q)
theorem gds_2 {s t : Str} : GDs K (tCons (tC (.str s)) (tCons (tC (.str t)) tNil)) σ H ([s, t].map PyData.str) := gds_cons gd_str (gd_1 gd_str)
theorem gds_3 {s t t2 : Str} : GDs K (tCons (tC (.str s)) (tCons (tC (.str t)) (tCons (tC (.str t2)) tNil))) σ H ([s, t, t2].map PyData.str) := gds_cons gd_str (gds_cons gd_str (gd_1 gd_str))
end
/-! data of the written part -/
def datOk (K : PySem.W.Frag) : Nat → Value → PyData → Bool
  | 0, _, _ => false
  | _ + 1, .str x _, .str y => decide (x = y)
  | n + 1, .ref a, .tuple ds => match K.lookup a with
    | some ⟨.type nm, none, .seq its _, _⟩ => decide (nm = "tuple") && decide (its.size ≤ 1000) && decide (its.toList.length = ds.length) && (its.toList.zip ds).all fun p => datOk K n p.1 p.2
    | _ => false
  | _ + 1, _, _ => false
theorem datAll_of {K : PySem.W.Frag} {n : Nat} (ih : ∀ {v : Value} {d : PyData}, datOk K n v d = true → ∃ x, RelV x v ∧ ∀ H, Dp K H x d) : ∀ {vs : List Value} {ds : List PyData}, vs.length = ds.length → ((vs.zip ds).all fun p => datOk K n p.1 p.2) = true → ∃ xs, Vals xs vs ∧ ∀ H, DpAll K H xs ds
  | [], [], _, _ => ⟨[], .nil, fun _ => .nil⟩
  | [], _ :: _, h, _ => by simp at h
  | _ :: _, [], h, _ => by simp at h
  | v :: vs, d :: ds, hl, h => by
    rw [List.zip_cons_cons, List.all_cons, Bool.and_eq_true] at h
    obtain ⟨x, rx, hx⟩ := ih h.1
    obtain ⟨xs, rs, hs⟩ := datAll_of ih (by simpa using hl) h.2
    exact ⟨x :: xs, .cons rx rs, fun H => .cons (hx H) (hs H)⟩
theorem dat_of {K : PySem.W.Frag} : ∀ (n : Nat) {v : Value} {d : PyData}, datOk K n v d = true → ∃ x, RelV x v ∧ ∀ H, Dp K H x d
  | 0, _, _, h => by simp [datOk] at h
  | n + 1, v, d, h => by
    unfold datOk at h
    split at h
    · cases ‹_ + 1 = 0›
    · rw [← of_decide_eq_true h]
      exact ⟨.str _, ⟨_, rfl⟩, fun H => .str _⟩
    · split at h
      · rename_i m a ds hm o nm its k sl hk
        simp only [Bool.and_eq_true] at h
        obtain ⟨⟨⟨h1, h2⟩, h3⟩, h4⟩ := h
        cases of_decide_eq_true h1
        cases hm
        obtain ⟨xs, rs, hs⟩ := datAll_of (dat_of n) (of_decide_eq_true h3) h4
        exact ⟨.ref a, rfl, fun H => .tup (.inr ⟨_, its, k, hk, rfl, rfl, Nat.le_trans (of_decide_eq_true h2) (by decide), rs⟩) (hs H)⟩
      · cases h
    · cases h
theorem dat_ref {K : PySem.W.Frag} {n : Nat} {a : Addr} {d : PyData} (h : datOk K n (.ref a) d = true) : ∀ H, Dp K H (.ref a) d := fun H => by
  obtain ⟨x, rx, hx⟩ := dat_of n h
  cases x with
  | ref b =>
    cases rx
    exact hx H
  | _ => first | (cases rx; done) | (obtain ⟨t, z⟩ := rx; cases z)
end Pf

namespace Pf
open PySem PySem.Spec PyProof.Rows L2
def topS (i : Nat) : Stmt := PySem.Challenge.pw_ontoworks_k53_trees_with_numbers.main.body.getD i (.Pass ⟨0, 0, 0, 0⟩)
abbrev K_ANYTHING : List Str := [Str.ofString "any"]
def K_NOTHING : PyData := .tuple [.str (Str.ofString "not"), .tuple [.str (Str.ofString "any")]]
abbrev s_inverse : Stmt := topS 1
theorem sc_inverse : FnScope ["role", "number", "back"] ["role"] (defScope s_inverse) := ⟨rfl, rfl, rfl, by decide +kernel, rfl, by decide +kernel, by decide +kernel⟩
abbrev s_core_concept : Stmt := topS 5
theorem sc_core_concept : FnScope ["names", "concept", "kind", "first", "second"] ["names", "concept"] (defScope s_core_concept) := ⟨rfl, rfl, rfl, by decide +kernel, rfl, by decide +kernel, by decide +kernel⟩
abbrev s_core_question : Stmt := topS 6
theorem sc_core_question : FnScope ["names", "question", "kind", "individuals", "_", "first", "role", "second"] ["names", "question"] (defScope s_core_question) := ⟨rfl, rfl, rfl, by decide +kernel, rfl, by decide +kernel, by decide +kernel⟩
abbrev s_parts : Stmt := topS 7
theorem sc_parts : FnScope ["names", "statement", "kind", "first", "second"] ["names", "statement"] (defScope s_parts) := ⟨rfl, rfl, rfl, by decide +kernel, rfl, by decide +kernel, by decide +kernel⟩
abbrev s_role : Stmt := topS 8
theorem sc_role : FnScope ["names", "role", "name", "back"] ["names", "role"] (defScope s_role) := ⟨rfl, rfl, rfl, by decide +kernel, rfl, by decide +kernel, by decide +kernel⟩
abbrev s_parts_of_two_concepts : Stmt := topS 9
theorem sc_parts_of_two_concepts : FnScope ["names", "statement", "kind", "first", "second"] ["names", "statement"] (defScope s_parts_of_two_concepts) := ⟨rfl, rfl, rfl, by decide +kernel, rfl, by decide +kernel, by decide +kernel⟩
abbrev s_typing : Stmt := topS 10
theorem sc_typing : FnScope ["names", "role", "concept"] ["names", "role", "concept"] (defScope s_typing) := ⟨rfl, rfl, rfl, by decide +kernel, rfl, by decide +kernel, by decide +kernel⟩
abbrev s_law_cell : Stmt := topS 12
theorem sc_law_cell : FnScope ["script", "k"] ["script", "k"] (defScope s_law_cell) := ⟨rfl, rfl, rfl, by decide +kernel, rfl, by decide +kernel, by decide +kernel⟩
abbrev s_law_draws : Stmt := topS 13
theorem sc_law_draws : FnScope ["script", "k", "count", "cell", "rest", "seed", "found", "at"] ["script", "k", "count"] (defScope s_law_draws) := ⟨rfl, rfl, rfl, by decide +kernel, rfl, by decide +kernel, by decide +kernel⟩
abbrev s_law_take : Stmt := topS 14
theorem sc_law_take : FnScope ["draws", "many"] ["draws", "many"] (defScope s_law_take) := ⟨rfl, rfl, rfl, by decide +kernel, rfl, by decide +kernel, by decide +kernel⟩
abbrev s_law_frame : Stmt := topS 15
theorem sc_law_frame : FnScope ["draws", "left", "k", "right"] ["draws"] (defScope s_law_frame) := ⟨rfl, rfl, rfl, by decide +kernel, rfl, by decide +kernel, by decide +kernel⟩
abbrev s_law_names : Stmt := topS 16
theorem sc_law_names : FnScope ["draws", "frame", "rows", "marks", "mark"] ["draws"] (defScope s_law_names) := ⟨rfl, rfl, rfl, by decide +kernel, rfl, by decide +kernel, by decide +kernel⟩
abbrev s_law_role : Stmt := topS 17
theorem sc_law_role : FnScope ["draws", "names", "sizes", "name"] ["draws", "names", "sizes"] (defScope s_law_role) := ⟨rfl, rfl, rfl, by decide +kernel, rfl, by decide +kernel, by decide +kernel⟩
abbrev s_law_concept : Stmt := topS 18
theorem sc_law_concept : FnScope ["draws", "names", "sizes", "depth", "kind", "role", "word", "left"] ["draws", "names", "sizes", "depth"] (defScope s_law_concept) := ⟨rfl, rfl, rfl, by decide +kernel, rfl, by decide +kernel, by decide +kernel⟩
abbrev s_law_statement : Stmt := topS 19
theorem sc_law_statement : FnScope ["draws", "names", "sizes", "depth", "kind", "one", "role", "word", "left"] ["draws", "names", "sizes", "depth"] (defScope s_law_statement) := ⟨rfl, rfl, rfl, by decide +kernel, rfl, by decide +kernel, by decide +kernel⟩
abbrev s_law_question : Stmt := topS 20
theorem sc_law_question : FnScope ["draws", "names", "sizes", "depth", "kind", "one", "role", "left"] ["draws", "names", "sizes", "depth"] (defScope s_law_question) := ⟨rfl, rfl, rfl, by decide +kernel, rfl, by decide +kernel, by decide +kernel⟩
abbrev s_law_core : Stmt := topS 21
theorem sc_law_core : FnScope ["names", "concept", "kind", "role", "inner", "left", "right"] ["names", "concept"] (defScope s_law_core) := ⟨rfl, rfl, rfl, by decide +kernel, rfl, by decide +kernel, by decide +kernel⟩
abbrev s_law_same : Stmt := topS 22
theorem sc_law_same : FnScope ["actual", "due", "k"] ["actual", "due"] (defScope s_law_same) := ⟨rfl, rfl, rfl, by decide +kernel, rfl, by decide +kernel, by decide +kernel⟩
abbrev s_law_parts : Stmt := topS 23
theorem sc_law_parts : FnScope ["names", "tree", "kind", "left", "right", "role", "first", "second"] ["names", "tree"] (defScope s_law_parts) := ⟨rfl, rfl, rfl, by decide +kernel, rfl, by decide +kernel, by decide +kernel⟩
abbrev s_law_asked : Stmt := topS 24
theorem sc_law_asked : FnScope ["names", "tree", "kind"] ["names", "tree"] (defScope s_law_asked) := ⟨rfl, rfl, rfl, by decide +kernel, rfl, by decide +kernel, by decide +kernel⟩
abbrev s_law_told_names : Stmt := topS 25
theorem sc_law_told_names : FnScope ["names", "sizes"] ["names", "sizes"] (defScope s_law_told_names) := ⟨rfl, rfl, rfl, by decide +kernel, rfl, by decide +kernel, by decide +kernel⟩
abbrev s_law : Stmt := topS 26
theorem sc_law : FnScope ["script", "draws", "names", "told", "concept", "tree", "asked"] ["script"] (defScope s_law) := ⟨rfl, rfl, rfl, by decide +kernel, rfl, by decide +kernel, by decide +kernel⟩
local macro_rules | `(tactic| walk_at "w") => `(tactic| repeat (first
  | refine ⟨_, rfl, ?_⟩
  | refine ⟨_, _, rfl, rfl, .inr ⟨by decide, by decide⟩, ?_⟩
  | refine ⟨_, _, rfl, rfl, .inl ⟨by decide, by decide⟩, ?_⟩
  | refine ⟨_, _, rfl, rfl, ⟨by decide, by decide⟩, ?_⟩
  | refine ⟨_, _, rfl, rfl, ⟨by decide, by decide, by decide⟩, ?_⟩
  | refine ⟨_, _, rfl, rfl, (by show (0 : Int) < _; decide), ?_⟩
  | refine ⟨_, _, rfl, rfl, ?_⟩
  | refine .inl ⟨_, rfl, ?_⟩))
section
variable {P : Program} {w : World} {K : PySem.W.Frag} {mg : Str → Option Value} {base : Heap}
theorem at_int {ns : List Int} {k : Int} (h0 : 0 ≤ k) (h : k < ((ns.map V.int).length : Int)) : ∃ c, atI (ns.map V.int) k = some (.int c) := by
  have hk : k.toNat < ns.length := by rw [List.length_map] at h; omega
  have ek : k = ((k.toNat : Nat) : Int) := by omega
  have q : atI (ns.map V.int) ((k.toNat : Nat) : Int) = some (.int ns[k.toNat]) := atI_nat (by rw [List.getElem?_map, List.getElem?_eq_getElem hk] <;> rfl)
  rw [← ek] at q
  exact ⟨_, q⟩
theorem c_law_cell {f : Addr} {fd : FuncData} (D : Df K mg "_law_cell" s_law_cell f fd ["script", "k"]) (z_len : mg "len" = none) (z_int : mg "int" = none) : Cl P w K mg base 1 "_law_cell" (spCell K) := by
  refine D.cl sc_law_cell (fun vs H Q E h => ?_) (fun cdv A outer s H vs Q E hr h => ?_)
  · obtain ⟨a, ns, k, rfl, _⟩ := h
    rfl
  obtain ⟨a, ns, k, rfl, hS, h63, h0, q⟩ := h
  refine ⟨_, (pss_cons (ps_if (pt_cmpR op_lt (pv 1) (pe_callB call_len_seq (by rfl) z_len PySem.boot_len (pa_cons (pv 0) pa_nil)) (nomark _)) (pss_one (ps_ret (pe_callTy call_int1 (by rfl) z_int (by decide +kernel) (pa_cons (pe_ix ix_list (pv 0) (pv 1) (fun _ _ => rfl)) pa_nil)))) pss_nil)
      (pss_one (ps_ret pe_int))), ?_⟩
  refine ⟨_, rfl, _, rfl, a, _, rfl, .inl hS, _, _, rfl, rfl, _, rfl, ite2 (fun c => ?_) (fun c => ?_)⟩
  · obtain ⟨v, hv⟩ := at_int (ns := ns) h0 (of_decide_eq_true c)
    exact ⟨_, rfl, _, rfl, a, _, _, _, rfl, rfl, hS, hv, .inl ⟨_, rfl, q v⟩⟩
  · exact q 0
theorem c_law_take {f : Addr} {fd : FuncData} (D : Df K mg "_law_take" s_law_take f fd ["draws", "many"]) (z_int : mg "int" = none) : Cl P w K mg base 1 "_law_take" spTake := by
  refine D.cl sc_law_take (fun vs H Q E h => ?_) (fun cdv A outer s H vs Q E hr h => ?_)
  · obtain ⟨l, ds, m, rfl, _⟩ := h
    rfl
  obtain ⟨l, ds, m, rfl, hl, hm, q⟩ := h
  refine ⟨_, (pss_cons (ps_if (pt_not (pt_truth (pv 0) (by intro _; rfl))) (pss_one (ps_ret pe_int)) pss_nil)
      (pss_one (ps_ret (pe_op op_mod (pe_callTy call_int1 (by rfl) z_int (by decide +kernel) (pa_cons (pe_bm PySem.F.plainAttrs_list PySem.F.slot_list_pop PySem.F.type_list_pop mt_popAt (pv 0) (pa_cons pe_int pa_nil)) pa_nil)) (pv 1))))), ?_⟩
  cases ds with
  | nil =>
    refine ⟨_, rfl, false, .inl ⟨_, SqL.of hl, rfl⟩, iteT ?_⟩
    have := q 0 (Int.le_refl 0) hm
    rw [show upd H l (.lst (([] : List Int).tail.map V.int)) = H from upd_self hl] at this
    exact this
  | cons d r =>
    refine ⟨_, rfl, true, .inl ⟨_, SqL.of hl, rfl⟩, iteF ?_⟩
    refine ⟨_, rfl, .inl ⟨rfl, _, SqL.of hl⟩, l, _, _, 0, .int d, rfl, rfl, hl, by decide, by decide, seqIndex?_zero (Nat.succ_pos _), rfl, .inl ⟨_, rfl, _, rfl, _, _, rfl, rfl, hm, ?_⟩⟩
    exact q (d % m) (Int.emod_nonneg _ (by omega)) (Int.emod_lt_of_pos _ hm)
theorem c_law_draws {f : Addr} {fd : FuncData} (D : Df K mg "_law_draws" s_law_draws f fd ["script", "k", "count"]) (c_law_cell : Cl P w K mg base 1 "_law_cell" (spCell K)) (z_int : mg "int" = none) (z_range : mg "range" = none) : Cl P w K mg base 2 "_law_draws" (spDraws K) := by
  refine D.cl sc_law_draws (fun vs H Q E h => ?_) (fun cdv A outer s H vs Q E hr h => ?_)
  · obtain ⟨a, ns, k, n, rfl, _⟩ := h
    rfl
  obtain ⟨a, ns, k, n, rfl, hS, h63, h0, hn0, hn, q⟩ := h
  refine ⟨_, (pss_cons (ps_set (i := 3) sc_law_draws.nd rfl (.inl rfl) (pc c_law_cell hr (by first | decide | omega) (by rfl) (pa_cons (pv 0) (pa_cons (pv 1) pa_nil))))
      (pss_cons (ps_set (i := 4) sc_law_draws.nd rfl (.inl rfl) pe_int)
      (Evl.pss_cut (ps_if (pt_cmpR op_ge (pv 3) (pe_op op_pow pe_int pe_int) (nomark _)) (pss_one (ps_set (i := 4) sc_law_draws.nd rfl (.inl rfl) (pe_op op_fdivW (pv 3) (pe_op op_pow pe_int pe_int)))) pss_nil)
      (pss_cons (ps_set (i := 5) sc_law_draws.nd rfl (.inl rfl) (pe_op op_mod (pe_callTy call_int1 (by rfl) z_int (by decide +kernel) (pa_cons (pe_op op_add (pe_op op_add (pe_op op_mul (pv 3) pe_int) (pe_op op_mul (pv 1) pe_int)) pe_int) pa_nil)) pe_int))
      (pss_cons (ps_set (i := 6) sc_law_draws.nd rfl (.inl rfl) (pe_lst pa_nil))
      (pss_cons (ps_for PassesOwn.never rfl (pi_range1 (by rfl) z_range (pa_cons (pv 2) pa_nil)) (pg_name (i := 7) sc_law_draws.nd rfl (.inl rfl)) (pss_cons (ps_set (i := 5) sc_law_draws.nd rfl (.inl rfl) (pe_op op_mod (pe_callTy call_int1 (by rfl) z_int (by decide +kernel) (pa_cons (pe_op op_add (pe_op op_add (pe_op op_mul (pv 5) pe_int) (pe_op op_mul (pv 7) pe_int)) pe_int) pa_nil)) pe_int))
      (pss_one (ps_if (pt_cmpR op_gt (pv 4) pe_int (nomark _)) (pss_cons (ps_expr (pe_bm PySem.F.plainAttrs_list PySem.F.slot_list_append PySem.F.type_list_append mt_append (pv 6) (pa_cons (pe_op op_mod (pe_callTy call_int1 (by rfl) z_int (by decide +kernel) (pa_cons (pv 4) pa_nil)) pe_int) pa_nil)))
      (pss_one (ps_set (i := 4) sc_law_draws.nd rfl (.inl rfl) (pe_op op_fdiv (pv 4) pe_int)))) (pss_one (ps_expr (pe_bm PySem.F.plainAttrs_list PySem.F.slot_list_append PySem.F.type_list_append mt_append (pv 6) (pa_cons (pe_op op_mod (pe_callTy call_int1 (by rfl) z_int (by decide +kernel) (pa_cons (pe_op op_fdiv (pv 5) pe_int) pa_nil)) pe_int) pa_nil))))))))
      (pss_one (ps_ret (pv 6))))))))), ?_⟩
  refine ⟨_, rfl, _, rfl, a, ns, k, rfl, hS, h63, h0, fun c => ?_⟩
  walk_at "w"
  refine ⟨fun σ' H' => ∃ r : Int, σ' = [some (.ref a), some (.int k), some (.int n), some (.int c), some (.int r), none, none, none] ∧ H = H', ?_, ?_⟩
  · walk_at "w"
    refine ite2 (fun c1 => ?_) (fun c1 => ?_)
    · walk_at "w"
      exact rfl
    · exact ⟨0, rfl, rfl⟩
  rintro _ _ ⟨r, rfl, rfl⟩
  walk_at "w"
  refine ⟨Nat.zero_le _, fun p hp => ?_⟩
  walk_at "w"
  refine ⟨by omega, by omega, for_range (lo := 0) (n := n.toNat) (fun i σ' H' => ∃ (r sd : Int) (x : Option V) (ds : List Int), σ' = [some (.ref a), some (.int k), some (.int n), some (.int c), some (.int r), some (.int sd), some (.ref p), x] ∧ ds.length = i ∧ H' = upd H p (.lst (ds.map V.int))) ⟨_, _, none, [], rfl, rfl, rfl⟩ ?_ ?_⟩
  · rintro i _ _ hi ⟨r, sd, x, ds, rfl, hd, rfl⟩
    have hz : (ds.map V.int).length < sizeLine := by
      rw [List.length_map]
      exact small1000 (by omega)
    have e1 : ∀ y : Int, upd (upd H p (.lst (ds.map V.int))) p (.lst (ds.map V.int ++ [V.int y])) = upd H p (.lst ((ds ++ [y]).map V.int)) := fun y => by
      rw [upd_upd, List.map_append]
      rfl
    walk_at "w"
    refine ite2 (fun c1 => ?_) (fun c1 => ?_)
    · walk_at "w"
      refine ⟨.inl ⟨rfl, _, SqL.of upd_same⟩, ?_⟩
      walk_at "w"
      refine ⟨p, _, _, rfl, rfl, upd_same, hz, ?_⟩
      walk_at "w"
      exact ⟨_, _, _, ds ++ [_], rfl, by rw [List.length_append, hd]; rfl, e1 _⟩
    · walk_at "w"
      refine ⟨.inl ⟨rfl, _, SqL.of upd_same⟩, ?_⟩
      walk_at "w"
      refine ⟨p, _, _, rfl, rfl, upd_same, hz, ?_⟩
      exact ⟨_, _, _, ds ++ [_], rfl, by rw [List.length_append, hd]; rfl, e1 _⟩
  · rintro _ _ ⟨r, sd, x, ds, rfl, hd, rfl⟩
    exact ⟨_, rfl, q ds p _ (Same.new _ hp) hp upd_same (by omega)⟩
theorem c_law_same {f : Addr} {fd : FuncData} (D : Df K mg "_law_same" s_law_same f fd ["actual", "due"]) (z_isinstance : mg "isinstance" = none) (z_tuple : mg "tuple" = none) (z_bool : mg "bool" = none) (z_int : mg "int" = none) (z_str : mg "str" = none)
    (z_len : mg "len" = none) (z_all : mg "all" = none) (z_range : mg "range" = none) : ∀ n : Nat, Cl P w K mg base (n + 1) "_law_same" (spSame K n)
  | 0 => by
    refine D.cl sc_law_same (fun vs H Q E h => ?_) (fun cdv A outer s H vs Q E hr h => ?_)
    · obtain ⟨x, y, d, rfl, _⟩ := h
      rfl
    · obtain ⟨x, y, d, rfl, _, _, z, _⟩ := h
      exact z.elim
  | n + 1 => by
    have c_law_same := c_law_same D z_isinstance z_tuple z_bool z_int z_str z_len z_all z_range n
    refine D.cl sc_law_same (fun vs H Q E h => ?_) (fun cdv A outer s H vs Q E hr h => ?_)
    · obtain ⟨x, y, d, rfl, _⟩ := h
      rfl
    obtain ⟨x, y, d, rfl, hx, hy, hd, q⟩ := h
    refine ⟨_, (pss_cons (ps_if (pt_val (pe_callB call_isi (by rfl) z_isinstance (by decide +kernel) (pa_cons (pv 1) (pa_cons (pe_bltn (v := .ty "tuple") (u := .type "tuple") (by rfl) z_tuple (by decide +kernel) rfl) pa_nil)))) (pss_cons (ps_if (PW.pt (pw_or (pt_not (pt_val (pe_callB call_isi (by rfl) z_isinstance (by decide +kernel) (pa_cons (pv 0) (pa_cons (pe_bltn (v := .ty "tuple") (u := .type "tuple") (by rfl) z_tuple (by decide +kernel) rfl) pa_nil))))) (pw_or1 (pt_cmpR op_ne (pe_callB call_len_seq (by rfl) z_len PySem.boot_len (pa_cons (pv 0) pa_nil)) (pe_callB call_len_seq (by rfl) z_len PySem.boot_len (pa_cons (pv 1) pa_nil)) (nomark _))))) (pss_one (ps_ret pe_bl)) pss_nil)
      (pss_one (ps_ret (pe_callB (cr_all rfl) (by rfl) z_all (by decide +kernel) (pa_cons (pe_lc (own := [("k", 2)]) (g := gName 2) (tt := tYes) (by rfl) sc_law_same.nd (pi_range1 (by rfl) z_range (pa_cons (pe_callB call_len_seq (by rfl) z_len PySem.boot_len (pa_cons (pv 1) pa_nil)) pa_nil)) (blkOk_by (own := [("k", 2)]) (N := ["actual", "due", "k"]) (sc := defScope s_law_same) (by decide +kernel)) (fun _ _ _ _ _ => pg_name (i := 2) sc_law_same.nd rfl (.inl rfl)) (fun _ _ _ _ _ => pts_nil) (fun _ _ _ _ _ => (pc c_law_same hr (by first | decide | omega) (by rfl) (pa_cons (pe_ix (ixT (K := K)) (pv 0) (pv 2) (fun _ _ => rfl)) (pa_cons (pe_ix (ixT (K := K)) (pv 1) (pv 2) (fun _ _ => rfl)) pa_nil))))) pa_nil))))) pss_nil)
      (pss_cons (ps_if (pt_val (pe_callB call_isi (by rfl) z_isinstance (by decide +kernel) (pa_cons (pv 1) (pa_cons (pe_bltn (v := .ty "bool") (u := .type "bool") (by rfl) z_bool (by decide +kernel) rfl) pa_nil)))) (pss_one (ps_ret (pe_and (pe_callB call_isi (by rfl) z_isinstance (by decide +kernel) (pa_cons (pv 0) (pa_cons (pe_bltn (v := .ty "bool") (u := .type "bool") (by rfl) z_bool (by decide +kernel) rfl) pa_nil))) (pe_one (pe_cmpR op_eq (pv 0) (pv 1) (nomark _)))))) pss_nil)
      (pss_cons (ps_if (pt_val (pe_callB call_isi (by rfl) z_isinstance (by decide +kernel) (pa_cons (pv 1) (pa_cons (pe_bltn (v := .ty "int") (u := .type "int") (by rfl) z_int (by decide +kernel) rfl) pa_nil)))) (pss_one (ps_ret (pe_and (pe_callB call_isi (by rfl) z_isinstance (by decide +kernel) (pa_cons (pv 0) (pa_cons (pe_bltn (v := .ty "int") (u := .type "int") (by rfl) z_int (by decide +kernel) rfl) pa_nil))) (pe_and (pe_not (pe_callB call_isi (by rfl) z_isinstance (by decide +kernel) (pa_cons (pv 0) (pa_cons (pe_bltn (v := .ty "bool") (u := .type "bool") (by rfl) z_bool (by decide +kernel) rfl) pa_nil)))) (pe_one (pe_cmpR op_eq (pv 0) (pv 1) (nomark _))))))) pss_nil)
      (pss_cons (ps_if (pt_val (pe_callB call_isi (by rfl) z_isinstance (by decide +kernel) (pa_cons (pv 1) (pa_cons (pe_bltn (v := .ty "str") (u := .type "str") (by rfl) z_str (by decide +kernel) rfl) pa_nil)))) (pss_one (ps_ret (pe_and (pe_callB call_isi (by rfl) z_isinstance (by decide +kernel) (pa_cons (pv 0) (pa_cons (pe_bltn (v := .ty "str") (u := .type "str") (by rfl) z_str (by decide +kernel) rfl) pa_nil))) (pe_one (pe_cmpR op_eq (pv 0) (pv 1) (nomark _)))))) pss_nil)
      (pss_one (ps_ret (pe_cmpR op_isN (pv 0) pe_non (nomark _)))))))), ?_⟩
    cases d with
    | none =>
      cases hx
      cases hy
      refine if_isiF rfl (.base .non) (by decide +kernel) (if_isiF rfl (.base .non) (by decide +kernel) (if_isiF rfl (.base .non) (by decide +kernel) (if_isiF rfl (.base .non) (by decide +kernel) ?_)))
      exact ⟨_, rfl, rfl, q _ (Same.refl _)⟩
    | bool b =>
      cases hx
      cases hy
      refine if_isiF rfl (.base (.bl b)) (by decide +kernel) (if_isiT rfl (.base (.bl b)) (by decide +kernel) (ev_isi (b := true) rfl (.base (.bl b)) (by decide +kernel) ⟨_, rfl, iteT ?_⟩))
      refine ⟨_, rfl, _, rfl, rfl, ?_⟩
      rw [decide_eq_true rfl]
      exact q _ (Same.refl _)
    | int i =>
      cases hx
      cases hy
      refine if_isiF rfl (.base (.int i)) (by decide +kernel) (if_isiF rfl (.base (.int i)) (by decide +kernel) (if_isiT rfl (.base (.int i)) (by decide +kernel) (ev_isi (b := true) rfl (.base (.int i)) (by decide +kernel) ⟨_, rfl, iteT (ev_isi (b := false) rfl (.base (.int i)) (by decide +kernel) ⟨_, rfl, _, rfl, iteT ?_⟩)⟩)))
      refine ⟨_, rfl, _, rfl, rfl, ?_⟩
      rw [decide_eq_true rfl]
      exact q _ (Same.refl _)
    | str z =>
      cases hx
      cases hy
      refine if_isiF rfl (.base (.str z)) (by decide +kernel) (if_isiF rfl (.base (.str z)) (by decide +kernel) (if_isiF rfl (.base (.str z)) (by decide +kernel) (if_isiT rfl (.base (.str z)) (by decide +kernel) (ev_isi (b := true) rfl (.base (.str z)) (by decide +kernel) ⟨_, rfl, iteT ?_⟩))))
      refine ⟨_, rfl, _, rfl, rfl, ?_⟩
      rw [decide_eq_true rfl]
      exact q _ (Same.refl _)
    | list ds => exact hd.elim
    | dict ds => exact hd.elim
    | tuple ds =>
      cases hx with
      | @tup a xs _ hS hA =>
      cases hy with
      | @tup b ys _ hT hB =>
      have l1 := dpAll_len hA
      have l2 := dpAll_len hB
      refine if_isiT rfl (tyT hT) (by decide +kernel) ?_
      -- not isinstance(actual, tuple) or len(actual) != len(due)
      refine ev_isi (b := true) rfl (tyT hS) (by decide +kernel) ⟨_, rfl, iteF ?_⟩
      refine ⟨_, rfl, a, _, rfl, .inr hS, _, rfl, b, _, rfl, .inr hT, rfl, _, rfl, ?_⟩
      rw [l1, l2, decide_eq_true rfl]
      refine iteF ?_
      -- all of a list of True
      refine ⟨_, rfl, b, _, rfl, .inr hT, _, rfl, by have := hd.1; omega, by have := hd.1; omega, fun L hL => ?_⟩
      refine lc_range (lo := 0) (n := _) (fun i H' => Same H H' ∧ H L = none ∧ H' L = some (.lst ((List.replicate i true).map V.bl))) ⟨Same.new _ hL, hL, upd_same⟩ ?_ ?_
      · rintro i H' hi ⟨e, hn, hl⟩
        have hi' : i < ds.length := by rw [← l2]; exact hi
        have g1 : i < xs.length := by omega
        have g2 : i < _ := hi
        have ei : (0 : Int) + (i : Int) = ((i : Nat) : Int) := by omega
        refine ⟨rfl, ?_⟩
        refine ⟨_, rfl, _, rfl, a, _, _, _, rfl, rfl, Same.seqT e hS, (by rw [ei]; exact atI_some g1), _, rfl, _, rfl, b, _, _, _, rfl, rfl, Same.seqT e hT, (by rw [ei]; exact atI_some g2), ?_⟩
        refine ⟨_, _, ds[i], rfl, Dp.same e (dpAll_at hA i _ _ (List.getElem?_eq_getElem g1) (List.getElem?_eq_getElem hi')), Dp.same e (dpAll_at hB i _ _ (List.getElem?_eq_getElem g2) (List.getElem?_eq_getElem hi')), hd.2 _ (List.getElem_mem hi'), fun H2 e2 => ?_⟩
        refine ⟨_, e2 _ _ hl, ?_, ?_⟩
        · rw [List.length_map, List.length_replicate]
          have := hd.1
          exact Nat.lt_of_lt_of_le (show i < 100001 by omega) (by decide)
        · refine ⟨fun z o hz => ?_, hn, ?_⟩
          · rw [upd_ne (ne_of_none hz hn)]
            exact e2 _ _ (e _ _ hz)
          · rw [upd_same, List.replicate_succ', List.map_append]
            rfl
      · rintro H' ⟨e, hn, hl⟩
        refine ⟨L, _, rfl, SqL.of hl, ?_⟩
        have ea : ∀ n : Nat, (List.replicate n true).all id = true := fun n => by
          induction n with
          | zero => rfl
          | succ n ih => rw [List.replicate_succ, List.all_cons, ih]; rfl
        rw [ea]
        exact q _ e
/-! names with a drawn frame -/
def FrameOk (l r : List Nat) : Prop := (l = [] ∧ r = []) ∨ (l.all isL = true ∧ l.length ≤ 7 ∧ ∃ r', r = 95 :: r' ∧ r'.all isW = true ∧ r'.length ≤ 7)
def mk0 : List Nat := lit "abcdefghi"
def mk1 : List Nat := lit "rstuv"
def mk2 : List Nat := lit "klmno"
def mk3 : List Nat := lit "ABCDEFGHIJKL"
def nmL (l r m : List Nat) : List (List Nat) := m.map fun c => l ++ [c] ++ r
structure NA (H : Hp) (l r : List Nat) (nm p0 p1 p2 p3 : Addr) : Prop where
  top : H nm = some (.lst [.ref p0, .ref p1, .ref p2, .ref p3])
  a0 : H p0 = some (.lst (strsV (nmL l r mk0)))
  a1 : H p1 = some (.lst (strsV (nmL l r mk1)))
  a2 : H p2 = some (.lst (strsV (nmL l r mk2)))
  a3 : H p3 = some (.lst (strsV (nmL l r mk3)))
structure AP (d nm p0 p1 p2 p3 : Addr) : Prop where
  top : nm ≠ d
  a0 : p0 ≠ d
  a1 : p1 ≠ d
  a2 : p2 ≠ d
  a3 : p3 ≠ d
theorem NA.mono {H H' : Hp} {l r : List Nat} {d nm p0 p1 p2 p3 : Addr} (h : NA H l r nm p0 p1 p2 p3) (e : SameX d H H') (a : AP d nm p0 p1 p2 p3) : NA H' l r nm p0 p1 p2 p3 :=
  ⟨e _ _ a.top h.top, e _ _ a.a0 h.a0, e _ _ a.a1 h.a1, e _ _ a.a2 h.a2, e _ _ a.a3 h.a3⟩
theorem NA.same {H H' : Hp} {l r : List Nat} {nm p0 p1 p2 p3 : Addr} (h : NA H l r nm p0 p1 p2 p3) (e : Same H H') : NA H' l r nm p0 p1 p2 p3 :=
  ⟨e _ _ h.top, e _ _ h.a0, e _ _ h.a1, e _ _ h.a2, e _ _ h.a3⟩
theorem NA.fresh {H : Hp} {l r : List Nat} {d nm p0 p1 p2 p3 : Addr} (h : NA H l r nm p0 p1 p2 p3) (n : H d = none) : AP d nm p0 p1 p2 p3 :=
  ⟨ne_of_none h.top n, ne_of_none h.a0 n, ne_of_none h.a1 n, ne_of_none h.a2 n, ne_of_none h.a3 n⟩
def spFrame : Sp := fun vs H Q _ => ∃ (d : Addr) (ds : List Int), vs = [.ref d] ∧ H d = some (.lst (ds.map V.int)) ∧ ∀ (l r : List Nat) (t : Addr) (ds' : List Int) (H' : Hp), FrameOk l r → SameX d H H' → H' d = some (.lst (ds'.map V.int)) → H' t = some (.tup [.str (T l), .str (T r)]) → Q (.ref t) H'
theorem c_law_frame {f : Addr} {fd : FuncData} (D : Df K mg "_law_frame" s_law_frame f fd ["draws"]) (c_law_take : Cl P w K mg base 1 "_law_take" spTake) (z_range : mg "range" = none) : Cl P w K mg base 2 "_law_frame" spFrame := by
  refine D.cl sc_law_frame (fun vs H Q E h => ?_) (fun cdv A outer s H vs Q E hr h => ?_)
  · obtain ⟨d, ds, rfl, _⟩ := h
    rfl
  obtain ⟨d, ds, rfl, hd, q⟩ := h
  refine ⟨_, (pss_cons (ps_if (pt_cmpR op_eq (pc c_law_take hr (by first | decide | omega) (by rfl) (pa_cons (pv 0) (pa_cons pe_int pa_nil))) pe_int (nomark _)) (pss_one (ps_ret (pe_tup (pa_cons pe_str (pa_cons pe_str pa_nil))))) pss_nil)
      (pss_cons (ps_set (i := 1) sc_law_frame.nd rfl (.inl rfl) pe_str)
      (pss_cons (ps_for PassesOwn.never rfl (pi_range1 (by rfl) z_range (pa_cons (pc c_law_take hr (by first | decide | omega) (by rfl) (pa_cons (pv 0) (pa_cons pe_int pa_nil))) pa_nil)) (pg_name (i := 2) sc_law_frame.nd rfl (.inl rfl)) (pss_one (ps_set (i := 1) sc_law_frame.nd rfl (.inl rfl) (pe_op op_add_str (pv 1) (pe_ix ix_str pe_str (pc c_law_take hr (by first | decide | omega) (by rfl) (pa_cons (pv 0) (pa_cons pe_int pa_nil))) (fun _ _ => rfl))))))
      (pss_cons (ps_set (i := 3) sc_law_frame.nd rfl (.inl rfl) pe_str)
      (pss_cons (ps_for PassesOwn.never rfl (pi_range1 (by rfl) z_range (pa_cons (pc c_law_take hr (by first | decide | omega) (by rfl) (pa_cons (pv 0) (pa_cons pe_int pa_nil))) pa_nil)) (pg_name (i := 2) sc_law_frame.nd rfl (.inl rfl)) (pss_one (ps_set (i := 3) sc_law_frame.nd rfl (.inl rfl) (pe_op op_add_str (pv 3) (pe_ix ix_str pe_str (pc c_law_take hr (by first | decide | omega) (by rfl) (pa_cons (pv 0) (pa_cons pe_int pa_nil))) (fun _ _ => rfl))))))
      (pss_one (ps_ret (pe_tup (pa_cons (pv 1) (pa_cons (pv 3) pa_nil)))))))))), ?_⟩
  walk_at "w"
  refine ⟨d, ds, 2, rfl, hd, by decide, fun r0 _ _ => ?_⟩
  have tup : ∀ (l r : List Nat) (ds : List Int), FrameOk l r → ∀ t, (upd H d (.lst (ds.map V.int))) t = none → Q (.ref t) (upd (upd H d (.lst (ds.map V.int))) t (.tup [.str (T l), .str (T r)])) := fun l r ds h t ht =>
    q l r t ds _ h ((SameX.at _).trans (SameX.new _ ht)) ((upd_ne (ne_of_none upd_same ht)).trans upd_same) upd_same
  refine ⟨rfl, _, rfl, ite2 (fun c => ?_) (fun c => ?_)⟩
  · refine ⟨by show 2 ≤ sizeLine; decide, fun t ht => ?_⟩
    rw [e_eq]
    exact tup [] [] _ (.inl ⟨rfl, rfl⟩) t ht
  walk_at "w"
  refine ⟨d, _, 8, rfl, upd_same, by decide, fun n n0 n1 => ?_⟩
  rw [upd_upd]
  walk_at "w"
  refine ⟨by omega, by omega, for_range (lo := 0) (n := n.toNat) (fun i σ' H' => ∃ (l : List Nat) (ds : List Int) (x : Option V), σ' = [some (.ref d), some (.str (T l)), x, none] ∧ l.length = i ∧ l.all isL = true ∧ upd H d (.lst (ds.map V.int)) = H') ⟨[], _, none, by rw [← e_eq]; rfl, rfl, rfl, rfl⟩ ?_ ?_⟩
  · rintro i _ _ hi ⟨l, ds, x, rfl, hl, ha, rfl⟩
    walk_at "w"
    refine ⟨d, _, 53, rfl, upd_same, by decide, fun r r0 r1 => ?_⟩
    rw [upd_upd]
    refine ix_of isL r0 (Int.lt_of_lt_of_le r1 (by decide +kernel)) (by decide +kernel) (by decide +kernel) fun c hc => ?_
    refine ⟨_, _, rfl, rfl, by rw [T_len]; exact small9 (by show l.length + 1 ≤ _; omega), l ++ [c], _, some (.int (0 + (i : Int))), ?_, by rw [List.length_append, hl]; rfl, ?_, rfl⟩
    · rw [show (sg c) = T [c] from rfl, T_cat]
      rfl
    · rw [List.all_append, ha]
      show (true && (isL c && true)) = true
      rw [hc]
      rfl
  rintro _ _ ⟨l, ds, x, rfl, hl, ha, rfl⟩
  walk_at "w"
  refine ⟨d, _, 8, rfl, upd_same, by decide, fun n2 m0 m1 => ?_⟩
  rw [upd_upd]
  walk_at "w"
  refine ⟨by omega, by omega, for_range (lo := 0) (n := n2.toNat) (fun i σ' H' => ∃ (r : List Nat) (ds : List Int) (x : Option V), σ' = [some (.ref d), some (.str (T l)), x, some (.str (T (95 :: r)))] ∧ r.length = i ∧ r.all isW = true ∧ upd H d (.lst (ds.map V.int)) = H') ⟨[], _, x, by rw [← show Str.ofString "_" = T [95] by decide +kernel]; rfl, rfl, rfl, rfl⟩ ?_ ?_⟩
  · rintro i _ _ hi ⟨r, ds, x, rfl, hl2, ha2, rfl⟩
    walk_at "w"
    refine ⟨d, _, 53, rfl, upd_same, by decide, fun y r0 r1 => ?_⟩
    rw [upd_upd]
    refine ix_of isW r0 (Int.lt_of_lt_of_le r1 (by decide +kernel)) (by decide +kernel) (by decide +kernel) fun c hc => ?_
    refine ⟨_, _, rfl, rfl, by rw [T_len]; exact small9 (by show r.length + 1 + 1 ≤ _; omega), r ++ [c], _, some (.int (0 + (i : Int))), ?_, by rw [List.length_append, hl2]; rfl, ?_, rfl⟩
    · rw [show (sg c) = T [c] from rfl, T_cat]
      rfl
    · rw [List.all_append, ha2]
      show (true && (isW c && true)) = true
      rw [hc]
      rfl
  rintro _ _ ⟨r, ds, x, rfl, hl2, ha2, rfl⟩
  walk_at "w"
  refine ⟨by show 2 ≤ sizeLine; decide, fun t ht => ?_⟩
  exact tup l (95 :: r) _ (.inr ⟨ha, by omega, r, rfl, ha2, by omega⟩) t ht
def spNames (K : PySem.W.Frag) : Sp := fun vs H Q _ => ∃ (d : Addr) (ds : List Int), vs = [.ref d] ∧ H d = some (.lst (ds.map V.int)) ∧ ∀ (l r : List Nat) (nm p0 p1 p2 p3 : Addr) (ds' : List Int) (H' : Hp), FrameOk l r → SameX d H H' → H nm = none → H' d = some (.lst (ds'.map V.int)) → NA H' l r nm p0 p1 p2 p3 → AP d nm p0 p1 p2 p3 → Q (.ref nm) H'
def mks : List (List Nat) := [mk0, mk1, mk2, mk3]
theorem c_law_names {f : Addr} {fd : FuncData} (D : Df K mg "_law_names" s_law_names f fd ["draws"]) (c_law_frame : Cl P w K mg base 2 "_law_frame" spFrame) : Cl P w K mg base 3 "_law_names" (spNames K) := by
  refine D.cl sc_law_names (fun vs H Q E h => ?_) (fun cdv A outer s H vs Q E hr h => ?_)
  · obtain ⟨d, ds, rfl, _⟩ := h
    rfl
  obtain ⟨d, ds, rfl, hd, q⟩ := h
  refine ⟨_, (pss_cons (ps_set (i := 1) sc_law_names.nd rfl (.inr rfl) (pc c_law_frame hr (by first | decide | omega) (by rfl) (pa_cons (pv 0) pa_nil)))
      (pss_cons (ps_set (i := 2) sc_law_names.nd rfl (.inl rfl) (pe_lst pa_nil))
      (pss_cons (ps_for PassesOwn.never rfl (pi_tup (pe_tup (pa_cons pe_str (pa_cons pe_str (pa_cons pe_str (pa_cons pe_str pa_nil)))))) (pg_name (i := 3) sc_law_names.nd rfl (.inl rfl)) (pss_one (ps_expr (pe_bm PySem.F.plainAttrs_list PySem.F.slot_list_append PySem.F.type_list_append mt_append (pv 2) (pa_cons (pe_lc (own := [("mark", 4)]) (g := gName 4) (tt := tYes) (by rfl) sc_law_names.nd (pi_str (pv 3)) (blkOk_by (own := [("mark", 4)]) (N := ["draws", "frame", "rows", "marks", "mark"]) (sc := defScope s_law_names) (by decide +kernel)) (fun _ _ _ _ _ => pg_name (i := 4) sc_law_names.nd rfl (.inl rfl)) (fun _ _ _ _ _ => pts_nil) (fun _ _ _ _ _ => (pe_op op_add_str (pe_op op_add_str (pe_ix (ixT (K := K)) (pv 1) pe_int (fun _ _ => rfl)) (pv 4)) (pe_ix (ixT (K := K)) (pv 1) pe_int (fun _ _ => rfl))))) pa_nil)))))
      (pss_one (ps_ret (pv 2)))))), ?_⟩
  refine ⟨_, rfl, d, ds, rfl, hd, fun l r t ds' H1 hf e1 hd1 ht => ?_⟩
  refine ⟨by show 0 ≤ sizeLine; decide, fun nm hn => ?_⟩
  refine ⟨by show 4 ≤ sizeLine; decide, fun u hu => ?_⟩
  have e2 : Same H1 (upd (upd H1 nm (.lst [])) u (.tup [.str (Str.ofString "abcdefghi"), .str (Str.ofString "rstuv"), .str (Str.ofString "klmno"), .str (Str.ofString "ABCDEFGHIJKL")])) := (Same.new _ hn).trans (Same.new _ hu)
  have nu : nm ≠ u := ne_of_none upd_same hu
  have hln : l.length ≤ 7 ∧ r.length ≤ 8 := by
    rcases hf with ⟨rfl, rfl⟩ | ⟨_, h1, r', rfl, _, h2⟩
    · exact ⟨Nat.zero_le _, Nat.zero_le _⟩
    · exact ⟨h1, by show r'.length + 1 ≤ 8; omega⟩
  refine ⟨u, rfl, ⟨_, .of upd_same⟩, ?_⟩
  refine for_tup (xs := [.str (Str.ofString "abcdefghi"), .str (Str.ofString "rstuv"), .str (Str.ofString "klmno"), .str (Str.ofString "ABCDEFGHIJKL")]) (fun i σ' H' => ∃ (as : List Addr) (x y : Option V), σ' = [some (.ref d), some (.ref t), some (.ref nm), x, y] ∧ as.length = i ∧ H' nm = some (.lst (as.map V.ref)) ∧ Same H1 H' ∧ H' u = some (.tup [.str (Str.ofString "abcdefghi"), .str (Str.ofString "rstuv"), .str (Str.ofString "klmno"), .str (Str.ofString "ABCDEFGHIJKL")]) ∧ ∀ (j : Nat) (a : Addr) (m : List Nat), as[j]? = some a → mks[j]? = some m → H1 a = none ∧ a ≠ nm ∧ H' a = some (.lst (strsV (nmL l r m)))) ?_ ?_ ?_ ?_
  · exact ⟨[], none, none, rfl, rfl, (upd_ne nu).trans upd_same, e2, upd_same, fun j a m hj => by simp at hj⟩
  · rintro i σ' H' _ ⟨as, x, y, _, _, _, _, hu', _⟩
    exact .of hu'
  · rintro i x σ' H' hx ⟨as, x0, y0, rfl, hl, hnm, e3, hu', hall⟩
    obtain ⟨m, hm, rfl, hml⟩ : ∃ m, mks[i]? = some m ∧ x = .str (T m) ∧ m.length ≤ 20 := by
      rcases i with _ | _ | _ | _ | i
      · exact ⟨mk0, rfl, (Option.some.inj hx).symm.trans (congrArg V.str (lit_T _)), by decide +kernel⟩
      · exact ⟨mk1, rfl, (Option.some.inj hx).symm.trans (congrArg V.str (lit_T _)), by decide +kernel⟩
      · exact ⟨mk2, rfl, (Option.some.inj hx).symm.trans (congrArg V.str (lit_T _)), by decide +kernel⟩
      · exact ⟨mk3, rfl, (Option.some.inj hx).symm.trans (congrArg V.str (lit_T _)), by decide +kernel⟩
      · simp at hx
    have hil : i < 4 := by
      have := (List.getElem?_eq_some_iff.mp hm).1
      exact this
    refine ⟨_, rfl, .inl ⟨rfl, _, SqL.of hnm⟩, ?_⟩
    refine ⟨_, rfl, _, rfl, fun L hL => ?_⟩
    refine lc_txt (fun j H2 => H2 = upd H' L (.lst (strsV ((m.take j).map fun c => l ++ [c] ++ r)))) rfl ?_ ?_
    · rintro j c H2 hc rfl
      refine ⟨rfl, ?_⟩
      have ht2 : (upd H' L (.lst (strsV ((m.take j).map fun c => l ++ [c] ++ r)))) t = some (.tup [.str (T l), .str (T r)]) := (upd_ne (ne_of_none (e3 _ _ ht) hL)).trans (e3 _ _ ht)
      refine ⟨_, rfl, t, _, 0, _, rfl, rfl, .of ht2, atI_nat (j := 0) rfl, _, rfl, _, _, rfl, rfl, ?_, ?_⟩
      · show (T l).length + (sg c).length ≤ _
        rw [T_len]
        exact small9 (by show l.length + 1 ≤ _; omega)
      refine ⟨_, rfl, t, _, 1, _, rfl, rfl, .of ht2, atI_nat (j := 1) rfl, _, _, rfl, rfl, ?_, ?_⟩
      · show (T l ++ T [c]).length + (T r).length ≤ _
        rw [T_cat, T_len, T_len, List.length_append]
        exact small9 (by show l.length + 1 + r.length ≤ _; omega)
      refine ⟨_, upd_same, ?_, ?_⟩
      · show (List.map _ _).length < _
        rw [List.length_map, List.length_map, List.length_take]
        exact small1000 (by omega)
      · rw [upd_upd, List.take_add_one, hc, List.map_append]
        show _ = upd H' L (.lst (strsV (_ ++ [_])))
        rw [show (sg c) = T [c] from rfl, T_cat, T_cat]
        unfold strsV
        rw [List.map_append]
        rfl
    · rintro H2 rfl
      rw [List.take_length]
      have nL : nm ≠ L := ne_of_none hnm hL
      refine ⟨nm, _, _, rfl, rfl, (upd_ne nL).trans hnm, by rw [List.length_map, hl]; exact small1000 (by omega), ?_⟩
      have e4 : Same H1 (upd (upd H' L (.lst (strsV (m.map fun c => l ++ [c] ++ r)))) nm (.lst (as.map V.ref ++ [.ref L]))) := Same.mut _ (e3.trans (Same.new _ hL)) hn
      refine ⟨as ++ [L], _, _, rfl, by rw [List.length_append, hl]; rfl, by rw [upd_same, List.map_append]; rfl, e4, (upd_ne nu.symm).trans ((upd_ne (ne_of_none hu' hL)).trans hu'), fun j a m' hj hm' => ?_⟩
      by_cases hji : j < as.length
      · rw [List.getElem?_append_left hji] at hj
        obtain ⟨k1, k2, k3⟩ := hall j a m' hj hm'
        exact ⟨k1, k2, (upd_ne k2).trans ((upd_ne (ne_of_none k3 hL)).trans k3)⟩
      · have hj2 : j = as.length := by
          have := (List.getElem?_eq_some_iff.mp hj).1
          rw [List.length_append] at this
          have : ([L] : List Addr).length = 1 := rfl
          omega
        subst hj2
        rw [List.getElem?_append_right (Nat.le_refl _), Nat.sub_self] at hj
        cases Option.some.inj hj
        rw [hl, hm] at hm'
        cases Option.some.inj hm'
        refine ⟨?_, nL.symm, (upd_ne nL.symm).trans upd_same⟩
        cases hq : H1 L with
        | none => rfl
        | some o => exact absurd (e3 _ _ hq) (by rw [hL]; exact fun z => nomatch z)
  · rintro σ' H' ⟨as, x, y, rfl, hl, hnm, e3, _, hall⟩
    obtain ⟨a0, a1, a2, a3, rfl⟩ : ∃ a0 a1 a2 a3, as = [a0, a1, a2, a3] := by
      rcases as with _ | ⟨a0, _ | ⟨a1, _ | ⟨a2, _ | ⟨a3, _ | ⟨a4, as⟩⟩⟩⟩⟩
      all_goals first | exact ⟨_, _, _, _, rfl⟩ | (simp at hl)
    refine ⟨_, rfl, ?_⟩
    obtain ⟨k0, _, m0⟩ := hall 0 a0 mk0 rfl rfl
    obtain ⟨k1, _, m1⟩ := hall 1 a1 mk1 rfl rfl
    obtain ⟨k2, _, m2⟩ := hall 2 a2 mk2 rfl rfl
    obtain ⟨k3, _, m3⟩ := hall 3 a3 mk3 rfl rfl
    refine q l r nm a0 a1 a2 a3 ds' H' hf (e1.trans (SameX.of e3)) ?_ (e3 _ _ hd1) ⟨hnm, m0, m1, m2, m3⟩ ⟨(ne_of_none hd1 hn).symm, (ne_of_none hd1 k0).symm, (ne_of_none hd1 k1).symm, (ne_of_none hd1 k2).symm, (ne_of_none hd1 k3).symm⟩
    exact e1.free (ne_of_none hd1 hn).symm hn
theorem and_r {a : Bool} {n : Nat} (h : (a && decide ((0 : Int) < (n : Int))) = true) : 0 < n := by
  rw [Bool.and_eq_true] at h
  have := of_decide_eq_true h.2
  omega
/-! what stands while a list is drawn from -/
/-- how many of the names may be drawn -/
structure Sz where
  a : Nat
  b : Nat
  c : Nat
def Sz.Ok (S : Sz) : Prop := 0 < S.a ∧ S.a ≤ 9 ∧ S.b ≤ 5 ∧ S.c ≤ 5
def Sz.vs (S : Sz) : List V := [.int (S.a : Int), .int (S.b : Int), .int (S.c : Int)]
theorem Sz.Ok.l0 {S : Sz} (h : S.Ok) : S.a ≤ mk0.length := Nat.le_trans h.2.1 (by decide +kernel)
theorem Sz.Ok.l1 {S : Sz} (h : S.Ok) : S.b ≤ mk1.length := Nat.le_trans h.2.2.1 (by decide +kernel)
theorem Sz.Ok.l2 {S : Sz} (h : S.Ok) : S.c ≤ mk2.length := Nat.le_trans h.2.2.2 (by decide +kernel)
structure Dr (K : PySem.W.Frag) (H : Hp) (d nm z : Addr) (l r : List Nat) (S : Sz) : Prop where
  so : S.Ok
  ok : FrameOk l r
  ex : ∃ (ds : List Int) (p0 p1 p2 p3 : Addr), H d = some (.lst (ds.map V.int)) ∧ NA H l r nm p0 p1 p2 p3 ∧ AP d nm p0 p1 p2 p3
  sz : SqT K H z S.vs
section
variable {H H' : Hp} {d nm z : Addr} {l r : List Nat} {S : Sz} {R : VK} {σ : L2.St}
theorem Dr.same (h : Dr K H d nm z l r S) (e : Same H H') : Dr K H' d nm z l r S := by
  obtain ⟨ds, p0, p1, p2, p3, h1, h2, h3⟩ := h.ex
  exact ⟨h.so, h.ok, ⟨ds, p0, p1, p2, p3, e _ _ h1, h2.same e, h3⟩, Same.seqT e h.sz⟩
theorem Dr.new {p : Addr} (o : HO) (h : Dr K H d nm z l r S) (n : H p = none) : Dr K (upd H p o) d nm z l r S := h.same (Same.new o n)
theorem Dr.mv {D : PyData} {n : Nat} {v : V} (h : Dr K H d nm z l r S) (e : SameX d H H') (t : TupN n D) (p : Dp K H v D) : Dp K H' v D := by
  obtain ⟨ds, _, _, _, _, h1, _⟩ := h.ex
  exact Dp.kt (KT.x h1 e) t p
theorem Dr.start {H : Hp} {d nm z p0 p1 p2 p3 : Addr} {l r : List Nat} {ds : List Int} {S : Sz} (so : S.Ok) (hf : FrameOk l r) (f : H d = some (.lst (ds.map V.int))) (na : NA H l r nm p0 p1 p2 p3) (ap : AP d nm p0 p1 p2 p3) (hz : H z = none) : Dr K (upd H z (.tup S.vs)) d nm z l r S :=
  ⟨so, hf, ⟨ds, p0, p1, p2, p3, Same.new _ hz _ _ f, na.same (Same.new _ hz), ap⟩, .of upd_same⟩
theorem Dr.again {H : Hp} {d nm z z' : Addr} {l r : List Nat} {S : Sz} (h : Dr K H d nm z l r S) (hz : H z' = none) : Dr K (upd H z' (.tup S.vs)) d nm z' l r S := by
  obtain ⟨ds, p0, p1, p2, p3, h1, h2, h3⟩ := h.ex
  exact Dr.start h.so h.ok h1 h2 h3 hz
theorem take_draw {i : Nat} {m : Int} {H : Hp} (hi : σ[i]? = some (some (.ref d))) (h : Dr K H d nm z l r S) (hm : decide (0 < m) = true) (q : ∀ x H', 0 ≤ x → x < m → SameX d H H' → Dr K H' d nm z l r S → R (.int x) H') : tCall spTake [] E0 (tCons (tVar i) (tCons (tC (.int m)) tNil)) σ H R := by
  obtain ⟨ds, p0, p1, p2, p3, h1, h2, h3⟩ := h.ex
  refine ⟨_, hi, d, ds, m, rfl, h1, of_decide_eq_true hm, fun x x0 x1 => ?_⟩
  have e := SameX.at (d := d) (H := H) (.lst (ds.tail.map V.int))
  exact q x _ x0 x1 e ⟨h.so, h.ok, ⟨ds.tail, p0, p1, p2, p3, upd_same, h2.mono e h3, h3⟩, KT.x h1 e _ _ h.sz⟩
theorem at_names {ns : List (List Nat)} {x : Int} (h0 : 0 ≤ x) (h1 : x < (ns.length : Int)) : ∃ s, s ∈ ns ∧ atI (strsV ns) x = some (.str (T s)) := by
  have hi : x.toNat < ns.length := by omega
  have ei : x = ((x.toNat : Nat) : Int) := by omega
  refine ⟨ns[x.toNat], List.getElem_mem hi, ?_⟩
  have := atI_nat (xs := strsV ns) (j := x.toNat) (v := .str (T ns[x.toNat])) (by show (ns.map _)[x.toNat]? = _; rw [List.getElem?_map, List.getElem?_eq_getElem hi]; rfl)
  rw [← ei] at this
  exact this
theorem at_namesT {ns : List (List Nat)} {x : Int} {n : Nat} (h0 : 0 ≤ x) (h1 : x < (n : Int)) (hn : n ≤ ns.length) : ∃ s, s ∈ ns.take n ∧ atI (strsV ns) x = some (.str (T s)) := by
  have hi : x.toNat < ns.length := by omega
  have ei : x = ((x.toNat : Nat) : Int) := by omega
  refine ⟨ns[x.toNat], ?_, ?_⟩
  · rw [List.mem_take_iff_getElem]
    exact ⟨x.toNat, by omega, rfl⟩
  have := atI_nat (xs := strsV ns) (j := x.toNat) (v := .str (T ns[x.toNat])) (by show (ns.map _)[x.toNat]? = _; rw [List.getElem?_map, List.getElem?_eq_getElem hi]; rfl)
  rw [← ei] at this
  exact this
theorem nmL_take {l r m : List Nat} {n : Nat} {s : List Nat} (h : s ∈ (nmL l r m).take n) : s ∈ nmL l r (m.take n) := by
  unfold nmL at *
  rwa [List.map_take]
theorem nmL_of {l r m : List Nat} {n : Nat} {s : List Nat} (h : s ∈ nmL l r (m.take n)) : s ∈ nmL l r m := by
  obtain ⟨c, hc, e⟩ := List.mem_map.mp h
  exact List.mem_map.mpr ⟨c, List.mem_of_mem_take hc, e⟩
theorem NA.at {H : Hp} {p0 p1 p2 p3 : Addr} {i : Nat} {m : List Nat} (h : NA H l r nm p0 p1 p2 p3) (a : AP d nm p0 p1 p2 p3) (hm : mks[i]? = some m) : ∃ p, [V.ref p0, .ref p1, .ref p2, .ref p3][i]? = some (.ref p) ∧ p ≠ d ∧ H p = some (.lst (strsV (nmL l r m))) := by
  rcases i with _ | _ | _ | _ | i
  · cases Option.some.inj hm
    exact ⟨p0, rfl, a.a0, h.a0⟩
  · cases Option.some.inj hm
    exact ⟨p1, rfl, a.a1, h.a1⟩
  · cases Option.some.inj hm
    exact ⟨p2, rfl, a.a2, h.a2⟩
  · cases Option.some.inj hm
    exact ⟨p3, rfl, a.a3, h.a3⟩
  · simp [mks] at hm
theorem nm_draw {H : Hp} {i a b c : Nat} {m : List Nat} {n : Nat} (ha : σ[a]? = some (some (.ref d))) (hb : σ[b]? = some (some (.ref nm))) (hc : σ[c]? = some (some (.ref z))) (h : Dr K H d nm z l r S)
    (hz : S.vs[i]? = some (.int (n : Int))) (hn0 : 0 < n) (hn1 : n ≤ m.length) (hm : mks[i]? = some m) (q : ∀ s H', s ∈ nmL l r (m.take n) → SameX d H H' → Dr K H' d nm z l r S → R (.str (T s)) H') :
    tOp (rIxL K) (tOp (rIxL K) (tVar b) (tC (.int (i : Int)))) (tCall spTake [] E0 (tCons (tVar a) (tCons (tOp (rIxT K) (tVar c) (tC (.int (i : Int)))) tNil))) σ H R := by
  obtain ⟨ds, p0, p1, p2, p3, h1, h2, h3⟩ := h.ex
  obtain ⟨p, hp, hpd, hH⟩ := h2.at h3 hm
  refine ⟨_, hb, nm, _, _, _, rfl, rfl, SqL.of h2.top, atI_nat hp, _, ha, _, hc, z, _, _, _, rfl, rfl, h.sz, atI_nat hz, d, ds, n, rfl, h1, by omega, fun x x0 x1 => ?_⟩
  have e := SameX.at (d := d) (H := H) (.lst (ds.tail.map V.int))
  obtain ⟨s, hs, hat⟩ := at_namesT (ns := nmL l r m) (n := n) x0 x1 (by show n ≤ (m.map _).length; rw [List.length_map]; omega)
  exact ⟨p, _, x, _, rfl, rfl, SqL.of (e _ _ hpd hH), hat, q s _ (nmL_take hs) e ⟨h.so, h.ok, ⟨ds.tail, p0, p1, p2, p3, upd_same, h2.mono e h3, h3⟩, KT.x h1 e _ _ h.sz⟩⟩
end
section
variable {ta tb : TT} {b1 b2 : Bool} {tt u : TS} {D : Ends} {σ : L2.St} {H : Hp}
theorem gset {i : Nat} {v : V} {Q : L2.St → Hp → Prop} (h : Q (σ.set i (some v)) H) : gName i v σ H Q := h
theorem tsq {a b : TS} (h : a { D with nx := b D } σ H) : tSeq a b D σ H := h
theorem tnx (h : D.nx σ H) : tNext D σ H := h
theorem if_or (h1 : ∀ R : Bool → Hp → Prop, R b1 H → ta σ H R) (h2 : ∀ R : Bool → Hp → Prop, R b2 H → tb σ H R) (qT : (b1 || b2) = true → tt D σ H) (qF : (b1 || b2) = false → u D σ H) : tIfS (tOr ta tb) tt u D σ H := by
  refine h1 _ ?_
  cases b1 with
  | true => exact iteT (iteT (qT rfl))
  | false =>
    refine iteF (h2 _ ?_)
    cases b2 with
    | true => exact iteT (qT rfl)
    | false => exact iteF (qF rfl)
theorem if_and (h1 : ∀ R : Bool → Hp → Prop, R b1 H → ta σ H R) (h2 : ∀ R : Bool → Hp → Prop, R b2 H → tb σ H R) (qT : (b1 && b2) = true → tt D σ H) (qF : (b1 && b2) = false → u D σ H) : tIfS (tAnd ta tb) tt u D σ H := by
  refine h1 _ ?_
  cases b1 with
  | false => exact iteF (iteF (qF rfl))
  | true =>
    refine iteT (h2 _ ?_)
    cases b2 with
    | true => exact iteT (qT rfl)
    | false => exact iteF (qF rfl)
theorem if_1 (h1 : ∀ R : Bool → Hp → Prop, R b1 H → ta σ H R) (qT : b1 = true → tt D σ H) (qF : b1 = false → u D σ H) : tIfS ta tt u D σ H := by
  refine h1 _ ?_
  cases b1 with
  | false => exact iteF (qF rfl)
  | true => exact iteT (qT rfl)
end
/-! a drawn concept -/
def Con.Ok (l r : List Nat) (S : Sz) : Con → Prop
  | .name s => s ∈ nmL l r (mk0.take S.a)
  | .not c => c.Ok l r S
  | .both c d => c.Ok l r S ∧ d.Ok l r S
  | .either c d => c.Ok l r S ∧ d.Ok l r S
  | .some ro c => ro.1 ∈ nmL l r (mk1.take S.b) ∧ c.Ok l r S
  | .all ro c => ro.1 ∈ nmL l r (mk1.take S.b) ∧ c.Ok l r S
  | _ => True
theorem nm_len {l r m : List Nat} {s : List Nat} (f : FrameOk l r) (h : s ∈ nmL l r m) : s.length ≤ 16 := by
  obtain ⟨c, _, rfl⟩ := List.mem_map.mp h
  rw [List.length_append, List.length_append]
  have : [c].length = 1 := rfl
  rcases f with ⟨rfl, rfl⟩ | ⟨_, h1, r', rfl, _, h2⟩
  · show 0 + 1 + 0 ≤ 16
    decide
  · show l.length + 1 + (r'.length + 1) ≤ 16
    omega
theorem Con.sz_le {l r : List Nat} {S : Sz} (f : FrameOk l r) : ∀ {c : Con}, c.Ok l r S → c.sz + 20 ≤ 56 * 2 ^ c.dp
  | .any, _ => by decide
  | .nothing, _ => by decide
  | .name s, h => by
    have := nm_len f h
    show s.length + 20 + 20 ≤ 56 * 1
    omega
  | .not c, h => by
    have := Con.sz_le f (c := c) h
    show c.sz + 20 + 20 ≤ 56 * 2 ^ (c.dp + 1)
    rw [Nat.pow_succ]
    have : 0 < 2 ^ c.dp := Nat.pow_pos (by decide)
    omega
  | .both c d, h => by
    have h1 := Con.sz_le f h.1
    have h2 := Con.sz_le f h.2
    have k1 : 2 ^ c.dp ≤ 2 ^ max c.dp d.dp := Nat.pow_le_pow_right (by decide) (Nat.le_max_left ..)
    have k2 : 2 ^ d.dp ≤ 2 ^ max c.dp d.dp := Nat.pow_le_pow_right (by decide) (Nat.le_max_right ..)
    show c.sz + d.sz + 20 + 20 ≤ 56 * 2 ^ (max c.dp d.dp + 1)
    rw [Nat.pow_succ]
    omega
  | .either c d, h => by
    have h1 := Con.sz_le f h.1
    have h2 := Con.sz_le f h.2
    have k1 : 2 ^ c.dp ≤ 2 ^ max c.dp d.dp := Nat.pow_le_pow_right (by decide) (Nat.le_max_left ..)
    have k2 : 2 ^ d.dp ≤ 2 ^ max c.dp d.dp := Nat.pow_le_pow_right (by decide) (Nat.le_max_right ..)
    show c.sz + d.sz + 20 + 20 ≤ 56 * 2 ^ (max c.dp d.dp + 1)
    rw [Nat.pow_succ]
    omega
  | .some ro c, h => by
    have h1 := nm_len f h.1
    have h2 := Con.sz_le f h.2
    have : 0 < 2 ^ c.dp := Nat.pow_pos (by decide)
    show ro.1.length + c.sz + 40 + 20 ≤ 56 * 2 ^ (c.dp + 1)
    rw [Nat.pow_succ]
    omega
  | .all ro c, h => by
    have h1 := nm_len f h.1
    have h2 := Con.sz_le f h.2
    have : 0 < 2 ^ c.dp := Nat.pow_pos (by decide)
    show ro.1.length + c.sz + 40 + 20 ≤ 56 * 2 ^ (c.dp + 1)
    rw [Nat.pow_succ]
    omega
theorem pow_dp {n m : Nat} (h : n ≤ m) : 2 ^ n ≤ 2 ^ m := Nat.pow_le_pow_right (by decide) h
def spRolD (K : PySem.W.Frag) : Sp := fun vs H Q _ => ∃ (d nm z : Addr) (l r : List Nat) (S : Sz), vs = [.ref d, .ref nm, .ref z] ∧ 0 < S.b ∧ Dr K H d nm z l r S ∧ ∀ (ro : Rol) (v : V) (H' : Hp), ro.1 ∈ nmL l r (mk1.take S.b) → Dp K H' v (rolD ro) → SameX d H H' → Dr K H' d nm z l r S → Q v H'
theorem c_law_role {f : Addr} {fd : FuncData} (D : Df K mg "_law_role" s_law_role f fd ["draws", "names", "sizes"]) (c_law_take : Cl P w K mg base 1 "_law_take" spTake) : Cl P w K mg base 2 "_law_role" (spRolD K) := by
  refine D.cl sc_law_role (fun vs H Q E h => ?_) (fun cdv A outer s H vs Q E hr h => ?_)
  · obtain ⟨d, nm, z, l, r, S, rfl, _⟩ := h
    rfl
  obtain ⟨d, nm, z, l, r, S, rfl, hb, h, q⟩ := h
  refine ⟨_, (pss_cons (ps_set (i := 3) sc_law_role.nd rfl (.inl rfl) (pe_ix ix_list (pe_ix ix_list (pv 1) pe_int (fun _ _ => rfl)) (pc c_law_take hr (by first | decide | omega) (by rfl) (pa_cons (pv 0) (pa_cons (pe_ix ix_tup (pv 2) pe_int (fun _ _ => rfl)) pa_nil))) (fun _ _ => rfl)))
      (pss_one (ps_ret (pe_tup (pa_cons (pv 3) (pa_cons (pe_cmpR op_eq (pc c_law_take hr (by first | decide | omega) (by rfl) (pa_cons (pv 0) (pa_cons pe_int pa_nil))) pe_int (nomark _)) pa_nil)))))), ?_⟩
  refine nm_draw (i := 1) rfl rfl rfl h rfl hb h.so.l1 rfl fun s H1 hs e1 h1 => ?_
  refine ⟨_, rfl, take_draw rfl h1 (by decide) fun x H2 x0 x1 e2 h2 => ⟨rfl, by show 2 ≤ sizeLine; decide, fun p hp => ?_⟩⟩
  exact q (s, decide (V.int x = V.int 0)) _ _ hs (.tup (.of upd_same) (.cons (.str _) (.cons (.bl _) .nil))) ((e1.trans e2).trans (SameX.new _ hp)) (h2.new _ hp)
def spConD (K : PySem.W.Frag) (n : Nat) : Sp := fun vs H Q _ => ∃ (d nm z : Addr) (l r : List Nat) (S : Sz) (k : Nat), vs = [.ref d, .ref nm, .ref z, .int (k : Int)] ∧ k < n ∧ Dr K H d nm z l r S ∧ ∀ (c : Con) (v : V) (H' : Hp), c.Ok l r S → c.dp ≤ k → Dp K H' v c.D → SameX d H H' → Dr K H' d nm z l r S → Q v H'
theorem c_law_concept {f : Addr} {fd : FuncData} (D : Df K mg "_law_concept" s_law_concept f fd ["draws", "names", "sizes", "depth"]) (c_law_take : Cl P w K mg base 1 "_law_take" spTake) (c_law_role : Cl P w K mg base 2 "_law_role" (spRolD K)) : ∀ n : Nat, Cl P w K mg base (n + 3) "_law_concept" (spConD K n)
  | 0 => by
    refine D.cl sc_law_concept (fun vs H Q E h => ?_) (fun cdv A outer s H vs Q E hr h => ?_)
    · obtain ⟨d, nm, z, l, r, S, k, rfl, _⟩ := h
      rfl
    · obtain ⟨d, nm, z, l, r, S, k, _, hk, _⟩ := h
      exact absurd hk (Nat.not_lt_zero _)
  | n + 1 => by
    have c_law_concept := c_law_concept D c_law_take c_law_role n
    refine D.cl sc_law_concept (fun vs H Q E h => ?_) (fun cdv A outer s H vs Q E hr h => ?_)
    · obtain ⟨d, nm, z, l, r, S, k, rfl, _⟩ := h
      rfl
    obtain ⟨d, nm, z, l, r, S, k, rfl, hk, h, q⟩ := h
    refine ⟨_, (pss_cons (ps_set (i := 4) sc_law_concept.nd rfl (.inl rfl) (pc c_law_take hr (by first | decide | omega) (by rfl) (pa_cons (pv 0) (pa_cons pe_int pa_nil))))
      (pss_cons (ps_if (PW.pt (pw_or (pt_cmpR op_eq (pv 3) pe_int (nomark _)) (pw_or1 (pt_cmpR op_lt (pv 4) pe_int (nomark _))))) (pss_cons (ps_if (pt_cmpR op_eq (pv 4) pe_int (nomark _)) (pss_one (ps_ret (pe_ix ix_tup (pe_tup (pa_cons (pe_tup (pa_cons pe_str pa_nil)) (pa_cons (pe_tup (pa_cons pe_str pa_nil)) pa_nil))) (pc c_law_take hr (by first | decide | omega) (by rfl) (pa_cons (pv 0) (pa_cons pe_int pa_nil))) (fun _ _ => rfl)))) pss_nil)
      (pss_one (ps_ret (pe_tup (pa_cons pe_str (pa_cons (pe_ix ix_list (pe_ix ix_list (pv 1) pe_int (fun _ _ => rfl)) (pc c_law_take hr (by first | decide | omega) (by rfl) (pa_cons (pv 0) (pa_cons (pe_ix ix_tup (pv 2) pe_int (fun _ _ => rfl)) pa_nil))) (fun _ _ => rfl)) pa_nil)))))) pss_nil)
      (pss_cons (ps_if (pt_cmpR op_lt (pv 4) pe_int (nomark _)) (pss_one (ps_ret (pe_tup (pa_cons pe_str (pa_cons (pc c_law_concept hr (by first | decide | omega) (by rfl) (pa_cons (pv 0) (pa_cons (pv 1) (pa_cons (pv 2) (pa_cons (pe_op op_sub (pv 3) pe_int) pa_nil))))) pa_nil))))) pss_nil)
      (pss_cons (ps_if (PW.pt (pw_and (pt_cmpR op_lt (pv 4) pe_int (nomark _)) (pw_and1 (pt_cmpR op_gt (pe_ix ix_tup (pv 2) pe_int (fun _ _ => rfl)) pe_int (nomark _))))) (pss_cons (ps_set (i := 5) sc_law_concept.nd rfl (.inl rfl) (pc c_law_role hr (by first | decide | omega) (by rfl) (pa_cons (pv 0) (pa_cons (pv 1) (pa_cons (pv 2) pa_nil)))))
      (pss_cons (ps_set (i := 6) sc_law_concept.nd rfl (.inl rfl) (pe_ix ix_tup (pe_tup (pa_cons pe_str (pa_cons pe_str (pa_cons pe_str pa_nil)))) (pe_op op_sub (pv 4) pe_int) (fun _ _ => rfl)))
      (pss_one (ps_ret (pe_tup (pa_cons (pv 6) (pa_cons (pv 5) (pa_cons (pc c_law_concept hr (by first | decide | omega) (by rfl) (pa_cons (pv 0) (pa_cons (pv 1) (pa_cons (pv 2) (pa_cons (pe_op op_sub (pv 3) pe_int) pa_nil))))) pa_nil)))))))) pss_nil)
      (pss_cons (ps_set (i := 7) sc_law_concept.nd rfl (.inl rfl) (pc c_law_concept hr (by first | decide | omega) (by rfl) (pa_cons (pv 0) (pa_cons (pv 1) (pa_cons (pv 2) (pa_cons (pe_op op_sub (pv 3) pe_int) pa_nil))))))
      (pss_cons (ps_set (i := 6) sc_law_concept.nd rfl (.inl rfl) (pe_ix ix_tup (pe_tup (pa_cons pe_str (pa_cons pe_str pa_nil))) (pc c_law_take hr (by first | decide | omega) (by rfl) (pa_cons (pv 0) (pa_cons pe_int pa_nil))) (fun _ _ => rfl)))
      (pss_one (ps_ret (pe_tup (pa_cons (pv 6) (pa_cons (pv 7) (pa_cons (pc c_law_concept hr (by first | decide | omega) (by rfl) (pa_cons (pv 0) (pa_cons (pv 1) (pa_cons (pv 2) (pa_cons (pe_op op_sub (pv 3) pe_int) pa_nil))))) pa_nil)))))))))))), ?_⟩
    refine take_draw rfl h (by decide) fun x H1 x0 x1 e1 h1 => ?_
    refine gset ?_
    dsimp only
    refine tsq ?_
    refine if_or (b1 := decide (V.int (k : Int) = V.int 0)) (b2 := decide (x < 4)) (fun R q => ⟨_, rfl, rfl, _, rfl, q⟩) (fun R q => ⟨_, rfl, _, _, rfl, rfl, _, rfl, q⟩) (fun _ => ?_) (fun hb => ?_)
    · refine tsq ?_
      refine if_1 (b1 := decide (V.int x = V.int 0)) (fun R q => ⟨_, rfl, rfl, _, rfl, q⟩) (fun _ => ?_) (fun _ => ?_)
      · refine ⟨by show 1 ≤ sizeLine; decide, fun p hp => ⟨by show 1 ≤ sizeLine; decide, fun p2 hp2 => ⟨by show 2 ≤ sizeLine; decide, fun p3 hp3 => ?_⟩⟩⟩
        refine take_draw rfl (((h1.new _ hp).new _ hp2).new _ hp3) (by decide) fun y H2 y0 y1 e2 h2 => ?_
        have e3 := (((e1.trans (SameX.new _ hp)).trans (SameX.new _ hp2)).trans (SameX.new _ hp3)).trans e2
        have f1 : Dp K H2 (.ref p) Con.any.D := ((h1.new _ hp).new _ hp2).new _ hp3 |>.mv e2 (Con.tn .any) (.tup (Same.seqT ((Same.new _ hp2).trans (Same.new _ hp3)) (.of upd_same)) (.cons (.str _) .nil))
        have f2 : Dp K H2 (.ref p2) Con.nothing.D := ((h1.new _ hp).new _ hp2).new _ hp3 |>.mv e2 (Con.tn .nothing) (.tup (Same.seqT (Same.new _ hp3) (.of upd_same)) (.cons (.str _) .nil))
        obtain ⟨ds, _, _, _, _, k1, _⟩ := (((h1.new _ hp).new _ hp2).new _ hp3).ex
        have f3 : SqT K H2 p3 [.ref p, .ref p2] := KT.x k1 e2 _ _ (.of upd_same)
        obtain rfl | rfl : y = 0 ∨ y = 1 := by omega
        · exact ⟨p3, _, _, _, rfl, rfl, f3, atI_nat (j := 0) rfl, q .any _ _ trivial (Nat.zero_le _) f1 e3 h2⟩
        · exact ⟨p3, _, _, _, rfl, rfl, f3, atI_nat (j := 1) rfl, q .nothing _ _ trivial (Nat.zero_le _) f2 e3 h2⟩
      · refine nm_draw (i := 0) rfl rfl rfl h1 rfl h1.so.1 h1.so.l0 rfl fun s H2 hs e2 h2 => ⟨by show 2 ≤ sizeLine; decide, fun p hp => ?_⟩
        exact q (.name s) _ _ hs (Nat.zero_le _) (.tup (.of upd_same) (.cons (.str _) (.cons (.str _) .nil))) ((e1.trans e2).trans (SameX.new _ hp)) (h2.new _ hp)
    rw [Bool.or_eq_false_iff] at hb
    have hk0 : k ≠ 0 := fun z => of_decide_eq_false hb.1 (by rw [z]; rfl)
    have hx4 := of_decide_eq_false hb.2
    obtain ⟨k, rfl⟩ : ∃ j, k = j + 1 := ⟨k - 1, by omega⟩
    have hkn : k < n := by omega
    have ek : ((k + 1 : Nat) : Int) - 1 = (k : Int) := by omega
    refine tnx ?_
    dsimp only
    refine tsq ?_
    refine if_1 (b1 := decide (x < 6)) (fun R q => ⟨_, rfl, _, _, rfl, rfl, _, rfl, q⟩) (fun _ => ?_) (fun hx6 => ?_)
    · refine ⟨_, rfl, _, rfl, _, rfl, _, rfl, _, _, rfl, rfl, d, nm, z, l, r, S, k, by rw [← ek]; rfl, hkn, h1, fun c v H2 hc hcd hv e2 h2 => ⟨by show 2 ≤ sizeLine; decide, fun p hp => ?_⟩⟩
      exact q (.not c) _ _ hc (Nat.succ_le_succ hcd) (.tup (.of upd_same) (.cons (.str _) (.cons (Dp.same (Same.new _ hp) hv) .nil))) ((e1.trans e2).trans (SameX.new _ hp)) (h2.new _ hp)
    have hx6 := of_decide_eq_false hx6
    refine tnx ?_
    dsimp only
    refine tsq ?_
    refine if_and (b1 := decide (x < 9)) (b2 := decide ((0 : Int) < (S.b : Int))) (fun R q => ⟨_, rfl, _, _, rfl, rfl, _, rfl, q⟩) (fun R q => ⟨_, rfl, z, _, _, _, rfl, rfl, h1.sz, atI_nat (j := 1) rfl, _, _, rfl, rfl, _, rfl, q⟩) (fun hx9 => ?_) (fun _ => ?_)
    · have hb := and_r hx9
      rw [Bool.and_eq_true] at hx9
      have hx9 := of_decide_eq_true hx9.1
      refine ⟨_, rfl, _, rfl, _, rfl, d, nm, z, l, r, S, rfl, hb, h1, fun ro v H2 hro hv e2 h2 => ?_⟩
      refine ⟨by show 3 ≤ sizeLine; decide, fun p hp => ?_⟩
      refine ⟨_, rfl, _, _, rfl, rfl, ?_⟩
      have h3 := h2.new (.tup [V.str (Str.ofString "some"), .str (Str.ofString "all"), .str (Str.ofString "some")]) hp
      obtain rfl | rfl | rfl : x = 6 ∨ x = 7 ∨ x = 8 := by omega
      · refine ⟨p, _, _, _, rfl, rfl, .of upd_same, atI_nat (j := 0) rfl, ?_⟩
        refine ⟨_, rfl, _, rfl, _, rfl, _, rfl, _, rfl, _, rfl, _, _, rfl, rfl, d, nm, z, l, r, S, k, by rw [← ek]; rfl, hkn, h3, fun c v' H4 hc hcd hv' e4 h4 => ⟨by show 3 ≤ sizeLine; decide, fun p2 hp2 => ?_⟩⟩
        exact q (.some ro c) _ _ ⟨hro, hc⟩ (Nat.succ_le_succ hcd) (.tup (.of upd_same) (.cons (.str _) (.cons (Dp.same (Same.new _ hp2) (h3.mv e4 (rolN ro) (Dp.same (Same.new _ hp) hv))) (.cons (Dp.same (Same.new _ hp2) hv') .nil)))) ((((e1.trans e2).trans (SameX.new _ hp)).trans e4).trans (SameX.new _ hp2)) (h4.new _ hp2)
      · refine ⟨p, _, _, _, rfl, rfl, .of upd_same, atI_nat (j := 1) rfl, ?_⟩
        refine ⟨_, rfl, _, rfl, _, rfl, _, rfl, _, rfl, _, rfl, _, _, rfl, rfl, d, nm, z, l, r, S, k, by rw [← ek]; rfl, hkn, h3, fun c v' H4 hc hcd hv' e4 h4 => ⟨by show 3 ≤ sizeLine; decide, fun p2 hp2 => ?_⟩⟩
        exact q (.all ro c) _ _ ⟨hro, hc⟩ (Nat.succ_le_succ hcd) (.tup (.of upd_same) (.cons (.str _) (.cons (Dp.same (Same.new _ hp2) (h3.mv e4 (rolN ro) (Dp.same (Same.new _ hp) hv))) (.cons (Dp.same (Same.new _ hp2) hv') .nil)))) ((((e1.trans e2).trans (SameX.new _ hp)).trans e4).trans (SameX.new _ hp2)) (h4.new _ hp2)
      · refine ⟨p, _, _, _, rfl, rfl, .of upd_same, atI_nat (j := 2) rfl, ?_⟩
        refine ⟨_, rfl, _, rfl, _, rfl, _, rfl, _, rfl, _, rfl, _, _, rfl, rfl, d, nm, z, l, r, S, k, by rw [← ek]; rfl, hkn, h3, fun c v' H4 hc hcd hv' e4 h4 => ⟨by show 3 ≤ sizeLine; decide, fun p2 hp2 => ?_⟩⟩
        exact q (.some ro c) _ _ ⟨hro, hc⟩ (Nat.succ_le_succ hcd) (.tup (.of upd_same) (.cons (.str _) (.cons (Dp.same (Same.new _ hp2) (h3.mv e4 (rolN ro) (Dp.same (Same.new _ hp) hv))) (.cons (Dp.same (Same.new _ hp2) hv') .nil)))) ((((e1.trans e2).trans (SameX.new _ hp)).trans e4).trans (SameX.new _ hp2)) (h4.new _ hp2)
    · refine ⟨_, rfl, _, rfl, _, rfl, _, rfl, _, _, rfl, rfl, d, nm, z, l, r, S, k, by rw [← ek]; rfl, hkn, h1, fun c v H2 hc hcd hv e2 h2 => ?_⟩
      refine ⟨by show 2 ≤ sizeLine; decide, fun p hp => ?_⟩
      have h3 := h2.new (.tup [V.str (Str.ofString "and"), .str (Str.ofString "or")]) hp
      refine take_draw rfl h3 (by decide) fun y H4 y0 y1 e4 h4 => ?_
      have hv4 := h3.mv e4 (Con.tn c) (Dp.same (Same.new _ hp) hv)
      obtain ⟨ds, _, _, _, _, k1, _⟩ := h3.ex
      have f3 : SqT K H4 p _ := KT.x k1 e4 _ _ (.of upd_same)
      obtain rfl | rfl : y = 0 ∨ y = 1 := by omega
      · refine ⟨p, _, _, _, rfl, rfl, f3, atI_nat (j := 0) rfl, ?_⟩
        refine ⟨_, rfl, _, rfl, _, rfl, _, rfl, _, rfl, _, rfl, _, _, rfl, rfl, d, nm, z, l, r, S, k, by rw [← ek]; rfl, hkn, h4, fun c' v' H5 hc' hcd' hv' e5 h5 => ⟨by show 3 ≤ sizeLine; decide, fun p2 hp2 => ?_⟩⟩
        exact q (.both c c') _ _ ⟨hc, hc'⟩ (by show max c.dp c'.dp + 1 ≤ k + 1; omega) (.tup (.of upd_same) (.cons (.str _) (.cons (Dp.same (Same.new _ hp2) (h4.mv e5 (Con.tn c) hv4)) (.cons (Dp.same (Same.new _ hp2) hv') .nil)))) (((((e1.trans e2).trans (SameX.new _ hp)).trans e4).trans e5).trans (SameX.new _ hp2)) (h5.new _ hp2)
      · refine ⟨p, _, _, _, rfl, rfl, f3, atI_nat (j := 1) rfl, ?_⟩
        refine ⟨_, rfl, _, rfl, _, rfl, _, rfl, _, rfl, _, rfl, _, _, rfl, rfl, d, nm, z, l, r, S, k, by rw [← ek]; rfl, hkn, h4, fun c' v' H5 hc' hcd' hv' e5 h5 => ⟨by show 3 ≤ sizeLine; decide, fun p2 hp2 => ?_⟩⟩
        exact q (.either c c') _ _ ⟨hc, hc'⟩ (by show max c.dp c'.dp + 1 ≤ k + 1; omega) (.tup (.of upd_same) (.cons (.str _) (.cons (Dp.same (Same.new _ hp2) (h4.mv e5 (Con.tn c) hv4)) (.cons (Dp.same (Same.new _ hp2) hv') .nil)))) (((((e1.trans e2).trans (SameX.new _ hp)).trans e4).trans e5).trans (SameX.new _ hp2)) (h5.new _ hp2)
section
variable {H : Hp} {d nm z : Addr} {l r : List Nat} {S : Sz} {R : VK} {σ : L2.St}
theorem con_draw {n k i : Nat} (h0 : σ[0]? = some (some (.ref d))) (h1 : σ[1]? = some (some (.ref nm))) (h2 : σ[2]? = some (some (.ref z))) (h3 : σ[i]? = some (some (.int (k : Int)))) (hk : k < n) (h : Dr K H d nm z l r S) (q : ∀ c v H', Con.Ok l r S c → c.dp ≤ k → Dp K H' v c.D → SameX d H H' → Dr K H' d nm z l r S → R v H') : tCall (spConD K n) [] E0 (tCons (tVar 0) (tCons (tVar 1) (tCons (tVar 2) (tCons (tVar i) tNil)))) σ H R :=
  ⟨_, h0, _, h1, _, h2, _, h3, d, nm, z, l, r, S, k, rfl, hk, h, q⟩
theorem rol_draw (h0 : σ[0]? = some (some (.ref d))) (h1 : σ[1]? = some (some (.ref nm))) (h2 : σ[2]? = some (some (.ref z))) (hb : 0 < S.b) (h : Dr K H d nm z l r S) (q : ∀ (ro : Rol) v H', ro.1 ∈ nmL l r (mk1.take S.b) → Dp K H' v (rolD ro) → SameX d H H' → Dr K H' d nm z l r S → R v H') : tCall (spRolD K) [] E0 (tCons (tVar 0) (tCons (tVar 1) (tCons (tVar 2) tNil))) σ H R :=
  ⟨_, h0, _, h1, _, h2, d, nm, z, l, r, S, rfl, hb, h, q⟩
end
def Stm.Ok (l r : List Nat) (S : Sz) : Stm → Prop
  | .below c d => c.Ok l r S ∧ d.Ok l r S
  | .equals c d => c.Ok l r S ∧ d.Ok l r S
  | .apart c d => c.Ok l r S ∧ d.Ok l r S
  | .domain ro c => ro.1 ∈ nmL l r (mk1.take S.b) ∧ c.Ok l r S
  | .range ro c => ro.1 ∈ nmL l r (mk1.take S.b) ∧ c.Ok l r S
  | .under r1 r2 => r1.1 ∈ nmL l r (mk1.take S.b) ∧ r2.1 ∈ nmL l r (mk1.take S.b)
  | .inverse a b => a ∈ nmL l r (mk1.take S.b) ∧ b ∈ nmL l r (mk1.take S.b)
  | .is a c => a ∈ nmL l r (mk2.take S.c) ∧ c.Ok l r S
  | .has a b c => a ∈ nmL l r (mk2.take S.c) ∧ b ∈ nmL l r (mk1.take S.b) ∧ c ∈ nmL l r (mk2.take S.c)
  | .never => True
theorem Stm.sz_le {l r : List Nat} {S : Sz} (f : FrameOk l r) {s : Stm} (h : s.Ok l r S) : s.sz ≤ 112 * 2 ^ s.dp + 88 := by
  cases s with
  | below c d | equals c d | apart c d =>
    have h1 := Con.sz_le f h.1
    have h2 := Con.sz_le f h.2
    have k1 := pow_dp (Nat.le_max_left c.dp d.dp)
    have k2 := pow_dp (Nat.le_max_right c.dp d.dp)
    show c.sz + d.sz + 40 ≤ 112 * 2 ^ (max c.dp d.dp) + 88
    omega
  | domain ro c | range ro c =>
    have h1 := nm_len f h.1
    have h2 := Con.sz_le f h.2
    show ro.1.length + c.sz + 40 ≤ 112 * 2 ^ c.dp + 88
    omega
  | under a b =>
    have h1 := nm_len f h.1
    have h2 := nm_len f h.2
    show a.1.length + b.1.length + 40 ≤ _
    omega
  | inverse a b =>
    have h1 := nm_len f h.1
    have h2 := nm_len f h.2
    show a.length + b.length + 40 ≤ _
    omega
  | is a c =>
    have h1 := nm_len f h.1
    have h2 := Con.sz_le f h.2
    show a.length + c.sz + 40 ≤ 112 * 2 ^ c.dp + 88
    omega
  | has a b c =>
    have h1 := nm_len f h.1
    have h2 := nm_len f h.2.1
    have h3 := nm_len f h.2.2
    show a.length + b.length + c.length + 40 ≤ _
    omega
  | never =>
    show 40 ≤ _
    omega
def spStmD (K : PySem.W.Frag) (n : Nat) : Sp := fun vs H Q _ => ∃ (d nm z : Addr) (l r : List Nat) (S : Sz) (k : Nat), vs = [.ref d, .ref nm, .ref z, .int (k : Int)] ∧ k < n ∧ Dr K H d nm z l r S ∧ ∀ (s : Stm) (v : V) (H' : Hp), s.Ok l r S → s.dp ≤ k → s ≠ .never → Dp K H' v s.D → SameX d H H' → Dr K H' d nm z l r S → Q v H'
theorem c_law_statement {n m : Nat} (hm : 2 ≤ m) {f : Addr} {fd : FuncData} (D : Df K mg "_law_statement" s_law_statement f fd ["draws", "names", "sizes", "depth"]) (c_law_take : Cl P w K mg base 1 "_law_take" spTake) (c_law_role : Cl P w K mg base 2 "_law_role" (spRolD K)) (c_law_concept : Cl P w K mg base m "_law_concept" (spConD K n)) (z_min : mg "min" = none) : Cl P w K mg base (m + 1) "_law_statement" (spStmD K n) := by
  refine D.cl sc_law_statement (fun vs H Q E h => ?_) (fun cdv A outer s H vs Q E hr h => ?_)
  · obtain ⟨d, nm, z, l, r, S, k, rfl, _⟩ := h
    rfl
  obtain ⟨d, nm, z, l, r, S, k, rfl, hk, h, q⟩ := h
  refine ⟨_, (pss_cons (ps_set (i := 4) sc_law_statement.nd rfl (.inl rfl) (pc c_law_take hr (by first | decide | omega) (by rfl) (pa_cons (pv 0) (pa_cons pe_int pa_nil))))
      (pss_cons (ps_if (PW.pt (pw_and (pt_cmpR op_gt (pv 4) pe_int (nomark _)) (pw_and1 (pt_cmpR op_gt (pe_ix ix_tup (pv 2) pe_int (fun _ _ => rfl)) pe_int (nomark _))))) (pss_cons (ps_set (i := 5) sc_law_statement.nd rfl (.inl rfl) (pe_ix ix_list (pe_ix ix_list (pv 1) pe_int (fun _ _ => rfl)) (pc c_law_take hr (by first | decide | omega) (by rfl) (pa_cons (pv 0) (pa_cons (pe_ix ix_tup (pv 2) pe_int (fun _ _ => rfl)) pa_nil))) (fun _ _ => rfl)))
      (pss_cons (ps_if (PW.pt (pw_and (pt_cmpR op_eq (pv 4) pe_int (nomark _)) (pw_and1 (pt_cmpR op_gt (pe_ix ix_tup (pv 2) pe_int (fun _ _ => rfl)) pe_int (nomark _))))) (pss_cons (ps_set (i := 6) sc_law_statement.nd rfl (.inl rfl) (pe_ix ix_list (pe_ix ix_list (pv 1) pe_int (fun _ _ => rfl)) (pc c_law_take hr (by first | decide | omega) (by rfl) (pa_cons (pv 0) (pa_cons (pe_ix ix_tup (pv 2) pe_int (fun _ _ => rfl)) pa_nil))) (fun _ _ => rfl)))
      (pss_one (ps_ret (pe_tup (pa_cons pe_str (pa_cons (pv 5) (pa_cons (pv 6) (pa_cons (pe_ix ix_list (pe_ix ix_list (pv 1) pe_int (fun _ _ => rfl)) (pc c_law_take hr (by first | decide | omega) (by rfl) (pa_cons (pv 0) (pa_cons (pe_ix ix_tup (pv 2) pe_int (fun _ _ => rfl)) pa_nil))) (fun _ _ => rfl)) pa_nil)))))))) pss_nil)
      (pss_one (ps_ret (pe_tup (pa_cons pe_str (pa_cons (pv 5) (pa_cons (pc c_law_concept hr (by first | decide | omega) (by rfl) (pa_cons (pv 0) (pa_cons (pv 1) (pa_cons (pv 2) (pa_cons (pv 3) pa_nil))))) pa_nil)))))))) pss_nil)
      (pss_cons (ps_if (PW.pt (pw_and (pt_cmpR op_gt (pv 4) pe_int (nomark _)) (pw_and1 (pt_cmpR op_gt (pe_ix ix_tup (pv 2) pe_int (fun _ _ => rfl)) pe_int (nomark _))))) (pss_cons (ps_set (i := 6) sc_law_statement.nd rfl (.inl rfl) (pc c_law_role hr (by first | decide | omega) (by rfl) (pa_cons (pv 0) (pa_cons (pv 1) (pa_cons (pv 2) pa_nil)))))
      (pss_cons (ps_if (pt_cmpR op_eq (pv 4) pe_int (nomark _)) (pss_one (ps_ret (pe_tup (pa_cons pe_str (pa_cons (pv 6) (pa_cons (pc c_law_concept hr (by first | decide | omega) (by rfl) (pa_cons (pv 0) (pa_cons (pv 1) (pa_cons (pv 2) (pa_cons (pv 3) pa_nil))))) pa_nil)))))) pss_nil)
      (pss_cons (ps_if (pt_cmpR op_eq (pv 4) pe_int (nomark _)) (pss_one (ps_ret (pe_tup (pa_cons pe_str (pa_cons (pv 6) (pa_cons (pc c_law_concept hr (by first | decide | omega) (by rfl) (pa_cons (pv 0) (pa_cons (pv 1) (pa_cons (pv 2) (pa_cons (pv 3) pa_nil))))) pa_nil)))))) pss_nil)
      (pss_cons (ps_if (pt_cmpR op_eq (pv 4) pe_int (nomark _)) (pss_one (ps_ret (pe_tup (pa_cons pe_str (pa_cons (pe_ix ix_tup (pv 6) pe_int (fun _ _ => rfl)) (pa_cons (pe_ix ix_list (pe_ix ix_list (pv 1) pe_int (fun _ _ => rfl)) (pc c_law_take hr (by first | decide | omega) (by rfl) (pa_cons (pv 0) (pa_cons (pe_ix ix_tup (pv 2) pe_int (fun _ _ => rfl)) pa_nil))) (fun _ _ => rfl)) pa_nil)))))) pss_nil)
      (pss_one (ps_ret (pe_tup (pa_cons pe_str (pa_cons (pv 6) (pa_cons (pc c_law_role hr (by first | decide | omega) (by rfl) (pa_cons (pv 0) (pa_cons (pv 1) (pa_cons (pv 2) pa_nil)))) pa_nil)))))))))) pss_nil)
      (pss_cons (ps_set (i := 7) sc_law_statement.nd rfl (.inl rfl) (pe_ix ix_tup (pe_tup (pa_cons pe_str (pa_cons pe_str (pa_cons pe_str (pa_cons pe_str (pa_cons pe_str pa_nil)))))) (pe_callB (call_min2 rfl) (by rfl) z_min (by decide +kernel) (pa_cons (pv 4) (pa_cons pe_int pa_nil))) (fun _ _ => rfl)))
      (pss_cons (ps_set (i := 8) sc_law_statement.nd rfl (.inl rfl) (pc c_law_concept hr (by first | decide | omega) (by rfl) (pa_cons (pv 0) (pa_cons (pv 1) (pa_cons (pv 2) (pa_cons (pv 3) pa_nil))))))
      (pss_one (ps_ret (pe_tup (pa_cons (pv 7) (pa_cons (pv 8) (pa_cons (pc c_law_concept hr (by first | decide | omega) (by rfl) (pa_cons (pv 0) (pa_cons (pv 1) (pa_cons (pv 2) (pa_cons (pv 3) pa_nil))))) pa_nil))))))))))), ?_⟩
  refine take_draw rfl h (by decide) fun x H1 x0 x1 e1 h1 => ?_
  refine gset ?_
  dsimp only
  refine tsq ?_
  refine if_and (b1 := decide (8 < x)) (b2 := decide ((0 : Int) < (S.c : Int))) (fun R q => ⟨_, rfl, _, _, rfl, rfl, _, rfl, q⟩) (fun R q => ⟨_, rfl, z, _, _, _, rfl, rfl, h1.sz, atI_nat (j := 2) rfl, _, _, rfl, rfl, _, rfl, q⟩) (fun hh => ?_) (fun _ => ?_)
  · have hcc := and_r hh
    refine nm_draw (i := 2) rfl rfl rfl h1 rfl hcc h1.so.l2 rfl fun s1 H2 hs1 e2 h2 => ?_
    refine gset ?_
    dsimp only
    refine tsq ?_
    refine if_and (b1 := decide (V.int x = V.int 11)) (b2 := decide ((0 : Int) < (S.b : Int))) (fun R q => ⟨_, rfl, rfl, _, rfl, q⟩) (fun R q => ⟨_, rfl, z, _, _, _, rfl, rfl, h2.sz, atI_nat (j := 1) rfl, _, _, rfl, rfl, _, rfl, q⟩) (fun hh => ?_) (fun _ => ?_)
    · have hb := and_r hh
      refine nm_draw (i := 1) rfl rfl rfl h2 rfl hb h2.so.l1 rfl fun s2 H3 hs2 e3 h3 => ?_
      refine ⟨_, rfl, _, rfl, nm_draw (i := 2) rfl rfl rfl h3 rfl hcc h3.so.l2 rfl fun s3 H4 hs3 e4 h4 => ⟨by show 4 ≤ sizeLine; decide, fun p hp => ?_⟩⟩
      exact q (.has s1 s2 s3) _ _ ⟨hs1, hs2, hs3⟩ (Nat.zero_le _) (fun z => nomatch z) (.tup (.of upd_same) (.cons (.str _) (.cons (.str _) (.cons (.str _) (.cons (.str _) .nil))))) ((((e1.trans e2).trans e3).trans e4).trans (SameX.new _ hp)) (h4.new _ hp)
    · refine tnx ?_
      refine ⟨_, rfl, con_draw rfl rfl rfl rfl hk h2 fun c v H3 hc hcd hv e3 h3 => ⟨by show 3 ≤ sizeLine; decide, fun p hp => ?_⟩⟩
      exact q (.is s1 c) _ _ ⟨hs1, hc⟩ hcd (fun z => nomatch z) (.tup (.of upd_same) (.cons (.str _) (.cons (.str _) (.cons (Dp.same (Same.new _ hp) hv) .nil)))) (((e1.trans e2).trans e3).trans (SameX.new _ hp)) (h3.new _ hp)
  refine tnx ?_
  dsimp only
  refine tsq ?_
  refine if_and (b1 := decide (4 < x)) (b2 := decide ((0 : Int) < (S.b : Int))) (fun R q => ⟨_, rfl, _, _, rfl, rfl, _, rfl, q⟩) (fun R q => ⟨_, rfl, z, _, _, _, rfl, rfl, h1.sz, atI_nat (j := 1) rfl, _, _, rfl, rfl, _, rfl, q⟩) (fun hh => ?_) (fun _ => ?_)
  · have hb := and_r hh
    refine rol_draw rfl rfl rfl hb h1 fun ro v H2 hro hv e2 h2 => ?_
    refine gset ?_
    dsimp only
    refine tsq ?_
    refine if_1 (b1 := decide (V.int x = V.int 5)) (fun R q => ⟨_, rfl, rfl, _, rfl, q⟩) (fun _ => ?_) (fun _ => ?_)
    · refine ⟨_, rfl, con_draw rfl rfl rfl rfl hk h2 fun c v' H3 hc hcd hv' e3 h3 => ⟨by show 3 ≤ sizeLine; decide, fun p hp => ?_⟩⟩
      exact q (.domain ro c) _ _ ⟨hro, hc⟩ hcd (fun z => nomatch z) (.tup (.of upd_same) (.cons (.str _) (.cons (Dp.same (Same.new _ hp) (h2.mv e3 (rolN ro) hv)) (.cons (Dp.same (Same.new _ hp) hv') .nil)))) (((e1.trans e2).trans e3).trans (SameX.new _ hp)) (h3.new _ hp)
    refine tnx ?_
    dsimp only
    refine tsq ?_
    refine if_1 (b1 := decide (V.int x = V.int 6)) (fun R q => ⟨_, rfl, rfl, _, rfl, q⟩) (fun _ => ?_) (fun _ => ?_)
    · refine ⟨_, rfl, con_draw rfl rfl rfl rfl hk h2 fun c v' H3 hc hcd hv' e3 h3 => ⟨by show 3 ≤ sizeLine; decide, fun p hp => ?_⟩⟩
      exact q (.range ro c) _ _ ⟨hro, hc⟩ hcd (fun z => nomatch z) (.tup (.of upd_same) (.cons (.str _) (.cons (Dp.same (Same.new _ hp) (h2.mv e3 (rolN ro) hv)) (.cons (Dp.same (Same.new _ hp) hv') .nil)))) (((e1.trans e2).trans e3).trans (SameX.new _ hp)) (h3.new _ hp)
    refine tnx ?_
    dsimp only
    refine tsq ?_
    refine if_1 (b1 := decide (V.int x = V.int 7)) (fun R q => ⟨_, rfl, rfl, _, rfl, q⟩) (fun _ => ?_) (fun _ => ?_)
    · obtain ⟨a, rfl, hs⟩ := dpRol hv
      refine ⟨_, rfl, a, _, _, _, rfl, rfl, hs, atI_nat (j := 0) rfl, nm_draw (i := 1) rfl rfl rfl h2 rfl hb h2.so.l1 rfl fun s2 H3 hs2 e3 h3 => ⟨by show 3 ≤ sizeLine; decide, fun p hp => ?_⟩⟩
      exact q (.inverse ro.1 s2) _ _ ⟨hro, hs2⟩ (Nat.zero_le _) (fun z => nomatch z) (.tup (.of upd_same) (.cons (.str _) (.cons (.str _) (.cons (.str _) .nil)))) (((e1.trans e2).trans e3).trans (SameX.new _ hp)) (h3.new _ hp)
    refine tnx ?_
    refine ⟨_, rfl, rol_draw rfl rfl rfl hb h2 fun ro2 v' H3 hro2 hv' e3 h3 => ⟨by show 3 ≤ sizeLine; decide, fun p hp => ?_⟩⟩
    exact q (.under ro ro2) _ _ ⟨hro, hro2⟩ (Nat.zero_le _) (fun z => nomatch z) (.tup (.of upd_same) (.cons (.str _) (.cons (Dp.same (Same.new _ hp) (h2.mv e3 (rolN ro) hv)) (.cons (Dp.same (Same.new _ hp) hv') .nil)))) (((e1.trans e2).trans e3).trans (SameX.new _ hp)) (h3.new _ hp)
  refine tnx ?_
  refine ⟨by show 5 ≤ sizeLine; decide, fun p hp => ?_⟩
  have h2 := h1.new (.tup [V.str (Str.ofString "below"), .str (Str.ofString "below"), .str (Str.ofString "equals"), .str (Str.ofString "apart"), .str (Str.ofString "below")]) hp
  obtain ⟨y, hy, y0, y4⟩ : ∃ y, (if (4 : Int) < x then (4 : Int) else x) = y ∧ 0 ≤ y ∧ y ≤ 4 := ⟨_, rfl, by split <;> omega, by split <;> omega⟩
  refine ⟨_, rfl, x, 4, rfl, ?_⟩
  rw [hy]
  obtain ⟨W, mk, hW, hmk⟩ : ∃ (W : String) (mk : Con → Con → Stm), atI [V.str (Str.ofString "below"), .str (Str.ofString "below"), .str (Str.ofString "equals"), .str (Str.ofString "apart"), .str (Str.ofString "below")] y = some (.str (Str.ofString W)) ∧ ∀ c c' : Con, (mk c c').D = .tuple [.str (Str.ofString W), c.D, c'.D] ∧ (c.Ok l r S ∧ c'.Ok l r S → (mk c c').Ok l r S) ∧ (mk c c').dp = max c.dp c'.dp ∧ mk c c' ≠ .never := by
    obtain rfl | rfl | rfl | rfl | rfl : y = 0 ∨ y = 1 ∨ y = 2 ∨ y = 3 ∨ y = 4 := by omega
    · exact ⟨_, .below, atI_nat (j := 0) rfl, fun c c' => ⟨rfl, id, rfl, fun z => nomatch z⟩⟩
    · exact ⟨_, .below, atI_nat (j := 1) rfl, fun c c' => ⟨rfl, id, rfl, fun z => nomatch z⟩⟩
    · exact ⟨_, .equals, atI_nat (j := 2) rfl, fun c c' => ⟨rfl, id, rfl, fun z => nomatch z⟩⟩
    · exact ⟨_, .apart, atI_nat (j := 3) rfl, fun c c' => ⟨rfl, id, rfl, fun z => nomatch z⟩⟩
    · exact ⟨_, .below, atI_nat (j := 4) rfl, fun c c' => ⟨rfl, id, rfl, fun z => nomatch z⟩⟩
  refine ⟨p, _, _, _, rfl, rfl, .of upd_same, hW, ?_⟩
  refine con_draw rfl rfl rfl rfl hk h2 fun c v H3 hc hcd hv e3 h3 => ?_
  refine ⟨_, rfl, _, rfl, con_draw rfl rfl rfl rfl hk h3 fun c' v' H4 hc' hcd' hv' e4 h4 => ⟨by show 3 ≤ sizeLine; decide, fun p2 hp2 => ?_⟩⟩
  obtain ⟨m1, m2, m3, m4⟩ := hmk c c'
  refine q (mk c c') _ _ (m2 ⟨hc, hc'⟩) (by rw [m3]; omega) m4 ?_ ((((e1.trans (SameX.new _ hp)).trans e3).trans e4).trans (SameX.new _ hp2)) (h4.new _ hp2)
  rw [m1]
  exact .tup (.of upd_same) (.cons (.str _) (.cons (Dp.same (Same.new _ hp2) (h3.mv e4 (Con.tn c) hv)) (.cons (Dp.same (Same.new _ hp2) hv') .nil)))
def QK : Stm → Prop
  | .never => True
  | .below _ _ => True
  | .is _ _ => True
  | .has _ _ _ => True
  | _ => False
def spQstD (K : PySem.W.Frag) (n : Nat) : Sp := fun vs H Q _ => ∃ (d nm z : Addr) (l r : List Nat) (S : Sz) (k : Nat), vs = [.ref d, .ref nm, .ref z, .int (k : Int)] ∧ k < n ∧ Dr K H d nm z l r S ∧ ∀ (s : Stm) (v : V) (H' : Hp), s.Ok l r S → QK s → s.dp ≤ k → Dp K H' v s.D → SameX d H H' → Dr K H' d nm z l r S → Q v H'
theorem c_law_question {n m : Nat} (hm : 2 ≤ m) {f : Addr} {fd : FuncData} (D : Df K mg "_law_question" s_law_question f fd ["draws", "names", "sizes", "depth"]) (c_law_take : Cl P w K mg base 1 "_law_take" spTake) (c_law_concept : Cl P w K mg base m "_law_concept" (spConD K n)) : Cl P w K mg base (m + 1) "_law_question" (spQstD K n) := by
  refine D.cl sc_law_question (fun vs H Q E h => ?_) (fun cdv A outer s H vs Q E hr h => ?_)
  · obtain ⟨d, nm, z, l, r, S, k, rfl, _⟩ := h
    rfl
  obtain ⟨d, nm, z, l, r, S, k, rfl, hk, h, q⟩ := h
  refine ⟨_, (pss_cons (ps_set (i := 4) sc_law_question.nd rfl (.inl rfl) (pc c_law_take hr (by first | decide | omega) (by rfl) (pa_cons (pv 0) (pa_cons pe_int pa_nil))))
      (pss_cons (ps_if (pt_cmpR op_eq (pv 4) pe_int (nomark _)) (pss_one (ps_ret (pe_tup (pa_cons pe_str pa_nil)))) pss_nil)
      (pss_cons (ps_if (PW.pt (pw_and (pt_cmpR op_gt (pv 4) pe_int (nomark _)) (pw_and1 (pt_cmpR op_gt (pe_ix ix_tup (pv 2) pe_int (fun _ _ => rfl)) pe_int (nomark _))))) (pss_cons (ps_set (i := 5) sc_law_question.nd rfl (.inl rfl) (pe_ix ix_list (pe_ix ix_list (pv 1) pe_int (fun _ _ => rfl)) (pc c_law_take hr (by first | decide | omega) (by rfl) (pa_cons (pv 0) (pa_cons (pe_ix ix_tup (pv 2) pe_int (fun _ _ => rfl)) pa_nil))) (fun _ _ => rfl)))
      (pss_cons (ps_if (PW.pt (pw_and (pt_cmpR op_eq (pv 4) pe_int (nomark _)) (pw_and1 (pt_cmpR op_gt (pe_ix ix_tup (pv 2) pe_int (fun _ _ => rfl)) pe_int (nomark _))))) (pss_cons (ps_set (i := 6) sc_law_question.nd rfl (.inl rfl) (pe_ix ix_list (pe_ix ix_list (pv 1) pe_int (fun _ _ => rfl)) (pc c_law_take hr (by first | decide | omega) (by rfl) (pa_cons (pv 0) (pa_cons (pe_ix ix_tup (pv 2) pe_int (fun _ _ => rfl)) pa_nil))) (fun _ _ => rfl)))
      (pss_one (ps_ret (pe_tup (pa_cons pe_str (pa_cons (pv 5) (pa_cons (pv 6) (pa_cons (pe_ix ix_list (pe_ix ix_list (pv 1) pe_int (fun _ _ => rfl)) (pc c_law_take hr (by first | decide | omega) (by rfl) (pa_cons (pv 0) (pa_cons (pe_ix ix_tup (pv 2) pe_int (fun _ _ => rfl)) pa_nil))) (fun _ _ => rfl)) pa_nil)))))))) pss_nil)
      (pss_one (ps_ret (pe_tup (pa_cons pe_str (pa_cons (pv 5) (pa_cons (pc c_law_concept hr (by first | decide | omega) (by rfl) (pa_cons (pv 0) (pa_cons (pv 1) (pa_cons (pv 2) (pa_cons (pv 3) pa_nil))))) pa_nil)))))))) pss_nil)
      (pss_cons (ps_set (i := 7) sc_law_question.nd rfl (.inl rfl) (pc c_law_concept hr (by first | decide | omega) (by rfl) (pa_cons (pv 0) (pa_cons (pv 1) (pa_cons (pv 2) (pa_cons (pv 3) pa_nil))))))
      (pss_one (ps_ret (pe_tup (pa_cons pe_str (pa_cons (pv 7) (pa_cons (pc c_law_concept hr (by first | decide | omega) (by rfl) (pa_cons (pv 0) (pa_cons (pv 1) (pa_cons (pv 2) (pa_cons (pv 3) pa_nil))))) pa_nil)))))))))), ?_⟩
  refine take_draw rfl h (by decide) fun x H1 x0 x1 e1 h1 => ?_
  refine gset ?_
  dsimp only
  refine tsq ?_
  refine if_1 (b1 := decide (V.int x = V.int 0)) (fun R q => ⟨_, rfl, rfl, _, rfl, q⟩) (fun _ => ?_) (fun _ => ?_)
  · refine ⟨by show 1 ≤ sizeLine; decide, fun p hp => ?_⟩
    exact q .never _ _ trivial trivial (Nat.zero_le _) (.tup (.of upd_same) (.cons (.str _) .nil)) (e1.trans (SameX.new _ hp)) (h1.new _ hp)
  refine tnx ?_
  dsimp only
  refine tsq ?_
  refine if_and (b1 := decide (6 < x)) (b2 := decide ((0 : Int) < (S.c : Int))) (fun R q => ⟨_, rfl, _, _, rfl, rfl, _, rfl, q⟩) (fun R q => ⟨_, rfl, z, _, _, _, rfl, rfl, h1.sz, atI_nat (j := 2) rfl, _, _, rfl, rfl, _, rfl, q⟩) (fun hh => ?_) (fun _ => ?_)
  · have hcc := and_r hh
    refine nm_draw (i := 2) rfl rfl rfl h1 rfl hcc h1.so.l2 rfl fun s1 H2 hs1 e2 h2 => ?_
    refine gset ?_
    dsimp only
    refine tsq ?_
    refine if_and (b1 := decide (V.int x = V.int 9)) (b2 := decide ((0 : Int) < (S.b : Int))) (fun R q => ⟨_, rfl, rfl, _, rfl, q⟩) (fun R q => ⟨_, rfl, z, _, _, _, rfl, rfl, h2.sz, atI_nat (j := 1) rfl, _, _, rfl, rfl, _, rfl, q⟩) (fun hh => ?_) (fun _ => ?_)
    · have hb := and_r hh
      refine nm_draw (i := 1) rfl rfl rfl h2 rfl hb h2.so.l1 rfl fun s2 H3 hs2 e3 h3 => ?_
      refine ⟨_, rfl, _, rfl, nm_draw (i := 2) rfl rfl rfl h3 rfl hcc h3.so.l2 rfl fun s3 H4 hs3 e4 h4 => ⟨by show 4 ≤ sizeLine; decide, fun p hp => ?_⟩⟩
      exact q (.has s1 s2 s3) _ _ ⟨hs1, hs2, hs3⟩ trivial (Nat.zero_le _) (.tup (.of upd_same) (.cons (.str _) (.cons (.str _) (.cons (.str _) (.cons (.str _) .nil))))) ((((e1.trans e2).trans e3).trans e4).trans (SameX.new _ hp)) (h4.new _ hp)
    · refine tnx ?_
      refine ⟨_, rfl, con_draw rfl rfl rfl rfl hk h2 fun c v H3 hc hcd hv e3 h3 => ⟨by show 3 ≤ sizeLine; decide, fun p hp => ?_⟩⟩
      exact q (.is s1 c) _ _ ⟨hs1, hc⟩ trivial hcd (.tup (.of upd_same) (.cons (.str _) (.cons (.str _) (.cons (Dp.same (Same.new _ hp) hv) .nil)))) (((e1.trans e2).trans e3).trans (SameX.new _ hp)) (h3.new _ hp)
  refine tnx ?_
  refine con_draw rfl rfl rfl rfl hk h1 fun c v H3 hc hcd hv e3 h3 => ?_
  refine ⟨_, rfl, con_draw rfl rfl rfl rfl hk h3 fun c' v' H4 hc' hcd' hv' e4 h4 => ⟨by show 3 ≤ sizeLine; decide, fun p2 hp2 => ?_⟩⟩
  exact q (.below c c') _ _ ⟨hc, hc'⟩ trivial (by show max c.dp c'.dp ≤ k; omega) (.tup (.of upd_same) (.cons (.str _) (.cons (Dp.same (Same.new _ hp2) (h3.mv e4 (Con.tn c) hv)) (.cons (Dp.same (Same.new _ hp2) hv') .nil)))) (((e1.trans e3).trans e4).trans (SameX.new _ hp2)) (h4.new _ hp2)
/-! trees with numbers, as data -/
def sD (s : String) : PyData := .str (Str.ofString s)
def anyD : PyData := .tuple [sD "any"]
def notD (c : PyData) : PyData := .tuple [sD "not", c]
def andD (c d : PyData) : PyData := .tuple [sD "and", c, d]
def someD (r c : PyData) : PyData := .tuple [sD "some", r, c]
def nameD (n : Nat) : PyData := .tuple [sD "name", .int (n : Int)]
def rolC (f : List Nat → Nat) (r : Rol) : PyData := .tuple [.int (f r.1 : Int), .bool r.2]
def rolI (f : List Nat → Nat) (r : Rol) : PyData := .tuple [.int (f r.1 : Int), .bool (!r.2)]
def coreD (f g : List Nat → Nat) : Con → PyData
  | .any => anyD
  | .nothing => notD anyD
  | .name s => nameD (f s)
  | .not c => notD (coreD f g c)
  | .both c d => andD (coreD f g c) (coreD f g d)
  | .either c d => notD (andD (notD (coreD f g c)) (notD (coreD f g d)))
  | .some r c => someD (rolC g r) (coreD f g c)
  | .all r c => notD (someD (rolC g r) (notD (coreD f g c)))
def Con.In (A B : List (List Nat)) : Con → Prop
  | .name s => s ∈ A
  | .not c => c.In A B
  | .both c d => c.In A B ∧ d.In A B
  | .either c d => c.In A B ∧ d.In A B
  | .some r c => r.1 ∈ B ∧ c.In A B
  | .all r c => r.1 ∈ B ∧ c.In A B
  | _ => True
/-- the names that are declared, a triple of tuples -/
structure NamT (K : PySem.W.Frag) (H : Hp) (a : Addr) (A B C : List (List Nat)) : Prop where
  ex : ∃ t0 t1 t2, SqT K H a [.ref t0, .ref t1, .ref t2] ∧ (SqT K H t0 (strsV A) ∧ FzT K H t0) ∧ (SqT K H t1 (strsV B) ∧ FzT K H t1) ∧ SqT K H t2 (strsV C) ∧ FzT K H t2
theorem FzT.same {H H' : Hp} {p : Addr} (h : FzT K H p) (e : Same H H') : FzT K H' p := by
  rcases h with ⟨o, u, h1, h2⟩ | h
  · exact .inl ⟨o, u, e _ _ h1, h2⟩
  · exact .inr h
theorem NamT.same {H H' : Hp} {a : Addr} {A B C : List (List Nat)} (h : NamT K H a A B C) (e : Same H H') : NamT K H' a A B C := by
  obtain ⟨t0, t1, t2, h0, ⟨h1, k1⟩, ⟨h2, k2⟩, h3, k3⟩ := h.ex
  exact ⟨t0, t1, t2, Same.seqT e h0, ⟨Same.seqT e h1, k1.same e⟩, ⟨Same.seqT e h2, k2.same e⟩, Same.seqT e h3, k3.same e⟩
/-- the law's: a list of lists -/
structure NamL (K : PySem.W.Frag) (H : Hp) (a : Addr) (A B C : List (List Nat)) : Prop where
  ex : ∃ t0 t1 t2 t3, SqL K H a [.ref t0, .ref t1, .ref t2, .ref t3] ∧ SqL K H t0 (strsV A) ∧ SqL K H t1 (strsV B) ∧ SqL K H t2 (strsV C)
theorem NamL.same {H H' : Hp} {a : Addr} {A B C : List (List Nat)} (h : NamL K H a A B C) (e : Same H H') : NamL K H' a A B C := by
  obtain ⟨t0, t1, t2, t3, h0, h1, h2, h3⟩ := h.ex
  exact ⟨t0, t1, t2, t3, e.seq h0, e.seq h1, e.seq h2, e.seq h3⟩
abbrev ixOf (A : List (List Nat)) : List Nat → Nat := fun s => A.idxOf s
def spRoleT (K : PySem.W.Frag) : Sp := fun vs H Q _ => ∃ (a : Addr) (A B C : List (List Nat)) (v : V) (r : Rol), vs = [.ref a, v] ∧ NamT K H a A B C ∧ Dp K H v (rolD r) ∧ r.1 ∈ B ∧ ∀ v' H', Same H H' → Dp K H' v' (rolC (ixOf B) r) → Q v' H'
theorem c_roleT {f : Addr} {fd : FuncData} (D : Df K mg "_role" s_role f fd ["names", "role"]) : Cl P w K mg base 1 "_role" (spRoleT K) := by
  refine D.cl sc_role (fun vs H Q E h => ?_) (fun cdv A outer s H vs Q E hr h => ?_)
  · obtain ⟨a, A, B, C, v, r, rfl, _⟩ := h
    rfl
  obtain ⟨a, A, B, C, v, r, rfl, hn, hd, hm, q⟩ := h
  obtain ⟨b, rfl, hs⟩ := dpRol hd
  obtain ⟨t0, t1, t2, h0, _, ⟨h1, k1⟩, _⟩ := hn.ex
  refine ⟨_, (pss_cons (ps_asg (pv 1) (pg_tup (by rfl) (pgs_cons (pg_name (i := 2) sc_role.nd rfl (.inl rfl)) (pgs_cons (pg_name (i := 3) sc_role.nd rfl (.inl rfl)) pgs_nil))))
      (pss_one (ps_ret (pe_tup (pa_cons (pe_bmT PySem.F.slot_tuple_index PySem.F.type_tuple_index mt_tup_index (pe_ix ix_tup (pv 0) pe_int (fun _ _ => rfl)) (pa_cons (pv 2) pa_nil)) (pa_cons (pv 3) pa_nil)))))), ?_⟩
  refine ⟨_, rfl, b, _, rfl, hs, rfl, _, _, rfl, _, _, rfl, rfl, ?_⟩
  exact gd_ret (gd_t2 (gd_int (gv_idxT (gv_ixT (j := 1) (gv_var rfl) h0 (atI_nat (j := 1) rfl)) h1 k1 (gv_var rfl) hm)) (gd_bl (gv_var rfl))) q
theorem gd_roleT {σ : L2.St} {H : Hp} {ta tb : TE} {a : Addr} {A B C : List (List Nat)} {r : Rol} (ha : GV ta σ H (.ref a)) (hn : NamT K H a A B C) (hb : GD K tb σ H (rolD r)) (hm : r.1 ∈ B) : GD K (tCall (spRoleT K) [] E0 (tCons ta (tCons tb tNil))) σ H (rolC (ixOf B) r) := fun H1 e R q =>
  ha H1 e _ fun H2 e2 => hb H2 (e.trans e2) _ fun v H3 e3 hv => ⟨a, A, B, C, v, r, rfl, hn.same ((e.trans e2).trans e3), hv, hm, fun v' H' e' h' => q v' H' ((e2.trans e3).trans e') h'⟩
def spCore (K : PySem.W.Frag) (n : Nat) : Sp := fun vs H Q _ => ∃ (a : Addr) (A B C : List (List Nat)) (v : V) (c : Con), vs = [.ref a, v] ∧ NamT K H a A B C ∧ Dp K H v c.D ∧ c.dp < n ∧ c.In A B ∧ ∀ v' H', Same H H' → Dp K H' v' (coreD (ixOf A) (ixOf B) c) → Q v' H'
theorem gd_core {n : Nat} {σ : L2.St} {H : Hp} {ta tb : TE} {a : Addr} {A B C : List (List Nat)} {c : Con} (ha : GV ta σ H (.ref a)) (hn : NamT K H a A B C) (hb : GD K tb σ H c.D) (hd : c.dp < n) (hm : c.In A B) : GD K (tCall (spCore K n) [] E0 (tCons ta (tCons tb tNil))) σ H (coreD (ixOf A) (ixOf B) c) := fun H1 e R q =>
  ha H1 e _ fun H2 e2 => hb H2 (e.trans e2) _ fun v H3 e3 hv => ⟨a, A, B, C, v, c, rfl, hn.same ((e.trans e2).trans e3), hv, hd, hm, fun v' H' e' h' => q v' H' ((e2.trans e3).trans e') h'⟩
theorem tup_dp {H : Hp} {a : Addr} {s : String} (h : SqT K H a [.str (Str.ofString s)]) : Dp K H (.ref a) (.tuple [sD s]) := .tup h (.cons (.str _) .nil)
theorem gd_glob {σ : L2.St} {H : Hp} {a : Addr} {d : PyData} (h : ∀ H, Dp K H (.ref a) d) : GD K (tC (.ref a)) σ H d := gd_of gv_c (h H)
theorem c_core {f : Addr} {fd : FuncData} {rA rN : Addr} (D : Df K mg "core_concept" s_core_concept f fd ["names", "concept"]) (m_ANYTHING : mg "ANYTHING" = some (.ref rA)) (m_NOTHING : mg "NOTHING" = some (.ref rN)) (TA : ∀ H, SqT K H rA (K_ANYTHING.map V.str)) (TN : ∀ H, Dp K H (.ref rN) K_NOTHING)
    (c_role : Cl P w K mg base 1 "_role" (spRoleT K)) : ∀ n : Nat, Cl P w K mg base (n + 2) "core_concept" (spCore K n)
  | 0 => by
    refine D.cl sc_core_concept (fun vs H Q E h => ?_) (fun cdv A outer s H vs Q E hr h => ?_)
    · obtain ⟨a, A, B, C, v, c, rfl, _⟩ := h
      rfl
    · obtain ⟨a, A, B, C, v, c, _, _, _, hk, _⟩ := h
      exact absurd hk (Nat.not_lt_zero _)
  | n + 1 => by
    have c_core_concept := c_core D m_ANYTHING m_NOTHING TA TN c_role n
    refine D.cl sc_core_concept (fun vs H Q E h => ?_) (fun cdv A outer s H vs Q E hr h => ?_)
    · obtain ⟨a, A, B, C, v, c, rfl, _⟩ := h
      rfl
    obtain ⟨a, A, B, C, v, c, rfl, hn, hd, hk, hm, q⟩ := h
    have GA : ∀ (σ : L2.St) (H : Hp), GD K (tC (.ref rA)) σ H anyD := fun σ H => gd_glob fun H => tup_dp (TA H)
    obtain ⟨t0, t1, t2, h0, ⟨h1, k1⟩, _⟩ := hn.ex
    have i0 : GV (tOp (rIxT K) (tVar 0) (tC (.int 0))) [some (.ref a), some v, none, none, none] H (.ref t0) := gv_ixT (j := 0) (gv_var rfl) h0 (atI_nat (j := 0) rfl)
    refine ⟨_, (pss_cons (ps_set (i := 2) sc_core_concept.nd rfl (.inl rfl) (pe_ix ix_tup (pv 1) pe_int (fun _ _ => rfl)))
      (pss_cons (ps_if (pt_cmpR op_eq (pv 2) pe_str (nomark _)) (pss_one (ps_ret (pe_glob (v := .ref _) (by rfl) m_ANYTHING rfl))) pss_nil)
      (pss_cons (ps_if (pt_cmpR op_eq (pv 2) pe_str (nomark _)) (pss_one (ps_ret (pe_glob (v := .ref _) (by rfl) m_NOTHING rfl))) pss_nil)
      (pss_cons (ps_if (pt_cmpR op_eq (pv 2) pe_str (nomark _)) (pss_one (ps_ret (pe_tup (pa_cons pe_str (pa_cons (pe_bmT PySem.F.slot_tuple_index PySem.F.type_tuple_index mt_tup_index (pe_ix ix_tup (pv 0) pe_int (fun _ _ => rfl)) (pa_cons (pe_ix ix_tup (pv 1) pe_int (fun _ _ => rfl)) pa_nil)) pa_nil))))) pss_nil)
      (pss_cons (ps_if (pt_cmpR op_eq (pv 2) pe_str (nomark _)) (pss_one (ps_ret (pe_tup (pa_cons pe_str (pa_cons (pc c_core_concept hr (by first | decide | omega) (by rfl) (pa_cons (pv 0) (pa_cons (pe_ix ix_tup (pv 1) pe_int (fun _ _ => rfl)) pa_nil))) pa_nil))))) pss_nil)
      (pss_cons (ps_if (pt_cmpR op_eq (pv 2) pe_str (nomark _)) (pss_one (ps_ret (pe_tup (pa_cons pe_str (pa_cons (pc c_role hr (by first | decide | omega) (by rfl) (pa_cons (pv 0) (pa_cons (pe_ix ix_tup (pv 1) pe_int (fun _ _ => rfl)) pa_nil))) (pa_cons (pc c_core_concept hr (by first | decide | omega) (by rfl) (pa_cons (pv 0) (pa_cons (pe_ix ix_tup (pv 1) pe_int (fun _ _ => rfl)) pa_nil))) pa_nil)))))) pss_nil)
      (pss_cons (ps_if (pt_cmpR op_eq (pv 2) pe_str (nomark _)) (pss_one (ps_ret (pe_tup (pa_cons pe_str (pa_cons (pe_tup (pa_cons pe_str (pa_cons (pc c_role hr (by first | decide | omega) (by rfl) (pa_cons (pv 0) (pa_cons (pe_ix ix_tup (pv 1) pe_int (fun _ _ => rfl)) pa_nil))) (pa_cons (pe_tup (pa_cons pe_str (pa_cons (pc c_core_concept hr (by first | decide | omega) (by rfl) (pa_cons (pv 0) (pa_cons (pe_ix ix_tup (pv 1) pe_int (fun _ _ => rfl)) pa_nil))) pa_nil))) pa_nil)))) pa_nil))))) pss_nil)
      (pss_cons (ps_set (i := 3) sc_core_concept.nd rfl (.inl rfl) (pc c_core_concept hr (by first | decide | omega) (by rfl) (pa_cons (pv 0) (pa_cons (pe_ix ix_tup (pv 1) pe_int (fun _ _ => rfl)) pa_nil))))
      (pss_cons (ps_set (i := 4) sc_core_concept.nd rfl (.inl rfl) (pc c_core_concept hr (by first | decide | omega) (by rfl) (pa_cons (pv 0) (pa_cons (pe_ix ix_tup (pv 1) pe_int (fun _ _ => rfl)) pa_nil))))
      (pss_cons (ps_if (pt_cmpR op_eq (pv 2) pe_str (nomark _)) (pss_one (ps_ret (pe_tup (pa_cons pe_str (pa_cons (pv 3) (pa_cons (pv 4) pa_nil)))))) pss_nil)
      (pss_one (ps_ret (pe_tup (pa_cons pe_str (pa_cons (pe_tup (pa_cons pe_str (pa_cons (pe_tup (pa_cons pe_str (pa_cons (pv 3) pa_nil))) (pa_cons (pe_tup (pa_cons pe_str (pa_cons (pv 4) pa_nil))) pa_nil)))) pa_nil))))))))))))))), ?_⟩
    cases c with
    | any =>
      obtain ⟨b, rfl, hs⟩ := dp1 hd
      refine gv_set (gv_ixT (j := 0) (gv_var rfl) hs (atI_nat (j := 0) rfl)) fun H1 e1 => ?_
      refine if_eqT rfl (by decide +kernel) ?_
      exact gd_ret (GA _ _) fun v' H' e' h' => q v' H' (e1.trans e') h'
    | nothing =>
      obtain ⟨b, rfl, hs⟩ := dp1 hd
      refine gv_set (gv_ixT (j := 0) (gv_var rfl) hs (atI_nat (j := 0) rfl)) fun H1 e1 => ?_
      refine if_eqF rfl (by decide +kernel) (if_eqT rfl (by decide +kernel) ?_)
      exact gd_ret (gd_glob TN) fun v' H' e' h' => q v' H' (e1.trans e') h'
    | name s =>
      obtain ⟨b, y, rfl, hs, hy⟩ := dp2 hd
      cases dp_str hy
      refine gv_set (gv_ixT (j := 0) (gv_var rfl) hs (atI_nat (j := 0) rfl)) fun H1 e1 => ?_
      refine if_eqF rfl (by decide +kernel) (if_eqF rfl (by decide +kernel) (if_eqT rfl (by decide +kernel) ?_))
      exact gd_ret (gd_t2 gd_str (gd_int (gv_idxT (gv_ixT (j := 0) (gv_var rfl) (Same.seqT e1 h0) (atI_nat (j := 0) rfl)) (Same.seqT e1 h1) (k1.same e1) (gv_ixT (j := 1) (gv_var rfl) (Same.seqT e1 hs) (atI_nat (j := 1) rfl)) hm))) fun v' H' e' h' => q v' H' (e1.trans e') h'
    | not c =>
      obtain ⟨b, y, rfl, hs, hy⟩ := dp2 hd
      refine gv_set (gv_ixT (j := 0) (gv_var rfl) hs (atI_nat (j := 0) rfl)) fun H1 e1 => ?_
      refine if_eqF rfl (by decide +kernel) (if_eqF rfl (by decide +kernel) (if_eqF rfl (by decide +kernel) (if_eqT rfl (by decide +kernel) ?_)))
      exact gd_ret (gd_t2 gd_str (gd_core (gv_var rfl) (hn.same e1) (gd_of (gv_ixT (j := 1) (gv_var rfl) (Same.seqT e1 hs) (atI_nat (j := 1) rfl)) (Dp.same e1 hy)) (Nat.lt_of_succ_lt_succ hk) hm)) fun v' H' e' h' => q v' H' (e1.trans e') h'
    | some r c =>
      obtain ⟨b, y, z, rfl, hs, hy, hz⟩ := dp3 hd
      refine gv_set (gv_ixT (j := 0) (gv_var rfl) hs (atI_nat (j := 0) rfl)) fun H1 e1 => ?_
      refine if_eqF rfl (by decide +kernel) (if_eqF rfl (by decide +kernel) (if_eqF rfl (by decide +kernel) (if_eqF rfl (by decide +kernel) (if_eqT rfl (by decide +kernel) ?_))))
      exact gd_ret (gd_t3 gd_str (gd_roleT (gv_var rfl) (hn.same e1) (gd_of (gv_ixT (j := 1) (gv_var rfl) (Same.seqT e1 hs) (atI_nat (j := 1) rfl)) (Dp.same e1 hy)) hm.1)
        (gd_core (gv_var rfl) (hn.same e1) (gd_of (gv_ixT (j := 2) (gv_var rfl) (Same.seqT e1 hs) (atI_nat (j := 2) rfl)) (Dp.same e1 hz)) (Nat.lt_of_succ_lt_succ hk) hm.2)) fun v' H' e' h' => q v' H' (e1.trans e') h'
    | all r c =>
      obtain ⟨b, y, z, rfl, hs, hy, hz⟩ := dp3 hd
      refine gv_set (gv_ixT (j := 0) (gv_var rfl) hs (atI_nat (j := 0) rfl)) fun H1 e1 => ?_
      refine if_eqF rfl (by decide +kernel) (if_eqF rfl (by decide +kernel) (if_eqF rfl (by decide +kernel) (if_eqF rfl (by decide +kernel) (if_eqF rfl (by decide +kernel) (if_eqT rfl (by decide +kernel) ?_)))))
      exact gd_ret (gd_t2 gd_str (gd_t3 gd_str (gd_roleT (gv_var rfl) (hn.same e1) (gd_of (gv_ixT (j := 1) (gv_var rfl) (Same.seqT e1 hs) (atI_nat (j := 1) rfl)) (Dp.same e1 hy)) hm.1)
        (gd_t2 gd_str (gd_core (gv_var rfl) (hn.same e1) (gd_of (gv_ixT (j := 2) (gv_var rfl) (Same.seqT e1 hs) (atI_nat (j := 2) rfl)) (Dp.same e1 hz)) (Nat.lt_of_succ_lt_succ hk) hm.2)))) fun v' H' e' h' => q v' H' (e1.trans e') h'
    | both c d =>
      obtain ⟨b, y, z, rfl, hs, hy, hz⟩ := dp3 hd
      have kc : c.dp < n := by have : max c.dp d.dp + 1 < n + 1 := hk; omega
      have kd : d.dp < n := by have : max c.dp d.dp + 1 < n + 1 := hk; omega
      refine gv_set (gv_ixT (j := 0) (gv_var rfl) hs (atI_nat (j := 0) rfl)) fun H1 e1 => ?_
      refine if_eqF rfl (by decide +kernel) (if_eqF rfl (by decide +kernel) (if_eqF rfl (by decide +kernel) (if_eqF rfl (by decide +kernel) (if_eqF rfl (by decide +kernel) (if_eqF rfl (by decide +kernel) ?_)))))
      refine gd_set (gd_core (gv_var rfl) (hn.same e1) (gd_of (gv_ixT (j := 1) (gv_var rfl) (Same.seqT e1 hs) (atI_nat (j := 1) rfl)) (Dp.same e1 hy)) kc hm.1) fun v1 H2 e2 d1 => ?_
      have e12 := e1.trans e2
      refine gd_set (gd_core (gv_var rfl) (hn.same e12) (gd_of (gv_ixT (j := 2) (gv_var rfl) (Same.seqT e12 hs) (atI_nat (j := 2) rfl)) (Dp.same e12 hz)) kd hm.2) fun v2 H3 e3 d2 => ?_
      refine if_eqT rfl (by decide +kernel) ?_
      exact gd_ret (gd_t3 gd_str (gd_var rfl (Dp.same e3 d1)) (gd_var rfl d2)) fun v' H' e' h' => q v' H' ((e12.trans e3).trans e') h'
    | either c d =>
      obtain ⟨b, y, z, rfl, hs, hy, hz⟩ := dp3 hd
      have kc : c.dp < n := by have : max c.dp d.dp + 1 < n + 1 := hk; omega
      have kd : d.dp < n := by have : max c.dp d.dp + 1 < n + 1 := hk; omega
      refine gv_set (gv_ixT (j := 0) (gv_var rfl) hs (atI_nat (j := 0) rfl)) fun H1 e1 => ?_
      refine if_eqF rfl (by decide +kernel) (if_eqF rfl (by decide +kernel) (if_eqF rfl (by decide +kernel) (if_eqF rfl (by decide +kernel) (if_eqF rfl (by decide +kernel) (if_eqF rfl (by decide +kernel) ?_)))))
      refine gd_set (gd_core (gv_var rfl) (hn.same e1) (gd_of (gv_ixT (j := 1) (gv_var rfl) (Same.seqT e1 hs) (atI_nat (j := 1) rfl)) (Dp.same e1 hy)) kc hm.1) fun v1 H2 e2 d1 => ?_
      have e12 := e1.trans e2
      refine gd_set (gd_core (gv_var rfl) (hn.same e12) (gd_of (gv_ixT (j := 2) (gv_var rfl) (Same.seqT e12 hs) (atI_nat (j := 2) rfl)) (Dp.same e12 hz)) kd hm.2) fun v2 H3 e3 d2 => ?_
      refine if_eqF rfl (by decide +kernel) ?_
      exact gd_ret (gd_t2 gd_str (gd_t3 gd_str (gd_t2 gd_str (gd_var rfl (Dp.same e3 d1))) (gd_t2 gd_str (gd_var rfl d2)))) fun v' H' e' h' => q v' H' ((e12.trans e3).trans e') h'
def belowD (c d : PyData) : PyData := .tuple [sD "below", c, d]
def underD (r s : PyData) : PyData := .tuple [sD "under", r, s]
def rolF (n : Nat) (b : Bool) : PyData := .tuple [.int (n : Int), .bool b]
def questD (f g h : List Nat → Nat) : Stm → PyData
  | .below c d => belowD (coreD f g c) (coreD f g d)
  | .is a c => .tuple [sD "is", .int (h a : Int), coreD f g c]
  | .has a b c => .tuple [sD "has", .int (h a : Int), .int (g b : Int), .int (h c : Int)]
  | _ => .tuple [sD "never"]
def partsD (f g h : List Nat → Nat) : Stm → PyData
  | .equals c d => .tuple [belowD (coreD f g c) (coreD f g d), belowD (coreD f g d) (coreD f g c)]
  | .apart c d => .tuple [belowD (andD (coreD f g c) (coreD f g d)) (notD anyD)]
  | .domain r c => .tuple [belowD (someD (rolC g r) anyD) (coreD f g c)]
  | .range r c => .tuple [belowD (someD (rolI g r) anyD) (coreD f g c)]
  | .under r s => .tuple [underD (rolC g r) (rolC g s)]
  | .inverse a b => .tuple [underD (rolF (g a) false) (rolF (g b) true), underD (rolF (g b) true) (rolF (g a) false)]
  | s => .tuple [questD f g h s]
def Stm.In (A B C : List (List Nat)) : Stm → Prop
  | .below c d | .equals c d | .apart c d => c.In A B ∧ d.In A B
  | .domain r c | .range r c => r.1 ∈ B ∧ c.In A B
  | .under r s => r.1 ∈ B ∧ s.1 ∈ B
  | .inverse a b => a ∈ B ∧ b ∈ B
  | .is a c => a ∈ C ∧ c.In A B
  | .has a b c => a ∈ C ∧ b ∈ B ∧ c ∈ C
  | .never => True
def spInv (K : PySem.W.Frag) : Sp := fun vs H Q _ => ∃ (v : V) (n : Nat) (b : Bool), vs = [v] ∧ Dp K H v (rolF n b) ∧ ∀ v' H', Same H H' → Dp K H' v' (rolF n (!b)) → Q v' H'
theorem c_inverse {f : Addr} {fd : FuncData} (D : Df K mg "inverse" s_inverse f fd ["role"]) : Cl P w K mg base 1 "inverse" (spInv K) := by
  refine D.cl sc_inverse (fun vs H Q E h => ?_) (fun cdv A outer s H vs Q E hr h => ?_)
  · obtain ⟨v, n, b, rfl, _⟩ := h
    rfl
  obtain ⟨v, n, b, rfl, hd, q⟩ := h
  obtain ⟨p, xs, rfl, hs, hx⟩ := dp_tup hd
  obtain ⟨y, r, rfl, h1, hx⟩ := da_cons hx
  obtain ⟨z, r, rfl, h2, hx⟩ := da_cons hx
  cases da_nil hx
  cases dp_int h1
  cases dp_bool h2
  refine ⟨_, (pss_cons (ps_asg (pv 0) (pg_tup (by rfl) (pgs_cons (pg_name (i := 1) sc_inverse.nd rfl (.inl rfl)) (pgs_cons (pg_name (i := 2) sc_inverse.nd rfl (.inl rfl)) pgs_nil))))
      (pss_one (ps_ret (pe_tup (pa_cons (pv 1) (pa_cons (pe_not (pv 2)) pa_nil)))))), ?_⟩
  refine ⟨_, rfl, p, _, rfl, hs, rfl, _, _, rfl, _, _, rfl, rfl, ?_⟩
  exact gd_ret (gd_t2 (gd_int (gv_var rfl)) (gd_bl (gv_not (gv_var rfl)))) q
theorem gd_inv {σ : L2.St} {H : Hp} {ta : TE} {n : Nat} {b : Bool} (ha : GD K ta σ H (rolF n b)) : GD K (tCall (spInv K) [] E0 (tCons ta tNil)) σ H (rolF n (!b)) := fun H1 e R q =>
  ha H1 e _ fun v H2 e2 hv => ⟨v, n, b, rfl, hv, fun v' H' e' h' => q v' H' (e2.trans e') h'⟩
def spQst (K : PySem.W.Frag) (n : Nat) : Sp := fun vs H Q _ => ∃ (a : Addr) (A B C : List (List Nat)) (v : V) (s : Stm), vs = [.ref a, v] ∧ NamT K H a A B C ∧ Dp K H v s.D ∧ s.dp < n ∧ s.In A B C ∧ QK s ∧ ∀ v' H', Same H H' → Dp K H' v' (questD (ixOf A) (ixOf B) (ixOf C) s) → Q v' H'
theorem gd_qst {n : Nat} {σ : L2.St} {H : Hp} {ta tb : TE} {a : Addr} {A B C : List (List Nat)} {s : Stm} (ha : GV ta σ H (.ref a)) (hn : NamT K H a A B C) (hb : GD K tb σ H s.D) (hd : s.dp < n) (hm : s.In A B C) (hk : QK s) : GD K (tCall (spQst K n) [] E0 (tCons ta (tCons tb tNil))) σ H (questD (ixOf A) (ixOf B) (ixOf C) s) := fun H1 e R q =>
  ha H1 e _ fun H2 e2 => hb H2 (e.trans e2) _ fun v H3 e3 hv => ⟨a, A, B, C, v, s, rfl, hn.same ((e.trans e2).trans e3), hv, hd, hm, hk, fun v' H' e' h' => q v' H' ((e2.trans e3).trans e') h'⟩
theorem c_quest {n m : Nat} (hm0 : 1 ≤ m) {f : Addr} {fd : FuncData} (D : Df K mg "core_question" s_core_question f fd ["names", "question"]) (c_core_concept : Cl P w K mg base m "core_concept" (spCore K n)) : Cl P w K mg base (m + 1) "core_question" (spQst K n) := by
  refine D.cl sc_core_question (fun vs H Q E h => ?_) (fun cdv A outer s H vs Q E hr h => ?_)
  · obtain ⟨a, A, B, C, v, s, rfl, _⟩ := h
    rfl
  obtain ⟨a, A, B, C, v, s, rfl, hn, hd, hk, hm, hq, q⟩ := h
  obtain ⟨t0, t1, t2, h0, ⟨h1, k1⟩, ⟨h2, k2⟩, h3, k3⟩ := hn.ex
  refine ⟨_, (pss_cons (ps_set (i := 2) sc_core_question.nd rfl (.inl rfl) (pe_ix ix_tup (pv 1) pe_int (fun _ _ => rfl)))
      (pss_cons (ps_if (pt_cmpR op_eq (pv 2) pe_str (nomark _)) (pss_one (ps_ret (pe_tup (pa_cons pe_str (pa_cons (pc c_core_concept hr (by first | decide | omega) (by rfl) (pa_cons (pv 0) (pa_cons (pe_ix ix_tup (pv 1) pe_int (fun _ _ => rfl)) pa_nil))) (pa_cons (pc c_core_concept hr (by first | decide | omega) (by rfl) (pa_cons (pv 0) (pa_cons (pe_ix ix_tup (pv 1) pe_int (fun _ _ => rfl)) pa_nil))) pa_nil)))))) pss_nil)
      (pss_cons (ps_set (i := 3) sc_core_question.nd rfl (.inl rfl) (pe_ix ix_tup (pv 0) pe_int (fun _ _ => rfl)))
      (pss_cons (ps_if (pt_cmpR op_eq (pv 2) pe_str (nomark _)) (pss_one (ps_ret (pe_tup (pa_cons pe_str (pa_cons (pe_bmT PySem.F.slot_tuple_index PySem.F.type_tuple_index mt_tup_index (pv 3) (pa_cons (pe_ix ix_tup (pv 1) pe_int (fun _ _ => rfl)) pa_nil)) (pa_cons (pc c_core_concept hr (by first | decide | omega) (by rfl) (pa_cons (pv 0) (pa_cons (pe_ix ix_tup (pv 1) pe_int (fun _ _ => rfl)) pa_nil))) pa_nil)))))) pss_nil)
      (pss_cons (ps_if (pt_cmpR op_eq (pv 2) pe_str (nomark _)) (pss_cons (ps_asg (pv 1) (pg_tup (by rfl) (pgs_cons (pg_name (i := 4) sc_core_question.nd rfl (.inl rfl)) (pgs_cons (pg_name (i := 5) sc_core_question.nd rfl (.inl rfl)) (pgs_cons (pg_name (i := 6) sc_core_question.nd rfl (.inl rfl)) (pgs_cons (pg_name (i := 7) sc_core_question.nd rfl (.inl rfl)) pgs_nil))))))
      (pss_one (ps_ret (pe_tup (pa_cons pe_str (pa_cons (pe_bmT PySem.F.slot_tuple_index PySem.F.type_tuple_index mt_tup_index (pv 3) (pa_cons (pv 5) pa_nil)) (pa_cons (pe_bmT PySem.F.slot_tuple_index PySem.F.type_tuple_index mt_tup_index (pe_ix ix_tup (pv 0) pe_int (fun _ _ => rfl)) (pa_cons (pv 6) pa_nil)) (pa_cons (pe_bmT PySem.F.slot_tuple_index PySem.F.type_tuple_index mt_tup_index (pv 3) (pa_cons (pv 7) pa_nil)) pa_nil)))))))) pss_nil)
      (pss_one (ps_ret (pv 1)))))))), ?_⟩
  cases s with
  | below c d =>
    obtain ⟨b, y, z, rfl, hs, hy, hz⟩ := dp3 hd
    have kc : c.dp < n := by have : max c.dp d.dp < n := hk; omega
    have kd : d.dp < n := by have : max c.dp d.dp < n := hk; omega
    refine gv_set (gv_ixT (j := 0) (gv_var rfl) hs (atI_nat (j := 0) rfl)) fun H1 e1 => ?_
    refine if_eqT rfl (by decide +kernel) ?_
    exact gd_ret (gd_t3 gd_str (gd_core (gv_var rfl) (hn.same e1) (gd_of (gv_ixT (j := 1) (gv_var rfl) (Same.seqT e1 hs) (atI_nat (j := 1) rfl)) (Dp.same e1 hy)) kc hm.1) (gd_core (gv_var rfl) (hn.same e1) (gd_of (gv_ixT (j := 2) (gv_var rfl) (Same.seqT e1 hs) (atI_nat (j := 2) rfl)) (Dp.same e1 hz)) kd hm.2)) fun v' H' e' h' => q v' H' (e1.trans e') h'
  | is x c =>
    obtain ⟨b, y, z, rfl, hs, hy, hz⟩ := dp3 hd
    cases dp_str hy
    refine gv_set (gv_ixT (j := 0) (gv_var rfl) hs (atI_nat (j := 0) rfl)) fun H1 e1 => ?_
    refine if_eqF rfl (by decide +kernel) ?_
    refine gv_set (gv_ixT (j := 2) (gv_var rfl) (Same.seqT e1 h0) (atI_nat (j := 2) rfl)) fun H2 e2 => ?_
    have e12 := e1.trans e2
    refine if_eqT rfl (by decide +kernel) ?_
    exact gd_ret (gd_t3 gd_str (gd_int (gv_idxT (gv_var rfl) (Same.seqT e12 h3) (k3.same e12) (gv_ixT (j := 1) (gv_var rfl) (Same.seqT e12 hs) (atI_nat (j := 1) rfl)) hm.1)) (gd_core (gv_var rfl) (hn.same e12) (gd_of (gv_ixT (j := 2) (gv_var rfl) (Same.seqT e12 hs) (atI_nat (j := 2) rfl)) (Dp.same e12 hz)) hk hm.2)) fun v' H' e' h' => q v' H' (e12.trans e') h'
  | has x y z =>
    obtain ⟨b, y1, y2, y3, rfl, hs, d1, d2, d3⟩ := dp4 hd
    cases dp_str d1
    cases dp_str d2
    cases dp_str d3
    refine gv_set (gv_ixT (j := 0) (gv_var rfl) hs (atI_nat (j := 0) rfl)) fun H1 e1 => ?_
    refine if_eqF rfl (by decide +kernel) ?_
    refine gv_set (gv_ixT (j := 2) (gv_var rfl) (Same.seqT e1 h0) (atI_nat (j := 2) rfl)) fun H2 e2 => ?_
    have e12 := e1.trans e2
    refine if_eqF rfl (by decide +kernel) ?_
    refine if_eqT rfl (by decide +kernel) ?_
    refine ⟨_, rfl, b, _, rfl, Same.seqT e12 hs, rfl, _, _, rfl, _, _, rfl, _, _, rfl, _, _, rfl, rfl, ?_⟩
    exact gd_ret (gd_t4 gd_str (gd_int (gv_idxT (gv_var rfl) (Same.seqT e12 h3) (k3.same e12) (gv_var rfl) hm.1)) (gd_int (gv_idxT (gv_ixT (j := 1) (gv_var rfl) (Same.seqT e12 h0) (atI_nat (j := 1) rfl)) (Same.seqT e12 h2) (k2.same e12) (gv_var rfl) hm.2.1)) (gd_int (gv_idxT (gv_var rfl) (Same.seqT e12 h3) (k3.same e12) (gv_var rfl) hm.2.2))) fun v' H' e' h' => q v' H' (e12.trans e') h'
  | never =>
    obtain ⟨b, rfl, hs⟩ := dp1 hd
    refine gv_set (gv_ixT (j := 0) (gv_var rfl) hs (atI_nat (j := 0) rfl)) fun H1 e1 => ?_
    refine if_eqF rfl (by decide +kernel) ?_
    refine gv_set (gv_ixT (j := 2) (gv_var rfl) (Same.seqT e1 h0) (atI_nat (j := 2) rfl)) fun H2 e2 => ?_
    have e12 := e1.trans e2
    refine if_eqF rfl (by decide +kernel) (if_eqF rfl (by decide +kernel) ?_)
    exact gd_ret (gd_var rfl (tup_dp (Same.seqT e12 hs))) fun v' H' e' h' => q v' H' (e12.trans e') h'
  | _ => exact hq.elim
def spTwo (K : PySem.W.Frag) (n : Nat) : Sp := fun vs H Q _ => ∃ (a : Addr) (A B C : List (List Nat)) (v : V) (c d : Con) (b : Bool), vs = [.ref a, v] ∧ NamT K H a A B C ∧ Dp K H v (if b then (Stm.equals c d).D else (Stm.apart c d).D) ∧ c.dp < n ∧ d.dp < n ∧ c.In A B ∧ d.In A B ∧ ∀ v' H', Same H H' → Dp K H' v' (partsD (ixOf A) (ixOf B) (ixOf C) (if b then .equals c d else .apart c d)) → Q v' H'
theorem c_two {n m : Nat} (hm0 : 1 ≤ m) {f : Addr} {fd : FuncData} {rN : Addr} (D : Df K mg "_parts_of_two_concepts" s_parts_of_two_concepts f fd ["names", "statement"]) (c_core_concept : Cl P w K mg base m "core_concept" (spCore K n)) (m_NOTHING : mg "NOTHING" = some (.ref rN)) (TN : ∀ H, Dp K H (.ref rN) K_NOTHING) : Cl P w K mg base (m + 1) "_parts_of_two_concepts" (spTwo K n) := by
  refine D.cl sc_parts_of_two_concepts (fun vs H Q E h => ?_) (fun cdv A outer s H vs Q E hr h => ?_)
  · obtain ⟨a, A, B, C, v, c, d, b, rfl, _⟩ := h
    rfl
  obtain ⟨a, A, B, C, v, c, d, b, rfl, hn, hd, kc, kd, hc, hdd, q⟩ := h
  refine ⟨_, (pss_cons (ps_asg (pv 1) (pg_tup (by rfl) (pgs_cons (pg_name (i := 2) sc_parts_of_two_concepts.nd rfl (.inl rfl)) (pgs_cons (pg_name (i := 3) sc_parts_of_two_concepts.nd rfl (.inl rfl)) (pgs_cons (pg_name (i := 4) sc_parts_of_two_concepts.nd rfl (.inl rfl)) pgs_nil)))))
      (pss_cons (ps_set (i := 3) sc_parts_of_two_concepts.nd rfl (.inl rfl) (pc c_core_concept hr (by first | decide | omega) (by rfl) (pa_cons (pv 0) (pa_cons (pv 3) pa_nil))))
      (pss_cons (ps_set (i := 4) sc_parts_of_two_concepts.nd rfl (.inl rfl) (pc c_core_concept hr (by first | decide | omega) (by rfl) (pa_cons (pv 0) (pa_cons (pv 4) pa_nil))))
      (pss_cons (ps_if (pt_cmpR op_eq (pv 2) pe_str (nomark _)) (pss_one (ps_ret (pe_tup (pa_cons (pe_tup (pa_cons pe_str (pa_cons (pv 3) (pa_cons (pv 4) pa_nil)))) (pa_cons (pe_tup (pa_cons pe_str (pa_cons (pv 4) (pa_cons (pv 3) pa_nil)))) pa_nil))))) pss_nil)
      (pss_one (ps_ret (pe_tup (pa_cons (pe_tup (pa_cons pe_str (pa_cons (pe_tup (pa_cons pe_str (pa_cons (pv 3) (pa_cons (pv 4) pa_nil)))) (pa_cons (pe_glob (v := .ref _) (by rfl) m_NOTHING rfl) pa_nil)))) pa_nil)))))))), ?_⟩
  cases b with
  | true =>
    obtain ⟨p, y, z, rfl, hs, hy, hz⟩ := dp3 hd
    refine ⟨_, rfl, p, _, rfl, hs, rfl, _, _, rfl, _, _, rfl, _, _, rfl, rfl, ?_⟩
    refine gd_set (gd_core (gv_var rfl) hn (gd_var rfl hy) kc hc) fun v1 H1 e1 d1 => ?_
    refine gd_set (gd_core (gv_var rfl) (hn.same e1) (gd_var rfl (Dp.same e1 hz)) kd hdd) fun v2 H2 e2 d2 => ?_
    refine if_eqT rfl (by decide +kernel) ?_
    exact gd_ret (gd_t2 (gd_t3 gd_str (gd_var rfl (Dp.same e2 d1)) (gd_var rfl d2)) (gd_t3 gd_str (gd_var rfl d2) (gd_var rfl (Dp.same e2 d1)))) fun v' H' e' h' => q v' H' ((e1.trans e2).trans e') h'
  | false =>
    obtain ⟨p, y, z, rfl, hs, hy, hz⟩ := dp3 hd
    refine ⟨_, rfl, p, _, rfl, hs, rfl, _, _, rfl, _, _, rfl, _, _, rfl, rfl, ?_⟩
    refine gd_set (gd_core (gv_var rfl) hn (gd_var rfl hy) kc hc) fun v1 H1 e1 d1 => ?_
    refine gd_set (gd_core (gv_var rfl) (hn.same e1) (gd_var rfl (Dp.same e1 hz)) kd hdd) fun v2 H2 e2 d2 => ?_
    refine if_eqF rfl (by decide +kernel) ?_
    exact gd_ret (gd_t1 (gd_t3 gd_str (gd_t3 gd_str (gd_var rfl (Dp.same e2 d1)) (gd_var rfl d2)) (gd_glob TN))) fun v' H' e' h' => q v' H' ((e1.trans e2).trans e') h'
def spTyp (K : PySem.W.Frag) (n : Nat) : Sp := fun vs H Q _ => ∃ (a : Addr) (A B C : List (List Nat)) (v u : V) (r : PyData) (c : Con), vs = [.ref a, u, v] ∧ NamT K H a A B C ∧ Dp K H u r ∧ Dp K H v c.D ∧ c.dp < n ∧ c.In A B ∧ ∀ v' H', Same H H' → Dp K H' v' (belowD (someD r anyD) (coreD (ixOf A) (ixOf B) c)) → Q v' H'
theorem c_typ {n m : Nat} (hm0 : 1 ≤ m) {f : Addr} {fd : FuncData} {rA : Addr} (D : Df K mg "_typing" s_typing f fd ["names", "role", "concept"]) (c_core_concept : Cl P w K mg base m "core_concept" (spCore K n)) (m_ANYTHING : mg "ANYTHING" = some (.ref rA)) (TA : ∀ H, SqT K H rA (K_ANYTHING.map V.str)) : Cl P w K mg base (m + 1) "_typing" (spTyp K n) := by
  refine D.cl sc_typing (fun vs H Q E h => ?_) (fun cdv A outer s H vs Q E hr h => ?_)
  · obtain ⟨a, A, B, C, v, u, r, c, rfl, _⟩ := h
    rfl
  obtain ⟨a, A, B, C, v, u, r, c, rfl, hn, hu, hv, hk, hc, q⟩ := h
  refine ⟨_, (pss_one (ps_ret (pe_tup (pa_cons pe_str (pa_cons (pe_tup (pa_cons pe_str (pa_cons (pv 1) (pa_cons (pe_glob (v := .ref _) (by rfl) m_ANYTHING rfl) pa_nil)))) (pa_cons (pc c_core_concept hr (by first | decide | omega) (by rfl) (pa_cons (pv 0) (pa_cons (pv 2) pa_nil))) pa_nil)))))), ?_⟩
  exact gd_ret (gd_t3 gd_str (gd_t3 gd_str (gd_var rfl hu) (gd_glob fun H => tup_dp (TA H))) (gd_core (gv_var rfl) hn (gd_var rfl hv) hk hc)) q
theorem gd_typ {n : Nat} {σ : L2.St} {H : Hp} {ta tb te : TE} {a : Addr} {A B C : List (List Nat)} {r : PyData} {c : Con} (ha : GV ta σ H (.ref a)) (hn : NamT K H a A B C) (he : GD K te σ H r) (hb : GD K tb σ H c.D) (hd : c.dp < n) (hm : c.In A B) : GD K (tCall (spTyp K n) [] E0 (tCons ta (tCons te (tCons tb tNil)))) σ H (belowD (someD r anyD) (coreD (ixOf A) (ixOf B) c)) := fun H1 e R q =>
  ha H1 e _ fun H2 e2 => he H2 (e.trans e2) _ fun u H3 e3 hu => hb H3 ((e.trans e2).trans e3) _ fun v H4 e4 hv => ⟨a, A, B, C, v, u, r, c, rfl, hn.same (((e.trans e2).trans e3).trans e4), Dp.same e4 hu, hv, hd, hm, fun v' H' e' h' => q v' H' (((e2.trans e3).trans e4).trans e') h'⟩
def spParts (K : PySem.W.Frag) (n : Nat) : Sp := fun vs H Q _ => ∃ (a : Addr) (A B C : List (List Nat)) (v : V) (s : Stm), vs = [.ref a, v] ∧ NamT K H a A B C ∧ Dp K H v s.D ∧ s.dp < n ∧ s.In A B C ∧ s ≠ .never ∧ ∀ v' H', Same H H' → Dp K H' v' (partsD (ixOf A) (ixOf B) (ixOf C) s) → Q v' H'
theorem c_parts {n m : Nat} (hm0 : 1 ≤ m) {f : Addr} {fd : FuncData} (D : Df K mg "parts" s_parts f fd ["names", "statement"]) (c_core_question : Cl P w K mg base (m + 1) "core_question" (spQst K n)) (c_role : Cl P w K mg base 1 "_role" (spRoleT K)) (c_inverse : Cl P w K mg base 1 "inverse" (spInv K))
    (c_parts_of_two_concepts : Cl P w K mg base (m + 1) "_parts_of_two_concepts" (spTwo K n)) (c_typing : Cl P w K mg base (m + 1) "_typing" (spTyp K n)) : Cl P w K mg base (m + 2) "parts" (spParts K n) := by
  refine D.cl sc_parts (fun vs H Q E h => ?_) (fun cdv A outer s H vs Q E hr h => ?_)
  · obtain ⟨a, A, B, C, v, s, rfl, _⟩ := h
    rfl
  obtain ⟨a, A, B, C, v, s, rfl, hn, hd, hk, hm, hnv, q⟩ := h
  refine ⟨_, (pss_cons (ps_set (i := 2) sc_parts.nd rfl (.inl rfl) (pe_ix ix_tup (pv 1) pe_int (fun _ _ => rfl)))
      (pss_cons (ps_if (pt_cmpR op_in_seq (pv 2) (pe_tup (pa_cons pe_str (pa_cons pe_str pa_nil))) rfl) (pss_one (ps_ret (pc c_parts_of_two_concepts hr (by first | decide | omega) (by rfl) (pa_cons (pv 0) (pa_cons (pv 1) pa_nil))))) pss_nil)
      (pss_cons (ps_if (pt_cmpR op_eq (pv 2) pe_str (nomark _)) (pss_one (ps_ret (pe_tup (pa_cons (pc c_typing hr (by first | decide | omega) (by rfl) (pa_cons (pv 0) (pa_cons (pc c_role hr (by first | decide | omega) (by rfl) (pa_cons (pv 0) (pa_cons (pe_ix ix_tup (pv 1) pe_int (fun _ _ => rfl)) pa_nil))) (pa_cons (pe_ix ix_tup (pv 1) pe_int (fun _ _ => rfl)) pa_nil)))) pa_nil)))) pss_nil)
      (pss_cons (ps_if (pt_cmpR op_eq (pv 2) pe_str (nomark _)) (pss_one (ps_ret (pe_tup (pa_cons (pc c_typing hr (by first | decide | omega) (by rfl) (pa_cons (pv 0) (pa_cons (pc c_inverse hr (by first | decide | omega) (by rfl) (pa_cons (pc c_role hr (by first | decide | omega) (by rfl) (pa_cons (pv 0) (pa_cons (pe_ix ix_tup (pv 1) pe_int (fun _ _ => rfl)) pa_nil))) pa_nil)) (pa_cons (pe_ix ix_tup (pv 1) pe_int (fun _ _ => rfl)) pa_nil)))) pa_nil)))) pss_nil)
      (pss_cons (ps_if (pt_cmpR op_eq (pv 2) pe_str (nomark _)) (pss_one (ps_ret (pe_tup (pa_cons (pe_tup (pa_cons pe_str (pa_cons (pc c_role hr (by first | decide | omega) (by rfl) (pa_cons (pv 0) (pa_cons (pe_ix ix_tup (pv 1) pe_int (fun _ _ => rfl)) pa_nil))) (pa_cons (pc c_role hr (by first | decide | omega) (by rfl) (pa_cons (pv 0) (pa_cons (pe_ix ix_tup (pv 1) pe_int (fun _ _ => rfl)) pa_nil))) pa_nil)))) pa_nil)))) pss_nil)
      (pss_cons (ps_if (pt_cmpR op_eq (pv 2) pe_str (nomark _)) (pss_cons (ps_set (i := 3) sc_parts.nd rfl (.inl rfl) (pc c_role hr (by first | decide | omega) (by rfl) (pa_cons (pv 0) (pa_cons (pe_tup (pa_cons (pe_ix ix_tup (pv 1) pe_int (fun _ _ => rfl)) (pa_cons pe_bl pa_nil))) pa_nil))))
      (pss_cons (ps_set (i := 4) sc_parts.nd rfl (.inl rfl) (pc c_role hr (by first | decide | omega) (by rfl) (pa_cons (pv 0) (pa_cons (pe_tup (pa_cons (pe_ix ix_tup (pv 1) pe_int (fun _ _ => rfl)) (pa_cons pe_bl pa_nil))) pa_nil))))
      (pss_one (ps_ret (pe_tup (pa_cons (pe_tup (pa_cons pe_str (pa_cons (pv 3) (pa_cons (pv 4) pa_nil)))) (pa_cons (pe_tup (pa_cons pe_str (pa_cons (pv 4) (pa_cons (pv 3) pa_nil)))) pa_nil))))))) pss_nil)
      (pss_one (ps_ret (pe_tup (pa_cons (pc c_core_question hr (by first | decide | omega) (by rfl) (pa_cons (pv 0) (pa_cons (pv 1) pa_nil))) pa_nil)))))))))), ?_⟩
  cases s with
  | never => exact absurd rfl hnv
  | below c d =>
    obtain ⟨b, y, z, rfl, hs, hy, hz⟩ := dp3 hd
    refine gv_set (gv_ixT (j := 0) (gv_var rfl) hs (atI_nat (j := 0) rfl)) fun H1 e1 => ?_
    refine if_inF rfl gds_2 (by decide +kernel) (by decide +kernel) fun H2 e2 => ?_
    refine if_eqF rfl (by decide +kernel) (if_eqF rfl (by decide +kernel) (if_eqF rfl (by decide +kernel) (if_eqF rfl (by decide +kernel) ?_)))
    exact gd_ret (gd_t1 (gd_qst (s := .below c d) (gv_var rfl) (hn.same (e1.trans e2)) (gd_var rfl (Dp.same (e1.trans e2) hd)) hk hm trivial)) fun v' H' e' h' => q v' H' ((e1.trans e2).trans e') h'
  | is x c =>
    obtain ⟨b, y, z, rfl, hs, hy, hz⟩ := dp3 hd
    refine gv_set (gv_ixT (j := 0) (gv_var rfl) hs (atI_nat (j := 0) rfl)) fun H1 e1 => ?_
    refine if_inF rfl gds_2 (by decide +kernel) (by decide +kernel) fun H2 e2 => ?_
    refine if_eqF rfl (by decide +kernel) (if_eqF rfl (by decide +kernel) (if_eqF rfl (by decide +kernel) (if_eqF rfl (by decide +kernel) ?_)))
    exact gd_ret (gd_t1 (gd_qst (s := .is x c) (gv_var rfl) (hn.same (e1.trans e2)) (gd_var rfl (Dp.same (e1.trans e2) hd)) hk hm trivial)) fun v' H' e' h' => q v' H' ((e1.trans e2).trans e') h'
  | has x y z =>
    obtain ⟨b, y1, y2, y3, rfl, hs, d1, d2, d3⟩ := dp4 hd
    refine gv_set (gv_ixT (j := 0) (gv_var rfl) hs (atI_nat (j := 0) rfl)) fun H1 e1 => ?_
    refine if_inF rfl gds_2 (by decide +kernel) (by decide +kernel) fun H2 e2 => ?_
    refine if_eqF rfl (by decide +kernel) (if_eqF rfl (by decide +kernel) (if_eqF rfl (by decide +kernel) (if_eqF rfl (by decide +kernel) ?_)))
    exact gd_ret (gd_t1 (gd_qst (s := .has x y z) (gv_var rfl) (hn.same (e1.trans e2)) (gd_var rfl (Dp.same (e1.trans e2) hd)) hk hm trivial)) fun v' H' e' h' => q v' H' ((e1.trans e2).trans e') h'
  | equals c d =>
    obtain ⟨b, y, z, rfl, hs, hy, hz⟩ := dp3 hd
    have kc : c.dp < n := by have : max c.dp d.dp < n := hk; omega
    have kd : d.dp < n := by have : max c.dp d.dp < n := hk; omega
    refine gv_set (gv_ixT (j := 0) (gv_var rfl) hs (atI_nat (j := 0) rfl)) fun H1 e1 => ?_
    refine if_inT rfl gds_2 (by decide +kernel) (by decide +kernel) fun H2 e2 => ?_
    exact ⟨_, rfl, _, rfl, a, A, B, C, _, c, d, true, rfl, hn.same (e1.trans e2), Dp.same (e1.trans e2) hd, kc, kd, hm.1, hm.2, fun v' H' e' h' => q v' H' ((e1.trans e2).trans e') h'⟩
  | apart c d =>
    obtain ⟨b, y, z, rfl, hs, hy, hz⟩ := dp3 hd
    have kc : c.dp < n := by have : max c.dp d.dp < n := hk; omega
    have kd : d.dp < n := by have : max c.dp d.dp < n := hk; omega
    refine gv_set (gv_ixT (j := 0) (gv_var rfl) hs (atI_nat (j := 0) rfl)) fun H1 e1 => ?_
    refine if_inT rfl gds_2 (by decide +kernel) (by decide +kernel) fun H2 e2 => ?_
    exact ⟨_, rfl, _, rfl, a, A, B, C, _, c, d, false, rfl, hn.same (e1.trans e2), Dp.same (e1.trans e2) hd, kc, kd, hm.1, hm.2, fun v' H' e' h' => q v' H' ((e1.trans e2).trans e') h'⟩
  | domain r c =>
    obtain ⟨b, y, z, rfl, hs, hy, hz⟩ := dp3 hd
    refine gv_set (gv_ixT (j := 0) (gv_var rfl) hs (atI_nat (j := 0) rfl)) fun H1 e1 => ?_
    refine if_inF rfl gds_2 (by decide +kernel) (by decide +kernel) fun H2 e2 => ?_
    have e12 := e1.trans e2
    refine if_eqT rfl (by decide +kernel) ?_
    exact gd_ret (gd_t1 (gd_typ (gv_var rfl) (hn.same e12) (gd_roleT (gv_var rfl) (hn.same e12) (gd_of (gv_ixT (j := 1) (gv_var rfl) (Same.seqT e12 hs) (atI_nat (j := 1) rfl)) (Dp.same e12 hy)) hm.1) (gd_of (gv_ixT (j := 2) (gv_var rfl) (Same.seqT e12 hs) (atI_nat (j := 2) rfl)) (Dp.same e12 hz)) hk hm.2)) fun v' H' e' h' => q v' H' (e12.trans e') h'
  | range r c =>
    obtain ⟨b, y, z, rfl, hs, hy, hz⟩ := dp3 hd
    refine gv_set (gv_ixT (j := 0) (gv_var rfl) hs (atI_nat (j := 0) rfl)) fun H1 e1 => ?_
    refine if_inF rfl gds_2 (by decide +kernel) (by decide +kernel) fun H2 e2 => ?_
    have e12 := e1.trans e2
    refine if_eqF rfl (by decide +kernel) (if_eqT rfl (by decide +kernel) ?_)
    exact gd_ret (gd_t1 (gd_typ (r := rolI (ixOf B) r) (gv_var rfl) (hn.same e12) (gd_inv (n := ixOf B r.1) (b := r.2) (gd_roleT (gv_var rfl) (hn.same e12) (gd_of (gv_ixT (j := 1) (gv_var rfl) (Same.seqT e12 hs) (atI_nat (j := 1) rfl)) (Dp.same e12 hy)) hm.1)) (gd_of (gv_ixT (j := 2) (gv_var rfl) (Same.seqT e12 hs) (atI_nat (j := 2) rfl)) (Dp.same e12 hz)) hk hm.2)) fun v' H' e' h' => q v' H' (e12.trans e') h'
  | under r r' =>
    obtain ⟨b, y, z, rfl, hs, hy, hz⟩ := dp3 hd
    refine gv_set (gv_ixT (j := 0) (gv_var rfl) hs (atI_nat (j := 0) rfl)) fun H1 e1 => ?_
    refine if_inF rfl gds_2 (by decide +kernel) (by decide +kernel) fun H2 e2 => ?_
    have e12 := e1.trans e2
    refine if_eqF rfl (by decide +kernel) (if_eqF rfl (by decide +kernel) (if_eqT rfl (by decide +kernel) ?_))
    exact gd_ret (gd_t1 (gd_t3 gd_str (gd_roleT (gv_var rfl) (hn.same e12) (gd_of (gv_ixT (j := 1) (gv_var rfl) (Same.seqT e12 hs) (atI_nat (j := 1) rfl)) (Dp.same e12 hy)) hm.1) (gd_roleT (gv_var rfl) (hn.same e12) (gd_of (gv_ixT (j := 2) (gv_var rfl) (Same.seqT e12 hs) (atI_nat (j := 2) rfl)) (Dp.same e12 hz)) hm.2))) fun v' H' e' h' => q v' H' (e12.trans e') h'
  | inverse x1 x2 =>
    obtain ⟨b, y, z, rfl, hs, hy, hz⟩ := dp3 hd
    cases dp_str hy
    cases dp_str hz
    refine gv_set (gv_ixT (j := 0) (gv_var rfl) hs (atI_nat (j := 0) rfl)) fun H1 e1 => ?_
    refine if_inF rfl gds_2 (by decide +kernel) (by decide +kernel) fun H2 e2 => ?_
    have e12 := e1.trans e2
    refine if_eqF rfl (by decide +kernel) (if_eqF rfl (by decide +kernel) (if_eqF rfl (by decide +kernel) (if_eqT rfl (by decide +kernel) ?_)))
    refine gd_set (gd_roleT (r := (x1, false)) (gv_var rfl) (hn.same e12) (gd_t2 (gd_of (gv_ixT (j := 1) (gv_var rfl) (Same.seqT e12 hs) (atI_nat (j := 1) rfl)) (.str _)) (gd_bl gv_c)) hm.1) fun v1 H3 e3 d1 => ?_
    have e13 := e12.trans e3
    refine gd_set (gd_roleT (r := (x2, true)) (gv_var rfl) (hn.same e13) (gd_t2 (gd_of (gv_ixT (j := 2) (gv_var rfl) (Same.seqT e13 hs) (atI_nat (j := 2) rfl)) (.str _)) (gd_bl gv_c)) hm.2) fun v2 H4 e4 d2 => ?_
    exact gd_ret (gd_t2 (gd_t3 gd_str (gd_var rfl (Dp.same e4 d1)) (gd_var rfl d2)) (gd_t3 gd_str (gd_var rfl d2) (gd_var rfl (Dp.same e4 d1)))) fun v' H' e' h' => q v' H' ((e13.trans e4).trans e') h'
theorem gv_idxLn {σ : L2.St} {H : Hp} {to te : TE} {a : Addr} {ns : List (List Nat)} {s : List Nat} (h : GV to σ H (.ref a)) (hs : SqL K H a (strsV ns)) (hx : GV te σ H (.str (T s))) (hm : s ∈ ns) : GD K (tBM K "list" (rIndex K) to (tCons te tNil)) σ H (.int (ixOf ns s : Int)) := gd_int (gv_idxL h hs hx hm)
def spLCore (K : PySem.W.Frag) (n : Nat) : Sp := fun vs H Q _ => ∃ (a : Addr) (A B C : List (List Nat)) (v : V) (c : Con), vs = [.ref a, v] ∧ NamL K H a A B C ∧ Dp K H v c.D ∧ c.dp < n ∧ c.In A B ∧ ∀ v' H', Same H H' → Dp K H' v' (coreD (ixOf A) (ixOf B) c) → Q v' H'
theorem gd_lcore {n : Nat} {σ : L2.St} {H : Hp} {ta tb : TE} {a : Addr} {A B C : List (List Nat)} {c : Con} (ha : GV ta σ H (.ref a)) (hn : NamL K H a A B C) (hb : GD K tb σ H c.D) (hd : c.dp < n) (hm : c.In A B) : GD K (tCall (spLCore K n) [] E0 (tCons ta (tCons tb tNil))) σ H (coreD (ixOf A) (ixOf B) c) := fun H1 e R q =>
  ha H1 e _ fun H2 e2 => hb H2 (e.trans e2) _ fun v H3 e3 hv => ⟨a, A, B, C, v, c, rfl, hn.same ((e.trans e2).trans e3), hv, hd, hm, fun v' H' e' h' => q v' H' ((e2.trans e3).trans e') h'⟩
theorem c_lcore {f : Addr} {fd : FuncData} (D : Df K mg "_law_core" s_law_core f fd ["names", "concept"]) : ∀ n : Nat, Cl P w K mg base (n + 1) "_law_core" (spLCore K n)
  | 0 => by
    refine D.cl sc_law_core (fun vs H Q E h => ?_) (fun cdv A outer s H vs Q E hr h => ?_)
    · obtain ⟨a, A, B, C, v, c, rfl, _⟩ := h
      rfl
    · obtain ⟨a, A, B, C, v, c, _, _, _, hk, _⟩ := h
      exact absurd hk (Nat.not_lt_zero _)
  | n + 1 => by
    have c_law_core := c_lcore D n
    refine D.cl sc_law_core (fun vs H Q E h => ?_) (fun cdv A outer s H vs Q E hr h => ?_)
    · obtain ⟨a, A, B, C, v, c, rfl, _⟩ := h
      rfl
    obtain ⟨a, A, B, C, v, c, rfl, hn, hd, hk, hm, q⟩ := h
    obtain ⟨t0, t1, t2, t3, h0, h1, h2, _⟩ := hn.ex
    refine ⟨_, (pss_cons (ps_set (i := 2) sc_law_core.nd rfl (.inl rfl) (pe_ix ix_tup (pv 1) pe_int (fun _ _ => rfl)))
      (pss_cons (ps_if (pt_cmpR op_eq (pv 2) pe_str (nomark _)) (pss_one (ps_ret (pe_tup (pa_cons pe_str pa_nil)))) pss_nil)
      (pss_cons (ps_if (pt_cmpR op_eq (pv 2) pe_str (nomark _)) (pss_one (ps_ret (pe_tup (pa_cons pe_str (pa_cons (pe_tup (pa_cons pe_str pa_nil)) pa_nil))))) pss_nil)
      (pss_cons (ps_if (pt_cmpR op_eq (pv 2) pe_str (nomark _)) (pss_one (ps_ret (pe_tup (pa_cons pe_str (pa_cons (pe_bm PySem.F.plainAttrs_list PySem.F.slot_list_index PySem.F.type_list_index mt_index (pe_ix ix_list (pv 0) pe_int (fun _ _ => rfl)) (pa_cons (pe_ix ix_tup (pv 1) pe_int (fun _ _ => rfl)) pa_nil)) pa_nil))))) pss_nil)
      (pss_cons (ps_if (pt_cmpR op_eq (pv 2) pe_str (nomark _)) (pss_one (ps_ret (pe_tup (pa_cons pe_str (pa_cons (pc c_law_core hr (by first | decide | omega) (by rfl) (pa_cons (pv 0) (pa_cons (pe_ix ix_tup (pv 1) pe_int (fun _ _ => rfl)) pa_nil))) pa_nil))))) pss_nil)
      (pss_cons (ps_if (PW.pt (pw_or (pt_cmpR op_eq (pv 2) pe_str (nomark _)) (pw_or1 (pt_cmpR op_eq (pv 2) pe_str (nomark _))))) (pss_cons (ps_set (i := 3) sc_law_core.nd rfl (.inl rfl) (pe_tup (pa_cons (pe_bm PySem.F.plainAttrs_list PySem.F.slot_list_index PySem.F.type_list_index mt_index (pe_ix ix_list (pv 0) pe_int (fun _ _ => rfl)) (pa_cons (pe_ix ix_tup (pe_ix ix_tup (pv 1) pe_int (fun _ _ => rfl)) pe_int (fun _ _ => rfl)) pa_nil)) (pa_cons (pe_ix ix_tup (pe_ix ix_tup (pv 1) pe_int (fun _ _ => rfl)) pe_int (fun _ _ => rfl)) pa_nil))))
      (pss_cons (ps_set (i := 4) sc_law_core.nd rfl (.inl rfl) (pc c_law_core hr (by first | decide | omega) (by rfl) (pa_cons (pv 0) (pa_cons (pe_ix ix_tup (pv 1) pe_int (fun _ _ => rfl)) pa_nil))))
      (pss_cons (ps_if (pt_cmpR op_eq (pv 2) pe_str (nomark _)) (pss_one (ps_ret (pe_tup (pa_cons pe_str (pa_cons (pv 3) (pa_cons (pv 4) pa_nil)))))) pss_nil)
      (pss_one (ps_ret (pe_tup (pa_cons pe_str (pa_cons (pe_tup (pa_cons pe_str (pa_cons (pv 3) (pa_cons (pe_tup (pa_cons pe_str (pa_cons (pv 4) pa_nil))) pa_nil)))) pa_nil)))))))) pss_nil)
      (pss_cons (ps_set (i := 5) sc_law_core.nd rfl (.inl rfl) (pc c_law_core hr (by first | decide | omega) (by rfl) (pa_cons (pv 0) (pa_cons (pe_ix ix_tup (pv 1) pe_int (fun _ _ => rfl)) pa_nil))))
      (pss_cons (ps_set (i := 6) sc_law_core.nd rfl (.inl rfl) (pc c_law_core hr (by first | decide | omega) (by rfl) (pa_cons (pv 0) (pa_cons (pe_ix ix_tup (pv 1) pe_int (fun _ _ => rfl)) pa_nil))))
      (pss_cons (ps_if (pt_cmpR op_eq (pv 2) pe_str (nomark _)) (pss_one (ps_ret (pe_tup (pa_cons pe_str (pa_cons (pv 5) (pa_cons (pv 6) pa_nil)))))) pss_nil)
      (pss_one (ps_ret (pe_tup (pa_cons pe_str (pa_cons (pe_tup (pa_cons pe_str (pa_cons (pe_tup (pa_cons pe_str (pa_cons (pv 5) pa_nil))) (pa_cons (pe_tup (pa_cons pe_str (pa_cons (pv 6) pa_nil))) pa_nil)))) pa_nil)))))))))))))), ?_⟩
    cases c with
    | any =>
      obtain ⟨b, rfl, hs⟩ := dp1 hd
      refine gv_set (gv_ixT (j := 0) (gv_var rfl) hs (atI_nat (j := 0) rfl)) fun H1 e1 => ?_
      refine if_eqT rfl (by decide +kernel) ?_
      exact gd_ret (gd_t1 gd_str) fun v' H' e' h' => q v' H' (e1.trans e') h'
    | nothing =>
      obtain ⟨b, rfl, hs⟩ := dp1 hd
      refine gv_set (gv_ixT (j := 0) (gv_var rfl) hs (atI_nat (j := 0) rfl)) fun H1 e1 => ?_
      refine if_eqF rfl (by decide +kernel) (if_eqT rfl (by decide +kernel) ?_)
      exact gd_ret (gd_t2 gd_str (gd_t1 gd_str)) fun v' H' e' h' => q v' H' (e1.trans e') h'
    | name s =>
      obtain ⟨b, y, rfl, hs, hy⟩ := dp2 hd
      cases dp_str hy
      refine gv_set (gv_ixT (j := 0) (gv_var rfl) hs (atI_nat (j := 0) rfl)) fun H1 e1 => ?_
      refine if_eqF rfl (by decide +kernel) (if_eqF rfl (by decide +kernel) (if_eqT rfl (by decide +kernel) ?_))
      exact gd_ret (gd_t2 gd_str (gv_idxLn (gv_ixL (j := 0) (gv_var rfl) (e1.seq h0) (atI_nat (j := 0) rfl)) (e1.seq h1) (gv_ixT (j := 1) (gv_var rfl) (Same.seqT e1 hs) (atI_nat (j := 1) rfl)) hm)) fun v' H' e' h' => q v' H' (e1.trans e') h'
    | not c =>
      obtain ⟨b, y, rfl, hs, hy⟩ := dp2 hd
      refine gv_set (gv_ixT (j := 0) (gv_var rfl) hs (atI_nat (j := 0) rfl)) fun H1 e1 => ?_
      refine if_eqF rfl (by decide +kernel) (if_eqF rfl (by decide +kernel) (if_eqF rfl (by decide +kernel) (if_eqT rfl (by decide +kernel) ?_)))
      exact gd_ret (gd_t2 gd_str (gd_lcore (gv_var rfl) (hn.same e1) (gd_of (gv_ixT (j := 1) (gv_var rfl) (Same.seqT e1 hs) (atI_nat (j := 1) rfl)) (Dp.same e1 hy)) (Nat.lt_of_succ_lt_succ hk) hm)) fun v' H' e' h' => q v' H' (e1.trans e') h'
    | some r c =>
      obtain ⟨b, y, z, rfl, hs, hy, hz⟩ := dp3 hd
      obtain ⟨br, rfl, hsr⟩ := dpRol hy
      refine gv_set (gv_ixT (j := 0) (gv_var rfl) hs (atI_nat (j := 0) rfl)) fun H1 e1 => ?_
      refine if_eqF rfl (by decide +kernel) (if_eqF rfl (by decide +kernel) (if_eqF rfl (by decide +kernel) (if_eqF rfl (by decide +kernel) (if_eq2T rfl (by decide +kernel) ?_))))
      have ir : ∀ {i : Nat} {x : V}, [V.str (T r.1), .bl r.2][i]? = Option.some x → GV (tOp (rIxT K) (tOp (rIxT K) (tVar 1) (tC (.int 1))) (tC (.int (i : Int)))) [Option.some (V.ref a), Option.some (V.ref b), Option.some (V.str (Str.ofString "some")), none, none, none, none] H1 x := fun hx => gv_ixT (gv_ixT (j := 1) (gv_var rfl) (Same.seqT e1 hs) (atI_nat (j := 1) rfl)) (Same.seqT e1 hsr) (atI_nat hx)
      refine gd_set (d := rolC (ixOf B) r) (gd_t2 (gv_idxLn (gv_ixL (j := 1) (gv_var rfl) (e1.seq h0) (atI_nat (j := 1) rfl)) (e1.seq h2) (ir (i := 0) rfl) hm.1) (gd_bl (ir (i := 1) rfl))) fun v1 H2 e2 d1 => ?_
      have e12 := e1.trans e2
      refine gd_set (gd_lcore (gv_var rfl) (hn.same e12) (gd_of (gv_ixT (j := 2) (gv_var rfl) (Same.seqT e12 hs) (atI_nat (j := 2) rfl)) (Dp.same e12 hz)) (Nat.lt_of_succ_lt_succ hk) hm.2) fun v2 H3 e3 d2 => ?_
      refine if_eqT rfl (by decide +kernel) ?_
      exact gd_ret (gd_t3 gd_str (gd_var rfl (Dp.same e3 d1)) (gd_var rfl d2)) fun v' H' e' h' => q v' H' ((e12.trans e3).trans e') h'
    | all r c =>
      obtain ⟨b, y, z, rfl, hs, hy, hz⟩ := dp3 hd
      obtain ⟨br, rfl, hsr⟩ := dpRol hy
      refine gv_set (gv_ixT (j := 0) (gv_var rfl) hs (atI_nat (j := 0) rfl)) fun H1 e1 => ?_
      refine if_eqF rfl (by decide +kernel) (if_eqF rfl (by decide +kernel) (if_eqF rfl (by decide +kernel) (if_eqF rfl (by decide +kernel) (if_eq2T rfl (by decide +kernel) ?_))))
      have ir : ∀ {i : Nat} {x : V}, [V.str (T r.1), .bl r.2][i]? = Option.some x → GV (tOp (rIxT K) (tOp (rIxT K) (tVar 1) (tC (.int 1))) (tC (.int (i : Int)))) [Option.some (V.ref a), Option.some (V.ref b), Option.some (V.str (Str.ofString "all")), none, none, none, none] H1 x := fun hx => gv_ixT (gv_ixT (j := 1) (gv_var rfl) (Same.seqT e1 hs) (atI_nat (j := 1) rfl)) (Same.seqT e1 hsr) (atI_nat hx)
      refine gd_set (d := rolC (ixOf B) r) (gd_t2 (gv_idxLn (gv_ixL (j := 1) (gv_var rfl) (e1.seq h0) (atI_nat (j := 1) rfl)) (e1.seq h2) (ir (i := 0) rfl) hm.1) (gd_bl (ir (i := 1) rfl))) fun v1 H2 e2 d1 => ?_
      have e12 := e1.trans e2
      refine gd_set (gd_lcore (gv_var rfl) (hn.same e12) (gd_of (gv_ixT (j := 2) (gv_var rfl) (Same.seqT e12 hs) (atI_nat (j := 2) rfl)) (Dp.same e12 hz)) (Nat.lt_of_succ_lt_succ hk) hm.2) fun v2 H3 e3 d2 => ?_
      refine if_eqF rfl (by decide +kernel) ?_
      exact gd_ret (gd_t2 gd_str (gd_t3 gd_str (gd_var rfl (Dp.same e3 d1)) (gd_t2 gd_str (gd_var rfl d2)))) fun v' H' e' h' => q v' H' ((e12.trans e3).trans e') h'
    | both c d =>
      obtain ⟨b, y, z, rfl, hs, hy, hz⟩ := dp3 hd
      have kc : c.dp < n := by have : max c.dp d.dp + 1 < n + 1 := hk; omega
      have kd : d.dp < n := by have : max c.dp d.dp + 1 < n + 1 := hk; omega
      refine gv_set (gv_ixT (j := 0) (gv_var rfl) hs (atI_nat (j := 0) rfl)) fun H1 e1 => ?_
      refine if_eqF rfl (by decide +kernel) (if_eqF rfl (by decide +kernel) (if_eqF rfl (by decide +kernel) (if_eqF rfl (by decide +kernel) (if_eq2F rfl (by decide +kernel) ?_))))
      refine gd_set (gd_lcore (gv_var rfl) (hn.same e1) (gd_of (gv_ixT (j := 1) (gv_var rfl) (Same.seqT e1 hs) (atI_nat (j := 1) rfl)) (Dp.same e1 hy)) kc hm.1) fun v1 H2 e2 d1 => ?_
      have e12 := e1.trans e2
      refine gd_set (gd_lcore (gv_var rfl) (hn.same e12) (gd_of (gv_ixT (j := 2) (gv_var rfl) (Same.seqT e12 hs) (atI_nat (j := 2) rfl)) (Dp.same e12 hz)) kd hm.2) fun v2 H3 e3 d2 => ?_
      refine if_eqT rfl (by decide +kernel) ?_
      exact gd_ret (gd_t3 gd_str (gd_var rfl (Dp.same e3 d1)) (gd_var rfl d2)) fun v' H' e' h' => q v' H' ((e12.trans e3).trans e') h'
    | either c d =>
      obtain ⟨b, y, z, rfl, hs, hy, hz⟩ := dp3 hd
      have kc : c.dp < n := by have : max c.dp d.dp + 1 < n + 1 := hk; omega
      have kd : d.dp < n := by have : max c.dp d.dp + 1 < n + 1 := hk; omega
      refine gv_set (gv_ixT (j := 0) (gv_var rfl) hs (atI_nat (j := 0) rfl)) fun H1 e1 => ?_
      refine if_eqF rfl (by decide +kernel) (if_eqF rfl (by decide +kernel) (if_eqF rfl (by decide +kernel) (if_eqF rfl (by decide +kernel) (if_eq2F rfl (by decide +kernel) ?_))))
      refine gd_set (gd_lcore (gv_var rfl) (hn.same e1) (gd_of (gv_ixT (j := 1) (gv_var rfl) (Same.seqT e1 hs) (atI_nat (j := 1) rfl)) (Dp.same e1 hy)) kc hm.1) fun v1 H2 e2 d1 => ?_
      have e12 := e1.trans e2
      refine gd_set (gd_lcore (gv_var rfl) (hn.same e12) (gd_of (gv_ixT (j := 2) (gv_var rfl) (Same.seqT e12 hs) (atI_nat (j := 2) rfl)) (Dp.same e12 hz)) kd hm.2) fun v2 H3 e3 d2 => ?_
      refine if_eqF rfl (by decide +kernel) ?_
      exact gd_ret (gd_t2 gd_str (gd_t3 gd_str (gd_t2 gd_str (gd_var rfl (Dp.same e3 d1))) (gd_t2 gd_str (gd_var rfl d2)))) fun v' H' e' h' => q v' H' ((e12.trans e3).trans e') h'
def spAsk (K : PySem.W.Frag) (n : Nat) : Sp := fun vs H Q _ => ∃ (a : Addr) (A B C : List (List Nat)) (v : V) (s : Stm), vs = [.ref a, v] ∧ NamL K H a A B C ∧ Dp K H v s.D ∧ s.dp < n ∧ s.In A B C ∧ QK s ∧ ∀ v' H', Same H H' → Dp K H' v' (questD (ixOf A) (ixOf B) (ixOf C) s) → Q v' H'
theorem gd_ask {n : Nat} {σ : L2.St} {H : Hp} {ta tb : TE} {a : Addr} {A B C : List (List Nat)} {s : Stm} (ha : GV ta σ H (.ref a)) (hn : NamL K H a A B C) (hb : GD K tb σ H s.D) (hd : s.dp < n) (hm : s.In A B C) (hk : QK s) : GD K (tCall (spAsk K n) [] E0 (tCons ta (tCons tb tNil))) σ H (questD (ixOf A) (ixOf B) (ixOf C) s) := fun H1 e R q =>
  ha H1 e _ fun H2 e2 => hb H2 (e.trans e2) _ fun v H3 e3 hv => ⟨a, A, B, C, v, s, rfl, hn.same ((e.trans e2).trans e3), hv, hd, hm, hk, fun v' H' e' h' => q v' H' ((e2.trans e3).trans e') h'⟩
theorem c_ask {n m : Nat} (hm0 : 1 ≤ m) {f : Addr} {fd : FuncData} (D : Df K mg "_law_asked" s_law_asked f fd ["names", "tree"]) (c_law_core : Cl P w K mg base m "_law_core" (spLCore K n)) : Cl P w K mg base (m + 1) "_law_asked" (spAsk K n) := by
  refine D.cl sc_law_asked (fun vs H Q E h => ?_) (fun cdv A outer s H vs Q E hr h => ?_)
  · obtain ⟨a, A, B, C, v, s, rfl, _⟩ := h
    rfl
  obtain ⟨a, A, B, C, v, s, rfl, hn, hd, hk, hm, hq, q⟩ := h
  obtain ⟨t0, t1, t2, t3, h0, h1, h2, h3⟩ := hn.ex
  refine ⟨_, (pss_cons (ps_set (i := 2) sc_law_asked.nd rfl (.inl rfl) (pe_ix ix_tup (pv 1) pe_int (fun _ _ => rfl)))
      (pss_cons (ps_if (pt_cmpR op_eq (pv 2) pe_str (nomark _)) (pss_one (ps_ret (pe_tup (pa_cons pe_str (pa_cons (pc c_law_core hr (by first | decide | omega) (by rfl) (pa_cons (pv 0) (pa_cons (pe_ix ix_tup (pv 1) pe_int (fun _ _ => rfl)) pa_nil))) (pa_cons (pc c_law_core hr (by first | decide | omega) (by rfl) (pa_cons (pv 0) (pa_cons (pe_ix ix_tup (pv 1) pe_int (fun _ _ => rfl)) pa_nil))) pa_nil)))))) pss_nil)
      (pss_cons (ps_if (pt_cmpR op_eq (pv 2) pe_str (nomark _)) (pss_one (ps_ret (pe_tup (pa_cons pe_str (pa_cons (pe_bm PySem.F.plainAttrs_list PySem.F.slot_list_index PySem.F.type_list_index mt_index (pe_ix ix_list (pv 0) pe_int (fun _ _ => rfl)) (pa_cons (pe_ix ix_tup (pv 1) pe_int (fun _ _ => rfl)) pa_nil)) (pa_cons (pc c_law_core hr (by first | decide | omega) (by rfl) (pa_cons (pv 0) (pa_cons (pe_ix ix_tup (pv 1) pe_int (fun _ _ => rfl)) pa_nil))) pa_nil)))))) pss_nil)
      (pss_cons (ps_if (pt_cmpR op_eq (pv 2) pe_str (nomark _)) (pss_one (ps_ret (pe_tup (pa_cons pe_str (pa_cons (pe_bm PySem.F.plainAttrs_list PySem.F.slot_list_index PySem.F.type_list_index mt_index (pe_ix ix_list (pv 0) pe_int (fun _ _ => rfl)) (pa_cons (pe_ix ix_tup (pv 1) pe_int (fun _ _ => rfl)) pa_nil)) (pa_cons (pe_bm PySem.F.plainAttrs_list PySem.F.slot_list_index PySem.F.type_list_index mt_index (pe_ix ix_list (pv 0) pe_int (fun _ _ => rfl)) (pa_cons (pe_ix ix_tup (pv 1) pe_int (fun _ _ => rfl)) pa_nil)) (pa_cons (pe_bm PySem.F.plainAttrs_list PySem.F.slot_list_index PySem.F.type_list_index mt_index (pe_ix ix_list (pv 0) pe_int (fun _ _ => rfl)) (pa_cons (pe_ix ix_tup (pv 1) pe_int (fun _ _ => rfl)) pa_nil)) pa_nil))))))) pss_nil)
      (pss_one (ps_ret (pe_tup (pa_cons pe_str pa_nil)))))))), ?_⟩
  cases s with
  | below c d =>
    obtain ⟨b, y, z, rfl, hs, hy, hz⟩ := dp3 hd
    have kc : c.dp < n := by have : max c.dp d.dp < n := hk; omega
    have kd : d.dp < n := by have : max c.dp d.dp < n := hk; omega
    refine gv_set (gv_ixT (j := 0) (gv_var rfl) hs (atI_nat (j := 0) rfl)) fun H1 e1 => ?_
    refine if_eqT rfl (by decide +kernel) ?_
    exact gd_ret (gd_t3 gd_str (gd_lcore (gv_var rfl) (hn.same e1) (gd_of (gv_ixT (j := 1) (gv_var rfl) (Same.seqT e1 hs) (atI_nat (j := 1) rfl)) (Dp.same e1 hy)) kc hm.1) (gd_lcore (gv_var rfl) (hn.same e1) (gd_of (gv_ixT (j := 2) (gv_var rfl) (Same.seqT e1 hs) (atI_nat (j := 2) rfl)) (Dp.same e1 hz)) kd hm.2)) fun v' H' e' h' => q v' H' (e1.trans e') h'
  | is x c =>
    obtain ⟨b, y, z, rfl, hs, hy, hz⟩ := dp3 hd
    cases dp_str hy
    refine gv_set (gv_ixT (j := 0) (gv_var rfl) hs (atI_nat (j := 0) rfl)) fun H1 e1 => ?_
    refine if_eqF rfl (by decide +kernel) (if_eqT rfl (by decide +kernel) ?_)
    exact gd_ret (gd_t3 gd_str (gv_idxLn (gv_ixL (j := 2) (gv_var rfl) (e1.seq h0) (atI_nat (j := 2) rfl)) (e1.seq h3) (gv_ixT (j := 1) (gv_var rfl) (Same.seqT e1 hs) (atI_nat (j := 1) rfl)) hm.1) (gd_lcore (gv_var rfl) (hn.same e1) (gd_of (gv_ixT (j := 2) (gv_var rfl) (Same.seqT e1 hs) (atI_nat (j := 2) rfl)) (Dp.same e1 hz)) hk hm.2)) fun v' H' e' h' => q v' H' (e1.trans e') h'
  | has x y z =>
    obtain ⟨b, y1, y2, y3, rfl, hs, d1, d2, d3⟩ := dp4 hd
    cases dp_str d1
    cases dp_str d2
    cases dp_str d3
    refine gv_set (gv_ixT (j := 0) (gv_var rfl) hs (atI_nat (j := 0) rfl)) fun H1 e1 => ?_
    refine if_eqF rfl (by decide +kernel) (if_eqF rfl (by decide +kernel) (if_eqT rfl (by decide +kernel) ?_))
    exact gd_ret (gd_t4 gd_str (gv_idxLn (gv_ixL (j := 2) (gv_var rfl) (e1.seq h0) (atI_nat (j := 2) rfl)) (e1.seq h3) (gv_ixT (j := 1) (gv_var rfl) (Same.seqT e1 hs) (atI_nat (j := 1) rfl)) hm.1) (gv_idxLn (gv_ixL (j := 1) (gv_var rfl) (e1.seq h0) (atI_nat (j := 1) rfl)) (e1.seq h2) (gv_ixT (j := 2) (gv_var rfl) (Same.seqT e1 hs) (atI_nat (j := 2) rfl)) hm.2.1) (gv_idxLn (gv_ixL (j := 2) (gv_var rfl) (e1.seq h0) (atI_nat (j := 2) rfl)) (e1.seq h3) (gv_ixT (j := 3) (gv_var rfl) (Same.seqT e1 hs) (atI_nat (j := 3) rfl)) hm.2.2)) fun v' H' e' h' => q v' H' (e1.trans e') h'
  | never =>
    obtain ⟨b, rfl, hs⟩ := dp1 hd
    refine gv_set (gv_ixT (j := 0) (gv_var rfl) hs (atI_nat (j := 0) rfl)) fun H1 e1 => ?_
    refine if_eqF rfl (by decide +kernel) (if_eqF rfl (by decide +kernel) (if_eqF rfl (by decide +kernel) ?_))
    exact gd_ret (σ := []) (gd_t1 gd_str) fun v' H' e' h' => q v' H' (e1.trans e') h'
  | _ => exact hq.elim
def spLParts (K : PySem.W.Frag) (n : Nat) : Sp := fun vs H Q _ => ∃ (a : Addr) (A B C : List (List Nat)) (v : V) (s : Stm), vs = [.ref a, v] ∧ NamL K H a A B C ∧ Dp K H v s.D ∧ s.dp < n ∧ s.In A B C ∧ s ≠ .never ∧ ∀ v' H', Same H H' → Dp K H' v' (partsD (ixOf A) (ixOf B) (ixOf C) s) → Q v' H'
theorem gv_bEq {b c : Bool} {σ : L2.St} {H : Hp} {ta tb : TE} (ha : GV ta σ H (.bl b)) (hb : GV tb σ H (.bl c)) : GV (tOp rEq ta tb) σ H (.bl (b == c)) := by
  have := gv_eq ha hb rfl
  rw [show decide (V.bl b = V.bl c) = (b == c) by cases b <;> cases c <;> rfl] at this
  exact this
theorem gv_sEq {s t : Str} {b : Bool} {σ : L2.St} {H : Hp} {ta tb : TE} (ha : GV ta σ H (.str s)) (hb : GV tb σ H (.str t)) (h : decide (s = t) = b) : GV (tOp rEq ta tb) σ H (.bl b) := by
  have := gv_eq ha hb rfl
  rw [show decide (V.str s = V.str t) = decide (s = t) by by_cases e : s = t <;> simp [e], h] at this
  exact this
theorem c_lparts {n m : Nat} (hm0 : 1 ≤ m) {f : Addr} {fd : FuncData} (D : Df K mg "_law_parts" s_law_parts f fd ["names", "tree"]) (c_law_core : Cl P w K mg base m "_law_core" (spLCore K n)) (c_law_asked : Cl P w K mg base (m + 1) "_law_asked" (spAsk K n)) : Cl P w K mg base (m + 2) "_law_parts" (spLParts K n) := by
  refine D.cl sc_law_parts (fun vs H Q E h => ?_) (fun cdv A outer s H vs Q E hr h => ?_)
  · obtain ⟨a, A, B, C, v, s, rfl, _⟩ := h
    rfl
  obtain ⟨a, A, B, C, v, s, rfl, hn, hd, hk, hm, hnv, q⟩ := h
  obtain ⟨t0, t1, t2, t3, h0, h1, h2, h3⟩ := hn.ex
  refine ⟨_, (pss_cons (ps_set (i := 2) sc_law_parts.nd rfl (.inl rfl) (pe_ix ix_tup (pv 1) pe_int (fun _ _ => rfl)))
      (pss_cons (ps_if (pt_cmpR op_in_seq (pv 2) (pe_tup (pa_cons pe_str (pa_cons pe_str (pa_cons pe_str pa_nil)))) rfl) (pss_cons (ps_set (i := 3) sc_law_parts.nd rfl (.inl rfl) (pc c_law_core hr (by first | decide | omega) (by rfl) (pa_cons (pv 0) (pa_cons (pe_ix ix_tup (pv 1) pe_int (fun _ _ => rfl)) pa_nil))))
      (pss_cons (ps_set (i := 4) sc_law_parts.nd rfl (.inl rfl) (pc c_law_core hr (by first | decide | omega) (by rfl) (pa_cons (pv 0) (pa_cons (pe_ix ix_tup (pv 1) pe_int (fun _ _ => rfl)) pa_nil))))
      (pss_cons (ps_if (pt_cmpR op_eq (pv 2) pe_str (nomark _)) (pss_one (ps_ret (pe_tup (pa_cons (pe_tup (pa_cons pe_str (pa_cons (pe_tup (pa_cons pe_str (pa_cons (pv 3) (pa_cons (pv 4) pa_nil)))) (pa_cons (pe_tup (pa_cons pe_str (pa_cons (pe_tup (pa_cons pe_str pa_nil)) pa_nil))) pa_nil)))) pa_nil)))) pss_nil)
      (pss_cons (ps_if (pt_cmpR op_eq (pv 2) pe_str (nomark _)) (pss_one (ps_ret (pe_tup (pa_cons (pe_tup (pa_cons pe_str (pa_cons (pv 3) (pa_cons (pv 4) pa_nil)))) (pa_cons (pe_tup (pa_cons pe_str (pa_cons (pv 4) (pa_cons (pv 3) pa_nil)))) pa_nil))))) pss_nil)
      (pss_one (ps_ret (pe_tup (pa_cons (pe_tup (pa_cons pe_str (pa_cons (pv 3) (pa_cons (pv 4) pa_nil)))) pa_nil)))))))) pss_nil)
      (pss_cons (ps_if (pt_cmpR op_in_seq (pv 2) (pe_tup (pa_cons pe_str (pa_cons pe_str pa_nil))) rfl) (pss_cons (ps_set (i := 5) sc_law_parts.nd rfl (.inl rfl) (pe_tup (pa_cons (pe_bm PySem.F.plainAttrs_list PySem.F.slot_list_index PySem.F.type_list_index mt_index (pe_ix ix_list (pv 0) pe_int (fun _ _ => rfl)) (pa_cons (pe_ix ix_tup (pe_ix ix_tup (pv 1) pe_int (fun _ _ => rfl)) pe_int (fun _ _ => rfl)) pa_nil)) (pa_cons (pe_cmpR op_eq (pe_ix ix_tup (pe_ix ix_tup (pv 1) pe_int (fun _ _ => rfl)) pe_int (fun _ _ => rfl)) (pe_cmpR op_eq (pv 2) pe_str (nomark _)) (nomark _)) pa_nil))))
      (pss_one (ps_ret (pe_tup (pa_cons (pe_tup (pa_cons pe_str (pa_cons (pe_tup (pa_cons pe_str (pa_cons (pv 5) (pa_cons (pe_tup (pa_cons pe_str pa_nil)) pa_nil)))) (pa_cons (pc c_law_core hr (by first | decide | omega) (by rfl) (pa_cons (pv 0) (pa_cons (pe_ix ix_tup (pv 1) pe_int (fun _ _ => rfl)) pa_nil))) pa_nil)))) pa_nil))))) pss_nil)
      (pss_cons (ps_if (pt_cmpR op_eq (pv 2) pe_str (nomark _)) (pss_cons (ps_set (i := 6) sc_law_parts.nd rfl (.inl rfl) (pe_tup (pa_cons (pe_bm PySem.F.plainAttrs_list PySem.F.slot_list_index PySem.F.type_list_index mt_index (pe_ix ix_list (pv 0) pe_int (fun _ _ => rfl)) (pa_cons (pe_ix ix_tup (pe_ix ix_tup (pv 1) pe_int (fun _ _ => rfl)) pe_int (fun _ _ => rfl)) pa_nil)) (pa_cons (pe_ix ix_tup (pe_ix ix_tup (pv 1) pe_int (fun _ _ => rfl)) pe_int (fun _ _ => rfl)) pa_nil))))
      (pss_one (ps_ret (pe_tup (pa_cons (pe_tup (pa_cons pe_str (pa_cons (pv 6) (pa_cons (pe_tup (pa_cons (pe_bm PySem.F.plainAttrs_list PySem.F.slot_list_index PySem.F.type_list_index mt_index (pe_ix ix_list (pv 0) pe_int (fun _ _ => rfl)) (pa_cons (pe_ix ix_tup (pe_ix ix_tup (pv 1) pe_int (fun _ _ => rfl)) pe_int (fun _ _ => rfl)) pa_nil)) (pa_cons (pe_ix ix_tup (pe_ix ix_tup (pv 1) pe_int (fun _ _ => rfl)) pe_int (fun _ _ => rfl)) pa_nil))) pa_nil)))) pa_nil))))) pss_nil)
      (pss_cons (ps_if (pt_cmpR op_eq (pv 2) pe_str (nomark _)) (pss_cons (ps_set (i := 6) sc_law_parts.nd rfl (.inl rfl) (pe_bm PySem.F.plainAttrs_list PySem.F.slot_list_index PySem.F.type_list_index mt_index (pe_ix ix_list (pv 0) pe_int (fun _ _ => rfl)) (pa_cons (pe_ix ix_tup (pv 1) pe_int (fun _ _ => rfl)) pa_nil)))
      (pss_cons (ps_set (i := 7) sc_law_parts.nd rfl (.inl rfl) (pe_bm PySem.F.plainAttrs_list PySem.F.slot_list_index PySem.F.type_list_index mt_index (pe_ix ix_list (pv 0) pe_int (fun _ _ => rfl)) (pa_cons (pe_ix ix_tup (pv 1) pe_int (fun _ _ => rfl)) pa_nil)))
      (pss_one (ps_ret (pe_tup (pa_cons (pe_tup (pa_cons pe_str (pa_cons (pe_tup (pa_cons (pv 6) (pa_cons pe_bl pa_nil))) (pa_cons (pe_tup (pa_cons (pv 7) (pa_cons pe_bl pa_nil))) pa_nil)))) (pa_cons (pe_tup (pa_cons pe_str (pa_cons (pe_tup (pa_cons (pv 7) (pa_cons pe_bl pa_nil))) (pa_cons (pe_tup (pa_cons (pv 6) (pa_cons pe_bl pa_nil))) pa_nil)))) pa_nil))))))) pss_nil)
      (pss_one (ps_ret (pe_tup (pa_cons (pc c_law_asked hr (by first | decide | omega) (by rfl) (pa_cons (pv 0) (pa_cons (pv 1) pa_nil))) pa_nil))))))))), ?_⟩
  cases s with
  | never => exact absurd rfl hnv
  | is x c =>
    obtain ⟨b, y, z, rfl, hs, hy, hz⟩ := dp3 hd
    refine gv_set (gv_ixT (j := 0) (gv_var rfl) hs (atI_nat (j := 0) rfl)) fun H1 e1 => ?_
    refine if_inF rfl gds_3 (by decide +kernel) (by decide +kernel) fun H2 e2 => ?_
    refine if_inF rfl gds_2 (by decide +kernel) (by decide +kernel) fun H3 e3 => ?_
    have e13 := (e1.trans e2).trans e3
    refine if_eqF rfl (by decide +kernel) (if_eqF rfl (by decide +kernel) ?_)
    exact gd_ret (gd_t1 (gd_ask (s := .is x c) (gv_var rfl) (hn.same e13) (gd_var rfl (Dp.same e13 hd)) hk hm trivial)) fun v' H' e' h' => q v' H' (e13.trans e') h'
  | has x y z =>
    obtain ⟨b, y1, y2, y3, rfl, hs, d1, d2, d3⟩ := dp4 hd
    refine gv_set (gv_ixT (j := 0) (gv_var rfl) hs (atI_nat (j := 0) rfl)) fun H1 e1 => ?_
    refine if_inF rfl gds_3 (by decide +kernel) (by decide +kernel) fun H2 e2 => ?_
    refine if_inF rfl gds_2 (by decide +kernel) (by decide +kernel) fun H3 e3 => ?_
    have e13 := (e1.trans e2).trans e3
    refine if_eqF rfl (by decide +kernel) (if_eqF rfl (by decide +kernel) ?_)
    exact gd_ret (gd_t1 (gd_ask (s := .has x y z) (gv_var rfl) (hn.same e13) (gd_var rfl (Dp.same e13 hd)) hk hm trivial)) fun v' H' e' h' => q v' H' (e13.trans e') h'
  | below c d =>
    obtain ⟨b, y, z, rfl, hs, hy, hz⟩ := dp3 hd
    have kc : c.dp < n := by have : max c.dp d.dp < n := hk; omega
    have kd : d.dp < n := by have : max c.dp d.dp < n := hk; omega
    refine gv_set (gv_ixT (j := 0) (gv_var rfl) hs (atI_nat (j := 0) rfl)) fun H1 e1 => ?_
    refine if_inT rfl gds_3 (by decide +kernel) (by decide +kernel) fun H2 e2 => ?_
    have e12 := e1.trans e2
    refine gd_set (gd_lcore (gv_var rfl) (hn.same e12) (gd_of (gv_ixT (j := 1) (gv_var rfl) (Same.seqT e12 hs) (atI_nat (j := 1) rfl)) (Dp.same e12 hy)) kc hm.1) fun v1 H3 e3 d1 => ?_
    have e13 := e12.trans e3
    refine gd_set (gd_lcore (gv_var rfl) (hn.same e13) (gd_of (gv_ixT (j := 2) (gv_var rfl) (Same.seqT e13 hs) (atI_nat (j := 2) rfl)) (Dp.same e13 hz)) kd hm.2) fun v2 H4 e4 d2 => ?_
    refine if_eqF rfl (by decide +kernel) (if_eqF rfl (by decide +kernel) ?_)
    exact gd_ret (gd_t1 (gd_t3 gd_str (gd_var rfl (Dp.same e4 d1)) (gd_var rfl d2))) fun v' H' e' h' => q v' H' ((e13.trans e4).trans e') h'
  | equals c d =>
    obtain ⟨b, y, z, rfl, hs, hy, hz⟩ := dp3 hd
    have kc : c.dp < n := by have : max c.dp d.dp < n := hk; omega
    have kd : d.dp < n := by have : max c.dp d.dp < n := hk; omega
    refine gv_set (gv_ixT (j := 0) (gv_var rfl) hs (atI_nat (j := 0) rfl)) fun H1 e1 => ?_
    refine if_inT rfl gds_3 (by decide +kernel) (by decide +kernel) fun H2 e2 => ?_
    have e12 := e1.trans e2
    refine gd_set (gd_lcore (gv_var rfl) (hn.same e12) (gd_of (gv_ixT (j := 1) (gv_var rfl) (Same.seqT e12 hs) (atI_nat (j := 1) rfl)) (Dp.same e12 hy)) kc hm.1) fun v1 H3 e3 d1 => ?_
    have e13 := e12.trans e3
    refine gd_set (gd_lcore (gv_var rfl) (hn.same e13) (gd_of (gv_ixT (j := 2) (gv_var rfl) (Same.seqT e13 hs) (atI_nat (j := 2) rfl)) (Dp.same e13 hz)) kd hm.2) fun v2 H4 e4 d2 => ?_
    refine if_eqF rfl (by decide +kernel) (if_eqT rfl (by decide +kernel) ?_)
    exact gd_ret (gd_t2 (gd_t3 gd_str (gd_var rfl (Dp.same e4 d1)) (gd_var rfl d2)) (gd_t3 gd_str (gd_var rfl d2) (gd_var rfl (Dp.same e4 d1)))) fun v' H' e' h' => q v' H' ((e13.trans e4).trans e') h'
  | apart c d =>
    obtain ⟨b, y, z, rfl, hs, hy, hz⟩ := dp3 hd
    have kc : c.dp < n := by have : max c.dp d.dp < n := hk; omega
    have kd : d.dp < n := by have : max c.dp d.dp < n := hk; omega
    refine gv_set (gv_ixT (j := 0) (gv_var rfl) hs (atI_nat (j := 0) rfl)) fun H1 e1 => ?_
    refine if_inT rfl gds_3 (by decide +kernel) (by decide +kernel) fun H2 e2 => ?_
    have e12 := e1.trans e2
    refine gd_set (gd_lcore (gv_var rfl) (hn.same e12) (gd_of (gv_ixT (j := 1) (gv_var rfl) (Same.seqT e12 hs) (atI_nat (j := 1) rfl)) (Dp.same e12 hy)) kc hm.1) fun v1 H3 e3 d1 => ?_
    have e13 := e12.trans e3
    refine gd_set (gd_lcore (gv_var rfl) (hn.same e13) (gd_of (gv_ixT (j := 2) (gv_var rfl) (Same.seqT e13 hs) (atI_nat (j := 2) rfl)) (Dp.same e13 hz)) kd hm.2) fun v2 H4 e4 d2 => ?_
    refine if_eqT rfl (by decide +kernel) ?_
    exact gd_ret (gd_t1 (gd_t3 gd_str (gd_t3 gd_str (gd_var rfl (Dp.same e4 d1)) (gd_var rfl d2)) (gd_t2 gd_str (gd_t1 gd_str)))) fun v' H' e' h' => q v' H' ((e13.trans e4).trans e') h'
  | domain r c =>
    obtain ⟨b, y, z, rfl, hs, hy, hz⟩ := dp3 hd
    obtain ⟨br, rfl, hsr⟩ := dpRol hy
    refine gv_set (gv_ixT (j := 0) (gv_var rfl) hs (atI_nat (j := 0) rfl)) fun H1 e1 => ?_
    refine if_inF rfl gds_3 (by decide +kernel) (by decide +kernel) fun H2 e2 => ?_
    refine if_inT rfl gds_2 (by decide +kernel) (by decide +kernel) fun H3 e3 => ?_
    have e13 := (e1.trans e2).trans e3
    refine gd_set (d := rolF (ixOf B r.1) (r.2 == true)) (gd_t2 (gv_idxLn (gv_ixL (j := 1) (gv_var rfl) (e13.seq h0) (atI_nat (j := 1) rfl)) (e13.seq h2) (gv_ixT (gv_ixT (j := 1) (gv_var rfl) (Same.seqT e13 hs) (atI_nat (j := 1) rfl)) (Same.seqT e13 hsr) (atI_nat (j := 0) rfl)) hm.1)
      (gd_bl (gv_bEq (gv_ixT (gv_ixT (j := 1) (gv_var rfl) (Same.seqT e13 hs) (atI_nat (j := 1) rfl)) (Same.seqT e13 hsr) (atI_nat (j := 1) rfl)) (gv_sEq (gv_var rfl) gv_c (by decide +kernel))))) fun v1 H4 e4 d1 => ?_
    have e14 := e13.trans e4
    rw [show rolF (ixOf B r.1) (r.2 == true) = rolC (ixOf B) r by cases h : r.2 <;> simp [rolF, rolC, h]] at d1
    exact gd_ret (gd_t1 (gd_t3 gd_str (gd_t3 gd_str (gd_var rfl d1) (gd_t1 gd_str)) (gd_lcore (gv_var rfl) (hn.same e14) (gd_of (gv_ixT (j := 2) (gv_var rfl) (Same.seqT e14 hs) (atI_nat (j := 2) rfl)) (Dp.same e14 hz)) hk hm.2))) fun v' H' e' h' => q v' H' (e14.trans e') h'
  | range r c =>
    obtain ⟨b, y, z, rfl, hs, hy, hz⟩ := dp3 hd
    obtain ⟨br, rfl, hsr⟩ := dpRol hy
    refine gv_set (gv_ixT (j := 0) (gv_var rfl) hs (atI_nat (j := 0) rfl)) fun H1 e1 => ?_
    refine if_inF rfl gds_3 (by decide +kernel) (by decide +kernel) fun H2 e2 => ?_
    refine if_inT rfl gds_2 (by decide +kernel) (by decide +kernel) fun H3 e3 => ?_
    have e13 := (e1.trans e2).trans e3
    refine gd_set (d := rolF (ixOf B r.1) (r.2 == false)) (gd_t2 (gv_idxLn (gv_ixL (j := 1) (gv_var rfl) (e13.seq h0) (atI_nat (j := 1) rfl)) (e13.seq h2) (gv_ixT (gv_ixT (j := 1) (gv_var rfl) (Same.seqT e13 hs) (atI_nat (j := 1) rfl)) (Same.seqT e13 hsr) (atI_nat (j := 0) rfl)) hm.1)
      (gd_bl (gv_bEq (gv_ixT (gv_ixT (j := 1) (gv_var rfl) (Same.seqT e13 hs) (atI_nat (j := 1) rfl)) (Same.seqT e13 hsr) (atI_nat (j := 1) rfl)) (gv_sEq (gv_var rfl) gv_c (by decide +kernel))))) fun v1 H4 e4 d1 => ?_
    have e14 := e13.trans e4
    rw [show rolF (ixOf B r.1) (r.2 == false) = rolI (ixOf B) r by cases h : r.2 <;> simp [rolF, rolI, h]] at d1
    exact gd_ret (gd_t1 (gd_t3 gd_str (gd_t3 gd_str (gd_var rfl d1) (gd_t1 gd_str)) (gd_lcore (gv_var rfl) (hn.same e14) (gd_of (gv_ixT (j := 2) (gv_var rfl) (Same.seqT e14 hs) (atI_nat (j := 2) rfl)) (Dp.same e14 hz)) hk hm.2))) fun v' H' e' h' => q v' H' (e14.trans e') h'
  | under r r' =>
    obtain ⟨b, y, z, rfl, hs, hy, hz⟩ := dp3 hd
    obtain ⟨br, rfl, hsr⟩ := dpRol hy
    obtain ⟨br2, rfl, hsr2⟩ := dpRol hz
    refine gv_set (gv_ixT (j := 0) (gv_var rfl) hs (atI_nat (j := 0) rfl)) fun H1 e1 => ?_
    refine if_inF rfl gds_3 (by decide +kernel) (by decide +kernel) fun H2 e2 => ?_
    refine if_inF rfl gds_2 (by decide +kernel) (by decide +kernel) fun H3 e3 => ?_
    have e13 := (e1.trans e2).trans e3
    refine if_eqT rfl (by decide +kernel) ?_
    refine gd_set (d := rolC (ixOf B) r) (gd_t2 (gv_idxLn (gv_ixL (j := 1) (gv_var rfl) (e13.seq h0) (atI_nat (j := 1) rfl)) (e13.seq h2) (gv_ixT (gv_ixT (j := 1) (gv_var rfl) (Same.seqT e13 hs) (atI_nat (j := 1) rfl)) (Same.seqT e13 hsr) (atI_nat (j := 0) rfl)) hm.1) (gd_bl (gv_ixT (gv_ixT (j := 1) (gv_var rfl) (Same.seqT e13 hs) (atI_nat (j := 1) rfl)) (Same.seqT e13 hsr) (atI_nat (j := 1) rfl)))) fun v1 H4 e4 d1 => ?_
    have e14 := e13.trans e4
    exact gd_ret (gd_t1 (gd_t3 gd_str (gd_var rfl d1) (gd_t2 (gv_idxLn (gv_ixL (j := 1) (gv_var rfl) (e14.seq h0) (atI_nat (j := 1) rfl)) (e14.seq h2) (gv_ixT (gv_ixT (j := 2) (gv_var rfl) (Same.seqT e14 hs) (atI_nat (j := 2) rfl)) (Same.seqT e14 hsr2) (atI_nat (j := 0) rfl)) hm.2) (gd_bl (gv_ixT (gv_ixT (j := 2) (gv_var rfl) (Same.seqT e14 hs) (atI_nat (j := 2) rfl)) (Same.seqT e14 hsr2) (atI_nat (j := 1) rfl)))))) fun v' H' e' h' => q v' H' (e14.trans e') h'
  | inverse x1 x2 =>
    obtain ⟨b, y, z, rfl, hs, hy, hz⟩ := dp3 hd
    cases dp_str hy
    cases dp_str hz
    refine gv_set (gv_ixT (j := 0) (gv_var rfl) hs (atI_nat (j := 0) rfl)) fun H1 e1 => ?_
    refine if_inF rfl gds_3 (by decide +kernel) (by decide +kernel) fun H2 e2 => ?_
    refine if_inF rfl gds_2 (by decide +kernel) (by decide +kernel) fun H3 e3 => ?_
    have e13 := (e1.trans e2).trans e3
    refine if_eqF rfl (by decide +kernel) (if_eqT rfl (by decide +kernel) ?_)
    refine gd_set (gv_idxLn (gv_ixL (j := 1) (gv_var rfl) (e13.seq h0) (atI_nat (j := 1) rfl)) (e13.seq h2) (gv_ixT (j := 1) (gv_var rfl) (Same.seqT e13 hs) (atI_nat (j := 1) rfl)) hm.1) fun v1 H4 e4 d1 => ?_
    have e14 := e13.trans e4
    refine gd_set (gv_idxLn (gv_ixL (j := 1) (gv_var rfl) (e14.seq h0) (atI_nat (j := 1) rfl)) (e14.seq h2) (gv_ixT (j := 2) (gv_var rfl) (Same.seqT e14 hs) (atI_nat (j := 2) rfl)) hm.2) fun v2 H5 e5 d2 => ?_
    have f1 := Dp.same e5 d1
    exact gd_ret (gd_t2 (gd_t3 gd_str (gd_t2 (gd_var rfl f1) (gd_bl gv_c)) (gd_t2 (gd_var rfl d2) (gd_bl gv_c))) (gd_t3 gd_str (gd_t2 (gd_var rfl d2) (gd_bl gv_c)) (gd_t2 (gd_var rfl f1) (gd_bl gv_c)))) fun v' H' e' h' => q v' H' ((e14.trans e5).trans e') h'
theorem cutI_to {α : Type} (ds : List α) (n : Nat) : cutI ds none (some (n : Int)) = ds.take n := by
  unfold cutI
  rw [HT.sIx_none, HT.sIx_nat, List.drop_zero, Nat.sub_zero, ← List.take_eq_take_min]
theorem cut_strs (ns : List (List Nat)) (n : Nat) : cutV (strsV ns) none (some (n : Int)) = strsV (ns.take n) := by
  unfold strsV
  rw [cutV_map, cutI_to]
theorem nmL_cut (l r m : List Nat) (n : Nat) : (nmL l r m).take n = nmL l r (m.take n) := by
  unfold nmL
  rw [List.map_take]
def spTold (K : PySem.W.Frag) : Sp := fun vs H Q _ => ∃ (nm z : Addr) (l r : List Nat) (p0 p1 p2 p3 : Addr) (S : Sz), vs = [.ref nm, .ref z] ∧ NA H l r nm p0 p1 p2 p3 ∧ SqT K H z S.vs ∧
  ∀ a H', Same H H' → NamT K H' a (nmL l r (mk0.take S.a)) (nmL l r (mk1.take S.b)) (nmL l r (mk2.take S.c)) → Q (.ref a) H'
theorem tup_cut {σ : L2.St} {H : Hp} {R : VK} {i j k : Nat} {nm z p : Addr} {ps : List V} {zs : List V} {ns : List (List Nat)} {n : Nat} (hi : σ[i]? = some (some (.ref nm))) (hk : σ[k]? = some (some (.ref z))) (hn : SqL K H nm ps) (hz : SqT K H z zs) (hp : ps[j]? = some (.ref p)) (hs : SqL K H p (strsV ns)) (hzj : zs[j]? = some (.int (n : Int)))
    (q : ∀ l H', Same H H' → SqT K H' l (strsV (ns.take n)) → FzT K H' l → R (.ref l) H') :
    tCB (fun xs H Q => ∃ p ys, xs = [.ref p] ∧ SqL K H p ys ∧ ∀ l o, H l = none → PlainT o → Q (.ref l) (upd H l (.frz o (.tup ys)))) (tCons (tSl (rSlL K) (tOp (rIxL K) (tVar i) (tC (.int (j : Int)))) tNoPart (tPart (tOp (rIxT K) (tVar k) (tC (.int (j : Int)))))) tNil) σ H R := by
  refine ⟨_, hi, nm, ps, _, _, rfl, rfl, hn, atI_nat hp, _, hk, z, zs, _, _, rfl, rfl, hz, atI_nat hzj, (n : Int), rfl, p, strsV ns, rfl, hs, fun u hu => ⟨u, _, rfl, SqL.of upd_same, fun v o hv ho => ?_⟩⟩
  rw [cut_strs] at hv ⊢
  exact q v _ ((Same.new _ hu).trans (Same.new _ hv)) (.inl (.inr ⟨o, upd_same⟩)) (.inl ⟨o, _, upd_same, ho⟩)
theorem ret3 {σ : L2.St} {H : Hp} {D : Ends} {ta tb te : TE} (h : ta σ H fun x H1 => tb σ H1 fun y H2 => te σ H2 fun z H3 => 3 ≤ sizeLine ∧ ∀ p, H3 p = none → D.rt (.ref p) (upd H3 p (.tup [x, y, z]))) : tRet (tTup (tCons ta (tCons tb (tCons te tNil)))) D σ H := h
theorem c_told {f : Addr} {fd : FuncData} (D : Df K mg "_law_told_names" s_law_told_names f fd ["names", "sizes"]) (z_tuple : mg "tuple" = none) : Cl P w K mg base 1 "_law_told_names" (spTold K) := by
  refine D.cl sc_law_told_names (fun vs H Q E h => ?_) (fun cdv A outer s H vs Q E hr h => ?_)
  · obtain ⟨nm, z, l, r, p0, p1, p2, p3, S, rfl, _⟩ := h
    rfl
  obtain ⟨nm, z, l, r, p0, p1, p2, p3, S, rfl, na, hz, q⟩ := h
  refine ⟨_, (pss_one (ps_ret (pe_tup (pa_cons (pe_callTy call_tupleF (by rfl) z_tuple (by decide +kernel) (pa_cons (pe_slice sl_list (pe_ix ix_list (pv 0) pe_int (fun _ _ => rfl)) po_none (po_some (pe_ix ix_tup (pv 1) pe_int (fun _ _ => rfl)))) pa_nil)) (pa_cons (pe_callTy call_tupleF (by rfl) z_tuple (by decide +kernel) (pa_cons (pe_slice sl_list (pe_ix ix_list (pv 0) pe_int (fun _ _ => rfl)) po_none (po_some (pe_ix ix_tup (pv 1) pe_int (fun _ _ => rfl)))) pa_nil)) (pa_cons (pe_callTy call_tupleF (by rfl) z_tuple (by decide +kernel) (pa_cons (pe_slice sl_list (pe_ix ix_list (pv 0) pe_int (fun _ _ => rfl)) po_none (po_some (pe_ix ix_tup (pv 1) pe_int (fun _ _ => rfl)))) pa_nil)) pa_nil)))))), ?_⟩
  refine ret3 ?_
  refine tup_cut (σ := [some (.ref nm), some (.ref z)]) (i := 0) (k := 1) (j := 0) (n := S.a) rfl rfl (SqL.of na.top) hz rfl (SqL.of na.a0) rfl fun a0 H1 e1 s0 f0 => ?_
  refine tup_cut (σ := [some (.ref nm), some (.ref z)]) (i := 0) (k := 1) (j := 1) (n := S.b) rfl rfl (SqL.of (na.same e1).top) (Same.seqT e1 hz) rfl (SqL.of (na.same e1).a1) rfl fun a1 H2 e2 s1 f1 => ?_
  have e12 := e1.trans e2
  refine tup_cut (σ := [some (.ref nm), some (.ref z)]) (i := 0) (k := 1) (j := 2) (n := S.c) rfl rfl (SqL.of (na.same e12).top) (Same.seqT e12 hz) rfl (SqL.of (na.same e12).a2) rfl fun a2 H3 e3 s2 f2 => ?_
  refine ⟨by show 3 ≤ sizeLine; decide, fun p hp => ?_⟩
  have e4 := Same.new (.tup [.ref a0, .ref a1, .ref a2]) hp
  rw [nmL_cut] at s0 s1 s2
  exact q p _ ((e12.trans e3).trans e4) ⟨a0, a1, a2, .of upd_same, ⟨Same.seqT ((e2.trans e3).trans e4) s0, f0.same ((e2.trans e3).trans e4)⟩, ⟨Same.seqT (e3.trans e4) s1, f1.same (e3.trans e4)⟩, Same.seqT e4 s2, f2.same e4⟩
/-! the same names in the lists and in the tuples -/
theorem nmL_app (l r m : List Nat) (n : Nat) : nmL l r m = nmL l r (m.take n) ++ nmL l r (m.drop n) := by
  unfold nmL
  rw [← List.map_append, List.take_append_drop]
theorem ix_cut {l r m : List Nat} {n : Nat} {s : List Nat} (h : s ∈ nmL l r (m.take n)) : ixOf (nmL l r (m.take n)) s = ixOf (nmL l r m) s := by
  rw [nmL_app l r m n]
  show List.idxOf _ _ = List.idxOf _ _
  rw [List.idxOf_append, if_pos h]
theorem coreD_congr {A B : List (List Nat)} {f f' g g' : List Nat → Nat} (hf : ∀ s ∈ A, f s = f' s) (hg : ∀ s ∈ B, g s = g' s) : ∀ {c : Con}, c.In A B → coreD f g c = coreD f' g' c
  | .any, _ => rfl
  | .nothing, _ => rfl
  | .name s, h => by show nameD (f s) = nameD (f' s); rw [hf s h]
  | .not c, h => by show notD _ = notD _; rw [coreD_congr hf hg (c := c) h]
  | .both c d, h => by show andD _ _ = andD _ _; rw [coreD_congr hf hg h.1, coreD_congr hf hg h.2]
  | .either c d, h => by show notD (andD (notD _) (notD _)) = notD (andD (notD _) (notD _)); rw [coreD_congr hf hg h.1, coreD_congr hf hg h.2]
  | .some r c, h => by show someD (rolC g r) _ = someD (rolC g' r) _; unfold rolC; rw [hg _ h.1, coreD_congr hf hg h.2]
  | .all r c, h => by show notD (someD (rolC g r) (notD _)) = notD (someD (rolC g' r) (notD _)); unfold rolC; rw [hg _ h.1, coreD_congr hf hg h.2]
theorem questD_congr {A B C : List (List Nat)} {f f' g g' k k' : List Nat → Nat} (hf : ∀ s ∈ A, f s = f' s) (hg : ∀ s ∈ B, g s = g' s) (hk : ∀ s ∈ C, k s = k' s) : ∀ {s : Stm}, s.In A B C → questD f g k s = questD f' g' k' s
  | .below c d, h => by show belowD _ _ = belowD _ _; rw [coreD_congr hf hg h.1, coreD_congr hf hg h.2]
  | .is a c, h => by show PyData.tuple [_, .int (k a : Int), _] = .tuple [_, .int (k' a : Int), _]; rw [hk _ h.1, coreD_congr hf hg h.2]
  | .has a b c, h => by show PyData.tuple [_, .int (k a : Int), .int (g b : Int), .int (k c : Int)] = .tuple [_, .int (k' a : Int), .int (g' b : Int), .int (k' c : Int)]; rw [hk _ h.1, hg _ h.2.1, hk _ h.2.2]
  | .equals _ _, _ => rfl
  | .apart _ _, _ => rfl
  | .domain _ _, _ => rfl
  | .range _ _, _ => rfl
  | .under _ _, _ => rfl
  | .inverse _ _, _ => rfl
  | .never, _ => rfl
theorem partsD_congr {A B C : List (List Nat)} {f f' g g' k k' : List Nat → Nat} (hf : ∀ s ∈ A, f s = f' s) (hg : ∀ s ∈ B, g s = g' s) (hk : ∀ s ∈ C, k s = k' s) : ∀ {s : Stm}, s.In A B C → partsD f g k s = partsD f' g' k' s
  | .equals c d, h => by show PyData.tuple [belowD _ _, belowD _ _] = .tuple [belowD _ _, belowD _ _]; rw [coreD_congr hf hg h.1, coreD_congr hf hg h.2]
  | .apart c d, h => by show PyData.tuple [belowD (andD _ _) _] = .tuple [belowD (andD _ _) _]; rw [coreD_congr hf hg h.1, coreD_congr hf hg h.2]
  | .domain r c, h => by show PyData.tuple [belowD (someD (rolC g r) _) _] = .tuple [belowD (someD (rolC g' r) _) _]; unfold rolC; rw [hg _ h.1, coreD_congr hf hg h.2]
  | .range r c, h => by show PyData.tuple [belowD (someD (rolI g r) _) _] = .tuple [belowD (someD (rolI g' r) _) _]; unfold rolI; rw [hg _ h.1, coreD_congr hf hg h.2]
  | .under r s, h => by show PyData.tuple [underD (rolC g r) (rolC g s)] = .tuple [underD (rolC g' r) (rolC g' s)]; unfold rolC; rw [hg _ h.1, hg _ h.2]
  | .inverse a b, h => by show PyData.tuple [underD (rolF (g a) _) (rolF (g b) _), underD (rolF (g b) _) (rolF (g a) _)] = .tuple [underD (rolF (g' a) _) (rolF (g' b) _), underD (rolF (g' b) _) (rolF (g' a) _)]; rw [hg _ h.1, hg _ h.2]
  | .below c d, h => congrArg (fun z => PyData.tuple [z]) (questD_congr hf hg hk h)
  | .is a c, h => congrArg (fun z => PyData.tuple [z]) (questD_congr hf hg hk h)
  | .has a b c, h => congrArg (fun z => PyData.tuple [z]) (questD_congr hf hg hk h)
  | .never, _ => rfl
theorem Con.Ok.toIn {l r : List Nat} {S : Sz} : ∀ {c : Con}, c.Ok l r S → c.In (nmL l r (mk0.take S.a)) (nmL l r (mk1.take S.b))
  | .any, _ => trivial
  | .nothing, _ => trivial
  | .name _, h => h
  | .not c, h => Con.Ok.toIn (c := c) h
  | .both _ _, h => ⟨Con.Ok.toIn h.1, Con.Ok.toIn h.2⟩
  | .either _ _, h => ⟨Con.Ok.toIn h.1, Con.Ok.toIn h.2⟩
  | .some _ _, h => ⟨h.1, Con.Ok.toIn h.2⟩
  | .all _ _, h => ⟨h.1, Con.Ok.toIn h.2⟩
theorem Stm.Ok.toIn {l r : List Nat} {S : Sz} {s : Stm} (h : s.Ok l r S) : s.In (nmL l r (mk0.take S.a)) (nmL l r (mk1.take S.b)) (nmL l r (mk2.take S.c)) := by
  cases s <;> first | exact h | exact ⟨h.1.toIn, h.2.toIn⟩ | exact ⟨h.1, h.2.toIn⟩
theorem Con.In.le {A A' B B' : List (List Nat)} (ha : ∀ s ∈ A, s ∈ A') (hb : ∀ s ∈ B, s ∈ B') : ∀ {c : Con}, c.In A B → c.In A' B'
  | .any, _ => trivial
  | .nothing, _ => trivial
  | .name _, h => ha _ h
  | .not c, h => Con.In.le ha hb (c := c) h
  | .both _ _, h => ⟨Con.In.le ha hb h.1, Con.In.le ha hb h.2⟩
  | .either _ _, h => ⟨Con.In.le ha hb h.1, Con.In.le ha hb h.2⟩
  | .some _ _, h => ⟨hb _ h.1, Con.In.le ha hb h.2⟩
  | .all _ _, h => ⟨hb _ h.1, Con.In.le ha hb h.2⟩
theorem Stm.In.le {A A' B B' C C' : List (List Nat)} (ha : ∀ s ∈ A, s ∈ A') (hb : ∀ s ∈ B, s ∈ B') (hc : ∀ s ∈ C, s ∈ C') {s : Stm} (h : s.In A B C) : s.In A' B' C' := by
  cases s <;> first | exact ⟨h.1.le ha hb, h.2.le ha hb⟩ | exact ⟨hb _ h.1, h.2.le ha hb⟩ | exact ⟨hc _ h.1, h.2.le ha hb⟩ | exact ⟨hb _ h.1, hb _ h.2⟩ | exact ⟨hc _ h.1, hb _ h.2.1, hc _ h.2.2⟩ | trivial
/-! how deep the data is -/
theorem notD_tn {n : Nat} {d : PyData} (h : TupN (n + 1) d) : TupN (n + 2) (notD d) := tup2 trivial h
theorem andD_tn {n : Nat} {d e : PyData} (h : TupN (n + 1) d) (h' : TupN (n + 1) e) : TupN (n + 2) (andD d e) := tup3 trivial h h'
theorem someD_tn {n : Nat} {d e : PyData} (h : TupN (n + 1) d) (h' : TupN (n + 1) e) : TupN (n + 2) (someD d e) := tup3 trivial h h'
theorem belowD_tn {n : Nat} {d e : PyData} (h : TupN (n + 1) d) (h' : TupN (n + 1) e) : TupN (n + 2) (belowD d e) := tup3 trivial h h'
theorem underD_tn {n : Nat} {d e : PyData} (h : TupN (n + 1) d) (h' : TupN (n + 1) e) : TupN (n + 2) (underD d e) := tup3 trivial h h'
theorem anyD_tn : TupN 2 anyD := tup1 trivial
theorem rolF_tn {n : Nat} {b : Bool} : TupN 2 (rolF n b) := tup2 trivial trivial
theorem coreD_tn (f g : List Nat → Nat) : ∀ c : Con, TupN (3 * c.dp + 3) (coreD f g c)
  | .any => anyD_tn.le (by omega)
  | .nothing => notD_tn anyD_tn
  | .name s => (tup2 (n := 1) trivial trivial : TupN 2 (nameD (f s))).le (by omega)
  | .not c => (notD_tn (n := 3 * c.dp + 2) (coreD_tn f g c)).le (by show 3 * c.dp + 4 ≤ 3 * (c.dp + 1) + 3; omega)
  | .both c d => (andD_tn (n := 3 * max c.dp d.dp + 2) ((coreD_tn f g c).le (by omega)) ((coreD_tn f g d).le (by omega))).le (by show _ ≤ 3 * (max c.dp d.dp + 1) + 3; omega)
  | .either c d => (notD_tn (andD_tn (notD_tn (n := 3 * max c.dp d.dp + 2) ((coreD_tn f g c).le (by omega))) (notD_tn ((coreD_tn f g d).le (by omega))))).le (by show _ ≤ 3 * (max c.dp d.dp + 1) + 3; omega)
  | .some r c => (someD_tn (n := 3 * c.dp + 2) ((rolF_tn (n := g r.1) (b := r.2)).le (by omega)) (coreD_tn f g c)).le (by show _ ≤ 3 * (c.dp + 1) + 3; omega)
  | .all r c => (notD_tn (someD_tn (n := 3 * c.dp + 3) ((rolF_tn (n := g r.1) (b := r.2)).le (by omega)) (notD_tn (coreD_tn f g c)))).le (by show _ ≤ 3 * (c.dp + 1) + 3; omega)
theorem questD_tn (f g h : List Nat → Nat) (s : Stm) : TupN (3 * s.dp + 4) (questD f g h s) := by
  cases s with
  | below c d => exact belowD_tn (n := 3 * max c.dp d.dp + 2) ((coreD_tn f g c).le (by omega)) ((coreD_tn f g d).le (by omega))
  | is a c => exact tup3 trivial trivial (coreD_tn f g c)
  | has a b c => exact tup4 trivial trivial trivial trivial
  | _ => exact tup1 trivial
theorem partsD_tn (f g h : List Nat → Nat) (s : Stm) : TupN (3 * s.dp + 8) (partsD f g h s) := by
  cases s with
  | equals c d =>
    have h1 : TupN (3 * max c.dp d.dp + 6 + 1) (coreD f g c) := (coreD_tn f g c).le (by omega)
    have h2 : TupN (3 * max c.dp d.dp + 6) (coreD f g c) := (coreD_tn f g c).le (by omega)
    have h3 : TupN (3 * max c.dp d.dp + 6) (coreD f g d) := (coreD_tn f g d).le (by omega)
    exact tup2 (n := 3 * max c.dp d.dp + 7) (belowD_tn (n := 3 * max c.dp d.dp + 5) h2 h3) (belowD_tn (n := 3 * max c.dp d.dp + 5) h3 h2)
  | apart c d =>
    exact tup1 (n := 3 * max c.dp d.dp + 7) (belowD_tn (n := 3 * max c.dp d.dp + 5) (andD_tn (n := 3 * max c.dp d.dp + 4) ((coreD_tn f g c).le (by omega)) ((coreD_tn f g d).le (by omega))) ((notD_tn (n := 1) anyD_tn).le (by omega)))
  | domain r c => exact tup1 (n := 3 * c.dp + 7) (belowD_tn (n := 3 * c.dp + 5) (someD_tn (n := 3 * c.dp + 4) ((rolF_tn (n := g r.1) (b := r.2)).le (by omega)) (anyD_tn.le (by omega))) ((coreD_tn f g c).le (by omega)))
  | range r c => exact tup1 (n := 3 * c.dp + 7) (belowD_tn (n := 3 * c.dp + 5) (someD_tn (n := 3 * c.dp + 4) ((rolF_tn (n := g r.1) (b := !r.2)).le (by omega)) (anyD_tn.le (by omega))) ((coreD_tn f g c).le (by omega)))
  | under r s => exact tup1 (n := 7) (underD_tn (n := 5) ((rolF_tn (n := g r.1) (b := r.2)).le (by omega)) ((rolF_tn (n := g s.1) (b := s.2)).le (by omega)))
  | inverse a b => exact tup2 (n := 7) (underD_tn (n := 5) (rolF_tn.le (by omega)) (rolF_tn.le (by omega))) (underD_tn (n := 5) (rolF_tn.le (by omega)) (rolF_tn.le (by omega)))
  | below c d => exact tup1 ((questD_tn f g h (.below c d)).le (by omega))
  | is a c => exact tup1 ((questD_tn f g h (.is a c)).le (by omega))
  | has a b c => exact tup1 ((questD_tn f g h (.has a b c)).le (by omega))
  | never => exact tup1 ((questD_tn f g h .never).le (by omega))
theorem same_dat {n : Nat} {σ : L2.St} {H : Hp} {ta tb : TE} {d : PyData} {R : VK} (ga : GD K ta σ H d) (gb : GD K tb σ H d) (tn : TupN n d) (q : ∀ H', Same H H' → R (.bl true) H') : tCall (spSame K n) [] E0 (tCons ta (tCons tb tNil)) σ H R :=
  ga H (Same.refl _) _ fun v H1 e1 h1 => gb H1 e1 _ fun v2 H2 e2 h2 => ⟨v, v2, d, rfl, Dp.same e2 h1, h2, tn, fun H3 e3 => q H3 ((e1.trans e2).trans e3)⟩
theorem if_sameD {n : Nat} {σ : L2.St} {H : Hp} {ta tb : TE} {d : PyData} {tt u : TS} {D : Ends} (ga : GD K ta σ H d) (gb : GD K tb σ H d) (tn : TupN n d) (q : ∀ H', Same H H' → u D σ H') : tIfS (tNot (tB (tCall (spSame K n) [] E0 (tCons ta (tCons tb tNil))))) tt u D σ H :=
  same_dat ga gb tn fun H' e => ⟨true, rfl, iteF (q H' e)⟩
theorem SameX.free2 {d : Addr} {H H1 H' : Hp} (s : Same H H1) (n : H d = none) (e : SameX d H1 H') : Same H H' := fun b u q => e b u (ne_of_none q n) (s b u q)
def spLaw (K : PySem.W.Frag) : Sp := fun vs H Q _ => ∃ (a : Addr) (ns : List Int), vs = [.ref a] ∧ SqL K H a (ns.map V.int) ∧ ns.length ≤ 63 ∧ ∀ H', Q (.bl true) H'
abbrev S84 : Sz := ⟨8, 4, 4⟩
theorem s84 : S84.Ok := ⟨by decide, by decide, by decide, by decide⟩
theorem NA.lst {H : Hp} {l r : List Nat} {nm p0 p1 p2 p3 : Addr} (h : NA H l r nm p0 p1 p2 p3) : NamL K H nm (nmL l r mk0) (nmL l r mk1) (nmL l r mk2) := ⟨p0, p1, p2, p3, SqL.of h.top, SqL.of h.a0, SqL.of h.a1, SqL.of h.a2⟩
theorem ok_law {f : Addr} {fd : FuncData} (F : Fun K "law" "law" s_law f fd) (c_law_draws : Cl P w K mg base 2 "_law_draws" (spDraws K)) (c_law_take : Cl P w K mg base 1 "_law_take" spTake) (c_law_names : Cl P w K mg base 3 "_law_names" (spNames K)) (c_law_told_names : Cl P w K mg base 1 "_law_told_names" (spTold K))
    (c_law_concept : Cl P w K mg base 8 "_law_concept" (spConD K 5)) (c_law_statement : Cl P w K mg base 9 "_law_statement" (spStmD K 5)) (c_law_question : Cl P w K mg base 9 "_law_question" (spQstD K 5))
    (c_core_concept : Cl P w K mg base 7 "core_concept" (spCore K 5)) (c_core_question : Cl P w K mg base 8 "core_question" (spQst K 5)) (c_parts : Cl P w K mg base 9 "parts" (spParts K 5)) (c_law_core : Cl P w K mg base 6 "_law_core" (spLCore K 5)) (c_law_asked : Cl P w K mg base 7 "_law_asked" (spAsk K 5)) (c_law_parts : Cl P w K mg base 8 "_law_parts" (spLParts K 5))
    (c_law_same : Cl P w K mg base 24 "_law_same" (spSame K 23)) : FnOk P w K mg base CX0 25 f fd ["script"] (spLaw K) := by
  refine F.ok sc_law (fun vs H Q E h => ?_) (fun cdv A outer s H vs Q E hr h => ?_)
  · obtain ⟨a, ns, rfl, _⟩ := h
    rfl
  obtain ⟨a, ns, rfl, hS, h63, q⟩ := h
  refine ⟨_, (pss_cons (ps_set (i := 1) sc_law.nd rfl (.inl rfl) (pc c_law_draws hr (by first | decide | omega) (by rfl) (pa_cons (pv 0) (pa_cons pe_int (pa_cons pe_int pa_nil)))))
      (pss_cons (ps_set (i := 2) sc_law.nd rfl (.inl rfl) (pc c_law_names hr (by first | decide | omega) (by rfl) (pa_cons (pv 1) pa_nil)))
      (pss_cons (ps_set (i := 3) sc_law.nd rfl (.inl rfl) (pc c_law_told_names hr (by first | decide | omega) (by rfl) (pa_cons (pv 2) (pa_cons (pe_tup (pa_cons pe_int (pa_cons pe_int (pa_cons pe_int pa_nil)))) pa_nil))))
      (pss_cons (ps_set (i := 4) sc_law.nd rfl (.inl rfl) (pc c_law_concept hr (by first | decide | omega) (by rfl) (pa_cons (pv 1) (pa_cons (pv 2) (pa_cons (pe_tup (pa_cons pe_int (pa_cons pe_int (pa_cons pe_int pa_nil)))) (pa_cons (pe_op op_add pe_int (pc c_law_take hr (by first | decide | omega) (by rfl) (pa_cons (pv 1) (pa_cons pe_int pa_nil)))) pa_nil))))))
      (pss_cons (ps_set (i := 5) sc_law.nd rfl (.inl rfl) (pc c_law_statement hr (by first | decide | omega) (by rfl) (pa_cons (pc c_law_draws hr (by first | decide | omega) (by rfl) (pa_cons (pv 0) (pa_cons pe_int (pa_cons pe_int pa_nil)))) (pa_cons (pv 2) (pa_cons (pe_tup (pa_cons pe_int (pa_cons pe_int (pa_cons pe_int pa_nil)))) (pa_cons pe_int pa_nil))))))
      (pss_cons (ps_set (i := 6) sc_law.nd rfl (.inl rfl) (pc c_law_question hr (by first | decide | omega) (by rfl) (pa_cons (pc c_law_draws hr (by first | decide | omega) (by rfl) (pa_cons (pv 0) (pa_cons pe_int (pa_cons pe_int pa_nil)))) (pa_cons (pv 2) (pa_cons (pe_tup (pa_cons pe_int (pa_cons pe_int (pa_cons pe_int pa_nil)))) (pa_cons pe_int pa_nil))))))
      (pss_cons (ps_if (pt_not (pt_val (pc c_law_same hr (by first | decide | omega) (by rfl) (pa_cons (pc c_core_concept hr (by first | decide | omega) (by rfl) (pa_cons (pv 3) (pa_cons (pv 4) pa_nil))) (pa_cons (pc c_law_core hr (by first | decide | omega) (by rfl) (pa_cons (pv 2) (pa_cons (pv 4) pa_nil))) pa_nil))))) (pss_one (ps_ret pe_bl)) pss_nil)
      (pss_cons (ps_if (pt_not (pt_val (pc c_law_same hr (by first | decide | omega) (by rfl) (pa_cons (pc c_parts hr (by first | decide | omega) (by rfl) (pa_cons (pv 3) (pa_cons (pv 5) pa_nil))) (pa_cons (pc c_law_parts hr (by first | decide | omega) (by rfl) (pa_cons (pv 2) (pa_cons (pv 5) pa_nil))) pa_nil))))) (pss_one (ps_ret pe_bl)) pss_nil)
      (pss_one (ps_ret (pc c_law_same hr (by first | decide | omega) (by rfl) (pa_cons (pc c_core_question hr (by first | decide | omega) (by rfl) (pa_cons (pv 3) (pa_cons (pv 6) pa_nil))) (pa_cons (pc c_law_asked hr (by first | decide | omega) (by rfl) (pa_cons (pv 2) (pa_cons (pv 6) pa_nil))) pa_nil))))))))))))), ?_⟩
  refine ⟨_, rfl, a, ns, 0, 90, rfl, hS, h63, by decide, by decide, by decide, fun ds d H1 s1 n1 f1 _ => ?_⟩
  refine ⟨_, rfl, d, ds, rfl, f1, fun l r nm p0 p1 p2 p3 ds' H2 hf e2 hnm f2 na ap => ?_⟩
  -- told
  refine ⟨_, rfl, by show 3 ≤ sizeLine; decide, fun z0 hz0 => ?_⟩
  refine ⟨nm, z0, l, r, p0, p1, p2, p3, S84, rfl, na.same (Same.new _ hz0), .of upd_same, fun tl Ht et ht => ?_⟩
  have e0t := (Same.new (.tup S84.vs) hz0).trans et
  have na := na.same e0t
  -- the concept
  refine ⟨_, rfl, _, rfl, by show 3 ≤ sizeLine; decide, fun z1 hz1 => ?_⟩
  have h3 : Dr K _ d nm z1 l r S84 := Dr.start s84 hf (e0t _ _ f2) na ap hz1
  refine take_draw rfl h3 (by decide) fun x H3 x0 x1 e3 h4 => ?_
  obtain ⟨x, rfl⟩ : ∃ k : Nat, x = (k : Int) := ⟨x.toNat, by omega⟩
  refine ⟨_, _, rfl, rfl, d, nm, z1, l, r, S84, x + 1, by rw [show (((x + 1 : Nat) : Int)) = 1 + (x : Int) by omega]; rfl, by omega, h4, fun c v H4 hc hcd hv e4 h5 => ?_⟩
  have E1 : Same H H4 := SameX.free2 s1 n1 (((e2.trans (SameX.of e0t)).trans ((SameX.new (.tup S84.vs) hz1).trans e3)).trans e4)
  -- the statement
  refine ⟨_, rfl, a, ns, 1, 60, rfl, E1.seq hS, h63, by decide, by decide, by decide, fun ds2 d2 H5 s5 n5 f5 _ => ?_⟩
  obtain ⟨dsx, q0, q1, q2, q3, g4, na4, ap4⟩ := h5.ex
  refine ⟨_, rfl, by show 3 ≤ sizeLine; decide, fun z2 hz2 => ?_⟩
  have h6 : Dr K _ d2 nm z2 l r S84 := Dr.start s84 hf f5 (na4.same s5) (na4.fresh n5) hz2
  refine ⟨d2, nm, z2, l, r, S84, 2, rfl, by decide, h6, fun st v2 H6 hs hsd hnev hv2 e6 h7 => ?_⟩
  have E2 : Same H4 H6 := SameX.free2 s5 n5 ((SameX.new (.tup S84.vs) hz2).trans e6)
  -- the question
  refine ⟨_, rfl, a, ns, 2, 60, rfl, (E1.trans E2).seq hS, h63, by decide, by decide, by decide, fun ds3 d3 H7 s7 n7 f7 _ => ?_⟩
  obtain ⟨dsy, w0, w1, w2, w3, g6, na6, ap6⟩ := h7.ex
  refine ⟨_, rfl, by show 3 ≤ sizeLine; decide, fun z3 hz3 => ?_⟩
  have h8 : Dr K _ d3 nm z3 l r S84 := Dr.start s84 hf f7 (na6.same s7) (na6.fresh n7) hz3
  refine ⟨d3, nm, z3, l, r, S84, 2, rfl, by decide, h8, fun as v3 H8 has hqk had hv3 e8 h9 => ?_⟩
  have E3 : Same H6 H8 := SameX.free2 s7 n7 ((SameX.new (.tup S84.vs) hz3).trans e8)
  obtain ⟨dsz, u0, u1, u2, u3, g8, na8, _⟩ := h9.ex
  have L8 : NamL K H8 nm (nmL l r mk0) (nmL l r mk1) (nmL l r mk2) := na8.lst
  have hT : NamT K H8 tl (nmL l r (mk0.take 8)) (nmL l r (mk1.take 4)) (nmL l r (mk2.take 4)) := by
    obtain ⟨t0, t1, t2, k0, ⟨k1, m1⟩, ⟨k2, m2⟩, k3, m3⟩ := ht.ex
    have kt : KT K Ht H8 := ((KT.new (.tup S84.vs) hz1).trans (KT.x ((Same.new (.tup S84.vs) hz1) _ _ (e0t _ _ f2)) (e3.trans e4))).trans (KT.of (E2.trans E3))
    have fz : ∀ {p : Addr}, FzT K Ht p → FzT K H8 p := fun {p} h => by
      rcases h with ⟨o, u, g1, g2⟩ | h
      · refine .inl ⟨o, u, ?_, g2⟩
        have nd : p ≠ d := ne_of g1 (e0t _ _ f2) (fun z => nomatch z)
        exact (E2.trans E3) _ _ ((((SameX.new (.tup S84.vs) hz1).trans e3).trans e4) _ _ nd g1)
      · exact .inr h
    exact ⟨t0, t1, t2, kt _ _ k0, ⟨kt _ _ k1, fz m1⟩, ⟨kt _ _ k2, fz m2⟩, kt _ _ k3, fz m3⟩
  have hv' : Dp K H8 v c.D := Dp.same (E2.trans E3) hv
  have hv2' : Dp K H8 v2 st.D := Dp.same E3 hv2
  have fa : ∀ s ∈ nmL l r (mk0.take 8), ixOf (nmL l r (mk0.take 8)) s = ixOf (nmL l r mk0) s := fun s h => ix_cut h
  have fb : ∀ s ∈ nmL l r (mk1.take 4), ixOf (nmL l r (mk1.take 4)) s = ixOf (nmL l r mk1) s := fun s h => ix_cut h
  have fc : ∀ s ∈ nmL l r (mk2.take 4), ixOf (nmL l r (mk2.take 4)) s = ixOf (nmL l r mk2) s := fun s h => ix_cut h
  have ic := hc.toIn
  have is := hs.toIn
  have ia := has.toIn
  refine gset ?_
  dsimp only
  refine tsq ?_
  refine if_sameD (gd_core (gv_var rfl) hT (gd_var rfl hv') (by omega) ic) (d := coreD _ _ c) ?_ ((coreD_tn _ _ c).le (by omega)) fun H9 e9 => ?_
  · rw [coreD_congr fa fb ic]
    exact gd_lcore (gv_var rfl) L8 (gd_var rfl hv') (by omega) (ic.le (fun s h => nmL_of h) fun s h => nmL_of h)
  refine tnx ?_
  dsimp only
  refine tsq ?_
  refine if_sameD (d := partsD _ _ _ st) (fun Hx ex R rr => ⟨_, rfl, _, rfl, tl, _, _, _, v2, st, rfl, hT.same (e9.trans ex), Dp.same (e9.trans ex) hv2', by omega, is, hnev, rr⟩) ?_ ((partsD_tn _ _ _ st).le (by omega)) fun H10 e10 => ?_
  · rw [partsD_congr fa fb fc is]
    exact fun Hx ex R rr => ⟨_, rfl, _, rfl, nm, _, _, _, v2, st, rfl, L8.same (e9.trans ex), Dp.same (e9.trans ex) hv2', by omega, is.le (fun s h => nmL_of h) (fun s h => nmL_of h) (fun s h => nmL_of h), hnev, rr⟩
  refine tnx ?_
  have e910 := e9.trans e10
  refine same_dat (d := questD _ _ _ as) (gd_qst (gv_var rfl) (hT.same e910) (gd_var rfl (Dp.same e910 hv3)) (by omega) ia hqk) ?_ ((questD_tn _ _ _ as).le (by omega)) fun H' _ => q H'
  rw [questD_congr fa fb fc ia]
  exact gd_ask (gv_var rfl) (L8.same e910) (gd_var rfl (Dp.same e910 hv3)) (by omega) (ia.le (fun s h => nmL_of h) (fun s h => nmL_of h) (fun s h => nmL_of h)) hqk
end
theorem all_mk {l : PySem.W.OpenLaw} {w : World} {K : PySem.W.Frag} {h : Heap} {mg : Str → Option Value} {fa : Addr} (X : K.In h) (G : h.Ns mainGlobals mg) (hfa : mg "law" = some (.ref fa))
    {f_inverse : Addr} {od_inverse an_inverse : Option Addr} {sl_inverse : Array (Option Value)} {oc_inverse kV_inverse dc_inverse pm_inverse cd_inverse ct_inverse : Value}
    {f_core_concept : Addr} {od_core_concept an_core_concept : Option Addr} {sl_core_concept : Array (Option Value)} {oc_core_concept kV_core_concept dc_core_concept pm_core_concept cd_core_concept ct_core_concept : Value}
    {f_core_question : Addr} {od_core_question an_core_question : Option Addr} {sl_core_question : Array (Option Value)} {oc_core_question kV_core_question dc_core_question pm_core_question cd_core_question ct_core_question : Value}
    {f_parts : Addr} {od_parts an_parts : Option Addr} {sl_parts : Array (Option Value)} {oc_parts kV_parts dc_parts pm_parts cd_parts ct_parts : Value}
    {f_role : Addr} {od_role an_role : Option Addr} {sl_role : Array (Option Value)} {oc_role kV_role dc_role pm_role cd_role ct_role : Value}
    {f_parts_of_two_concepts : Addr} {od_parts_of_two_concepts an_parts_of_two_concepts : Option Addr} {sl_parts_of_two_concepts : Array (Option Value)} {oc_parts_of_two_concepts kV_parts_of_two_concepts dc_parts_of_two_concepts pm_parts_of_two_concepts cd_parts_of_two_concepts ct_parts_of_two_concepts : Value}
    {f_typing : Addr} {od_typing an_typing : Option Addr} {sl_typing : Array (Option Value)} {oc_typing kV_typing dc_typing pm_typing cd_typing ct_typing : Value}
    {f_law_cell : Addr} {od_law_cell an_law_cell : Option Addr} {sl_law_cell : Array (Option Value)} {oc_law_cell kV_law_cell dc_law_cell pm_law_cell cd_law_cell ct_law_cell : Value}
    {f_law_draws : Addr} {od_law_draws an_law_draws : Option Addr} {sl_law_draws : Array (Option Value)} {oc_law_draws kV_law_draws dc_law_draws pm_law_draws cd_law_draws ct_law_draws : Value}
    {f_law_take : Addr} {od_law_take an_law_take : Option Addr} {sl_law_take : Array (Option Value)} {oc_law_take kV_law_take dc_law_take pm_law_take cd_law_take ct_law_take : Value}
    {f_law_frame : Addr} {od_law_frame an_law_frame : Option Addr} {sl_law_frame : Array (Option Value)} {oc_law_frame kV_law_frame dc_law_frame pm_law_frame cd_law_frame ct_law_frame : Value}
    {f_law_names : Addr} {od_law_names an_law_names : Option Addr} {sl_law_names : Array (Option Value)} {oc_law_names kV_law_names dc_law_names pm_law_names cd_law_names ct_law_names : Value}
    {f_law_role : Addr} {od_law_role an_law_role : Option Addr} {sl_law_role : Array (Option Value)} {oc_law_role kV_law_role dc_law_role pm_law_role cd_law_role ct_law_role : Value}
    {f_law_concept : Addr} {od_law_concept an_law_concept : Option Addr} {sl_law_concept : Array (Option Value)} {oc_law_concept kV_law_concept dc_law_concept pm_law_concept cd_law_concept ct_law_concept : Value}
    {f_law_statement : Addr} {od_law_statement an_law_statement : Option Addr} {sl_law_statement : Array (Option Value)} {oc_law_statement kV_law_statement dc_law_statement pm_law_statement cd_law_statement ct_law_statement : Value}
    {f_law_question : Addr} {od_law_question an_law_question : Option Addr} {sl_law_question : Array (Option Value)} {oc_law_question kV_law_question dc_law_question pm_law_question cd_law_question ct_law_question : Value}
    {f_law_core : Addr} {od_law_core an_law_core : Option Addr} {sl_law_core : Array (Option Value)} {oc_law_core kV_law_core dc_law_core pm_law_core cd_law_core ct_law_core : Value}
    {f_law_same : Addr} {od_law_same an_law_same : Option Addr} {sl_law_same : Array (Option Value)} {oc_law_same kV_law_same dc_law_same pm_law_same cd_law_same ct_law_same : Value}
    {f_law_parts : Addr} {od_law_parts an_law_parts : Option Addr} {sl_law_parts : Array (Option Value)} {oc_law_parts kV_law_parts dc_law_parts pm_law_parts cd_law_parts ct_law_parts : Value}
    {f_law_asked : Addr} {od_law_asked an_law_asked : Option Addr} {sl_law_asked : Array (Option Value)} {oc_law_asked kV_law_asked dc_law_asked pm_law_asked cd_law_asked ct_law_asked : Value}
    {f_law_told_names : Addr} {od_law_told_names an_law_told_names : Option Addr} {sl_law_told_names : Array (Option Value)} {oc_law_told_names kV_law_told_names dc_law_told_names pm_law_told_names cd_law_told_names ct_law_told_names : Value}
    {r_ANYTHING : Addr} {oo_ANYTHING : Option Addr} {os_ANYTHING : Array (Option Value)} {i_ANYTHING : Array Value} {n_ANYTHING : Nat}
    {r_NOTHING : Addr}
    {od_law an_law : Option Addr} {sl_law : Array (Option Value)} {oc_law kV_law dc_law pm_law cd_law ct_law : Value} {f_law : Addr}
    (a_inverse : PySem.W.nsIn K mainGlobals "inverse" = some (some (.ref f_inverse))) (l_inverse : K.lookup f_inverse = some ⟨oc_inverse, od_inverse, .func (PySem.W.fnOf "inverse" "inverse" (defArgs s_inverse) (defBody s_inverse) (defScope s_inverse) .none kV_inverse dc_inverse pm_inverse an_inverse cd_inverse ct_inverse), sl_inverse⟩) (w_inverse : PySem.W.codeIn K cd_inverse "inverse" = true) (k_inverse : PySem.W.keepIn K (.ref f_inverse) = true)
    (a_core_concept : PySem.W.nsIn K mainGlobals "core_concept" = some (some (.ref f_core_concept))) (l_core_concept : K.lookup f_core_concept = some ⟨oc_core_concept, od_core_concept, .func (PySem.W.fnOf "core_concept" "core_concept" (defArgs s_core_concept) (defBody s_core_concept) (defScope s_core_concept) .none kV_core_concept dc_core_concept pm_core_concept an_core_concept cd_core_concept ct_core_concept), sl_core_concept⟩) (w_core_concept : PySem.W.codeIn K cd_core_concept "core_concept" = true) (k_core_concept : PySem.W.keepIn K (.ref f_core_concept) = true)
    (a_core_question : PySem.W.nsIn K mainGlobals "core_question" = some (some (.ref f_core_question))) (l_core_question : K.lookup f_core_question = some ⟨oc_core_question, od_core_question, .func (PySem.W.fnOf "core_question" "core_question" (defArgs s_core_question) (defBody s_core_question) (defScope s_core_question) .none kV_core_question dc_core_question pm_core_question an_core_question cd_core_question ct_core_question), sl_core_question⟩) (w_core_question : PySem.W.codeIn K cd_core_question "core_question" = true) (k_core_question : PySem.W.keepIn K (.ref f_core_question) = true)
    (a_parts : PySem.W.nsIn K mainGlobals "parts" = some (some (.ref f_parts))) (l_parts : K.lookup f_parts = some ⟨oc_parts, od_parts, .func (PySem.W.fnOf "parts" "parts" (defArgs s_parts) (defBody s_parts) (defScope s_parts) .none kV_parts dc_parts pm_parts an_parts cd_parts ct_parts), sl_parts⟩) (w_parts : PySem.W.codeIn K cd_parts "parts" = true) (k_parts : PySem.W.keepIn K (.ref f_parts) = true)
    (a_role : PySem.W.nsIn K mainGlobals "_role" = some (some (.ref f_role))) (l_role : K.lookup f_role = some ⟨oc_role, od_role, .func (PySem.W.fnOf "_role" "_role" (defArgs s_role) (defBody s_role) (defScope s_role) .none kV_role dc_role pm_role an_role cd_role ct_role), sl_role⟩) (w_role : PySem.W.codeIn K cd_role "_role" = true) (k_role : PySem.W.keepIn K (.ref f_role) = true)
    (a_parts_of_two_concepts : PySem.W.nsIn K mainGlobals "_parts_of_two_concepts" = some (some (.ref f_parts_of_two_concepts))) (l_parts_of_two_concepts : K.lookup f_parts_of_two_concepts = some ⟨oc_parts_of_two_concepts, od_parts_of_two_concepts, .func (PySem.W.fnOf "_parts_of_two_concepts" "_parts_of_two_concepts" (defArgs s_parts_of_two_concepts) (defBody s_parts_of_two_concepts) (defScope s_parts_of_two_concepts) .none kV_parts_of_two_concepts dc_parts_of_two_concepts pm_parts_of_two_concepts an_parts_of_two_concepts cd_parts_of_two_concepts ct_parts_of_two_concepts), sl_parts_of_two_concepts⟩) (w_parts_of_two_concepts : PySem.W.codeIn K cd_parts_of_two_concepts "_parts_of_two_concepts" = true) (k_parts_of_two_concepts : PySem.W.keepIn K (.ref f_parts_of_two_concepts) = true)
    (a_typing : PySem.W.nsIn K mainGlobals "_typing" = some (some (.ref f_typing))) (l_typing : K.lookup f_typing = some ⟨oc_typing, od_typing, .func (PySem.W.fnOf "_typing" "_typing" (defArgs s_typing) (defBody s_typing) (defScope s_typing) .none kV_typing dc_typing pm_typing an_typing cd_typing ct_typing), sl_typing⟩) (w_typing : PySem.W.codeIn K cd_typing "_typing" = true) (k_typing : PySem.W.keepIn K (.ref f_typing) = true)
    (a_law_cell : PySem.W.nsIn K mainGlobals "_law_cell" = some (some (.ref f_law_cell))) (l_law_cell : K.lookup f_law_cell = some ⟨oc_law_cell, od_law_cell, .func (PySem.W.fnOf "_law_cell" "_law_cell" (defArgs s_law_cell) (defBody s_law_cell) (defScope s_law_cell) .none kV_law_cell dc_law_cell pm_law_cell an_law_cell cd_law_cell ct_law_cell), sl_law_cell⟩) (w_law_cell : PySem.W.codeIn K cd_law_cell "_law_cell" = true) (k_law_cell : PySem.W.keepIn K (.ref f_law_cell) = true)
    (a_law_draws : PySem.W.nsIn K mainGlobals "_law_draws" = some (some (.ref f_law_draws))) (l_law_draws : K.lookup f_law_draws = some ⟨oc_law_draws, od_law_draws, .func (PySem.W.fnOf "_law_draws" "_law_draws" (defArgs s_law_draws) (defBody s_law_draws) (defScope s_law_draws) .none kV_law_draws dc_law_draws pm_law_draws an_law_draws cd_law_draws ct_law_draws), sl_law_draws⟩) (w_law_draws : PySem.W.codeIn K cd_law_draws "_law_draws" = true) (k_law_draws : PySem.W.keepIn K (.ref f_law_draws) = true)
    (a_law_take : PySem.W.nsIn K mainGlobals "_law_take" = some (some (.ref f_law_take))) (l_law_take : K.lookup f_law_take = some ⟨oc_law_take, od_law_take, .func (PySem.W.fnOf "_law_take" "_law_take" (defArgs s_law_take) (defBody s_law_take) (defScope s_law_take) .none kV_law_take dc_law_take pm_law_take an_law_take cd_law_take ct_law_take), sl_law_take⟩) (w_law_take : PySem.W.codeIn K cd_law_take "_law_take" = true) (k_law_take : PySem.W.keepIn K (.ref f_law_take) = true)
    (a_law_frame : PySem.W.nsIn K mainGlobals "_law_frame" = some (some (.ref f_law_frame))) (l_law_frame : K.lookup f_law_frame = some ⟨oc_law_frame, od_law_frame, .func (PySem.W.fnOf "_law_frame" "_law_frame" (defArgs s_law_frame) (defBody s_law_frame) (defScope s_law_frame) .none kV_law_frame dc_law_frame pm_law_frame an_law_frame cd_law_frame ct_law_frame), sl_law_frame⟩) (w_law_frame : PySem.W.codeIn K cd_law_frame "_law_frame" = true) (k_law_frame : PySem.W.keepIn K (.ref f_law_frame) = true)
    (a_law_names : PySem.W.nsIn K mainGlobals "_law_names" = some (some (.ref f_law_names))) (l_law_names : K.lookup f_law_names = some ⟨oc_law_names, od_law_names, .func (PySem.W.fnOf "_law_names" "_law_names" (defArgs s_law_names) (defBody s_law_names) (defScope s_law_names) .none kV_law_names dc_law_names pm_law_names an_law_names cd_law_names ct_law_names), sl_law_names⟩) (w_law_names : PySem.W.codeIn K cd_law_names "_law_names" = true) (k_law_names : PySem.W.keepIn K (.ref f_law_names) = true)
    (a_law_role : PySem.W.nsIn K mainGlobals "_law_role" = some (some (.ref f_law_role))) (l_law_role : K.lookup f_law_role = some ⟨oc_law_role, od_law_role, .func (PySem.W.fnOf "_law_role" "_law_role" (defArgs s_law_role) (defBody s_law_role) (defScope s_law_role) .none kV_law_role dc_law_role pm_law_role an_law_role cd_law_role ct_law_role), sl_law_role⟩) (w_law_role : PySem.W.codeIn K cd_law_role "_law_role" = true) (k_law_role : PySem.W.keepIn K (.ref f_law_role) = true)
    (a_law_concept : PySem.W.nsIn K mainGlobals "_law_concept" = some (some (.ref f_law_concept))) (l_law_concept : K.lookup f_law_concept = some ⟨oc_law_concept, od_law_concept, .func (PySem.W.fnOf "_law_concept" "_law_concept" (defArgs s_law_concept) (defBody s_law_concept) (defScope s_law_concept) .none kV_law_concept dc_law_concept pm_law_concept an_law_concept cd_law_concept ct_law_concept), sl_law_concept⟩) (w_law_concept : PySem.W.codeIn K cd_law_concept "_law_concept" = true) (k_law_concept : PySem.W.keepIn K (.ref f_law_concept) = true)
    (a_law_statement : PySem.W.nsIn K mainGlobals "_law_statement" = some (some (.ref f_law_statement))) (l_law_statement : K.lookup f_law_statement = some ⟨oc_law_statement, od_law_statement, .func (PySem.W.fnOf "_law_statement" "_law_statement" (defArgs s_law_statement) (defBody s_law_statement) (defScope s_law_statement) .none kV_law_statement dc_law_statement pm_law_statement an_law_statement cd_law_statement ct_law_statement), sl_law_statement⟩) (w_law_statement : PySem.W.codeIn K cd_law_statement "_law_statement" = true) (k_law_statement : PySem.W.keepIn K (.ref f_law_statement) = true)
    (a_law_question : PySem.W.nsIn K mainGlobals "_law_question" = some (some (.ref f_law_question))) (l_law_question : K.lookup f_law_question = some ⟨oc_law_question, od_law_question, .func (PySem.W.fnOf "_law_question" "_law_question" (defArgs s_law_question) (defBody s_law_question) (defScope s_law_question) .none kV_law_question dc_law_question pm_law_question an_law_question cd_law_question ct_law_question), sl_law_question⟩) (w_law_question : PySem.W.codeIn K cd_law_question "_law_question" = true) (k_law_question : PySem.W.keepIn K (.ref f_law_question) = true)
    (a_law_core : PySem.W.nsIn K mainGlobals "_law_core" = some (some (.ref f_law_core))) (l_law_core : K.lookup f_law_core = some ⟨oc_law_core, od_law_core, .func (PySem.W.fnOf "_law_core" "_law_core" (defArgs s_law_core) (defBody s_law_core) (defScope s_law_core) .none kV_law_core dc_law_core pm_law_core an_law_core cd_law_core ct_law_core), sl_law_core⟩) (w_law_core : PySem.W.codeIn K cd_law_core "_law_core" = true) (k_law_core : PySem.W.keepIn K (.ref f_law_core) = true)
    (a_law_same : PySem.W.nsIn K mainGlobals "_law_same" = some (some (.ref f_law_same))) (l_law_same : K.lookup f_law_same = some ⟨oc_law_same, od_law_same, .func (PySem.W.fnOf "_law_same" "_law_same" (defArgs s_law_same) (defBody s_law_same) (defScope s_law_same) .none kV_law_same dc_law_same pm_law_same an_law_same cd_law_same ct_law_same), sl_law_same⟩) (w_law_same : PySem.W.codeIn K cd_law_same "_law_same" = true) (k_law_same : PySem.W.keepIn K (.ref f_law_same) = true)
    (a_law_parts : PySem.W.nsIn K mainGlobals "_law_parts" = some (some (.ref f_law_parts))) (l_law_parts : K.lookup f_law_parts = some ⟨oc_law_parts, od_law_parts, .func (PySem.W.fnOf "_law_parts" "_law_parts" (defArgs s_law_parts) (defBody s_law_parts) (defScope s_law_parts) .none kV_law_parts dc_law_parts pm_law_parts an_law_parts cd_law_parts ct_law_parts), sl_law_parts⟩) (w_law_parts : PySem.W.codeIn K cd_law_parts "_law_parts" = true) (k_law_parts : PySem.W.keepIn K (.ref f_law_parts) = true)
    (a_law_asked : PySem.W.nsIn K mainGlobals "_law_asked" = some (some (.ref f_law_asked))) (l_law_asked : K.lookup f_law_asked = some ⟨oc_law_asked, od_law_asked, .func (PySem.W.fnOf "_law_asked" "_law_asked" (defArgs s_law_asked) (defBody s_law_asked) (defScope s_law_asked) .none kV_law_asked dc_law_asked pm_law_asked an_law_asked cd_law_asked ct_law_asked), sl_law_asked⟩) (w_law_asked : PySem.W.codeIn K cd_law_asked "_law_asked" = true) (k_law_asked : PySem.W.keepIn K (.ref f_law_asked) = true)
    (a_law_told_names : PySem.W.nsIn K mainGlobals "_law_told_names" = some (some (.ref f_law_told_names))) (l_law_told_names : K.lookup f_law_told_names = some ⟨oc_law_told_names, od_law_told_names, .func (PySem.W.fnOf "_law_told_names" "_law_told_names" (defArgs s_law_told_names) (defBody s_law_told_names) (defScope s_law_told_names) .none kV_law_told_names dc_law_told_names pm_law_told_names an_law_told_names cd_law_told_names ct_law_told_names), sl_law_told_names⟩) (w_law_told_names : PySem.W.codeIn K cd_law_told_names "_law_told_names" = true) (k_law_told_names : PySem.W.keepIn K (.ref f_law_told_names) = true)
    (a_law : PySem.W.nsIn K mainGlobals "law" = some (some (.ref f_law))) (l_law : K.lookup f_law = some ⟨oc_law, od_law, .func (PySem.W.fnOf "law" "law" (defArgs s_law) (defBody s_law) (defScope s_law) .none kV_law dc_law pm_law an_law cd_law ct_law), sl_law⟩) (w_law : PySem.W.codeIn K cd_law "law" = true) (k_law : PySem.W.keepIn K (.ref f_law) = true)
    (y_all : PySem.W.nsIn K mainGlobals "all" = some none)
    (y_bool : PySem.W.nsIn K mainGlobals "bool" = some none)
    (y_int : PySem.W.nsIn K mainGlobals "int" = some none)
    (y_isinstance : PySem.W.nsIn K mainGlobals "isinstance" = some none)
    (y_len : PySem.W.nsIn K mainGlobals "len" = some none)
    (y_min : PySem.W.nsIn K mainGlobals "min" = some none)
    (y_range : PySem.W.nsIn K mainGlobals "range" = some none)
    (y_str : PySem.W.nsIn K mainGlobals "str" = some none)
    (y_tuple : PySem.W.nsIn K mainGlobals "tuple" = some none)
    (g_ANYTHING : PySem.W.nsIn K mainGlobals "ANYTHING" = some (some (.ref r_ANYTHING))) (u_ANYTHING : K.lookup r_ANYTHING = some ⟨.type "tuple", oo_ANYTHING, .seq i_ANYTHING n_ANYTHING, os_ANYTHING⟩)
    (v_ANYTHING : StrIts i_ANYTHING.toList K_ANYTHING = true) (vs_ANYTHING : decide (i_ANYTHING.size ≤ 1000) = true)
    (g_NOTHING : PySem.W.nsIn K mainGlobals "NOTHING" = some (some (.ref r_NOTHING))) (v_NOTHING : datOk K 8 (.ref r_NOTHING) K_NOTHING = true) :
    ∃ fd : FuncData, (∀ (s : Shared) (v : Value), BindsTo s fd ⟨[v], []⟩ [("script", v)]) ∧ ∀ base : Heap, K.In base → base.Ns mainGlobals mg → FnOk l.prog w K mg base CX0 25 fa fd ["script"] (spLaw K) := by
  have e := hfa.symm.trans (PySem.W.mg_of X G a_law)
  cases e
  have D_inverse : Df K mg "inverse" s_inverse f_inverse _ ["role"] := ⟨fun_mk (st := s_inverse) l_inverse w_inverse k_inverse, PySem.W.mg_of X G a_inverse, k_inverse, (fun_mk (st := s_inverse) l_inverse w_inverse k_inverse).binds (ps := ["role"]) fun _ _ _ _ _ _ us hl => match us, hl with | [_], _ => rfl⟩
  have D_core_concept : Df K mg "core_concept" s_core_concept f_core_concept _ ["names", "concept"] := ⟨fun_mk (st := s_core_concept) l_core_concept w_core_concept k_core_concept, PySem.W.mg_of X G a_core_concept, k_core_concept, (fun_mk (st := s_core_concept) l_core_concept w_core_concept k_core_concept).binds (ps := ["names", "concept"]) fun _ _ _ _ _ _ us hl => match us, hl with | [_, _], _ => rfl⟩
  have D_core_question : Df K mg "core_question" s_core_question f_core_question _ ["names", "question"] := ⟨fun_mk (st := s_core_question) l_core_question w_core_question k_core_question, PySem.W.mg_of X G a_core_question, k_core_question, (fun_mk (st := s_core_question) l_core_question w_core_question k_core_question).binds (ps := ["names", "question"]) fun _ _ _ _ _ _ us hl => match us, hl with | [_, _], _ => rfl⟩
  have D_parts : Df K mg "parts" s_parts f_parts _ ["names", "statement"] := ⟨fun_mk (st := s_parts) l_parts w_parts k_parts, PySem.W.mg_of X G a_parts, k_parts, (fun_mk (st := s_parts) l_parts w_parts k_parts).binds (ps := ["names", "statement"]) fun _ _ _ _ _ _ us hl => match us, hl with | [_, _], _ => rfl⟩
  have D_role : Df K mg "_role" s_role f_role _ ["names", "role"] := ⟨fun_mk (st := s_role) l_role w_role k_role, PySem.W.mg_of X G a_role, k_role, (fun_mk (st := s_role) l_role w_role k_role).binds (ps := ["names", "role"]) fun _ _ _ _ _ _ us hl => match us, hl with | [_, _], _ => rfl⟩
  have D_parts_of_two_concepts : Df K mg "_parts_of_two_concepts" s_parts_of_two_concepts f_parts_of_two_concepts _ ["names", "statement"] := ⟨fun_mk (st := s_parts_of_two_concepts) l_parts_of_two_concepts w_parts_of_two_concepts k_parts_of_two_concepts, PySem.W.mg_of X G a_parts_of_two_concepts, k_parts_of_two_concepts, (fun_mk (st := s_parts_of_two_concepts) l_parts_of_two_concepts w_parts_of_two_concepts k_parts_of_two_concepts).binds (ps := ["names", "statement"]) fun _ _ _ _ _ _ us hl => match us, hl with | [_, _], _ => rfl⟩
  have D_typing : Df K mg "_typing" s_typing f_typing _ ["names", "role", "concept"] := ⟨fun_mk (st := s_typing) l_typing w_typing k_typing, PySem.W.mg_of X G a_typing, k_typing, (fun_mk (st := s_typing) l_typing w_typing k_typing).binds (ps := ["names", "role", "concept"]) fun _ _ _ _ _ _ us hl => match us, hl with | [_, _, _], _ => rfl⟩
  have D_law_cell : Df K mg "_law_cell" s_law_cell f_law_cell _ ["script", "k"] := ⟨fun_mk (st := s_law_cell) l_law_cell w_law_cell k_law_cell, PySem.W.mg_of X G a_law_cell, k_law_cell, (fun_mk (st := s_law_cell) l_law_cell w_law_cell k_law_cell).binds (ps := ["script", "k"]) fun _ _ _ _ _ _ us hl => match us, hl with | [_, _], _ => rfl⟩
  have D_law_draws : Df K mg "_law_draws" s_law_draws f_law_draws _ ["script", "k", "count"] := ⟨fun_mk (st := s_law_draws) l_law_draws w_law_draws k_law_draws, PySem.W.mg_of X G a_law_draws, k_law_draws, (fun_mk (st := s_law_draws) l_law_draws w_law_draws k_law_draws).binds (ps := ["script", "k", "count"]) fun _ _ _ _ _ _ us hl => match us, hl with | [_, _, _], _ => rfl⟩
  have D_law_take : Df K mg "_law_take" s_law_take f_law_take _ ["draws", "many"] := ⟨fun_mk (st := s_law_take) l_law_take w_law_take k_law_take, PySem.W.mg_of X G a_law_take, k_law_take, (fun_mk (st := s_law_take) l_law_take w_law_take k_law_take).binds (ps := ["draws", "many"]) fun _ _ _ _ _ _ us hl => match us, hl with | [_, _], _ => rfl⟩
  have D_law_frame : Df K mg "_law_frame" s_law_frame f_law_frame _ ["draws"] := ⟨fun_mk (st := s_law_frame) l_law_frame w_law_frame k_law_frame, PySem.W.mg_of X G a_law_frame, k_law_frame, (fun_mk (st := s_law_frame) l_law_frame w_law_frame k_law_frame).binds (ps := ["draws"]) fun _ _ _ _ _ _ us hl => match us, hl with | [_], _ => rfl⟩
  have D_law_names : Df K mg "_law_names" s_law_names f_law_names _ ["draws"] := ⟨fun_mk (st := s_law_names) l_law_names w_law_names k_law_names, PySem.W.mg_of X G a_law_names, k_law_names, (fun_mk (st := s_law_names) l_law_names w_law_names k_law_names).binds (ps := ["draws"]) fun _ _ _ _ _ _ us hl => match us, hl with | [_], _ => rfl⟩
  have D_law_role : Df K mg "_law_role" s_law_role f_law_role _ ["draws", "names", "sizes"] := ⟨fun_mk (st := s_law_role) l_law_role w_law_role k_law_role, PySem.W.mg_of X G a_law_role, k_law_role, (fun_mk (st := s_law_role) l_law_role w_law_role k_law_role).binds (ps := ["draws", "names", "sizes"]) fun _ _ _ _ _ _ us hl => match us, hl with | [_, _, _], _ => rfl⟩
  have D_law_concept : Df K mg "_law_concept" s_law_concept f_law_concept _ ["draws", "names", "sizes", "depth"] := ⟨fun_mk (st := s_law_concept) l_law_concept w_law_concept k_law_concept, PySem.W.mg_of X G a_law_concept, k_law_concept, (fun_mk (st := s_law_concept) l_law_concept w_law_concept k_law_concept).binds (ps := ["draws", "names", "sizes", "depth"]) fun _ _ _ _ _ _ us hl => match us, hl with | [_, _, _, _], _ => rfl⟩
  have D_law_statement : Df K mg "_law_statement" s_law_statement f_law_statement _ ["draws", "names", "sizes", "depth"] := ⟨fun_mk (st := s_law_statement) l_law_statement w_law_statement k_law_statement, PySem.W.mg_of X G a_law_statement, k_law_statement, (fun_mk (st := s_law_statement) l_law_statement w_law_statement k_law_statement).binds (ps := ["draws", "names", "sizes", "depth"]) fun _ _ _ _ _ _ us hl => match us, hl with | [_, _, _, _], _ => rfl⟩
  have D_law_question : Df K mg "_law_question" s_law_question f_law_question _ ["draws", "names", "sizes", "depth"] := ⟨fun_mk (st := s_law_question) l_law_question w_law_question k_law_question, PySem.W.mg_of X G a_law_question, k_law_question, (fun_mk (st := s_law_question) l_law_question w_law_question k_law_question).binds (ps := ["draws", "names", "sizes", "depth"]) fun _ _ _ _ _ _ us hl => match us, hl with | [_, _, _, _], _ => rfl⟩
  have D_law_core : Df K mg "_law_core" s_law_core f_law_core _ ["names", "concept"] := ⟨fun_mk (st := s_law_core) l_law_core w_law_core k_law_core, PySem.W.mg_of X G a_law_core, k_law_core, (fun_mk (st := s_law_core) l_law_core w_law_core k_law_core).binds (ps := ["names", "concept"]) fun _ _ _ _ _ _ us hl => match us, hl with | [_, _], _ => rfl⟩
  have D_law_same : Df K mg "_law_same" s_law_same f_law_same _ ["actual", "due"] := ⟨fun_mk (st := s_law_same) l_law_same w_law_same k_law_same, PySem.W.mg_of X G a_law_same, k_law_same, (fun_mk (st := s_law_same) l_law_same w_law_same k_law_same).binds (ps := ["actual", "due"]) fun _ _ _ _ _ _ us hl => match us, hl with | [_, _], _ => rfl⟩
  have D_law_parts : Df K mg "_law_parts" s_law_parts f_law_parts _ ["names", "tree"] := ⟨fun_mk (st := s_law_parts) l_law_parts w_law_parts k_law_parts, PySem.W.mg_of X G a_law_parts, k_law_parts, (fun_mk (st := s_law_parts) l_law_parts w_law_parts k_law_parts).binds (ps := ["names", "tree"]) fun _ _ _ _ _ _ us hl => match us, hl with | [_, _], _ => rfl⟩
  have D_law_asked : Df K mg "_law_asked" s_law_asked f_law_asked _ ["names", "tree"] := ⟨fun_mk (st := s_law_asked) l_law_asked w_law_asked k_law_asked, PySem.W.mg_of X G a_law_asked, k_law_asked, (fun_mk (st := s_law_asked) l_law_asked w_law_asked k_law_asked).binds (ps := ["names", "tree"]) fun _ _ _ _ _ _ us hl => match us, hl with | [_, _], _ => rfl⟩
  have D_law_told_names : Df K mg "_law_told_names" s_law_told_names f_law_told_names _ ["names", "sizes"] := ⟨fun_mk (st := s_law_told_names) l_law_told_names w_law_told_names k_law_told_names, PySem.W.mg_of X G a_law_told_names, k_law_told_names, (fun_mk (st := s_law_told_names) l_law_told_names w_law_told_names k_law_told_names).binds (ps := ["names", "sizes"]) fun _ _ _ _ _ _ us hl => match us, hl with | [_, _], _ => rfl⟩
  have z_all : mg "all" = none := PySem.W.mg_none_of X G y_all
  have z_bool : mg "bool" = none := PySem.W.mg_none_of X G y_bool
  have z_int : mg "int" = none := PySem.W.mg_none_of X G y_int
  have z_isinstance : mg "isinstance" = none := PySem.W.mg_none_of X G y_isinstance
  have z_len : mg "len" = none := PySem.W.mg_none_of X G y_len
  have z_min : mg "min" = none := PySem.W.mg_none_of X G y_min
  have z_range : mg "range" = none := PySem.W.mg_none_of X G y_range
  have z_str : mg "str" = none := PySem.W.mg_none_of X G y_str
  have z_tuple : mg "tuple" = none := PySem.W.mg_none_of X G y_tuple
  have m_ANYTHING : mg "ANYTHING" = some _ := PySem.W.mg_of X G g_ANYTHING
  have T_ANYTHING : ∀ H, SqT K H r_ANYTHING (K_ANYTHING.map V.str) := fun H => sqt_of u_ANYTHING v_ANYTHING vs_ANYTHING
  have m_NOTHING : mg "NOTHING" = some _ := PySem.W.mg_of X G g_NOTHING
  have T_NOTHING := dat_ref v_NOTHING
  have F_law := fun_mk (st := s_law) l_law w_law k_law
  refine ⟨PySem.W.fnOf "law" "law" (defArgs s_law) (defBody s_law) (defScope s_law) .none kV_law dc_law pm_law an_law cd_law ct_law, fun s v => .of_eq rfl, fun base _ _ => ?_⟩
  have c1 := c_law_cell (P := l.prog) (w := w) (base := base) D_law_cell z_len z_int
  have ct := c_law_take (P := l.prog) (w := w) (base := base) D_law_take z_int
  have lr := c_law_role D_law_role ct
  have lc := c_law_concept D_law_concept ct lr 5
  have cr := c_roleT (P := l.prog) (w := w) (base := base) D_role
  have cc := c_core D_core_concept m_ANYTHING m_NOTHING T_ANYTHING T_NOTHING cr 5
  have cq := c_quest (by decide) D_core_question cc
  have lk := c_lcore (P := l.prog) (w := w) (base := base) D_law_core 5
  have la := c_ask (by decide) D_law_asked lk
  exact ok_law F_law (c_law_draws D_law_draws c1 z_int z_range) ct (c_law_names D_law_names (c_law_frame D_law_frame ct z_range)) (c_told D_law_told_names z_tuple) lc (c_law_statement (by decide) D_law_statement ct lr lc z_min) (c_law_question (by decide) D_law_question ct lc)
    cc cq (c_parts (by decide) D_parts cq cr (c_inverse D_inverse) (c_two (by decide) D_parts_of_two_concepts cc m_NOTHING T_NOTHING) (c_typ (by decide) D_typing cc m_ANYTHING T_ANYTHING)) lk la (c_lparts (by decide) D_law_parts lk la) (c_law_same D_law_same z_isinstance z_tuple z_bool z_int z_str z_len z_all z_range 23)
end Pf
open PySem PySem.W PyProof.Rows
set_option maxHeartbeats 0 in
theorem PySem.Challenge.cw_ontoworks_k53_trees_with_numbers_holds : PySem.Challenge.rw_ontoworks_k53_trees_with_numbers.Holds := by
  w_on; o_law; k_head; (case hw => w_witness2)
  k_fill
  refine L2.walk_of (l := PySem.Challenge.rw_ontoworks_k53_trees_with_numbers) (n := 63) (k := 25) (x := "script") (CX := fun _ => L2.CX0) (sp := fun w => Pf.spLaw _) rfl (by decide) rfl ⟨rfl, by decide, by decide⟩ (fun w h Y => PySem.W.kIn_of Y) ?F (fun _ _ a ns hl _ hS => ⟨a, ns, rfl, hS, hl, fun _ => rfl⟩) (fun _ _ _ _ _ h => h)
  case F =>
    intro w mg fa h KX G hmg
    refine' Pf.all_mk KX G hmg ?a_inverse ?l_inverse ?w_inverse ?k_inverse ?a_core_concept ?l_core_concept ?w_core_concept ?k_core_concept ?a_core_question ?l_core_question ?w_core_question ?k_core_question ?a_parts ?l_parts ?w_parts ?k_parts ?a_role ?l_role ?w_role ?k_role ?a_parts_of_two_concepts ?l_parts_of_two_concepts ?w_parts_of_two_concepts ?k_parts_of_two_concepts ?a_typing ?l_typing ?w_typing ?k_typing ?a_law_cell ?l_law_cell ?w_law_cell ?k_law_cell ?a_law_draws ?l_law_draws ?w_law_draws ?k_law_draws ?a_law_take ?l_law_take ?w_law_take ?k_law_take ?a_law_frame ?l_law_frame ?w_law_frame ?k_law_frame ?a_law_names ?l_law_names ?w_law_names ?k_law_names ?a_law_role ?l_law_role ?w_law_role ?k_law_role ?a_law_concept ?l_law_concept ?w_law_concept ?k_law_concept ?a_law_statement ?l_law_statement ?w_law_statement ?k_law_statement ?a_law_question ?l_law_question ?w_law_question ?k_law_question ?a_law_core ?l_law_core ?w_law_core ?k_law_core ?a_law_same ?l_law_same ?w_law_same ?k_law_same ?a_law_parts ?l_law_parts ?w_law_parts ?k_law_parts ?a_law_asked ?l_law_asked ?w_law_asked ?k_law_asked ?a_law_told_names ?l_law_told_names ?w_law_told_names ?k_law_told_names ?a_law ?l_law ?w_law ?k_law ?y_all ?y_bool ?y_int ?y_isinstance ?y_len ?y_min ?y_range ?y_str ?y_tuple ?g_ANYTHING ?u_ANYTHING ?v_ANYTHING ?vs_ANYTHING ?g_NOTHING ?v_NOTHING
    (case a_inverse => k_is)
    (case l_inverse => k_is)
    (case w_inverse => k_is)
    (case k_inverse => k_is)
    (case a_core_concept => k_is)
    (case l_core_concept => k_is)
    (case w_core_concept => k_is)
    (case k_core_concept => k_is)
    (case a_core_question => k_is)
    (case l_core_question => k_is)
    (case w_core_question => k_is)
    (case k_core_question => k_is)
    (case a_parts => k_is)
    (case l_parts => k_is)
    (case w_parts => k_is)
    (case k_parts => k_is)
    (case a_role => k_is)
    (case l_role => k_is)
    (case w_role => k_is)
    (case k_role => k_is)
    (case a_parts_of_two_concepts => k_is)
    (case l_parts_of_two_concepts => k_is)
    (case w_parts_of_two_concepts => k_is)
    (case k_parts_of_two_concepts => k_is)
    (case a_typing => k_is)
    (case l_typing => k_is)
    (case w_typing => k_is)
    (case k_typing => k_is)
    (case a_law_cell => k_is)
    (case l_law_cell => k_is)
    (case w_law_cell => k_is)
    (case k_law_cell => k_is)
    (case a_law_draws => k_is)
    (case l_law_draws => k_is)
    (case w_law_draws => k_is)
    (case k_law_draws => k_is)
    (case a_law_take => k_is)
    (case l_law_take => k_is)
    (case w_law_take => k_is)
    (case k_law_take => k_is)
    (case a_law_frame => k_is)
    (case l_law_frame => k_is)
    (case w_law_frame => k_is)
    (case k_law_frame => k_is)
    (case a_law_names => k_is)
    (case l_law_names => k_is)
    (case w_law_names => k_is)
    (case k_law_names => k_is)
    (case a_law_role => k_is)
    (case l_law_role => k_is)
    (case w_law_role => k_is)
    (case k_law_role => k_is)
    (case a_law_concept => k_is)
    (case l_law_concept => k_is)
    (case w_law_concept => k_is)
    (case k_law_concept => k_is)
    (case a_law_statement => k_is)
    (case l_law_statement => k_is)
    (case w_law_statement => k_is)
    (case k_law_statement => k_is)
    (case a_law_question => k_is)
    (case l_law_question => k_is)
    (case w_law_question => k_is)
    (case k_law_question => k_is)
    (case a_law_core => k_is)
    (case l_law_core => k_is)
    (case w_law_core => k_is)
    (case k_law_core => k_is)
    (case a_law_same => k_is)
    (case l_law_same => k_is)
    (case w_law_same => k_is)
    (case k_law_same => k_is)
    (case a_law_parts => k_is)
    (case l_law_parts => k_is)
    (case w_law_parts => k_is)
    (case k_law_parts => k_is)
    (case a_law_asked => k_is)
    (case l_law_asked => k_is)
    (case w_law_asked => k_is)
    (case k_law_asked => k_is)
    (case a_law_told_names => k_is)
    (case l_law_told_names => k_is)
    (case w_law_told_names => k_is)
    (case k_law_told_names => k_is)
    (case a_law => k_is)
    (case l_law => k_is)
    (case w_law => k_is)
    (case k_law => k_is)
    (case y_all => k_is)
    (case y_bool => k_is)
    (case y_int => k_is)
    (case y_isinstance => k_is)
    (case y_len => k_is)
    (case y_min => k_is)
    (case y_range => k_is)
    (case y_str => k_is)
    (case y_tuple => k_is)
    (case g_ANYTHING => k_is); (case u_ANYTHING => k_is)
    (case v_ANYTHING => decide +kernel); (case vs_ANYTHING => decide +kernel)
    (case g_NOTHING => k_is); (case v_NOTHING => first | kernel_rfl | rfl)