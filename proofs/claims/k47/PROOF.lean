import PyProof.Rows.All
import Wide.All
import OpenK.AllK
import Wide.FinOn
import HandS.ForMost
import HandS.StrMore
import HandS.IsInst
import HandS.FStr
import HandS.Wide
import HandS.Flow
import HandS.TupAny
import HandS.Evl
import HandS.More
import PySem.Challenge.RW_ontoworks_k47_canonical_texts
set_option Elab.async false
set_option linter.all false
set_option maxRecDepth 100000
set_option maxHeartbeats 4000000

namespace Pf
open PySem PySem.Spec PyProof.Rows L2
/-- a def of the top under its name, bound without defaults -/
structure Df (K : PySem.W.Frag) (mg : Str → Option Value) (x : Str) (st : Stmt) (f : Addr) (fd : FuncData) (ps : List Str) : Prop where
  fn : Fun K x x st f fd
  mgf : mg x = some (.ref f)
  kp : PySem.W.keepIn K (.ref f) = true
  bd : Binds K fd ps []
/-- a def that keeps a promise, by its name -/
structure Cl (P : Program) (w : World) (K : PySem.W.Frag) (mg : Str → Option Value) (base : Heap) (k : Nat) (x : Str) (sp : Sp) : Prop where
  ex : ∃ (f : Addr) (fd : FuncData) (ps : List Str), FnOk P w K mg base CX0 k f fd ps sp ∧ mg x = some (.ref f) ∧ PySem.W.keepIn K (.ref f) = true ∧ Binds K fd ps []
section
variable {P : Program} {w : World} {K : PySem.W.Frag} {mg : Str → Option Value} {base : Heap}
theorem Df.cl {x : Str} {st : Stmt} {f : Addr} {fd : FuncData} {ps N : List Str} {k : Nat} {sp : Sp} (D : Df K mg x st f fd ps) (S : FnScope N ps (defScope st)) (len : ∀ vs H Q E, sp vs H Q E → vs.length = ps.length)
    (hbody : ∀ (cdv : Value) (A : Around) (outer : List Env) (s : Shared) (H : Hp) (vs : List V) (Q : VK) (E : XK), Room k (A.deeper (envOfC x (defScope st) s.heap.objs.size f cdv)) → sp vs H Q E →
      ∃ t, PSs (cxOf CX0 P w K mg base N x (defScope st) f cdv A outer s H E).nox (defBody st) t ∧ t { nx := fun _ H' => Q .non H', rt := Q } (start N vs) H) : Cl P w K mg base (k + 1) x sp :=
  ⟨f, fd, ps, D.fn.ok S len hbody, D.mgf, D.kp, D.bd⟩
theorem Cl.imp {x : Str} {k : Nat} {sp sp' : Sp} (c : Cl P w K mg base k x sp) (h : ∀ vs H Q E, sp' vs H Q E → sp vs H Q E) : Cl P w K mg base k x sp' := by
  obtain ⟨f, fd, ps, F, r⟩ := c.ex
  exact ⟨f, fd, ps, F.imp h, r⟩
theorem Cl.mono {x : Str} {k j : Nat} {sp : Sp} (c : Cl P w K mg base k x sp) (h : k ≤ j) : Cl P w K mg base j x sp := by
  obtain ⟨f, fd, ps, F, r⟩ := c.ex
  exact ⟨f, fd, ps, F.mono h, r⟩
end
section
variable {X : Cx} {k j : Nat} {x : Str} {sp : Sp} {p pos : Pos} {e : Expr} {es : List Expr} {t : TA}
theorem pc (c : Cl X.prog X.w X.K X.mg X.base k x sp) (hr : Room j X.A) (hk : k ≤ j) (hg : Gl X x) (ha : PA X (e :: es) t)
    (hdb : (x == ("__debug__" : Str)) = false := by decide) (he : starEach (e :: es) X.env = (false, eval e X.env) :: starEach es X.env := by rfl) (hpl : (backTo pos (starEach es X.env)).any (·.1) = false := by rfl) :
    PE X (.Call (.Name x p) (e :: es) [] pos) (tCall sp [] E0 t) := by
  obtain ⟨f, fd, ps, F, hm, kp, b⟩ := c.ex
  exact pe_call F (hr.mono hk) hg hm kp b .nil pass0 ha hdb he hpl
theorem pc0 (c : Cl X.prog X.w X.K X.mg X.base k x sp) (hr : Room j X.A) (hk : k ≤ j) (hg : Gl X x)
    (hdb : (x == ("__debug__" : Str)) = false := by decide) :
    PE X (.Call (.Name x p) [] [] pos) (tCall sp [] E0 tNil) := by
  obtain ⟨f, fd, ps, F, hm, kp, b⟩ := c.ex
  exact pe_call0 F (hr.mono hk) hg hm kp b .nil pass0 hdb
end
/-! heaps -/
theorem Same.new {H : Hp} {p : Addr} (o : HO) (h : H p = none) : Same H (upd H p o) := fun b u e => by
  rw [upd_ne (ne_of_none e h)]
  exact e
theorem Same.seqT {K : PySem.W.Frag} {H H' : Hp} {a : Addr} {xs : List V} (e : Same H H') (h : SqT K H a xs) : SqT K H' a xs := by
  rcases h with (h | ⟨o, h⟩) | h
  · exact .inl (.inl (e _ _ h))
  · exact .inl (.inr ⟨o, e _ _ h⟩)
  · exact .inr h
theorem upd_self {H : Hp} {a : Addr} {o : HO} (h : H a = some o) : upd H a o = H := by
  funext b
  unfold upd
  split
  · rename_i e
    rw [e, h]
  · rfl
/-! one short for the sign of a code -/
abbrev sg (c : Nat) : Str := ⟨#[c]⟩
/-! a written tuple of texts -/
def StrIts : List Value → List Str → Bool
  | [], [] => true
  | .str x _ :: vs, y :: ys => decide (x = y) && StrIts vs ys
  | _, _ => false
theorem strIts_vals : ∀ {vs : List Value} {ys : List Str}, StrIts vs ys = true → Vals (ys.map V.str) vs
  | [], [], _ => .nil
  | .str x t :: vs, y :: ys, h => by
    unfold StrIts at h
    rw [Bool.and_eq_true] at h
    have e := of_decide_eq_true h.1
    subst e
    exact .cons ⟨t, rfl⟩ (strIts_vals h.2)
theorem sqt_of {K : PySem.W.Frag} {H : Hp} {a : Addr} {od : Option Addr} {its : Array Value} {n : Nat} {sl : Array (Option Value)} {ys : List Str} (l : K.lookup a = some ⟨.type "tuple", od, .seq its n, sl⟩) (h : StrIts its.toList ys = true) (hs : decide (its.size ≤ 1000) = true) : SqT K H a (ys.map V.str) :=
  .inr ⟨_, its, n, l, rfl, rfl, Nat.le_trans (of_decide_eq_true hs) (by decide), strIts_vals h⟩
/-! the drawing helpers: what a caller needs of them -/
/-- _law_cell: some int -/
def spCell (K : PySem.W.Frag) : Sp := fun vs H Q _ => ∃ (a : Addr) (ns : List Int) (k : Int), vs = [.ref a, .int k] ∧ SqL K H a (ns.map V.int) ∧ ns.length ≤ 63 ∧ 0 ≤ k ∧ ∀ c : Int, Q (.int c) H
/-- _law_draws: a new list of so many ints, none below 0 -/
def spDraws (K : PySem.W.Frag) : Sp := fun vs H Q _ => ∃ (a : Addr) (ns : List Int) (k n : Int), vs = [.ref a, .int k, .int n] ∧ SqL K H a (ns.map V.int) ∧ ns.length ≤ 63 ∧ 0 ≤ k ∧ 0 ≤ n ∧ n ≤ 1000 ∧
  ∀ (ds : List Int) (p : Addr) (H' : Hp), Same H H' → H p = none → H' p = some (.lst (ds.map V.int)) → (ds.length : Int) = n → Q (.ref p) H'
/-- _law_take: an int below m; the list without its first -/
def spTake : Sp := fun vs H Q _ => ∃ (l : Addr) (ds : List Int) (m : Int), vs = [.ref l, .int m] ∧ H l = some (.lst (ds.map V.int)) ∧ 0 < m ∧ ∀ r : Int, 0 ≤ r → r < m → Q (.int r) (upd H l (.lst (ds.tail.map V.int)))
theorem map_tail {ds : List Int} : (ds.map V.int).tail = ds.tail.map V.int := by cases ds <;> rfl
theorem eraseIdx0 {α : Type} (xs : List α) : xs.eraseIdx 0 = xs.tail := by cases xs <;> rfl
/-- text * count -/
def rMulS : R2 := fun x y H Q => ∃ (z : Str) (n : Int), x = .str z ∧ y = .int n ∧ 0 ≤ n ∧ n ≤ 1000 ∧ z.length ≤ 10000 ∧ Q (.str (Txt.mul z n)) H
theorem mul_ok {z : Str} {n : Int} (h0 : 0 ≤ n) (h1 : n ≤ 1000) (hz : z.length ≤ 10000) : MulOk z n := by
  refine ⟨?_, fun h2 _ => ?_, fun _ _ => ?_⟩
  · rw [decide_eq_false (by omega), decide_eq_false (by omega)]
    rfl
  · intro h3
    have h4 : (2 ^ 63 - 1) / n ≥ (2 ^ 63 - 1) / 1000 := by
      refine Int.le_ediv_of_mul_le (by omega) ?_
      have : (2 ^ 63 - 1 : Int) / 1000 * n ≤ (2 ^ 63 - 1) / 1000 * 1000 := Int.mul_le_mul_of_nonneg_left h1 (by decide)
      exact Int.le_trans this (by decide)
    have h5 : ((2 : Int) ^ 63 - 1) / 1000 ≥ 10001 := by decide
    omega
  · unfold Builtin.Str.tooLong
    refine decide_eq_false ?_
    have : z.length * n.toNat ≤ 10000 * 1000 := Nat.mul_le_mul hz (by omega)
    have : sizeLine ≥ 10000000 := by decide
    omega
theorem op_mul_str {X : Cx} : OpR X (binaryOp .Mult) rMulS := by
  intro pins s σ H x y v u Q I rx ry h
  obtain ⟨z, n, rfl, rfl, h0, h1, hz, q⟩ := h
  obtain ⟨t, rfl⟩ := rx
  obtain ⟨t', rfl⟩ := ry
  exact PySem.SB.mul (mul_ok h0 h1 hz) fun t' k => ⟨.str (Txt.mul z n), H, I.tok _, ⟨_, rfl⟩, q⟩
/-- data of tuples, so many deep -/
def TupN : Nat → PyData → Prop
  | 0, _ => False
  | n + 1, .tuple ds => ds.length ≤ 100000 ∧ ∀ d ∈ ds, TupN n d
  | _ + 1, .list _ => False
  | _ + 1, .dict _ => False
  | _ + 1, _ => True
/-- _law_same upon the same data twice -/
def spSame (K : PySem.W.Frag) (n : Nat) : Sp := fun vs H Q _ => ∃ (x y : V) (d : PyData), vs = [x, y] ∧ Dp K H x d ∧ Dp K H y d ∧ TupN n d ∧ ∀ H', Same H H' → Q (.bl true) H'
theorem dpAll_len {K : PySem.W.Frag} {H : Hp} : ∀ {vs : List V} {ds : List PyData}, DpAll K H vs ds → vs.length = ds.length
  | _, _, .nil => rfl
  | _, _, .cons _ t => congrArg Nat.succ (dpAll_len t)
theorem dpAll_at {K : PySem.W.Frag} {H : Hp} : ∀ {vs : List V} {ds : List PyData}, DpAll K H vs ds → ∀ (i : Nat) (v : V) (d : PyData), vs[i]? = some v → ds[i]? = some d → Dp K H v d
  | _, _, .nil, i, v, d, h, _ => by simp at h
  | _, _, .cons a _, 0, v, d, h, h' => by
    simp at h h'
    rw [← h, ← h']
    exact a
  | _, _, .cons _ t, i + 1, v, d, h, h' => dpAll_at t i v d (by simpa using h) (by simpa using h')
mutual
theorem Dp.same {K : PySem.W.Frag} {H H' : Hp} (e : Same H H') : ∀ {d : PyData} {v : V}, Dp K H v d → Dp K H' v d
  | _, _, .non => .non
  | _, _, .bl b => .bl b
  | _, _, .int i => .int i
  | _, _, .str x => .str x
  | _, _, .lst h a => .lst (e.seq h) (DpAll.same e a)
  | _, _, .tup h a => .tup (Same.seqT e h) (DpAll.same e a)
theorem DpAll.same {K : PySem.W.Frag} {H H' : Hp} (e : Same H H') : ∀ {ds : List PyData} {vs : List V}, DpAll K H vs ds → DpAll K H' vs ds
  | _, _, .nil => .nil
  | _, _, .cons a t => .cons (Dp.same e a) (DpAll.same e t)
end
theorem tyT {K : PySem.W.Frag} {H : Hp} {a : Addr} {xs : List V} (h : SqT K H a xs) : TyX K H (.ref a) (.type "tuple") := by
  rcases h with (h | ⟨o, h⟩) | ⟨o, _, _, h, hc, _⟩
  · exact .base (.tup h)
  · exact .fTuple h
  · exact .kTuple h hc
theorem atI_some {α : Type} {xs : List α} {i : Nat} (h : i < xs.length) : atI xs (i : Int) = some xs[i] := atI_nat (List.getElem?_eq_getElem h)
/-- a sign that a text may have -/
def ChrOk (c : Nat) : Prop := 32 ≤ c ∧ c ≤ 126 ∧ c ≠ 37
instance (c : Nat) : Decidable (ChrOk c) := inferInstanceAs (Decidable (_ ∧ _))
def spChar : Sp := fun vs H Q _ => ∃ d : Int, vs = [.int d] ∧ ∀ c : Nat, ChrOk c → Q (.str (sg c)) H
/-! rules whose reading names the written part, said with it given (a comprehension's block wants that) -/
theorem ixT {X : Cx} {K : PySem.W.Frag} (h : X.K = K := by rfl) : IxR X (rIxT K) := by
  subst h
  exact ix_tup
theorem ixL {X : Cx} {K : PySem.W.Frag} (h : X.K = K := by rfl) : IxR X (rIxL K) := by
  subst h
  exact ix_list
def rLenQ (K : PySem.W.Frag) : List V → Hp → VK → Prop := fun xs H Q => ∃ p ys, xs = [.ref p] ∧ (SqL K H p ys ∨ SqT K H p ys) ∧ Q (.int ys.length) H
theorem lenQ {X : Cx} {K : PySem.W.Frag} (h : X.K = K := by rfl) : CallR X (.builtin "len") (rLenQ K) := by
  subst h
  exact call_len_seq
section
variable {K : PySem.W.Frag} {σ : L2.St} {H : Hp} {i : Nat} {x : V} {t T : String} {tt u : TS} {D : Ends}
theorem ev_isi {b : Bool} {Q : VK} (h : σ[i]? = some (some x)) (ty : TyX K H x (.type t)) (k : kitB t T = some b) (q : Q (.bl b) H) : tCB (rIsi K) (tCons (tVar i) (tCons (tC (.ty T)) tNil)) σ H Q := ⟨x, h, x, .ty T, _, _, b, rfl, .ty _, ty, kit_ty k, q⟩
theorem if_isiF (h : σ[i]? = some (some x)) (ty : TyX K H x (.type t)) (k : kitB t T = some false) (q : u D σ H) : tIfS (tB (tCB (rIsi K) (tCons (tVar i) (tCons (tC (.ty T)) tNil)))) tt u D σ H := ev_isi h ty k ⟨_, rfl, iteF q⟩
theorem if_isiT (h : σ[i]? = some (some x)) (ty : TyX K H x (.type t)) (k : kitB t T = some true) (q : tt D σ H) : tIfS (tB (tCB (rIsi K) (tCons (tVar i) (tCons (tC (.ty T)) tNil)))) tt u D σ H := ev_isi h ty k ⟨_, rfl, iteT q⟩
end
/-- an object that H does not know may change -/
theorem Same.mut {H H1 : Hp} {p : Addr} (o : HO) (e : Same H H1) (n : H p = none) : Same H (upd H1 p o) := fun b u h => by
  rw [upd_ne (ne_of_none h n)]
  exact e b u h
end Pf
namespace Pf
open PySem PySem.Spec PyProof.Rows L2
/-! data of tuples stands while lists change -/
def KT (K : PySem.W.Frag) (H H' : Hp) : Prop := ∀ a xs, SqT K H a xs → SqT K H' a xs
theorem KT.of {K : PySem.W.Frag} {H H' : Hp} (e : Same H H') : KT K H H' := fun _ _ h => Same.seqT e h
theorem KT.trans {K : PySem.W.Frag} {H H1 H2 : Hp} (a : KT K H H1) (b : KT K H1 H2) : KT K H H2 := fun x xs h => b x xs (a x xs h)
theorem KT.lst {K : PySem.W.Frag} {H : Hp} {l : Addr} {xs : List V} (o : HO) (h : H l = some (.lst xs)) : KT K H (upd H l o) := fun a ys q => by
  rcases q with (q | ⟨ob, q⟩) | q
  · exact .inl (.inl ((upd_ne (ne_of q h (by intro z; cases z))).trans q))
  · exact .inl (.inr ⟨ob, (upd_ne (ne_of q h (by intro z; cases z))).trans q⟩)
  · exact .inr q
theorem KT.ins {K : PySem.W.Frag} {H : Hp} {l C dx : Addr} {fs : List (Str × V)} (o : HO) (h : H l = some (.ins C dx fs)) : KT K H (upd H l o) := fun a ys q => by
  rcases q with (q | ⟨ob, q⟩) | q
  · exact .inl (.inl ((upd_ne (ne_of q h (by intro z; cases z))).trans q))
  · exact .inl (.inr ⟨ob, (upd_ne (ne_of q h (by intro z; cases z))).trans q⟩)
  · exact .inr q
theorem KT.new {K : PySem.W.Frag} {H : Hp} {l : Addr} (o : HO) (h : H l = none) : KT K H (upd H l o) := KT.of (Same.new o h)
mutual
theorem Dp.kt {K : PySem.W.Frag} {H H' : Hp} (e : KT K H H') : ∀ {n : Nat} {d : PyData} {v : V}, TupN n d → Dp K H v d → Dp K H' v d
  | _, _, _, _, .non => .non
  | _, _, _, _, .bl b => .bl b
  | _, _, _, _, .int i => .int i
  | _, _, _, _, .str x => .str x
  | 0, _, _, z, .lst _ _ => z.elim
  | _ + 1, _, _, z, .lst _ _ => z.elim
  | 0, _, _, z, .tup _ _ => z.elim
  | _ + 1, _, _, z, .tup h a => .tup (e _ _ h) (DpAll.kt e z.2 a)
theorem DpAll.kt {K : PySem.W.Frag} {H H' : Hp} (e : KT K H H') : ∀ {n : Nat} {ds : List PyData} {vs : List V}, (∀ d ∈ ds, TupN n d) → DpAll K H vs ds → DpAll K H' vs ds
  | _, _, _, _, .nil => .nil
  | _, _, _, z, .cons a t => .cons (Dp.kt e (z _ (List.mem_cons_self ..)) a) (DpAll.kt e (fun d hd => z d (List.mem_cons_of_mem _ hd)) t)
end
theorem dpAll_app {K : PySem.W.Frag} {H : Hp} : ∀ {vs ws : List V} {ds es : List PyData}, DpAll K H vs ds → DpAll K H ws es → DpAll K H (vs ++ ws) (ds ++ es)
  | _, _, _, _, .nil, h => h
  | _, _, _, _, .cons a t, h => .cons a (dpAll_app t h)
/-! a slice of a list of ints -/
def cutI {α : Type} (ds : List α) (lo hi : Option Int) : List α := (ds.drop (HT.sIx ds.length 0 lo)).take (HT.sIx ds.length ds.length hi - HT.sIx ds.length 0 lo)
theorem cutV_map {α : Type} (f : α → V) (ds : List α) (lo hi : Option Int) : cutV (ds.map f) lo hi = (cutI ds lo hi).map f := by
  unfold cutV cutI
  rw [List.length_map, List.map_take, List.map_drop]
end Pf
namespace Pf
open PySem PySem.Spec PyProof.Rows L2
/-- all but d stands -/
def SameX (d : Addr) (H H' : Hp) : Prop := ∀ b o, b ≠ d → H b = some o → H' b = some o
theorem SameX.refl (d : Addr) (H : Hp) : SameX d H H := fun _ _ _ h => h
theorem SameX.trans {d : Addr} {H H1 H2 : Hp} (a : SameX d H H1) (b : SameX d H1 H2) : SameX d H H2 := fun x o n h => b x o n (a x o n h)
theorem SameX.new {d p : Addr} {H : Hp} (o : HO) (h : H p = none) : SameX d H (upd H p o) := fun b u _ e => Same.new o h b u e
theorem SameX.at {d : Addr} {H : Hp} (o : HO) : SameX d H (upd H d o) := fun b u n e => (upd_ne n).trans e
theorem SameX.mut {d p : Addr} {H H1 : Hp} (o : HO) (e : SameX d H H1) (h : H p = none) : SameX d H (upd H1 p o) := fun b u n q => by
  rw [upd_ne (ne_of_none q h)]
  exact e b u n q
theorem SameX.of {d : Addr} {H H' : Hp} (e : Same H H') : SameX d H H' := fun b o _ h => e b o h
theorem KT.x {K : PySem.W.Frag} {d : Addr} {H H' : Hp} {xs : List V} (h : H d = some (.lst xs)) (e : SameX d H H') : KT K H H' := fun a ys q => by
  rcases q with (q | ⟨ob, q⟩) | q
  · exact .inl (.inl (e _ _ (ne_of q h (by intro z; cases z)) q))
  · exact .inl (.inr ⟨ob, e _ _ (ne_of q h (by intro z; cases z)) q⟩)
  · exact .inr q
theorem SameX.free {d p : Addr} {H H' : Hp} (e : SameX d H H') (n : p ≠ d) (h : H' p = none) : H p = none := by
  cases q : H p with
  | none => rfl
  | some o =>
    rw [e p o n q] at h
    cases h
end Pf

namespace Pf
open PySem PySem.Spec PyProof.Rows L2
/-! texts by the lists of their codes -/
abbrev T (l : List Nat) : Str := ⟨l.toArray⟩
theorem T_of (x : Str) : x = T x.cps.toList := TL.ext_tl rfl
theorem T_len (l : List Nat) : (T l).length = l.length := by simp [Str.length]
theorem T_cat (a b : List Nat) : T a ++ T b = T (a ++ b) := TL.ext_tl (TL.tl_append (T a) (T b))
theorem T_inj {a b : List Nat} (h : T a = T b) : a = b := congrArg (fun x : Str => x.cps.toList) h
theorem T_eq {a b : List Nat} : decide (T a = T b) = decide (a = b) := by
  by_cases h : a = b
  · rw [h, decide_eq_true rfl, decide_eq_true rfl]
  · rw [decide_eq_false h, decide_eq_false fun e => h (T_inj e)]
theorem V_eq {a b : List Nat} : decide (V.str (T a) = V.str (T b)) = decide (a = b) := by
  by_cases h : a = b
  · rw [h, decide_eq_true rfl, decide_eq_true rfl]
  · rw [decide_eq_false h, decide_eq_false fun e => h (T_inj (V.str.inj e))]
theorem cut_to (l : List Nat) (n : Nat) : cutS (T l) none (some (n : Int)) = T (l.take n) := by
  unfold cutS
  rw [HT.sIx_none, HT.sIx_nat, T_len]
  refine TL.ext_tl ?_
  show (l.drop 0).take (min n l.length - 0) = l.take n
  rw [List.drop_zero, Nat.sub_zero, ← List.take_eq_take_min]
theorem cut_from (l : List Nat) (n : Nat) : cutS (T l) (some (n : Int)) none = T (l.drop n) := by
  unfold cutS
  rw [HT.sIx_none, HT.sIx_nat, T_len]
  refine TL.ext_tl ?_
  show (l.drop (min n l.length)).take (l.length - min n l.length) = l.drop n
  by_cases h : n ≤ l.length
  · rw [Nat.min_eq_left h, List.take_of_length_le (by rw [List.length_drop]; omega)]
  · rw [Nat.min_eq_right (by omega), List.drop_eq_nil_of_le (by omega), List.drop_eq_nil_of_le (by omega), List.take_nil]
theorem cut_mid (l : List Nat) {a b : Nat} (ha : a ≤ b) (hb : b ≤ l.length) : cutS (T l) (some (a : Int)) (some (b : Int)) = T ((l.drop a).take (b - a)) := by
  unfold cutS
  rw [HT.sIx_nat, HT.sIx_nat, T_len, Nat.min_eq_left (show a ≤ l.length by omega), Nat.min_eq_left hb]
/-- a text walked by its signs -/
theorem for_txt {l : List Nat} {g : TG} {tb : TS} {D : Ends} {σ : L2.St} {H : Hp} (Pv : Nat → L2.St → Hp → Prop) (h0 : Pv 0 σ H)
    (hs : ∀ i c σ H, l[i]? = some c → Pv i σ H → g (.str (sg c)) σ H fun σ2 H2 => tb { D with nx := Pv (i + 1), ct := Pv (i + 1), bk := D.nx } σ2 H2) (hd : ∀ σ H, Pv l.length σ H → D.nx σ H) :
    ∃ W : Nat → Nat → L2.St → Hp → Prop, (∃ m, W 0 m σ H) ∧ ∀ i m σ H, W i m σ H →
      ((Its (T l)).stop i H ∧ D.nx σ H) ∨ ((Its (T l)).go i H ∧ ∃ N : L2.St → Hp → Prop, (∀ σ' H', N σ' H' → ∃ m', m' < m ∧ W (i + 1) m' σ' H') ∧ ∀ x H', (Its (T l)).yld i H x H' → g x σ H' fun σ2 H2 => tb { D with nx := N, ct := N, bk := D.nx } σ2 H2) := by
  refine ⟨fun i m σ H => m = l.length - i ∧ i ≤ l.length ∧ Pv i σ H, ⟨l.length, by simp, Nat.zero_le _, h0⟩, ?_⟩
  rintro i m σ H ⟨rfl, hi, p⟩
  by_cases hlt : i < l.length
  · refine .inr ⟨(by show i < l.toArray.size; simpa using hlt), Pv (i + 1), fun σ' H' p' => ⟨l.length - (i + 1), by omega, rfl, hlt, p'⟩, fun x H' y => ?_⟩
    obtain ⟨rfl, c, hc, rfl⟩ := y
    exact hs i c σ H' (by simpa using hc) p
  · have e : i = l.length := by omega
    subst e
    exact .inl ⟨(by show l.toArray.size ≤ l.length; simp), hd _ _ p⟩
/-- a comprehension over a text -/
theorem lc_txt {l : List Nat} {g : TG} {tt : TT} {te : TE} {vs : List Nat} {σ : L2.St} {H1 : Hp} {D : Addr} {Qd : Hp → Prop} (Pv : Nat → Hp → Prop) (h0 : Pv 0 (upd H1 D (.lst [])))
    (hs : ∀ i c H, l[i]? = some c → Pv i H → g (.str (sg c)) (wipe σ vs) H fun σ2 H2 => wipe σ2 vs = wipe σ vs ∧ tt σ2 H2 fun b H3 =>
      if b = true then te σ2 H3 fun y H4 => ∃ acc, H4 D = some (.lst acc) ∧ acc.length < sizeLine ∧ Pv (i + 1) (upd H4 D (.lst (acc ++ [y]))) else Pv (i + 1) H3) (hd : ∀ H, Pv l.length H → Qd H) :
    ∃ W : Nat → Nat → Hp → Prop, (∃ m, W 0 m (upd H1 D (.lst []))) ∧ ∀ i m H, W i m H →
      ((Its (T l)).stop i H ∧ Qd H) ∨ ((Its (T l)).go i H ∧ ∃ Nx : Hp → Prop, (∀ H', Nx H' → ∃ m', m' < m ∧ W (i + 1) m' H') ∧ ∀ x H', (Its (T l)).yld i H x H' → g x (wipe σ vs) H' fun σ2 H2 => wipe σ2 vs = wipe σ vs ∧ tt σ2 H2 fun b H3 =>
        if b = true then te σ2 H3 fun y H4 => ∃ acc, H4 D = some (.lst acc) ∧ acc.length < sizeLine ∧ Nx (upd H4 D (.lst (acc ++ [y]))) else Nx H3) := by
  refine ⟨fun i m H => m = l.length - i ∧ i ≤ l.length ∧ Pv i H, ⟨l.length, by simp, Nat.zero_le _, h0⟩, ?_⟩
  rintro i m H ⟨rfl, hi, p⟩
  by_cases hlt : i < l.length
  · refine .inr ⟨(by show i < l.toArray.size; simpa using hlt), Pv (i + 1), fun H' p' => ⟨l.length - (i + 1), by omega, rfl, hlt, p'⟩, fun x H' y => ?_⟩
    obtain ⟨rfl, c, hc, rfl⟩ := y
    exact hs i c H' (by simpa using hc) p
  · have e : i = l.length := by omega
    subst e
    exact .inl ⟨(by show l.toArray.size ≤ l.length; simp), hd _ p⟩
theorem small9 {n : Nat} (h : n ≤ 1000000) : n ≤ sizeLine := Nat.le_trans h (by decide)
/-- a sign of a text all of whose signs are of a kind -/
theorem ix_of {z : Str} {i : Int} {H : Hp} {Q : VK} (p : Nat → Bool) (h0 : 0 ≤ i) (h1 : i < (z.length : Int)) (hz : z.length ≤ sizeLine) (hc : z.cps.toList.all p = true) (q : ∀ c, p c = true → Q (.str (sg c)) H) : rIxS (.str z) (.int i) H Q := by
  have hl : z.length = z.cps.toList.length := by simp [Str.length]
  have hi : i.toNat < z.cps.toList.length := by omega
  have ei : i = ((i.toNat : Nat) : Int) := by omega
  refine ⟨z, i, z.cps.toList[i.toNat], rfl, rfl, hz, ?_, q _ (List.all_eq_true.mp hc _ (List.getElem_mem hi))⟩
  have := atI_some hi
  rw [← ei] at this
  exact this
theorem nl_eq : Str.ofString "\n" = T [10] := by decide +kernel
theorem e_eq : Str.ofString "" = T [] := by decide +kernel
theorem at_any {α : Type} {xs : List α} (p : α → Prop) {i : Int} (h0 : 0 ≤ i) (h1 : i < (xs.length : Int)) (h : ∀ x ∈ xs, p x) : ∃ v, p v ∧ atI xs i = some v := by
  have hi : i.toNat < xs.length := by omega
  have ei : i = ((i.toNat : Nat) : Int) := by omega
  refine ⟨xs[i.toNat], h _ (List.getElem_mem hi), ?_⟩
  have := atI_some hi
  rw [← ei] at this
  exact this
theorem inV_strs (x : Str) (ys : List Str) : inV (.str x) (ys.map V.str) = decide (x ∈ ys) := by
  unfold inV
  rw [List.any_map]
  induction ys with
  | nil => rfl
  | cons y ys ih =>
    rw [List.any_cons, ih]
    show ((y == x) || decide (x ∈ ys)) = decide (x ∈ y :: ys)
    by_cases h : y = x
    · subst h
      rw [beq_self_eq_true, Bool.true_or, decide_eq_true (List.mem_cons_self ..)]
    · rw [beq_false_of_ne h, Bool.false_or]
      by_cases h2 : x ∈ ys
      · rw [decide_eq_true h2, decide_eq_true (List.mem_cons_of_mem _ h2)]
      · rw [decide_eq_false h2, decide_eq_false]
        intro h3
        rcases List.mem_cons.mp h3 with h3 | h3
        · exact h h3.symm
        · exact h2 h3
theorem flat_strs (ys : List Str) : (ys.map V.str).all flatV = true := by
  rw [List.all_map, List.all_eq_true]
  intro x _
  rfl
theorem join_T (a : List Nat) (ys : List (List Nat)) : Txt.join (T a) (ys.map T) = T (TL.joinL a ys) := by
  rw [TL.join_eq]
  refine TL.ext_tl ?_
  rw [TL.tl_join, List.map_map]
  have e : ys.map (TL.tl ∘ T) = ys := by
    induction ys with
    | nil => rfl
    | cons y ys ih =>
      rw [List.map_cons, ih]
      rfl
  rw [e]
/-! the kinds of signs -/
def isL (c : Nat) : Bool := decide (c ∈ (Str.ofString "abcdefghijklmnopqrstuvwxyzABCDEFGHIJKLMNOPQRSTUVWXYZ_").cps.toList)
def isW (c : Nat) : Bool := isL c || decide (c ∈ (Str.ofString "0123456789").cps.toList)
def isB (c : Nat) : Bool := decide (c ∈ (Str.ofString " \n").cps.toList)
def isS (c : Nat) : Bool := decide (c ∈ (Str.ofString "();,:").cps.toList)
end Pf

namespace Pf
open PySem PySem.Spec PyProof.Rows L2
/-! written trees as data -/
def lit (s : String) : List Nat := (Str.ofString s).cps.toList
theorem lit_T (s : String) : Str.ofString s = T (lit s) := T_of _
abbrev Rol := List Nat × Bool
def rolD (r : Rol) : PyData := .tuple [.str (T r.1), .bool r.2]
inductive Con where
  | any | nothing
  | name (s : List Nat)
  | not (c : Con)
  | both (c d : Con)
  | either (c d : Con)
  | some (r : Rol) (c : Con)
  | all (r : Rol) (c : Con)
namespace Con
def D : Con → PyData
  | .any => .tuple [.str (Str.ofString "anything")]
  | .nothing => .tuple [.str (Str.ofString "nothing")]
  | .name s => .tuple [.str (Str.ofString "name"), .str (T s)]
  | .not c => .tuple [.str (Str.ofString "not"), c.D]
  | .both c d => .tuple [.str (Str.ofString "and"), c.D, d.D]
  | .either c d => .tuple [.str (Str.ofString "or"), c.D, d.D]
  | .some r c => .tuple [.str (Str.ofString "some"), rolD r, c.D]
  | .all r c => .tuple [.str (Str.ofString "all"), rolD r, c.D]
/-- how many trees are within one another -/
def dp : Con → Nat
  | .not c => c.dp + 1
  | .both c d => max c.dp d.dp + 1
  | .either c d => max c.dp d.dp + 1
  | .some _ c => c.dp + 1
  | .all _ c => c.dp + 1
  | _ => 0
/-- a bound of its text -/
def sz : Con → Nat
  | .name s => s.length + 20
  | .not c => c.sz + 20
  | .both c d => c.sz + d.sz + 20
  | .either c d => c.sz + d.sz + 20
  | .some r c => r.1.length + c.sz + 40
  | .all r c => r.1.length + c.sz + 40
  | _ => 20
end Con
theorem rolN (r : Rol) : TupN 2 (rolD r) := ⟨(by show 2 ≤ 100000; decide), fun d hd => by
  rcases List.mem_cons.mp hd with rfl | hd
  · trivial
  rw [List.mem_singleton.mp hd]
  trivial⟩
theorem TupN.up : ∀ {n : Nat} {d : PyData}, TupN n d → TupN (n + 1) d
  | 0, _, h => h.elim
  | n + 1, .tuple ds, h => ⟨h.1, fun d hd => TupN.up (h.2 d hd)⟩
  | _ + 1, .list _, h => h.elim
  | _ + 1, .dict _, h => h.elim
  | _ + 1, .none, _ => trivial
  | _ + 1, .bool _, _ => trivial
  | _ + 1, .int _, _ => trivial
  | _ + 1, .str _, _ => trivial
theorem TupN.le {n m : Nat} {d : PyData} (h : TupN n d) (e : n ≤ m) : TupN m d := by
  obtain ⟨k, rfl⟩ : ∃ k, m = n + k := ⟨m - n, by omega⟩
  induction k with
  | zero => exact h
  | succ k ih => exact (ih (by omega)).up
theorem tupN_of {n : Nat} {ds : List PyData} (hl : ds.length ≤ 100000) (h : ∀ d ∈ ds, TupN n d) : TupN (n + 1) (.tuple ds) := ⟨hl, h⟩
theorem tup1 {n : Nat} {a : PyData} (ha : TupN n a) : TupN (n + 1) (.tuple [a]) := ⟨(by show 1 ≤ 100000; decide), fun d hd => by
  rw [List.mem_singleton.mp hd]
  exact ha⟩
theorem tup2 {n : Nat} {a b : PyData} (ha : TupN n a) (hb : TupN n b) : TupN (n + 1) (.tuple [a, b]) := ⟨(by show 2 ≤ 100000; decide), fun d hd => by
  rcases List.mem_cons.mp hd with rfl | hd
  · exact ha
  rw [List.mem_singleton.mp hd]
  exact hb⟩
theorem tup3 {n : Nat} {a b c : PyData} (ha : TupN n a) (hb : TupN n b) (hc : TupN n c) : TupN (n + 1) (.tuple [a, b, c]) := ⟨(by show 3 ≤ 100000; decide), fun d hd => by
  rcases List.mem_cons.mp hd with rfl | hd
  · exact ha
  rcases List.mem_cons.mp hd with rfl | hd
  · exact hb
  rw [List.mem_singleton.mp hd]
  exact hc⟩
theorem tup4 {n : Nat} {a b c e : PyData} (ha : TupN n a) (hb : TupN n b) (hc : TupN n c) (he : TupN n e) : TupN (n + 1) (.tuple [a, b, c, e]) := ⟨(by show 4 ≤ 100000; decide), fun d hd => by
  rcases List.mem_cons.mp hd with rfl | hd
  · exact ha
  rcases List.mem_cons.mp hd with rfl | hd
  · exact hb
  rcases List.mem_cons.mp hd with rfl | hd
  · exact hc
  rw [List.mem_singleton.mp hd]
  exact he⟩
theorem strN (n : Nat) (x : Str) : TupN (n + 1) (.str x) := trivial
theorem Con.tn : ∀ c : Con, TupN (c.dp + 3) c.D
  | .any => tup1 trivial
  | .nothing => tup1 trivial
  | .name _ => tup2 trivial trivial
  | .not c => tup2 trivial (Con.tn c)
  | .both c d => tup3 trivial ((Con.tn c).le (by show c.dp + 3 ≤ max c.dp d.dp + 3; omega)) ((Con.tn d).le (by show d.dp + 3 ≤ max c.dp d.dp + 3; omega))
  | .either c d => tup3 trivial ((Con.tn c).le (by show c.dp + 3 ≤ max c.dp d.dp + 3; omega)) ((Con.tn d).le (by show d.dp + 3 ≤ max c.dp d.dp + 3; omega))
  | .some r c => tup3 trivial ((rolN r).le (by omega)) (Con.tn c)
  | .all r c => tup3 trivial ((rolN r).le (by omega)) (Con.tn c)
/-! data taken apart -/
section
variable {K : PySem.W.Frag} {H : Hp} {v : V}
theorem dp_tup {ds : List PyData} (h : Dp K H v (.tuple ds)) : ∃ a xs, v = .ref a ∧ SqT K H a xs ∧ DpAll K H xs ds := by
  cases h with
  | tup h a => exact ⟨_, _, rfl, h, a⟩
theorem dp_str {x : Str} (h : Dp K H v (.str x)) : v = .str x := by
  cases h
  rfl
theorem dp_bool {b : Bool} (h : Dp K H v (.bool b)) : v = .bl b := by
  cases h
  rfl
theorem dp_int {i : Int} (h : Dp K H v (.int i)) : v = .int i := by
  cases h
  rfl
theorem da_cons {xs : List V} {d : PyData} {ds : List PyData} (h : DpAll K H xs (d :: ds)) : ∃ x r, xs = x :: r ∧ Dp K H x d ∧ DpAll K H r ds := by
  cases h with
  | cons a t => exact ⟨_, _, rfl, a, t⟩
theorem da_nil {xs : List V} (h : DpAll K H xs []) : xs = [] := by
  cases h
  rfl
theorem dp1 {x : Str} (h : Dp K H v (.tuple [.str x])) : ∃ a, v = .ref a ∧ SqT K H a [.str x] := by
  obtain ⟨a, xs, rfl, hs, hd⟩ := dp_tup h
  obtain ⟨y, r, rfl, h1, hd⟩ := da_cons hd
  cases da_nil hd
  cases dp_str h1
  exact ⟨a, rfl, hs⟩
theorem dp2 {x : Str} {d : PyData} (h : Dp K H v (.tuple [.str x, d])) : ∃ a y, v = .ref a ∧ SqT K H a [.str x, y] ∧ Dp K H y d := by
  obtain ⟨a, xs, rfl, hs, hd⟩ := dp_tup h
  obtain ⟨y, r, rfl, h1, hd⟩ := da_cons hd
  obtain ⟨z, r, rfl, h2, hd⟩ := da_cons hd
  cases da_nil hd
  cases dp_str h1
  exact ⟨a, z, rfl, hs, h2⟩
theorem dp3 {x : Str} {d e : PyData} (h : Dp K H v (.tuple [.str x, d, e])) : ∃ a y z, v = .ref a ∧ SqT K H a [.str x, y, z] ∧ Dp K H y d ∧ Dp K H z e := by
  obtain ⟨a, xs, rfl, hs, hd⟩ := dp_tup h
  obtain ⟨y, r, rfl, h1, hd⟩ := da_cons hd
  obtain ⟨z, r, rfl, h2, hd⟩ := da_cons hd
  obtain ⟨w, r, rfl, h3, hd⟩ := da_cons hd
  cases da_nil hd
  cases dp_str h1
  exact ⟨a, z, w, rfl, hs, h2, h3⟩
theorem dp4 {x : Str} {d e g : PyData} (h : Dp K H v (.tuple [.str x, d, e, g])) : ∃ a y z w, v = .ref a ∧ SqT K H a [.str x, y, z, w] ∧ Dp K H y d ∧ Dp K H z e ∧ Dp K H w g := by
  obtain ⟨a, xs, rfl, hs, hd⟩ := dp_tup h
  obtain ⟨y, r, rfl, h1, hd⟩ := da_cons hd
  obtain ⟨z, r, rfl, h2, hd⟩ := da_cons hd
  obtain ⟨w, r, rfl, h3, hd⟩ := da_cons hd
  obtain ⟨u, r, rfl, h4, hd⟩ := da_cons hd
  cases da_nil hd
  cases dp_str h1
  exact ⟨a, z, w, u, rfl, hs, h2, h3, h4⟩
theorem dpRol {r : Rol} (h : Dp K H v (rolD r)) : ∃ a, v = .ref a ∧ SqT K H a [.str (T r.1), .bl r.2] := by
  obtain ⟨a, y, rfl, hs, h2⟩ := dp2 h
  cases dp_bool h2
  exact ⟨a, rfl, hs⟩
end
/-! a test whose texts are written -/
section
variable {K : PySem.W.Frag} {σ : L2.St} {H : Hp} {i : Nat} {s t t' : Str} {tt u : TS} {D : Ends}
theorem if_eqF (h : σ[i]? = some (some (.str s))) (hd : decide (s = t) = false) (q : u D σ H) : tIfS (tTest (tOp rEq (tVar i) (tC (.str t)))) tt u D σ H := ⟨_, h, rfl, _, rfl, by
  rw [decide_eq_false (fun z => of_decide_eq_false hd (V.str.inj z))]
  exact iteF q⟩
theorem if_eqT (h : σ[i]? = some (some (.str s))) (hd : decide (s = t) = true) (q : tt D σ H) : tIfS (tTest (tOp rEq (tVar i) (tC (.str t)))) tt u D σ H := ⟨_, h, rfl, _, rfl, by
  rw [decide_eq_true (congrArg V.str (of_decide_eq_true hd))]
  exact iteT q⟩
theorem if_eq2F (h : σ[i]? = some (some (.str s))) (hd : (decide (s = t) || decide (s = t')) = false) (q : u D σ H) : tIfS (tOr (tTest (tOp rEq (tVar i) (tC (.str t)))) (tTest (tOp rEq (tVar i) (tC (.str t'))))) tt u D σ H := by
  rw [Bool.or_eq_false_iff] at hd
  refine ⟨_, h, rfl, _, rfl, ?_⟩
  rw [decide_eq_false (fun z => of_decide_eq_false hd.1 (V.str.inj z))]
  refine iteF ⟨_, h, rfl, _, rfl, ?_⟩
  rw [decide_eq_false (fun z => of_decide_eq_false hd.2 (V.str.inj z))]
  exact iteF q
theorem if_eq2T (h : σ[i]? = some (some (.str s))) (hd : (decide (s = t) || decide (s = t')) = true) (q : tt D σ H) : tIfS (tOr (tTest (tOp rEq (tVar i) (tC (.str t)))) (tTest (tOp rEq (tVar i) (tC (.str t'))))) tt u D σ H := by
  refine ⟨_, h, rfl, _, rfl, ?_⟩
  by_cases e : s = t
  · rw [decide_eq_true (congrArg V.str e)]
    exact iteT (iteT q)
  · rw [decide_eq_false (fun z => e (V.str.inj z))]
    rw [decide_eq_false e, Bool.false_or] at hd
    refine iteF ⟨_, h, rfl, _, rfl, ?_⟩
    rw [decide_eq_true (congrArg V.str (of_decide_eq_true hd))]
    exact iteT q
theorem if_in2 {b : Bool} (h : σ[i]? = some (some (.str s))) (hd : (decide (s = t) || decide (s = t')) = b) (q1 : b = true → ∀ p, H p = none → tt D σ (upd H p (.tup [.str t, .str t']))) (q2 : b = false → ∀ p, H p = none → u D σ (upd H p (.tup [.str t, .str t']))) :
    tIfS (tTest (tOp (rIn K false) (tVar i) (tTup (tCons (tC (.str t)) (tCons (tC (.str t')) tNil))))) tt u D σ H := by
  refine ⟨_, h, by show 2 ≤ sizeLine; decide, fun p hp => ⟨p, _, rfl, .inr (SqT.of upd_same), rfl, rfl, b, ?_, ?_⟩⟩
  · show V.bl (inV (.str s) [.str t, .str t']) = .bl b
    rw [show [V.str t, V.str t'] = [t, t'].map V.str from rfl, inV_strs, ← hd, ← Bool.decide_or]
    exact congrArg V.bl (decide_eq_decide.mpr (by simp))
  · cases b with
    | true => exact iteT (q1 rfl p hp)
    | false => exact iteF (q2 rfl p hp)
theorem if_in2T (h : σ[i]? = some (some (.str s))) (hd : (decide (s = t) || decide (s = t')) = true) (q : ∀ p, H p = none → tt D σ (upd H p (.tup [.str t, .str t']))) :
    tIfS (tTest (tOp (rIn K false) (tVar i) (tTup (tCons (tC (.str t)) (tCons (tC (.str t')) tNil))))) tt u D σ H := if_in2 h hd (fun _ => q) (fun z => Bool.noConfusion z)
theorem if_in2F (h : σ[i]? = some (some (.str s))) (hd : (decide (s = t) || decide (s = t')) = false) (q : ∀ p, H p = none → u D σ (upd H p (.tup [.str t, .str t']))) :
    tIfS (tTest (tOp (rIn K false) (tVar i) (tTup (tCons (tC (.str t)) (tCons (tC (.str t')) tNil))))) tt u D σ H := if_in2 h hd (fun z => Bool.noConfusion z) (fun _ => q)
end
/-! texts glued in an f-string -/
section
variable {σ : L2.St} {H : Hp} {ts : List TE} {te : TE} {Q : Str → Hp → Prop}
theorem js_c {a : List Nat} {s : String} (hl : decide ((lit s).length ≤ 20) = true) (hz : a.length ≤ 400000) (q : tJs ts (T (a ++ lit s)) σ H Q) : tJs (tC (.str (Str.ofString s)) :: ts) (T a) σ H Q := by
  refine ⟨Str.ofString s, rfl, ?_, ?_⟩
  · rw [Str.length_append, lit_T, T_len, T_len]
    have := of_decide_eq_true hl
    exact small9 (by omega)
  · rw [lit_T s, T_cat]
    exact q
/-- a field whose value is a text: te gives it, the heap may have grown -/
theorem js_e {a b : List Nat} (ht : ∀ R : VK, (∀ H', Same H H' → R (.str (T b)) H') → te σ H R) (hb : b.length ≤ 400000) (hz : a.length ≤ 400000) (q : ∀ H', Same H H' → tJs ts (T (a ++ b)) σ H' Q) : tJs (tFmt te :: ts) (T a) σ H Q := by
  refine ht _ fun H' e => .inl ⟨T b, rfl, by rw [T_len]; exact small9 (by omega), T b, rfl, by rw [Str.length_append, T_len, T_len]; exact small9 (by omega), ?_⟩
  rw [T_cat]
  exact q H' e
theorem js_0 (q : tJs ts (T []) σ H Q) : tJs ts Str.empty σ H Q := q
theorem js_end {a : List Nat} (q : Q (T a) H) : tJs [] (T a) σ H Q := q
end
end Pf
namespace Pf
open PySem PySem.Spec PyProof.Rows L2
/-! what gives a text, from a heap on -/
def GT (te : TE) (σ : L2.St) (H : Hp) (b : List Nat) : Prop := ∀ H1, Same H H1 → ∀ R : VK, (∀ H', Same H1 H' → R (.str (T b)) H') → te σ H1 R
def rAddS : R2 := fun x y H Q => ∃ i j, x = V.str i ∧ y = V.str j ∧ i.length + j.length ≤ sizeLine ∧ Q (.str (i ++ j)) H
section
variable {σ : L2.St} {H H' : Hp} {ta tb te : TE} {a b : List Nat} {i : Nat}
theorem GT.mono (g : GT te σ H b) (e : Same H H') : GT te σ H' b := fun H1 e1 R r => g H1 (e.trans e1) R r
theorem gt_c (s : String) : GT (tC (.str (Str.ofString s))) σ H (lit s) := fun H1 _ R r => by
  have := r H1 (Same.refl _)
  rw [← lit_T] at this
  exact this
theorem gt_var (h : σ[i]? = some (some (.str (T b)))) : GT (tVar i) σ H b := fun H1 _ R r => ⟨_, h, r H1 (Same.refl _)⟩
theorem gt_varL {s : String} (h : σ[i]? = some (some (.str (Str.ofString s)))) : GT (tVar i) σ H (lit s) := fun H1 _ R r => ⟨_, h, by
  have := r H1 (Same.refl _)
  rw [← lit_T] at this
  exact this⟩
theorem gt_add (ha : GT ta σ H a) (hb : GT tb σ H b) (la : a.length ≤ 400000) (lb : b.length ≤ 400000) : GT (tOp rAddS ta tb) σ H (a ++ b) := fun H1 e R r =>
  ha H1 e _ fun H2 e2 => hb H2 (e.trans e2) _ fun H3 e3 => ⟨_, _, rfl, rfl, by rw [T_len, T_len]; exact small9 (by omega), by
    rw [T_cat]
    exact r H3 (e2.trans e3)⟩
theorem gt_ret {D : Ends} (h : GT te σ H b) (q : ∀ H', Same H H' → D.rt (.str (T b)) H') : tRet te D σ H := h H (Same.refl _) _ q
theorem gt_set {D : Ends} (h : GT te σ H b) (q : ∀ H', Same H H' → D.nx (σ.set i (some (.str (T b)))) H') : tAsg te (gName i) D σ H := h H (Same.refl _) _ q
end
/-! statements and questions as they are written -/
inductive Stm where
  | below (c d : Con) | equals (c d : Con) | apart (c d : Con)
  | domain (r : Rol) (c : Con) | range (r : Rol) (c : Con)
  | under (r s : Rol) | inverse (a b : List Nat) | is (a : List Nat) (c : Con) | has (a b c : List Nat) | never
namespace Stm
def D : Stm → PyData
  | .below c d => .tuple [.str (Str.ofString "below"), c.D, d.D]
  | .equals c d => .tuple [.str (Str.ofString "equals"), c.D, d.D]
  | .apart c d => .tuple [.str (Str.ofString "apart"), c.D, d.D]
  | .domain r c => .tuple [.str (Str.ofString "domain"), rolD r, c.D]
  | .range r c => .tuple [.str (Str.ofString "range"), rolD r, c.D]
  | .under r s => .tuple [.str (Str.ofString "under"), rolD r, rolD s]
  | .inverse a b => .tuple [.str (Str.ofString "inverse"), .str (T a), .str (T b)]
  | .is a c => .tuple [.str (Str.ofString "is"), .str (T a), c.D]
  | .has a b c => .tuple [.str (Str.ofString "has"), .str (T a), .str (T b), .str (T c)]
  | .never => .tuple [.str (Str.ofString "never")]
def dp : Stm → Nat
  | .below c d | .equals c d | .apart c d => max c.dp d.dp
  | .domain _ c | .range _ c | .is _ c => c.dp
  | _ => 0
def sz : Stm → Nat
  | .below c d | .equals c d | .apart c d => c.sz + d.sz + 40
  | .domain r c | .range r c => r.1.length + c.sz + 40
  | .is a c => a.length + c.sz + 40
  | .under r s => r.1.length + s.1.length + 40
  | .inverse a b => a.length + b.length + 40
  | .has a b c => a.length + b.length + c.length + 40
  | .never => 40
theorem tn : ∀ s : Stm, TupN (s.dp + 4) s.D
  | .below c d | .equals c d | .apart c d => tup3 trivial ((Con.tn c).le (by show c.dp + 3 ≤ max c.dp d.dp + 3; omega)) ((Con.tn d).le (by show d.dp + 3 ≤ max c.dp d.dp + 3; omega))
  | .domain r c | .range r c => tup3 trivial ((rolN r).le (by omega)) (Con.tn c)
  | .under r s => tup3 trivial ((rolN r).le (by omega)) ((rolN s).le (by omega))
  | .inverse a b => tup3 trivial trivial trivial
  | .is a c => tup3 trivial trivial (Con.tn c)
  | .has a b c => tup4 trivial trivial trivial trivial
  | .never => tup1 trivial
end Stm
end Pf

namespace Pf
open PySem PySem.Spec PyProof.Rows L2
def topS (i : Nat) : Stmt := PySem.Challenge.pw_ontoworks_k47_canonical_texts.main.body.getD i (.Pass ⟨0, 0, 0, 0⟩)
abbrev K_DECLARING : List (Str × Str) := [(Str.ofString "concepts", Str.ofString "concept"), (Str.ofString "roles", Str.ofString "role"), (Str.ofString "individuals", Str.ofString "individual")]
abbrev K_OR_RANK : Int := 0
abbrev K_AND_RANK : Int := 1
abbrev K_FRONT_RANK : Int := 2
abbrev s_print_concept : Stmt := topS 5
theorem sc_print_concept : FnScope ["concept", "kind", "rank"] ["concept"] (defScope s_print_concept) := ⟨rfl, rfl, rfl, by decide +kernel, rfl, by decide +kernel, by decide +kernel⟩
abbrev s_print_statement : Stmt := topS 6
theorem sc_print_statement : FnScope ["statement", "kind"] ["statement"] (defScope s_print_statement) := ⟨rfl, rfl, rfl, by decide +kernel, rfl, by decide +kernel, by decide +kernel⟩
abbrev s_print_question : Stmt := topS 7
theorem sc_print_question : FnScope ["question"] ["question"] (defScope s_print_question) := ⟨rfl, rfl, rfl, by decide +kernel, rfl, by decide +kernel, by decide +kernel⟩
abbrev s_print_source : Stmt := topS 8
theorem sc_print_source : FnScope ["items", "item"] ["items"] (defScope s_print_source) := ⟨rfl, rfl, rfl, by decide +kernel, rfl, by decide +kernel, by decide +kernel⟩
abbrev s_item : Stmt := topS 9
theorem sc_item : FnScope ["item", "names"] ["item"] (defScope s_item) := ⟨rfl, rfl, rfl, by decide +kernel, rfl, by decide +kernel, by decide +kernel⟩
abbrev s_role : Stmt := topS 10
theorem sc_role : FnScope ["role", "name", "back"] ["role"] (defScope s_role) := ⟨rfl, rfl, rfl, by decide +kernel, rfl, by decide +kernel, by decide +kernel⟩
abbrev s_rank : Stmt := topS 11
theorem sc_rank : FnScope ["concept"] ["concept"] (defScope s_rank) := ⟨rfl, rfl, rfl, by decide +kernel, rfl, by decide +kernel, by decide +kernel⟩
abbrev s_operand : Stmt := topS 12
theorem sc_operand : FnScope ["concept", "rank", "text"] ["concept", "rank"] (defScope s_operand) := ⟨rfl, rfl, rfl, by decide +kernel, rfl, by decide +kernel, by decide +kernel⟩
abbrev s_law_cell : Stmt := topS 14
theorem sc_law_cell : FnScope ["script", "k"] ["script", "k"] (defScope s_law_cell) := ⟨rfl, rfl, rfl, by decide +kernel, rfl, by decide +kernel, by decide +kernel⟩
abbrev s_law_draws : Stmt := topS 15
theorem sc_law_draws : FnScope ["script", "k", "count", "cell", "rest", "seed", "found", "at"] ["script", "k", "count"] (defScope s_law_draws) := ⟨rfl, rfl, rfl, by decide +kernel, rfl, by decide +kernel, by decide +kernel⟩
abbrev s_law_take : Stmt := topS 16
theorem sc_law_take : FnScope ["draws", "many"] ["draws", "many"] (defScope s_law_take) := ⟨rfl, rfl, rfl, by decide +kernel, rfl, by decide +kernel, by decide +kernel⟩
abbrev s_law_frame : Stmt := topS 17
theorem sc_law_frame : FnScope ["draws", "left", "k", "right"] ["draws"] (defScope s_law_frame) := ⟨rfl, rfl, rfl, by decide +kernel, rfl, by decide +kernel, by decide +kernel⟩
abbrev s_law_names : Stmt := topS 18
theorem sc_law_names : FnScope ["draws", "frame", "rows", "marks", "mark"] ["draws"] (defScope s_law_names) := ⟨rfl, rfl, rfl, by decide +kernel, rfl, by decide +kernel, by decide +kernel⟩
abbrev s_law_role : Stmt := topS 19
theorem sc_law_role : FnScope ["draws", "names", "sizes", "name"] ["draws", "names", "sizes"] (defScope s_law_role) := ⟨rfl, rfl, rfl, by decide +kernel, rfl, by decide +kernel, by decide +kernel⟩
abbrev s_law_concept : Stmt := topS 20
theorem sc_law_concept : FnScope ["draws", "names", "sizes", "depth", "kind", "role", "word", "left"] ["draws", "names", "sizes", "depth"] (defScope s_law_concept) := ⟨rfl, rfl, rfl, by decide +kernel, rfl, by decide +kernel, by decide +kernel⟩
abbrev s_law_statement : Stmt := topS 21
theorem sc_law_statement : FnScope ["draws", "names", "sizes", "depth", "kind", "one", "role", "word", "left"] ["draws", "names", "sizes", "depth"] (defScope s_law_statement) := ⟨rfl, rfl, rfl, by decide +kernel, rfl, by decide +kernel, by decide +kernel⟩
abbrev s_law_question : Stmt := topS 22
theorem sc_law_question : FnScope ["draws", "names", "sizes", "depth", "kind", "one", "role", "left"] ["draws", "names", "sizes", "depth"] (defScope s_law_question) := ⟨rfl, rfl, rfl, by decide +kernel, rfl, by decide +kernel, by decide +kernel⟩
abbrev s_law_say_role : Stmt := topS 23
theorem sc_law_say_role : FnScope ["role"] ["role"] (defScope s_law_say_role) := ⟨rfl, rfl, rfl, by decide +kernel, rfl, by decide +kernel, by decide +kernel⟩
abbrev s_law_say : Stmt := topS 24
theorem sc_law_say : FnScope ["concept", "least", "kind", "text", "strength"] ["concept", "least"] (defScope s_law_say) := ⟨rfl, rfl, rfl, by decide +kernel, rfl, by decide +kernel, by decide +kernel⟩
abbrev s_law_says : Stmt := topS 25
theorem sc_law_says : FnScope ["tree", "kind"] ["tree"] (defScope s_law_says) := ⟨rfl, rfl, rfl, by decide +kernel, rfl, by decide +kernel, by decide +kernel⟩
abbrev s_law_same : Stmt := topS 26
theorem sc_law_same : FnScope ["actual", "due", "k"] ["actual", "due"] (defScope s_law_same) := ⟨rfl, rfl, rfl, by decide +kernel, rfl, by decide +kernel, by decide +kernel⟩
abbrev s_law : Stmt := topS 27
theorem sc_law : FnScope ["script", "draws", "names", "concept", "tree", "asked", "items", "text", "k", "inner", "kind", "row", "name"] ["script"] (defScope s_law) := ⟨rfl, rfl, rfl, by decide +kernel, rfl, by decide +kernel, by decide +kernel⟩
local macro_rules | `(tactic| walk_at "w") => `(tactic| repeat (first
  | refine ⟨_, rfl, ?_⟩
  | refine ⟨_, _, rfl, rfl, .inr ⟨by decide, by decide⟩, ?_⟩
  | refine ⟨_, _, rfl, rfl, .inl ⟨by decide, by decide⟩, ?_⟩
  | refine ⟨_, _, rfl, rfl, ⟨by decide, by decide⟩, ?_⟩
  | refine ⟨_, _, rfl, rfl, ⟨by decide, by decide, by decide⟩, ?_⟩
  | refine ⟨_, _, rfl, rfl, (by show (0 : Int) < _; decide), ?_⟩
  | refine ⟨_, _, rfl, rfl, ?_⟩
  | refine .inl ⟨_, rfl, ?_⟩))
section
variable {P : Program} {w : World} {K : PySem.W.Frag} {mg : Str → Option Value} {base : Heap}
theorem at_int {ns : List Int} {k : Int} (h0 : 0 ≤ k) (h : k < ((ns.map V.int).length : Int)) : ∃ c, atI (ns.map V.int) k = some (.int c) := by
  have hk : k.toNat < ns.length := by rw [List.length_map] at h; omega
  have ek : k = ((k.toNat : Nat) : Int) := by omega
  have q : atI (ns.map V.int) ((k.toNat : Nat) : Int) = some (.int ns[k.toNat]) := atI_nat (by rw [List.getElem?_map, List.getElem?_eq_getElem hk] <;> rfl)
  rw [← ek] at q
  exact ⟨_, q⟩
theorem c_law_cell {f : Addr} {fd : FuncData} (D : Df K mg "_law_cell" s_law_cell f fd ["script", "k"]) (z_len : mg "len" = none) (z_int : mg "int" = none) : Cl P w K mg base 1 "_law_cell" (spCell K) := by
  refine D.cl sc_law_cell (fun vs H Q E h => ?_) (fun cdv A outer s H vs Q E hr h => ?_)
  · obtain ⟨a, ns, k, rfl, _⟩ := h
    rfl
  obtain ⟨a, ns, k, rfl, hS, h63, h0, q⟩ := h
  refine ⟨_, (pss_cons (ps_if (pt_cmpR op_lt (pv 1) (pe_callB call_len_seq (by rfl) z_len PySem.boot_len (pa_cons (pv 0) pa_nil)) (nomark _)) (pss_one (ps_ret (pe_callTy call_int1 (by rfl) z_int (by decide +kernel) (pa_cons (pe_ix ix_list (pv 0) (pv 1) (fun _ _ => rfl)) pa_nil)))) pss_nil)
      (pss_one (ps_ret pe_int))), ?_⟩
  refine ⟨_, rfl, _, rfl, a, _, rfl, .inl hS, _, _, rfl, rfl, _, rfl, ite2 (fun c => ?_) (fun c => ?_)⟩
  · obtain ⟨v, hv⟩ := at_int (ns := ns) h0 (of_decide_eq_true c)
    exact ⟨_, rfl, _, rfl, a, _, _, _, rfl, rfl, hS, hv, .inl ⟨_, rfl, q v⟩⟩
  · exact q 0
theorem c_law_take {f : Addr} {fd : FuncData} (D : Df K mg "_law_take" s_law_take f fd ["draws", "many"]) (z_int : mg "int" = none) : Cl P w K mg base 1 "_law_take" spTake := by
  refine D.cl sc_law_take (fun vs H Q E h => ?_) (fun cdv A outer s H vs Q E hr h => ?_)
  · obtain ⟨l, ds, m, rfl, _⟩ := h
    rfl
  obtain ⟨l, ds, m, rfl, hl, hm, q⟩ := h
  refine ⟨_, (pss_cons (ps_if (pt_not (pt_truth (pv 0) (by intro _; rfl))) (pss_one (ps_ret pe_int)) pss_nil)
      (pss_one (ps_ret (pe_op op_mod (pe_callTy call_int1 (by rfl) z_int (by decide +kernel) (pa_cons (pe_bm PySem.F.plainAttrs_list PySem.F.slot_list_pop PySem.F.type_list_pop mt_popAt (pv 0) (pa_cons pe_int pa_nil)) pa_nil)) (pv 1))))), ?_⟩
  cases ds with
  | nil =>
    refine ⟨_, rfl, false, .inl ⟨_, SqL.of hl, rfl⟩, iteT ?_⟩
    have := q 0 (Int.le_refl 0) hm
    rw [show upd H l (.lst (([] : List Int).tail.map V.int)) = H from upd_self hl] at this
    exact this
  | cons d r =>
    refine ⟨_, rfl, true, .inl ⟨_, SqL.of hl, rfl⟩, iteF ?_⟩
    refine ⟨_, rfl, .inl ⟨rfl, _, SqL.of hl⟩, l, _, _, 0, .int d, rfl, rfl, hl, by decide, by decide, seqIndex?_zero (Nat.succ_pos _), rfl, .inl ⟨_, rfl, _, rfl, _, _, rfl, rfl, hm, ?_⟩⟩
    exact q (d % m) (Int.emod_nonneg _ (by omega)) (Int.emod_lt_of_pos _ hm)
theorem c_law_draws {f : Addr} {fd : FuncData} (D : Df K mg "_law_draws" s_law_draws f fd ["script", "k", "count"]) (c_law_cell : Cl P w K mg base 1 "_law_cell" (spCell K)) (z_int : mg "int" = none) (z_range : mg "range" = none) : Cl P w K mg base 2 "_law_draws" (spDraws K) := by
  refine D.cl sc_law_draws (fun vs H Q E h => ?_) (fun cdv A outer s H vs Q E hr h => ?_)
  · obtain ⟨a, ns, k, n, rfl, _⟩ := h
    rfl
  obtain ⟨a, ns, k, n, rfl, hS, h63, h0, hn0, hn, q⟩ := h
  refine ⟨_, (pss_cons (ps_set (i := 3) sc_law_draws.nd rfl (.inl rfl) (pc c_law_cell hr (by first | decide | omega) (by rfl) (pa_cons (pv 0) (pa_cons (pv 1) pa_nil))))
      (pss_cons (ps_set (i := 4) sc_law_draws.nd rfl (.inl rfl) pe_int)
      (Evl.pss_cut (ps_if (pt_cmpR op_ge (pv 3) (pe_op op_pow pe_int pe_int) (nomark _)) (pss_one (ps_set (i := 4) sc_law_draws.nd rfl (.inl rfl) (pe_op op_fdivW (pv 3) (pe_op op_pow pe_int pe_int)))) pss_nil)
      (pss_cons (ps_set (i := 5) sc_law_draws.nd rfl (.inl rfl) (pe_op op_mod (pe_callTy call_int1 (by rfl) z_int (by decide +kernel) (pa_cons (pe_op op_add (pe_op op_add (pe_op op_mul (pv 3) pe_int) (pe_op op_mul (pv 1) pe_int)) pe_int) pa_nil)) pe_int))
      (pss_cons (ps_set (i := 6) sc_law_draws.nd rfl (.inl rfl) (pe_lst pa_nil))
      (pss_cons (ps_for PassesOwn.never rfl (pi_range1 (by rfl) z_range (pa_cons (pv 2) pa_nil)) (pg_name (i := 7) sc_law_draws.nd rfl (.inl rfl)) (pss_cons (ps_set (i := 5) sc_law_draws.nd rfl (.inl rfl) (pe_op op_mod (pe_callTy call_int1 (by rfl) z_int (by decide +kernel) (pa_cons (pe_op op_add (pe_op op_add (pe_op op_mul (pv 5) pe_int) (pe_op op_mul (pv 7) pe_int)) pe_int) pa_nil)) pe_int))
      (pss_one (ps_if (pt_cmpR op_gt (pv 4) pe_int (nomark _)) (pss_cons (ps_expr (pe_bm PySem.F.plainAttrs_list PySem.F.slot_list_append PySem.F.type_list_append mt_append (pv 6) (pa_cons (pe_op op_mod (pe_callTy call_int1 (by rfl) z_int (by decide +kernel) (pa_cons (pv 4) pa_nil)) pe_int) pa_nil)))
      (pss_one (ps_set (i := 4) sc_law_draws.nd rfl (.inl rfl) (pe_op op_fdiv (pv 4) pe_int)))) (pss_one (ps_expr (pe_bm PySem.F.plainAttrs_list PySem.F.slot_list_append PySem.F.type_list_append mt_append (pv 6) (pa_cons (pe_op op_mod (pe_callTy call_int1 (by rfl) z_int (by decide +kernel) (pa_cons (pe_op op_fdiv (pv 5) pe_int) pa_nil)) pe_int) pa_nil))))))))
      (pss_one (ps_ret (pv 6))))))))), ?_⟩
  refine ⟨_, rfl, _, rfl, a, ns, k, rfl, hS, h63, h0, fun c => ?_⟩
  walk_at "w"
  refine ⟨fun σ' H' => ∃ r : Int, σ' = [some (.ref a), some (.int k), some (.int n), some (.int c), some (.int r), none, none, none] ∧ H = H', ?_, ?_⟩
  · walk_at "w"
    refine ite2 (fun c1 => ?_) (fun c1 => ?_)
    · walk_at "w"
      exact rfl
    · exact ⟨0, rfl, rfl⟩
  rintro _ _ ⟨r, rfl, rfl⟩
  walk_at "w"
  refine ⟨Nat.zero_le _, fun p hp => ?_⟩
  walk_at "w"
  refine ⟨by omega, by omega, for_range (lo := 0) (n := n.toNat) (fun i σ' H' => ∃ (r sd : Int) (x : Option V) (ds : List Int), σ' = [some (.ref a), some (.int k), some (.int n), some (.int c), some (.int r), some (.int sd), some (.ref p), x] ∧ ds.length = i ∧ H' = upd H p (.lst (ds.map V.int))) ⟨_, _, none, [], rfl, rfl, rfl⟩ ?_ ?_⟩
  · rintro i _ _ hi ⟨r, sd, x, ds, rfl, hd, rfl⟩
    have hz : (ds.map V.int).length < sizeLine := by
      rw [List.length_map]
      exact small1000 (by omega)
    have e1 : ∀ y : Int, upd (upd H p (.lst (ds.map V.int))) p (.lst (ds.map V.int ++ [V.int y])) = upd H p (.lst ((ds ++ [y]).map V.int)) := fun y => by
      rw [upd_upd, List.map_append]
      rfl
    walk_at "w"
    refine ite2 (fun c1 => ?_) (fun c1 => ?_)
    · walk_at "w"
      refine ⟨.inl ⟨rfl, _, SqL.of upd_same⟩, ?_⟩
      walk_at "w"
      refine ⟨p, _, _, rfl, rfl, upd_same, hz, ?_⟩
      walk_at "w"
      exact ⟨_, _, _, ds ++ [_], rfl, by rw [List.length_append, hd]; rfl, e1 _⟩
    · walk_at "w"
      refine ⟨.inl ⟨rfl, _, SqL.of upd_same⟩, ?_⟩
      walk_at "w"
      refine ⟨p, _, _, rfl, rfl, upd_same, hz, ?_⟩
      exact ⟨_, _, _, ds ++ [_], rfl, by rw [List.length_append, hd]; rfl, e1 _⟩
  · rintro _ _ ⟨r, sd, x, ds, rfl, hd, rfl⟩
    exact ⟨_, rfl, q ds p _ (Same.new _ hp) hp upd_same (by omega)⟩
theorem c_law_same {f : Addr} {fd : FuncData} (D : Df K mg "_law_same" s_law_same f fd ["actual", "due"]) (z_isinstance : mg "isinstance" = none) (z_tuple : mg "tuple" = none) (z_bool : mg "bool" = none) (z_int : mg "int" = none) (z_str : mg "str" = none)
    (z_len : mg "len" = none) (z_all : mg "all" = none) (z_range : mg "range" = none) : ∀ n : Nat, Cl P w K mg base (n + 1) "_law_same" (spSame K n)
  | 0 => by
    refine D.cl sc_law_same (fun vs H Q E h => ?_) (fun cdv A outer s H vs Q E hr h => ?_)
    · obtain ⟨x, y, d, rfl, _⟩ := h
      rfl
    · obtain ⟨x, y, d, rfl, _, _, z, _⟩ := h
      exact z.elim
  | n + 1 => by
    have c_law_same := c_law_same D z_isinstance z_tuple z_bool z_int z_str z_len z_all z_range n
    refine D.cl sc_law_same (fun vs H Q E h => ?_) (fun cdv A outer s H vs Q E hr h => ?_)
    · obtain ⟨x, y, d, rfl, _⟩ := h
      rfl
    obtain ⟨x, y, d, rfl, hx, hy, hd, q⟩ := h
    refine ⟨_, (pss_cons (ps_if (pt_val (pe_callB call_isi (by rfl) z_isinstance (by decide +kernel) (pa_cons (pv 1) (pa_cons (pe_bltn (v := .ty "tuple") (u := .type "tuple") (by rfl) z_tuple (by decide +kernel) rfl) pa_nil)))) (pss_cons (ps_if (PW.pt (pw_or (pt_not (pt_val (pe_callB call_isi (by rfl) z_isinstance (by decide +kernel) (pa_cons (pv 0) (pa_cons (pe_bltn (v := .ty "tuple") (u := .type "tuple") (by rfl) z_tuple (by decide +kernel) rfl) pa_nil))))) (pw_or1 (pt_cmpR op_ne (pe_callB call_len_seq (by rfl) z_len PySem.boot_len (pa_cons (pv 0) pa_nil)) (pe_callB call_len_seq (by rfl) z_len PySem.boot_len (pa_cons (pv 1) pa_nil)) (nomark _))))) (pss_one (ps_ret pe_bl)) pss_nil)
      (pss_one (ps_ret (pe_callB (cr_all rfl) (by rfl) z_all (by decide +kernel) (pa_cons (pe_lc (own := [("k", 2)]) (g := gName 2) (tt := tYes) (by rfl) sc_law_same.nd (pi_range1 (by rfl) z_range (pa_cons (pe_callB call_len_seq (by rfl) z_len PySem.boot_len (pa_cons (pv 1) pa_nil)) pa_nil)) (blkOk_by (own := [("k", 2)]) (N := ["actual", "due", "k"]) (sc := defScope s_law_same) (by decide +kernel)) (fun _ _ _ _ _ => pg_name (i := 2) sc_law_same.nd rfl (.inl rfl)) (fun _ _ _ _ _ => pts_nil) (fun _ _ _ _ _ => (pc c_law_same hr (by first | decide | omega) (by rfl) (pa_cons (pe_ix (ixT (K := K)) (pv 0) (pv 2) (fun _ _ => rfl)) (pa_cons (pe_ix (ixT (K := K)) (pv 1) (pv 2) (fun _ _ => rfl)) pa_nil))))) pa_nil))))) pss_nil)
      (pss_cons (ps_if (pt_val (pe_callB call_isi (by rfl) z_isinstance (by decide +kernel) (pa_cons (pv 1) (pa_cons (pe_bltn (v := .ty "bool") (u := .type "bool") (by rfl) z_bool (by decide +kernel) rfl) pa_nil)))) (pss_one (ps_ret (pe_and (pe_callB call_isi (by rfl) z_isinstance (by decide +kernel) (pa_cons (pv 0) (pa_cons (pe_bltn (v := .ty "bool") (u := .type "bool") (by rfl) z_bool (by decide +kernel) rfl) pa_nil))) (pe_one (pe_cmpR op_eq (pv 0) (pv 1) (nomark _)))))) pss_nil)
      (pss_cons (ps_if (pt_val (pe_callB call_isi (by rfl) z_isinstance (by decide +kernel) (pa_cons (pv 1) (pa_cons (pe_bltn (v := .ty "int") (u := .type "int") (by rfl) z_int (by decide +kernel) rfl) pa_nil)))) (pss_one (ps_ret (pe_and (pe_callB call_isi (by rfl) z_isinstance (by decide +kernel) (pa_cons (pv 0) (pa_cons (pe_bltn (v := .ty "int") (u := .type "int") (by rfl) z_int (by decide +kernel) rfl) pa_nil))) (pe_and (pe_not (pe_callB call_isi (by rfl) z_isinstance (by decide +kernel) (pa_cons (pv 0) (pa_cons (pe_bltn (v := .ty "bool") (u := .type "bool") (by rfl) z_bool (by decide +kernel) rfl) pa_nil)))) (pe_one (pe_cmpR op_eq (pv 0) (pv 1) (nomark _))))))) pss_nil)
      (pss_cons (ps_if (pt_val (pe_callB call_isi (by rfl) z_isinstance (by decide +kernel) (pa_cons (pv 1) (pa_cons (pe_bltn (v := .ty "str") (u := .type "str") (by rfl) z_str (by decide +kernel) rfl) pa_nil)))) (pss_one (ps_ret (pe_and (pe_callB call_isi (by rfl) z_isinstance (by decide +kernel) (pa_cons (pv 0) (pa_cons (pe_bltn (v := .ty "str") (u := .type "str") (by rfl) z_str (by decide +kernel) rfl) pa_nil))) (pe_one (pe_cmpR op_eq (pv 0) (pv 1) (nomark _)))))) pss_nil)
      (pss_one (ps_ret (pe_cmpR op_isN (pv 0) pe_non (nomark _)))))))), ?_⟩
    cases d with
    | none =>
      cases hx
      cases hy
      refine if_isiF rfl (.base .non) (by decide +kernel) (if_isiF rfl (.base .non) (by decide +kernel) (if_isiF rfl (.base .non) (by decide +kernel) (if_isiF rfl (.base .non) (by decide +kernel) ?_)))
      exact ⟨_, rfl, rfl, q _ (Same.refl _)⟩
    | bool b =>
      cases hx
      cases hy
      refine if_isiF rfl (.base (.bl b)) (by decide +kernel) (if_isiT rfl (.base (.bl b)) (by decide +kernel) (ev_isi (b := true) rfl (.base (.bl b)) (by decide +kernel) ⟨_, rfl, iteT ?_⟩))
      refine ⟨_, rfl, _, rfl, rfl, ?_⟩
      rw [decide_eq_true rfl]
      exact q _ (Same.refl _)
    | int i =>
      cases hx
      cases hy
      refine if_isiF rfl (.base (.int i)) (by decide +kernel) (if_isiF rfl (.base (.int i)) (by decide +kernel) (if_isiT rfl (.base (.int i)) (by decide +kernel) (ev_isi (b := true) rfl (.base (.int i)) (by decide +kernel) ⟨_, rfl, iteT (ev_isi (b := false) rfl (.base (.int i)) (by decide +kernel) ⟨_, rfl, _, rfl, iteT ?_⟩)⟩)))
      refine ⟨_, rfl, _, rfl, rfl, ?_⟩
      rw [decide_eq_true rfl]
      exact q _ (Same.refl _)
    | str z =>
      cases hx
      cases hy
      refine if_isiF rfl (.base (.str z)) (by decide +kernel) (if_isiF rfl (.base (.str z)) (by decide +kernel) (if_isiF rfl (.base (.str z)) (by decide +kernel) (if_isiT rfl (.base (.str z)) (by decide +kernel) (ev_isi (b := true) rfl (.base (.str z)) (by decide +kernel) ⟨_, rfl, iteT ?_⟩))))
      refine ⟨_, rfl, _, rfl, rfl, ?_⟩
      rw [decide_eq_true rfl]
      exact q _ (Same.refl _)
    | list ds => exact hd.elim
    | dict ds => exact hd.elim
    | tuple ds =>
      cases hx with
      | @tup a xs _ hS hA =>
      cases hy with
      | @tup b ys _ hT hB =>
      have l1 := dpAll_len hA
      have l2 := dpAll_len hB
      refine if_isiT rfl (tyT hT) (by decide +kernel) ?_
      -- not isinstance(actual, tuple) or len(actual) != len(due)
      refine ev_isi (b := true) rfl (tyT hS) (by decide +kernel) ⟨_, rfl, iteF ?_⟩
      refine ⟨_, rfl, a, _, rfl, .inr hS, _, rfl, b, _, rfl, .inr hT, rfl, _, rfl, ?_⟩
      rw [l1, l2, decide_eq_true rfl]
      refine iteF ?_
      -- all of a list of True
      refine ⟨_, rfl, b, _, rfl, .inr hT, _, rfl, by have := hd.1; omega, by have := hd.1; omega, fun L hL => ?_⟩
      refine lc_range (lo := 0) (n := _) (fun i H' => Same H H' ∧ H L = none ∧ H' L = some (.lst ((List.replicate i true).map V.bl))) ⟨Same.new _ hL, hL, upd_same⟩ ?_ ?_
      · rintro i H' hi ⟨e, hn, hl⟩
        have hi' : i < ds.length := by rw [← l2]; exact hi
        have g1 : i < xs.length := by omega
        have g2 : i < _ := hi
        have ei : (0 : Int) + (i : Int) = ((i : Nat) : Int) := by omega
        refine ⟨rfl, ?_⟩
        refine ⟨_, rfl, _, rfl, a, _, _, _, rfl, rfl, Same.seqT e hS, (by rw [ei]; exact atI_some g1), _, rfl, _, rfl, b, _, _, _, rfl, rfl, Same.seqT e hT, (by rw [ei]; exact atI_some g2), ?_⟩
        refine ⟨_, _, ds[i], rfl, Dp.same e (dpAll_at hA i _ _ (List.getElem?_eq_getElem g1) (List.getElem?_eq_getElem hi')), Dp.same e (dpAll_at hB i _ _ (List.getElem?_eq_getElem g2) (List.getElem?_eq_getElem hi')), hd.2 _ (List.getElem_mem hi'), fun H2 e2 => ?_⟩
        refine ⟨_, e2 _ _ hl, ?_, ?_⟩
        · rw [List.length_map, List.length_replicate]
          have := hd.1
          exact Nat.lt_of_lt_of_le (show i < 100001 by omega) (by decide)
        · refine ⟨fun z o hz => ?_, hn, ?_⟩
          · rw [upd_ne (ne_of_none hz hn)]
            exact e2 _ _ (e _ _ hz)
          · rw [upd_same, List.replicate_succ', List.map_append]
            rfl
      · rintro H' ⟨e, hn, hl⟩
        refine ⟨L, _, rfl, SqL.of hl, ?_⟩
        have ea : ∀ n : Nat, (List.replicate n true).all id = true := fun n => by
          induction n with
          | zero => rfl
          | succ n ih => rw [List.replicate_succ, List.all_cons, ih]; rfl
        rw [ea]
        exact q _ e
/-! names with a drawn frame -/
def FrameOk (l r : List Nat) : Prop := (l = [] ∧ r = []) ∨ (l.all isL = true ∧ l.length ≤ 7 ∧ ∃ r', r = 95 :: r' ∧ r'.all isW = true ∧ r'.length ≤ 7)
def mk0 : List Nat := lit "abcdefghi"
def mk1 : List Nat := lit "rstuv"
def mk2 : List Nat := lit "klmno"
def mk3 : List Nat := lit "ABCDEFGHIJKL"
def nmL (l r m : List Nat) : List (List Nat) := m.map fun c => l ++ [c] ++ r
def strsV (ns : List (List Nat)) : List V := ns.map fun n => V.str (T n)
structure NA (H : Hp) (l r : List Nat) (nm p0 p1 p2 p3 : Addr) : Prop where
  top : H nm = some (.lst [.ref p0, .ref p1, .ref p2, .ref p3])
  a0 : H p0 = some (.lst (strsV (nmL l r mk0)))
  a1 : H p1 = some (.lst (strsV (nmL l r mk1)))
  a2 : H p2 = some (.lst (strsV (nmL l r mk2)))
  a3 : H p3 = some (.lst (strsV (nmL l r mk3)))
structure AP (d nm p0 p1 p2 p3 : Addr) : Prop where
  top : nm ≠ d
  a0 : p0 ≠ d
  a1 : p1 ≠ d
  a2 : p2 ≠ d
  a3 : p3 ≠ d
theorem NA.mono {H H' : Hp} {l r : List Nat} {d nm p0 p1 p2 p3 : Addr} (h : NA H l r nm p0 p1 p2 p3) (e : SameX d H H') (a : AP d nm p0 p1 p2 p3) : NA H' l r nm p0 p1 p2 p3 :=
  ⟨e _ _ a.top h.top, e _ _ a.a0 h.a0, e _ _ a.a1 h.a1, e _ _ a.a2 h.a2, e _ _ a.a3 h.a3⟩
theorem NA.same {H H' : Hp} {l r : List Nat} {nm p0 p1 p2 p3 : Addr} (h : NA H l r nm p0 p1 p2 p3) (e : Same H H') : NA H' l r nm p0 p1 p2 p3 :=
  ⟨e _ _ h.top, e _ _ h.a0, e _ _ h.a1, e _ _ h.a2, e _ _ h.a3⟩
theorem NA.fresh {H : Hp} {l r : List Nat} {d nm p0 p1 p2 p3 : Addr} (h : NA H l r nm p0 p1 p2 p3) (n : H d = none) : AP d nm p0 p1 p2 p3 :=
  ⟨ne_of_none h.top n, ne_of_none h.a0 n, ne_of_none h.a1 n, ne_of_none h.a2 n, ne_of_none h.a3 n⟩
def spFrame : Sp := fun vs H Q _ => ∃ (d : Addr) (ds : List Int), vs = [.ref d] ∧ H d = some (.lst (ds.map V.int)) ∧ ∀ (l r : List Nat) (t : Addr) (ds' : List Int) (H' : Hp), FrameOk l r → SameX d H H' → H' d = some (.lst (ds'.map V.int)) → H' t = some (.tup [.str (T l), .str (T r)]) → Q (.ref t) H'
theorem c_law_frame {f : Addr} {fd : FuncData} (D : Df K mg "_law_frame" s_law_frame f fd ["draws"]) (c_law_take : Cl P w K mg base 1 "_law_take" spTake) (z_range : mg "range" = none) : Cl P w K mg base 2 "_law_frame" spFrame := by
  refine D.cl sc_law_frame (fun vs H Q E h => ?_) (fun cdv A outer s H vs Q E hr h => ?_)
  · obtain ⟨d, ds, rfl, _⟩ := h
    rfl
  obtain ⟨d, ds, rfl, hd, q⟩ := h
  refine ⟨_, (pss_cons (ps_if (pt_cmpR op_eq (pc c_law_take hr (by first | decide | omega) (by rfl) (pa_cons (pv 0) (pa_cons pe_int pa_nil))) pe_int (nomark _)) (pss_one (ps_ret (pe_tup (pa_cons pe_str (pa_cons pe_str pa_nil))))) pss_nil)
      (pss_cons (ps_set (i := 1) sc_law_frame.nd rfl (.inl rfl) pe_str)
      (pss_cons (ps_for PassesOwn.never rfl (pi_range1 (by rfl) z_range (pa_cons (pc c_law_take hr (by first | decide | omega) (by rfl) (pa_cons (pv 0) (pa_cons pe_int pa_nil))) pa_nil)) (pg_name (i := 2) sc_law_frame.nd rfl (.inl rfl)) (pss_one (ps_set (i := 1) sc_law_frame.nd rfl (.inl rfl) (pe_op op_add_str (pv 1) (pe_ix ix_str pe_str (pc c_law_take hr (by first | decide | omega) (by rfl) (pa_cons (pv 0) (pa_cons pe_int pa_nil))) (fun _ _ => rfl))))))
      (pss_cons (ps_set (i := 3) sc_law_frame.nd rfl (.inl rfl) pe_str)
      (pss_cons (ps_for PassesOwn.never rfl (pi_range1 (by rfl) z_range (pa_cons (pc c_law_take hr (by first | decide | omega) (by rfl) (pa_cons (pv 0) (pa_cons pe_int pa_nil))) pa_nil)) (pg_name (i := 2) sc_law_frame.nd rfl (.inl rfl)) (pss_one (ps_set (i := 3) sc_law_frame.nd rfl (.inl rfl) (pe_op op_add_str (pv 3) (pe_ix ix_str pe_str (pc c_law_take hr (by first | decide | omega) (by rfl) (pa_cons (pv 0) (pa_cons pe_int pa_nil))) (fun _ _ => rfl))))))
      (pss_one (ps_ret (pe_tup (pa_cons (pv 1) (pa_cons (pv 3) pa_nil)))))))))), ?_⟩
  walk_at "w"
  refine ⟨d, ds, 2, rfl, hd, by decide, fun r0 _ _ => ?_⟩
  have tup : ∀ (l r : List Nat) (ds : List Int), FrameOk l r → ∀ t, (upd H d (.lst (ds.map V.int))) t = none → Q (.ref t) (upd (upd H d (.lst (ds.map V.int))) t (.tup [.str (T l), .str (T r)])) := fun l r ds h t ht =>
    q l r t ds _ h ((SameX.at _).trans (SameX.new _ ht)) ((upd_ne (ne_of_none upd_same ht)).trans upd_same) upd_same
  refine ⟨rfl, _, rfl, ite2 (fun c => ?_) (fun c => ?_)⟩
  · refine ⟨by show 2 ≤ sizeLine; decide, fun t ht => ?_⟩
    rw [e_eq]
    exact tup [] [] _ (.inl ⟨rfl, rfl⟩) t ht
  walk_at "w"
  refine ⟨d, _, 8, rfl, upd_same, by decide, fun n n0 n1 => ?_⟩
  rw [upd_upd]
  walk_at "w"
  refine ⟨by omega, by omega, for_range (lo := 0) (n := n.toNat) (fun i σ' H' => ∃ (l : List Nat) (ds : List Int) (x : Option V), σ' = [some (.ref d), some (.str (T l)), x, none] ∧ l.length = i ∧ l.all isL = true ∧ upd H d (.lst (ds.map V.int)) = H') ⟨[], _, none, by rw [← e_eq]; rfl, rfl, rfl, rfl⟩ ?_ ?_⟩
  · rintro i _ _ hi ⟨l, ds, x, rfl, hl, ha, rfl⟩
    walk_at "w"
    refine ⟨d, _, 53, rfl, upd_same, by decide, fun r r0 r1 => ?_⟩
    rw [upd_upd]
    refine ix_of isL r0 (Int.lt_of_lt_of_le r1 (by decide +kernel)) (by decide +kernel) (by decide +kernel) fun c hc => ?_
    refine ⟨_, _, rfl, rfl, by rw [T_len]; exact small9 (by show l.length + 1 ≤ _; omega), l ++ [c], _, some (.int (0 + (i : Int))), ?_, by rw [List.length_append, hl]; rfl, ?_, rfl⟩
    · rw [show (sg c) = T [c] from rfl, T_cat]
      rfl
    · rw [List.all_append, ha]
      show (true && (isL c && true)) = true
      rw [hc]
      rfl
  rintro _ _ ⟨l, ds, x, rfl, hl, ha, rfl⟩
  walk_at "w"
  refine ⟨d, _, 8, rfl, upd_same, by decide, fun n2 m0 m1 => ?_⟩
  rw [upd_upd]
  walk_at "w"
  refine ⟨by omega, by omega, for_range (lo := 0) (n := n2.toNat) (fun i σ' H' => ∃ (r : List Nat) (ds : List Int) (x : Option V), σ' = [some (.ref d), some (.str (T l)), x, some (.str (T (95 :: r)))] ∧ r.length = i ∧ r.all isW = true ∧ upd H d (.lst (ds.map V.int)) = H') ⟨[], _, x, by rw [← show Str.ofString "_" = T [95] by decide +kernel]; rfl, rfl, rfl, rfl⟩ ?_ ?_⟩
  · rintro i _ _ hi ⟨r, ds, x, rfl, hl2, ha2, rfl⟩
    walk_at "w"
    refine ⟨d, _, 53, rfl, upd_same, by decide, fun y r0 r1 => ?_⟩
    rw [upd_upd]
    refine ix_of isW r0 (Int.lt_of_lt_of_le r1 (by decide +kernel)) (by decide +kernel) (by decide +kernel) fun c hc => ?_
    refine ⟨_, _, rfl, rfl, by rw [T_len]; exact small9 (by show r.length + 1 + 1 ≤ _; omega), r ++ [c], _, some (.int (0 + (i : Int))), ?_, by rw [List.length_append, hl2]; rfl, ?_, rfl⟩
    · rw [show (sg c) = T [c] from rfl, T_cat]
      rfl
    · rw [List.all_append, ha2]
      show (true && (isW c && true)) = true
      rw [hc]
      rfl
  rintro _ _ ⟨r, ds, x, rfl, hl2, ha2, rfl⟩
  walk_at "w"
  refine ⟨by show 2 ≤ sizeLine; decide, fun t ht => ?_⟩
  exact tup l (95 :: r) _ (.inr ⟨ha, by omega, r, rfl, ha2, by omega⟩) t ht
def spNames (K : PySem.W.Frag) : Sp := fun vs H Q _ => ∃ (d : Addr) (ds : List Int), vs = [.ref d] ∧ H d = some (.lst (ds.map V.int)) ∧ ∀ (l r : List Nat) (nm p0 p1 p2 p3 : Addr) (ds' : List Int) (H' : Hp), FrameOk l r → SameX d H H' → H nm = none → H' d = some (.lst (ds'.map V.int)) → NA H' l r nm p0 p1 p2 p3 → AP d nm p0 p1 p2 p3 → Q (.ref nm) H'
def mks : List (List Nat) := [mk0, mk1, mk2, mk3]
theorem c_law_names {f : Addr} {fd : FuncData} (D : Df K mg "_law_names" s_law_names f fd ["draws"]) (c_law_frame : Cl P w K mg base 2 "_law_frame" spFrame) : Cl P w K mg base 3 "_law_names" (spNames K) := by
  refine D.cl sc_law_names (fun vs H Q E h => ?_) (fun cdv A outer s H vs Q E hr h => ?_)
  · obtain ⟨d, ds, rfl, _⟩ := h
    rfl
  obtain ⟨d, ds, rfl, hd, q⟩ := h
  refine ⟨_, (pss_cons (ps_set (i := 1) sc_law_names.nd rfl (.inr rfl) (pc c_law_frame hr (by first | decide | omega) (by rfl) (pa_cons (pv 0) pa_nil)))
      (pss_cons (ps_set (i := 2) sc_law_names.nd rfl (.inl rfl) (pe_lst pa_nil))
      (pss_cons (ps_for PassesOwn.never rfl (pi_tup (pe_tup (pa_cons pe_str (pa_cons pe_str (pa_cons pe_str (pa_cons pe_str pa_nil)))))) (pg_name (i := 3) sc_law_names.nd rfl (.inl rfl)) (pss_one (ps_expr (pe_bm PySem.F.plainAttrs_list PySem.F.slot_list_append PySem.F.type_list_append mt_append (pv 2) (pa_cons (pe_lc (own := [("mark", 4)]) (g := gName 4) (tt := tYes) (by rfl) sc_law_names.nd (pi_str (pv 3)) (blkOk_by (own := [("mark", 4)]) (N := ["draws", "frame", "rows", "marks", "mark"]) (sc := defScope s_law_names) (by decide +kernel)) (fun _ _ _ _ _ => pg_name (i := 4) sc_law_names.nd rfl (.inl rfl)) (fun _ _ _ _ _ => pts_nil) (fun _ _ _ _ _ => (pe_op op_add_str (pe_op op_add_str (pe_ix (ixT (K := K)) (pv 1) pe_int (fun _ _ => rfl)) (pv 4)) (pe_ix (ixT (K := K)) (pv 1) pe_int (fun _ _ => rfl))))) pa_nil)))))
      (pss_one (ps_ret (pv 2)))))), ?_⟩
  refine ⟨_, rfl, d, ds, rfl, hd, fun l r t ds' H1 hf e1 hd1 ht => ?_⟩
  refine ⟨by show 0 ≤ sizeLine; decide, fun nm hn => ?_⟩
  refine ⟨by show 4 ≤ sizeLine; decide, fun u hu => ?_⟩
  have e2 : Same H1 (upd (upd H1 nm (.lst [])) u (.tup [.str (Str.ofString "abcdefghi"), .str (Str.ofString "rstuv"), .str (Str.ofString "klmno"), .str (Str.ofString "ABCDEFGHIJKL")])) := (Same.new _ hn).trans (Same.new _ hu)
  have nu : nm ≠ u := ne_of_none upd_same hu
  have hln : l.length ≤ 7 ∧ r.length ≤ 8 := by
    rcases hf with ⟨rfl, rfl⟩ | ⟨_, h1, r', rfl, _, h2⟩
    · exact ⟨Nat.zero_le _, Nat.zero_le _⟩
    · exact ⟨h1, by show r'.length + 1 ≤ 8; omega⟩
  refine ⟨u, rfl, ⟨_, .of upd_same⟩, ?_⟩
  refine for_tup (xs := [.str (Str.ofString "abcdefghi"), .str (Str.ofString "rstuv"), .str (Str.ofString "klmno"), .str (Str.ofString "ABCDEFGHIJKL")]) (fun i σ' H' => ∃ (as : List Addr) (x y : Option V), σ' = [some (.ref d), some (.ref t), some (.ref nm), x, y] ∧ as.length = i ∧ H' nm = some (.lst (as.map V.ref)) ∧ Same H1 H' ∧ H' u = some (.tup [.str (Str.ofString "abcdefghi"), .str (Str.ofString "rstuv"), .str (Str.ofString "klmno"), .str (Str.ofString "ABCDEFGHIJKL")]) ∧ ∀ (j : Nat) (a : Addr) (m : List Nat), as[j]? = some a → mks[j]? = some m → H1 a = none ∧ a ≠ nm ∧ H' a = some (.lst (strsV (nmL l r m)))) ?_ ?_ ?_ ?_
  · exact ⟨[], none, none, rfl, rfl, (upd_ne nu).trans upd_same, e2, upd_same, fun j a m hj => by simp at hj⟩
  · rintro i σ' H' _ ⟨as, x, y, _, _, _, _, hu', _⟩
    exact .of hu'
  · rintro i x σ' H' hx ⟨as, x0, y0, rfl, hl, hnm, e3, hu', hall⟩
    obtain ⟨m, hm, rfl, hml⟩ : ∃ m, mks[i]? = some m ∧ x = .str (T m) ∧ m.length ≤ 20 := by
      rcases i with _ | _ | _ | _ | i
      · exact ⟨mk0, rfl, (Option.some.inj hx).symm.trans (congrArg V.str (lit_T _)), by decide +kernel⟩
      · exact ⟨mk1, rfl, (Option.some.inj hx).symm.trans (congrArg V.str (lit_T _)), by decide +kernel⟩
      · exact ⟨mk2, rfl, (Option.some.inj hx).symm.trans (congrArg V.str (lit_T _)), by decide +kernel⟩
      · exact ⟨mk3, rfl, (Option.some.inj hx).symm.trans (congrArg V.str (lit_T _)), by decide +kernel⟩
      · simp at hx
    have hil : i < 4 := by
      have := (List.getElem?_eq_some_iff.mp hm).1
      exact this
    refine ⟨_, rfl, .inl ⟨rfl, _, SqL.of hnm⟩, ?_⟩
    refine ⟨_, rfl, _, rfl, fun L hL => ?_⟩
    refine lc_txt (fun j H2 => H2 = upd H' L (.lst (strsV ((m.take j).map fun c => l ++ [c] ++ r)))) rfl ?_ ?_
    · rintro j c H2 hc rfl
      refine ⟨rfl, ?_⟩
      have ht2 : (upd H' L (.lst (strsV ((m.take j).map fun c => l ++ [c] ++ r)))) t = some (.tup [.str (T l), .str (T r)]) := (upd_ne (ne_of_none (e3 _ _ ht) hL)).trans (e3 _ _ ht)
      refine ⟨_, rfl, t, _, 0, _, rfl, rfl, .of ht2, atI_nat (j := 0) rfl, _, rfl, _, _, rfl, rfl, ?_, ?_⟩
      · show (T l).length + (sg c).length ≤ _
        rw [T_len]
        exact small9 (by show l.length + 1 ≤ _; omega)
      refine ⟨_, rfl, t, _, 1, _, rfl, rfl, .of ht2, atI_nat (j := 1) rfl, _, _, rfl, rfl, ?_, ?_⟩
      · show (T l ++ T [c]).length + (T r).length ≤ _
        rw [T_cat, T_len, T_len, List.length_append]
        exact small9 (by show l.length + 1 + r.length ≤ _; omega)
      refine ⟨_, upd_same, ?_, ?_⟩
      · show (List.map _ _).length < _
        rw [List.length_map, List.length_map, List.length_take]
        exact small1000 (by omega)
      · rw [upd_upd, List.take_add_one, hc, List.map_append]
        show _ = upd H' L (.lst (strsV (_ ++ [_])))
        rw [show (sg c) = T [c] from rfl, T_cat, T_cat]
        unfold strsV
        rw [List.map_append]
        rfl
    · rintro H2 rfl
      rw [List.take_length]
      have nL : nm ≠ L := ne_of_none hnm hL
      refine ⟨nm, _, _, rfl, rfl, (upd_ne nL).trans hnm, by rw [List.length_map, hl]; exact small1000 (by omega), ?_⟩
      have e4 : Same H1 (upd (upd H' L (.lst (strsV (m.map fun c => l ++ [c] ++ r)))) nm (.lst (as.map V.ref ++ [.ref L]))) := Same.mut _ (e3.trans (Same.new _ hL)) hn
      refine ⟨as ++ [L], _, _, rfl, by rw [List.length_append, hl]; rfl, by rw [upd_same, List.map_append]; rfl, e4, (upd_ne nu.symm).trans ((upd_ne (ne_of_none hu' hL)).trans hu'), fun j a m' hj hm' => ?_⟩
      by_cases hji : j < as.length
      · rw [List.getElem?_append_left hji] at hj
        obtain ⟨k1, k2, k3⟩ := hall j a m' hj hm'
        exact ⟨k1, k2, (upd_ne k2).trans ((upd_ne (ne_of_none k3 hL)).trans k3)⟩
      · have hj2 : j = as.length := by
          have := (List.getElem?_eq_some_iff.mp hj).1
          rw [List.length_append] at this
          have : ([L] : List Addr).length = 1 := rfl
          omega
        subst hj2
        rw [List.getElem?_append_right (Nat.le_refl _), Nat.sub_self] at hj
        cases Option.some.inj hj
        rw [hl, hm] at hm'
        cases Option.some.inj hm'
        refine ⟨?_, nL.symm, (upd_ne nL.symm).trans upd_same⟩
        cases hq : H1 L with
        | none => rfl
        | some o => exact absurd (e3 _ _ hq) (by rw [hL]; exact fun z => nomatch z)
  · rintro σ' H' ⟨as, x, y, rfl, hl, hnm, e3, _, hall⟩
    obtain ⟨a0, a1, a2, a3, rfl⟩ : ∃ a0 a1 a2 a3, as = [a0, a1, a2, a3] := by
      rcases as with _ | ⟨a0, _ | ⟨a1, _ | ⟨a2, _ | ⟨a3, _ | ⟨a4, as⟩⟩⟩⟩⟩
      all_goals first | exact ⟨_, _, _, _, rfl⟩ | (simp at hl)
    refine ⟨_, rfl, ?_⟩
    obtain ⟨k0, _, m0⟩ := hall 0 a0 mk0 rfl rfl
    obtain ⟨k1, _, m1⟩ := hall 1 a1 mk1 rfl rfl
    obtain ⟨k2, _, m2⟩ := hall 2 a2 mk2 rfl rfl
    obtain ⟨k3, _, m3⟩ := hall 3 a3 mk3 rfl rfl
    refine q l r nm a0 a1 a2 a3 ds' H' hf (e1.trans (SameX.of e3)) ?_ (e3 _ _ hd1) ⟨hnm, m0, m1, m2, m3⟩ ⟨(ne_of_none hd1 hn).symm, (ne_of_none hd1 k0).symm, (ne_of_none hd1 k1).symm, (ne_of_none hd1 k2).symm, (ne_of_none hd1 k3).symm⟩
    exact e1.free (ne_of_none hd1 hn).symm hn
/-! what stands while a list is drawn from -/
structure Dr (K : PySem.W.Frag) (H : Hp) (d nm z : Addr) (l r : List Nat) : Prop where
  ok : FrameOk l r
  ex : ∃ (ds : List Int) (p0 p1 p2 p3 : Addr), H d = some (.lst (ds.map V.int)) ∧ NA H l r nm p0 p1 p2 p3 ∧ AP d nm p0 p1 p2 p3
  sz : SqT K H z [.int 9, .int 5, .int 5]
section
variable {H H' : Hp} {d nm z : Addr} {l r : List Nat} {R : VK} {σ : L2.St}
theorem Dr.same (h : Dr K H d nm z l r) (e : Same H H') : Dr K H' d nm z l r := by
  obtain ⟨ds, p0, p1, p2, p3, h1, h2, h3⟩ := h.ex
  exact ⟨h.ok, ⟨ds, p0, p1, p2, p3, e _ _ h1, h2.same e, h3⟩, Same.seqT e h.sz⟩
theorem Dr.new {p : Addr} (o : HO) (h : Dr K H d nm z l r) (n : H p = none) : Dr K (upd H p o) d nm z l r := h.same (Same.new o n)
theorem Dr.mv {D : PyData} {n : Nat} {v : V} (h : Dr K H d nm z l r) (e : SameX d H H') (t : TupN n D) (p : Dp K H v D) : Dp K H' v D := by
  obtain ⟨ds, _, _, _, _, h1, _⟩ := h.ex
  exact Dp.kt (KT.x h1 e) t p
theorem take_draw {i : Nat} {m : Int} {H : Hp} (hi : σ[i]? = some (some (.ref d))) (h : Dr K H d nm z l r) (hm : decide (0 < m) = true) (q : ∀ x H', 0 ≤ x → x < m → SameX d H H' → Dr K H' d nm z l r → R (.int x) H') : tCall spTake [] E0 (tCons (tVar i) (tCons (tC (.int m)) tNil)) σ H R := by
  obtain ⟨ds, p0, p1, p2, p3, h1, h2, h3⟩ := h.ex
  refine ⟨_, hi, d, ds, m, rfl, h1, of_decide_eq_true hm, fun x x0 x1 => ?_⟩
  have e := SameX.at (d := d) (H := H) (.lst (ds.tail.map V.int))
  exact q x _ x0 x1 e ⟨h.ok, ⟨ds.tail, p0, p1, p2, p3, upd_same, h2.mono e h3, h3⟩, KT.x h1 e _ _ h.sz⟩
theorem at_names {ns : List (List Nat)} {x : Int} (h0 : 0 ≤ x) (h1 : x < (ns.length : Int)) : ∃ s, s ∈ ns ∧ atI (strsV ns) x = some (.str (T s)) := by
  have hi : x.toNat < ns.length := by omega
  have ei : x = ((x.toNat : Nat) : Int) := by omega
  refine ⟨ns[x.toNat], List.getElem_mem hi, ?_⟩
  have := atI_nat (xs := strsV ns) (j := x.toNat) (v := .str (T ns[x.toNat])) (by show (ns.map _)[x.toNat]? = _; rw [List.getElem?_map, List.getElem?_eq_getElem hi]; rfl)
  rw [← ei] at this
  exact this
theorem NA.at {H : Hp} {p0 p1 p2 p3 : Addr} {i : Nat} {m : List Nat} (h : NA H l r nm p0 p1 p2 p3) (a : AP d nm p0 p1 p2 p3) (hm : mks[i]? = some m) : ∃ p, [V.ref p0, .ref p1, .ref p2, .ref p3][i]? = some (.ref p) ∧ p ≠ d ∧ H p = some (.lst (strsV (nmL l r m))) := by
  rcases i with _ | _ | _ | _ | i
  · cases Option.some.inj hm
    exact ⟨p0, rfl, a.a0, h.a0⟩
  · cases Option.some.inj hm
    exact ⟨p1, rfl, a.a1, h.a1⟩
  · cases Option.some.inj hm
    exact ⟨p2, rfl, a.a2, h.a2⟩
  · cases Option.some.inj hm
    exact ⟨p3, rfl, a.a3, h.a3⟩
  · simp [mks] at hm
theorem nm_draw {H : Hp} {i a b c : Nat} {m : List Nat} {n : Int} (ha : σ[a]? = some (some (.ref d))) (hb : σ[b]? = some (some (.ref nm))) (hc : σ[c]? = some (some (.ref z))) (h : Dr K H d nm z l r)
    (hz : [V.int 9, .int 5, .int 5][i]? = some (.int n)) (hn : decide (0 < n ∧ n ≤ (m.length : Int)) = true) (hm : mks[i]? = some m) (q : ∀ s H', s ∈ nmL l r m → SameX d H H' → Dr K H' d nm z l r → R (.str (T s)) H') :
    tOp (rIxL K) (tOp (rIxL K) (tVar b) (tC (.int (i : Int)))) (tCall spTake [] E0 (tCons (tVar a) (tCons (tOp (rIxT K) (tVar c) (tC (.int (i : Int)))) tNil))) σ H R := by
  obtain ⟨ds, p0, p1, p2, p3, h1, h2, h3⟩ := h.ex
  obtain ⟨p, hp, hpd, hH⟩ := h2.at h3 hm
  have hn' := of_decide_eq_true hn
  refine ⟨_, hb, nm, _, _, _, rfl, rfl, SqL.of h2.top, atI_nat hp, _, ha, _, hc, z, _, _, _, rfl, rfl, h.sz, atI_nat hz, d, ds, n, rfl, h1, hn'.1, fun x x0 x1 => ?_⟩
  have e := SameX.at (d := d) (H := H) (.lst (ds.tail.map V.int))
  obtain ⟨s, hs, hat⟩ := at_names (ns := nmL l r m) x0 (by show x < ((m.map _).length : Int); rw [List.length_map]; omega)
  exact ⟨p, _, x, _, rfl, rfl, SqL.of (e _ _ hpd hH), hat, q s _ hs e ⟨h.ok, ⟨ds.tail, p0, p1, p2, p3, upd_same, h2.mono e h3, h3⟩, KT.x h1 e _ _ h.sz⟩⟩
end
section
variable {ta tb : TT} {b1 b2 : Bool} {tt u : TS} {D : Ends} {σ : L2.St} {H : Hp}
theorem gset {i : Nat} {v : V} {Q : L2.St → Hp → Prop} (h : Q (σ.set i (some v)) H) : gName i v σ H Q := h
theorem tsq {a b : TS} (h : a { D with nx := b D } σ H) : tSeq a b D σ H := h
theorem tnx (h : D.nx σ H) : tNext D σ H := h
theorem if_or (h1 : ∀ R : Bool → Hp → Prop, R b1 H → ta σ H R) (h2 : ∀ R : Bool → Hp → Prop, R b2 H → tb σ H R) (qT : (b1 || b2) = true → tt D σ H) (qF : (b1 || b2) = false → u D σ H) : tIfS (tOr ta tb) tt u D σ H := by
  refine h1 _ ?_
  cases b1 with
  | true => exact iteT (iteT (qT rfl))
  | false =>
    refine iteF (h2 _ ?_)
    cases b2 with
    | true => exact iteT (qT rfl)
    | false => exact iteF (qF rfl)
theorem if_and (h1 : ∀ R : Bool → Hp → Prop, R b1 H → ta σ H R) (h2 : ∀ R : Bool → Hp → Prop, R b2 H → tb σ H R) (qT : (b1 && b2) = true → tt D σ H) (qF : (b1 && b2) = false → u D σ H) : tIfS (tAnd ta tb) tt u D σ H := by
  refine h1 _ ?_
  cases b1 with
  | false => exact iteF (iteF (qF rfl))
  | true =>
    refine iteT (h2 _ ?_)
    cases b2 with
    | true => exact iteT (qT rfl)
    | false => exact iteF (qF rfl)
theorem if_1 (h1 : ∀ R : Bool → Hp → Prop, R b1 H → ta σ H R) (qT : b1 = true → tt D σ H) (qF : b1 = false → u D σ H) : tIfS ta tt u D σ H := by
  refine h1 _ ?_
  cases b1 with
  | false => exact iteF (qF rfl)
  | true => exact iteT (qT rfl)
end
/-! a drawn concept -/
def Con.Ok (l r : List Nat) : Con → Prop
  | .name s => s ∈ nmL l r mk0
  | .not c => c.Ok l r
  | .both c d => c.Ok l r ∧ d.Ok l r
  | .either c d => c.Ok l r ∧ d.Ok l r
  | .some ro c => ro.1 ∈ nmL l r mk1 ∧ c.Ok l r
  | .all ro c => ro.1 ∈ nmL l r mk1 ∧ c.Ok l r
  | _ => True
theorem nm_len {l r m : List Nat} {s : List Nat} (f : FrameOk l r) (h : s ∈ nmL l r m) : s.length ≤ 16 := by
  obtain ⟨c, _, rfl⟩ := List.mem_map.mp h
  rw [List.length_append, List.length_append]
  have : [c].length = 1 := rfl
  rcases f with ⟨rfl, rfl⟩ | ⟨_, h1, r', rfl, _, h2⟩
  · show 0 + 1 + 0 ≤ 16
    decide
  · show l.length + 1 + (r'.length + 1) ≤ 16
    omega
theorem Con.sz_le {l r : List Nat} (f : FrameOk l r) : ∀ {c : Con}, c.Ok l r → c.sz + 20 ≤ 56 * 2 ^ c.dp
  | .any, _ => by decide
  | .nothing, _ => by decide
  | .name s, h => by
    have := nm_len f h
    show s.length + 20 + 20 ≤ 56 * 1
    omega
  | .not c, h => by
    have := Con.sz_le f (c := c) h
    show c.sz + 20 + 20 ≤ 56 * 2 ^ (c.dp + 1)
    rw [Nat.pow_succ]
    have : 0 < 2 ^ c.dp := Nat.pow_pos (by decide)
    omega
  | .both c d, h => by
    have h1 := Con.sz_le f h.1
    have h2 := Con.sz_le f h.2
    have k1 : 2 ^ c.dp ≤ 2 ^ max c.dp d.dp := Nat.pow_le_pow_right (by decide) (Nat.le_max_left ..)
    have k2 : 2 ^ d.dp ≤ 2 ^ max c.dp d.dp := Nat.pow_le_pow_right (by decide) (Nat.le_max_right ..)
    show c.sz + d.sz + 20 + 20 ≤ 56 * 2 ^ (max c.dp d.dp + 1)
    rw [Nat.pow_succ]
    omega
  | .either c d, h => by
    have h1 := Con.sz_le f h.1
    have h2 := Con.sz_le f h.2
    have k1 : 2 ^ c.dp ≤ 2 ^ max c.dp d.dp := Nat.pow_le_pow_right (by decide) (Nat.le_max_left ..)
    have k2 : 2 ^ d.dp ≤ 2 ^ max c.dp d.dp := Nat.pow_le_pow_right (by decide) (Nat.le_max_right ..)
    show c.sz + d.sz + 20 + 20 ≤ 56 * 2 ^ (max c.dp d.dp + 1)
    rw [Nat.pow_succ]
    omega
  | .some ro c, h => by
    have h1 := nm_len f h.1
    have h2 := Con.sz_le f h.2
    have : 0 < 2 ^ c.dp := Nat.pow_pos (by decide)
    show ro.1.length + c.sz + 40 + 20 ≤ 56 * 2 ^ (c.dp + 1)
    rw [Nat.pow_succ]
    omega
  | .all ro c, h => by
    have h1 := nm_len f h.1
    have h2 := Con.sz_le f h.2
    have : 0 < 2 ^ c.dp := Nat.pow_pos (by decide)
    show ro.1.length + c.sz + 40 + 20 ≤ 56 * 2 ^ (c.dp + 1)
    rw [Nat.pow_succ]
    omega
theorem pow_dp {n m : Nat} (h : n ≤ m) : 2 ^ n ≤ 2 ^ m := Nat.pow_le_pow_right (by decide) h
def spRolD (K : PySem.W.Frag) : Sp := fun vs H Q _ => ∃ (d nm z : Addr) (l r : List Nat), vs = [.ref d, .ref nm, .ref z] ∧ Dr K H d nm z l r ∧ ∀ (ro : Rol) (v : V) (H' : Hp), ro.1 ∈ nmL l r mk1 → Dp K H' v (rolD ro) → SameX d H H' → Dr K H' d nm z l r → Q v H'
theorem c_law_role {f : Addr} {fd : FuncData} (D : Df K mg "_law_role" s_law_role f fd ["draws", "names", "sizes"]) (c_law_take : Cl P w K mg base 1 "_law_take" spTake) : Cl P w K mg base 2 "_law_role" (spRolD K) := by
  refine D.cl sc_law_role (fun vs H Q E h => ?_) (fun cdv A outer s H vs Q E hr h => ?_)
  · obtain ⟨d, nm, z, l, r, rfl, _⟩ := h
    rfl
  obtain ⟨d, nm, z, l, r, rfl, h, q⟩ := h
  refine ⟨_, (pss_cons (ps_set (i := 3) sc_law_role.nd rfl (.inl rfl) (pe_ix ix_list (pe_ix ix_list (pv 1) pe_int (fun _ _ => rfl)) (pc c_law_take hr (by first | decide | omega) (by rfl) (pa_cons (pv 0) (pa_cons (pe_ix ix_tup (pv 2) pe_int (fun _ _ => rfl)) pa_nil))) (fun _ _ => rfl)))
      (pss_one (ps_ret (pe_tup (pa_cons (pv 3) (pa_cons (pe_cmpR op_eq (pc c_law_take hr (by first | decide | omega) (by rfl) (pa_cons (pv 0) (pa_cons pe_int pa_nil))) pe_int (nomark _)) pa_nil)))))), ?_⟩
  refine nm_draw (i := 1) rfl rfl rfl h rfl (by decide +kernel) rfl fun s H1 hs e1 h1 => ?_
  refine ⟨_, rfl, take_draw rfl h1 (by decide) fun x H2 x0 x1 e2 h2 => ⟨rfl, by show 2 ≤ sizeLine; decide, fun p hp => ?_⟩⟩
  exact q (s, decide (V.int x = V.int 0)) _ _ hs (.tup (.of upd_same) (.cons (.str _) (.cons (.bl _) .nil))) ((e1.trans e2).trans (SameX.new _ hp)) (h2.new _ hp)
def spConD (K : PySem.W.Frag) (n : Nat) : Sp := fun vs H Q _ => ∃ (d nm z : Addr) (l r : List Nat) (k : Nat), vs = [.ref d, .ref nm, .ref z, .int (k : Int)] ∧ k < n ∧ Dr K H d nm z l r ∧ ∀ (c : Con) (v : V) (H' : Hp), c.Ok l r → c.dp ≤ k → Dp K H' v c.D → SameX d H H' → Dr K H' d nm z l r → Q v H'
theorem c_law_concept {f : Addr} {fd : FuncData} (D : Df K mg "_law_concept" s_law_concept f fd ["draws", "names", "sizes", "depth"]) (c_law_take : Cl P w K mg base 1 "_law_take" spTake) (c_law_role : Cl P w K mg base 2 "_law_role" (spRolD K)) : ∀ n : Nat, Cl P w K mg base (n + 3) "_law_concept" (spConD K n)
  | 0 => by
    refine D.cl sc_law_concept (fun vs H Q E h => ?_) (fun cdv A outer s H vs Q E hr h => ?_)
    · obtain ⟨d, nm, z, l, r, k, rfl, _⟩ := h
      rfl
    · obtain ⟨d, nm, z, l, r, k, _, hk, _⟩ := h
      exact absurd hk (Nat.not_lt_zero _)
  | n + 1 => by
    have c_law_concept := c_law_concept D c_law_take c_law_role n
    refine D.cl sc_law_concept (fun vs H Q E h => ?_) (fun cdv A outer s H vs Q E hr h => ?_)
    · obtain ⟨d, nm, z, l, r, k, rfl, _⟩ := h
      rfl
    obtain ⟨d, nm, z, l, r, k, rfl, hk, h, q⟩ := h
    refine ⟨_, (pss_cons (ps_set (i := 4) sc_law_concept.nd rfl (.inl rfl) (pc c_law_take hr (by first | decide | omega) (by rfl) (pa_cons (pv 0) (pa_cons pe_int pa_nil))))
      (pss_cons (ps_if (PW.pt (pw_or (pt_cmpR op_eq (pv 3) pe_int (nomark _)) (pw_or1 (pt_cmpR op_lt (pv 4) pe_int (nomark _))))) (pss_cons (ps_if (pt_cmpR op_eq (pv 4) pe_int (nomark _)) (pss_one (ps_ret (pe_ix ix_tup (pe_tup (pa_cons (pe_tup (pa_cons pe_str pa_nil)) (pa_cons (pe_tup (pa_cons pe_str pa_nil)) pa_nil))) (pc c_law_take hr (by first | decide | omega) (by rfl) (pa_cons (pv 0) (pa_cons pe_int pa_nil))) (fun _ _ => rfl)))) pss_nil)
      (pss_one (ps_ret (pe_tup (pa_cons pe_str (pa_cons (pe_ix ix_list (pe_ix ix_list (pv 1) pe_int (fun _ _ => rfl)) (pc c_law_take hr (by first | decide | omega) (by rfl) (pa_cons (pv 0) (pa_cons (pe_ix ix_tup (pv 2) pe_int (fun _ _ => rfl)) pa_nil))) (fun _ _ => rfl)) pa_nil)))))) pss_nil)
      (pss_cons (ps_if (pt_cmpR op_lt (pv 4) pe_int (nomark _)) (pss_one (ps_ret (pe_tup (pa_cons pe_str (pa_cons (pc c_law_concept hr (by first | decide | omega) (by rfl) (pa_cons (pv 0) (pa_cons (pv 1) (pa_cons (pv 2) (pa_cons (pe_op op_sub (pv 3) pe_int) pa_nil))))) pa_nil))))) pss_nil)
      (pss_cons (ps_if (PW.pt (pw_and (pt_cmpR op_lt (pv 4) pe_int (nomark _)) (pw_and1 (pt_cmpR op_gt (pe_ix ix_tup (pv 2) pe_int (fun _ _ => rfl)) pe_int (nomark _))))) (pss_cons (ps_set (i := 5) sc_law_concept.nd rfl (.inl rfl) (pc c_law_role hr (by first | decide | omega) (by rfl) (pa_cons (pv 0) (pa_cons (pv 1) (pa_cons (pv 2) pa_nil)))))
      (pss_cons (ps_set (i := 6) sc_law_concept.nd rfl (.inl rfl) (pe_ix ix_tup (pe_tup (pa_cons pe_str (pa_cons pe_str (pa_cons pe_str pa_nil)))) (pe_op op_sub (pv 4) pe_int) (fun _ _ => rfl)))
      (pss_one (ps_ret (pe_tup (pa_cons (pv 6) (pa_cons (pv 5) (pa_cons (pc c_law_concept hr (by first | decide | omega) (by rfl) (pa_cons (pv 0) (pa_cons (pv 1) (pa_cons (pv 2) (pa_cons (pe_op op_sub (pv 3) pe_int) pa_nil))))) pa_nil)))))))) pss_nil)
      (pss_cons (ps_set (i := 7) sc_law_concept.nd rfl (.inl rfl) (pc c_law_concept hr (by first | decide | omega) (by rfl) (pa_cons (pv 0) (pa_cons (pv 1) (pa_cons (pv 2) (pa_cons (pe_op op_sub (pv 3) pe_int) pa_nil))))))
      (pss_cons (ps_set (i := 6) sc_law_concept.nd rfl (.inl rfl) (pe_ix ix_tup (pe_tup (pa_cons pe_str (pa_cons pe_str pa_nil))) (pc c_law_take hr (by first | decide | omega) (by rfl) (pa_cons (pv 0) (pa_cons pe_int pa_nil))) (fun _ _ => rfl)))
      (pss_one (ps_ret (pe_tup (pa_cons (pv 6) (pa_cons (pv 7) (pa_cons (pc c_law_concept hr (by first | decide | omega) (by rfl) (pa_cons (pv 0) (pa_cons (pv 1) (pa_cons (pv 2) (pa_cons (pe_op op_sub (pv 3) pe_int) pa_nil))))) pa_nil)))))))))))), ?_⟩
    refine take_draw rfl h (by decide) fun x H1 x0 x1 e1 h1 => ?_
    refine gset ?_
    dsimp only
    refine tsq ?_
    refine if_or (b1 := decide (V.int (k : Int) = V.int 0)) (b2 := decide (x < 4)) (fun R q => ⟨_, rfl, rfl, _, rfl, q⟩) (fun R q => ⟨_, rfl, _, _, rfl, rfl, _, rfl, q⟩) (fun _ => ?_) (fun hb => ?_)
    · refine tsq ?_
      refine if_1 (b1 := decide (V.int x = V.int 0)) (fun R q => ⟨_, rfl, rfl, _, rfl, q⟩) (fun _ => ?_) (fun _ => ?_)
      · refine ⟨by show 1 ≤ sizeLine; decide, fun p hp => ⟨by show 1 ≤ sizeLine; decide, fun p2 hp2 => ⟨by show 2 ≤ sizeLine; decide, fun p3 hp3 => ?_⟩⟩⟩
        refine take_draw rfl (((h1.new _ hp).new _ hp2).new _ hp3) (by decide) fun y H2 y0 y1 e2 h2 => ?_
        have e3 := (((e1.trans (SameX.new _ hp)).trans (SameX.new _ hp2)).trans (SameX.new _ hp3)).trans e2
        have f1 : Dp K H2 (.ref p) Con.any.D := ((h1.new _ hp).new _ hp2).new _ hp3 |>.mv e2 (Con.tn .any) (.tup (Same.seqT ((Same.new _ hp2).trans (Same.new _ hp3)) (.of upd_same)) (.cons (.str _) .nil))
        have f2 : Dp K H2 (.ref p2) Con.nothing.D := ((h1.new _ hp).new _ hp2).new _ hp3 |>.mv e2 (Con.tn .nothing) (.tup (Same.seqT (Same.new _ hp3) (.of upd_same)) (.cons (.str _) .nil))
        obtain ⟨ds, _, _, _, _, k1, _⟩ := (((h1.new _ hp).new _ hp2).new _ hp3).ex
        have f3 : SqT K H2 p3 [.ref p, .ref p2] := KT.x k1 e2 _ _ (.of upd_same)
        obtain rfl | rfl : y = 0 ∨ y = 1 := by omega
        · exact ⟨p3, _, _, _, rfl, rfl, f3, atI_nat (j := 0) rfl, q .any _ _ trivial (Nat.zero_le _) f1 e3 h2⟩
        · exact ⟨p3, _, _, _, rfl, rfl, f3, atI_nat (j := 1) rfl, q .nothing _ _ trivial (Nat.zero_le _) f2 e3 h2⟩
      · refine nm_draw (i := 0) rfl rfl rfl h1 rfl (by decide +kernel) rfl fun s H2 hs e2 h2 => ⟨by show 2 ≤ sizeLine; decide, fun p hp => ?_⟩
        exact q (.name s) _ _ hs (Nat.zero_le _) (.tup (.of upd_same) (.cons (.str _) (.cons (.str _) .nil))) ((e1.trans e2).trans (SameX.new _ hp)) (h2.new _ hp)
    rw [Bool.or_eq_false_iff] at hb
    have hk0 : k ≠ 0 := fun z => of_decide_eq_false hb.1 (by rw [z]; rfl)
    have hx4 := of_decide_eq_false hb.2
    obtain ⟨k, rfl⟩ : ∃ j, k = j + 1 := ⟨k - 1, by omega⟩
    have hkn : k < n := by omega
    have ek : ((k + 1 : Nat) : Int) - 1 = (k : Int) := by omega
    refine tnx ?_
    dsimp only
    refine tsq ?_
    refine if_1 (b1 := decide (x < 6)) (fun R q => ⟨_, rfl, _, _, rfl, rfl, _, rfl, q⟩) (fun _ => ?_) (fun hx6 => ?_)
    · refine ⟨_, rfl, _, rfl, _, rfl, _, rfl, _, _, rfl, rfl, d, nm, z, l, r, k, by rw [← ek]; rfl, hkn, h1, fun c v H2 hc hcd hv e2 h2 => ⟨by show 2 ≤ sizeLine; decide, fun p hp => ?_⟩⟩
      exact q (.not c) _ _ hc (Nat.succ_le_succ hcd) (.tup (.of upd_same) (.cons (.str _) (.cons (Dp.same (Same.new _ hp) hv) .nil))) ((e1.trans e2).trans (SameX.new _ hp)) (h2.new _ hp)
    have hx6 := of_decide_eq_false hx6
    refine tnx ?_
    dsimp only
    refine tsq ?_
    refine if_and (b1 := decide (x < 9)) (b2 := decide ((0 : Int) < 5)) (fun R q => ⟨_, rfl, _, _, rfl, rfl, _, rfl, q⟩) (fun R q => ⟨_, rfl, z, _, _, _, rfl, rfl, h1.sz, atI_nat (j := 1) rfl, _, _, rfl, rfl, _, rfl, q⟩) (fun hx9 => ?_) (fun _ => ?_)
    · rw [Bool.and_eq_true] at hx9
      have hx9 := of_decide_eq_true hx9.1
      refine ⟨_, rfl, _, rfl, _, rfl, d, nm, z, l, r, rfl, h1, fun ro v H2 hro hv e2 h2 => ?_⟩
      refine ⟨by show 3 ≤ sizeLine; decide, fun p hp => ?_⟩
      refine ⟨_, rfl, _, _, rfl, rfl, ?_⟩
      have h3 := h2.new (.tup [V.str (Str.ofString "some"), .str (Str.ofString "all"), .str (Str.ofString "some")]) hp
      obtain rfl | rfl | rfl : x = 6 ∨ x = 7 ∨ x = 8 := by omega
      · refine ⟨p, _, _, _, rfl, rfl, .of upd_same, atI_nat (j := 0) rfl, ?_⟩
        refine ⟨_, rfl, _, rfl, _, rfl, _, rfl, _, rfl, _, rfl, _, _, rfl, rfl, d, nm, z, l, r, k, by rw [← ek]; rfl, hkn, h3, fun c v' H4 hc hcd hv' e4 h4 => ⟨by show 3 ≤ sizeLine; decide, fun p2 hp2 => ?_⟩⟩
        exact q (.some ro c) _ _ ⟨hro, hc⟩ (Nat.succ_le_succ hcd) (.tup (.of upd_same) (.cons (.str _) (.cons (Dp.same (Same.new _ hp2) (h3.mv e4 (rolN ro) (Dp.same (Same.new _ hp) hv))) (.cons (Dp.same (Same.new _ hp2) hv') .nil)))) ((((e1.trans e2).trans (SameX.new _ hp)).trans e4).trans (SameX.new _ hp2)) (h4.new _ hp2)
      · refine ⟨p, _, _, _, rfl, rfl, .of upd_same, atI_nat (j := 1) rfl, ?_⟩
        refine ⟨_, rfl, _, rfl, _, rfl, _, rfl, _, rfl, _, rfl, _, _, rfl, rfl, d, nm, z, l, r, k, by rw [← ek]; rfl, hkn, h3, fun c v' H4 hc hcd hv' e4 h4 => ⟨by show 3 ≤ sizeLine; decide, fun p2 hp2 => ?_⟩⟩
        exact q (.all ro c) _ _ ⟨hro, hc⟩ (Nat.succ_le_succ hcd) (.tup (.of upd_same) (.cons (.str _) (.cons (Dp.same (Same.new _ hp2) (h3.mv e4 (rolN ro) (Dp.same (Same.new _ hp) hv))) (.cons (Dp.same (Same.new _ hp2) hv') .nil)))) ((((e1.trans e2).trans (SameX.new _ hp)).trans e4).trans (SameX.new _ hp2)) (h4.new _ hp2)
      · refine ⟨p, _, _, _, rfl, rfl, .of upd_same, atI_nat (j := 2) rfl, ?_⟩
        refine ⟨_, rfl, _, rfl, _, rfl, _, rfl, _, rfl, _, rfl, _, _, rfl, rfl, d, nm, z, l, r, k, by rw [← ek]; rfl, hkn, h3, fun c v' H4 hc hcd hv' e4 h4 => ⟨by show 3 ≤ sizeLine; decide, fun p2 hp2 => ?_⟩⟩
        exact q (.some ro c) _ _ ⟨hro, hc⟩ (Nat.succ_le_succ hcd) (.tup (.of upd_same) (.cons (.str _) (.cons (Dp.same (Same.new _ hp2) (h3.mv e4 (rolN ro) (Dp.same (Same.new _ hp) hv))) (.cons (Dp.same (Same.new _ hp2) hv') .nil)))) ((((e1.trans e2).trans (SameX.new _ hp)).trans e4).trans (SameX.new _ hp2)) (h4.new _ hp2)
    · refine ⟨_, rfl, _, rfl, _, rfl, _, rfl, _, _, rfl, rfl, d, nm, z, l, r, k, by rw [← ek]; rfl, hkn, h1, fun c v H2 hc hcd hv e2 h2 => ?_⟩
      refine ⟨by show 2 ≤ sizeLine; decide, fun p hp => ?_⟩
      have h3 := h2.new (.tup [V.str (Str.ofString "and"), .str (Str.ofString "or")]) hp
      refine take_draw rfl h3 (by decide) fun y H4 y0 y1 e4 h4 => ?_
      have hv4 := h3.mv e4 (Con.tn c) (Dp.same (Same.new _ hp) hv)
      obtain ⟨ds, _, _, _, _, k1, _⟩ := h3.ex
      have f3 : SqT K H4 p _ := KT.x k1 e4 _ _ (.of upd_same)
      obtain rfl | rfl : y = 0 ∨ y = 1 := by omega
      · refine ⟨p, _, _, _, rfl, rfl, f3, atI_nat (j := 0) rfl, ?_⟩
        refine ⟨_, rfl, _, rfl, _, rfl, _, rfl, _, rfl, _, rfl, _, _, rfl, rfl, d, nm, z, l, r, k, by rw [← ek]; rfl, hkn, h4, fun c' v' H5 hc' hcd' hv' e5 h5 => ⟨by show 3 ≤ sizeLine; decide, fun p2 hp2 => ?_⟩⟩
        exact q (.both c c') _ _ ⟨hc, hc'⟩ (by show max c.dp c'.dp + 1 ≤ k + 1; omega) (.tup (.of upd_same) (.cons (.str _) (.cons (Dp.same (Same.new _ hp2) (h4.mv e5 (Con.tn c) hv4)) (.cons (Dp.same (Same.new _ hp2) hv') .nil)))) (((((e1.trans e2).trans (SameX.new _ hp)).trans e4).trans e5).trans (SameX.new _ hp2)) (h5.new _ hp2)
      · refine ⟨p, _, _, _, rfl, rfl, f3, atI_nat (j := 1) rfl, ?_⟩
        refine ⟨_, rfl, _, rfl, _, rfl, _, rfl, _, rfl, _, rfl, _, _, rfl, rfl, d, nm, z, l, r, k, by rw [← ek]; rfl, hkn, h4, fun c' v' H5 hc' hcd' hv' e5 h5 => ⟨by show 3 ≤ sizeLine; decide, fun p2 hp2 => ?_⟩⟩
        exact q (.either c c') _ _ ⟨hc, hc'⟩ (by show max c.dp c'.dp + 1 ≤ k + 1; omega) (.tup (.of upd_same) (.cons (.str _) (.cons (Dp.same (Same.new _ hp2) (h4.mv e5 (Con.tn c) hv4)) (.cons (Dp.same (Same.new _ hp2) hv') .nil)))) (((((e1.trans e2).trans (SameX.new _ hp)).trans e4).trans e5).trans (SameX.new _ hp2)) (h5.new _ hp2)
section
variable {H : Hp} {d nm z : Addr} {l r : List Nat} {R : VK} {σ : L2.St}
theorem con_draw {n k i : Nat} (h0 : σ[0]? = some (some (.ref d))) (h1 : σ[1]? = some (some (.ref nm))) (h2 : σ[2]? = some (some (.ref z))) (h3 : σ[i]? = some (some (.int (k : Int)))) (hk : k < n) (h : Dr K H d nm z l r) (q : ∀ c v H', Con.Ok l r c → c.dp ≤ k → Dp K H' v c.D → SameX d H H' → Dr K H' d nm z l r → R v H') : tCall (spConD K n) [] E0 (tCons (tVar 0) (tCons (tVar 1) (tCons (tVar 2) (tCons (tVar i) tNil)))) σ H R :=
  ⟨_, h0, _, h1, _, h2, _, h3, d, nm, z, l, r, k, rfl, hk, h, q⟩
theorem rol_draw (h0 : σ[0]? = some (some (.ref d))) (h1 : σ[1]? = some (some (.ref nm))) (h2 : σ[2]? = some (some (.ref z))) (h : Dr K H d nm z l r) (q : ∀ (ro : Rol) v H', ro.1 ∈ nmL l r mk1 → Dp K H' v (rolD ro) → SameX d H H' → Dr K H' d nm z l r → R v H') : tCall (spRolD K) [] E0 (tCons (tVar 0) (tCons (tVar 1) (tCons (tVar 2) tNil))) σ H R :=
  ⟨_, h0, _, h1, _, h2, d, nm, z, l, r, rfl, h, q⟩
end
def Stm.Ok (l r : List Nat) : Stm → Prop
  | .below c d => c.Ok l r ∧ d.Ok l r
  | .equals c d => c.Ok l r ∧ d.Ok l r
  | .apart c d => c.Ok l r ∧ d.Ok l r
  | .domain ro c => ro.1 ∈ nmL l r mk1 ∧ c.Ok l r
  | .range ro c => ro.1 ∈ nmL l r mk1 ∧ c.Ok l r
  | .under r1 r2 => r1.1 ∈ nmL l r mk1 ∧ r2.1 ∈ nmL l r mk1
  | .inverse a b => a ∈ nmL l r mk1 ∧ b ∈ nmL l r mk1
  | .is a c => a ∈ nmL l r mk2 ∧ c.Ok l r
  | .has a b c => a ∈ nmL l r mk2 ∧ b ∈ nmL l r mk1 ∧ c ∈ nmL l r mk2
  | .never => True
theorem Stm.sz_le {l r : List Nat} (f : FrameOk l r) {s : Stm} (h : s.Ok l r) : s.sz ≤ 112 * 2 ^ s.dp + 88 := by
  cases s with
  | below c d | equals c d | apart c d =>
    have h1 := Con.sz_le f h.1
    have h2 := Con.sz_le f h.2
    have k1 := pow_dp (Nat.le_max_left c.dp d.dp)
    have k2 := pow_dp (Nat.le_max_right c.dp d.dp)
    show c.sz + d.sz + 40 ≤ 112 * 2 ^ (max c.dp d.dp) + 88
    omega
  | domain ro c | range ro c =>
    have h1 := nm_len f h.1
    have h2 := Con.sz_le f h.2
    show ro.1.length + c.sz + 40 ≤ 112 * 2 ^ c.dp + 88
    omega
  | under a b =>
    have h1 := nm_len f h.1
    have h2 := nm_len f h.2
    show a.1.length + b.1.length + 40 ≤ _
    omega
  | inverse a b =>
    have h1 := nm_len f h.1
    have h2 := nm_len f h.2
    show a.length + b.length + 40 ≤ _
    omega
  | is a c =>
    have h1 := nm_len f h.1
    have h2 := Con.sz_le f h.2
    show a.length + c.sz + 40 ≤ 112 * 2 ^ c.dp + 88
    omega
  | has a b c =>
    have h1 := nm_len f h.1
    have h2 := nm_len f h.2.1
    have h3 := nm_len f h.2.2
    show a.length + b.length + c.length + 40 ≤ _
    omega
  | never =>
    show 40 ≤ _
    omega
def spStmD (K : PySem.W.Frag) (n : Nat) : Sp := fun vs H Q _ => ∃ (d nm z : Addr) (l r : List Nat) (k : Nat), vs = [.ref d, .ref nm, .ref z, .int (k : Int)] ∧ k < n ∧ Dr K H d nm z l r ∧ ∀ (s : Stm) (v : V) (H' : Hp), s.Ok l r → s.dp ≤ k → s ≠ .never → Dp K H' v s.D → SameX d H H' → Dr K H' d nm z l r → Q v H'
theorem c_law_statement {n m : Nat} (hm : 2 ≤ m) {f : Addr} {fd : FuncData} (D : Df K mg "_law_statement" s_law_statement f fd ["draws", "names", "sizes", "depth"]) (c_law_take : Cl P w K mg base 1 "_law_take" spTake) (c_law_role : Cl P w K mg base 2 "_law_role" (spRolD K)) (c_law_concept : Cl P w K mg base m "_law_concept" (spConD K n)) (z_min : mg "min" = none) : Cl P w K mg base (m + 1) "_law_statement" (spStmD K n) := by
  refine D.cl sc_law_statement (fun vs H Q E h => ?_) (fun cdv A outer s H vs Q E hr h => ?_)
  · obtain ⟨d, nm, z, l, r, k, rfl, _⟩ := h
    rfl
  obtain ⟨d, nm, z, l, r, k, rfl, hk, h, q⟩ := h
  refine ⟨_, (pss_cons (ps_set (i := 4) sc_law_statement.nd rfl (.inl rfl) (pc c_law_take hr (by first | decide | omega) (by rfl) (pa_cons (pv 0) (pa_cons pe_int pa_nil))))
      (pss_cons (ps_if (PW.pt (pw_and (pt_cmpR op_gt (pv 4) pe_int (nomark _)) (pw_and1 (pt_cmpR op_gt (pe_ix ix_tup (pv 2) pe_int (fun _ _ => rfl)) pe_int (nomark _))))) (pss_cons (ps_set (i := 5) sc_law_statement.nd rfl (.inl rfl) (pe_ix ix_list (pe_ix ix_list (pv 1) pe_int (fun _ _ => rfl)) (pc c_law_take hr (by first | decide | omega) (by rfl) (pa_cons (pv 0) (pa_cons (pe_ix ix_tup (pv 2) pe_int (fun _ _ => rfl)) pa_nil))) (fun _ _ => rfl)))
      (pss_cons (ps_if (PW.pt (pw_and (pt_cmpR op_eq (pv 4) pe_int (nomark _)) (pw_and1 (pt_cmpR op_gt (pe_ix ix_tup (pv 2) pe_int (fun _ _ => rfl)) pe_int (nomark _))))) (pss_cons (ps_set (i := 6) sc_law_statement.nd rfl (.inl rfl) (pe_ix ix_list (pe_ix ix_list (pv 1) pe_int (fun _ _ => rfl)) (pc c_law_take hr (by first | decide | omega) (by rfl) (pa_cons (pv 0) (pa_cons (pe_ix ix_tup (pv 2) pe_int (fun _ _ => rfl)) pa_nil))) (fun _ _ => rfl)))
      (pss_one (ps_ret (pe_tup (pa_cons pe_str (pa_cons (pv 5) (pa_cons (pv 6) (pa_cons (pe_ix ix_list (pe_ix ix_list (pv 1) pe_int (fun _ _ => rfl)) (pc c_law_take hr (by first | decide | omega) (by rfl) (pa_cons (pv 0) (pa_cons (pe_ix ix_tup (pv 2) pe_int (fun _ _ => rfl)) pa_nil))) (fun _ _ => rfl)) pa_nil)))))))) pss_nil)
      (pss_one (ps_ret (pe_tup (pa_cons pe_str (pa_cons (pv 5) (pa_cons (pc c_law_concept hr (by first | decide | omega) (by rfl) (pa_cons (pv 0) (pa_cons (pv 1) (pa_cons (pv 2) (pa_cons (pv 3) pa_nil))))) pa_nil)))))))) pss_nil)
      (pss_cons (ps_if (PW.pt (pw_and (pt_cmpR op_gt (pv 4) pe_int (nomark _)) (pw_and1 (pt_cmpR op_gt (pe_ix ix_tup (pv 2) pe_int (fun _ _ => rfl)) pe_int (nomark _))))) (pss_cons (ps_set (i := 6) sc_law_statement.nd rfl (.inl rfl) (pc c_law_role hr (by first | decide | omega) (by rfl) (pa_cons (pv 0) (pa_cons (pv 1) (pa_cons (pv 2) pa_nil)))))
      (pss_cons (ps_if (pt_cmpR op_eq (pv 4) pe_int (nomark _)) (pss_one (ps_ret (pe_tup (pa_cons pe_str (pa_cons (pv 6) (pa_cons (pc c_law_concept hr (by first | decide | omega) (by rfl) (pa_cons (pv 0) (pa_cons (pv 1) (pa_cons (pv 2) (pa_cons (pv 3) pa_nil))))) pa_nil)))))) pss_nil)
      (pss_cons (ps_if (pt_cmpR op_eq (pv 4) pe_int (nomark _)) (pss_one (ps_ret (pe_tup (pa_cons pe_str (pa_cons (pv 6) (pa_cons (pc c_law_concept hr (by first | decide | omega) (by rfl) (pa_cons (pv 0) (pa_cons (pv 1) (pa_cons (pv 2) (pa_cons (pv 3) pa_nil))))) pa_nil)))))) pss_nil)
      (pss_cons (ps_if (pt_cmpR op_eq (pv 4) pe_int (nomark _)) (pss_one (ps_ret (pe_tup (pa_cons pe_str (pa_cons (pe_ix ix_tup (pv 6) pe_int (fun _ _ => rfl)) (pa_cons (pe_ix ix_list (pe_ix ix_list (pv 1) pe_int (fun _ _ => rfl)) (pc c_law_take hr (by first | decide | omega) (by rfl) (pa_cons (pv 0) (pa_cons (pe_ix ix_tup (pv 2) pe_int (fun _ _ => rfl)) pa_nil))) (fun _ _ => rfl)) pa_nil)))))) pss_nil)
      (pss_one (ps_ret (pe_tup (pa_cons pe_str (pa_cons (pv 6) (pa_cons (pc c_law_role hr (by first | decide | omega) (by rfl) (pa_cons (pv 0) (pa_cons (pv 1) (pa_cons (pv 2) pa_nil)))) pa_nil)))))))))) pss_nil)
      (pss_cons (ps_set (i := 7) sc_law_statement.nd rfl (.inl rfl) (pe_ix ix_tup (pe_tup (pa_cons pe_str (pa_cons pe_str (pa_cons pe_str (pa_cons pe_str (pa_cons pe_str pa_nil)))))) (pe_callB (call_min2 rfl) (by rfl) z_min (by decide +kernel) (pa_cons (pv 4) (pa_cons pe_int pa_nil))) (fun _ _ => rfl)))
      (pss_cons (ps_set (i := 8) sc_law_statement.nd rfl (.inl rfl) (pc c_law_concept hr (by first | decide | omega) (by rfl) (pa_cons (pv 0) (pa_cons (pv 1) (pa_cons (pv 2) (pa_cons (pv 3) pa_nil))))))
      (pss_one (ps_ret (pe_tup (pa_cons (pv 7) (pa_cons (pv 8) (pa_cons (pc c_law_concept hr (by first | decide | omega) (by rfl) (pa_cons (pv 0) (pa_cons (pv 1) (pa_cons (pv 2) (pa_cons (pv 3) pa_nil))))) pa_nil))))))))))), ?_⟩
  refine take_draw rfl h (by decide) fun x H1 x0 x1 e1 h1 => ?_
  refine gset ?_
  dsimp only
  refine tsq ?_
  refine if_and (b1 := decide (8 < x)) (b2 := decide ((0 : Int) < 5)) (fun R q => ⟨_, rfl, _, _, rfl, rfl, _, rfl, q⟩) (fun R q => ⟨_, rfl, z, _, _, _, rfl, rfl, h1.sz, atI_nat (j := 2) rfl, _, _, rfl, rfl, _, rfl, q⟩) (fun _ => ?_) (fun _ => ?_)
  · refine nm_draw (i := 2) rfl rfl rfl h1 rfl (by decide +kernel) rfl fun s1 H2 hs1 e2 h2 => ?_
    refine gset ?_
    dsimp only
    refine tsq ?_
    refine if_and (b1 := decide (V.int x = V.int 11)) (b2 := decide ((0 : Int) < 5)) (fun R q => ⟨_, rfl, rfl, _, rfl, q⟩) (fun R q => ⟨_, rfl, z, _, _, _, rfl, rfl, h2.sz, atI_nat (j := 1) rfl, _, _, rfl, rfl, _, rfl, q⟩) (fun _ => ?_) (fun _ => ?_)
    · refine nm_draw (i := 1) rfl rfl rfl h2 rfl (by decide +kernel) rfl fun s2 H3 hs2 e3 h3 => ?_
      refine ⟨_, rfl, _, rfl, nm_draw (i := 2) rfl rfl rfl h3 rfl (by decide +kernel) rfl fun s3 H4 hs3 e4 h4 => ⟨by show 4 ≤ sizeLine; decide, fun p hp => ?_⟩⟩
      exact q (.has s1 s2 s3) _ _ ⟨hs1, hs2, hs3⟩ (Nat.zero_le _) (fun z => nomatch z) (.tup (.of upd_same) (.cons (.str _) (.cons (.str _) (.cons (.str _) (.cons (.str _) .nil))))) ((((e1.trans e2).trans e3).trans e4).trans (SameX.new _ hp)) (h4.new _ hp)
    · refine tnx ?_
      refine ⟨_, rfl, con_draw rfl rfl rfl rfl hk h2 fun c v H3 hc hcd hv e3 h3 => ⟨by show 3 ≤ sizeLine; decide, fun p hp => ?_⟩⟩
      exact q (.is s1 c) _ _ ⟨hs1, hc⟩ hcd (fun z => nomatch z) (.tup (.of upd_same) (.cons (.str _) (.cons (.str _) (.cons (Dp.same (Same.new _ hp) hv) .nil)))) (((e1.trans e2).trans e3).trans (SameX.new _ hp)) (h3.new _ hp)
  refine tnx ?_
  dsimp only
  refine tsq ?_
  refine if_and (b1 := decide (4 < x)) (b2 := decide ((0 : Int) < 5)) (fun R q => ⟨_, rfl, _, _, rfl, rfl, _, rfl, q⟩) (fun R q => ⟨_, rfl, z, _, _, _, rfl, rfl, h1.sz, atI_nat (j := 1) rfl, _, _, rfl, rfl, _, rfl, q⟩) (fun _ => ?_) (fun _ => ?_)
  · refine rol_draw rfl rfl rfl h1 fun ro v H2 hro hv e2 h2 => ?_
    refine gset ?_
    dsimp only
    refine tsq ?_
    refine if_1 (b1 := decide (V.int x = V.int 5)) (fun R q => ⟨_, rfl, rfl, _, rfl, q⟩) (fun _ => ?_) (fun _ => ?_)
    · refine ⟨_, rfl, con_draw rfl rfl rfl rfl hk h2 fun c v' H3 hc hcd hv' e3 h3 => ⟨by show 3 ≤ sizeLine; decide, fun p hp => ?_⟩⟩
      exact q (.domain ro c) _ _ ⟨hro, hc⟩ hcd (fun z => nomatch z) (.tup (.of upd_same) (.cons (.str _) (.cons (Dp.same (Same.new _ hp) (h2.mv e3 (rolN ro) hv)) (.cons (Dp.same (Same.new _ hp) hv') .nil)))) (((e1.trans e2).trans e3).trans (SameX.new _ hp)) (h3.new _ hp)
    refine tnx ?_
    dsimp only
    refine tsq ?_
    refine if_1 (b1 := decide (V.int x = V.int 6)) (fun R q => ⟨_, rfl, rfl, _, rfl, q⟩) (fun _ => ?_) (fun _ => ?_)
    · refine ⟨_, rfl, con_draw rfl rfl rfl rfl hk h2 fun c v' H3 hc hcd hv' e3 h3 => ⟨by show 3 ≤ sizeLine; decide, fun p hp => ?_⟩⟩
      exact q (.range ro c) _ _ ⟨hro, hc⟩ hcd (fun z => nomatch z) (.tup (.of upd_same) (.cons (.str _) (.cons (Dp.same (Same.new _ hp) (h2.mv e3 (rolN ro) hv)) (.cons (Dp.same (Same.new _ hp) hv') .nil)))) (((e1.trans e2).trans e3).trans (SameX.new _ hp)) (h3.new _ hp)
    refine tnx ?_
    dsimp only
    refine tsq ?_
    refine if_1 (b1 := decide (V.int x = V.int 7)) (fun R q => ⟨_, rfl, rfl, _, rfl, q⟩) (fun _ => ?_) (fun _ => ?_)
    · obtain ⟨a, rfl, hs⟩ := dpRol hv
      refine ⟨_, rfl, a, _, _, _, rfl, rfl, hs, atI_nat (j := 0) rfl, nm_draw (i := 1) rfl rfl rfl h2 rfl (by decide +kernel) rfl fun s2 H3 hs2 e3 h3 => ⟨by show 3 ≤ sizeLine; decide, fun p hp => ?_⟩⟩
      exact q (.inverse ro.1 s2) _ _ ⟨hro, hs2⟩ (Nat.zero_le _) (fun z => nomatch z) (.tup (.of upd_same) (.cons (.str _) (.cons (.str _) (.cons (.str _) .nil)))) (((e1.trans e2).trans e3).trans (SameX.new _ hp)) (h3.new _ hp)
    refine tnx ?_
    refine ⟨_, rfl, rol_draw rfl rfl rfl h2 fun ro2 v' H3 hro2 hv' e3 h3 => ⟨by show 3 ≤ sizeLine; decide, fun p hp => ?_⟩⟩
    exact q (.under ro ro2) _ _ ⟨hro, hro2⟩ (Nat.zero_le _) (fun z => nomatch z) (.tup (.of upd_same) (.cons (.str _) (.cons (Dp.same (Same.new _ hp) (h2.mv e3 (rolN ro) hv)) (.cons (Dp.same (Same.new _ hp) hv') .nil)))) (((e1.trans e2).trans e3).trans (SameX.new _ hp)) (h3.new _ hp)
  refine tnx ?_
  refine ⟨by show 5 ≤ sizeLine; decide, fun p hp => ?_⟩
  have h2 := h1.new (.tup [V.str (Str.ofString "below"), .str (Str.ofString "below"), .str (Str.ofString "equals"), .str (Str.ofString "apart"), .str (Str.ofString "below")]) hp
  obtain ⟨y, hy, y0, y4⟩ : ∃ y, (if (4 : Int) < x then (4 : Int) else x) = y ∧ 0 ≤ y ∧ y ≤ 4 := ⟨_, rfl, by split <;> omega, by split <;> omega⟩
  refine ⟨_, rfl, x, 4, rfl, ?_⟩
  rw [hy]
  obtain ⟨W, mk, hW, hmk⟩ : ∃ (W : String) (mk : Con → Con → Stm), atI [V.str (Str.ofString "below"), .str (Str.ofString "below"), .str (Str.ofString "equals"), .str (Str.ofString "apart"), .str (Str.ofString "below")] y = some (.str (Str.ofString W)) ∧ ∀ c c' : Con, (mk c c').D = .tuple [.str (Str.ofString W), c.D, c'.D] ∧ (c.Ok l r ∧ c'.Ok l r → (mk c c').Ok l r) ∧ (mk c c').dp = max c.dp c'.dp ∧ mk c c' ≠ .never := by
    obtain rfl | rfl | rfl | rfl | rfl : y = 0 ∨ y = 1 ∨ y = 2 ∨ y = 3 ∨ y = 4 := by omega
    · exact ⟨_, .below, atI_nat (j := 0) rfl, fun c c' => ⟨rfl, id, rfl, fun z => nomatch z⟩⟩
    · exact ⟨_, .below, atI_nat (j := 1) rfl, fun c c' => ⟨rfl, id, rfl, fun z => nomatch z⟩⟩
    · exact ⟨_, .equals, atI_nat (j := 2) rfl, fun c c' => ⟨rfl, id, rfl, fun z => nomatch z⟩⟩
    · exact ⟨_, .apart, atI_nat (j := 3) rfl, fun c c' => ⟨rfl, id, rfl, fun z => nomatch z⟩⟩
    · exact ⟨_, .below, atI_nat (j := 4) rfl, fun c c' => ⟨rfl, id, rfl, fun z => nomatch z⟩⟩
  refine ⟨p, _, _, _, rfl, rfl, .of upd_same, hW, ?_⟩
  refine con_draw rfl rfl rfl rfl hk h2 fun c v H3 hc hcd hv e3 h3 => ?_
  refine ⟨_, rfl, _, rfl, con_draw rfl rfl rfl rfl hk h3 fun c' v' H4 hc' hcd' hv' e4 h4 => ⟨by show 3 ≤ sizeLine; decide, fun p2 hp2 => ?_⟩⟩
  obtain ⟨m1, m2, m3, m4⟩ := hmk c c'
  refine q (mk c c') _ _ (m2 ⟨hc, hc'⟩) (by rw [m3]; omega) m4 ?_ ((((e1.trans (SameX.new _ hp)).trans e3).trans e4).trans (SameX.new _ hp2)) (h4.new _ hp2)
  rw [m1]
  exact .tup (.of upd_same) (.cons (.str _) (.cons (Dp.same (Same.new _ hp2) (h3.mv e4 (Con.tn c) hv)) (.cons (Dp.same (Same.new _ hp2) hv') .nil)))
def spQstD (K : PySem.W.Frag) (n : Nat) : Sp := fun vs H Q _ => ∃ (d nm z : Addr) (l r : List Nat) (k : Nat), vs = [.ref d, .ref nm, .ref z, .int (k : Int)] ∧ k < n ∧ Dr K H d nm z l r ∧ ∀ (s : Stm) (v : V) (H' : Hp), s.Ok l r → s.dp ≤ k → Dp K H' v s.D → SameX d H H' → Dr K H' d nm z l r → Q v H'
theorem c_law_question {n m : Nat} (hm : 2 ≤ m) {f : Addr} {fd : FuncData} (D : Df K mg "_law_question" s_law_question f fd ["draws", "names", "sizes", "depth"]) (c_law_take : Cl P w K mg base 1 "_law_take" spTake) (c_law_concept : Cl P w K mg base m "_law_concept" (spConD K n)) : Cl P w K mg base (m + 1) "_law_question" (spQstD K n) := by
  refine D.cl sc_law_question (fun vs H Q E h => ?_) (fun cdv A outer s H vs Q E hr h => ?_)
  · obtain ⟨d, nm, z, l, r, k, rfl, _⟩ := h
    rfl
  obtain ⟨d, nm, z, l, r, k, rfl, hk, h, q⟩ := h
  refine ⟨_, (pss_cons (ps_set (i := 4) sc_law_question.nd rfl (.inl rfl) (pc c_law_take hr (by first | decide | omega) (by rfl) (pa_cons (pv 0) (pa_cons pe_int pa_nil))))
      (pss_cons (ps_if (pt_cmpR op_eq (pv 4) pe_int (nomark _)) (pss_one (ps_ret (pe_tup (pa_cons pe_str pa_nil)))) pss_nil)
      (pss_cons (ps_if (PW.pt (pw_and (pt_cmpR op_gt (pv 4) pe_int (nomark _)) (pw_and1 (pt_cmpR op_gt (pe_ix ix_tup (pv 2) pe_int (fun _ _ => rfl)) pe_int (nomark _))))) (pss_cons (ps_set (i := 5) sc_law_question.nd rfl (.inl rfl) (pe_ix ix_list (pe_ix ix_list (pv 1) pe_int (fun _ _ => rfl)) (pc c_law_take hr (by first | decide | omega) (by rfl) (pa_cons (pv 0) (pa_cons (pe_ix ix_tup (pv 2) pe_int (fun _ _ => rfl)) pa_nil))) (fun _ _ => rfl)))
      (pss_cons (ps_if (PW.pt (pw_and (pt_cmpR op_eq (pv 4) pe_int (nomark _)) (pw_and1 (pt_cmpR op_gt (pe_ix ix_tup (pv 2) pe_int (fun _ _ => rfl)) pe_int (nomark _))))) (pss_cons (ps_set (i := 6) sc_law_question.nd rfl (.inl rfl) (pe_ix ix_list (pe_ix ix_list (pv 1) pe_int (fun _ _ => rfl)) (pc c_law_take hr (by first | decide | omega) (by rfl) (pa_cons (pv 0) (pa_cons (pe_ix ix_tup (pv 2) pe_int (fun _ _ => rfl)) pa_nil))) (fun _ _ => rfl)))
      (pss_one (ps_ret (pe_tup (pa_cons pe_str (pa_cons (pv 5) (pa_cons (pv 6) (pa_cons (pe_ix ix_list (pe_ix ix_list (pv 1) pe_int (fun _ _ => rfl)) (pc c_law_take hr (by first | decide | omega) (by rfl) (pa_cons (pv 0) (pa_cons (pe_ix ix_tup (pv 2) pe_int (fun _ _ => rfl)) pa_nil))) (fun _ _ => rfl)) pa_nil)))))))) pss_nil)
      (pss_one (ps_ret (pe_tup (pa_cons pe_str (pa_cons (pv 5) (pa_cons (pc c_law_concept hr (by first | decide | omega) (by rfl) (pa_cons (pv 0) (pa_cons (pv 1) (pa_cons (pv 2) (pa_cons (pv 3) pa_nil))))) pa_nil)))))))) pss_nil)
      (pss_cons (ps_set (i := 7) sc_law_question.nd rfl (.inl rfl) (pc c_law_concept hr (by first | decide | omega) (by rfl) (pa_cons (pv 0) (pa_cons (pv 1) (pa_cons (pv 2) (pa_cons (pv 3) pa_nil))))))
      (pss_one (ps_ret (pe_tup (pa_cons pe_str (pa_cons (pv 7) (pa_cons (pc c_law_concept hr (by first | decide | omega) (by rfl) (pa_cons (pv 0) (pa_cons (pv 1) (pa_cons (pv 2) (pa_cons (pv 3) pa_nil))))) pa_nil)))))))))), ?_⟩
  refine take_draw rfl h (by decide) fun x H1 x0 x1 e1 h1 => ?_
  refine gset ?_
  dsimp only
  refine tsq ?_
  refine if_1 (b1 := decide (V.int x = V.int 0)) (fun R q => ⟨_, rfl, rfl, _, rfl, q⟩) (fun _ => ?_) (fun _ => ?_)
  · refine ⟨by show 1 ≤ sizeLine; decide, fun p hp => ?_⟩
    exact q .never _ _ trivial (Nat.zero_le _) (.tup (.of upd_same) (.cons (.str _) .nil)) (e1.trans (SameX.new _ hp)) (h1.new _ hp)
  refine tnx ?_
  dsimp only
  refine tsq ?_
  refine if_and (b1 := decide (6 < x)) (b2 := decide ((0 : Int) < 5)) (fun R q => ⟨_, rfl, _, _, rfl, rfl, _, rfl, q⟩) (fun R q => ⟨_, rfl, z, _, _, _, rfl, rfl, h1.sz, atI_nat (j := 2) rfl, _, _, rfl, rfl, _, rfl, q⟩) (fun _ => ?_) (fun _ => ?_)
  · refine nm_draw (i := 2) rfl rfl rfl h1 rfl (by decide +kernel) rfl fun s1 H2 hs1 e2 h2 => ?_
    refine gset ?_
    dsimp only
    refine tsq ?_
    refine if_and (b1 := decide (V.int x = V.int 9)) (b2 := decide ((0 : Int) < 5)) (fun R q => ⟨_, rfl, rfl, _, rfl, q⟩) (fun R q => ⟨_, rfl, z, _, _, _, rfl, rfl, h2.sz, atI_nat (j := 1) rfl, _, _, rfl, rfl, _, rfl, q⟩) (fun _ => ?_) (fun _ => ?_)
    · refine nm_draw (i := 1) rfl rfl rfl h2 rfl (by decide +kernel) rfl fun s2 H3 hs2 e3 h3 => ?_
      refine ⟨_, rfl, _, rfl, nm_draw (i := 2) rfl rfl rfl h3 rfl (by decide +kernel) rfl fun s3 H4 hs3 e4 h4 => ⟨by show 4 ≤ sizeLine; decide, fun p hp => ?_⟩⟩
      exact q (.has s1 s2 s3) _ _ ⟨hs1, hs2, hs3⟩ (Nat.zero_le _) (.tup (.of upd_same) (.cons (.str _) (.cons (.str _) (.cons (.str _) (.cons (.str _) .nil))))) ((((e1.trans e2).trans e3).trans e4).trans (SameX.new _ hp)) (h4.new _ hp)
    · refine tnx ?_
      refine ⟨_, rfl, con_draw rfl rfl rfl rfl hk h2 fun c v H3 hc hcd hv e3 h3 => ⟨by show 3 ≤ sizeLine; decide, fun p hp => ?_⟩⟩
      exact q (.is s1 c) _ _ ⟨hs1, hc⟩ hcd (.tup (.of upd_same) (.cons (.str _) (.cons (.str _) (.cons (Dp.same (Same.new _ hp) hv) .nil)))) (((e1.trans e2).trans e3).trans (SameX.new _ hp)) (h3.new _ hp)
  refine tnx ?_
  refine con_draw rfl rfl rfl rfl hk h1 fun c v H3 hc hcd hv e3 h3 => ?_
  refine ⟨_, rfl, con_draw rfl rfl rfl rfl hk h3 fun c' v' H4 hc' hcd' hv' e4 h4 => ⟨by show 3 ≤ sizeLine; decide, fun p2 hp2 => ?_⟩⟩
  exact q (.below c c') _ _ ⟨hc, hc'⟩ (by show max c.dp c'.dp ≤ k; omega) (.tup (.of upd_same) (.cons (.str _) (.cons (Dp.same (Same.new _ hp2) (h3.mv e4 (Con.tn c) hv)) (.cons (Dp.same (Same.new _ hp2) hv') .nil)))) (((e1.trans e3).trans e4).trans (SameX.new _ hp2)) (h4.new _ hp2)
/-! canonical texts -/
def rolT (r : Rol) : List Nat := if r.2 then lit "inverse " ++ r.1 else r.1
def Con.rk : Con → Nat
  | .either _ _ => 0
  | .both _ _ => 1
  | _ => 2
def wrap (b : Bool) (t : List Nat) : List Nat := if b then lit "(" ++ t ++ lit ")" else t
def Con.pr : Con → List Nat
  | .any => lit "anything"
  | .nothing => lit "nothing"
  | .name s => s
  | .not c => lit "not " ++ wrap (decide (c.rk < 2)) c.pr
  | .both c d => wrap (decide (c.rk < 1)) c.pr ++ lit " " ++ lit "and" ++ lit " " ++ wrap (decide (d.rk < 2)) d.pr
  | .either c d => wrap (decide (c.rk < 0)) c.pr ++ lit " " ++ lit "or" ++ lit " " ++ wrap (decide (d.rk < 1)) d.pr
  | .some r c => lit "some" ++ lit " " ++ rolT r ++ lit " " ++ wrap (decide (c.rk < 2)) c.pr
  | .all r c => lit "all" ++ lit " " ++ rolT r ++ lit " " ++ wrap (decide (c.rk < 2)) c.pr
theorem wrap_len (b : Bool) (t : List Nat) : (wrap b t).length ≤ t.length + 2 := by
  have e1 : (lit "(").length = 1 := by decide +kernel
  have e2 : (lit ")").length = 1 := by decide +kernel
  unfold wrap
  split
  · rw [List.length_append, List.length_append, e1, e2]
    omega
  · omega
theorem rolT_len (r : Rol) : (rolT r).length ≤ r.1.length + 8 := by
  have e1 : (lit "inverse ").length = 8 := by decide +kernel
  unfold rolT
  split
  · rw [List.length_append, e1]
    omega
  · omega
theorem Con.pr_len : ∀ c : Con, c.pr.length ≤ c.sz
  | .any => by show (lit "anything").length ≤ 20; decide +kernel
  | .nothing => by show (lit "nothing").length ≤ 20; decide +kernel
  | .name s => by show s.length ≤ s.length + 20; omega
  | .not c => by
    have e1 : (lit "not ").length = 4 := by decide +kernel
    have := wrap_len (decide (c.rk < 2)) c.pr
    have := Con.pr_len c
    show (lit "not " ++ _).length ≤ c.sz + 20
    rw [List.length_append, e1]
    omega
  | .both c d => by
    have e1 : (lit " ").length = 1 := by decide +kernel
    have e2 : (lit "and").length = 3 := by decide +kernel
    have := wrap_len (decide (c.rk < 1)) c.pr
    have := wrap_len (decide (d.rk < 2)) d.pr
    have := Con.pr_len c
    have := Con.pr_len d
    show (_ ++ lit " " ++ lit "and" ++ lit " " ++ _).length ≤ c.sz + d.sz + 20
    simp only [List.length_append, e1, e2]
    omega
  | .either c d => by
    have e1 : (lit " ").length = 1 := by decide +kernel
    have e2 : (lit "or").length = 2 := by decide +kernel
    have := wrap_len (decide (c.rk < 0)) c.pr
    have := wrap_len (decide (d.rk < 1)) d.pr
    have := Con.pr_len c
    have := Con.pr_len d
    show (_ ++ lit " " ++ lit "or" ++ lit " " ++ _).length ≤ c.sz + d.sz + 20
    simp only [List.length_append, e1, e2]
    omega
  | .some r c => by
    have e1 : (lit " ").length = 1 := by decide +kernel
    have e2 : (lit "some").length = 4 := by decide +kernel
    have := wrap_len (decide (c.rk < 2)) c.pr
    have := rolT_len r
    have := Con.pr_len c
    show (lit "some" ++ lit " " ++ rolT r ++ lit " " ++ _).length ≤ r.1.length + c.sz + 40
    simp only [List.length_append, e1, e2]
    omega
  | .all r c => by
    have e1 : (lit " ").length = 1 := by decide +kernel
    have e2 : (lit "all").length = 3 := by decide +kernel
    have := wrap_len (decide (c.rk < 2)) c.pr
    have := rolT_len r
    have := Con.pr_len c
    show (lit "all" ++ lit " " ++ rolT r ++ lit " " ++ _).length ≤ r.1.length + c.sz + 40
    simp only [List.length_append, e1, e2]
    omega
def spRole (K : PySem.W.Frag) : Sp := fun vs H Q _ => ∃ (v : V) (r : Rol), vs = [v] ∧ Dp K H v (rolD r) ∧ r.1.length ≤ 100000 ∧ ∀ H', Same H H' → Q (.str (T (rolT r))) H'
theorem c_role {f : Addr} {fd : FuncData} (D : Df K mg "_role" s_role f fd ["role"]) : Cl P w K mg base 1 "_role" (spRole K) := by
  refine D.cl sc_role (fun vs H Q E h => ?_) (fun cdv A outer s H vs Q E hr h => ?_)
  · obtain ⟨v, r, rfl, _⟩ := h
    rfl
  obtain ⟨v, r, rfl, hd, hl, q⟩ := h
  obtain ⟨a, rfl, hs⟩ := dpRol hd
  refine ⟨_, (pss_cons (ps_asg (pv 0) (pg_tup (by rfl) (pgs_cons (pg_name (i := 1) sc_role.nd rfl (.inl rfl)) (pgs_cons (pg_name (i := 2) sc_role.nd rfl (.inl rfl)) pgs_nil))))
      (pss_one (ps_ret (pe_ifExp (pt_val (pv 2)) (pe_joined (PJ.cons pe_str (PJ.cons (pe_fmt (pv 1)) PJ.nil))) (pv 1))))), ?_⟩
  refine ⟨_, rfl, a, _, rfl, hs, rfl, _, _, rfl, _, _, rfl, rfl, ?_⟩
  refine ⟨_, rfl, r.2, rfl, ?_⟩
  unfold rolT at q
  cases h2 : r.2 with
  | true =>
    rw [h2] at q
    refine iteT (js_0 (js_c (by decide +kernel) (by decide) (js_e (b := r.1) (fun R hR => ⟨_, rfl, hR _ (Same.refl _)⟩) (by omega) (by decide +kernel) fun H' e => ?_)))
    exact q _ e
  | false =>
    rw [h2] at q
    exact iteF ⟨_, rfl, q _ (Same.refl _)⟩
def spRank (K : PySem.W.Frag) : Sp := fun vs H Q _ => ∃ (v : V) (c : Con), vs = [v] ∧ Dp K H v c.D ∧ Q (.int (c.rk : Int)) H
def Con.kd : Con → Str
  | .any => Str.ofString "anything"
  | .nothing => Str.ofString "nothing"
  | .name _ => Str.ofString "name"
  | .not _ => Str.ofString "not"
  | .both _ _ => Str.ofString "and"
  | .either _ _ => Str.ofString "or"
  | .some _ _ => Str.ofString "some"
  | .all _ _ => Str.ofString "all"
theorem con_kind {H : Hp} {v : V} {c : Con} (h : Dp K H v c.D) : ∃ a r, v = .ref a ∧ SqT K H a (.str c.kd :: r) := by
  cases c with
  | any => obtain ⟨a, rfl, hs⟩ := dp1 h; exact ⟨a, _, rfl, hs⟩
  | nothing => obtain ⟨a, rfl, hs⟩ := dp1 h; exact ⟨a, _, rfl, hs⟩
  | name s => obtain ⟨a, y, rfl, hs, _⟩ := dp2 h; exact ⟨a, _, rfl, hs⟩
  | not c => obtain ⟨a, y, rfl, hs, _⟩ := dp2 h; exact ⟨a, _, rfl, hs⟩
  | both c d => obtain ⟨a, y, z, rfl, hs, _⟩ := dp3 h; exact ⟨a, _, rfl, hs⟩
  | either c d => obtain ⟨a, y, z, rfl, hs, _⟩ := dp3 h; exact ⟨a, _, rfl, hs⟩
  | some r c => obtain ⟨a, y, z, rfl, hs, _⟩ := dp3 h; exact ⟨a, _, rfl, hs⟩
  | all r c => obtain ⟨a, y, z, rfl, hs, _⟩ := dp3 h; exact ⟨a, _, rfl, hs⟩
theorem dk {s t : Str} {p : Prop} {i1 : Decidable (V.str s = V.str t)} {i2 : Decidable p} (b : Bool) (h : decide (s = t) = b) (h2 : (p ↔ b = true)) : @decide _ i1 = @decide _ i2 := by
  cases b with
  | true => rw [decide_eq_true (congrArg V.str (of_decide_eq_true h)), decide_eq_true (h2.mpr rfl)]
  | false => rw [decide_eq_false (fun z => of_decide_eq_false h (V.str.inj z)), decide_eq_false (fun z => Bool.noConfusion (h2.mp z))]
theorem kd_or (c : Con) : decide (V.str c.kd = V.str (Str.ofString "or")) = decide (c.rk = 0) := by cases c <;> simp only [Con.kd, Con.rk] <;> (first | exact dk false (by decide +kernel) (by decide) | exact dk true (by decide +kernel) (by decide))
theorem kd_and (c : Con) : decide (V.str c.kd = V.str (Str.ofString "and")) = decide (c.rk = 1) := by cases c <;> simp only [Con.kd, Con.rk] <;> (first | exact dk false (by decide +kernel) (by decide) | exact dk true (by decide +kernel) (by decide))
theorem rk_le (c : Con) : c.rk ≤ 2 := by cases c <;> (simp only [Con.rk]; decide)
theorem c_rank {f : Addr} {fd : FuncData} {t0 t1 t2 : Tok} (D : Df K mg "_rank" s_rank f fd ["concept"]) (m_OR_RANK : mg "OR_RANK" = some (.int K_OR_RANK t0)) (m_AND_RANK : mg "AND_RANK" = some (.int K_AND_RANK t1)) (m_FRONT_RANK : mg "FRONT_RANK" = some (.int K_FRONT_RANK t2)) : Cl P w K mg base 1 "_rank" (spRank K) := by
  refine D.cl sc_rank (fun vs H Q E h => ?_) (fun cdv A outer s H vs Q E hr h => ?_)
  · obtain ⟨v, c, rfl, _⟩ := h
    rfl
  obtain ⟨v, c, rfl, hd, q⟩ := h
  obtain ⟨a, r, rfl, hs⟩ := con_kind hd
  refine ⟨_, (pss_cons (ps_if (pt_cmpR op_eq (pe_ix ix_tup (pv 0) pe_int (fun _ _ => rfl)) pe_str (nomark _)) (pss_one (ps_ret (pe_glob (v := .int K_OR_RANK) (by rfl) m_OR_RANK ⟨_, rfl⟩))) pss_nil)
      (pss_cons (ps_if (pt_cmpR op_eq (pe_ix ix_tup (pv 0) pe_int (fun _ _ => rfl)) pe_str (nomark _)) (pss_one (ps_ret (pe_glob (v := .int K_AND_RANK) (by rfl) m_AND_RANK ⟨_, rfl⟩))) pss_nil)
      (pss_one (ps_ret (pe_glob (v := .int K_FRONT_RANK) (by rfl) m_FRONT_RANK ⟨_, rfl⟩))))), ?_⟩
  have i0 : atI (V.str c.kd :: r) 0 = some (.str c.kd) := atI_nat (j := 0) rfl
  have hl := rk_le c
  refine ⟨_, rfl, a, _, 0, _, rfl, rfl, hs, i0, rfl, _, rfl, ?_⟩
  rw [kd_or]
  refine ite2 (fun h => ?_) (fun h => ?_)
  · rw [of_decide_eq_true h] at q
    exact q
  have h0 : c.rk ≠ 0 := fun z => h (decide_eq_true z)
  refine ⟨_, rfl, a, _, 0, _, rfl, rfl, hs, i0, rfl, _, rfl, ?_⟩
  rw [kd_and]
  refine ite2 (fun h => ?_) (fun h => ?_)
  · rw [of_decide_eq_true h] at q
    exact q
  have h1 : c.rk ≠ 1 := fun z => h (decide_eq_true z)
  rw [show c.rk = 2 by omega] at q
  exact q
def spPC (K : PySem.W.Frag) (n : Nat) : Sp := fun vs H Q _ => ∃ (v : V) (c : Con), vs = [v] ∧ Dp K H v c.D ∧ c.dp < n ∧ c.sz ≤ 100000 ∧ ∀ H', Same H H' → Q (.str (T c.pr)) H'
def spOp (K : PySem.W.Frag) (n : Nat) : Sp := fun vs H Q _ => ∃ (v : V) (c : Con) (k : Nat), vs = [v, .int (k : Int)] ∧ Dp K H v c.D ∧ c.dp < n ∧ c.sz ≤ 100000 ∧ ∀ H', Same H H' → Q (.str (T (wrap (decide (c.rk < k)) c.pr))) H'
theorem c_operand {n : Nat} {f : Addr} {fd : FuncData} (D : Df K mg "_operand" s_operand f fd ["concept", "rank"]) (c_print_concept : Cl P w K mg base (2 * n + 1) "print_concept" (spPC K n)) (c_rank : Cl P w K mg base 1 "_rank" (spRank K)) : Cl P w K mg base (2 * n + 2) "_operand" (spOp K n) := by
  refine D.cl sc_operand (fun vs H Q E h => ?_) (fun cdv A outer s H vs Q E hr h => ?_)
  · obtain ⟨v, c, k, rfl, _⟩ := h
    rfl
  obtain ⟨v, c, k, rfl, hd, hn, hz, q⟩ := h
  refine ⟨_, (pss_cons (ps_set (i := 2) sc_operand.nd rfl (.inl rfl) (pc c_print_concept hr (by first | decide | omega) (by rfl) (pa_cons (pv 0) pa_nil)))
      (pss_one (ps_ret (pe_ifExp (pt_cmpR op_lt (pc c_rank hr (by first | decide | omega) (by rfl) (pa_cons (pv 0) pa_nil)) (pv 1) (nomark _)) (pe_joined (PJ.cons pe_str (PJ.cons (pe_fmt (pv 2)) (PJ.cons pe_str PJ.nil)))) (pv 2))))), ?_⟩
  refine ⟨_, rfl, v, c, rfl, hd, hn, hz, fun H1 e1 => ?_⟩
  have hl := c.pr_len
  refine ⟨_, rfl, v, c, rfl, Dp.same e1 hd, _, rfl, _, _, rfl, rfl, _, rfl, ?_⟩
  rw [show decide ((c.rk : Int) < (k : Int)) = decide (c.rk < k) from decide_eq_decide.mpr (by omega)]
  unfold wrap at q
  cases hb : decide (c.rk < k) with
  | true =>
    rw [hb] at q
    refine iteT (js_0 (js_c (by decide +kernel) (by decide) (js_e (b := c.pr) (fun R hR => ⟨_, rfl, hR _ (Same.refl _)⟩) (by omega) (by decide +kernel) fun H' e => js_c (by decide +kernel) ?_ (js_end ?_))))
    · have : (lit "(").length = 1 := by decide +kernel
      rw [List.nil_append, List.length_append, this]
      omega
    · exact q _ (e1.trans e)
  | false =>
    rw [hb] at q
    exact iteF ⟨_, rfl, q _ e1⟩
theorem c_print_concept {f g : Addr} {fd gd : FuncData} {t1 t2 : Tok} (D : Df K mg "print_concept" s_print_concept f fd ["concept"]) (DO : Df K mg "_operand" s_operand g gd ["concept", "rank"]) (c_rank : Cl P w K mg base 1 "_rank" (spRank K)) (c_role : Cl P w K mg base 1 "_role" (spRole K)) (m_FRONT_RANK : mg "FRONT_RANK" = some (.int K_FRONT_RANK t2)) : ∀ n : Nat, Cl P w K mg base (2 * n + 1) "print_concept" (spPC K n)
  | 0 => by
    refine D.cl sc_print_concept (fun vs H Q E h => ?_) (fun cdv A outer s H vs Q E hr h => ?_)
    · obtain ⟨v, c, rfl, _⟩ := h
      rfl
    · obtain ⟨v, c, _, _, hn, _⟩ := h
      exact absurd hn (Nat.not_lt_zero _)
  | n + 1 => by
    have c_operand := c_operand DO (c_print_concept D DO c_rank c_role m_FRONT_RANK (t1 := t1) n) c_rank
    refine D.cl sc_print_concept (fun vs H Q E h => ?_) (fun cdv A outer s H vs Q E hr h => ?_)
    · obtain ⟨v, c, rfl, _⟩ := h
      rfl
    obtain ⟨v, c, rfl, hd, hn, hz, q⟩ := h
    refine ⟨_, (pss_cons (ps_set (i := 1) sc_print_concept.nd rfl (.inl rfl) (pe_ix ix_tup (pv 0) pe_int (fun _ _ => rfl)))
      (pss_cons (ps_if (pt_cmpR op_eq (pv 1) pe_str (nomark _)) (pss_one (ps_ret (pe_ix ix_tup (pv 0) pe_int (fun _ _ => rfl)))) pss_nil)
      (pss_cons (ps_if (pt_cmpR op_eq (pv 1) pe_str (nomark _)) (pss_one (ps_ret (pe_joined (PJ.cons pe_str (PJ.cons (pe_fmt (pc c_operand hr (by first | decide | omega) (by rfl) (pa_cons (pe_ix ix_tup (pv 0) pe_int (fun _ _ => rfl)) (pa_cons (pe_glob (v := .int K_FRONT_RANK) (by rfl) m_FRONT_RANK ⟨_, rfl⟩) pa_nil)))) PJ.nil))))) pss_nil)
      (pss_cons (ps_if (pt_cmpR op_in_seq (pv 1) (pe_tup (pa_cons pe_str (pa_cons pe_str pa_nil))) rfl) (pss_one (ps_ret (pe_joined (PJ.cons (pe_fmt (pv 1)) (PJ.cons pe_str (PJ.cons (pe_fmt (pc c_role hr (by first | decide | omega) (by rfl) (pa_cons (pe_ix ix_tup (pv 0) pe_int (fun _ _ => rfl)) pa_nil))) (PJ.cons pe_str (PJ.cons (pe_fmt (pc c_operand hr (by first | decide | omega) (by rfl) (pa_cons (pe_ix ix_tup (pv 0) pe_int (fun _ _ => rfl)) (pa_cons (pe_glob (v := .int K_FRONT_RANK) (by rfl) m_FRONT_RANK ⟨_, rfl⟩) pa_nil)))) PJ.nil)))))))) pss_nil)
      (pss_cons (ps_if (pt_cmpR op_in_seq (pv 1) (pe_tup (pa_cons pe_str (pa_cons pe_str pa_nil))) rfl) (pss_cons (ps_set (i := 2) sc_print_concept.nd rfl (.inl rfl) (pc c_rank hr (by first | decide | omega) (by rfl) (pa_cons (pv 0) pa_nil)))
      (pss_one (ps_ret (pe_joined (PJ.cons (pe_fmt (pc c_operand hr (by first | decide | omega) (by rfl) (pa_cons (pe_ix ix_tup (pv 0) pe_int (fun _ _ => rfl)) (pa_cons (pv 2) pa_nil)))) (PJ.cons pe_str (PJ.cons (pe_fmt (pv 1)) (PJ.cons pe_str (PJ.cons (pe_fmt (pc c_operand hr (by first | decide | omega) (by rfl) (pa_cons (pe_ix ix_tup (pv 0) pe_int (fun _ _ => rfl)) (pa_cons (pe_op op_add (pv 2) pe_int) pa_nil)))) PJ.nil))))))))) pss_nil)
      (pss_one (ps_ret (pv 1)))))))), ?_⟩
    cases c with
    | any =>
      obtain ⟨a, rfl, hs⟩ := dp1 hd
      refine ⟨_, rfl, a, _, 0, _, rfl, rfl, hs, atI_nat (j := 0) rfl, ?_⟩
      refine if_eqF rfl (by decide +kernel) (if_eqF rfl (by decide +kernel) (if_in2F rfl (by decide +kernel) fun p hp => (if_in2F rfl (by decide +kernel) fun p2 hp2 => ?_)))
      refine ⟨_, rfl, ?_⟩
      rw [lit_T "anything"]
      exact q _ ((Same.new _ hp).trans (Same.new _ hp2))
    | nothing =>
      obtain ⟨a, rfl, hs⟩ := dp1 hd
      refine ⟨_, rfl, a, _, 0, _, rfl, rfl, hs, atI_nat (j := 0) rfl, ?_⟩
      refine if_eqF rfl (by decide +kernel) (if_eqF rfl (by decide +kernel) (if_in2F rfl (by decide +kernel) fun p hp => (if_in2F rfl (by decide +kernel) fun p2 hp2 => ?_)))
      refine ⟨_, rfl, ?_⟩
      rw [lit_T "nothing"]
      exact q _ ((Same.new _ hp).trans (Same.new _ hp2))
    | name s =>
      obtain ⟨a, y, rfl, hs, hy⟩ := dp2 hd
      cases dp_str hy
      refine ⟨_, rfl, a, _, 0, _, rfl, rfl, hs, atI_nat (j := 0) rfl, ?_⟩
      refine if_eqT rfl (by decide +kernel) ?_
      exact ⟨_, rfl, a, _, 1, _, rfl, rfl, hs, atI_nat (j := 1) rfl, q _ (Same.refl _)⟩
    | not c =>
      obtain ⟨a, y, rfl, hs, hy⟩ := dp2 hd
      have hn2 : c.dp < n := Nat.lt_of_succ_lt_succ hn
      have hz2 : c.sz + 20 ≤ 100000 := hz
      refine ⟨_, rfl, a, _, 0, _, rfl, rfl, hs, atI_nat (j := 0) rfl, ?_⟩
      refine if_eqF rfl (by decide +kernel) (if_eqT rfl (by decide +kernel) ?_)
      refine js_0 (js_c (by decide +kernel) (by decide) ?_)
      refine js_e (b := wrap (decide (c.rk < 2)) c.pr) (fun R hR => ⟨_, rfl, a, _, 1, _, rfl, rfl, hs, atI_nat (j := 1) rfl, y, c, 2, rfl, hy, hn2, by omega, hR⟩) (by have := wrap_len (decide (c.rk < 2)) c.pr; have := c.pr_len; omega) (by decide +kernel) fun H3 e3 => js_end ?_
      exact q _ e3
    | both c d =>
      obtain ⟨a, y, z, rfl, hs, hy, hc⟩ := dp3 hd
      have hn1 : c.dp < n := by have : max c.dp d.dp + 1 < n + 1 := hn; omega
      have hn2 : d.dp < n := by have : max c.dp d.dp + 1 < n + 1 := hn; omega
      have hz2 : c.sz + d.sz + 20 ≤ 100000 := hz
      refine ⟨_, rfl, a, _, 0, _, rfl, rfl, hs, atI_nat (j := 0) rfl, ?_⟩
      refine if_eqF rfl (by decide +kernel) (if_eqF rfl (by decide +kernel) (if_in2F rfl (by decide +kernel) fun p hp => (if_in2T rfl (by decide +kernel) fun p2 hp2 => ?_)))
      have e0 := (Same.new (.tup [V.str (Str.ofString "some"), V.str (Str.ofString "all")]) hp).trans (Same.new (.tup [V.str (Str.ofString "and"), V.str (Str.ofString "or")]) hp2)
      refine ⟨_, rfl, _, .both c d, rfl, Dp.same e0 hd, ?_⟩
      refine js_0 (js_e (b := wrap (decide (c.rk < 1)) c.pr) (fun R hR => ⟨_, rfl, a, _, 1, _, rfl, rfl, Same.seqT e0 hs, atI_nat (j := 1) rfl, _, rfl, y, c, 1, rfl, Dp.same e0 hy, hn1, by omega, hR⟩) (by have := wrap_len (decide (c.rk < 1)) c.pr; have := c.pr_len; omega) (by decide) fun H1 e1 => ?_)
      have w1 := wrap_len (decide (c.rk < 1)) c.pr
      have w2 := c.pr_len
      have l1 : (lit " ").length = 1 := by decide +kernel
      have l2 : (lit "and").length ≤ 3 := by decide +kernel
      rw [List.nil_append]
      refine js_c (by decide +kernel) (by omega) ?_
      refine js_e (b := lit "and") (fun R hR => ⟨_, rfl, lit_T "and" ▸ hR _ (Same.refl _)⟩) (by omega) (by rw [List.length_append]; omega) fun H2 e2 => ?_
      refine js_c (by decide +kernel) (by rw [List.length_append, List.length_append]; omega) ?_
      have e3 := (e0.trans e1).trans e2
      refine js_e (b := wrap (decide (d.rk < 2)) d.pr) (fun R hR => ⟨_, rfl, a, _, 2, _, rfl, rfl, Same.seqT e3 hs, atI_nat (j := 2) rfl, _, rfl, _, _, rfl, rfl, z, d, 2, rfl, Dp.same e3 hc, hn2, by omega, hR⟩) (by have := wrap_len (decide (d.rk < 2)) d.pr; have := d.pr_len; omega) (by
        rw [List.length_append, List.length_append, List.length_append]
        omega) fun H3 e4 => js_end ?_
      exact q _ (e3.trans e4)
    | either c d =>
      obtain ⟨a, y, z, rfl, hs, hy, hc⟩ := dp3 hd
      have hn1 : c.dp < n := by have : max c.dp d.dp + 1 < n + 1 := hn; omega
      have hn2 : d.dp < n := by have : max c.dp d.dp + 1 < n + 1 := hn; omega
      have hz2 : c.sz + d.sz + 20 ≤ 100000 := hz
      refine ⟨_, rfl, a, _, 0, _, rfl, rfl, hs, atI_nat (j := 0) rfl, ?_⟩
      refine if_eqF rfl (by decide +kernel) (if_eqF rfl (by decide +kernel) (if_in2F rfl (by decide +kernel) fun p hp => (if_in2T rfl (by decide +kernel) fun p2 hp2 => ?_)))
      have e0 := (Same.new (.tup [V.str (Str.ofString "some"), V.str (Str.ofString "all")]) hp).trans (Same.new (.tup [V.str (Str.ofString "and"), V.str (Str.ofString "or")]) hp2)
      refine ⟨_, rfl, _, .either c d, rfl, Dp.same e0 hd, ?_⟩
      refine js_0 (js_e (b := wrap (decide (c.rk < 0)) c.pr) (fun R hR => ⟨_, rfl, a, _, 1, _, rfl, rfl, Same.seqT e0 hs, atI_nat (j := 1) rfl, _, rfl, y, c, 0, rfl, Dp.same e0 hy, hn1, by omega, hR⟩) (by have := wrap_len (decide (c.rk < 0)) c.pr; have := c.pr_len; omega) (by decide) fun H1 e1 => ?_)
      have w1 := wrap_len (decide (c.rk < 0)) c.pr
      have w2 := c.pr_len
      have l1 : (lit " ").length = 1 := by decide +kernel
      have l2 : (lit "or").length ≤ 3 := by decide +kernel
      rw [List.nil_append]
      refine js_c (by decide +kernel) (by omega) ?_
      refine js_e (b := lit "or") (fun R hR => ⟨_, rfl, lit_T "or" ▸ hR _ (Same.refl _)⟩) (by omega) (by rw [List.length_append]; omega) fun H2 e2 => ?_
      refine js_c (by decide +kernel) (by rw [List.length_append, List.length_append]; omega) ?_
      have e3 := (e0.trans e1).trans e2
      refine js_e (b := wrap (decide (d.rk < 1)) d.pr) (fun R hR => ⟨_, rfl, a, _, 2, _, rfl, rfl, Same.seqT e3 hs, atI_nat (j := 2) rfl, _, rfl, _, _, rfl, rfl, z, d, 1, rfl, Dp.same e3 hc, hn2, by omega, hR⟩) (by have := wrap_len (decide (d.rk < 1)) d.pr; have := d.pr_len; omega) (by
        rw [List.length_append, List.length_append, List.length_append]
        omega) fun H3 e4 => js_end ?_
      exact q _ (e3.trans e4)
    | some r c =>
      obtain ⟨a, y, z, rfl, hs, hy, hc⟩ := dp3 hd
      have hn2 : c.dp < n := Nat.lt_of_succ_lt_succ hn
      have hz2 : r.1.length + c.sz + 40 ≤ 100000 := hz
      refine ⟨_, rfl, a, _, 0, _, rfl, rfl, hs, atI_nat (j := 0) rfl, ?_⟩
      refine if_eqF rfl (by decide +kernel) (if_eqF rfl (by decide +kernel) (if_in2T rfl (by decide +kernel) fun p hp => ?_))
      have e0 := Same.new (.tup [V.str (Str.ofString "some"), V.str (Str.ofString "all")]) hp
      refine js_0 (js_e (b := lit "some") (fun R hR => ⟨_, rfl, lit_T "some" ▸ hR _ (Same.refl _)⟩) (by decide +kernel) (by decide) fun H1 e1 => ?_)
      refine js_c (by decide +kernel) (by decide +kernel) ?_
      have b1 : (([] : List Nat) ++ lit "some" ++ lit " ").length ≤ 10 := by decide +kernel
      refine js_e (b := rolT r) (fun R hR => ⟨_, rfl, a, _, 1, _, rfl, rfl, Same.seqT (e0.trans e1) hs, atI_nat (j := 1) rfl, y, r, rfl, Dp.same (e0.trans e1) hy, by omega, hR⟩) (by have := rolT_len r; omega) (by omega) fun H2 e2 => ?_
      refine js_c (by decide +kernel) (by have := rolT_len r; rw [List.length_append]; omega) ?_
      refine js_e (b := wrap (decide (c.rk < 2)) c.pr) (fun R hR => ⟨_, rfl, a, _, 2, _, rfl, rfl, Same.seqT ((e0.trans e1).trans e2) hs, atI_nat (j := 2) rfl, z, c, 2, rfl, Dp.same ((e0.trans e1).trans e2) hc, hn2, by omega, hR⟩) (by have := wrap_len (decide (c.rk < 2)) c.pr; have := c.pr_len; omega) (by
        have l1 : (lit " ").length = 1 := by decide +kernel
        have := rolT_len r
        rw [List.length_append, List.length_append, l1]
        omega) fun H3 e3 => js_end ?_
      exact q _ (((e0.trans e1).trans e2).trans e3)
    | all r c =>
      obtain ⟨a, y, z, rfl, hs, hy, hc⟩ := dp3 hd
      have hn2 : c.dp < n := Nat.lt_of_succ_lt_succ hn
      have hz2 : r.1.length + c.sz + 40 ≤ 100000 := hz
      refine ⟨_, rfl, a, _, 0, _, rfl, rfl, hs, atI_nat (j := 0) rfl, ?_⟩
      refine if_eqF rfl (by decide +kernel) (if_eqF rfl (by decide +kernel) (if_in2T rfl (by decide +kernel) fun p hp => ?_))
      have e0 := Same.new (.tup [V.str (Str.ofString "some"), V.str (Str.ofString "all")]) hp
      refine js_0 (js_e (b := lit "all") (fun R hR => ⟨_, rfl, lit_T "all" ▸ hR _ (Same.refl _)⟩) (by decide +kernel) (by decide) fun H1 e1 => ?_)
      refine js_c (by decide +kernel) (by decide +kernel) ?_
      have b1 : (([] : List Nat) ++ lit "all" ++ lit " ").length ≤ 10 := by decide +kernel
      refine js_e (b := rolT r) (fun R hR => ⟨_, rfl, a, _, 1, _, rfl, rfl, Same.seqT (e0.trans e1) hs, atI_nat (j := 1) rfl, y, r, rfl, Dp.same (e0.trans e1) hy, by omega, hR⟩) (by have := rolT_len r; omega) (by omega) fun H2 e2 => ?_
      refine js_c (by decide +kernel) (by have := rolT_len r; rw [List.length_append]; omega) ?_
      refine js_e (b := wrap (decide (c.rk < 2)) c.pr) (fun R hR => ⟨_, rfl, a, _, 2, _, rfl, rfl, Same.seqT ((e0.trans e1).trans e2) hs, atI_nat (j := 2) rfl, z, c, 2, rfl, Dp.same ((e0.trans e1).trans e2) hc, hn2, by omega, hR⟩) (by have := wrap_len (decide (c.rk < 2)) c.pr; have := c.pr_len; omega) (by
        have l1 : (lit " ").length = 1 := by decide +kernel
        have := rolT_len r
        rw [List.length_append, List.length_append, l1]
        omega) fun H3 e3 => js_end ?_
      exact q _ (((e0.trans e1).trans e2).trans e3)
def Stm.pr : Stm → List Nat
  | .below c d => c.pr ++ lit " " ++ lit "below" ++ lit " " ++ d.pr
  | .equals c d => c.pr ++ lit " " ++ lit "equals" ++ lit " " ++ d.pr
  | .apart c d => c.pr ++ lit ", " ++ d.pr ++ lit " apart"
  | .domain r c => lit "domain" ++ lit " " ++ rolT r ++ lit " " ++ c.pr
  | .range r c => lit "range" ++ lit " " ++ rolT r ++ lit " " ++ c.pr
  | .under r s => rolT r ++ lit " under " ++ rolT s
  | .inverse a b => a ++ lit " inverse " ++ b
  | .is a c => a ++ lit " is " ++ c.pr
  | .has a b c => a ++ lit " " ++ b ++ lit " " ++ c
  | .never => lit "never"
theorem Stm.pr_len (s : Stm) : s.pr.length ≤ s.sz := by
  have e1 : (lit " ").length = 1 := by decide +kernel
  have e2 : (lit "below").length = 5 := by decide +kernel
  have e3 : (lit "equals").length = 6 := by decide +kernel
  have e4 : (lit ", ").length = 2 := by decide +kernel
  have e5 : (lit " apart").length = 6 := by decide +kernel
  have e6 : (lit "domain").length = 6 := by decide +kernel
  have e7 : (lit "range").length = 5 := by decide +kernel
  have e8 : (lit " under ").length = 7 := by decide +kernel
  have e9 : (lit " inverse ").length = 9 := by decide +kernel
  have e10 : (lit " is ").length = 4 := by decide +kernel
  have e11 : (lit "never").length = 5 := by decide +kernel
  cases s with
  | below c d | equals c d | apart c d =>
    have := c.pr_len
    have := d.pr_len
    simp only [Stm.pr, Stm.sz, List.length_append, e1, e2, e3, e4, e5]
    omega
  | domain r c | range r c =>
    have := c.pr_len
    have := rolT_len r
    simp only [Stm.pr, Stm.sz, List.length_append, e1, e6, e7]
    omega
  | under r s =>
    have := rolT_len r
    have := rolT_len s
    simp only [Stm.pr, Stm.sz, List.length_append, e8]
    omega
  | inverse a b =>
    simp only [Stm.pr, Stm.sz, List.length_append, e9]
    omega
  | is a c =>
    have := c.pr_len
    simp only [Stm.pr, Stm.sz, List.length_append, e10]
    omega
  | has a b c =>
    simp only [Stm.pr, Stm.sz, List.length_append, e1]
    omega
  | never =>
    simp only [Stm.pr, Stm.sz, e11]
    omega
/-- [e1] x [e2] with written text between and behind, glued -/
theorem js3 {σ : L2.St} {H : Hp} {t1 t2 : TE} {a b : List Nat} {s : String} {Q : Str → Hp → Prop} (g1 : GT t1 σ H a) (g2 : GT t2 σ H b) (l1 : a.length ≤ 200000) (l2 : b.length ≤ 200000) (hs : decide ((lit s).length ≤ 20) = true) (q : ∀ H', Same H H' → Q (T (a ++ lit s ++ b)) H') :
    tJs [tFmt t1, tC (.str (Str.ofString s)), tFmt t2] Str.empty σ H Q :=
  js_0 (js_e (g1 H (Same.refl _)) (by omega) (by decide) fun H1 e1 => js_c hs (by rw [List.nil_append]; omega) (js_e ((g2.mono e1) H1 (Same.refl _)) (by omega) (by have := of_decide_eq_true hs; rw [List.nil_append, List.length_append]; omega) fun H2 e2 => js_end (q _ (e1.trans e2))))
theorem js5 {σ : L2.St} {H : Hp} {t1 t2 t3 : TE} {a b c : List Nat} {s s' : String} {Q : Str → Hp → Prop} (g1 : GT t1 σ H a) (g2 : GT t2 σ H b) (g3 : GT t3 σ H c) (l1 : a.length ≤ 110000) (l2 : b.length ≤ 110000) (l3 : c.length ≤ 110000) (hs : decide ((lit s).length ≤ 20) = true) (hs' : decide ((lit s').length ≤ 20) = true)
    (q : ∀ H', Same H H' → Q (T (a ++ lit s ++ b ++ lit s' ++ c)) H') : tJs [tFmt t1, tC (.str (Str.ofString s)), tFmt t2, tC (.str (Str.ofString s')), tFmt t3] Str.empty σ H Q := by
  have k1 := of_decide_eq_true hs
  have k2 := of_decide_eq_true hs'
  exact js_0 (js_e (g1 H (Same.refl _)) (by omega) (by decide) fun H1 e1 => js_c hs (by rw [List.nil_append]; omega) (js_e ((g2.mono e1) H1 (Same.refl _)) (by omega) (by rw [List.nil_append, List.length_append]; omega) fun H2 e2 =>
    js_c hs' (by rw [List.nil_append, List.length_append, List.length_append]; omega) (js_e ((g3.mono (e1.trans e2)) H2 (Same.refl _)) (by omega) (by rw [List.nil_append, List.length_append, List.length_append, List.length_append]; omega) fun H3 e3 => js_end (q _ ((e1.trans e2).trans e3)))))
/-- the i-th item of a tuple, printed -/
theorem gt_pc {n : Nat} {σ : L2.St} {H : Hp} {j : Nat} {a : Addr} {xs : List V} {i : Nat} {y : V} {c : Con} (hσ : σ[j]? = some (some (.ref a))) (hs : SqT K H a xs) (hi : xs[i]? = some y) (hd : Dp K H y c.D) (hn : c.dp < n) (hz : c.sz ≤ 100000) : GT (tCall (spPC K n) [] E0 (tCons (tOp (rIxT K) (tVar j) (tC (.int (i : Int)))) tNil)) σ H c.pr :=
  fun H1 e R r => ⟨_, hσ, a, _, _, _, rfl, rfl, Same.seqT e hs, atI_nat hi, y, c, rfl, Dp.same e hd, hn, hz, r⟩
theorem gt_role {σ : L2.St} {H : Hp} {j : Nat} {a : Addr} {xs : List V} {i : Nat} {y : V} {r : Rol} (hσ : σ[j]? = some (some (.ref a))) (hs : SqT K H a xs) (hi : xs[i]? = some y) (hd : Dp K H y (rolD r)) (hz : r.1.length ≤ 100000) : GT (tCall (spRole K) [] E0 (tCons (tOp (rIxT K) (tVar j) (tC (.int (i : Int)))) tNil)) σ H (rolT r) :=
  fun H1 e R q => ⟨_, hσ, a, _, _, _, rfl, rfl, Same.seqT e hs, atI_nat hi, y, r, rfl, Dp.same e hd, hz, q⟩
theorem gt_item {σ : L2.St} {H : Hp} {j : Nat} {a : Addr} {xs : List V} {i : Nat} {b : List Nat} (hσ : σ[j]? = some (some (.ref a))) (hs : SqT K H a xs) (hi : xs[i]? = some (.str (T b))) : GT (tOp (rIxT K) (tVar j) (tC (.int (i : Int)))) σ H b :=
  fun H1 e R q => ⟨_, hσ, a, _, _, _, rfl, rfl, Same.seqT e hs, atI_nat hi, q H1 (Same.refl _)⟩
def spPS (K : PySem.W.Frag) (n : Nat) : Sp := fun vs H Q _ => ∃ (v : V) (s : Stm), vs = [v] ∧ Dp K H v s.D ∧ s.dp < n ∧ s.sz ≤ 100000 ∧ s ≠ .never ∧ ∀ H', Same H H' → Q (.str (T s.pr)) H'
theorem c_print_statement {n k : Nat} {f : Addr} {fd : FuncData} (D : Df K mg "print_statement" s_print_statement f fd ["statement"]) (c_print_concept : Cl P w K mg base k "print_concept" (spPC K n)) (c_role : Cl P w K mg base 1 "_role" (spRole K)) (hk : 1 ≤ k) : Cl P w K mg base (k + 1) "print_statement" (spPS K n) := by
  refine D.cl sc_print_statement (fun vs H Q E h => ?_) (fun cdv A outer s H vs Q E hr h => ?_)
  · obtain ⟨v, s, rfl, _⟩ := h
    rfl
  obtain ⟨v, s, rfl, hd, hn, hz, hnev, q⟩ := h
  refine ⟨_, (pss_cons (ps_set (i := 1) sc_print_statement.nd rfl (.inl rfl) (pe_ix ix_tup (pv 0) pe_int (fun _ _ => rfl)))
      (pss_cons (ps_if (pt_cmpR op_in_seq (pv 1) (pe_tup (pa_cons pe_str (pa_cons pe_str pa_nil))) rfl) (pss_one (ps_ret (pe_joined (PJ.cons (pe_fmt (pc c_print_concept hr (by first | decide | omega) (by rfl) (pa_cons (pe_ix ix_tup (pv 0) pe_int (fun _ _ => rfl)) pa_nil))) (PJ.cons pe_str (PJ.cons (pe_fmt (pv 1)) (PJ.cons pe_str (PJ.cons (pe_fmt (pc c_print_concept hr (by first | decide | omega) (by rfl) (pa_cons (pe_ix ix_tup (pv 0) pe_int (fun _ _ => rfl)) pa_nil))) PJ.nil)))))))) pss_nil)
      (pss_cons (ps_if (pt_cmpR op_eq (pv 1) pe_str (nomark _)) (pss_one (ps_ret (pe_joined (PJ.cons (pe_fmt (pc c_print_concept hr (by first | decide | omega) (by rfl) (pa_cons (pe_ix ix_tup (pv 0) pe_int (fun _ _ => rfl)) pa_nil))) (PJ.cons pe_str (PJ.cons (pe_fmt (pc c_print_concept hr (by first | decide | omega) (by rfl) (pa_cons (pe_ix ix_tup (pv 0) pe_int (fun _ _ => rfl)) pa_nil))) (PJ.cons pe_str PJ.nil))))))) pss_nil)
      (pss_cons (ps_if (pt_cmpR op_in_seq (pv 1) (pe_tup (pa_cons pe_str (pa_cons pe_str pa_nil))) rfl) (pss_one (ps_ret (pe_joined (PJ.cons (pe_fmt (pv 1)) (PJ.cons pe_str (PJ.cons (pe_fmt (pc c_role hr (by first | decide | omega) (by rfl) (pa_cons (pe_ix ix_tup (pv 0) pe_int (fun _ _ => rfl)) pa_nil))) (PJ.cons pe_str (PJ.cons (pe_fmt (pc c_print_concept hr (by first | decide | omega) (by rfl) (pa_cons (pe_ix ix_tup (pv 0) pe_int (fun _ _ => rfl)) pa_nil))) PJ.nil)))))))) pss_nil)
      (pss_cons (ps_if (pt_cmpR op_eq (pv 1) pe_str (nomark _)) (pss_one (ps_ret (pe_joined (PJ.cons (pe_fmt (pc c_role hr (by first | decide | omega) (by rfl) (pa_cons (pe_ix ix_tup (pv 0) pe_int (fun _ _ => rfl)) pa_nil))) (PJ.cons pe_str (PJ.cons (pe_fmt (pc c_role hr (by first | decide | omega) (by rfl) (pa_cons (pe_ix ix_tup (pv 0) pe_int (fun _ _ => rfl)) pa_nil))) PJ.nil)))))) pss_nil)
      (pss_cons (ps_if (pt_cmpR op_eq (pv 1) pe_str (nomark _)) (pss_one (ps_ret (pe_joined (PJ.cons (pe_fmt (pe_ix ix_tup (pv 0) pe_int (fun _ _ => rfl))) (PJ.cons pe_str (PJ.cons (pe_fmt (pe_ix ix_tup (pv 0) pe_int (fun _ _ => rfl))) PJ.nil)))))) pss_nil)
      (pss_cons (ps_if (pt_cmpR op_eq (pv 1) pe_str (nomark _)) (pss_one (ps_ret (pe_joined (PJ.cons (pe_fmt (pe_ix ix_tup (pv 0) pe_int (fun _ _ => rfl))) (PJ.cons pe_str (PJ.cons (pe_fmt (pc c_print_concept hr (by first | decide | omega) (by rfl) (pa_cons (pe_ix ix_tup (pv 0) pe_int (fun _ _ => rfl)) pa_nil))) PJ.nil)))))) pss_nil)
      (pss_one (ps_ret (pe_join pe_str (pe_slice sl_tupA (pv 0) (po_some pe_int) po_none))))))))))), ?_⟩
  cases s with
  | never => exact absurd rfl hnev
  | below c d =>
    obtain ⟨a, y, z, rfl, hs, hy, hc⟩ := dp3 hd
    have hz2 : c.sz + d.sz + 40 ≤ 100000 := hz
    have hn2 : max c.dp d.dp < n := hn
    have l1 := c.pr_len
    have l2 := d.pr_len
    refine ⟨_, rfl, a, _, 0, _, rfl, rfl, hs, atI_nat (j := 0) rfl, ?_⟩
    refine if_in2T rfl (by decide +kernel) fun p hp => ?_
    have e0 := (Same.new (.tup [V.str (Str.ofString "below"), V.str (Str.ofString "equals")]) hp)
    refine js5 ((gt_pc (i := 1) rfl hs rfl hy (by omega) (by omega)).mono e0) (gt_varL rfl) ((gt_pc (i := 2) rfl hs rfl hc (by omega) (by omega)).mono e0) (by omega) (by decide +kernel) (by omega) (by decide +kernel) (by decide +kernel) fun H' e => ?_
    exact q _ (e0.trans e)
  | equals c d =>
    obtain ⟨a, y, z, rfl, hs, hy, hc⟩ := dp3 hd
    have hz2 : c.sz + d.sz + 40 ≤ 100000 := hz
    have hn2 : max c.dp d.dp < n := hn
    have l1 := c.pr_len
    have l2 := d.pr_len
    refine ⟨_, rfl, a, _, 0, _, rfl, rfl, hs, atI_nat (j := 0) rfl, ?_⟩
    refine if_in2T rfl (by decide +kernel) fun p hp => ?_
    have e0 := (Same.new (.tup [V.str (Str.ofString "below"), V.str (Str.ofString "equals")]) hp)
    refine js5 ((gt_pc (i := 1) rfl hs rfl hy (by omega) (by omega)).mono e0) (gt_varL rfl) ((gt_pc (i := 2) rfl hs rfl hc (by omega) (by omega)).mono e0) (by omega) (by decide +kernel) (by omega) (by decide +kernel) (by decide +kernel) fun H' e => ?_
    exact q _ (e0.trans e)
  | apart c d =>
    obtain ⟨a, y, z, rfl, hs, hy, hc⟩ := dp3 hd
    have hz2 : c.sz + d.sz + 40 ≤ 100000 := hz
    have hn2 : max c.dp d.dp < n := hn
    have l1 := c.pr_len
    have l2 := d.pr_len
    refine ⟨_, rfl, a, _, 0, _, rfl, rfl, hs, atI_nat (j := 0) rfl, ?_⟩
    refine if_in2F rfl (by decide +kernel) fun p hp => (if_eqT rfl (by decide +kernel) ?_)
    have e0 := (Same.new (.tup [V.str (Str.ofString "below"), V.str (Str.ofString "equals")]) hp)
    have lc : (lit ", ").length = 2 := by decide +kernel
    refine js_0 (js_e (((gt_pc (i := 1) rfl hs rfl hy (by omega) (by omega)).mono e0) _ (Same.refl _)) (by omega) (by decide) fun H1 e1 => js_c (by decide +kernel) (by rw [List.nil_append]; omega) (js_e (((gt_pc (i := 2) rfl hs rfl hc (by omega) (by omega)).mono (e0.trans e1)) _ (Same.refl _)) (by omega) (by rw [List.nil_append, List.length_append]; omega) fun H2 e2 => js_c (by decide +kernel) (by rw [List.nil_append, List.length_append, List.length_append]; omega) (js_end ?_)))
    exact q _ ((e0.trans e1).trans e2)
  | domain r c =>
    obtain ⟨a, y, z, rfl, hs, hy, hc⟩ := dp3 hd
    have hz2 : r.1.length + c.sz + 40 ≤ 100000 := hz
    have hn2 : c.dp < n := hn
    have l1 := c.pr_len
    have l2 := rolT_len r
    refine ⟨_, rfl, a, _, 0, _, rfl, rfl, hs, atI_nat (j := 0) rfl, ?_⟩
    refine if_in2F rfl (by decide +kernel) fun p hp => (if_eqF rfl (by decide +kernel) (if_in2T rfl (by decide +kernel) fun p2 hp2 => ?_))
    have e0 := (Same.new (.tup [V.str (Str.ofString "below"), V.str (Str.ofString "equals")]) hp).trans (Same.new (.tup [V.str (Str.ofString "domain"), V.str (Str.ofString "range")]) hp2)
    refine js5 (gt_varL rfl) ((gt_role (i := 1) rfl hs rfl hy (by omega)).mono e0) ((gt_pc (i := 2) rfl hs rfl hc (by omega) (by omega)).mono e0) (by decide +kernel) (by omega) (by omega) (by decide +kernel) (by decide +kernel) fun H' e => ?_
    exact q _ (e0.trans e)
  | range r c =>
    obtain ⟨a, y, z, rfl, hs, hy, hc⟩ := dp3 hd
    have hz2 : r.1.length + c.sz + 40 ≤ 100000 := hz
    have hn2 : c.dp < n := hn
    have l1 := c.pr_len
    have l2 := rolT_len r
    refine ⟨_, rfl, a, _, 0, _, rfl, rfl, hs, atI_nat (j := 0) rfl, ?_⟩
    refine if_in2F rfl (by decide +kernel) fun p hp => (if_eqF rfl (by decide +kernel) (if_in2T rfl (by decide +kernel) fun p2 hp2 => ?_))
    have e0 := (Same.new (.tup [V.str (Str.ofString "below"), V.str (Str.ofString "equals")]) hp).trans (Same.new (.tup [V.str (Str.ofString "domain"), V.str (Str.ofString "range")]) hp2)
    refine js5 (gt_varL rfl) ((gt_role (i := 1) rfl hs rfl hy (by omega)).mono e0) ((gt_pc (i := 2) rfl hs rfl hc (by omega) (by omega)).mono e0) (by decide +kernel) (by omega) (by omega) (by decide +kernel) (by decide +kernel) fun H' e => ?_
    exact q _ (e0.trans e)
  | under r s =>
    obtain ⟨a, y, z, rfl, hs, hy, hc⟩ := dp3 hd
    have hz2 : r.1.length + s.1.length + 40 ≤ 100000 := hz
    have l1 := rolT_len r
    have l2 := rolT_len s
    refine ⟨_, rfl, a, _, 0, _, rfl, rfl, hs, atI_nat (j := 0) rfl, ?_⟩
    refine if_in2F rfl (by decide +kernel) fun p hp => (if_eqF rfl (by decide +kernel) (if_in2F rfl (by decide +kernel) fun p2 hp2 => (if_eqT rfl (by decide +kernel) ?_)))
    have e0 := (Same.new (.tup [V.str (Str.ofString "below"), V.str (Str.ofString "equals")]) hp).trans (Same.new (.tup [V.str (Str.ofString "domain"), V.str (Str.ofString "range")]) hp2)
    refine js3 ((gt_role (i := 1) rfl hs rfl hy (by omega)).mono e0) ((gt_role (i := 2) rfl hs rfl hc (by omega)).mono e0) (by omega) (by omega) (by decide +kernel) fun H' e => ?_
    exact q _ (e0.trans e)
  | inverse b c =>
    obtain ⟨a, y, z, rfl, hs, hy, hc⟩ := dp3 hd
    cases dp_str hy
    cases dp_str hc
    have hz2 : b.length + c.length + 40 ≤ 100000 := hz
    refine ⟨_, rfl, a, _, 0, _, rfl, rfl, hs, atI_nat (j := 0) rfl, ?_⟩
    refine if_in2F rfl (by decide +kernel) fun p hp => (if_eqF rfl (by decide +kernel) (if_in2F rfl (by decide +kernel) fun p2 hp2 => (if_eqF rfl (by decide +kernel) (if_eqT rfl (by decide +kernel) ?_))))
    have e0 := (Same.new (.tup [V.str (Str.ofString "below"), V.str (Str.ofString "equals")]) hp).trans (Same.new (.tup [V.str (Str.ofString "domain"), V.str (Str.ofString "range")]) hp2)
    refine js3 ((gt_item (i := 1) rfl hs rfl).mono e0) ((gt_item (i := 2) rfl hs rfl).mono e0) (by omega) (by omega) (by decide +kernel) fun H' e => ?_
    exact q _ (e0.trans e)
  | is b c =>
    obtain ⟨a, y, z, rfl, hs, hy, hc⟩ := dp3 hd
    cases dp_str hy
    have hz2 : b.length + c.sz + 40 ≤ 100000 := hz
    have hn2 : c.dp < n := hn
    have l1 := c.pr_len
    refine ⟨_, rfl, a, _, 0, _, rfl, rfl, hs, atI_nat (j := 0) rfl, ?_⟩
    refine if_in2F rfl (by decide +kernel) fun p hp => (if_eqF rfl (by decide +kernel) (if_in2F rfl (by decide +kernel) fun p2 hp2 => (if_eqF rfl (by decide +kernel) (if_eqF rfl (by decide +kernel) (if_eqT rfl (by decide +kernel) ?_)))))
    have e0 := (Same.new (.tup [V.str (Str.ofString "below"), V.str (Str.ofString "equals")]) hp).trans (Same.new (.tup [V.str (Str.ofString "domain"), V.str (Str.ofString "range")]) hp2)
    refine js3 ((gt_item (i := 1) rfl hs rfl).mono e0) ((gt_pc (i := 2) rfl hs rfl hc (by omega) (by omega)).mono e0) (by omega) (by omega) (by decide +kernel) fun H' e => ?_
    exact q _ (e0.trans e)
  | has b c d =>
    obtain ⟨a, y, z, w, rfl, hs, hy, hc, hw⟩ := dp4 hd
    cases dp_str hy
    cases dp_str hc
    cases dp_str hw
    have hz2 : b.length + c.length + d.length + 40 ≤ 100000 := hz
    refine ⟨_, rfl, a, _, 0, _, rfl, rfl, hs, atI_nat (j := 0) rfl, ?_⟩
    refine if_in2F rfl (by decide +kernel) fun p hp => (if_eqF rfl (by decide +kernel) (if_in2F rfl (by decide +kernel) fun p2 hp2 => (if_eqF rfl (by decide +kernel) (if_eqF rfl (by decide +kernel) (if_eqF rfl (by decide +kernel) ?_)))))
    have e0 := (Same.new (.tup [V.str (Str.ofString "below"), V.str (Str.ofString "equals")]) hp).trans (Same.new (.tup [V.str (Str.ofString "domain"), V.str (Str.ofString "range")]) hp2)
    refine ⟨⟨_, rfl⟩, _, rfl, 1, rfl, a, _, rfl, Same.seqT e0 hs, fun hfull => absurd hfull.1 (show ¬ (1 : Nat) = 0 by decide), fun _ p3 hp3 => ?_⟩
    refine ⟨_, p3, [T b, T c, T d], rfl, rfl, .inr (SqT.of upd_same), ?_, ?_⟩
    · have : (Str.ofString " ").length = 1 := by decide +kernel
      rw [this]
      show (T b).length + ((T c).length + ((T d).length + 0)) + 3 * 1 ≤ _
      rw [T_len, T_len, T_len]
      omega
    · rw [lit_T, show [T b, T c, T d] = [b, c, d].map T from rfl, join_T]
      have e3 := Same.new (.tup (cutV [V.str (Str.ofString "has"), .str (T b), .str (T c), .str (T d)] (some 1) none)) hp3
      have := q _ (e0.trans e3)
      simp only [Stm.pr, List.append_assoc] at this
      simp only [TL.joinL, List.append_assoc]
      exact this
def spPQ (K : PySem.W.Frag) (n : Nat) : Sp := fun vs H Q _ => ∃ (v : V) (s : Stm), vs = [v] ∧ Dp K H v s.D ∧ s.dp < n ∧ s.sz ≤ 100000 ∧ ∀ H', Same H H' → Q (.str (T s.pr)) H'
theorem stm_kind {H : Hp} {v : V} {s : Stm} (h : Dp K H v s.D) : ∃ a k r, v = .ref a ∧ SqT K H a (.str k :: r) ∧ (s = .never → k = Str.ofString "never") ∧ (s ≠ .never → decide (k = Str.ofString "never") = false) := by
  cases s with
  | never => obtain ⟨a, rfl, hs⟩ := dp1 h; exact ⟨a, _, _, rfl, hs, fun _ => rfl, fun z => absurd rfl z⟩
  | has b c d => obtain ⟨a, y, z, w, rfl, hs, _⟩ := dp4 h; exact ⟨a, _, _, rfl, hs, (fun z => nomatch z), fun _ => by decide +kernel⟩
  | below c d => obtain ⟨a, y, z, rfl, hs, _⟩ := dp3 h; exact ⟨a, _, _, rfl, hs, (fun z => nomatch z), fun _ => by decide +kernel⟩
  | equals c d => obtain ⟨a, y, z, rfl, hs, _⟩ := dp3 h; exact ⟨a, _, _, rfl, hs, (fun z => nomatch z), fun _ => by decide +kernel⟩
  | apart c d => obtain ⟨a, y, z, rfl, hs, _⟩ := dp3 h; exact ⟨a, _, _, rfl, hs, (fun z => nomatch z), fun _ => by decide +kernel⟩
  | domain c d => obtain ⟨a, y, z, rfl, hs, _⟩ := dp3 h; exact ⟨a, _, _, rfl, hs, (fun z => nomatch z), fun _ => by decide +kernel⟩
  | range c d => obtain ⟨a, y, z, rfl, hs, _⟩ := dp3 h; exact ⟨a, _, _, rfl, hs, (fun z => nomatch z), fun _ => by decide +kernel⟩
  | under c d => obtain ⟨a, y, z, rfl, hs, _⟩ := dp3 h; exact ⟨a, _, _, rfl, hs, (fun z => nomatch z), fun _ => by decide +kernel⟩
  | inverse c d => obtain ⟨a, y, z, rfl, hs, _⟩ := dp3 h; exact ⟨a, _, _, rfl, hs, (fun z => nomatch z), fun _ => by decide +kernel⟩
  | is c d => obtain ⟨a, y, z, rfl, hs, _⟩ := dp3 h; exact ⟨a, _, _, rfl, hs, (fun z => nomatch z), fun _ => by decide +kernel⟩
theorem c_print_question {n k : Nat} {f : Addr} {fd : FuncData} (D : Df K mg "print_question" s_print_question f fd ["question"]) (c_print_statement : Cl P w K mg base k "print_statement" (spPS K n)) : Cl P w K mg base (k + 1) "print_question" (spPQ K n) := by
  refine D.cl sc_print_question (fun vs H Q E h => ?_) (fun cdv A outer s H vs Q E hr h => ?_)
  · obtain ⟨v, s, rfl, _⟩ := h
    rfl
  obtain ⟨v, s, rfl, hd, hn, hz, q⟩ := h
  obtain ⟨a, k', r, rfl, hs, h1, h2⟩ := stm_kind hd
  refine ⟨_, (pss_cons (ps_if (pt_cmpR op_eq (pe_ix ix_tup (pv 0) pe_int (fun _ _ => rfl)) pe_str (nomark _)) (pss_one (ps_ret pe_str)) pss_nil)
      (pss_one (ps_ret (pc c_print_statement hr (by first | decide | omega) (by rfl) (pa_cons (pv 0) pa_nil))))), ?_⟩
  refine ⟨_, rfl, a, _, 0, .str k', rfl, rfl, hs, atI_nat (j := 0) rfl, rfl, _, rfl, ?_⟩
  by_cases hnv : s = .never
  · rw [decide_eq_true (congrArg V.str (h1 hnv))]
    refine iteT ?_
    have := q H (Same.refl _)
    rw [hnv] at this
    exact lit_T "never" ▸ this
  · rw [decide_eq_false (fun z => of_decide_eq_false (h2 hnv) (V.str.inj z))]
    exact iteF ⟨_, rfl, .ref a, s, rfl, hd, hn, hz, hnv, q⟩
/-- items of a source -/
inductive Itm where
  | decl (k : Nat) (ns : List (List Nat))
  | ax (n : List Nat) (s : Stm)
def dkey : Nat → String
  | 0 => "concepts"
  | 1 => "roles"
  | _ => "individuals"
def dword : Nat → String
  | 0 => "concept"
  | 1 => "role"
  | _ => "individual"
def namesD (ns : List (List Nat)) : PyData := .tuple (ns.map fun n => .str (T n))
def Itm.D : Itm → PyData
  | .decl k ns => .tuple [.str (Str.ofString (dkey k)), namesD ns]
  | .ax n s => .tuple [.str (Str.ofString "axiom"), .str (T n), s.D]
def Itm.pr : Itm → List Nat
  | .decl k ns => lit (dword k) ++ lit " " ++ TL.joinL (lit ", ") ns ++ lit ";"
  | .ax n s => lit "axiom " ++ n ++ lit ": " ++ s.pr ++ lit ";"
def Itm.dp : Itm → Nat
  | .decl _ _ => 0
  | .ax _ s => s.dp
def Itm.Sz : Itm → Prop
  | .decl k ns => k < 3 ∧ ns.length ≤ 100 ∧ ∀ n ∈ ns, n.length ≤ 100
  | .ax n s => n.length ≤ 1000 ∧ s.sz ≤ 10000 ∧ s ≠ .never
theorem joinL_len {S : List Nat} {m : Nat} : ∀ {ns : List (List Nat)}, (∀ n ∈ ns, n.length ≤ m) → (TL.joinL S ns).length ≤ ns.length * (m + S.length)
  | [], _ => Nat.zero_le _
  | [p], h => by
    show p.length ≤ 1 * (m + S.length)
    have := h p (List.mem_singleton.mpr rfl)
    omega
  | p :: q :: r, h => by
    have ih := joinL_len (S := S) (m := m) (ns := q :: r) fun n hn => h n (List.mem_cons_of_mem _ hn)
    have h1 := h p (List.mem_cons_self ..)
    show (p ++ (S ++ TL.joinL S (q :: r))).length ≤ ((q :: r).length + 1) * (m + S.length)
    rw [List.length_append, List.length_append, Nat.add_mul]
    omega
theorem dp_names {H : Hp} {v : V} {ns : List (List Nat)} (h : Dp K H v (namesD ns)) : ∃ a, v = .ref a ∧ SqT K H a ((ns.map T).map V.str) := by
  obtain ⟨a, xs, rfl, hs, hd⟩ := dp_tup h
  refine ⟨a, rfl, ?_⟩
  have : ∀ (ns : List (List Nat)) (xs : List V), DpAll K H xs (ns.map fun n => .str (T n)) → xs = (ns.map T).map V.str := by
    intro ns
    induction ns with
    | nil => exact fun xs h => da_nil h
    | cons n ns ih =>
      intro xs h
      obtain ⟨y, r, rfl, h1, h2⟩ := da_cons h
      rw [ih r h2, dp_str h1]
      rfl
  rw [← this ns xs hd]
  exact hs
def spItem (K : PySem.W.Frag) (n : Nat) : Sp := fun vs H Q _ => ∃ (v : V) (i : Itm), vs = [v] ∧ Dp K H v i.D ∧ i.dp < n ∧ i.Sz ∧ ∀ H', Same H H' → Q (.str (T i.pr)) H'
theorem sum_lens {m : Nat} : ∀ {ns : List (List Nat)}, (∀ n ∈ ns, n.length ≤ m) → ((ns.map T).map (·.length)).sum ≤ ns.length * m
  | [], _ => Nat.zero_le _
  | n :: ns, h => by
    have ih := sum_lens (ns := ns) fun k hk => h k (List.mem_cons_of_mem _ hk)
    have h1 := h n (List.mem_cons_self ..)
    rw [List.map_cons, List.map_cons, List.sum_cons, T_len, List.length_cons, Nat.add_mul]
    omega
theorem c_item {n k : Nat} {f : Addr} {fd : FuncData} {rD : Addr} (D : Df K mg "_item" s_item f fd ["item"]) (c_print_statement : Cl P w K mg base k "print_statement" (spPS K n)) (m_DECLARING : mg "DECLARING" = some (.ref rD)) (hD : ∀ p ∈ K_DECLARING, KDct K w rD p.1 (.str p.2)) : Cl P w K mg base (k + 1) "_item" (spItem K n) := by
  refine D.cl sc_item (fun vs H Q E h => ?_) (fun cdv A outer s H vs Q E hr h => ?_)
  · obtain ⟨v, i, rfl, _⟩ := h
    rfl
  obtain ⟨v, i, rfl, hd, hn, hz, q⟩ := h
  refine ⟨_, (pss_cons (ps_if (pt_cmpR op_eq (pe_ix ix_tup (pv 0) pe_int (fun _ _ => rfl)) pe_str (nomark _)) (pss_one (ps_ret (pe_joined (PJ.cons pe_str (PJ.cons (pe_fmt (pe_ix ix_tup (pv 0) pe_int (fun _ _ => rfl))) (PJ.cons pe_str (PJ.cons (pe_fmt (pc c_print_statement hr (by first | decide | omega) (by rfl) (pa_cons (pe_ix ix_tup (pv 0) pe_int (fun _ _ => rfl)) pa_nil))) (PJ.cons pe_str PJ.nil)))))))) pss_nil)
      (pss_cons (ps_set (i := 1) sc_item.nd rfl (.inl rfl) (pe_join pe_str (pe_ix ix_tup (pv 0) pe_int (fun _ _ => rfl))))
      (pss_one (ps_ret (pe_joined (PJ.cons (pe_fmt (pe_ix ix_kdict (pe_glob (v := .ref _) (by rfl) m_DECLARING rfl) (pe_ix ix_tup (pv 0) pe_int (fun _ _ => rfl)) (fun _ _ => rfl))) (PJ.cons pe_str (PJ.cons (pe_fmt (pv 1)) (PJ.cons pe_str PJ.nil))))))))), ?_⟩
  have l1 : (lit "axiom ").length = 6 := by decide +kernel
  have l2 : (lit ": ").length = 2 := by decide +kernel
  have l3 : (lit " ").length = 1 := by decide +kernel
  have l4 : (lit ", ").length = 2 := by decide +kernel
  cases i with
  | ax m st =>
    obtain ⟨a, y, z, rfl, hs, hy, hc⟩ := dp3 hd
    cases dp_str hy
    obtain ⟨z1, z2, z3⟩ := hz
    refine ⟨_, rfl, a, _, 0, _, rfl, rfl, hs, atI_nat (j := 0) rfl, rfl, _, rfl, ?_⟩
    rw [decide_eq_true rfl]
    refine iteT (js_0 (js_c (by decide +kernel) (by decide) ?_))
    have lm := st.pr_len
    refine js_e (b := m) (fun R hR => ⟨_, rfl, a, _, 1, _, rfl, rfl, hs, atI_nat (j := 1) rfl, hR _ (Same.refl _)⟩) (by omega) (by rw [List.nil_append]; omega) fun H1 e1 => js_c (by decide +kernel) (by rw [List.nil_append, List.length_append]; omega) ?_
    refine js_e (b := st.pr) (fun R hR => ⟨_, rfl, a, _, 2, _, rfl, rfl, Same.seqT e1 hs, atI_nat (j := 2) rfl, z, st, rfl, Dp.same e1 hc, hn, by omega, z3, hR⟩) (by omega) (by rw [List.nil_append, List.length_append, List.length_append]; omega) fun H2 e2 => js_c (by decide +kernel) (by rw [List.nil_append, List.length_append, List.length_append, List.length_append]; omega) (js_end ?_)
    exact q _ (e1.trans e2)
  | decl kk ns =>
    obtain ⟨a, y, rfl, hs, hy⟩ := dp2 hd
    obtain ⟨b, rfl, hb⟩ := dp_names hy
    obtain ⟨z1, z2, z3⟩ := hz
    refine ⟨_, rfl, a, _, 0, _, rfl, rfl, hs, atI_nat (j := 0) rfl, rfl, _, rfl, ?_⟩
    have hk0 : decide (V.str (Str.ofString (dkey kk)) = V.str (Str.ofString "axiom")) = false := by
      obtain rfl | rfl | rfl : kk = 0 ∨ kk = 1 ∨ kk = 2 := by omega
      all_goals exact decide_eq_false (fun z => absurd (V.str.inj z) (by decide +kernel))
    rw [hk0]
    refine iteF ?_
    refine ⟨⟨_, rfl⟩, _, rfl, a, _, 1, _, rfl, rfl, hs, atI_nat (j := 1) rfl, _, b, ns.map T, rfl, rfl, .inr hb, ?_, ?_⟩
    · have := sum_lens z3
      have e : (Str.ofString ", ").length = 2 := by decide +kernel
      rw [e, List.length_map]
      have : ns.length * 100 ≤ 100 * 100 := Nat.mul_le_mul_right _ z2
      omega
    have lj : (TL.joinL (lit ", ") ns).length ≤ 10200 := by
      have := joinL_len (S := lit ", ") z3
      rw [l4] at this
      have : ns.length * 102 ≤ 100 * 102 := Nat.mul_le_mul_right _ z2
      omega
    rw [lit_T ", ", join_T]
    have hkk : ∃ p ∈ K_DECLARING, p.1 = Str.ofString (dkey kk) ∧ p.2 = Str.ofString (dword kk) := by
      obtain rfl | rfl | rfl : kk = 0 ∨ kk = 1 ∨ kk = 2 := by omega
      · exact ⟨_, List.mem_cons_self .., rfl, rfl⟩
      · exact ⟨_, List.mem_cons_of_mem _ (List.mem_cons_self ..), rfl, rfl⟩
      · exact ⟨_, List.mem_cons_of_mem _ (List.mem_cons_of_mem _ (List.mem_cons_self ..)), rfl, rfl⟩
    obtain ⟨p, hp, p1, p2⟩ := hkk
    have hK := hD p hp
    rw [p1, p2] at hK
    have ld : decide ((lit (dword kk)).length ≤ 20) = true := by
      obtain rfl | rfl | rfl : kk = 0 ∨ kk = 1 ∨ kk = 2 := by omega
      all_goals decide +kernel
    have ld2 := of_decide_eq_true ld
    refine js_0 (js_e (b := lit (dword kk)) (fun R hR => ⟨_, rfl, a, _, 0, _, rfl, rfl, hs, atI_nat (j := 0) rfl, _, _, _, rfl, rfl, hK, lit_T (dword kk) ▸ hR _ (Same.refl _)⟩) (by omega) (by decide) fun H1 e1 => js_c (by decide +kernel) (by rw [List.nil_append]; omega) ?_)
    refine js_e (b := TL.joinL (lit ", ") ns) (fun R hR => ⟨_, rfl, hR _ (Same.refl _)⟩) (by omega) (by rw [List.nil_append, List.length_append]; omega) fun H2 e2 => js_c (by decide +kernel) (by rw [List.nil_append, List.length_append, List.length_append]; omega) (js_end ?_)
    exact q _ (e1.trans e2)
theorem c_law_say_role {f : Addr} {fd : FuncData} (D : Df K mg "_law_say_role" s_law_say_role f fd ["role"]) : Cl P w K mg base 1 "_law_say_role" (spRole K) := by
  refine D.cl sc_law_say_role (fun vs H Q E h => ?_) (fun cdv A outer s H vs Q E hr h => ?_)
  · obtain ⟨v, r, rfl, _⟩ := h
    rfl
  obtain ⟨v, r, rfl, hd, hl, q⟩ := h
  obtain ⟨a, rfl, hs⟩ := dpRol hd
  refine ⟨_, (pss_cons (ps_if (pt_val (pe_ix ix_tup (pv 0) pe_int (fun _ _ => rfl))) (pss_one (ps_ret (pe_op op_add_str pe_str (pe_ix ix_tup (pv 0) pe_int (fun _ _ => rfl))))) pss_nil)
      (pss_one (ps_ret (pe_ix ix_tup (pv 0) pe_int (fun _ _ => rfl))))), ?_⟩
  refine ⟨_, rfl, a, _, 1, .bl r.2, rfl, rfl, hs, atI_nat (j := 1) rfl, r.2, rfl, ?_⟩
  unfold rolT at q
  cases h2 : r.2 with
  | true =>
    rw [h2] at q
    exact iteT (gt_ret (gt_add (gt_c "inverse ") (gt_item (i := 0) rfl hs rfl) (by decide +kernel) (by omega)) q)
  | false =>
    rw [h2] at q
    exact iteF ⟨_, rfl, a, _, 0, _, rfl, rfl, hs, atI_nat (j := 0) rfl, q _ (Same.refl _)⟩
def spSay (K : PySem.W.Frag) (n : Nat) : Sp := fun vs H Q _ => ∃ (v : V) (c : Con) (k : Nat), vs = [v, .int ((k : Int) + 1)] ∧ Dp K H v c.D ∧ c.dp < n ∧ c.sz ≤ 100000 ∧ ∀ H', Same H H' → Q (.str (T (wrap (decide (c.rk < k)) c.pr))) H'
theorem gt_say {n : Nat} {σ : L2.St} {H : Hp} {j : Nat} {a : Addr} {xs : List V} {i k : Nat} {y : V} {c : Con} (hσ : σ[j]? = some (some (.ref a))) (hs : SqT K H a xs) (hi : xs[i]? = some y) (hd : Dp K H y c.D) (hn : c.dp < n) (hz : c.sz ≤ 100000) : GT (tCall (spSay K n) [] E0 (tCons (tOp (rIxT K) (tVar j) (tC (.int (i : Int)))) (tCons (tC (.int ((k : Int) + 1))) tNil))) σ H (wrap (decide (c.rk < k)) c.pr) :=
  fun H1 e R r => ⟨_, hσ, a, _, _, _, rfl, rfl, Same.seqT e hs, atI_nat hi, y, c, k, rfl, Dp.same e hd, hn, hz, r⟩
theorem gt_sayR {σ : L2.St} {H : Hp} {j : Nat} {a : Addr} {xs : List V} {i : Nat} {y : V} {r : Rol} (hσ : σ[j]? = some (some (.ref a))) (hs : SqT K H a xs) (hi : xs[i]? = some y) (hd : Dp K H y (rolD r)) (hz : r.1.length ≤ 100000) : GT (tCall (spRole K) [] E0 (tCons (tOp (rIxT K) (tVar j) (tC (.int (i : Int)))) tNil)) σ H (rolT r) := gt_role hσ hs hi hd hz
theorem and_lit : lit " and " = lit " " ++ lit "and" ++ lit " " := by decide +kernel
theorem or_lit : lit " or " = lit " " ++ lit "or" ++ lit " " := by decide +kernel
local macro_rules | `(tactic| walk_at "ln") => `(tactic| first | omega | (simp only [List.length_append]; omega) | decide +kernel)
theorem kdx {x s t : Str} {b : Bool} (h : x = s) (d : decide (s = t) = b) : decide (x = t) = b := by
  rw [← d]
  subst h
  rfl
theorem kdx2 {x s t t' : Str} {b : Bool} (h : x = s) (d : (decide (s = t) || decide (s = t')) = b) : (decide (x = t) || decide (x = t')) = b := by
  rw [← d]
  subst h
  rfl
theorem c_law_say {f : Addr} {fd : FuncData} (D : Df K mg "_law_say" s_law_say f fd ["concept", "least"]) (c_law_say_role : Cl P w K mg base 1 "_law_say_role" (spRole K)) : ∀ n : Nat, Cl P w K mg base (n + 2) "_law_say" (spSay K n)
  | 0 => by
    refine D.cl sc_law_say (fun vs H Q E h => ?_) (fun cdv A outer s H vs Q E hr h => ?_)
    · obtain ⟨v, c, k, rfl, _⟩ := h
      rfl
    · obtain ⟨v, c, k, _, _, hn, _⟩ := h
      exact absurd hn (Nat.not_lt_zero _)
  | n + 1 => by
    have c_law_say := c_law_say D c_law_say_role n
    refine D.cl sc_law_say (fun vs H Q E h => ?_) (fun cdv A outer s H vs Q E hr h => ?_)
    · obtain ⟨v, c, k, rfl, _⟩ := h
      rfl
    obtain ⟨v, c, k, rfl, hd, hn, hz, q⟩ := h
    refine ⟨_, (pss_cons (ps_set (i := 2) sc_law_say.nd rfl (.inl rfl) (pe_ix ix_tup (pv 0) pe_int (fun _ _ => rfl)))
      (pss_cons (ps_set (i := 3) sc_law_say.nd rfl (.inl rfl) (pv 2))
      (pss_cons (ps_set (i := 4) sc_law_say.nd rfl (.inl rfl) pe_int)
      (Evl.pss_cut (ps_if (pt_cmpR op_eq (pv 2) pe_str (nomark _)) (pss_one (ps_set (i := 3) sc_law_say.nd rfl (.inl rfl) (pe_ix ix_tup (pv 0) pe_int (fun _ _ => rfl)))) (pss_one (ps_if (pt_cmpR op_eq (pv 2) pe_str (nomark _)) (pss_one (ps_set (i := 3) sc_law_say.nd rfl (.inl rfl) (pe_op op_add_str pe_str (pc c_law_say hr (by first | decide | omega) (by rfl) (pa_cons (pe_ix ix_tup (pv 0) pe_int (fun _ _ => rfl)) (pa_cons pe_int pa_nil)))))) (pss_one (ps_if (PW.pt (pw_or (pt_cmpR op_eq (pv 2) pe_str (nomark _)) (pw_or1 (pt_cmpR op_eq (pv 2) pe_str (nomark _))))) (pss_one (ps_set (i := 3) sc_law_say.nd rfl (.inl rfl) (pe_op op_add_str (pe_op op_add_str (pe_op op_add_str (pe_op op_add_str (pv 2) pe_str) (pc c_law_say_role hr (by first | decide | omega) (by rfl) (pa_cons (pe_ix ix_tup (pv 0) pe_int (fun _ _ => rfl)) pa_nil))) pe_str) (pc c_law_say hr (by first | decide | omega) (by rfl) (pa_cons (pe_ix ix_tup (pv 0) pe_int (fun _ _ => rfl)) (pa_cons pe_int pa_nil)))))) (pss_one (ps_if (pt_cmpR op_eq (pv 2) pe_str (nomark _)) (pss_cons (ps_set (i := 3) sc_law_say.nd rfl (.inl rfl) (pe_op op_add_str (pe_op op_add_str (pc c_law_say hr (by first | decide | omega) (by rfl) (pa_cons (pe_ix ix_tup (pv 0) pe_int (fun _ _ => rfl)) (pa_cons pe_int pa_nil))) pe_str) (pc c_law_say hr (by first | decide | omega) (by rfl) (pa_cons (pe_ix ix_tup (pv 0) pe_int (fun _ _ => rfl)) (pa_cons pe_int pa_nil)))))
      (pss_one (ps_set (i := 4) sc_law_say.nd rfl (.inl rfl) pe_int))) (pss_one (ps_if (pt_cmpR op_eq (pv 2) pe_str (nomark _)) (pss_cons (ps_set (i := 3) sc_law_say.nd rfl (.inl rfl) (pe_op op_add_str (pe_op op_add_str (pc c_law_say hr (by first | decide | omega) (by rfl) (pa_cons (pe_ix ix_tup (pv 0) pe_int (fun _ _ => rfl)) (pa_cons pe_int pa_nil))) pe_str) (pc c_law_say hr (by first | decide | omega) (by rfl) (pa_cons (pe_ix ix_tup (pv 0) pe_int (fun _ _ => rfl)) (pa_cons pe_int pa_nil)))))
      (pss_one (ps_set (i := 4) sc_law_say.nd rfl (.inl rfl) pe_int))) pss_nil)))))))))
      (pss_cons (ps_if (pt_cmpR op_lt (pv 4) (pv 1) (nomark _)) (pss_one (ps_ret (pe_op op_add_str (pe_op op_add_str pe_str (pv 3)) pe_str))) pss_nil)
      (pss_one (ps_ret (pv 3)))))))), ?_⟩
    obtain ⟨a, r, rfl, hs⟩ := con_kind hd
    refine ⟨_, rfl, a, _, 0, _, rfl, rfl, hs, atI_nat (j := 0) rfl, ?_⟩
    refine ⟨_, rfl, ?_⟩
    refine ⟨fun σ' H' => σ' = [some (.ref a), some (.int ((k : Int) + 1)), some (.str c.kd), some (.str (T c.pr)), some (.int ((c.rk : Int) + 1))] ∧ Same H H', ?_, ?_⟩
    · have L1 : (lit "not ").length = 4 := by decide +kernel
      have L2 : (lit " ").length = 1 := by decide +kernel
      have L3 : (lit "some").length = 4 := by decide +kernel
      have L4 : (lit "all").length = 3 := by decide +kernel
      have L5 : (lit " and ").length = 5 := by decide +kernel
      have L6 : (lit " or ").length = 4 := by decide +kernel
      cases c with
      | any => exact if_eqF rfl (kdx (s := Str.ofString "anything") rfl (by decide +kernel)) (if_eqF rfl (kdx (s := Str.ofString "anything") rfl (by decide +kernel)) (if_eq2F rfl (kdx2 (s := Str.ofString "anything") rfl (by decide +kernel)) (if_eqF rfl (kdx (s := Str.ofString "anything") rfl (by decide +kernel)) (if_eqF rfl (kdx (s := Str.ofString "anything") rfl (by decide +kernel)) ⟨by rw [show Con.any.pr = lit "anything" from rfl, ← lit_T]; rfl, Same.refl _⟩))))
      | nothing => exact if_eqF rfl (kdx (s := Str.ofString "nothing") rfl (by decide +kernel)) (if_eqF rfl (kdx (s := Str.ofString "nothing") rfl (by decide +kernel)) (if_eq2F rfl (kdx2 (s := Str.ofString "nothing") rfl (by decide +kernel)) (if_eqF rfl (kdx (s := Str.ofString "nothing") rfl (by decide +kernel)) (if_eqF rfl (kdx (s := Str.ofString "nothing") rfl (by decide +kernel)) ⟨by rw [show Con.nothing.pr = lit "nothing" from rfl, ← lit_T]; rfl, Same.refl _⟩))))
      | name s =>
        obtain ⟨a', y, e, hs', hy⟩ := dp2 hd
        cases V.ref.inj e
        cases dp_str hy
        exact if_eqT rfl (kdx (s := Str.ofString "name") rfl (by decide +kernel)) ⟨_, rfl, a, _, 1, _, rfl, rfl, hs', atI_nat (j := 1) rfl, rfl, Same.refl _⟩
      | not c =>
        obtain ⟨a', y, e, hs', hy⟩ := dp2 hd
        cases V.ref.inj e
        have hn2 : c.dp < n := Nat.lt_of_succ_lt_succ hn
        have hz2 : c.sz + 20 ≤ 100000 := hz
        have l1 := c.pr_len
        have l2 := wrap_len (decide (c.rk < 2)) c.pr
        exact if_eqF rfl (kdx (s := Str.ofString "not") rfl (by decide +kernel)) (if_eqT rfl (kdx (s := Str.ofString "not") rfl (by decide +kernel)) (gt_set (gt_add (gt_c "not ") (gt_say (i := 1) (k := 2) rfl hs' rfl hy hn2 (by omega)) (by walk_at "ln") (by walk_at "ln")) fun H' e => ⟨rfl, e⟩))
      | some ro c =>
        obtain ⟨a', y, z, e, hs', hy, hc⟩ := dp3 hd
        cases V.ref.inj e
        have hn2 : c.dp < n := Nat.lt_of_succ_lt_succ hn
        have hz2 : ro.1.length + c.sz + 40 ≤ 100000 := hz
        have l1 := c.pr_len
        have l2 := wrap_len (decide (c.rk < 2)) c.pr
        have l3 := rolT_len ro
        exact if_eqF rfl (kdx (s := Str.ofString "some") rfl (by decide +kernel)) (if_eqF rfl (kdx (s := Str.ofString "some") rfl (by decide +kernel)) (if_eq2T rfl (kdx2 (s := Str.ofString "some") rfl (by decide +kernel)) (gt_set (gt_add (gt_add (gt_add (gt_add (gt_varL (s := "some") rfl) (gt_c " ") (by walk_at "ln") (by walk_at "ln")) (gt_sayR (i := 1) rfl hs' rfl hy (by omega)) (by walk_at "ln") (by walk_at "ln")) (gt_c " ") (by walk_at "ln") (by walk_at "ln")) (gt_say (i := 2) (k := 2) rfl hs' rfl hc hn2 (by omega)) (by walk_at "ln") (by walk_at "ln")) fun H' e => ⟨rfl, e⟩)))
      | all ro c =>
        obtain ⟨a', y, z, e, hs', hy, hc⟩ := dp3 hd
        cases V.ref.inj e
        have hn2 : c.dp < n := Nat.lt_of_succ_lt_succ hn
        have hz2 : ro.1.length + c.sz + 40 ≤ 100000 := hz
        have l1 := c.pr_len
        have l2 := wrap_len (decide (c.rk < 2)) c.pr
        have l3 := rolT_len ro
        exact if_eqF rfl (kdx (s := Str.ofString "all") rfl (by decide +kernel)) (if_eqF rfl (kdx (s := Str.ofString "all") rfl (by decide +kernel)) (if_eq2T rfl (kdx2 (s := Str.ofString "all") rfl (by decide +kernel)) (gt_set (gt_add (gt_add (gt_add (gt_add (gt_varL (s := "all") rfl) (gt_c " ") (by walk_at "ln") (by walk_at "ln")) (gt_sayR (i := 1) rfl hs' rfl hy (by omega)) (by walk_at "ln") (by walk_at "ln")) (gt_c " ") (by walk_at "ln") (by walk_at "ln")) (gt_say (i := 2) (k := 2) rfl hs' rfl hc hn2 (by omega)) (by walk_at "ln") (by walk_at "ln")) fun H' e => ⟨rfl, e⟩)))
      | both c d =>
        obtain ⟨a', y, z, e, hs', hy, hc⟩ := dp3 hd
        cases V.ref.inj e
        have hn1 : c.dp < n := by have : max c.dp d.dp + 1 < n + 1 := hn; omega
        have hn2 : d.dp < n := by have : max c.dp d.dp + 1 < n + 1 := hn; omega
        have hz2 : c.sz + d.sz + 20 ≤ 100000 := hz
        have l1 := c.pr_len
        have l2 := d.pr_len
        have l3 := wrap_len (decide (c.rk < 1)) c.pr
        have l4 := wrap_len (decide (d.rk < 2)) d.pr
        refine if_eqF rfl (kdx (s := Str.ofString "and") rfl (by decide +kernel)) (if_eqF rfl (kdx (s := Str.ofString "and") rfl (by decide +kernel)) (if_eq2F rfl (kdx2 (s := Str.ofString "and") rfl (by decide +kernel)) (if_eqT rfl (kdx (s := Str.ofString "and") rfl (by decide +kernel)) (gt_set (gt_add (gt_add (gt_say (i := 1) (k := 1) rfl hs' rfl hy hn1 (by omega)) (gt_c " and ") (by walk_at "ln") (by walk_at "ln")) (gt_say (i := 2) (k := 2) rfl hs' rfl hc hn2 (by omega)) (by walk_at "ln") (by walk_at "ln")) fun H' e => ⟨?_, e⟩))))
        rw [and_lit, show wrap (decide (c.rk < 1)) c.pr ++ (lit " " ++ lit "and" ++ lit " ") ++ wrap (decide (d.rk < 2)) d.pr = (Con.both c d).pr by simp only [Con.pr, List.append_assoc]]
        rfl
      | either c d =>
        obtain ⟨a', y, z, e, hs', hy, hc⟩ := dp3 hd
        cases V.ref.inj e
        have hn1 : c.dp < n := by have : max c.dp d.dp + 1 < n + 1 := hn; omega
        have hn2 : d.dp < n := by have : max c.dp d.dp + 1 < n + 1 := hn; omega
        have hz2 : c.sz + d.sz + 20 ≤ 100000 := hz
        have l1 := c.pr_len
        have l2 := d.pr_len
        have l3 := wrap_len (decide (c.rk < 0)) c.pr
        have l4 := wrap_len (decide (d.rk < 1)) d.pr
        refine if_eqF rfl (kdx (s := Str.ofString "or") rfl (by decide +kernel)) (if_eqF rfl (kdx (s := Str.ofString "or") rfl (by decide +kernel)) (if_eq2F rfl (kdx2 (s := Str.ofString "or") rfl (by decide +kernel)) (if_eqF rfl (kdx (s := Str.ofString "or") rfl (by decide +kernel)) (if_eqT rfl (kdx (s := Str.ofString "or") rfl (by decide +kernel)) (gt_set (gt_add (gt_add (gt_say (i := 1) (k := 0) rfl hs' rfl hy hn1 (by omega)) (gt_c " or ") (by walk_at "ln") (by walk_at "ln")) (gt_say (i := 2) (k := 1) rfl hs' rfl hc hn2 (by omega)) (by walk_at "ln") (by walk_at "ln")) fun H' e => ⟨?_, e⟩)))))
        rw [or_lit, show wrap (decide (c.rk < 0)) c.pr ++ (lit " " ++ lit "or" ++ lit " ") ++ wrap (decide (d.rk < 1)) d.pr = (Con.either c d).pr by simp only [Con.pr, List.append_assoc]]
        rfl
    · rintro _ H' ⟨rfl, e⟩
      have L1 : (lit "(").length = 1 := by decide +kernel
      have L2 : (lit ")").length = 1 := by decide +kernel
      have l1 := c.pr_len
      refine ⟨_, rfl, _, rfl, _, _, rfl, rfl, _, rfl, ?_⟩
      rw [show decide ((c.rk : Int) + 1 < (k : Int) + 1) = decide (c.rk < k) from decide_eq_decide.mpr (by omega)]
      unfold wrap at q
      cases hb : decide (c.rk < k) with
      | true =>
        rw [hb] at q
        exact iteT (gt_ret (gt_add (gt_add (gt_c "(") (gt_var (i := 3) rfl) (by walk_at "ln") (by walk_at "ln")) (gt_c ")") (by walk_at "ln") (by walk_at "ln")) fun H2 e2 => q _ (e.trans e2))
      | false =>
        rw [hb] at q
        exact iteF ⟨_, rfl, q _ e⟩
theorem gt_say0 {n : Nat} {σ : L2.St} {H : Hp} {j : Nat} {a : Addr} {xs : List V} {i : Nat} {y : V} {c : Con} (hσ : σ[j]? = some (some (.ref a))) (hs : SqT K H a xs) (hi : xs[i]? = some y) (hd : Dp K H y c.D) (hn : c.dp < n) (hz : c.sz ≤ 100000) : GT (tCall (spSay K n) [] E0 (tCons (tOp (rIxT K) (tVar j) (tC (.int (i : Int)))) (tCons (tC (.int 1)) tNil))) σ H c.pr := by
  have := gt_say (K := K) (n := n) (k := 0) hσ hs hi hd hn hz
  rw [decide_eq_false (Nat.not_lt_zero _)] at this
  exact this
def spSays (K : PySem.W.Frag) (n : Nat) : Sp := fun vs H Q _ => ∃ (v : V) (s : Stm), vs = [v] ∧ Dp K H v s.D ∧ s.dp < n ∧ s.sz ≤ 100000 ∧ ∀ H', Same H H' → Q (.str (T s.pr)) H'
theorem c_law_says {n k : Nat} (hk : 1 ≤ k) {f : Addr} {fd : FuncData} (D : Df K mg "_law_says" s_law_says f fd ["tree"]) (c_law_say : Cl P w K mg base k "_law_say" (spSay K n)) (c_law_say_role : Cl P w K mg base 1 "_law_say_role" (spRole K)) : Cl P w K mg base (k + 1) "_law_says" (spSays K n) := by
  refine D.cl sc_law_says (fun vs H Q E h => ?_) (fun cdv A outer s H vs Q E hr h => ?_)
  · obtain ⟨v, s, rfl, _⟩ := h
    rfl
  obtain ⟨v, s, rfl, hd, hn, hz, q⟩ := h
  refine ⟨_, (pss_cons (ps_set (i := 1) sc_law_says.nd rfl (.inl rfl) (pe_ix ix_tup (pv 0) pe_int (fun _ _ => rfl)))
      (pss_cons (ps_if (PW.pt (pw_or (pt_cmpR op_eq (pv 1) pe_str (nomark _)) (pw_or1 (pt_cmpR op_eq (pv 1) pe_str (nomark _))))) (pss_one (ps_ret (pe_op op_add_str (pe_op op_add_str (pe_op op_add_str (pe_op op_add_str (pc c_law_say hr (by first | decide | omega) (by rfl) (pa_cons (pe_ix ix_tup (pv 0) pe_int (fun _ _ => rfl)) (pa_cons pe_int pa_nil))) pe_str) (pv 1)) pe_str) (pc c_law_say hr (by first | decide | omega) (by rfl) (pa_cons (pe_ix ix_tup (pv 0) pe_int (fun _ _ => rfl)) (pa_cons pe_int pa_nil)))))) pss_nil)
      (pss_cons (ps_if (pt_cmpR op_eq (pv 1) pe_str (nomark _)) (pss_one (ps_ret (pe_op op_add_str (pe_op op_add_str (pe_op op_add_str (pc c_law_say hr (by first | decide | omega) (by rfl) (pa_cons (pe_ix ix_tup (pv 0) pe_int (fun _ _ => rfl)) (pa_cons pe_int pa_nil))) pe_str) (pc c_law_say hr (by first | decide | omega) (by rfl) (pa_cons (pe_ix ix_tup (pv 0) pe_int (fun _ _ => rfl)) (pa_cons pe_int pa_nil)))) pe_str))) pss_nil)
      (pss_cons (ps_if (PW.pt (pw_or (pt_cmpR op_eq (pv 1) pe_str (nomark _)) (pw_or1 (pt_cmpR op_eq (pv 1) pe_str (nomark _))))) (pss_one (ps_ret (pe_op op_add_str (pe_op op_add_str (pe_op op_add_str (pe_op op_add_str (pv 1) pe_str) (pc c_law_say_role hr (by first | decide | omega) (by rfl) (pa_cons (pe_ix ix_tup (pv 0) pe_int (fun _ _ => rfl)) pa_nil))) pe_str) (pc c_law_say hr (by first | decide | omega) (by rfl) (pa_cons (pe_ix ix_tup (pv 0) pe_int (fun _ _ => rfl)) (pa_cons pe_int pa_nil)))))) pss_nil)
      (pss_cons (ps_if (pt_cmpR op_eq (pv 1) pe_str (nomark _)) (pss_one (ps_ret (pe_op op_add_str (pe_op op_add_str (pc c_law_say_role hr (by first | decide | omega) (by rfl) (pa_cons (pe_ix ix_tup (pv 0) pe_int (fun _ _ => rfl)) pa_nil)) pe_str) (pc c_law_say_role hr (by first | decide | omega) (by rfl) (pa_cons (pe_ix ix_tup (pv 0) pe_int (fun _ _ => rfl)) pa_nil))))) pss_nil)
      (pss_cons (ps_if (pt_cmpR op_eq (pv 1) pe_str (nomark _)) (pss_one (ps_ret (pe_op op_add_str (pe_op op_add_str (pe_ix ix_tup (pv 0) pe_int (fun _ _ => rfl)) pe_str) (pe_ix ix_tup (pv 0) pe_int (fun _ _ => rfl))))) pss_nil)
      (pss_cons (ps_if (pt_cmpR op_eq (pv 1) pe_str (nomark _)) (pss_one (ps_ret (pe_op op_add_str (pe_op op_add_str (pe_ix ix_tup (pv 0) pe_int (fun _ _ => rfl)) pe_str) (pc c_law_say hr (by first | decide | omega) (by rfl) (pa_cons (pe_ix ix_tup (pv 0) pe_int (fun _ _ => rfl)) (pa_cons pe_int pa_nil)))))) pss_nil)
      (pss_cons (ps_if (pt_cmpR op_eq (pv 1) pe_str (nomark _)) (pss_one (ps_ret (pe_op op_add_str (pe_op op_add_str (pe_op op_add_str (pe_op op_add_str (pe_ix ix_tup (pv 0) pe_int (fun _ _ => rfl)) pe_str) (pe_ix ix_tup (pv 0) pe_int (fun _ _ => rfl))) pe_str) (pe_ix ix_tup (pv 0) pe_int (fun _ _ => rfl))))) pss_nil)
      (pss_one (ps_ret pe_str)))))))))), ?_⟩
  have L1 : (lit " ").length = 1 := by decide +kernel
  have L2 : (lit "below").length = 5 := by decide +kernel
  have L3 : (lit "equals").length = 6 := by decide +kernel
  have L4 : (lit ", ").length = 2 := by decide +kernel
  have L5 : (lit " apart").length = 6 := by decide +kernel
  have L6 : (lit "domain").length = 6 := by decide +kernel
  have L7 : (lit "range").length = 5 := by decide +kernel
  have L8 : (lit " under ").length = 7 := by decide +kernel
  have L9 : (lit " inverse ").length = 9 := by decide +kernel
  have L10 : (lit " is ").length = 4 := by decide +kernel
  cases s with
  | below c d =>
    obtain ⟨a, y, z, rfl, hs, hy, hc⟩ := dp3 hd
    have hz2 : c.sz + d.sz + 40 ≤ 100000 := hz
    have hn2 : max c.dp d.dp < n := hn
    have l1 := c.pr_len
    have l2 := d.pr_len
    refine ⟨_, rfl, a, _, 0, _, rfl, rfl, hs, atI_nat (j := 0) rfl, ?_⟩
    exact if_eq2T rfl (by decide +kernel) (gt_ret (gt_add (gt_add (gt_add (gt_add (gt_say0 (i := 1) rfl hs rfl hy (by omega) (by omega)) (gt_c " ") (by walk_at "ln") (by walk_at "ln")) (gt_varL rfl) (by walk_at "ln") (by walk_at "ln")) (gt_c " ") (by walk_at "ln") (by walk_at "ln")) (gt_say0 (i := 2) rfl hs rfl hc (by omega) (by omega)) (by walk_at "ln") (by walk_at "ln")) q)
  | equals c d =>
    obtain ⟨a, y, z, rfl, hs, hy, hc⟩ := dp3 hd
    have hz2 : c.sz + d.sz + 40 ≤ 100000 := hz
    have hn2 : max c.dp d.dp < n := hn
    have l1 := c.pr_len
    have l2 := d.pr_len
    refine ⟨_, rfl, a, _, 0, _, rfl, rfl, hs, atI_nat (j := 0) rfl, ?_⟩
    exact if_eq2T rfl (by decide +kernel) (gt_ret (gt_add (gt_add (gt_add (gt_add (gt_say0 (i := 1) rfl hs rfl hy (by omega) (by omega)) (gt_c " ") (by walk_at "ln") (by walk_at "ln")) (gt_varL rfl) (by walk_at "ln") (by walk_at "ln")) (gt_c " ") (by walk_at "ln") (by walk_at "ln")) (gt_say0 (i := 2) rfl hs rfl hc (by omega) (by omega)) (by walk_at "ln") (by walk_at "ln")) q)
  | apart c d =>
    obtain ⟨a, y, z, rfl, hs, hy, hc⟩ := dp3 hd
    have hz2 : c.sz + d.sz + 40 ≤ 100000 := hz
    have hn2 : max c.dp d.dp < n := hn
    have l1 := c.pr_len
    have l2 := d.pr_len
    refine ⟨_, rfl, a, _, 0, _, rfl, rfl, hs, atI_nat (j := 0) rfl, ?_⟩
    exact if_eq2F rfl (by decide +kernel) (if_eqT rfl (by decide +kernel) (gt_ret (gt_add (gt_add (gt_add (gt_say0 (i := 1) rfl hs rfl hy (by omega) (by omega)) (gt_c ", ") (by walk_at "ln") (by walk_at "ln")) (gt_say0 (i := 2) rfl hs rfl hc (by omega) (by omega)) (by walk_at "ln") (by walk_at "ln")) (gt_c " apart") (by walk_at "ln") (by walk_at "ln")) q))
  | domain ro c =>
    obtain ⟨a, y, z, rfl, hs, hy, hc⟩ := dp3 hd
    have hz2 : ro.1.length + c.sz + 40 ≤ 100000 := hz
    have hn2 : c.dp < n := hn
    have l1 := c.pr_len
    have l2 := rolT_len ro
    refine ⟨_, rfl, a, _, 0, _, rfl, rfl, hs, atI_nat (j := 0) rfl, ?_⟩
    exact if_eq2F rfl (by decide +kernel) (if_eqF rfl (by decide +kernel) (if_eq2T rfl (by decide +kernel) (gt_ret (gt_add (gt_add (gt_add (gt_add (gt_varL (s := "domain") rfl) (gt_c " ") (by walk_at "ln") (by walk_at "ln")) (gt_sayR (i := 1) rfl hs rfl hy (by omega)) (by walk_at "ln") (by walk_at "ln")) (gt_c " ") (by walk_at "ln") (by walk_at "ln")) (gt_say0 (i := 2) rfl hs rfl hc (by omega) (by omega)) (by walk_at "ln") (by walk_at "ln")) q)))
  | range ro c =>
    obtain ⟨a, y, z, rfl, hs, hy, hc⟩ := dp3 hd
    have hz2 : ro.1.length + c.sz + 40 ≤ 100000 := hz
    have hn2 : c.dp < n := hn
    have l1 := c.pr_len
    have l2 := rolT_len ro
    refine ⟨_, rfl, a, _, 0, _, rfl, rfl, hs, atI_nat (j := 0) rfl, ?_⟩
    exact if_eq2F rfl (by decide +kernel) (if_eqF rfl (by decide +kernel) (if_eq2T rfl (by decide +kernel) (gt_ret (gt_add (gt_add (gt_add (gt_add (gt_varL (s := "range") rfl) (gt_c " ") (by walk_at "ln") (by walk_at "ln")) (gt_sayR (i := 1) rfl hs rfl hy (by omega)) (by walk_at "ln") (by walk_at "ln")) (gt_c " ") (by walk_at "ln") (by walk_at "ln")) (gt_say0 (i := 2) rfl hs rfl hc (by omega) (by omega)) (by walk_at "ln") (by walk_at "ln")) q)))
  | under ro r2 =>
    obtain ⟨a, y, z, rfl, hs, hy, hc⟩ := dp3 hd
    have hz2 : ro.1.length + r2.1.length + 40 ≤ 100000 := hz
    have l1 := rolT_len r2
    have l2 := rolT_len ro
    refine ⟨_, rfl, a, _, 0, _, rfl, rfl, hs, atI_nat (j := 0) rfl, ?_⟩
    exact if_eq2F rfl (by decide +kernel) (if_eqF rfl (by decide +kernel) (if_eq2F rfl (by decide +kernel) (if_eqT rfl (by decide +kernel) (gt_ret (gt_add (gt_add (gt_sayR (i := 1) rfl hs rfl hy (by omega)) (gt_c " under ") (by walk_at "ln") (by walk_at "ln")) (gt_sayR (i := 2) rfl hs rfl hc (by omega)) (by walk_at "ln") (by walk_at "ln")) q))))
  | inverse b c =>
    obtain ⟨a, y, z, rfl, hs, hy, hc⟩ := dp3 hd
    cases dp_str hy
    cases dp_str hc
    have hz2 : b.length + c.length + 40 ≤ 100000 := hz
    refine ⟨_, rfl, a, _, 0, _, rfl, rfl, hs, atI_nat (j := 0) rfl, ?_⟩
    exact if_eq2F rfl (by decide +kernel) (if_eqF rfl (by decide +kernel) (if_eq2F rfl (by decide +kernel) (if_eqF rfl (by decide +kernel) (if_eqT rfl (by decide +kernel) (gt_ret (gt_add (gt_add (gt_item (i := 1) rfl hs rfl) (gt_c " inverse ") (by walk_at "ln") (by walk_at "ln")) (gt_item (i := 2) rfl hs rfl) (by walk_at "ln") (by walk_at "ln")) q)))))
  | is b c =>
    obtain ⟨a, y, z, rfl, hs, hy, hc⟩ := dp3 hd
    cases dp_str hy
    have hz2 : b.length + c.sz + 40 ≤ 100000 := hz
    have hn2 : c.dp < n := hn
    have l1 := c.pr_len
    refine ⟨_, rfl, a, _, 0, _, rfl, rfl, hs, atI_nat (j := 0) rfl, ?_⟩
    exact if_eq2F rfl (by decide +kernel) (if_eqF rfl (by decide +kernel) (if_eq2F rfl (by decide +kernel) (if_eqF rfl (by decide +kernel) (if_eqF rfl (by decide +kernel) (if_eqT rfl (by decide +kernel) (gt_ret (gt_add (gt_add (gt_item (i := 1) rfl hs rfl) (gt_c " is ") (by walk_at "ln") (by walk_at "ln")) (gt_say0 (i := 2) rfl hs rfl hc (by omega) (by omega)) (by walk_at "ln") (by walk_at "ln")) q))))))
  | has b c d =>
    obtain ⟨a, y, z, w, rfl, hs, hy, hc, hw⟩ := dp4 hd
    cases dp_str hy
    cases dp_str hc
    cases dp_str hw
    have hz2 : b.length + c.length + d.length + 40 ≤ 100000 := hz
    refine ⟨_, rfl, a, _, 0, _, rfl, rfl, hs, atI_nat (j := 0) rfl, ?_⟩
    exact if_eq2F rfl (by decide +kernel) (if_eqF rfl (by decide +kernel) (if_eq2F rfl (by decide +kernel) (if_eqF rfl (by decide +kernel) (if_eqF rfl (by decide +kernel) (if_eqF rfl (by decide +kernel) (if_eqT rfl (by decide +kernel) (gt_ret (gt_add (gt_add (gt_add (gt_add (gt_item (i := 1) rfl hs rfl) (gt_c " ") (by walk_at "ln") (by walk_at "ln")) (gt_item (i := 2) rfl hs rfl) (by walk_at "ln") (by walk_at "ln")) (gt_c " ") (by walk_at "ln") (by walk_at "ln")) (gt_item (i := 3) rfl hs rfl) (by walk_at "ln") (by walk_at "ln")) q)))))))
  | never =>
    obtain ⟨a, rfl, hs⟩ := dp1 hd
    refine ⟨_, rfl, a, _, 0, _, rfl, rfl, hs, atI_nat (j := 0) rfl, ?_⟩
    refine if_eq2F rfl (by decide +kernel) (if_eqF rfl (by decide +kernel) (if_eq2F rfl (by decide +kernel) (if_eqF rfl (by decide +kernel) (if_eqF rfl (by decide +kernel) (if_eqF rfl (by decide +kernel) (if_eqF rfl (by decide +kernel) ?_))))))
    have := q H (Same.refl _)
    exact lit_T "never" ▸ this
/-! a source, printed -/
def prSrc (is : List Itm) : List Nat := (is.map fun i => i.pr ++ [10]).flatten
theorem prSrc_app (is : List Itm) (i : Itm) : prSrc (is ++ [i]) = prSrc is ++ (i.pr ++ [10]) := by simp [prSrc]
theorem Itm.pr_len {i : Itm} (h : i.Sz) : i.pr.length ≤ 11500 := by
  have e1 : (lit " ").length = 1 := by decide +kernel
  have e2 : (lit ";").length = 1 := by decide +kernel
  have e3 : (lit "axiom ").length = 6 := by decide +kernel
  have e4 : (lit ": ").length = 2 := by decide +kernel
  have e5 : (lit ", ").length = 2 := by decide +kernel
  cases i with
  | decl k ns =>
    obtain ⟨h1, h2, h3⟩ := h
    have lj := joinL_len (S := lit ", ") h3
    rw [e5] at lj
    have : ns.length * 102 ≤ 100 * 102 := Nat.mul_le_mul_right _ h2
    have ld : (lit (dword k)).length ≤ 20 := by
      obtain rfl | rfl | rfl : k = 0 ∨ k = 1 ∨ k = 2 := by omega
      all_goals decide +kernel
    show (lit (dword k) ++ lit " " ++ TL.joinL (lit ", ") ns ++ lit ";").length ≤ 11500
    rw [List.length_append, List.length_append, List.length_append, e1, e2]
    omega
  | ax n s =>
    obtain ⟨h1, h2, h3⟩ := h
    have := s.pr_len
    show (lit "axiom " ++ n ++ lit ": " ++ s.pr ++ lit ";").length ≤ 11500
    rw [List.length_append, List.length_append, List.length_append, List.length_append, e2, e3, e4]
    omega
theorem prSrc_len : ∀ {is : List Itm}, (∀ i ∈ is, i.Sz) → (prSrc is).length ≤ is.length * 11501
  | [], _ => Nat.zero_le _
  | i :: is, h => by
    have h1 := Itm.pr_len (h i (List.mem_cons_self ..))
    have h2 := prSrc_len (is := is) fun j hj => h j (List.mem_cons_of_mem _ hj)
    show (prSrc (i :: is)).length ≤ (is.length + 1) * 11501
    rw [show prSrc (i :: is) = (i.pr ++ [10]) ++ prSrc is from rfl, List.length_append, List.length_append, Nat.add_mul]
    have : [10].length = 1 := rfl
    omega
theorem joinL_nil : ∀ xs : List (List Nat), TL.joinL [] xs = xs.flatten
  | [] => rfl
  | [p] => by simp [TL.joinL]
  | p :: q :: r => by
    have ih := joinL_nil (q :: r)
    show p ++ ([] ++ TL.joinL [] (q :: r)) = _
    rw [ih]
    simp
def spSrc (K : PySem.W.Frag) (n : Nat) : Sp := fun vs H Q _ => ∃ (t : Addr) (ws : List V) (is : List Itm), vs = [.ref t] ∧ SqT K H t ws ∧ DpAll K H ws (is.map Itm.D) ∧ is.length ≤ 10 ∧ (∀ i ∈ is, i.dp < n ∧ i.Sz) ∧ ∀ H', Same H H' → Q (.str (T (prSrc is))) H'
theorem c_print_source {n k : Nat} {f : Addr} {fd : FuncData} (D : Df K mg "print_source" s_print_source f fd ["items"]) (c_item : Cl P w K mg base k "_item" (spItem K n)) : Cl P w K mg base (k + 1) "print_source" (spSrc K n) := by
  refine D.cl sc_print_source (fun vs H Q E h => ?_) (fun cdv A outer s H vs Q E hr h => ?_)
  · obtain ⟨t, ws, is, rfl, _⟩ := h
    rfl
  obtain ⟨t, ws, is, rfl, ht, hd, hl, hok, q⟩ := h
  refine ⟨_, (pss_one (ps_ret (pe_join pe_str (pe_lc (own := [("item", 1)]) (g := gName 1) (tt := tYes) (by rfl) sc_print_source.nd (pi_tup (pv 0)) (blkOk_by (own := [("item", 1)]) (N := ["items", "item"]) (sc := defScope s_print_source) (by decide +kernel)) (fun _ _ _ _ _ => pg_name (i := 1) sc_print_source.nd rfl (.inl rfl)) (fun _ _ _ _ _ => pts_nil) (fun _ _ _ _ _ => (pe_joined (PJ.cons (pe_fmt (pc c_item hr (by first | decide | omega) (by rfl) (pa_cons (pv 1) pa_nil))) (PJ.cons pe_str PJ.nil)))))))), ?_⟩
  refine ⟨⟨_, rfl⟩, _, rfl, t, rfl, ⟨_, ht⟩, fun L hL => ?_⟩
  have hwl : ws.length = is.length := by rw [dpAll_len hd, List.length_map]
  refine lc_tup (xs := ws) (te := fun σ H Q => tJs [tFmt (tCall (spItem K n) [] E0 (tCons (tVar 1) tNil)), tC (.str (Str.ofString "\n"))] Str.empty σ H fun out H1 => Q (.str out) H1) (fun i H' => H' L = some (.lst (((is.take i).map fun i => T (i.pr ++ [10])).map V.str)) ∧ Same H H') ⟨upd_same, Same.new _ hL⟩ (fun i H' _ h => Same.seqT h.2 ht) ?_ ?_
  · rintro i x H1 hx ⟨h1, s1⟩
    refine ⟨rfl, ?_⟩
    have hi : i < is.length := by rw [← hwl]; exact (List.getElem?_eq_some_iff.mp hx).1
    have hdi : Dp K H x (is[i]).D := dpAll_at hd i x _ hx (by rw [List.getElem?_map, List.getElem?_eq_getElem hi]; rfl)
    have hoi := hok _ (List.getElem_mem hi)
    have hli := Itm.pr_len hoi.2
    refine js_0 (js_e (b := (is[i]).pr) (fun R hR => ⟨_, rfl, x, is[i], rfl, Dp.same s1 hdi, hoi.1, hoi.2, hR⟩) (by omega) (by decide) fun H2 e2 => js_c (s := "\n") (by decide +kernel) (by rw [List.nil_append]; omega) (js_end ?_))
    refine ⟨_, e2 _ _ h1, ?_, ?_, Same.mut _ (s1.trans e2) hL⟩
    · rw [List.length_map, List.length_map, List.length_take]
      exact small1000 (by omega)
    · rw [upd_same, List.take_add_one, List.getElem?_eq_getElem hi, List.map_append, List.map_append]
      rfl
  · rintro H1 ⟨h1, s1⟩
    rw [List.take_of_length_le (by omega)] at h1
    refine ⟨_, L, _, rfl, rfl, .inl (SqL.of h1), ?_, ?_⟩
    · rw [show (Str.ofString "").length = 0 by decide +kernel, Nat.mul_zero]
      have := sum_lens (m := 11501) (ns := is.map fun i => i.pr ++ [10]) (fun n hn => by
        obtain ⟨i, hi, rfl⟩ := List.mem_map.mp hn
        have := Itm.pr_len (hok i hi).2
        rw [List.length_append]
        have : [10].length = 1 := rfl
        omega)
      have e : (is.map fun i => T (i.pr ++ [10])) = (is.map fun i => i.pr ++ [10]).map T := by
        rw [List.map_map]
        rfl
      rw [List.length_map] at this
      rw [e]
      omega
    · have e := join_T [] (is.map fun i => i.pr ++ [10])
      rw [List.map_map, joinL_nil] at e
      rw [e_eq, show (is.map fun i => T (i.pr ++ [10])) = is.map (T ∘ fun i => i.pr ++ [10]) from rfl, e]
      exact q _ s1
theorem SameX.free2 {d : Addr} {H H1 H' : Hp} (s : Same H H1) (n : H d = none) (e : SameX d H1 H') : Same H H' := fun b u q => e b u (ne_of_none q n) (s b u q)
theorem Dr.start {H : Hp} {d nm z p0 p1 p2 p3 : Addr} {l r : List Nat} {ds : List Int} (hf : FrameOk l r) (f : H d = some (.lst (ds.map V.int))) (na : NA H l r nm p0 p1 p2 p3) (ap : AP d nm p0 p1 p2 p3) (hz : H z = none) : Dr K (upd H z (.tup [.int 9, .int 5, .int 5])) d nm z l r :=
  ⟨hf, ⟨ds, p0, p1, p2, p3, Same.new _ hz _ _ f, na.same (Same.new _ hz), ap⟩, .of upd_same⟩
theorem Dr.again {H : Hp} {d nm z z' : Addr} {l r : List Nat} (h : Dr K H d nm z l r) (hz : H z' = none) : Dr K (upd H z' (.tup [.int 9, .int 5, .int 5])) d nm z' l r := by
  obtain ⟨ds, p0, p1, p2, p3, h1, h2, h3⟩ := h.ex
  exact Dr.start h.ok h1 h2 h3 hz
section
variable {σ : L2.St} {H : Hp} {ta tb tc td : TE} {a b c d : List Nat} {tt u : TS} {D : Ends}
theorem same_txt {n : Nat} {R : VK} (ga : GT ta σ H a) (gb : GT tb σ H a) (q : ∀ H', Same H H' → R (.bl true) H') : tCall (spSame K (n + 1)) [] E0 (tCons ta (tCons tb tNil)) σ H R :=
  ga H (Same.refl _) _ fun H1 e1 => gb H1 e1 _ fun H2 e2 => ⟨_, _, .str (T a), rfl, .str _, .str _, trivial, fun H3 e3 => q H3 ((e1.trans e2).trans e3)⟩
theorem if_same1 {n : Nat} (ga : GT ta σ H a) (gb : GT tb σ H a) (q : ∀ H', Same H H' → u D σ H') : tIfS (tNot (tB (tCall (spSame K (n + 1)) [] E0 (tCons ta (tCons tb tNil))))) tt u D σ H :=
  same_txt ga gb fun H' e => ⟨true, rfl, iteF (q H' e)⟩
theorem if_same2 {n : Nat} (ga : GT ta σ H a) (gb : GT tb σ H a) (gc : GT tc σ H c) (gd : GT td σ H c) (q : ∀ H', Same H H' → u D σ H') : tIfS (tOr (tNot (tB (tCall (spSame K (n + 1)) [] E0 (tCons ta (tCons tb tNil))))) (tNot (tB (tCall (spSame K (n + 1)) [] E0 (tCons tc (tCons td tNil)))))) tt u D σ H :=
  same_txt ga gb fun H' e => ⟨true, rfl, iteF (same_txt (gc.mono e) (gd.mono e) fun H2 e2 => ⟨true, rfl, iteF (q H2 (e.trans e2))⟩)⟩
variable {v : V} {n i : Nat}
theorem gt_pcv {c : Con} (hσ : σ[i]? = some (some v)) (hd : Dp K H v c.D) (hn : c.dp < n) (hz : c.sz ≤ 100000) : GT (tCall (spPC K n) [] E0 (tCons (tVar i) tNil)) σ H c.pr := fun H1 e R r => ⟨_, hσ, v, c, rfl, Dp.same e hd, hn, hz, r⟩
theorem gt_sayv {c : Con} (hσ : σ[i]? = some (some v)) (hd : Dp K H v c.D) (hn : c.dp < n) (hz : c.sz ≤ 100000) : GT (tCall (spSay K n) [] E0 (tCons (tVar i) (tCons (tC (.int 1)) tNil))) σ H c.pr := fun H1 e R r => ⟨_, hσ, v, c, 0, rfl, Dp.same e hd, hn, hz, fun H' e' => by
  rw [decide_eq_false (Nat.not_lt_zero _)]
  exact r H' e'⟩
theorem gt_psv {s : Stm} (hσ : σ[i]? = some (some v)) (hd : Dp K H v s.D) (hn : s.dp < n) (hz : s.sz ≤ 100000) (hv : s ≠ .never) : GT (tCall (spPS K n) [] E0 (tCons (tVar i) tNil)) σ H s.pr := fun H1 e R r => ⟨_, hσ, v, s, rfl, Dp.same e hd, hn, hz, hv, r⟩
theorem gt_pqv {s : Stm} (hσ : σ[i]? = some (some v)) (hd : Dp K H v s.D) (hn : s.dp < n) (hz : s.sz ≤ 100000) : GT (tCall (spPQ K n) [] E0 (tCons (tVar i) tNil)) σ H s.pr := fun H1 e R r => ⟨_, hσ, v, s, rfl, Dp.same e hd, hn, hz, r⟩
theorem gt_saysv {s : Stm} (hσ : σ[i]? = some (some v)) (hd : Dp K H v s.D) (hn : s.dp < n) (hz : s.sz ≤ 100000) : GT (tCall (spSays K n) [] E0 (tCons (tVar i) tNil)) σ H s.pr := fun H1 e R r => ⟨_, hσ, v, s, rfl, Dp.same e hd, hn, hz, r⟩
theorem gt_word3 {s0 s1 s2 : String} {k : Nat} {s : String} (hσ : σ[i]? = some (some (.int (k : Int)))) (hk : [s0, s1, s2][k]? = some s) : GT (tOp (rIxT K) (tTup (tCons (tC (.str (Str.ofString s0))) (tCons (tC (.str (Str.ofString s1))) (tCons (tC (.str (Str.ofString s2))) tNil)))) (tVar i)) σ H (lit s) := fun H1 e R r => by
  refine ⟨by show 3 ≤ sizeLine; decide, fun p hp => ⟨_, hσ, p, _, _, .str (Str.ofString s), rfl, rfl, .of upd_same, atI_nat ?_, ?_⟩⟩
  · have := congrArg (Option.map fun x : String => V.str (Str.ofString x)) hk
    rw [← List.getElem?_map] at this
    exact this
  · have := r _ (Same.new (.tup [.str (Str.ofString s0), .str (Str.ofString s1), .str (Str.ofString s2)]) hp)
    rw [← lit_T] at this
    exact this
end
theorem trt {te : TE} {D : Ends} {σ : L2.St} {H : Hp} (h : te σ H D.rt) : tRet te D σ H := h
def wdS : Nat → String
  | 0 => "concept "
  | 1 => "role "
  | _ => "individual "
theorem wd_eq {k : Nat} (h : k < 3) : lit (wdS k) = lit (dword k) ++ lit " " := by
  obtain rfl | rfl | rfl : k = 0 ∨ k = 1 ∨ k = 2 := by omega
  all_goals decide +kernel
theorem wd_at {k : Nat} (h : k < 3) : ["concept ", "role ", "individual "][k]? = some (wdS k) := by
  obtain rfl | rfl | rfl : k = 0 ∨ k = 1 ∨ k = 2 := by omega
  all_goals rfl
theorem key_at {k : Nat} (h : k < 3) : ["concepts", "roles", "individuals"][k]? = some (dkey k) := by
  obtain rfl | rfl | rfl : k = 0 ∨ k = 1 ∨ k = 2 := by omega
  all_goals rfl
theorem wd_len {k : Nat} (h : k < 3) : (lit (wdS k)).length ≤ 20 := by
  obtain rfl | rfl | rfl : k = 0 ∨ k = 1 ∨ k = 2 := by omega
  all_goals decide +kernel
theorem nl_lit : lit ";\n" = lit ";" ++ [10] := by decide +kernel
theorem mks_at {k : Nat} (h : k < 4) : ∃ m, mks[k]? = some m ∧ m.length ≤ 20 := by
  obtain rfl | rfl | rfl | rfl : k = 0 ∨ k = 1 ∨ k = 2 ∨ k = 3 := by omega
  all_goals exact ⟨_, rfl, by decide +kernel⟩
theorem cutI_mem {α : Type} {ds : List α} {lo hi : Option Int} {x : α} (h : x ∈ cutI ds lo hi) : x ∈ ds := List.mem_of_mem_drop (List.mem_of_mem_take h)
theorem cutI_len {α : Type} {ds : List α} {lo hi : Option Int} : (cutI ds lo hi).length ≤ ds.length := by
  unfold cutI
  rw [List.length_take, List.length_drop]
  omega
theorem names_tn (ns : List (List Nat)) (h : ns.length ≤ 100000) : TupN 2 (namesD ns) := ⟨by rw [List.length_map]; exact h, fun d hd => by
  obtain ⟨n, _, rfl⟩ := List.mem_map.mp hd
  trivial⟩
theorem Itm.tn {i : Itm} (h : i.Sz) : TupN (i.dp + 5) i.D := by
  cases i with
  | decl k ns => exact tup2 trivial ((names_tn ns (by have := h.2.1; omega)).le (by show 2 ≤ 0 + 4; decide))
  | ax n s => exact tup3 trivial trivial (Stm.tn s)
def spLaw (K : PySem.W.Frag) : Sp := fun vs H Q _ => ∃ (a : Addr) (ns : List Int), vs = [.ref a] ∧ SqL K H a (ns.map V.int) ∧ ns.length ≤ 63 ∧ ∀ H', Q (.bl true) H'
theorem pow_small {n : Nat} (h : n < 5) : 2 ^ n ≤ 16 := pow_dp (m := 4) (by omega)
theorem ok_law {f : Addr} {fd : FuncData} (F : Fun K "law" "law" s_law f fd) (c_law_draws : Cl P w K mg base 2 "_law_draws" (spDraws K)) (c_law_take : Cl P w K mg base 1 "_law_take" spTake) (c_law_cell : Cl P w K mg base 1 "_law_cell" (spCell K)) (c_law_names : Cl P w K mg base 3 "_law_names" (spNames K))
    (c_law_concept : Cl P w K mg base 8 "_law_concept" (spConD K 5)) (c_law_statement : Cl P w K mg base 9 "_law_statement" (spStmD K 5)) (c_law_question : Cl P w K mg base 9 "_law_question" (spQstD K 5))
    (c_law_say : Cl P w K mg base 7 "_law_say" (spSay K 5)) (c_law_says : Cl P w K mg base 8 "_law_says" (spSays K 5)) (c_print_concept : Cl P w K mg base 11 "print_concept" (spPC K 5)) (c_print_statement : Cl P w K mg base 12 "print_statement" (spPS K 5)) (c_print_question : Cl P w K mg base 13 "print_question" (spPQ K 5)) (c_print_source : Cl P w K mg base 14 "print_source" (spSrc K 5))
    (c_law_same : Cl P w K mg base 2 "_law_same" (spSame K 1)) (z_range : mg "range" = none) (z_int : mg "int" = none) (z_tuple : mg "tuple" = none) : FnOk P w K mg base CX0 15 f fd ["script"] (spLaw K) := by
  refine F.ok sc_law (fun vs H Q E h => ?_) (fun cdv A outer s H vs Q E hr h => ?_)
  · obtain ⟨a, ns, rfl, _⟩ := h
    rfl
  obtain ⟨a, ns, rfl, hS, h63, q⟩ := h
  refine ⟨_, (pss_cons (ps_set (i := 1) sc_law.nd rfl (.inl rfl) (pc c_law_draws hr (by first | decide | omega) (by rfl) (pa_cons (pv 0) (pa_cons pe_int (pa_cons pe_int pa_nil)))))
      (pss_cons (ps_set (i := 2) sc_law.nd rfl (.inl rfl) (pc c_law_names hr (by first | decide | omega) (by rfl) (pa_cons (pv 1) pa_nil)))
      (pss_cons (ps_set (i := 3) sc_law.nd rfl (.inl rfl) (pc c_law_concept hr (by first | decide | omega) (by rfl) (pa_cons (pv 1) (pa_cons (pv 2) (pa_cons (pe_tup (pa_cons pe_int (pa_cons pe_int (pa_cons pe_int pa_nil)))) (pa_cons (pe_op op_add pe_int (pc c_law_take hr (by first | decide | omega) (by rfl) (pa_cons (pv 1) (pa_cons pe_int pa_nil)))) pa_nil))))))
      (pss_cons (ps_set (i := 4) sc_law.nd rfl (.inl rfl) (pc c_law_statement hr (by first | decide | omega) (by rfl) (pa_cons (pv 1) (pa_cons (pv 2) (pa_cons (pe_tup (pa_cons pe_int (pa_cons pe_int (pa_cons pe_int pa_nil)))) (pa_cons (pc c_law_take hr (by first | decide | omega) (by rfl) (pa_cons (pv 1) (pa_cons pe_int pa_nil))) pa_nil))))))
      (pss_cons (ps_set (i := 5) sc_law.nd rfl (.inl rfl) (pc c_law_question hr (by first | decide | omega) (by rfl) (pa_cons (pc c_law_draws hr (by first | decide | omega) (by rfl) (pa_cons (pv 0) (pa_cons pe_int (pa_cons pe_int pa_nil)))) (pa_cons (pv 2) (pa_cons (pe_tup (pa_cons pe_int (pa_cons pe_int (pa_cons pe_int pa_nil)))) (pa_cons pe_int pa_nil))))))
      (pss_cons (ps_if (pt_not (pt_val (pc c_law_same hr (by first | decide | omega) (by rfl) (pa_cons (pc c_print_concept hr (by first | decide | omega) (by rfl) (pa_cons (pv 3) pa_nil)) (pa_cons (pc c_law_say hr (by first | decide | omega) (by rfl) (pa_cons (pv 3) (pa_cons pe_int pa_nil))) pa_nil))))) (pss_one (ps_ret pe_bl)) pss_nil)
      (pss_cons (ps_if (PW.pt (pw_or (pt_not (pt_val (pc c_law_same hr (by first | decide | omega) (by rfl) (pa_cons (pc c_print_statement hr (by first | decide | omega) (by rfl) (pa_cons (pv 4) pa_nil)) (pa_cons (pc c_law_says hr (by first | decide | omega) (by rfl) (pa_cons (pv 4) pa_nil)) pa_nil))))) (pw_or1 (pt_not (pt_val (pc c_law_same hr (by first | decide | omega) (by rfl) (pa_cons (pc c_print_question hr (by first | decide | omega) (by rfl) (pa_cons (pv 5) pa_nil)) (pa_cons (pc c_law_says hr (by first | decide | omega) (by rfl) (pa_cons (pv 5) pa_nil)) pa_nil)))))))) (pss_one (ps_ret pe_bl)) pss_nil)
      (pss_cons (ps_set (i := 6) sc_law.nd rfl (.inl rfl) (pe_lst pa_nil))
      (pss_cons (ps_set (i := 7) sc_law.nd rfl (.inl rfl) pe_str)
      (pss_cons (ps_for PassesOwn.never rfl (pi_range1 (by rfl) z_range (pa_cons (pe_op op_mod (pe_callTy call_int1 (by rfl) z_int (by decide +kernel) (pa_cons (pc c_law_cell hr (by first | decide | omega) (by rfl) (pa_cons (pv 0) (pa_cons pe_int pa_nil))) pa_nil)) pe_int) pa_nil)) (pg_name (i := 8) sc_law.nd rfl (.inl rfl)) (pss_cons (ps_set (i := 9) sc_law.nd rfl (.inl rfl) (pc c_law_draws hr (by first | decide | omega) (by rfl) (pa_cons (pv 0) (pa_cons (pe_op op_add pe_int (pv 8)) (pa_cons pe_int pa_nil)))))
      (pss_cons (ps_set (i := 10) sc_law.nd rfl (.inl rfl) (pc c_law_take hr (by first | decide | omega) (by rfl) (pa_cons (pv 9) (pa_cons pe_int pa_nil))))
      (pss_one (ps_if (pt_cmpR op_lt (pv 10) pe_int (nomark _)) (pss_cons (ps_set (i := 11) sc_law.nd rfl (.inl rfl) (pe_slice sl_list (pe_ix ix_list (pv 2) (pv 10) (fun _ _ => rfl)) po_none (po_some (pe_op op_add pe_int (pc c_law_take hr (by first | decide | omega) (by rfl) (pa_cons (pv 9) (pa_cons pe_int pa_nil)))))))
      (pss_cons (ps_expr (pe_bm PySem.F.plainAttrs_list PySem.F.slot_list_append PySem.F.type_list_append mt_append (pv 6) (pa_cons (pe_tup (pa_cons (pe_ix ix_tup (pe_tup (pa_cons pe_str (pa_cons pe_str (pa_cons pe_str pa_nil)))) (pv 10) (fun _ _ => rfl)) (pa_cons (pe_callTy call_tuple_of (by rfl) z_tuple (by decide +kernel) (pa_cons (pv 11) pa_nil)) pa_nil))) pa_nil)))
      (pss_one (ps_set (i := 7) sc_law.nd rfl (.inl rfl) (pe_op op_add_str (pe_op op_add_str (pe_op op_add_str (pv 7) (pe_ix ix_tup (pe_tup (pa_cons pe_str (pa_cons pe_str (pa_cons pe_str pa_nil)))) (pv 10) (fun _ _ => rfl))) (pe_join pe_str (pv 11))) pe_str))))) (pss_cons (ps_set (i := 12) sc_law.nd rfl (.inl rfl) (pe_ix ix_list (pe_ix ix_list (pv 2) pe_int (fun _ _ => rfl)) (pc c_law_take hr (by first | decide | omega) (by rfl) (pa_cons (pv 9) (pa_cons pe_int pa_nil))) (fun _ _ => rfl)))
      (pss_cons (ps_expr (pe_bm PySem.F.plainAttrs_list PySem.F.slot_list_append PySem.F.type_list_append mt_append (pv 6) (pa_cons (pe_tup (pa_cons pe_str (pa_cons (pv 12) (pa_cons (pc c_law_statement hr (by first | decide | omega) (by rfl) (pa_cons (pv 9) (pa_cons (pv 2) (pa_cons (pe_tup (pa_cons pe_int (pa_cons pe_int (pa_cons pe_int pa_nil)))) (pa_cons pe_int pa_nil))))) pa_nil)))) pa_nil)))
      (pss_one (ps_set (i := 7) sc_law.nd rfl (.inl rfl) (pe_op op_add_str (pe_op op_add_str (pe_op op_add_str (pe_op op_add_str (pe_op op_add_str (pv 7) pe_str) (pv 12)) pe_str) (pc c_law_says hr (by first | decide | omega) (by rfl) (pa_cons (pe_ix ix_tup (pe_ix ix_list (pv 6) (pe_un un_neg pe_int) (fun _ _ => rfl)) pe_int (fun _ _ => rfl)) pa_nil))) pe_str))))))))))
      (pss_one (ps_ret (pc c_law_same hr (by first | decide | omega) (by rfl) (pa_cons (pc c_print_source hr (by first | decide | omega) (by rfl) (pa_cons (pe_callTy call_tuple_of (by rfl) z_tuple (by decide +kernel) (pa_cons (pv 6) pa_nil)) pa_nil)) (pa_cons (pv 7) pa_nil))))))))))))))), ?_⟩
  refine ⟨_, rfl, a, ns, 0, 90, rfl, hS, h63, by decide, by decide, by decide, fun ds d H1 s1 n1 f1 _ => ?_⟩
  refine ⟨_, rfl, d, ds, rfl, f1, fun l r nm p0 p1 p2 p3 ds' H2 hf e2 hnm f2 na ap => ?_⟩
  refine ⟨_, rfl, _, rfl, by show 3 ≤ sizeLine; decide, fun z1 hz1 => ?_⟩
  have h3 : Dr K _ d nm z1 l r := Dr.start hf f2 na ap hz1
  refine take_draw rfl h3 (by decide) fun x H3 x0 x1 e3 h4 => ?_
  obtain ⟨x, rfl⟩ : ∃ k : Nat, x = (k : Int) := ⟨x.toNat, by omega⟩
  refine ⟨_, _, rfl, rfl, d, nm, z1, l, r, x + 1, by rw [show (((x + 1 : Nat) : Int)) = 1 + (x : Int) by omega]; rfl, by omega, h4, fun c v H4 hc hcd hv e4 h5 => ?_⟩
  refine ⟨_, rfl, _, rfl, by show 3 ≤ sizeLine; decide, fun z2 hz2 => ?_⟩
  have h5' := h5.again hz2
  refine take_draw rfl h5' (by decide) fun y H5 y0 y1 e5 h6 => ?_
  obtain ⟨y, rfl⟩ : ∃ k : Nat, y = (k : Int) := ⟨y.toNat, by omega⟩
  refine ⟨d, nm, z2, l, r, y, rfl, by omega, h6, fun st v2 H6 hs hsd hnev hv2 e6 h7 => ?_⟩
  have S6 : Same H H6 := SameX.free2 s1 n1 ((((((e2.trans (SameX.new _ hz1)).trans e3).trans e4).trans (SameX.new _ hz2)).trans e5).trans e6)
  refine ⟨_, rfl, a, ns, 1, 60, rfl, S6.seq hS, h63, by decide, by decide, by decide, fun ds2 d2 H7 s7 n7 f7 _ => ?_⟩
  obtain ⟨dsx, q0, q1, q2, q3, _, na6, _⟩ := h7.ex
  refine ⟨_, rfl, by show 3 ≤ sizeLine; decide, fun z3 hz3 => ?_⟩
  have h8 : Dr K _ d2 nm z3 l r := Dr.start hf f7 (na6.same s7) (na6.fresh n7) hz3
  refine ⟨d2, nm, z3, l, r, 2, rfl, by decide, h8, fun as v3 H8 has had hv3 e8 h9 => ?_⟩
  have hv' : Dp K H8 v c.D := h8.mv e8 (Con.tn c) (Dp.same (Same.new _ hz3) (Dp.same s7 (h6.mv e6 (Con.tn c) (h5'.mv e5 (Con.tn c) (Dp.same (Same.new _ hz2) hv)))))
  have hv2' : Dp K H8 v2 st.D := h8.mv e8 (Stm.tn st) (Dp.same (Same.new _ hz3) (Dp.same s7 hv2))
  have S8 : Same H H8 := SameX.free2 (S6.trans s7) (Same.free S6 n7) ((SameX.new _ hz3).trans e8)
  have na8 := na6.same s7
  obtain ⟨_, t0, t1, t2, t3, _, na8, _⟩ := h9.ex
  have lc := Con.sz_le hf hc
  have lcp := pow_small (n := c.dp) (by omega)
  have ls := Stm.sz_le hf hs
  have lsp := pow_small (n := st.dp) (by omega)
  have la := Stm.sz_le hf has
  have lap := pow_small (n := as.dp) (by omega)
  refine gset ?_
  dsimp only
  refine tsq ?_
  refine if_same1 (gt_pcv rfl hv' (by omega) (by omega)) (gt_sayv rfl hv' (by omega) (by omega)) fun H9 e9 => ?_
  refine tnx ?_
  dsimp only
  refine tsq ?_
  refine if_same2 (gt_psv rfl (Dp.same e9 hv2') (by omega) (by omega) hnev) (gt_saysv rfl (Dp.same e9 hv2') (by omega) (by omega)) (gt_pqv rfl (Dp.same e9 hv3) (by omega) (by omega)) (gt_saysv rfl (Dp.same e9 hv3) (by omega) (by omega)) fun H10 e10 => ?_
  have na10 := na8.same (e9.trans e10)
  have S10 := S8.trans (e9.trans e10)
  refine tnx ?_
  refine ⟨by show 0 ≤ sizeLine; decide, fun it hit => ?_⟩
  have hitH : H it = none := Same.free S10 hit
  refine ⟨_, rfl, a, ns, 2, rfl, (S10.trans (Same.new _ hit)).seq hS, h63, by decide, fun c0 => ?_⟩
  walk_at "w"
  refine ⟨by omega, by omega, for_range (lo := 0) (n := (c0 % 7).toNat) (fun i σ' H' => ∃ (is : List Itm) (ws : List V) (x8 x9 x10 x11 x12 : Option V), σ' = [some (.ref a), some (.ref d), some (.ref nm), some v, some v2, some v3, some (.ref it), some (.str (T (prSrc is))), x8, x9, x10, x11, x12] ∧ is.length = i ∧ H' it = some (.lst ws) ∧ DpAll K H' ws (is.map Itm.D) ∧ (∀ j ∈ is, j.dp < 5 ∧ j.Sz) ∧ Same H H' ∧ NA H' l r nm t0 t1 t2 t3)
    ⟨[], [], none, none, none, none, none, by rw [show prSrc [] = [] from rfl, ← e_eq]; rfl, rfl, upd_same, .nil, fun j h => by simp at h, S10.trans (Same.new _ hit), na10.same (Same.new _ hit)⟩ ?_ ?_⟩
  · rintro i _ H1 hi ⟨is, ws, x8, x9, x10, x11, x12, rfl, hl, hit1, hD, hok, S1, na1⟩
    have hi7 : i < 7 := by omega
    have hpl := prSrc_len fun j hj => (hok j hj).2
    have hT : ∀ d ∈ is.map Itm.D, TupN 10 d := fun d hd => by
      obtain ⟨j, hj, rfl⟩ := List.mem_map.mp hd
      exact (Itm.tn (hok j hj).2).le (by have := (hok j hj).1; omega)
    have hwl : ws.length = is.length := by rw [dpAll_len hD, List.length_map]
    have hwz : ws.length < sizeLine := small1000 (by omega)
    have Lj : (lit ", ").length = 2 := by decide +kernel
    have La : (lit "axiom ").length = 6 := by decide +kernel
    have Lb : (lit ": ").length = 2 := by decide +kernel
    have Lc : (lit ";\n").length = 2 := by decide +kernel
    refine ⟨_, rfl, _, rfl, _, _, rfl, rfl, a, ns, _, 60, rfl, S1.seq hS, h63, by omega, by decide, by decide, fun ds3 d3 H2 s2 n2 f2 _ => ?_⟩
    refine ⟨_, rfl, d3, _, 5, rfl, f2, by decide, fun kd k0 k1 => ?_⟩
    have nit : it ≠ d3 := ne_of_none hit1 n2
    have ap3 : AP d3 nm t0 t1 t2 t3 := na1.fresh n2
    obtain ⟨kk, rfl⟩ : ∃ k : Nat, kd = (k : Int) := ⟨kd.toNat, by omega⟩
    refine gset ?_
    dsimp only
    refine if_1 (b1 := decide ((kk : Int) < 3)) (fun R q => ⟨_, rfl, _, _, rfl, rfl, _, rfl, q⟩) (fun hb => ?_) (fun hb => ?_)
    · have hk3 : kk < 3 := by have := of_decide_eq_true hb; omega
      obtain ⟨m, hm, hml⟩ := mks_at (k := kk) (by omega)
      have x3 : SameX d3 H2 (upd H2 d3 (.lst (ds3.tail.map V.int))) := SameX.at _
      have na3 := (na1.same s2).mono x3 ap3
      obtain ⟨p, hp, hpd, hpH⟩ := na3.at ap3 hm
      refine ⟨_, rfl, _, rfl, nm, _, _, _, rfl, rfl, SqL.of na3.top, atI_nat hp, ?_⟩
      refine ⟨_, rfl, d3, _, 5, rfl, upd_same, by decide, fun y y0 y1 => ?_⟩
      rw [upd_upd]
      refine ⟨_, _, rfl, rfl, _, rfl, ?_⟩
      have x4 : SameX d3 H2 (upd H2 d3 (.lst (ds3.tail.tail.map V.int))) := SameX.at _
      have na4 := (na1.same s2).mono x4 ap3
      obtain ⟨p', hp', hpd', hpH'⟩ := na4.at ap3 hm
      cases V.ref.inj (Option.some.inj (hp.symm.trans hp'))
      refine ⟨p, _, rfl, SqL.of hpH', fun L hL => ?_⟩
      unfold strsV
      rw [cutV_map]
      have hrl : (cutI (nmL l r m) none (some (1 + y))).length ≤ 20 := by
        have := cutI_len (ds := nmL l r m) (lo := none) (hi := some (1 + y))
        have e : (nmL l r m).length = m.length := List.length_map _
        omega
      have hrn : ∀ n ∈ cutI (nmL l r m) none (some (1 + y)), n.length ≤ 100 := fun n hn => by have := nm_len hf (cutI_mem hn); omega
      generalize cutI (nmL l r m) none (some (1 + y)) = rows at hrl hrn
      have S5 : Same H1 (upd (upd H2 d3 (.lst (ds3.tail.tail.map V.int))) L (.lst (rows.map fun n => V.str (T n)))) := SameX.free2 s2 n2 (x4.trans (SameX.new _ hL))
      have D5 := DpAll.same S5 hD
      refine ⟨_, rfl, .inl ⟨rfl, _, SqL.of (S5 _ _ hit1)⟩, ?_⟩
      refine gt_word3 (s := dkey kk) rfl (key_at hk3) _ (Same.refl _) _ fun H6 e6 => ?_
      refine ⟨_, rfl, L, _, rfl, .inl ⟨SqL.of (e6 _ _ upd_same), fun u hu => ⟨by show 2 ≤ sizeLine; decide, fun p2 hp2 => ?_⟩⟩⟩
      have e7 : Same (upd (upd H2 d3 (.lst (ds3.tail.tail.map V.int))) L (.lst (rows.map fun n => V.str (T n)))) (upd (upd H6 u (.tup (rows.map fun n => V.str (T n)))) p2 (.tup [.str (T (lit (dkey kk))), .ref u])) := (e6.trans (Same.new _ hu)).trans (Same.new _ hp2)
      have hit7 := e7 _ _ (S5 _ _ hit1)
      refine ⟨it, _, _, rfl, rfl, hit7, hwz, ?_⟩
      have kt := KT.lst (K := K) (.lst (ws ++ [.ref p2])) hit7
      have hLi : L ≠ it := (ne_of_none (S5.trans e7 |> fun _ => (by exact (x4 _ _ nit (s2 _ _ hit1)))) hL).symm
      have hL8 := (upd_ne (o := .lst (ws ++ [.ref p2])) hLi).trans (e7 _ _ upd_same)
      have hrs : (rows.map fun n => V.str (T n)) = (rows.map T).map V.str := by rw [List.map_map]; rfl
      have hjb : ((rows.map T).map (·.length)).sum + (rows.map T).length * (Str.ofString ", ").length ≤ 16777216 := by
        have := sum_lens hrn
        have : rows.length * 100 ≤ 20 * 100 := Nat.mul_le_mul_right _ hrl
        rw [show (Str.ofString ", ").length = 2 by decide +kernel, List.length_map]
        omega
      have lj := joinL_len (S := lit ", ") hrn
      rw [Lj] at lj
      have : rows.length * 102 ≤ 20 * 102 := Nat.mul_le_mul_right _ hrl
      have lw := wd_len hk3
      refine gt_set (gt_add (gt_add (gt_add (gt_var rfl) (gt_word3 (s := wdS kk) rfl (wd_at hk3)) (by omega) (by omega)) (b := TL.joinL (lit ", ") rows) (fun Ha ea R rr => ⟨⟨_, rfl⟩, _, rfl, _, L, rows.map T, rfl, rfl, .inl (by rw [← hrs]; exact SqL.of (ea _ _ hL8)), hjb, by rw [lit_T ", ", join_T]; exact rr _ (Same.refl _)⟩) (by rw [List.length_append]; omega) (by omega)) (gt_c ";\n") (by rw [List.length_append, List.length_append]; omega) (by omega)) fun H9 e9 => ?_
      have et : prSrc is ++ lit (wdS kk) ++ TL.joinL (lit ", ") rows ++ lit ";\n" = prSrc (is ++ [.decl kk rows]) := by
        rw [prSrc_app, wd_eq hk3, nl_lit]
        show _ = prSrc is ++ (lit (dword kk) ++ lit " " ++ TL.joinL (lit ", ") rows ++ lit ";" ++ [10])
        simp only [List.append_assoc]
      rw [et]
      have hsz : Itm.Sz (.decl kk rows) := ⟨hk3, by omega, hrn⟩
      have DI : Dp K (upd (upd (upd H6 u (.tup (rows.map fun n => V.str (T n)))) p2 (.tup [.str (T (lit (dkey kk))), .ref u])) it (.lst (ws ++ [.ref p2]))) (.ref p2) (Itm.decl kk rows).D := by
        refine Dp.kt kt (Itm.tn hsz) (.tup (.of upd_same) (.cons ?_ (.cons (.tup (Same.seqT (Same.new _ hp2) (.of upd_same)) ?_) .nil)))
        · rw [← lit_T]
          exact .str _
        · have : ∀ ns : List (List Nat), ∀ Hx : Hp, DpAll K Hx (ns.map fun n => V.str (T n)) (ns.map fun n => PyData.str (T n)) := fun ns Hx => by
            induction ns with
            | nil => exact .nil
            | cons n ns ih => exact .cons (.str _) ih
          exact this rows _
      refine ⟨is ++ [.decl kk rows], ws ++ [.ref p2], _, _, _, _, _, rfl, by rw [List.length_append, hl]; rfl, e9 _ _ upd_same, ?_, ?_, ?_, ?_⟩
      · rw [List.map_append]
        exact DpAll.same e9 (dpAll_app (DpAll.kt kt hT (DpAll.same e7 D5)) (.cons DI .nil))
      · intro j hj
        rcases List.mem_append.mp hj with hj | hj
        · exact hok j hj
        · rw [List.mem_singleton.mp hj]
          exact ⟨by show 0 < 5; decide, hsz⟩
      · exact (Same.mut _ ((S1.trans S5).trans e7) hitH).trans e9
      · exact ((na1.same (S5.trans e7)).mono (SameX.at _) (na10.fresh hit)).same e9
    · have x3 : SameX d3 H2 (upd H2 d3 (.lst (ds3.tail.map V.int))) := SameX.at _
      have na3 := (na1.same s2).mono x3 ap3
      refine ⟨_, rfl, nm, _, _, _, rfl, rfl, SqL.of na3.top, atI_nat (j := 3) rfl, _, rfl, d3, _, 12, rfl, upd_same, by decide, fun y y0 y1 => ?_⟩
      rw [upd_upd]
      have x4 : SameX d3 H2 (upd H2 d3 (.lst (ds3.tail.tail.map V.int))) := SameX.at _
      have na4 := (na1.same s2).mono x4 ap3
      obtain ⟨nn, hnn, hat⟩ := at_names (ns := nmL l r mk3) y0 (by rw [show (nmL l r mk3).length = mk3.length from List.length_map _]; exact Int.lt_of_lt_of_le y1 (by decide +kernel))
      refine ⟨t3, _, y, _, rfl, rfl, SqL.of na4.a3, hat, ?_⟩
      have S4 : Same H1 (upd H2 d3 (.lst (ds3.tail.tail.map V.int))) := SameX.free2 s2 n2 x4
      refine ⟨_, rfl, .inl ⟨rfl, _, SqL.of (S4 _ _ hit1)⟩, ?_⟩
      refine ⟨_, rfl, _, rfl, _, rfl, by show 3 ≤ sizeLine; decide, fun z hz => ?_⟩
      refine ⟨d3, nm, z, l, r, 1, rfl, by decide, Dr.start hf upd_same na4 ap3 hz, fun s5 v5 H5 hs5 hsd5 hnev5 hv5 e5 h5 => ⟨by show 3 ≤ sizeLine; decide, fun p2 hp2 => ?_⟩⟩
      have S5 : Same H1 H5 := SameX.free2 s2 n2 ((x4.trans (SameX.new _ hz)).trans e5)
      have S6 := S5.trans (Same.new (.tup [.str (Str.ofString "axiom"), .str (T nn), v5]) hp2)
      have hit7 := S6 _ _ hit1
      refine ⟨it, _, _, rfl, rfl, hit7, hwz, ?_⟩
      have kt := KT.lst (K := K) (.lst (ws ++ [.ref p2])) hit7
      have hnl := nm_len hf hnn
      have hsz5 := Stm.sz_le hf hs5
      have hsp5 : 2 ^ s5.dp ≤ 2 := pow_dp (m := 1) hsd5
      have hpr := s5.pr_len
      have hsz : Itm.Sz (.ax nn s5) := ⟨by omega, by omega, hnev5⟩
      have hv6 := Dp.kt kt (Stm.tn s5) (Dp.same (Same.new (.tup [.str (Str.ofString "axiom"), .str (T nn), v5]) hp2) hv5)
      have hp7 : SqT K _ p2 [.str (Str.ofString "axiom"), .str (T nn), v5] := kt _ _ (.of upd_same)
      refine gt_set (gt_add (gt_add (gt_add (gt_add (gt_add (gt_var rfl) (gt_c "axiom ") (by omega) (by omega)) (gt_var rfl) (by rw [List.length_append]; omega) (by omega)) (gt_c ": ") (by rw [List.length_append, List.length_append]; omega) (by omega)) (b := s5.pr) (fun Ha ea R rr => ⟨_, rfl, 1, rfl, it, _, _, _, rfl, rfl, SqL.of (ea _ _ upd_same), atI_last _ _, p2, _, _, _, rfl, rfl, Same.seqT ea hp7, atI_nat (j := 2) rfl, v5, s5, rfl, Dp.same ea hv6, by omega, by omega, rr⟩) (by rw [List.length_append, List.length_append, List.length_append]; omega) (by omega)) (gt_c ";\n") (by rw [List.length_append, List.length_append, List.length_append, List.length_append]; omega) (by omega)) fun H9 e9 => ?_
      have et : prSrc is ++ lit "axiom " ++ nn ++ lit ": " ++ s5.pr ++ lit ";\n" = prSrc (is ++ [.ax nn s5]) := by
        rw [prSrc_app, nl_lit]
        show _ = prSrc is ++ (lit "axiom " ++ nn ++ lit ": " ++ s5.pr ++ lit ";" ++ [10])
        simp only [List.append_assoc]
      rw [et]
      have DI : Dp K (upd (upd H5 p2 (.tup [.str (Str.ofString "axiom"), .str (T nn), v5])) it (.lst (ws ++ [.ref p2]))) (.ref p2) (Itm.ax nn s5).D := .tup hp7 (.cons (.str _) (.cons (.str _) (.cons hv6 .nil)))
      refine ⟨is ++ [.ax nn s5], ws ++ [.ref p2], _, _, _, _, _, rfl, by rw [List.length_append, hl]; rfl, e9 _ _ upd_same, ?_, ?_, ?_, ?_⟩
      · rw [List.map_append]
        exact DpAll.same e9 (dpAll_app (DpAll.kt kt hT (DpAll.same S6 hD)) (.cons DI .nil))
      · intro j hj
        rcases List.mem_append.mp hj with hj | hj
        · exact hok j hj
        · rw [List.mem_singleton.mp hj]
          exact ⟨by show s5.dp < 5; omega, hsz⟩
      · exact (Same.mut _ (S1.trans S6) hitH).trans e9
      · exact ((na1.same S6).mono (SameX.at _) (na10.fresh hit)).same e9
  · rintro _ H2 ⟨is, ws, x8, x9, x10, x11, x12, rfl, hl, hit2, hD, hok, S2, _⟩
    dsimp only
    refine trt ?_
    exact same_txt (a := prSrc is) (fun Hx ex R rr => ⟨_, rfl, it, _, rfl, .inl ⟨SqL.of (ex _ _ hit2), fun u hu => ⟨u, ws, is, rfl, .of upd_same, DpAll.same (ex.trans (Same.new _ hu)) hD, by omega, hok, fun H' e' => rr H' ((Same.new _ hu).trans e')⟩⟩⟩) (gt_var rfl) fun H' _ => q H'
end
theorem all_mk {l : PySem.W.OpenLaw} {w : World} {K : PySem.W.Frag} {h : Heap} {mg : Str → Option Value} {fa : Addr} (X : K.In h) (G : h.Ns mainGlobals mg) (hfa : mg "law" = some (.ref fa))
    {f_print_concept : Addr} {od_print_concept an_print_concept : Option Addr} {sl_print_concept : Array (Option Value)} {oc_print_concept kV_print_concept dc_print_concept pm_print_concept cd_print_concept ct_print_concept : Value}
    {f_print_statement : Addr} {od_print_statement an_print_statement : Option Addr} {sl_print_statement : Array (Option Value)} {oc_print_statement kV_print_statement dc_print_statement pm_print_statement cd_print_statement ct_print_statement : Value}
    {f_print_question : Addr} {od_print_question an_print_question : Option Addr} {sl_print_question : Array (Option Value)} {oc_print_question kV_print_question dc_print_question pm_print_question cd_print_question ct_print_question : Value}
    {f_print_source : Addr} {od_print_source an_print_source : Option Addr} {sl_print_source : Array (Option Value)} {oc_print_source kV_print_source dc_print_source pm_print_source cd_print_source ct_print_source : Value}
    {f_item : Addr} {od_item an_item : Option Addr} {sl_item : Array (Option Value)} {oc_item kV_item dc_item pm_item cd_item ct_item : Value}
    {f_role : Addr} {od_role an_role : Option Addr} {sl_role : Array (Option Value)} {oc_role kV_role dc_role pm_role cd_role ct_role : Value}
    {f_rank : Addr} {od_rank an_rank : Option Addr} {sl_rank : Array (Option Value)} {oc_rank kV_rank dc_rank pm_rank cd_rank ct_rank : Value}
    {f_operand : Addr} {od_operand an_operand : Option Addr} {sl_operand : Array (Option Value)} {oc_operand kV_operand dc_operand pm_operand cd_operand ct_operand : Value}
    {f_law_cell : Addr} {od_law_cell an_law_cell : Option Addr} {sl_law_cell : Array (Option Value)} {oc_law_cell kV_law_cell dc_law_cell pm_law_cell cd_law_cell ct_law_cell : Value}
    {f_law_draws : Addr} {od_law_draws an_law_draws : Option Addr} {sl_law_draws : Array (Option Value)} {oc_law_draws kV_law_draws dc_law_draws pm_law_draws cd_law_draws ct_law_draws : Value}
    {f_law_take : Addr} {od_law_take an_law_take : Option Addr} {sl_law_take : Array (Option Value)} {oc_law_take kV_law_take dc_law_take pm_law_take cd_law_take ct_law_take : Value}
    {f_law_frame : Addr} {od_law_frame an_law_frame : Option Addr} {sl_law_frame : Array (Option Value)} {oc_law_frame kV_law_frame dc_law_frame pm_law_frame cd_law_frame ct_law_frame : Value}
    {f_law_names : Addr} {od_law_names an_law_names : Option Addr} {sl_law_names : Array (Option Value)} {oc_law_names kV_law_names dc_law_names pm_law_names cd_law_names ct_law_names : Value}
    {f_law_role : Addr} {od_law_role an_law_role : Option Addr} {sl_law_role : Array (Option Value)} {oc_law_role kV_law_role dc_law_role pm_law_role cd_law_role ct_law_role : Value}
    {f_law_concept : Addr} {od_law_concept an_law_concept : Option Addr} {sl_law_concept : Array (Option Value)} {oc_law_concept kV_law_concept dc_law_concept pm_law_concept cd_law_concept ct_law_concept : Value}
    {f_law_statement : Addr} {od_law_statement an_law_statement : Option Addr} {sl_law_statement : Array (Option Value)} {oc_law_statement kV_law_statement dc_law_statement pm_law_statement cd_law_statement ct_law_statement : Value}
    {f_law_question : Addr} {od_law_question an_law_question : Option Addr} {sl_law_question : Array (Option Value)} {oc_law_question kV_law_question dc_law_question pm_law_question cd_law_question ct_law_question : Value}
    {f_law_say_role : Addr} {od_law_say_role an_law_say_role : Option Addr} {sl_law_say_role : Array (Option Value)} {oc_law_say_role kV_law_say_role dc_law_say_role pm_law_say_role cd_law_say_role ct_law_say_role : Value}
    {f_law_say : Addr} {od_law_say an_law_say : Option Addr} {sl_law_say : Array (Option Value)} {oc_law_say kV_law_say dc_law_say pm_law_say cd_law_say ct_law_say : Value}
    {f_law_says : Addr} {od_law_says an_law_says : Option Addr} {sl_law_says : Array (Option Value)} {oc_law_says kV_law_says dc_law_says pm_law_says cd_law_says ct_law_says : Value}
    {f_law_same : Addr} {od_law_same an_law_same : Option Addr} {sl_law_same : Array (Option Value)} {oc_law_same kV_law_same dc_law_same pm_law_same cd_law_same ct_law_same : Value}
    {r_DECLARING : Addr} {e_DECLARING : Array DictEntry} {n_DECLARING : Nat} {t_DECLARING0 : Tok} {t_DECLARING1 : Tok} {t_DECLARING2 : Tok}
    {t_OR_RANK : Tok}
    {t_AND_RANK : Tok}
    {t_FRONT_RANK : Tok}
    {od_law an_law : Option Addr} {sl_law : Array (Option Value)} {oc_law kV_law dc_law pm_law cd_law ct_law : Value} {f_law : Addr}
    (a_print_concept : PySem.W.nsIn K mainGlobals "print_concept" = some (some (.ref f_print_concept))) (l_print_concept : K.lookup f_print_concept = some ⟨oc_print_concept, od_print_concept, .func (PySem.W.fnOf "print_concept" "print_concept" (defArgs s_print_concept) (defBody s_print_concept) (defScope s_print_concept) .none kV_print_concept dc_print_concept pm_print_concept an_print_concept cd_print_concept ct_print_concept), sl_print_concept⟩) (w_print_concept : PySem.W.codeIn K cd_print_concept "print_concept" = true) (k_print_concept : PySem.W.keepIn K (.ref f_print_concept) = true)
    (a_print_statement : PySem.W.nsIn K mainGlobals "print_statement" = some (some (.ref f_print_statement))) (l_print_statement : K.lookup f_print_statement = some ⟨oc_print_statement, od_print_statement, .func (PySem.W.fnOf "print_statement" "print_statement" (defArgs s_print_statement) (defBody s_print_statement) (defScope s_print_statement) .none kV_print_statement dc_print_statement pm_print_statement an_print_statement cd_print_statement ct_print_statement), sl_print_statement⟩) (w_print_statement : PySem.W.codeIn K cd_print_statement "print_statement" = true) (k_print_statement : PySem.W.keepIn K (.ref f_print_statement) = true)
    (a_print_question : PySem.W.nsIn K mainGlobals "print_question" = some (some (.ref f_print_question))) (l_print_question : K.lookup f_print_question = some ⟨oc_print_question, od_print_question, .func (PySem.W.fnOf "print_question" "print_question" (defArgs s_print_question) (defBody s_print_question) (defScope s_print_question) .none kV_print_question dc_print_question pm_print_question an_print_question cd_print_question ct_print_question), sl_print_question⟩) (w_print_question : PySem.W.codeIn K cd_print_question "print_question" = true) (k_print_question : PySem.W.keepIn K (.ref f_print_question) = true)
    (a_print_source : PySem.W.nsIn K mainGlobals "print_source" = some (some (.ref f_print_source))) (l_print_source : K.lookup f_print_source = some ⟨oc_print_source, od_print_source, .func (PySem.W.fnOf "print_source" "print_source" (defArgs s_print_source) (defBody s_print_source) (defScope s_print_source) .none kV_print_source dc_print_source pm_print_source an_print_source cd_print_source ct_print_source), sl_print_source⟩) (w_print_source : PySem.W.codeIn K cd_print_source "print_source" = true) (k_print_source : PySem.W.keepIn K (.ref f_print_source) = true)
    (a_item : PySem.W.nsIn K mainGlobals "_item" = some (some (.ref f_item))) (l_item : K.lookup f_item = some ⟨oc_item, od_item, .func (PySem.W.fnOf "_item" "_item" (defArgs s_item) (defBody s_item) (defScope s_item) .none kV_item dc_item pm_item an_item cd_item ct_item), sl_item⟩) (w_item : PySem.W.codeIn K cd_item "_item" = true) (k_item : PySem.W.keepIn K (.ref f_item) = true)
    (a_role : PySem.W.nsIn K mainGlobals "_role" = some (some (.ref f_role))) (l_role : K.lookup f_role = some ⟨oc_role, od_role, .func (PySem.W.fnOf "_role" "_role" (defArgs s_role) (defBody s_role) (defScope s_role) .none kV_role dc_role pm_role an_role cd_role ct_role), sl_role⟩) (w_role : PySem.W.codeIn K cd_role "_role" = true) (k_role : PySem.W.keepIn K (.ref f_role) = true)
    (a_rank : PySem.W.nsIn K mainGlobals "_rank" = some (some (.ref f_rank))) (l_rank : K.lookup f_rank = some ⟨oc_rank, od_rank, .func (PySem.W.fnOf "_rank" "_rank" (defArgs s_rank) (defBody s_rank) (defScope s_rank) .none kV_rank dc_rank pm_rank an_rank cd_rank ct_rank), sl_rank⟩) (w_rank : PySem.W.codeIn K cd_rank "_rank" = true) (k_rank : PySem.W.keepIn K (.ref f_rank) = true)
    (a_operand : PySem.W.nsIn K mainGlobals "_operand" = some (some (.ref f_operand))) (l_operand : K.lookup f_operand = some ⟨oc_operand, od_operand, .func (PySem.W.fnOf "_operand" "_operand" (defArgs s_operand) (defBody s_operand) (defScope s_operand) .none kV_operand dc_operand pm_operand an_operand cd_operand ct_operand), sl_operand⟩) (w_operand : PySem.W.codeIn K cd_operand "_operand" = true) (k_operand : PySem.W.keepIn K (.ref f_operand) = true)
    (a_law_cell : PySem.W.nsIn K mainGlobals "_law_cell" = some (some (.ref f_law_cell))) (l_law_cell : K.lookup f_law_cell = some ⟨oc_law_cell, od_law_cell, .func (PySem.W.fnOf "_law_cell" "_law_cell" (defArgs s_law_cell) (defBody s_law_cell) (defScope s_law_cell) .none kV_law_cell dc_law_cell pm_law_cell an_law_cell cd_law_cell ct_law_cell), sl_law_cell⟩) (w_law_cell : PySem.W.codeIn K cd_law_cell "_law_cell" = true) (k_law_cell : PySem.W.keepIn K (.ref f_law_cell) = true)
    (a_law_draws : PySem.W.nsIn K mainGlobals "_law_draws" = some (some (.ref f_law_draws))) (l_law_draws : K.lookup f_law_draws = some ⟨oc_law_draws, od_law_draws, .func (PySem.W.fnOf "_law_draws" "_law_draws" (defArgs s_law_draws) (defBody s_law_draws) (defScope s_law_draws) .none kV_law_draws dc_law_draws pm_law_draws an_law_draws cd_law_draws ct_law_draws), sl_law_draws⟩) (w_law_draws : PySem.W.codeIn K cd_law_draws "_law_draws" = true) (k_law_draws : PySem.W.keepIn K (.ref f_law_draws) = true)
    (a_law_take : PySem.W.nsIn K mainGlobals "_law_take" = some (some (.ref f_law_take))) (l_law_take : K.lookup f_law_take = some ⟨oc_law_take, od_law_take, .func (PySem.W.fnOf "_law_take" "_law_take" (defArgs s_law_take) (defBody s_law_take) (defScope s_law_take) .none kV_law_take dc_law_take pm_law_take an_law_take cd_law_take ct_law_take), sl_law_take⟩) (w_law_take : PySem.W.codeIn K cd_law_take "_law_take" = true) (k_law_take : PySem.W.keepIn K (.ref f_law_take) = true)
    (a_law_frame : PySem.W.nsIn K mainGlobals "_law_frame" = some (some (.ref f_law_frame))) (l_law_frame : K.lookup f_law_frame = some ⟨oc_law_frame, od_law_frame, .func (PySem.W.fnOf "_law_frame" "_law_frame" (defArgs s_law_frame) (defBody s_law_frame) (defScope s_law_frame) .none kV_law_frame dc_law_frame pm_law_frame an_law_frame cd_law_frame ct_law_frame), sl_law_frame⟩) (w_law_frame : PySem.W.codeIn K cd_law_frame "_law_frame" = true) (k_law_frame : PySem.W.keepIn K (.ref f_law_frame) = true)
    (a_law_names : PySem.W.nsIn K mainGlobals "_law_names" = some (some (.ref f_law_names))) (l_law_names : K.lookup f_law_names = some ⟨oc_law_names, od_law_names, .func (PySem.W.fnOf "_law_names" "_law_names" (defArgs s_law_names) (defBody s_law_names) (defScope s_law_names) .none kV_law_names dc_law_names pm_law_names an_law_names cd_law_names ct_law_names), sl_law_names⟩) (w_law_names : PySem.W.codeIn K cd_law_names "_law_names" = true) (k_law_names : PySem.W.keepIn K (.ref f_law_names) = true)
    (a_law_role : PySem.W.nsIn K mainGlobals "_law_role" = some (some (.ref f_law_role))) (l_law_role : K.lookup f_law_role = some ⟨oc_law_role, od_law_role, .func (PySem.W.fnOf "_law_role" "_law_role" (defArgs s_law_role) (defBody s_law_role) (defScope s_law_role) .none kV_law_role dc_law_role pm_law_role an_law_role cd_law_role ct_law_role), sl_law_role⟩) (w_law_role : PySem.W.codeIn K cd_law_role "_law_role" = true) (k_law_role : PySem.W.keepIn K (.ref f_law_role) = true)
    (a_law_concept : PySem.W.nsIn K mainGlobals "_law_concept" = some (some (.ref f_law_concept))) (l_law_concept : K.lookup f_law_concept = some ⟨oc_law_concept, od_law_concept, .func (PySem.W.fnOf "_law_concept" "_law_concept" (defArgs s_law_concept) (defBody s_law_concept) (defScope s_law_concept) .none kV_law_concept dc_law_concept pm_law_concept an_law_concept cd_law_concept ct_law_concept), sl_law_concept⟩) (w_law_concept : PySem.W.codeIn K cd_law_concept "_law_concept" = true) (k_law_concept : PySem.W.keepIn K (.ref f_law_concept) = true)
    (a_law_statement : PySem.W.nsIn K mainGlobals "_law_statement" = some (some (.ref f_law_statement))) (l_law_statement : K.lookup f_law_statement = some ⟨oc_law_statement, od_law_statement, .func (PySem.W.fnOf "_law_statement" "_law_statement" (defArgs s_law_statement) (defBody s_law_statement) (defScope s_law_statement) .none kV_law_statement dc_law_statement pm_law_statement an_law_statement cd_law_statement ct_law_statement), sl_law_statement⟩) (w_law_statement : PySem.W.codeIn K cd_law_statement "_law_statement" = true) (k_law_statement : PySem.W.keepIn K (.ref f_law_statement) = true)
    (a_law_question : PySem.W.nsIn K mainGlobals "_law_question" = some (some (.ref f_law_question))) (l_law_question : K.lookup f_law_question = some ⟨oc_law_question, od_law_question, .func (PySem.W.fnOf "_law_question" "_law_question" (defArgs s_law_question) (defBody s_law_question) (defScope s_law_question) .none kV_law_question dc_law_question pm_law_question an_law_question cd_law_question ct_law_question), sl_law_question⟩) (w_law_question : PySem.W.codeIn K cd_law_question "_law_question" = true) (k_law_question : PySem.W.keepIn K (.ref f_law_question) = true)
    (a_law_say_role : PySem.W.nsIn K mainGlobals "_law_say_role" = some (some (.ref f_law_say_role))) (l_law_say_role : K.lookup f_law_say_role = some ⟨oc_law_say_role, od_law_say_role, .func (PySem.W.fnOf "_law_say_role" "_law_say_role" (defArgs s_law_say_role) (defBody s_law_say_role) (defScope s_law_say_role) .none kV_law_say_role dc_law_say_role pm_law_say_role an_law_say_role cd_law_say_role ct_law_say_role), sl_law_say_role⟩) (w_law_say_role : PySem.W.codeIn K cd_law_say_role "_law_say_role" = true) (k_law_say_role : PySem.W.keepIn K (.ref f_law_say_role) = true)
    (a_law_say : PySem.W.nsIn K mainGlobals "_law_say" = some (some (.ref f_law_say))) (l_law_say : K.lookup f_law_say = some ⟨oc_law_say, od_law_say, .func (PySem.W.fnOf "_law_say" "_law_say" (defArgs s_law_say) (defBody s_law_say) (defScope s_law_say) .none kV_law_say dc_law_say pm_law_say an_law_say cd_law_say ct_law_say), sl_law_say⟩) (w_law_say : PySem.W.codeIn K cd_law_say "_law_say" = true) (k_law_say : PySem.W.keepIn K (.ref f_law_say) = true)
    (a_law_says : PySem.W.nsIn K mainGlobals "_law_says" = some (some (.ref f_law_says))) (l_law_says : K.lookup f_law_says = some ⟨oc_law_says, od_law_says, .func (PySem.W.fnOf "_law_says" "_law_says" (defArgs s_law_says) (defBody s_law_says) (defScope s_law_says) .none kV_law_says dc_law_says pm_law_says an_law_says cd_law_says ct_law_says), sl_law_says⟩) (w_law_says : PySem.W.codeIn K cd_law_says "_law_says" = true) (k_law_says : PySem.W.keepIn K (.ref f_law_says) = true)
    (a_law_same : PySem.W.nsIn K mainGlobals "_law_same" = some (some (.ref f_law_same))) (l_law_same : K.lookup f_law_same = some ⟨oc_law_same, od_law_same, .func (PySem.W.fnOf "_law_same" "_law_same" (defArgs s_law_same) (defBody s_law_same) (defScope s_law_same) .none kV_law_same dc_law_same pm_law_same an_law_same cd_law_same ct_law_same), sl_law_same⟩) (w_law_same : PySem.W.codeIn K cd_law_same "_law_same" = true) (k_law_same : PySem.W.keepIn K (.ref f_law_same) = true)
    (a_law : PySem.W.nsIn K mainGlobals "law" = some (some (.ref f_law))) (l_law : K.lookup f_law = some ⟨oc_law, od_law, .func (PySem.W.fnOf "law" "law" (defArgs s_law) (defBody s_law) (defScope s_law) .none kV_law dc_law pm_law an_law cd_law ct_law), sl_law⟩) (w_law : PySem.W.codeIn K cd_law "law" = true) (k_law : PySem.W.keepIn K (.ref f_law) = true)
    (y_all : PySem.W.nsIn K mainGlobals "all" = some none)
    (y_bool : PySem.W.nsIn K mainGlobals "bool" = some none)
    (y_int : PySem.W.nsIn K mainGlobals "int" = some none)
    (y_isinstance : PySem.W.nsIn K mainGlobals "isinstance" = some none)
    (y_len : PySem.W.nsIn K mainGlobals "len" = some none)
    (y_min : PySem.W.nsIn K mainGlobals "min" = some none)
    (y_range : PySem.W.nsIn K mainGlobals "range" = some none)
    (y_str : PySem.W.nsIn K mainGlobals "str" = some none)
    (y_tuple : PySem.W.nsIn K mainGlobals "tuple" = some none)
    (g_DECLARING : PySem.W.nsIn K mainGlobals "DECLARING" = some (some (.ref r_DECLARING))) (u_DECLARING : K.lookup r_DECLARING = some ⟨.type "dict", none, .dict e_DECLARING n_DECLARING, #[]⟩) (x_DECLARING : PySem.W.KeysLit w.params e_DECLARING.toList)
    (q_DECLARING0 : PySem.W.nsIn K r_DECLARING "concepts" = some (some (.str "concept" t_DECLARING0)))
    (q_DECLARING1 : PySem.W.nsIn K r_DECLARING "roles" = some (some (.str "role" t_DECLARING1)))
    (q_DECLARING2 : PySem.W.nsIn K r_DECLARING "individuals" = some (some (.str "individual" t_DECLARING2)))
    (g_OR_RANK : PySem.W.nsIn K mainGlobals "OR_RANK" = some (some (.int K_OR_RANK t_OR_RANK)))
    (g_AND_RANK : PySem.W.nsIn K mainGlobals "AND_RANK" = some (some (.int K_AND_RANK t_AND_RANK)))
    (g_FRONT_RANK : PySem.W.nsIn K mainGlobals "FRONT_RANK" = some (some (.int K_FRONT_RANK t_FRONT_RANK))) :
    ∃ fd : FuncData, (∀ (s : Shared) (v : Value), BindsTo s fd ⟨[v], []⟩ [("script", v)]) ∧ ∀ base : Heap, K.In base → base.Ns mainGlobals mg → FnOk l.prog w K mg base CX0 15 fa fd ["script"] (spLaw K) := by
  have e := hfa.symm.trans (PySem.W.mg_of X G a_law)
  cases e
  have D_print_concept : Df K mg "print_concept" s_print_concept f_print_concept _ ["concept"] := ⟨fun_mk (st := s_print_concept) l_print_concept w_print_concept k_print_concept, PySem.W.mg_of X G a_print_concept, k_print_concept, (fun_mk (st := s_print_concept) l_print_concept w_print_concept k_print_concept).binds (ps := ["concept"]) fun _ _ _ _ _ _ us hl => match us, hl with | [_], _ => rfl⟩
  have D_print_statement : Df K mg "print_statement" s_print_statement f_print_statement _ ["statement"] := ⟨fun_mk (st := s_print_statement) l_print_statement w_print_statement k_print_statement, PySem.W.mg_of X G a_print_statement, k_print_statement, (fun_mk (st := s_print_statement) l_print_statement w_print_statement k_print_statement).binds (ps := ["statement"]) fun _ _ _ _ _ _ us hl => match us, hl with | [_], _ => rfl⟩
  have D_print_question : Df K mg "print_question" s_print_question f_print_question _ ["question"] := ⟨fun_mk (st := s_print_question) l_print_question w_print_question k_print_question, PySem.W.mg_of X G a_print_question, k_print_question, (fun_mk (st := s_print_question) l_print_question w_print_question k_print_question).binds (ps := ["question"]) fun _ _ _ _ _ _ us hl => match us, hl with | [_], _ => rfl⟩
  have D_print_source : Df K mg "print_source" s_print_source f_print_source _ ["items"] := ⟨fun_mk (st := s_print_source) l_print_source w_print_source k_print_source, PySem.W.mg_of X G a_print_source, k_print_source, (fun_mk (st := s_print_source) l_print_source w_print_source k_print_source).binds (ps := ["items"]) fun _ _ _ _ _ _ us hl => match us, hl with | [_], _ => rfl⟩
  have D_item : Df K mg "_item" s_item f_item _ ["item"] := ⟨fun_mk (st := s_item) l_item w_item k_item, PySem.W.mg_of X G a_item, k_item, (fun_mk (st := s_item) l_item w_item k_item).binds (ps := ["item"]) fun _ _ _ _ _ _ us hl => match us, hl with | [_], _ => rfl⟩
  have D_role : Df K mg "_role" s_role f_role _ ["role"] := ⟨fun_mk (st := s_role) l_role w_role k_role, PySem.W.mg_of X G a_role, k_role, (fun_mk (st := s_role) l_role w_role k_role).binds (ps := ["role"]) fun _ _ _ _ _ _ us hl => match us, hl with | [_], _ => rfl⟩
  have D_rank : Df K mg "_rank" s_rank f_rank _ ["concept"] := ⟨fun_mk (st := s_rank) l_rank w_rank k_rank, PySem.W.mg_of X G a_rank, k_rank, (fun_mk (st := s_rank) l_rank w_rank k_rank).binds (ps := ["concept"]) fun _ _ _ _ _ _ us hl => match us, hl with | [_], _ => rfl⟩
  have D_operand : Df K mg "_operand" s_operand f_operand _ ["concept", "rank"] := ⟨fun_mk (st := s_operand) l_operand w_operand k_operand, PySem.W.mg_of X G a_operand, k_operand, (fun_mk (st := s_operand) l_operand w_operand k_operand).binds (ps := ["concept", "rank"]) fun _ _ _ _ _ _ us hl => match us, hl with | [_, _], _ => rfl⟩
  have D_law_cell : Df K mg "_law_cell" s_law_cell f_law_cell _ ["script", "k"] := ⟨fun_mk (st := s_law_cell) l_law_cell w_law_cell k_law_cell, PySem.W.mg_of X G a_law_cell, k_law_cell, (fun_mk (st := s_law_cell) l_law_cell w_law_cell k_law_cell).binds (ps := ["script", "k"]) fun _ _ _ _ _ _ us hl => match us, hl with | [_, _], _ => rfl⟩
  have D_law_draws : Df K mg "_law_draws" s_law_draws f_law_draws _ ["script", "k", "count"] := ⟨fun_mk (st := s_law_draws) l_law_draws w_law_draws k_law_draws, PySem.W.mg_of X G a_law_draws, k_law_draws, (fun_mk (st := s_law_draws) l_law_draws w_law_draws k_law_draws).binds (ps := ["script", "k", "count"]) fun _ _ _ _ _ _ us hl => match us, hl with | [_, _, _], _ => rfl⟩
  have D_law_take : Df K mg "_law_take" s_law_take f_law_take _ ["draws", "many"] := ⟨fun_mk (st := s_law_take) l_law_take w_law_take k_law_take, PySem.W.mg_of X G a_law_take, k_law_take, (fun_mk (st := s_law_take) l_law_take w_law_take k_law_take).binds (ps := ["draws", "many"]) fun _ _ _ _ _ _ us hl => match us, hl with | [_, _], _ => rfl⟩
  have D_law_frame : Df K mg "_law_frame" s_law_frame f_law_frame _ ["draws"] := ⟨fun_mk (st := s_law_frame) l_law_frame w_law_frame k_law_frame, PySem.W.mg_of X G a_law_frame, k_law_frame, (fun_mk (st := s_law_frame) l_law_frame w_law_frame k_law_frame).binds (ps := ["draws"]) fun _ _ _ _ _ _ us hl => match us, hl with | [_], _ => rfl⟩
  have D_law_names : Df K mg "_law_names" s_law_names f_law_names _ ["draws"] := ⟨fun_mk (st := s_law_names) l_law_names w_law_names k_law_names, PySem.W.mg_of X G a_law_names, k_law_names, (fun_mk (st := s_law_names) l_law_names w_law_names k_law_names).binds (ps := ["draws"]) fun _ _ _ _ _ _ us hl => match us, hl with | [_], _ => rfl⟩
  have D_law_role : Df K mg "_law_role" s_law_role f_law_role _ ["draws", "names", "sizes"] := ⟨fun_mk (st := s_law_role) l_law_role w_law_role k_law_role, PySem.W.mg_of X G a_law_role, k_law_role, (fun_mk (st := s_law_role) l_law_role w_law_role k_law_role).binds (ps := ["draws", "names", "sizes"]) fun _ _ _ _ _ _ us hl => match us, hl with | [_, _, _], _ => rfl⟩
  have D_law_concept : Df K mg "_law_concept" s_law_concept f_law_concept _ ["draws", "names", "sizes", "depth"] := ⟨fun_mk (st := s_law_concept) l_law_concept w_law_concept k_law_concept, PySem.W.mg_of X G a_law_concept, k_law_concept, (fun_mk (st := s_law_concept) l_law_concept w_law_concept k_law_concept).binds (ps := ["draws", "names", "sizes", "depth"]) fun _ _ _ _ _ _ us hl => match us, hl with | [_, _, _, _], _ => rfl⟩
  have D_law_statement : Df K mg "_law_statement" s_law_statement f_law_statement _ ["draws", "names", "sizes", "depth"] := ⟨fun_mk (st := s_law_statement) l_law_statement w_law_statement k_law_statement, PySem.W.mg_of X G a_law_statement, k_law_statement, (fun_mk (st := s_law_statement) l_law_statement w_law_statement k_law_statement).binds (ps := ["draws", "names", "sizes", "depth"]) fun _ _ _ _ _ _ us hl => match us, hl with | [_, _, _, _], _ => rfl⟩
  have D_law_question : Df K mg "_law_question" s_law_question f_law_question _ ["draws", "names", "sizes", "depth"] := ⟨fun_mk (st := s_law_question) l_law_question w_law_question k_law_question, PySem.W.mg_of X G a_law_question, k_law_question, (fun_mk (st := s_law_question) l_law_question w_law_question k_law_question).binds (ps := ["draws", "names", "sizes", "depth"]) fun _ _ _ _ _ _ us hl => match us, hl with | [_, _, _, _], _ => rfl⟩
  have D_law_say_role : Df K mg "_law_say_role" s_law_say_role f_law_say_role _ ["role"] := ⟨fun_mk (st := s_law_say_role) l_law_say_role w_law_say_role k_law_say_role, PySem.W.mg_of X G a_law_say_role, k_law_say_role, (fun_mk (st := s_law_say_role) l_law_say_role w_law_say_role k_law_say_role).binds (ps := ["role"]) fun _ _ _ _ _ _ us hl => match us, hl with | [_], _ => rfl⟩
  have D_law_say : Df K mg "_law_say" s_law_say f_law_say _ ["concept", "least"] := ⟨fun_mk (st := s_law_say) l_law_say w_law_say k_law_say, PySem.W.mg_of X G a_law_say, k_law_say, (fun_mk (st := s_law_say) l_law_say w_law_say k_law_say).binds (ps := ["concept", "least"]) fun _ _ _ _ _ _ us hl => match us, hl with | [_, _], _ => rfl⟩
  have D_law_says : Df K mg "_law_says" s_law_says f_law_says _ ["tree"] := ⟨fun_mk (st := s_law_says) l_law_says w_law_says k_law_says, PySem.W.mg_of X G a_law_says, k_law_says, (fun_mk (st := s_law_says) l_law_says w_law_says k_law_says).binds (ps := ["tree"]) fun _ _ _ _ _ _ us hl => match us, hl with | [_], _ => rfl⟩
  have D_law_same : Df K mg "_law_same" s_law_same f_law_same _ ["actual", "due"] := ⟨fun_mk (st := s_law_same) l_law_same w_law_same k_law_same, PySem.W.mg_of X G a_law_same, k_law_same, (fun_mk (st := s_law_same) l_law_same w_law_same k_law_same).binds (ps := ["actual", "due"]) fun _ _ _ _ _ _ us hl => match us, hl with | [_, _], _ => rfl⟩
  have z_all : mg "all" = none := PySem.W.mg_none_of X G y_all
  have z_bool : mg "bool" = none := PySem.W.mg_none_of X G y_bool
  have z_int : mg "int" = none := PySem.W.mg_none_of X G y_int
  have z_isinstance : mg "isinstance" = none := PySem.W.mg_none_of X G y_isinstance
  have z_len : mg "len" = none := PySem.W.mg_none_of X G y_len
  have z_min : mg "min" = none := PySem.W.mg_none_of X G y_min
  have z_range : mg "range" = none := PySem.W.mg_none_of X G y_range
  have z_str : mg "str" = none := PySem.W.mg_none_of X G y_str
  have z_tuple : mg "tuple" = none := PySem.W.mg_none_of X G y_tuple
  have m_DECLARING : mg "DECLARING" = some _ := PySem.W.mg_of X G g_DECLARING
  have T_DECLARING : ∀ p ∈ K_DECLARING, KDct K w r_DECLARING p.1 (.str p.2) := fun p hp => by
    rcases List.mem_cons.mp hp with rfl | hp
    · exact ⟨_, _, _, u_DECLARING, x_DECLARING, q_DECLARING0, ⟨_, rfl⟩⟩
    rcases List.mem_cons.mp hp with rfl | hp
    · exact ⟨_, _, _, u_DECLARING, x_DECLARING, q_DECLARING1, ⟨_, rfl⟩⟩
    rw [List.mem_singleton.mp hp]
    exact ⟨_, _, _, u_DECLARING, x_DECLARING, q_DECLARING2, ⟨_, rfl⟩⟩
  have m_OR_RANK : mg "OR_RANK" = some _ := PySem.W.mg_of X G g_OR_RANK
  have m_AND_RANK : mg "AND_RANK" = some _ := PySem.W.mg_of X G g_AND_RANK
  have m_FRONT_RANK : mg "FRONT_RANK" = some _ := PySem.W.mg_of X G g_FRONT_RANK
  have F_law := fun_mk (st := s_law) l_law w_law k_law
  refine ⟨PySem.W.fnOf "law" "law" (defArgs s_law) (defBody s_law) (defScope s_law) .none kV_law dc_law pm_law an_law cd_law ct_law, fun s v => .of_eq rfl, fun base _ _ => ?_⟩
  have c1 := c_law_cell (P := l.prog) (w := w) (base := base) D_law_cell z_len z_int
  have ct := c_law_take (P := l.prog) (w := w) (base := base) D_law_take z_int
  have cr := c_role (P := l.prog) (w := w) (base := base) D_role
  have ck := c_rank (P := l.prog) (w := w) (base := base) D_rank m_OR_RANK m_AND_RANK m_FRONT_RANK
  have cp := c_print_concept D_print_concept D_operand ck cr m_FRONT_RANK (t1 := 0) 5
  have cs := c_print_statement D_print_statement cp cr (by decide)
  have lr := c_law_role D_law_role ct
  have lc := c_law_concept D_law_concept ct lr 5
  have sr := c_law_say_role (P := l.prog) (w := w) (base := base) D_law_say_role
  have sy := c_law_say D_law_say sr 5
  exact ok_law F_law (c_law_draws D_law_draws c1 z_int z_range) ct c1 (c_law_names D_law_names (c_law_frame D_law_frame ct z_range)) lc (c_law_statement (by decide) D_law_statement ct lr lc z_min) (c_law_question (by decide) D_law_question ct lc)
    sy (c_law_says (by decide) D_law_says sy sr) cp cs (c_print_question D_print_question cs) (c_print_source D_print_source (c_item D_item cs m_DECLARING T_DECLARING)) (c_law_same D_law_same z_isinstance z_tuple z_bool z_int z_str z_len z_all z_range 1) z_range z_int z_tuple
end Pf
open PySem PySem.W PyProof.Rows
set_option maxHeartbeats 0 in
theorem PySem.Challenge.cw_ontoworks_k47_canonical_texts_holds : PySem.Challenge.rw_ontoworks_k47_canonical_texts.Holds := by
  w_on; o_law; k_head; (case hw => w_witness2)
  k_fill
  refine L2.walk_of (l := PySem.Challenge.rw_ontoworks_k47_canonical_texts) (n := 63) (k := 15) (x := "script") (CX := fun _ => L2.CX0) (sp := fun w => Pf.spLaw _) rfl (by decide) rfl ⟨rfl, by decide, by decide⟩ (fun w h Y => PySem.W.kIn_of Y) ?F (fun _ _ a ns hl _ hS => ⟨a, ns, rfl, hS, hl, fun _ => rfl⟩) (fun _ _ _ _ _ h => h)
  case F =>
    intro w mg fa h KX G hmg
    refine' Pf.all_mk KX G hmg ?a_print_concept ?l_print_concept ?w_print_concept ?k_print_concept ?a_print_statement ?l_print_statement ?w_print_statement ?k_print_statement ?a_print_question ?l_print_question ?w_print_question ?k_print_question ?a_print_source ?l_print_source ?w_print_source ?k_print_source ?a_item ?l_item ?w_item ?k_item ?a_role ?l_role ?w_role ?k_role ?a_rank ?l_rank ?w_rank ?k_rank ?a_operand ?l_operand ?w_operand ?k_operand ?a_law_cell ?l_law_cell ?w_law_cell ?k_law_cell ?a_law_draws ?l_law_draws ?w_law_draws ?k_law_draws ?a_law_take ?l_law_take ?w_law_take ?k_law_take ?a_law_frame ?l_law_frame ?w_law_frame ?k_law_frame ?a_law_names ?l_law_names ?w_law_names ?k_law_names ?a_law_role ?l_law_role ?w_law_role ?k_law_role ?a_law_concept ?l_law_concept ?w_law_concept ?k_law_concept ?a_law_statement ?l_law_statement ?w_law_statement ?k_law_statement ?a_law_question ?l_law_question ?w_law_question ?k_law_question ?a_law_say_role ?l_law_say_role ?w_law_say_role ?k_law_say_role ?a_law_say ?l_law_say ?w_law_say ?k_law_say ?a_law_says ?l_law_says ?w_law_says ?k_law_says ?a_law_same ?l_law_same ?w_law_same ?k_law_same ?a_law ?l_law ?w_law ?k_law ?y_all ?y_bool ?y_int ?y_isinstance ?y_len ?y_min ?y_range ?y_str ?y_tuple ?g_DECLARING ?u_DECLARING ?x_DECLARING ?q_DECLARING0 ?q_DECLARING1 ?q_DECLARING2 ?g_OR_RANK ?g_AND_RANK ?g_FRONT_RANK
    (case a_print_concept => k_is)
    (case l_print_concept => k_is)
    (case w_print_concept => k_is)
    (case k_print_concept => k_is)
    (case a_print_statement => k_is)
    (case l_print_statement => k_is)
    (case w_print_statement => k_is)
    (case k_print_statement => k_is)
    (case a_print_question => k_is)
    (case l_print_question => k_is)
    (case w_print_question => k_is)
    (case k_print_question => k_is)
    (case a_print_source => k_is)
    (case l_print_source => k_is)
    (case w_print_source => k_is)
    (case k_print_source => k_is)
    (case a_item => k_is)
    (case l_item => k_is)
    (case w_item => k_is)
    (case k_item => k_is)
    (case a_role => k_is)
    (case l_role => k_is)
    (case w_role => k_is)
    (case k_role => k_is)
    (case a_rank => k_is)
    (case l_rank => k_is)
    (case w_rank => k_is)
    (case k_rank => k_is)
    (case a_operand => k_is)
    (case l_operand => k_is)
    (case w_operand => k_is)
    (case k_operand => k_is)
    (case a_law_cell => k_is)
    (case l_law_cell => k_is)
    (case w_law_cell => k_is)
    (case k_law_cell => k_is)
    (case a_law_draws => k_is)
    (case l_law_draws => k_is)
    (case w_law_draws => k_is)
    (case k_law_draws => k_is)
    (case a_law_take => k_is)
    (case l_law_take => k_is)
    (case w_law_take => k_is)
    (case k_law_take => k_is)
    (case a_law_frame => k_is)
    (case l_law_frame => k_is)
    (case w_law_frame => k_is)
    (case k_law_frame => k_is)
    (case a_law_names => k_is)
    (case l_law_names => k_is)
    (case w_law_names => k_is)
    (case k_law_names => k_is)
    (case a_law_role => k_is)
    (case l_law_role => k_is)
    (case w_law_role => k_is)
    (case k_law_role => k_is)
    (case a_law_concept => k_is)
    (case l_law_concept => k_is)
    (case w_law_concept => k_is)
    (case k_law_concept => k_is)
    (case a_law_statement => k_is)
    (case l_law_statement => k_is)
    (case w_law_statement => k_is)
    (case k_law_statement => k_is)
    (case a_law_question => k_is)
    (case l_law_question => k_is)
    (case w_law_question => k_is)
    (case k_law_question => k_is)
    (case a_law_say_role => k_is)
    (case l_law_say_role => k_is)
    (case w_law_say_role => k_is)
    (case k_law_say_role => k_is)
    (case a_law_say => k_is)
    (case l_law_say => k_is)
    (case w_law_say => k_is)
    (case k_law_say => k_is)
    (case a_law_says => k_is)
    (case l_law_says => k_is)
    (case w_law_says => k_is)
    (case k_law_says => k_is)
    (case a_law_same => k_is)
    (case l_law_same => k_is)
    (case w_law_same => k_is)
    (case k_law_same => k_is)
    (case a_law => k_is)
    (case l_law => k_is)
    (case w_law => k_is)
    (case k_law => k_is)
    (case y_all => k_is)
    (case y_bool => k_is)
    (case y_int => k_is)
    (case y_isinstance => k_is)
    (case y_len => k_is)
    (case y_min => k_is)
    (case y_range => k_is)
    (case y_str => k_is)
    (case y_tuple => k_is)
    (case g_DECLARING => k_is); (case u_DECLARING => k_is); (case x_DECLARING => repeat (first | exact trivial | refine ⟨⟨_, _, rfl, rfl⟩, ?_⟩))
    (case q_DECLARING0 => k_is)
    (case q_DECLARING1 => k_is)
    (case q_DECLARING2 => k_is)
    (case g_OR_RANK => k_is)
    (case g_AND_RANK => k_is)
    (case g_FRONT_RANK => k_is)