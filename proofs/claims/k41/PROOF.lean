import PyProof.Rows.All
import Wide.All
import OpenK.AllK
import Wide.FinOn
import HandS.ForMost
import HandS.StrMore
import HandS.IsInst
import HandS.FStr
import HandS.Wide
import HandS.Flow
import HandS.TupAny
import HandS.Evl
import PySem.Challenge.RW_ontoworks_k41_is_name
set_option Elab.async false
set_option linter.all false
set_option maxRecDepth 100000
set_option maxHeartbeats 4000000

namespace Pf
open PySem PySem.Spec PyProof.Rows L2
/-- a def of the top under its name, bound without defaults -/
structure Df (K : PySem.W.Frag) (mg : Str → Option Value) (x : Str) (st : Stmt) (f : Addr) (fd : FuncData) (ps : List Str) : Prop where
  fn : Fun K x x st f fd
  mgf : mg x = some (.ref f)
  kp : PySem.W.keepIn K (.ref f) = true
  bd : Binds K fd ps []
/-- a def that keeps a promise, by its name -/
structure Cl (P : Program) (w : World) (K : PySem.W.Frag) (mg : Str → Option Value) (base : Heap) (k : Nat) (x : Str) (sp : Sp) : Prop where
  ex : ∃ (f : Addr) (fd : FuncData) (ps : List Str), FnOk P w K mg base CX0 k f fd ps sp ∧ mg x = some (.ref f) ∧ PySem.W.keepIn K (.ref f) = true ∧ Binds K fd ps []
section
variable {P : Program} {w : World} {K : PySem.W.Frag} {mg : Str → Option Value} {base : Heap}
theorem Df.cl {x : Str} {st : Stmt} {f : Addr} {fd : FuncData} {ps N : List Str} {k : Nat} {sp : Sp} (D : Df K mg x st f fd ps) (S : FnScope N ps (defScope st)) (len : ∀ vs H Q E, sp vs H Q E → vs.length = ps.length)
    (hbody : ∀ (cdv : Value) (A : Around) (outer : List Env) (s : Shared) (H : Hp) (vs : List V) (Q : VK) (E : XK), Room k (A.deeper (envOfC x (defScope st) s.heap.objs.size f cdv)) → sp vs H Q E →
      ∃ t, PSs (cxOf CX0 P w K mg base N x (defScope st) f cdv A outer s H E).nox (defBody st) t ∧ t { nx := fun _ H' => Q .non H', rt := Q } (start N vs) H) : Cl P w K mg base (k + 1) x sp :=
  ⟨f, fd, ps, D.fn.ok S len hbody, D.mgf, D.kp, D.bd⟩
theorem Cl.imp {x : Str} {k : Nat} {sp sp' : Sp} (c : Cl P w K mg base k x sp) (h : ∀ vs H Q E, sp' vs H Q E → sp vs H Q E) : Cl P w K mg base k x sp' := by
  obtain ⟨f, fd, ps, F, r⟩ := c.ex
  exact ⟨f, fd, ps, F.imp h, r⟩
theorem Cl.mono {x : Str} {k j : Nat} {sp : Sp} (c : Cl P w K mg base k x sp) (h : k ≤ j) : Cl P w K mg base j x sp := by
  obtain ⟨f, fd, ps, F, r⟩ := c.ex
  exact ⟨f, fd, ps, F.mono h, r⟩
end
section
variable {X : Cx} {k j : Nat} {x : Str} {sp : Sp} {p pos : Pos} {e : Expr} {es : List Expr} {t : TA}
theorem pc (c : Cl X.prog X.w X.K X.mg X.base k x sp) (hr : Room j X.A) (hk : k ≤ j) (hg : Gl X x) (ha : PA X (e :: es) t)
    (hdb : (x == ("__debug__" : Str)) = false := by decide) (he : starEach (e :: es) X.env = (false, eval e X.env) :: starEach es X.env := by rfl) (hpl : (backTo pos (starEach es X.env)).any (·.1) = false := by rfl) :
    PE X (.Call (.Name x p) (e :: es) [] pos) (tCall sp [] E0 t) := by
  obtain ⟨f, fd, ps, F, hm, kp, b⟩ := c.ex
  exact pe_call F (hr.mono hk) hg hm kp b .nil pass0 ha hdb he hpl
theorem pc0 (c : Cl X.prog X.w X.K X.mg X.base k x sp) (hr : Room j X.A) (hk : k ≤ j) (hg : Gl X x)
    (hdb : (x == ("__debug__" : Str)) = false := by decide) :
    PE X (.Call (.Name x p) [] [] pos) (tCall sp [] E0 tNil) := by
  obtain ⟨f, fd, ps, F, hm, kp, b⟩ := c.ex
  exact pe_call0 F (hr.mono hk) hg hm kp b .nil pass0 hdb
end
/-! heaps -/
theorem Same.new {H : Hp} {p : Addr} (o : HO) (h : H p = none) : Same H (upd H p o) := fun b u e => by
  rw [upd_ne (ne_of_none e h)]
  exact e
theorem Same.seqT {K : PySem.W.Frag} {H H' : Hp} {a : Addr} {xs : List V} (e : Same H H') (h : SqT K H a xs) : SqT K H' a xs := by
  rcases h with (h | ⟨o, h⟩) | h
  · exact .inl (.inl (e _ _ h))
  · exact .inl (.inr ⟨o, e _ _ h⟩)
  · exact .inr h
theorem upd_self {H : Hp} {a : Addr} {o : HO} (h : H a = some o) : upd H a o = H := by
  funext b
  unfold upd
  split
  · rename_i e
    rw [e, h]
  · rfl
/-! one short for the sign of a code -/
abbrev sg (c : Nat) : Str := ⟨#[c]⟩
/-! a written tuple of texts -/
def StrIts : List Value → List Str → Bool
  | [], [] => true
  | .str x _ :: vs, y :: ys => decide (x = y) && StrIts vs ys
  | _, _ => false
theorem strIts_vals : ∀ {vs : List Value} {ys : List Str}, StrIts vs ys = true → Vals (ys.map V.str) vs
  | [], [], _ => .nil
  | .str x t :: vs, y :: ys, h => by
    unfold StrIts at h
    rw [Bool.and_eq_true] at h
    have e := of_decide_eq_true h.1
    subst e
    exact .cons ⟨t, rfl⟩ (strIts_vals h.2)
theorem sqt_of {K : PySem.W.Frag} {H : Hp} {a : Addr} {od : Option Addr} {its : Array Value} {n : Nat} {sl : Array (Option Value)} {ys : List Str} (l : K.lookup a = some ⟨.type "tuple", od, .seq its n, sl⟩) (h : StrIts its.toList ys = true) (hs : decide (its.size ≤ 1000) = true) : SqT K H a (ys.map V.str) :=
  .inr ⟨_, its, n, l, rfl, rfl, Nat.le_trans (of_decide_eq_true hs) (by decide), strIts_vals h⟩
/-! the drawing helpers: what a caller needs of them -/
/-- _law_cell: some int -/
def spCell (K : PySem.W.Frag) : Sp := fun vs H Q _ => ∃ (a : Addr) (ns : List Int) (k : Int), vs = [.ref a, .int k] ∧ SqL K H a (ns.map V.int) ∧ ns.length ≤ 63 ∧ 0 ≤ k ∧ ∀ c : Int, Q (.int c) H
/-- _law_draws: a new list of so many ints, none below 0 -/
def spDraws (K : PySem.W.Frag) : Sp := fun vs H Q _ => ∃ (a : Addr) (ns : List Int) (k n : Int), vs = [.ref a, .int k, .int n] ∧ SqL K H a (ns.map V.int) ∧ ns.length ≤ 63 ∧ 0 ≤ k ∧ 0 ≤ n ∧ n ≤ 1000 ∧
  ∀ (ds : List Int) (p : Addr) (H' : Hp), Same H H' → H p = none → H' p = some (.lst (ds.map V.int)) → (ds.length : Int) = n → Q (.ref p) H'
/-- _law_take: an int below m; the list without its first -/
def spTake : Sp := fun vs H Q _ => ∃ (l : Addr) (ds : List Int) (m : Int), vs = [.ref l, .int m] ∧ H l = some (.lst (ds.map V.int)) ∧ 0 < m ∧ ∀ r : Int, 0 ≤ r → r < m → Q (.int r) (upd H l (.lst (ds.tail.map V.int)))
theorem map_tail {ds : List Int} : (ds.map V.int).tail = ds.tail.map V.int := by cases ds <;> rfl
theorem eraseIdx0 {α : Type} (xs : List α) : xs.eraseIdx 0 = xs.tail := by cases xs <;> rfl
/-- text * count -/
def rMulS : R2 := fun x y H Q => ∃ (z : Str) (n : Int), x = .str z ∧ y = .int n ∧ 0 ≤ n ∧ n ≤ 1000 ∧ z.length ≤ 10000 ∧ Q (.str (Txt.mul z n)) H
theorem mul_ok {z : Str} {n : Int} (h0 : 0 ≤ n) (h1 : n ≤ 1000) (hz : z.length ≤ 10000) : MulOk z n := by
  refine ⟨?_, fun h2 _ => ?_, fun _ _ => ?_⟩
  · rw [decide_eq_false (by omega), decide_eq_false (by omega)]
    rfl
  · intro h3
    have h4 : (2 ^ 63 - 1) / n ≥ (2 ^ 63 - 1) / 1000 := by
      refine Int.le_ediv_of_mul_le (by omega) ?_
      have : (2 ^ 63 - 1 : Int) / 1000 * n ≤ (2 ^ 63 - 1) / 1000 * 1000 := Int.mul_le_mul_of_nonneg_left h1 (by decide)
      exact Int.le_trans this (by decide)
    have h5 : ((2 : Int) ^ 63 - 1) / 1000 ≥ 10001 := by decide
    omega
  · unfold Builtin.Str.tooLong
    refine decide_eq_false ?_
    have : z.length * n.toNat ≤ 10000 * 1000 := Nat.mul_le_mul hz (by omega)
    have : sizeLine ≥ 10000000 := by decide
    omega
theorem op_mul_str {X : Cx} : OpR X (binaryOp .Mult) rMulS := by
  intro pins s σ H x y v u Q I rx ry h
  obtain ⟨z, n, rfl, rfl, h0, h1, hz, q⟩ := h
  obtain ⟨t, rfl⟩ := rx
  obtain ⟨t', rfl⟩ := ry
  exact PySem.SB.mul (mul_ok h0 h1 hz) fun t' k => ⟨.str (Txt.mul z n), H, I.tok _, ⟨_, rfl⟩, q⟩
/-- data of tuples, so many deep -/
def TupN : Nat → PyData → Prop
  | 0, _ => False
  | n + 1, .tuple ds => ds.length ≤ 100000 ∧ ∀ d ∈ ds, TupN n d
  | _ + 1, .list _ => False
  | _ + 1, .dict _ => False
  | _ + 1, _ => True
/-- _law_same upon the same data twice -/
def spSame (K : PySem.W.Frag) (n : Nat) : Sp := fun vs H Q _ => ∃ (x y : V) (d : PyData), vs = [x, y] ∧ Dp K H x d ∧ Dp K H y d ∧ TupN n d ∧ ∀ H', Same H H' → Q (.bl true) H'
theorem dpAll_len {K : PySem.W.Frag} {H : Hp} : ∀ {vs : List V} {ds : List PyData}, DpAll K H vs ds → vs.length = ds.length
  | _, _, .nil => rfl
  | _, _, .cons _ t => congrArg Nat.succ (dpAll_len t)
theorem dpAll_at {K : PySem.W.Frag} {H : Hp} : ∀ {vs : List V} {ds : List PyData}, DpAll K H vs ds → ∀ (i : Nat) (v : V) (d : PyData), vs[i]? = some v → ds[i]? = some d → Dp K H v d
  | _, _, .nil, i, v, d, h, _ => by simp at h
  | _, _, .cons a _, 0, v, d, h, h' => by
    simp at h h'
    rw [← h, ← h']
    exact a
  | _, _, .cons _ t, i + 1, v, d, h, h' => dpAll_at t i v d (by simpa using h) (by simpa using h')
mutual
theorem Dp.same {K : PySem.W.Frag} {H H' : Hp} (e : Same H H') : ∀ {d : PyData} {v : V}, Dp K H v d → Dp K H' v d
  | _, _, .non => .non
  | _, _, .bl b => .bl b
  | _, _, .int i => .int i
  | _, _, .str x => .str x
  | _, _, .lst h a => .lst (e.seq h) (DpAll.same e a)
  | _, _, .tup h a => .tup (Same.seqT e h) (DpAll.same e a)
theorem DpAll.same {K : PySem.W.Frag} {H H' : Hp} (e : Same H H') : ∀ {ds : List PyData} {vs : List V}, DpAll K H vs ds → DpAll K H' vs ds
  | _, _, .nil => .nil
  | _, _, .cons a t => .cons (Dp.same e a) (DpAll.same e t)
end
theorem tyT {K : PySem.W.Frag} {H : Hp} {a : Addr} {xs : List V} (h : SqT K H a xs) : TyX K H (.ref a) (.type "tuple") := by
  rcases h with (h | ⟨o, h⟩) | ⟨o, _, _, h, hc, _⟩
  · exact .base (.tup h)
  · exact .fTuple h
  · exact .kTuple h hc
theorem atI_some {α : Type} {xs : List α} {i : Nat} (h : i < xs.length) : atI xs (i : Int) = some xs[i] := atI_nat (List.getElem?_eq_getElem h)
/-- a sign that a text may have -/
def ChrOk (c : Nat) : Prop := 32 ≤ c ∧ c ≤ 126 ∧ c ≠ 37
instance (c : Nat) : Decidable (ChrOk c) := inferInstanceAs (Decidable (_ ∧ _))
def spChar : Sp := fun vs H Q _ => ∃ d : Int, vs = [.int d] ∧ ∀ c : Nat, ChrOk c → Q (.str (sg c)) H
/-! rules whose reading names the written part, said with it given (a comprehension's block wants that) -/
theorem ixT {X : Cx} {K : PySem.W.Frag} (h : X.K = K := by rfl) : IxR X (rIxT K) := by
  subst h
  exact ix_tup
theorem ixL {X : Cx} {K : PySem.W.Frag} (h : X.K = K := by rfl) : IxR X (rIxL K) := by
  subst h
  exact ix_list
def rLenQ (K : PySem.W.Frag) : List V → Hp → VK → Prop := fun xs H Q => ∃ p ys, xs = [.ref p] ∧ (SqL K H p ys ∨ SqT K H p ys) ∧ Q (.int ys.length) H
theorem lenQ {X : Cx} {K : PySem.W.Frag} (h : X.K = K := by rfl) : CallR X (.builtin "len") (rLenQ K) := by
  subst h
  exact call_len_seq
section
variable {K : PySem.W.Frag} {σ : L2.St} {H : Hp} {i : Nat} {x : V} {t T : String} {tt u : TS} {D : Ends}
theorem ev_isi {b : Bool} {Q : VK} (h : σ[i]? = some (some x)) (ty : TyX K H x (.type t)) (k : kitB t T = some b) (q : Q (.bl b) H) : tCB (rIsi K) (tCons (tVar i) (tCons (tC (.ty T)) tNil)) σ H Q := ⟨x, h, x, .ty T, _, _, b, rfl, .ty _, ty, kit_ty k, q⟩
theorem if_isiF (h : σ[i]? = some (some x)) (ty : TyX K H x (.type t)) (k : kitB t T = some false) (q : u D σ H) : tIfS (tB (tCB (rIsi K) (tCons (tVar i) (tCons (tC (.ty T)) tNil)))) tt u D σ H := ev_isi h ty k ⟨_, rfl, iteF q⟩
theorem if_isiT (h : σ[i]? = some (some x)) (ty : TyX K H x (.type t)) (k : kitB t T = some true) (q : tt D σ H) : tIfS (tB (tCB (rIsi K) (tCons (tVar i) (tCons (tC (.ty T)) tNil)))) tt u D σ H := ev_isi h ty k ⟨_, rfl, iteT q⟩
end
/-- an object that H does not know may change -/
theorem Same.mut {H H1 : Hp} {p : Addr} (o : HO) (e : Same H H1) (n : H p = none) : Same H (upd H1 p o) := fun b u h => by
  rw [upd_ne (ne_of_none h n)]
  exact e b u h
end Pf

namespace Pf
open PySem PySem.Spec PyProof.Rows L2
/-! texts by the lists of their codes -/
abbrev T (l : List Nat) : Str := ⟨l.toArray⟩
theorem T_of (x : Str) : x = T x.cps.toList := TL.ext_tl rfl
theorem T_len (l : List Nat) : (T l).length = l.length := by simp [Str.length]
theorem T_cat (a b : List Nat) : T a ++ T b = T (a ++ b) := TL.ext_tl (TL.tl_append (T a) (T b))
theorem T_inj {a b : List Nat} (h : T a = T b) : a = b := congrArg (fun x : Str => x.cps.toList) h
theorem T_eq {a b : List Nat} : decide (T a = T b) = decide (a = b) := by
  by_cases h : a = b
  · rw [h, decide_eq_true rfl, decide_eq_true rfl]
  · rw [decide_eq_false h, decide_eq_false fun e => h (T_inj e)]
theorem V_eq {a b : List Nat} : decide (V.str (T a) = V.str (T b)) = decide (a = b) := by
  by_cases h : a = b
  · rw [h, decide_eq_true rfl, decide_eq_true rfl]
  · rw [decide_eq_false h, decide_eq_false fun e => h (T_inj (V.str.inj e))]
theorem cut_to (l : List Nat) (n : Nat) : cutS (T l) none (some (n : Int)) = T (l.take n) := by
  unfold cutS
  rw [HT.sIx_none, HT.sIx_nat, T_len]
  refine TL.ext_tl ?_
  show (l.drop 0).take (min n l.length - 0) = l.take n
  rw [List.drop_zero, Nat.sub_zero, ← List.take_eq_take_min]
theorem cut_from (l : List Nat) (n : Nat) : cutS (T l) (some (n : Int)) none = T (l.drop n) := by
  unfold cutS
  rw [HT.sIx_none, HT.sIx_nat, T_len]
  refine TL.ext_tl ?_
  show (l.drop (min n l.length)).take (l.length - min n l.length) = l.drop n
  by_cases h : n ≤ l.length
  · rw [Nat.min_eq_left h, List.take_of_length_le (by rw [List.length_drop]; omega)]
  · rw [Nat.min_eq_right (by omega), List.drop_eq_nil_of_le (by omega), List.drop_eq_nil_of_le (by omega), List.take_nil]
theorem cut_mid (l : List Nat) {a b : Nat} (ha : a ≤ b) (hb : b ≤ l.length) : cutS (T l) (some (a : Int)) (some (b : Int)) = T ((l.drop a).take (b - a)) := by
  unfold cutS
  rw [HT.sIx_nat, HT.sIx_nat, T_len, Nat.min_eq_left (show a ≤ l.length by omega), Nat.min_eq_left hb]
/-- a text walked by its signs -/
theorem for_txt {l : List Nat} {g : TG} {tb : TS} {D : Ends} {σ : L2.St} {H : Hp} (Pv : Nat → L2.St → Hp → Prop) (h0 : Pv 0 σ H)
    (hs : ∀ i c σ H, l[i]? = some c → Pv i σ H → g (.str (sg c)) σ H fun σ2 H2 => tb { D with nx := Pv (i + 1), ct := Pv (i + 1), bk := D.nx } σ2 H2) (hd : ∀ σ H, Pv l.length σ H → D.nx σ H) :
    ∃ W : Nat → Nat → L2.St → Hp → Prop, (∃ m, W 0 m σ H) ∧ ∀ i m σ H, W i m σ H →
      ((Its (T l)).stop i H ∧ D.nx σ H) ∨ ((Its (T l)).go i H ∧ ∃ N : L2.St → Hp → Prop, (∀ σ' H', N σ' H' → ∃ m', m' < m ∧ W (i + 1) m' σ' H') ∧ ∀ x H', (Its (T l)).yld i H x H' → g x σ H' fun σ2 H2 => tb { D with nx := N, ct := N, bk := D.nx } σ2 H2) := by
  refine ⟨fun i m σ H => m = l.length - i ∧ i ≤ l.length ∧ Pv i σ H, ⟨l.length, by simp, Nat.zero_le _, h0⟩, ?_⟩
  rintro i m σ H ⟨rfl, hi, p⟩
  by_cases hlt : i < l.length
  · refine .inr ⟨(by show i < l.toArray.size; simpa using hlt), Pv (i + 1), fun σ' H' p' => ⟨l.length - (i + 1), by omega, rfl, hlt, p'⟩, fun x H' y => ?_⟩
    obtain ⟨rfl, c, hc, rfl⟩ := y
    exact hs i c σ H' (by simpa using hc) p
  · have e : i = l.length := by omega
    subst e
    exact .inl ⟨(by show l.toArray.size ≤ l.length; simp), hd _ _ p⟩
/-- a comprehension over a text -/
theorem lc_txt {l : List Nat} {g : TG} {tt : TT} {te : TE} {vs : List Nat} {σ : L2.St} {H1 : Hp} {D : Addr} {Qd : Hp → Prop} (Pv : Nat → Hp → Prop) (h0 : Pv 0 (upd H1 D (.lst [])))
    (hs : ∀ i c H, l[i]? = some c → Pv i H → g (.str (sg c)) (wipe σ vs) H fun σ2 H2 => wipe σ2 vs = wipe σ vs ∧ tt σ2 H2 fun b H3 =>
      if b = true then te σ2 H3 fun y H4 => ∃ acc, H4 D = some (.lst acc) ∧ acc.length < sizeLine ∧ Pv (i + 1) (upd H4 D (.lst (acc ++ [y]))) else Pv (i + 1) H3) (hd : ∀ H, Pv l.length H → Qd H) :
    ∃ W : Nat → Nat → Hp → Prop, (∃ m, W 0 m (upd H1 D (.lst []))) ∧ ∀ i m H, W i m H →
      ((Its (T l)).stop i H ∧ Qd H) ∨ ((Its (T l)).go i H ∧ ∃ Nx : Hp → Prop, (∀ H', Nx H' → ∃ m', m' < m ∧ W (i + 1) m' H') ∧ ∀ x H', (Its (T l)).yld i H x H' → g x (wipe σ vs) H' fun σ2 H2 => wipe σ2 vs = wipe σ vs ∧ tt σ2 H2 fun b H3 =>
        if b = true then te σ2 H3 fun y H4 => ∃ acc, H4 D = some (.lst acc) ∧ acc.length < sizeLine ∧ Nx (upd H4 D (.lst (acc ++ [y]))) else Nx H3) := by
  refine ⟨fun i m H => m = l.length - i ∧ i ≤ l.length ∧ Pv i H, ⟨l.length, by simp, Nat.zero_le _, h0⟩, ?_⟩
  rintro i m H ⟨rfl, hi, p⟩
  by_cases hlt : i < l.length
  · refine .inr ⟨(by show i < l.toArray.size; simpa using hlt), Pv (i + 1), fun H' p' => ⟨l.length - (i + 1), by omega, rfl, hlt, p'⟩, fun x H' y => ?_⟩
    obtain ⟨rfl, c, hc, rfl⟩ := y
    exact hs i c H' (by simpa using hc) p
  · have e : i = l.length := by omega
    subst e
    exact .inl ⟨(by show l.toArray.size ≤ l.length; simp), hd _ p⟩
theorem small9 {n : Nat} (h : n ≤ 1000000) : n ≤ sizeLine := Nat.le_trans h (by decide)
/-- a sign of a text all of whose signs are of a kind -/
theorem ix_of {z : Str} {i : Int} {H : Hp} {Q : VK} (p : Nat → Bool) (h0 : 0 ≤ i) (h1 : i < (z.length : Int)) (hz : z.length ≤ sizeLine) (hc : z.cps.toList.all p = true) (q : ∀ c, p c = true → Q (.str (sg c)) H) : rIxS (.str z) (.int i) H Q := by
  have hl : z.length = z.cps.toList.length := by simp [Str.length]
  have hi : i.toNat < z.cps.toList.length := by omega
  have ei : i = ((i.toNat : Nat) : Int) := by omega
  refine ⟨z, i, z.cps.toList[i.toNat], rfl, rfl, hz, ?_, q _ (List.all_eq_true.mp hc _ (List.getElem_mem hi))⟩
  have := atI_some hi
  rw [← ei] at this
  exact this
theorem nl_eq : Str.ofString "\n" = T [10] := by decide +kernel
theorem e_eq : Str.ofString "" = T [] := by decide +kernel
theorem at_any {α : Type} {xs : List α} (p : α → Prop) {i : Int} (h0 : 0 ≤ i) (h1 : i < (xs.length : Int)) (h : ∀ x ∈ xs, p x) : ∃ v, p v ∧ atI xs i = some v := by
  have hi : i.toNat < xs.length := by omega
  have ei : i = ((i.toNat : Nat) : Int) := by omega
  refine ⟨xs[i.toNat], h _ (List.getElem_mem hi), ?_⟩
  have := atI_some hi
  rw [← ei] at this
  exact this
theorem inV_strs (x : Str) (ys : List Str) : inV (.str x) (ys.map V.str) = decide (x ∈ ys) := by
  unfold inV
  rw [List.any_map]
  induction ys with
  | nil => rfl
  | cons y ys ih =>
    rw [List.any_cons, ih]
    show ((y == x) || decide (x ∈ ys)) = decide (x ∈ y :: ys)
    by_cases h : y = x
    · subst h
      rw [beq_self_eq_true, Bool.true_or, decide_eq_true (List.mem_cons_self ..)]
    · rw [beq_false_of_ne h, Bool.false_or]
      by_cases h2 : x ∈ ys
      · rw [decide_eq_true h2, decide_eq_true (List.mem_cons_of_mem _ h2)]
      · rw [decide_eq_false h2, decide_eq_false]
        intro h3
        rcases List.mem_cons.mp h3 with h3 | h3
        · exact h h3.symm
        · exact h2 h3
theorem flat_strs (ys : List Str) : (ys.map V.str).all flatV = true := by
  rw [List.all_map, List.all_eq_true]
  intro x _
  rfl
end Pf

namespace Pf
open PySem PySem.Spec PyProof.Rows L2
def topS (i : Nat) : Stmt := PySem.Challenge.pw_ontoworks_k41_is_name.main.body.getD i (.Pass ⟨0, 0, 0, 0⟩)
abbrev K_LETTERS : Str := Str.ofString "abcdefghijklmnopqrstuvwxyzABCDEFGHIJKLMNOPQRSTUVWXYZ_"
abbrev K_DIGITS : Str := Str.ofString "0123456789"
abbrev K_LONGEST_WORD : Int := 20
abbrev K_RESERVED : List Str := [Str.ofString "concept", Str.ofString "role", Str.ofString "individual", Str.ofString "axiom", Str.ofString "below", Str.ofString "equals", Str.ofString "apart", Str.ofString "domain", Str.ofString "range", Str.ofString "under", Str.ofString "inverse", Str.ofString "is", Str.ofString "and", Str.ofString "or", Str.ofString "not", Str.ofString "some", Str.ofString "all", Str.ofString "anything", Str.ofString "nothing", Str.ofString "never"]
abbrev s_is_name : Stmt := topS 5
theorem sc_is_name : FnScope ["word", "end"] ["word"] (defScope s_is_name) := ⟨rfl, rfl, rfl, by decide +kernel, rfl, by decide +kernel, by decide +kernel⟩
abbrev s_word_end : Stmt := topS 6
theorem sc_word_end : FnScope ["text", "at", "end"] ["text", "at"] (defScope s_word_end) := ⟨rfl, rfl, rfl, by decide +kernel, rfl, by decide +kernel, by decide +kernel⟩
abbrev s_law_cell : Stmt := topS 8
theorem sc_law_cell : FnScope ["script", "k"] ["script", "k"] (defScope s_law_cell) := ⟨rfl, rfl, rfl, by decide +kernel, rfl, by decide +kernel, by decide +kernel⟩
abbrev s_law_draws : Stmt := topS 9
theorem sc_law_draws : FnScope ["script", "k", "count", "cell", "rest", "seed", "found", "at"] ["script", "k", "count"] (defScope s_law_draws) := ⟨rfl, rfl, rfl, by decide +kernel, rfl, by decide +kernel, by decide +kernel⟩
abbrev s_law_take : Stmt := topS 10
theorem sc_law_take : FnScope ["draws", "many"] ["draws", "many"] (defScope s_law_take) := ⟨rfl, rfl, rfl, by decide +kernel, rfl, by decide +kernel, by decide +kernel⟩
abbrev s_law_char : Stmt := topS 11
theorem sc_law_char : FnScope ["draw", "chars"] ["draw"] (defScope s_law_char) := ⟨rfl, rfl, rfl, by decide +kernel, rfl, by decide +kernel, by decide +kernel⟩
abbrev s_law_reserved : Stmt := topS 12
theorem sc_law_reserved : FnScope ["words"] [] (defScope s_law_reserved) := ⟨rfl, rfl, rfl, by decide +kernel, rfl, by decide +kernel, by decide +kernel⟩
abbrev s_law : Stmt := topS 13
theorem sc_law : FnScope ["script", "draws", "letters", "kind", "word", "k", "at", "due", "actual", "char"] ["script"] (defScope s_law) := ⟨rfl, rfl, rfl, by decide +kernel, rfl, by decide +kernel, by decide +kernel⟩
local macro_rules | `(tactic| walk_at "w") => `(tactic| repeat (first
  | refine ⟨_, rfl, ?_⟩
  | refine ⟨_, _, rfl, rfl, .inr ⟨by decide, by decide⟩, ?_⟩
  | refine ⟨_, _, rfl, rfl, ⟨by decide, by decide⟩, ?_⟩
  | refine ⟨_, _, rfl, rfl, ⟨by decide, by decide, by decide⟩, ?_⟩
  | refine ⟨_, _, rfl, rfl, (by show (0 : Int) < _; decide), ?_⟩
  | refine ⟨_, _, rfl, rfl, ?_⟩
  | refine .inl ⟨_, rfl, ?_⟩))
section
variable {P : Program} {w : World} {K : PySem.W.Frag} {mg : Str → Option Value} {base : Heap}
theorem at_int {ns : List Int} {k : Int} (h0 : 0 ≤ k) (h : k < ((ns.map V.int).length : Int)) : ∃ c, atI (ns.map V.int) k = some (.int c) := by
  have hk : k.toNat < ns.length := by rw [List.length_map] at h; omega
  have ek : k = ((k.toNat : Nat) : Int) := by omega
  have q : atI (ns.map V.int) ((k.toNat : Nat) : Int) = some (.int ns[k.toNat]) := atI_nat (by rw [List.getElem?_map, List.getElem?_eq_getElem hk] <;> rfl)
  rw [← ek] at q
  exact ⟨_, q⟩
theorem c_law_cell {f : Addr} {fd : FuncData} (D : Df K mg "_law_cell" s_law_cell f fd ["script", "k"]) (z_len : mg "len" = none) (z_int : mg "int" = none) : Cl P w K mg base 1 "_law_cell" (spCell K) := by
  refine D.cl sc_law_cell (fun vs H Q E h => ?_) (fun cdv A outer s H vs Q E hr h => ?_)
  · obtain ⟨a, ns, k, rfl, _⟩ := h
    rfl
  obtain ⟨a, ns, k, rfl, hS, h63, h0, q⟩ := h
  refine ⟨_, (pss_cons (ps_if (pt_cmpR op_lt (pv 1) (pe_callB call_len_seq (by rfl) z_len PySem.boot_len (pa_cons (pv 0) pa_nil)) (nomark _)) (pss_one (ps_ret (pe_callTy call_int1 (by rfl) z_int (by decide +kernel) (pa_cons (pe_ix ix_list (pv 0) (pv 1) (fun _ _ => rfl)) pa_nil)))) pss_nil)
      (pss_one (ps_ret pe_int))), ?_⟩
  refine ⟨_, rfl, _, rfl, a, _, rfl, .inl hS, _, _, rfl, rfl, _, rfl, ite2 (fun c => ?_) (fun c => ?_)⟩
  · obtain ⟨v, hv⟩ := at_int (ns := ns) h0 (of_decide_eq_true c)
    exact ⟨_, rfl, _, rfl, a, _, _, _, rfl, rfl, hS, hv, .inl ⟨_, rfl, q v⟩⟩
  · exact q 0
theorem c_law_take {f : Addr} {fd : FuncData} (D : Df K mg "_law_take" s_law_take f fd ["draws", "many"]) (z_int : mg "int" = none) : Cl P w K mg base 1 "_law_take" spTake := by
  refine D.cl sc_law_take (fun vs H Q E h => ?_) (fun cdv A outer s H vs Q E hr h => ?_)
  · obtain ⟨l, ds, m, rfl, _⟩ := h
    rfl
  obtain ⟨l, ds, m, rfl, hl, hm, q⟩ := h
  refine ⟨_, (pss_cons (ps_if (pt_not (pt_truth (pv 0) (by intro _; rfl))) (pss_one (ps_ret pe_int)) pss_nil)
      (pss_one (ps_ret (pe_op op_mod (pe_callTy call_int1 (by rfl) z_int (by decide +kernel) (pa_cons (pe_bm PySem.F.plainAttrs_list PySem.F.slot_list_pop PySem.F.type_list_pop mt_popAt (pv 0) (pa_cons pe_int pa_nil)) pa_nil)) (pv 1))))), ?_⟩
  cases ds with
  | nil =>
    refine ⟨_, rfl, false, .inl ⟨_, SqL.of hl, rfl⟩, iteT ?_⟩
    have := q 0 (Int.le_refl 0) hm
    rw [show upd H l (.lst (([] : List Int).tail.map V.int)) = H from upd_self hl] at this
    exact this
  | cons d r =>
    refine ⟨_, rfl, true, .inl ⟨_, SqL.of hl, rfl⟩, iteF ?_⟩
    refine ⟨_, rfl, .inl ⟨rfl, _, SqL.of hl⟩, l, _, _, 0, .int d, rfl, rfl, hl, by decide, by decide, seqIndex?_zero (Nat.succ_pos _), rfl, .inl ⟨_, rfl, _, rfl, _, _, rfl, rfl, hm, ?_⟩⟩
    exact q (d % m) (Int.emod_nonneg _ (by omega)) (Int.emod_lt_of_pos _ hm)
theorem c_law_draws {f : Addr} {fd : FuncData} (D : Df K mg "_law_draws" s_law_draws f fd ["script", "k", "count"]) (c_law_cell : Cl P w K mg base 1 "_law_cell" (spCell K)) (z_int : mg "int" = none) (z_range : mg "range" = none) : Cl P w K mg base 2 "_law_draws" (spDraws K) := by
  refine D.cl sc_law_draws (fun vs H Q E h => ?_) (fun cdv A outer s H vs Q E hr h => ?_)
  · obtain ⟨a, ns, k, n, rfl, _⟩ := h
    rfl
  obtain ⟨a, ns, k, n, rfl, hS, h63, h0, hn0, hn, q⟩ := h
  refine ⟨_, (pss_cons (ps_set (i := 3) sc_law_draws.nd rfl (.inl rfl) (pc c_law_cell hr (by first | decide | omega) (by rfl) (pa_cons (pv 0) (pa_cons (pv 1) pa_nil))))
      (pss_cons (ps_set (i := 4) sc_law_draws.nd rfl (.inl rfl) pe_int)
      (Evl.pss_cut (ps_if (pt_cmpR op_ge (pv 3) (pe_op op_pow pe_int pe_int) (nomark _)) (pss_one (ps_set (i := 4) sc_law_draws.nd rfl (.inl rfl) (pe_op op_fdivW (pv 3) (pe_op op_pow pe_int pe_int)))) pss_nil)
      (pss_cons (ps_set (i := 5) sc_law_draws.nd rfl (.inl rfl) (pe_op op_mod (pe_callTy call_int1 (by rfl) z_int (by decide +kernel) (pa_cons (pe_op op_add (pe_op op_add (pe_op op_mul (pv 3) pe_int) (pe_op op_mul (pv 1) pe_int)) pe_int) pa_nil)) pe_int))
      (pss_cons (ps_set (i := 6) sc_law_draws.nd rfl (.inl rfl) (pe_lst pa_nil))
      (pss_cons (ps_for PassesOwn.never rfl (pi_range1 (by rfl) z_range (pa_cons (pv 2) pa_nil)) (pg_name (i := 7) sc_law_draws.nd rfl (.inl rfl)) (pss_cons (ps_set (i := 5) sc_law_draws.nd rfl (.inl rfl) (pe_op op_mod (pe_callTy call_int1 (by rfl) z_int (by decide +kernel) (pa_cons (pe_op op_add (pe_op op_add (pe_op op_mul (pv 5) pe_int) (pe_op op_mul (pv 7) pe_int)) pe_int) pa_nil)) pe_int))
      (pss_one (ps_if (pt_cmpR op_gt (pv 4) pe_int (nomark _)) (pss_cons (ps_expr (pe_bm PySem.F.plainAttrs_list PySem.F.slot_list_append PySem.F.type_list_append mt_append (pv 6) (pa_cons (pe_op op_mod (pe_callTy call_int1 (by rfl) z_int (by decide +kernel) (pa_cons (pv 4) pa_nil)) pe_int) pa_nil)))
      (pss_one (ps_set (i := 4) sc_law_draws.nd rfl (.inl rfl) (pe_op op_fdiv (pv 4) pe_int)))) (pss_one (ps_expr (pe_bm PySem.F.plainAttrs_list PySem.F.slot_list_append PySem.F.type_list_append mt_append (pv 6) (pa_cons (pe_op op_mod (pe_callTy call_int1 (by rfl) z_int (by decide +kernel) (pa_cons (pe_op op_fdiv (pv 5) pe_int) pa_nil)) pe_int) pa_nil))))))))
      (pss_one (ps_ret (pv 6))))))))), ?_⟩
  refine ⟨_, rfl, _, rfl, a, ns, k, rfl, hS, h63, h0, fun c => ?_⟩
  walk_at "w"
  refine ⟨fun σ' H' => ∃ r : Int, σ' = [some (.ref a), some (.int k), some (.int n), some (.int c), some (.int r), none, none, none] ∧ H = H', ?_, ?_⟩
  · walk_at "w"
    refine ite2 (fun c1 => ?_) (fun c1 => ?_)
    · walk_at "w"
      exact rfl
    · exact ⟨0, rfl, rfl⟩
  rintro _ _ ⟨r, rfl, rfl⟩
  walk_at "w"
  refine ⟨Nat.zero_le _, fun p hp => ?_⟩
  walk_at "w"
  refine ⟨by omega, by omega, for_range (lo := 0) (n := n.toNat) (fun i σ' H' => ∃ (r sd : Int) (x : Option V) (ds : List Int), σ' = [some (.ref a), some (.int k), some (.int n), some (.int c), some (.int r), some (.int sd), some (.ref p), x] ∧ ds.length = i ∧ H' = upd H p (.lst (ds.map V.int))) ⟨_, _, none, [], rfl, rfl, rfl⟩ ?_ ?_⟩
  · rintro i _ _ hi ⟨r, sd, x, ds, rfl, hd, rfl⟩
    have hz : (ds.map V.int).length < sizeLine := by
      rw [List.length_map]
      exact small1000 (by omega)
    have e1 : ∀ y : Int, upd (upd H p (.lst (ds.map V.int))) p (.lst (ds.map V.int ++ [V.int y])) = upd H p (.lst ((ds ++ [y]).map V.int)) := fun y => by
      rw [upd_upd, List.map_append]
      rfl
    walk_at "w"
    refine ite2 (fun c1 => ?_) (fun c1 => ?_)
    · walk_at "w"
      refine ⟨.inl ⟨rfl, _, SqL.of upd_same⟩, ?_⟩
      walk_at "w"
      refine ⟨p, _, _, rfl, rfl, upd_same, hz, ?_⟩
      walk_at "w"
      exact ⟨_, _, _, ds ++ [_], rfl, by rw [List.length_append, hd]; rfl, e1 _⟩
    · walk_at "w"
      refine ⟨.inl ⟨rfl, _, SqL.of upd_same⟩, ?_⟩
      walk_at "w"
      refine ⟨p, _, _, rfl, rfl, upd_same, hz, ?_⟩
      exact ⟨_, _, _, ds ++ [_], rfl, by rw [List.length_append, hd]; rfl, e1 _⟩
  · rintro _ _ ⟨r, sd, x, ds, rfl, hd, rfl⟩
    exact ⟨_, rfl, q ds p _ (Same.new _ hp) hp upd_same (by omega)⟩
theorem c_law_char {f : Addr} {fd : FuncData} (D : Df K mg "_law_char" s_law_char f fd ["draw"]) (z_int : mg "int" = none) (z_len : mg "len" = none) : Cl P w K mg base 1 "_law_char" spChar := by
  refine D.cl sc_law_char (fun vs H Q E h => ?_) (fun cdv A outer s H vs Q E hr h => ?_)
  · obtain ⟨d, rfl, _⟩ := h
    rfl
  obtain ⟨d, rfl, q⟩ := h
  refine ⟨_, (pss_cons (ps_set (i := 1) sc_law_char.nd rfl (.inl rfl) pe_str)
      (pss_one (ps_ret (pe_ix ix_str (pv 1) (pe_op op_mod (pe_callTy call_int1 (by rfl) z_int (by decide +kernel) (pa_cons (pv 0) pa_nil)) (pe_callB call_len_str (by rfl) z_len PySem.boot_len (pa_cons (pv 1) pa_nil))) (fun _ _ => rfl))))), ?_⟩
  walk_at "w"
  refine ⟨(by decide +kernel), _, _, rfl, rfl, (by show (0 : Int) < _; decide +kernel), ?_⟩
  refine ix_of (fun c => decide (ChrOk c)) (Int.emod_nonneg _ (by decide +kernel)) (Int.emod_lt_of_pos _ (by decide +kernel)) (by decide +kernel) (by decide +kernel) (fun c hc => ?_)
  exact q c (of_decide_eq_true hc)
def isL (c : Nat) : Bool := decide (c ∈ K_LETTERS.cps.toList)
def isW (c : Nat) : Bool := isL c || decide (c ∈ K_DIGITS.cps.toList)
/-- the index behind the word at an index -/
def wordEnd (l : List Nat) (a : Nat) : Nat := match l.drop a with
  | [] => a
  | c :: r => if isL c then a + 1 + (r.takeWhile isW).length else a
def spWordEnd : Sp := fun vs H Q _ => ∃ (l : List Nat) (a : Nat), vs = [.str (T l), .int (a : Int)] ∧ a ≤ l.length ∧ l.length ≤ 100000 ∧ Q (.int (wordEnd l a : Nat)) H
theorem wordEnd_le {l : List Nat} {a : Nat} (h : a ≤ l.length) : a ≤ wordEnd l a ∧ wordEnd l a ≤ l.length := by
  unfold wordEnd
  have hl : (l.drop a).length = l.length - a := List.length_drop
  cases e : l.drop a with
  | nil => exact ⟨Nat.le_refl _, h⟩
  | cons c r =>
    rw [e, List.length_cons] at hl
    have := (List.takeWhile_prefix isW (l := r)).length_le
    show a ≤ (if isL c then a + 1 + (r.takeWhile isW).length else a) ∧ (if isL c then a + 1 + (r.takeWhile isW).length else a) ≤ l.length
    split <;> omega
theorem c_word_end {f : Addr} {fd : FuncData} {tL tD : Tok} (D : Df K mg "_word_end" s_word_end f fd ["text", "at"]) (m_LETTERS : mg "LETTERS" = some (.str K_LETTERS tL)) (m_DIGITS : mg "DIGITS" = some (.str K_DIGITS tD)) (z_len : mg "len" = none) : Cl P w K mg base 1 "_word_end" spWordEnd := by
  refine D.cl sc_word_end (fun vs H Q E h => ?_) (fun cdv A outer s H vs Q E hr h => ?_)
  · obtain ⟨l, a, rfl, _⟩ := h
    rfl
  obtain ⟨l, a, rfl, ha, hl, q⟩ := h
  refine ⟨_, (pss_cons (ps_if (PW.pt (pw_or (pt_cmpR op_eq (pv 1) (pe_callB call_len_str (by rfl) z_len PySem.boot_len (pa_cons (pv 0) pa_nil)) (nomark _)) (pw_or1 (pt_cmpR op_notIn_sign (pe_ix ix_str (pv 0) (pv 1) (fun _ _ => rfl)) (pe_glob (v := .str K_LETTERS) (by rfl) m_LETTERS ⟨_, rfl⟩) rfl)))) (pss_one (ps_ret (pv 1))) pss_nil)
      (pss_cons (ps_set (i := 2) sc_word_end.nd rfl (.inl rfl) (pe_op op_add (pv 1) pe_int))
      (pss_cons (ps_while PassesOwn.never (PW.pt (pw_and (pt_cmpR op_lt (pv 2) (pe_callB call_len_str (by rfl) z_len PySem.boot_len (pa_cons (pv 0) pa_nil)) (nomark _)) (pw_and1 (PW.pt (pw_or (pt_cmpR op_in_sign (pe_ix ix_str (pv 0) (pv 2) (fun _ _ => rfl)) (pe_glob (v := .str K_LETTERS) (by rfl) m_LETTERS ⟨_, rfl⟩) rfl) (pw_or1 (pt_cmpR op_in_sign (pe_ix ix_str (pv 0) (pv 2) (fun _ _ => rfl)) (pe_glob (v := .str K_DIGITS) (by rfl) m_DIGITS ⟨_, rfl⟩) rfl))))))) (pss_one (ps_aug (i := 2) sc_word_end.nd rfl (.inl rfl) pe_int ip_add)))
      (pss_one (ps_ret (pv 2)))))), ?_⟩
  have hz : (T l).length ≤ sizeLine := by rw [T_len]; exact small9 (by omega)
  have item : ∀ i : Nat, i < l.length → atI (T l).cps.toList (i : Int) = some (l.getD i 0) := fun i hi => by
    have := atI_some (xs := l) hi
    rw [List.getD_eq_getElem?_getD, List.getElem?_eq_getElem hi]
    exact this
  walk_at "w"
  refine ⟨hz, rfl, _, rfl, ?_⟩
  rw [T_len]
  show if decide (V.int (a : Int) = V.int (l.length : Int)) = true then _ else _
  by_cases he : a = l.length
  · rw [he, decide_eq_true rfl]
    refine iteT (iteT ?_)
    refine ⟨_, rfl, ?_⟩
    have := q
    unfold wordEnd at this
    rw [List.drop_eq_nil_of_le (by omega)] at this
    rw [← he]
    exact this
  rw [decide_eq_false (fun z => he (by have := V.int.inj z; omega))]
  refine iteF ?_
  have hlt : a < l.length := by omega
  have hd := List.drop_eq_getElem_cons hlt
  have hg : l.getD a 0 = l[a] := by rw [List.getD_eq_getElem?_getD, List.getElem?_eq_getElem hlt]; rfl
  refine ⟨_, rfl, _, rfl, _, _, _, rfl, rfl, hz, item a hlt, _, _, rfl, rfl, _, rfl, ?_⟩
  rw [hg]
  show if (!isL l[a]) = true then _ else _
  have q2 : Q (.int ((if isL l[a] then a + 1 + ((l.drop (a + 1)).takeWhile isW).length else a : Nat) : Int)) H := by
    unfold wordEnd at q
    rw [hd] at q
    exact q
  cases hL : isL l[a] with
  | false =>
    rw [hL] at q2
    exact iteT ⟨_, rfl, q2⟩
  | true =>
    rw [hL] at q2
    refine iteF ?_
    walk_at "w"
    refine ⟨fun m σ' H' => ∃ e : Nat, σ' = [some (.str (T l)), some (.int (a : Int)), some (.int (e : Int))] ∧ H = H' ∧ m = l.length - e ∧ e ≤ l.length ∧ e + ((l.drop e).takeWhile isW).length = a + 1 + ((l.drop (a + 1)).takeWhile isW).length, ⟨_, a + 1, rfl, rfl, rfl, by omega, rfl⟩, ?_⟩
    rintro m _ _ ⟨e, rfl, rfl, rfl, hel, hee⟩
    have fin : (l.drop e).takeWhile isW = [] → Q (.int (e : Int)) H := fun z => by
      rw [z] at hee
      have e2 : e = a + 1 + ((l.drop (a + 1)).takeWhile isW).length := by simpa using hee
      rw [e2]
      exact q2
    walk_at "w"
    refine ⟨hz, ?_⟩
    walk_at "w"
    rw [T_len]
    by_cases h1 : e < l.length
    · have hd1 := List.drop_eq_getElem_cons h1
      have hg1 : l.getD e 0 = l[e] := by rw [List.getD_eq_getElem?_getD, List.getElem?_eq_getElem h1]; rfl
      rw [decide_eq_true (show (e : Int) < (l.length : Int) by omega)]
      refine iteT ?_
      refine ⟨_, rfl, _, rfl, _, _, _, rfl, rfl, hz, item e h1, _, _, rfl, rfl, _, rfl, ?_⟩
      rw [hg1]
      have go : isW l[e] = true → ∃ m' : Nat, m' < l.length - e ∧ ∃ e' : Nat, ([some (.str (T l)), some (.int (a : Int)), some (.int ((e : Int) + 1))] : L2.St) = [some (.str (T l)), some (.int (a : Int)), some (.int (e' : Int))] ∧ H = H ∧ m' = l.length - e' ∧ e' ≤ l.length ∧ e' + ((l.drop e').takeWhile isW).length = a + 1 + ((l.drop (a + 1)).takeWhile isW).length := fun hw => by
        refine ⟨l.length - (e + 1), by omega, e + 1, rfl, rfl, rfl, by omega, ?_⟩
        rw [hd1, List.takeWhile_cons, hw] at hee
        rw [← hee]
        show e + 1 + _ = e + (((l.drop (e + 1)).takeWhile isW).length + 1)
        omega
      show if isL l[e] = true then _ else _
      cases hl2 : isL l[e] with
      | true =>
        refine iteT (iteT ⟨_, fun σ' H' n => n, ?_⟩)
        walk_at "w"
        exact go (by unfold isW; rw [hl2]; rfl)
      | false =>
        refine iteF ?_
        refine ⟨_, rfl, _, rfl, _, _, _, rfl, rfl, hz, item e h1, _, _, rfl, rfl, _, rfl, ?_⟩
        rw [hg1]
        cases hd2 : decide (l[e] ∈ K_DIGITS.cps.toList) with
        | true =>
          refine iteT ⟨_, fun σ' H' n => n, ?_⟩
          walk_at "w"
          exact go (by unfold isW; rw [hl2, hd2]; rfl)
        | false =>
          refine iteF ⟨_, rfl, fin ?_⟩
          rw [hd1, List.takeWhile_cons]
          have : isW l[e] = false := by unfold isW; rw [hl2, hd2]; rfl
          rw [this]
          rfl
    · rw [decide_eq_false (show ¬ (e : Int) < (l.length : Int) by omega)]
      refine iteF (iteF ⟨_, rfl, fin ?_⟩)
      rw [List.drop_eq_nil_of_le (by omega)]
      rfl
/-- a word that is a name -/
def isNm (l : List Nat) : Bool := decide (0 < wordEnd l 0) && decide (wordEnd l 0 ≤ 20) && decide (wordEnd l 0 = l.length) && !decide (T l ∈ K_RESERVED)
def spIsName : Sp := fun vs H Q _ => ∃ l : List Nat, vs = [.str (T l)] ∧ l.length ≤ 100000 ∧ Q (.bl (isNm l)) H
theorem c_is_name {f : Addr} {fd : FuncData} {r : Addr} {t : Tok} (D : Df K mg "is_name" s_is_name f fd ["word"]) (c_word_end : Cl P w K mg base 1 "_word_end" spWordEnd) (m_LONGEST_WORD : mg "LONGEST_WORD" = some (.int K_LONGEST_WORD t)) (m_RESERVED : mg "RESERVED" = some (.ref r)) (hR : ∀ H, SqT K H r (K_RESERVED.map V.str)) (z_len : mg "len" = none) : Cl P w K mg base 2 "is_name" spIsName := by
  refine D.cl sc_is_name (fun vs H Q E h => ?_) (fun cdv A outer s H vs Q E hr h => ?_)
  · obtain ⟨l, rfl, _⟩ := h
    rfl
  obtain ⟨l, rfl, hl, q⟩ := h
  refine ⟨_, (pss_cons (ps_set (i := 1) sc_is_name.nd rfl (.inl rfl) (pc c_word_end hr (by first | decide | omega) (by rfl) (pa_cons (pv 0) (pa_cons pe_int pa_nil))))
      (pss_one (ps_ret (pe_and (pe_chain op_lt op_le pe_int (pv 1) (pe_glob (v := .int K_LONGEST_WORD) (by rfl) m_LONGEST_WORD ⟨_, rfl⟩)) (pe_and (pe_cmpR op_eq (pv 1) (pe_callB call_len_str (by rfl) z_len PySem.boot_len (pa_cons (pv 0) pa_nil)) (nomark _)) (pe_one (pe_cmpR op_notIn_seq (pv 0) (pe_glob (v := .ref _) (by rfl) m_RESERVED rfl) rfl))))))), ?_⟩
  have hz : (T l).length ≤ sizeLine := by rw [T_len]; exact small9 (by omega)
  walk_at "w"
  refine ⟨l, 0, rfl, Nat.zero_le _, hl, ?_⟩
  walk_at "w"
  have c1 : decide ((0 : Int) < ((wordEnd l 0 : Nat) : Int)) = decide (0 < wordEnd l 0) := decide_eq_decide.mpr (by omega)
  have c2 : decide (((wordEnd l 0 : Nat) : Int) ≤ K_LONGEST_WORD) = decide (wordEnd l 0 ≤ 20) := decide_eq_decide.mpr (by show ((wordEnd l 0 : Nat) : Int) ≤ 20 ↔ _; omega)
  have c3 : decide (V.int ((wordEnd l 0 : Nat) : Int) = V.int (l.length : Int)) = decide (wordEnd l 0 = l.length) := decide_eq_decide.mpr ⟨fun z => by have := V.int.inj z; omega, fun z => by rw [z]⟩
  unfold isNm at q
  rw [c1]
  cases d1 : decide (0 < wordEnd l 0) with
  | false =>
    rw [d1] at q
    exact iteF ⟨_, rfl, iteF q⟩
  | true =>
    rw [d1] at q
    refine iteT ?_
    refine ⟨_, _, rfl, rfl, _, rfl, ?_⟩
    rw [c2]
    cases d2 : decide (wordEnd l 0 ≤ 20) with
    | false =>
      rw [d2] at q
      exact iteF q
    | true =>
      rw [d2] at q
      refine iteT ⟨_, rfl, _, rfl, _, rfl, hz, rfl, ?_⟩
      rw [T_len, c3]
      refine ⟨_, rfl, ?_⟩
      cases d3 : decide (wordEnd l 0 = l.length) with
      | false =>
        rw [d3] at q
        exact iteF q
      | true =>
        rw [d3] at q
        refine iteT ⟨_, rfl, r, _, rfl, .inr (hR H), rfl, flat_strs _, ?_⟩
        rw [inV_strs]
        exact q
/-- the law's own list of the reserved words -/
def spReserved : Sp := fun vs H Q _ => vs = [] ∧ ∀ p H', Same H H' → H p = none → H' p = some (.lst (K_RESERVED.map V.str)) → Q (.ref p) H'
theorem c_law_reserved {f : Addr} {fd : FuncData} (D : Df K mg "_law_reserved" s_law_reserved f fd []) : Cl P w K mg base 1 "_law_reserved" spReserved := by
  refine D.cl sc_law_reserved (fun vs H Q E h => ?_) (fun cdv A outer s H vs Q E hr h => ?_)
  · obtain ⟨rfl, _⟩ := h
    rfl
  obtain ⟨rfl, q⟩ := h
  refine ⟨_, (pss_cons (ps_set (i := 0) sc_law_reserved.nd rfl (.inl rfl) pe_str)
      (pss_one (ps_ret (pe_split (pe_op op_add_str (pv 0) pe_str) pe_str)))), ?_⟩
  walk_at "w"
  refine ⟨by decide +kernel, ⟨_, rfl⟩, _, _, rfl, rfl, by decide +kernel, by decide +kernel, fun p hp => ?_⟩
  refine q p _ (Same.new _ hp) hp ?_
  rw [upd_same]
  have e : ∀ x y : List Str, decide (x = y) = true → some (HO.lst (x.map V.str)) = some (HO.lst (y.map V.str)) := fun x y h => by rw [of_decide_eq_true h]
  exact e _ _ (by decide +kernel)
def due1 (l : List Nat) : Bool := decide (1 ≤ l.length) && decide (l.length ≤ 20) && !decide (T l ∈ K_RESERVED) && isL (l.getD 0 0)
theorem tw_all {p : Nat → Bool} : ∀ l : List Nat, decide ((l.takeWhile p).length = l.length) = l.all p
  | [] => rfl
  | c :: r => by
    have ih := tw_all (p := p) r
    rw [List.takeWhile_cons, List.all_cons, ← ih]
    cases p c with
    | true =>
      show decide ((r.takeWhile p).length + 1 = r.length + 1) = _
      rw [Bool.true_and]
      exact decide_eq_decide.mpr (by omega)
    | false => rfl
theorem isNm_due (l : List Nat) : isNm l = (due1 l && l.all isW) := by
  unfold isNm due1
  cases l with
  | nil => rfl
  | cons c r =>
    have e : wordEnd (c :: r) 0 = if isL c then 0 + 1 + (r.takeWhile isW).length else 0 := rfl
    rw [e, List.all_cons, ← tw_all]
    show _ = (decide (1 ≤ r.length + 1) && decide (r.length + 1 ≤ 20) && !decide (T (c :: r) ∈ K_RESERVED) && isL c && (isW c && _))
    cases h : isL c with
    | false =>
      rw [Bool.and_false, Bool.false_and]
      rfl
    | true =>
      have hw : isW c = true := by unfold isW; rw [h]; rfl
      have k := (List.takeWhile_prefix isW (l := r)).length_le
      rw [hw, Bool.true_and, Bool.and_true]
      show (decide (0 < 0 + 1 + (r.takeWhile isW).length) && decide (0 + 1 + (r.takeWhile isW).length ≤ 20) && decide (0 + 1 + (r.takeWhile isW).length = r.length + 1) && _) = _
      rw [decide_eq_true (show 0 < 0 + 1 + (r.takeWhile isW).length by omega), decide_eq_true (show 1 ≤ r.length + 1 by omega), Bool.true_and, Bool.true_and]
      by_cases h2 : (r.takeWhile isW).length = r.length
      · rw [h2, decide_eq_true (show 0 + 1 + r.length = r.length + 1 by omega), decide_eq_true (show r.length = r.length from rfl), Bool.and_true, Bool.and_true, show 0 + 1 + r.length = r.length + 1 by omega]
      · rw [decide_eq_false h2, decide_eq_false (show ¬ 0 + 1 + (r.takeWhile isW).length = r.length + 1 by omega), Bool.and_false, Bool.and_false, Bool.false_and]
theorem isW_lit (c : Nat) : isW c = decide (c ∈ (K_LETTERS ++ Str.ofString "0123456789").cps.toList) := by
  unfold isW isL
  have e : (K_LETTERS ++ Str.ofString "0123456789").cps.toList = K_LETTERS.cps.toList ++ K_DIGITS.cps.toList := by decide +kernel
  rw [e, ← Bool.decide_or]
  exact decide_eq_decide.mpr List.mem_append.symm
def spLaw (K : PySem.W.Frag) : Sp := fun vs H Q _ => ∃ (a : Addr) (ns : List Int), vs = [.ref a] ∧ SqL K H a (ns.map V.int) ∧ ns.length ≤ 63 ∧ ∀ H', Q (.bl true) H'
theorem ok_law {f : Addr} {fd : FuncData} (F : Fun K "law" "law" s_law f fd) (c_law_draws : Cl P w K mg base 2 "_law_draws" (spDraws K)) (c_law_take : Cl P w K mg base 1 "_law_take" spTake) (c_law_char : Cl P w K mg base 1 "_law_char" spChar)
    (c_law_reserved : Cl P w K mg base 1 "_law_reserved" spReserved) (c_is_name : Cl P w K mg base 2 "is_name" spIsName) (z_range : mg "range" = none) (z_isinstance : mg "isinstance" = none) (z_bool : mg "bool" = none) (z_all : mg "all" = none) (z_len : mg "len" = none) : FnOk P w K mg base CX0 3 f fd ["script"] (spLaw K) := by
  refine F.ok sc_law (fun vs H Q E h => ?_) (fun cdv A outer s H vs Q E hr h => ?_)
  · obtain ⟨a, ns, rfl, _⟩ := h
    rfl
  obtain ⟨a, ns, rfl, hS, h63, q⟩ := h
  refine ⟨_, (pss_cons (ps_set (i := 1) sc_law.nd rfl (.inl rfl) (pc c_law_draws hr (by first | decide | omega) (by rfl) (pa_cons (pv 0) (pa_cons pe_int (pa_cons pe_int pa_nil)))))
      (pss_cons (ps_set (i := 2) sc_law.nd rfl (.inr rfl) pe_str)
      (pss_cons (ps_set (i := 3) sc_law.nd rfl (.inl rfl) (pc c_law_take hr (by first | decide | omega) (by rfl) (pa_cons (pv 1) (pa_cons pe_int pa_nil))))
      (pss_cons (ps_set (i := 4) sc_law.nd rfl (.inl rfl) pe_str)
      (pss_cons (ps_for PassesOwn.never rfl (pi_range1 (by rfl) z_range (pa_cons (pc c_law_take hr (by first | decide | omega) (by rfl) (pa_cons (pv 1) (pa_cons pe_int pa_nil))) pa_nil)) (pg_name (i := 5) sc_law.nd rfl (.inl rfl)) (pss_one (ps_set (i := 4) sc_law.nd rfl (.inl rfl) (pe_op op_add_str (pv 4) (pe_ix ix_str (pe_op op_add_str (pv 2) pe_str) (pc c_law_take hr (by first | decide | omega) (by rfl) (pa_cons (pv 1) (pa_cons pe_int pa_nil))) (fun _ _ => rfl))))))
      (Evl.pss_cut (ps_if (pt_cmpR op_eq (pv 3) pe_int (nomark _)) (pss_cons (ps_set (i := 6) sc_law.nd rfl (.inl rfl) (pc c_law_take hr (by first | decide | omega) (by rfl) (pa_cons (pv 1) (pa_cons (pe_op op_add (pe_callB call_len_str (by rfl) z_len PySem.boot_len (pa_cons (pv 4) pa_nil)) pe_int) pa_nil))))
      (pss_one (ps_set (i := 4) sc_law.nd rfl (.inl rfl) (pe_op op_add_str (pe_op op_add_str (pe_slice sl_str (pv 4) po_none (po_some (pv 6))) (pc c_law_char hr (by first | decide | omega) (by rfl) (pa_cons (pc c_law_take hr (by first | decide | omega) (by rfl) (pa_cons (pv 1) (pa_cons pe_int pa_nil))) pa_nil))) (pe_slice sl_str (pv 4) (po_some (pv 6)) po_none))))) pss_nil)
      (Evl.pss_cut (ps_if (PW.pt (pw_or (pt_cmpR op_gt (pv 3) pe_int (nomark _)) (pw_or1 (pt_cmpR op_eq (pv 3) pe_int (nomark _))))) (pss_one (ps_set (i := 4) sc_law.nd rfl (.inl rfl) (pe_ix ix_list (pc0 c_law_reserved hr (by first | decide | omega) (by rfl)) (pc c_law_take hr (by first | decide | omega) (by rfl) (pa_cons (pv 1) (pa_cons pe_int pa_nil))) (fun _ _ => rfl)))) pss_nil)
      (Evl.pss_cut (ps_if (pt_cmpR op_eq (pv 3) pe_int (nomark _)) (pss_one (ps_set (i := 4) sc_law.nd rfl (.inl rfl) (pe_ix ix_tup (pe_tup (pa_cons (pe_op op_add_str (pv 4) pe_str) (pa_cons (pe_upper (pv 4)) (pa_cons (pe_op op_add_str pe_str (pv 4)) (pa_cons (pe_slice sl_str (pv 4) (po_some pe_int) po_none) pa_nil))))) (pc c_law_take hr (by first | decide | omega) (by rfl) (pa_cons (pv 1) (pa_cons pe_int pa_nil))) (fun _ _ => rfl)))) pss_nil)
      (Evl.pss_cut (ps_set (i := 7) sc_law.nd rfl (.inl rfl) (pe_and (pe_chain op_le op_le pe_int (pe_callB call_len_str (by rfl) z_len PySem.boot_len (pa_cons (pv 4) pa_nil)) pe_int) (pe_and (pe_cmpR op_notIn_seq (pv 4) (pc0 c_law_reserved hr (by first | decide | omega) (by rfl)) rfl) (pe_one (pe_cmpR op_in_sign (pe_ix ix_str (pv 4) pe_int (fun _ _ => rfl)) (pv 2) rfl)))))
      (Evl.pss_cut (ps_set (i := 7) sc_law.nd rfl (.inl rfl) (pe_and (pv 7) (pe_one (pe_callB (cr_all rfl) (by rfl) z_all (by decide +kernel) (pa_cons (pe_lc (own := [("char", 9)]) (g := gName 9) (tt := tYes) (by rfl) sc_law.nd (pi_str (pv 4)) (blkOk_by (own := [("char", 9)]) (N := ["script", "draws", "letters", "kind", "word", "k", "at", "due", "actual", "char"]) (sc := defScope s_law) (by decide +kernel)) (fun _ _ _ _ _ => pg_name (i := 9) sc_law.nd rfl (.inl rfl)) (fun _ _ _ _ _ => pts_nil) (fun _ _ _ _ _ => (pe_cmpR op_in_sign (pv 9) (pe_op op_add_str (pv 2) pe_str) rfl))) pa_nil)))))
      (pss_cons (ps_set (i := 8) sc_law.nd rfl (.inl rfl) (pc c_is_name hr (by first | decide | omega) (by rfl) (pa_cons (pv 4) pa_nil)))
      (pss_one (ps_ret (pe_and (pe_callB call_isi (by rfl) z_isinstance (by decide +kernel) (pa_cons (pv 8) (pa_cons (pe_bltn (v := .ty "bool") (u := .type "bool") (by rfl) z_bool (by decide +kernel) rfl) pa_nil))) (pe_one (pe_cmpR op_eq (pv 8) (pv 7) (nomark _))))))))))))))))), ?_⟩
  walk_at "w"
  refine ⟨a, ns, 0, 40, rfl, hS, h63, by decide, by decide, by decide, fun ds p H1 e1 n1 p1 d1 => ?_⟩
  walk_at "w"
  refine ⟨p, ds, 8, rfl, p1, by decide, fun kind z0 z1 => ?_⟩
  walk_at "w"
  refine ⟨p, _, 25, rfl, upd_same, by decide, fun n n0 n1 => ?_⟩
  rw [upd_upd]
  walk_at "w"
  refine ⟨by omega, by omega, for_range (lo := 0) (n := n.toNat) (fun i σ' H' => ∃ (l : List Nat) (ds : List Int) (x : Option V), σ' = [some (.ref a), some (.ref p), some (.str K_LETTERS), some (.int kind), some (.str (T l)), x, none, none, none, none] ∧ l.length = i ∧ upd H1 p (.lst (ds.map V.int)) = H') ⟨[], ds.tail.tail, none, by rw [← e_eq]; rfl, rfl, rfl⟩ ?_ ?_⟩
  · rintro i _ _ hi ⟨l, ds, x, rfl, hl, rfl⟩
    walk_at "w"
    refine ⟨by decide +kernel, ?_⟩
    walk_at "w"
    refine ⟨p, ds, 63, rfl, upd_same, by decide, fun r r0 r1 => ?_⟩
    rw [upd_upd]
    refine ix_of (fun _ => true) r0 (Int.lt_of_lt_of_le r1 (by decide +kernel)) (by decide +kernel) (by decide +kernel) fun c _ => ?_
    refine ⟨_, _, rfl, rfl, by rw [T_len, hl]; exact small9 (by show i + 1 ≤ _; omega), l ++ [c], _, some (.int (0 + (i : Int))), ?_, by rw [List.length_append, hl]; rfl, rfl⟩
    rw [show (sg c) = T [c] from rfl, T_cat]
    rfl
  rintro _ _ ⟨l, ds, x, rfl, hl, rfl⟩
  -- kind 5: one sign more
  refine ⟨fun σ' H' => ∃ (l : List Nat) (ds : List Int) (x y : Option V), σ' = [some (.ref a), some (.ref p), some (.str K_LETTERS), some (.int kind), some (.str (T l)), x, y, none, none, none] ∧ l.length ≤ 30 ∧ H' p = some (.lst (ds.map V.int)), ?_, ?_⟩
  · walk_at "w"
    refine ⟨rfl, _, rfl, ite2 (fun c => ?_) (fun c => ?_)⟩
    · walk_at "w"
      rw [T_len]
      refine ⟨small9 (by omega), ?_⟩
      walk_at "w"
      refine ⟨p, ds, (l.length : Int) + 1, rfl, upd_same, by omega, fun r r0 r1 => ?_⟩
      rw [upd_upd]
      obtain ⟨m, rfl⟩ : ∃ m : Nat, r = (m : Int) := ⟨_, (Int.toNat_of_nonneg r0).symm⟩
      walk_at "w"
      refine ⟨by rw [T_len]; exact small9 (by omega), ?_⟩
      rw [cut_to]
      walk_at "w"
      refine ⟨p, _, 95, rfl, upd_same, by decide, fun r s0 s1 => ?_⟩
      rw [upd_upd]
      refine ⟨_, rfl, fun c hc => ?_⟩
      refine ⟨_, _, rfl, rfl, by rw [T_len]; exact small9 (by show _ + 1 ≤ _; rw [List.length_take]; omega), ?_⟩
      rw [show (sg c) = T [c] from rfl, T_cat]
      walk_at "w"
      refine ⟨by rw [T_len]; exact small9 (by omega), ?_⟩
      rw [cut_from]
      refine ⟨_, _, rfl, rfl, by rw [T_len, T_len]; exact small9 (by rw [List.length_append, List.length_take, List.length_drop]; show _ + 1 + _ ≤ _; omega), l.take m ++ [c] ++ l.drop m, _, x, some (.int (m : Int)), ?_, ?_, upd_same⟩
      · rw [T_cat]
        rfl
      · rw [List.length_append, List.length_append, List.length_take, List.length_drop]
        show _ + 1 + _ ≤ _
        omega
    · exact ⟨l, ds, x, none, rfl, by omega, upd_same⟩
  rintro _ H2 ⟨l, ds, x, y, rfl, hl, hp⟩
  have resLen : ∀ z ∈ K_RESERVED, z.length ≤ 20 := by decide +kernel
  -- kinds above 5, and 0: a reserved word
  refine ⟨fun σ' H' => ∃ (l : List Nat) (ds : List Int) (x y : Option V), σ' = [some (.ref a), some (.ref p), some (.str K_LETTERS), some (.int kind), some (.str (T l)), x, y, none, none, none] ∧ l.length ≤ 30 ∧ (kind = 7 → T l ∈ K_RESERVED) ∧ H' p = some (.lst (ds.map V.int)), ?_, ?_⟩
  · walk_at "w"
    refine ite2 (fun c => ?_) (fun c => ?_)
    · refine ⟨rfl, fun t H3 e3 n3 f3 => ?_⟩
      walk_at "w"
      refine ⟨p, _, 20, rfl, e3 _ _ hp, by decide, fun r r0 r1 => ?_⟩
      obtain ⟨v, ⟨z, hz, rfl⟩, hi⟩ := at_any (xs := K_RESERVED.map V.str) (fun v => ∃ z : Str, z ∈ K_RESERVED ∧ v = .str z) r0 (by rw [List.length_map]; exact r1) (fun x hx => by obtain ⟨z, h1, h2⟩ := List.mem_map.mp hx; exact ⟨z, h1, h2.symm⟩)
      refine ⟨t, _, _, _, rfl, rfl, .of (by rw [upd_ne (ne_of_none hp n3).symm]; exact f3), hi, z.cps.toList, ds.tail, x, y, ?_, ?_, fun _ => ?_, upd_same⟩
      · rw [← T_of]
        rfl
      · have := resLen z hz
        rw [T_of z, T_len] at this
        exact Nat.le_trans this (by decide)
      · rw [← T_of]
        exact hz
    · walk_at "w"
      refine ⟨rfl, _, rfl, ite2 (fun c => ?_) (fun c2 => ?_)⟩
      · refine ⟨rfl, fun t H3 e3 n3 f3 => ?_⟩
        walk_at "w"
        refine ⟨p, _, 20, rfl, e3 _ _ hp, by decide, fun r r0 r1 => ?_⟩
        obtain ⟨v, ⟨z, hz, rfl⟩, hi⟩ := at_any (xs := K_RESERVED.map V.str) (fun v => ∃ z : Str, z ∈ K_RESERVED ∧ v = .str z) r0 (by rw [List.length_map]; exact r1) (fun x hx => by obtain ⟨z, h1, h2⟩ := List.mem_map.mp hx; exact ⟨z, h1, h2.symm⟩)
        refine ⟨t, _, _, _, rfl, rfl, .of (by rw [upd_ne (ne_of_none hp n3).symm]; exact f3), hi, z.cps.toList, ds.tail, x, y, ?_, ?_, fun _ => ?_, upd_same⟩
        · rw [← T_of]
          rfl
        · have := resLen z hz
          rw [T_of z, T_len] at this
          exact Nat.le_trans this (by decide)
        · rw [← T_of]
          exact hz
      · refine ⟨l, ds, x, y, rfl, hl, fun h7 => ?_, hp⟩
        have : ¬ (5 < kind) := fun z => c (decide_eq_true z)
        omega
  rintro _ H3 ⟨l, ds, x, y, rfl, hl, h7, hp⟩
  -- kind 7: a reserved word changed
  refine ⟨fun σ' H' => ∃ (l : List Nat) (x y : Option V), σ' = [some (.ref a), some (.ref p), some (.str K_LETTERS), some (.int kind), some (.str (T l)), x, y, none, none, none] ∧ l.length ≤ 100, ?_, ?_⟩
  · walk_at "w"
    refine ⟨rfl, _, rfl, ite2 (fun c => ?_) (fun c => ?_)⟩
    · have k7 : kind = 7 := V.int.inj (of_decide_eq_true c)
      walk_at "w"
      have s1 : (Str.ofString "s").length = 1 := by decide +kernel
      have s2 : (Str.ofString "_").length = 1 := by decide +kernel
      rw [s1, T_len]
      refine ⟨small9 (by omega), ?_⟩
      walk_at "w"
      refine ⟨⟨_, rfl⟩, _, rfl, rfl, by rw [T_len]; omega, ?_⟩
      walk_at "w"
      rw [s2, T_len]
      refine ⟨small9 (by omega), ?_⟩
      walk_at "w"
      refine ⟨by rw [T_len]; exact small9 (by omega), ?_⟩
      walk_at "w"
      refine ⟨by show 4 ≤ sizeLine; decide, fun t ht => ?_⟩
      walk_at "w"
      have np : p ≠ t := ne_of_none hp ht
      refine ⟨p, _, 4, rfl, (upd_ne np).trans hp, by decide, fun r r0 r1 => ?_⟩
      obtain ⟨v, ⟨z, hz, rfl⟩, hi⟩ := at_any (xs := [V.str (T l ++ Str.ofString "s"), V.str (Txt.upper (T l)), V.str (Str.ofString "_" ++ T l), V.str (cutS (T l) (some 1) none)]) (fun v => ∃ z : Str, z.length ≤ 100 ∧ v = .str z) r0 r1 (fun x hx => by
        have hu := len_upper (T l)
        have hc := cutS_length (T l) (some 1) none
        rw [T_len l] at hu hc
        rcases List.mem_cons.mp hx with rfl | hx
        · exact ⟨_, by rw [Str.length_append, s1, T_len]; omega, rfl⟩
        rcases List.mem_cons.mp hx with rfl | hx
        · exact ⟨_, by omega, rfl⟩
        rcases List.mem_cons.mp hx with rfl | hx
        · exact ⟨_, by rw [Str.length_append, s2, T_len]; omega, rfl⟩
        rw [List.mem_singleton.mp hx]
        exact ⟨_, by omega, rfl⟩)
      refine ⟨t, _, _, _, rfl, rfl, .of ((upd_ne np.symm).trans upd_same), hi, z.cps.toList, x, y, ?_, ?_⟩
      · rw [← T_of]
        rfl
      · rw [T_of z, T_len] at hz
        exact hz
    · exact ⟨l, x, y, rfl, by omega⟩
  rintro _ H4 ⟨l, x, y, rfl, hl⟩
  have hz : (T l).length ≤ sizeLine := by rw [T_len]; exact small9 (by omega)
  refine ⟨fun σ' H' => σ' = [some (.ref a), some (.ref p), some (.str K_LETTERS), some (.int kind), some (.str (T l)), x, y, some (.bl (due1 l)), none, none], ?_, ?_⟩
  · walk_at "w"
    refine ⟨hz, ?_⟩
    walk_at "w"
    rw [T_len]
    by_cases h1 : 1 ≤ l.length
    · have hne : l ≠ [] := fun z => by rw [z] at h1; exact absurd h1 (by decide)
      rw [decide_eq_true (show (1 : Int) ≤ (l.length : Int) by omega)]
      refine iteT ?_
      walk_at "w"
      have c2 : decide ((l.length : Int) ≤ 20) = decide (l.length ≤ 20) := decide_eq_decide.mpr (by omega)
      rw [c2]
      cases d2 : decide (l.length ≤ 20) with
      | false =>
        refine iteF ?_
        show _ = _
        rw [show due1 l = false by unfold due1; rw [d2, Bool.and_false, Bool.false_and, Bool.false_and]]
        rfl
      | true =>
        refine iteT ⟨_, rfl, rfl, fun t H5 e5 n5 f5 => ⟨t, _, rfl, .inl (.of f5), rfl, flat_strs _, ?_⟩⟩
        rw [inV_strs]
        walk_at "w"
        cases d3 : decide (T l ∈ K_RESERVED) with
        | true =>
          refine iteF ?_
          show _ = _
          rw [show due1 l = false by unfold due1; rw [d3]; simp]
          rfl
        | false =>
          refine iteT ?_
          obtain ⟨c, r, rfl⟩ := List.exists_cons_of_ne_nil hne
          refine ⟨_, rfl, _, 0, c, rfl, rfl, hz, atI_nat (j := 0) rfl, _, rfl, c, _, rfl, rfl, ?_⟩
          show _ = _
          rw [show due1 (c :: r) = isL c by unfold due1; rw [d2, d3, decide_eq_true h1]; rfl]
          rfl
    · rw [decide_eq_false (show ¬ (1 : Int) ≤ (l.length : Int) by omega)]
      refine iteF ⟨_, rfl, iteF ?_⟩
      show _ = _
      rw [show due1 l = false by unfold due1; rw [decide_eq_false h1]; rfl]
      rfl
  rintro _ H5 rfl
  refine ⟨fun σ' H' => σ' = [some (.ref a), some (.ref p), some (.str K_LETTERS), some (.int kind), some (.str (T l)), x, y, some (.bl (due1 l && l.all isW)), none, none], ?_, ?_⟩
  · refine ⟨_, rfl, _, rfl, ?_⟩
    cases hd1 : due1 l with
    | false => exact iteF rfl
    | true =>
      refine iteT ⟨_, rfl, _, rfl, fun L hL => ?_⟩
      refine lc_txt (fun i H' => H' L = some (.lst (((l.take i).map isW).map V.bl))) upd_same ?_ ?_
      · rintro i c H' hi hl2
        refine ⟨rfl, ?_⟩
        refine ⟨_, rfl, _, rfl, _, _, rfl, rfl, by decide +kernel, c, _, rfl, rfl, _, hl2, ?_, ?_⟩
        · rw [List.length_map, List.length_map, List.length_take]
          exact small1000 (by omega)
        · rw [upd_same, List.take_add_one, hi, List.map_append, List.map_append]
          have : isW c = decide (c ∈ (K_LETTERS ++ Str.ofString "0123456789").cps.toList) := isW_lit c
          rw [show ((some c).toList.map isW).map V.bl = [V.bl (isW c)] from rfl, this]
      · rintro H' hl2
        rw [List.take_length] at hl2
        refine ⟨L, _, rfl, SqL.of hl2, ?_⟩
        show _ = _
        rw [show (l.map isW).all id = (true && l.all isW) by rw [List.all_map, Bool.true_and]; rfl]
        rfl
  rintro _ H6 rfl
  walk_at "w"
  refine ⟨by omega, ?_⟩
  refine ev_isi (b := true) rfl (.base (.bl _)) (by decide +kernel) ⟨_, rfl, iteT ?_⟩
  refine ⟨_, rfl, _, rfl, rfl, ?_⟩
  rw [isNm_due, decide_eq_true rfl]
  exact q _
end
theorem all_mk {l : PySem.W.OpenLaw} {w : World} {K : PySem.W.Frag} {h : Heap} {mg : Str → Option Value} {fa : Addr} (X : K.In h) (G : h.Ns mainGlobals mg) (hfa : mg "law" = some (.ref fa))
    {f_is_name : Addr} {od_is_name an_is_name : Option Addr} {sl_is_name : Array (Option Value)} {oc_is_name kV_is_name dc_is_name pm_is_name cd_is_name ct_is_name : Value}
    {f_word_end : Addr} {od_word_end an_word_end : Option Addr} {sl_word_end : Array (Option Value)} {oc_word_end kV_word_end dc_word_end pm_word_end cd_word_end ct_word_end : Value}
    {f_law_cell : Addr} {od_law_cell an_law_cell : Option Addr} {sl_law_cell : Array (Option Value)} {oc_law_cell kV_law_cell dc_law_cell pm_law_cell cd_law_cell ct_law_cell : Value}
    {f_law_draws : Addr} {od_law_draws an_law_draws : Option Addr} {sl_law_draws : Array (Option Value)} {oc_law_draws kV_law_draws dc_law_draws pm_law_draws cd_law_draws ct_law_draws : Value}
    {f_law_take : Addr} {od_law_take an_law_take : Option Addr} {sl_law_take : Array (Option Value)} {oc_law_take kV_law_take dc_law_take pm_law_take cd_law_take ct_law_take : Value}
    {f_law_char : Addr} {od_law_char an_law_char : Option Addr} {sl_law_char : Array (Option Value)} {oc_law_char kV_law_char dc_law_char pm_law_char cd_law_char ct_law_char : Value}
    {f_law_reserved : Addr} {od_law_reserved an_law_reserved : Option Addr} {sl_law_reserved : Array (Option Value)} {oc_law_reserved kV_law_reserved dc_law_reserved pm_law_reserved cd_law_reserved ct_law_reserved : Value}
    {t_LETTERS : Tok}
    {t_DIGITS : Tok}
    {t_LONGEST_WORD : Tok}
    {r_RESERVED : Addr} {oo_RESERVED : Option Addr} {os_RESERVED : Array (Option Value)} {i_RESERVED : Array Value} {n_RESERVED : Nat}
    {od_law an_law : Option Addr} {sl_law : Array (Option Value)} {oc_law kV_law dc_law pm_law cd_law ct_law : Value} {f_law : Addr}
    (a_is_name : PySem.W.nsIn K mainGlobals "is_name" = some (some (.ref f_is_name))) (l_is_name : K.lookup f_is_name = some ⟨oc_is_name, od_is_name, .func (PySem.W.fnOf "is_name" "is_name" (defArgs s_is_name) (defBody s_is_name) (defScope s_is_name) .none kV_is_name dc_is_name pm_is_name an_is_name cd_is_name ct_is_name), sl_is_name⟩) (w_is_name : PySem.W.codeIn K cd_is_name "is_name" = true) (k_is_name : PySem.W.keepIn K (.ref f_is_name) = true)
    (a_word_end : PySem.W.nsIn K mainGlobals "_word_end" = some (some (.ref f_word_end))) (l_word_end : K.lookup f_word_end = some ⟨oc_word_end, od_word_end, .func (PySem.W.fnOf "_word_end" "_word_end" (defArgs s_word_end) (defBody s_word_end) (defScope s_word_end) .none kV_word_end dc_word_end pm_word_end an_word_end cd_word_end ct_word_end), sl_word_end⟩) (w_word_end : PySem.W.codeIn K cd_word_end "_word_end" = true) (k_word_end : PySem.W.keepIn K (.ref f_word_end) = true)
    (a_law_cell : PySem.W.nsIn K mainGlobals "_law_cell" = some (some (.ref f_law_cell))) (l_law_cell : K.lookup f_law_cell = some ⟨oc_law_cell, od_law_cell, .func (PySem.W.fnOf "_law_cell" "_law_cell" (defArgs s_law_cell) (defBody s_law_cell) (defScope s_law_cell) .none kV_law_cell dc_law_cell pm_law_cell an_law_cell cd_law_cell ct_law_cell), sl_law_cell⟩) (w_law_cell : PySem.W.codeIn K cd_law_cell "_law_cell" = true) (k_law_cell : PySem.W.keepIn K (.ref f_law_cell) = true)
    (a_law_draws : PySem.W.nsIn K mainGlobals "_law_draws" = some (some (.ref f_law_draws))) (l_law_draws : K.lookup f_law_draws = some ⟨oc_law_draws, od_law_draws, .func (PySem.W.fnOf "_law_draws" "_law_draws" (defArgs s_law_draws) (defBody s_law_draws) (defScope s_law_draws) .none kV_law_draws dc_law_draws pm_law_draws an_law_draws cd_law_draws ct_law_draws), sl_law_draws⟩) (w_law_draws : PySem.W.codeIn K cd_law_draws "_law_draws" = true) (k_law_draws : PySem.W.keepIn K (.ref f_law_draws) = true)
    (a_law_take : PySem.W.nsIn K mainGlobals "_law_take" = some (some (.ref f_law_take))) (l_law_take : K.lookup f_law_take = some ⟨oc_law_take, od_law_take, .func (PySem.W.fnOf "_law_take" "_law_take" (defArgs s_law_take) (defBody s_law_take) (defScope s_law_take) .none kV_law_take dc_law_take pm_law_take an_law_take cd_law_take ct_law_take), sl_law_take⟩) (w_law_take : PySem.W.codeIn K cd_law_take "_law_take" = true) (k_law_take : PySem.W.keepIn K (.ref f_law_take) = true)
    (a_law_char : PySem.W.nsIn K mainGlobals "_law_char" = some (some (.ref f_law_char))) (l_law_char : K.lookup f_law_char = some ⟨oc_law_char, od_law_char, .func (PySem.W.fnOf "_law_char" "_law_char" (defArgs s_law_char) (defBody s_law_char) (defScope s_law_char) .none kV_law_char dc_law_char pm_law_char an_law_char cd_law_char ct_law_char), sl_law_char⟩) (w_law_char : PySem.W.codeIn K cd_law_char "_law_char" = true) (k_law_char : PySem.W.keepIn K (.ref f_law_char) = true)
    (a_law_reserved : PySem.W.nsIn K mainGlobals "_law_reserved" = some (some (.ref f_law_reserved))) (l_law_reserved : K.lookup f_law_reserved = some ⟨oc_law_reserved, od_law_reserved, .func (PySem.W.fnOf "_law_reserved" "_law_reserved" (defArgs s_law_reserved) (defBody s_law_reserved) (defScope s_law_reserved) .none kV_law_reserved dc_law_reserved pm_law_reserved an_law_reserved cd_law_reserved ct_law_reserved), sl_law_reserved⟩) (w_law_reserved : PySem.W.codeIn K cd_law_reserved "_law_reserved" = true) (k_law_reserved : PySem.W.keepIn K (.ref f_law_reserved) = true)
    (a_law : PySem.W.nsIn K mainGlobals "law" = some (some (.ref f_law))) (l_law : K.lookup f_law = some ⟨oc_law, od_law, .func (PySem.W.fnOf "law" "law" (defArgs s_law) (defBody s_law) (defScope s_law) .none kV_law dc_law pm_law an_law cd_law ct_law), sl_law⟩) (w_law : PySem.W.codeIn K cd_law "law" = true) (k_law : PySem.W.keepIn K (.ref f_law) = true)
    (y_all : PySem.W.nsIn K mainGlobals "all" = some none)
    (y_bool : PySem.W.nsIn K mainGlobals "bool" = some none)
    (y_int : PySem.W.nsIn K mainGlobals "int" = some none)
    (y_isinstance : PySem.W.nsIn K mainGlobals "isinstance" = some none)
    (y_len : PySem.W.nsIn K mainGlobals "len" = some none)
    (y_range : PySem.W.nsIn K mainGlobals "range" = some none)
    (g_LETTERS : PySem.W.nsIn K mainGlobals "LETTERS" = some (some (.str K_LETTERS t_LETTERS)))
    (g_DIGITS : PySem.W.nsIn K mainGlobals "DIGITS" = some (some (.str K_DIGITS t_DIGITS)))
    (g_LONGEST_WORD : PySem.W.nsIn K mainGlobals "LONGEST_WORD" = some (some (.int K_LONGEST_WORD t_LONGEST_WORD)))
    (g_RESERVED : PySem.W.nsIn K mainGlobals "RESERVED" = some (some (.ref r_RESERVED))) (u_RESERVED : K.lookup r_RESERVED = some ⟨.type "tuple", oo_RESERVED, .seq i_RESERVED n_RESERVED, os_RESERVED⟩)
    (v_RESERVED : StrIts i_RESERVED.toList K_RESERVED = true) (vs_RESERVED : decide (i_RESERVED.size ≤ 1000) = true) :
    ∃ fd : FuncData, (∀ (s : Shared) (v : Value), BindsTo s fd ⟨[v], []⟩ [("script", v)]) ∧ ∀ base : Heap, K.In base → base.Ns mainGlobals mg → FnOk l.prog w K mg base CX0 3 fa fd ["script"] (spLaw K) := by
  have e := hfa.symm.trans (PySem.W.mg_of X G a_law)
  cases e
  have D_is_name : Df K mg "is_name" s_is_name f_is_name _ ["word"] := ⟨fun_mk (st := s_is_name) l_is_name w_is_name k_is_name, PySem.W.mg_of X G a_is_name, k_is_name, (fun_mk (st := s_is_name) l_is_name w_is_name k_is_name).binds (ps := ["word"]) fun _ _ _ _ _ _ us hl => match us, hl with | [_], _ => rfl⟩
  have D_word_end : Df K mg "_word_end" s_word_end f_word_end _ ["text", "at"] := ⟨fun_mk (st := s_word_end) l_word_end w_word_end k_word_end, PySem.W.mg_of X G a_word_end, k_word_end, (fun_mk (st := s_word_end) l_word_end w_word_end k_word_end).binds (ps := ["text", "at"]) fun _ _ _ _ _ _ us hl => match us, hl with | [_, _], _ => rfl⟩
  have D_law_cell : Df K mg "_law_cell" s_law_cell f_law_cell _ ["script", "k"] := ⟨fun_mk (st := s_law_cell) l_law_cell w_law_cell k_law_cell, PySem.W.mg_of X G a_law_cell, k_law_cell, (fun_mk (st := s_law_cell) l_law_cell w_law_cell k_law_cell).binds (ps := ["script", "k"]) fun _ _ _ _ _ _ us hl => match us, hl with | [_, _], _ => rfl⟩
  have D_law_draws : Df K mg "_law_draws" s_law_draws f_law_draws _ ["script", "k", "count"] := ⟨fun_mk (st := s_law_draws) l_law_draws w_law_draws k_law_draws, PySem.W.mg_of X G a_law_draws, k_law_draws, (fun_mk (st := s_law_draws) l_law_draws w_law_draws k_law_draws).binds (ps := ["script", "k", "count"]) fun _ _ _ _ _ _ us hl => match us, hl with | [_, _, _], _ => rfl⟩
  have D_law_take : Df K mg "_law_take" s_law_take f_law_take _ ["draws", "many"] := ⟨fun_mk (st := s_law_take) l_law_take w_law_take k_law_take, PySem.W.mg_of X G a_law_take, k_law_take, (fun_mk (st := s_law_take) l_law_take w_law_take k_law_take).binds (ps := ["draws", "many"]) fun _ _ _ _ _ _ us hl => match us, hl with | [_, _], _ => rfl⟩
  have D_law_char : Df K mg "_law_char" s_law_char f_law_char _ ["draw"] := ⟨fun_mk (st := s_law_char) l_law_char w_law_char k_law_char, PySem.W.mg_of X G a_law_char, k_law_char, (fun_mk (st := s_law_char) l_law_char w_law_char k_law_char).binds (ps := ["draw"]) fun _ _ _ _ _ _ us hl => match us, hl with | [_], _ => rfl⟩
  have D_law_reserved : Df K mg "_law_reserved" s_law_reserved f_law_reserved _ [] := ⟨fun_mk (st := s_law_reserved) l_law_reserved w_law_reserved k_law_reserved, PySem.W.mg_of X G a_law_reserved, k_law_reserved, (fun_mk (st := s_law_reserved) l_law_reserved w_law_reserved k_law_reserved).binds (ps := []) fun _ _ _ _ _ _ us hl => match us, hl with | [], _ => rfl⟩
  have z_all : mg "all" = none := PySem.W.mg_none_of X G y_all
  have z_bool : mg "bool" = none := PySem.W.mg_none_of X G y_bool
  have z_int : mg "int" = none := PySem.W.mg_none_of X G y_int
  have z_isinstance : mg "isinstance" = none := PySem.W.mg_none_of X G y_isinstance
  have z_len : mg "len" = none := PySem.W.mg_none_of X G y_len
  have z_range : mg "range" = none := PySem.W.mg_none_of X G y_range
  have m_LETTERS : mg "LETTERS" = some _ := PySem.W.mg_of X G g_LETTERS
  have m_DIGITS : mg "DIGITS" = some _ := PySem.W.mg_of X G g_DIGITS
  have m_LONGEST_WORD : mg "LONGEST_WORD" = some _ := PySem.W.mg_of X G g_LONGEST_WORD
  have m_RESERVED : mg "RESERVED" = some _ := PySem.W.mg_of X G g_RESERVED
  have T_RESERVED : ∀ H, SqT K H r_RESERVED (K_RESERVED.map V.str) := fun H => sqt_of u_RESERVED v_RESERVED vs_RESERVED
  have F_law := fun_mk (st := s_law) l_law w_law k_law
  refine ⟨PySem.W.fnOf "law" "law" (defArgs s_law) (defBody s_law) (defScope s_law) .none kV_law dc_law pm_law an_law cd_law ct_law, fun s v => .of_eq rfl, fun base _ _ => ?_⟩
  have c1 := c_law_cell (P := l.prog) (w := w) (base := base) D_law_cell z_len z_int
  exact ok_law F_law (c_law_draws D_law_draws c1 z_int z_range) (c_law_take D_law_take z_int) (c_law_char D_law_char z_int z_len) (c_law_reserved D_law_reserved) (c_is_name D_is_name (c_word_end D_word_end m_LETTERS m_DIGITS z_len) m_LONGEST_WORD m_RESERVED T_RESERVED z_len) z_range z_isinstance z_bool z_all z_len
end Pf
open PySem PySem.W PyProof.Rows
set_option maxHeartbeats 0 in
theorem PySem.Challenge.cw_ontoworks_k41_is_name_holds : PySem.Challenge.rw_ontoworks_k41_is_name.Holds := by
  w_on; o_law; k_head; (case hw => w_witness2)
  k_fill
  refine L2.walk_of (l := PySem.Challenge.rw_ontoworks_k41_is_name) (n := 63) (k := 3) (x := "script") (CX := fun _ => L2.CX0) (sp := fun w => Pf.spLaw _) rfl (by decide) rfl ⟨rfl, by decide, by decide⟩ (fun w h Y => PySem.W.kIn_of Y) ?F (fun _ _ a ns hl _ hS => ⟨a, ns, rfl, hS, hl, fun _ => rfl⟩) (fun _ _ _ _ _ h => h)
  case F =>
    intro w mg fa h KX G hmg
    refine' Pf.all_mk KX G hmg ?a_is_name ?l_is_name ?w_is_name ?k_is_name ?a_word_end ?l_word_end ?w_word_end ?k_word_end ?a_law_cell ?l_law_cell ?w_law_cell ?k_law_cell ?a_law_draws ?l_law_draws ?w_law_draws ?k_law_draws ?a_law_take ?l_law_take ?w_law_take ?k_law_take ?a_law_char ?l_law_char ?w_law_char ?k_law_char ?a_law_reserved ?l_law_reserved ?w_law_reserved ?k_law_reserved ?a_law ?l_law ?w_law ?k_law ?y_all ?y_bool ?y_int ?y_isinstance ?y_len ?y_range ?g_LETTERS ?g_DIGITS ?g_LONGEST_WORD ?g_RESERVED ?u_RESERVED ?v_RESERVED ?vs_RESERVED
    (case a_is_name => k_is)
    (case l_is_name => k_is)
    (case w_is_name => k_is)
    (case k_is_name => k_is)
    (case a_word_end => k_is)
    (case l_word_end => k_is)
    (case w_word_end => k_is)
    (case k_word_end => k_is)
    (case a_law_cell => k_is)
    (case l_law_cell => k_is)
    (case w_law_cell => k_is)
    (case k_law_cell => k_is)
    (case a_law_draws => k_is)
    (case l_law_draws => k_is)
    (case w_law_draws => k_is)
    (case k_law_draws => k_is)
    (case a_law_take => k_is)
    (case l_law_take => k_is)
    (case w_law_take => k_is)
    (case k_law_take => k_is)
    (case a_law_char => k_is)
    (case l_law_char => k_is)
    (case w_law_char => k_is)
    (case k_law_char => k_is)
    (case a_law_reserved => k_is)
    (case l_law_reserved => k_is)
    (case w_law_reserved => k_is)
    (case k_law_reserved => k_is)
    (case a_law => k_is)
    (case l_law => k_is)
    (case w_law => k_is)
    (case k_law => k_is)
    (case y_all => k_is)
    (case y_bool => k_is)
    (case y_int => k_is)
    (case y_isinstance => k_is)
    (case y_len => k_is)
    (case y_range => k_is)
    (case g_LETTERS => k_is)
    (case g_DIGITS => k_is)
    (case g_LONGEST_WORD => k_is)
    (case g_RESERVED => k_is); (case u_RESERVED => k_is)
    (case v_RESERVED => decide +kernel); (case vs_RESERVED => decide +kernel)