import PyProof.Rows.All
import Wide.All
import OpenK.AllK
import Wide.FinOn
import HandS.ForMost
import HandS.Flow
import HandS.Small
import HandS.SetKeys
import HandS.Zip
import HandS.Style
import HandS.More
import HandS.Deep
import KE.KDictZip
import HandS.ListItems
import HandS.DictComp
import PyProof.ReprLen
import PyProof.StrLawsRepr
import PyProof.Rows.StrMeet
import PyProof.SumWalkG
import PyProof.WalkInts
import HandS.List
import PySem.Challenge.RW_leastneeds_k07_whole_most_general_ways
import HandS.Walk
import HandS.NoneIn
set_option Elab.async false
set_option linter.all false
set_option maxRecDepth 100000
set_option maxHeartbeats 4000000
namespace L3
open PySem L2
/-! ### a def that is known by its name -/
section
variable {P : Program} {w : World} {K : PySem.W.Frag} {mg : Str → Option Value} {base : Heap}
structure Kn (P : Program) (w : World) (K : PySem.W.Frag) (mg : Str → Option Value) (base : Heap) (k : Nat) (x : Str) (ps : List Str) (sp : Sp) : Prop where
  ex : ∃ (f : Addr) (fd : FuncData), FnOk P w K mg base CX0 k f fd ps sp ∧ mg x = some (.ref f) ∧ PySem.W.keepIn K (.ref f) = true ∧ Binds K fd ps []
end
section
variable {X : Cx} {x : Str} {k : Nat} {ps : List Str} {sp : Sp} {e : Expr} {es : List Expr} {t : TA} {p pos : Pos}
theorem pe_kn (D : Kn X.prog X.w X.K X.mg X.base k x ps sp) (hr : Room k X.A) (ha : PA X (e :: es) t) (hg : Gl X x := by rfl) (hdb : (x == ("__debug__" : Str)) = false := by decide)
    (he : starEach (e :: es) X.env = (false, eval e X.env) :: starEach es X.env := by rfl) (hpl : (backTo pos (starEach es X.env)).any (·.1) = false := by rfl) :
    PE X (.Call (.Name x p) (e :: es) [] pos) (tCall sp [] E0 t) := by
  obtain ⟨f, fd, F, hm, hk, hb⟩ := D.ex
  exact pe_call F hr hg hm hk hb .nil pass0 ha hdb he hpl
theorem pe_kn0 (D : Kn X.prog X.w X.K X.mg X.base k x ps sp) (hr : Room k X.A) (hg : Gl X x := by rfl) (hdb : (x == ("__debug__" : Str)) = false := by decide) :
    PE X (.Call (.Name x p) [] [] pos) (tCall sp [] E0 tNil) := by
  obtain ⟨f, fd, F, hm, hk, hb⟩ := D.ex
  exact pe_call0 F hr hg hm hk hb .nil pass0 hdb
end
/-- built-in names that the text leaves alone -/
structure Bl (mg : Str → Option Value) : Prop where
  len : mg "len" = none
  int : mg "int" = none
  list : mg "list" = none
  tuple : mg "tuple" = none
  dict : mg "dict" = none
  repr : mg "repr" = none
  range : mg "range" = none
  zip : mg "zip" = none
  sorted : mg "sorted" = none

/-! ### the tape -/
/-- all but the object at t is kept -/
def Ext (t : Addr) (H H' : Hp) : Prop := ∀ b o, b ≠ t → H b = some o → H' b = some o
theorem Ext.refl (t : Addr) (H : Hp) : Ext t H H := fun _ _ _ h => h
theorem Ext.trans {t : Addr} {H H1 H2 : Hp} (a : Ext t H H1) (b : Ext t H1 H2) : Ext t H H2 := fun c o n h => b c o n (a c o n h)
theorem Ext.new {t p : Addr} {H : Hp} {o : HO} (h : H p = none) : Ext t H (upd H p o) := fun b u _ e => by
  rw [upd_ne (ne_of_none e h)]
  exact e
theorem Ext.put {t : Addr} {H : Hp} {o : HO} : Ext t H (upd H t o) := fun b u n e => by
  rw [upd_ne n]
  exact e
theorem same_ext {t : Addr} {H H' : Hp} (h : Same H H') : Ext t H H' := fun b o _ e => h b o e
theorem same_new {p : Addr} {H : Hp} {o : HO} (h : H p = none) : Same H (upd H p o) := fun b u e => by
  rw [upd_ne (ne_of_none e h)]
  exact e
def tp (c : Addr) (p l : Int) : List (Key × V) := [(.inr "cells", .ref c), (.inr "place", .int p), (.inr "left", .int l)]
theorem tp_cells (c : Addr) (p l : Int) : valV (tp c p l) (.inr "cells") = some (.ref c) := by rfl
theorem tp_place (c : Addr) (p l : Int) : valV (tp c p l) (.inr "place") = some (.int p) := by rfl
theorem tp_left (c : Addr) (p l : Int) : valV (tp c p l) (.inr "left") = some (.int l) := by rfl
theorem tp_putP (c : Addr) (p l q : Int) : putK (tp c p l) (.inr "place") (.int q) = tp c q l := by rfl
theorem tp_putL (c : Addr) (p l q : Int) : putK (tp c p l) (.inr "left") (.int q) = tp c p q := by rfl
/-- at t a tape stands, its cells at c, from which b more cells may be taken -/
def Tape (K : PySem.W.Frag) (H : Hp) (t c : Addr) (b : Nat) : Prop :=
  ∃ (p l : Int) (ns : List Int), H t = some (.dK (tp c p l)) ∧ SqL K H c (ns.map V.int) ∧ c ≠ t ∧ 0 < ns.length ∧ ns.length ≤ 63 ∧ 0 ≤ p ∧ p + b ≤ 1000000 ∧ 0 ≤ l
theorem Tape.less {K : PySem.W.Frag} {H : Hp} {t c : Addr} {b b' : Nat} (h : Tape K H t c b) (hb : b' ≤ b) : Tape K H t c b' := by
  obtain ⟨p, l, ns, h1, h2, h3, h4, h5, h6, h7, h8⟩ := h
  exact ⟨p, l, ns, h1, h2, h3, h4, h5, h6, by omega, h8⟩
theorem SqL.same {K : PySem.W.Frag} {H H' : Hp} {a : Addr} {xs : List V} (h : SqL K H a xs) (k : ∀ o, H a = some o → H' a = some o) : SqL K H' a xs := by
  rcases h with (h | ⟨o, h⟩) | h
  · exact .inl (.inl (k _ h))
  · exact .inl (.inr ⟨o, k _ h⟩)
  · exact .inr h
theorem SqL.ext {K : PySem.W.Frag} {t : Addr} {H H' : Hp} {a : Addr} {xs : List V} (h : SqL K H a xs) (e : Ext t H H') (n : a ≠ t) : SqL K H' a xs := SqL.same h fun o q => e a o n q
/-- the tape is untouched -/
theorem Tape.same {K : PySem.W.Frag} {H H' : Hp} {t c : Addr} {b : Nat} (h : Tape K H t c b) (k : Same H H') : Tape K H' t c b := by
  obtain ⟨p, l, ns, h1, h2, h3, h4, h5, h6, h7, h8⟩ := h
  exact ⟨p, l, ns, k _ _ h1, k.seq h2, h3, h4, h5, h6, h7, h8⟩
theorem Tape.new {K : PySem.W.Frag} {H : Hp} {t c : Addr} {b : Nat} {q : Addr} {o : HO} (h : Tape K H t c b) (n : H q = none) : Tape K (upd H q o) t c b := h.same (same_new n)
theorem Tape.dict {K : PySem.W.Frag} {H : Hp} {t c : Addr} {b : Nat} (h : Tape K H t c b) : ∃ kvs, H t = some (.dK kvs) := by
  obtain ⟨p, l, ns, h1, _⟩ := h
  exact ⟨_, h1⟩
theorem Tape.ne {K : PySem.W.Frag} {H : Hp} {t c : Addr} {b : Nat} (h : Tape K H t c b) {l : Addr} (n : H l = none) : l ≠ t := fun e => by
  obtain ⟨kvs, q⟩ := h.dict
  rw [e, q] at n
  cases n
theorem Ext.free {t : Addr} {H H' : Hp} (e : Ext t H H') {l : Addr} (n : l ≠ t) (h : H' l = none) : H l = none := by
  cases q : H l with
  | none => rfl
  | some o =>
    rw [e l o n q] at h
    cases h
/-- an object D that was not there at H0 is stored into -/
theorem Tape.put {K : PySem.W.Frag} {H0 H : Hp} {t c : Addr} {b0 b : Nat} {D : Addr} {o : HO} (h0 : Tape K H0 t c b0) (e : Ext t H0 H) (h : Tape K H t c b) (n : H0 D = none) : Tape K (upd H D o) t c b := by
  have nt : t ≠ D := (h0.ne n).symm
  obtain ⟨_, _, ns, _, g2, g3, g4, g5, _⟩ := h0
  obtain ⟨p, l, _, h1, _, _, _, _, h6, h7, h8⟩ := h
  refine ⟨p, l, ns, by rw [upd_ne nt]; exact h1, SqL.same g2 fun u q => ?_, g3, g4, g5, h6, h7, h8⟩
  rw [upd_ne (ne_of_none q n)]
  exact e _ _ g3 q
theorem Ext.upd {t : Addr} {H0 H : Hp} {D : Addr} {o : HO} (e : Ext t H0 H) (n : H0 D = none) : Ext t H0 (upd H D o) := fun q u h1 h2 => by
  rw [upd_ne (ne_of_none h2 n)]
  exact e q u h1 h2
end L3

namespace L3
open PySem L2
theorem slz {n : Nat} (h : Nat.ble n 1000 = true) : n ≤ sizeLine := Nat.le_of_lt (small1000 (Nat.le_of_ble_eq_true h))
theorem iT {c : Bool} {A B : Prop} (h : c = true) (a : A) : if c = true then A else B := by
  rw [if_pos h]
  exact a
theorem iF {c : Bool} {A B : Prop} (h : c = false) (b : B) : if c = true then A else B := by
  rw [h]
  exact iteF b
theorem tg_aa : decide (V.str ("apply" : Str) = V.str ("apply" : Str)) = true := decide_eq_true rfl
theorem tg_va : decide (V.str ("var" : Str) = V.str ("apply" : Str)) = false := by decide +kernel
theorem tg_ca : decide (V.str ("con" : Str) = V.str ("apply" : Str)) = false := by decide +kernel
theorem tg_vv : decide (V.str ("var" : Str) = V.str ("var" : Str)) = true := decide_eq_true rfl
theorem tg_cv : decide (V.str ("con" : Str) = V.str ("var" : Str)) = false := by decide +kernel
theorem tg_av : decide (V.str ("apply" : Str) = V.str ("var" : Str)) = false := by decide +kernel
theorem tg_ac : decide (V.str ("apply" : Str) = V.str ("con" : Str)) = false := by decide +kernel
theorem tg_vc : decide (V.str ("var" : Str) = V.str ("con" : Str)) = false := by decide +kernel
theorem tg_cc : decide (V.str ("con" : Str) = V.str ("con" : Str)) = true := decide_eq_true rfl
/-! ### kinds -/
inductive Kd where
  | var (x : Str) | con (x : Str) | app (a b : Kd)
  deriving DecidableEq
def Kd.tag : Kd → Str
  | .var _ => "var" | .con _ => "con" | .app _ _ => "apply"
/-- a word of 1 to 8 letters from a to z -/
def Wok (x : Str) : Prop := 1 ≤ x.length ∧ x.length ≤ 8 ∧ ∀ c ∈ x.cps.toList, 97 ≤ c ∧ c ≤ 122
/-- at most n deep, of words -/
def Kd.fit : Nat → Kd → Prop
  | _, .var x => Wok x
  | _, .con x => Wok x
  | 0, .app _ _ => False
  | n + 1, .app a b => Kd.fit n a ∧ Kd.fit n b
theorem Kd.fit_mono : ∀ {k : Kd} {n m : Nat}, n ≤ m → Kd.fit n k → Kd.fit m k
  | .var _, n, m, _, h => by cases n <;> cases m <;> exact h
  | .con _, n, m, _, h => by cases n <;> cases m <;> exact h
  | .app a b, 0, _, _, h => h.elim
  | .app a b, n + 1, 0, e, _ => absurd e (by omega)
  | .app a b, n + 1, m + 1, e, h => ⟨Kd.fit_mono (by omega) h.1, Kd.fit_mono (by omega) h.2⟩
theorem Kd.fit_app {n : Nat} {a b : Kd} (h : Kd.fit n (.app a b)) : ∃ m, n = m + 1 ∧ Kd.fit m a ∧ Kd.fit m b := by
  cases n with
  | zero => exact h.elim
  | succ m => exact ⟨m, rfl, h.1, h.2⟩
def KdAt (H : Hp) : V → Kd → Prop
  | v, .var x => ∃ a, v = .ref a ∧ H a = some (.tup [.str "var", .str x])
  | v, .con x => ∃ a, v = .ref a ∧ H a = some (.tup [.str "con", .str x])
  | v, .app k l => ∃ a u z, v = .ref a ∧ H a = some (.tup [.str "apply", u, z]) ∧ KdAt H u k ∧ KdAt H z l
/-- tuples stay -/
def Tups (H H' : Hp) : Prop := ∀ b xs, H b = some (.tup xs) → H' b = some (.tup xs)
theorem same_tups {H H' : Hp} (h : Same H H') : Tups H H' := fun b xs e => h b _ e
theorem Tups.trans {H H1 H2 : Hp} (a : Tups H H1) (b : Tups H1 H2) : Tups H H2 := fun c xs e => b c xs (a c xs e)
theorem Tups.put {H : Hp} {d : Addr} {o u : HO} (h : H d = some o) (n : ∀ xs, o ≠ .tup xs) : Tups H (upd H d u) := fun b xs e => by
  rw [upd_ne (fun q => by rw [q, h] at e; exact n xs (Option.some.inj e))]
  exact e
theorem Tups.new {H : Hp} {d : Addr} {u : HO} (h : H d = none) : Tups H (upd H d u) := same_tups (same_new h)
theorem Ext.tups {K : PySem.W.Frag} {t c : Addr} {b : Nat} {H H' : Hp} (e : Ext t H H') (h : Tape K H t c b) : Tups H H' := fun q xs z => by
  obtain ⟨kvs, hk⟩ := h.dict
  exact e q _ (ne_of z hk (by intro r; cases r)) z
theorem KdAt.tups {H H' : Hp} (h : Tups H H') : ∀ {k : Kd} {v : V}, KdAt H v k → KdAt H' v k
  | .var _, _, ⟨a, e, q⟩ => ⟨a, e, h _ _ q⟩
  | .con _, _, ⟨a, e, q⟩ => ⟨a, e, h _ _ q⟩
  | .app _ _, _, ⟨a, u, z, e, q, h1, h2⟩ => ⟨a, u, z, e, h _ _ q, KdAt.tups h h1, KdAt.tups h h2⟩
/-- the tuple of a kind, and its first item -/
theorem KdAt.top {H : Hp} : ∀ {k : Kd} {v : V}, KdAt H v k → ∃ a xs, v = .ref a ∧ H a = some (.tup xs) ∧ xs[0]? = some (.str k.tag)
  | .var _, _, ⟨a, e, q⟩ => ⟨a, _, e, q, rfl⟩
  | .con _, _, ⟨a, e, q⟩ => ⟨a, _, e, q, rfl⟩
  | .app _ _, _, ⟨a, u, z, e, q, _⟩ => ⟨a, _, e, q, rfl⟩
def Kd.dat : Kd → PyData
  | .var x => .tuple [.str "var", .str x]
  | .con x => .tuple [.str "con", .str x]
  | .app a b => .tuple [.str "apply", a.dat, b.dat]
theorem KdAt.dp {K : PySem.W.Frag} {H : Hp} : ∀ {k : Kd} {v : V}, KdAt H v k → Dp K H v k.dat
  | .var x, _, ⟨a, e, q⟩ => by subst e; exact .tup (SqT.of q) (.cons (.str _) (.cons (.str _) .nil))
  | .con x, _, ⟨a, e, q⟩ => by subst e; exact .tup (SqT.of q) (.cons (.str _) (.cons (.str _) .nil))
  | .app _ _, _, ⟨a, u, z, e, q, h1, h2⟩ => by subst e; exact .tup (SqT.of q) (.cons (.str _) (.cons h1.dp (.cons h2.dp .nil)))
theorem ne_vc : ¬ (("var" : Str) = "con") := by decide +kernel
theorem ne_cv : ¬ (("con" : Str) = "var") := by decide +kernel
theorem ne_va : ¬ (("var" : Str) = "apply") := by decide +kernel
theorem ne_av : ¬ (("apply" : Str) = "var") := by decide +kernel
theorem ne_ca : ¬ (("con" : Str) = "apply") := by decide +kernel
theorem ne_ac : ¬ (("apply" : Str) = "con") := by decide +kernel
theorem str_beq (x y : Str) : (x == y) = decide (x = y) := by
  rw [Bool.eq_iff_iff]
  simp
theorem eqv_tt (xs ys : List PyData) : PyData.eqv (.tuple xs) (.tuple ys) = PyData.eqvAll xs ys := by rw [PyData.eqv]
theorem eqv_cc (x y : PyData) (xs ys : List PyData) : PyData.eqvAll (x :: xs) (y :: ys) = (PyData.eqv x y && PyData.eqvAll xs ys) := by rw [PyData.eqvAll]
theorem eqv_nn : PyData.eqvAll [] [] = true := by rw [PyData.eqvAll]
theorem eqv_nc (y : PyData) (ys : List PyData) : PyData.eqvAll [] (y :: ys) = false := by rw [PyData.eqvAll]
theorem eqv_cn (y : PyData) (ys : List PyData) : PyData.eqvAll (y :: ys) [] = false := by rw [PyData.eqvAll]
theorem eqv_ss (x y : Str) : PyData.eqv (.str x) (.str y) = decide (x = y) := by rw [PyData.eqv]; exact str_beq x y
theorem Kd.eqv (a b : Kd) : PyData.eqv a.dat b.dat = decide (a = b) := by
  induction a generalizing b with
  | var x =>
    cases b with
    | var y => simp only [Kd.dat, eqv_tt, eqv_cc, eqv_ss, eqv_nn, decide_true, Bool.true_and, Bool.and_true, Kd.var.injEq]
    | con y => simp only [Kd.dat, eqv_tt, eqv_cc, eqv_ss, decide_eq_false ne_vc, Bool.false_and, reduceCtorEq, decide_false]
    | app c d => simp only [Kd.dat, eqv_tt, eqv_cc, eqv_ss, decide_eq_false ne_va, Bool.false_and, reduceCtorEq, decide_false]
  | con x =>
    cases b with
    | con y => simp only [Kd.dat, eqv_tt, eqv_cc, eqv_ss, eqv_nn, decide_true, Bool.true_and, Bool.and_true, Kd.con.injEq]
    | var y => simp only [Kd.dat, eqv_tt, eqv_cc, eqv_ss, decide_eq_false ne_cv, Bool.false_and, reduceCtorEq, decide_false]
    | app c d => simp only [Kd.dat, eqv_tt, eqv_cc, eqv_ss, decide_eq_false ne_ca, Bool.false_and, reduceCtorEq, decide_false]
  | app a1 a2 h1 h2 =>
    cases b with
    | var y => simp only [Kd.dat, eqv_tt, eqv_cc, eqv_ss, decide_eq_false ne_av, Bool.false_and, reduceCtorEq, decide_false]
    | con y => simp only [Kd.dat, eqv_tt, eqv_cc, eqv_ss, decide_eq_false ne_ac, Bool.false_and, reduceCtorEq, decide_false]
    | app c d =>
      simp only [Kd.dat, eqv_tt, eqv_cc, eqv_ss, eqv_nn, h1, h2, decide_true, Bool.true_and, Bool.and_true, Kd.app.injEq, Bool.decide_and]
theorem SqL.extT {K : PySem.W.Frag} {t c : Addr} {b : Nat} {H H' : Hp} {a : Addr} {xs : List V} (h : SqL K H a xs) (hT : Tape K H t c b) (e : Ext t H H') : SqL K H' a xs := by
  obtain ⟨kvs, hk⟩ := hT.dict
  rcases h with (h | ⟨o, h⟩) | h
  · exact .inl (.inl (e _ _ (ne_of h hk (by intro r; cases r)) h))
  · exact .inl (.inr ⟨o, e _ _ (ne_of h hk (by intro r; cases r)) h⟩)
  · exact .inr h
theorem Wok.str {x : Str} (h : Wok x) : PyData.strOk x = true := by
  unfold PyData.strOk
  rw [Array.all_eq_true']
  intro c hc
  have := h.2.2 c (by simpa using hc)
  exact decide_eq_true (by omega)
theorem Kd.lay : ∀ {k : Kd} {n : Nat}, Kd.fit n k → k.dat.canLay0 = true ∧ k.dat.depth ≤ n + 1
  | .var x, n, h => by
    have w : Wok x := by cases n <;> exact h
    refine ⟨?_, ?_⟩
    · simp only [Kd.dat, PyData.canLay0, PyData.canLayAll0, w.str, Bool.and_true]
      decide +kernel
    · simp [Kd.dat, PyData.depth, PyData.depthAll]
  | .con x, n, h => by
    have w : Wok x := by cases n <;> exact h
    refine ⟨?_, ?_⟩
    · simp only [Kd.dat, PyData.canLay0, PyData.canLayAll0, w.str, Bool.and_true]
      decide +kernel
    · simp [Kd.dat, PyData.depth, PyData.depthAll]
  | .app a b, n, h => by
    obtain ⟨m, rfl, h1, h2⟩ := Kd.fit_app h
    obtain ⟨a1, a2⟩ := Kd.lay h1
    obtain ⟨b1, b2⟩ := Kd.lay h2
    refine ⟨?_, ?_⟩
    · simp only [Kd.dat, PyData.canLay0, PyData.canLayAll0, a1, b1, Bool.and_true]
      decide +kernel
    · simp only [Kd.dat, PyData.depth, PyData.depthAll]
      omega
theorem Kd.shaped {k : Kd} {n : Nat} (h : Kd.fit n k) (hn : n ≤ 60) : SeqAt.shaped k.dat = true := by
  obtain ⟨h1, h2⟩ := Kd.lay h
  unfold SeqAt.shaped
  rw [h1, Bool.true_and]
  exact decide_eq_true (by omega)
/-- a list of words -/
theorem dp_words {K : PySem.W.Frag} {H : Hp} : ∀ ws : List Str, DpAll K H (ws.map V.str) (ws.map PyData.str)
  | [] => .nil
  | _ :: r => .cons (.str _) (dp_words r)
theorem lay_words : ∀ {ws : List Str}, (∀ x ∈ ws, Wok x) → PyData.canLayAll0 (ws.map PyData.str) = true ∧ PyData.depthAll (ws.map PyData.str) = 0
  | [], _ => ⟨by simp [PyData.canLayAll0], by simp [PyData.depthAll]⟩
  | x :: r, h => by
    obtain ⟨h1, h2⟩ := lay_words (ws := r) fun y hy => h y (List.mem_cons_of_mem _ hy)
    refine ⟨?_, ?_⟩
    · simp only [List.map_cons, PyData.canLayAll0, PyData.canLay0, (h x List.mem_cons_self).str, h1, Bool.true_and]
    · simp only [List.map_cons, PyData.depthAll, PyData.depth, h2]; rfl
theorem shaped_words {ws : List Str} (h : ∀ x ∈ ws, Wok x) : SeqAt.shaped (.list (ws.map PyData.str)) = true := by
  obtain ⟨h1, h2⟩ := lay_words h
  unfold SeqAt.shaped
  simp only [PyData.canLay0, h1, PyData.depth, h2]
  decide
theorem shaped_nil : SeqAt.shaped (.list []) = true := by decide
/-! ### rows of kinds, dicts of kinds -/
abbrev KdsAt (H : Hp) : List V → List Kd → Prop := Paired (KdAt H)
theorem paired_get {α β : Type} {F : α → β → Prop} : ∀ {xs : List α} {ys : List β} {i : Nat} {x : α}, Paired F xs ys → xs[i]? = some x → ∃ y, ys[i]? = some y ∧ F x y
  | _, _, _, _, .nil, e => by simp at e
  | _, _, 0, _, .cons r _, e => by simp at e; subst e; exact ⟨_, rfl, r⟩
  | _, _, i + 1, x, .cons _ t, e => by
    obtain ⟨y, h1, h2⟩ := paired_get (i := i) (x := x) t (by simpa using e)
    exact ⟨y, by simpa using h1, h2⟩
theorem paired_map {α β : Type} {F G : α → β → Prop} (h : ∀ a b, F a b → G a b) : ∀ {xs : List α} {ys : List β}, Paired F xs ys → Paired G xs ys
  | _, _, .nil => .nil
  | _, _, .cons r t => .cons (h _ _ r) (paired_map h t)
theorem KdsAt.tups {H H' : Hp} (h : Tups H H') {xs : List V} {ks : List Kd} (r : KdsAt H xs ks) : KdsAt H' xs ks := paired_map (fun _ _ q => KdAt.tups h q) r
theorem KdsAt.dp {K : PySem.W.Frag} {H : Hp} : ∀ {xs : List V} {ks : List Kd}, KdsAt H xs ks → DpAll K H xs (ks.map Kd.dat)
  | _, _, .nil => .nil
  | _, _, .cons r t => .cons r.dp (KdsAt.dp t)
abbrev By := List (Str × Kd)
def lk (by' : By) (x : Str) : Option Kd := (by'.find? fun p => decide (p.1 = x)).map (·.2)
theorem lk_nil (x : Str) : lk [] x = none := rfl
theorem lk_pos {p : Str × Kd} {r : By} {x : Str} (e : p.1 = x) : lk (p :: r) x = some p.2 := by simp [lk, List.find?_cons, e]
theorem lk_neg {p : Str × Kd} {r : By} {x : Str} (e : ¬ p.1 = x) : lk (p :: r) x = lk r x := by simp [lk, List.find?_cons, e]
abbrev ByAt (H : Hp) : List (Key × V) → By → Prop := Paired fun p q => p.1 = .inr q.1 ∧ KdAt H p.2 q.2
theorem ByAt.tups {H H' : Hp} (h : Tups H H') {kvs : List (Key × V)} {by' : By} (r : ByAt H kvs by') : ByAt H' kvs by' := paired_map (fun _ _ q => ⟨q.1, KdAt.tups h q.2⟩) r
theorem ByAt.get {H : Hp} (x : Str) : ∀ {kvs : List (Key × V)} {by' : By}, ByAt H kvs by' → (valV kvs (.inr x) = none ∧ lk by' x = none) ∨ ∃ v k, valV kvs (.inr x) = some v ∧ lk by' x = some k ∧ KdAt H v k
  | _, _, .nil => .inl ⟨rfl, rfl⟩
  | p :: kvs, q :: by', .cons r t => by
    by_cases e : q.1 = x
    · exact .inr ⟨p.2, q.2, valV_pos (by rw [r.1, e]), lk_pos e, r.2⟩
    · have e' : ¬ p.1 = (.inr x : Key) := by
        rw [r.1]
        intro z
        exact e (Sum.inr.inj z)
      rw [valV_neg e', lk_neg e]
      exact ByAt.get x t
def Kd.put (by' : By) : Kd → Kd
  | .var x => (lk by' x).getD (.var x)
  | .con x => .con x
  | .app a b => .app (a.put by') (b.put by')
def conK (x : Str) (ks : List Kd) : Kd := ks.foldl Kd.app (.con x)
theorem conK_snoc (x : Str) (ks : List Kd) (k : Kd) : conK x (ks ++ [k]) = .app (conK x ks) k := by
  unfold conK
  rw [List.foldl_append]
  rfl
theorem Kd.fit_put {by' : By} {m : Nat} (hb : ∀ x k, lk by' x = some k → Kd.fit m k) : ∀ {k : Kd} {n : Nat}, Kd.fit n k → Kd.fit (n + m) (k.put by')
  | .var x, n, h => by
    have w : Wok x := by cases n <;> exact h
    show Kd.fit (n + m) ((lk by' x).getD (.var x))
    cases e : lk by' x with
    | none =>
      show Kd.fit (n + m) (.var x)
      generalize n + m = j
      cases j <;> exact w
    | some k => exact Kd.fit_mono (by omega) (hb x k e)
  | .con x, n, h => by
    have w : Wok x := by cases n <;> exact h
    show Kd.fit (n + m) (.con x)
    generalize n + m = j
    cases j <;> exact w
  | .app a b, n, h => by
    obtain ⟨j, rfl, h1, h2⟩ := Kd.fit_app h
    show Kd.fit (j + 1 + m) (.app (a.put by') (b.put by'))
    rw [show j + 1 + m = j + m + 1 by omega]
    exact ⟨Kd.fit_put hb h1, Kd.fit_put hb h2⟩
theorem fitV {n : Nat} {x : Str} (w : Wok x) : Kd.fit n (.var x) := by cases n <;> exact w
theorem fitC {n : Nat} {x : Str} (w : Wok x) : Kd.fit n (.con x) := by cases n <;> exact w
theorem wok_of_var {n : Nat} {x : Str} (h : Kd.fit n (.var x)) : Wok x := by cases n <;> exact h
theorem wok_of_con {n : Nat} {x : Str} (h : Kd.fit n (.con x)) : Wok x := by cases n <;> exact h
theorem fit_fold {j : Nat} : ∀ {ks : List Kd} {h : Kd} {i : Nat}, Kd.fit i h → (∀ k ∈ ks, Kd.fit j k) → j ≤ i → Kd.fit (i + ks.length) (ks.foldl Kd.app h)
  | [], h, i, h1, _, _ => h1
  | k :: r, h, i, h1, h2, h3 => by
    have q : Kd.fit (i + 1) (.app h k) := ⟨h1, Kd.fit_mono h3 (h2 k List.mem_cons_self)⟩
    have z := fit_fold (ks := r) q (fun y hy => h2 y (List.mem_cons_of_mem _ hy)) (by omega)
    rw [List.length_cons, show i + (r.length + 1) = i + 1 + r.length by omega]
    exact z
theorem fit_conK {j : Nat} {x : Str} {ks : List Kd} (w : Wok x) (h : ∀ k ∈ ks, Kd.fit j k) : Kd.fit (j + ks.length) (conK x ks) := fit_fold (fitC w) h (Nat.le_refl _)
theorem eqv_ll (xs ys : List PyData) : PyData.eqv (.list xs) (.list ys) = PyData.eqvAll xs ys := by rw [PyData.eqv]
theorem words_ne {ws : List Str} : (!PyData.eqv (.list (ws.map PyData.str)) (.list [])) = !ws.isEmpty := by
  rw [eqv_ll]
  cases ws with
  | nil => rw [List.map_nil, eqv_nn]; rfl
  | cons x r => rw [List.map_cons, eqv_cn]; rfl
/-- rows (word, how many parts) -/
def ConsAt (K : PySem.W.Frag) (H : Hp) (l : Addr) : Prop := ∃ xs, SqL K H l xs ∧ 0 < xs.length ∧ xs.length < 1000 ∧ ∀ v ∈ xs, ∃ (a : Addr) (x : Str) (m : Nat), v = .ref a ∧ H a = some (.tup [.str x, .int (m : Int)]) ∧ m ≤ 2 ∧ Wok x
theorem ConsAt.ext {K : PySem.W.Frag} {t c : Addr} {b : Nat} {H H' : Hp} {l : Addr} (h : ConsAt K H l) (hT : Tape K H t c b) (e : Ext t H H') : ConsAt K H' l := by
  obtain ⟨xs, h1, h2, h3, h4⟩ := h
  refine ⟨xs, SqL.extT h1 hT e, h2, h3, fun v hv => ?_⟩
  obtain ⟨a, x, m, e1, e2, e3, e4⟩ := h4 v hv
  exact ⟨a, x, m, e1, Ext.tups e hT _ _ e2, e3, e4⟩
/-- the variables of kinds are among some words -/
def Kd.of (ws : List Str) : Kd → Prop
  | .var x => x ∈ ws
  | .con _ => True
  | .app a b => Kd.of ws a ∧ Kd.of ws b
theorem of_fold {ws : List Str} : ∀ {ks : List Kd} {h : Kd}, Kd.of ws h → (∀ k ∈ ks, Kd.of ws k) → Kd.of ws (ks.foldl Kd.app h)
  | [], _, h1, _ => h1
  | k :: r, h, h1, h2 => of_fold (ks := r) (h := .app h k) ⟨h1, h2 k List.mem_cons_self⟩ fun y hy => h2 y (List.mem_cons_of_mem _ hy)
theorem of_conK {ws : List Str} {x : Str} {ks : List Kd} (h : ∀ k ∈ ks, Kd.of ws k) : Kd.of ws (conK x ks) := of_fold (h := .con x) trivial h
/-! ### recursion -/
theorem fn_false {P : Program} {w : World} {K : PySem.W.Frag} {mg : Str → Option Value} {base : Heap} {f : Addr} {fd : FuncData} {ps : List Str} : FnOk P w K mg base CX0 0 f fd ps (fun _ _ _ _ => False) :=
  ⟨fun _ _ _ _ h => h.elim, fun _ _ _ _ _ _ _ _ _ _ _ _ _ h => h.elim⟩
end L3

namespace L3
open PySem L2
/-! ### variables in order -/
def addV (fs : List Str) (x : Str) : List Str := if x ∈ fs then fs else fs ++ [x]
def Kd.vs : Kd → List Str → List Str
  | .var x, fs => addV fs x
  | .con _, fs => fs
  | .app a b, fs => b.vs (a.vs fs)
def vsL : List Kd → List Str → List Str
  | [], fs => fs
  | k :: r, fs => vsL r (k.vs fs)
def Kd.size : Kd → Nat
  | .var _ => 1
  | .con _ => 1
  | .app a b => a.size + b.size + 1
def sizeL : List Kd → Nat
  | [] => 0
  | k :: r => k.size + sizeL r
theorem Kd.size_pos (k : Kd) : 0 < k.size := by cases k <;> simp [Kd.size]
theorem eqV_str (x y : Str) : eqV (.str y) (.str x) = decide (y = x) := str_beq y x
theorem inV_words (x : Str) : ∀ fs : List Str, inV (.str x) (fs.map V.str) = decide (x ∈ fs)
  | [] => rfl
  | y :: r => by
    have ih := inV_words x r
    unfold inV at ih ⊢
    rw [List.map_cons, List.any_cons, ih, eqV_str]
    by_cases h : y = x
    · subst h
      simp
    · have h2 : ¬ x = y := fun e => h e.symm
      simp [h, h2]
theorem flat_words : ∀ fs : List Str, (fs.map V.str).all flatV = true
  | [] => rfl
  | _ :: r => by
    rw [List.map_cons, List.all_cons, flat_words r]
    rfl
/-- the last of a row -/
theorem paired_last {α β : Type} {F : α → β → Prop} : ∀ {xs : List α} {ys : List β} {y : β}, Paired F xs (ys ++ [y]) → ∃ xs0 x, xs = xs0 ++ [x] ∧ Paired F xs0 ys ∧ F x y
  | [], [], _, h => nomatch h
  | [], _ :: _, _, h => nomatch h
  | x :: xs, [], y, .cons r t => by
    cases t
    exact ⟨[], x, rfl, .nil, r⟩
  | x :: xs, z :: ys, y, .cons r t => by
    obtain ⟨xs0, w, e, h1, h2⟩ := paired_last (ys := ys) t
    exact ⟨x :: xs0, w, by rw [e]; rfl, .cons r h1, h2⟩
theorem paired_snoc {α β : Type} {F : α → β → Prop} {xs : List α} {ys : List β} {x : α} {y : β} (h : Paired F xs ys) (r : F x y) : Paired F (xs ++ [x]) (ys ++ [y]) := Paired.snoc h r
theorem paired_rev {α β : Type} {F : α → β → Prop} : ∀ {xs : List α} {ys : List β}, Paired F xs ys → Paired F xs.reverse ys.reverse
  | _, _, .nil => .nil
  | _, _, .cons r t => by
    rw [List.reverse_cons, List.reverse_cons]
    exact Paired.snoc (paired_rev t) r
theorem kds_snoc : ∀ ks : List Kd, ks ≠ [] → ∃ ks0 k, ks = ks0 ++ [k] := fun ks h => ⟨ks.dropLast, ks.getLast h, (List.dropLast_concat_getLast h).symm⟩
theorem shaped_kds {ks : List Kd} (h : ∀ k ∈ ks, k.fit 60) : SeqAt.shaped (.list (ks.map Kd.dat)) = true := by
  have key : ∀ ks : List Kd, (∀ k ∈ ks, k.fit 60) → PyData.canLayAll0 (ks.map Kd.dat) = true ∧ PyData.depthAll (ks.map Kd.dat) ≤ 61 := by
    intro ks
    induction ks with
    | nil => intro _; exact ⟨by simp [PyData.canLayAll0], by simp [PyData.depthAll]⟩
    | cons k r ih =>
      intro h
      obtain ⟨h1, h2⟩ := ih fun y hy => h y (List.mem_cons_of_mem _ hy)
      obtain ⟨h3, h4⟩ := Kd.lay (h k List.mem_cons_self)
      refine ⟨by simp only [List.map_cons, PyData.canLayAll0, h3, h1, Bool.true_and], ?_⟩
      simp only [List.map_cons, PyData.depthAll]
      omega
  obtain ⟨h1, h2⟩ := key ks h
  unfold SeqAt.shaped
  simp only [PyData.canLay0, h1, PyData.depth, Bool.true_and]
  exact decide_eq_true (by omega)
theorem kds_ne {ks : List Kd} : (!PyData.eqv (.list (ks.map Kd.dat)) (.list [])) = !ks.isEmpty := by
  rw [eqv_ll]
  cases ks with
  | nil => rw [List.map_nil, eqv_nn]; rfl
  | cons x r => rw [List.map_cons, eqv_cn]; rfl
/-! ### matching -/
def Kd.mt : Kd → Kd → By → Bool × By
  | .var x, k, b => match lk b x with
    | some k' => (decide (k' = k), b)
    | none => (true, b ++ [(x, k)])
  | .con x, k, b => (decide (Kd.con x = k), b)
  | .app a c, .app d e, b => if (a.mt d b).1 = true then c.mt e (a.mt d b).2 else (false, (a.mt d b).2)
  | .app _ _, .var _, b => (false, b)
  | .app _ _, .con _, b => (false, b)
def mtL : List Kd → List Kd → By → Option By
  | p :: ps, k :: ks, b => if (p.mt k b).1 = true then mtL ps ks (p.mt k b).2 else none
  | _, _, b => some b
def mtP : List (Kd × Kd) → By → Option By
  | [], b => some b
  | (p, k) :: r, b => if (p.mt k b).1 = true then mtP r (p.mt k b).2 else none
theorem mtP_zip : ∀ (ps ks : List Kd) (b : By), mtP (ps.zip ks) b = mtL ps ks b
  | [], _, _ => rfl
  | _ :: _, [], _ => rfl
  | p :: ps, k :: ks, b => by
    show (if (p.mt k b).1 = true then mtP (ps.zip ks) (p.mt k b).2 else none) = if (p.mt k b).1 = true then mtL ps ks (p.mt k b).2 else none
    rw [mtP_zip ps ks]
theorem mtP_app (a c d e : Kd) (r : List (Kd × Kd)) (b : By) : mtP ((.app a c, .app d e) :: r) b = mtP ((a, d) :: (c, e) :: r) b := by
  show (if ((Kd.app a c).mt (.app d e) b).1 = true then mtP r ((Kd.app a c).mt (.app d e) b).2 else none) = if (a.mt d b).1 = true then (if (c.mt e (a.mt d b).2).1 = true then mtP r (c.mt e (a.mt d b).2).2 else none) else none
  by_cases h : (a.mt d b).1 = true
  · have q : (Kd.app a c).mt (.app d e) b = c.mt e (a.mt d b).2 := by simp only [Kd.mt, if_pos h]
    rw [if_pos h, q]
  · have q : (Kd.app a c).mt (.app d e) b = (false, (a.mt d b).2) := by simp only [Kd.mt, if_neg h]
    rw [if_neg h, q]
    rfl
theorem lk_snoc {b : By} {x : Str} {k : Kd} (h : lk b x = none) (y : Str) : lk (b ++ [(x, k)]) y = if y = x then some k else lk b y := by
  induction b with
  | nil =>
    by_cases e : x = y
    · rw [if_pos e.symm]
      exact lk_pos e
    · rw [if_neg (fun z => e z.symm)]
      exact lk_neg e
  | cons p r ih =>
    have hk : ¬ p.1 = x := fun z => by rw [lk_pos z] at h; cases h
    rw [lk_neg hk] at h
    rw [List.cons_append]
    by_cases e : p.1 = y
    · rw [lk_pos e, lk_pos e, if_neg (fun z => hk (e.trans z))]
    · rw [lk_neg e, lk_neg e, ih h]
theorem lk_mem {b : By} {x : Str} {k : Kd} (h : lk b x = some k) : (x, k) ∈ b := by
  induction b with
  | nil => cases h
  | cons p r ih =>
    by_cases e : p.1 = x
    · rw [lk_pos e] at h
      have : p = (x, k) := by
        obtain ⟨p1, p2⟩ := p
        have e' : p1 = x := e
        have h' : p2 = k := Option.some.inj h
        rw [e', h']
      rw [this]
      exact List.mem_cons_self
    · rw [lk_neg e] at h
      exact List.mem_cons_of_mem _ (ih h)
/-- what matching adds -/
theorem Kd.mt_grow {m : Nat} : ∀ (p k : Kd) (b : By), k.fit m → (∀ q ∈ b, q.2.fit m) → (p.mt k b).2.length ≤ b.length + p.size ∧ ∀ q ∈ (p.mt k b).2, q.2.fit m
  | .var x, k, b, hk, hb => by
    simp only [Kd.mt]
    cases e : lk b x with
    | some k' => exact ⟨Nat.le_add_right _ _, hb⟩
    | none =>
      refine ⟨by simp [Kd.size], fun q hq => ?_⟩
      rcases List.mem_append.mp hq with h | h
      · exact hb q h
      · rw [List.mem_singleton.mp h]
        exact hk
  | .con x, k, b, hk, hb => ⟨Nat.le_add_right _ _, hb⟩
  | .app a c, .app d e, b, hk, hb => by
    obtain ⟨j, rfl, h1, h2⟩ := Kd.fit_app hk
    have h1' := Kd.fit_mono (Nat.le_succ j) h1
    have h2' := Kd.fit_mono (Nat.le_succ j) h2
    obtain ⟨g1, g2⟩ := Kd.mt_grow a d b h1' hb
    obtain ⟨g3, g4⟩ := Kd.mt_grow c e (a.mt d b).2 h2' g2
    simp only [Kd.mt]
    by_cases h : (a.mt d b).1 = true
    · rw [if_pos h]
      refine ⟨?_, g4⟩
      simp only [Kd.size]
      omega
    · rw [if_neg h]
      refine ⟨?_, g2⟩
      simp only [Kd.size]
      omega
  | .app _ _, .var _, b, _, hb => ⟨Nat.le_add_right _ _, hb⟩
  | .app _ _, .con _, b, _, hb => ⟨Nat.le_add_right _ _, hb⟩
/-- the names, as the variables come -/
def names (b : By) : List Str := b.map (·.1)
theorem lk_names (b : By) (x : Str) : (lk b x).isSome = decide (x ∈ names b) := by
  induction b with
  | nil => rfl
  | cons p r ih =>
    by_cases e : p.1 = x
    · rw [lk_pos e]
      simp [names, e]
    · rw [lk_neg e, ih]
      have e' : ¬ x = p.1 := fun z => e z.symm
      have q : names (p :: r) = p.1 :: names r := rfl
      rw [q]
      simp [e']
theorem Kd.mt_names : ∀ (p k : Kd) (b : By), (p.mt k b).1 = true → names (p.mt k b).2 = p.vs (names b)
  | .var x, k, b, h => by
    have hn := lk_names b x
    simp only [Kd.mt, Kd.vs, addV] at h ⊢
    cases e : lk b x with
    | some k' =>
      rw [e] at hn
      have : x ∈ names b := of_decide_eq_true hn.symm
      simp only [this, if_true]
    | none =>
      rw [e] at hn
      have : ¬ x ∈ names b := of_decide_eq_false hn.symm
      rw [if_neg this]
      simp [names]
  | .con x, k, b, _ => rfl
  | .app a c, .app d e, b, h => by
    simp only [Kd.mt, Kd.vs] at h ⊢
    by_cases h1 : (a.mt d b).1 = true
    · rw [if_pos h1] at h ⊢
      rw [Kd.mt_names c e _ h, Kd.mt_names a d b h1]
    · rw [if_neg h1] at h
      cases h
  | .app _ _, .var _, b, h => by simp [Kd.mt] at h
  | .app _ _, .con _, b, h => by simp [Kd.mt] at h
theorem mtL_names : ∀ (ps ks : List Kd) (b c : By), ps.length = ks.length → mtL ps ks b = some c → names c = vsL ps (names b)
  | [], [], b, c, _, h => by cases h; rfl
  | [], _ :: _, _, _, h, _ => by cases h
  | _ :: _, [], _, _, h, _ => by cases h
  | p :: ps, k :: ks, b, c, hl, h => by
    simp only [mtL] at h
    by_cases h1 : (p.mt k b).1 = true
    · rw [if_pos h1] at h
      rw [mtL_names ps ks _ c (Nat.succ.inj hl) h, Kd.mt_names p k b h1]
      rfl
    · rw [if_neg h1] at h
      cases h
end L3

/-! repr of nested data; a law's own run, where nothing else is being shown -/
namespace L3
open PySem PySem.Spec PyProof.Rows L2
section
variable {X : Cx}
/-- repr of a list or tuple of nested data -/
def rRepr (K : PySem.W.Frag) : List V → Hp → VK → Prop := fun xs H Q => ∃ (a : Addr) (d : PyData), xs = [.ref a] ∧ Dp K H (.ref a) d ∧ d.showable = true ∧ d.hasDict = false ∧ d.depth ≤ 60 ∧ d.shown.length ≤ sizeLine ∧ Q (.str d.shown) H
theorem call_reprD (hg : X.A.guards = some []) (hu : X.A.units + 64 < cLine) : CallR X (.builtin "repr") (rRepr X.K) := by
  intro pins s σ H xs us Q I r h
  obtain ⟨a, d, rfl, hd, hs, hn, hdep, hsz, q⟩ := h
  obtain ⟨u, rfl, rx⟩ := vals1 r
  obtain rfl : u = Value.ref a := rx
  obtain ⟨as, hr⟩ := Dp.reads I d _ _ hd (show RelV (.ref a) (.ref a) from rfl)
  exact repr_of_reads' hr hs (fun z => by rw [hn] at z; cases z) hg (by omega) (fun _ _ e => e) (fun h' u tk hk => ⟨.str d.shown, H, I.kept (t' := tk) hk, ⟨u, rfl⟩, q⟩) hsz
end
/-- the law's own def, called by nobody -/
def LawRun (P : Program) (w : World) (K : PySem.W.Frag) (mg : Str → Option Value) (base : Heap) (f : Addr) (fd : FuncData) (x : Str) (sp : List V → Hp → VK → Prop) : Prop :=
  ∀ (s : Shared) (H : Hp) (args : Args) (u : Value) (v : V) (Q : VK), Env0 P w K mg base callerA [] s H → BindsTo s fd args [(x, u)] → RelV v u → sp [v] H Q → codeAny (model P w) callerA (.call (.ref f) args) (CR CX0 [] P w H s Q E0) s
section
variable {P : Program} {w : World} {K : PySem.W.Frag} {mg : Str → Option Value} {base : Heap}
theorem lawRun_of {st : Stmt} {f : Addr} {fd : FuncData} {N : List Str} {k : Nat} {x : Str} {sp : List V → Hp → VK → Prop} (F : Fun K "law" "law" st f fd) (S : FnScope N [x] (defScope st)) (hroom : Room (k + 1) callerA)
    (hbody : ∀ (cdv : Value) (s : Shared) (H : Hp) (v : V) (Q : VK), Room k (callerA.deeper (envOfC "law" (defScope st) s.heap.objs.size f cdv)) → sp [v] H Q →
      ∃ t, PSs (cxOf CX0 P w K mg base N "law" (defScope st) f cdv callerA [] s H E0).nox (defBody st) t ∧ t { nx := fun _ H' => Q .non H', rt := Q } (start N [v]) H) : LawRun P w K mg base f fd x sp := by
  obtain ⟨oc, od, kV, doc, pm, an, cdv, ct, osl, rfl, lk, hcd⟩ := F.ex
  intro s H args u v Q e0 hb rv hsp
  have inK : K.In s.heap := e0.mod.kin.keeps fun b o z => (e0.bs b o z).1
  have noL : s.heap.NoLimit := e0.mod.nolimit.keeps fun b o z => (e0.bs b o z).1
  have kinds : ∀ y ∈ ([x].zip [u] : List (Str × Value)), (defScope st).names.lookup y.1 = some .local ∨ ((defScope st).names.lookup y.1 = some .cell ∧ ((cellsFrom (s.heap.objs.size + 1) (defScope st).names []).lookup y.1).isSome = true) := by
    rintro ⟨n, z⟩ hy
    rcases S.par n (List.of_mem_zip hy).1 with q | q
    · exact Or.inl q
    · exact Or.inr ⟨q, PySem.W.cellsFrom_some _ _ _ (Or.inl q)⟩
  refine codeAny_call_function (Room.depth hroom) (inK _ _ lk) rfl S.co S.gen rfl (PySem.W.codeRec_of inK hcd) (hb _ _ _ _ ?_)
  refine wpAny_newFunctionEnv_cells S.kind kinds fun env he s1 xx => ?_
  subst he
  refine ⟨noL.keeps xx.toInCall.keep, codeAny_func ?_⟩
  obtain ⟨t, ht, hq⟩ := hbody cdv s H v Q (Room.deeper hroom _) hsp
  have J : Inv (cxOf CX0 P w K mg base N "law" (defScope st) f cdv callerA [] s H E0) [] (start N [v]) H s1 := inv_start S rfl e0 rfl (Paired.cons rv .nil) xx
  refine wpAny_mono ((PSs.nox ht).run [] s1 (start N [v]) H _ J hq) (fun fl s' hs => ?_) (fun e s' hs => hs)
  cases fl with
  | next =>
    obtain ⟨σ', H', J', q⟩ := hs
    exact ⟨V.non, H', J'.os, J'.bare, J'.base, J'.hok, rfl, q⟩
  | ret z =>
    obtain ⟨v', σ', H', J', rz, q⟩ := hs
    exact ⟨v', H', J'.os, J'.bare, J'.base, J'.hok, rz, q⟩
  | brk =>
    obtain ⟨_, _, _, q⟩ := hs
    exact q.elim
  | cont =>
    obtain ⟨_, _, _, q⟩ := hs
    exact q.elim
end
section
variable {P : Program} {w : World} {K : PySem.W.Frag} {mg mb : Str → Option Value} {fa a : Addr} {fd : FuncData} {x : Str} {sp : List V → Hp → VK → Prop} {s1 : Shared} {vs : List Value} {ns : List Int}
/-- what the law's call has to come to -/
abbrev LawEnd (s1 : Shared) (r : Result) (s' : Shared) : Prop := r = .ok (.ret (.bool true)) ∧ OldK s1.heap s'.heap ∧ s'.os = s1.os ∧ AllBare s'.gens
theorem law_core (inK : K.In s1.heap) (gl : s1.heap.Ns mainGlobals mg) (bi : s1.heap.Ns builtinsNs mb) (bb : ∀ y : Str, y ≠ "__name__" → mb y = bootBuiltins y) (nl : s1.heap.NoLimit) (ng : s1.gens = #[])
    (ob : s1.heap.get? a = some { cls := .type "list", data := .seq vs.toArray }) (run : ∀ base : Heap, K.In base → base.Ns mainGlobals mg → LawRun P w K mg base fa fd x sp)
    (bind : ∀ (s : Shared) (u : Value), BindsTo s fd ⟨[u], []⟩ [(x, u)]) (want : ∀ H : Hp, Only H → SqL K H a (ns.map V.int) → sp [.ref a] H (fun v _ => v = .bl true))
    (H : Hp) (hO : Only H) (hS : SqL K H a (ns.map V.int)) (ok : HOk P w H s1.heap) (alone : ∀ b, H b ≠ none → b = a) (off : H a ≠ none → K.lookup a = none) :
    codeAny (model P w) callerA (.call (.ref fa) ⟨[.ref a], []⟩) (LawEnd s1) s1 := by
  -- a thing that is tracked is the script
  have isA : ∀ {b : Addr} {u : HO}, H b = some u → b = a := fun {b u} q => alone b (by rw [q]; simp)
  have hid : ∀ {b : Addr} {o : Obj}, s1.heap.get? b = some o → H b = none → (hidT s1.heap H).get? b = some o := fun z n => hidT_get z n
  have dictFree : ∀ {b : Addr} {o : Obj} {es : Array DictEntry} {ep : Nat}, s1.heap.get? b = some o → o.data = .dict es ep → H b = none := by
    intro b o es ep z dd
    cases q : H b with
    | none => rfl
    | some u =>
      have e' := isA q
      subst e'
      rw [ob] at z
      cases z
      have dd' : Data.seq vs.toArray _ = Data.dict es ep := dd
      cases dd'
  have nsH : ∀ {b : Addr} {m : Str → Option Value}, s1.heap.Ns b m → (hidT s1.heap H).Ns b m := by
    rintro b m ⟨o, es, ep, z, dd, r⟩
    exact ⟨o, es, ep, hid z (dictFree z dd), dd, r⟩
  have inH : K.In (hidT s1.heap H) := by
    intro b o z
    refine hid (inK b o z) ?_
    cases q : H b with
    | none => rfl
    | some u =>
      have e' := isA q
      subst e'
      rw [off (by rw [q]; simp)] at z
      cases z
  have md : Mod K mg (hidT s1.heap H) := by
    obtain ⟨mc, z1, z2⟩ := nl
    exact ⟨inH, nsH gl, ⟨mb, nsH bi, bb⟩, ⟨mc, nsH z1, z2⟩⟩
  have e0 : Env0 P w K mg (hidT s1.heap H) callerA [] s1 H := by
    refine ⟨rfl, md, fun b o z => of_hidT z, Nat.le_of_eq (hidT_size _ _), trivial, ?_, ok, .of_eq ng⟩
    intro b hb
    exact nomatch (show b ∈ ([] : List Addr) from hb)
  refine codeAny_mono (run _ inH (nsH gl) s1 H ⟨[.ref a], []⟩ (.ref a) (.ref a) _ e0 (bind s1 (.ref a)) rfl (want H hO hS)) fun r s' h => ?_
  cases r with
  | error e => exact h.elim
  | ok fl =>
    cases fl with
    | next => exact h.elim
    | brk => exact h.elim
    | cont => exact h.elim
    | ret u =>
      obtain ⟨v, H', os, bare, un, ok', r', q⟩ := h
      obtain rfl : v = .bl true := q
      obtain rfl : u = Value.bool true := r'
      refine ⟨rfl, OldK.of_keep fun b o z => ?_, os, bare⟩
      cases q : H b with
      | none => exact un.keep b o z q (fun y => nomatch (show b ∈ ([] : List Addr) from y)) (fun y => nomatch y)
      | some u =>
        rcases hO b with y | ⟨o2, xs, y⟩
        · rw [q] at y
          cases y
        · obtain ⟨z1, _⟩ := ok b _ y
          obtain ⟨z2, _⟩ := ok' b _ (un.frzs b o2 _ y)
          rw [z] at z1
          cases z1
          exact z2
theorem law_callG (inK : K.In s1.heap) (gl : s1.heap.Ns mainGlobals mg) (bi : s1.heap.Ns builtinsNs mb) (bb : ∀ y : Str, y ≠ "__name__" → mb y = bootBuiltins y) (nl : s1.heap.NoLimit) (ng : s1.gens = #[])
    (ob : s1.heap.get? a = some { cls := .type "list", data := .seq vs.toArray }) (hi : IntsAre vs ns) (hl : ns.length ≤ sizeLine) (run : ∀ base : Heap, K.In base → base.Ns mainGlobals mg → LawRun P w K mg base fa fd x sp)
    (bind : ∀ (s : Shared) (u : Value), BindsTo s fd ⟨[u], []⟩ [(x, u)]) (want : ∀ H : Hp, Only H → SqL K H a (ns.map V.int) → sp [.ref a] H (fun v _ => v = .bl true)) :
    codeAny (model P w) callerA (.call (.ref fa) ⟨[.ref a], []⟩) (LawEnd s1) s1 := by
  have rv := vals_ints hi
  cases hk : K.lookup a with
  | some o =>
    have z := inK a o hk
    rw [ob] at z
    cases z
    have hS : SqL K (fun _ => none) a (ns.map V.int) := Or.inr ⟨_, vs.toArray, _, hk, rfl, rfl, rfl, by rw [List.size_toArray, hi.length]; exact hl, by simpa using rv⟩
    exact law_core inK gl bi bb nl ng ob run bind want (fun _ => none) (fun _ => .inl rfl) hS (fun _ _ z => nomatch (show (none : Option HO) = some _ from z)) (fun _ z => (z rfl).elim) (fun z => (z rfl).elim)
  | none =>
    let fz : HO := .frz { cls := .type "list", data := .seq vs.toArray } (.lst (ns.map V.int))
    have at1 : upd (fun _ => none) a fz a = some fz := upd_same
    refine law_core inK gl bi bb nl ng ob run bind want (upd (fun _ => none) a fz) (fun b => ?_) (.inl (.inr ⟨_, at1⟩)) (fun b u z => ?_) (fun b z => ?_) fun _ => hk
    · by_cases hb : b = a
      · rw [hb, at1]
        exact .inr ⟨_, _, rfl⟩
      · exact .inl (upd_ne hb)
    · by_cases hb : b = a
      · subst hb
        rw [at1] at z
        cases z
        exact ⟨ob, by rw [List.length_map]; exact hl, vs, _, rv, ob⟩
      · rw [upd_ne hb] at z
        cases z
    · by_cases hb : b = a
      · exact hb
      · exact (z (upd_ne hb)).elim
end
/-- the end of a law whose own def is run by LawRun -/
theorem walkG {l : PySem.W.OpenLaw} {n : Nat} {q : Program} {loose : List Str} {XP : (Str → Option Value) → Heap → Prop} {YP : World → Heap → Prop} {d : DefRec} {K : Params → PySem.W.Frag} {sp : PySem.W.Frag → List V → Hp → VK → Prop} {x : Str}
    (hn : l.most = some n) (hn2 : n ≤ sizeLine) (hdf : d.params.defaults = []) (hY : ∀ (w : World) (h : Heap), YP w h → (K w.params).In h)
    (F : ∀ (w : World) (mg : Str → Option Value) (fa : Addr) (h : Heap), (K w.params).In h → h.Ns mainGlobals mg → mg d.name = some (.ref fa) →
      ∃ fd : FuncData, (∀ (s : Shared) (u : Value), BindsTo s fd ⟨[u], []⟩ [(x, u)]) ∧ ∀ base : Heap, (K w.params).In base → base.Ns mainGlobals mg → LawRun l.prog w (K w.params) mg base fa fd x (sp (K w.params)))
    (want : ∀ (K : PySem.W.Frag) (H : Hp) (a : Addr) (ns : List Int), ns.length ≤ n → SqL K H a (ns.map V.int) → sp K [.ref a] H (fun v _ => v = .bl true)) : PySem.W.WalkO q loose XP YP l.row.toRowW d [] (fun f vs => PySem.call f vs) := by
  refine Att.attach_call hn hdf ?_
  intro w s0 s1 mg mb fa o pm cd doc a vs ns G Y ho hd hcd hmg hobj hints hlen hg
  obtain ⟨fd, hb, run⟩ := F w mg fa _ (hY w _ Y) G.T.g hmg
  exact law_callG (hY w _ Y) G.T.g G.T.b G.T.builtins G.T.nolimit hg hobj hints (Nat.le_trans hlen hn2) run hb (fun H _ hS => want _ H a ns hlen hS)
end L3

/-! list(zip(a, b)) over two lists or two tuples of one length -/
namespace L3
open PySem PySem.Spec PyProof.Rows L2
section
variable {prog : Program} {w : World} {A : Around} {E : Value → Shared → Prop} {s : Shared} {z TI TO T i1 i2 l1 l2 : Addr} {f : Bool} {oT : Obj} {xs ys : Array Value}
/-- a zip of tuples whose last pair is still out gives the next pair -/
theorem zt_item {k1 k2 : Nat} {x y : Value} {Q : Option Value → Shared → Prop} (D : ZipApart z TI TO i1 i2 l1 l2) (hz : IsZipHeld s.heap z TI TO T f) (hT : s.heap.get? T = some oT) (hTI : IsPair s.heap TI (.ref i1) (.ref i2))
    (a1 : s.heap.IsTupleIter i1 l1 k1) (a2 : s.heap.IsTupleIter i2 l2 k2) (t1 : s.heap.IsTuple l1 xs) (t2 : s.heap.IsTuple l2 ys) (ex : xs[k1]? = some x) (ey : ys[k2]? = some y)
    (q : ∀ h', IsZipHeld h' z TI TO T true → h'.IsTupleIter i1 l1 (k1 + 1) → h'.IsTupleIter i2 l2 (k2 + 1) → IsPair h' s.heap.objs.size x y → h'.objs.size = s.heap.objs.size + 1 →
      (∀ b o, b ≠ z → b ≠ i1 → b ≠ i2 → s.heap.get? b = some o → h'.get? b = some o) → Q (some (.ref s.heap.objs.size)) { s with heap := h' }) : wpAny (model prog w) A (pyNext (.ref z)) Q E s := by
  have isZip : s.TypeIs (.ref z) "zip" := ⟨_, hz, rfl⟩
  have body : ∀ (A' : Around) (E' : Value → Shared → Prop), wpAny (model prog w) A' (Builtin.«zip.__next__» ⟨[.ref z], []⟩) (fun fin s' => ∃ v, fin = .done (.ret v) ∧ Q (some v) s') E' s := by
    intro A' E'
    show wpAny _ _ (field (.ref z) 2 >>= _) _ _ s
    refine wpAny_bind (wpAny_field (i := 2) hz rfl rfl ?_)
    show wpAny _ _ (field (.ref z) 3 >>= _) _ _ s
    refine wpAny_bind (wpAny_field (i := 3) hz rfl rfl (wpAny_bind (wpAny_seqItems hTI rfl ?_)))
    refine wpAny_bind (wpAny_tupleHeld_zip hz hT fun ha hza hsa => ?_)
    rw [if_neg Bool.false_ne_true]
    refine wpAny_bind ?_
    rw [← Array.forIn_toList]
    simp only [List.forIn_nil, List.forIn_cons]
    refine wpAny_bind (wpAny_bind (wpAny_holding (wpAny_bind (RZ.nextOf_tuple_item (a1.extBut hsa.extBut D.i1z) (t1.extBut hsa.extBut D.l1z) ex fun hb b1 hsb => wpAny_pure (wpAny_pure ?_)))))
    refine wpAny_bind (wpAny_bind (wpAny_holding (wpAny_bind (RZ.nextOf_tuple_item ((a2.extBut hsa.extBut D.i2z).extBut hsb.extBut D.i12.symm) ((t2.extBut hsa.extBut D.l2z).extBut hsb.extBut D.l2i1) ey fun hc c2 hsc => wpAny_pure (wpAny_pure ?_)))))
    refine wpAny_pure ?_
    show wpAny _ _ (newTuple [x, y] >>= _) _ _ _
    refine wpAny_bind (wpAny_newTuple ?_)
    have size3 : hc.objs.size = s.heap.objs.size := (hsc.1.trans hsb.1).trans hsa.1
    have stays : ∀ b o, b ≠ z → b ≠ i1 → b ≠ i2 → s.heap.get? b = some o → hc.get? b = some o := fun b o n1 n2 n3 e => hsc.extBut b o n3 (hsb.extBut b o n2 (hsa.extBut b o n1 e))
    have pz : IsZipHeld hc z TI TO T true := hsc.extBut z _ D.i2z.symm (hsb.extBut z _ D.i1z.symm hza)
    refine wpAny_pure ⟨_, rfl, ?_⟩
    have fresh : IsPair (hc.push { cls := .type "tuple", data := .seq #[x, y] }) hc.objs.size x y := Heap.get?_push_size _ rfl
    have one : (hc.push { cls := .type "tuple", data := .seq #[x, y] }).objs.size = hc.objs.size + 1 := Heap.size_push ..
    show Q (some (.ref hc.objs.size)) _
    rw [size3] at fresh one ⊢
    exact q _ (Heap.get?_push_of_some _ pz) ((b1.extBut hsc.extBut D.i12).at fun o e => Heap.get?_push_of_some _ e) (c2.at fun o e => Heap.get?_push_of_some _ e) fresh one fun b o n1 n2 n3 e => Heap.get?_push_of_some _ (stays b o n1 n2 n3 e)
  unfold pyNext
  refine wpAny_bind (wpAny_attempt (wpAny_callSpecial?_slot (name := Str.ofString "__next__") isZip F.slot_zip_next (wpAny_call_entry F.slot_zip_next isZip F.entry_zip_next ?_ (F.args_zip_next_1 _))))
  exact wpAny_mono (body _ _) (fun fin s' ⟨v, e, h⟩ => ⟨v, e, wpAny_pure h⟩) fun _ _ h => h
theorem zt_end {k1 : Nat} {Q : Option Value → Shared → Prop} (hh : A.handled = none) (D : ZipApart z TI TO i1 i2 l1 l2) (hz : IsZipHeld s.heap z TI TO T f) (hT : s.heap.get? T = some oT) (hTI : IsPair s.heap TI (.ref i1) (.ref i2))
    (a1 : s.heap.IsTupleIter i1 l1 k1) (t1 : s.heap.IsTuple l1 xs) (ex : xs[k1]? = none)
    (q : ∀ h', (∀ b o, b ≠ z → b ≠ i1 → b ≠ i2 → s.heap.get? b = some o → h'.get? b = some o) → Q none { s with heap := h' }) : wpAny (model prog w) A (pyNext (.ref z)) Q E s := by
  have isZip : s.TypeIs (.ref z) "zip" := ⟨_, hz, rfl⟩
  unfold pyNext
  refine wpAny_bind (wpAny_attempt (wpAny_callSpecial?_slot (name := Str.ofString "__next__") isZip F.slot_zip_next (wpAny_call_entry F.slot_zip_next isZip F.entry_zip_next ?_ (F.args_zip_next_1 _))))
  show wpAny _ _ (field (.ref z) 2 >>= _) _ _ s
  refine wpAny_bind (wpAny_field (i := 2) hz rfl rfl ?_)
  show wpAny _ _ (field (.ref z) 3 >>= _) _ _ s
  refine wpAny_bind (wpAny_field (i := 3) hz rfl rfl (wpAny_bind (wpAny_seqItems hTI rfl ?_)))
  refine wpAny_bind (wpAny_tupleHeld_zip hz hT fun ha hza hsa => ?_)
  rw [if_neg Bool.false_ne_true]
  refine wpAny_bind ?_
  rw [← Array.forIn_toList]
  simp only [List.forIn_nil, List.forIn_cons]
  refine wpAny_bind (wpAny_bind (wpAny_holding (wpAny_bind (RZ.nextOf_tuple_end (s := { s with heap := ha }) hh (a1.extBut hsa.extBut D.i1z) (t1.extBut hsa.extBut D.l1z) ex fun hb e hsb he => ?_))))
  obtain ⟨o, ho, hc⟩ := he
  refine wpAny_bind (wpAny_isInstance (T := "StopIteration") (b := true) ⟨o, ho, hc⟩ isSubtype_stop ?_)
  exact wpAny_pure (q hb fun b o n1 n2 _ e => hsb b o n2 (hsa.extBut b o n1 e))
end
/-! ### a zip as a source of pairs for a list S that is being made -/
structure PSrc (prog : Program) (w : World) (z : Addr) (wr : List Addr) (n : Nat) (pr : Nat → Value × Value) (St : Nat → Addr → Heap → Prop) : Prop where
  type : ∀ i S (s : Shared), St i S s.heap → s.TypeIs (.ref z) "zip"
  self : ∀ (A : Around) (E : Value → Shared → Prop) i S (s : Shared) (Q : Value → Shared → Prop), St i S s.heap → Q (.ref z) s → wpAny (model prog w) A (pyIter (.ref z)) Q E s
  keep : ∀ i S h h', St i S h → (∀ b o, b ≠ S → h.get? b = some o → h'.get? b = some o) → St i S h'
  item : ∀ (A : Around) (E : Value → Shared → Prop) i S (s : Shared) (Q : Option Value → Shared → Prop), i < n → S < s.heap.objs.size → St i S s.heap →
    (∀ h', St (i + 1) S h' → h'.get? s.heap.objs.size = some { cls := .type "tuple", data := .seq #[(pr i).1, (pr i).2] } → h'.objs.size = s.heap.objs.size + 1 → (∀ b o, b ∉ wr → s.heap.get? b = some o → h'.get? b = some o) → Q (some (.ref s.heap.objs.size)) { s with heap := h' }) →
    wpAny (model prog w) A (pyNext (.ref z)) Q E s
  done : ∀ (A : Around) (E : Value → Shared → Prop) S (s : Shared) (Q : Option Value → Shared → Prop), A.handled = none → St n S s.heap → (∀ h', (∀ b o, b ∉ wr → s.heap.get? b = some o → h'.get? b = some o) → Q none { s with heap := h' }) →
    wpAny (model prog w) A (pyNext (.ref z)) Q E s
/-- the pairs that are out -/
structure Outs (pr : Nat → Value × Value) (lo : Addr) (h : Heap) (as : List Addr) : Prop where
  rise : as.Pairwise (· < ·)
  above : ∀ a ∈ as, lo ≤ a
  pairs : ∀ (j : Nat) (a : Addr), as[j]? = some a → h.get? a = some { cls := .type "tuple", data := .seq #[(pr j).1, (pr j).2] }
section
variable {prog : Program} {w : World} {A : Around} {E : Value → Shared → Prop} {s : Shared} {R : Result → Shared → Prop} {z : Addr} {wr : List Addr} {n : Nat} {pr : Nat → Value × Value} {St : Nat → Addr → Heap → Prop}
theorem Outs.lt {lo : Addr} {h : Heap} {as : List Addr} (g : Outs pr lo h as) {a : Addr} (ha : a ∈ as) : a < h.objs.size := by
  obtain ⟨j, hj⟩ := List.mem_iff_getElem?.mp ha
  exact Heap.lt_size (g.pairs j a hj)
theorem zip_loop (W : PSrc prog w z wr n pr St) {S lo : Addr} (hh : A.handled = none) (wlo : ∀ b ∈ wr, b < lo) (Slo : S < lo) (Sw : S ∉ wr) (hn : n ≤ sizeLine) (res : Value) {h0 : Heap}
    (fin : ∀ h' tk acc c as, (∀ b o, b ≠ S → b ∉ wr → h0.get? b = some o → h'.get? b = some o) → h'.get? S = some { cls := .type "list", dict := none, data := .seq acc c, slots := #[] } → as.length = n → Outs pr lo h' as → acc.toList = as.map Value.ref →
      R (.ok (.ret res)) { s with heap := h', toks := tk }) :
    ∀ (m i : Nat) (h : Heap) (tk c : Nat) (acc : Array Value) (as : List Addr), n - i = m → i ≤ n → St i S h → (∀ b o, b ≠ S → b ∉ wr → h0.get? b = some o → h.get? b = some o) → h.get? S = some { cls := .type "list", dict := none, data := .seq acc c, slots := #[] } →
      acc.toList = as.map Value.ref → as.length = i → Outs pr lo h as → lo ≤ h.objs.size → codeAny (model prog w) A (.builtin "list.extend.loop" ⟨[.ref S, .ref z, res], []⟩) R { s with heap := h, toks := tk } := by
  intro m
  induction m with
  | zero =>
    intro i h tk c acc as e1 e2 st kp hS ha hl g hlo
    have ein : i = n := by omega
    subst ein
    refine codeAny_builtin PySem.F.entry_extend_loop ?_
    rw [Around.under_plainId PySem.F.plain_extend_loop _]
    show wpAny _ A.in1 (pyNext (.ref z) >>= _) _ _ _
    refine wpAny_bind (W.done A.in1 _ S { s with heap := h, toks := tk } _ hh st fun h' k => wpAny_pure ?_)
    exact fin h' tk acc c as (fun b o n1 n2 e => k b o n2 (kp b o n1 n2 e)) (k S _ Sw hS) hl ⟨g.rise, g.above, fun j a hj => k a _ (fun q => absurd (wlo a q) (Nat.not_lt.mpr (g.above a (List.mem_of_getElem? hj)))) (g.pairs j a hj)⟩ ha
  | succ m ih =>
    intro i h tk c acc as e1 e2 st kp hS ha hl g hlo
    have lt : i < n := by omega
    have sz : acc.size = i := by rw [← Array.length_toList, ha, List.length_map, hl]
    refine codeAny_builtin PySem.F.entry_extend_loop ?_
    rw [Around.under_plainId PySem.F.plain_extend_loop _]
    show wpAny _ A.in1 (pyNext (.ref z) >>= _) _ _ _
    have Slt : S < h.objs.size := Heap.lt_size hS
    refine wpAny_bind (W.item A.in1 _ i S { s with heap := h, toks := tk } _ lt Slt st fun h' st' tup one k => ?_)
    have hS' : h'.get? S = some { cls := .type "list", dict := none, data := .seq acc c, slots := #[] } := k S _ Sw hS
    have tup' : h'.get? h.objs.size = some { cls := .type "tuple", data := .seq #[(pr i).1, (pr i).2] } := tup
    have one' : h'.objs.size = h.objs.size + 1 := one
    have nS : h.objs.size ≠ S := Nat.ne_of_gt Slt
    have off : ∀ b o, b ≠ S → h'.get? b = some o → (h'.update S (Obj.mapSeq (·.push (Value.ref h.objs.size)))).get? b = some o := fun b o nb e => (Heap.get?_update_other _ _ (Ne.symm nb)).trans e
    show wpAny _ A.in1 (updateSeq S (·.push (Value.ref h.objs.size)) >>= _) _ _ _
    refine wpAny_bind ?_
    refine wpAny_updateSeq hS' rfl (wpAny_pure ⟨plainId_quiet PySem.F.plain_extend_loop _, ?_⟩) (by rw [sz]; omega) (by show (acc.push (Value.ref h.objs.size)).size ≤ sizeLine + 1; rw [Array.size_push, sz]; omega)
    refine ih (i + 1) _ tk _ (acc.push (Value.ref h.objs.size)) (as ++ [h.objs.size]) (by omega) lt (W.keep _ _ _ _ st' off) (fun b o n1 n2 e => off b o n1 (k b o n2 (kp b o n1 n2 e))) (Heap.get?_update_self _ hS' rfl)
      (by rw [Array.toList_push, ha, List.map_append]; rfl) (by rw [List.length_append, hl]; rfl) ⟨?_, ?_, ?_⟩ ?_
    · refine List.pairwise_append.mpr ⟨g.rise, List.pairwise_singleton _ _, ?_⟩
      intro a q b q'
      obtain rfl := List.mem_singleton.mp q'
      exact g.lt q
    · intro a q
      rcases List.mem_append.mp q with q | q
      · exact g.above a q
      · obtain rfl := List.mem_singleton.mp q
        exact hlo
    · intro j b hj
      by_cases jl : j < as.length
      · rw [List.getElem?_append_left jl] at hj
        have ab := g.above b (List.mem_of_getElem? hj)
        exact off b _ (Nat.ne_of_gt (Nat.lt_of_lt_of_le Slo ab)) (k b _ (fun q => absurd (wlo b q) (Nat.not_lt.mpr ab)) (g.pairs j b hj))
      · rw [List.getElem?_append_right (by omega)] at hj
        have j0 : j - as.length = 0 := by
          cases q : j - as.length with
          | zero => rfl
          | succ r => rw [q] at hj; simp at hj
        have ej : j = i := by omega
        rw [j0] at hj
        obtain rfl : h.objs.size = b := Option.some.inj hj
        rw [ej]
        exact off _ _ nS tup'
    · have e : (h'.update S (Obj.mapSeq (·.push (Value.ref h.objs.size)))).get? h.objs.size = _ := off _ _ nS tup'
      exact Nat.le_trans hlo (Nat.le_of_lt (Heap.lt_size e))
theorem nolen_zip : typeLookup (.type "zip") "__len__" = pure none := by rw [typeLookup_type, builtinLookup_eq_fast]; kernel_rfl
theorem nohint_zip : typeLookup (.type "zip") "__length_hint__" = pure none := by rw [typeLookup_type, builtinLookup_eq_fast]; kernel_rfl
/-- the list's end behind the call -/
def ListOut (n : Nat) (pr : Nat → Value × Value) (wr : List Addr) (lo : Addr) (s : Shared) (Q : Value → Shared → Prop) : Prop :=
  ∀ h' tk acc c as, (∀ b o, b ∉ wr → s.heap.get? b = some o → h'.get? b = some o) → h'.get? s.heap.objs.size = some { cls := .type "list", dict := none, data := .seq acc c, slots := #[] } → as.length = n → Outs pr lo h' as → acc.toList = as.map Value.ref →
    Q (.ref s.heap.objs.size) { s with heap := h', toks := tk }
theorem call_list_zip {Q : Value → Shared → Prop} (W : PSrc prog w z wr n pr St) (hh : A.handled = none) (st : ∀ h', (∀ b o, s.heap.get? b = some o → h'.get? b = some o) → St 0 s.heap.objs.size h') (wlt : ∀ b ∈ wr, b < s.heap.objs.size) (zlt : z < s.heap.objs.size) (hn : n ≤ sizeLine)
    (q : ListOut n pr wr (s.heap.objs.size + 1) s Q) : wpAny (model prog w) A (call (.type "list") [.ref z]) Q E s := by
  refine callType_codes (Q₁ := fun obj s' => obj = .ref s.heap.objs.size ∧ s' = { s with heap := s.heap.push { cls := .type "list", data := .seq #[] } }) PySem.F.called_list (PySem.F.typeCall_list_1 _) PySem.F.entry_list_init (code_list_new _ ⟨rfl, rfl⟩) ?_
  rintro obj s' ⟨rfl, rfl⟩
  have at0 : (s.heap.push { cls := .type "list", data := .seq #[] }).get? s.heap.objs.size = some { cls := .type "list", data := .seq #[] } := Heap.get?_push_size _ rfl
  refine ⟨⟨_, at0, rfl⟩, PySem.F.args_list_init_2 _ _, ?_⟩
  show wpAny _ A.in1.in1 (do let old ← Builtin.List.listItems (.ref s.heap.objs.size); Builtin.List.listUpdate (.ref s.heap.objs.size) (fun _ => #[]); letGo old.toList.reverse; Builtin.List.listExtendWith (.ref s.heap.objs.size) (.ref z) .none) _ _ _
  refine wpAny_bind ?_
  unfold Builtin.List.listItems
  refine wpAny_bind (wpAny_seqItems at0 rfl (wpAny_pure ?_))
  show wpAny _ A.in1.in1 (updateSeq s.heap.objs.size (fun _ => #[]) >>= fun _ => letGo (#[] : Array Value).toList.reverse >>= fun _ => Builtin.List.listExtendWith (.ref s.heap.objs.size) (.ref z) .none) _ _ _
  refine wpAny_bind (wpAny_updateSeq at0 rfl (wpAny_bind (wpAny_letGo ?_)))
  have at1 := Heap.get?_update_self (Obj.mapSeq (fun _ => (#[] : Array Value))) at0 rfl
  have k1 : ∀ b o, s.heap.get? b = some o → ((s.heap.push { cls := .type "list", data := .seq #[] }).update s.heap.objs.size (Obj.mapSeq (fun _ => (#[] : Array Value)))).get? b = some o :=
    fun b o e => (Heap.get?_update_other _ _ (Nat.ne_of_gt (Heap.lt_size e))).trans (Heap.get?_push_of_some _ e)
  have st1 := st _ k1
  have zz : (Value.type "zip" == Value.type "list") = false := by decide
  have zt : (Value.type "zip" == Value.type "tuple") = false := by decide
  have nsame : Builtin.List.listSameRef (.ref s.heap.objs.size) (.ref z) = false := by simp [Builtin.List.listSameRef, Nat.ne_of_gt zlt]
  unfold Builtin.List.listExtendWith
  refine wpAny_bind (wpAny_typeOf (W.type 0 _ { s with heap := (s.heap.push { cls := .type "list", data := .seq #[] }).update s.heap.objs.size (Obj.mapSeq (fun _ => (#[] : Array Value))) } st1) ?_)
  simp only [nsame, zz, zt, Bool.or_false, Bool.false_eq_true, if_false]
  refine wpAny_bind (W.self _ _ 0 _ _ _ st1 (wpAny_bind (wpAny_holding ?_)))
  have isz := W.type 0 _ { s with heap := (s.heap.push { cls := .type "list", data := .seq #[] }).update s.heap.objs.size (Obj.mapSeq (fun _ => (#[] : Array Value))) } st1
  unfold Builtin.List.listLengthHint
  refine wpAny_bind (wpAny_specialOf isz nolen_zip ?_)
  show wpAny _ A.in1.in1 (specialOf (Value.ref z) (Str.ofString "__length_hint__") >>= _) _ _ _
  refine wpAny_bind (wpAny_specialOf isz nohint_zip (wpAny_pure ?_))
  show wpAny _ A.in1.in1 (rule "list.extend.makes-room" >>= fun _ => Builtin.List.listTouch (.ref s.heap.objs.size) >>= fun _ => again (.builtin "list.extend.loop" ⟨[.ref s.heap.objs.size, .ref z, .none], []⟩)) _ _ _
  refine wpAny_bind (wpAny_rule (wpAny_bind ?_))
  show wpAny _ A.in1.in1 (updateSeq s.heap.objs.size (·.push .none) >>= fun _ => updateSeq s.heap.objs.size (·.pop)) _ _ _
  refine wpAny_bind (wpAny_updateSeq at1 rfl ?_)
  have at2 := Heap.get?_update_self (Obj.mapSeq (·.push Value.none)) at1 rfl
  refine wpAny_updateSeq (hz := by seq_fits) at2 rfl ?_
  have at3 := Heap.get?_update_self (Obj.mapSeq (·.pop)) at2 rfl
  have k3 : ∀ b o, s.heap.get? b = some o → ((((s.heap.push { cls := .type "list", data := .seq #[] }).update s.heap.objs.size (Obj.mapSeq (fun _ => (#[] : Array Value)))).update s.heap.objs.size (Obj.mapSeq (·.push Value.none))).update s.heap.objs.size (Obj.mapSeq (·.pop))).get? b = some o := by
    intro b o e
    have nb := Nat.ne_of_gt (Heap.lt_size e)
    exact (Heap.get?_update_other _ _ nb).trans ((Heap.get?_update_other _ _ nb).trans (k1 b o e))
  have big : s.heap.objs.size + 1 ≤ ((((s.heap.push { cls := .type "list", data := .seq #[] }).update s.heap.objs.size (Obj.mapSeq (fun _ => (#[] : Array Value)))).update s.heap.objs.size (Obj.mapSeq (·.push Value.none))).update s.heap.objs.size (Obj.mapSeq (·.pop))).objs.size := Heap.lt_size at3
  refine wpAny_pure ⟨plainId_quiet F.plain_extend_loop _, ?_⟩
  refine zip_loop (s := s) (A := A.in1) W (S := s.heap.objs.size) (lo := s.heap.objs.size + 1) (h0 := s.heap) hh (fun b q => Nat.lt_succ_of_lt (wlt b q)) (Nat.lt_succ_self _) (fun q => absurd (wlt _ q) (Nat.lt_irrefl _)) hn .none ?_ n 0 _ s.toks _ #[] [] rfl (Nat.zero_le _) (st _ k3) (fun b o _ _ e => k3 b o e) at3 rfl rfl ⟨List.Pairwise.nil, fun _ q => (nomatch q), fun j a q => by simp at q⟩ big
  intro h' tk acc c as kp hS hl g ha
  exact ⟨rfl, q h' tk acc c as (fun b o n2 e => kp b o (Nat.ne_of_lt (Heap.lt_size e)) n2 e) hS hl g ha⟩
end

theorem psrc_lists {prog : Program} {w : World} {z TI TO i1 i2 l1 l2 : Addr} (D : ZipApart z TI TO i1 i2 l1 l2) (xs ys : Array Value) (hn : xs.size = ys.size) : PSrc prog w z [z, TO, i1, i2] xs.size (fun i => (xs.getD i .none, ys.getD i .none))
    (fun i S h => IsPair h TI (.ref i1) (.ref i2) ∧ h.IsListIter i1 l1 i ∧ h.IsListIter i2 l2 i ∧ h.IsList l1 xs ∧ h.IsList l2 ys ∧ (S ≠ z ∧ S ≠ TI ∧ S ≠ TO ∧ S ≠ i1 ∧ S ≠ i2 ∧ S ≠ l1 ∧ S ≠ l2) ∧
      ((IsZip h z TI TO .none ∧ ∃ a b, IsPair h TO a b) ∨ ∃ T f oT, IsZipHeld h z TI TO T f ∧ h.get? T = some oT ∧ T ≠ z ∧ T ≠ i1 ∧ T ≠ i2 ∧ T ≠ S)) where
  type := by
    rintro i S s ⟨_, _, _, _, _, _, ⟨hz, _⟩ | ⟨T, f, oT, hz, _⟩⟩
    · exact ⟨_, hz, rfl⟩
    · exact ⟨_, hz, rfl⟩
  self := by
    rintro A E i S s Q ⟨_, _, _, _, _, _, ⟨hz, _⟩ | ⟨T, f, oT, hz, _⟩⟩ q
    · exact wpAny_pyIter_zip hz q
    · have isz : s.TypeIs (.ref z) "zip" := ⟨_, hz, rfl⟩
      exact wpAny_pyIter_slot isz F.slot_zip_iter (wpAny_call_entry F.slot_zip_iter isz F.entry_zip_iter (wpAny_pure ⟨_, rfl, "zip", _, isz, F.slot_zip_next.lookup, q⟩) (F.args_zip_iter_1 _))
  keep := by
    rintro i S h h' ⟨p, a1, a2, t1, t2, ⟨n1, n2, n3, n4, n5, n6, n7⟩, hz⟩ k
    refine ⟨k _ _ n2.symm p, a1.at fun o e => k _ o n4.symm e, a2.at fun o e => k _ o n5.symm e, t1.at fun o e => k _ o n6.symm e, t2.at fun o e => k _ o n7.symm e, ⟨n1, n2, n3, n4, n5, n6, n7⟩, ?_⟩
    rcases hz with ⟨hz, a, b, ho⟩ | ⟨T, f, oT, hz, hT, r1, r2, r3, r4⟩
    · exact .inl ⟨k _ _ n1.symm hz, a, b, k _ _ n3.symm ho⟩
    · exact .inr ⟨T, f, oT, k _ _ n1.symm hz, k _ _ r4 hT, r1, r2, r3, r4⟩
  item := by
    rintro A E i S s Q lt Slt ⟨p, a1, a2, t1, t2, ns, hz⟩ q
    have ex : xs[i]? = some (xs.getD i .none) := by simp [Array.getD, lt]
    have ey : ys[i]? = some (ys.getD i .none) := by
      have : i < ys.size := by omega
      simp [Array.getD, this]
    have new : ∀ {b o}, s.heap.get? b = some o → s.heap.objs.size ≠ b := fun e => Nat.ne_of_gt (Heap.lt_size e)
    have ni1 : s.heap.objs.size ≠ i1 := let ⟨_, e, _⟩ := a1; new e
    have ni2 : s.heap.objs.size ≠ i2 := let ⟨_, e, _⟩ := a2; new e
    rcases hz with ⟨hz, a, b, ho⟩ | ⟨T, f, oT, hz, hT, r1, r2, r3, r4⟩
    · refine wpAny_pyNext_zip_item D hz p ho a1 a2 t1 t2 ex ey fun h' c1 c2 c3 c4 c5 c6 k => ?_
      refine q h' ⟨k _ _ D.TIz D.TITO D.TIi1 D.TIi2 p, c3, c4, t1.at fun o e => k _ o D.l1z D.l1TO D.l1i1 D.l1i2 e, t2.at fun o e => k _ o D.l2z D.l2TO D.l2i1 D.l2i2 e, ns, .inr ⟨s.heap.objs.size, false, _, c1, c5, new hz, ni1, ni2, Nat.ne_of_gt Slt⟩⟩ c5 c6 fun b o nb e => ?_
      simp only [List.mem_cons, List.not_mem_nil, or_false, not_or] at nb
      exact k b o nb.1 nb.2.1 nb.2.2.1 nb.2.2.2 e
    · refine wpAny_pyNext_zip_item_held D hz hT p a1 a2 t1 t2 ex ey fun h' c1 c3 c4 c5 c6 k => ?_
      refine q h' ⟨k _ _ D.TIz D.TIi1 D.TIi2 p, c3, c4, t1.at fun o e => k _ o D.l1z D.l1i1 D.l1i2 e, t2.at fun o e => k _ o D.l2z D.l2i1 D.l2i2 e, ns, .inr ⟨T, true, oT, c1, k _ _ r1 r2 r3 hT, r1, r2, r3, r4⟩⟩ c5 c6 fun b o nb e => ?_
      simp only [List.mem_cons, List.not_mem_nil, or_false, not_or] at nb
      exact k b o nb.1 nb.2.2.1 nb.2.2.2 e
  done := by
    rintro A E S s Q hh ⟨p, a1, a2, t1, t2, ns, hz⟩ q
    have ex : xs[xs.size]? = none := by simp
    rcases hz with ⟨hz, a, b, ho⟩ | ⟨T, f, oT, hz, hT, r1, r2, r3, r4⟩
    · refine wpAny_pyNext_zip_end hh D hz p ho a1 a2 t1 t2 (.inl ex) fun h' k => q h' fun b o nb e => ?_
      simp only [List.mem_cons, List.not_mem_nil, or_false, not_or] at nb
      exact k b o nb.1 nb.2.1 nb.2.2.1 nb.2.2.2 e
    · refine wpAny_pyNext_zip_end_held hh D hz hT p a1 a2 t1 t2 (.inl ex) fun h' k => q h' fun b o nb e => ?_
      simp only [List.mem_cons, List.not_mem_nil, or_false, not_or] at nb
      exact k b o nb.1 nb.2.2.1 nb.2.2.2 e

theorem psrc_tuples {prog : Program} {w : World} {z TI TO i1 i2 l1 l2 : Addr} (D : ZipApart z TI TO i1 i2 l1 l2) (xs ys : Array Value) (hn : xs.size = ys.size) : PSrc prog w z [z, TO, i1, i2] xs.size (fun i => (xs.getD i .none, ys.getD i .none))
    (fun i S h => IsPair h TI (.ref i1) (.ref i2) ∧ h.IsTupleIter i1 l1 i ∧ h.IsTupleIter i2 l2 i ∧ h.IsTuple l1 xs ∧ h.IsTuple l2 ys ∧ (S ≠ z ∧ S ≠ TI ∧ S ≠ TO ∧ S ≠ i1 ∧ S ≠ i2 ∧ S ≠ l1 ∧ S ≠ l2) ∧
      ((IsZip h z TI TO .none ∧ ∃ a b, IsPair h TO a b) ∨ ∃ T f oT, IsZipHeld h z TI TO T f ∧ h.get? T = some oT ∧ T ≠ z ∧ T ≠ i1 ∧ T ≠ i2 ∧ T ≠ S)) where
  type := by
    rintro i S s ⟨_, _, _, _, _, _, ⟨hz, _⟩ | ⟨T, f, oT, hz, _⟩⟩
    · exact ⟨_, hz, rfl⟩
    · exact ⟨_, hz, rfl⟩
  self := by
    rintro A E i S s Q ⟨_, _, _, _, _, _, ⟨hz, _⟩ | ⟨T, f, oT, hz, _⟩⟩ q
    · exact wpAny_pyIter_zip hz q
    · have isz : s.TypeIs (.ref z) "zip" := ⟨_, hz, rfl⟩
      exact wpAny_pyIter_slot isz F.slot_zip_iter (wpAny_call_entry F.slot_zip_iter isz F.entry_zip_iter (wpAny_pure ⟨_, rfl, "zip", _, isz, F.slot_zip_next.lookup, q⟩) (F.args_zip_iter_1 _))
  keep := by
    rintro i S h h' ⟨p, a1, a2, t1, t2, ⟨n1, n2, n3, n4, n5, n6, n7⟩, hz⟩ k
    refine ⟨k _ _ n2.symm p, a1.at fun o e => k _ o n4.symm e, a2.at fun o e => k _ o n5.symm e, t1.at fun o e => k _ o n6.symm e, t2.at fun o e => k _ o n7.symm e, ⟨n1, n2, n3, n4, n5, n6, n7⟩, ?_⟩
    rcases hz with ⟨hz, a, b, ho⟩ | ⟨T, f, oT, hz, hT, r1, r2, r3, r4⟩
    · exact .inl ⟨k _ _ n1.symm hz, a, b, k _ _ n3.symm ho⟩
    · exact .inr ⟨T, f, oT, k _ _ n1.symm hz, k _ _ r4 hT, r1, r2, r3, r4⟩
  item := by
    rintro A E i S s Q lt Slt ⟨p, a1, a2, t1, t2, ns, hz⟩ q
    have ex : xs[i]? = some (xs.getD i .none) := by simp [Array.getD, lt]
    have ey : ys[i]? = some (ys.getD i .none) := by
      have : i < ys.size := by omega
      simp [Array.getD, this]
    have new : ∀ {b o}, s.heap.get? b = some o → s.heap.objs.size ≠ b := fun e => Nat.ne_of_gt (Heap.lt_size e)
    have ni1 : s.heap.objs.size ≠ i1 := let ⟨_, e, _⟩ := a1; new e
    have ni2 : s.heap.objs.size ≠ i2 := let ⟨_, e, _⟩ := a2; new e
    rcases hz with ⟨hz, a, b, ho⟩ | ⟨T, f, oT, hz, hT, r1, r2, r3, r4⟩
    · refine RZ.pyNext_zipT_item D hz p ho a1 a2 t1 t2 ex ey fun h' c1 c2 c3 c4 c5 c6 k => ?_
      refine q h' ⟨k _ _ D.TIz D.TITO D.TIi1 D.TIi2 p, c3, c4, t1.at fun o e => k _ o D.l1z D.l1TO D.l1i1 D.l1i2 e, t2.at fun o e => k _ o D.l2z D.l2TO D.l2i1 D.l2i2 e, ns, .inr ⟨s.heap.objs.size, false, _, c1, c5, new hz, ni1, ni2, Nat.ne_of_gt Slt⟩⟩ c5 c6 fun b o nb e => ?_
      simp only [List.mem_cons, List.not_mem_nil, or_false, not_or] at nb
      exact k b o nb.1 nb.2.1 nb.2.2.1 nb.2.2.2 e
    · refine zt_item D hz hT p a1 a2 t1 t2 ex ey fun h' c1 c3 c4 c5 c6 k => ?_
      refine q h' ⟨k _ _ D.TIz D.TIi1 D.TIi2 p, c3, c4, t1.at fun o e => k _ o D.l1z D.l1i1 D.l1i2 e, t2.at fun o e => k _ o D.l2z D.l2i1 D.l2i2 e, ns, .inr ⟨T, true, oT, c1, k _ _ r1 r2 r3 hT, r1, r2, r3, r4⟩⟩ c5 c6 fun b o nb e => ?_
      simp only [List.mem_cons, List.not_mem_nil, or_false, not_or] at nb
      exact k b o nb.1 nb.2.2.1 nb.2.2.2 e
  done := by
    rintro A E S s Q hh ⟨p, a1, a2, t1, t2, ns, hz⟩ q
    have ex : xs[xs.size]? = none := by simp
    rcases hz with ⟨hz, a, b, ho⟩ | ⟨T, f, oT, hz, hT, r1, r2, r3, r4⟩
    · refine RZ.pyNext_zipT_end hh D hz p ho a1 a2 t1 t2 (.inl ex) fun h' k => q h' fun b o nb e => ?_
      simp only [List.mem_cons, List.not_mem_nil, or_false, not_or] at nb
      exact k b o nb.1 nb.2.1 nb.2.2.1 nb.2.2.2 e
    · refine zt_end hh D hz hT p a1 t1 ex fun h' k => q h' fun b o nb e => ?_
      simp only [List.mem_cons, List.not_mem_nil, or_false, not_or] at nb
      exact k b o nb.1 nb.2.2.1 nb.2.2.2 e

/-! ### the rule -/
def putP : Hp → List Addr → List (V × V) → Hp
  | H, a :: as, p :: ps => putP (upd H a (.tup [p.1, p.2])) as ps
  | H, _, _ => H
theorem putP_off {b : Addr} : ∀ (as : List Addr) (ps : List (V × V)) (H : Hp), b ∉ as → putP H as ps b = H b
  | [], _, _, _ => rfl
  | _ :: _, [], _, _ => rfl
  | a :: as, p :: ps, H, h => by
    have h1 : b ∉ as := fun q => h (List.mem_cons_of_mem _ q)
    have h2 : b ≠ a := fun q => h (by rw [q]; exact List.mem_cons_self)
    show putP (upd H a (.tup [p.1, p.2])) as ps b = H b
    rw [putP_off as ps _ h1, upd_ne h2]
theorem putP_at : ∀ (as : List Addr) (ps : List (V × V)) (H : Hp), as.length = ps.length → as.Nodup → Paired (fun (t : Addr) (p : V × V) => putP H as ps t = some (.tup [p.1, p.2])) as ps
  | [], [], _, _, _ => .nil
  | [], _ :: _, _, h, _ => by cases h
  | _ :: _, [], _, h, _ => by cases h
  | a :: as, p :: ps, H, h, hn => by
    obtain ⟨n1, n2⟩ := List.nodup_cons.mp hn
    refine .cons ?_ (putP_at as ps (upd H a (.tup [p.1, p.2])) (Nat.succ.inj h) n2)
    show putP (upd H a (.tup [p.1, p.2])) as ps a = some (.tup [p.1, p.2])
    rw [putP_off as ps _ n1, upd_same]
/-- behind list(zip(..)): a new list of new pairs -/
def ZipEnd (H : Hp) (Q : VK) (xs ys : List V) : Prop := ∀ (H' : Hp) (l : Addr) (ts : List Addr), Same H H' → H l = none → H' l = some (.lst (ts.map V.ref)) → Paired (fun (t : Addr) (p : V × V) => H' t = some (.tup [p.1, p.2])) ts (xs.zip ys) → Q (.ref l) H'
section
variable {X : Cx} {pins : List (Addr × Obj)} {σ : L2.St} {H : Hp} {s : Shared} {xs ys : List V} {us vs : List Value}
theorem na_not {L : Nat} (h : L + 1 ≤ L) : False := by omega
theorem na_le {n L t : Nat} (h : n ≤ L) (g : L + 1 ≤ t) : n ≤ t := by omega
theorem na_ne {b n L : Nat} (h : b < n) (g : n ≤ L) : b ≠ L := by omega
theorem na_out {b n L : Nat} (h : b < n) (g : n ≤ L) (q : L + 1 ≤ b) : False := by omega
theorem na_ns {n a b : Nat} (la : a < n) (lb : b < n) : n + 5 ≠ n + 4 ∧ n + 5 ≠ n + 2 ∧ n + 5 ≠ n + 3 ∧ n + 5 ≠ n ∧ n + 5 ≠ n + 1 ∧ n + 5 ≠ a ∧ n + 5 ≠ b := by omega
theorem na_wr {n b : Nat} (h : b = n + 4 ∨ b = n + 3 ∨ b = n ∨ b = n + 1) : b < n + 5 := by omega
theorem na_old {n b : Nat} (h : b < n) (q : b = n + 4 ∨ b = n + 3 ∨ b = n ∨ b = n + 1) : False := by omega
theorem getD_of {us : List Value} {j : Nat} {u : Value} (h : us[j]? = some u) : us.toArray.getD j .none = u := by
  obtain ⟨h1, h2⟩ := List.getElem?_eq_some_iff.mp h
  simp [Array.getD, h1, h2]
theorem zip_laid (I : Inv X pins σ H s) (rx : Vals xs us) (ry : Vals ys vs) {h2 : Heap} {tk c L : Nat} {acc : Array Value} {as : List Addr} (k : ∀ b o, s.heap.get? b = some o → h2.get? b = some o) (hL : s.heap.objs.size ≤ L)
    (hS : h2.get? L = some { cls := .type "list", dict := none, data := .seq acc c, slots := #[] }) (hn : as.length = (xs.zip ys).length) (hz : as.length ≤ sizeLine) (g : Outs (fun i => (us.toArray.getD i .none, vs.toArray.getD i .none)) (L + 1) h2 as) (ha : acc.toList = as.map Value.ref) :
    ∃ H' : Hp, Same H H' ∧ H L = none ∧ H' L = some (.lst (as.map V.ref)) ∧ Paired (fun (t : Addr) (p : V × V) => H' t = some (.tup [p.1, p.2])) as (xs.zip ys) ∧ Inv X pins σ H' { s with heap := h2, toks := tk } := by
  have nL : L ∉ as := fun q => na_not (g.above L q)
  have nd : as.Nodup := List.Pairwise.imp (fun {a b} (h : a < b) => Nat.ne_of_lt h) g.rise
  have newT : ∀ t ∈ as, H t = none := fun t q => I.hok.fresh (na_le hL (g.above t q))
  have newL : H L = none := I.hok.fresh hL
  have tups := putP_at as (xs.zip ys) (upd H L (.lst (as.map V.ref))) hn nd
  have off : ∀ b, b ∉ as → b ≠ L → putP (upd H L (.lst (as.map V.ref))) as (xs.zip ys) b = H b := fun b q1 q2 => by rw [putP_off as _ _ q1, upd_ne q2]
  have low : ∀ b o, s.heap.get? b = some o → b ∉ as ∧ b ≠ L := fun b o e => by
    have lt := Heap.lt_size e
    exact ⟨fun q => na_out lt hL (g.above b q), na_ne lt hL⟩
  have kp : Same H (putP (upd H L (.lst (as.map V.ref))) as (xs.zip ys)) := fun b u e => by
    rw [off b (fun q => by rw [newT b q] at e; cases e) (fun q => by rw [q, newL] at e; cases e)]
    exact e
  have atL : putP (upd H L (.lst (as.map V.ref))) as (xs.zip ys) L = some (.lst (as.map V.ref)) := by rw [putP_off as _ _ nL, upd_same]
  refine ⟨_, kp, newL, atL, tups, ?_⟩
  have un : Un (frs X.stack) [] H (putP (upd H L (.lst (as.map V.ref))) as (xs.zip ys)) s.heap h2 := by
    refine ⟨fun b o e _ _ _ => k b o e, fun b o e _ _ _ => ⟨o.slots, k b o e⟩, fun b o e n _ => ?_, fun b o e _ => ⟨o, k b o e⟩, fun b zs e => kp b _ e, fun b o u e => kp b _ e, fun b ps e => ⟨#[], ?_⟩⟩
    · obtain ⟨q1, q2⟩ := low b o e
      rw [off b q1 q2]
      exact n
    · rw [kp b _ e]
      simp
  refine I.call' (ch := []) rfl un (fun b u e => ?_) I.bare fun b q => nomatch q
  by_cases hb : b ∈ as
  · obtain ⟨j, p, e1, e2, e3⟩ := LiI.paired_ix tups hb
    rw [e3] at e
    cases e
    obtain ⟨x1, y1⟩ := List.getElem?_zip_eq_some.mp e2
    obtain ⟨u, eu, ru⟩ := Vals.get rx x1
    obtain ⟨v, ev, rv⟩ := Vals.get ry y1
    have t := g.pairs j b e1
    rw [getD_of eu, getD_of ev] at t
    exact ⟨by show 2 ≤ sizeLine; decide, [u, v], .cons ru (.cons rv .nil), ⟨_, t, rfl, _, rfl⟩⟩
  · by_cases hb2 : b = L
    · rw [hb2] at e ⊢
      rw [atL] at e
      cases e
      refine ⟨by rw [List.length_map]; exact hz, acc.toList, c, by rw [ha]; exact LiI.vals_refs as, ?_⟩
      rw [Array.toArray_toList]
      exact hS
    · rw [off b hb hb2] at e
      exact (I.hok b u e).stay (fun d w _ q => k d w q) (fun d q => kp d _ q) fun d zs q => kp d _ q
def tListZip (K : PySem.W.Frag) (ta : TA) : TE := fun σ H Q => ta σ H fun vs H1 => ∃ (a b : Addr) (xs ys : List V), vs = [.ref a, .ref b] ∧ ((SqL K H1 a xs ∧ SqL K H1 b ys) ∨ (SqT K H1 a xs ∧ SqT K H1 b ys)) ∧ xs.length = ys.length ∧ ZipEnd H1 Q xs ys
theorem pe_listZip {e e2 : Expr} {ta : TA} {p p2 pos pos2 : Pos} (hg : Gl X "list") (hm : X.mg "list" = none) (hgz : Gl X "zip") (hmz : X.mg "zip" = none) (hc : X.calm = true) (hp : PA X [e, e2] ta)
    (hs : starEach [.Call (.Name "zip" p2) [e, e2] [] pos2] X.env = (false, eval (.Call (.Name "zip" p2) [e, e2] [] pos2) X.env) :: starEach [] X.env := by rfl) (hpl : (backTo pos (starEach [] X.env)).any (·.1) = false := by rfl)
    (hs2 : starEach [e, e2] X.env = (false, eval e X.env) :: starEach [e2] X.env := by rfl) (hpl2 : (backTo pos2 (starEach [e2] X.env)).any (·.1) = false := by rfl) :
    PE X (.Call (.Name "list" p) [.Call (.Name "zip" p2) [e, e2] [] pos2] [] pos) (tListZip X.K ta) := by
  refine ⟨fun pins s σ H Q I h => ?_⟩
  refine Call_ (ld_blt I hg hm (show bootBuiltins "list" = some (Value.type "list") by decide +kernel) (PyProof.Rows.callWith_type1 ?_ hs hpl))
  rw [hs]
  show wpAny _ _ (spliced ((false, eval (.Call (.Name "zip" p2) [e, e2] [] pos2) X.env) :: backTo pos (starEach [] X.env))) _ _ s
  refine Calls.spliced_cons ?_
  refine Call_ (ld_blt I hgz hmz PyProof.Rows.boot_zip (PyProof.Rows.callWith_type1 (thn (hp.run pos2 pins s σ H _ I h) fun us s1 ⟨vs, H1, I1, r1, q1⟩ => ?_) hs2 hpl2))
  obtain ⟨a, b, xs, ys, ex, hq, hl, q⟩ := q1
  subst ex
  cases r1 with
  | cons r rr =>
    cases rr with
    | cons r' rr =>
      cases rr
      cases r
      cases r'
      rcases hq with ⟨hx, hy⟩ | ⟨hx, hy⟩
      · obtain ⟨ia, rv, p1, z1⟩ := I1.list hx
        obtain ⟨ib, rw', p3, _⟩ := I1.list hy
        have eq : ia.toArray.size = ib.toArray.size := by simp only [List.size_toArray]; rw [← rv.length, ← rw'.length]; exact hl
        refine call_zip_2 p1.isList p3.isList fun h' hz hTI hTO h1 h2 hsz hk => Calls.spliced_nil ?_
        refine call_list_zip (s := { s1 with heap := h' }) (psrc_lists (PySem.W.ktu_apart s1.heap.objs.size a b p1.lt p3.lt) ia.toArray ib.toArray eq) (I1.ok.hd hc) ?_ ?_ ?_ ?_ ?_
        · intro h2' k
          have la := p1.lt
          have lb := p3.lt
          refine ⟨k _ _ hTI, h1.at fun o e => k _ o e, h2.at fun o e => k _ o e, p1.isList.at fun o e => k _ o (hk _ o e), p3.isList.at fun o e => k _ o (hk _ o e), ?_, .inl ⟨k _ _ hz, _, _, k _ _ hTO⟩⟩
          show h'.objs.size ≠ _ ∧ h'.objs.size ≠ _ ∧ h'.objs.size ≠ _ ∧ h'.objs.size ≠ _ ∧ h'.objs.size ≠ _ ∧ h'.objs.size ≠ _ ∧ h'.objs.size ≠ _
          rw [hsz]
          exact na_ns la lb
        · intro b' hb'
          show b' < h'.objs.size
          rw [hsz]
          simp only [List.mem_cons, List.not_mem_nil, or_false] at hb'
          exact na_wr hb'
        · show s1.heap.objs.size + 4 < h'.objs.size
          rw [hsz]
          exact Nat.lt_succ_self _
        · rw [List.size_toArray, ← rv.length]
          exact z1
        · intro h3 tk acc c as kp hS hlen g ha
          have kk : ∀ b' o, s1.heap.get? b' = some o → h3.get? b' = some o := fun b' o e => kp b' o (fun z => by
            have := Heap.lt_size e
            simp only [List.mem_cons, List.not_mem_nil, or_false] at z
            exact na_old this z) (hk b' o e)
          have lz : (xs.zip ys).length = xs.length := by rw [List.length_zip]; omega
          have la : as.length = xs.length := by rw [hlen, List.size_toArray, ← rv.length]
          obtain ⟨H', c1, c2, c3, c4, J⟩ := zip_laid (tk := tk) I1 rv rw' kk (show s1.heap.objs.size ≤ h'.objs.size by rw [hsz]; exact Nat.le_add_right _ _) hS (by omega) (by omega) g ha
          exact ⟨.ref h'.objs.size, H', J, rfl, q H' _ as c1 c2 c3 c4⟩
      · obtain ⟨ia, rv, p1, z1⟩ := I1.tuple hx
        obtain ⟨ib, rw', p3, _⟩ := I1.tuple hy
        have eq : ia.toArray.size = ib.toArray.size := by simp only [List.size_toArray]; rw [← rv.length, ← rw'.length]; exact hl
        refine RZ.call_zipT p1 p3 fun h' hz hTI hTO h1 h2 hsz hk => Calls.spliced_nil ?_
        refine call_list_zip (s := { s1 with heap := h' }) (psrc_tuples (PySem.W.ktu_apart s1.heap.objs.size a b p1.lt p3.lt) ia.toArray ib.toArray eq) (I1.ok.hd hc) ?_ ?_ ?_ ?_ ?_
        · intro h2' k
          have la := p1.lt
          have lb := p3.lt
          refine ⟨k _ _ hTI, h1.at fun o e => k _ o e, h2.at fun o e => k _ o e, Heap.IsTuple.at p1 fun o e => k _ o (hk _ o e), Heap.IsTuple.at p3 fun o e => k _ o (hk _ o e), ?_, .inl ⟨k _ _ hz, _, _, k _ _ hTO⟩⟩
          show h'.objs.size ≠ _ ∧ h'.objs.size ≠ _ ∧ h'.objs.size ≠ _ ∧ h'.objs.size ≠ _ ∧ h'.objs.size ≠ _ ∧ h'.objs.size ≠ _ ∧ h'.objs.size ≠ _
          rw [hsz]
          exact na_ns la lb
        · intro b' hb'
          show b' < h'.objs.size
          rw [hsz]
          simp only [List.mem_cons, List.not_mem_nil, or_false] at hb'
          exact na_wr hb'
        · show s1.heap.objs.size + 4 < h'.objs.size
          rw [hsz]
          exact Nat.lt_succ_self _
        · rw [List.size_toArray, ← rv.length]
          exact z1
        · intro h3 tk acc c as kp hS hlen g ha
          have kk : ∀ b' o, s1.heap.get? b' = some o → h3.get? b' = some o := fun b' o e => kp b' o (fun z => by
            have := Heap.lt_size e
            simp only [List.mem_cons, List.not_mem_nil, or_false] at z
            exact na_old this z) (hk b' o e)
          have lz : (xs.zip ys).length = xs.length := by rw [List.length_zip]; omega
          have la : as.length = xs.length := by rw [hlen, List.size_toArray, ← rv.length]
          obtain ⟨H', c1, c2, c3, c4, J⟩ := zip_laid (tk := tk) I1 rv rw' kk (show s1.heap.objs.size ≤ h'.objs.size by rw [hsz]; exact Nat.le_add_right _ _) hS (by omega) (by omega) g ha
          exact ⟨.ref h'.objs.size, H', J, rfl, q H' _ as c1 c2 c3 c4⟩
end
end L3

/-! dicts of kinds that are equal -/
namespace L3
open PySem PySem.Spec PyProof.Rows L2
section
variable {X : Cx} {pins : List (Addr × Obj)} {σ : L2.St} {H : Hp} {s : Shared}
theorem opR_or {f : Value → Value → Sem Value} {r r' : R2} (h : OpR X f r) (h' : OpR X f r') : OpR X f (fun x y H Q => r x y H Q ∨ r' x y H Q) := by
  intro pins s σ H x y v u Q I rx ry q
  rcases q with q | q
  · exact h pins s σ H x y v u Q I rx ry q
  · exact h' pins s σ H x y v u Q I rx ry q
theorem kv_hits (I : Inv X pins σ H s) {A : Around} (hu : A.units + 64 < cLine) {ls : List (Key × V)} {b2 : By} {vb : List (Key × Value)} (rb : KV ls vb) (k2 : ByAt H ls b2) (f2 : ∀ q ∈ b2, q.2.fit 60) :
    ∀ {ks : List (Key × V)} {b1 : By} {va : List (Key × Value)}, KV ks va → ByAt H ks b1 → (∀ q ∈ b1, q.2.fit 60 ∧ lk b2 q.1 = some q.2) → PySem.W.KeqHits A s vb va true
  | _, _, _, .nil, .nil, _ => .nil
  | (key, v) :: ks, (x, k) :: b1, (key', u) :: va, .cons ⟨e1, r1⟩ t1, .cons ⟨e2, g⟩ t2, h => by
    obtain ⟨fk, el⟩ := h _ List.mem_cons_self
    have e1' : key = key' := e1
    have e2' : key = .inr x := e2
    subst e1' e2'
    rcases k2.get x with ⟨_, z⟩ | ⟨v2, k', e3, e4, g'⟩
    · rw [z] at el
      cases el
    · rw [e4] at el
      cases el
      have rr : RelO (some v2) (valueAt vb (.inr x)) := by
        rw [← e3]
        exact rb.val (.inr x)
      obtain ⟨y, hy, ry⟩ := rr.some_of
      obtain ⟨as, ra⟩ := Dp.reads I _ v u g.dp r1
      obtain ⟨bs, rb'⟩ := Dp.reads I _ v2 y g'.dp ry
      obtain ⟨l1, l2⟩ := Kd.lay fk
      have eq := SeqAt.eqAt_reads _ _ A s u y as bs ra rb' l1 l1 (by have : min k.dat.depth k.dat.depth = k.dat.depth := Nat.min_self _; omega)
      rw [Kd.eqv, decide_eq_true rfl] at eq
      exact PySem.W.KeqHits.hit hy eq (kv_hits I hu rb k2 f2 t1 t2 fun q hq => h q (List.mem_cons_of_mem _ hq))
def rBy (r : Bool) : R2 := fun x y H Q => ∃ (a b : Addr) (ks ls : List (Key × V)) (b1 b2 : By), x = .ref a ∧ y = .ref b ∧ H a = some (.dK ks) ∧ H b = some (.dK ls) ∧ ByAt H ks b1 ∧ ByAt H ls b2 ∧ b1.length = b2.length ∧ (∀ q ∈ b1, q.2.fit 60 ∧ lk b2 q.1 = some q.2) ∧ (∀ q ∈ b2, q.2.fit 60) ∧ Q (.bl r) H
theorem op_eqBy (hu : X.A.units + 65 < cLine) : OpR X (compareOp .Eq) (rBy true) := by
  intro pins s σ H x y v u Q I rx ry ⟨a, b, ks, ls, b1, b2, ex, ey, ea, eb, k1, k2, hl, h1, h2, q⟩
  subst ex ey
  obtain rfl : v = Value.ref a := rx
  obtain rfl : u = Value.ref b := ry
  obtain ⟨_, ya, va, ra, da⟩ := (show ObjOk X.prog X.w H s.heap a (.dK ks) from I.hok a _ ea)
  obtain ⟨_, yb, vb, rb, db⟩ := (show ObjOk X.prog X.w H s.heap b (.dK ls) from I.hok b _ eb)
  have lv : va.length = vb.length := by rw [← ra.length, ← rb.length, Paired.length k1, Paired.length k2]; exact hl
  refine PySem.W.keq_eq (knd := mixKind X.prog X.w) (r := true) ya yb da db (by omega) (fun _ => kv_hits I (A := X.A.in1) (by show X.A.units + 1 + 64 < cLine; omega) rb k2 h2 ra k1 h1) ?_
  have e : (va.length == vb.length && true) = true := by simp [lv]
  rw [e]
  exact ⟨.bl true, H, I, rfl, q⟩
theorem op_neBy (hu : X.A.units + 65 < cLine) : OpR X (compareOp .NotEq) (rBy false) := by
  intro pins s σ H x y v u Q I rx ry ⟨a, b, ks, ls, b1, b2, ex, ey, ea, eb, k1, k2, hl, h1, h2, q⟩
  subst ex ey
  obtain rfl : v = Value.ref a := rx
  obtain rfl : u = Value.ref b := ry
  obtain ⟨_, ya, va, ra, da⟩ := (show ObjOk X.prog X.w H s.heap a (.dK ks) from I.hok a _ ea)
  obtain ⟨_, yb, vb, rb, db⟩ := (show ObjOk X.prog X.w H s.heap b (.dK ls) from I.hok b _ eb)
  have lv : va.length = vb.length := by rw [← ra.length, ← rb.length, Paired.length k1, Paired.length k2]; exact hl
  refine PySem.W.keq_ne (knd := mixKind X.prog X.w) (r := true) ya yb da db (by omega) (fun _ => kv_hits I (A := X.A.in1) (by show X.A.units + 1 + 64 < cLine; omega) rb k2 h2 ra k1 h1) ?_
  have e : (!(va.length == vb.length && true)) = false := by simp [lv]
  rw [e]
  exact ⟨.bl false, H, I, rfl, q⟩
end
/-- what is in order names each key once -/
theorem addV_nodup {fs : List Str} (x : Str) (h : fs.Nodup) : (addV fs x).Nodup := by
  unfold addV
  by_cases e : x ∈ fs
  · rw [if_pos e]
    exact h
  · rw [if_neg e]
    exact List.nodup_append.mpr ⟨h, by simp, fun a ha b hb => by rw [List.mem_singleton.mp hb]; intro z; rw [z] at ha; exact e ha⟩
theorem Kd.vs_nodup : ∀ (k : Kd) {fs : List Str}, fs.Nodup → (k.vs fs).Nodup
  | .var x, _, h => addV_nodup x h
  | .con _, _, h => h
  | .app a b, _, h => Kd.vs_nodup b (Kd.vs_nodup a h)
theorem vsL_nodup : ∀ (ks : List Kd) {fs : List Str}, fs.Nodup → (vsL ks fs).Nodup
  | [], _, h => h
  | k :: r, _, h => vsL_nodup r (k.vs_nodup h)
theorem lk_self : ∀ (b : By), (names b).Nodup → ∀ q ∈ b, lk b q.1 = some q.2
  | [], _, q, h => nomatch h
  | p :: r, hn, q, h => by
    obtain ⟨n1, n2⟩ := List.nodup_cons.mp (show (p.1 :: names r).Nodup from hn)
    rcases List.mem_cons.mp h with e | h
    · rw [e]
      exact lk_pos rfl
    · have ne : ¬ p.1 = q.1 := fun z => n1 (by rw [z]; exact List.mem_map.mpr ⟨q, h, rfl⟩)
      rw [lk_neg ne]
      exact lk_self r n2 q h
end L3

/-! how kinds are shown: no dict, not too long -/
namespace L3
open PySem L2
theorem shown_word {x : Str} (w : Wok x) : (PyData.str x).shown.length ≤ 82 := by
  have h := StrLaws.reprText_len x (fun c hc => by have := w.2.2 c hc; omega)
  have e : (PyData.str x).shown = reprText x := by simp only [PyData.shown]
  rw [e]
  have := w.2.1
  omega
theorem shown_var : (PyData.str "var").shown.length ≤ 82 := by decide +kernel
theorem shown_con : (PyData.str "con").shown.length ≤ 82 := by decide +kernel
theorem shown_apply : (PyData.str "apply").shown.length ≤ 82 := by decide +kernel
theorem shown_two (a b : PyData) : (PyData.tuple [a, b]).shown.length ≤ a.shown.length + b.shown.length + 7 := by
  have h := tupleText_len_le [a.shown, b.shown]
  simp only [PyData.shown, PyData.shownAll]
  simp only [List.map_cons, List.map_nil, List.sum_cons, List.sum_nil, List.length_cons, List.length_nil] at h
  omega
theorem shown_three (a b c : PyData) : (PyData.tuple [a, b, c]).shown.length ≤ a.shown.length + b.shown.length + c.shown.length + 9 := by
  have h := tupleText_len_le [a.shown, b.shown, c.shown]
  simp only [PyData.shown, PyData.shownAll]
  simp only [List.map_cons, List.map_nil, List.sum_cons, List.sum_nil, List.length_cons, List.length_nil] at h
  omega
theorem Kd.shown_len : ∀ {k : Kd} {n : Nat}, k.fit n → k.dat.shown.length + 100 ≤ 300 * 2 ^ n
  | .var x, n, h => by
    have h1 := shown_two (.str "var") (.str x)
    have h2 := shown_word (wok_of_var h)
    have h3 := shown_var
    have h4 : 1 ≤ 2 ^ n := Nat.one_le_two_pow
    show (PyData.tuple [.str "var", .str x]).shown.length + 100 ≤ _
    omega
  | .con x, n, h => by
    have h1 := shown_two (.str "con") (.str x)
    have h2 := shown_word (wok_of_con h)
    have h3 := shown_con
    have h4 : 1 ≤ 2 ^ n := Nat.one_le_two_pow
    show (PyData.tuple [.str "con", .str x]).shown.length + 100 ≤ _
    omega
  | .app a b, n, h => by
    obtain ⟨m, rfl, ha, hb⟩ := Kd.fit_app h
    have h1 := shown_three (.str "apply") a.dat b.dat
    have h2 := Kd.shown_len ha
    have h3 := Kd.shown_len hb
    have h4 := shown_apply
    have h5 : 2 ^ (m + 1) = 2 ^ m * 2 := Nat.pow_succ ..
    show (PyData.tuple [.str "apply", a.dat, b.dat]).shown.length + 100 ≤ _
    omega
theorem Kd.show_ok : ∀ k : Kd, k.dat.showable = true ∧ k.dat.hasDict = false
  | .var x => by simp [Kd.dat, PyData.showable, PyData.showableAll, PyData.hasDict, PyData.hasDictAll]
  | .con x => by simp [Kd.dat, PyData.showable, PyData.showableAll, PyData.hasDict, PyData.hasDictAll]
  | .app a b => by
    obtain ⟨h1, h2⟩ := Kd.show_ok a
    obtain ⟨h3, h4⟩ := Kd.show_ok b
    simp [Kd.dat, PyData.showable, PyData.showableAll, PyData.hasDict, PyData.hasDictAll, h1, h2, h3, h4]
theorem kds_show : ∀ {ks : List Kd} {n : Nat}, (∀ k ∈ ks, k.fit n) → PyData.showableAll (ks.map Kd.dat) = true ∧ PyData.hasDictAll (ks.map Kd.dat) = false ∧ PyData.depthAll (ks.map Kd.dat) ≤ n + 1 ∧ ((PyData.shownAll (ks.map Kd.dat)).map (·.length)).sum ≤ ks.length * (300 * 2 ^ n) ∧ (PyData.shownAll (ks.map Kd.dat)).length = ks.length
  | [], n, _ => by simp [PyData.showableAll, PyData.hasDictAll, PyData.depthAll, PyData.shownAll]
  | k :: r, n, h => by
    obtain ⟨h1, h2, h3, h4, h5⟩ := kds_show (ks := r) (n := n) fun y hy => h y (List.mem_cons_of_mem _ hy)
    have hk := h k List.mem_cons_self
    obtain ⟨g1, g2⟩ := Kd.show_ok k
    obtain ⟨g3, g4⟩ := Kd.lay hk
    have g5 := Kd.shown_len hk
    refine ⟨?_, ?_, ?_, ?_, ?_⟩
    · simp [PyData.showableAll, g1, h1]
    · simp [PyData.hasDictAll, g2, h2]
    · simp only [List.map_cons, PyData.depthAll]
      omega
    · have e : (r.length + 1) * (300 * 2 ^ n) = r.length * (300 * 2 ^ n) + 300 * 2 ^ n := Nat.succ_mul ..
      simp only [List.map_cons, PyData.shownAll, List.sum_cons, List.length_cons]
      rw [e]
      generalize r.length * (300 * 2 ^ n) = z at h4 ⊢
      omega
    · simp [PyData.shownAll, h5]
/-- [patterns, kinds] -/
def twoD (ps ks : List Kd) : PyData := .list [.list (ps.map Kd.dat), .list (ks.map Kd.dat)]
theorem twoD_show {ps ks : List Kd} (hp : ∀ k ∈ ps, k.fit 12) (hk : ∀ k ∈ ks, k.fit 12) (lp : ps.length ≤ 4) (lk : ks.length ≤ 4) :
    (twoD ps ks).showable = true ∧ (twoD ps ks).hasDict = false ∧ (twoD ps ks).depth ≤ 60 ∧ (twoD ps ks).shown.length ≤ sizeLine := by
  obtain ⟨a1, a2, a3, a4, a5⟩ := kds_show hp
  obtain ⟨b1, b2, b3, b4, b5⟩ := kds_show hk
  refine ⟨?_, ?_, ?_, ?_⟩
  · simp [twoD, PyData.showable, PyData.showableAll, a1, b1]
  · simp [twoD, PyData.hasDict, PyData.hasDictAll, a2, b2]
  · simp only [twoD, PyData.depth, PyData.depthAll]
    omega
  · have h := listText_len_le [listText (PyData.shownAll (ps.map Kd.dat)), listText (PyData.shownAll (ks.map Kd.dat))]
    have h1 := listText_len_le (PyData.shownAll (ps.map Kd.dat))
    have h2 := listText_len_le (PyData.shownAll (ks.map Kd.dat))
    have c1 : ps.length * (300 * 2 ^ 12) ≤ 4 * (300 * 2 ^ 12) := Nat.mul_le_mul_right _ lp
    have c2 : ks.length * (300 * 2 ^ 12) ≤ 4 * (300 * 2 ^ 12) := Nat.mul_le_mul_right _ lk
    simp only [List.map_cons, List.map_nil, List.sum_cons, List.sum_nil, List.length_cons, List.length_nil] at h
    simp only [twoD, PyData.shown, PyData.shownAll]
    have e := sizeLine_eq
    rw [e]
    omega
end L3

/-! what is sorted is told by what is in it -/
namespace L3
open PySem PySem.Spec PyProof.Rows L2
theorem str_ext {x y : Str} (h : x.cps.toList = y.cps.toList) : x = y := by
  obtain ⟨⟨a⟩⟩ := x
  obtain ⟨⟨b⟩⟩ := y
  have e : a = b := h
  rw [e]
theorem rising_pw : ∀ (l : List Str) (p : Str), risingS p l = true → (p :: l).Pairwise fun a b => a.cps.toList ≤ b.cps.toList
  | [], p, _ => List.pairwise_singleton _ _
  | x :: r, p, h => by
    unfold risingS at h
    rw [Bool.and_eq_true, ltCps_eq] at h
    obtain ⟨h1, h2⟩ := h
    have ih := rising_pw r x h2
    have le : p.cps.toList ≤ x.cps.toList := by
      have : ¬ x.cps.toList < p.cps.toList := by simpa using h1
      exact this
    refine List.pairwise_cons.mpr ⟨fun y hy => ?_, ih⟩
    rcases List.mem_cons.mp hy with e | e
    · rw [e]; exact le
    · exact List.le_trans le ((List.pairwise_cons.mp ih).1 y e)
theorem sorted_pw : ∀ {l : List Str}, sortedS l = true → l.Pairwise fun a b => a.cps.toList ≤ b.cps.toList
  | [], _ => List.Pairwise.nil
  | x :: r, h => rising_pw r x h
theorem sorted_uniq {xs ys : List Str} (p : xs.Perm ys) (a : sortedS xs = true) (b : sortedS ys = true) : xs = ys :=
  List.Perm.eq_of_pairwise (le := fun a b : Str => a.cps.toList ≤ b.cps.toList) (fun x y _ _ h1 h2 => str_ext (List.le_antisymm h1 h2)) (sorted_pw a) (sorted_pw b) p
/-! the size of kinds, words of a script -/
theorem Kd.size_fit : ∀ {k : Kd} {n : Nat}, k.fit n → k.size + 1 ≤ 2 * 2 ^ n
  | .var x, n, _ => by
    have : 1 ≤ 2 ^ n := Nat.one_le_two_pow
    show 1 + 1 ≤ _
    omega
  | .con x, n, _ => by
    have : 1 ≤ 2 ^ n := Nat.one_le_two_pow
    show 1 + 1 ≤ _
    omega
  | .app a b, n, h => by
    obtain ⟨m, rfl, ha, hb⟩ := Kd.fit_app h
    have h1 := Kd.size_fit ha
    have h2 := Kd.size_fit hb
    have h5 : 2 ^ (m + 1) = 2 ^ m * 2 := Nat.pow_succ ..
    show a.size + b.size + 1 + 1 ≤ _
    omega
theorem sizeL_fit {n : Nat} : ∀ {ks : List Kd}, (∀ k ∈ ks, k.fit n) → sizeL ks ≤ ks.length * (2 * 2 ^ n)
  | [], _ => Nat.zero_le _
  | k :: r, h => by
    have h1 := Kd.size_fit (h k List.mem_cons_self)
    have h2 := sizeL_fit (ks := r) fun y hy => h y (List.mem_cons_of_mem _ hy)
    have e : (r.length + 1) * (2 * 2 ^ n) = r.length * (2 * 2 ^ n) + 2 * 2 ^ n := Nat.succ_mul ..
    show k.size + sizeL r ≤ (r.length + 1) * (2 * 2 ^ n)
    rw [e]
    omega
theorem vs_len : ∀ (k : Kd) (fs : List Str), (k.vs fs).length ≤ fs.length + k.size
  | .var x, fs => by
    show (addV fs x).length ≤ fs.length + 1
    unfold addV
    split
    · omega
    · simp
  | .con _, fs => Nat.le_add_right _ _
  | .app a b, fs => by
    have h1 := vs_len a fs
    have h2 := vs_len b (a.vs fs)
    show (b.vs (a.vs fs)).length ≤ fs.length + (a.size + b.size + 1)
    omega
theorem addV_of {ws fs : List Str} {x : Str} (h : x ∈ ws) (hf : ∀ y ∈ fs, y ∈ ws) : ∀ y ∈ addV fs x, y ∈ ws := by
  intro y hy
  unfold addV at hy
  split at hy
  · exact hf y hy
  · rcases List.mem_append.mp hy with q | q
    · exact hf y q
    · rw [List.mem_singleton.mp q]; exact h
theorem Kd.vs_of {ws : List Str} : ∀ {k : Kd} {fs : List Str}, Kd.of ws k → (∀ y ∈ fs, y ∈ ws) → ∀ y ∈ k.vs fs, y ∈ ws
  | .var x, _, h, hf => addV_of h hf
  | .con _, _, _, hf => hf
  | .app a b, fs, h, hf => Kd.vs_of (k := b) h.2 (Kd.vs_of (k := a) h.1 hf)
theorem vsL_of {ws : List Str} : ∀ {ks : List Kd} {fs : List Str}, (∀ k ∈ ks, Kd.of ws k) → (∀ y ∈ fs, y ∈ ws) → ∀ y ∈ vsL ks fs, y ∈ ws
  | [], _, _, hf => hf
  | k :: r, _, h, hf => vsL_of (ks := r) (fun y hy => h y (List.mem_cons_of_mem _ hy)) (Kd.vs_of (h k List.mem_cons_self) hf)
end L3

set_option maxHeartbeats 4000000
/-! putting kinds in, one variable after the other -/
namespace L3
open PySem L2
/-- x stands in a kind -/
def Kd.occ (x : Str) : Kd → Prop
  | .var y => y = x
  | .con _ => False
  | .app a b => a.occ x ∨ b.occ x
theorem vs_mem {x : Str} : ∀ {k : Kd} {fs : List Str}, x ∈ k.vs fs ↔ x ∈ fs ∨ k.occ x
  | .var y, fs => by
    show x ∈ addV fs y ↔ x ∈ fs ∨ y = x
    unfold addV
    by_cases h : y ∈ fs
    · rw [if_pos h]
      exact ⟨.inl, fun q => q.elim id fun e => by rw [← e]; exact h⟩
    · rw [if_neg h, List.mem_append, List.mem_singleton]
      exact or_congr_right ⟨Eq.symm, Eq.symm⟩
  | .con _, fs => by
    show x ∈ fs ↔ x ∈ fs ∨ False
    simp
  | .app a b, fs => by
    show x ∈ b.vs (a.vs fs) ↔ x ∈ fs ∨ (a.occ x ∨ b.occ x)
    rw [vs_mem, vs_mem, or_assoc]
theorem vsL_mem {x : Str} : ∀ {ks : List Kd} {fs : List Str}, x ∈ vsL ks fs ↔ x ∈ fs ∨ ∃ k ∈ ks, k.occ x
  | [], fs => by
    show x ∈ fs ↔ _
    simp
  | k :: r, fs => by
    show x ∈ vsL r (k.vs fs) ↔ _
    rw [vsL_mem, vs_mem, or_assoc]
    simp
/-- one variable -/
abbrev one (x : Str) (t : Kd) : By := [(x, t)]
theorem lk_one (x y : Str) (t : Kd) : lk (one x t) y = if x = y then some t else none := by
  by_cases e : x = y
  · rw [if_pos e]; exact lk_pos e
  · rw [if_neg e]; exact lk_neg e
theorem put_one_off {x : Str} {t : Kd} : ∀ {k : Kd}, ¬ k.occ x → k.put (one x t) = k
  | .var y, h => by
    show (lk (one x t) y).getD (.var y) = .var y
    rw [lk_one, if_neg (fun e => h (show y = x from e.symm))]
    rfl
  | .con _, _ => rfl
  | .app a b, h => by
    show Kd.app (a.put (one x t)) (b.put (one x t)) = _
    rw [put_one_off fun q => h (.inl q), put_one_off fun q => h (.inr q)]
/-- what is put in is what stands there -/
theorem occ_put {x : Str} {b : By} : ∀ {k : Kd}, (k.put b).occ x → (k.occ x ∧ lk b x = none) ∨ ∃ y t, k.occ y ∧ lk b y = some t ∧ t.occ x
  | .var y, h => by
    have h' : ((lk b y).getD (.var y)).occ x := h
    cases e : lk b y with
    | none =>
      rw [e] at h'
      have e2 : y = x := h'
      subst e2
      exact .inl ⟨rfl, e⟩
    | some t =>
      rw [e] at h'
      exact .inr ⟨y, t, rfl, e, h'⟩
  | .con _, h => h.elim
  | .app a c, h => by
    rcases (show (a.put b).occ x ∨ (c.put b).occ x from h) with q | q
    · rcases occ_put q with ⟨q1, q2⟩ | ⟨y, t, q1, q2, q3⟩
      · exact .inl ⟨.inl q1, q2⟩
      · exact .inr ⟨y, t, .inl q1, q2, q3⟩
    · rcases occ_put q with ⟨q1, q2⟩ | ⟨y, t, q1, q2, q3⟩
      · exact .inl ⟨.inr q1, q2⟩
      · exact .inr ⟨y, t, .inr q1, q2, q3⟩
/-- t for x in all that was found, and x for t -/
def sub1 (x : Str) (t : Kd) (b : By) : By := b.map (fun q => (q.1, q.2.put (one x t))) ++ [(x, t)]
theorem lk_sub1 {x : Str} {t : Kd} (y : Str) : ∀ {b : By}, lk b x = none → lk (sub1 x t b) y = match lk b y with | some k => some (k.put (one x t)) | none => if x = y then some t else none
  | [], _ => lk_one x y t
  | p :: r, h => by
    have hx : ¬ p.1 = x := fun e => by rw [lk_pos e] at h; cases h
    rw [lk_neg hx] at h
    show lk ((p.1, p.2.put (one x t)) :: sub1 x t r) y = _
    by_cases e : p.1 = y
    · rw [lk_pos (p := (p.1, p.2.put (one x t))) e, lk_pos e]
    · rw [lk_neg (p := (p.1, p.2.put (one x t))) e, lk_neg e]
      exact lk_sub1 y h
theorem put_sub1 {x : Str} {t : Kd} {b : By} (h : lk b x = none) : ∀ k : Kd, k.put (sub1 x t b) = (k.put b).put (one x t)
  | .var y => by
    show (lk (sub1 x t b) y).getD (.var y) = ((lk b y).getD (.var y)).put (one x t)
    rw [lk_sub1 y h]
    cases e : lk b y with
    | some k => rfl
    | none =>
      show (if x = y then some t else none).getD (.var y) = (lk (one x t) y).getD (.var y)
      rw [lk_one]
  | .con _ => rfl
  | .app a c => by
    show Kd.app (a.put (sub1 x t b)) (c.put (sub1 x t b)) = Kd.app ((a.put b).put (one x t)) ((c.put b).put (one x t))
    rw [put_sub1 h a, put_sub1 h c]
/-- no variable that has a kind stands in the kinds -/
def Clean (b : By) : Prop := ∀ y t, lk b y = some t → ∀ x, t.occ x → lk b x = none
theorem Clean.off {b : By} (c : Clean b) {k : Kd} {x : Str} (h : (k.put b).occ x) : lk b x = none := by
  rcases occ_put h with ⟨_, q⟩ | ⟨y, t, _, q1, q2⟩
  · exact q
  · exact c y t q1 x q2
theorem put_off {b : By} : ∀ {k : Kd}, (∀ x, k.occ x → lk b x = none) → k.put b = k
  | .var y, h => by
    show (lk b y).getD (.var y) = .var y
    rw [h y rfl]
    rfl
  | .con _, _ => rfl
  | .app a c, h => by
    show Kd.app (a.put b) (c.put b) = _
    rw [put_off fun x q => h x (.inl q), put_off fun x q => h x (.inr q)]
theorem Clean.twice {b : By} (c : Clean b) (k : Kd) : (k.put b).put b = k.put b := put_off fun _ q => c.off q
theorem Clean.nil : Clean [] := fun _ _ h => nomatch h
theorem Clean.sub {b : By} (c : Clean b) {x : Str} {t : Kd} (hx : lk b x = none) (ht : ¬ t.occ x) (hb : ∀ y, t.occ y → lk b y = none) : Clean (sub1 x t b) := by
  have key : ∀ y, lk b y = none → ¬ y = x → lk (sub1 x t b) y = none := fun y h n => by
    rw [lk_sub1 y hx, h]
    exact if_neg fun e => n e.symm
  have fine : ∀ y, t.occ y → lk (sub1 x t b) y = none := fun y q => key y (hb y q) fun e => ht (by rw [← e]; exact q)
  intro y k hk z hz
  rw [lk_sub1 y hx] at hk
  cases e : lk b y with
  | none =>
    rw [e] at hk
    by_cases e2 : x = y
    · have hk' : (if x = y then some t else none) = some k := hk
      rw [if_pos e2] at hk'
      cases hk'
      exact fine z hz
    · have hk' : (if x = y then some t else none) = some k := hk
      rw [if_neg e2] at hk'
      cases hk'
  | some k0 =>
    rw [e] at hk
    obtain rfl : k0.put (one x t) = k := Option.some.inj hk
    rcases occ_put hz with ⟨q1, q2⟩ | ⟨w, u, q1, q2, q3⟩
    · refine key z (c y k0 e z q1) fun e3 => ?_
      rw [lk_one, if_pos e3.symm] at q2
      cases q2
    · rw [lk_one] at q2
      by_cases e3 : x = w
      · rw [if_pos e3] at q2
        cases q2
        exact fine z q3
      · rw [if_neg e3] at q2
        cases q2
end L3

/-! the law's own way to make pairs the same: its steps, its end, what it tells -/
namespace L3
open PySem L2
/-- which side is bound to what: the first one if it is a variable, else the other -/
def Bind (k l : Kd) (x : Str) (t : Kd) : Prop := (k = .var x ∧ l = t) ∨ ((∀ y, k ≠ .var y) ∧ l = .var x ∧ k = t)
/-- two kinds as a pair, this way or the other way about -/
def pr (sw : Bool) (a c : Kd) : Kd × Kd := if sw = true then (c, a) else (a, c)
theorem pr_eq {sw : Bool} {a c : Kd} {b : By} : (pr sw a c).1.put b = (pr sw a c).2.put b ↔ a.put b = c.put b := by
  cases sw
  · exact Iff.rfl
  · exact ⟨Eq.symm, Eq.symm⟩
theorem pr_occ {sw : Bool} {a c : Kd} {b : By} {x : Str} : (((pr sw a c).1.put b).occ x ∨ ((pr sw a c).2.put b).occ x) ↔ ((a.put b).occ x ∨ (c.put b).occ x) := by
  cases sw
  · exact Iff.rfl
  · exact or_comm
inductive Sol (sw : Bool) : List (Kd × Kd) → By → Option By → Nat → Prop
  | nil {b} : Sol sw [] b (some b) 0
  | same {p r b o n} : p.1.put b = p.2.put b → Sol sw r b o n → Sol sw (p :: r) b o (n + 1)
  | bind {p r b o n x t} : ¬ p.1.put b = p.2.put b → Bind (p.1.put b) (p.2.put b) x t → ¬ t.occ x → Sol sw r (sub1 x t b) o n → Sol sw (p :: r) b o (n + 1)
  | ring {p r b x t} : ¬ p.1.put b = p.2.put b → Bind (p.1.put b) (p.2.put b) x t → t.occ x → Sol sw (p :: r) b none 0
  | app {p r b o n a1 a2 c1 c2} : ¬ p.1.put b = p.2.put b → p.1.put b = .app a1 a2 → p.2.put b = .app c1 c2 → Sol sw (pr sw a1 c1 :: pr sw a2 c2 :: r) b o n → Sol sw (p :: r) b o (n + 1)
  | clash {p r b} : ¬ p.1.put b = p.2.put b → (∀ x t, ¬ Bind (p.1.put b) (p.2.put b) x t) → (∀ a1 a2 c1 c2, ¬ (p.1.put b = .app a1 a2 ∧ p.2.put b = .app c1 c2)) → Sol sw (p :: r) b none 0
/-- both sides of all pairs, all put in -/
def sides (b : By) : List (Kd × Kd) → List Kd
  | [] => []
  | p :: r => p.1.put b :: p.2.put b :: sides b r
theorem Bind.occ {k l t : Kd} {x : Str} (h : Bind k l x t) : k.occ x ∨ l.occ x := by
  rcases h with ⟨e, _⟩ | ⟨_, e, _⟩
  · exact .inl (by rw [e]; rfl)
  · exact .inr (by rw [e]; rfl)
theorem Bind.occT {k l t : Kd} {x y : Str} (h : Bind k l x t) (q : t.occ y) : k.occ y ∨ l.occ y := by
  rcases h with ⟨_, e⟩ | ⟨_, _, e⟩
  · exact .inr (by rw [e]; exact q)
  · exact .inl (by rw [e]; exact q)
theorem Bind.put {k l t : Kd} {x : Str} (h : Bind k l x t) (n : ¬ t.occ x) : k.put (one x t) = t ∧ l.put (one x t) = t := by
  have v : (Kd.var x).put (one x t) = t := by
    show (lk (one x t) x).getD (.var x) = t
    rw [lk_one, if_pos rfl]
    rfl
  rcases h with ⟨e1, e2⟩ | ⟨_, e1, e2⟩
  · rw [e1, e2]; exact ⟨v, put_one_off n⟩
  · rw [e1, e2]; exact ⟨put_one_off n, v⟩
theorem side_mem {b : By} {x : Str} : ∀ {l : List (Kd × Kd)}, (∃ k ∈ sides b l, k.occ x) ↔ ∃ p ∈ l, (p.1.put b).occ x ∨ (p.2.put b).occ x
  | [] => by
    constructor
    · rintro ⟨_, h, _⟩
      cases h
    · rintro ⟨_, h, _⟩
      cases h
  | p :: r => by
    have ih := side_mem (b := b) (x := x) (l := r)
    constructor
    · rintro ⟨k, hk, o⟩
      rcases List.mem_cons.mp hk with e | hk
      · exact ⟨p, List.mem_cons_self, .inl (by rw [← e]; exact o)⟩
      rcases List.mem_cons.mp hk with e | hk
      · exact ⟨p, List.mem_cons_self, .inr (by rw [← e]; exact o)⟩
      obtain ⟨q, hq, h⟩ := ih.mp ⟨k, hk, o⟩
      exact ⟨q, List.mem_cons_of_mem _ hq, h⟩
    · rintro ⟨q, hq, h⟩
      rcases List.mem_cons.mp hq with e | hq
      · subst e
        rcases h with h | h
        · exact ⟨_, List.mem_cons_self, h⟩
        · exact ⟨_, List.mem_cons_of_mem _ List.mem_cons_self, h⟩
      · obtain ⟨k, hk, o⟩ := ih.mpr ⟨q, hq, h⟩
        exact ⟨k, List.mem_cons_of_mem _ (List.mem_cons_of_mem _ hk), o⟩
theorem len_lt {l ws : List Str} {x : Str} (hn : l.Nodup) (hs : ∀ y ∈ l, y ∈ ws) (hx : x ∈ ws) (no : ¬ x ∈ l) : l.length < ws.length := by
  have key : ∀ {l ws : List Str}, l.Nodup → (∀ y ∈ l, y ∈ ws) → l.length ≤ ws.length := by
    intro l
    induction l with
    | nil => intro _ _ _; exact Nat.zero_le _
    | cons z r ih =>
      intro ws hn h
      obtain ⟨n1, n2⟩ := List.nodup_cons.mp hn
      have hz := h z List.mem_cons_self
      have q := ih (ws := ws.erase z) n2 fun y hy => (List.mem_erase_of_ne (fun e => n1 (by rw [← e]; exact hy))).mpr (h y (List.mem_cons_of_mem _ hy))
      rw [List.length_erase_of_mem hz] at q
      have := List.length_pos_of_mem hz
      rw [List.length_cons]
      omega
  have q := key (ws := ws.erase x) hn fun y hy => (List.mem_erase_of_ne (fun e => no (by rw [← e]; exact hy))).mpr (hs y hy)
  rw [List.length_erase_of_mem hx] at q
  have := List.length_pos_of_mem hx
  omega
theorem Clean.app {b : By} (c : Clean b) {k a1 a2 : Kd} (e : k.put b = .app a1 a2) : a1.put b = a1 ∧ a2.put b = a2 := by
  have h := c.twice k
  rw [e] at h
  have h' : Kd.app (a1.put b) (a2.put b) = .app a1 a2 := h
  exact ⟨(Kd.app.inj h').1, (Kd.app.inj h').2⟩
/-- the variables that are left, in order -/
def left (b : By) (l : List (Kd × Kd)) : List Str := vsL (sides b l) []
theorem left_mem {b : By} {l : List (Kd × Kd)} {x : Str} : x ∈ left b l ↔ ∃ p ∈ l, (p.1.put b).occ x ∨ (p.2.put b).occ x := by
  unfold left
  rw [vsL_mem, side_mem]
  simp
theorem left_nodup (b : By) (l : List (Kd × Kd)) : (left b l).Nodup := vsL_nodup _ List.nodup_nil
theorem len_le : ∀ {l ws : List Str}, l.Nodup → (∀ y ∈ l, y ∈ ws) → l.length ≤ ws.length
  | [], _, _, _ => Nat.zero_le _
  | z :: r, ws, hn, h => by
    obtain ⟨n1, n2⟩ := List.nodup_cons.mp hn
    have hz := h z List.mem_cons_self
    have q := len_le (ws := ws.erase z) n2 fun y hy => (List.mem_erase_of_ne (fun e => n1 (by rw [← e]; exact hy))).mpr (h y (List.mem_cons_of_mem _ hy))
    rw [List.length_erase_of_mem hz] at q
    have := List.length_pos_of_mem hz
    rw [List.length_cons]
    omega
theorem left_le {b : By} {l m : List (Kd × Kd)} (h : ∀ x, x ∈ left b m → x ∈ left b l) : (left b m).length ≤ (left b l).length := len_le (left_nodup b m) h
/-- what it tells makes the pairs the same -/
theorem Sol.good {sw : Bool} {l : List (Kd × Kd)} {b : By} {o : Option By} {n : Nat} (h : Sol sw l b o n) : ∀ b', o = some b' → Clean b → Clean b' ∧ (∀ k : Kd, (k.put b).put b' = k.put b') ∧ ∀ p ∈ l, p.1.put b' = p.2.put b' := by
  induction h with
  | nil =>
    intro b' e c
    cases e
    exact ⟨c, c.twice, fun _ q => nomatch q⟩
  | @same p r b o n e _ ih =>
    intro b' e2 c
    obtain ⟨h1, h2, h3⟩ := ih b' e2 c
    refine ⟨h1, h2, fun q hq => ?_⟩
    rcases List.mem_cons.mp hq with e3 | hq
    · subst e3
      rw [← h2, ← h2 q.2, e]
    · exact h3 q hq
  | @bind p r b o n x t _ hb ho _ ih =>
    intro b' e2 c
    have hx : lk b x = none := hb.occ.elim (fun q => c.off q) (fun q => c.off q)
    have c2 := c.sub hx ho fun y q => (hb.occT q).elim (fun q => c.off q) (fun q => c.off q)
    obtain ⟨h1, h2, h3⟩ := ih b' e2 c2
    have step : ∀ k : Kd, (k.put b).put b' = k.put b' := fun k => by
      rw [← h2 (k.put b), put_sub1 hx, c.twice, ← put_sub1 hx, h2]
    refine ⟨h1, step, fun q hq => ?_⟩
    rcases List.mem_cons.mp hq with e3 | hq
    · subst e3
      have w := hb.put ho
      rw [← h2, ← h2 q.2, put_sub1 hx, put_sub1 hx, w.1, w.2]
    · exact h3 q hq
  | ring => intro b' e _; cases e
  | @app p r b o n a1 a2 c1 c2 _ ea ec _ ih =>
    intro b' e2 c
    obtain ⟨h1, h2, h3⟩ := ih b' e2 c
    refine ⟨h1, h2, fun q hq => ?_⟩
    rcases List.mem_cons.mp hq with e3 | hq
    · subst e3
      have w1 : a1.put b' = c1.put b' := pr_eq.mp (h3 _ List.mem_cons_self)
      have w2 : a2.put b' = c2.put b' := pr_eq.mp (h3 _ (List.mem_cons_of_mem _ List.mem_cons_self))
      rw [← h2, ← h2 q.2, ea, ec]
      show Kd.app (a1.put b') (a2.put b') = Kd.app (c1.put b') (c2.put b')
      rw [w1, w2]
    · exact h3 q (List.mem_cons_of_mem _ (List.mem_cons_of_mem _ hq))
  | clash => intro b' e _; cases e
end L3

/-! what was found as it came, and what it is with all put in -/
namespace L3
open PySem L2
theorem lk_sub1_key {x y : Str} {t : Kd} {b : By} (h : lk b x = none) (q : ¬ lk (sub1 x t b) y = none) : ¬ lk b y = none ∨ y = x := by
  rw [lk_sub1 y h] at q
  cases e : lk b y with
  | some k => exact .inl (by intro z; cases z)
  | none =>
    rw [e] at q
    by_cases e2 : x = y
    · exact .inr e2.symm
    · exact absurd (if_neg e2) q
/-- the keys are variables of the pairs -/
theorem Sol.keys {sw : Bool} {l : List (Kd × Kd)} {b : By} {o : Option By} {n : Nat} (h : Sol sw l b o n) : ∀ b', o = some b' → Clean b → ∀ y, ¬ lk b' y = none → ¬ lk b y = none ∨ y ∈ left b l := by
  induction h with
  | nil =>
    intro b' e c y q
    cases e
    exact .inl q
  | @same p r b o n e _ ih =>
    intro b' e2 c y q
    rcases ih b' e2 c y q with w | w
    · exact .inl w
    · obtain ⟨z, hz, w⟩ := left_mem.mp w
      exact .inr (left_mem.mpr ⟨z, List.mem_cons_of_mem _ hz, w⟩)
  | @bind p r b o n x t _ hb ho _ ih =>
    intro b' e2 c y q
    have hx : lk b x = none := hb.occ.elim (fun q => c.off q) (fun q => c.off q)
    have ht : ∀ y, t.occ y → lk b y = none := fun y q => (hb.occT q).elim (fun q => c.off q) (fun q => c.off q)
    have inP : ∀ y, t.occ y ∨ y = x → y ∈ left b (p :: r) := fun y w => left_mem.mpr ⟨p, List.mem_cons_self, w.elim (fun q => hb.occT q) (fun q => by rw [q]; exact hb.occ)⟩
    rcases ih b' e2 (c.sub hx ho ht) y q with w | w
    · rcases lk_sub1_key hx w with w | w
      · exact .inl w
      · exact .inr (inP y (.inr w))
    · obtain ⟨z, hz, w⟩ := left_mem.mp w
      have one' : ∀ k : Kd, (k.put (sub1 x t b)).occ y → (k.put b).occ y ∨ t.occ y := fun k w => by
        rw [put_sub1 hx] at w
        rcases occ_put w with ⟨w1, _⟩ | ⟨v, u, _, w2, w3⟩
        · exact .inl w1
        · rw [lk_one] at w2
          by_cases e3 : x = v
          · rw [if_pos e3] at w2
            cases w2
            exact .inr w3
          · rw [if_neg e3] at w2
            cases w2
      rcases w with w | w
      · rcases one' _ w with w | w
        · exact .inr (left_mem.mpr ⟨z, List.mem_cons_of_mem _ hz, .inl w⟩)
        · exact .inr (inP y (.inl w))
      · rcases one' _ w with w | w
        · exact .inr (left_mem.mpr ⟨z, List.mem_cons_of_mem _ hz, .inr w⟩)
        · exact .inr (inP y (.inl w))
  | ring => intro b' e _; cases e
  | @app p r b o n a1 a2 c1 c2 _ ea ec _ ih =>
    intro b' e2 c y q
    obtain ⟨f1, f2⟩ := c.app ea
    obtain ⟨f3, f4⟩ := c.app ec
    rcases ih b' e2 c y q with w | w
    · exact .inl w
    · obtain ⟨z, hz, w⟩ := left_mem.mp w
      rcases List.mem_cons.mp hz with e3 | hz
      · subst e3
        have w := pr_occ.mp w
        rw [f1, f3] at w
        refine .inr (left_mem.mpr ⟨p, List.mem_cons_self, ?_⟩)
        rw [ea, ec]
        exact w.elim (fun w => .inl (.inl w)) (fun w => .inr (.inl w))
      rcases List.mem_cons.mp hz with e3 | hz
      · subst e3
        have w := pr_occ.mp w
        rw [f2, f4] at w
        refine .inr (left_mem.mpr ⟨p, List.mem_cons_self, ?_⟩)
        rw [ea, ec]
        exact w.elim (fun w => .inl (.inr w)) (fun w => .inr (.inr w))
      · exact .inr (left_mem.mpr ⟨z, List.mem_cons_of_mem _ hz, w⟩)
  | clash => intro b' e _; cases e
/-- b is f with all put in -/
def Res (f b : By) : Prop := ∀ x, lk b x = (lk f x).map fun k => k.put b
theorem Res.nil : Res [] [] := fun _ => rfl
theorem Res.at {f b : By} (h : Res f b) {x : Str} {k : Kd} (e : lk f x = some k) : (Kd.var x).put b = k.put b := by
  show (lk b x).getD (.var x) = k.put b
  rw [h x, e]
  rfl
theorem Res.off {f b : By} (h : Res f b) {x : Str} (e : lk f x = none) : lk b x = none := by
  rw [h x, e]
  rfl
/-- a variable is bound to a kind as it stands there -/
theorem Res.bind {f b : By} (h : Res f b) {x : Str} {k : Kd} (hx : lk f x = none) (ho : ¬ (k.put b).occ x) : Res (f ++ [(x, k)]) (sub1 x (k.put b) b) := by
  have hb := h.off hx
  intro y
  rw [lk_snoc hx y, lk_sub1 y hb]
  by_cases e : y = x
  · subst e
    rw [hb]
    have e1 : (if y = y then some (k.put b) else none) = some (k.put b) := if_pos rfl
    have e2 : (if y = y then some k else lk f y) = some k := if_pos rfl
    show (if y = y then some (k.put b) else none) = Option.map (fun u => u.put (sub1 y (k.put b) b)) (if y = y then some k else lk f y)
    rw [e1, e2]
    show some (k.put b) = some (k.put (sub1 y (k.put b) b))
    rw [put_sub1 hb, put_one_off ho]
  · rw [if_neg e, h y]
    cases e2 : lk f y with
    | none => exact if_neg fun z => e z.symm
    | some u =>
      show some ((u.put b).put (one x (k.put b))) = some (u.put (sub1 x (k.put b) b))
      rw [put_sub1 hb]
end L3

/-! unite's way, in step with the law's -/
namespace L3
open PySem L2
/-- k stands, as far as its first step, for k' -/
inductive Fol (f : By) : Kd → Kd → Nat → Prop
  | stop {k} : (∀ x, k = .var x → lk f x = none) → Fol f k k 0
  | step {x u k' n} : lk f x = some u → Fol f u k' n → Fol f (.var x) k' (n + 1)
theorem Fol.put {f b : By} (h : Res f b) {k k' : Kd} {n : Nat} (q : Fol f k k' n) : k.put b = k'.put b := by
  induction q with
  | stop _ => rfl
  | step e _ ih => rw [h.at e, ih]
theorem Fol.free {f : By} {k k' : Kd} {n : Nat} (q : Fol f k k' n) : ∀ x, k' = .var x → lk f x = none := by
  induction q with
  | stop h => exact h
  | step _ _ ih => exact ih
theorem Fol.same {f : By} {k k' l : Kd} {n m : Nat} (q : Fol f k k' n) (r : Fol f k l m) : k' = l := by
  induction q generalizing l m with
  | stop h =>
    cases r with
    | stop _ => rfl
    | step e _ => rw [h _ rfl] at e; cases e
  | step e _ ih =>
    cases r with
    | stop h => rw [h _ rfl] at e; cases e
    | step e2 r2 =>
      rw [e] at e2
      cases e2
      exact ih r2
def FolAll (f : By) : Prop := ∀ k, ∃ k' n, Fol f k k' n
theorem FolAll.nil : FolAll [] := fun k => ⟨k, 0, .stop fun _ _ => rfl⟩
/-- a free variable is bound to what is followed: all can be followed still -/
theorem FolAll.bind {f : By} (h : FolAll f) {x : Str} {k : Kd} (hx : lk f x = none) (hk : ∀ y, k = .var y → lk f y = none ∧ ¬ y = x) : FolAll (f ++ [(x, k)]) := by
  have tail : Fol (f ++ [(x, k)]) k k 0 := .stop fun y e => by
    rw [lk_snoc hx, if_neg (hk y e).2]
    exact (hk y e).1
  have up : ∀ {a a' : Kd} {n : Nat}, Fol f a a' n → ∃ a'' m, Fol (f ++ [(x, k)]) a a'' m := fun {a a' n} q => by
    induction q with
    | @stop a hs =>
      by_cases e : a = .var x
      · refine ⟨k, 1, ?_⟩
        rw [e]
        exact .step (by rw [lk_snoc hx, if_pos rfl]) tail
      · refine ⟨a, 0, .stop fun y ey => ?_⟩
        rw [lk_snoc hx, if_neg (fun z => e (by rw [ey, z]))]
        exact hs y ey
    | @step y u a' n e _ ih =>
      obtain ⟨a'', m, w⟩ := ih
      refine ⟨a'', m + 1, .step ?_ w⟩
      rw [lk_snoc hx, if_neg (fun z => by rw [z, hx] at e; cases e)]
      exact e
  intro a
  obtain ⟨a', n, q⟩ := h a
  exact up q
/-- the law's way looks at the kinds with all put in alone -/
inductive SameL (b : By) : List (Kd × Kd) → List (Kd × Kd) → Prop
  | nil : SameL b [] []
  | cons {p q r s} : p.1.put b = q.1.put b → p.2.put b = q.2.put b → SameL b r s → SameL b (p :: r) (q :: s)
theorem SameL.refl (b : By) : ∀ l, SameL b l l
  | [] => .nil
  | _ :: r => .cons rfl rfl (SameL.refl b r)
theorem SameL.sub {b : By} {x : Str} {t : Kd} (hx : lk b x = none) {l m : List (Kd × Kd)} (h : SameL b l m) : SameL (sub1 x t b) l m := by
  induction h with
  | nil => exact .nil
  | cons e1 e2 _ ih => exact .cons (by rw [put_sub1 hx, put_sub1 hx, e1]) (by rw [put_sub1 hx, put_sub1 hx, e2]) ih
theorem Sol.like {sw : Bool} {l : List (Kd × Kd)} {b : By} {o : Option By} {n : Nat} (h : Sol sw l b o n) : ∀ {m : List (Kd × Kd)}, Clean b → SameL b l m → Sol sw m b o n := by
  induction h with
  | nil =>
    intro m _ s
    cases s
    exact .nil
  | same e _ ih =>
    intro m c s
    cases s with
    | cons e1 e2 s => exact .same (by rw [← e1, ← e2, e]) (ih c s)
  | bind ne hb ho _ ih =>
    intro m c s
    cases s with
    | cons e1 e2 s =>
      have hx := hb.occ.elim (fun q => c.off q) (fun q => c.off q)
      have c2 := c.sub hx ho fun y q => (hb.occT q).elim (fun q => c.off q) (fun q => c.off q)
      exact .bind (by rw [← e1, ← e2]; exact ne) (by rw [← e1, ← e2]; exact hb) ho (ih c2 (s.sub hx))
  | ring ne hb ho =>
    intro m c s
    cases s with
    | cons e1 e2 s => exact .ring (by rw [← e1, ← e2]; exact ne) (by rw [← e1, ← e2]; exact hb) ho
  | app ne ea ec _ ih =>
    intro m c s
    cases s with
    | cons e1 e2 s => exact .app (by rw [← e1, ← e2]; exact ne) (by rw [← e1]; exact ea) (by rw [← e2]; exact ec) (ih c (.cons rfl rfl (.cons rfl rfl s)))
  | clash ne hb ha =>
    intro m c s
    cases s with
    | cons e1 e2 s => exact .clash (by rw [← e1, ← e2]; exact ne) (by rw [← e1, ← e2]; exact hb) (by rw [← e1, ← e2]; exact ha)
/-- unite's way: f is what was found as it came, b the same with all put in -/
inductive Uni (sw : Bool) : List (Kd × Kd) → By → By → Option (By × By) → Nat → Prop
  | nil {f b} : Uni sw [] f b (some (f, b)) 0
  | same {p r f b o n a i j} : Fol f p.1 a i → Fol f p.2 a j → Uni sw r f b o n → Uni sw (p :: r) f b o (n + 1)
  | bind {p r f b o n a c i j x k} : Fol f p.1 a i → Fol f p.2 c j → ¬ a = c → Bind a c x k → ¬ (k.put b).occ x → Uni sw r (f ++ [(x, k)]) (sub1 x (k.put b) b) o n → Uni sw (p :: r) f b o (n + 1)
  | ring {p r f b a c i j x k} : Fol f p.1 a i → Fol f p.2 c j → ¬ a = c → Bind a c x k → (k.put b).occ x → Uni sw (p :: r) f b none 0
  | app {p r f b o n i j a1 a2 c1 c2} : Fol f p.1 (.app a1 a2) i → Fol f p.2 (.app c1 c2) j → ¬ Kd.app a1 a2 = .app c1 c2 → Uni sw (pr sw a1 c1 :: pr sw a2 c2 :: r) f b o n → Uni sw (p :: r) f b o (n + 1)
  | clash {p r f b a c i j} : Fol f p.1 a i → Fol f p.2 c j → ¬ a = c → (∀ x k, ¬ Bind a c x k) → (∀ a1 a2 c1 c2, ¬ (a = .app a1 a2 ∧ c = .app c1 c2)) → Uni sw (p :: r) f b none 0
end L3

/-! unite's way tells what the law's way tells -/
namespace L3
open PySem L2
theorem put_free {f b : By} (h : Res f b) {x : Str} (e : lk f x = none) : (Kd.var x).put b = .var x := by
  show (lk b x).getD (.var x) = .var x
  rw [h.off e]
  rfl
/-- followed kinds that are the same with all put in: both are taken apart, or they are the same -/
theorem free_var {f b : By} (h : Res f b) {c : Kd} {x : Str} (hc : ∀ y, c = .var y → lk f y = none) (e : c.put b = .var x) : c = .var x := by
  cases c with
  | var y => rw [put_free h (hc y rfl)] at e; exact e
  | con y => exact absurd e (by intro z; cases z)
  | app _ _ => exact absurd e (by intro z; cases z)
theorem no_bind {f b : By} (h : Res f b) {a c k : Kd} {x : Str} (ha : ∀ y, a = .var y → lk f y = none) (hc : ∀ y, c = .var y → lk f y = none) (e : a.put b = c.put b) (ne : ¬ a = c) : ¬ Bind a c x k := by
  rintro (⟨e1, _⟩ | ⟨_, e1, _⟩)
  · subst e1
    rw [put_free h (ha x rfl)] at e
    exact ne (free_var h hc e.symm).symm
  · subst e1
    rw [put_free h (hc x rfl)] at e
    exact ne (free_var h ha e)
theorem Uni.skip {sw : Bool} : ∀ (n : Nat) {p : Kd × Kd} {r : List (Kd × Kd)} {f b : By} {o : Option (By × By)}, Res f b → p.1.put b = p.2.put b → Uni sw (p :: r) f b o n → ∃ m, m < n ∧ Uni sw r f b o m := by
  intro n
  induction n using Nat.strongRecOn with
  | ind n ih =>
    intro p r f b o h e u
    cases u with
    | same _ _ w => exact ⟨_, Nat.lt_succ_self _, w⟩
    | bind q1 q2 ne hb _ _ => exact absurd hb (no_bind h q1.free q2.free (by rw [← q1.put h, ← q2.put h, e]) ne)
    | ring q1 q2 ne hb _ => exact absurd hb (no_bind h q1.free q2.free (by rw [← q1.put h, ← q2.put h, e]) ne)
    | @app _ _ _ _ _ n0 i j a1 a2 c1 c2 q1 q2 ne w =>
      have e2 : (Kd.app a1 a2).put b = (Kd.app c1 c2).put b := by rw [← q1.put h, ← q2.put h, e]
      have e3 : Kd.app (a1.put b) (a2.put b) = Kd.app (c1.put b) (c2.put b) := e2
      obtain ⟨m1, l1, w1⟩ := ih n0 (Nat.lt_succ_self _) (p := pr sw a1 c1) h (pr_eq.mpr (Kd.app.inj e3).1) w
      obtain ⟨m2, l2, w2⟩ := ih m1 (by omega) (p := pr sw a2 c2) h (pr_eq.mpr (Kd.app.inj e3).2) w1
      exact ⟨m2, by omega, w2⟩
    | @clash _ _ _ _ a c _ _ q1 q2 ne hb ha =>
      have e2 : a.put b = c.put b := by rw [← q1.put h, ← q2.put h, e]
      exfalso
      cases a with
      | var x => exact hb x c (.inl ⟨rfl, rfl⟩)
      | con x =>
        cases c with
        | var y => exact hb y _ (.inr ⟨(fun z q => by cases q), rfl, rfl⟩)
        | con y => exact ne e2
        | app _ _ => cases e2
      | app a1 a2 =>
        cases c with
        | var y => exact hb y _ (.inr ⟨(fun z q => by cases q), rfl, rfl⟩)
        | con y => cases e2
        | app c1 c2 => exact ha a1 a2 c1 c2 ⟨rfl, rfl⟩
/-- how the two ends belong together -/
def Meet (o : Option (By × By)) (o' : Option By) : Prop :=
  match o with
  | none => o' = none
  | some (f, b) => o' = some b ∧ Res f b ∧ Clean b
theorem bind_put {f b : By} (h : Res f b) {a c k : Kd} {x : Str} (ha : ∀ y, a = .var y → lk f y = none) (hc : ∀ y, c = .var y → lk f y = none) (w : Bind a c x k) : lk f x = none ∧ Bind (a.put b) (c.put b) x (k.put b) := by
  rcases w with ⟨e1, e2⟩ | ⟨e0, e1, e2⟩
  · subst e1 e2
    exact ⟨ha x rfl, .inl ⟨put_free h (ha x rfl), rfl⟩⟩
  · subst e1 e2
    refine ⟨hc x rfl, .inr ⟨fun y q => e0 y ?_, put_free h (hc x rfl), rfl⟩⟩
    exact free_var h ha q
theorem bind_back {f b : By} (h : Res f b) {a c t : Kd} {x : Str} (ha : ∀ y, a = .var y → lk f y = none) (hc : ∀ y, c = .var y → lk f y = none) (w : Bind (a.put b) (c.put b) x t) : ∃ k, Bind a c x k := by
  rcases w with ⟨e1, _⟩ | ⟨e0, e1, _⟩
  · exact ⟨c, .inl ⟨free_var h ha e1, rfl⟩⟩
  · refine ⟨a, .inr ⟨fun y q => e0 y ?_, free_var h hc e1, rfl⟩⟩
    subst q
    exact put_free h (ha y rfl)
theorem pr_same {sw : Bool} {b : By} (c : Clean b) (a d : Kd) : (pr sw a d).1.put b = (pr sw (a.put b) (d.put b)).1.put b ∧ (pr sw a d).2.put b = (pr sw (a.put b) (d.put b)).2.put b := by
  cases sw
  · exact ⟨(c.twice a).symm, (c.twice d).symm⟩
  · exact ⟨(c.twice d).symm, (c.twice a).symm⟩
theorem Uni.meets {sw : Bool} : ∀ (n : Nat) {l : List (Kd × Kd)} {f b : By} {o : Option (By × By)}, Res f b → Clean b → Uni sw l f b o n → ∃ o' m, Sol sw l b o' m ∧ Meet o o' := by
  intro n
  induction n using Nat.strongRecOn with
  | ind n ih =>
    intro l f b o h c u
    match l, u with
    | [], .nil => exact ⟨_, _, .nil, rfl, h, c⟩
    | p :: r, u =>
      by_cases e : p.1.put b = p.2.put b
      · obtain ⟨m, lt, w⟩ := Uni.skip n h e u
        obtain ⟨o', m', s, mt⟩ := ih m lt h c w
        exact ⟨o', m' + 1, .same e s, mt⟩
      · cases u with
        | same q1 q2 _ => exact absurd (by rw [q1.put h, q2.put h]) e
        | @bind _ _ _ _ _ n0 a d _ _ x k q1 q2 ne hb ho w =>
          obtain ⟨hx, hb2⟩ := bind_put h q1.free q2.free hb
          rw [← q1.put h, ← q2.put h] at hb2
          have hxb := h.off hx
          have c2 := c.sub hxb ho fun y q => (hb2.occT q).elim (fun q => c.off q) (fun q => c.off q)
          obtain ⟨o', m', s, mt⟩ := ih n0 (Nat.lt_succ_self _) (h.bind hx ho) c2 w
          exact ⟨o', m' + 1, .bind e hb2 ho s, mt⟩
        | ring q1 q2 ne hb ho =>
          obtain ⟨_, hb2⟩ := bind_put h q1.free q2.free hb
          rw [← q1.put h, ← q2.put h] at hb2
          exact ⟨none, 0, .ring e hb2 ho, rfl⟩
        | @app _ _ _ _ _ n0 _ _ a1 a2 c1 c2 q1 q2 ne w =>
          obtain ⟨o', m', s, mt⟩ := ih n0 (Nat.lt_succ_self _) h c w
          have ea : p.1.put b = .app (a1.put b) (a2.put b) := by rw [q1.put h]; rfl
          have ec : p.2.put b = .app (c1.put b) (c2.put b) := by rw [q2.put h]; rfl
          exact ⟨o', m' + 1, .app e ea ec (s.like c (.cons (pr_same c a1 c1).1 (pr_same c a1 c1).2 (.cons (pr_same c a2 c2).1 (pr_same c a2 c2).2 (.refl b r)))), mt⟩
        | @clash _ _ _ _ a d _ _ q1 q2 ne hb ha =>
          refine ⟨none, 0, .clash e (fun x t w => ?_) (fun a1 a2 c1 c2 w => ?_), rfl⟩
          · rw [q1.put h, q2.put h] at w
            obtain ⟨k, w⟩ := bind_back h q1.free q2.free w
            exact hb x k w
          · rw [q1.put h, q2.put h] at w
            obtain ⟨w1, w2⟩ := w
            cases a with
            | var y => rw [put_free h (q1.free y rfl)] at w1; cases w1
            | con y => cases w1
            | app u1 u2 =>
              cases d with
              | var y => rw [put_free h (q2.free y rfl)] at w2; cases w2
              | con y => cases w2
              | app v1 v2 => exact ha u1 u2 v1 v2 ⟨rfl, rfl⟩
end L3

/-! unite's way comes to an end, and so does putting in all that it found -/
namespace L3
open PySem L2
theorem left_tail {b : By} {p : Kd × Kd} {r : List (Kd × Kd)} : (left b r).length ≤ (left b (p :: r)).length := left_le fun x hx => by
  obtain ⟨q, hq, w⟩ := left_mem.mp hx
  exact left_mem.mpr ⟨q, List.mem_cons_of_mem _ hq, w⟩
theorem left_apart {sw : Bool} {b : By} {p : Kd × Kd} {r : List (Kd × Kd)} {a1 a2 c1 c2 : Kd} (ea : p.1.put b = .app (a1.put b) (a2.put b)) (ec : p.2.put b = .app (c1.put b) (c2.put b)) : (left b (pr sw a1 c1 :: pr sw a2 c2 :: r)).length ≤ (left b (p :: r)).length := left_le fun x hx => by
  obtain ⟨q, hq, w⟩ := left_mem.mp hx
  rcases List.mem_cons.mp hq with e1 | hq
  · subst e1
    have w := pr_occ.mp w
    refine left_mem.mpr ⟨p, List.mem_cons_self, ?_⟩
    rw [ea, ec]
    exact w.elim (fun w => .inl (.inl w)) (fun w => .inr (.inl w))
  rcases List.mem_cons.mp hq with e1 | hq
  · subst e1
    have w := pr_occ.mp w
    refine left_mem.mpr ⟨p, List.mem_cons_self, ?_⟩
    rw [ea, ec]
    exact w.elim (fun w => .inl (.inr w)) (fun w => .inr (.inr w))
  · exact left_mem.mpr ⟨q, List.mem_cons_of_mem _ hq, w⟩
theorem left_bound {b : By} {p : Kd × Kd} {r : List (Kd × Kd)} {x : Str} {t : Kd} (hx : lk b x = none) (hb : Bind (p.1.put b) (p.2.put b) x t) (ho : ¬ t.occ x) : (left (sub1 x t b) r).length < (left b (p :: r)).length := by
  have one' : ∀ (k : Kd) (y : Str), (k.put (sub1 x t b)).occ y → ((k.put b).occ y ∨ t.occ y) ∧ ¬ y = x := fun k y w => by
    rw [put_sub1 hx] at w
    rcases occ_put w with ⟨w1, w2⟩ | ⟨z, u, w1, w2, w3⟩
    · refine ⟨.inl w1, fun ee => ?_⟩
      rw [lk_one, if_pos ee.symm] at w2
      cases w2
    · rw [lk_one] at w2
      by_cases e3 : x = z
      · rw [if_pos e3] at w2
        cases w2
        exact ⟨.inr w3, fun ee => ho (by rw [← ee]; exact w3)⟩
      · rw [if_neg e3] at w2
        cases w2
  have mem : ∀ y, y ∈ left (sub1 x t b) r → y ∈ left b (p :: r) ∧ ¬ y = x := fun y hy => by
    obtain ⟨q, hq, w⟩ := left_mem.mp hy
    have fromT : t.occ y → y ∈ left b (p :: r) := fun q => left_mem.mpr ⟨p, List.mem_cons_self, hb.occT q⟩
    rcases w with w | w
    · obtain ⟨w1, w2⟩ := one' _ y w
      exact ⟨w1.elim (fun w => left_mem.mpr ⟨q, List.mem_cons_of_mem _ hq, .inl w⟩) fromT, w2⟩
    · obtain ⟨w1, w2⟩ := one' _ y w
      exact ⟨w1.elim (fun w => left_mem.mpr ⟨q, List.mem_cons_of_mem _ hq, .inr w⟩) fromT, w2⟩
  exact len_lt (left_nodup (sub1 x t b) r) (fun y hy => (mem y hy).1) (left_mem.mpr ⟨p, List.mem_cons_self, hb.occ⟩) (fun q => (mem x q).2 rfl)
def UEnds (sw : Bool) (N S : Nat) : Prop := ∀ (l : List (Kd × Kd)) (f b : By), FolAll f → Res f b → Clean b → (left b l).length ≤ N → sizeL (sides b l) ≤ S → ∃ o n, Uni sw l f b o n
theorem uni_step {sw : Bool} {N S : Nat} (ihN : ∀ M, M < N → ∀ T, UEnds sw M T) (ihS : ∀ T, T < S → UEnds sw N T) : UEnds sw N S := by
  intro l f b fa h c h1 h2
  cases l with
  | nil => exact ⟨_, _, .nil⟩
  | cons p r =>
    have p1 := (p.1.put b).size_pos
    have p2 := (p.2.put b).size_pos
    have sz : sizeL (sides b (p :: r)) = (p.1.put b).size + ((p.2.put b).size + sizeL (sides b r)) := rfl
    obtain ⟨a, i, qa⟩ := fa p.1
    obtain ⟨d, j, qd⟩ := fa p.2
    by_cases e : a = d
    · subst e
      obtain ⟨o, n, q⟩ := ihS (sizeL (sides b r)) (by omega) r f b fa h c (Nat.le_trans left_tail h1) (Nat.le_refl _)
      exact ⟨o, n + 1, .same qa qd q⟩
    · by_cases hb : ∃ x k, Bind a d x k
      · obtain ⟨x, k, hb⟩ := hb
        by_cases ho : (k.put b).occ x
        · exact ⟨_, _, .ring qa qd e hb ho⟩
        · obtain ⟨hx, hb2⟩ := bind_put h qa.free qd.free hb
          rw [← qa.put h, ← qd.put h] at hb2
          have hxb := h.off hx
          have c2 := c.sub hxb ho fun y q => (hb2.occT q).elim (fun q => c.off q) (fun q => c.off q)
          have kf : ∀ y, k = .var y → lk f y = none := by
            rcases hb with ⟨_, e2⟩ | ⟨_, _, e2⟩
            · subst e2; exact qd.free
            · subst e2; exact qa.free
          have fa2 := fa.bind hx (k := k) fun y ey => ⟨kf y ey, fun ee => ho (by
            rw [ey, put_free h (kf y ey)]
            exact ee)⟩
          obtain ⟨o, n, q⟩ := ihN (left (sub1 x (k.put b) b) r).length (Nat.lt_of_lt_of_le (left_bound hxb hb2 ho) h1) (sizeL (sides (sub1 x (k.put b) b) r)) r _ _ fa2 (h.bind hx ho) c2 (Nat.le_refl _) (Nat.le_refl _)
          exact ⟨o, n + 1, .bind qa qd e hb ho q⟩
      · by_cases ha : ∃ a1 a2 c1 c2, a = .app a1 a2 ∧ d = .app c1 c2
        · obtain ⟨a1, a2, c1, c2, ea, ec⟩ := ha
          subst ea ec
          have ea : p.1.put b = .app (a1.put b) (a2.put b) := by rw [qa.put h]; rfl
          have ec : p.2.put b = .app (c1.put b) (c2.put b) := by rw [qd.put h]; rfl
          have sz2 : sizeL (sides b (pr sw a1 c1 :: pr sw a2 c2 :: r)) + 2 = sizeL (sides b (p :: r)) := by
            rw [sz, ea, ec]
            have e1 : sizeL (sides b (pr sw a1 c1 :: pr sw a2 c2 :: r)) = (a1.put b).size + ((c1.put b).size + ((a2.put b).size + ((c2.put b).size + sizeL (sides b r)))) := by
              cases sw
              · rfl
              · show (c1.put b).size + ((a1.put b).size + ((c2.put b).size + ((a2.put b).size + sizeL (sides b r)))) = _
                omega
            rw [e1]
            show (a1.put b).size + ((c1.put b).size + ((a2.put b).size + ((c2.put b).size + sizeL (sides b r)))) + 2 = (a1.put b).size + (a2.put b).size + 1 + ((c1.put b).size + (c2.put b).size + 1 + sizeL (sides b r))
            omega
          obtain ⟨o, n, q⟩ := ihS (sizeL (sides b (pr sw a1 c1 :: pr sw a2 c2 :: r))) (by omega) _ f b fa h c (Nat.le_trans (left_apart ea ec) h1) (Nat.le_refl _)
          exact ⟨o, n + 1, .app qa qd e q⟩
        · exact ⟨_, _, .clash qa qd e (fun x k q => hb ⟨x, k, q⟩) (fun a1 a2 c1 c2 q => ha ⟨a1, a2, c1, c2, q⟩)⟩
theorem uends_all (sw : Bool) : ∀ N S, UEnds sw N S := by
  intro N
  induction N using Nat.strongRecOn with
  | ind N ihN =>
    intro S
    induction S using Nat.strongRecOn with
    | ind S ihS => exact uni_step ihN ihS
theorem uni_ends (sw : Bool) (l : List (Kd × Kd)) : ∃ o n, Uni sw l [] [] o n := uends_all sw _ _ l [] [] .nil .nil .nil (Nat.le_refl _) (Nat.le_refl _)
/-- k with all put in by going along f; n is how deep the calls go -/
inductive Rsv (f : By) : Kd → Kd → Nat → Prop
  | app {a c a' c' n m} : Rsv f a a' n → Rsv f c c' m → Rsv f (.app a c) (.app a' c') (n + m + 1)
  | var {x u r n} : lk f x = some u → Rsv f u r n → Rsv f (.var x) r (n + 1)
  | free {x} : lk f x = none → Rsv f (.var x) (.var x) 0
  | con {x} : Rsv f (.con x) (.con x) 0
theorem Rsv.is {f b : By} (h : Res f b) {k r : Kd} {n : Nat} (q : Rsv f k r n) : r = k.put b := by
  induction q with
  | app _ _ i1 i2 => rw [i1, i2]; rfl
  | var e _ ih => rw [h.at e, ih]
  | free e => exact (put_free h e).symm
  | con => rfl
theorem rsv_ends {f b : By} (h : Res f b) (fa : FolAll f) : ∀ (S : Nat) (k : Kd), (k.put b).size ≤ S → ∃ r n, Rsv f k r n := by
  intro S
  induction S with
  | zero => intro k hk; have := (k.put b).size_pos; omega
  | succ S ih =>
    intro k hk
    obtain ⟨k', n, q⟩ := fa k
    have ends : ∀ {k k' : Kd} {n : Nat}, Fol f k k' n → (k.put b).size ≤ S + 1 → ∃ r n, Rsv f k r n := by
      intro k k' n q
      induction q with
      | @stop k hs =>
        intro hk
        cases k with
        | var x => exact ⟨_, _, .free (hs x rfl)⟩
        | con x => exact ⟨_, _, .con⟩
        | app a c =>
          have sz : ((Kd.app a c).put b).size = (a.put b).size + (c.put b).size + 1 := rfl
          have := (a.put b).size_pos
          have := (c.put b).size_pos
          obtain ⟨a', n1, q1⟩ := ih a (by omega)
          obtain ⟨c', n2, q2⟩ := ih c (by omega)
          exact ⟨_, _, .app q1 q2⟩
      | @step x u k' n e _ ih2 =>
        intro hk
        obtain ⟨r, m, w⟩ := ih2 (by rw [← h.at e]; exact hk)
        exact ⟨r, m + 1, .var e w⟩
    exact ends q hk
end L3

/-! whether a variable stands in a kind, by way of what was found: a walk with the names that were seen -/
namespace L3
open PySem L2
/-- a way of n steps from a kind to a free variable -/
inductive Way (f : By) (x : Str) : Kd → Nat → Prop
  | here : lk f x = none → Way f x (.var x) 0
  | fst {a c n} : Way f x a n → Way f x (.app a c) (n + 1)
  | snd {a c n} : Way f x c n → Way f x (.app a c) (n + 1)
  | via {y u n} : lk f y = some u → Way f x u n → Way f x (.var y) (n + 1)
theorem Way.occ {f b : By} (h : Res f b) {x : Str} {k : Kd} {n : Nat} (w : Way f x k n) : (k.put b).occ x := by
  induction w with
  | here e => rw [put_free h e]; rfl
  | fst _ ih => exact .inl ih
  | snd _ ih => exact .inr ih
  | via e _ ih => rw [h.at e]; exact ih
theorem Rsv.way {f : By} {x : Str} {k r : Kd} {n : Nat} (q : Rsv f k r n) (hx : r.occ x) : ∃ m, Way f x k m := by
  induction q with
  | app _ _ i1 i2 =>
    rcases hx with w | w
    · obtain ⟨m, w⟩ := i1 w
      exact ⟨_, .fst w⟩
    · obtain ⟨m, w⟩ := i2 w
      exact ⟨_, .snd w⟩
  | var e _ ih =>
    obtain ⟨m, w⟩ := ih hx
    exact ⟨_, .via e w⟩
  | @free y e =>
    obtain rfl : y = x := hx
    exact ⟨_, .here e⟩
  | con => exact hx.elim
theorem occ_way {f b : By} (h : Res f b) (fa : FolAll f) {x : Str} {k : Kd} : (k.put b).occ x ↔ ∃ n, Way f x k n := by
  constructor
  · intro hx
    obtain ⟨r, n, q⟩ := rsv_ends h fa _ k (Nat.le_refl _)
    exact q.way (by rw [q.is h]; exact hx)
  · rintro ⟨n, w⟩
    exact w.occ h
/-- what is still to be looked at has a shorter way than each name that was seen -/
def Seen (f : By) (x : Str) (s : List Str) (w : List Kd) : Prop := ∀ y ∈ s, ∀ n, Way f x (.var y) n → ∃ v ∈ w, ∃ m, m < n ∧ Way f x v m
/-- a way from k is a way from something that is still to be looked at -/
def Open (f : By) (x : Str) (k : Kd) (w : List Kd) : Prop := (∃ n, Way f x k n) → ∃ v ∈ w, ∃ m, Way f x v m
section
variable {f : By} {x : Str} {s : List Str} {w w' : List Kd} {k : Kd}
/-- every way from w is one from w' that is no longer: what was said of w holds of w' -/
theorem Seen.move (h : Seen f x s w) (m : ∀ v ∈ w, ∀ n, Way f x v n → ∃ u ∈ w', ∃ j, j ≤ n ∧ Way f x u j) : Seen f x s w' := fun y hy n q => by
  obtain ⟨v, hv, i, lt, q2⟩ := h y hy n q
  obtain ⟨u, hu, j, le, q3⟩ := m v hv i q2
  exact ⟨u, hu, j, by omega, q3⟩
theorem Open.move (h : Open f x k w) (m : ∀ v ∈ w, ∀ n, Way f x v n → ∃ u ∈ w', ∃ j, j ≤ n ∧ Way f x u j) : Open f x k w' := fun q => by
  obtain ⟨v, hv, n, q2⟩ := h q
  obtain ⟨u, hu, j, _, q3⟩ := m v hv n q2
  exact ⟨u, hu, j, q3⟩
/-- an application is taken apart -/
theorem move_app {a c : Kd} {r : List Kd} (sub : ∀ v ∈ w, v = .app a c ∨ v ∈ r) (hr : ∀ v ∈ r, v ∈ w') (ha : a ∈ w') (hc : c ∈ w') : ∀ v ∈ w, ∀ n, Way f x v n → ∃ u ∈ w', ∃ j, j ≤ n ∧ Way f x u j := fun v hv n q => by
  rcases sub v hv with e | hv
  · subst e
    cases q with
    | fst q => exact ⟨_, ha, _, Nat.le_succ _, q⟩
    | snd q => exact ⟨_, hc, _, Nat.le_succ _, q⟩
  · exact ⟨v, hr v hv, n, Nat.le_refl _, q⟩
/-- a variable that was seen is left out -/
theorem move_seen {y : Str} {r : List Kd} (h : Seen f x s w) (hy : y ∈ s) (sub : ∀ v ∈ w, v = .var y ∨ v ∈ r) : ∀ v ∈ w, ∀ n, Way f x v n → ∃ u ∈ r, ∃ j, j ≤ n ∧ Way f x u j := fun v hv n => by
  induction n using Nat.strongRecOn generalizing v with
  | ind n ih =>
    intro q
    rcases sub v hv with e | hv
    · subst e
      obtain ⟨u, hu, m, lt, q2⟩ := h y hy n q
      obtain ⟨t, ht, j, le, q3⟩ := ih m lt u hu q2
      exact ⟨t, ht, j, by omega, q3⟩
    · exact ⟨v, hv, n, Nat.le_refl _, q⟩
/-- a variable that was not seen is gone into -/
theorem move_new {y : Str} {u : Kd} {r : List Kd} (e : lk f y = some u) (sub : ∀ v ∈ w, v = .var y ∨ v ∈ r) (hr : ∀ v ∈ r, v ∈ w') (hu : u ∈ w') : ∀ v ∈ w, ∀ n, Way f x v n → ∃ u ∈ w', ∃ j, j ≤ n ∧ Way f x u j := fun v hv n q => by
  rcases sub v hv with e2 | hv
  · subst e2
    cases q with
    | here z => rw [z] at e; cases e
    | via z q =>
      rw [e] at z
      cases z
      exact ⟨u, hu, _, Nat.le_succ _, q⟩
  · exact ⟨v, hr v hv, n, Nat.le_refl _, q⟩
theorem Seen.new {y : Str} {u : Kd} (h : Seen f x s w') (e : lk f y = some u) (hu : u ∈ w') : Seen f x (s ++ [y]) w' := fun z hz n q => by
  rcases List.mem_append.mp hz with hz | hz
  · exact h z hz n q
  · obtain rfl := List.mem_singleton.mp hz
    cases q with
    | here e2 => rw [e2] at e; cases e
    | via e2 q =>
      rw [e] at e2
      cases e2
      exact ⟨u, hu, _, Nat.lt_succ_self _, q⟩
/-- what has no way is left out -/
theorem move_off {v0 : Kd} {r : List Kd} (no : ∀ n, ¬ Way f x v0 n) (sub : ∀ v ∈ w, v = v0 ∨ v ∈ r) : ∀ v ∈ w, ∀ n, Way f x v n → ∃ u ∈ r, ∃ j, j ≤ n ∧ Way f x u j := fun v hv n q => by
  rcases sub v hv with e | hv
  · subst e
    exact absurd q (no n)
  · exact ⟨v, hv, n, Nat.le_refl _, q⟩
theorem no_way_con {y : Str} (n : Nat) : ¬ Way f x (.con y) n := fun q => by cases q
theorem no_way_free {y : Str} (e : lk f y = none) (ne : ¬ y = x) (n : Nat) : ¬ Way f x (.var y) n := fun q => by
  cases q with
  | here _ => exact ne rfl
  | via z _ => rw [e] at z; cases z
end
end L3

/-! how deep and how large a kind is with all put in -/
namespace L3
open PySem L2
/-- k with all put in; n is how deep the calls go -/
inductive Dep (f : By) : Kd → Kd → Nat → Prop
  | app {a c a' c' n m} : Dep f a a' n → Dep f c c' m → Dep f (.app a c) (.app a' c') (max n m + 1)
  | var {x u r n} : lk f x = some u → Dep f u r n → Dep f (.var x) r (n + 1)
  | free {x} : lk f x = none → Dep f (.var x) (.var x) 0
  | con {x} : Dep f (.con x) (.con x) 0
theorem Rsv.dep {f : By} {k r : Kd} {n : Nat} (q : Rsv f k r n) : ∃ m, Dep f k r m := by
  induction q with
  | app _ _ i1 i2 =>
    obtain ⟨n, h1⟩ := i1
    obtain ⟨m, h2⟩ := i2
    exact ⟨_, .app h1 h2⟩
  | var e _ ih =>
    obtain ⟨n, h⟩ := ih
    exact ⟨_, .var e h⟩
  | free e => exact ⟨_, .free e⟩
  | con => exact ⟨_, .con⟩
theorem Dep.is {f b : By} (h : Res f b) {k r : Kd} {n : Nat} (q : Dep f k r n) : r = k.put b := by
  induction q with
  | app _ _ i1 i2 => rw [i1, i2]; rfl
  | var e _ ih => rw [h.at e, ih]
  | free e => exact (put_free h e).symm
  | con => rfl
theorem Dep.det {f : By} {k r : Kd} {n : Nat} (q : Dep f k r n) : ∀ {r' : Kd} {m : Nat}, Dep f k r' m → n = m := by
  induction q with
  | app _ _ i1 i2 =>
    intro r' m p
    cases p with
    | app p1 p2 => rw [i1 p1, i2 p2]
  | var e _ ih =>
    intro r' m p
    cases p with
    | var e2 p => rw [e] at e2; cases e2; rw [ih p]
    | free e2 => rw [e] at e2; cases e2
  | free e =>
    intro r' m p
    cases p with
    | var e2 p => rw [e] at e2; cases e2
    | free e2 => rfl
  | con =>
    intro r' m p
    cases p with
    | con => rfl
theorem countP_lt {p q : Str → Bool} : ∀ {l : List Str} {x : Str}, (∀ y, p y = true → q y = true) → x ∈ l → p x = false → q x = true → l.countP p + 1 ≤ l.countP q
  | [], _, _, h, _, _ => nomatch h
  | y :: r, x, h, hx, h1, h2 => by
    have mono : ∀ r : List Str, r.countP p ≤ r.countP q := fun r => List.countP_mono_left fun z _ => h z
    rcases List.mem_cons.mp hx with e | hx
    · subst e
      rw [List.countP_cons_of_neg (by rw [h1]; decide), List.countP_cons_of_pos h2]
      exact Nat.succ_le_succ (mono r)
    · have ih := countP_lt h hx h1 h2
      by_cases hp : p y = true
      · rw [List.countP_cons_of_pos hp, List.countP_cons_of_pos (h y hp)]
        omega
      · rw [List.countP_cons_of_neg hp]
        by_cases hq : q y = true
        · rw [List.countP_cons_of_pos hq]
          omega
        · rw [List.countP_cons_of_neg hq]
          exact ih
noncomputable def pcnt (f : By) (d : Nat) (x : Str) : Bool := @decide (∃ r n, Dep f (.var x) r n ∧ n ≤ d) (Classical.propDecidable _)
theorem pcnt_iff {f : By} {d : Nat} {x : Str} : pcnt f d x = true ↔ ∃ r n, Dep f (.var x) r n ∧ n ≤ d := by
  unfold pcnt
  exact @decide_eq_true_iff _ (Classical.propDecidable _)
/-- how many names are put in within d calls -/
noncomputable def cnt (f : By) (d : Nat) : Nat := (names f).countP (pcnt f d)
theorem cnt_mono {f : By} {d e : Nat} (h : d ≤ e) : cnt f d ≤ cnt f e := List.countP_mono_left fun x _ q => by
  obtain ⟨r, n, q1, q2⟩ := pcnt_iff.mp q
  exact pcnt_iff.mpr ⟨r, n, q1, by omega⟩
theorem cnt_le (f : By) (d : Nat) : cnt f d ≤ f.length := by
  have := List.countP_le_length (p := pcnt f d) (l := names f)
  rw [show (names f).length = f.length from List.length_map _] at this
  exact this
theorem cnt_lt {f : By} {x : Str} {r : Kd} {d : Nat} (hx : x ∈ names f) (h : Dep f (.var x) r (d + 1)) : cnt f d + 1 ≤ cnt f (d + 1) := by
  refine countP_lt (x := x) (fun y q => ?_) hx ?_ (pcnt_iff.mpr ⟨r, _, h, Nat.le_refl _⟩)
  · obtain ⟨r, n, q1, q2⟩ := pcnt_iff.mp q
    exact pcnt_iff.mpr ⟨r, n, q1, by omega⟩
  · cases e : pcnt f d x with
    | false => rfl
    | true =>
      obtain ⟨r', n, q1, q2⟩ := pcnt_iff.mp e
      have := h.det q1
      omega
theorem lk_in {f : By} {x : Str} {k : Kd} (h : lk f x = some k) : x ∈ names f := by
  have := lk_names f x
  rw [h] at this
  exact of_decide_eq_true this.symm
theorem Dep.bound {f : By} {z : Nat} (hf : ∀ q ∈ f, q.2.fit 4 ∧ q.2.size ≤ z) (hz : 1 ≤ z) {k r : Kd} {n : Nat} (q : Dep f k r n) : ∀ e, k.fit e → r.fit (e + 4 * cnt f n) ∧ n ≤ e + 5 * cnt f n ∧ r.size ≤ k.size * z ^ cnt f n := by
  induction q with
  | @app a c a' c' n m _ _ i1 i2 =>
    intro e h
    obtain ⟨j, rfl, h1, h2⟩ := Kd.fit_app h
    obtain ⟨a1, a2, a3⟩ := i1 j h1
    obtain ⟨b1, b2, b3⟩ := i2 j h2
    have l1 := cnt_mono (f := f) (show n ≤ max n m + 1 by omega)
    have l2 := cnt_mono (f := f) (show m ≤ max n m + 1 by omega)
    refine ⟨?_, by omega, ?_⟩
    · rw [show j + 1 + 4 * cnt f (max n m + 1) = (j + 4 * cnt f (max n m + 1)) + 1 by omega]
      exact ⟨Kd.fit_mono (by omega) a1, Kd.fit_mono (by omega) b1⟩
    · have p1 : z ^ cnt f n ≤ z ^ cnt f (max n m + 1) := Nat.pow_le_pow_right hz l1
      have p2 : z ^ cnt f m ≤ z ^ cnt f (max n m + 1) := Nat.pow_le_pow_right hz l2
      have p3 : 1 ≤ z ^ cnt f (max n m + 1) := Nat.one_le_pow _ _ hz
      generalize z ^ cnt f (max n m + 1) = Z at p1 p2 p3 ⊢
      have m1 : a.size * z ^ cnt f n ≤ a.size * Z := Nat.mul_le_mul_left _ p1
      have m2 : c.size * z ^ cnt f m ≤ c.size * Z := Nat.mul_le_mul_left _ p2
      show a'.size + c'.size + 1 ≤ (a.size + c.size + 1) * Z
      rw [Nat.add_mul, Nat.add_mul, Nat.one_mul]
      omega
  | @var x u r n e0 h0 ih =>
    intro e h
    obtain ⟨f1, f2⟩ := hf _ (lk_mem e0)
    obtain ⟨a1, a2, a3⟩ := ih 4 f1
    have l := cnt_lt (lk_in e0) (.var e0 h0)
    refine ⟨Kd.fit_mono (by omega) a1, by omega, ?_⟩
    have m1 : u.size * z ^ cnt f n ≤ z * z ^ cnt f n := Nat.mul_le_mul_right _ f2
    have m2 : z ^ (cnt f n + 1) ≤ z ^ cnt f (n + 1) := Nat.pow_le_pow_right hz l
    rw [Nat.pow_succ, Nat.mul_comm] at m2
    show r.size ≤ 1 * z ^ cnt f (n + 1)
    omega
  | free e0 =>
    intro e h
    exact ⟨Kd.fit_mono (by omega) h, by omega, by
      have p3 : 1 ≤ z ^ cnt f 0 := Nat.one_le_pow _ _ hz
      show 1 ≤ 1 * z ^ cnt f 0
      omega⟩
  | con =>
    intro e h
    exact ⟨Kd.fit_mono (by omega) h, by omega, by
      have p3 : 1 ≤ z ^ cnt f 0 := Nat.one_le_pow _ _ hz
      show 1 ≤ 1 * z ^ cnt f 0
      omega⟩
/-- what unite keeps -/
structure USt (ws : List Str) (f b : By) : Prop where
  fa : FolAll f
  rs : Res f b
  cl : Clean b
  nd : (names f).Nodup
  nb : names b = names f
  sb : ∀ x ∈ names f, x ∈ ws
  ft : ∀ q ∈ f, q.2.fit 4 ∧ q.2.size ≤ 25 ∧ Kd.of ws q.2
  w4 : ws.length ≤ 4
/-- an original kind -/
def Org (ws : List Str) (k : Kd) : Prop := k.fit 4 ∧ k.size ≤ 25 ∧ Kd.of ws k
theorem USt.nil {ws : List Str} (h : ws.length ≤ 4) : USt ws [] [] := ⟨.nil, .nil, .nil, List.nodup_nil, rfl, (fun _ q => nomatch q), (fun _ q => nomatch q), h⟩
theorem USt.len {ws : List Str} {f b : By} (h : USt ws f b) : f.length ≤ 4 := by
  have := len_le h.nd h.sb
  rw [show (names f).length = f.length from List.length_map _] at this
  have := h.w4
  omega
theorem USt.big {ws : List Str} {f b : By} (h : USt ws f b) {k : Kd} (o : Org ws k) : (k.put b).fit 20 ∧ (∃ n, n ≤ 24 ∧ Dep f k (k.put b) n) ∧ (k.put b).size ≤ 9765625 := by
  obtain ⟨r, n, q⟩ := rsv_ends h.rs h.fa _ k (Nat.le_refl _)
  obtain ⟨m, q⟩ := q.dep
  have e := q.is h.rs
  subst e
  obtain ⟨h1, h2, h3⟩ := q.bound (z := 25) (fun p hp => ⟨(h.ft p hp).1, (h.ft p hp).2.1⟩) (by decide) 4 o.1
  have l := h.len
  have c := cnt_le f m
  have pw : (25 : Nat) ^ cnt f m ≤ 25 ^ 4 := Nat.pow_le_pow_right (by decide) (by omega)
  have m1 : k.size * 25 ^ cnt f m ≤ 25 * 25 ^ 4 := Nat.mul_le_mul o.2.1 pw
  have e5 : 25 * 25 ^ 4 = 9765625 := by decide
  exact ⟨Kd.fit_mono (by omega) h1, ⟨m, by omega, q⟩, by omega⟩
theorem USt.bigV {ws : List Str} {f b : By} (h : USt ws f b) {x : Str} {k : Kd} (e : lk f x = some k) : (k.put b).size ≤ 390625 := by
  have o := h.ft _ (lk_mem e)
  obtain ⟨r, n, q⟩ := rsv_ends h.rs h.fa _ k (Nat.le_refl _)
  obtain ⟨m, q⟩ := q.dep
  have e2 := q.is h.rs
  subst e2
  have q2 : Dep f (.var x) (k.put b) (m + 1) := .var e q
  have w : Wok x ∨ True := .inr trivial
  obtain ⟨h1, h2, h3⟩ := q.bound (z := 25) (fun p hp => ⟨(h.ft p hp).1, (h.ft p hp).2.1⟩) (by decide) 4 o.1
  have l := h.len
  have c := cnt_le f (m + 1)
  have c2 := cnt_lt (lk_in e) q2
  have pw : (25 : Nat) ^ cnt f m ≤ 25 ^ 3 := Nat.pow_le_pow_right (by decide) (by omega)
  have m1 : k.size * 25 ^ cnt f m ≤ 25 * 25 ^ 3 := Nat.mul_le_mul o.2.1 pw
  have e5 : 25 * 25 ^ 3 = 390625 := by decide
  omega
theorem Org.fol {ws : List Str} {f b : By} (h : USt ws f b) {k k' : Kd} {n : Nat} (q : Fol f k k' n) (o : Org ws k) : Org ws k' := by
  induction q with
  | stop _ => exact o
  | step e _ ih => exact ih (h.ft _ (lk_mem e))
theorem Org.app {ws : List Str} {a c : Kd} (o : Org ws (.app a c)) : Org ws a ∧ Org ws c := by
  obtain ⟨o1, o2, o3⟩ := o
  obtain ⟨j, e, h1, h2⟩ := Kd.fit_app o1
  have sz : a.size + c.size + 1 ≤ 25 := o2
  exact ⟨⟨Kd.fit_mono (by omega) h1, by omega, o3.1⟩, ⟨Kd.fit_mono (by omega) h2, by omega, o3.2⟩⟩
theorem names_snoc (f : By) (x : Str) (k : Kd) : names (f ++ [(x, k)]) = names f ++ [x] := by
  unfold names
  rw [List.map_append]
  rfl
theorem USt.bind {ws : List Str} {f b : By} (h : USt ws f b) {x : Str} {k : Kd} (hx : lk f x = none) (hk : ∀ y, k = .var y → lk f y = none) (ho : ¬ (k.put b).occ x) (o : Org ws k) (xw : x ∈ ws) : USt ws (f ++ [(x, k)]) (sub1 x (k.put b) b) := by
  have hxb := h.rs.off hx
  have nx : ¬ x ∈ names f := by
    have := lk_names f x
    rw [hx] at this
    exact of_decide_eq_false this.symm
  refine ⟨h.fa.bind hx fun y e => ⟨hk y e, fun e2 => ho ?_⟩, h.rs.bind hx ho, h.cl.sub hxb ho fun y q => h.cl.off q, ?_, ?_, ?_, ?_, h.w4⟩
  · rw [e, put_free h.rs (hk y e)]
    exact e2
  · rw [names_snoc, List.nodup_append]
    exact ⟨h.nd, by simp, fun a ha c hc e => nx (by rw [← List.mem_singleton.mp hc, ← e]; exact ha)⟩
  · rw [names_snoc, ← h.nb]
    unfold sub1 names
    rw [List.map_append, List.map_map]
    rfl
  · intro y hy
    rw [names_snoc] at hy
    rcases List.mem_append.mp hy with q | q
    · exact h.sb y q
    · rw [List.mem_singleton.mp q]; exact xw
  · intro q hq
    rcases List.mem_append.mp hq with q | q
    · exact h.ft _ q
    · rw [List.mem_singleton.mp q]; exact o
end L3

/-! what waits in unite: how many pairs; what it tells at its end -/
namespace L3
open PySem L2
/-- a part of a kind, so many steps below it -/
inductive Below : Nat → Kd → Kd → Prop
  | top {k} : Below 0 k k
  | fst {j k a c} : Below j k (.app a c) → Below (j + 1) k a
  | snd {j k a c} : Below j k (.app a c) → Below (j + 1) k c
theorem Below.put {j : Nat} {k q : Kd} (b : By) (h : Below j k q) : Below j (k.put b) (q.put b) := by
  induction h with
  | top => exact .top
  | fst _ ih => exact .fst ih
  | snd _ ih => exact .snd ih
theorem Below.fit {j : Nat} {k q : Kd} (h : Below j k q) : ∀ {n : Nat}, k.fit n → ∃ m, n = m + j ∧ q.fit m := by
  induction h with
  | top => intro n f; exact ⟨n, rfl, f⟩
  | fst _ ih =>
    intro n f
    obtain ⟨m, e, g⟩ := ih f
    obtain ⟨i, rfl, g1, g2⟩ := Kd.fit_app g
    exact ⟨i, by omega, g1⟩
  | snd _ ih =>
    intro n f
    obtain ⟨m, e, g⟩ := ih f
    obtain ⟨i, rfl, g1, g2⟩ := Kd.fit_app g
    exact ⟨i, by omega, g2⟩
/-- the pairs that wait -/
def Stk (ws : List Str) (b : By) : List (Kd × Kd) → Prop
  | [] => True
  | p :: r => (Org ws p.1 ∧ Org ws p.2 ∧ ∃ (j : Nat) (k k' : Kd), Org ws k ∧ Org ws k' ∧ Below j (k.put b) (p.1.put b) ∧ Below j (k'.put b) (p.2.put b) ∧ r.length ≤ 2 + j) ∧ Stk ws b r
theorem Stk.start {ws : List Str} {b : By} : ∀ {l : List (Kd × Kd)}, l.length ≤ 3 → (∀ p ∈ l, Org ws p.1 ∧ Org ws p.2) → Stk ws b l
  | [], _, _ => trivial
  | p :: r, hl, h => by
    have q := h p List.mem_cons_self
    rw [List.length_cons] at hl
    exact ⟨⟨q.1, q.2, 0, p.1, p.2, q.1, q.2, .top, .top, by omega⟩, Stk.start (by omega) fun p hp => h p (List.mem_cons_of_mem _ hp)⟩
theorem Stk.bind {ws : List Str} {b : By} {x : Str} {t : Kd} (hx : lk b x = none) : ∀ {l : List (Kd × Kd)}, Stk ws b l → Stk ws (sub1 x t b) l
  | [], _ => trivial
  | p :: r, ⟨⟨o1, o2, j, k, k', o3, o4, h, h', hl⟩, hr⟩ => by
    refine ⟨⟨o1, o2, j, k, k', o3, o4, ?_, ?_, hl⟩, Stk.bind hx hr⟩
    · rw [put_sub1 hx, put_sub1 hx]
      exact h.put _
    · rw [put_sub1 hx, put_sub1 hx]
      exact h'.put _
theorem Stk.len {ws : List Str} {f b : By} (u : USt ws f b) : ∀ {l : List (Kd × Kd)}, Stk ws b l → l.length ≤ 23
  | [], _ => Nat.zero_le _
  | p :: r, ⟨⟨o1, o2, j, k, k', o3, o4, h, h', hl⟩, hr⟩ => by
    obtain ⟨m, e, _⟩ := h.fit (u.big o3).1
    rw [List.length_cons]
    omega
theorem Stk.apart {sw : Bool} {ws : List Str} {f b : By} (u : USt ws f b) {p : Kd × Kd} {r : List (Kd × Kd)} {a1 a2 c1 c2 : Kd} {i i' : Nat} (s : Stk ws b (p :: r)) (q1 : Fol f p.1 (.app a1 a2) i) (q2 : Fol f p.2 (.app c1 c2) i') : Stk ws b (pr sw a1 c1 :: pr sw a2 c2 :: r) := by
  obtain ⟨⟨o1, o2, j, k, k', o3, o4, h, h', hl⟩, hr⟩ := s
  have f1 := (Org.fol u q1 o1).app
  have f2 := (Org.fol u q2 o2).app
  have g1 : Below j (k.put b) (.app (a1.put b) (a2.put b)) := by
    have e := q1.put u.rs
    rw [e] at h
    exact h
  have g2 : Below j (k'.put b) (.app (c1.put b) (c2.put b)) := by
    have e := q2.put u.rs
    rw [e] at h'
    exact h'
  cases sw
  · exact ⟨⟨f1.1, f2.1, j + 1, k, k', o3, o4, g1.fst, g2.fst, by rw [List.length_cons]; omega⟩, ⟨f1.2, f2.2, j + 1, k, k', o3, o4, g1.snd, g2.snd, by omega⟩, hr⟩
  · exact ⟨⟨f2.1, f1.1, j + 1, k', k, o4, o3, g2.fst, g1.fst, by rw [List.length_cons]; omega⟩, ⟨f2.2, f1.2, j + 1, k', k, o4, o3, g2.snd, g1.snd, by omega⟩, hr⟩
/-- one turn of unite, by what was followed -/
inductive UTurn (sw : Bool) (a c : Kd) (r : List (Kd × Kd)) (f b : By) (o : Option (By × By)) (n : Nat) : Prop
  | same {m} : a = c → n = m + 1 → Uni sw r f b o m → UTurn sw a c r f b o n
  | bind {m x k} : ¬ a = c → Bind a c x k → ¬ (k.put b).occ x → n = m + 1 → Uni sw r (f ++ [(x, k)]) (sub1 x (k.put b) b) o m → UTurn sw a c r f b o n
  | ring {x k} : ¬ a = c → Bind a c x k → (k.put b).occ x → o = none → UTurn sw a c r f b o n
  | app {m a1 a2 c1 c2} : ¬ a = c → a = .app a1 a2 → c = .app c1 c2 → n = m + 1 → Uni sw (pr sw a1 c1 :: pr sw a2 c2 :: r) f b o m → UTurn sw a c r f b o n
  | clash : ¬ a = c → (∀ x k, ¬ Bind a c x k) → (∀ a1 a2 c1 c2, ¬ (a = .app a1 a2 ∧ c = .app c1 c2)) → o = none → UTurn sw a c r f b o n
theorem Uni.cons {sw : Bool} {p : Kd × Kd} {r : List (Kd × Kd)} {f b : By} {o : Option (By × By)} {n : Nat} (u : Uni sw (p :: r) f b o n) : ∃ a c i j, Fol f p.1 a i ∧ Fol f p.2 c j ∧ UTurn sw a c r f b o n := by
  cases u with
  | same q1 q2 w => exact ⟨_, _, _, _, q1, q2, .same rfl rfl w⟩
  | bind q1 q2 ne hb ho w => exact ⟨_, _, _, _, q1, q2, .bind ne hb ho rfl w⟩
  | ring q1 q2 ne hb ho => exact ⟨_, _, _, _, q1, q2, .ring ne hb ho rfl⟩
  | app q1 q2 ne w => exact ⟨_, _, _, _, q1, q2, .app ne rfl rfl rfl w⟩
  | clash q1 q2 ne hb ha => exact ⟨_, _, _, _, q1, q2, .clash ne hb ha rfl⟩
theorem by_ext : ∀ {b c : By}, names b = names c → (names b).Nodup → (∀ x, lk b x = lk c x) → b = c
  | [], [], _, _, _ => rfl
  | [], _ :: _, e, _, _ => nomatch e
  | _ :: _, [], e, _, _ => nomatch e
  | (x, k) :: r, (y, l) :: s, e, nd, h => by
    have e1 : x :: names r = y :: names s := e
    obtain ⟨e2, e3⟩ := List.cons.inj e1
    subst e2
    have nd' : (x :: names r).Nodup := nd
    obtain ⟨n1, n2⟩ := List.nodup_cons.mp nd'
    have hx := h x
    rw [lk_pos (p := (x, k)) rfl, lk_pos (p := (x, l)) rfl] at hx
    cases hx
    refine congrArg _ (by_ext e3 n2 fun z => ?_)
    by_cases q : x = z
    · subst q
      have a1 := lk_names r x
      have a2 := lk_names s x
      rw [decide_eq_false n1] at a1
      rw [decide_eq_false (by rw [← e3]; exact n1)] at a2
      cases e4 : lk r x with
      | some _ => rw [e4] at a1; cases a1
      | none =>
        cases e5 : lk s x with
        | some _ => rw [e5] at a2; cases a2
        | none => rfl
    · have hz := h z
      rw [lk_neg (p := (x, k)) q, lk_neg (p := (x, k)) q] at hz
      exact hz
/-- all that was found, with all put in -/
def putAll (f b : By) : By := f.map fun q => (q.1, q.2.put b)
theorem lk_putAll (b : By) (x : Str) : ∀ f : By, lk (putAll f b) x = (lk f x).map fun k => k.put b
  | [] => rfl
  | p :: r => by
    show lk ((p.1, p.2.put b) :: putAll r b) x = _
    by_cases e : p.1 = x
    · rw [lk_pos (p := (p.1, p.2.put b)) e, lk_pos e]; rfl
    · rw [lk_neg (p := (p.1, p.2.put b)) e, lk_neg e]; exact lk_putAll b x r
theorem USt.all {ws : List Str} {f b : By} (u : USt ws f b) : putAll f b = b := by
  have e : names (putAll f b) = names f := by
    unfold names putAll
    rw [List.map_map]
    rfl
  exact by_ext (by rw [e, u.nb]) (by rw [e]; exact u.nd) fun x => by rw [lk_putAll, ← u.rs x]
end L3

/-! one turn of the law's own way, along unite's way -/
namespace L3
open PySem L2
inductive STurn (sw : Bool) (ws : List Str) (A C : Kd) (r : List (Kd × Kd)) (f b : By) (o : Option (By × By)) (n : Nat) : Prop
  | same {m} : A = C → m < n → Uni sw r f b o m → STurn sw ws A C r f b o n
  | bind {m x t f'} : ¬ A = C → Bind A C x t → ¬ t.occ x → lk b x = none → m < n → USt ws f' (sub1 x t b) → Uni sw r f' (sub1 x t b) o m → STurn sw ws A C r f b o n
  | ring {x t} : ¬ A = C → Bind A C x t → t.occ x → o = none → STurn sw ws A C r f b o n
  | app {m A1 A2 C1 C2} {p1 p2 : Kd × Kd} : ¬ A = C → A = .app A1 A2 → C = .app C1 C2 → m < n → (p1.1.put b = (pr sw A1 C1).1 ∧ p1.2.put b = (pr sw A1 C1).2) → (p2.1.put b = (pr sw A2 C2).1 ∧ p2.2.put b = (pr sw A2 C2).2) → Stk ws b (p1 :: p2 :: r) → Uni sw (p1 :: p2 :: r) f b o m → STurn sw ws A C r f b o n
  | clash : ¬ A = C → (∀ x t, ¬ Bind A C x t) → (∀ a1 a2 c1 c2, ¬ (A = .app a1 a2 ∧ C = .app c1 c2)) → o = none → STurn sw ws A C r f b o n
theorem Bind.org {ws : List Str} {a c k : Kd} {x : Str} (h : Bind a c x k) (oa : Org ws a) (oc : Org ws c) : Org ws k ∧ x ∈ ws := by
  rcases h with ⟨e1, e2⟩ | ⟨_, e1, e2⟩
  · subst e1 e2; exact ⟨oc, oa.2.2⟩
  · subst e1 e2; exact ⟨oa, oc.2.2⟩
theorem Bind.free {f : By} {a c k : Kd} {x : Str} (h : Bind a c x k) (ha : ∀ y, a = .var y → lk f y = none) (hc : ∀ y, c = .var y → lk f y = none) : lk f x = none ∧ ∀ y, k = .var y → lk f y = none := by
  rcases h with ⟨e1, e2⟩ | ⟨_, e1, e2⟩
  · subst e1 e2; exact ⟨ha x rfl, hc⟩
  · subst e1 e2; exact ⟨hc x rfl, ha⟩
theorem pr_put {sw : Bool} (b : By) (a c : Kd) : (pr sw a c).1.put b = (pr sw (a.put b) (c.put b)).1 ∧ (pr sw a c).2.put b = (pr sw (a.put b) (c.put b)).2 := by
  cases sw <;> exact ⟨rfl, rfl⟩
theorem Uni.sturn {sw : Bool} {ws : List Str} {p : Kd × Kd} {r : List (Kd × Kd)} {f b : By} {o : Option (By × By)} {n : Nat} (u : USt ws f b) (s : Stk ws b (p :: r)) (un : Uni sw (p :: r) f b o n) : STurn sw ws (p.1.put b) (p.2.put b) r f b o n := by
  by_cases e : p.1.put b = p.2.put b
  · obtain ⟨m, lt, w⟩ := Uni.skip n u.rs e un
    exact .same e lt w
  have s0 := s
  obtain ⟨⟨o1, o2, _⟩, hr⟩ := s
  cases un with
  | same q1 q2 _ => exact absurd (by rw [q1.put u.rs, q2.put u.rs]) e
  | @bind _ _ _ _ _ n0 a d _ _ x k q1 q2 ne hb ho w =>
    obtain ⟨hx, hb2⟩ := bind_put u.rs q1.free q2.free hb
    rw [← q1.put u.rs, ← q2.put u.rs] at hb2
    obtain ⟨ok, xw⟩ := hb.org (Org.fol u q1 o1) (Org.fol u q2 o2)
    exact .bind e hb2 ho (u.rs.off hx) (Nat.lt_succ_self _) (u.bind hx (hb.free q1.free q2.free).2 ho ok xw) w
  | ring q1 q2 ne hb ho =>
    obtain ⟨_, hb2⟩ := bind_put u.rs q1.free q2.free hb
    rw [← q1.put u.rs, ← q2.put u.rs] at hb2
    exact .ring e hb2 ho rfl
  | @app _ _ _ _ _ n0 _ _ a1 a2 c1 c2 q1 q2 ne w =>
    have ea : p.1.put b = .app (a1.put b) (a2.put b) := by rw [q1.put u.rs]; rfl
    have ec : p.2.put b = .app (c1.put b) (c2.put b) := by rw [q2.put u.rs]; rfl
    exact .app (p1 := pr sw a1 c1) (p2 := pr sw a2 c2) e ea ec (Nat.lt_succ_self _) (pr_put b a1 c1) (pr_put b a2 c2) (s0.apart u q1 q2) w
  | @clash _ _ _ _ a d _ _ q1 q2 ne hb ha =>
    refine .clash e (fun x t w => ?_) (fun a1 a2 c1 c2 w => ?_) rfl
    · rw [q1.put u.rs, q2.put u.rs] at w
      obtain ⟨k, w⟩ := bind_back u.rs q1.free q2.free w
      exact hb x k w
    · rw [q1.put u.rs, q2.put u.rs] at w
      obtain ⟨w1, w2⟩ := w
      cases a with
      | var y => rw [put_free u.rs (q1.free y rfl)] at w1; cases w1
      | con y => cases w1
      | app u1 u2 =>
        cases d with
        | var y => rw [put_free u.rs (q2.free y rfl)] at w2; cases w2
        | con y => cases w2
        | app v1 v2 => exact ha u1 u2 v1 v2 ⟨rfl, rfl⟩
theorem Bind.uniq {a c k l : Kd} {x y : Str} (h : Bind a c x k) (g : Bind a c y l) : x = y ∧ k = l := by
  rcases h with ⟨e1, e2⟩ | ⟨e0, e1, e2⟩
  · rcases g with ⟨g1, g2⟩ | ⟨g0, g1, g2⟩
    · rw [e1] at g1
      exact ⟨Kd.var.inj g1, by rw [← e2, ← g2]⟩
    · exact absurd e1 (g0 x)
  · rcases g with ⟨g1, g2⟩ | ⟨g0, g1, g2⟩
    · exact absurd g1 (e0 y)
    · rw [e1] at g1
      exact ⟨Kd.var.inj g1, by rw [← e2, ← g2]⟩
theorem Bind.noapp {a c k a1 a2 c1 c2 : Kd} {x : Str} (h : Bind a c x k) (ea : a = .app a1 a2) (ec : c = .app c1 c2) : False := by
  rcases h with ⟨e1, _⟩ | ⟨_, e1, _⟩
  · rw [e1] at ea; cases ea
  · rw [e1] at ec; cases ec
theorem STurn.bound {sw : Bool} {ws : List Str} {A C t : Kd} {x : Str} {r : List (Kd × Kd)} {f b : By} {o : Option (By × By)} {n : Nat} (h : STurn sw ws A C r f b o n) (ne : ¬ A = C) (hb : Bind A C x t) :
    (t.occ x ∧ o = none) ∨ (¬ t.occ x ∧ lk b x = none ∧ ∃ m f', m < n ∧ USt ws f' (sub1 x t b) ∧ Uni sw r f' (sub1 x t b) o m) := by
  cases h with
  | same e => exact absurd e ne
  | bind _ h ho hx lt u w =>
    obtain ⟨e1, e2⟩ := h.uniq hb
    subst e1 e2
    exact .inr ⟨ho, hx, _, _, lt, u, w⟩
  | ring _ h ho e =>
    obtain ⟨e1, e2⟩ := h.uniq hb
    subst e1 e2
    exact .inl ⟨ho, e⟩
  | app _ ea ec => exact (hb.noapp ea ec).elim
  | clash _ h => exact absurd hb (h _ _)
theorem STurn.parts {sw : Bool} {ws : List Str} {a1 a2 c1 c2 : Kd} {r : List (Kd × Kd)} {f b : By} {o : Option (By × By)} {n : Nat} (t : STurn sw ws (.app a1 a2) (.app c1 c2) r f b o n) (ne : ¬ Kd.app a1 a2 = .app c1 c2) :
    ∃ m p1 p2, m < n ∧ (p1.1.put b = (pr sw a1 c1).1 ∧ p1.2.put b = (pr sw a1 c1).2) ∧ (p2.1.put b = (pr sw a2 c2).1 ∧ p2.2.put b = (pr sw a2 c2).2) ∧ Stk ws b (p1 :: p2 :: r) ∧ Uni sw (p1 :: p2 :: r) f b o m := by
  cases t with
  | same e => exact absurd e ne
  | bind _ h => exact (h.noapp rfl rfl).elim
  | ring _ h => exact (h.noapp rfl rfl).elim
  | app _ ea ec lt e1 e2 s w =>
    cases ea
    cases ec
    exact ⟨_, _, _, lt, e1, e2, s, w⟩
  | clash _ _ h => exact absurd ⟨rfl, rfl⟩ (h _ _ _ _)
theorem STurn.dead {sw : Bool} {ws : List Str} {a c : Kd} {r : List (Kd × Kd)} {f b : By} {o : Option (By × By)} {n : Nat} (t : STurn sw ws a c r f b o n) (ne : ¬ a = c) (nb : ∀ x k, ¬ Bind a c x k) (na : ∀ a1 a2 c1 c2, ¬ (a = .app a1 a2 ∧ c = .app c1 c2)) : o = none := by
  cases t with
  | same e => exact absurd e ne
  | bind _ h => exact absurd h (nb _ _)
  | ring _ h => exact absurd h (nb _ _)
  | app _ ea ec => exact absurd ⟨ea, ec⟩ (na _ _ _ _)
  | clash _ _ _ e => exact e
/-- the law's pairs stand for unite's -/
def Like (b : By) (q p : Kd × Kd) : Prop := q.1.put b = p.1.put b ∧ q.2.put b = p.2.put b ∧ q.1.fit 20 ∧ q.2.fit 20
theorem Like.bind {b : By} {x : Str} {t : Kd} (hx : lk b x = none) {q p : Kd × Kd} (h : Like b q p) : Like (sub1 x t b) q p := by
  obtain ⟨h1, h2, h3, h4⟩ := h
  refine ⟨?_, ?_, h3, h4⟩
  · rw [put_sub1 hx, put_sub1 hx, h1]
  · rw [put_sub1 hx, put_sub1 hx, h2]
theorem lk_nodup : ∀ {f : By} {p : Str × Kd}, (names f).Nodup → p ∈ f → lk f p.1 = some p.2
  | [], _, _, h => nomatch h
  | q :: r, p, nd, h => by
    obtain ⟨n1, n2⟩ := List.nodup_cons.mp (show (q.1 :: names r).Nodup from nd)
    rcases List.mem_cons.mp h with e | h
    · subst e; exact lk_pos rfl
    · rw [lk_neg fun e => n1 (by rw [e]; exact List.mem_map.mpr ⟨p, h, rfl⟩)]
      exact lk_nodup n2 h
/-- a kind of what was found, all put in -/
theorem USt.inB {ws : List Str} {f b : By} (u : USt ws f b) {q : Str × Kd} (hq : q ∈ b) : q.2.fit 20 ∧ q.2.size ≤ 390625 ∧ q.1 ∈ ws := by
  have e := u.all
  rw [← e] at hq
  obtain ⟨p, hp, rfl⟩ := List.mem_map.mp hq
  have o := u.ft p hp
  obtain ⟨h1, _, h2⟩ := u.big (k := p.2) o
  have nx : p.1 ∈ names f := List.mem_map.mpr ⟨p, hp, rfl⟩
  exact ⟨h1, u.bigV (lk_nodup u.nd hp), u.sb _ nx⟩
end L3

/-! pairs of kinds on the heap -/
namespace L3
open PySem L2
def PairAt (H : Hp) (v : V) (q : Kd × Kd) : Prop := ∃ (T : Addr) (u z : V), v = .ref T ∧ H T = some (.tup [u, z]) ∧ KdAt H u q.1 ∧ KdAt H z q.2
theorem PairAt.tups {H H' : Hp} (t : Tups H H') {v : V} {q : Kd × Kd} (h : PairAt H v q) : PairAt H' v q := by
  obtain ⟨T, u, z, rfl, h1, h2, h3⟩ := h
  exact ⟨T, u, z, rfl, t _ _ h1, KdAt.tups t h2, KdAt.tups t h3⟩
abbrev PairsAt (H : Hp) : List V → List (Kd × Kd) → Prop := Paired (PairAt H)
theorem PairsAt.tups {H H' : Hp} (t : Tups H H') {vs : List V} {ps : List (Kd × Kd)} (h : PairsAt H vs ps) : PairsAt H' vs ps := paired_map (fun _ _ q => PairAt.tups t q) h
def prD (p : Kd × Kd) : PyData := .tuple [p.1.dat, p.2.dat]
theorem PairAt.dp {K : PySem.W.Frag} {H : Hp} {v : V} {p : Kd × Kd} (h : PairAt H v p) : Dp K H v (prD p) := by
  obtain ⟨T, u, z, rfl, hT, h1, h2⟩ := h
  exact .tup (SqT.of hT) (.cons h1.dp (.cons h2.dp .nil))
theorem PairsAt.dp {K : PySem.W.Frag} {H : Hp} : ∀ {vs : List V} {ps : List (Kd × Kd)}, PairsAt H vs ps → DpAll K H vs (ps.map prD)
  | _, _, .nil => .nil
  | _, _, .cons r t => .cons r.dp (PairsAt.dp t)
theorem pair_lay {p : Kd × Kd} (h : p.1.fit 60 ∧ p.2.fit 60) : (prD p).canLay0 = true ∧ (prD p).depth ≤ 62 := by
  obtain ⟨h1, h2⟩ := Kd.lay h.1
  obtain ⟨h3, h4⟩ := Kd.lay h.2
  refine ⟨by simp only [prD, PyData.canLay0, PyData.canLayAll0, h1, h3, Bool.and_true], ?_⟩
  simp only [prD, PyData.depth, PyData.depthAll]
  omega
theorem shaped_pairs {ps : List (Kd × Kd)} (h : ∀ p ∈ ps, p.1.fit 60 ∧ p.2.fit 60) : SeqAt.shaped (.list (ps.map prD)) = true := by
  have key : ∀ ps : List (Kd × Kd), (∀ p ∈ ps, p.1.fit 60 ∧ p.2.fit 60) → PyData.canLayAll0 (ps.map prD) = true ∧ PyData.depthAll (ps.map prD) ≤ 62 := by
    intro ps
    induction ps with
    | nil => intro _; exact ⟨by simp [PyData.canLayAll0], by simp [PyData.depthAll]⟩
    | cons k r ih =>
      intro h
      obtain ⟨h1, h2⟩ := ih fun y hy => h y (List.mem_cons_of_mem _ hy)
      obtain ⟨h3, h4⟩ := pair_lay (h k List.mem_cons_self)
      refine ⟨by simp only [List.map_cons, PyData.canLayAll0, h3, h1, Bool.true_and], ?_⟩
      simp only [List.map_cons, PyData.depthAll]
      omega
  obtain ⟨h1, h2⟩ := key ps h
  unfold SeqAt.shaped
  simp only [PyData.canLay0, h1, PyData.depth, Bool.true_and]
  exact decide_eq_true (by omega)
theorem pairs_ne {ps : List (Kd × Kd)} : (!PyData.eqv (.list (ps.map prD)) (.list [])) = !ps.isEmpty := by
  rw [eqv_ll]
  cases ps with
  | nil => rw [List.map_nil, eqv_nn]; rfl
  | cons x r => rw [List.map_cons, eqv_cn]; rfl
end L3

set_option maxHeartbeats 4000000
/-! sum of a list of lists, with a list to begin with -/
namespace L3
open PySem L2
theorem args_sum2 (a b : Value) : argsOk "sum" ⟨[a, b], []⟩ := by unfold argsOk; kernel_rfl
theorem sub_l_str : isSubtype (.type "list") (.type "str") = pure false := by rw [isSubtype_type]; kernel_rfl
theorem sub_l_bytes : isSubtype (.type "list") (.type "bytes") = pure false := by rw [isSubtype_type]; kernel_rfl
theorem sub_l_ba : isSubtype (.type "list") (.type "bytearray") = pure false := by rw [isSubtype_type]; kernel_rfl
section
variable {prog : Program} {w : World} {A : Around} {R : Result → Shared → Prop} {I l : Addr}
abbrev lobj (vs : List Value) (n : Nat) : Obj := { cls := .type "list", data := .seq vs.toArray n }
theorem sum_lists_loop {items : Array Value} (W : Walks prog w A.in1 I [I, l] [I] items.size (fun i v => items[i]? = some v) (fun i h => h.IsListIter I l i ∧ h.IsList l items)) (S : Addr) (hS0 : S ∉ [I, l]) (lv : List (List Value)) (hlen : lv.length = items.size)
    (loc : Nat → Addr) (cap : Nat → Nat) (hval : ∀ (i : Nat) (v : Value), items[i]? = some v → v = .ref (loc i)) (hI : ∀ i, loc i ≠ I ∧ loc i ≠ S) :
    ∀ (k i : Nat) (s : Shared) (T : Addr) (acc : List Value) (c n : Nat), items.size - i = k → i ≤ items.size → (s.heap.IsListIter I l i ∧ s.heap.IsList l items) →
      (∀ j xs, i ≤ j → lv[j]? = some xs → s.heap.get? (loc j) = some (lobj xs (cap j))) →
      s.heap.get? S = some { cls := .type "list", dict := none, data := .seq #[.ref T] c, slots := #[] } → s.heap.get? T = some (lobj acc n) → T ≠ I → T ≠ S → acc.length + (lv.drop i).flatten.length ≤ sizeLine →
      (∀ h' tk T', (∀ b o, b ≠ I → b ≠ S → s.heap.get? b = some o → h'.get? b = some o) → (k = 0 → T' = T) → (k ≠ 0 → I < T' ∧ ∃ m, h'.get? T' = some (lobj (acc ++ (lv.drop i).flatten) m)) → R (.ok (.ret (.ref T'))) { s with heap := h', toks := tk }) →
      codeAny (model prog w) A (.builtin "sum.loop" ⟨[.ref I, .ref S, rawInt 2, rawInt 0], []⟩) R s := by
  intro k
  induction k with
  | zero =>
    intro i s T acc c n hk hi hst hls hS hT nI nS hz hR
    have hin : i = items.size := by omega
    subst hin
    refine codeAny_builtin F.entry_sum_loop ?_
    rw [Around.under_plainId F.plain_sum_loop _]
    show wpAny _ A.in1 (seqItems? (.ref S) >>= _) _ _ s
    refine wpAny_bind (wpAny_seqItems hS rfl ?_)
    show wpAny _ A.in1 (tryCatch (pyNext (.ref I)) _ >>= _) _ _ s
    refine wpAny_bind (wpAny_tryCatch (W.done s _ _ hst fun h' tk hk' => ?_))
    exact wpAny_pure (hR h' tk T (fun b o h1 h2 e => hk' b o (fun z => h1 (List.mem_singleton.mp z)) e) (fun _ => rfl) (fun z => absurd rfl z))
  | succ k ih =>
    intro i s T acc c n hk hi hst hls hS hT nI nS hz hR
    have hlt : i < items.size := by omega
    refine codeAny_builtin F.entry_sum_loop ?_
    rw [Around.under_plainId F.plain_sum_loop _]
    show wpAny _ A.in1 (seqItems? (.ref S) >>= _) _ _ s
    refine wpAny_bind (wpAny_seqItems hS rfl ?_)
    show wpAny _ A.in1 (tryCatch (pyNext (.ref I)) _ >>= _) _ _ s
    refine wpAny_bind (wpAny_tryCatch (W.item i s _ _ hlt hst fun v h' tk hP hst' hk' => ?_))
    have ev := hval i v hP
    subst ev
    have nSI : S ≠ I := fun e => hS0 (by rw [e]; exact List.mem_cons_self)
    have keep : ∀ b o, b ≠ I → s.heap.get? b = some o → h'.get? b = some o := fun b o h1 e => hk' b o (fun z => h1 (List.mem_singleton.mp z)) e
    have hS' := keep S _ nSI hS
    have hT' := keep T _ nI hT
    have hli : i < lv.length := by omega
    obtain ⟨xs, hxs⟩ : ∃ xs, lv[i]? = some xs := ⟨lv[i], List.getElem?_eq_getElem hli⟩
    have hx := keep (loc i) _ (hI i).1 (hls i xs (Nat.le_refl _) hxs)
    have ed : lv.drop i = xs :: lv.drop (i + 1) := by
      rw [List.drop_eq_getElem_cons hli]
      congr 1
      exact Option.some.inj ((List.getElem?_eq_getElem hli).symm.trans hxs)
    have hz2 : acc.length + (xs.length + (lv.drop (i + 1)).flatten.length) ≤ sizeLine := by
      rw [ed, List.flatten_cons, List.length_append] at hz
      exact hz
    show wpAny _ A.in1 ((holding [Value.ref (loc i)] (binaryOp .Add (.ref T) (.ref (loc i)))).attempt >>= _) _ _ _
    refine wpAny_bind (wpAny_attempt (wpAny_holding (PySem.P.add_list (s := { s with heap := h', toks := tk }) hT' hx ?_ (by rw [List.size_toArray, List.size_toArray]; omega))))
    show wpAny _ A.in1 (updateSeq S (fun _ => #[.ref h'.objs.size]) >>= _) _ _ _
    have ea : acc.toArray ++ xs.toArray = (acc ++ xs).toArray := by simp
    rw [ea]
    have pk : ∀ b o, h'.get? b = some o → (h'.push (lobj (acc ++ xs) 0)).get? b = some o := fun b o e => Heap.get?_push_of_some _ e
    have hS2 := pk S _ hS'
    have hnew : (h'.push (lobj (acc ++ xs) 0)).get? h'.objs.size = some (lobj (acc ++ xs) 0) := Heap.get?_push_size _ rfl
    have ltI : I < h'.objs.size := by
      obtain ⟨⟨o, e, _⟩, _⟩ := hst'
      exact Heap.lt_size e
    have ltS : S < h'.objs.size := Heap.lt_size hS'
    refine wpAny_bind ?_
    refine wpAny_updateSeq hS2 rfl ?_
    have hS3 := Heap.get?_update_self (Obj.mapSeq fun _ => #[Value.ref h'.objs.size]) hS2 rfl
    refine wpAny_bind (wpAny_letGo ?_)
    refine wpAny_bind ?_
    refine wpAny_updateSeq hS3 rfl (wpAny_pure ⟨plainId_quiet F.plain_sum_loop _, ?_⟩)
    have far : ∀ b o, b ≠ S → (h'.push (lobj (acc ++ xs) 0)).get? b = some o → (((h'.push (lobj (acc ++ xs) 0)).update S (Obj.mapSeq fun _ => #[Value.ref h'.objs.size])).update S (Obj.mapSeq fun _ => #[Value.ref h'.objs.size])).get? b = some o := fun b o hb e => (Heap.get?_update_other _ _ (Ne.symm hb)).trans ((Heap.get?_update_other _ _ (Ne.symm hb)).trans e)
    refine ih (i + 1) _ h'.objs.size (acc ++ xs) _ 0 (by omega) hlt (W.frame _ _ _ hst' fun b hb o e => far b o (fun z => hS0 (by rw [← z]; exact hb)) (pk b o e)) (fun j ys hj hy => far _ _ (hI j).2 (pk _ _ (keep _ _ (hI j).1 (hls j ys (by omega) hy)))) (Heap.get?_update_self _ hS3 rfl) (far _ _ (Nat.ne_of_gt ltS) hnew) (Nat.ne_of_gt ltI) (Nat.ne_of_gt ltS) (by rw [List.length_append]; omega) fun h'' tk'' T' hk'' z0 z1 => ?_
    refine hR h'' tk'' T' (fun b o h1 h2 e => hk'' b o h1 h2 (far b o h2 (pk b o (keep b o h1 e)))) (fun z => nomatch z) fun _ => ?_
    cases k with
    | zero =>
      have e := z0 rfl
      subst e
      refine ⟨ltI, 0, ?_⟩
      have e0 : (lv.drop (i + 1)).flatten = [] := by
        rw [List.drop_eq_nil_of_le (by omega)]
        rfl
      rw [ed, List.flatten_cons, e0, List.append_nil]
      exact hk'' _ _ (Nat.ne_of_gt ltI) (Nat.ne_of_gt ltS) (far _ _ (Nat.ne_of_gt ltS) hnew)
    | succ k =>
      obtain ⟨q1, m, q2⟩ := z1 (by omega)
      refine ⟨q1, m, ?_⟩
      rw [ed, List.flatten_cons, ← List.append_assoc]
      exact q2
end
section
variable {prog : Program} {w : World} {A : Around} {E : Value → Shared → Prop} {s : Shared} {Q : Value → Shared → Prop} {l T : Addr}
theorem iter_l {items : Array Value} {Q : Value → Shared → Prop} (hl : s.heap.IsList l items)
    (h : ∀ s₂ : Shared, s₂ = { s with heap := s.heap.push { cls := .type "list_iterator", data := .fields #[.ref l, .int 0 0] } } →
      (s₂.heap.IsListIter s.heap.objs.size l 0 ∧ s₂.heap.IsList l items) → l ≠ s.heap.objs.size → Q (.ref s.heap.objs.size) s₂) :
    wpAny (model prog w) A (pyIter (.ref l)) Q E s := by
  have hlt : l < s.heap.objs.size := by obtain ⟨_, e, _⟩ := hl; exact Heap.lt_size e
  exact wpAny_pyIter_list hl (h _ rfl ⟨⟨_, Heap.get?_push_size _ rfl, rfl, rfl⟩, hl.push _⟩ (Nat.ne_of_lt hlt))
theorem sum_lists (hh : A.handled = none) {items : Array Value} {n : Nat} (hl : s.heap.IsList l items) (lv : List (List Value)) (hlen : lv.length = items.size)
    (loc : Nat → Addr) (cap : Nat → Nat) (hval : ∀ (i : Nat) (v : Value), items[i]? = some v → v = .ref (loc i)) (hin : ∀ i, loc i < s.heap.objs.size)
    (hls : ∀ i xs, lv[i]? = some xs → s.heap.get? (loc i) = some (lobj xs (cap i))) (hT : s.heap.get? T = some (lobj [] n)) (hz : lv.flatten.length ≤ sizeLine)
    (h : ∀ h' tk T', (∀ b o, s.heap.get? b = some o → h'.get? b = some o) → (lv = [] → T' = T) → (lv ≠ [] → s.heap.objs.size ≤ T' ∧ ∃ m, h'.get? T' = some (lobj lv.flatten m)) → Q (.ref T') { s with heap := h', toks := tk }) :
    wpAny (model prog w) A (call (.builtin "sum") [.ref l, .ref T]) Q E s := by
  have tT : s.TypeIs (.ref T) "list" := ⟨_, hT, rfl⟩
  refine call_function_tree F.kind_sum F.plain_sum F.entry_sum (args_sum2 _ _) ?_
  unfold Builtin.«sum»
  simp only [List.length_cons, List.length_nil]
  rw [if_neg (by decide)]
  refine wpAny_bind (wpAny_of_eq (show Builtin.Builtins.bindParams "sum" ["start"] 0 ⟨[.ref T], []⟩ = pure [some (.ref T)] from rfl) ?_)
  refine wpAny_bind (iter_l hl fun s₂ e st nl => ?_)
  subst e
  have W := Walks.list (prog := prog) (w := w) (A := A.in1) hh s.heap.objs.size l nl items
  have ltT : T < s.heap.objs.size := Heap.lt_size hT
  have ltl : l < s.heap.objs.size := by obtain ⟨_, e, _⟩ := hl; exact Heap.lt_size e
  generalize hs2 : ({ s with heap := s.heap.push { cls := .type "list_iterator", data := .fields #[.ref l, .int 0 0] } } : Shared) = s2 at st ⊢
  have k2 : ∀ b o, s.heap.get? b = some o → s2.heap.get? b = some o := fun b o e => by rw [← hs2]; exact Heap.get?_push_of_some _ e
  have sz2 : s2.heap.objs.size = s.heap.objs.size + 1 := by rw [← hs2]; exact Heap.size_push _ _
  have nb : ∀ b : Addr, b < s.heap.objs.size → b ≠ s2.heap.objs.size := fun b hb => by
    rw [sz2]
    exact Nat.ne_of_lt (Nat.lt_succ_of_lt hb)
  have nI : s2.heap.objs.size ≠ s.heap.objs.size := by
    rw [sz2]
    exact Nat.succ_ne_self _
  have tT2 : s2.TypeIs (.ref T) "list" := ⟨_, k2 _ _ hT, rfl⟩
  refine wpAny_bind (wpAny_pure ?_)
  simp only [List.forIn_cons, List.forIn_nil]
  refine wpAny_bind (wpAny_bind (wpAny_bind (wpAny_isInstance (T := "list") (b := false) tT2 sub_l_str ?_)))
  simp only [Bool.false_eq_true, if_false]
  refine wpAny_pure (wpAny_bind (wpAny_bind (wpAny_isInstance (T := "list") (b := false) tT2 sub_l_bytes ?_)))
  simp only [Bool.false_eq_true, if_false]
  refine wpAny_pure (wpAny_bind (wpAny_bind (wpAny_isInstance (T := "list") (b := false) tT2 sub_l_ba ?_)))
  simp only [Bool.false_eq_true, if_false]
  refine wpAny_pure (wpAny_pure ?_)
  refine wpAny_bind (wpAny_newObj_type ?_)
  have p3 : ∀ b o, s2.heap.get? b = some o → (s2.heap.push { cls := .type "list", data := .seq #[.ref T] }).get? b = some o := fun b o e => Heap.get?_push_of_some _ e
  refine wpAny_pure ⟨plainId_quiet F.plain_sum_loop _, sum_lists_loop W s2.heap.objs.size (fun z => (List.mem_cons.mp z).elim (fun e => nI e) fun z => nb l ltl (List.mem_singleton.mp z).symm) lv hlen loc cap hval (fun i => ⟨Nat.ne_of_lt (hin i), nb _ (hin i)⟩) items.size 0 _ T [] 0 n rfl (Nat.zero_le _)
    (W.frame _ _ _ st fun b _ o e => p3 b o e) (fun j xs _ e => p3 _ _ (k2 _ _ (hls j xs e))) (Heap.get?_push_size _ rfl) (p3 _ _ (k2 _ _ hT)) (Nat.ne_of_lt ltT) (nb _ ltT) (by simpa using hz) fun h' tk T' hk z0 z1 => ?_⟩
  subst hs2
  refine h h' tk T' (fun b o e => hk b o (Nat.ne_of_lt (Heap.lt_size e)) (nb _ (Heap.lt_size e)) (p3 _ _ (k2 _ _ e))) (fun e => z0 ?_) fun e => ?_
  · rw [← hlen, e]; rfl
  · obtain ⟨q1, m, q2⟩ := z1 (by rw [← hlen]; intro z; exact e (List.eq_nil_of_length_eq_zero z))
    exact ⟨Nat.le_of_lt q1, m, q2⟩
end
section
variable {X : Cx} {pins : List (Addr × Obj)} {σ : St} {H : Hp} {s : Shared}
theorem lists_of (I : Inv X pins σ H s) : ∀ {as : List Addr} {xss : List (List V)}, Paired (fun b xs => H b = some (.lst xs)) as xss →
    ∃ lv : List (List Value × Nat), lv.length = as.length ∧ Vals xss.flatten (lv.map Prod.fst).flatten ∧ ∀ (i : Nat) (b : Addr), as[i]? = some b → ∃ q : List Value × Nat, lv[i]? = some q ∧ s.heap.get? b = some (lobj q.1 q.2)
  | _, _, .nil => ⟨[], rfl, .nil, fun i b e => by simp at e⟩
  | _, _, .cons h t => by
    obtain ⟨lv, e1, e2, e3⟩ := lists_of I t
    obtain ⟨z, its, n, r, hl, e⟩ := I.lstM h
    refine ⟨(its, n) :: lv, by simp [e1], ?_, fun i b hb => ?_⟩
    · show Vals (_ ++ _) (its ++ (lv.map Prod.fst).flatten)
      exact Vals.append r e2
    · cases i with
      | zero => cases hb; exact ⟨_, rfl, e⟩
      | succ i => exact e3 i b hb
theorem vals_refs : ∀ {as : List Addr} {its : List Value}, Vals (as.map V.ref) its → its = as.map Value.ref
  | [], _, r => by cases r; rfl
  | a :: as, _, r => by
    cases r with
    | cons p q =>
      rw [vals_refs q]
      cases p
      rfl
/-- sum(xs, []) of a list of lists -/
def rSumL : List V → Hp → VK → Prop := fun vs H Q => ∃ (a t : Addr) (as : List Addr) (xss : List (List V)), vs = [.ref a, .ref t] ∧ H a = some (.lst (as.map V.ref)) ∧ H t = some (.lst []) ∧ Paired (fun b xs => H b = some (.lst xs)) as xss ∧ xss.flatten.length ≤ sizeLine ∧
  ∀ (p : Addr) (H' : Hp), Same H H' → H' p = some (.lst xss.flatten) → Q (.ref p) H'
theorem cr_sumL (hc : X.calm = true) : CallR X (.builtin "sum") rSumL := by
  intro pins s σ H vs us Q I r h
  obtain ⟨a, t, as, xss, rfl, ha, ht, hp, hz, q1⟩ := h
  obtain rfl : us = [.ref a, .ref t] := by
    cases r with
    | cons p1 r =>
      cases r with
      | cons p2 r =>
        cases r
        cases p1
        cases p2
        rfl
  obtain ⟨za, its, n, ra, la, ea⟩ := I.lstM ha
  obtain ⟨zt, itt, nt, rt, lt, et⟩ := I.lstM ht
  obtain rfl : itt = [] := by cases rt; rfl
  have ei := vals_refs ra
  subst ei
  obtain ⟨lv, e1, e2, e3⟩ := lists_of I hp
  have hl : s.heap.IsList a (as.map Value.ref).toArray := ⟨_, ea, rfl, n, rfl⟩
  have pl := Paired.length hp
  refine sum_lists (I.ok.hd hc) hl (lv.map Prod.fst) (by simp [e1]) (fun i => (as[i]?).getD a) (fun i => ((lv[i]?).map Prod.snd).getD 0) ?_ ?_ ?_ et (by rw [← e2.length]; exact hz) ?_
  · intro i v e
    simp only [List.getElem?_toArray, List.getElem?_map, Option.map_eq_some_iff] at e
    obtain ⟨b, e, rfl⟩ := e
    rw [e]
    rfl
  · intro i
    cases e : as[i]? with
    | none => exact Heap.lt_size ea
    | some b =>
      obtain ⟨q, _, e5⟩ := e3 i b e
      exact Heap.lt_size e5
  · intro i xs e
    simp only [List.getElem?_map, Option.map_eq_some_iff] at e
    obtain ⟨q, e, rfl⟩ := e
    have hi : i < as.length := by
      have := (List.getElem?_eq_some_iff.mp e).1
      omega
    obtain ⟨q', e4, e5⟩ := e3 i as[i] (List.getElem?_eq_getElem hi)
    rw [e] at e4
    cases e4
    rw [e, List.getElem?_eq_getElem hi]
    exact e5
  · intro h' tk T' k z0 z1
    by_cases hn : lv = []
    · have hx : xss = [] := List.eq_nil_of_length_eq_zero (by rw [← pl, ← e1, hn]; rfl)
      rw [z0 (by rw [hn]; rfl)]
      exact ⟨.ref t, H, I.kept k, rfl, q1 _ _ (Same.refl _) (by rw [hx]; exact ht)⟩
    · have hx : xss ≠ [] := fun z => hn (List.eq_nil_of_length_eq_zero (by rw [e1, pl, z]; rfl))
      obtain ⟨q, m, e⟩ := z1 (by intro z; exact hn (List.map_eq_nil_iff.mp z))
      exact ⟨.ref T', _, I.laid (o := .lst xss.flatten) k q ⟨hz, _, m, e2, e⟩, rfl, q1 _ _ (same_new (I.hok.fresh q)) upd_same⟩
end
end L3

/-! what is told is most general: the other way about it is the same but for names -/
namespace L3
open PySem L2
def Absb (θ b : By) : Prop := ∀ k : Kd, (k.put b).put θ = k.put θ
def Solves (θ : By) (l : List (Kd × Kd)) : Prop := ∀ p ∈ l, p.1.put θ = p.2.put θ
theorem put_nil : ∀ k : Kd, k.put [] = k
  | .var _ => rfl
  | .con _ => rfl
  | .app a c => by
    show Kd.app (a.put []) (c.put []) = _
    rw [put_nil a, put_nil c]
theorem Absb.nil (θ : By) : Absb θ [] := fun k => by rw [put_nil]
theorem put_abs_one {θ : By} {x : Str} {t : Kd} (h : (Kd.var x).put θ = t.put θ) : ∀ k : Kd, (k.put (one x t)).put θ = k.put θ
  | .var y => by
    show ((lk (one x t) y).getD (.var y)).put θ = _
    rw [lk_one]
    by_cases e : x = y
    · rw [if_pos e]
      subst e
      exact h.symm
    · rw [if_neg e]
      rfl
  | .con _ => rfl
  | .app a c => by
    show Kd.app ((a.put (one x t)).put θ) ((c.put (one x t)).put θ) = Kd.app (a.put θ) (c.put θ)
    rw [put_abs_one h a, put_abs_one h c]
theorem Bind.abs {A C t : Kd} {b : By} {x : Str} (h : Bind A C x t) (e : A.put b = C.put b) : (Kd.var x).put b = t.put b := by
  rcases h with ⟨e1, e2⟩ | ⟨_, e1, e2⟩
  · rw [← e1, ← e2]; exact e
  · rw [← e1, ← e2]; exact e.symm
theorem Solves.head {θ b : By} {p : Kd × Kd} {r : List (Kd × Kd)} (ab : Absb θ b) (s : Solves θ (p :: r)) : (p.1.put b).put θ = (p.2.put b).put θ := by
  rw [ab, ab]
  exact s p List.mem_cons_self
theorem Solves.tail {θ : By} {p : Kd × Kd} {r : List (Kd × Kd)} (s : Solves θ (p :: r)) : Solves θ r := fun q hq => s q (List.mem_cons_of_mem _ hq)
theorem Absb.bind {θ b : By} {x : Str} {t : Kd} (ab : Absb θ b) (hx : lk b x = none) (h : (Kd.var x).put θ = t.put θ) : Absb θ (sub1 x t b) := fun k => by
  rw [put_sub1 hx, put_abs_one h, ab]
theorem Solves.parts {sw : Bool} {θ b : By} {p : Kd × Kd} {r : List (Kd × Kd)} {a1 a2 c1 c2 : Kd} (ab : Absb θ b) (s : Solves θ (p :: r)) (ea : p.1.put b = .app a1 a2) (ec : p.2.put b = .app c1 c2) : Solves θ (pr sw a1 c1 :: pr sw a2 c2 :: r) := by
  have h := s.head ab
  rw [ea, ec] at h
  have h' : Kd.app (a1.put θ) (a2.put θ) = .app (c1.put θ) (c2.put θ) := h
  intro q hq
  rcases List.mem_cons.mp hq with e | hq
  · rw [e]; exact pr_eq.mpr (Kd.app.inj h').1
  rcases List.mem_cons.mp hq with e | hq
  · rw [e]; exact pr_eq.mpr (Kd.app.inj h').2
  · exact s.tail q hq
theorem Sol.mgu {sw : Bool} {l : List (Kd × Kd)} {b : By} {o : Option By} {n : Nat} (h : Sol sw l b o n) : ∀ b', o = some b' → Clean b → ∀ θ, Absb θ b → Solves θ l → Absb θ b' := by
  induction h with
  | nil => intro b' e _ θ ab _; cases e; exact ab
  | same _ _ ih => intro b' e c θ ab s; exact ih b' e c θ ab s.tail
  | @bind p r b o n x t _ hb ho _ ih =>
    intro b' e c θ ab s
    have hx : lk b x = none := hb.occ.elim (fun q => c.off q) (fun q => c.off q)
    have c2 := c.sub hx ho fun y q => (hb.occT q).elim (fun q => c.off q) (fun q => c.off q)
    exact ih b' e c2 θ (ab.bind hx (hb.abs (s.head ab))) s.tail
  | ring => intro b' e; cases e
  | app _ ea ec _ ih => intro b' e c θ ab s; exact ih b' e c θ ab (s.parts ab ea ec)
  | clash => intro b' e; cases e
theorem occ_size {θ : By} {x : Str} : ∀ {t : Kd}, t.occ x → ((Kd.var x).put θ).size ≤ (t.put θ).size
  | .var y, h => by
    have e : y = x := h
    rw [e]
    exact Nat.le_refl _
  | .con _, h => h.elim
  | .app a c, h => by
    show _ ≤ (a.put θ).size + (c.put θ).size + 1
    rcases (show a.occ x ∨ c.occ x from h) with h | h
    · have := occ_size (θ := θ) h; omega
    · have := occ_size (θ := θ) h; omega
theorem ring_no {θ : By} {x : Str} {t : Kd} (ho : t.occ x) (ne : ¬ t = .var x) (e : (Kd.var x).put θ = t.put θ) : False := by
  cases t with
  | var y =>
    have e2 : y = x := ho
    exact ne (by rw [e2])
  | con _ => exact ho
  | app a c =>
    have s : ((Kd.var x).put θ).size = (a.put θ).size + (c.put θ).size + 1 := by rw [e]; rfl
    rcases (show a.occ x ∨ c.occ x from ho) with h | h
    · have := occ_size (θ := θ) h; omega
    · have := occ_size (θ := θ) h; omega
theorem Sol.dead {sw : Bool} {l : List (Kd × Kd)} {b : By} {o : Option By} {n : Nat} (h : Sol sw l b o n) : o = none → Clean b → ∀ θ, Absb θ b → ¬ Solves θ l := by
  induction h with
  | nil => intro e; cases e
  | same _ _ ih => intro e c θ ab s; exact ih e c θ ab s.tail
  | @bind p r b o n x t _ hb ho _ ih =>
    intro e c θ ab s
    have hx : lk b x = none := hb.occ.elim (fun q => c.off q) (fun q => c.off q)
    have c2 := c.sub hx ho fun y q => (hb.occT q).elim (fun q => c.off q) (fun q => c.off q)
    exact ih e c2 θ (ab.bind hx (hb.abs (s.head ab))) s.tail
  | @ring p r b x t ne hb ho =>
    intro _ c θ ab s
    refine ring_no ho (fun e => ne ?_) (hb.abs (s.head ab))
    rcases hb with ⟨e1, e2⟩ | ⟨_, e1, e2⟩
    · rw [e1, e2, e]
    · rw [e1, e2, e]
  | app _ ea ec _ ih => intro e c θ ab s; exact ih e c θ ab (s.parts ab ea ec)
  | @clash p r b ne hb ha =>
    intro _ c θ ab s
    have h := s.head ab
    generalize p.1.put b = A at ne hb ha h
    generalize p.2.put b = C at ne hb ha h
    cases A with
    | var x => exact hb x C (.inl ⟨rfl, rfl⟩)
    | con x =>
      cases C with
      | var y => exact hb y _ (.inr ⟨(fun z q => by cases q), rfl, rfl⟩)
      | con y => exact ne h
      | app _ _ => cases h
    | app a1 a2 =>
      cases C with
      | var y => exact hb y _ (.inr ⟨(fun z q => by cases q), rfl, rfl⟩)
      | con y => cases h
      | app c1 c2 => exact ha a1 a2 c1 c2 ⟨rfl, rfl⟩
/-- both ways belong together -/
theorem uni_both {l : List (Kd × Kd)} {o1 o2 : Option (By × By)} {n1 n2 : Nat} (u1 : Uni false l [] [] o1 n1) (u2 : Uni true l [] [] o2 n2) :
    (o1 = none ∧ o2 = none) ∨ ∃ f1 b1 f2 b2, o1 = some (f1, b1) ∧ o2 = some (f2, b2) ∧ Solves b1 l ∧ Absb b2 b1 ∧ Absb b1 b2 ∧ ∀ y, ¬ lk b1 y = none → y ∈ left [] l := by
  obtain ⟨s1, m1, h1, e1⟩ := u1.meets _ .nil .nil
  obtain ⟨s2, m2, h2, e2⟩ := u2.meets _ .nil .nil
  cases o1 with
  | none =>
    cases o2 with
    | none => exact .inl ⟨rfl, rfl⟩
    | some q2 =>
      obtain ⟨f2, b2⟩ := q2
      obtain ⟨e2, _, c2⟩ := e2
      have g := (h2.good b2 e2 .nil).2.2
      exact absurd g (h1.dead e1 .nil b2 (.nil b2))
  | some q1 =>
    obtain ⟨f1, b1⟩ := q1
    obtain ⟨e1, _, c1⟩ := e1
    have g1 := (h1.good b1 e1 .nil).2.2
    cases o2 with
    | none => exact absurd g1 (h2.dead e2 .nil b1 (.nil b1))
    | some q2 =>
      obtain ⟨f2, b2⟩ := q2
      obtain ⟨e2, _, c2⟩ := e2
      have g2 := (h2.good b2 e2 .nil).2.2
      refine .inr ⟨f1, b1, f2, b2, rfl, rfl, g1, h1.mgu b1 e1 .nil b2 (.nil b2) g2, h2.mgu b2 e2 .nil b1 (.nil b1) g1, fun y hy => ?_⟩
      rcases h1.keys b1 e1 .nil y hy with q | q
      · exact absurd rfl q
      · exact q
/-- all put in, over the same words -/
theorem Dep.of {ws : List Str} {f : By} (hf : ∀ q ∈ f, Kd.of ws q.2) {k r : Kd} {n : Nat} (q : Dep f k r n) : Kd.of ws k → Kd.of ws r := by
  induction q with
  | app _ _ i1 i2 => exact fun h => ⟨i1 h.1, i2 h.2⟩
  | var e _ ih => exact fun _ => ih (hf _ (lk_mem e))
  | free _ => exact fun h => h
  | con => exact fun h => h
theorem USt.bigOf {ws : List Str} {f b : By} (h : USt ws f b) {k : Kd} (o : Org ws k) : Kd.of ws (k.put b) := by
  obtain ⟨n, _, q⟩ := (h.big o).2.1
  exact q.of (fun q hq => (h.ft q hq).2.2) o.2.2
end L3

namespace L3
open PySem L2
def topS (i : Nat) : Stmt := PySem.Challenge.pw_leastneeds_k07_whole_most_general_ways.main.body.getD i (.Pass ⟨0, 0, 0, 0⟩)
section
variable {P : Program} {w : World} {K : PySem.W.Frag} {mg : Str → Option Value} {base : Heap}

abbrev s__law_begin : Stmt := topS 8
abbrev N__law_begin : List Str := ["_law_script"]
theorem sc__law_begin : FnScope N__law_begin ["_law_script"] (defScope s__law_begin) := ⟨rfl, rfl, rfl, by decide +kernel, rfl, by decide +kernel, by decide +kernel⟩
def spBegin (K : PySem.W.Frag) : Sp := fun vs H Q _ => ∃ (a : Addr) (ns : List Int), vs = [.ref a] ∧ SqL K H a (ns.map V.int) ∧ ∀ (H' : Hp) (t c : Addr), Same H H' → H t = none → Tape K H' t c 1000000 → Q (.ref t) H'
theorem cut63 (ns : List Int) : cutV (ns.map V.int) none (some 63) = (ns.take 63).map V.int := by
  unfold cutV
  rw [HT.sIx_none, show (63 : Int) = ((63 : Nat) : Int) from rfl, HT.sIx_nat, List.drop_zero, List.length_map, Nat.sub_zero, List.map_take]
  by_cases h : 63 ≤ ns.length
  · rw [Nat.min_eq_left h]
  · rw [Nat.min_eq_right (by omega), List.take_of_length_le (by simp), List.take_of_length_le (by simp; omega)]
theorem ok_begin {f : Addr} {fd : FuncData} (F : Fun K "_law_begin" "_law_begin" s__law_begin f fd) : FnOk P w K mg base CX0 1 f fd ["_law_script"] (spBegin K) := by
  refine F.ok sc__law_begin (fun vs H Q E h => ?_) (fun cdv A outer s H vs Q E hr h => ?_)
  · obtain ⟨a, ns, rfl, _⟩ := h
    rfl
  · obtain ⟨a, ns, rfl, hS, k⟩ := h
    refine ⟨_, (pss_one (ps_ret (pe_disp (pps_cons pe_str (pe_orT (pe_slice sl_list (pv 0) po_none (po_some pe_int)) (pe_one (pe_lst (pa_cons pe_int pa_nil)))) (pps_cons pe_str pe_int (pps_cons pe_str pe_int pps_nil))) (by rfl) (by rfl) (fun z => by cases z) (by decide)))), ?_⟩
    intro t ht
    have s0 : Same H (upd H t (.dK [])) := same_new ht
    refine ⟨_, rfl, _, rfl, a, _, rfl, s0.seq hS, fun q hq => ?_⟩
    rw [cut63]
    have nq : t ≠ q := fun e => by
      rw [← e, upd_same] at hq
      cases hq
    have s1 : Same (upd H t (.dK [])) (upd (upd H t (.dK [])) q (.lst ((ns.take 63).map V.int))) := same_new hq
    -- what stands at the end
    have fin : ∀ (H2 : Hp) (c : Addr) (ms : List Int), Same (upd H t (.dK [])) H2 → H2 c = some (.lst (ms.map V.int)) → c ≠ t → 0 < ms.length → ms.length ≤ 63 →
        H2 t = some (.dK []) ∧ ∃ kvs : List (Key × V), [(V.str "cells", V.ref c), (V.str "place", V.int 0), (V.str "left", V.int 0)] = kvs.map (fun kv => (kV kv.1, kv.2)) ∧ kvs.length ≤ 15 ∧ Q (.ref t) (upd H2 t (.dK (mergeK [] kvs))) := by
      intro H2 c ms h2 hc nc h0 h63
      refine ⟨h2 _ _ upd_same, tp c 0 0, rfl, by show 3 ≤ 15; decide, ?_⟩
      refine k _ t c (fun b o e => ?_) ht ⟨0, 0, ms, ?_, SqL.of ?_, nc, h0, h63, by omega, by omega, by omega⟩
      · have n : b ≠ t := ne_of_none e ht
        rw [upd_ne n]
        exact h2 _ _ (s0 _ _ e)
      · rw [upd_same]
        rfl
      · rw [upd_ne nc]
        exact hc
    refine ⟨_, .inl ⟨_, SqL.of upd_same, rfl⟩, ?_⟩
    cases hns : ns.take 63 with
    | nil =>
      rw [hns] at s1
      refine iteF ?_
      refine ⟨by decide, fun r hr2 => ?_⟩
      refine fin _ r [0] (s1.trans (same_new hr2)) upd_same (fun e => ?_) (by decide) (by decide)
      rw [e, upd_ne nq, upd_same] at hr2
      cases hr2
    | cons z zs =>
      refine iteT ?_
      refine fin _ q (z :: zs) (by rw [← hns]; exact s1) (by rw [upd_same]) nq.symm (Nat.zero_lt_succ _) ?_
      rw [← hns, List.length_take]
      omega

/-! ### a number from the tape -/
abbrev s__law_draw : Stmt := topS 9
abbrev N__law_draw : List Str := ["_law_tape", "_law_many", "_law_spot", "_law_size", "_law_cell", "_law_got"]
theorem sc__law_draw : FnScope N__law_draw ["_law_tape", "_law_many"] (defScope s__law_draw) := ⟨rfl, rfl, rfl, by decide +kernel, rfl, by decide +kernel, by decide +kernel⟩
theorem get_left {H : Hp} {t c : Addr} {p l : Int} (h : H t = some (.dK (tp c p l))) : DGet H t (.str "left") (some (.int l)) := DGet.k (k := .inr "left") h
theorem get_place {H : Hp} {t c : Addr} {p l : Int} (h : H t = some (.dK (tp c p l))) : DGet H t (.str "place") (some (.int p)) := DGet.k (k := .inr "place") h
theorem get_cells {H : Hp} {t c : Addr} {p l : Int} (h : H t = some (.dK (tp c p l))) : DGet H t (.str "cells") (some (.ref c)) := DGet.k (k := .inr "cells") h
theorem put_left {H : Hp} {t c : Addr} {p l q : Int} (h : H t = some (.dK (tp c p l))) : DPut H t (.str "left") (.int q) (upd H t (.dK (tp c p q))) := DPut.k (k := .inr "left") (v := .int q) h (by show 3 < sizeLine; decide)
theorem put_place {H : Hp} {t c : Addr} {p l q : Int} (h : H t = some (.dK (tp c p l))) : DPut H t (.str "place") (.int q) (upd H t (.dK (tp c q l))) := DPut.k (k := .inr "place") (v := .int q) h (by show 3 < sizeLine; decide)
def spDraw (K : PySem.W.Frag) : Sp := fun vs H Q _ => ∃ (t c : Addr) (n : Int) (b : Nat), vs = [.ref t, .int n] ∧ 1 ≤ n ∧ n < 1000000 ∧ Tape K H t c (b + 1) ∧
  ∀ (H' : Hp) (r : Int), Ext t H H' → Tape K H' t c b → 0 ≤ r → r < n → Q (.int r) H'
theorem ok_draw {f : Addr} {fd : FuncData} (F : Fun K "_law_draw" "_law_draw" s__law_draw f fd) (B : Bl mg) : FnOk P w K mg base CX0 1 f fd ["_law_tape", "_law_many"] (spDraw K) := by
  refine F.ok sc__law_draw (fun vs H Q E h => ?_) (fun cdv A outer s H vs Q E hr h => ?_)
  · obtain ⟨t, c, n, b, rfl, _⟩ := h
    rfl
  · obtain ⟨t, c, n, b, rfl, hn1, hn2, ⟨p, l, ns, h1, h2, h3, h4, h5, h6, h7, h8⟩, k⟩ := h
    have hu := hu_of hr
    refine ⟨_, (pss_cons (ps_if (pt_cmpR op_lt (pe_dget hu (pv 0) pe_str (fun _ _ => rfl)) (pv 1) (nomark _))
  (pss_cons (ps_par (i := 2) (j := 3) (by rfl) sc__law_draw.nd rfl rfl (by decide) rfl rfl (pa_cons (pe_dget hu (pv 0) pe_str (fun _ _ => rfl)) (pa_cons (pe_callB call_len (by rfl) B.len PySem.boot_len (pa_cons (pe_dget hu (pv 0) pe_str (fun _ _ => rfl)) pa_nil)) pa_nil)) (by rfl))
  (pss_cons (ps_asg (pe_tup (pa_cons (pe_ix ix_list (pe_dget hu (pv 0) pe_str (fun _ _ => rfl)) (pe_op op_mod (pe_callTy call_int1 (by rfl) B.int (by decide +kernel) (pa_cons (pv 2) pa_nil)) (pv 3)) (fun _ _ => rfl)) (pa_cons (pe_op op_add (pv 2) pe_int) pa_nil))) (pg_tup (by rfl) (pgs_cons (pg_name (i := 4) sc__law_draw.nd rfl (Or.inl rfl)) (pgs_cons (pg_sub (pv 0) pe_str (set_dict hu)) pgs_nil))))
  (pss_cons (ps_dput hu (pv 0) pe_str (pe_op op_mod (pe_callTy call_int1 (by rfl) B.int (by decide +kernel) (pa_cons (pe_op op_pow (pe_op op_add (pe_op op_add (pe_op op_mod (pe_callTy call_int1 (by rfl) B.int (by decide +kernel) (pa_cons (pv 4) pa_nil)) pe_int) (pe_op op_mul pe_int (pv 2))) pe_int) pe_int) pa_nil)) (pe_op op_add (pe_op op_pow pe_int pe_int) pe_int)) rfl)
  (pss_one (ps_if (PW.pt (pw_and (pt_cmpR op_ge (pv 4) (pe_op op_pow pe_int pe_int) (nomark _)) (pw_and1 (pt_cmpR op_lt (pv 2) (pv 3) (nomark _)))))
  (pss_one (ps_dput hu (pv 0) pe_str (pe_op op_sub (pv 4) (pe_op op_pow pe_int pe_int)) rfl))
  pss_nil)))))
  pss_nil)
  (pss_cons (ps_asg (pe_tup (pa_cons (pe_op op_mod (pe_callTy call_int1 (by rfl) B.int (by decide +kernel) (pa_cons (pe_dget hu (pv 0) pe_str (fun _ _ => rfl)) pa_nil)) (pv 1)) (pa_cons (pe_op op_fdivN (pe_dget hu (pv 0) pe_str (fun _ _ => rfl)) (pv 1)) pa_nil))) (pg_tup (by rfl) (pgs_cons (pg_name (i := 5) sc__law_draw.nd rfl (Or.inl rfl)) (pgs_cons (pg_sub (pv 0) pe_str (set_dict hu)) pgs_nil))))
  (pss_one (ps_ret (pv 5))))), ?_⟩
    -- the last two rows, from any tape
    have fin : ∀ (H1 : Hp) (p l : Int) (v2 v3 v4 : Option V), Ext t H H1 → H1 t = some (.dK (tp c p l)) → SqL K H1 c (ns.map V.int) → 0 ≤ p → p + b ≤ 1000000 → 0 ≤ l →
        tSeq (tAsg (tTup (tCons (tOp (rI (fun _ j => 0 < j) fun i j => .int (i % j)) (tCB (fun xs H Q => (∃ i, xs = [.int i] ∧ Q (.int i) H) ∨ ∃ k, xs = [.bl k] ∧ Q (.int (if k then 1 else 0)) H) (tCons (tDGet (tVar 0) (tC (.str "left"))) tNil)) (tVar 1)) (tCons (tOp (rI CDivN fun i j => .int (i.fdiv j)) (tDGet (tVar 0) (tC (.str "left"))) (tVar 1)) tNil)))
          (gTup K 2 (gCons (gName 5) (gCons (gSub (tVar 0) (tC (.str "left")) rSetD) gNil)))) (tRet (tVar 5)) { nx := fun _ H' => Q .non H', rt := Q } [some (.ref t), some (.int n), v2, v3, v4, none] H1 := by
      intro H1 p l v2 v3 v4 e1 g1 g2 g3 g4 g5
      refine ⟨_, rfl, _, _, rfl, get_left g1, .inl ⟨_, rfl, _, rfl, _, _, rfl, rfl, (by omega), ?_⟩⟩
      refine ⟨_, rfl, _, _, rfl, get_left g1, _, rfl, _, _, rfl, rfl, ⟨by omega, by omega⟩, slz rfl, fun q hq => ?_⟩
      have nq : t ≠ q := ne_of_none g1 hq
      refine ⟨q, _, rfl, SqT.of upd_same, rfl, _, _, rfl, _, _, rfl, _, rfl, t, _, rfl, put_left (by rw [upd_ne nq]; exact g1), rfl, ?_⟩
      refine ⟨_, rfl, ?_⟩
      have e2 : Ext t H (upd H1 q (.tup [.int (l % n), .int (l.fdiv n)])) := e1.trans (Ext.new hq)
      refine k _ _ (e2.trans Ext.put) ⟨p, l.fdiv n, ns, upd_same, (SqL.ext g2 ((Ext.new hq).trans Ext.put) h3), h3, h4, h5, g3, g4, Int.fdiv_nonneg g5 (by omega)⟩ (Int.emod_nonneg _ (by omega)) (Int.emod_lt_of_pos _ (by omega))
    refine ⟨_, rfl, _, _, rfl, get_left h1, _, rfl, _, _, rfl, rfl, _, rfl, ?_⟩
    refine ite2 (fun hc => ?_) (fun hc => ?_)
    · refine ⟨_, rfl, _, _, rfl, get_place h1, _, rfl, _, _, rfl, get_cells h1, _, _, rfl, .inl ⟨_, h2, rfl⟩, _, _, rfl, ?_⟩
      have hm : p % ((ns.map V.int).length : Int) = ((p % ((ns.map V.int).length : Int)).toNat : Int) := (Int.toNat_of_nonneg (Int.emod_nonneg _ (by rw [List.length_map]; omega))).symm
      have hlt : (p % ((ns.map V.int).length : Int)).toNat < ns.length := by
        have := Int.emod_lt_of_pos p (show (0 : Int) < ((ns.map V.int).length : Int) by rw [List.length_map]; omega)
        rw [List.length_map] at this ⊢
        omega
      refine ⟨_, rfl, _, _, rfl, get_cells h1, _, rfl, .inl ⟨_, rfl, _, rfl, _, _, rfl, rfl, (by rw [List.length_map]; omega), c, _, _, V.int (ns[(p % ((ns.map V.int).length : Int)).toNat]), rfl, rfl, h2, at_of hm (by rw [List.getElem?_map, List.getElem?_eq_getElem hlt]; rfl), ?_⟩⟩
      generalize ns[(p % ((ns.map V.int).length : Int)).toNat] = cell
      refine ⟨_, rfl, _, _, rfl, rfl, slz rfl, fun q hq => ?_⟩
      have nq : t ≠ q := ne_of_none h1 hq
      have g0 : (upd H q (.tup [.int cell, .int (p + 1)])) t = some (.dK (tp c p l)) := by rw [upd_ne nq]; exact h1
      refine ⟨q, _, rfl, SqT.of upd_same, rfl, _, _, rfl, _, _, rfl, _, rfl, t, _, rfl, put_place g0, rfl, ?_⟩
      have e1 : Ext t H (upd (upd H q (.tup [.int cell, .int (p + 1)])) t (.dK (tp c (p + 1) l))) := (Ext.new hq).trans Ext.put
      have hu1 : 0 ≤ cell % 2147483587 := Int.emod_nonneg _ (by decide)
      have hu2 : cell % 2147483587 < 2147483587 := Int.emod_lt_of_pos _ (by decide)
      refine ⟨_, rfl, .inl ⟨_, rfl, _, _, rfl, rfl, (show (0 : Int) < 2147483587 by decide), _, rfl, _, _, rfl, rfl, .inr ⟨by omega, by omega⟩, _, _, rfl, rfl, _, _, rfl, rfl, ?_⟩⟩
      refine ⟨_, _, rfl, rfl, ⟨by decide, by decide, ?_⟩, .inl ⟨_, rfl, ?_⟩⟩
      · show (cell % 2147483587 + 48271 * p + 16807).natAbs < 2 ^ 64
        omega
      generalize (cell % 2147483587 + 48271 * p + 16807) ^ (13 : Int).toNat = big
      refine ⟨_, _, rfl, rfl, ⟨by decide, by decide, by decide⟩, _, _, rfl, rfl, _, _, rfl, rfl, (show (0 : Int) < 10 ^ (50 : Int).toNat + 57 by decide +kernel), ?_⟩
      refine ⟨_, rfl, t, _, rfl, put_left upd_same, ?_⟩
      have hl : 0 ≤ big % (10 ^ (50 : Int).toNat + 57) := Int.emod_nonneg _ (by decide +kernel)
      generalize big % (10 ^ (50 : Int).toNat + 57) = l2 at hl ⊢
      have e3 : Ext t H (upd (upd (upd H q (.tup [.int cell, .int (p + 1)])) t (.dK (tp c (p + 1) l))) t (.dK (tp c (p + 1) l2))) := e1.trans Ext.put
      refine ⟨_, rfl, _, _, rfl, rfl, ⟨by decide, by decide, by decide⟩, _, _, rfl, rfl, _, rfl, ?_⟩
      refine ite2 (fun hc1 => ?_) (fun hc1 => ?_)
      · refine ⟨_, rfl, _, rfl, _, _, rfl, rfl, _, rfl, ?_⟩
        refine ite2 (fun hc2 => ?_) (fun hc2 => ?_)
        · refine ⟨_, rfl, _, _, rfl, rfl, ⟨by decide, by decide, by decide⟩, _, _, rfl, rfl, ?_⟩
          refine ⟨_, rfl, t, _, rfl, put_left upd_same, ?_⟩
          have hc3 : (10 : Int) ^ (18 : Int).toNat ≤ cell := of_decide_eq_true hc1
          exact fin _ (p + 1) _ _ _ _ (e3.trans Ext.put) upd_same (SqL.ext h2 (e3.trans Ext.put) h3) (by omega) (by omega) (by omega)
        · exact fin _ (p + 1) _ _ _ _ e3 upd_same (SqL.ext h2 e3 h3) (by omega) (by omega) hl
      · refine iteF ?_
        exact fin _ (p + 1) _ _ _ _ e3 upd_same (SqL.ext h2 e3 h3) (by omega) (by omega) hl
    · exact fin H p l none none none (Ext.refl _ _) h1 h2 h6 (by omega) h8
end
end L3

namespace L3
open PySem L2
section
variable {P : Program} {w : World} {K : PySem.W.Frag} {mg : Str → Option Value} {base : Heap}
theorem Fun.kn {x : Str} {st : Stmt} {f : Addr} {fd : FuncData} {k : Nat} {ps : List Str} {sp : Sp} (F : Fun K x x st f fd) (hm : mg x = some (.ref f)) (h : FnOk P w K mg base CX0 k f fd ps sp)
    (b : ∀ (kV doc pm : Value) (an : Option Addr) (cdv ct : Value) (us : List Value), us.length = ps.length → bindArgs (PySem.W.fnOf x x (defArgs st) (defBody st) (defScope st) .none kV doc pm an cdv ct) ⟨us, []⟩ = pure (ps.zip us)) : Kn P w K mg base k x ps sp :=
  ⟨f, fd, h, hm, F.kp, F.binds b⟩
abbrev s__law_pick : Stmt := topS 10
abbrev N__law_pick : List Str := ["_law_tape", "_law_items"]
theorem sc__law_pick : FnScope N__law_pick ["_law_tape", "_law_items"] (defScope s__law_pick) := ⟨rfl, rfl, rfl, by decide +kernel, rfl, by decide +kernel, by decide +kernel⟩
def spPick (K : PySem.W.Frag) : Sp := fun vs H Q _ => ∃ (t c l : Addr) (xs : List V) (b : Nat), vs = [.ref t, .ref l] ∧ SqL K H l xs ∧ 0 < xs.length ∧ xs.length < 1000000 ∧ Tape K H t c (b + 1) ∧
  ∀ (H' : Hp) (v : V), Ext t H H' → Tape K H' t c b → v ∈ xs → Q v H'
theorem ok_pick {f : Addr} {fd : FuncData} (F : Fun K "_law_pick" "_law_pick" s__law_pick f fd) (B : Bl mg) (D__law_draw : Kn P w K mg base 1 "_law_draw" ["_law_tape", "_law_many"] (spDraw K)) : FnOk P w K mg base CX0 2 f fd ["_law_tape", "_law_items"] (spPick K) := by
  refine F.ok sc__law_pick (fun vs H Q E h => ?_) (fun cdv A outer s H vs Q E hr h => ?_)
  · obtain ⟨t, c, l, xs, b, rfl, _⟩ := h
    rfl
  · obtain ⟨t, c, l, xs, b, rfl, h1, h2, h3, h4, k⟩ := h
    have hr__law_draw := hr
    refine ⟨_, (pss_one (ps_ret (pe_ix ix_list (pv 1) (pe_kn D__law_draw hr__law_draw (pa_cons (pv 0) (pa_cons (pe_callB call_len (by rfl) B.len PySem.boot_len (pa_cons (pv 1) pa_nil)) pa_nil))) (fun _ _ => rfl)))), ?_⟩
    refine ⟨_, rfl, _, rfl, _, rfl, _, _, rfl, .inl ⟨_, h1, rfl⟩, t, c, _, b, rfl, by omega, by omega, h4, fun H' r e1 e2 r1 r2 => ?_⟩
    have hj : r = (r.toNat : Int) := (Int.toNat_of_nonneg r1).symm
    have hlt : r.toNat < xs.length := by omega
    exact ⟨l, xs, r, xs[r.toNat], rfl, rfl, SqL.extT h1 h4 e1, at_of hj (List.getElem?_eq_getElem hlt), k H' _ e1 e2 (List.getElem_mem hlt)⟩

/-! ### words -/
def sgn (j : Nat) : Str := ⟨#[97 + j]⟩
def mkW (rest : Str) (d : Bool) (c : Str) : Str := if d then rest ++ c else c ++ rest
abbrev s__law_words : Stmt := topS 11
abbrev N__law_words : List Str := ["_law_tape", "_law_many", "_law_rest", "_law_first", "_law_letters", "_law_is_behind", "_law_k", "_law_letter"]
theorem sc__law_words : FnScope N__law_words ["_law_tape", "_law_many"] (defScope s__law_words) := ⟨rfl, rfl, rfl, by decide +kernel, rfl, by decide +kernel, by decide +kernel⟩
def rests : List Str := ["", "x", "oo", "zzzz", "ery", "bbbbbbb"]
def lets (first n : Nat) : List Str := (List.range n).map fun k => sgn ((first + 7 * k) % 26)
def spWords (K : PySem.W.Frag) : Sp := fun vs H Q _ => ∃ (t c : Addr) (n b : Nat), vs = [.ref t, .int (n : Int)] ∧ n ≤ 100 ∧ Tape K H t c (b + 3) ∧
  ∀ (H' : Hp) (l : Addr) (rest : Str) (first : Nat) (d : Bool), Ext t H H' → Tape K H' t c b → H l = none → rest ∈ rests → first < 26 → H' l = some (.lst (((lets first n).map (mkW rest d)).map V.str)) → Q (.ref l) H'
theorem at_ofG {α : Type} {xs : List α} {z : Int} {j : Nat} {v : α} (e : z = (j : Int)) (h : xs[j]? = some v) : atI xs z = some v := by
  rw [e]
  exact atI_nat h
theorem abc_at : ∀ j : Nat, j < 26 → ("abcdefghijklmnopqrstuvwxyz" : Str).cps.toList[j]? = some (97 + j) := by decide +kernel
theorem lets_succ (first n : Nat) : lets first (n + 1) = lets first n ++ [sgn ((first + 7 * n) % 26)] := by
  unfold lets
  rw [List.range_succ, List.map_append]
  rfl
theorem lets_length (first n : Nat) : (lets first n).length = n := by
  unfold lets
  rw [List.length_map, List.length_range]
theorem rests_len : ∀ r ∈ rests, r.length ≤ 7 := by decide +kernel
theorem ok_words {f : Addr} {fd : FuncData} (F : Fun K "_law_words" "_law_words" s__law_words f fd) (B : Bl mg) (D__law_draw : Kn P w K mg base 1 "_law_draw" ["_law_tape", "_law_many"] (spDraw K)) (D__law_pick : Kn P w K mg base 2 "_law_pick" ["_law_tape", "_law_items"] (spPick K)) :
    FnOk P w K mg base CX0 3 f fd ["_law_tape", "_law_many"] (spWords K) := by
  refine F.ok sc__law_words (fun vs H Q E h => ?_) (fun cdv A outer s H vs Q E hr h => ?_)
  · obtain ⟨t, c, n, b, rfl, _⟩ := h
    rfl
  · obtain ⟨t, c, n, b, rfl, hn, hT, k⟩ := h
    have hr__law_draw : Room 1 _ := hr.mono (by decide)
    have hr__law_pick : Room 2 _ := hr
    refine ⟨_, (pss_cons (ps_asg (pe_tup (pa_cons (pe_kn D__law_pick hr__law_pick (pa_cons (pv 0) (pa_cons (pe_lst (pa_cons pe_str (pa_cons pe_str (pa_cons pe_str (pa_cons pe_str (pa_cons pe_str (pa_cons pe_str pa_nil))))))) pa_nil))) (pa_cons (pe_kn D__law_draw hr__law_draw (pa_cons (pv 0) (pa_cons pe_int pa_nil))) pa_nil))) (pg_tup (by rfl) (pgs_cons (pg_name (i := 2) sc__law_words.nd rfl (Or.inr rfl)) (pgs_cons (pg_name (i := 3) sc__law_words.nd rfl (Or.inr rfl)) pgs_nil))))
  (pss_cons (ps_setLc (i := 4) (own := [("_law_k", 6)]) rfl sc__law_words.nd rfl rfl (sw_true rfl rfl rfl (by decide +kernel)) (pi_range1 (by rfl) B.range (pa_cons (pv 1) pa_nil)) (blkOk_by (N := N__law_words) (sc := (defScope s__law_words)) (own := [("_law_k", 6)]) (by decide +kernel)) (fun _ _ _ _ _ => (pg_name (i := 6) sc__law_words.nd rfl (Or.inl rfl))) (fun _ _ _ _ _ => pts_nil) (fun _ _ _ _ _ => (pe_ix ix_str pe_str (pe_op op_mod (pe_callTy call_int1 (by rfl) B.int (by decide +kernel) (pa_cons (pe_op op_add (pv 3) (pe_op op_mul pe_int (pv 6))) pa_nil)) pe_int) (fun _ _ => rfl))))
  (pss_cons (ps_set (i := 5) sc__law_words.nd rfl (Or.inr rfl) (pe_cmpR op_eq (pe_kn D__law_draw hr__law_draw (pa_cons (pv 0) (pa_cons pe_int pa_nil))) pe_int (nomark _)))
  (pss_one (ps_ret (pe_lc (own := [("_law_letter", 7)]) rfl sc__law_words.nd (pi_list (pv 4)) (blkOk_by (N := N__law_words) (sc := (defScope s__law_words)) (own := [("_law_letter", 7)]) (by decide +kernel)) (fun _ _ _ _ _ => (pg_name (i := 7) sc__law_words.nd rfl (Or.inl rfl))) (fun _ _ _ _ _ => pts_nil) (fun _ _ _ _ _ => (pe_ifExp (pt_val (pv 5)) (pe_op op_add_str (pv 2) (pv 7)) (pe_op op_add_str (pv 7) (pv 2)))))))))), ?_⟩
    refine ⟨_, rfl, slz rfl, fun l0 hl0 => ?_⟩
    refine ⟨t, c, l0, rests.map V.str, b + 2, rfl, SqL.of upd_same, by decide, by decide, hT.new hl0, fun H1 v e1 T1 hv => ?_⟩
    obtain ⟨rest, hrest, rfl⟩ := List.mem_map.mp hv
    refine ⟨_, rfl, t, c, 26, b + 1, rfl, by decide, by decide, T1, fun H2 r e2 T2 r1 r2 => ?_⟩
    obtain ⟨first, rfl⟩ : ∃ m : Nat, r = (m : Int) := ⟨r.toNat, (Int.toNat_of_nonneg r1).symm⟩
    have hf : first < 26 := by omega
    refine ⟨slz rfl, fun q hq => ⟨q, _, rfl, SqT.of upd_same, rfl, _, _, rfl, _, _, rfl, rfl, ?_⟩⟩
    have E2 : Ext t H (upd H2 q (.tup [.str rest, .int (first : Int)])) := (((Ext.new hl0).trans e1).trans e2).trans (Ext.new hq)
    have T3 := T2.new (o := .tup [.str rest, .int (first : Int)]) hq
    generalize upd H2 q (.tup [.str rest, .int (first : Int)]) = H3 at E2 T3 ⊢
    refine ⟨_, rfl, (n : Int), rfl, by omega, by omega, fun D hD => ?_⟩
    refine lc_range (lo := 0) (n := n) (fun i H' => Same H3 H' ∧ H' D = some (.lst ((lets first i).map V.str))) ⟨same_new hD, upd_same⟩ (fun i H' hi ⟨s1, g1⟩ => ⟨rfl, ?_⟩) (fun H4 ⟨s4, g4⟩ => ?_)
    · refine ⟨_, rfl, _, rfl, _, _, rfl, rfl, .inl ⟨by decide, by decide⟩, _, _, rfl, rfl, .inl ⟨_, rfl, ?_⟩⟩
      refine ⟨_, _, rfl, rfl, (show (0 : Int) < 26 by decide), _, _, _, rfl, rfl, slz rfl, at_ofG (show ((first : Int) + 7 * (0 + (i : Int))) % 26 = (((first + 7 * i) % 26 : Nat) : Int) by omega) (abc_at _ (by omega)), ?_⟩
      refine ⟨_, g1, ?_, ?_⟩
      · rw [List.length_map, lets_length]
        exact small1000 (by omega)
      · refine ⟨fun b' o z => ?_, ?_⟩
        · rw [upd_ne (ne_of_none z hD)]
          exact s1 _ _ z
        · rw [upd_same, lets_succ, List.map_append]
          rfl
    · have T4 := T3.same s4
      refine ⟨_, rfl, t, c, 2, b, rfl, by decide, by decide, T4, fun H5 r5 e5 T5 r51 r52 => ?_⟩
      refine ⟨rfl, ?_⟩
      have n5 : D ≠ t := T3.ne hD
      have g5 := e5 _ _ n5 g4
      refine ⟨_, rfl, D, rfl, ⟨_, SqL.of g5⟩, fun D2 hD2 => ?_⟩
      have nD : D ≠ D2 := ne_of_none g5 hD2
      refine lc_list (K := K) (a := D) (xs := (lets first n).map V.str) (fun i H' => Same H5 H' ∧ H' D2 = some (.lst ((((lets first n).take i).map (mkW rest (decide (V.int r5 = V.int 0)))).map V.str))) ⟨same_new hD2, upd_same⟩ (fun i H' _ ⟨s1, _⟩ => SqL.of (s1 _ _ g5)) (fun i x H' hx ⟨s1, g1⟩ => ⟨rfl, ?_⟩) (fun H6 ⟨s6, g6⟩ => ?_)
      · rw [List.getElem?_map] at hx
        obtain ⟨ch, hc, rfl⟩ := Option.map_eq_some_iff.mp hx
        have hi : i < (lets first n).length := (List.getElem?_eq_some_iff.mp hc).1
        have c1 : ch.length = 1 := by
          unfold lets at hc
          rw [List.getElem?_map] at hc
          obtain ⟨j, _, rfl⟩ := Option.map_eq_some_iff.mp hc
          rfl
        have rl := rests_len _ hrest
        have tk : (lets first n).take (i + 1) = (lets first n).take i ++ [ch] := by
          rw [List.take_add_one, hc]
          rfl
        have fin : ∀ z : Str, z = mkW rest (decide (V.int r5 = V.int 0)) ch → ∃ acc, H' D2 = some (.lst acc) ∧ acc.length < sizeLine ∧ Same H5 (upd H' D2 (.lst (acc ++ [V.str z]))) ∧ upd H' D2 (.lst (acc ++ [V.str z])) D2 = some (.lst ((((lets first n).take (i + 1)).map (mkW rest (decide (V.int r5 = V.int 0)))).map V.str)) := by
          rintro z rfl
          refine ⟨_, g1, ?_, fun b' o z => ?_, ?_⟩
          · rw [List.length_map, List.length_map, List.length_take]
            rw [lets_length] at hi
            exact small1000 (by omega)
          · rw [upd_ne (ne_of_none z hD2)]
            exact s1 _ _ z
          · rw [upd_same, tk, List.map_append, List.map_append]
            rfl
        refine ⟨_, rfl, _, rfl, ?_⟩
        refine ite2 (fun hc1 => ?_) (fun hc1 => ?_)
        · refine ⟨_, rfl, _, rfl, _, _, rfl, rfl, Nat.le_trans (show rest.length + ch.length ≤ 8 by omega) (slz rfl), ?_⟩
          refine fin _ ?_
          unfold mkW
          rw [if_pos hc1]
        · refine ⟨_, rfl, _, rfl, _, _, rfl, rfl, Nat.le_trans (show ch.length + rest.length ≤ 8 by omega) (slz rfl), ?_⟩
          refine fin _ ?_
          unfold mkW
          rw [if_neg hc1]
      · have T6 := T5.same s6
        rw [List.length_map, List.take_of_length_le (Nat.le_refl _)] at g6
        have n2 : D2 ≠ t := T5.ne hD2
        have EE : Ext t H H6 := ((E2.trans (same_ext s4)).trans e5).trans (same_ext s6)
        refine k H6 D2 rest first _ EE T6 ?_ hrest hf g6
        exact ((E2.trans (same_ext s4)).trans e5).free n2 hD2
end
end L3

namespace L3
open PySem L2
section
variable {P : Program} {w : World} {K : PySem.W.Frag} {mg : Str → Option Value} {base : Heap}
abbrev s__law_con : Stmt := topS 12
abbrev N__law_con : List Str := ["_law_name", "_law_parts", "_law_found", "_law_part"]
theorem sc__law_con : FnScope N__law_con ["_law_name", "_law_parts"] (defScope s__law_con) := ⟨rfl, rfl, rfl, by decide +kernel, rfl, by decide +kernel, by decide +kernel⟩
def spCon (K : PySem.W.Frag) : Sp := fun vs H Q _ => ∃ (x : Str) (l : Addr) (xs : List V) (ks : List Kd), vs = [.str x, .ref l] ∧ SqL K H l xs ∧ KdsAt H xs ks ∧
  ∀ (H' : Hp) (v : V), Same H H' → KdAt H' v (conK x ks) → Q v H'
theorem ok_con {f : Addr} {fd : FuncData} (F : Fun K "_law_con" "_law_con" s__law_con f fd) : FnOk P w K mg base CX0 1 f fd ["_law_name", "_law_parts"] (spCon K) := by
  refine F.ok sc__law_con (fun vs H Q E h => ?_) (fun cdv A outer s H vs Q E hr h => ?_)
  · obtain ⟨x, l, xs, ks, rfl, _⟩ := h
    rfl
  · obtain ⟨x, l, xs, ks, rfl, h1, h2, k⟩ := h
    refine ⟨_, (pss_cons (ps_set (i := 2) sc__law_con.nd rfl (Or.inl rfl) (pe_tup (pa_cons pe_str (pa_cons (pv 0) pa_nil))))
  (pss_cons (ps_for PassesOwn.never rfl (pi_list (pv 1)) (pg_name (i := 3) sc__law_con.nd rfl (Or.inl rfl))
  (pss_one (ps_set (i := 2) sc__law_con.nd rfl (Or.inl rfl) (pe_tup (pa_cons pe_str (pa_cons (pv 2) (pa_cons (pv 3) pa_nil)))))))
  (pss_one (ps_ret (pv 2))))), ?_⟩
    refine ⟨_, rfl, slz rfl, fun p hp => ?_⟩
    have s0 : Same H (upd H p (.tup [.str "con", .str x])) := same_new hp
    refine ⟨_, rfl, l, rfl, ⟨_, s0.seq h1⟩, for_list (K := K) (a := l) (xs := xs) (fun i σ H' => Same H H' ∧ ∃ (v : V) (pv : Option V), σ = [some (.str x), some (.ref l), some v, pv] ∧ KdAt H' v (conK x (ks.take i))) ⟨s0, .ref p, none, rfl, ⟨p, rfl, upd_same⟩⟩ (fun i σ H' _ ⟨s1, _⟩ => s1.seq h1) ?_ ?_⟩
    · rintro i y σ H' hi ⟨s1, v, pv, rfl, hv⟩
      obtain ⟨ky, hky, hy⟩ := paired_get h2 hi
      refine ⟨_, rfl, _, rfl, slz rfl, fun q hq => ?_⟩
      have s2 : Same H' (upd H' q (.tup [.str "apply", v, y])) := same_new hq
      refine ⟨s1.trans s2, _, _, rfl, ?_⟩
      have tk : ks.take (i + 1) = ks.take i ++ [ky] := by
        rw [List.take_add_one, hky]
        rfl
      rw [tk, conK_snoc]
      exact ⟨q, v, y, rfl, upd_same, KdAt.tups (same_tups s2) hv, KdAt.tups (same_tups (s1.trans s2)) hy⟩
    · rintro σ H' ⟨s1, v, pv, rfl, hv⟩
      have e : ks.take xs.length = ks := by rw [Paired.length h2, List.take_length]
      rw [e] at hv
      exact ⟨_, rfl, k _ _ s1 hv⟩

/-! ### put -/
abbrev s__law_put : Stmt := topS 13
abbrev N__law_put : List Str := ["_law_kind", "_law_by"]
theorem sc__law_put : FnScope N__law_put ["_law_kind", "_law_by"] (defScope s__law_put) := ⟨rfl, rfl, rfl, by decide +kernel, rfl, by decide +kernel, by decide +kernel⟩
def spPut (K : PySem.W.Frag) (n : Nat) : Sp := fun vs H Q _ => ∃ (v : V) (d : Addr) (k : Kd) (kvs : List (Key × V)) (by' : By), vs = [v, .ref d] ∧ KdAt H v k ∧ k.fit n ∧ H d = some (.dK kvs) ∧ ByAt H kvs by' ∧
  ∀ (H' : Hp) (v' : V), Same H H' → KdAt H' v' (k.put by') → Q v' H'
def spPrev (f : Nat → Sp) : Nat → Sp
  | 0 => fun _ _ _ _ => False
  | n + 1 => f n
theorem ok_put_step {n : Nat} {f : Addr} {fd : FuncData} (F : Fun K "_law_put" "_law_put" s__law_put f fd) (D__law_put : Kn P w K mg base n "_law_put" ["_law_kind", "_law_by"] (spPrev (spPut K) n)) : FnOk P w K mg base CX0 (n + 1) f fd ["_law_kind", "_law_by"] (spPut K n) := by
  refine F.ok sc__law_put (fun vs H Q E h => ?_) (fun cdv A outer s H vs Q E hr h => ?_)
  · obtain ⟨v, d, k, kvs, by', rfl, _⟩ := h
    rfl
  · obtain ⟨v, d, kd, kvs, by', rfl, h1, h2, h3, h4, k⟩ := h
    have hr__law_put := hr
    have hu := hu_of hr
    refine ⟨_, (pss_cons (ps_if (pt_cmpR op_eq (pe_ix ix_tup (pv 0) pe_int (fun _ _ => rfl)) pe_str (nomark _))
  (pss_one (ps_ret (pe_tup (pa_cons pe_str (pa_cons (pe_kn D__law_put hr__law_put (pa_cons (pe_ix ix_tup (pv 0) pe_int (fun _ _ => rfl)) (pa_cons (pv 1) pa_nil))) (pa_cons (pe_kn D__law_put hr__law_put (pa_cons (pe_ix ix_tup (pv 0) pe_int (fun _ _ => rfl)) (pa_cons (pv 1) pa_nil))) pa_nil))))))
  pss_nil)
  (pss_one (ps_ret (pe_ifExp (pt_cmpR op_eq (pe_ix ix_tup (pv 0) pe_int (fun _ _ => rfl)) pe_str (nomark _)) (pe_dget2 hu (pv 1) (pe_ix ix_tup (pv 0) pe_int (fun _ _ => rfl)) (pv 0) ⟨rfl, rfl, rfl, rfl⟩) (pv 0))))), ?_⟩
    cases kd with
    | app a b =>
      obtain ⟨m, rfl, ha, hb⟩ := Kd.fit_app h2
      obtain ⟨p, u, z, rfl, hp, hu1, hz1⟩ := h1
      refine ⟨_, rfl, _, _, _, _, rfl, rfl, SqT.of hp, rfl, rfl, _, rfl, iT tg_aa ?_⟩
      refine ⟨_, rfl, _, _, _, _, rfl, rfl, SqT.of hp, rfl, _, rfl, u, d, a, kvs, by', rfl, hu1, ha, h3, h4, fun H1 v1 s1 g1 => ?_⟩
      refine ⟨_, rfl, _, _, _, _, rfl, rfl, SqT.of (s1 _ _ hp), rfl, _, rfl, z, d, b, kvs, by', rfl, KdAt.tups (same_tups s1) hz1, hb, s1 _ _ h3, ByAt.tups (same_tups s1) h4, fun H2 v2 s2 g2 => ?_⟩
      refine ⟨slz rfl, fun q hq => ?_⟩
      have s3 : Same H2 (upd H2 q (.tup [.str "apply", v1, v2])) := same_new hq
      exact k _ _ ((s1.trans s2).trans s3) ⟨q, v1, v2, rfl, upd_same, KdAt.tups (same_tups (s2.trans s3)) g1, KdAt.tups (same_tups s3) g2⟩
    | var x =>
      obtain ⟨p, rfl, hp⟩ := id h1
      refine ⟨_, rfl, _, _, _, _, rfl, rfl, SqT.of hp, rfl, rfl, _, rfl, iF tg_va ?_⟩
      refine ⟨_, rfl, _, _, _, _, rfl, rfl, SqT.of hp, rfl, rfl, _, rfl, iT tg_vv ?_⟩
      refine ⟨_, rfl, d, rfl, .inl ⟨_, .inl h3⟩, _, rfl, _, _, _, _, rfl, rfl, SqT.of hp, rfl, _, rfl, _, DGet.k (k := .inr x) h3, ?_⟩
      rcases h4.get x with ⟨e1, e2⟩ | ⟨v, kd, e1, e2, g⟩
      · rw [e1]
        refine k _ _ (Same.refl _) ?_
        show KdAt H (.ref p) ((lk by' x).getD (.var x))
        rw [e2]
        exact h1
      · rw [e1]
        refine k _ _ (Same.refl _) ?_
        show KdAt H v ((lk by' x).getD (.var x))
        rw [e2]
        exact g
    | con x =>
      obtain ⟨p, rfl, hp⟩ := id h1
      refine ⟨_, rfl, _, _, _, _, rfl, rfl, SqT.of hp, rfl, rfl, _, rfl, iF tg_ca ?_⟩
      refine ⟨_, rfl, _, _, _, _, rfl, rfl, SqT.of hp, rfl, rfl, _, rfl, iF tg_cv ?_⟩
      exact ⟨_, rfl, k _ _ (Same.refl _) h1⟩
theorem ok_put {f : Addr} {fd : FuncData} (F : Fun K "_law_put" "_law_put" s__law_put f fd) (hm : mg "_law_put" = some (.ref f)) : ∀ n, FnOk P w K mg base CX0 (n + 1) f fd ["_law_kind", "_law_by"] (spPut K n)
  | 0 => ok_put_step F ⟨f, fd, fn_false, hm, F.kp, F.binds fun _ _ _ _ _ _ us hl => match us, hl with | [_, _], _ => rfl⟩
  | n + 1 => ok_put_step F ⟨f, fd, ok_put F hm n, hm, F.kp, F.binds fun _ _ _ _ _ _ us hl => match us, hl with | [_, _], _ => rfl⟩
end
end L3

namespace L3
open PySem L2
/-- what a constructor heads has at most two parts -/
def Kd.hv : Kd → Bool
  | .var _ => true
  | .con _ => false
  | .app a _ => a.hv
def Kd.args : Kd → Nat
  | .app a _ => a.args + 1
  | _ => 0
def Kd.two : Kd → Prop
  | .app a b => a.two ∧ b.two ∧ (a.hv = true ∨ a.args ≤ 1)
  | _ => True
def lsz : Nat → Nat
  | 0 => 1
  | n + 1 => 3 + 2 * lsz n
theorem lsz_pos : ∀ n, 1 ≤ lsz n
  | 0 => Nat.le_refl _
  | n + 1 => by simp only [lsz]; omega
theorem size_conK {x : Str} {z : Nat} {ks : List Kd} (hl : ks.length ≤ 2) (h : ∀ k ∈ ks, k.size ≤ z) : (conK x ks).size ≤ 3 + 2 * z := by
  match ks, hl, h with
  | [], _, _ => show 1 ≤ _; omega
  | [a], _, h =>
    have := h a (by simp)
    show 1 + a.size + 1 ≤ _
    omega
  | [a, b], _, h =>
    have := h a (by simp)
    have := h b (by simp)
    show 1 + a.size + 1 + b.size + 1 ≤ _
    omega
  | a :: b :: c :: r, hl, _ => simp at hl
theorem two_conK {x : Str} {ks : List Kd} (hl : ks.length ≤ 2) (h : ∀ k ∈ ks, k.two) : (conK x ks).two := by
  match ks, hl, h with
  | [], _, _ => exact trivial
  | [a], _, h => exact ⟨trivial, h a (by simp), .inr (Nat.zero_le 1)⟩
  | [a, b], _, h => exact ⟨⟨trivial, h a (by simp), .inr (Nat.zero_le 1)⟩, h b (by simp), .inr (Nat.le_refl 1)⟩
  | a :: b :: c :: r, hl, _ => simp at hl
section
variable {P : Program} {w : World} {K : PySem.W.Frag} {mg : Str → Option Value} {base : Heap}
abbrev s__law_letter_kind : Stmt := topS 15
abbrev N__law_letter_kind : List Str := ["_law_tape", "_law_names", "_law_cons", "_law_deep", "_law_name", "_law_many", "_law_parts", "_law_k"]
theorem sc__law_letter_kind : FnScope N__law_letter_kind ["_law_tape", "_law_names", "_law_cons", "_law_deep"] (defScope s__law_letter_kind) := ⟨rfl, rfl, rfl, by decide +kernel, rfl, by decide +kernel, by decide +kernel⟩
def cost : Nat → Nat
  | 0 => 3
  | n + 1 => 5 + 2 * cost n
def spLK (K : PySem.W.Frag) (n : Nat) : Sp := fun vs H Q _ => ∃ (t c ln lc : Addr) (ws : List Str) (b : Nat), vs = [.ref t, .ref ln, .ref lc, .int (n : Int)] ∧ SqL K H ln (ws.map V.str) ∧ (∀ x ∈ ws, Wok x) ∧ ws.length < 1000 ∧ ConsAt K H lc ∧ Tape K H t c (b + cost n) ∧
  ∀ (H' : Hp) (v : V) (k : Kd), Ext t H H' → Tape K H' t c b → KdAt H' v k → k.fit (2 * n) → Kd.of ws k → k.two → k.size ≤ lsz n → Q v H'
theorem ok_letter_step {n : Nat} {f : Addr} {fd : FuncData} (F : Fun K "_law_letter_kind" "_law_letter_kind" s__law_letter_kind f fd) (B : Bl mg) (D__law_draw : Kn P w K mg base 1 "_law_draw" ["_law_tape", "_law_many"] (spDraw K)) (D__law_pick : Kn P w K mg base 2 "_law_pick" ["_law_tape", "_law_items"] (spPick K))
    (D__law_con : Kn P w K mg base 1 "_law_con" ["_law_name", "_law_parts"] (spCon K)) (D__law_letter_kind : Kn P w K mg base (n + 2) "_law_letter_kind" ["_law_tape", "_law_names", "_law_cons", "_law_deep"] (spPrev (spLK K) n)) : FnOk P w K mg base CX0 (n + 3) f fd ["_law_tape", "_law_names", "_law_cons", "_law_deep"] (spLK K n) := by
  refine F.ok sc__law_letter_kind (fun vs H Q E h => ?_) (fun cdv A outer s H vs Q E hr h => ?_)
  · obtain ⟨t, c, ln, lc, ws, b, rfl, _⟩ := h
    rfl
  · obtain ⟨t, c, ln, lc, ws, b, rfl, h1, h2, h3, h4, hT, k⟩ := h
    have hr__law_draw : Room 1 _ := hr.mono (by omega)
    have hr__law_con : Room 1 _ := hr.mono (by omega)
    have hr__law_pick : Room 2 _ := hr.mono (by omega)
    have hr__law_letter_kind := hr
    have hu64 := hr.units
    have c3 : 3 ≤ cost n := by cases n <;> simp only [cost] <;> omega
    refine ⟨_, (pss_cons (ps_if (PW.pt (pw_or (pt_cmpR op_eq (pv 3) pe_int (nomark _)) (pw_or1 (pt_cmpR op_eq (pe_kn D__law_draw hr__law_draw (pa_cons (pv 0) (pa_cons pe_int pa_nil))) pe_int (nomark _)))))
  (pss_one (ps_ret (pe_ifExp (PW.pt (pw_and (pt_cmpR (op_neD hu64) (pv 1) (pe_lst pa_nil) (nomark _)) (pw_and1 (pt_cmpR op_eq (pe_kn D__law_draw hr__law_draw (pa_cons (pv 0) (pa_cons pe_int pa_nil))) pe_int (nomark _))))) (pe_tup (pa_cons pe_str (pa_cons (pe_kn D__law_pick hr__law_pick (pa_cons (pv 0) (pa_cons (pv 1) pa_nil))) pa_nil))) (pe_tup (pa_cons pe_str (pa_cons (pe_ix ix_tup (pe_kn D__law_pick hr__law_pick (pa_cons (pv 0) (pa_cons (pv 2) pa_nil))) pe_int (fun _ _ => rfl)) pa_nil))))))
  pss_nil)
  (pss_cons (ps_asg (pe_kn D__law_pick hr__law_pick (pa_cons (pv 0) (pa_cons (pv 2) pa_nil))) (pg_tup (by rfl) (pgs_cons (pg_name (i := 4) sc__law_letter_kind.nd rfl (Or.inl rfl)) (pgs_cons (pg_name (i := 5) sc__law_letter_kind.nd rfl (Or.inl rfl)) pgs_nil))))
  (pss_cons (ps_setLc (i := 6) (own := [("_law_k", 7)]) rfl sc__law_letter_kind.nd rfl rfl (sw_true rfl rfl rfl (by decide +kernel)) (pi_range1 (by rfl) B.range (pa_cons (pv 5) pa_nil)) (blkOk_by (N := N__law_letter_kind) (sc := (defScope s__law_letter_kind)) (own := [("_law_k", 7)]) (by decide +kernel)) (fun _ _ _ _ _ => (pg_name (i := 7) sc__law_letter_kind.nd rfl (Or.inl rfl))) (fun _ _ _ _ _ => pts_nil) (fun _ _ _ _ _ => (pe_kn D__law_letter_kind hr__law_letter_kind (pa_cons (pv 0) (pa_cons (pv 1) (pa_cons (pv 2) (pa_cons (pe_op op_sub (pv 3) pe_int) pa_nil)))))))
  (pss_cons (ps_if (PW.pt (pw_and (pt_cmpR (op_neD hu64) (pv 1) (pe_lst pa_nil) (nomark _)) (pw_and (pt_cmpR op_eq (pv 5) pe_int (nomark _)) (pw_and1 (pt_cmpR op_eq (pe_kn D__law_draw hr__law_draw (pa_cons (pv 0) (pa_cons pe_int pa_nil))) pe_int (nomark _))))))
  (pss_one (ps_ret (pe_tup (pa_cons pe_str (pa_cons (pe_tup (pa_cons pe_str (pa_cons (pe_kn D__law_pick hr__law_pick (pa_cons (pv 0) (pa_cons (pv 1) pa_nil))) pa_nil))) (pa_cons (pe_ix ix_list (pv 6) pe_int (fun _ _ => rfl)) pa_nil))))))
  pss_nil)
  (pss_one (ps_ret (pe_kn D__law_con hr__law_con (pa_cons (pv 4) (pa_cons (pv 6) pa_nil))))))))), ?_⟩
    -- the leaf ("con", pick(cons)[0])
    have con_leaf : ∀ H3 : Hp, Ext t H H3 → Tape K H3 t c (b + 1) → tTup (tCons (tC (.str "con")) (tCons (tOp (rIxT K) (tCall (spPick K) [] E0 (tCons (tVar 0) (tCons (tVar 2) tNil))) (tC (.int 0))) tNil)) [some (.ref t), some (.ref ln), some (.ref lc), some (.int (n : Int)), none, none, none, none] H3 Q := by
      intro H3 E3 T3
      obtain ⟨xs, h41, h42, h43, h44⟩ := h4.ext hT E3
      refine ⟨_, rfl, _, rfl, t, c, lc, xs, b, rfl, h41, h42, by omega, T3, fun H4 v E4 T4 hv => ?_⟩
      obtain ⟨a, x, m, rfl, ha, _, wx⟩ := h44 v hv
      refine ⟨_, _, _, _, rfl, rfl, SqT.of (Ext.tups E4 T3 _ _ ha), rfl, slz rfl, fun q hq => ?_⟩
      exact k _ _ (.con x) ((E3.trans E4).trans (Ext.new hq)) (T4.new hq) ⟨q, rfl, upd_same⟩ (fitC wx) trivial trivial (lsz_pos n)
    refine ⟨_, rfl, rfl, _, rfl, ite2 (fun z => ?g1) (fun hn0 => ?g2)⟩
    case' g1 =>
      refine iteT ?_
      have E1 : Ext t H H := Ext.refl _ _
      have T1 : Tape K H t c (b + 2) := hT.less (by omega)
    case' g2 =>
      refine ⟨_, rfl, t, c, 3, b + (cost n - 1), rfl, by decide, by decide, hT.less (by omega), fun H1 r1 E1 T1 hr1 hr2 => ⟨rfl, _, rfl, ite2 (fun z => ?g3) (fun z => ?g4)⟩⟩
    case' g3 => replace T1 := T1.less (show b + 2 ≤ _ by omega)
    case g1 | g3 =>
      refine ⟨_, rfl, slz rfl, fun e he => ?_⟩
      have E2 := E1.trans (Ext.new (o := .lst []) he)
      have T2 := T1.new (o := .lst []) he
      refine ⟨_, _, .lst (SqL.extT h1 hT E2) (dp_words ws), .lst (SqL.of upd_same) .nil, shaped_words h2, shaped_nil, _, rfl, ?_⟩
      rw [words_ne]
      refine ite2 (fun hws => ?_) (fun hws => ?_)
      · have ne : 0 < ws.length := by
          cases ws with
          | nil => cases hws
          | cons x r => exact Nat.zero_lt_succ _
        refine ⟨_, rfl, t, c, 2, b + 1, rfl, by decide, by decide, T2, fun H3 r3 E3 T3 hr31 hr32 => ⟨rfl, _, rfl, ite2 (fun z => ?_) (fun z => ?_)⟩⟩
        · refine ⟨_, rfl, _, rfl, t, c, ln, ws.map V.str, b, rfl, SqL.extT h1 hT (E2.trans E3), by rw [List.length_map]; exact ne, by rw [List.length_map]; omega, T3, fun H4 v E4 T4 hv => ?_⟩
          obtain ⟨x, hx, rfl⟩ := List.mem_map.mp hv
          refine ⟨slz rfl, fun q hq => ?_⟩
          exact k _ _ (.var x) (((E2.trans E3).trans E4).trans (Ext.new hq)) (T4.new hq) ⟨q, rfl, upd_same⟩ (fitV (h2 x hx)) hx trivial (lsz_pos n)
        · exact con_leaf H3 (E2.trans E3) (T3.less (by omega))
      · exact iteF (con_leaf _ E2 (T2.less (by omega)))
    case g4 =>
      obtain ⟨j, rfl⟩ : ∃ j, n = j + 1 := by
        cases n with
        | zero => exact absurd rfl hn0
        | succ j => exact ⟨j, rfl⟩
      obtain ⟨xs, h41, h42, h43, h44⟩ := h4.ext hT E1
      refine ⟨_, rfl, _, rfl, t, c, lc, xs, b + 3 + 2 * cost j, rfl, h41, h42, by omega, T1.less (by simp only [cost]; omega), fun H2 v E2 T2 hv => ?_⟩
      obtain ⟨a, x, m, rfl, ha, hm, wx⟩ := h44 v hv
      have EE := E1.trans E2
      refine ⟨a, _, rfl, SqT.of (Ext.tups E2 T1 _ _ ha), rfl, _, _, rfl, _, _, rfl, rfl, ?_⟩
      refine ⟨_, rfl, (m : Int), rfl, by omega, by omega, fun D hD => ?_⟩
      refine lc_range (lo := 0) (n := m) (fun i H' => Ext t H2 H' ∧ Tape K H' t c (b + 2 + (m - i) * cost j) ∧ ∃ (vs : List V) (ks : List Kd), H' D = some (.lst vs) ∧ KdsAt H' vs ks ∧ vs.length = i ∧ ∀ k ∈ ks, k.fit (2 * j) ∧ Kd.of ws k ∧ k.two ∧ k.size ≤ lsz j)
        ⟨Ext.new hD, (T2.new hD).less ?_, [], [], upd_same, .nil, rfl, fun _ q => nomatch q⟩ (fun i H' hi ⟨e1, t1, vs, ks, g1, g2, g3, g4⟩ => ⟨rfl, ?_⟩) (fun H3 ⟨e1, t1, vs, ks, g1, g2, g3, g4⟩ => ?_)
      · have : m * cost j ≤ 2 * cost j := Nat.mul_le_mul_right _ hm
        rw [Nat.sub_zero]
        omega
      · have em : (m - i) * cost j = (m - (i + 1)) * cost j + cost j := by
          rw [show m - i = (m - (i + 1)) + 1 by omega, Nat.succ_mul]
        refine ⟨_, rfl, _, rfl, _, rfl, _, rfl, _, _, rfl, rfl, ?_⟩
        refine ⟨t, c, ln, lc, ws, b + 2 + (m - (i + 1)) * cost j, congrArg (fun z : Int => [V.ref t, V.ref ln, V.ref lc, V.int z]) (by omega), SqL.extT h1 hT (EE.trans e1), h2, h3, h4.ext hT (EE.trans e1), t1.less (by omega), fun H4 v k4 e4 t4 f1 f2 f3 f4 f5 => ?_⟩
        have nD : D ≠ t := T2.ne hD
        refine ⟨vs, e4 _ _ nD g1, small1000 (by omega), (e1.trans e4).upd hD, Tape.put T2 (e1.trans e4) t4 hD, vs ++ [v], ks ++ [k4], upd_same, ?_, by rw [List.length_append, g3]; rfl, ?_⟩
        · have tu : Tups H4 (upd H4 D (.lst (vs ++ [v]))) := Tups.put (e4 _ _ nD g1) (by intro xs z; cases z)
          exact Paired.snoc (KdsAt.tups ((Ext.tups e4 t1).trans tu) g2) (KdAt.tups tu f1)
        · intro k hk
          rcases List.mem_append.mp hk with q | q
          · exact g4 k q
          · rw [List.mem_singleton.mp q]
            exact ⟨f2, f3, f4, f5⟩
      · have EE3 := EE.trans e1
        have lks : ks.length = m := by rw [← Paired.length g2, g3]
        -- the kind with its parts
        have con_all : ∀ H5 : Hp, Ext t H3 H5 → Tape K H5 t c b → tRet (tCall (spCon K) [] E0 (tCons (tVar 4) (tCons (tVar 6) tNil))) { nx := fun _ H' => Q .non H', rt := Q } [some (.ref t), some (.ref ln), some (.ref lc), some (.int ((j + 1 : Nat) : Int)), some (.str x), some (.int (m : Int)), some (.ref D), none] H5 := by
          intro H5 e5 t5
          refine ⟨_, rfl, _, rfl, x, D, vs, ks, rfl, SqL.of (e5 _ _ (T2.ne hD) g1), KdsAt.tups (Ext.tups e5 t1) g2, fun H6 v s6 f6 => ?_⟩
          exact k _ _ _ ((EE3.trans e5).trans (same_ext s6)) (t5.same s6) f6 (Kd.fit_mono (by omega) (fit_conK wx fun q hq => (g4 q hq).1)) (of_conK fun q hq => (g4 q hq).2.1) (two_conK (by omega) fun q hq => (g4 q hq).2.2.1) (size_conK (by omega) fun q hq => (g4 q hq).2.2.2)
        refine ⟨_, rfl, slz rfl, fun e he => ?_⟩
        have e6 := Ext.new (t := t) (o := .lst []) he
        have t6 := t1.new (o := .lst []) he
        refine ⟨_, _, .lst (SqL.extT h1 hT (EE3.trans e6)) (dp_words ws), .lst (SqL.of upd_same) .nil, shaped_words h2, shaped_nil, _, rfl, ?_⟩
        rw [words_ne]
        refine ite2 (fun hws => ?_) (fun hws => ?_)
        · refine ⟨_, rfl, rfl, _, rfl, ite2 (fun hm1 => ?_) (fun hm1 => ?_)⟩
          · have m1 : m = 1 := by
              have q := V.int.inj (of_decide_eq_true hm1)
              omega
            refine ⟨_, rfl, t, c, 4, b + 1, rfl, by decide, by decide, t6.less (by omega), fun H7 r7 e7 t7 hr71 hr72 => ⟨rfl, _, rfl, ite2 (fun z => ?_) (fun z => ?_)⟩⟩
            · have ne : 0 < ws.length := by
                cases ws with
                | nil => cases hws
                | cons x r => exact Nat.zero_lt_succ _
              refine ⟨_, rfl, _, rfl, t, c, ln, ws.map V.str, b, rfl, SqL.extT h1 hT ((EE3.trans e6).trans e7), by rw [List.length_map]; exact ne, by rw [List.length_map]; omega, t7, fun H8 v e8 t8 hv => ?_⟩
              obtain ⟨y, hy, rfl⟩ := List.mem_map.mp hv
              refine ⟨slz rfl, fun q hq => ?_⟩
              subst m1
              obtain ⟨v0, rfl⟩ : ∃ v0, vs = [v0] := by
                match vs, g3 with
                | [v0], _ => exact ⟨v0, rfl⟩
              obtain ⟨k0, rfl⟩ : ∃ k0, ks = [k0] := by
                match ks, lks with
                | [k0], _ => exact ⟨k0, rfl⟩
              have gD : H8 D = some (.lst [v0]) := e8 _ _ (T2.ne hD) (e7 _ _ (T2.ne hD) (e6 _ _ (T2.ne hD) g1))
              have nq : D ≠ q := ne_of_none gD hq
              refine ⟨_, rfl, _, _, _, _, rfl, rfl, SqL.of (by rw [upd_ne nq]; exact gD), rfl, slz rfl, fun q2 hq2 => ?_⟩
              have k0at : KdAt H3 v0 k0 := by cases g2 with | cons r _ => exact r
              have e9 : Ext t H8 (upd H8 q (.tup [.str "var", .str y])) := Ext.new hq
              have t9 := t8.new (o := .tup [.str "var", .str y]) hq
              have e10 := Ext.new (t := t) (o := .tup [.str "apply", .ref q, v0]) hq2
              have up : Tups H3 _ := Ext.tups (((e6.trans e7).trans e8).trans (e9.trans e10)) t1
              refine k _ _ (.app (.var y) k0) (((((EE3.trans e6).trans e7).trans e8).trans e9).trans e10) (t9.new hq2) ⟨q2, .ref q, v0, rfl, upd_same, ⟨q, rfl, Ext.tups e10 t9 _ _ upd_same⟩, KdAt.tups up k0at⟩ ?_ ⟨hy, (g4 k0 List.mem_cons_self).2.1⟩ ⟨trivial, (g4 k0 List.mem_cons_self).2.2.1, .inl rfl⟩ ?_
              · exact ⟨fitV (h2 y hy), show Kd.fit (2 * j + 1) k0 from Kd.fit_mono (by omega) (g4 k0 List.mem_cons_self).1⟩
              · have := (g4 k0 List.mem_cons_self).2.2.2
                show 1 + k0.size + 1 ≤ 3 + 2 * lsz j
                omega
            · exact con_all H7 (e6.trans e7) (t7.less (by omega))
          · exact iteF (con_all _ e6 (t6.less (by omega)))
        · exact iteF (con_all _ e6 (t6.less (by omega)))
theorem ok_letter {f : Addr} {fd : FuncData} (F : Fun K "_law_letter_kind" "_law_letter_kind" s__law_letter_kind f fd) (hm : mg "_law_letter_kind" = some (.ref f)) (B : Bl mg) (D1 : Kn P w K mg base 1 "_law_draw" ["_law_tape", "_law_many"] (spDraw K)) (D2 : Kn P w K mg base 2 "_law_pick" ["_law_tape", "_law_items"] (spPick K))
    (D3 : Kn P w K mg base 1 "_law_con" ["_law_name", "_law_parts"] (spCon K)) : ∀ n, FnOk P w K mg base CX0 (n + 3) f fd ["_law_tape", "_law_names", "_law_cons", "_law_deep"] (spLK K n)
  | 0 => ok_letter_step F B D1 D2 D3 ⟨f, fd, fn_false.mono (by decide), hm, F.kp, F.binds fun _ _ _ _ _ _ us hl => match us, hl with | [_, _, _, _], _ => rfl⟩
  | n + 1 => ok_letter_step F B D1 D2 D3 ⟨f, fd, ok_letter F hm B D1 D2 D3 n, hm, F.kp, F.binds fun _ _ _ _ _ _ us hl => match us, hl with | [_, _, _, _], _ => rfl⟩
end
end L3

namespace L3
open PySem L2
section
variable {P : Program} {w : World} {K : PySem.W.Frag} {mg : Str → Option Value} {base : Heap}
/-! ### vars -/
abbrev s__law_vars : Stmt := topS 14
abbrev N__law_vars : List Str := ["_law_kinds", "_law_found", "_law_waiting", "_law_kind"]
theorem sc__law_vars : FnScope N__law_vars ["_law_kinds"] (defScope s__law_vars) := ⟨rfl, rfl, rfl, by decide +kernel, rfl, by decide +kernel, by decide +kernel⟩
def spVars (K : PySem.W.Frag) : Sp := fun vs H Q _ => ∃ (l : Addr) (xs : List V) (ks : List Kd), vs = [.ref l] ∧ SqL K H l xs ∧ KdsAt H xs ks ∧ (∀ k ∈ ks, k.fit 60) ∧ sizeL ks ≤ 16000000 ∧
  ∀ (H' : Hp) (p : Addr), Same H H' → H p = none → H' p = some (.lst ((vsL ks []).map V.str)) → Q (.ref p) H'
theorem vsL_append : ∀ (a b : List Kd) (fs : List Str), vsL (a ++ b) fs = vsL b (vsL a fs)
  | [], _, _ => rfl
  | k :: r, b, fs => vsL_append r b (k.vs fs)
theorem sizeL_append : ∀ (a b : List Kd), sizeL (a ++ b) = sizeL a + sizeL b
  | [], b => (Nat.zero_add _).symm
  | k :: r, b => by
    show k.size + sizeL (r ++ b) = k.size + sizeL r + sizeL b
    rw [sizeL_append r b, Nat.add_assoc]
theorem sizeL_rev : ∀ (a : List Kd), sizeL a.reverse = sizeL a
  | [] => rfl
  | k :: r => by
    rw [List.reverse_cons, sizeL_append, sizeL_rev r]
    show sizeL r + (k.size + 0) = k.size + sizeL r
    omega
theorem sizeL_len : ∀ (a : List Kd), a.length ≤ sizeL a
  | [] => Nat.le_refl _
  | k :: r => by
    have := sizeL_len r
    have := k.size_pos
    simp only [List.length_cons, sizeL]
    omega
theorem size_line {n : Nat} (h : n ≤ 16500000) : n < sizeLine := Nat.lt_of_le_of_lt h (by decide)
theorem ok_vars {f : Addr} {fd : FuncData} (F : Fun K "_law_vars" "_law_vars" s__law_vars f fd) (B : Bl mg) : FnOk P w K mg base CX0 1 f fd ["_law_kinds"] (spVars K) := by
  refine F.ok sc__law_vars (fun vs H Q E h => ?_) (fun cdv A outer s H vs Q E hr h => ?_)
  · obtain ⟨l, xs, ks, rfl, _⟩ := h
    rfl
  · obtain ⟨l, xs, ks, rfl, h1, h2, h3, h4, k⟩ := h
    have hu64 := hr.units
    refine ⟨_, (pss_cons (ps_par (i := 1) (j := 2) (by rfl) sc__law_vars.nd rfl rfl (by decide) rfl rfl (pa_cons (pe_lst pa_nil) (pa_cons (pe_revL (pe_callTy call_list_of (by rfl) B.list (by decide +kernel) (pa_cons (pv 0) pa_nil))) pa_nil)) (by rfl))
  (pss_cons (ps_while PassesOwn.never (pt_cmpR (op_neD hu64) (pv 2) (pe_lst pa_nil) (nomark _))
  (pss_cons (ps_set (i := 3) sc__law_vars.nd rfl (Or.inl rfl) (pe_bm0 PySem.F.plainAttrs_list PySem.F.slot_list_pop PySem.F.type_list_pop mt_pop (pv 2)))
  (pss_one (ps_if (pt_cmpR op_eq (pe_ix ix_tup (pv 3) pe_int (fun _ _ => rfl)) pe_str (nomark _))
  (pss_one (ps_expr (pe_bm PySem.F.plainAttrs_list PySem.F.slot_list_extend PySem.F.type_list_extend mt_extend (pv 2) (pa_cons (pe_lst (pa_cons (pe_ix ix_tup (pv 3) pe_int (fun _ _ => rfl)) (pa_cons (pe_ix ix_tup (pv 3) pe_int (fun _ _ => rfl)) pa_nil))) pa_nil))))
  (pss_one (ps_if (PW.pt (pw_and (pt_cmpR op_eq (pe_ix ix_tup (pv 3) pe_int (fun _ _ => rfl)) pe_str (nomark _)) (pw_and1 (pt_cmpR op_notIn_seq (pe_ix ix_tup (pv 3) pe_int (fun _ _ => rfl)) (pv 1) (by rfl)))))
  (pss_one (ps_expr (pe_bm PySem.F.plainAttrs_list PySem.F.slot_list_append PySem.F.type_list_append mt_append (pv 1) (pa_cons (pe_ix ix_tup (pv 3) pe_int (fun _ _ => rfl)) pa_nil))))
  pss_nil))))))
  (pss_one (ps_ret (pv 1))))), ?_⟩
    refine ⟨slz rfl, fun lf hlf => ?_⟩
    have s1 : Same H (upd H lf (.lst [])) := same_new hlf
    refine ⟨_, rfl, l, xs, rfl, .inl (s1.seq h1), fun l2 hl2 => ?_⟩
    have s2 : Same (upd H lf (.lst [])) (upd (upd H lf (.lst [])) l2 (.lst xs)) := same_new hl2
    refine ⟨l2, xs, rfl, SqL.of upd_same, fun lw hlw => ?_⟩
    have s3 : Same (upd (upd H lf (.lst [])) l2 (.lst xs)) (upd (upd (upd H lf (.lst [])) l2 (.lst xs)) lw (.lst xs.reverse)) := same_new hlw
    have ss := (s1.trans s2).trans s3
    have nlw : H lw = none := (s1.trans s2).free hlw
    have nfw : lf ≠ lw := ne_of_none (s2 _ _ upd_same) hlw
    refine ⟨_, _, rfl, ?_⟩
    -- the loop
    refine ⟨fun m σ H' => ∃ (st : List Kd) (vs : List V) (fs : List Str) (v3 : Option V), σ = [some (.ref l), some (.ref lf), some (.ref lw), v3] ∧ Same H H' ∧ H' lf = some (.lst (fs.map V.str)) ∧ H' lw = some (.lst vs) ∧ KdsAt H' vs st ∧ m = sizeL st ∧
      (∀ k ∈ st, k.fit 60) ∧ fs.length + sizeL st ≤ 16000000 ∧ vsL st.reverse fs = vsL ks [], ⟨sizeL ks, ks.reverse, xs.reverse, [], none, rfl, ss, ?_, upd_same, KdsAt.tups (same_tups ss) (paired_rev h2), (sizeL_rev ks).symm, fun q hq => h3 q (List.mem_reverse.mp hq), by rw [sizeL_rev]; simpa using h4, by rw [List.reverse_reverse]⟩, ?_⟩
    · rw [upd_ne nfw]
      exact s2 _ _ upd_same
    · rintro m σ H1 ⟨st, vs, fs, v3, rfl, s4, g1, g2, g3, rfl, g4, g5, g6⟩
      refine ⟨_, rfl, slz rfl, fun e he => ?_⟩
      have s5 : Same H1 (upd H1 e (.lst [])) := same_new he
      refine ⟨_, _, .lst (SqL.of (s5 _ _ g2)) (KdsAt.dp (KdsAt.tups (same_tups s5) g3)), .lst (SqL.of upd_same) .nil, shaped_kds g4, shaped_nil, _, rfl, ?_⟩
      rw [kds_ne]
      have S5 := s4.trans s5
      have g1' := s5 _ _ g1
      have g2' := s5 _ _ g2
      have g3' := KdsAt.tups (same_tups s5) g3
      generalize upd H1 e (.lst []) = H2 at S5 g1' g2' g3' ⊢
      clear g1 g2 g3 s5 s4
      by_cases hst : st = []
      · subst hst
        refine iteF ?_
        refine ⟨_, rfl, k H2 lf S5 hlf ?_⟩
        rw [g1']
        have : fs = vsL ks [] := g6
        rw [this]
      · have hne : (!st.isEmpty) = true := by
          cases st with
          | nil => exact absurd rfl hst
          | cons _ _ => rfl
        refine iT hne ?_
        obtain ⟨st0, kd, rfl⟩ := kds_snoc st hst
        obtain ⟨vs0, v, rfl, g31, g32⟩ := paired_last g3'
        refine ⟨fun σ' H' => ∃ (st : List Kd) (vs : List V) (fs : List Str) (v3 : Option V), σ' = [some (.ref l), some (.ref lf), some (.ref lw), v3] ∧ Same H H' ∧ H' lf = some (.lst (fs.map V.str)) ∧ H' lw = some (.lst vs) ∧ KdsAt H' vs st ∧ sizeL st < sizeL (st0 ++ [kd]) ∧
          (∀ k ∈ st, k.fit 60) ∧ fs.length + sizeL st ≤ 16000000 ∧ vsL st.reverse fs = vsL ks [], ?_, ?_⟩
        · rintro σ' H' ⟨st, vs, fs, v3, e1, e2, e3, e4, e5, e6, e7, e8, e9⟩
          exact ⟨sizeL st, e6, st, vs, fs, v3, e1, e2, e3, e4, e5, rfl, e7, e8, e9⟩
        · have lsz : sizeL (st0 ++ [kd]) = sizeL st0 + kd.size := by rw [sizeL_append]; rfl
          rw [List.reverse_append] at g6
          have g6' : vsL st0.reverse (kd.vs fs) = vsL ks [] := g6
          have fitk := g4 kd (List.mem_append_right _ List.mem_cons_self)
          have fit0 : ∀ k ∈ st0, k.fit 60 := fun q hq => g4 q (List.mem_append_left _ hq)
          have S6 : Same H (upd H2 lw (.lst vs0)) := fun b o z => by
            rw [upd_ne (ne_of_none z nlw)]
            exact S5 _ _ z
          have tu : Tups H2 (upd H2 lw (.lst vs0)) := Tups.put g2' (by intro xs z; cases z)
          have gf : (upd H2 lw (.lst vs0)) lf = some (.lst (fs.map V.str)) := by rw [upd_ne nfw]; exact g1'
          refine ⟨_, rfl, .inl ⟨rfl, _, SqL.of g2'⟩, lw, vs0 ++ [v], v, rfl, rfl, g2', by simp, ?_⟩
          rw [List.dropLast_concat]
          have gw : (upd H2 lw (.lst vs0)) lw = some (.lst vs0) := upd_same
          have k1 := KdsAt.tups tu g31
          have k2 := KdAt.tups tu g32
          generalize upd H2 lw (.lst vs0) = H3 at S6 gf gw k1 k2 ⊢
          clear tu
          have hs1 := kd.size_pos
          cases kd with
          | app a d =>
            obtain ⟨p, u, z, rfl, hp, ha, hd⟩ := id k2
            obtain ⟨j, ej, fa, fd'⟩ := Kd.fit_app fitk
            have ej' : j = 59 := by omega
            subst ej'
            refine ⟨_, rfl, _, _, _, _, rfl, rfl, SqT.of hp, rfl, rfl, _, rfl, iT tg_aa ?_⟩
            refine ⟨_, rfl, .inl ⟨rfl, _, SqL.of gw⟩, _, rfl, _, _, _, _, rfl, rfl, SqT.of hp, rfl, _, rfl, _, _, _, _, rfl, rfl, SqT.of hp, rfl, slz rfl, fun q hq => ?_⟩
            have s7 : Same H3 (upd H3 q (.lst [z, u])) := same_new hq
            have nq : lw ≠ q := ne_of_none gw hq
            have lnv : vs0.length ≤ 16000000 := by
              have := sizeL_len st0
              rw [Paired.length k1]
              omega
            refine ⟨lw, q, vs0, [z, u], rfl, rfl, s7 _ _ gw, upd_same, Nat.le_of_lt (size_line (by simp; omega)), ?_⟩
            have tu8 : Tups H3 (upd (upd H3 q (.lst [z, u])) lw (.lst (vs0 ++ [z, u]))) := (same_tups s7).trans (Tups.put (s7 _ _ gw) (by intro xs z; cases z))
            refine ⟨st0 ++ [d, a], vs0 ++ [z, u], fs, _, rfl, fun b o zz => ?_, ?_, upd_same, ?_, ?_, ?_, ?_, ?_⟩
            · rw [upd_ne (ne_of_none zz nlw)]
              exact s7 _ _ (S6 _ _ zz)
            · rw [upd_ne nfw]
              exact s7 _ _ gf
            · have q1 := KdsAt.tups tu8 k1
              have q2 := Paired.snoc (Paired.snoc q1 (KdAt.tups tu8 hd)) (KdAt.tups tu8 ha)
              rw [List.append_assoc, List.append_assoc] at q2
              exact q2
            · rw [sizeL_append, lsz]
              simp only [sizeL, Kd.size]
              omega
            · intro k hk
              rcases List.mem_append.mp hk with q | q
              · exact fit0 k q
              · rcases List.mem_cons.mp q with q | q
                · rw [q]; exact Kd.fit_mono (by omega) fd'
                · rw [List.mem_singleton.mp q]; exact Kd.fit_mono (by omega) fa
            · rw [sizeL_append]
              rw [lsz] at g5
              simp only [sizeL, Kd.size] at g5 ⊢
              omega
            · rw [List.reverse_append]
              exact g6'
          | var x =>
            obtain ⟨p, rfl, hp⟩ := id k2
            refine ⟨_, rfl, _, _, _, _, rfl, rfl, SqT.of hp, rfl, rfl, _, rfl, iF tg_va ?_⟩
            refine ⟨_, rfl, _, _, _, _, rfl, rfl, SqT.of hp, rfl, rfl, _, rfl, iT tg_vv ?_⟩
            refine ⟨_, rfl, _, _, _, _, rfl, rfl, SqT.of hp, rfl, _, rfl, lf, _, rfl, .inl (SqL.of gf), rfl, flat_words fs, _, rfl, ?_⟩
            show if (!inV (.str x) (fs.map V.str)) = true then _ else _
            rw [inV_words]
            by_cases hx : x ∈ fs
            · refine iF (by rw [decide_eq_true hx]; rfl) ?_
              refine ⟨st0, vs0, fs, _, rfl, S6, gf, gw, k1, by rw [lsz]; omega, fit0, by rw [lsz] at g5; omega, ?_⟩
              rw [← g6']
              show vsL st0.reverse fs = vsL st0.reverse (addV fs x)
              unfold addV
              rw [if_pos hx]
            · refine iT (by rw [decide_eq_false hx]; rfl) ?_
              have lnf : fs.length ≤ 16000000 := by omega
              refine ⟨_, rfl, .inl ⟨rfl, _, SqL.of gf⟩, _, rfl, _, _, _, _, rfl, rfl, SqT.of hp, rfl, lf, _, _, rfl, rfl, gf, by rw [List.length_map]; exact size_line (by omega), ?_⟩
              have tu8 : Tups H3 (upd H3 lf (.lst (fs.map V.str ++ [V.str x]))) := Tups.put gf (by intro xs z; cases z)
              refine ⟨st0, vs0, fs ++ [x], _, rfl, fun b o zz => ?_, by rw [upd_same, List.map_append]; rfl, by rw [upd_ne nfw.symm]; exact gw, KdsAt.tups tu8 k1, by rw [lsz]; omega, fit0, ?_, ?_⟩
              · rw [upd_ne (ne_of_none zz hlf)]
                exact S6 _ _ zz
              · rw [lsz] at g5
                simp only [Kd.size, List.length_append, List.length_singleton] at g5 ⊢
                omega
              · rw [← g6']
                show vsL st0.reverse (fs ++ [x]) = vsL st0.reverse (addV fs x)
                unfold addV
                rw [if_neg hx]
          | con x =>
            obtain ⟨p, rfl, hp⟩ := id k2
            refine ⟨_, rfl, _, _, _, _, rfl, rfl, SqT.of hp, rfl, rfl, _, rfl, iF tg_ca ?_⟩
            refine ⟨_, rfl, _, _, _, _, rfl, rfl, SqT.of hp, rfl, rfl, _, rfl, iF tg_cv ?_⟩
            refine iteF ?_
            exact ⟨st0, vs0, fs, _, rfl, S6, gf, gw, k1, by rw [lsz]; omega, fit0, by rw [lsz] at g5; omega, g6'⟩
end
end L3

namespace L3
open PySem L2
structure Bl7 (mg : Str → Option Value) : Prop where
  set : mg "set" = none
  sum : mg "sum" = none
/-- a walk over a list or a tuple that stands in a name -/
def iSeqV (K : PySem.W.Frag) (i : Nat) : TI := fun σ H R => ∃ (a : Addr) (xs : List V), σ[i]? = some (some (.ref a)) ∧ (SqL K H a xs ∨ SqT K H a xs) ∧ ∀ (J : It) (G : Hp → Prop), Walk J xs.length G (YAt xs) → (∀ H', Same H H' → G H') → R J H
theorem sqT_same {K : PySem.W.Frag} {H H' : Hp} (e : Same H H') {a : Addr} {xs : List V} (h : SqT K H a xs) : SqT K H' a xs := by
  rcases h with (h | ⟨o, h⟩) | h
  · exact .inl (.inl (e _ _ h))
  · exact .inl (.inr ⟨o, e _ _ h⟩)
  · exact .inr h
theorem pi_seqV {X : Cx} {tg l : Expr} {i : Nat} (hl : PE X l (tVar i)) : PI X tg l (iSeqV X.K i) := by
  refine ⟨fun pins s σ H R I h => ?_⟩
  obtain ⟨a, xs, e, hs, q⟩ := h
  rcases hs with hs | hs
  · exact (pi_list hl).run pins s σ H R I ⟨_, e, a, rfl, ⟨xs, hs⟩, q _ _ walk_list fun H' s1 => s1.seq hs⟩
  · exact (pi_tup hl).run pins s σ H R I ⟨_, e, a, rfl, ⟨xs, hs⟩, q _ _ walk_tup fun H' s1 => sqT_same s1 hs⟩
theorem rd_same {H H' : Hp} (e : Same H H') {a : Addr} {u : HO} (h : Rd H a u) : Rd H' a u := by
  rcases h with h | ⟨o, h⟩
  · exact .inl (e _ _ h)
  · exact .inr ⟨o, e _ _ h⟩
theorem dgetR {H : Hp} {a : Addr} {kvs : List (Key × V)} (x : Str) (h : Rd H a (.dK kvs)) : DGet H a (.str x) (valV kvs (.inr x)) := .inl ⟨kvs, .inr x, h, rfl, rfl⟩
section
variable {P : Program} {w : World} {K : PySem.W.Frag} {mg : Str → Option Value} {base : Heap}
/-! ### is_free -/
abbrev s_is_free : Stmt := topS 3
abbrev N_is_free : List Str := ["kind", "fixed"]
theorem sc_is_free : FnScope N_is_free ["kind", "fixed"] (defScope s_is_free) := ⟨rfl, rfl, rfl, by decide +kernel, rfl, by decide +kernel, by decide +kernel⟩
def Kd.isVar : Kd → Bool
  | .var _ => true
  | _ => false
def spFree (K : PySem.W.Frag) : Sp := fun vs H Q _ => ∃ (v : V) (d : Addr) (k : Kd), vs = [v, .ref d] ∧ KdAt H v k ∧ SqT K H d [] ∧ Q (.bl k.isVar) H
theorem ok_free {f : Addr} {fd : FuncData} (F : Fun K "is_free" "is_free" s_is_free f fd) : FnOk P w K mg base CX0 1 f fd ["kind", "fixed"] (spFree K) := by
  refine F.ok sc_is_free (fun vs H Q E h => ?_) (fun cdv A outer s H vs Q E hr h => ?_)
  · obtain ⟨v, d, k, rfl, _⟩ := h
    rfl
  · obtain ⟨v, d, kd, rfl, hk, hd, k⟩ := h
    refine ⟨_, (pss_one (ps_ret (pe_and (pe_cmpR op_eq (pe_ix ix_tup (pv 0) pe_int (fun _ _ => rfl)) pe_str (nomark _)) (pe_one (pe_cmpR op_notIn_seq (pe_ix ix_tup (pv 0) pe_int (fun _ _ => rfl)) (pv 1) (by rfl)))))), ?_⟩
    cases kd with
    | var x =>
      obtain ⟨a, rfl, ha⟩ := hk
      refine ⟨_, rfl, _, _, _, _, rfl, rfl, SqT.of ha, rfl, rfl, _, rfl, iT tg_vv ?_⟩
      exact ⟨_, rfl, _, _, _, _, rfl, rfl, SqT.of ha, rfl, _, rfl, d, [], rfl, .inr hd, rfl, rfl, k⟩
    | con x =>
      obtain ⟨a, rfl, ha⟩ := hk
      refine ⟨_, rfl, _, _, _, _, rfl, rfl, SqT.of ha, rfl, rfl, _, rfl, iF tg_cv ?_⟩
      exact k
    | app b c =>
      obtain ⟨a, u, z, rfl, ha, _⟩ := hk
      refine ⟨_, rfl, _, _, _, _, rfl, rfl, SqT.of ha, rfl, rfl, _, rfl, iF tg_av ?_⟩
      exact k
/-! ### followed -/
abbrev s_followed : Stmt := topS 4
abbrev N_followed : List Str := ["kind", "found"]
theorem sc_followed : FnScope N_followed ["kind", "found"] (defScope s_followed) := ⟨rfl, rfl, rfl, by decide +kernel, rfl, by decide +kernel, by decide +kernel⟩
def spFol : Sp := fun vs H Q _ => ∃ (v : V) (d : Addr) (k k' : Kd) (kvs : List (Key × V)) (f : By) (n : Nat), vs = [v, .ref d] ∧ KdAt H v k ∧ Rd H d (.dK kvs) ∧ ByAt H kvs f ∧ Fol f k k' n ∧
  ∀ v', KdAt H v' k' → Q v' H
theorem ok_followed {f : Addr} {fd : FuncData} (F : Fun K "followed" "followed" s_followed f fd) : FnOk P w K mg base CX0 1 f fd ["kind", "found"] spFol := by
  refine F.ok sc_followed (fun vs H Q E h => ?_) (fun cdv A outer s H vs Q E hr h => ?_)
  · obtain ⟨v, d, k, k', kvs, f, n, rfl, _⟩ := h
    rfl
  · obtain ⟨v, d, kd, k', kvs, f, n, rfl, hk, hd, hb, q, k⟩ := h
    have hu := hu_of hr
    refine ⟨_, (pss_cons (ps_while PassesOwn.never (PW.pt (pw_and (pt_cmpR op_eq (pe_ix ix_tup (pv 0) pe_int (fun _ _ => rfl)) pe_str (nomark _)) (pw_and1 (pt_cmp (pc_din hu (pe_ix ix_tup (pv 0) pe_int (fun _ _ => rfl)) (pv 1)) (by rfl)))))
  (pss_one (ps_set (i := 0) sc_followed.nd rfl (Or.inl rfl) (pe_dget hu (pv 1) (pe_ix ix_tup (pv 0) pe_int (fun _ _ => rfl)) (fun _ _ => rfl)))))
  (pss_one (ps_ret (pv 0)))), ?_⟩
    refine ⟨fun m σ H' => H' = H ∧ ∃ (v : V) (kd : Kd), σ = [some v, some (.ref d)] ∧ KdAt H v kd ∧ Fol f kd k' m, ⟨n, rfl, v, kd, rfl, hk, q⟩, ?_⟩
    rintro m σ H1 ⟨rfl, v, kd, rfl, hk, q⟩
    have fin : ∀ v', KdAt H1 v' k' → tRet (tVar 0) { nx := fun _ H' => Q .non H', rt := Q } [some v', some (.ref d)] H1 := fun v' h => ⟨_, rfl, k v' h⟩
    cases kd with
    | var x =>
      obtain ⟨a, rfl, ha⟩ := id hk
      refine ⟨_, rfl, _, _, _, _, rfl, rfl, SqT.of ha, rfl, rfl, _, rfl, iT tg_vv ?_⟩
      rcases hb.get x with ⟨e1, e2⟩ | ⟨v1, k1, e1, e2, g⟩
      · refine ⟨_, rfl, _, _, _, _, rfl, rfl, SqT.of ha, rfl, _, rfl, d, none, rfl, by rw [← e1]; exact dgetR x hd, _, rfl, iF rfl ?_⟩
        cases q with
        | stop _ => exact fin _ hk
        | step e _ => rw [e2] at e; cases e
      · refine ⟨_, rfl, _, _, _, _, rfl, rfl, SqT.of ha, rfl, _, rfl, d, some v1, rfl, by rw [← e1]; exact dgetR x hd, _, rfl, iT rfl ?_⟩
        cases q with
        | stop h => rw [h x rfl] at e2; cases e2
        | @step _ u _ j e q =>
          rw [e2] at e
          cases e
          refine ⟨fun σ' H' => H' = H1 ∧ ∃ (v : V) (kd : Kd), σ' = [some v, some (.ref d)] ∧ KdAt H1 v kd ∧ Fol f kd k' j, fun σ' H' h => ⟨j, Nat.lt_succ_self _, h⟩, ?_⟩
          exact ⟨_, rfl, _, rfl, _, _, _, _, rfl, rfl, SqT.of ha, rfl, d, v1, rfl, by rw [← e1]; exact dgetR x hd, rfl, v1, _, rfl, g, q⟩
    | con x =>
      obtain ⟨a, rfl, ha⟩ := id hk
      refine ⟨_, rfl, _, _, _, _, rfl, rfl, SqT.of ha, rfl, rfl, _, rfl, iF tg_cv ?_⟩
      cases q with
      | stop _ => exact fin _ hk
    | app b c =>
      obtain ⟨a, u, z, rfl, ha, _⟩ := id hk
      refine ⟨_, rfl, _, _, _, _, rfl, rfl, SqT.of ha, rfl, rfl, _, rfl, iF tg_av ?_⟩
      cases q with
      | stop _ => exact fin _ hk
/-! ### resolved -/
abbrev s_resolved : Stmt := topS 6
abbrev N_resolved : List Str := ["kind", "found"]
theorem sc_resolved : FnScope N_resolved ["kind", "found"] (defScope s_resolved) := ⟨rfl, rfl, rfl, by decide +kernel, rfl, by decide +kernel, by decide +kernel⟩
def spRes (n : Nat) : Sp := fun vs H Q _ => ∃ (v : V) (d : Addr) (k r : Kd) (kvs : List (Key × V)) (f : By) (m : Nat), vs = [v, .ref d] ∧ KdAt H v k ∧ Rd H d (.dK kvs) ∧ ByAt H kvs f ∧ Dep f k r m ∧ m ≤ n ∧
  ∀ (H' : Hp) (v' : V), Same H H' → KdAt H' v' r → Q v' H'
theorem ok_res_step {n : Nat} {f : Addr} {fd : FuncData} (F : Fun K "resolved" "resolved" s_resolved f fd) (D_resolved : Kn P w K mg base n "resolved" ["kind", "found"] (spPrev spRes n)) : FnOk P w K mg base CX0 (n + 1) f fd ["kind", "found"] (spRes n) := by
  refine F.ok sc_resolved (fun vs H Q E h => ?_) (fun cdv A outer s H vs Q E hr h => ?_)
  · obtain ⟨v, d, k, r, kvs, f, m, rfl, _⟩ := h
    rfl
  · obtain ⟨v, d, kd, r, kvs, f, m, rfl, hk, hd, hb, q, hm, k⟩ := h
    have hr_resolved := hr
    have hu := hu_of hr
    refine ⟨_, (pss_cons (ps_if (pt_cmpR op_eq (pe_ix ix_tup (pv 0) pe_int (fun _ _ => rfl)) pe_str (nomark _))
  (pss_one (ps_ret (pe_tup (pa_cons pe_str (pa_cons (pe_kn D_resolved hr_resolved (pa_cons (pe_ix ix_tup (pv 0) pe_int (fun _ _ => rfl)) (pa_cons (pv 1) pa_nil))) (pa_cons (pe_kn D_resolved hr_resolved (pa_cons (pe_ix ix_tup (pv 0) pe_int (fun _ _ => rfl)) (pa_cons (pv 1) pa_nil))) pa_nil))))))
  pss_nil)
  (pss_cons (ps_if (PW.pt (pw_and (pt_cmpR op_eq (pe_ix ix_tup (pv 0) pe_int (fun _ _ => rfl)) pe_str (nomark _)) (pw_and1 (pt_cmp (pc_din hu (pe_ix ix_tup (pv 0) pe_int (fun _ _ => rfl)) (pv 1)) (by rfl)))))
  (pss_one (ps_ret (pe_kn D_resolved hr_resolved (pa_cons (pe_dget hu (pv 1) (pe_ix ix_tup (pv 0) pe_int (fun _ _ => rfl)) (fun _ _ => rfl)) (pa_cons (pv 1) pa_nil)))))
  pss_nil)
  (pss_one (ps_ret (pv 0))))), ?_⟩
    cases q with
    | @app a c a' c' i j q1 q2 =>
      obtain ⟨p, u, z, rfl, hp, hu1, hz1⟩ := hk
      obtain ⟨n, rfl⟩ : ∃ j, n = j + 1 := ⟨n - 1, by omega⟩
      refine ⟨_, rfl, _, _, _, _, rfl, rfl, SqT.of hp, rfl, rfl, _, rfl, iT tg_aa ?_⟩
      refine ⟨_, rfl, _, _, _, _, rfl, rfl, SqT.of hp, rfl, _, rfl, u, d, a, _, kvs, f, _, rfl, hu1, hd, hb, q1, by omega, fun H1 v1 s1 g1 => ?_⟩
      refine ⟨_, rfl, _, _, _, _, rfl, rfl, SqT.of (s1 _ _ hp), rfl, _, rfl, z, d, c, _, kvs, f, _, rfl, KdAt.tups (same_tups s1) hz1, rd_same s1 hd, ByAt.tups (same_tups s1) hb, q2, by omega, fun H2 v2 s2 g2 => ?_⟩
      refine ⟨slz rfl, fun q hq => ?_⟩
      have s3 : Same H2 (upd H2 q (.tup [.str "apply", v1, v2])) := same_new hq
      exact k _ _ ((s1.trans s2).trans s3) ⟨q, v1, v2, rfl, upd_same, KdAt.tups (same_tups (s2.trans s3)) g1, KdAt.tups (same_tups s3) g2⟩
    | @var x u _ j e q =>
      obtain ⟨p, rfl, hp⟩ := id hk
      obtain ⟨n, rfl⟩ : ∃ j, n = j + 1 := ⟨n - 1, by omega⟩
      refine ⟨_, rfl, _, _, _, _, rfl, rfl, SqT.of hp, rfl, rfl, _, rfl, iF tg_va ?_⟩
      refine ⟨_, rfl, _, _, _, _, rfl, rfl, SqT.of hp, rfl, rfl, _, rfl, iT tg_vv ?_⟩
      rcases hb.get x with ⟨e1, e2⟩ | ⟨v1, k1, e1, e2, g⟩
      · rw [e2] at e; cases e
      · rw [e2] at e
        cases e
        refine ⟨_, rfl, _, _, _, _, rfl, rfl, SqT.of hp, rfl, _, rfl, d, some v1, rfl, by rw [← e1]; exact dgetR x hd, _, rfl, iT rfl ?_⟩
        exact ⟨_, rfl, _, rfl, _, _, _, _, rfl, rfl, SqT.of hp, rfl, d, v1, rfl, by rw [← e1]; exact dgetR x hd, _, rfl, v1, d, _, _, kvs, f, _, rfl, g, hd, hb, q, by omega, k⟩
    | @free x e =>
      obtain ⟨p, rfl, hp⟩ := id hk
      refine ⟨_, rfl, _, _, _, _, rfl, rfl, SqT.of hp, rfl, rfl, _, rfl, iF tg_va ?_⟩
      refine ⟨_, rfl, _, _, _, _, rfl, rfl, SqT.of hp, rfl, rfl, _, rfl, iT tg_vv ?_⟩
      rcases hb.get x with ⟨e1, e2⟩ | ⟨v1, k1, e1, e2, g⟩
      · refine ⟨_, rfl, _, _, _, _, rfl, rfl, SqT.of hp, rfl, _, rfl, d, none, rfl, by rw [← e1]; exact dgetR x hd, _, rfl, iF rfl ?_⟩
        exact ⟨_, rfl, k _ _ (Same.refl _) hk⟩
      · rw [e2] at e; cases e
    | @con x =>
      obtain ⟨p, rfl, hp⟩ := id hk
      refine ⟨_, rfl, _, _, _, _, rfl, rfl, SqT.of hp, rfl, rfl, _, rfl, iF tg_ca ?_⟩
      refine ⟨_, rfl, _, _, _, _, rfl, rfl, SqT.of hp, rfl, rfl, _, rfl, iF tg_cv ?_⟩
      exact ⟨_, rfl, k _ _ (Same.refl _) hk⟩
theorem ok_res {f : Addr} {fd : FuncData} (F : Fun K "resolved" "resolved" s_resolved f fd) (hm : mg "resolved" = some (.ref f)) : ∀ n, FnOk P w K mg base CX0 (n + 1) f fd ["kind", "found"] (spRes n)
  | 0 => ok_res_step F ⟨f, fd, fn_false, hm, F.kp, F.binds fun _ _ _ _ _ _ us hl => match us, hl with | [_, _], _ => rfl⟩
  | n + 1 => ok_res_step F ⟨f, fd, ok_res F hm n, hm, F.kp, F.binds fun _ _ _ _ _ _ us hl => match us, hl with | [_, _], _ => rfl⟩
end
end L3

namespace L3
open PySem L2
/-- the sizes of what was found of names that were not seen -/
def bud (s : List Str) : By → Nat
  | [] => 0
  | q :: r => (if q.1 ∈ s then 0 else q.2.size) + bud s r
theorem bud_mono (s : List Str) (y : Str) : ∀ r : By, bud (s ++ [y]) r ≤ bud s r
  | [] => Nat.le_refl _
  | q :: r => by
    have ih := bud_mono s y r
    simp only [bud]
    by_cases h : q.1 ∈ s
    · rw [if_pos h, if_pos (List.mem_append_left _ h)]
      omega
    · rw [if_neg h]
      by_cases h2 : q.1 ∈ s ++ [y]
      · rw [if_pos h2]
        omega
      · rw [if_neg h2]
        omega
theorem bud_new {s : List Str} {y : Str} {u : Kd} (hy : ¬ y ∈ s) : ∀ {f : By}, lk f y = some u → bud (s ++ [y]) f + u.size ≤ bud s f
  | [], e => nomatch e
  | q :: r, e => by
    by_cases h : q.1 = y
    · rw [lk_pos h] at e
      cases e
      have h1 : ¬ q.1 ∈ s := by rw [h]; exact hy
      have h2 : q.1 ∈ s ++ [y] := by rw [h]; exact List.mem_append_right _ List.mem_cons_self
      have := bud_mono s y r
      simp only [bud]
      rw [if_pos h2, if_neg h1]
      omega
    · rw [lk_neg h] at e
      have ih := bud_new hy e
      simp only [bud]
      by_cases h1 : q.1 ∈ s
      · rw [if_pos h1, if_pos (List.mem_append_left _ h1)]
        omega
      · have h2 : ¬ q.1 ∈ s ++ [y] := fun z => (List.mem_append.mp z).elim h1 fun z => h (List.mem_singleton.mp z)
        rw [if_neg h1, if_neg h2]
        omega
section
variable {P : Program} {w : World} {K : PySem.W.Frag} {mg : Str → Option Value} {base : Heap}
abbrev s_stands_in : Stmt := topS 5
abbrev N_stands_in : List Str := ["name", "kind", "found", "seen", "waiting", "part"]
theorem sc_stands_in : FnScope N_stands_in ["name", "kind", "found"] (defScope s_stands_in) := ⟨rfl, rfl, rfl, by decide +kernel, rfl, by decide +kernel, by decide +kernel⟩
def spStand (K : PySem.W.Frag) : Sp := fun vs H Q _ => ∃ (x : Str) (v : V) (d : Addr) (k : Kd) (kvs : List (Key × V)) (f b : By), vs = [.str x, v, .ref d] ∧ Wok x ∧ KdAt H v k ∧ H d = some (.dK kvs) ∧ ByAt H kvs f ∧ Res f b ∧ FolAll f ∧ lk f x = none ∧ k.fit 60 ∧ (∀ q ∈ f, q.2.fit 60) ∧ k.size + bud [] f ≤ 1000 ∧
  ∀ (H' : Hp) (c : Bool), Same H H' → (c = true ↔ (k.put b).occ x) → Q (.bl c) H'
theorem inS {s : List Str} {y x : Str} : (decide (x ∈ s ++ [y])) = (decide (x ∈ s) || decide (x = y)) := by
  rw [← Bool.decide_or]
  congr 1
  simp
def StandInv (P : Program) (w : World) (x : Str) (v : V) (d p l : Addr) (kd : Kd) (f : By) (H : Hp) (m : Nat) (σ : St) (H' : Hp) : Prop :=
  ∃ (st : List Kd) (vs : List V) (s : List Str) (S : Key → Bool) (n : Nat) (v5 : Option V), σ = [some (.str x), some v, some (.ref d), some (.ref p), some (.ref l), v5] ∧ Same H H' ∧ H' p = some (SetK P w p S n) ∧ H' l = some (.lst vs) ∧ KdsAt H' vs st ∧
      (∀ y, S (.inr y) = decide (y ∈ s)) ∧ m = sizeL st + bud s f ∧ n + m ≤ 1000 ∧ (∀ q ∈ st, q.fit 60) ∧ Seen f x s st ∧ Open f x kd st ∧ (∀ q ∈ st, ∀ n, Way f x q n → ∃ m, Way f x kd m)
theorem ok_stand {g : Addr} {fd : FuncData} (F : Fun K "stands_in" "stands_in" s_stands_in g fd) (B7 : Bl7 mg) : FnOk P w K mg base CX0 1 g fd ["name", "kind", "found"] (spStand K) := by
  refine F.ok sc_stands_in (fun vs H Q E h => ?_) (fun cdv A outer s H vs Q E hr h => ?_)
  · obtain ⟨x, v, d, k, kvs, f, b, rfl, _⟩ := h
    rfl
  · obtain ⟨x, v, d, kd, kvs, f, b, rfl, wx, hk, hd, hb, rs, fa, fx, fk, ff, hz, k⟩ := h
    have hu := hu_of hr
    have hu64 := hr.units
    refine ⟨_, (pss_cons (ps_set (i := 3) sc_stands_in.nd rfl (Or.inl rfl) (pe_callTy0 cr_set0K (by rfl) B7.set (by decide +kernel)))
  (pss_cons (ps_set (i := 4) sc_stands_in.nd rfl (Or.inl rfl) (pe_lst (pa_cons (pv 1) pa_nil)))
  (pss_cons (ps_while PassesOwn.never (pt_truth (pv 4) (by intro _; rfl))
  (pss_cons (ps_set (i := 5) sc_stands_in.nd rfl (Or.inl rfl) (pe_bm0 PySem.F.plainAttrs_list PySem.F.slot_list_pop PySem.F.type_list_pop mt_pop (pv 4)))
  (pss_one (ps_if (pt_cmpR op_eq (pe_ix ix_tup (pv 5) pe_int (fun _ _ => rfl)) pe_str (nomark _))
  (pss_cons (ps_expr (pe_bm PySem.F.plainAttrs_list PySem.F.slot_list_append PySem.F.type_list_append mt_append (pv 4) (pa_cons (pe_ix ix_tup (pv 5) pe_int (fun _ _ => rfl)) pa_nil)))
  (pss_one (ps_expr (pe_bm PySem.F.plainAttrs_list PySem.F.slot_list_append PySem.F.type_list_append mt_append (pv 4) (pa_cons (pe_ix ix_tup (pv 5) pe_int (fun _ _ => rfl)) pa_nil)))))
  (pss_one (ps_if (pt_cmpR (op_eqD hu64) (pv 5) (pe_tup (pa_cons pe_str (pa_cons (pv 0) pa_nil))) (nomark _))
  (pss_one (ps_ret pe_bl))
  (pss_one (ps_if (PW.pt (pw_and (pt_cmpR op_eq (pe_ix ix_tup (pv 5) pe_int (fun _ _ => rfl)) pe_str (nomark _)) (pw_and (pt_cmp (pc_din hu (pe_ix ix_tup (pv 5) pe_int (fun _ _ => rfl)) (pv 2)) (by rfl)) (pw_and1 (pt_cmpR or_snotinK (pe_ix ix_tup (pv 5) pe_int (fun _ _ => rfl)) (pv 3) (by rfl))))))
  (pss_cons (ps_expr (pe_saddK (pv 3) (pa_cons (pe_ix ix_tup (pv 5) pe_int (fun _ _ => rfl)) pa_nil)))
  (pss_one (ps_expr (pe_bm PySem.F.plainAttrs_list PySem.F.slot_list_append PySem.F.type_list_append mt_append (pv 4) (pa_cons (pe_dget hu (pv 2) (pe_ix ix_tup (pv 5) pe_int (fun _ _ => rfl)) (fun _ _ => rfl)) pa_nil)))))
  pss_nil))))))))
  (pss_one (ps_ret pe_bl))))), ?_⟩
    refine ⟨rfl, fun p hp => ?_⟩
    have s1 : Same H (upd H p (SetK P w p (fun _ => false) 0)) := same_new hp
    refine ⟨_, rfl, slz rfl, fun l hl => ?_⟩
    have s2 : Same (upd H p (SetK P w p (fun _ => false) 0)) (upd (upd H p (SetK P w p (fun _ => false) 0)) l (.lst [v])) := same_new hl
    have s12 := s1.trans s2
    have npl : p ≠ l := ne_of_none upd_same hl
    have nl : H l = none := s1.free hl
    refine ⟨StandInv P w x v d p l kd f H,
      ⟨_, [kd], [v], [], _, 0, none, rfl, s12, s2 _ _ upd_same, upd_same, .cons (KdAt.tups (same_tups s12) hk) .nil, (fun y => rfl), rfl, ?_, fun q hq => by rw [List.mem_singleton.mp hq]; exact fk, (fun y hy => nomatch hy), fun q => ⟨kd, List.mem_singleton.mpr rfl, q⟩, fun q hq n z => by rw [List.mem_singleton.mp hq] at z; exact ⟨n, z⟩⟩, ?_⟩
    · show 0 + (sizeL [kd] + bud [] f) ≤ 1000
      simp only [sizeL]
      omega
    rintro m σ H1 ⟨st, vs, s, S, n, v5, rfl, s3, gp, gl, gs, gS, rfl, hm, fst', sn, op, rc⟩
    refine ⟨_, rfl, _, .inl ⟨vs, SqL.of gl, rfl⟩, ?_⟩
    by_cases hst : st = []
    · subst hst
      cases gs
      refine iteF ?_
      refine k H1 false s3 ⟨(fun z => by cases z), fun z => ?_⟩
      obtain ⟨n, q⟩ := (occ_way rs fa).mp z
      obtain ⟨v, hv, _⟩ := op ⟨n, q⟩
      cases hv
    obtain ⟨st0, q0, rfl⟩ := kds_snoc st hst
    obtain ⟨vs0, v0, rfl, g1, g2⟩ := paired_last gs
    have hne : (!(vs0 ++ [v0]).isEmpty) = true := by cases vs0 <;> rfl
    refine iT hne ?_
    have lsz : sizeL (st0 ++ [q0]) = sizeL st0 + q0.size := by rw [sizeL_append]; rfl
    rw [lsz] at hm ⊢
    have lvs : vs0.length ≤ 1000 := by
      have := sizeL_len st0
      rw [Paired.length g1]
      omega
    refine ⟨fun σ' H' => ∃ m', m' < sizeL st0 + q0.size + bud s f ∧ StandInv P w x v d p l kd f H m' σ' H', fun σ' H' h => h, ?_⟩
    refine ⟨_, rfl, .inl ⟨rfl, _, SqL.of gl⟩, l, vs0 ++ [v0], v0, rfl, rfl, gl, by simp, ?_⟩
    rw [List.dropLast_concat]
    have tu : Tups H1 (upd H1 l (.lst vs0)) := Tups.put gl (by intro xs z; cases z)
    have S2 : Same H (upd H1 l (.lst vs0)) := fun b o z => by
      rw [upd_ne (ne_of_none z nl)]
      exact s3 _ _ z
    have gp2 : (upd H1 l (.lst vs0)) p = some (SetK P w p S n) := by rw [upd_ne npl]; exact gp
    have gl2 : (upd H1 l (.lst vs0)) l = some (.lst vs0) := upd_same
    have k1 := KdsAt.tups tu g1
    have k2 := KdAt.tups tu g2
    generalize upd H1 l (.lst vs0) = H2 at S2 gp2 gl2 k1 k2 ⊢
    clear tu gs g1 g2 gl gp s3
    have fq := fst' q0 (List.mem_append_right _ List.mem_cons_self)
    have f0 : ∀ q ∈ st0, q.fit 60 := fun q hq => fst' q (List.mem_append_left _ hq)
    have sub : ∀ z ∈ st0 ++ [q0], z = q0 ∨ z ∈ st0 := fun z hz => (List.mem_append.mp hz).elim .inr fun h => .inl (List.mem_singleton.mp h)
    have rc0 : ∀ q ∈ st0, ∀ n, Way f x q n → ∃ m, Way f x kd m := fun q hq => rc q (List.mem_append_left _ hq)
    have rcq : ∀ n, Way f x q0 n → ∃ m, Way f x kd m := rc q0 (List.mem_append_right _ List.mem_cons_self)
    have hpos := q0.size_pos
    cases q0 with
    | app a c =>
      obtain ⟨t, u, z, rfl, ht, ha, hc⟩ := id k2
      obtain ⟨j, ej, fa1, fc1⟩ := Kd.fit_app fq
      refine ⟨_, rfl, _, _, _, _, rfl, rfl, SqT.of ht, rfl, rfl, _, rfl, iT tg_aa ?_⟩
      refine ⟨_, rfl, .inl ⟨rfl, _, SqL.of gl2⟩, _, rfl, _, _, _, _, rfl, rfl, SqT.of ht, rfl, l, _, _, rfl, rfl, gl2, size_line (by omega), ?_⟩
      have t3 : Tups H2 (upd H2 l (.lst (vs0 ++ [u]))) := Tups.put gl2 (by intro xs z; cases z)
      have gl3 : (upd H2 l (.lst (vs0 ++ [u]))) l = some (.lst (vs0 ++ [u])) := upd_same
      refine ⟨_, rfl, .inl ⟨rfl, _, SqL.of gl3⟩, _, rfl, _, _, _, _, rfl, rfl, SqT.of (t3 _ _ ht), rfl, l, _, _, rfl, rfl, gl3, size_line (by rw [List.length_append, List.length_singleton]; omega), ?_⟩
      have t4 : Tups (upd H2 l (.lst (vs0 ++ [u]))) (upd (upd H2 l (.lst (vs0 ++ [u]))) l (.lst (vs0 ++ [u] ++ [z]))) := Tups.put gl3 (by intro xs z; cases z)
      have t24 := t3.trans t4
      have mv := move_app (f := f) (x := x) (w := st0 ++ [.app a c]) (w' := st0 ++ [a] ++ [c]) sub (fun v hv => List.mem_append_left _ (List.mem_append_left _ hv)) (List.mem_append_left _ (List.mem_append_right _ List.mem_cons_self)) (List.mem_append_right _ List.mem_cons_self)
      have sz2 : sizeL (st0 ++ [a] ++ [c]) = sizeL st0 + a.size + c.size := by rw [sizeL_append, sizeL_append]; rfl
      have szq : (Kd.app a c).size = a.size + c.size + 1 := rfl
      refine ⟨sizeL (st0 ++ [a] ++ [c]) + bud s f, by omega, st0 ++ [a] ++ [c], vs0 ++ [u] ++ [z], s, S, n, _, rfl, fun b o q => ?_, ?_, upd_same, ?_, gS, rfl, by omega, ?_, sn.move mv, op.move mv, ?_⟩
      · rw [upd_ne (ne_of_none q nl), upd_ne (ne_of_none q nl)]
        exact S2 _ _ q
      · rw [upd_ne npl, upd_ne npl]
        exact gp2
      · exact Paired.snoc (Paired.snoc (KdsAt.tups t24 k1) (KdAt.tups t24 ha)) (KdAt.tups t24 hc)
      · intro q hq
        rcases List.mem_append.mp hq with h | h
        · rcases List.mem_append.mp h with h | h
          · exact f0 q h
          · rw [List.mem_singleton.mp h]; exact Kd.fit_mono (by omega) fa1
        · rw [List.mem_singleton.mp h]; exact Kd.fit_mono (by omega) fc1
      · intro q hq n w
        rcases List.mem_append.mp hq with h | h
        · rcases List.mem_append.mp h with h | h
          · exact rc0 q h n w
          · rw [List.mem_singleton.mp h] at w; exact rcq _ (.fst w)
        · rw [List.mem_singleton.mp h] at w; exact rcq _ (.snd w)
    | con y =>
      obtain ⟨t, rfl, ht⟩ := id k2
      refine ⟨_, rfl, _, _, _, _, rfl, rfl, SqT.of ht, rfl, rfl, _, rfl, iF tg_ca ?_⟩
      refine ⟨_, rfl, _, rfl, slz rfl, fun q hq => ?_⟩
      have sn3 : Same H2 (upd H2 q (.tup [.str "var", .str x])) := same_new hq
      have vq : KdAt (upd H2 q (.tup [.str "var", .str x])) (.ref q) (.var x) := ⟨q, rfl, upd_same⟩
      refine ⟨_, _, (KdAt.tups (same_tups sn3) k2).dp, vq.dp, Kd.shaped fq (by decide), Kd.shaped (n := 0) (fitV wx) (by decide), _, rfl, ?_⟩
      rw [Kd.eqv]
      refine iF (decide_eq_false (by intro z; cases z)) ?_
      refine ⟨_, rfl, _, _, _, _, rfl, rfl, SqT.of (sn3 _ _ ht), rfl, rfl, _, rfl, iF tg_cv (iteF ?_)⟩
      have mv := move_off (f := f) (x := x) (w := st0 ++ [.con y]) (fun n => no_way_con n) sub
      exact ⟨sizeL st0 + bud s f, by omega, st0, vs0, s, S, n, _, rfl, S2.trans sn3, sn3 _ _ gp2, sn3 _ _ gl2, KdsAt.tups (same_tups sn3) k1, gS, rfl, by omega, f0, sn.move mv, op.move mv, rc0⟩
    | var y =>
      obtain ⟨t, rfl, ht⟩ := id k2
      refine ⟨_, rfl, _, _, _, _, rfl, rfl, SqT.of ht, rfl, rfl, _, rfl, iF tg_va ?_⟩
      refine ⟨_, rfl, _, rfl, slz rfl, fun q hq => ?_⟩
      have sn3 : Same H2 (upd H2 q (.tup [.str "var", .str x])) := same_new hq
      have vq : KdAt (upd H2 q (.tup [.str "var", .str x])) (.ref q) (.var x) := ⟨q, rfl, upd_same⟩
      refine ⟨_, _, (KdAt.tups (same_tups sn3) k2).dp, vq.dp, Kd.shaped fq (by decide), Kd.shaped (n := 0) (fitV wx) (by decide), _, rfl, ?_⟩
      rw [Kd.eqv]
      have S3 := S2.trans sn3
      have gp3 := sn3 _ _ gp2
      have gl3 := sn3 _ _ gl2
      have ht3 := sn3 _ _ ht
      have k3 := KdsAt.tups (same_tups sn3) k1
      generalize upd H2 q (.tup [.str "var", .str x]) = H3 at S3 gp3 gl3 ht3 k3 ⊢
      clear sn3 vq
      by_cases hyx : y = x
      · subst hyx
        refine iT (decide_eq_true rfl) ?_
        refine k H3 true S3 ⟨fun _ => ?_, fun _ => rfl⟩
        obtain ⟨m, w⟩ := rcq 0 (.here fx)
        exact w.occ rs
      refine iF (decide_eq_false (fun z => hyx (Kd.var.inj z))) ?_
      refine ⟨_, rfl, _, _, _, _, rfl, rfl, SqT.of ht3, rfl, rfl, _, rfl, iT tg_vv ?_⟩
      have d3 := S3 _ _ hd
      rcases (ByAt.tups (same_tups S3) hb).get y with ⟨e1, e2⟩ | ⟨v1, u, e1, e2, gu⟩
      · refine ⟨_, rfl, _, _, _, _, rfl, rfl, SqT.of ht3, rfl, _, rfl, d, none, rfl, by rw [← e1]; exact DGet.k (k := .inr y) d3, _, rfl, iF rfl (iteF ?_)⟩
        have mv := move_off (f := f) (x := x) (w := st0 ++ [.var y]) (fun n => no_way_free e2 hyx n) sub
        exact ⟨sizeL st0 + bud s f, by omega, st0, vs0, s, S, n, _, rfl, S3, gp3, gl3, k3, gS, rfl, by omega, f0, sn.move mv, op.move mv, rc0⟩
      · refine ⟨_, rfl, _, _, _, _, rfl, rfl, SqT.of ht3, rfl, _, rfl, d, some v1, rfl, by rw [← e1]; exact DGet.k (k := .inr y) d3, _, rfl, iT rfl ?_⟩
        refine ⟨_, rfl, _, _, _, _, rfl, rfl, SqT.of ht3, rfl, _, rfl, .inr y, p, S, n, rfl, rfl, gp3, _, rfl, ?_⟩
        show if (!S (.inr y)) = true then _ else _
        rw [gS y]
        by_cases hs : y ∈ s
        · refine iF (by rw [decide_eq_true hs]; rfl) ?_
          have mv := move_seen sn hs sub
          exact ⟨sizeL st0 + bud s f, by omega, st0, vs0, s, S, n, _, rfl, S3, gp3, gl3, k3, gS, rfl, by omega, f0, sn.move mv, op.move mv, rc0⟩
        · refine iT (by rw [decide_eq_false hs]; rfl) ?_
          have bn := bud_new hs e2
          have up := u.size_pos
          refine ⟨_, rfl, ⟨p, S, n, rfl, gp3⟩, _, rfl, _, _, _, _, rfl, rfl, SqT.of ht3, rfl, p, .inr y, S, n, rfl, rfl, gp3, ?_, ?_⟩
          · show n + 1 < 4096
            omega
          have t4 : ∀ o, Tups H3 (upd H3 p (SetK P w p o (n + 1))) := fun o => Tups.put gp3 (by intro xs z; cases z)
          have en : (if S (.inr y) = true then n else n + 1) = n + 1 := by rw [gS y, decide_eq_false hs]; rfl
          rw [en]
          have gS2 : ∀ z, (fun j => S j || decide (j = (.inr y : Key))) (.inr z) = decide (z ∈ s ++ [y]) := fun z => by
            show (S (.inr z) || decide ((.inr z : Key) = .inr y)) = _
            rw [gS z, inS]
            congr 1
            exact decide_eq_decide.mpr ⟨fun e => Sum.inr.inj e, fun e => by rw [e]⟩
          generalize (fun j => S j || decide (j = (.inr y : Key))) = S' at gS2 ⊢
          have t4 := t4 S'
          have S4 : Same H (upd H3 p (SetK P w p S' (n + 1))) := fun b o q => by
            rw [upd_ne (ne_of_none q hp)]
            exact S3 _ _ q
          have gp4 : (upd H3 p (SetK P w p S' (n + 1))) p = some (SetK P w p S' (n + 1)) := upd_same
          have gl4 : (upd H3 p (SetK P w p S' (n + 1))) l = some (.lst vs0) := by rw [upd_ne npl.symm]; exact gl3
          have d4 := S4 _ _ hd
          refine ⟨_, rfl, .inl ⟨rfl, _, SqL.of gl4⟩, _, rfl, _, rfl, _, _, _, _, rfl, rfl, SqT.of (t4 _ _ ht3), rfl, d, v1, rfl, by rw [← e1]; exact DGet.k (k := .inr y) d4, l, _, _, rfl, rfl, gl4, size_line (by omega), ?_⟩
          have t5 : Tups (upd H3 p (SetK P w p S' (n + 1))) (upd (upd H3 p (SetK P w p S' (n + 1))) l (.lst (vs0 ++ [v1]))) := Tups.put gl4 (by intro xs z; cases z)
          have t35 := t4.trans t5
          have mv := move_new (f := f) (x := x) (w := st0 ++ [.var y]) (w' := st0 ++ [u]) e2 sub (fun v hv => List.mem_append_left _ hv) (List.mem_append_right _ List.mem_cons_self)
          have sz2 : sizeL (st0 ++ [u]) = sizeL st0 + u.size := by rw [sizeL_append]; rfl
          have szq : (Kd.var y).size = 1 := rfl
          refine ⟨sizeL (st0 ++ [u]) + bud (s ++ [y]) f, by omega, st0 ++ [u], vs0 ++ [v1], s ++ [y], S', n + 1, _, rfl, fun b o q => ?_, ?_, upd_same, ?_, gS2, rfl, by omega, ?_, (sn.move mv).new e2 (List.mem_append_right _ List.mem_cons_self), op.move mv, ?_⟩
          · rw [upd_ne (ne_of_none q nl)]
            exact S4 _ _ q
          · rw [upd_ne npl]
            exact gp4
          · exact Paired.snoc (KdsAt.tups t35 k3) (KdAt.tups t35 gu)
          · intro q hq
            rcases List.mem_append.mp hq with h | h
            · exact f0 q h
            · rw [List.mem_singleton.mp h]; exact ff _ (lk_mem e2)
          · intro q hq n w
            rcases List.mem_append.mp hq with h | h
            · exact rc0 q h n w
            · rw [List.mem_singleton.mp h] at w; exact rcq _ (.via e2 w)
end
end L3

namespace L3
open PySem L2
theorem UTurn.bound {sw : Bool} {a c k : Kd} {x : Str} {r : List (Kd × Kd)} {f b : By} {o : Option (By × By)} {n : Nat} (t : UTurn sw a c r f b o n) (ne : ¬ a = c) (hb : Bind a c x k) :
    ((k.put b).occ x ∧ o = none) ∨ (¬ (k.put b).occ x ∧ ∃ m, m < n ∧ Uni sw r (f ++ [(x, k)]) (sub1 x (k.put b) b) o m) := by
  cases t with
  | same e => exact absurd e ne
  | bind _ h ho e w =>
    obtain ⟨e1, e2⟩ := h.uniq hb
    subst e1 e2
    exact .inr ⟨ho, _, by omega, w⟩
  | ring _ h ho e =>
    obtain ⟨e1, e2⟩ := h.uniq hb
    subst e1 e2
    exact .inl ⟨ho, e⟩
  | app _ ea ec => exact (hb.noapp ea ec).elim
  | clash _ h => exact absurd hb (h _ _)
theorem UTurn.parts {sw : Bool} {a1 a2 c1 c2 : Kd} {r : List (Kd × Kd)} {f b : By} {o : Option (By × By)} {n : Nat} (t : UTurn sw (.app a1 a2) (.app c1 c2) r f b o n) (ne : ¬ Kd.app a1 a2 = .app c1 c2) : ∃ m, m < n ∧ Uni sw (pr sw a1 c1 :: pr sw a2 c2 :: r) f b o m := by
  cases t with
  | same e => exact absurd e ne
  | bind _ h => exact (h.noapp rfl rfl).elim
  | ring _ h => exact (h.noapp rfl rfl).elim
  | app _ ea ec e w =>
    cases ea
    cases ec
    exact ⟨_, by omega, w⟩
  | clash _ _ h => exact absurd ⟨rfl, rfl⟩ (h _ _ _ _)
theorem UTurn.dead {sw : Bool} {a c : Kd} {r : List (Kd × Kd)} {f b : By} {o : Option (By × By)} {n : Nat} (t : UTurn sw a c r f b o n) (ne : ¬ a = c) (nb : ∀ x k, ¬ Bind a c x k) (na : ∀ a1 a2 c1 c2, ¬ (a = .app a1 a2 ∧ c = .app c1 c2)) : o = none := by
  cases t with
  | same e => exact absurd e ne
  | bind _ h => exact absurd h (nb _ _)
  | ring _ h => exact absurd h (nb _ _)
  | app _ ea ec => exact absurd ⟨ea, ec⟩ (na _ _ _ _)
  | clash _ _ _ e => exact e
/-- a dict comprehension over a walk -/
theorem dc_walk {J : It} {n : Nat} {G : Hp → Prop} {Y : Nat → Hp → V → Hp → Prop} (w : Walk J n G Y) {g : TG} {tt : TT} {tk tv : TE} {vs : List Nat} {σ : St} {H1 : Hp} {D : Addr} {Qd : Hp → Prop} (Pv : Nat → Hp → Prop) (h0 : Pv 0 (upd H1 D (.dK []))) (hG : ∀ i H, i ≤ n → Pv i H → G H)
    (hs : ∀ i x H H', i < n → Pv i H → Y i H x H' → g x (wipe σ vs) H' fun σ2 H2 => wipe σ2 vs = wipe σ vs ∧ tt σ2 H2 fun b H3 =>
      if b = true then tk σ2 H3 fun y H4 => tv σ2 H4 fun z H5 => ∃ kvs k, y = kV k ∧ H5 D = some (.dK kvs) ∧ kvs.length < sizeLine ∧ Pv (i + 1) (upd H5 D (.dK (putK kvs k z))) else Pv (i + 1) H3) (hd : ∀ H, Pv n H → Qd H) :
    ∃ W : Nat → Nat → Hp → Prop, (∃ m, W 0 m (upd H1 D (.dK []))) ∧ ∀ i m H, W i m H →
      (J.stop i H ∧ Qd H) ∨ (J.go i H ∧ ∃ Nx : Hp → Prop, (∀ H', Nx H' → ∃ m', m' < m ∧ W (i + 1) m' H') ∧ ∀ x H', J.yld i H x H' → g x (wipe σ vs) H' fun σ2 H2 => wipe σ2 vs = wipe σ vs ∧ tt σ2 H2 fun b H3 =>
        if b = true then tk σ2 H3 fun y H4 => tv σ2 H4 fun z H5 => ∃ kvs k, y = kV k ∧ H5 D = some (.dK kvs) ∧ kvs.length < sizeLine ∧ Nx (upd H5 D (.dK (putK kvs k z))) else Nx H3) := by
  refine ⟨fun i m H => m = n - i ∧ i ≤ n ∧ Pv i H, ⟨n, by simp, Nat.zero_le _, h0⟩, ?_⟩
  rintro i m H ⟨rfl, hi, p⟩
  have q := hG i H hi p
  by_cases hlt : i < n
  · exact .inr ⟨w.goes i H hlt q, Pv (i + 1), fun H' p' => ⟨n - (i + 1), by omega, rfl, hlt, p'⟩, fun x H' y => hs i x H H' hlt p (w.yields i H x H' hlt q y)⟩
  · have e : i = n := by omega
    subst e
    exact .inl ⟨w.stops H q, hd H p⟩
theorem bud_le {z : Nat} (s : List Str) : ∀ {f : By}, (∀ q ∈ f, q.2.size ≤ z) → bud s f ≤ z * f.length
  | [], _ => Nat.zero_le _
  | q :: r, h => by
    have ih := bud_le s fun q hq => h q (List.mem_cons_of_mem _ hq)
    have := h q List.mem_cons_self
    simp only [bud, List.length_cons, Nat.mul_add, Nat.mul_one]
    split <;> omega
theorem lk_take : ∀ {f : By} {i : Nat} {q : Str × Kd}, (names f).Nodup → f[i]? = some q → lk (f.take i) q.1 = none
  | [], i, q, _, e => by simp at e
  | p :: r, 0, q, _, _ => rfl
  | p :: r, i + 1, q, nd, e => by
    obtain ⟨n1, n2⟩ := List.nodup_cons.mp (show (p.1 :: names r).Nodup from nd)
    have e' : r[i]? = some q := by simpa using e
    show lk (p :: r.take i) q.1 = none
    rw [lk_neg (fun z => n1 (by rw [z]; exact List.mem_map.mpr ⟨q, List.mem_of_getElem? e', rfl⟩))]
    exact lk_take n2 e'
theorem byAt_len {H : Hp} {kvs : List (Key × V)} {b : By} (h : ByAt H kvs b) : kvs.length = b.length := Paired.length h
section
variable {P : Program} {w : World} {K : PySem.W.Frag} {mg : Str → Option Value} {base : Heap}
abbrev s_unite_beside : Stmt := topS 2
abbrev N_unite_beside : List Str := ["pairs", "fixed", "found", "one", "other", "waiting", "name"]
theorem sc_unite_beside : FnScope N_unite_beside ["pairs", "fixed"] (defScope s_unite_beside) := ⟨rfl, rfl, rfl, by decide +kernel, rfl, by decide +kernel, by decide +kernel⟩
/-- what unite tells -/
def UEnd (ws : List Str) (H0 H : Hp) (v : V) : Option (By × By) → Prop
  | none => v = .non
  | some (f, b) => ∃ (d : Addr) (kvs : List (Key × V)), v = .ref d ∧ H0 d = none ∧ H d = some (.dK kvs) ∧ ByAt H kvs b ∧ USt ws f b
def spUB (K : PySem.W.Frag) : Sp := fun vs H Q _ => ∃ (pl fx : Addr) (xs : List V) (ps : List (Kd × Kd)) (ws : List Str) (o : Option (By × By)) (n : Nat), vs = [.ref pl, .ref fx] ∧ SqT K H fx [] ∧ (SqL K H pl xs ∨ SqT K H pl xs) ∧ Paired (PairAt H) xs ps ∧
  ps.length ≤ 3 ∧ ws.length ≤ 4 ∧ (∀ p ∈ ps, Org ws p.1 ∧ Org ws p.2) ∧ Uni false ps [] [] o n ∧ ∀ (H' : Hp) (v : V), Same H H' → UEnd ws H H' v o → Q v H'
def UInv (pl fx d wl : Addr) (ws : List Str) (o : Option (By × By)) (H : Hp) (m : Nat) (σ : St) (H' : Hp) : Prop :=
  ∃ (l : List (Kd × Kd)) (vs : List V) (f b : By) (kvs : List (Key × V)) (v3 v4 : Option V), σ = [some (.ref pl), some (.ref fx), some (.ref d), v3, v4, some (.ref wl), none] ∧ Same H H' ∧ H' d = some (.dK kvs) ∧ H' wl = some (.lst vs) ∧ ByAt H' kvs f ∧ Paired (PairAt H') vs l.reverse ∧
    USt ws f b ∧ Stk ws b l ∧ Uni false l f b o m
theorem ok_ub {g : Addr} {fd : FuncData} (F : Fun K "unite_beside" "unite_beside" s_unite_beside g fd)
    (D_followed : Kn P w K mg base 1 "followed" ["kind", "found"] spFol) (D_is_free : Kn P w K mg base 1 "is_free" ["kind", "fixed"] (spFree K)) (D_stands_in : Kn P w K mg base 1 "stands_in" ["name", "kind", "found"] (spStand K)) (D_resolved : Kn P w K mg base 25 "resolved" ["kind", "found"] (spRes 24)) :
    FnOk P w K mg base CX0 26 g fd ["pairs", "fixed"] (spUB K) := by
  refine F.ok sc_unite_beside (fun vs H Q E h => ?_) (fun cdv A outer s H vs Q E hr h => ?_)
  · obtain ⟨pl, fx, xs, ps, ws, o, n, rfl, _⟩ := h
    rfl
  · obtain ⟨pl, fx, xs, ps, ws, o, n, rfl, hfx, hxs, hps, hl, w4, org, un0, k⟩ := h
    have hu := hu_of hr
    have hu64 := hr.units
    have hr_followed : Room 1 _ := hr.mono (by decide)
    have hr_is_free : Room 1 _ := hr.mono (by decide)
    have hr_stands_in : Room 1 _ := hr.mono (by decide)
    have hr_resolved : Room 25 _ := hr.mono (by decide)
    refine ⟨_, (pss_cons (ps_set (i := 2) sc_unite_beside.nd rfl (Or.inr rfl) pe_dnewK)
  (pss_cons (ps_setLc (i := 5) (own := [("one", 3), ("other", 4)]) (g := gTup K 2 (gCons (gName 3) (gCons (gName 4) gNil))) rfl sc_unite_beside.nd rfl rfl (sw_true rfl rfl rfl (by decide +kernel)) (pi_seqV (pv 0)) (blkOk_by (N := N_unite_beside) (sc := (defScope s_unite_beside)) (own := [("one", 3), ("other", 4)]) (by decide +kernel)) (fun _ _ _ _ _ => (pg_tup (by rfl) (pgs_cons (pg_name (i := 3) sc_unite_beside.nd rfl (Or.inl rfl)) (pgs_cons (pg_name (i := 4) sc_unite_beside.nd rfl (Or.inl rfl)) pgs_nil)))) (fun _ _ _ _ _ => pts_nil) (fun _ _ _ _ _ => (pe_tup (pa_cons (pv 3) (pa_cons (pv 4) pa_nil)))))
  (pss_cons (ps_expr (pe_bm0 PySem.F.plainAttrs_list PySem.F.slot_list_reverse PySem.F.type_list_reverse mt_reverse (pv 5)))
  (pss_cons (ps_while PassesOwn.never (pt_truth (pv 5) (by intro _; rfl))
  (pss_cons (ps_asg (pe_bm0 PySem.F.plainAttrs_list PySem.F.slot_list_pop PySem.F.type_list_pop mt_pop (pv 5)) (pg_tup (by rfl) (pgs_cons (pg_name (i := 3) sc_unite_beside.nd rfl (Or.inl rfl)) (pgs_cons (pg_name (i := 4) sc_unite_beside.nd rfl (Or.inl rfl)) pgs_nil))))
  (pss_cons (ps_set (i := 3) sc_unite_beside.nd rfl (Or.inl rfl) (pe_kn D_followed hr_followed (pa_cons (pv 3) (pa_cons (pv 2) pa_nil))))
  (pss_cons (ps_set (i := 4) sc_unite_beside.nd rfl (Or.inl rfl) (pe_kn D_followed hr_followed (pa_cons (pv 4) (pa_cons (pv 2) pa_nil))))
  (pss_cons (ps_if (pt_cmpR (op_eqD hu64) (pv 3) (pv 4) (nomark _))
  (pss_one ps_continue)
  pss_nil)
  (pss_cons (ps_if (PW.pt (pw_and (pt_val (pe_kn D_is_free hr_is_free (pa_cons (pv 4) (pa_cons (pv 1) pa_nil)))) (pw_and1 (pt_not (pt_val (pe_kn D_is_free hr_is_free (pa_cons (pv 3) (pa_cons (pv 1) pa_nil))))))))
  (pss_one (ps_par (i := 3) (j := 4) (by rfl) sc_unite_beside.nd rfl rfl (by decide) rfl rfl (pa_cons (pv 4) (pa_cons (pv 3) pa_nil)) (by rfl)))
  pss_nil)
  (pss_one (ps_if (pt_val (pe_kn D_is_free hr_is_free (pa_cons (pv 3) (pa_cons (pv 1) pa_nil))))
  (pss_cons (ps_if (pt_val (pe_kn D_stands_in hr_stands_in (pa_cons (pe_ix ix_tup (pv 3) pe_int (fun _ _ => rfl)) (pa_cons (pv 4) (pa_cons (pv 2) pa_nil)))))
  (pss_one (ps_ret pe_non))
  pss_nil)
  (pss_one (ps_dput hu (pv 2) (pe_ix ix_tup (pv 3) pe_int (fun _ _ => rfl)) (pv 4) rfl)))
  (pss_one (ps_if (PW.pt (pw_and (pt_cmpR op_eq (pe_ix ix_tup (pv 3) pe_int (fun _ _ => rfl)) pe_str (nomark _)) (pw_and1 (pt_cmpR op_eq (pe_ix ix_tup (pv 4) pe_int (fun _ _ => rfl)) pe_str (nomark _)))))
  (pss_cons (ps_expr (pe_bm PySem.F.plainAttrs_list PySem.F.slot_list_append PySem.F.type_list_append mt_append (pv 5) (pa_cons (pe_tup (pa_cons (pe_ix ix_tup (pv 3) pe_int (fun _ _ => rfl)) (pa_cons (pe_ix ix_tup (pv 4) pe_int (fun _ _ => rfl)) pa_nil))) pa_nil)))
  (pss_one (ps_expr (pe_bm PySem.F.plainAttrs_list PySem.F.slot_list_append PySem.F.type_list_append mt_append (pv 5) (pa_cons (pe_tup (pa_cons (pe_ix ix_tup (pv 3) pe_int (fun _ _ => rfl)) (pa_cons (pe_ix ix_tup (pv 4) pe_int (fun _ _ => rfl)) pa_nil))) pa_nil)))))
  (pss_one (ps_ret pe_non))))))))))))
  (pss_one (ps_ret (pe_lock (pe_dc (own := [("name", 6)]) rfl sc_unite_beside.nd (pi_keys (pv 2)) (blkOk_by (N := N_unite_beside) (sc := (defScope s_unite_beside)) (own := [("name", 6)]) (by decide +kernel)) (fun _ _ _ _ _ => (pg_name (i := 6) sc_unite_beside.nd rfl (Or.inl rfl))) (fun _ _ _ _ _ => pts_nil) (fun _ _ _ _ _ => (pv 6)) (fun _ _ _ _ _ => (pe_kn D_resolved hr_resolved (pa_cons (pe_dget hu (pv 2) (pv 6) (fun _ _ => rfl)) (pa_cons (pv 2) pa_nil)))))))))))), ?_⟩
    refine fun d hd => ?_
    have s0 : Same H (upd H d (.dK [])) := same_new hd
    have hxs1 : SqL K (upd H d (.dK [])) pl xs ∨ SqT K (upd H d (.dK [])) pl xs := hxs.imp (s0.seq ·) (sqT_same s0 ·)
    have hps1 := paired_map (fun _ _ q => PairAt.tups (same_tups s0) q) hps
    refine ⟨pl, xs, rfl, hxs1, fun J G wk hG D hD => lc_it wk (fun i H' => Same (upd H d (.dK [])) H' ∧ ∃ acc, H' D = some (.lst acc) ∧ acc.length = i ∧ Paired (PairAt H') acc (ps.take i)) ⟨same_new hD, [], upd_same, rfl, .nil⟩ (fun i H' _ p => hG H' p.1) ?_ ?_⟩
    · rintro i y H2 H3 hi ⟨s2, acc, gD, la, ga⟩ ⟨rfl, e⟩
      obtain ⟨py, epy, T, u, z, rfl, hT, gu, gz⟩ := paired_get hps1 e
      refine ⟨T, _, rfl, SqT.of (s2 _ _ hT), rfl, _, _, rfl, _, _, rfl, rfl, rfl, ?_⟩
      refine ⟨_, rfl, _, rfl, slz rfl, fun q hq => ?_⟩
      have s3 : Same H3 (upd H3 q (.tup [u, z])) := same_new hq
      have gD3 := s3 _ _ gD
      refine ⟨acc, gD3, size_line (by have := Paired.length hps1; omega), fun b o' e' => ?_, acc ++ [.ref q], upd_same, by rw [List.length_append, la]; rfl, ?_⟩
      · rw [upd_ne (ne_of_none e' hD)]
        exact s3 _ _ (s2 _ _ e')
      · have t4 : Tups (upd H3 q (.tup [u, z])) (upd (upd H3 q (.tup [u, z])) D (.lst (acc ++ [.ref q]))) := Tups.put gD3 (by intro xs z; cases z)
        have t34 := (same_tups s3).trans t4
        have t24 := (same_tups s2).trans t34
        have tk : ps.take (i + 1) = ps.take i ++ [py] := by rw [List.take_add_one, epy]; rfl
        rw [tk]
        exact Paired.snoc (paired_map (fun _ _ h => PairAt.tups t34 h) ga) ⟨q, u, z, rfl, t4 _ _ upd_same, KdAt.tups t24 gu, KdAt.tups t24 gz⟩
    rintro H2 ⟨s2, acc, gD, la, ga⟩
    have e0 : ps.take xs.length = ps := by rw [Paired.length hps1, List.take_length]
    rw [e0] at ga
    have s02 := s0.trans s2
    have gd := s2 _ _ upd_same
    have nD : H D = none := s0.free hD
    have ndD : d ≠ D := ne_of_none upd_same hD
    refine ⟨_, rfl, .inl ⟨rfl, _, SqL.of gD⟩, D, _, rfl, rfl, gD, ?_⟩
    have tu1 : Tups H2 (upd H2 D (.lst acc.reverse)) := Tups.put gD (by intro xs z; cases z)
    refine ⟨UInv pl fx d D ws o H, ⟨n, ps, acc.reverse, [], [], [], none, none, rfl, fun q o' z => ?_, ?_, upd_same, .nil, paired_rev (paired_map (fun _ _ q => PairAt.tups tu1 q) ga), .nil w4, Stk.start hl org, un0⟩, ?_⟩
    · rw [upd_ne (ne_of_none z nD)]
      exact s02 _ _ z
    · rw [upd_ne ndD]
      exact gd
    clear un0 ga gD gd s2 s02 tu1
    rintro m σ H1 ⟨l, vs, f, b, kvs, v3, v4, rfl, s1, gd, gw, gb, gp, us, st, un⟩
    refine ⟨_, rfl, _, .inl ⟨vs, SqL.of gw, rfl⟩, ?_⟩
    cases l with
    | nil =>
      have gp' : Paired (PairAt H1) vs [] := gp
      cases gp'
      refine iteF ?_
      cases un
      refine ⟨d, .dK kvs, gd, trivial, fun od => ?_⟩
      have sd : ∀ b o', b ≠ d → H1 b = some o' → upd H1 d (.frz od (.dK kvs)) b = some o' := fun b o' hb e => by rw [upd_ne hb]; exact e
      have gdL : upd H1 d (.frz od (.dK kvs)) d = some (.frz od (.dK kvs)) := upd_same
      have tuL : Tups H1 (upd H1 d (.frz od (.dK kvs))) := Tups.put gd (by intro xs z; cases z)
      have gbL := ByAt.tups tuL gb
      generalize upd H1 d (.frz od (.dK kvs)) = HL at sd gdL tuL gbL ⊢
      refine ⟨_, rfl, d, od, rfl, .inl ⟨kvs, gdL, fun D2 hD2 => dc_walk walk_keys (fun i H' => Same HL H' ∧ ∃ kvs2, H' D2 = some (.dK kvs2) ∧ ByAt H' kvs2 (putAll (f.take i) b)) ⟨same_new hD2, [], upd_same, .nil⟩ (fun i H' _ p => p.1 _ _ gdL) ?_ ?_⟩⟩
      · rintro i x H2 H3 hi ⟨s2, kvs2, g2, b2⟩ ⟨rfl, k0, v0, e, rfl⟩
        obtain ⟨q, eq0, ek, gv⟩ := paired_get gbL e
        have ek' : k0 = .inr q.1 := ek
        subst ek'
        have lq := lk_nodup us.nd (List.mem_of_getElem? eq0)
        rcases gbL.get q.1 with ⟨e1, e2⟩ | ⟨v1, k1, e1, e2, g1⟩
        · rw [e2] at lq; cases lq
        rw [e2] at lq
        cases lq
        obtain ⟨_, ⟨m, hm, dep⟩, _⟩ := us.big (us.ft _ (List.mem_of_getElem? eq0))
        have hd2 : Rd H3 d (.dK kvs) := .inr ⟨od, s2 _ _ gdL⟩
        have t2 := same_tups s2
        refine ⟨rfl, ?_⟩
        refine ⟨_, rfl, _, rfl, _, rfl, d, v1, rfl, by rw [← e1]; exact dgetR q.1 hd2, _, rfl, v1, d, _, _, kvs, f, m, rfl, KdAt.tups t2 g1, hd2, ByAt.tups t2 gbL, dep, hm, fun H4 v4 s4 g4 => ⟨kvs2, .inr q.1, rfl, s4 _ _ g2, ?_, ?_, ?_⟩⟩
        · have l1 := byAt_len b2
          have l2 := us.len
          have : (putAll (f.take i) b).length ≤ f.length := by
            unfold putAll
            rw [List.length_map, List.length_take]
            omega
          exact size_line (by omega)
        · intro b' o' e'
          rw [upd_ne (ne_of_none e' hD2)]
          exact s4 _ _ (s2 _ _ e')
        · have hno : valV kvs2 (.inr q.1) = none := by
            rcases b2.get q.1 with ⟨e3, _⟩ | ⟨_, _, _, e4, _⟩
            · exact e3
            · rw [lk_putAll, lk_take us.nd eq0] at e4
              cases e4
          rw [putK_new v4 hno]
          refine ⟨_, upd_same, ?_⟩
          have tD : Tups H4 (upd H4 D2 (.dK (kvs2 ++ [(.inr q.1, v4)]))) := Tups.put (s4 _ _ g2) (by intro xs z; cases z)
          have tk : putAll (f.take (i + 1)) b = putAll (f.take i) b ++ [(q.1, q.2.put b)] := by
            rw [List.take_add_one, eq0]
            unfold putAll
            rw [List.map_append]
            rfl
          rw [tk]
          exact Paired.snoc (ByAt.tups ((same_tups s4).trans tD) b2) ⟨rfl, KdAt.tups tD g4⟩
      · rintro H2 ⟨s2, kvs2, g2, b2⟩
        have e0 : f.take kvs.length = f := by rw [byAt_len gb, List.take_length]
        rw [e0, us.all] at b2
        refine ⟨s2 _ _ gdL, k _ _ (fun b' o' e' => ?_) ⟨D2, kvs2, rfl, Same.free (fun b' o' e' => sd b' o' (ne_of_none e' hd) (s1 b' o' e')) hD2, ?_, ?_, us⟩⟩
        · have nb : b' ≠ d := ne_of_none e' hd
          rw [upd_ne nb]
          exact s2 _ _ (sd _ _ nb (s1 _ _ e'))
        · rw [upd_ne (Ne.symm (ne_of_none gdL hD2))]
          exact g2
        · exact ByAt.tups (Tups.put (s2 _ _ gdL) (by intro xs z; cases z)) b2
    | cons p r =>
      have gp' : Paired (PairAt H1) vs (r.reverse ++ [p]) := by rw [← List.reverse_cons]; exact gp
      obtain ⟨vs0, v0, rfl, g1, T, u, z, rfl, hT, gu, gz⟩ := paired_last gp'
      have hne : (!(vs0 ++ [V.ref T]).isEmpty) = true := by cases vs0 <;> rfl
      refine iT hne ?_
      obtain ⟨a, c, i, j, fa, fc, turn⟩ := un.cons
      have ln := st.len us
      have lvs : vs0.length ≤ 22 := by
        rw [Paired.length g1, List.length_reverse]
        rw [List.length_cons] at ln
        omega
      have st0 := st
      obtain ⟨⟨op1, op2, _⟩, str⟩ := st
      have oa := Org.fol us fa op1
      have oc := Org.fol us fc op2
      refine ⟨fun σ' H' => ∃ m', m' < m ∧ UInv pl fx d D ws o H m' σ' H', fun σ' H' h => h, ?_⟩
      refine ⟨_, rfl, .inl ⟨rfl, _, SqL.of gw⟩, D, vs0 ++ [V.ref T], V.ref T, rfl, rfl, gw, by simp, ?_⟩
      rw [List.dropLast_concat]
      have tu3 : Tups H1 (upd H1 D (.lst vs0)) := Tups.put gw (by intro xs z; cases z)
      have S3 : Same H (upd H1 D (.lst vs0)) := fun b o zz => by
        rw [upd_ne (ne_of_none zz nD)]
        exact s1 _ _ zz
      have d3 : (upd H1 D (.lst vs0)) d = some (.dK kvs) := by rw [upd_ne ndD]; exact gd
      have b3 := ByAt.tups tu3 gb
      have w3 : (upd H1 D (.lst vs0)) D = some (.lst vs0) := upd_same
      have k1 := paired_map (fun _ _ q => PairAt.tups tu3 q) g1
      have ku3 := KdAt.tups tu3 gu
      have kz3 := KdAt.tups tu3 gz
      refine ⟨T, _, rfl, SqT.of (tu3 _ _ hT), rfl, _, _, rfl, _, _, rfl, rfl, ?_⟩
      generalize upd H1 D (.lst vs0) = H3 at S3 d3 b3 w3 k1 ku3 kz3 ⊢
      clear tu3 gw gd gb g1 gu gz gp gp' s1 hT hne
      refine ⟨_, rfl, _, rfl, u, d, p.1, a, kvs, f, i, rfl, ku3, .inl d3, b3, fa, fun va ga => ?_⟩
      refine ⟨_, rfl, _, rfl, z, d, p.2, c, kvs, f, j, rfl, kz3, .inl d3, b3, fc, fun vc gc => ?_⟩
      refine ⟨_, rfl, _, rfl, _, _, ga.dp, gc.dp, Kd.shaped oa.1 (by decide), Kd.shaped oc.1 (by decide), _, rfl, ?_⟩
      rw [Kd.eqv]
      have fx3 := sqT_same S3 hfx
      by_cases eac : a = c
      · refine iT (decide_eq_true eac) ?_
        cases turn with
        | same _ e w => exact ⟨_, by omega, r, vs0, f, b, kvs, some va, some vc, rfl, S3, d3, w3, b3, k1, us, str, w⟩
        | bind ne => exact absurd eac ne
        | ring ne => exact absurd eac ne
        | app ne => exact absurd eac ne
        | clash ne => exact absurd eac ne
      refine iF (decide_eq_false eac) ?_
      cases a with
      | var x =>
        have hb : Bind (.var x) c x c := .inl ⟨rfl, rfl⟩
        refine ⟨_, rfl, _, rfl, vc, fx, c, rfl, gc, fx3, _, rfl, ?_⟩
        by_cases hcv : c.isVar = true
        · refine iT hcv ?_
          refine ⟨_, rfl, _, rfl, va, fx, .var x, rfl, ga, fx3, _, rfl, ?_⟩
          refine iteF ?_
          have wx : Wok x := oa.1
          obtain ⟨ok, xw⟩ := hb.org oa oc
          obtain ⟨lx, kf⟩ := hb.free fa.free fc.free
          obtain ⟨ta, rfl, ha⟩ := id ga
          refine ⟨_, rfl, _, rfl, _, fx, _, rfl, ga, fx3, _, rfl, iT rfl ?_⟩
          refine ⟨_, rfl, _, _, _, _, rfl, rfl, SqT.of ha, rfl, _, rfl, _, rfl, x, _, d, c, kvs, f, b, rfl, wx, gc, d3, b3, us.rs, us.fa, lx, Kd.fit_mono (by decide) ok.1, (fun q hq => Kd.fit_mono (by decide) (us.ft q hq).1), ?_, fun H4 cc s4 hc => ?_⟩
          · have z1 := ok.2.1
            have z2 := bud_le (z := 25) [] (f := f) (fun q hq => (us.ft q hq).2.1)
            have z3 := us.len
            omega
          refine ⟨_, rfl, ?_⟩
          rcases turn.bound eac hb with ⟨ho, eo⟩ | ⟨ho, m', lt, w⟩
          · have hcc : cc = true := hc.mpr ho
            subst hcc
            refine iT rfl ?_
            subst eo
            exact k _ _ (S3.trans s4) rfl
          · have hcc : cc = false := by
              cases cc with
              | false => rfl
              | true => exact absurd (hc.mp rfl) ho
            subst hcc
            refine iF rfl ?_
            have d4 := s4 _ _ d3
            have w4' := s4 _ _ w3
            have b4 := ByAt.tups (same_tups s4) b3
            have k4 := PairsAt.tups (same_tups s4) k1
            have gK4 := KdAt.tups (same_tups s4) gc
            have hno : valV kvs (.inr x) = none := by
              rcases b4.get x with ⟨e3, _⟩ | ⟨_, _, _, e4, _⟩
              · exact e3
              · rw [lx] at e4
                cases e4
            refine ⟨_, rfl, _, rfl, _, rfl, _, _, _, _, rfl, rfl, SqT.of (s4 _ _ ha), rfl, d, _, rfl, DPut.k (k := .inr x) d4 (size_line (by rw [byAt_len b4]; have := us.len; omega)), ?_⟩
            rw [putK_new _ hno]
            have tD : ∀ zz, Tups H4 (upd H4 d (.dK zz)) := fun zz => Tups.put d4 (by intro xs z; cases z)
            refine ⟨m', lt, r, vs0, _, _, _, _, _, rfl, fun b' o' e' => ?_, upd_same, ?_, Paired.snoc (ByAt.tups (tD _) b4) ⟨rfl, KdAt.tups (tD _) gK4⟩, PairsAt.tups (tD _) k4, us.bind lx kf ho ok xw, Stk.bind (us.rs.off lx) str, w⟩
            · rw [upd_ne (ne_of_none e' hd)]
              exact s4 _ _ (S3 _ _ e')
            · rw [upd_ne ndD.symm]
              exact w4'
        · refine iF (Bool.eq_false_iff.mpr hcv) (iteF ?_)
          have wx : Wok x := oa.1
          obtain ⟨ok, xw⟩ := hb.org oa oc
          obtain ⟨lx, kf⟩ := hb.free fa.free fc.free
          obtain ⟨ta, rfl, ha⟩ := id ga
          refine ⟨_, rfl, _, rfl, _, fx, _, rfl, ga, fx3, _, rfl, iT rfl ?_⟩
          refine ⟨_, rfl, _, _, _, _, rfl, rfl, SqT.of ha, rfl, _, rfl, _, rfl, x, _, d, c, kvs, f, b, rfl, wx, gc, d3, b3, us.rs, us.fa, lx, Kd.fit_mono (by decide) ok.1, (fun q hq => Kd.fit_mono (by decide) (us.ft q hq).1), ?_, fun H4 cc s4 hc => ?_⟩
          · have z1 := ok.2.1
            have z2 := bud_le (z := 25) [] (f := f) (fun q hq => (us.ft q hq).2.1)
            have z3 := us.len
            omega
          refine ⟨_, rfl, ?_⟩
          rcases turn.bound eac hb with ⟨ho, eo⟩ | ⟨ho, m', lt, w⟩
          · have hcc : cc = true := hc.mpr ho
            subst hcc
            refine iT rfl ?_
            subst eo
            exact k _ _ (S3.trans s4) rfl
          · have hcc : cc = false := by
              cases cc with
              | false => rfl
              | true => exact absurd (hc.mp rfl) ho
            subst hcc
            refine iF rfl ?_
            have d4 := s4 _ _ d3
            have w4' := s4 _ _ w3
            have b4 := ByAt.tups (same_tups s4) b3
            have k4 := PairsAt.tups (same_tups s4) k1
            have gK4 := KdAt.tups (same_tups s4) gc
            have hno : valV kvs (.inr x) = none := by
              rcases b4.get x with ⟨e3, _⟩ | ⟨_, _, _, e4, _⟩
              · exact e3
              · rw [lx] at e4
                cases e4
            refine ⟨_, rfl, _, rfl, _, rfl, _, _, _, _, rfl, rfl, SqT.of (s4 _ _ ha), rfl, d, _, rfl, DPut.k (k := .inr x) d4 (size_line (by rw [byAt_len b4]; have := us.len; omega)), ?_⟩
            rw [putK_new _ hno]
            have tD : ∀ zz, Tups H4 (upd H4 d (.dK zz)) := fun zz => Tups.put d4 (by intro xs z; cases z)
            refine ⟨m', lt, r, vs0, _, _, _, _, _, rfl, fun b' o' e' => ?_, upd_same, ?_, Paired.snoc (ByAt.tups (tD _) b4) ⟨rfl, KdAt.tups (tD _) gK4⟩, PairsAt.tups (tD _) k4, us.bind lx kf ho ok xw, Stk.bind (us.rs.off lx) str, w⟩
            · rw [upd_ne (ne_of_none e' hd)]
              exact s4 _ _ (S3 _ _ e')
            · rw [upd_ne ndD.symm]
              exact w4'
      | con y =>
        cases c with
        | var x =>
          have hb : Bind (.con y) (.var x) x (.con y) := .inr ⟨(fun z e => nomatch e), rfl, rfl⟩
          refine ⟨_, rfl, _, rfl, vc, fx, .var x, rfl, gc, fx3, _, rfl, iT rfl ?_⟩
          refine ⟨_, rfl, _, rfl, va, fx, .con y, rfl, ga, fx3, _, rfl, ?_⟩
          refine iT rfl ?_
          refine ⟨_, rfl, _, rfl, _, _, rfl, ?_⟩
          have wx : Wok x := oc.1
          obtain ⟨ok, xw⟩ := hb.org oa oc
          obtain ⟨lx, kf⟩ := hb.free fa.free fc.free
          obtain ⟨ta, rfl, ha⟩ := id gc
          refine ⟨_, rfl, _, rfl, _, fx, _, rfl, gc, fx3, _, rfl, iT rfl ?_⟩
          refine ⟨_, rfl, _, _, _, _, rfl, rfl, SqT.of ha, rfl, _, rfl, _, rfl, x, _, d, .con y, kvs, f, b, rfl, wx, ga, d3, b3, us.rs, us.fa, lx, Kd.fit_mono (by decide) ok.1, (fun q hq => Kd.fit_mono (by decide) (us.ft q hq).1), ?_, fun H4 cc s4 hc => ?_⟩
          · have z1 := ok.2.1
            have z2 := bud_le (z := 25) [] (f := f) (fun q hq => (us.ft q hq).2.1)
            have z3 := us.len
            omega
          refine ⟨_, rfl, ?_⟩
          rcases turn.bound eac hb with ⟨ho, eo⟩ | ⟨ho, m', lt, w⟩
          · have hcc : cc = true := hc.mpr ho
            subst hcc
            refine iT rfl ?_
            subst eo
            exact k _ _ (S3.trans s4) rfl
          · have hcc : cc = false := by
              cases cc with
              | false => rfl
              | true => exact absurd (hc.mp rfl) ho
            subst hcc
            refine iF rfl ?_
            have d4 := s4 _ _ d3
            have w4' := s4 _ _ w3
            have b4 := ByAt.tups (same_tups s4) b3
            have k4 := PairsAt.tups (same_tups s4) k1
            have gK4 := KdAt.tups (same_tups s4) ga
            have hno : valV kvs (.inr x) = none := by
              rcases b4.get x with ⟨e3, _⟩ | ⟨_, _, _, e4, _⟩
              · exact e3
              · rw [lx] at e4
                cases e4
            refine ⟨_, rfl, _, rfl, _, rfl, _, _, _, _, rfl, rfl, SqT.of (s4 _ _ ha), rfl, d, _, rfl, DPut.k (k := .inr x) d4 (size_line (by rw [byAt_len b4]; have := us.len; omega)), ?_⟩
            rw [putK_new _ hno]
            have tD : ∀ zz, Tups H4 (upd H4 d (.dK zz)) := fun zz => Tups.put d4 (by intro xs z; cases z)
            refine ⟨m', lt, r, vs0, _, _, _, _, _, rfl, fun b' o' e' => ?_, upd_same, ?_, Paired.snoc (ByAt.tups (tD _) b4) ⟨rfl, KdAt.tups (tD _) gK4⟩, PairsAt.tups (tD _) k4, us.bind lx kf ho ok xw, Stk.bind (us.rs.off lx) str, w⟩
            · rw [upd_ne (ne_of_none e' hd)]
              exact s4 _ _ (S3 _ _ e')
            · rw [upd_ne ndD.symm]
              exact w4'
        | con z =>
          have eo := turn.dead eac (fun x k hb => by rcases hb with ⟨e1, _⟩ | ⟨_, e1, _⟩ <;> cases e1) (fun a1 a2 c1 c2 e => by first | (cases e.1; done) | (cases e.2; done))
          subst eo
          refine ⟨_, rfl, _, rfl, vc, fx, .con z, rfl, gc, fx3, _, rfl, iF rfl (iteF ?_)⟩
          refine ⟨_, rfl, _, rfl, va, fx, .con y, rfl, ga, fx3, _, rfl, iF rfl ?_⟩
          obtain ⟨ta, rfl, ha⟩ := id ga
          refine ⟨_, rfl, _, _, _, _, rfl, rfl, SqT.of ha, rfl, rfl, _, rfl, iF tg_ca (iteF ?_)⟩
          exact k _ _ S3 rfl
        | app c1 c2 =>
          have eo := turn.dead eac (fun x k hb => by rcases hb with ⟨e1, _⟩ | ⟨_, e1, _⟩ <;> cases e1) (fun a1 a2 c1 c2 e => by first | (cases e.1; done) | (cases e.2; done))
          subst eo
          refine ⟨_, rfl, _, rfl, vc, fx, .app c1 c2, rfl, gc, fx3, _, rfl, iF rfl (iteF ?_)⟩
          refine ⟨_, rfl, _, rfl, va, fx, .con y, rfl, ga, fx3, _, rfl, iF rfl ?_⟩
          obtain ⟨ta, rfl, ha⟩ := id ga
          refine ⟨_, rfl, _, _, _, _, rfl, rfl, SqT.of ha, rfl, rfl, _, rfl, iF tg_ca (iteF ?_)⟩
          exact k _ _ S3 rfl
      | app a1 a2 =>
        cases c with
        | var x =>
          have hb : Bind (.app a1 a2) (.var x) x (.app a1 a2) := .inr ⟨(fun z e => nomatch e), rfl, rfl⟩
          refine ⟨_, rfl, _, rfl, vc, fx, .var x, rfl, gc, fx3, _, rfl, iT rfl ?_⟩
          refine ⟨_, rfl, _, rfl, va, fx, .app a1 a2, rfl, ga, fx3, _, rfl, ?_⟩
          refine iT rfl ?_
          refine ⟨_, rfl, _, rfl, _, _, rfl, ?_⟩
          have wx : Wok x := oc.1
          obtain ⟨ok, xw⟩ := hb.org oa oc
          obtain ⟨lx, kf⟩ := hb.free fa.free fc.free
          obtain ⟨ta, rfl, ha⟩ := id gc
          refine ⟨_, rfl, _, rfl, _, fx, _, rfl, gc, fx3, _, rfl, iT rfl ?_⟩
          refine ⟨_, rfl, _, _, _, _, rfl, rfl, SqT.of ha, rfl, _, rfl, _, rfl, x, _, d, .app a1 a2, kvs, f, b, rfl, wx, ga, d3, b3, us.rs, us.fa, lx, Kd.fit_mono (by decide) ok.1, (fun q hq => Kd.fit_mono (by decide) (us.ft q hq).1), ?_, fun H4 cc s4 hc => ?_⟩
          · have z1 := ok.2.1
            have z2 := bud_le (z := 25) [] (f := f) (fun q hq => (us.ft q hq).2.1)
            have z3 := us.len
            omega
          refine ⟨_, rfl, ?_⟩
          rcases turn.bound eac hb with ⟨ho, eo⟩ | ⟨ho, m', lt, w⟩
          · have hcc : cc = true := hc.mpr ho
            subst hcc
            refine iT rfl ?_
            subst eo
            exact k _ _ (S3.trans s4) rfl
          · have hcc : cc = false := by
              cases cc with
              | false => rfl
              | true => exact absurd (hc.mp rfl) ho
            subst hcc
            refine iF rfl ?_
            have d4 := s4 _ _ d3
            have w4' := s4 _ _ w3
            have b4 := ByAt.tups (same_tups s4) b3
            have k4 := PairsAt.tups (same_tups s4) k1
            have gK4 := KdAt.tups (same_tups s4) ga
            have hno : valV kvs (.inr x) = none := by
              rcases b4.get x with ⟨e3, _⟩ | ⟨_, _, _, e4, _⟩
              · exact e3
              · rw [lx] at e4
                cases e4
            refine ⟨_, rfl, _, rfl, _, rfl, _, _, _, _, rfl, rfl, SqT.of (s4 _ _ ha), rfl, d, _, rfl, DPut.k (k := .inr x) d4 (size_line (by rw [byAt_len b4]; have := us.len; omega)), ?_⟩
            rw [putK_new _ hno]
            have tD : ∀ zz, Tups H4 (upd H4 d (.dK zz)) := fun zz => Tups.put d4 (by intro xs z; cases z)
            refine ⟨m', lt, r, vs0, _, _, _, _, _, rfl, fun b' o' e' => ?_, upd_same, ?_, Paired.snoc (ByAt.tups (tD _) b4) ⟨rfl, KdAt.tups (tD _) gK4⟩, PairsAt.tups (tD _) k4, us.bind lx kf ho ok xw, Stk.bind (us.rs.off lx) str, w⟩
            · rw [upd_ne (ne_of_none e' hd)]
              exact s4 _ _ (S3 _ _ e')
            · rw [upd_ne ndD.symm]
              exact w4'
        | con z =>
          have eo := turn.dead eac (fun x k hb => by rcases hb with ⟨e1, _⟩ | ⟨_, e1, _⟩ <;> cases e1) (fun a1 a2 c1 c2 e => by first | (cases e.1; done) | (cases e.2; done))
          subst eo
          refine ⟨_, rfl, _, rfl, vc, fx, .con z, rfl, gc, fx3, _, rfl, iF rfl (iteF ?_)⟩
          refine ⟨_, rfl, _, rfl, va, fx, .app a1 a2, rfl, ga, fx3, _, rfl, iF rfl ?_⟩
          obtain ⟨ta, ua, za, rfl, ha, _⟩ := id ga
          obtain ⟨tc, rfl, hc⟩ := id gc
          refine ⟨_, rfl, _, _, _, _, rfl, rfl, SqT.of ha, rfl, rfl, _, rfl, iT tg_aa ?_⟩
          refine ⟨_, rfl, _, _, _, _, rfl, rfl, SqT.of hc, rfl, rfl, _, rfl, iF tg_ca ?_⟩
          exact k _ _ S3 rfl
        | app c1 c2 =>
          obtain ⟨m', lt, w⟩ := turn.parts eac
          refine ⟨_, rfl, _, rfl, vc, fx, .app c1 c2, rfl, gc, fx3, _, rfl, iF rfl (iteF ?_)⟩
          refine ⟨_, rfl, _, rfl, va, fx, .app a1 a2, rfl, ga, fx3, _, rfl, iF rfl ?_⟩
          obtain ⟨ta, ua, za, rfl, ha, hua, hza⟩ := id ga
          obtain ⟨tc, uc, zc, rfl, hc, huc, hzc⟩ := id gc
          refine ⟨_, rfl, _, _, _, _, rfl, rfl, SqT.of ha, rfl, rfl, _, rfl, iT tg_aa ?_⟩
          refine ⟨_, rfl, _, _, _, _, rfl, rfl, SqT.of hc, rfl, rfl, _, rfl, iT tg_aa ?_⟩
          refine ⟨_, rfl, .inl ⟨rfl, _, SqL.of w3⟩, _, rfl, _, _, _, _, rfl, rfl, SqT.of ha, rfl, _, rfl, _, _, _, _, rfl, rfl, SqT.of hc, rfl, slz rfl, fun q1 hq1 => ?_⟩
          have n1 : Same H3 (upd H3 q1 (.tup [za, zc])) := same_new hq1
          have w31 := n1 _ _ w3
          refine ⟨D, _, _, rfl, rfl, w31, size_line (by omega), ?_⟩
          have t1 : Tups (upd H3 q1 (.tup [za, zc])) (upd (upd H3 q1 (.tup [za, zc])) D (.lst (vs0 ++ [.ref q1]))) := Tups.put w31 (by intro xs z; cases z)
          have w32 : (upd (upd H3 q1 (.tup [za, zc])) D (.lst (vs0 ++ [.ref q1]))) D = some (.lst (vs0 ++ [.ref q1])) := upd_same
          have p1 : PairAt (upd (upd H3 q1 (.tup [za, zc])) D (.lst (vs0 ++ [.ref q1]))) (.ref q1) (a2, c2) := ⟨q1, za, zc, rfl, t1 _ _ upd_same, KdAt.tups ((same_tups n1).trans t1) hza, KdAt.tups ((same_tups n1).trans t1) hzc⟩
          have t13 := (same_tups n1).trans t1
          have S4 : Same H (upd (upd H3 q1 (.tup [za, zc])) D (.lst (vs0 ++ [.ref q1]))) := fun b' o' e' => by
            rw [upd_ne (ne_of_none e' nD)]
            exact n1 _ _ (S3 _ _ e')
          have d4 : (upd (upd H3 q1 (.tup [za, zc])) D (.lst (vs0 ++ [.ref q1]))) d = some (.dK kvs) := by
            rw [upd_ne ndD]
            exact n1 _ _ d3
          have ha4 := t13 _ _ ha
          have hc4 := t13 _ _ hc
          have hua4 := KdAt.tups t13 hua
          have huc4 := KdAt.tups t13 huc
          have k4 := PairsAt.tups t13 k1
          have b4 := ByAt.tups t13 b3
          generalize upd (upd H3 q1 (.tup [za, zc])) D (.lst (vs0 ++ [.ref q1])) = H4 at w32 p1 S4 d4 ha4 hc4 hua4 huc4 k4 b4 ⊢
          refine ⟨_, rfl, .inl ⟨rfl, _, SqL.of w32⟩, _, rfl, _, _, _, _, rfl, rfl, SqT.of ha4, rfl, _, rfl, _, _, _, _, rfl, rfl, SqT.of hc4, rfl, slz rfl, fun q2 hq2 => ?_⟩
          have n2 : Same H4 (upd H4 q2 (.tup [ua, uc])) := same_new hq2
          have w33 := n2 _ _ w32
          refine ⟨D, _, _, rfl, rfl, w33, size_line (by rw [List.length_append, List.length_singleton]; omega), ?_⟩
          have t2 : Tups (upd H4 q2 (.tup [ua, uc])) (upd (upd H4 q2 (.tup [ua, uc])) D (.lst (vs0 ++ [.ref q1] ++ [.ref q2]))) := Tups.put w33 (by intro xs z; cases z)
          have t24 := (same_tups n2).trans t2
          refine ⟨m', lt, (a1, c1) :: (a2, c2) :: r, vs0 ++ [.ref q1] ++ [.ref q2], f, b, kvs, _, _, rfl, fun b' o' e' => ?_, ?_, upd_same, ByAt.tups t24 b4, ?_, us, st0.apart (sw := false) us fa fc, w⟩
          · rw [upd_ne (ne_of_none e' nD)]
            exact n2 _ _ (S4 _ _ e')
          · rw [upd_ne ndD]
            exact n2 _ _ d4
          · rw [List.reverse_cons, List.reverse_cons]
            exact Paired.snoc (Paired.snoc (PairsAt.tups t24 k4) (PairAt.tups t24 p1)) ⟨q2, ua, uc, rfl, t2 _ _ upd_same, KdAt.tups t24 hua4, KdAt.tups t24 huc4⟩
end
end L3

namespace L3
open PySem L2
theorem names_app (a b : By) : names (a ++ b) = names a ++ names b := by
  unfold names
  rw [List.map_append]
theorem merge_by {H : Hp} : ∀ {more : List (Key × V)} {qs : By} {kvs : List (Key × V)} {b : By}, ByAt H more qs → ByAt H kvs b → (names (b ++ qs)).Nodup → mergeK kvs more = kvs ++ more
  | _, _, kvs, b, .nil, _, _ => (List.append_nil _).symm
  | m :: more, q :: qs, kvs, b, .cons r t, hb, nd => by
    have nd' := nd
    rw [names_app] at nd'
    have hno : valV kvs m.1 = none := by
      rw [r.1]
      rcases hb.get q.1 with ⟨e, _⟩ | ⟨_, _, _, e4, _⟩
      · exact e
      · exact absurd rfl ((List.nodup_append.mp nd').2.2 _ (lk_in e4) q.1 (List.mem_cons_self))
    show mergeK (putK kvs m.1 m.2) more = _
    rw [putK_new _ hno]
    have ih := merge_by (kvs := kvs ++ [(m.1, m.2)]) (b := b ++ [q]) t (Paired.snoc hb r) (by rw [List.append_assoc]; exact nd)
    rw [ih, List.append_assoc]
    rfl
theorem USt.lenB {ws : List Str} {f b : By} (u : USt ws f b) : b.length ≤ 4 := by
  have e := congrArg List.length u.nb
  have l := u.len
  unfold names at e
  rw [List.length_map, List.length_map] at e
  omega
section
variable {P : Program} {w : World} {K : PySem.W.Frag} {mg : Str → Option Value} {base : Heap}
theorem UEnd.less {ws : List Str} {H0 H1 H : Hp} {v : V} {o : Option (By × By)} (s : Same H0 H1) (g : UEnd ws H1 H v o) : UEnd ws H0 H v o := by
  match o, g with
  | none, g => exact g
  | some (f, b), ⟨d, kvs, e, nd, h⟩ => exact ⟨d, kvs, e, s.free nd, h⟩
theorem UEnd.same {ws : List Str} {H0 H H' : Hp} {v : V} {o : Option (By × By)} (g : UEnd ws H0 H v o) (s : Same H H') : UEnd ws H0 H' v o := by
  match o, g with
  | none, g => exact g
  | some (f, b), ⟨d, kvs, e, nd, g1, g2, u⟩ => exact ⟨d, kvs, e, nd, s _ _ g1, ByAt.tups (same_tups s) g2, u⟩
/-! ### unite -/
abbrev s_unite : Stmt := topS 1
abbrev N_unite : List Str := ["pairs"]
theorem sc_unite : FnScope N_unite ["pairs"] (defScope s_unite) := ⟨rfl, rfl, rfl, by decide +kernel, rfl, by decide +kernel, by decide +kernel⟩
def spU (K : PySem.W.Frag) : Sp := fun vs H Q _ => ∃ (pl : Addr) (xs : List V) (ps : List (Kd × Kd)) (ws : List Str) (o : Option (By × By)) (n : Nat), vs = [.ref pl] ∧ (SqL K H pl xs ∨ SqT K H pl xs) ∧ PairsAt H xs ps ∧
  ps.length ≤ 3 ∧ ws.length ≤ 4 ∧ (∀ p ∈ ps, Org ws p.1 ∧ Org ws p.2) ∧ Uni false ps [] [] o n ∧ ∀ (H' : Hp) (v : V), Same H H' → UEnd ws H H' v o → Q v H'
theorem ok_unite {g : Addr} {fd : FuncData} (F : Fun K "unite" "unite" s_unite g fd) (D_unite_beside : Kn P w K mg base 26 "unite_beside" ["pairs", "fixed"] (spUB K)) : FnOk P w K mg base CX0 27 g fd ["pairs"] (spU K) := by
  refine F.ok sc_unite (fun vs H Q E h => ?_) (fun cdv A outer s H vs Q E hr h => ?_)
  · obtain ⟨pl, xs, ps, ws, o, n, rfl, _⟩ := h
    rfl
  · obtain ⟨pl, xs, ps, ws, o, n, rfl, hxs, hps, hl, w4, org, un, k⟩ := h
    have hr_unite_beside : Room 26 _ := hr
    refine ⟨_, (pss_one (ps_ret (pe_kn D_unite_beside hr_unite_beside (pa_cons (pv 0) (pa_cons (pe_tup pa_nil) pa_nil))))), ?_⟩
    refine ⟨_, rfl, slz rfl, fun q hq => ?_⟩
    have s1 : Same H (upd H q (.tup [])) := same_new hq
    exact ⟨pl, q, xs, ps, ws, o, n, rfl, SqT.of upd_same, hxs.imp (s1.seq ·) (sqT_same s1 ·), PairsAt.tups (same_tups s1) hps, hl, w4, org, un, fun H' v s2 g => k _ _ (s1.trans s2) (UEnd.less s1 g)⟩
/-! ### the law's way -/
abbrev s__law_solve : Stmt := topS 16
abbrev N__law_solve : List Str := ["_law_pairs", "_law_by", "_law_waiting", "_law_one", "_law_other", "_law_kind", "_law_name"]
theorem sc__law_solve : FnScope N__law_solve ["_law_pairs"] (defScope s__law_solve) := ⟨rfl, rfl, rfl, by decide +kernel, rfl, by decide +kernel, by decide +kernel⟩
def spSolve (K : PySem.W.Frag) : Sp := fun vs H Q _ => ∃ (pl : Addr) (xs : List V) (ps : List (Kd × Kd)) (ws : List Str) (o : Option (By × By)) (n : Nat), vs = [.ref pl] ∧ SqL K H pl xs ∧ PairsAt H xs ps ∧
  ps.length ≤ 3 ∧ ws.length ≤ 4 ∧ (∀ p ∈ ps, Org ws p.1 ∧ Org ws p.2) ∧ Uni true ps [] [] o n ∧ ∀ (H' : Hp) (v : V), Same H H' → UEnd ws H H' v o → Q v H'
def SInv (pl : Addr) (ws : List Str) (o : Option (By × By)) (H : Hp) (m : Nat) (σ : St) (H' : Hp) : Prop :=
  ∃ (l ls : List (Kd × Kd)) (vs : List V) (f b : By) (kvs : List (Key × V)) (dl wl : Addr) (v3 v4 : Option V), σ = [some (.ref pl), some (.ref dl), some (.ref wl), v3, v4, none, none] ∧ Same H H' ∧ H' dl = some (.dK kvs) ∧ H dl = none ∧ H' wl = some (.lst vs) ∧ H wl = none ∧
    ByAt H' kvs b ∧ PairsAt H' vs ls ∧ Paired (Like b) ls l ∧ USt ws f b ∧ Stk ws b l ∧ Uni true l f b o m
theorem like_refl {ws : List Str} : ∀ {l : List (Kd × Kd)}, (∀ p ∈ l, Org ws p.1 ∧ Org ws p.2) → Paired (Like []) l l
  | [], _ => .nil
  | p :: r, h => .cons ⟨rfl, rfl, Kd.fit_mono (by decide) (h p List.mem_cons_self).1.1, Kd.fit_mono (by decide) (h p List.mem_cons_self).2.1⟩ (like_refl fun q hq => h q (List.mem_cons_of_mem _ hq))
theorem like_fit {b : By} : ∀ {ls l : List (Kd × Kd)}, Paired (Like b) ls l → ∀ p ∈ ls, p.1.fit 60 ∧ p.2.fit 60
  | _, _, .nil => fun _ h => nomatch h
  | _, _, .cons r t => fun p hp => by
    rcases List.mem_cons.mp hp with e | hp
    · subst e
      exact ⟨Kd.fit_mono (by decide) r.2.2.1, Kd.fit_mono (by decide) r.2.2.2⟩
    · exact like_fit t p hp
theorem ok_solve {g : Addr} {fd : FuncData} (F : Fun K "_law_solve" "_law_solve" s__law_solve g fd) (B : Bl mg)
    (D__law_put : Kn P w K mg base 21 "_law_put" ["_law_kind", "_law_by"] (spPut K 20)) (D__law_vars : Kn P w K mg base 1 "_law_vars" ["_law_kinds"] (spVars K)) :
    FnOk P w K mg base CX0 22 g fd ["_law_pairs"] (spSolve K) := by
  refine F.ok sc__law_solve (fun vs H Q E h => ?_) (fun cdv A outer s H vs Q E hr h => ?_)
  · obtain ⟨pl, xs, ps, ws, o, n, rfl, _⟩ := h
    rfl
  · obtain ⟨pl, xs, ps, ws, o, n, rfl, hxs, hps, hl, w4, org, un0, k⟩ := h
    have hu := hu_of hr
    have hu64 := hr.units
    have hr__law_put : Room 21 _ := hr
    have hr__law_vars : Room 1 _ := hr.mono (by decide)
    refine ⟨_, (pss_cons (ps_asg (pe_tup (pa_cons pe_dnewK (pa_cons (pe_callTy call_list_of (by rfl) B.list (by decide +kernel) (pa_cons (pv 0) pa_nil)) pa_nil))) (pg_tup (by rfl) (pgs_cons (pg_name (i := 1) sc__law_solve.nd rfl (Or.inr rfl)) (pgs_cons (pg_name (i := 2) sc__law_solve.nd rfl (Or.inl rfl)) pgs_nil))))
  (pss_cons (ps_while PassesOwn.never (pt_cmpR (op_neD hu64) (pv 2) (pe_lst pa_nil) (nomark _))
  (pss_cons (ps_asg (pe_lc (own := [("_law_kind", 5)]) rfl sc__law_solve.nd (pi_tup (pe_bm PySem.F.plainAttrs_list PySem.F.slot_list_pop PySem.F.type_list_pop mt_popAt (pv 2) (pa_cons pe_int pa_nil))) (blkOk_by (N := N__law_solve) (sc := (defScope s__law_solve)) (own := [("_law_kind", 5)]) (by decide +kernel)) (fun _ _ _ _ _ => (pg_name (i := 5) sc__law_solve.nd rfl (Or.inl rfl))) (fun _ _ _ _ _ => pts_nil) (fun _ _ _ _ _ => (pe_kn D__law_put hr__law_put (pa_cons (pv 5) (pa_cons (pv 1) pa_nil))))) (pg_unl (by rfl) (pgs_cons (pg_name (i := 3) sc__law_solve.nd rfl (Or.inr rfl)) (pgs_cons (pg_name (i := 4) sc__law_solve.nd rfl (Or.inr rfl)) pgs_nil))))
  (pss_cons (ps_if (pt_cmpR (op_eqD hu64) (pv 3) (pv 4) (nomark _))
  (pss_one ps_continue)
  pss_nil)
  (pss_cons (ps_if (pt_cmpR op_ne (pe_ix ix_tup (pv 3) pe_int (fun _ _ => rfl)) pe_str (nomark _))
  (pss_one (ps_asg (pe_tup (pa_cons (pv 4) (pa_cons (pv 3) pa_nil))) (pg_tup (by rfl) (pgs_cons (pg_name (i := 3) sc__law_solve.nd rfl (Or.inr rfl)) (pgs_cons (pg_name (i := 4) sc__law_solve.nd rfl (Or.inr rfl)) pgs_nil)))))
  pss_nil)
  (pss_one (ps_if (pt_cmpR op_eq (pe_ix ix_tup (pv 3) pe_int (fun _ _ => rfl)) pe_str (nomark _))
  (pss_cons (ps_if (pt_cmpR op_in_seq (pe_ix ix_tup (pv 3) pe_int (fun _ _ => rfl)) (pe_kn D__law_vars hr__law_vars (pa_cons (pe_lst (pa_cons (pv 4) pa_nil)) pa_nil)) (by rfl))
  (pss_one (ps_ret pe_non))
  pss_nil)
  (pss_cons (ps_set (i := 1) sc__law_solve.nd rfl (Or.inr rfl) (pe_callTy (call_dictP rfl) (by rfl) B.dict (by decide +kernel) (pa_cons (pe_lock (pe_lc (own := [("_law_name", 6)]) rfl sc__law_solve.nd (pi_keys (pv 1)) (blkOk_by (N := N__law_solve) (sc := (defScope s__law_solve)) (own := [("_law_name", 6)]) (by decide +kernel)) (fun _ _ _ _ _ => (pg_name (i := 6) sc__law_solve.nd rfl (Or.inl rfl))) (fun _ _ _ _ _ => pts_nil) (fun _ _ _ _ _ => (pe_tup (pa_cons (pv 6) (pa_cons (pe_kn D__law_put hr__law_put (pa_cons (pe_dget hu (pv 1) (pv 6) (fun _ _ => rfl)) (pa_cons (pe_disp (pps_cons (pe_ix (show IxR _ (rIxT K) from ix_tup) (pv 3) pe_int (fun _ _ => rfl)) (pv 4) pps_nil) (by rfl) (by rfl) (fun z => by cases z) (by decide)) pa_nil))) pa_nil)))))) pa_nil)))
  (pss_one (ps_dput hu (pv 1) (pe_ix ix_tup (pv 3) pe_int (fun _ _ => rfl)) (pv 4) rfl))))
  (pss_one (ps_if (PW.pt (pw_and (pt_cmpR op_eq (pe_ix ix_tup (pv 3) pe_int (fun _ _ => rfl)) pe_str (nomark _)) (pw_and1 (pt_cmpR op_eq (pe_ix ix_tup (pv 4) pe_int (fun _ _ => rfl)) pe_str (nomark _)))))
  (pss_one (ps_set (i := 2) sc__law_solve.nd rfl (Or.inl rfl) (pe_op op_cat (pe_lst (pa_cons (pe_tup (pa_cons (pe_ix ix_tup (pv 3) pe_int (fun _ _ => rfl)) (pa_cons (pe_ix ix_tup (pv 4) pe_int (fun _ _ => rfl)) pa_nil))) (pa_cons (pe_tup (pa_cons (pe_ix ix_tup (pv 3) pe_int (fun _ _ => rfl)) (pa_cons (pe_ix ix_tup (pv 4) pe_int (fun _ _ => rfl)) pa_nil))) pa_nil))) (pv 2))))
  (pss_one (ps_ret pe_non))))))))))
  (pss_one (ps_ret (pv 1))))), ?_⟩
    refine fun d hd => ?_
    have s1 : Same H (upd H d (.dK [])) := same_new hd
    refine ⟨_, rfl, pl, xs, rfl, .inl (s1.seq hxs), fun wl hwl => ?_⟩
    have s2 : Same (upd H d (.dK [])) (upd (upd H d (.dK [])) wl (.lst xs)) := same_new hwl
    refine ⟨slz rfl, fun q hq => ?_⟩
    have s3 : Same (upd (upd H d (.dK [])) wl (.lst xs)) (upd (upd (upd H d (.dK [])) wl (.lst xs)) q (.tup [.ref d, .ref wl])) := same_new hq
    refine ⟨q, _, rfl, SqT.of upd_same, rfl, _, _, rfl, _, _, rfl, rfl, ?_⟩
    refine ⟨SInv pl ws o H, ⟨n, ps, ps, xs, [], [], [], d, wl, none, none, rfl, (s1.trans s2).trans s3, s3 _ _ (s2 _ _ upd_same), hd, s3 _ _ upd_same, s1.free hwl, .nil, PairsAt.tups (same_tups ((s1.trans s2).trans s3)) hps, like_refl org, .nil w4, Stk.start hl org, un0⟩, ?_⟩
    clear un0 s1 s2 s3 hps hxs org hl hd hwl hq
    rintro m σ H1 ⟨l, ls, vs, f, b, kvs, dl, wl, v3, v4, rfl, s1, gd, nd, gw, nw, gb, gp, lk, us, st, un⟩
    refine ⟨_, rfl, slz rfl, fun e he => ?_⟩
    have s5 : Same H1 (upd H1 e (.lst [])) := same_new he
    refine ⟨_, _, .lst (SqL.of (s5 _ _ gw)) (PairsAt.dp (PairsAt.tups (same_tups s5) gp)), .lst (SqL.of upd_same) .nil, shaped_pairs (like_fit lk), shaped_nil, _, rfl, ?_⟩
    rw [pairs_ne]
    have S5 := s1.trans s5
    have gd5 := s5 _ _ gd
    have gw5 := s5 _ _ gw
    have gb5 := ByAt.tups (same_tups s5) gb
    have gp5 := PairsAt.tups (same_tups s5) gp
    generalize upd H1 e (.lst []) = H2 at S5 gd5 gw5 gb5 gp5 ⊢
    clear s1 s5 gd gw gb gp
    cases lk with
    | nil =>
      refine iteF ?_
      cases un
      exact ⟨_, rfl, k _ _ S5 ⟨dl, kvs, rfl, nd, gd5, gb5, us⟩⟩
    | @cons q p ls l hlk lk =>
      refine iT rfl ?_
      refine ⟨fun σ' H' => ∃ m', m' < m ∧ SInv pl ws o H m' σ' H', fun σ' H' h => h, ?_⟩
      cases gp5 with
      | @cons v0 _ vs0 _ g0 gp5 =>
      obtain ⟨T, u, z, rfl, hT, gu, gz⟩ := g0
      have org0 := st
      obtain ⟨⟨op1, op2, _⟩, str⟩ := org0
      have ln := st.len us
      have lvs : vs0.length ≤ 22 := by
        rw [Paired.length gp5, Paired.length lk]
        rw [List.length_cons] at ln
        omega
      have turn := un.sturn us st
      obtain ⟨ek1, ek2, fk1, fk2⟩ := hlk
      refine ⟨_, rfl, .inl ⟨rfl, _, SqL.of gw5⟩, wl, V.ref T :: vs0, 0, 0, V.ref T, rfl, rfl, gw5, by decide, by decide, by simp [seqIndex?], rfl, ?_⟩
      have ee : (V.ref T :: vs0).eraseIdx 0 = vs0 := rfl
      rw [ee]
      have tu : Tups H2 (upd H2 wl (.lst vs0)) := Tups.put gw5 (by intro xs z; cases z)
      have ndw : dl ≠ wl := fun e => by rw [e, gw5] at gd5; cases gd5
      have S3 : Same H (upd H2 wl (.lst vs0)) := fun b o zz => by
        rw [upd_ne (ne_of_none zz nw)]
        exact S5 _ _ zz
      have d3 : (upd H2 wl (.lst vs0)) dl = some (.dK kvs) := by rw [upd_ne ndw]; exact gd5
      have b3 := ByAt.tups tu gb5
      have w3 : (upd H2 wl (.lst vs0)) wl = some (.lst vs0) := upd_same
      have p3 := PairsAt.tups tu gp5
      have u3 := KdAt.tups tu gu
      have z3 := KdAt.tups tu gz
      have T3 := tu _ _ hT
      generalize upd H2 wl (.lst vs0) = H3 at S3 d3 b3 w3 p3 u3 z3 T3 ⊢
      clear tu gw5 gd5 gb5 gp5 gu gz hT S5
      refine ⟨T, rfl, ⟨[u, z], SqT.of T3⟩, fun D hD => lc_it (walk_tup (xs := [u, z])) (fun i H' => Same H3 H' ∧ ∃ acc, H' D = some (.lst acc) ∧ acc.length = i ∧ KdsAt H' acc ([q.1.put b, q.2.put b].take i)) ⟨same_new hD, [], upd_same, rfl, .nil⟩ (fun i H' _ p => SqT.of (p.1 _ _ T3)) ?_ ?_⟩
      · rintro i y H4 H5 hi ⟨s4, acc, gD, la, ga⟩ ⟨rfl, e⟩
        obtain ⟨ky, eky, fy, gy⟩ : ∃ ky, [q.1.put b, q.2.put b][i]? = some (ky.put b) ∧ ky.fit 20 ∧ KdAt H3 y ky := by
          match i, e with
          | 0, e => cases e; exact ⟨q.1, rfl, fk1, u3⟩
          | 1, e => cases e; exact ⟨q.2, rfl, fk2, z3⟩
        refine ⟨rfl, ?_⟩
        refine ⟨_, rfl, _, rfl, y, dl, ky, kvs, b, rfl, KdAt.tups (same_tups s4) gy, fy, s4 _ _ d3, ByAt.tups (same_tups s4) b3, fun H6 v6 s6 g6 => ?_⟩
        have gD6 := s6 _ _ gD
        have t6 : Tups H6 (upd H6 D (.lst (acc ++ [v6]))) := Tups.put gD6 (by intro xs z; cases z)
        have hi2 : i < 2 := hi
        refine ⟨acc, gD6, size_line (by omega), fun b' o' e' => ?_, acc ++ [v6], upd_same, by rw [List.length_append, la]; rfl, ?_⟩
        · rw [upd_ne (ne_of_none e' hD)]
          exact s6 _ _ (s4 _ _ e')
        · rw [List.take_add_one, eky]
          exact Paired.snoc (KdsAt.tups ((same_tups s6).trans t6) ga) (KdAt.tups t6 g6)
      rintro H4 ⟨s4, acc, gD, la, ga⟩
      have ga' : KdsAt H4 acc [q.1.put b, q.2.put b] := ga
      obtain ⟨va, vc, rfl, gA, gC⟩ : ∃ va vc, acc = [va, vc] ∧ KdAt H4 va (q.1.put b) ∧ KdAt H4 vc (q.2.put b) := by
        cases ga' with
        | cons g1 r1 =>
          cases r1 with
          | cons g2 r2 =>
            cases r2
            exact ⟨_, _, rfl, g1, g2⟩
      rw [ek1] at gA
      rw [ek2] at gC
      have bigA := us.big op1
      have bigC := us.big op2
      refine ⟨D, _, rfl, SqL.of gD, rfl, _, _, rfl, _, _, rfl, rfl, ?_⟩
      have S4 := S3.trans s4
      have d4 := s4 _ _ d3
      have b4 := ByAt.tups (same_tups s4) b3
      have w4' := s4 _ _ w3
      have p4 := PairsAt.tups (same_tups s4) p3
      clear s4 S3 d3 b3 w3 p3 u3 z3 T3 gD ga ga' la
      generalize hA : p.1.put b = A at turn gA bigA
      generalize hC : p.2.put b = C at turn gC bigC
      refine ⟨_, rfl, _, rfl, _, _, gA.dp, gC.dp, Kd.shaped bigA.1 (by decide), Kd.shaped bigC.1 (by decide), _, rfl, ?_⟩
      rw [Kd.eqv]
      by_cases eac : A = C
      · refine iT (decide_eq_true eac) ?_
        cases turn with
        | same _ e w => exact ⟨_, e, _, ls, vs0, f, b, kvs, dl, wl, _, _, rfl, S4, d4, nd, w4', nw, b4, p4, lk, us, str, w⟩
        | bind ne => exact absurd eac ne
        | ring ne => exact absurd eac ne
        | app ne => exact absurd eac ne
        | clash ne => exact absurd eac ne
      refine iF (decide_eq_false eac) ?_
      cases A with
      | var x =>
        have hb : Bind (.var x) C x C := .inl ⟨rfl, rfl⟩
        obtain ⟨ta, rfl, ha⟩ := id gA
        refine ⟨_, rfl, _, _, _, _, rfl, rfl, SqT.of ha, rfl, rfl, _, rfl, ?_⟩
        refine iF (by decide +kernel) ?_
        have gV := gA
        have gK := gC
        have bigK := bigC
        refine ⟨_, rfl, _, _, _, _, rfl, rfl, SqT.of ha, rfl, rfl, _, rfl, iT tg_vv ?_⟩
        refine ⟨_, rfl, _, _, _, _, rfl, rfl, SqT.of ha, rfl, _, rfl, slz rfl, fun e he => ?_⟩
        have s6 : Same _ (upd _ e (.lst [vc])) := same_new he
        refine ⟨e, [vc], [C], rfl, SqL.of upd_same, .cons (KdAt.tups (same_tups s6) gK) .nil, (fun q hq => by rw [List.mem_singleton.mp hq]; exact Kd.fit_mono (by decide) bigK.1), (by simp only [sizeL]; have := bigK.2.2; omega), fun H6 p' s7 np gp' => ?_⟩
        have s67 := s6.trans s7
        refine ⟨p', _, rfl, .inl (SqL.of gp'), rfl, flat_words _, _, rfl, ?_⟩
        show if (inV (.str x) ((vsL [C] []).map V.str)) = true then _ else _
        rw [inV_words]
        have hin : x ∈ vsL [C] [] ↔ (C).occ x := by rw [vsL_mem]; simp
        have S6 := S4.trans s67
        have d6 := s67 _ _ d4
        have w6 := s67 _ _ w4'
        have b6 := ByAt.tups (same_tups s67) b4
        have p6 := PairsAt.tups (same_tups s67) p4
        have ha6 := s67 _ _ ha
        have gK6 := KdAt.tups (same_tups s67) gK
        rcases turn.bound eac hb with ⟨ho, eo⟩ | ⟨ho, hxb, m', f', lt, us', w⟩
        · refine iT (decide_eq_true (hin.mpr ho)) ?_
          subst eo
          exact k _ _ S6 rfl
        refine iF (decide_eq_false (fun z => ho (hin.mp z))) ?_
        refine ⟨dl, .dK kvs, d6, trivial, fun od => ?_⟩
        have sd : ∀ b o', b ≠ dl → H6 b = some o' → upd H6 dl (.frz od (.dK kvs)) b = some o' := fun b o' hb e => by rw [upd_ne hb]; exact e
        have gdL : upd H6 dl (.frz od (.dK kvs)) dl = some (.frz od (.dK kvs)) := upd_same
        have tuL : Tups H6 (upd H6 dl (.frz od (.dK kvs))) := Tups.put d6 (by intro xs z; cases z)
        have gbL := ByAt.tups tuL b6
        have haL := tuL _ _ ha6
        have gKL := KdAt.tups tuL gK6
        generalize upd H6 dl (.frz od (.dK kvs)) = HL at sd gdL tuL gbL haL gKL ⊢
        have ndb : (names b).Nodup := by rw [us.nb]; exact us.nd
        refine ⟨_, rfl, dl, od, rfl, .inl ⟨kvs, gdL, fun D2 hD2 => lc_it walk_keys (fun i H' => Same HL H' ∧ ∃ (pa : List Addr) (kvs2 : List (Key × V)), H' D2 = some (.lst (pa.map V.ref)) ∧ Paired (fun p kv => H' p = some (.tup [kV kv.1, kv.2])) pa kvs2 ∧ ByAt H' kvs2 ((b.take i).map fun q => (q.1, q.2.put (one x (C)))) ∧ pa.length = i) ⟨same_new hD2, [], [], upd_same, .nil, .nil, rfl⟩ (fun i H' _ p => p.1 _ _ gdL) ?_ ?_⟩⟩
        · rintro i y H7 H8 hi ⟨s8, pa, kvs2, g2, pp, b2, lp⟩ ⟨rfl, k0, v0, e, rfl⟩
          obtain ⟨q, eq0, ek, gv⟩ := paired_get gbL e
          have ek' : k0 = .inr q.1 := ek
          subst ek'
          have lq := lk_nodup ndb (List.mem_of_getElem? eq0)
          rcases gbL.get q.1 with ⟨e1, e2⟩ | ⟨v1, k1, e1, e2, g1⟩
          · rw [e2] at lq; cases lq
          rw [e2] at lq
          cases lq
          have hd2 : Rd H8 dl (.dK kvs) := .inr ⟨od, s8 _ _ gdL⟩
          have bigq := us.inB (List.mem_of_getElem? eq0)
          refine ⟨rfl, ?_⟩
          refine ⟨_, rfl, _, rfl, _, rfl, dl, v1, rfl, by rw [← e1]; exact dgetR q.1 hd2, fun p hp => ?_⟩
          have nS : Same H8 (upd (upd H8 p (.dK [])) p (.dK [(.inr x, vc)])) := fun b' o' e' => by
            rw [upd_ne (ne_of_none e' hp), upd_ne (ne_of_none e' hp)]
            exact e'
          have s80 : Same H8 (upd H8 p (.dK [])) := same_new hp
          refine ⟨_, rfl, _, _, _, _, rfl, rfl, SqT.of (s80 _ _ (s8 _ _ haL)), rfl, _, rfl, upd_same, [(.inr x, vc)], rfl, (by show 1 ≤ 15; decide), ?_⟩
          have em : mergeK [] [((.inr x : Key), vc)] = [(.inr x, vc)] := rfl
          rw [em]
          refine ⟨v1, p, q.2, [(.inr x, vc)], one x (C), rfl, KdAt.tups (same_tups (s8.trans nS)) g1, bigq.1, upd_same, .cons ⟨rfl, KdAt.tups (same_tups (s8.trans nS)) gKL⟩ .nil, fun H9 v9 s9 g9 => ⟨slz rfl, fun t ht => ?_⟩⟩
          have s10 : Same H9 (upd H9 t (.tup [.str q.1, v9])) := same_new ht
          have s8D := nS.trans (s9.trans s10)
          have gD := s8D _ _ g2
          have tD : Tups (upd H9 t (.tup [.str q.1, v9])) (upd (upd H9 t (.tup [.str q.1, v9])) D2 (.lst (pa.map V.ref ++ [.ref t]))) := Tups.put gD (by intro xs z; cases z)
          have t8D := (same_tups s8D).trans tD
          refine ⟨_, gD, size_line (by have z1 := (List.getElem?_eq_some_iff.mp eq0).1; have z2 := us.lenB; rw [List.length_map, lp]; omega), fun b' o' e' => ?_, pa ++ [t], kvs2 ++ [(.inr q.1, v9)], by rw [upd_same, List.map_append]; rfl, ?_, ?_, by rw [List.length_append, lp]; rfl⟩
          · rw [upd_ne (ne_of_none e' hD2)]
            exact s8D _ _ (s8 _ _ e')
          · exact Paired.snoc (paired_map (fun _ _ h => t8D _ _ h) pp) (tD _ _ upd_same)
          · rw [List.take_add_one, eq0]
            show ByAt _ _ (List.map _ (b.take i ++ [q]))
            rw [List.map_append]
            exact Paired.snoc (ByAt.tups t8D b2) ⟨rfl, KdAt.tups ((same_tups s10).trans tD) g9⟩
        · rintro H7 ⟨s8, pa, kvs2, g2, pp, b2, lp⟩
          have e0 : b.take kvs.length = b := by rw [byAt_len b6, List.take_length]
          rw [e0] at b2
          refine ⟨s8 _ _ gdL, ?_⟩
          have tU : Tups H7 (upd H7 dl (.dK kvs)) := Tups.put (s8 _ _ gdL) (by intro xs z; cases z)
          have nD2 : D2 ≠ dl := (ne_of_none gdL hD2).symm
          have SU : Same H (upd H7 dl (.dK kvs)) := fun b' o' e' => by
            have nb : b' ≠ dl := ne_of_none e' nd
            rw [upd_ne nb]
            exact s8 _ _ (sd _ _ nb (S6 _ _ e'))
          have g2' : (upd H7 dl (.dK kvs)) D2 = some (.lst (pa.map V.ref)) := by rw [upd_ne nD2]; exact g2
          have pp' := paired_map (fun _ _ h => tU _ _ h) pp
          have b2' := ByAt.tups tU b2
          have w7 : (upd H7 dl (.dK kvs)) wl = some (.lst vs0) := by
            rw [upd_ne ndw.symm]
            exact s8 _ _ (sd _ _ ndw.symm w6)
          have p7 := PairsAt.tups ((tuL.trans (same_tups s8)).trans tU) p6
          have ha7 := tU _ _ (s8 _ _ haL)
          have gK7 := KdAt.tups ((same_tups s8).trans tU) gKL
          generalize upd H7 dl (.dK kvs) = H8 at SU g2' pp' b2' w7 p7 ha7 gK7 ⊢
          refine ⟨D2, pa, kvs2, rfl, SqL.of g2', paired_map (fun _ _ h => SqT.of h) pp', fun dl2 hdl2 => ?_⟩
          have em : mergeK [] kvs2 = kvs2 := merge_by b2' (.nil : ByAt H8 [] []) (by
            show (names (List.map (fun q => (q.1, q.2.put (one x (C)))) b)).Nodup
            have e : names (List.map (fun q => (q.1, q.2.put (one x (C)))) b) = names b := by
              unfold names
              rw [List.map_map]
              rfl
            rw [e]
            exact ndb)
          rw [em]
          have s9 : Same H8 (upd H8 dl2 (.dK kvs2)) := same_new hdl2
          have ndl2 : H dl2 = none := SU.free hdl2
          have S9 := SU.trans s9
          have b9 := ByAt.tups (same_tups s9) b2'
          have gK9 := KdAt.tups (same_tups s9) gK7
          have w9 := s9 _ _ w7
          have p9 := PairsAt.tups (same_tups s9) p7
          have d9 : (upd H8 dl2 (.dK kvs2)) dl2 = some (.dK kvs2) := upd_same
          have ha9 := s9 _ _ ha7
          generalize upd H8 dl2 (.dK kvs2) = H9 at S9 b9 gK9 w9 p9 d9 ha9 ⊢
          have hno : valV kvs2 (.inr x) = none := by
            rcases b9.get x with ⟨e3, _⟩ | ⟨_, _, _, e4, _⟩
            · exact e3
            · have e5 : L3.lk (putAll b (one x (C))) x = some _ := e4
              rw [lk_putAll, hxb] at e5
              cases e5
          refine ⟨_, rfl, _, rfl, _, rfl, _, _, _, _, rfl, rfl, SqT.of ha9, rfl, dl2, _, rfl, DPut.k (k := .inr x) d9 (size_line (by have z1 := byAt_len b9; have z2 := us.lenB; rw [List.length_map] at z1; omega)), ?_⟩
          rw [putK_new _ hno]
          have tD : ∀ zz, Tups H9 (upd H9 dl2 (.dK zz)) := fun zz => Tups.put d9 (by intro xs z; cases z)
          have ndw2 : wl ≠ dl2 := fun e => by rw [e, d9] at w9; cases w9
          refine ⟨m', lt, _, ls, vs0, f', _, _, dl2, wl, _, _, rfl, fun b' o' e' => ?_, upd_same, ndl2, ?_, nw, Paired.snoc (ByAt.tups (tD _) b9) ⟨rfl, KdAt.tups (tD _) gK9⟩, PairsAt.tups (tD _) p9, paired_map (fun _ _ h => Like.bind hxb h) lk, us', Stk.bind hxb str, w⟩
          · rw [upd_ne (ne_of_none e' ndl2)]
            exact S9 _ _ e'
          · rw [upd_ne ndw2]
            exact w9
      | con y =>
        cases C with
        | var x =>
          have hb : Bind (Kd.con y) (.var x) x (Kd.con y) := .inr ⟨(fun z e => nomatch e), rfl, rfl⟩
          obtain ⟨ta0, eta0, ha0⟩ := id gA
          refine ⟨_, rfl, _, _, _, _, eta0, rfl, SqT.of ha0, rfl, rfl, _, rfl, ?_⟩
          refine iT (by decide +kernel) ?_
          refine ⟨_, rfl, _, rfl, slz rfl, fun qq hqq => ⟨qq, _, rfl, SqT.of upd_same, rfl, _, _, rfl, _, _, rfl, rfl, ?_⟩⟩
          have sS : Same H4 (upd H4 qq (.tup [vc, va])) := same_new hqq
          have S4 := S4.trans sS
          have d4 := sS _ _ d4
          have w4' := sS _ _ w4'
          have b4 := ByAt.tups (same_tups sS) b4
          have p4 := PairsAt.tups (same_tups sS) p4
          have gA := KdAt.tups (same_tups sS) gA
          have gC := KdAt.tups (same_tups sS) gC
          generalize upd H4 qq (.tup [vc, va]) = H5 at S4 d4 w4' b4 p4 gA gC ⊢
          have gV := gC
          have gK := gA
          have bigK := bigA
          obtain ⟨ta, rfl, ha⟩ := id gV
          refine ⟨_, rfl, _, _, _, _, rfl, rfl, SqT.of ha, rfl, rfl, _, rfl, iT tg_vv ?_⟩
          refine ⟨_, rfl, _, _, _, _, rfl, rfl, SqT.of ha, rfl, _, rfl, slz rfl, fun e he => ?_⟩
          have s6 : Same _ (upd _ e (.lst [va])) := same_new he
          refine ⟨e, [va], [(Kd.con y)], rfl, SqL.of upd_same, .cons (KdAt.tups (same_tups s6) gK) .nil, (fun q hq => by rw [List.mem_singleton.mp hq]; exact Kd.fit_mono (by decide) bigK.1), (by simp only [sizeL]; have := bigK.2.2; omega), fun H6 p' s7 np gp' => ?_⟩
          have s67 := s6.trans s7
          refine ⟨p', _, rfl, .inl (SqL.of gp'), rfl, flat_words _, _, rfl, ?_⟩
          show if (inV (.str x) ((vsL [(Kd.con y)] []).map V.str)) = true then _ else _
          rw [inV_words]
          have hin : x ∈ vsL [(Kd.con y)] [] ↔ ((Kd.con y)).occ x := by rw [vsL_mem]; simp
          have S6 := S4.trans s67
          have d6 := s67 _ _ d4
          have w6 := s67 _ _ w4'
          have b6 := ByAt.tups (same_tups s67) b4
          have p6 := PairsAt.tups (same_tups s67) p4
          have ha6 := s67 _ _ ha
          have gK6 := KdAt.tups (same_tups s67) gK
          rcases turn.bound eac hb with ⟨ho, eo⟩ | ⟨ho, hxb, m', f', lt, us', w⟩
          · refine iT (decide_eq_true (hin.mpr ho)) ?_
            subst eo
            exact k _ _ S6 rfl
          refine iF (decide_eq_false (fun z => ho (hin.mp z))) ?_
          refine ⟨dl, .dK kvs, d6, trivial, fun od => ?_⟩
          have sd : ∀ b o', b ≠ dl → H6 b = some o' → upd H6 dl (.frz od (.dK kvs)) b = some o' := fun b o' hb e => by rw [upd_ne hb]; exact e
          have gdL : upd H6 dl (.frz od (.dK kvs)) dl = some (.frz od (.dK kvs)) := upd_same
          have tuL : Tups H6 (upd H6 dl (.frz od (.dK kvs))) := Tups.put d6 (by intro xs z; cases z)
          have gbL := ByAt.tups tuL b6
          have haL := tuL _ _ ha6
          have gKL := KdAt.tups tuL gK6
          generalize upd H6 dl (.frz od (.dK kvs)) = HL at sd gdL tuL gbL haL gKL ⊢
          have ndb : (names b).Nodup := by rw [us.nb]; exact us.nd
          refine ⟨_, rfl, dl, od, rfl, .inl ⟨kvs, gdL, fun D2 hD2 => lc_it walk_keys (fun i H' => Same HL H' ∧ ∃ (pa : List Addr) (kvs2 : List (Key × V)), H' D2 = some (.lst (pa.map V.ref)) ∧ Paired (fun p kv => H' p = some (.tup [kV kv.1, kv.2])) pa kvs2 ∧ ByAt H' kvs2 ((b.take i).map fun q => (q.1, q.2.put (one x ((Kd.con y))))) ∧ pa.length = i) ⟨same_new hD2, [], [], upd_same, .nil, .nil, rfl⟩ (fun i H' _ p => p.1 _ _ gdL) ?_ ?_⟩⟩
          · rintro i y H7 H8 hi ⟨s8, pa, kvs2, g2, pp, b2, lp⟩ ⟨rfl, k0, v0, e, rfl⟩
            obtain ⟨q, eq0, ek, gv⟩ := paired_get gbL e
            have ek' : k0 = .inr q.1 := ek
            subst ek'
            have lq := lk_nodup ndb (List.mem_of_getElem? eq0)
            rcases gbL.get q.1 with ⟨e1, e2⟩ | ⟨v1, k1, e1, e2, g1⟩
            · rw [e2] at lq; cases lq
            rw [e2] at lq
            cases lq
            have hd2 : Rd H8 dl (.dK kvs) := .inr ⟨od, s8 _ _ gdL⟩
            have bigq := us.inB (List.mem_of_getElem? eq0)
            refine ⟨rfl, ?_⟩
            refine ⟨_, rfl, _, rfl, _, rfl, dl, v1, rfl, by rw [← e1]; exact dgetR q.1 hd2, fun p hp => ?_⟩
            have nS : Same H8 (upd (upd H8 p (.dK [])) p (.dK [(.inr x, va)])) := fun b' o' e' => by
              rw [upd_ne (ne_of_none e' hp), upd_ne (ne_of_none e' hp)]
              exact e'
            have s80 : Same H8 (upd H8 p (.dK [])) := same_new hp
            refine ⟨_, rfl, _, _, _, _, rfl, rfl, SqT.of (s80 _ _ (s8 _ _ haL)), rfl, _, rfl, upd_same, [(.inr x, va)], rfl, (by show 1 ≤ 15; decide), ?_⟩
            have em : mergeK [] [((.inr x : Key), va)] = [(.inr x, va)] := rfl
            rw [em]
            refine ⟨v1, p, q.2, [(.inr x, va)], one x ((Kd.con y)), rfl, KdAt.tups (same_tups (s8.trans nS)) g1, bigq.1, upd_same, .cons ⟨rfl, KdAt.tups (same_tups (s8.trans nS)) gKL⟩ .nil, fun H9 v9 s9 g9 => ⟨slz rfl, fun t ht => ?_⟩⟩
            have s10 : Same H9 (upd H9 t (.tup [.str q.1, v9])) := same_new ht
            have s8D := nS.trans (s9.trans s10)
            have gD := s8D _ _ g2
            have tD : Tups (upd H9 t (.tup [.str q.1, v9])) (upd (upd H9 t (.tup [.str q.1, v9])) D2 (.lst (pa.map V.ref ++ [.ref t]))) := Tups.put gD (by intro xs z; cases z)
            have t8D := (same_tups s8D).trans tD
            refine ⟨_, gD, size_line (by have z1 := (List.getElem?_eq_some_iff.mp eq0).1; have z2 := us.lenB; rw [List.length_map, lp]; omega), fun b' o' e' => ?_, pa ++ [t], kvs2 ++ [(.inr q.1, v9)], by rw [upd_same, List.map_append]; rfl, ?_, ?_, by rw [List.length_append, lp]; rfl⟩
            · rw [upd_ne (ne_of_none e' hD2)]
              exact s8D _ _ (s8 _ _ e')
            · exact Paired.snoc (paired_map (fun _ _ h => t8D _ _ h) pp) (tD _ _ upd_same)
            · rw [List.take_add_one, eq0]
              show ByAt _ _ (List.map _ (b.take i ++ [q]))
              rw [List.map_append]
              exact Paired.snoc (ByAt.tups t8D b2) ⟨rfl, KdAt.tups ((same_tups s10).trans tD) g9⟩
          · rintro H7 ⟨s8, pa, kvs2, g2, pp, b2, lp⟩
            have e0 : b.take kvs.length = b := by rw [byAt_len b6, List.take_length]
            rw [e0] at b2
            refine ⟨s8 _ _ gdL, ?_⟩
            have tU : Tups H7 (upd H7 dl (.dK kvs)) := Tups.put (s8 _ _ gdL) (by intro xs z; cases z)
            have nD2 : D2 ≠ dl := (ne_of_none gdL hD2).symm
            have SU : Same H (upd H7 dl (.dK kvs)) := fun b' o' e' => by
              have nb : b' ≠ dl := ne_of_none e' nd
              rw [upd_ne nb]
              exact s8 _ _ (sd _ _ nb (S6 _ _ e'))
            have g2' : (upd H7 dl (.dK kvs)) D2 = some (.lst (pa.map V.ref)) := by rw [upd_ne nD2]; exact g2
            have pp' := paired_map (fun _ _ h => tU _ _ h) pp
            have b2' := ByAt.tups tU b2
            have w7 : (upd H7 dl (.dK kvs)) wl = some (.lst vs0) := by
              rw [upd_ne ndw.symm]
              exact s8 _ _ (sd _ _ ndw.symm w6)
            have p7 := PairsAt.tups ((tuL.trans (same_tups s8)).trans tU) p6
            have ha7 := tU _ _ (s8 _ _ haL)
            have gK7 := KdAt.tups ((same_tups s8).trans tU) gKL
            generalize upd H7 dl (.dK kvs) = H8 at SU g2' pp' b2' w7 p7 ha7 gK7 ⊢
            refine ⟨D2, pa, kvs2, rfl, SqL.of g2', paired_map (fun _ _ h => SqT.of h) pp', fun dl2 hdl2 => ?_⟩
            have em : mergeK [] kvs2 = kvs2 := merge_by b2' (.nil : ByAt H8 [] []) (by
              show (names (List.map (fun q => (q.1, q.2.put (one x ((Kd.con y))))) b)).Nodup
              have e : names (List.map (fun q => (q.1, q.2.put (one x ((Kd.con y))))) b) = names b := by
                unfold names
                rw [List.map_map]
                rfl
              rw [e]
              exact ndb)
            rw [em]
            have s9 : Same H8 (upd H8 dl2 (.dK kvs2)) := same_new hdl2
            have ndl2 : H dl2 = none := SU.free hdl2
            have S9 := SU.trans s9
            have b9 := ByAt.tups (same_tups s9) b2'
            have gK9 := KdAt.tups (same_tups s9) gK7
            have w9 := s9 _ _ w7
            have p9 := PairsAt.tups (same_tups s9) p7
            have d9 : (upd H8 dl2 (.dK kvs2)) dl2 = some (.dK kvs2) := upd_same
            have ha9 := s9 _ _ ha7
            generalize upd H8 dl2 (.dK kvs2) = H9 at S9 b9 gK9 w9 p9 d9 ha9 ⊢
            have hno : valV kvs2 (.inr x) = none := by
              rcases b9.get x with ⟨e3, _⟩ | ⟨_, _, _, e4, _⟩
              · exact e3
              · have e5 : L3.lk (putAll b (one x ((Kd.con y)))) x = some _ := e4
                rw [lk_putAll, hxb] at e5
                cases e5
            refine ⟨_, rfl, _, rfl, _, rfl, _, _, _, _, rfl, rfl, SqT.of ha9, rfl, dl2, _, rfl, DPut.k (k := .inr x) d9 (size_line (by have z1 := byAt_len b9; have z2 := us.lenB; rw [List.length_map] at z1; omega)), ?_⟩
            rw [putK_new _ hno]
            have tD : ∀ zz, Tups H9 (upd H9 dl2 (.dK zz)) := fun zz => Tups.put d9 (by intro xs z; cases z)
            have ndw2 : wl ≠ dl2 := fun e => by rw [e, d9] at w9; cases w9
            refine ⟨m', lt, _, ls, vs0, f', _, _, dl2, wl, _, _, rfl, fun b' o' e' => ?_, upd_same, ndl2, ?_, nw, Paired.snoc (ByAt.tups (tD _) b9) ⟨rfl, KdAt.tups (tD _) gK9⟩, PairsAt.tups (tD _) p9, paired_map (fun _ _ h => Like.bind hxb h) lk, us', Stk.bind hxb str, w⟩
            · rw [upd_ne (ne_of_none e' ndl2)]
              exact S9 _ _ e'
            · rw [upd_ne ndw2]
              exact w9
        | con z =>
          have eo := turn.dead eac (fun x k hb => by rcases hb with ⟨e1, _⟩ | ⟨_, e1, _⟩ <;> cases e1) (fun a1 a2 c1 c2 e => by first | (cases e.1; done) | (cases e.2; done))
          subst eo
          obtain ⟨ta0, eta0, ha0⟩ := id gA
          refine ⟨_, rfl, _, _, _, _, eta0, rfl, SqT.of ha0, rfl, rfl, _, rfl, ?_⟩
          refine iT (by decide +kernel) ?_
          refine ⟨_, rfl, _, rfl, slz rfl, fun qq hqq => ⟨qq, _, rfl, SqT.of upd_same, rfl, _, _, rfl, _, _, rfl, rfl, ?_⟩⟩
          have sS : Same H4 (upd H4 qq (.tup [vc, va])) := same_new hqq
          have S4 := S4.trans sS
          have d4 := sS _ _ d4
          have w4' := sS _ _ w4'
          have b4 := ByAt.tups (same_tups sS) b4
          have p4 := PairsAt.tups (same_tups sS) p4
          have gA := KdAt.tups (same_tups sS) gA
          have gC := KdAt.tups (same_tups sS) gC
          generalize upd H4 qq (.tup [vc, va]) = H5 at S4 d4 w4' b4 p4 gA gC ⊢
          obtain ⟨tc1, rfl, hc1⟩ := id gC
          refine ⟨_, rfl, _, _, _, _, rfl, rfl, SqT.of hc1, rfl, rfl, _, rfl, iF tg_cv ?_⟩
          refine ⟨_, rfl, _, _, _, _, rfl, rfl, SqT.of hc1, rfl, rfl, _, rfl, iF tg_ca ?_⟩
          exact k _ _ S4 rfl
        | app c1 c2 =>
          have eo := turn.dead eac (fun x k hb => by rcases hb with ⟨e1, _⟩ | ⟨_, e1, _⟩ <;> cases e1) (fun a1 a2 c1 c2 e => by first | (cases e.1; done) | (cases e.2; done))
          subst eo
          obtain ⟨ta0, eta0, ha0⟩ := id gA
          refine ⟨_, rfl, _, _, _, _, eta0, rfl, SqT.of ha0, rfl, rfl, _, rfl, ?_⟩
          refine iT (by decide +kernel) ?_
          refine ⟨_, rfl, _, rfl, slz rfl, fun qq hqq => ⟨qq, _, rfl, SqT.of upd_same, rfl, _, _, rfl, _, _, rfl, rfl, ?_⟩⟩
          have sS : Same H4 (upd H4 qq (.tup [vc, va])) := same_new hqq
          have S4 := S4.trans sS
          have d4 := sS _ _ d4
          have w4' := sS _ _ w4'
          have b4 := ByAt.tups (same_tups sS) b4
          have p4 := PairsAt.tups (same_tups sS) p4
          have gA := KdAt.tups (same_tups sS) gA
          have gC := KdAt.tups (same_tups sS) gC
          generalize upd H4 qq (.tup [vc, va]) = H5 at S4 d4 w4' b4 p4 gA gC ⊢
          obtain ⟨tc1, uc, zc, rfl, hc1, huc, hzc⟩ := id gC
          refine ⟨_, rfl, _, _, _, _, rfl, rfl, SqT.of hc1, rfl, rfl, _, rfl, iF tg_av ?_⟩
          obtain ⟨ta1, eta1, ha1⟩ := id gA
          cases eta1
          refine ⟨_, rfl, _, _, _, _, rfl, rfl, SqT.of hc1, rfl, rfl, _, rfl, iT tg_aa ?_⟩
          refine ⟨_, rfl, _, _, _, _, rfl, rfl, SqT.of ha1, rfl, rfl, _, rfl, iF tg_ca ?_⟩
          exact k _ _ S4 rfl
      | app a1 a2 =>
        cases C with
        | var x =>
          have hb : Bind (Kd.app a1 a2) (.var x) x (Kd.app a1 a2) := .inr ⟨(fun z e => nomatch e), rfl, rfl⟩
          obtain ⟨ta0, ua0, za0, eta0, ha0, _⟩ := id gA
          refine ⟨_, rfl, _, _, _, _, eta0, rfl, SqT.of ha0, rfl, rfl, _, rfl, ?_⟩
          refine iT (by decide +kernel) ?_
          refine ⟨_, rfl, _, rfl, slz rfl, fun qq hqq => ⟨qq, _, rfl, SqT.of upd_same, rfl, _, _, rfl, _, _, rfl, rfl, ?_⟩⟩
          have sS : Same H4 (upd H4 qq (.tup [vc, va])) := same_new hqq
          have S4 := S4.trans sS
          have d4 := sS _ _ d4
          have w4' := sS _ _ w4'
          have b4 := ByAt.tups (same_tups sS) b4
          have p4 := PairsAt.tups (same_tups sS) p4
          have gA := KdAt.tups (same_tups sS) gA
          have gC := KdAt.tups (same_tups sS) gC
          generalize upd H4 qq (.tup [vc, va]) = H5 at S4 d4 w4' b4 p4 gA gC ⊢
          have gV := gC
          have gK := gA
          have bigK := bigA
          obtain ⟨ta, rfl, ha⟩ := id gV
          refine ⟨_, rfl, _, _, _, _, rfl, rfl, SqT.of ha, rfl, rfl, _, rfl, iT tg_vv ?_⟩
          refine ⟨_, rfl, _, _, _, _, rfl, rfl, SqT.of ha, rfl, _, rfl, slz rfl, fun e he => ?_⟩
          have s6 : Same _ (upd _ e (.lst [va])) := same_new he
          refine ⟨e, [va], [(Kd.app a1 a2)], rfl, SqL.of upd_same, .cons (KdAt.tups (same_tups s6) gK) .nil, (fun q hq => by rw [List.mem_singleton.mp hq]; exact Kd.fit_mono (by decide) bigK.1), (by simp only [sizeL]; have := bigK.2.2; omega), fun H6 p' s7 np gp' => ?_⟩
          have s67 := s6.trans s7
          refine ⟨p', _, rfl, .inl (SqL.of gp'), rfl, flat_words _, _, rfl, ?_⟩
          show if (inV (.str x) ((vsL [(Kd.app a1 a2)] []).map V.str)) = true then _ else _
          rw [inV_words]
          have hin : x ∈ vsL [(Kd.app a1 a2)] [] ↔ ((Kd.app a1 a2)).occ x := by rw [vsL_mem]; simp
          have S6 := S4.trans s67
          have d6 := s67 _ _ d4
          have w6 := s67 _ _ w4'
          have b6 := ByAt.tups (same_tups s67) b4
          have p6 := PairsAt.tups (same_tups s67) p4
          have ha6 := s67 _ _ ha
          have gK6 := KdAt.tups (same_tups s67) gK
          rcases turn.bound eac hb with ⟨ho, eo⟩ | ⟨ho, hxb, m', f', lt, us', w⟩
          · refine iT (decide_eq_true (hin.mpr ho)) ?_
            subst eo
            exact k _ _ S6 rfl
          refine iF (decide_eq_false (fun z => ho (hin.mp z))) ?_
          refine ⟨dl, .dK kvs, d6, trivial, fun od => ?_⟩
          have sd : ∀ b o', b ≠ dl → H6 b = some o' → upd H6 dl (.frz od (.dK kvs)) b = some o' := fun b o' hb e => by rw [upd_ne hb]; exact e
          have gdL : upd H6 dl (.frz od (.dK kvs)) dl = some (.frz od (.dK kvs)) := upd_same
          have tuL : Tups H6 (upd H6 dl (.frz od (.dK kvs))) := Tups.put d6 (by intro xs z; cases z)
          have gbL := ByAt.tups tuL b6
          have haL := tuL _ _ ha6
          have gKL := KdAt.tups tuL gK6
          generalize upd H6 dl (.frz od (.dK kvs)) = HL at sd gdL tuL gbL haL gKL ⊢
          have ndb : (names b).Nodup := by rw [us.nb]; exact us.nd
          refine ⟨_, rfl, dl, od, rfl, .inl ⟨kvs, gdL, fun D2 hD2 => lc_it walk_keys (fun i H' => Same HL H' ∧ ∃ (pa : List Addr) (kvs2 : List (Key × V)), H' D2 = some (.lst (pa.map V.ref)) ∧ Paired (fun p kv => H' p = some (.tup [kV kv.1, kv.2])) pa kvs2 ∧ ByAt H' kvs2 ((b.take i).map fun q => (q.1, q.2.put (one x ((Kd.app a1 a2))))) ∧ pa.length = i) ⟨same_new hD2, [], [], upd_same, .nil, .nil, rfl⟩ (fun i H' _ p => p.1 _ _ gdL) ?_ ?_⟩⟩
          · rintro i y H7 H8 hi ⟨s8, pa, kvs2, g2, pp, b2, lp⟩ ⟨rfl, k0, v0, e, rfl⟩
            obtain ⟨q, eq0, ek, gv⟩ := paired_get gbL e
            have ek' : k0 = .inr q.1 := ek
            subst ek'
            have lq := lk_nodup ndb (List.mem_of_getElem? eq0)
            rcases gbL.get q.1 with ⟨e1, e2⟩ | ⟨v1, k1, e1, e2, g1⟩
            · rw [e2] at lq; cases lq
            rw [e2] at lq
            cases lq
            have hd2 : Rd H8 dl (.dK kvs) := .inr ⟨od, s8 _ _ gdL⟩
            have bigq := us.inB (List.mem_of_getElem? eq0)
            refine ⟨rfl, ?_⟩
            refine ⟨_, rfl, _, rfl, _, rfl, dl, v1, rfl, by rw [← e1]; exact dgetR q.1 hd2, fun p hp => ?_⟩
            have nS : Same H8 (upd (upd H8 p (.dK [])) p (.dK [(.inr x, va)])) := fun b' o' e' => by
              rw [upd_ne (ne_of_none e' hp), upd_ne (ne_of_none e' hp)]
              exact e'
            have s80 : Same H8 (upd H8 p (.dK [])) := same_new hp
            refine ⟨_, rfl, _, _, _, _, rfl, rfl, SqT.of (s80 _ _ (s8 _ _ haL)), rfl, _, rfl, upd_same, [(.inr x, va)], rfl, (by show 1 ≤ 15; decide), ?_⟩
            have em : mergeK [] [((.inr x : Key), va)] = [(.inr x, va)] := rfl
            rw [em]
            refine ⟨v1, p, q.2, [(.inr x, va)], one x ((Kd.app a1 a2)), rfl, KdAt.tups (same_tups (s8.trans nS)) g1, bigq.1, upd_same, .cons ⟨rfl, KdAt.tups (same_tups (s8.trans nS)) gKL⟩ .nil, fun H9 v9 s9 g9 => ⟨slz rfl, fun t ht => ?_⟩⟩
            have s10 : Same H9 (upd H9 t (.tup [.str q.1, v9])) := same_new ht
            have s8D := nS.trans (s9.trans s10)
            have gD := s8D _ _ g2
            have tD : Tups (upd H9 t (.tup [.str q.1, v9])) (upd (upd H9 t (.tup [.str q.1, v9])) D2 (.lst (pa.map V.ref ++ [.ref t]))) := Tups.put gD (by intro xs z; cases z)
            have t8D := (same_tups s8D).trans tD
            refine ⟨_, gD, size_line (by have z1 := (List.getElem?_eq_some_iff.mp eq0).1; have z2 := us.lenB; rw [List.length_map, lp]; omega), fun b' o' e' => ?_, pa ++ [t], kvs2 ++ [(.inr q.1, v9)], by rw [upd_same, List.map_append]; rfl, ?_, ?_, by rw [List.length_append, lp]; rfl⟩
            · rw [upd_ne (ne_of_none e' hD2)]
              exact s8D _ _ (s8 _ _ e')
            · exact Paired.snoc (paired_map (fun _ _ h => t8D _ _ h) pp) (tD _ _ upd_same)
            · rw [List.take_add_one, eq0]
              show ByAt _ _ (List.map _ (b.take i ++ [q]))
              rw [List.map_append]
              exact Paired.snoc (ByAt.tups t8D b2) ⟨rfl, KdAt.tups ((same_tups s10).trans tD) g9⟩
          · rintro H7 ⟨s8, pa, kvs2, g2, pp, b2, lp⟩
            have e0 : b.take kvs.length = b := by rw [byAt_len b6, List.take_length]
            rw [e0] at b2
            refine ⟨s8 _ _ gdL, ?_⟩
            have tU : Tups H7 (upd H7 dl (.dK kvs)) := Tups.put (s8 _ _ gdL) (by intro xs z; cases z)
            have nD2 : D2 ≠ dl := (ne_of_none gdL hD2).symm
            have SU : Same H (upd H7 dl (.dK kvs)) := fun b' o' e' => by
              have nb : b' ≠ dl := ne_of_none e' nd
              rw [upd_ne nb]
              exact s8 _ _ (sd _ _ nb (S6 _ _ e'))
            have g2' : (upd H7 dl (.dK kvs)) D2 = some (.lst (pa.map V.ref)) := by rw [upd_ne nD2]; exact g2
            have pp' := paired_map (fun _ _ h => tU _ _ h) pp
            have b2' := ByAt.tups tU b2
            have w7 : (upd H7 dl (.dK kvs)) wl = some (.lst vs0) := by
              rw [upd_ne ndw.symm]
              exact s8 _ _ (sd _ _ ndw.symm w6)
            have p7 := PairsAt.tups ((tuL.trans (same_tups s8)).trans tU) p6
            have ha7 := tU _ _ (s8 _ _ haL)
            have gK7 := KdAt.tups ((same_tups s8).trans tU) gKL
            generalize upd H7 dl (.dK kvs) = H8 at SU g2' pp' b2' w7 p7 ha7 gK7 ⊢
            refine ⟨D2, pa, kvs2, rfl, SqL.of g2', paired_map (fun _ _ h => SqT.of h) pp', fun dl2 hdl2 => ?_⟩
            have em : mergeK [] kvs2 = kvs2 := merge_by b2' (.nil : ByAt H8 [] []) (by
              show (names (List.map (fun q => (q.1, q.2.put (one x ((Kd.app a1 a2))))) b)).Nodup
              have e : names (List.map (fun q => (q.1, q.2.put (one x ((Kd.app a1 a2))))) b) = names b := by
                unfold names
                rw [List.map_map]
                rfl
              rw [e]
              exact ndb)
            rw [em]
            have s9 : Same H8 (upd H8 dl2 (.dK kvs2)) := same_new hdl2
            have ndl2 : H dl2 = none := SU.free hdl2
            have S9 := SU.trans s9
            have b9 := ByAt.tups (same_tups s9) b2'
            have gK9 := KdAt.tups (same_tups s9) gK7
            have w9 := s9 _ _ w7
            have p9 := PairsAt.tups (same_tups s9) p7
            have d9 : (upd H8 dl2 (.dK kvs2)) dl2 = some (.dK kvs2) := upd_same
            have ha9 := s9 _ _ ha7
            generalize upd H8 dl2 (.dK kvs2) = H9 at S9 b9 gK9 w9 p9 d9 ha9 ⊢
            have hno : valV kvs2 (.inr x) = none := by
              rcases b9.get x with ⟨e3, _⟩ | ⟨_, _, _, e4, _⟩
              · exact e3
              · have e5 : L3.lk (putAll b (one x ((Kd.app a1 a2)))) x = some _ := e4
                rw [lk_putAll, hxb] at e5
                cases e5
            refine ⟨_, rfl, _, rfl, _, rfl, _, _, _, _, rfl, rfl, SqT.of ha9, rfl, dl2, _, rfl, DPut.k (k := .inr x) d9 (size_line (by have z1 := byAt_len b9; have z2 := us.lenB; rw [List.length_map] at z1; omega)), ?_⟩
            rw [putK_new _ hno]
            have tD : ∀ zz, Tups H9 (upd H9 dl2 (.dK zz)) := fun zz => Tups.put d9 (by intro xs z; cases z)
            have ndw2 : wl ≠ dl2 := fun e => by rw [e, d9] at w9; cases w9
            refine ⟨m', lt, _, ls, vs0, f', _, _, dl2, wl, _, _, rfl, fun b' o' e' => ?_, upd_same, ndl2, ?_, nw, Paired.snoc (ByAt.tups (tD _) b9) ⟨rfl, KdAt.tups (tD _) gK9⟩, PairsAt.tups (tD _) p9, paired_map (fun _ _ h => Like.bind hxb h) lk, us', Stk.bind hxb str, w⟩
            · rw [upd_ne (ne_of_none e' ndl2)]
              exact S9 _ _ e'
            · rw [upd_ne ndw2]
              exact w9
        | con z =>
          have eo := turn.dead eac (fun x k hb => by rcases hb with ⟨e1, _⟩ | ⟨_, e1, _⟩ <;> cases e1) (fun a1 a2 c1 c2 e => by first | (cases e.1; done) | (cases e.2; done))
          subst eo
          obtain ⟨ta0, ua0, za0, eta0, ha0, _⟩ := id gA
          refine ⟨_, rfl, _, _, _, _, eta0, rfl, SqT.of ha0, rfl, rfl, _, rfl, ?_⟩
          refine iT (by decide +kernel) ?_
          refine ⟨_, rfl, _, rfl, slz rfl, fun qq hqq => ⟨qq, _, rfl, SqT.of upd_same, rfl, _, _, rfl, _, _, rfl, rfl, ?_⟩⟩
          have sS : Same H4 (upd H4 qq (.tup [vc, va])) := same_new hqq
          have S4 := S4.trans sS
          have d4 := sS _ _ d4
          have w4' := sS _ _ w4'
          have b4 := ByAt.tups (same_tups sS) b4
          have p4 := PairsAt.tups (same_tups sS) p4
          have gA := KdAt.tups (same_tups sS) gA
          have gC := KdAt.tups (same_tups sS) gC
          generalize upd H4 qq (.tup [vc, va]) = H5 at S4 d4 w4' b4 p4 gA gC ⊢
          obtain ⟨tc1, rfl, hc1⟩ := id gC
          refine ⟨_, rfl, _, _, _, _, rfl, rfl, SqT.of hc1, rfl, rfl, _, rfl, iF tg_cv ?_⟩
          refine ⟨_, rfl, _, _, _, _, rfl, rfl, SqT.of hc1, rfl, rfl, _, rfl, iF tg_ca ?_⟩
          exact k _ _ S4 rfl
        | app c1 c2 =>
          obtain ⟨m', p1, p2, lt, ⟨e11, e12⟩, ⟨e21, e22⟩, stk', w⟩ := turn.parts eac
          obtain ⟨ta0, ua0, za0, eta0, ha0, _⟩ := id gA
          refine ⟨_, rfl, _, _, _, _, eta0, rfl, SqT.of ha0, rfl, rfl, _, rfl, ?_⟩
          refine iT (by decide +kernel) ?_
          refine ⟨_, rfl, _, rfl, slz rfl, fun qq hqq => ⟨qq, _, rfl, SqT.of upd_same, rfl, _, _, rfl, _, _, rfl, rfl, ?_⟩⟩
          have sS : Same H4 (upd H4 qq (.tup [vc, va])) := same_new hqq
          have S4 := S4.trans sS
          have d4 := sS _ _ d4
          have w4' := sS _ _ w4'
          have b4 := ByAt.tups (same_tups sS) b4
          have p4 := PairsAt.tups (same_tups sS) p4
          have gA := KdAt.tups (same_tups sS) gA
          have gC := KdAt.tups (same_tups sS) gC
          generalize upd H4 qq (.tup [vc, va]) = H5 at S4 d4 w4' b4 p4 gA gC ⊢
          obtain ⟨tc1, uc, zc, rfl, hc1, huc, hzc⟩ := id gC
          obtain ⟨ta1, ua, za, eta1, ha1, hua, hza⟩ := id gA
          cases eta1
          refine ⟨_, rfl, _, _, _, _, rfl, rfl, SqT.of hc1, rfl, rfl, _, rfl, iF tg_av ?_⟩
          refine ⟨_, rfl, _, _, _, _, rfl, rfl, SqT.of hc1, rfl, rfl, _, rfl, iT tg_aa ?_⟩
          refine ⟨_, rfl, _, _, _, _, rfl, rfl, SqT.of ha1, rfl, rfl, _, rfl, iT tg_aa ?_⟩
          refine ⟨_, rfl, _, _, _, _, rfl, rfl, SqT.of hc1, rfl, _, rfl, _, _, _, _, rfl, rfl, SqT.of ha1, rfl, slz rfl, fun q1 hq1 => ?_⟩
          have n1 : Same H5 (upd H5 q1 (.tup [uc, ua])) := same_new hq1
          have hc2 := n1 _ _ hc1
          have ha2 := n1 _ _ ha1
          have d5 := n1 _ _ d4
          have w5 := n1 _ _ w4'
          have b5 := ByAt.tups (same_tups n1) b4
          have p5 := PairsAt.tups (same_tups n1) p4
          have S5 := S4.trans n1
          have g1 : PairAt (upd H5 q1 (.tup [uc, ua])) (.ref q1) (c1, a1) := ⟨q1, uc, ua, rfl, upd_same, KdAt.tups (same_tups n1) huc, KdAt.tups (same_tups n1) hua⟩
          have hzc5 := KdAt.tups (same_tups n1) hzc
          have hza5 := KdAt.tups (same_tups n1) hza
          generalize upd H5 q1 (.tup [uc, ua]) = H6 at hc2 ha2 d5 w5 b5 p5 S5 g1 hzc5 hza5 ⊢
          refine ⟨_, rfl, _, _, _, _, rfl, rfl, SqT.of hc2, rfl, _, rfl, _, _, _, _, rfl, rfl, SqT.of ha2, rfl, slz rfl, fun q2 hq2 => ?_⟩
          have n2 : Same H6 (upd H6 q2 (.tup [zc, za])) := same_new hq2
          have d6 := n2 _ _ d5
          have w6 := n2 _ _ w5
          have b6 := ByAt.tups (same_tups n2) b5
          have p6 := PairsAt.tups (same_tups n2) p5
          have S6 := S5.trans n2
          have g1' := PairAt.tups (same_tups n2) g1
          have g2 : PairAt (upd H6 q2 (.tup [zc, za])) (.ref q2) (c2, a2) := ⟨q2, zc, za, rfl, upd_same, KdAt.tups (same_tups n2) hzc5, KdAt.tups (same_tups n2) hza5⟩
          generalize upd H6 q2 (.tup [zc, za]) = H7 at d6 w6 b6 p6 S6 g1' g2 ⊢
          refine ⟨slz rfl, fun l1 hl1 => ?_⟩
          have n3 : Same H7 (upd H7 l1 (.lst [.ref q1, .ref q2])) := same_new hl1
          refine ⟨_, rfl, l1, wl, [.ref q1, .ref q2], vs0, rfl, rfl, upd_same, n3 _ _ w6, Nat.le_of_lt (size_line (by simp only [List.length_cons, List.length_nil]; omega)), fun wl2 hwl2 => ?_⟩
          have n4 : Same (upd H7 l1 (.lst [.ref q1, .ref q2])) (upd (upd H7 l1 (.lst [.ref q1, .ref q2])) wl2 (.lst ([.ref q1, .ref q2] ++ vs0))) := same_new hwl2
          have n34 := n3.trans n4
          have fA := Kd.fit_app bigA.1
          have fC := Kd.fit_app bigC.1
          obtain ⟨jA, ejA, fA1, fA2⟩ := fA
          obtain ⟨jC, ejC, fC1, fC2⟩ := fC
          have cl := us.cl
          refine ⟨m', lt, _, _, _, f, b, kvs, dl, wl2, _, _, rfl, S6.trans n34, n34 _ _ d6, nd, upd_same, (S6.trans n3).free hwl2, ByAt.tups (same_tups n34) b6, .cons (PairAt.tups (same_tups n34) g1') (.cons (PairAt.tups (same_tups n34) g2) (PairsAt.tups (same_tups n34) p6)), .cons ⟨?_, ?_, Kd.fit_mono (by omega) fC1, Kd.fit_mono (by omega) fA1⟩ (.cons ⟨?_, ?_, Kd.fit_mono (by omega) fC2, Kd.fit_mono (by omega) fA2⟩ lk), us, stk', w⟩
          · rw [e11]
            exact (us.cl.app hC).1
          · rw [e12]
            exact (us.cl.app hA).1
          · rw [e21]
            exact (us.cl.app hC).2
          · rw [e22]
            exact (us.cl.app hA).2
end
end L3

namespace L3
open PySem L2
def vmK (ms : List (Str × Str)) : List (Key × V) := ms.map fun m => (.inr m.1, .str m.2)
theorem vm_get {x : Str} {v : V} : ∀ {ms : List (Str × Str)}, valV (vmK ms) (.inr x) = some v → ∃ z, (x, z) ∈ ms ∧ v = .str z
  | [], h => nomatch h
  | m :: r, h => by
    have h' : valV ((.inr m.1, .str m.2) :: vmK r) (.inr x) = some v := h
    by_cases e : m.1 = x
    · rw [valV_pos (by rw [e])] at h'
      cases h'
      exact ⟨m.2, by rw [← e]; exact List.mem_cons_self, rfl⟩
    · rw [valV_neg (fun z => e (Sum.inr.inj z))] at h'
      obtain ⟨z, h1, h2⟩ := vm_get h'
      exact ⟨z, List.mem_cons_of_mem _ h1, h2⟩
theorem vm_none {x : Str} : ∀ {ms : List (Str × Str)}, valV (vmK ms) (.inr x) = none → ∀ m ∈ ms, ¬ m.1 = x
  | [], _ => fun _ h => nomatch h
  | m :: r, h => by
    have h' : valV ((.inr m.1, .str m.2) :: vmK r) (.inr x) = none := h
    by_cases e : m.1 = x
    · rw [valV_pos (by rw [e])] at h'
      cases h'
    · rw [valV_neg (fun z => e (Sum.inr.inj z))] at h'
      intro q hq
      rcases List.mem_cons.mp hq with e2 | hq
      · rw [e2]; exact e
      · exact vm_none h' q hq
/-- names for names, as s puts them -/
structure VM (s : By) (ws : List Str) (ms : List (Str × Str)) : Prop where
  nd : (ms.map Prod.fst).Nodup
  at_ : ∀ m ∈ ms, (Kd.var m.1).put s = .var m.2 ∧ m.1 ∈ ws
theorem VM.nil (s : By) (ws : List Str) : VM s ws [] := ⟨List.nodup_nil, fun _ h => nomatch h⟩
theorem VM.len {s : By} {ws : List Str} {ms : List (Str × Str)} (h : VM s ws ms) : ms.length ≤ ws.length := by
  have := len_le h.nd (ws := ws) fun y hy => by
    obtain ⟨m, hm, e⟩ := List.mem_map.mp hy
    rw [← e]
    exact (h.at_ m hm).2
  rw [List.length_map] at this
  exact this
theorem VM.put {s : By} {ws : List Str} {ms : List (Str × Str)} (h : VM s ws ms) {x z : Str} (hn : valV (vmK ms) (.inr x) = none) (e : (Kd.var x).put s = .var z) (hx : x ∈ ws) : VM s ws (ms ++ [(x, z)]) ∧ putK (vmK ms) (.inr x) (.str z) = vmK (ms ++ [(x, z)]) := by
  refine ⟨⟨?_, fun m hm => ?_⟩, ?_⟩
  · rw [List.map_append, List.nodup_append]
    refine ⟨h.nd, by simp, fun a ha c hc => ?_⟩
    obtain ⟨m, hm, e1⟩ := List.mem_map.mp ha
    have e2 : c = x := List.mem_singleton.mp hc
    rw [← e1, e2]
    exact vm_none hn m hm
  · rcases List.mem_append.mp hm with q | q
    · exact h.at_ m q
    · rw [List.mem_singleton.mp q]; exact ⟨e, hx⟩
  · rw [putK_new _ hn]
    unfold vmK
    rw [List.map_append]
    rfl
/-- the same but for names: t makes the second one of the first one, s the first one of the second one -/
structure RR (s t : By) (ws : List Str) (p : Kd × Kd) : Prop where
  to : p.1.put t = p.2
  bk : p.2.put s = p.1
  o1 : Kd.of ws p.1
  o2 : Kd.of ws p.2
  f1 : p.1.fit 20
  f2 : p.2.fit 20
def RStk : List (Kd × Kd) → Prop
  | [] => True
  | p :: r => (∃ j, p.1.fit j ∧ r.length + j ≤ 20) ∧ RStk r
theorem RStk.len : ∀ {l : List (Kd × Kd)}, RStk l → l.length ≤ 21
  | [], _ => Nat.zero_le _
  | _ :: r, ⟨⟨j, _, h⟩, _⟩ => by rw [List.length_cons]; omega
def psz : List (Kd × Kd) → Nat
  | [] => 0
  | p :: r => p.1.size + psz r
section
variable {P : Program} {w : World} {K : PySem.W.Frag} {mg : Str → Option Value} {base : Heap}
abbrev s__law_renamed : Stmt := topS 17
abbrev N__law_renamed : List Str := ["_law_kinds", "_law_others", "_law_by", "_law_back", "_law_one", "_law_other", "_law_waiting", "_law_a", "_law_b"]
theorem sc__law_renamed : FnScope N__law_renamed ["_law_kinds", "_law_others"] (defScope s__law_renamed) := ⟨rfl, rfl, rfl, by decide +kernel, rfl, by decide +kernel, by decide +kernel⟩
def spRen (K : PySem.W.Frag) : Sp := fun vs H Q _ => ∃ (l1 l2 : Addr) (xs ys : List V) (ks ls : List Kd) (s t : By) (ws : List Str), vs = [.ref l1, .ref l2] ∧ SqL K H l1 xs ∧ SqL K H l2 ys ∧ KdsAt H xs ks ∧ KdsAt H ys ls ∧ ws.length ≤ 4 ∧ ks.length = ls.length ∧ (∀ (i : Nat) (k l : Kd), ks[i]? = some k → ls[i]? = some l → RR s t ws (k, l)) ∧
  ∀ (H' : Hp), Same H H' → Q (.bl true) H'
def RInv (l1 l2 d1 d2 : Addr) (s t : By) (ws : List Str) (H : Hp) (v4 v5 : Option V) (m : Nat) (σ : St) (H' : Hp) : Prop :=
  ∃ (l : List (Kd × Kd)) (vs : List V) (m1 m2 : List (Str × Str)) (wl : Addr) (v7 v8 : Option V), σ = [some (.ref l1), some (.ref l2), some (.ref d1), some (.ref d2), v4, v5, some (.ref wl), v7, v8] ∧ Same H H' ∧ H' d1 = some (.dK (vmK m1)) ∧ H' d2 = some (.dK (vmK m2)) ∧ H' wl = some (.lst vs) ∧ H wl = none ∧ PairsAt H' vs l.reverse ∧
    VM t ws m1 ∧ VM s ws m2 ∧ (∀ p ∈ l, RR s t ws p) ∧ RStk l ∧ m = psz l
theorem ok_ren {g : Addr} {fd : FuncData} (F : Fun K "_law_renamed" "_law_renamed" s__law_renamed g fd) (B : Bl mg) :
    FnOk P w K mg base CX0 1 g fd ["_law_kinds", "_law_others"] (spRen K) := by
  refine F.ok sc__law_renamed (fun vs H Q E h => ?_) (fun cdv A outer s0 H vs Q E hr h => ?_)
  · obtain ⟨l1, l2, xs, ys, ks, ls, s, t, ws, rfl, _⟩ := h
    rfl
  · obtain ⟨l1, l2, xs, ys, ks, ls, s, t, ws, rfl, hl1, hl2, hks, hls, w4, hlen, rr, k⟩ := h
    have hu := hu_of hr
    have hu64 := hr.units
    refine ⟨_, (pss_cons (ps_par (i := 2) (j := 3) (by rfl) sc__law_renamed.nd rfl rfl (by decide) rfl rfl (pa_cons pe_dnewK (pa_cons pe_dnewK pa_nil)) (by rfl))
  (pss_cons (ps_for PassesOwn.never rfl (pi_zip (by rfl) B.zip (pa_cons (pv 0) (pa_cons (pv 1) pa_nil))) (pg_tup (by rfl) (pgs_cons (pg_name (i := 4) sc__law_renamed.nd rfl (Or.inl rfl)) (pgs_cons (pg_name (i := 5) sc__law_renamed.nd rfl (Or.inl rfl)) pgs_nil)))
  (pss_cons (ps_set (i := 6) sc__law_renamed.nd rfl (Or.inl rfl) (pe_lst (pa_cons (pe_tup (pa_cons (pv 4) (pa_cons (pv 5) pa_nil))) pa_nil)))
  (pss_one (ps_while PassesOwn.never (pt_cmpR (op_neD hu64) (pv 6) (pe_lst pa_nil) (nomark _))
  (pss_cons (ps_asg (pe_bm0 PySem.F.plainAttrs_list PySem.F.slot_list_pop PySem.F.type_list_pop mt_pop (pv 6)) (pg_tup (by rfl) (pgs_cons (pg_name (i := 7) sc__law_renamed.nd rfl (Or.inl rfl)) (pgs_cons (pg_name (i := 8) sc__law_renamed.nd rfl (Or.inl rfl)) pgs_nil))))
  (pss_cons (ps_if (PW.pt (pw_or (pt_cmpR op_ne (pe_ix ix_tup (pv 7) pe_int (fun _ _ => rfl)) (pe_ix ix_tup (pv 8) pe_int (fun _ _ => rfl)) (nomark _)) (pw_or1 (PW.pt (pw_and (pt_cmpR op_eq (pe_ix ix_tup (pv 7) pe_int (fun _ _ => rfl)) pe_str (nomark _)) (pw_and1 (pt_cmpR (op_neD hu64) (pv 7) (pv 8) (nomark _))))))))
  (pss_one (ps_ret pe_bl))
  pss_nil)
  (pss_cons (ps_if (pt_cmpR op_eq (pe_ix ix_tup (pv 7) pe_int (fun _ _ => rfl)) pe_str (nomark _))
  (pss_one (ps_expr (pe_bm PySem.F.plainAttrs_list PySem.F.slot_list_extend PySem.F.type_list_extend mt_extend (pv 6) (pa_cons (pe_lst (pa_cons (pe_tup (pa_cons (pe_ix ix_tup (pv 7) pe_int (fun _ _ => rfl)) (pa_cons (pe_ix ix_tup (pv 8) pe_int (fun _ _ => rfl)) pa_nil))) (pa_cons (pe_tup (pa_cons (pe_ix ix_tup (pv 7) pe_int (fun _ _ => rfl)) (pa_cons (pe_ix ix_tup (pv 8) pe_int (fun _ _ => rfl)) pa_nil))) pa_nil))) pa_nil))))
  pss_nil)
  (pss_one (ps_if (pt_cmpR op_eq (pe_ix ix_tup (pv 7) pe_int (fun _ _ => rfl)) pe_str (nomark _))
  (pss_one (ps_if (PW.pt (pw_or (pt_cmpR op_ne (pe_dsetd (pv 2) (pe_ix ix_tup (pv 7) pe_int (fun _ _ => rfl)) (pe_ix ix_tup (pv 8) pe_int (fun _ _ => rfl)) ⟨rfl, rfl, rfl, rfl⟩) (pe_ix ix_tup (pv 8) pe_int (fun _ _ => rfl)) (nomark _)) (pw_or1 (pt_cmpR op_ne (pe_dsetd (pv 3) (pe_ix ix_tup (pv 8) pe_int (fun _ _ => rfl)) (pe_ix ix_tup (pv 7) pe_int (fun _ _ => rfl)) ⟨rfl, rfl, rfl, rfl⟩) (pe_ix ix_tup (pv 7) pe_int (fun _ _ => rfl)) (nomark _)))))
  (pss_one (ps_ret pe_bl))
  pss_nil))
  pss_nil)))))))))
  (pss_one (ps_ret pe_bl)))), ?_⟩
    refine fun d1 hd1 d2 hd2 => ?_
    have s1 : Same H (upd H d1 (.dK [])) := same_new hd1
    have s2 : Same (upd H d1 (.dK [])) (upd (upd H d1 (.dK [])) d2 (.dK [])) := same_new hd2
    have s12 := s1.trans s2
    have nd2 : H d2 = none := s1.free hd2
    have nd12 : d1 ≠ d2 := ne_of_none upd_same hd2
    refine ⟨_, _, rfl, ?_⟩
    have lx : xs.length = ys.length := by rw [Paired.length hks, Paired.length hls]; exact hlen
    refine ⟨_, rfl, _, rfl, l1, l2, xs, ys, rfl, s12.seq hl1, s12.seq hl2, for_it (walk_zip (n := xs.length) (by omega)) (fun i σ H' => Same H H' ∧ ∃ (m1 m2 : List (Str × Str)) (v4 v5 v6 v7 v8 : Option V), σ = [some (.ref l1), some (.ref l2), some (.ref d1), some (.ref d2), v4, v5, v6, v7, v8] ∧ H' d1 = some (.dK (vmK m1)) ∧ H' d2 = some (.dK (vmK m2)) ∧ VM t ws m1 ∧ VM s ws m2)
      ⟨s12, [], [], none, none, none, none, none, rfl, s2 _ _ upd_same, upd_same, .nil _ _, .nil _ _⟩ (fun i σ H' _ p => ⟨p.1.seq hl1, p.1.seq hl2⟩) ?_ ?_⟩
    · rintro i v σ H1 H2 hi ⟨s3, m1, m2, v4, v5, v6, v7, v8, rfl, g1, g2, V1, V2⟩ ⟨T, x, y, rfl, hT, rfl, ex, ey⟩
      obtain ⟨kx, ekx, fx⟩ := paired_get hks ex
      obtain ⟨ky, eky, fy⟩ := paired_get hls ey
      have r0 := rr i kx ky ekx eky
      have s4 : Same H1 (upd H1 T (.tup [x, y])) := same_new hT
      refine ⟨T, _, rfl, SqT.of upd_same, rfl, _, _, rfl, _, _, rfl, rfl, ?_⟩
      have S4 := s3.trans s4
      have g14 := s4 _ _ g1
      have g24 := s4 _ _ g2
      have fx4 := KdAt.tups (same_tups S4) fx
      have fy4 := KdAt.tups (same_tups S4) fy
      generalize upd H1 T (.tup [x, y]) = H2 at S4 g14 g24 fx4 fy4 ⊢
      refine ⟨_, rfl, _, rfl, slz rfl, fun q hq => ⟨slz rfl, fun wl hwl => ?_⟩⟩
      have s5 : Same H2 (upd H2 q (.tup [x, y])) := same_new hq
      have s6 : Same (upd H2 q (.tup [x, y])) (upd (upd H2 q (.tup [x, y])) wl (.lst [.ref q])) := same_new hwl
      have s56 := s5.trans s6
      refine ⟨RInv l1 l2 d1 d2 s t ws H (some x) (some y), ⟨_, [(kx, ky)], [.ref q], m1, m2, wl, v7, v8, rfl, S4.trans s56, s56 _ _ g14, s56 _ _ g24, upd_same, (S4.trans s5).free hwl, .cons ⟨q, x, y, rfl, s6 _ _ upd_same, KdAt.tups (same_tups s56) fx4, KdAt.tups (same_tups s56) fy4⟩ .nil, V1, V2, (fun p hp => by rw [List.mem_singleton.mp hp]; exact r0), ⟨⟨20, r0.f1, Nat.le_refl _⟩, trivial⟩, rfl⟩, ?_⟩
      clear s3 g1 g2 V1 V2 hT S4 g14 g24 fx4 fy4 s5 s6 s56 hq hwl
      rintro m σ H3 ⟨l, vs, m1, m2, wl, v7, v8, rfl, S3, g1, g2, gw, nw, gp, V1, V2, rl, rs, rfl⟩
      refine ⟨_, rfl, slz rfl, fun e he => ?_⟩
      have s5 : Same H3 (upd H3 e (.lst [])) := same_new he
      refine ⟨_, _, .lst (SqL.of (s5 _ _ gw)) (PairsAt.dp (PairsAt.tups (same_tups s5) gp)), .lst (SqL.of upd_same) .nil, shaped_pairs (fun p hp => ⟨Kd.fit_mono (by decide) (rl p (List.mem_reverse.mp hp)).f1, Kd.fit_mono (by decide) (rl p (List.mem_reverse.mp hp)).f2⟩), shaped_nil, _, rfl, ?_⟩
      rw [pairs_ne]
      have S5 := S3.trans s5
      have g15 := s5 _ _ g1
      have g25 := s5 _ _ g2
      have gw5 := s5 _ _ gw
      have gp5 := PairsAt.tups (same_tups s5) gp
      generalize upd H3 e (.lst []) = H4 at S5 g15 g25 gw5 gp5 ⊢
      clear S3 g1 g2 gw gp s5 he
      cases l with
      | nil =>
        refine iteF ?_
        exact ⟨S5, m1, m2, _, _, _, _, _, rfl, g15, g25, V1, V2⟩
      | cons p r =>
        have hne : (!(p :: r).reverse.isEmpty) = true := by
          rw [List.reverse_cons]
          cases r.reverse <;> rfl
        refine iT hne ?_
        have rs' := rs
        obtain ⟨⟨j, fj, hj⟩, rsr⟩ := rs'
        have ln := rs.len
        rw [List.reverse_cons] at gp5
        obtain ⟨vs0, v0, rfl, g1, Tp, u, z, rfl, hT, gu, gz⟩ := paired_last gp5
        have lvs : vs0.length ≤ 20 := by
          rw [Paired.length g1, List.length_reverse]
          rw [List.length_cons] at ln
          omega
        refine ⟨fun σ' H' => ∃ m', m' < psz (p :: r) ∧ RInv l1 l2 d1 d2 s t ws H (some x) (some y) m' σ' H', fun σ' H' h => h, ?_⟩
        refine ⟨_, rfl, .inl ⟨rfl, _, SqL.of gw5⟩, wl, vs0 ++ [V.ref Tp], V.ref Tp, rfl, rfl, gw5, by simp, ?_⟩
        rw [List.dropLast_concat]
        have tu3 : Tups H4 (upd H4 wl (.lst vs0)) := Tups.put gw5 (by intro xs z; cases z)
        have S6 : Same H (upd H4 wl (.lst vs0)) := fun b o zz => by
          rw [upd_ne (ne_of_none zz nw)]
          exact S5 _ _ zz
        have n1 : d1 ≠ wl := fun e => by rw [e, gw5] at g15; cases g15
        have n2 : d2 ≠ wl := fun e => by rw [e, gw5] at g25; cases g25
        have g16 : (upd H4 wl (.lst vs0)) d1 = some (.dK (vmK m1)) := by rw [upd_ne n1]; exact g15
        have g26 : (upd H4 wl (.lst vs0)) d2 = some (.dK (vmK m2)) := by rw [upd_ne n2]; exact g25
        have w6 : (upd H4 wl (.lst vs0)) wl = some (.lst vs0) := upd_same
        have k1 := PairsAt.tups tu3 g1
        have ku := KdAt.tups tu3 gu
        have kz := KdAt.tups tu3 gz
        refine ⟨Tp, _, rfl, SqT.of (tu3 _ _ hT), rfl, _, _, rfl, _, _, rfl, rfl, ?_⟩
        generalize upd H4 wl (.lst vs0) = H5 at S6 g16 g26 w6 k1 ku kz ⊢
        clear tu3 gw5 g15 g25 gp5 g1 gu gz hT S5
        have rp := rl p List.mem_cons_self
        have rl' : ∀ q ∈ r, RR s t ws q := fun q hq => rl q (List.mem_cons_of_mem _ hq)
        obtain ⟨a, c⟩ := p
        have to' : a.put t = c := rp.to
        have bk' : c.put s = a := rp.bk
        have o1' : Kd.of ws a := rp.o1
        have o2' : Kd.of ws c := rp.o2
        have fa' : a.fit 20 := rp.f1
        have fc' : c.fit 20 := rp.f2
        have pz : psz ((a, c) :: r) = a.size + psz r := rfl
        have ap := a.size_pos
        cases a with
        | con n =>
          have ec : Kd.con n = c := to'
          subst ec
          obtain ⟨pa, rfl, ha⟩ := id ku
          obtain ⟨pc, rfl, hc⟩ := id kz
          refine ⟨_, rfl, _, _, _, _, rfl, rfl, SqT.of ha, rfl, _, rfl, _, _, _, _, rfl, rfl, SqT.of hc, rfl, rfl, _, rfl, iF (by decide +kernel) ?_⟩
          refine ⟨_, rfl, _, _, _, _, rfl, rfl, SqT.of ha, rfl, rfl, _, rfl, iT tg_cc ?_⟩
          refine ⟨_, rfl, _, rfl, _, _, ku.dp, kz.dp, Kd.shaped fa' (by decide), Kd.shaped fc' (by decide), _, rfl, ?_⟩
          rw [Kd.eqv]
          refine iF (by rw [decide_eq_true rfl]; rfl) ?_
          refine ⟨_, rfl, _, _, _, _, rfl, rfl, SqT.of ha, rfl, rfl, _, rfl, iF tg_ca ?_⟩
          refine ⟨_, rfl, _, _, _, _, rfl, rfl, SqT.of ha, rfl, rfl, _, rfl, iF tg_cv ?_⟩
          exact ⟨psz r, by rw [pz]; omega, r, vs0, m1, m2, wl, _, _, rfl, S6, g16, g26, w6, nw, k1, V1, V2, rl', rsr, rfl⟩
        | app a1 a2 =>
          have ec : Kd.app (a1.put t) (a2.put t) = c := to'
          subst ec
          have bk2 : Kd.app ((a1.put t).put s) ((a2.put t).put s) = .app a1 a2 := bk'
          obtain ⟨pa, ua, za, rfl, ha, hua, hza⟩ := id ku
          obtain ⟨pc, uc, zc, rfl, hc, huc, hzc⟩ := id kz
          refine ⟨_, rfl, _, _, _, _, rfl, rfl, SqT.of ha, rfl, _, rfl, _, _, _, _, rfl, rfl, SqT.of hc, rfl, rfl, _, rfl, iF (by decide +kernel) ?_⟩
          refine ⟨_, rfl, _, _, _, _, rfl, rfl, SqT.of ha, rfl, rfl, _, rfl, iF tg_ac (iteF ?_)⟩
          refine ⟨_, rfl, _, _, _, _, rfl, rfl, SqT.of ha, rfl, rfl, _, rfl, iT tg_aa ?_⟩
          refine ⟨_, rfl, .inl ⟨rfl, _, SqL.of w6⟩, _, rfl, _, _, _, _, rfl, rfl, SqT.of ha, rfl, _, rfl, _, _, _, _, rfl, rfl, SqT.of hc, rfl, slz rfl, fun q1 hq1 => ?_⟩
          have n1 : Same H5 (upd H5 q1 (.tup [ua, uc])) := same_new hq1
          have ha1 := n1 _ _ ha
          have hc1 := n1 _ _ hc
          refine ⟨_, rfl, _, _, _, _, rfl, rfl, SqT.of ha1, rfl, _, rfl, _, _, _, _, rfl, rfl, SqT.of hc1, rfl, slz rfl, fun q2 hq2 => ?_⟩
          have n2 : Same (upd H5 q1 (.tup [ua, uc])) (upd (upd H5 q1 (.tup [ua, uc])) q2 (.tup [za, zc])) := same_new hq2
          have n12 := n1.trans n2
          have gq1 := n2 _ _ (upd_same (H := H5) (a := q1) (o := .tup [ua, uc]))
          have gq2 : (upd (upd H5 q1 (.tup [ua, uc])) q2 (.tup [za, zc])) q2 = some (.tup [za, zc]) := upd_same
          have S7 := S6.trans n12
          have ha27 := n12 _ _ ha
          have g17 := n12 _ _ g16
          have g27 := n12 _ _ g26
          have w7 := n12 _ _ w6
          have k7 := PairsAt.tups (same_tups n12) k1
          have hua7 := KdAt.tups (same_tups n12) hua
          have hza7 := KdAt.tups (same_tups n12) hza
          have huc7 := KdAt.tups (same_tups n12) huc
          have hzc7 := KdAt.tups (same_tups n12) hzc
          generalize upd (upd H5 q1 (.tup [ua, uc])) q2 (.tup [za, zc]) = H7 at gq1 gq2 S7 ha27 g17 g27 w7 k7 hua7 hza7 huc7 hzc7 ⊢
          refine ⟨slz rfl, fun le hle => ?_⟩
          have n3 : Same H7 (upd H7 le (.lst [.ref q1, .ref q2])) := same_new hle
          have w8 := n3 _ _ w7
          refine ⟨wl, le, vs0, [.ref q1, .ref q2], rfl, rfl, w8, upd_same, Nat.le_of_lt (size_line (by simp only [List.length_cons, List.length_nil]; omega)), ?_⟩
          have tu : Tups (upd H7 le (.lst [.ref q1, .ref q2])) (upd (upd H7 le (.lst [.ref q1, .ref q2])) wl (.lst (vs0 ++ [.ref q1, .ref q2]))) := Tups.put w8 (by intro xs z; cases z)
          have tu7 := (same_tups n3).trans tu
          obtain ⟨i', ej, f1, f2⟩ := Kd.fit_app fj
          obtain ⟨i1, e1', f11, f12⟩ := Kd.fit_app fa'
          obtain ⟨i2, e2', f21, f22⟩ := Kd.fit_app fc'
          refine ⟨_, rfl, _, _, _, _, rfl, rfl, SqT.of (tu7 _ _ ha27), rfl, rfl, _, rfl, iF tg_av ?_⟩
          refine ⟨psz ((a2, a2.put t) :: (a1, a1.put t) :: r), ?_, (a2, a2.put t) :: (a1, a1.put t) :: r, vs0 ++ [.ref q1, .ref q2], m1, m2, wl, _, _, rfl, fun b' o' e' => ?_, ?_, ?_, upd_same, nw, ?_, V1, V2, ?_, ⟨⟨i', f2, by rw [List.length_cons]; omega⟩, ⟨i', f1, by omega⟩, rsr⟩, rfl⟩
          · rw [pz]
            show a2.size + (a1.size + psz r) < a1.size + a2.size + 1 + psz r
            omega
          · rw [upd_ne (ne_of_none e' nw)]
            exact n3 _ _ (S7 _ _ e')
          · rw [upd_ne (fun e => by rw [e, w7] at g17; cases g17)]
            exact n3 _ _ g17
          · rw [upd_ne (fun e => by rw [e, w7] at g27; cases g27)]
            exact n3 _ _ g27
          · have q := Paired.snoc (Paired.snoc (PairsAt.tups tu7 k7) (⟨q1, ua, uc, rfl, tu7 _ _ gq1, KdAt.tups tu7 hua7, KdAt.tups tu7 huc7⟩ : PairAt _ (.ref q1) (a1, a1.put t))) (⟨q2, za, zc, rfl, tu7 _ _ gq2, KdAt.tups tu7 hza7, KdAt.tups tu7 hzc7⟩ : PairAt _ (.ref q2) (a2, a2.put t))
            rw [List.append_assoc] at q
            rw [List.reverse_cons, List.reverse_cons]
            exact q
          · intro q hq
            rcases List.mem_cons.mp hq with e | hq
            · rw [e]; exact ⟨rfl, (Kd.app.inj bk2).2, o1'.2, o2'.2, Kd.fit_mono (by omega) f12, Kd.fit_mono (by omega) f22⟩
            rcases List.mem_cons.mp hq with e | hq
            · rw [e]; exact ⟨rfl, (Kd.app.inj bk2).1, o1'.1, o2'.1, Kd.fit_mono (by omega) f11, Kd.fit_mono (by omega) f21⟩
            · exact rl' q hq
        | var n =>
          obtain ⟨n', rfl⟩ : ∃ n', c = .var n' := by
            cases c with
            | var z => exact ⟨z, rfl⟩
            | con z => cases bk'
            | app _ _ => cases bk'
          obtain ⟨pa, rfl, ha⟩ := id ku
          obtain ⟨pc, rfl, hc⟩ := id kz
          refine ⟨_, rfl, _, _, _, _, rfl, rfl, SqT.of ha, rfl, _, rfl, _, _, _, _, rfl, rfl, SqT.of hc, rfl, rfl, _, rfl, iF (by decide +kernel) ?_⟩
          refine ⟨_, rfl, _, _, _, _, rfl, rfl, SqT.of ha, rfl, rfl, _, rfl, iF tg_vc (iteF ?_)⟩
          refine ⟨_, rfl, _, _, _, _, rfl, rfl, SqT.of ha, rfl, rfl, _, rfl, iF tg_va ?_⟩
          refine ⟨_, rfl, _, _, _, _, rfl, rfl, SqT.of ha, rfl, rfl, _, rfl, iT tg_vv ?_⟩
          refine ⟨_, rfl, d1, rfl, .inl ⟨_, .inl g16⟩, _, rfl, _, _, _, _, rfl, rfl, SqT.of ha, rfl, _, rfl, _, _, _, _, rfl, rfl, SqT.of hc, rfl, vmK m1, .inr n, g16, rfl, size_line (by have z1 := V1.len; unfold vmK; rw [List.length_map]; omega), fun v hv => ?_, fun hn1 => ?_⟩
          · obtain ⟨z', hz, rfl⟩ := vm_get hv
            have e := (V1.at_ _ hz).1
            rw [to'] at e
            have e2 := Kd.var.inj e
            subst e2
            refine ⟨_, rfl, _, _, _, _, rfl, rfl, SqT.of hc, rfl, rfl, _, rfl, iF (by rw [decide_eq_true rfl]; rfl) ?_⟩
            refine ⟨_, rfl, d2, rfl, .inl ⟨_, .inl g26⟩, _, rfl, _, _, _, _, rfl, rfl, SqT.of hc, rfl, _, rfl, _, _, _, _, rfl, rfl, SqT.of ha, rfl, vmK m2, .inr n', g26, rfl, size_line (by have z1 := V2.len; unfold vmK; rw [List.length_map]; omega), fun v hv => ?_, fun hn => ?_⟩
            · obtain ⟨z', hz, rfl⟩ := vm_get hv
              have e := (V2.at_ _ hz).1
              rw [bk'] at e
              have e2 := Kd.var.inj e
              subst e2
              refine ⟨_, rfl, _, _, _, _, rfl, rfl, SqT.of ha, rfl, rfl, _, rfl, iF (by rw [decide_eq_true rfl]; rfl) ?_⟩
              exact ⟨psz r, by rw [pz]; omega, r, vs0, m1, m2, wl, _, _, rfl, S6, g16, g26, w6, nw, k1, V1, V2, rl', rsr, rfl⟩
            · obtain ⟨V2', ep⟩ := V2.put hn bk' o2'
              rw [ep]
              have tD : Tups _ (upd _ d2 (.dK (vmK (m2 ++ [(n', n)])))) := Tups.put g26 (by intro xs z; cases z)
              refine ⟨_, rfl, _, _, _, _, rfl, rfl, SqT.of (tD _ _ ha), rfl, rfl, _, rfl, iF (by rw [decide_eq_true rfl]; rfl) ?_⟩
              refine ⟨psz r, by rw [pz]; omega, r, vs0, m1, m2 ++ [(n', n)], wl, _, _, rfl, fun b' o' e' => ?_, ?_, upd_same, ?_, nw, PairsAt.tups tD k1, V1, V2', rl', rsr, rfl⟩
              · rw [upd_ne (ne_of_none e' nd2)]
                exact S6 _ _ e'
              · rw [upd_ne nd12]
                exact g16
              · rw [upd_ne (fun e => by rw [e, g26] at w6; cases w6)]
                exact w6
          · obtain ⟨V1', ep⟩ := V1.put hn1 to' o1'
            rw [ep]
            have tE : Tups H5 (upd H5 d1 (.dK (vmK (m1 ++ [(n, n')])))) := Tups.put g16 (by intro xs z; cases z)
            have ha7 := tE _ _ ha
            have hc7 := tE _ _ hc
            have k7 := PairsAt.tups tE k1
            have S7 : Same H (upd H5 d1 (.dK (vmK (m1 ++ [(n, n')])))) := fun b' o' e' => by
              rw [upd_ne (ne_of_none e' hd1)]
              exact S6 _ _ e'
            have g17 : (upd H5 d1 (.dK (vmK (m1 ++ [(n, n')])))) d1 = some (.dK (vmK (m1 ++ [(n, n')]))) := upd_same
            have g27 : (upd H5 d1 (.dK (vmK (m1 ++ [(n, n')])))) d2 = some (.dK (vmK m2)) := by
              rw [upd_ne nd12.symm]
              exact g26
            have w7 : (upd H5 d1 (.dK (vmK (m1 ++ [(n, n')])))) wl = some (.lst vs0) := by
              rw [upd_ne (fun e => by rw [e, g16] at w6; cases w6)]
              exact w6
            generalize upd H5 d1 (.dK (vmK (m1 ++ [(n, n')]))) = H7 at ha7 hc7 k7 S7 g17 g27 w7 ⊢
            refine ⟨_, rfl, _, _, _, _, rfl, rfl, SqT.of hc7, rfl, rfl, _, rfl, iF (by rw [decide_eq_true rfl]; rfl) ?_⟩
            refine ⟨_, rfl, d2, rfl, .inl ⟨_, .inl g27⟩, _, rfl, _, _, _, _, rfl, rfl, SqT.of hc7, rfl, _, rfl, _, _, _, _, rfl, rfl, SqT.of ha7, rfl, vmK m2, .inr n', g27, rfl, size_line (by have z1 := V2.len; unfold vmK; rw [List.length_map]; omega), fun v hv => ?_, fun hn => ?_⟩
            · obtain ⟨z', hz, rfl⟩ := vm_get hv
              have e := (V2.at_ _ hz).1
              rw [bk'] at e
              have e2 := Kd.var.inj e
              subst e2
              refine ⟨_, rfl, _, _, _, _, rfl, rfl, SqT.of ha7, rfl, rfl, _, rfl, iF (by rw [decide_eq_true rfl]; rfl) ?_⟩
              exact ⟨psz r, by rw [pz]; omega, r, vs0, (m1 ++ [(n, n')]), m2, wl, _, _, rfl, S7, g17, g27, w7, nw, k7, V1', V2, rl', rsr, rfl⟩
            · obtain ⟨V2', ep⟩ := V2.put hn bk' o2'
              rw [ep]
              have tD : Tups _ (upd _ d2 (.dK (vmK (m2 ++ [(n', n)])))) := Tups.put g27 (by intro xs z; cases z)
              refine ⟨_, rfl, _, _, _, _, rfl, rfl, SqT.of (tD _ _ ha7), rfl, rfl, _, rfl, iF (by rw [decide_eq_true rfl]; rfl) ?_⟩
              refine ⟨psz r, by rw [pz]; omega, r, vs0, (m1 ++ [(n, n')]), m2 ++ [(n', n)], wl, _, _, rfl, fun b' o' e' => ?_, ?_, upd_same, ?_, nw, PairsAt.tups tD k7, V1', V2', rl', rsr, rfl⟩
              · rw [upd_ne (ne_of_none e' nd2)]
                exact S7 _ _ e'
              · rw [upd_ne nd12]
                exact g17
              · rw [upd_ne (fun e => by rw [e, g27] at w7; cases w7)]
                exact w7
    · rintro σ H1 ⟨s3, _⟩
      exact k _ s3
end
end L3

namespace L3
open PySem L2
theorem cost_le2 {n : Nat} (h : n ≤ 2) : cost n ≤ 27 := by
  match n, h with
  | 0, _ => decide
  | 1, _ => decide
  | 2, _ => decide
theorem lsz_le2 {n : Nat} (h : n ≤ 2) : lsz n ≤ 13 := by
  match n, h with
  | 0, _ => decide
  | 1, _ => decide
  | 2, _ => decide
/-- a small kind -/
def Sm (ws : List Str) (k : Kd) : Prop := k.fit 2 ∧ k.size ≤ 5 ∧ Kd.of ws k
theorem byAt_setP {H : Hp} {p : Kd → Prop} {x : Str} {v : V} {k : Kd} (g : KdAt H v k) (f : p k) : ∀ {kvs : List (Key × V)} {b : By}, ByAt H kvs b → (∀ q ∈ b, p q.2) → ∃ b' : By, ByAt H (kvs.map fun kv => if kv.1 = (.inr x : Key) then (kv.1, v) else kv) b' ∧ ∀ q ∈ b', p q.2
  | _, _, .nil, _ => ⟨[], .nil, fun _ q => nomatch q⟩
  | e :: kvs, q :: b, .cons r t, h => by
    obtain ⟨b', h1, h2⟩ := byAt_setP g f t fun y hy => h y (List.mem_cons_of_mem _ hy)
    by_cases e' : e.1 = (.inr x : Key)
    · refine ⟨(q.1, k) :: b', ?_, fun y hy => ?_⟩
      · rw [List.map_cons, if_pos e']
        exact .cons ⟨r.1, g⟩ h1
      · rcases List.mem_cons.mp hy with z | z
        · rw [z]; exact f
        · exact h2 y z
    · refine ⟨q :: b', ?_, fun y hy => ?_⟩
      · rw [List.map_cons, if_neg e']
        exact .cons r h1
      · rcases List.mem_cons.mp hy with z | z
        · rw [z]; exact h q List.mem_cons_self
        · exact h2 y z
theorem byAt_putP {H : Hp} {p : Kd → Prop} {x : Str} {v : V} {k : Kd} (g : KdAt H v k) (f : p k) {kvs : List (Key × V)} {b : By} (hb : ByAt H kvs b) (hf : ∀ q ∈ b, p q.2) : ∃ b' : By, ByAt H (putK kvs (.inr x) v) b' ∧ ∀ q ∈ b', p q.2 := by
  unfold putK
  split
  · exact byAt_setP g f hb hf
  · refine ⟨b ++ [(x, k)], Paired.snoc hb ⟨rfl, g⟩, fun y hy => ?_⟩
    rcases List.mem_append.mp hy with z | z
    · exact hf y z
    · rw [List.mem_singleton.mp z]; exact f
theorem byAt_mergeP {H : Hp} {p : Kd → Prop} : ∀ {more : List (Key × V)} {qs : By} {kvs : List (Key × V)} {b : By}, ByAt H more qs → (∀ q ∈ qs, p q.2) → ByAt H kvs b → (∀ q ∈ b, p q.2) → ∃ b' : By, ByAt H (mergeK kvs more) b' ∧ ∀ q ∈ b', p q.2
  | _, _, kvs, b, .nil, _, hb, hf => ⟨b, hb, hf⟩
  | (key, v) :: more, (x, k) :: qs, kvs, b, .cons r t, h, hb, hf => by
    obtain ⟨e, g⟩ := r
    have e' : key = .inr x := e
    subst e'
    obtain ⟨b1, h1, h2⟩ := byAt_putP (x := x) g (h (x, k) List.mem_cons_self) hb hf
    exact byAt_mergeP (more := more) (qs := qs) t (fun y hy => h y (List.mem_cons_of_mem _ hy)) h1 h2
theorem size_put {b : By} {z : Nat} (hz : 1 ≤ z) (hb : ∀ q ∈ b, q.2.size ≤ z) : ∀ k : Kd, (k.put b).size ≤ k.size * z
  | .var x => by
    show ((lk b x).getD (.var x)).size ≤ 1 * z
    cases e : lk b x with
    | none => show 1 ≤ _; omega
    | some k => have h : k.size ≤ z := hb _ (lk_mem e); show k.size ≤ _; omega
  | .con _ => by show 1 ≤ 1 * z; omega
  | .app a c => by
    have h1 := size_put hz hb a
    have h2 := size_put hz hb c
    show (a.put b).size + (c.put b).size + 1 ≤ (a.size + c.size + 1) * z
    rw [Nat.add_mul, Nat.add_mul, Nat.one_mul]
    omega
theorem of_put {ws : List Str} {b : By} (hb : ∀ q ∈ b, Kd.of ws q.2) : ∀ {k : Kd}, Kd.of ws k → Kd.of ws (k.put b)
  | .var x, h => by
    show Kd.of ws ((lk b x).getD (.var x))
    cases e : lk b x with
    | none => exact h
    | some k => exact hb _ (lk_mem e)
  | .con _, _ => trivial
  | .app a c, h => ⟨of_put hb h.1, of_put hb h.2⟩
theorem Sm.put {ws : List Str} {b : By} {k : Kd} (h : Sm ws k) (hb : ∀ q ∈ b, Sm ws q.2) : Org ws (k.put b) := by
  refine ⟨Kd.fit_put (n := 2) (m := 2) (fun x u e => (hb _ (lk_mem e)).1) h.1, ?_, of_put (fun q hq => (hb q hq).2.2) h.2.2⟩
  have h1 := size_put (z := 5) (by decide) (fun q hq => (hb q hq).2.1) k
  have h2 := h.2.1
  have h3 : k.size * 5 ≤ 5 * 5 := Nat.mul_le_mul_right _ h2
  omega
section
variable {P : Program} {w : World} {K : PySem.W.Frag} {mg : Str → Option Value} {base : Heap}
def spLs (K : PySem.W.Frag) : Sp := fun vs H Q E => ∃ n, n ≤ 2 ∧ spLK K n vs H Q E
theorem fn_ls {k : Nat} {f : Addr} {fd : FuncData} {ps : List Str} (h : ∀ n, n ≤ 2 → FnOk P w K mg base CX0 k f fd ps (spLK K n)) : FnOk P w K mg base CX0 k f fd ps (spLs K) :=
  ⟨fun vs H Q E ⟨n, hn, q⟩ => (h n hn).len vs H Q E q, fun A outer s H args us vs Q E hr he hb hv ⟨n, hn, q⟩ => (h n hn).run A outer s H args us vs Q E hr he hb hv q⟩
abbrev s__law_pairs_drawn : Stmt := topS 18
abbrev N__law_pairs_drawn : List Str := ["_law_tape", "_law_names", "_law_cons", "_law_found", "_law_k", "_law_one", "_law_other", "_law_pattern", "_law_first", "_law_second", "_law_name"]
theorem sc__law_pairs_drawn : FnScope N__law_pairs_drawn ["_law_tape", "_law_names", "_law_cons"] (defScope s__law_pairs_drawn) := ⟨rfl, rfl, rfl, by decide +kernel, rfl, by decide +kernel, by decide +kernel⟩
def spPD (K : PySem.W.Frag) : Sp := fun vs H Q _ => ∃ (t c ln lc : Addr) (ws : List Str) (b : Nat), vs = [.ref t, .ref ln, .ref lc] ∧ SqL K H ln (ws.map V.str) ∧ (∀ x ∈ ws, Wok x) ∧ ws.length ≤ 4 ∧ ConsAt K H lc ∧ Tape K H t c (b + 493) ∧
  ∀ (H' : Hp) (p : Addr) (xs : List V) (ps : List (Kd × Kd)), Ext t H H' → Tape K H' t c b → p ≠ t → H' p = some (.lst xs) → PairsAt H' xs ps → ps.length ≤ 3 → (∀ q ∈ ps, Org ws q.1 ∧ Org ws q.2) → Q (.ref p) H'
theorem ok_pd {g : Addr} {fd : FuncData} (F : Fun K "_law_pairs_drawn" "_law_pairs_drawn" s__law_pairs_drawn g fd) (B : Bl mg) (D__law_draw : Kn P w K mg base 1 "_law_draw" ["_law_tape", "_law_many"] (spDraw K))
    (D__law_letter_kind : Kn P w K mg base 5 "_law_letter_kind" ["_law_tape", "_law_names", "_law_cons", "_law_deep"] (spLs K)) (D__law_put : Kn P w K mg base 21 "_law_put" ["_law_kind", "_law_by"] (spPut K 20)) :
    FnOk P w K mg base CX0 22 g fd ["_law_tape", "_law_names", "_law_cons"] (spPD K) := by
  refine F.ok sc__law_pairs_drawn (fun vs H Q E h => ?_) (fun cdv A outer s H vs Q E hr h => ?_)
  · obtain ⟨t, c, ln, lc, ws, b, rfl, _⟩ := h
    rfl
  · obtain ⟨t, c, ln, lc, ws, b, rfl, hS, wk, w4, hC, hT, k⟩ := h
    have hr__law_draw : Room 1 _ := hr.mono (by decide)
    have hr__law_letter_kind : Room 5 _ := hr.mono (by decide)
    have hr__law_put : Room 21 _ := hr
    refine ⟨_, (pss_cons (ps_set (i := 3) sc__law_pairs_drawn.nd rfl (Or.inl rfl) (pe_lst pa_nil))
  (pss_cons (ps_for PassesOwn.never rfl (pi_range1 (by rfl) B.range (pa_cons (pe_kn D__law_draw hr__law_draw (pa_cons (pv 0) (pa_cons pe_int pa_nil))) pa_nil)) (pg_name (i := 4) sc__law_pairs_drawn.nd rfl (Or.inl rfl))
  (pss_cons (ps_set (i := 5) sc__law_pairs_drawn.nd rfl (Or.inl rfl) (pe_kn D__law_letter_kind hr__law_letter_kind (pa_cons (pv 0) (pa_cons (pv 1) (pa_cons (pv 2) (pa_cons (pe_op op_add pe_int (pe_kn D__law_draw hr__law_draw (pa_cons (pv 0) (pa_cons pe_int pa_nil)))) pa_nil))))))
  (pss_cons (ps_set (i := 6) sc__law_pairs_drawn.nd rfl (Or.inl rfl) (pe_kn D__law_letter_kind hr__law_letter_kind (pa_cons (pv 0) (pa_cons (pv 1) (pa_cons (pv 2) (pa_cons (pe_op op_add pe_int (pe_kn D__law_draw hr__law_draw (pa_cons (pv 0) (pa_cons pe_int pa_nil)))) pa_nil))))))
  (pss_cons (ps_if (pt_cmpR op_gt (pe_kn D__law_draw hr__law_draw (pa_cons (pv 0) (pa_cons pe_int pa_nil))) pe_int (nomark _))
  (pss_cons (ps_set (i := 7) sc__law_pairs_drawn.nd rfl (Or.inl rfl) (pe_kn D__law_letter_kind hr__law_letter_kind (pa_cons (pv 0) (pa_cons (pv 1) (pa_cons (pv 2) (pa_cons pe_int pa_nil))))))
  (pss_cons (ps_set (i := 8) sc__law_pairs_drawn.nd rfl (Or.inl rfl) (pe_callTy (call_dictP rfl) (by rfl) B.dict (by decide +kernel) (pa_cons (pe_lc (own := [("_law_name", 10)]) rfl sc__law_pairs_drawn.nd (pi_list (pv 1)) (blkOk_by (N := N__law_pairs_drawn) (sc := (defScope s__law_pairs_drawn)) (own := [("_law_name", 10)]) (by decide +kernel)) (fun _ _ _ _ _ => (pg_name (i := 10) sc__law_pairs_drawn.nd rfl (Or.inl rfl))) (fun _ _ _ _ _ => (pts_one (pt_cmpR op_eq (pe_kn D__law_draw hr__law_draw (pa_cons (pv 0) (pa_cons pe_int pa_nil))) pe_int (nomark _)))) (fun _ _ _ _ _ => (pe_tup (pa_cons (pv 10) (pa_cons (pe_kn D__law_letter_kind hr__law_letter_kind (pa_cons (pv 0) (pa_cons (pv 1) (pa_cons (pv 2) (pa_cons pe_int pa_nil))))) pa_nil))))) pa_nil)))
  (pss_cons (ps_set (i := 9) sc__law_pairs_drawn.nd rfl (Or.inl rfl) (pe_callTy (call_dictP rfl) (by rfl) B.dict (by decide +kernel) (pa_cons (pe_lc (own := [("_law_name", 10)]) rfl sc__law_pairs_drawn.nd (pi_list (pv 1)) (blkOk_by (N := N__law_pairs_drawn) (sc := (defScope s__law_pairs_drawn)) (own := [("_law_name", 10)]) (by decide +kernel)) (fun _ _ _ _ _ => (pg_name (i := 10) sc__law_pairs_drawn.nd rfl (Or.inl rfl))) (fun _ _ _ _ _ => (pts_one (pt_cmpR op_eq (pe_kn D__law_draw hr__law_draw (pa_cons (pv 0) (pa_cons pe_int pa_nil))) pe_int (nomark _)))) (fun _ _ _ _ _ => (pe_tup (pa_cons (pv 10) (pa_cons (pe_kn D__law_letter_kind hr__law_letter_kind (pa_cons (pv 0) (pa_cons (pv 1) (pa_cons (pv 2) (pa_cons pe_int pa_nil))))) pa_nil))))) pa_nil)))
  (pss_one (ps_par (i := 5) (j := 6) (by rfl) sc__law_pairs_drawn.nd rfl rfl (by decide) rfl rfl (pa_cons (pe_kn D__law_put hr__law_put (pa_cons (pv 7) (pa_cons (pv 8) pa_nil))) (pa_cons (pe_kn D__law_put hr__law_put (pa_cons (pv 7) (pa_cons (pv 9) pa_nil))) pa_nil)) (by rfl))))))
  pss_nil)
  (pss_one (ps_expr (pe_bm PySem.F.plainAttrs_list PySem.F.slot_list_append PySem.F.type_list_append mt_append (pv 3) (pa_cons (pe_tup (pa_cons (pv 5) (pa_cons (pv 6) pa_nil))) pa_nil))))))))
  (pss_one (ps_ret (pv 3))))), ?_⟩
    refine ⟨slz rfl, fun lf hlf => ?_⟩
    have s1 : Same H (upd H lf (.lst [])) := same_new hlf
    have nlf : lf ≠ t := hT.ne hlf
    have e0 := same_ext (t := t) s1
    have gf0 : (upd H lf (.lst [])) lf = some (.lst []) := upd_same
    have T0 := hT.same s1
    generalize upd H lf (.lst []) = H0 at e0 gf0 T0 ⊢
    clear s1
    refine ⟨_, rfl, t, c, 4, b + 492, rfl, by decide, by decide, T0, fun H1 r1 e1 T1 hr11 hr12 => ?_⟩
    obtain ⟨p, hp, p3⟩ : ∃ p : Nat, r1 = (p : Int) ∧ p ≤ 3 := ⟨r1.toNat, (Int.toNat_of_nonneg hr11).symm, by omega⟩
    subst hp
    refine ⟨_, rfl, by omega, by omega, for_range (lo := 0) (n := p) (fun i σ H' => Ext t H H' ∧ Tape K H' t c (b + (p - i) * 164) ∧ ∃ (vs : List V) (ps : List (Kd × Kd)) (v4 v5 v6 v7 v8 v9 : Option V), σ = [some (.ref t), some (.ref ln), some (.ref lc), some (.ref lf), v4, v5, v6, v7, v8, v9, none] ∧ H' lf = some (.lst vs) ∧ PairsAt H' vs ps ∧ ps.length = i ∧ ∀ q ∈ ps, Org ws q.1 ∧ Org ws q.2)
      ⟨e0.trans e1, T1.less (by omega), [], [], _, _, _, _, _, _, rfl, e1 _ _ nlf gf0, .nil, rfl, fun _ q => nomatch q⟩ (fun i σ H2 hi h => ?_) (fun σ H2 h => ?_)⟩
    rotate_left
    · obtain ⟨e2, T2, vs, ps, v4, v5, v6, v7, v8, v9, rfl, gf, gp, lp, og⟩ := h
      exact ⟨_, rfl, k _ _ vs ps e2 (T2.less (by omega)) nlf gf gp (by omega) og⟩
    obtain ⟨e2, T2, vs, ps, v4, v5, v6, v7, v8, v9, rfl, gf, gp, lp, og⟩ := h
    have em : (p - i) * 164 = (p - (i + 1)) * 164 + 164 := by omega
    rw [em] at T2
    obtain ⟨Bg, hBg⟩ : ∃ Bg, Bg = b + (p - (i + 1)) * 164 := ⟨_, rfl⟩
    replace T2 := T2.less (show Bg + 164 ≤ _ by omega)
    clear em e0 e1 T0 T1 gf0
    refine ⟨_, rfl, _, rfl, _, rfl, _, rfl, t, c, 2, Bg + 163, rfl, by decide, by decide, T2, fun H3 r3 e3 T3 hr31 hr32 => ?_⟩
    obtain ⟨n1, hn1, n1l⟩ : ∃ n : Nat, 1 + r3 = (n : Int) ∧ n ≤ 2 := ⟨(1 + r3).toNat, (Int.toNat_of_nonneg (by omega)).symm, by omega⟩
    have c1 := cost_le2 n1l
    have e23 := e2.trans e3
    refine ⟨_, _, rfl, rfl, n1, n1l, t, c, ln, lc, ws, Bg + 136, congrArg (fun z : Int => [V.ref t, .ref ln, .ref lc, .int z]) hn1, SqL.extT hS hT e23, wk, by omega, hC.ext hT e23, T3.less (by omega), fun H4 va ka e4 T4 a1 f1 o1 tw1 z1 => ?_⟩
    refine ⟨_, rfl, _, rfl, _, rfl, _, rfl, t, c, 2, Bg + 135, rfl, by decide, by decide, T4, fun H5 r5 e5 T5 hr51 hr52 => ?_⟩
    obtain ⟨n2, hn2, n2l⟩ : ∃ n : Nat, 1 + r5 = (n : Int) ∧ n ≤ 2 := ⟨(1 + r5).toNat, (Int.toNat_of_nonneg (by omega)).symm, by omega⟩
    have c2 := cost_le2 n2l
    have e25 := (e23.trans e4).trans e5
    refine ⟨_, _, rfl, rfl, n2, n2l, t, c, ln, lc, ws, Bg + 108, congrArg (fun z : Int => [V.ref t, .ref ln, .ref lc, .int z]) hn2, SqL.extT hS hT e25, wk, by omega, hC.ext hT e25, T5.less (by omega), fun H6 vc kc e6 T6 a2 f2 o2 tw2 z2 => ?_⟩
    have oa : Org ws ka := ⟨Kd.fit_mono (by omega) f1, by have := lsz_le2 n1l; omega, o1⟩
    have oc : Org ws kc := ⟨Kd.fit_mono (by omega) f2, by have := lsz_le2 n2l; omega, o2⟩
    refine ⟨_, rfl, t, c, 3, Bg + 107, rfl, by decide, by decide, T6, fun H7 r7 e7 T7 hr71 hr72 => ?_⟩
    have e27 := (e25.trans e6).trans e7
    have u27 := Ext.tups (((e3.trans e4).trans (e5.trans e6)).trans e7) T2
    have gf7 := e7 _ _ nlf (e6 _ _ nlf (e5 _ _ nlf (e4 _ _ nlf (e3 _ _ nlf gf))))
    have ga7 := KdAt.tups (Ext.tups ((e5.trans e6).trans e7) T4) a1
    have gc7 := KdAt.tups (Ext.tups e7 T6) a2
    have gp7 := PairsAt.tups u27 gp
    clear gp gf a1 a2 T2 T3 T4 T5 T6 e2 e3 e4 e5 e6 e7 e23 e25 u27
    have lvs : vs.length = i := by rw [Paired.length gp7]; exact lp
    refine ⟨_, _, rfl, rfl, _, rfl, ?_⟩
    by_cases hr0 : 0 < r7
    · refine iT (decide_eq_true hr0) ?_
      refine ⟨_, rfl, _, rfl, _, rfl, 1, by decide, t, c, ln, lc, ws, Bg + 96, rfl, SqL.extT hS hT e27, wk, by omega, hC.ext hT e27, T7.less (by show _ + 11 ≤ _; omega), fun H8 vp kp e8 T8 ap fp op twp zp => ?_⟩
      have e28 := e27.trans e8
      have S8 := SqL.extT hS hT e28
      have C8 := hC.ext hT e28
      refine ⟨_, rfl, ln, rfl, ⟨_, S8⟩, fun D1 hD1 => ?_⟩
      refine lc_list (K := K) (a := ln) (xs := ws.map V.str) (fun i H' => Ext t H8 H' ∧ Tape K H' t c ((Bg + 48) + (4 - i) * 12) ∧ ∃ (pa : List Addr) (kvs : List (Key × V)) (qs : By), H' D1 = some (.lst (pa.map V.ref)) ∧ Paired (fun p kv => H' p = some (.tup [kV kv.1, kv.2])) pa kvs ∧ ByAt H' kvs qs ∧ pa.length ≤ i ∧ ∀ q ∈ qs, Sm ws q.2)
        ⟨Ext.new hD1, (T8.new hD1).less (by omega), [], [], [], upd_same, .nil, .nil, Nat.le_refl _, fun _ q => nomatch q⟩ (fun i H' _ ⟨e1, _⟩ => SqL.extT S8 T8 e1) (fun i x H' hx ⟨e1, t1, pa, kvs, qs, g1, g2, g3, g4, g5⟩ => ⟨rfl, ?_⟩) (fun HD1 ⟨eD1, TD1, pa1, kvs1, qs1, g11, g21, g31, g41, g51⟩ => ?_)
      · rw [List.getElem?_map] at hx
        obtain ⟨y, hy, rfl⟩ := Option.map_eq_some_iff.mp hx
        have hi3 : i < 4 := by
          have := (List.getElem?_eq_some_iff.mp hy).1
          omega
        have em : (4 - i) * 12 = (4 - (i + 1)) * 12 + 12 := by omega
        rw [em] at t1
        refine ⟨_, rfl, t, c, 3, (Bg + 48) + (4 - (i + 1)) * 12 + 11, rfl, by decide, by decide, t1, fun H9 r9 e9 T9 hr91 hr92 => ⟨rfl, _, rfl, ?_⟩⟩
        by_cases z9 : r9 = 0
        · refine iT (decide_eq_true (congrArg V.int z9)) ?_
          have ee := e1.trans e9
          refine ⟨_, rfl, _, rfl, _, rfl, _, rfl, 1, by decide, t, c, ln, lc, ws, (Bg + 48) + (4 - (i + 1)) * 12, rfl, SqL.extT S8 T8 ee, wk, by omega, C8.ext T8 ee, T9.less (by show _ + 11 ≤ _; omega), fun H10 v k4 e10 t10 f1 f2 f3 f4 f5 => ?_⟩
          refine ⟨slz rfl, fun q hq => ?_⟩
          have nD2 : D1 ≠ t := T8.ne hD1
          have e11 := ((e1.trans e9).trans e10).trans (Ext.new (o := .tup [.str y, v]) hq)
          have t11 := t10.new (o := .tup [.str y, v]) hq
          have e12 := (e9.trans e10).trans (Ext.new (o := .tup [.str y, v]) hq)
          have tq := same_tups (same_new (o := .tup [.str y, v]) hq)
          have uq : (upd H10 q (.tup [.str y, v])) q = _ := upd_same
          generalize upd H10 q (.tup [.str y, v]) = H11 at e11 t11 e12 tq uq ⊢
          have gD : H11 D1 = some (.lst (pa.map V.ref)) := e12 _ _ nD2 g1
          have tu : Tups H11 (upd H11 D1 (.lst (pa.map V.ref ++ [.ref q]))) := Tups.put gD (by intro xs z; cases z)
          have t2 : Tups H' (upd H11 D1 (.lst (pa.map V.ref ++ [.ref q]))) := (Ext.tups e12 t1).trans tu
          refine ⟨_, gD, small1000 (by rw [List.length_map]; omega), e11.upd hD1, Tape.put T8 e11 t11 hD1, pa ++ [q], kvs ++ [(.inr y, v)], qs ++ [(y, k4)], by rw [upd_same, List.map_append]; rfl, ?_, ?_, by rw [List.length_append, List.length_singleton]; omega, ?_⟩
          · exact Paired.snoc (paired_map (fun _ _ q => t2 _ _ q) g2) (tu _ _ uq)
          · exact Paired.snoc (ByAt.tups t2 g3) ⟨rfl, KdAt.tups (tq.trans tu) f1⟩
          · intro z hz
            rcases List.mem_append.mp hz with q | q
            · exact g5 z q
            · rw [List.mem_singleton.mp q]
              exact ⟨f2, f5, f3⟩
        · refine iF (decide_eq_false (fun e => z9 (V.int.inj e))) ?_
          exact ⟨e1.trans e9, T9.less (by omega), pa, kvs, qs, e9 _ _ (T8.ne hD1) g1, paired_map (fun _ _ q => Ext.tups e9 t1 _ _ q) g2, ByAt.tups (Ext.tups e9 t1) g3, Nat.le_succ_of_le g4, g5⟩
      refine ⟨D1, pa1, kvs1, rfl, SqL.of g11, paired_map (fun _ _ q => SqT.of q) g21, fun d1 hd1 => ?_⟩
      obtain ⟨by1, b11, b21⟩ := byAt_mergeP (kvs := []) (b := []) g31 g51 .nil (fun _ q => nomatch q)
      have sd1 := same_new (o := .dK (mergeK [] kvs1)) hd1
      have GB1 : (upd HD1 d1 (.dK (mergeK [] kvs1))) d1 = _ := upd_same
      have BB1 := ByAt.tups (same_tups sd1) b11
      have eG1 := eD1.trans (same_ext sd1)
      have TG1 := (TD1.same sd1).less (show (Bg + 48) ≤ _ by omega)
      have nd1 : d1 ≠ t := TD1.ne hd1
      clear sd1
      generalize upd HD1 d1 (.dK (mergeK [] kvs1)) = G1 at GB1 BB1 eG1 TG1 ⊢
      clear b11
      generalize mergeK [] kvs1 = kd1 at GB1 BB1 ⊢
      clear g11 g21 g31 g41 g51
      have e2G1 := e28.trans eG1
      have S9 := SqL.extT hS hT e2G1
      have C9 := hC.ext hT e2G1
      refine ⟨_, rfl, ln, rfl, ⟨_, S9⟩, fun D2 hD2 => ?_⟩
      refine lc_list (K := K) (a := ln) (xs := ws.map V.str) (fun i H' => Ext t G1 H' ∧ Tape K H' t c (Bg + (4 - i) * 12) ∧ ∃ (pa : List Addr) (kvs : List (Key × V)) (qs : By), H' D2 = some (.lst (pa.map V.ref)) ∧ Paired (fun p kv => H' p = some (.tup [kV kv.1, kv.2])) pa kvs ∧ ByAt H' kvs qs ∧ pa.length ≤ i ∧ ∀ q ∈ qs, Sm ws q.2)
        ⟨Ext.new hD2, (TG1.new hD2).less (by omega), [], [], [], upd_same, .nil, .nil, Nat.le_refl _, fun _ q => nomatch q⟩ (fun i H' _ ⟨e1, _⟩ => SqL.extT S9 TG1 e1) (fun i x H' hx ⟨e1, t1, pa, kvs, qs, g1, g2, g3, g4, g5⟩ => ⟨rfl, ?_⟩) (fun HD2 ⟨eD2, TD2, pa2, kvs2, qs2, g12, g22, g32, g42, g52⟩ => ?_)
      · rw [List.getElem?_map] at hx
        obtain ⟨y, hy, rfl⟩ := Option.map_eq_some_iff.mp hx
        have hi3 : i < 4 := by
          have := (List.getElem?_eq_some_iff.mp hy).1
          omega
        have em : (4 - i) * 12 = (4 - (i + 1)) * 12 + 12 := by omega
        rw [em] at t1
        refine ⟨_, rfl, t, c, 3, Bg + (4 - (i + 1)) * 12 + 11, rfl, by decide, by decide, t1, fun H9 r9 e9 T9 hr91 hr92 => ⟨rfl, _, rfl, ?_⟩⟩
        by_cases z9 : r9 = 0
        · refine iT (decide_eq_true (congrArg V.int z9)) ?_
          have ee := e1.trans e9
          refine ⟨_, rfl, _, rfl, _, rfl, _, rfl, 1, by decide, t, c, ln, lc, ws, Bg + (4 - (i + 1)) * 12, rfl, SqL.extT S9 TG1 ee, wk, by omega, C9.ext TG1 ee, T9.less (by show _ + 11 ≤ _; omega), fun H10 v k4 e10 t10 f1 f2 f3 f4 f5 => ?_⟩
          refine ⟨slz rfl, fun q hq => ?_⟩
          have nD2 : D2 ≠ t := TG1.ne hD2
          have e11 := ((e1.trans e9).trans e10).trans (Ext.new (o := .tup [.str y, v]) hq)
          have t11 := t10.new (o := .tup [.str y, v]) hq
          have e12 := (e9.trans e10).trans (Ext.new (o := .tup [.str y, v]) hq)
          have tq := same_tups (same_new (o := .tup [.str y, v]) hq)
          have uq : (upd H10 q (.tup [.str y, v])) q = _ := upd_same
          generalize upd H10 q (.tup [.str y, v]) = H11 at e11 t11 e12 tq uq ⊢
          have gD : H11 D2 = some (.lst (pa.map V.ref)) := e12 _ _ nD2 g1
          have tu : Tups H11 (upd H11 D2 (.lst (pa.map V.ref ++ [.ref q]))) := Tups.put gD (by intro xs z; cases z)
          have t2 : Tups H' (upd H11 D2 (.lst (pa.map V.ref ++ [.ref q]))) := (Ext.tups e12 t1).trans tu
          refine ⟨_, gD, small1000 (by rw [List.length_map]; omega), e11.upd hD2, Tape.put TG1 e11 t11 hD2, pa ++ [q], kvs ++ [(.inr y, v)], qs ++ [(y, k4)], by rw [upd_same, List.map_append]; rfl, ?_, ?_, by rw [List.length_append, List.length_singleton]; omega, ?_⟩
          · exact Paired.snoc (paired_map (fun _ _ q => t2 _ _ q) g2) (tu _ _ uq)
          · exact Paired.snoc (ByAt.tups t2 g3) ⟨rfl, KdAt.tups (tq.trans tu) f1⟩
          · intro z hz
            rcases List.mem_append.mp hz with q | q
            · exact g5 z q
            · rw [List.mem_singleton.mp q]
              exact ⟨f2, f5, f3⟩
        · refine iF (decide_eq_false (fun e => z9 (V.int.inj e))) ?_
          exact ⟨e1.trans e9, T9.less (by omega), pa, kvs, qs, e9 _ _ (TG1.ne hD2) g1, paired_map (fun _ _ q => Ext.tups e9 t1 _ _ q) g2, ByAt.tups (Ext.tups e9 t1) g3, Nat.le_succ_of_le g4, g5⟩
      refine ⟨D2, pa2, kvs2, rfl, SqL.of g12, paired_map (fun _ _ q => SqT.of q) g22, fun d2 hd2 => ?_⟩
      obtain ⟨by2, b12, b22⟩ := byAt_mergeP (kvs := []) (b := []) g32 g52 .nil (fun _ q => nomatch q)
      have sd2 := same_new (o := .dK (mergeK [] kvs2)) hd2
      have GB2 : (upd HD2 d2 (.dK (mergeK [] kvs2))) d2 = _ := upd_same
      have BB2 := ByAt.tups (same_tups sd2) b12
      have eG2 := eD2.trans (same_ext sd2)
      have TG2 := (TD2.same sd2).less (show Bg ≤ _ by omega)
      have nd2 : d2 ≠ t := TD2.ne hd2
      clear sd2
      generalize upd HD2 d2 (.dK (mergeK [] kvs2)) = G2 at GB2 BB2 eG2 TG2 ⊢
      clear b12
      generalize mergeK [] kvs2 = kd2 at GB2 BB2 ⊢
      clear g12 g22 g32 g42 g52
      have apG2 := KdAt.tups (Ext.tups (eG1.trans eG2) T8) ap
      have sp : Sm ws kp := ⟨fp, zp, op⟩
      refine ⟨_, rfl, _, rfl, vp, d1, kp, kd1, by1, rfl, apG2, Kd.fit_mono (by decide) fp, eG2 _ _ nd1 GB1, ByAt.tups (Ext.tups eG2 TG1) BB1, fun H11 w1 s11 g11 => ⟨_, rfl, _, rfl, vp, d2, kp, kd2, by2, rfl, KdAt.tups (same_tups s11) apG2, Kd.fit_mono (by decide) fp, s11 _ _ GB2, ByAt.tups (same_tups s11) BB2, fun H12 w2 s12 g12 => ⟨_, _, rfl, ?_⟩⟩⟩
      have s112 := s11.trans s12
      have E12 := (e2G1.trans eG2).trans (same_ext (t := t) s112)
      have T12 := TG2.same s112
      have gf12 := s112 _ _ (eG2 _ _ nlf (eG1 _ _ nlf (e8 _ _ nlf gf7)))
      have gp12 := PairsAt.tups ((Ext.tups (e8.trans (eG1.trans eG2)) T7).trans (same_tups s112)) gp7
      have g11' := KdAt.tups (same_tups s12) g11
      refine ⟨_, rfl, .inl ⟨rfl, _, SqL.of gf12⟩, _, rfl, _, rfl, slz rfl, fun q hq => ?_⟩
      have sq : Same H12 (upd H12 q (.tup [w1, w2])) := same_new hq
      have gf' := sq _ _ gf12
      refine ⟨lf, vs, _, rfl, rfl, gf', size_line (by omega), ?_⟩
      have tu : Tups (upd H12 q (.tup [w1, w2])) (upd (upd H12 q (.tup [w1, w2])) lf (.lst (vs ++ [.ref q]))) := Tups.put gf' (by intro xs z; cases z)
      have eq := E12.trans (same_ext (t := t) sq)
      refine ⟨eq.upd hlf, (Tape.put hT eq (T12.same sq) hlf).less (by omega), vs ++ [.ref q], ps ++ [(kp.put by1, kp.put by2)], _, _, _, _, _, _, rfl, upd_same, Paired.snoc (PairsAt.tups ((same_tups sq).trans tu) gp12) ⟨q, w1, w2, rfl, tu _ _ upd_same, KdAt.tups ((same_tups sq).trans tu) g11', KdAt.tups ((same_tups sq).trans tu) g12⟩, by rw [List.length_append, lp]; rfl, fun z hz => ?_⟩
      rcases List.mem_append.mp hz with z1 | z1
      · exact og z z1
      · rw [List.mem_singleton.mp z1]; exact ⟨sp.put b21, sp.put b22⟩
    · refine iF (decide_eq_false hr0) ?_
      refine ⟨_, rfl, .inl ⟨rfl, _, SqL.of gf7⟩, _, rfl, _, rfl, slz rfl, fun q hq => ?_⟩
      have sq : Same H7 (upd H7 q (.tup [va, vc])) := same_new hq
      have gf' := sq _ _ gf7
      refine ⟨lf, vs, _, rfl, rfl, gf', size_line (by omega), ?_⟩
      have tu : Tups (upd H7 q (.tup [va, vc])) (upd (upd H7 q (.tup [va, vc])) lf (.lst (vs ++ [.ref q]))) := Tups.put gf' (by intro xs z; cases z)
      have eq := e27.trans (same_ext (t := t) sq)
      refine ⟨eq.upd hlf, (Tape.put hT eq (T7.same sq) hlf).less (by omega), vs ++ [.ref q], ps ++ [(ka, kc)], _, _, _, _, _, _, rfl, upd_same, Paired.snoc (PairsAt.tups ((same_tups sq).trans tu) gp7) ⟨q, va, vc, rfl, tu _ _ upd_same, KdAt.tups ((same_tups sq).trans tu) ga7, KdAt.tups ((same_tups sq).trans tu) gc7⟩, by rw [List.length_append, lp]; rfl, fun z hz => ?_⟩
      rcases List.mem_append.mp hz with z1 | z1
      · exact og z z1
      · rw [List.mem_singleton.mp z1]; exact ⟨oa, oc⟩
end
end L3

namespace L3
open PySem L2 PyProof.Rows
theorem ixN_of {n j : Nat} (hj : j < n) : ixN n (j : Int) = some j := by
  unfold ixN
  rw [if_pos (by omega), if_pos (by omega)]
  simp
theorem cps_append (x y : Str) : (x ++ y).cps.toList = x.cps.toList ++ y.cps.toList := Array.toList_append
theorem rests_ok : ∀ r ∈ rests, ∀ c ∈ r.cps.toList, 97 ≤ c ∧ c ≤ 122 := by decide +kernel
theorem words_wok {rest : Str} {first n : Nat} {d : Bool} (h : rest ∈ rests) : ∀ x ∈ (lets first n).map (mkW rest d), Wok x := by
  intro x hx
  obtain ⟨ch, hc, rfl⟩ := List.mem_map.mp hx
  unfold lets at hc
  obtain ⟨j, _, rfl⟩ := List.mem_map.mp hc
  have rl := rests_len _ h
  have ro := rests_ok _ h
  have so : ∀ c ∈ (sgn ((first + 7 * j) % 26)).cps.toList, 97 ≤ c ∧ c ≤ 122 := by
    intro c hc
    have e : c = 97 + (first + 7 * j) % 26 := List.mem_singleton.mp hc
    omega
  have sl : (sgn ((first + 7 * j) % 26)).length = 1 := rfl
  have ln : ∀ u v : Str, (u ++ v).length = u.length + v.length := fun u v => Array.size_append
  unfold mkW
  cases d
  · refine ⟨?_, ?_, fun c hc => ?_⟩
    · show 1 ≤ (_ ++ _ : Str).length
      rw [ln]; omega
    · show (_ ++ _ : Str).length ≤ 8
      rw [ln]; omega
    · rcases List.mem_append.mp ((cps_append _ _) ▸ hc) with q | q
      · exact so c q
      · exact ro c q
  · refine ⟨?_, ?_, fun c hc => ?_⟩
    · show 1 ≤ (_ ++ _ : Str).length
      rw [ln]; omega
    · show (_ ++ _ : Str).length ≤ 8
      rw [ln]; omega
    · rcases List.mem_append.mp ((cps_append _ _) ▸ hc) with q | q
      · exact ro c q
      · exact so c q

theorem key_of {Q F : V → Hp → Prop} {G : Prop} (g : (∀ v H, F v H → Q v H) → G) (h : ∀ v H, F v H → Q v H) : G := g h
def rListOf (K : PySem.W.Frag) : List V → Hp → VK → Prop := fun xs H Q => ∃ p ys, xs = [.ref p] ∧ (SqL K H p ys ∨ SqT K H p ys) ∧ ∀ l, H l = none → Q (.ref l) (upd H l (.lst ys))
def flatK : List (Kd × Kd) → List Kd
  | [] => []
  | p :: r => p.1 :: p.2 :: flatK r
theorem flatK_snoc (p : Kd × Kd) : ∀ l : List (Kd × Kd), flatK (l ++ [p]) = flatK l ++ [p.1, p.2]
  | [] => rfl
  | q :: r => by
    show q.1 :: q.2 :: flatK (r ++ [p]) = _
    rw [flatK_snoc p r]
    rfl
theorem flatK_mem {k : Kd} : ∀ {l : List (Kd × Kd)}, k ∈ flatK l ↔ ∃ p ∈ l, k = p.1 ∨ k = p.2
  | [] => by simp [flatK]
  | q :: r => by
    have ih := flatK_mem (k := k) (l := r)
    show k ∈ q.1 :: q.2 :: flatK r ↔ _
    rw [List.mem_cons, List.mem_cons, ih]
    constructor
    · rintro (e | e | ⟨p, hp, e⟩)
      · exact ⟨q, List.mem_cons_self, .inl e⟩
      · exact ⟨q, List.mem_cons_self, .inr e⟩
      · exact ⟨p, List.mem_cons_of_mem _ hp, e⟩
    · rintro ⟨p, hp, e⟩
      rcases List.mem_cons.mp hp with e2 | hp
      · subst e2
        exact e.elim .inl fun e => .inr (.inl e)
      · exact .inr (.inr ⟨p, hp, e⟩)
theorem flatK_size {ws : List Str} : ∀ {l : List (Kd × Kd)}, (∀ p ∈ l, Org ws p.1 ∧ Org ws p.2) → sizeL (flatK l) ≤ 50 * l.length
  | [], _ => Nat.zero_le _
  | q :: r, h => by
    have ih := flatK_size fun p hp => h p (List.mem_cons_of_mem _ hp)
    have q1 := (h q List.mem_cons_self).1.2.1
    have q2 := (h q List.mem_cons_self).2.2.1
    show q.1.size + (q.2.size + sizeL (flatK r)) ≤ _
    rw [List.length_cons]
    omega
theorem by_size {z : Nat} : ∀ {b : By}, (∀ q ∈ b, q.2.size ≤ z) → sizeL (b.map Prod.snd) ≤ z * b.length
  | [], _ => Nat.zero_le _
  | q :: r, h => by
    have ih := by_size fun p hp => h p (List.mem_cons_of_mem _ hp)
    have q1 := h q List.mem_cons_self
    show q.2.size + sizeL (r.map Prod.snd) ≤ _
    rw [List.length_cons, Nat.mul_succ]
    omega
theorem keys_in {ps : List (Kd × Kd)} {y : Str} (h : y ∈ left [] ps) : y ∈ vsL (flatK ps) [] := by
  obtain ⟨p, hp, w⟩ := left_mem.mp h
  rw [put_nil, put_nil] at w
  rw [vsL_mem]
  rcases w with w | w
  · exact .inr ⟨p.1, flatK_mem.mpr ⟨p, hp, .inl rfl⟩, w⟩
  · exact .inr ⟨p.2, flatK_mem.mpr ⟨p, hp, .inr rfl⟩, w⟩
theorem not_inner {ws : List Str} {f b : By} (u : USt ws f b) {x : Str} (hx : x ∈ names b) : ¬ x ∈ vsL (b.map Prod.snd) [] := by
  intro h
  rw [vsL_mem] at h
  rcases h with h | ⟨k, hk, o⟩
  · cases h
  · obtain ⟨q, hq, rfl⟩ := List.mem_map.mp hk
    have nd : (names b).Nodup := by rw [u.nb]; exact u.nd
    have e := u.cl q.1 q.2 (lk_nodup nd hq) x o
    have l := lk_names b x
    rw [e, decide_eq_true hx] at l
    cases l
theorem USt.lenBy {ws : List Str} {f b : By} (u : USt ws f b) : b.length ≤ 4 := by
  have e := congrArg List.length u.nb
  have l := u.len
  unfold names at e
  rw [List.length_map, List.length_map] at e
  omega
def prsD (ps : List (Kd × Kd)) : PyData := .list (ps.map prD)
theorem prs_show : ∀ {ps : List (Kd × Kd)}, (∀ p ∈ ps, p.1.fit 4 ∧ p.2.fit 4) → PyData.showableAll (ps.map prD) = true ∧ PyData.hasDictAll (ps.map prD) = false ∧ PyData.depthAll (ps.map prD) ≤ 6 ∧ ((PyData.shownAll (ps.map prD)).map (·.length)).sum ≤ ps.length * 9600 ∧ (PyData.shownAll (ps.map prD)).length = ps.length
  | [], _ => by simp [PyData.showableAll, PyData.hasDictAll, PyData.depthAll, PyData.shownAll]
  | p :: r, h => by
    obtain ⟨h1, h2, h3, h4, h5⟩ := prs_show (ps := r) fun y hy => h y (List.mem_cons_of_mem _ hy)
    obtain ⟨f1, f2⟩ := h p List.mem_cons_self
    obtain ⟨g1, g2⟩ := Kd.show_ok p.1
    obtain ⟨g3, g4⟩ := Kd.show_ok p.2
    obtain ⟨_, d1⟩ := Kd.lay f1
    obtain ⟨_, d2⟩ := Kd.lay f2
    have l1 := Kd.shown_len f1
    have l2 := Kd.shown_len f2
    have l3 := shown_two p.1.dat p.2.dat
    refine ⟨?_, ?_, ?_, ?_, ?_⟩
    · simp [PyData.showableAll, prD, PyData.showable, g1, g3, h1]
    · simp [PyData.hasDictAll, prD, PyData.hasDict, g2, g4, h2]
    · simp only [List.map_cons, PyData.depthAll, prD, PyData.depth]
      omega
    · have e : (r.length + 1) * 9600 = r.length * 9600 + 9600 := Nat.succ_mul ..
      simp only [List.map_cons, PyData.shownAll, List.sum_cons, List.length_cons]
      rw [e]
      have l4 : (prD p).shown.length ≤ 9600 := by
        show (PyData.tuple [p.1.dat, p.2.dat]).shown.length ≤ 9600
        have e4 : 300 * 2 ^ 4 = 4800 := by decide
        omega
      omega
    · simp [PyData.shownAll, h5]
theorem prsD_show {ps : List (Kd × Kd)} (hp : ∀ p ∈ ps, p.1.fit 4 ∧ p.2.fit 4) (lp : ps.length ≤ 3) : (prsD ps).showable = true ∧ (prsD ps).hasDict = false ∧ (prsD ps).depth ≤ 60 ∧ (prsD ps).shown.length ≤ sizeLine := by
  obtain ⟨a1, a2, a3, a4, a5⟩ := prs_show hp
  refine ⟨by simp [prsD, PyData.showable, a1], by simp [prsD, PyData.hasDict, a2], ?_, ?_⟩
  · simp only [prsD, PyData.depth]
    omega
  · have h1 := listText_len_le (PyData.shownAll (ps.map prD))
    simp only [prsD, PyData.shown]
    have e := sizeLine_eq
    rw [e]
    omega
section
variable {P : Program} {w : World} {K : PySem.W.Frag} {mg : Str → Option Value} {base : Heap}
/-- so many words -/
def Wl (K : PySem.W.Frag) (H : Hp) (l : Addr) (ws : List Str) (n : Nat) : Prop := SqL K H l (ws.map V.str) ∧ (∀ x ∈ ws, Wok x) ∧ ws.length = n
abbrev s_law : Stmt := topS 19
abbrev N_law : List Str := ["_law_script", "_law_tape", "_law_turn", "_law_words_here", "_law_names", "_law_cons", "_law_pairs", "_law_due", "_law_kept", "_law_told", "_law_all_names", "_law_inner", "_law_rows", "_law_pair", "_law_name", "_law_by"]
theorem sc_law : FnScope N_law ["_law_script"] (defScope s_law) := ⟨rfl, rfl, rfl, by decide +kernel, rfl, by decide +kernel, by decide +kernel⟩
def spLaw (K : PySem.W.Frag) : List V → Hp → VK → Prop := fun vs H Q => ∃ (a : Addr) (ns : List Int), vs = [.ref a] ∧ SqL K H a (ns.map V.int) ∧ ∀ H', Q (.bl true) H'
theorem law_run {f : Addr} {fd : FuncData} (F : Fun K "law" "law" s_law f fd) (B : Bl mg) (B7 : Bl7 mg) (D__law_begin : Kn P w K mg base 1 "_law_begin" ["_law_script"] (spBegin K)) (D__law_draw : Kn P w K mg base 1 "_law_draw" ["_law_tape", "_law_many"] (spDraw K))
    (D__law_words : Kn P w K mg base 3 "_law_words" ["_law_tape", "_law_many"] (spWords K)) (D__law_pairs_drawn : Kn P w K mg base 22 "_law_pairs_drawn" ["_law_tape", "_law_names", "_law_cons"] (spPD K)) (D__law_solve : Kn P w K mg base 22 "_law_solve" ["_law_pairs"] (spSolve K))
    (D_unite : Kn P w K mg base 27 "unite" ["pairs"] (spU K)) (D__law_put : Kn P w K mg base 21 "_law_put" ["_law_kind", "_law_by"] (spPut K 20)) (D__law_vars : Kn P w K mg base 1 "_law_vars" ["_law_kinds"] (spVars K)) (D__law_renamed : Kn P w K mg base 1 "_law_renamed" ["_law_kinds", "_law_others"] (spRen K)) :
    LawRun P w K mg base f fd "_law_script" (spLaw K) := by
  refine lawRun_of F sc_law (k := 28) ⟨rfl, by decide, by decide⟩ (fun cdv s H v Q hr h => ?_)
  obtain ⟨a, ns, h, hS, k⟩ := h
  cases h
  have hgd : (callerA.deeper (envOfC "law" (defScope s_law) s.heap.objs.size f cdv)).guards = some [] := rfl
  have hr__law_begin : Room 1 _ := hr.mono (by decide)
  have hr__law_draw : Room 1 _ := hr.mono (by decide)
  have hr__law_words : Room 3 _ := hr.mono (by decide)
  have hr__law_pairs_drawn : Room 22 _ := hr.mono (by decide)
  have hr__law_solve : Room 22 _ := hr.mono (by decide)
  have hr_unite : Room 27 _ := hr.mono (by decide)
  have hr__law_put : Room 21 _ := hr.mono (by decide)
  have hr__law_vars : Room 1 _ := hr.mono (by decide)
  have hr__law_renamed : Room 1 _ := hr.mono (by decide)
  have hu := hu_of hr
  have hu64 := hr.units
  refine ⟨_, (pss_cons (ps_set (i := 1) sc_law.nd rfl (Or.inl rfl) (pe_kn D__law_begin hr__law_begin (pa_cons (pv 0) pa_nil)))
  (pss_cons (ps_for PassesOwn.never rfl (pi_range1 (by rfl) B.range (pa_cons pe_int pa_nil)) (pg_name (i := 2) sc_law.nd rfl (Or.inl rfl))
  (pss_cons (ps_par (i := 3) (j := 4) (by rfl) sc_law.nd rfl rfl (by decide) rfl rfl (pa_cons (pe_kn D__law_words hr__law_words (pa_cons (pv 1) (pa_cons pe_int pa_nil))) (pa_cons (pe_kn D__law_words hr__law_words (pa_cons (pv 1) (pa_cons pe_int pa_nil))) pa_nil)) (by rfl))
  (pss_cons (ps_set (i := 5) sc_law.nd rfl (Or.inl rfl) (pe_lst (pa_cons (pe_tup (pa_cons (pe_ix ix_list (pv 3) pe_int (fun _ _ => rfl)) (pa_cons pe_int pa_nil))) (pa_cons (pe_tup (pa_cons (pe_ix ix_list (pv 3) pe_int (fun _ _ => rfl)) (pa_cons pe_int pa_nil))) (pa_cons (pe_tup (pa_cons (pe_ix ix_list (pv 3) pe_int (fun _ _ => rfl)) (pa_cons pe_int pa_nil))) (pa_cons (pe_tup (pa_cons pe_str (pa_cons pe_int pa_nil))) (pa_cons (pe_tup (pa_cons pe_str (pa_cons pe_int pa_nil))) pa_nil)))))))
  (pss_cons (ps_set (i := 6) sc_law.nd rfl (Or.inl rfl) (pe_kn D__law_pairs_drawn hr__law_pairs_drawn (pa_cons (pv 1) (pa_cons (pv 4) (pa_cons (pv 5) pa_nil)))))
  (pss_cons (ps_par (i := 7) (j := 8) (by rfl) sc_law.nd rfl rfl (by decide) rfl rfl (pa_cons (pe_kn D__law_solve hr__law_solve (pa_cons (pv 6) pa_nil)) (pa_cons (pe_callB (call_reprD hgd hu64) (by rfl) B.repr (by decide +kernel) (pa_cons (pv 6) pa_nil)) pa_nil)) (by rfl))
  (pss_cons (ps_set (i := 9) sc_law.nd rfl (Or.inr rfl) (pe_ifExp (pt_cmpR op_eq (pe_kn D__law_draw hr__law_draw (pa_cons (pv 1) (pa_cons pe_int pa_nil))) pe_int (nomark _)) (pe_kn D_unite hr_unite (pa_cons (pv 6) pa_nil)) (pe_kn D_unite hr_unite (pa_cons (pe_callTy call_tuple_of (by rfl) B.tuple (by decide +kernel) (pa_cons (pv 6) pa_nil)) pa_nil))))
  (pss_cons (ps_if (PW.pt (pw_or (pt_cmpR op_ne (pe_cmpR op_isN (pv 9) pe_non (nomark _)) (pe_cmpR op_isN (pv 7) pe_non (nomark _)) (nomark _)) (pw_or1 (pt_cmpR op_ne (pe_callB (call_reprD hgd hu64) (by rfl) B.repr (by decide +kernel) (pa_cons (pv 6) pa_nil)) (pv 8) (nomark _)))))
  (pss_one (ps_ret pe_bl))
  pss_nil)
  (pss_one (ps_if (pt_cmpR op_notN (pv 7) pe_non (nomark _))
  (pss_cons (ps_set (i := 10) sc_law.nd rfl (Or.inr rfl) (pe_kn D__law_vars hr__law_vars (pa_cons (pe_callB (cr_sumL rfl) (by rfl) B7.sum (by decide +kernel) (pa_cons (pe_lc (own := [("_law_pair", 13)]) rfl sc_law.nd (pi_list (pv 6)) (blkOk_by (N := N_law) (sc := (defScope s_law)) (own := [("_law_pair", 13)]) (by decide +kernel)) (fun _ _ _ _ _ => (pg_name (i := 13) sc_law.nd rfl (Or.inl rfl))) (fun _ _ _ _ _ => pts_nil) (fun _ _ _ _ _ => (pe_callTy (T := "list") (show CallR _ (.type "list") (rListOf K) from call_list_of) (by rfl) B.list (by decide +kernel) (pa_cons (pv 13) pa_nil)))) (pa_cons (pe_lst pa_nil) pa_nil))) pa_nil)))
  (pss_cons (ps_set (i := 11) sc_law.nd rfl (Or.inr rfl) (pe_kn D__law_vars hr__law_vars (pa_cons (pe_lock (pe_lc (own := [("_law_name", 14)]) rfl sc_law.nd (pi_keys (pv 9)) (blkOk_by (N := N_law) (sc := (defScope s_law)) (own := [("_law_name", 14)]) (by decide +kernel)) (fun _ _ _ _ _ => (pg_name (i := 14) sc_law.nd rfl (Or.inl rfl))) (fun _ _ _ _ _ => pts_nil) (fun _ _ _ _ _ => (pe_dget hu (pv 9) (pv 14) (fun _ _ => rfl))))) pa_nil)))
  (pss_cons (ps_if (pt_cmpR (op_neD hu64) (pe_lock (pe_lc (own := [("_law_name", 14)]) rfl sc_law.nd (pi_keys (pv 9)) (blkOk_by (N := N_law) (sc := (defScope s_law)) (own := [("_law_name", 14)]) (by decide +kernel)) (fun _ _ _ _ _ => (pg_name (i := 14) sc_law.nd rfl (Or.inl rfl))) (fun _ _ _ _ _ => (pts_one (PW.pt (pw_or (pt_cmpR (show OpR _ _ (rIn K true) from op_notIn_seq) (pv 14) (pv 10) (by rfl)) (pw_or1 (pt_cmpR (show OpR _ _ (rIn K false) from op_in_seq) (pv 14) (pv 11) (by rfl))))))) (fun _ _ _ _ _ => (pv 14)))) (pe_lst pa_nil) (nomark _))
  (pss_one (ps_ret pe_bl))
  pss_nil)
  (pss_cons (ps_if (pt_cmpR (op_neD hu64) (pe_lc (own := [("_law_pair", 13)]) rfl sc_law.nd (pi_list (pv 6)) (blkOk_by (N := N_law) (sc := (defScope s_law)) (own := [("_law_pair", 13)]) (by decide +kernel)) (fun _ _ _ _ _ => (pg_name (i := 13) sc_law.nd rfl (Or.inl rfl))) (fun _ _ _ _ _ => (pts_one (pt_cmpR (show OpR _ _ (rNeD K) from (op_neD hu64)) (pe_kn D__law_put hr__law_put (pa_cons (pe_ix (show IxR _ (rIxT K) from ix_tup) (pv 13) pe_int (fun _ _ => rfl)) (pa_cons (pv 9) pa_nil))) (pe_kn D__law_put hr__law_put (pa_cons (pe_ix (show IxR _ (rIxT K) from ix_tup) (pv 13) pe_int (fun _ _ => rfl)) (pa_cons (pv 9) pa_nil))) (nomark _)))) (fun _ _ _ _ _ => (pv 13))) (pe_lst pa_nil) (nomark _))
  (pss_one (ps_ret pe_bl))
  pss_nil)
  (pss_cons (ps_setLc (i := 12) (own := [("_law_by", 15)]) rfl sc_law.nd rfl rfl (sw_true rfl rfl rfl (by decide +kernel)) (pi_tup (pe_tup (pa_cons (pv 9) (pa_cons (pv 7) pa_nil)))) (blkOk_by (N := N_law) (sc := (defScope s_law)) (own := [("_law_by", 15)]) (by decide +kernel)) (fun _ _ _ _ _ => (pg_name (i := 15) sc_law.nd rfl (Or.inr rfl))) (fun _ _ _ _ _ => pts_nil) (fun _ _ _ _ _ => (pe_lc (own := [("_law_name", 14)]) rfl sc_law.nd (show PI _ _ _ (iList K (tVar 10)) from pi_list (pv 10)) (blkOk_by (N := N_law) (own := [("_law_name", 14)]) (by rfl)) (fun _ _ _ _ _ => (pg_name (i := 14) sc_law.nd rfl (Or.inl rfl))) (fun _ _ _ _ _ => pts_nil) (fun _ _ _ _ _ => (pe_kn D__law_put hr__law_put (pa_cons (pe_tup (pa_cons pe_str (pa_cons (pv 14) pa_nil))) (pa_cons (pv 15) pa_nil)))))))
  (pss_one (ps_if (pt_not (pt_val (pe_kn D__law_renamed hr__law_renamed (pa_cons (pe_ix ix_list (pv 12) pe_int (fun _ _ => rfl)) (pa_cons (pe_ix ix_list (pv 12) pe_int (fun _ _ => rfl)) pa_nil)))))
  (pss_one (ps_ret pe_bl))
  pss_nil)))))))
  pss_nil)))))))))
  (pss_one (ps_ret pe_bl)))), ?_⟩
  refine ⟨_, rfl, a, ns, rfl, hS, fun H1 t c s1 nt T1 => ?_⟩
  refine ⟨12, rfl, by decide, by decide, ?_⟩
  refine for_range (lo := 0) (n := 12) (fun i σ H' => ∃ (v2 v3 v4 v5 v6 v7 v8 v9 v10 v11 v12 : Option V), σ = [some (.ref a), some (.ref t), v2, v3, v4, v5, v6, v7, v8, v9, v10, v11, v12, none, none, none] ∧ Tape K H' t c ((12 - i) * 500)) ⟨_, _, _, _, _, _, _, _, _, _, _, rfl, T1.less (by decide)⟩ (fun i σ H2 hi h => ?_) (fun σ H2 h => ?_)
  · obtain ⟨v2, v3, v4, v5, v6, v7, v8, v9, v10, v11, v12, rfl, T2⟩ := h
    obtain ⟨m, hm⟩ : ∃ m, m = (12 - (i + 1)) * 500 := ⟨_, rfl⟩
    rw [← hm]
    replace T2 : Tape K H2 t c (m + 500) := T2.less (by omega)
    refine ⟨_, rfl, t, c, 3, m + 497, rfl, by decide, T2, fun H3 lw r1 f1 d1 e3 T3 hlw hr1 hf1 gw => ?_⟩
    refine ⟨_, rfl, t, c, 4, m + 494, rfl, by decide, T3, fun H4 ln r2 f2 d2 e4 T4 hln hr2 hf2 gn => ?_⟩
    refine ⟨_, _, rfl, ?_⟩
    have W1 : Wl K H4 lw ((lets f1 3).map (mkW r1 d1)) 3 := ⟨SqL.of (e4 _ _ (T2.ne hlw) gw), words_wok hr1, by rw [List.length_map, lets_length]⟩
    have W2 : Wl K H4 ln ((lets f2 4).map (mkW r2 d2)) 4 := ⟨SqL.of gn, words_wok hr2, by rw [List.length_map, lets_length]⟩
    generalize (lets f1 3).map (mkW r1 d1) = ws1 at W1
    generalize (lets f2 4).map (mkW r2 d2) = ws at W2
    clear gw gn e3 e4 T2 T3 hlw hln hr1 hr2 hf1 hf2 f1 f2 d1 d2 r1 r2 H2 H3 s1 nt T1
    obtain ⟨S1, wo1, len1⟩ := W1
    obtain ⟨x1, x2, x3, rfl⟩ : ∃ x1 x2 x3, ws1 = [x1, x2, x3] := by
      match ws1, len1 with
      | [x1, x2, x3], _ => exact ⟨x1, x2, x3, rfl⟩
    refine ⟨_, rfl, _, _, _, _, rfl, rfl, S1, rfl, slz rfl, fun q1 hq1 => ?_⟩
    have s1 := same_new (o := HO.tup [.str x1, .int 0]) hq1
    have u1 : (upd H4 q1 (HO.tup [.str x1, .int 0])) q1 = _ := upd_same
    generalize upd H4 q1 (HO.tup [.str x1, .int 0]) = G1 at s1 u1 ⊢
    refine ⟨_, rfl, _, _, _, _, rfl, rfl, s1.seq S1, rfl, slz rfl, fun q2 hq2 => ?_⟩
    have s2 := s1.trans (same_new (o := HO.tup [.str x2, .int 1]) hq2)
    have u2 : (upd G1 q2 (HO.tup [.str x2, .int 1])) q2 = _ := upd_same
    replace u1 := same_new (o := HO.tup [.str x2, .int 1]) hq2 _ _ u1
    generalize upd G1 q2 (HO.tup [.str x2, .int 1]) = G2 at s2 u1 u2 ⊢
    refine ⟨_, rfl, _, _, _, _, rfl, rfl, s2.seq S1, rfl, slz rfl, fun q3 hq3 => ?_⟩
    have s3 := s2.trans (same_new (o := HO.tup [.str x3, .int 2]) hq3)
    have u3 : (upd G2 q3 (HO.tup [.str x3, .int 2])) q3 = _ := upd_same
    replace u1 := same_new (o := HO.tup [.str x3, .int 2]) hq3 _ _ u1
    replace u2 := same_new (o := HO.tup [.str x3, .int 2]) hq3 _ _ u2
    generalize upd G2 q3 (HO.tup [.str x3, .int 2]) = G3 at s3 u1 u2 u3 ⊢
    refine ⟨slz rfl, fun q4 hq4 => ?_⟩
    have s4 := s3.trans (same_new (o := HO.tup [.str "to", .int 2]) hq4)
    have u4 : (upd G3 q4 (HO.tup [.str "to", .int 2])) q4 = _ := upd_same
    replace u1 := same_new (o := HO.tup [.str "to", .int 2]) hq4 _ _ u1
    replace u2 := same_new (o := HO.tup [.str "to", .int 2]) hq4 _ _ u2
    replace u3 := same_new (o := HO.tup [.str "to", .int 2]) hq4 _ _ u3
    generalize upd G3 q4 (HO.tup [.str "to", .int 2]) = G4 at s4 u1 u2 u3 u4 ⊢
    refine ⟨slz rfl, fun q5 hq5 => ?_⟩
    have s5 := s4.trans (same_new (o := HO.tup [.str "whole", .int 0]) hq5)
    have u5 : (upd G4 q5 (HO.tup [.str "whole", .int 0])) q5 = _ := upd_same
    replace u1 := same_new (o := HO.tup [.str "whole", .int 0]) hq5 _ _ u1
    replace u2 := same_new (o := HO.tup [.str "whole", .int 0]) hq5 _ _ u2
    replace u3 := same_new (o := HO.tup [.str "whole", .int 0]) hq5 _ _ u3
    replace u4 := same_new (o := HO.tup [.str "whole", .int 0]) hq5 _ _ u4
    generalize upd G4 q5 (HO.tup [.str "whole", .int 0]) = G5 at s5 u1 u2 u3 u4 u5 ⊢
    refine ⟨slz rfl, fun lc hlc => ?_⟩
    have s6 := same_new (o := HO.lst [.ref q1, .ref q2, .ref q3, .ref q4, .ref q5]) hlc
    have C6 : ConsAt K (upd G5 lc (HO.lst [.ref q1, .ref q2, .ref q3, .ref q4, .ref q5])) lc := by
      refine ⟨_, SqL.of upd_same, (by show 0 < 5; decide), (by show 5 < 1000; decide), fun v hv => ?_⟩
      rcases List.mem_cons.mp hv with e | hv
      · exact ⟨q1, x1, 0, e, s6 _ _ u1, by decide, wo1 x1 (by simp)⟩
      rcases List.mem_cons.mp hv with e | hv
      · exact ⟨q2, x2, 1, e, s6 _ _ u2, by decide, wo1 x2 (by simp)⟩
      rcases List.mem_cons.mp hv with e | hv
      · exact ⟨q3, x3, 2, e, s6 _ _ u3, by decide, wo1 x3 (by simp)⟩
      rcases List.mem_cons.mp hv with e | hv
      · exact ⟨q4, "to", 2, e, s6 _ _ u4, by decide, by decide, by decide, by decide +kernel⟩
      · exact ⟨q5, "whole", 0, List.mem_singleton.mp hv, s6 _ _ u5, by decide, by decide, by decide, by decide +kernel⟩
    have T6 := (T4.same s5).same s6
    obtain ⟨S2, wo2, len2⟩ := W2
    replace S2 := s6.seq (s5.seq S2)
    generalize upd G5 lc (HO.lst [.ref q1, .ref q2, .ref q3, .ref q4, .ref q5]) = H6 at C6 T6 S2 ⊢
    clear s1 s2 s3 s4 s5 s6 u1 u2 u3 u4 u5 hq1 hq2 hq3 hq4 hq5 hlc G1 G2 G3 G4 G5 S1 wo1 len1 T4
    refine ⟨_, rfl, _, rfl, _, rfl, t, c, ln, lc, ws, m + 1, rfl, S2, wo2, by omega, C6, T6.less (by omega), fun H7 pl xs ps e7 T7 npl gp pp lp og => ?_⟩
    clear S2 C6 T6 e7 H6
    obtain ⟨o1, n1, un1⟩ := uni_ends false ps
    obtain ⟨o2, n2, un2⟩ := uni_ends true ps
    refine ⟨_, rfl, pl, xs, ps, ws, o2, n2, rfl, SqL.of gp, pp, lp, by omega, og, un2, fun H8 vd s8 g8 => ?_⟩
    have fp4 : ∀ p ∈ ps, p.1.fit 4 ∧ p.2.fit 4 := fun p hp => ⟨(og p hp).1.1, (og p hp).2.1⟩
    obtain ⟨w1, w2, w3, w4⟩ := prsD_show fp4 lp
    have gp8 := s8 _ _ gp
    have pp8 := PairsAt.tups (same_tups s8) pp
    have T8 := T7.same s8
    have nd : ∀ f b, o2 = some (f, b) → ∃ (d : Addr) (kvs : List (Key × V)), vd = .ref d ∧ d ≠ t ∧ H8 d = some (.dK kvs) ∧ ByAt H8 kvs b ∧ USt ws f b := fun f b e => by
      subst e
      obtain ⟨d, kvs, e, nd, h1, h2, u⟩ := g8
      exact ⟨d, kvs, e, T7.ne nd, h1, h2, u⟩
    have nn : o2 = none → vd = .non := fun e => by subst e; exact g8
    clear g8 s8 gp pp T7
    refine ⟨_, rfl, pl, prsD ps, rfl, .lst (SqL.of gp8) (PairsAt.dp pp8), w1, w2, w3, w4, _, _, rfl, ?_⟩
    refine' key_of (F := fun vt H10 => Ext t H8 H10 ∧ Tape K H10 t c m ∧ ∃ H0, UEnd ws H0 H10 vt o1) (fun key => ?_) ?_
    rotate_left
    · refine ⟨_, rfl, t, c, 2, m, rfl, by decide, by decide, T8, fun H9 r9 e9 T9 hr1 hr2 => ⟨rfl, _, rfl, ite2 (fun z => ?_) (fun z => ?_)⟩⟩
      · exact ⟨_, rfl, pl, xs, ps, ws, o1, n1, rfl, .inl (SqL.of (e9 _ _ npl gp8)), PairsAt.tups (Ext.tups e9 T8) pp8, lp, by omega, og, un1, fun H10 vt s10 g10 => key _ _ ⟨e9.trans (same_ext (t := t) s10), T9.same s10, _, g10⟩⟩
      · have gp9 := e9 _ _ npl gp8
        refine ⟨_, rfl, pl, xs, rfl, .inl ⟨SqL.of gp9, fun l1 hl1 => ?_⟩⟩
        have sl := same_new (o := .tup xs) hl1
        have gl1 : (upd H9 l1 (.tup xs)) l1 = some (.tup xs) := upd_same
        exact ⟨l1, xs, ps, ws, o1, n1, rfl, .inr (SqT.of gl1), PairsAt.tups ((Ext.tups e9 T8).trans (same_tups sl)) pp8, lp, by omega, og, un1, fun H10 vt s10 g10 => key _ _ ⟨e9.trans (same_ext (t := t) (sl.trans s10)), T9.same (sl.trans s10), _, g10⟩⟩
    · rintro vt H10 ⟨e10, T10, H0, g10⟩
      have gp10 := e10 _ _ npl gp8
      have pp10 := PairsAt.tups (Ext.tups e10 T8) pp8
      rcases uni_both un1 un2 with ⟨eo1, eo2⟩ | ⟨f1, b1, f2, b2, eo1, eo2, sv, ab2, ab1, keys⟩
      · subst eo1 eo2
        have evt : vt = .non := g10
        subst evt
        have evd := nn rfl
        subst evd
        refine ⟨_, rfl, rfl, _, rfl, rfl, rfl, _, rfl, iF (by simp) ?_⟩
        refine ⟨_, rfl, pl, prsD ps, rfl, .lst (SqL.of gp10) (PairsAt.dp pp10), w1, w2, w3, w4, _, rfl, rfl, _, rfl, ?_⟩
        refine iF (by simp) ?_
        refine ⟨_, rfl, rfl, _, rfl, iF (by simp) ?_⟩
        exact ⟨_, _, _, _, _, _, _, _, _, _, _, rfl, T10⟩
      subst eo1 eo2
      obtain ⟨dt, kt, evt, _, gt10, bt10, ut⟩ := g10
      subst evt
      obtain ⟨dd, kd, evd, ndd, gd8, bd8, ud⟩ := nd f2 b2 rfl
      subst evd
      have gd10 := e10 _ _ ndd gd8
      have bd10 := ByAt.tups (Ext.tups e10 T8) bd8
      refine ⟨_, rfl, rfl, _, rfl, rfl, rfl, _, rfl, iF (by simp) ?_⟩
      refine ⟨_, rfl, pl, prsD ps, rfl, .lst (SqL.of gp10) (PairsAt.dp pp10), w1, w2, w3, w4, _, rfl, rfl, _, rfl, ?_⟩
      refine iF (by simp) ?_
      refine ⟨_, rfl, rfl, _, rfl, iT (by simp) ?_⟩
      clear gd8 bd8 nd nn T8 e10
      have fp20 : ∀ k ∈ flatK ps, k.fit 60 ∧ Kd.of ws k := fun k hk => by
        obtain ⟨p, hp, e⟩ := flatK_mem.mp hk
        rcases e with e | e
        · rw [e]; exact ⟨Kd.fit_mono (by decide) (og p hp).1.1, (og p hp).1.2.2⟩
        · rw [e]; exact ⟨Kd.fit_mono (by decide) (og p hp).2.1, (og p hp).2.2.2⟩
      -- all names
      refine ⟨_, rfl, pl, rfl, ⟨_, SqL.of gp10⟩, fun D hD => ?_⟩
      refine lc_list (K := K) (a := pl) (xs := xs) (fun i H' => Same H10 H' ∧ ∃ (as : List Addr) (xss : List (List V)), H' D = some (.lst (as.map V.ref)) ∧ Paired (fun b ys => b ≠ D ∧ H' b = some (.lst ys)) as xss ∧ KdsAt H' xss.flatten (flatK (ps.take i)) ∧ as.length = i)
        ⟨same_new hD, [], [], upd_same, .nil, .nil, rfl⟩ (fun i H' _ ⟨e1, _⟩ => SqL.of (e1 _ _ gp10)) (fun i x H' hx ⟨e1, as, xss, h1, h2, h3, h4⟩ => ⟨rfl, ?_⟩) (fun H11 ⟨e11, as, xss, h1, h2, h3, h4⟩ => ?_)
      · obtain ⟨p, hp, T', u, z, rfl, hT', hu1, hz1⟩ := paired_get pp10 hx
        have hi3 : i < 3 := by
          have q1 := (List.getElem?_eq_some_iff.mp hp).1
          omega
        refine ⟨_, rfl, T', [u, z], rfl, .inr (SqT.of (e1 _ _ hT')), fun l hl => ?_⟩
        have s1 : Same H' (upd H' l (.lst [u, z])) := same_new hl
        have gD := s1 _ _ h1
        have nl : l ≠ D := (ne_of_none h1 hl).symm
        have tu : Tups (upd H' l (.lst [u, z])) (upd (upd H' l (.lst [u, z])) D (.lst (as.map V.ref ++ [.ref l]))) := Tups.put gD (by intro xs z; cases z)
        refine ⟨_, gD, small1000 (by rw [List.length_map]; omega), fun b o e => ?_, as ++ [l], xss ++ [[u, z]], by rw [upd_same, List.map_append]; rfl, ?_, ?_, by rw [List.length_append, h4]; rfl⟩
        · rw [upd_ne (ne_of_none e hD)]
          exact s1 _ _ (e1 _ _ e)
        · have hl1 : (upd (upd H' l (.lst [u, z])) D (.lst (as.map V.ref ++ [.ref l]))) l = some (.lst [u, z]) := by
            rw [upd_ne nl]
            exact upd_same
          have ho : ∀ (b : Addr) (ys : List V), b ≠ D ∧ H' b = some (.lst ys) → b ≠ D ∧ (upd (upd H' l (.lst [u, z])) D (.lst (as.map V.ref ++ [.ref l]))) b = some (.lst ys) := fun b ys q => ⟨q.1, by
            rw [upd_ne q.1]
            exact s1 _ _ q.2⟩
          exact Paired.snoc (paired_map ho h2) ⟨nl, hl1⟩
        · rw [List.take_add_one, hp]
          show KdsAt _ _ (flatK (ps.take i ++ [p]))
          rw [flatK_snoc, List.flatten_append]
          have t1 := (same_tups s1).trans tu
          have t2 := (same_tups e1).trans t1
          have q := Paired.snoc (Paired.snoc (KdsAt.tups t1 h3) (KdAt.tups t2 hu1)) (KdAt.tups t2 hz1)
          rw [List.append_assoc, List.append_assoc] at q
          exact q
      have lxs : ps.take xs.length = ps := by rw [Paired.length pp10, List.take_length]
      rw [lxs] at h3
      refine ⟨slz rfl, fun e he => ?_⟩
      have s12 : Same H11 (upd H11 e (.lst [])) := same_new he
      have kl : xss.flatten.length = (flatK ps).length := Paired.length h3
      have szF : sizeL (flatK ps) ≤ 150 := by
        have := flatK_size og
        omega
      have lF := sizeL_len (flatK ps)
      refine ⟨D, e, as, xss, rfl, s12 _ _ h1, upd_same, paired_map (fun b ys q => s12 _ _ q.2) h2, Nat.le_of_lt (size_line (by omega)), fun pA H12 s13 gA => ?_⟩
      have S12 := e11.trans (s12.trans s13)
      refine ⟨pA, _, flatK ps, rfl, SqL.of gA, KdsAt.tups (same_tups (s12.trans s13)) h3, (fun k hk => (fp20 k hk).1), by omega, fun H13 pn s14 _ gn => ?_⟩
      have S13 := S12.trans s14
      have hnn : (vsL (flatK ps) []).Nodup := vsL_nodup _ List.nodup_nil
      have hnw : ∀ y ∈ vsL (flatK ps) [], y ∈ ws := vsL_of (fun k hk => (fp20 k hk).2) (fun _ q => nomatch q)
      have hnk : ∀ y ∈ names b1, y ∈ vsL (flatK ps) [] := fun y hy => keys_in (keys y (fun z => by
        have l := lk_names b1 y
        rw [z, decide_eq_true hy] at l
        cases l))
      have hnl : (vsL (flatK ps) []).length ≤ 4 := by
        have := len_le hnn hnw
        omega
      generalize vsL (flatK ps) [] = an at gn hnn hnw hnk hnl
      clear h1 h2 h3 h4 kl s12 s13 s14 S12 gA he hD szF lF fp20 keys e11 lxs
      have gp13 := S13 _ _ gp10
      have pp13 := PairsAt.tups (same_tups S13) pp10
      have gt13 := S13 _ _ gt10
      have bt13 := ByAt.tups (same_tups S13) bt10
      have gd13 := S13 _ _ gd10
      have bd13 := ByAt.tups (same_tups S13) bd10
      have T13 := T10.same S13
      clear gp10 pp10 gt10 bt10 gd10 bd10 T10 S13
      -- the kinds told
      refine ⟨dt, .dK kt, gt13, trivial, fun od => ?_⟩
      have sd1 : ∀ b o', b ≠ dt → H13 b = some o' → upd H13 dt (.frz od (.dK kt)) b = some o' := fun b o' hb e => by rw [upd_ne hb]; exact e
      have gdL1 : upd H13 dt (.frz od (.dK kt)) dt = some (.frz od (.dK kt)) := upd_same
      have tuL1 : Tups H13 (upd H13 dt (.frz od (.dK kt))) := Tups.put gt13 (by intro xs z; cases z)
      generalize upd H13 dt (.frz od (.dK kt)) = HL at sd1 gdL1 tuL1 ⊢
      have btL := ByAt.tups tuL1 bt13
      have ndb : (names b1).Nodup := by rw [ut.nb]; exact ut.nd
      have lb := ut.lenBy
      refine ⟨_, rfl, dt, od, rfl, .inl ⟨kt, gdL1, fun D2 hD2 => lc_it walk_keys (fun i H' => Same HL H' ∧ ∃ vs2, H' D2 = some (.lst vs2) ∧ KdsAt H' vs2 ((b1.take i).map Prod.snd) ∧ vs2.length = i) ⟨same_new hD2, [], upd_same, .nil, rfl⟩ (fun i H' _ p => p.1 _ _ gdL1) ?_ ?_⟩⟩
      · rintro i x H14 H15 hi ⟨s8, vs2, h1, h2, h3⟩ ⟨rfl, k0, v0, e, rfl⟩
        obtain ⟨q, eq0, ek, gv⟩ := paired_get btL e
        have ek' : k0 = .inr q.1 := ek
        subst ek'
        have lq := lk_nodup ndb (List.mem_of_getElem? eq0)
        rcases btL.get q.1 with ⟨e1, e2⟩ | ⟨v1, k1, e1, e2, g1⟩
        · rw [e2] at lq; cases lq
        rw [e2] at lq
        cases lq
        have hd2 : Rd H15 dt (.dK kt) := .inr ⟨od, s8 _ _ gdL1⟩
        refine ⟨rfl, ?_⟩
        have tu : Tups H15 (upd H15 D2 (.lst (vs2 ++ [v1]))) := Tups.put h1 (by intro xs z; cases z)
        have hi4 : i < 4 := by
          have z := (List.getElem?_eq_some_iff.mp eq0).1
          omega
        refine ⟨_, rfl, _, rfl, dt, v1, rfl, by rw [← e1]; exact dgetR q.1 hd2, vs2, h1, small1000 (by omega), fun b o e => ?_, vs2 ++ [v1], upd_same, ?_, by rw [List.length_append, h3]; rfl⟩
        · rw [upd_ne (ne_of_none e hD2)]
          exact s8 _ _ e
        · rw [List.take_add_one, eq0]
          show KdsAt _ _ (List.map _ (b1.take i ++ [q]))
          rw [List.map_append]
          exact Paired.snoc (KdsAt.tups tu h2) (KdAt.tups ((same_tups s8).trans tu) g1)
      rintro H14 ⟨s8, vs2, h1, h2, h3⟩
      have e0 : b1.take kt.length = b1 := by rw [byAt_len bt13, List.take_length]
      rw [e0] at h2
      refine ⟨s8 _ _ gdL1, ?_⟩
      have tU : Tups H14 (upd H14 dt (.dK kt)) := Tups.put (s8 _ _ gdL1) (by intro xs z; cases z)
      have SU : Same H13 (upd H14 dt (.dK kt)) := fun b o e => by
        by_cases hb : b = dt
        · subst hb
          rw [upd_same, ← e]
          exact gt13.symm
        · rw [upd_ne hb]
          exact s8 _ _ (sd1 _ _ hb e)
      have g2 : (upd H14 dt (.dK kt)) D2 = some (.lst vs2) := by
        rw [upd_ne (ne_of_none gdL1 hD2).symm]
        exact h1
      have h2' := KdsAt.tups tU h2
      generalize upd H14 dt (.dK kt) = H15 at SU g2 h2' ⊢
      refine ⟨D2, vs2, b1.map Prod.snd, rfl, SqL.of g2, h2', (fun k hk => by
        obtain ⟨q, hq, rfl⟩ := List.mem_map.mp hk
        exact Kd.fit_mono (by decide) (ut.inB hq).1), by
        have z1 := by_size (z := 390625) (b := b1) (fun q hq => (ut.inB hq).2.1)
        omega, fun H16 pi s16 _ gi => ?_⟩
      have S16 := SU.trans s16
      have hni : ∀ y ∈ names b1, ¬ y ∈ vsL (b1.map Prod.snd) [] := fun y hy => not_inner ut hy
      generalize vsL (b1.map Prod.snd) [] = inn at gi hni
      have gn16 := S16 _ _ gn
      have gp16 := S16 _ _ gp13
      have pp16 := PairsAt.tups (same_tups S16) pp13
      have gt16 := S16 _ _ gt13
      have bt16 := ByAt.tups (same_tups S16) bt13
      have gd16 := S16 _ _ gd13
      have bd16 := ByAt.tups (same_tups S16) bd13
      have T16 := T13.same S16
      clear sd1 gdL1 tuL1 btL hD2 s8 h1 h2 h3 tU SU g2 h2' s16 S16 gn gp13 pp13 gt13 bt13 gd13 bd13 T13 e0 HL
      -- names that are wrong
      refine ⟨dt, .dK kt, gt16, trivial, fun od => ?_⟩
      have sd2 : ∀ b o', b ≠ dt → H16 b = some o' → upd H16 dt (.frz od (.dK kt)) b = some o' := fun b o' hb e => by rw [upd_ne hb]; exact e
      have gdL2 : upd H16 dt (.frz od (.dK kt)) dt = some (.frz od (.dK kt)) := upd_same
      have tuL2 : Tups H16 (upd H16 dt (.frz od (.dK kt))) := Tups.put gt16 (by intro xs z; cases z)
      generalize upd H16 dt (.frz od (.dK kt)) = HL at sd2 gdL2 tuL2 ⊢
      have btL := ByAt.tups tuL2 bt16
      have ne1 : pn ≠ dt := fun e => by rw [e, gt16] at gn16; cases gn16
      have ne2 : pi ≠ dt := fun e => by rw [e, gt16] at gi; cases gi
      have gnL := sd2 _ _ ne1 gn16
      have giL := sd2 _ _ ne2 gi
      refine ⟨_, rfl, dt, od, rfl, .inl ⟨kt, gdL2, fun D2 hD2 => lc_it walk_keys (fun i H' => Same HL H' ∧ H' D2 = some (.lst [])) ⟨same_new hD2, upd_same⟩ (fun i H' _ p => p.1 _ _ gdL2) ?_ ?_⟩⟩
      · rintro i x H17 H18 hi ⟨s8, h1⟩ ⟨rfl, k0, v0, e, rfl⟩
        obtain ⟨q, eq0, ek, gv⟩ := paired_get btL e
        have ek' : k0 = .inr q.1 := ek
        subst ek'
        have hq : q.1 ∈ names b1 := List.mem_map.mpr ⟨q, List.mem_of_getElem? eq0, rfl⟩
        refine ⟨rfl, ?_⟩
        refine ⟨_, rfl, _, rfl, pn, _, rfl, .inl (SqL.of (s8 _ _ gnL)), rfl, flat_words _, _, rfl, ?_⟩
        show if (!inV (.str q.1) (an.map V.str)) = true then _ else _
        rw [inV_words]
        refine iF (by rw [decide_eq_true (hnk _ hq)]; rfl) ?_
        refine ⟨_, rfl, _, rfl, pi, _, rfl, .inl (SqL.of (s8 _ _ giL)), rfl, flat_words _, _, rfl, ?_⟩
        show if (inV (.str q.1) (inn.map V.str)) = true then _ else _
        rw [inV_words]
        refine iF (decide_eq_false (hni _ hq)) ?_
        exact ⟨s8, h1⟩
      rintro H17 ⟨s8, h1⟩
      refine ⟨s8 _ _ gdL2, ?_⟩
      have SU : Same H16 (upd H17 dt (.dK kt)) := fun b o e => by
        by_cases hb : b = dt
        · subst hb
          rw [upd_same, ← e]
          exact gt16.symm
        · rw [upd_ne hb]
          exact s8 _ _ (sd2 _ _ hb e)
      have g2 : (upd H17 dt (.dK kt)) D2 = some (.lst []) := by
        rw [upd_ne (ne_of_none gdL2 hD2).symm]
        exact h1
      generalize upd H17 dt (.dK kt) = H18 at SU g2 ⊢
      refine ⟨slz rfl, fun e he => ?_⟩
      have s19 : Same H18 (upd H18 e (.lst [])) := same_new he
      have S19 := SU.trans s19
      refine ⟨_, _, .lst (SqL.of (s19 _ _ g2)) .nil, .lst (SqL.of upd_same) .nil, shaped_nil, shaped_nil, _, rfl, ?_⟩
      rw [show (!PyData.eqv (.list []) (.list [])) = false from pairs_ne (ps := [])]
      refine iF rfl ?_
      generalize upd H18 e (.lst []) = H19 at S19 ⊢
      have gn19 := S19 _ _ gn16
      have gp19 := S19 _ _ gp16
      have pp19 := PairsAt.tups (same_tups S19) pp16
      have gt19 := S19 _ _ gt16
      have bt19 := ByAt.tups (same_tups S19) bt16
      have gd19 := S19 _ _ gd16
      have bd19 := ByAt.tups (same_tups S19) bd16
      have T19 := T16.same S19
      clear sd2 gdL2 tuL2 btL hD2 s8 h1 SU g2 s19 S19 gn16 gp16 pp16 gt16 bt16 gd16 bd16 T16 ne1 ne2 gnL giL gi hni he HL
      -- pairs that are not the same
      refine ⟨_, rfl, pl, rfl, ⟨_, SqL.of gp19⟩, fun D hD => ?_⟩
      refine lc_list (K := K) (a := pl) (xs := xs) (fun i H' => Same H19 H' ∧ H' D = some (.lst []))
        ⟨same_new hD, upd_same⟩ (fun i H' _ ⟨e1, _⟩ => SqL.of (e1 _ _ gp19)) (fun i x H' hx ⟨e1, h1⟩ => ⟨rfl, ?_⟩) (fun H20 ⟨s20, h1⟩ => ?_)
      · obtain ⟨p, hp, T', u, z, rfl, hT', hu1, hz1⟩ := paired_get pp19 hx
        have hpm := List.mem_of_getElem? hp
        have op := og p hpm
        have eq := sv p hpm
        refine ⟨_, rfl, _, _, _, _, rfl, rfl, SqT.of (e1 _ _ hT'), rfl, _, rfl, u, dt, p.1, kt, b1, rfl, KdAt.tups (same_tups e1) hu1, Kd.fit_mono (by decide) op.1.1, e1 _ _ gt19, ByAt.tups (same_tups e1) bt19, fun H21 v1 s21 g1 => ?_⟩
        have e21 := e1.trans s21
        refine ⟨_, rfl, _, _, _, _, rfl, rfl, SqT.of (e21 _ _ hT'), rfl, _, rfl, z, dt, p.2, kt, b1, rfl, KdAt.tups (same_tups e21) hz1, Kd.fit_mono (by decide) op.2.1, e21 _ _ gt19, ByAt.tups (same_tups e21) bt19, fun H22 v2 s22 g2 => ?_⟩
        refine ⟨_, _, (KdAt.tups (same_tups s22) g1).dp, g2.dp, Kd.shaped (ut.big op.1).1 (by decide), Kd.shaped (ut.big op.2).1 (by decide), _, rfl, ?_⟩
        rw [Kd.eqv, eq, decide_eq_true rfl]
        refine iF rfl ?_
        exact ⟨e21.trans s22, s22 _ _ (s21 _ _ h1)⟩
      refine ⟨slz rfl, fun e he => ?_⟩
      have s21 : Same H20 (upd H20 e (.lst [])) := same_new he
      have S21 := s20.trans s21
      refine ⟨_, _, .lst (SqL.of (s21 _ _ h1)) .nil, .lst (SqL.of upd_same) .nil, shaped_nil, shaped_nil, _, rfl, ?_⟩
      rw [show (!PyData.eqv (.list []) (.list [])) = false from pairs_ne (ps := [])]
      refine iF rfl ?_
      generalize upd H20 e (.lst []) = H21 at S21 ⊢
      have gn21 := S21 _ _ gn19
      have gt21 := S21 _ _ gt19
      have bt21 := ByAt.tups (same_tups S21) bt19
      have gd21 := S21 _ _ gd19
      have bd21 := ByAt.tups (same_tups S21) bd19
      have T21 := T19.same S21
      clear s20 h1 s21 S21 gn19 gp19 pp19 gt19 bt19 gd19 bd19 T19 he hD
      -- rows
      refine ⟨_, rfl, _, rfl, slz rfl, fun q hq => ⟨q, rfl, ⟨_, SqT.of upd_same⟩, fun D hD => ?_⟩⟩
      have s22 : Same H21 (upd H21 q (.tup [.ref dt, .ref dd])) := same_new hq
      have gq : (upd H21 q (.tup [.ref dt, .ref dd])) q = some (.tup [.ref dt, .ref dd]) := upd_same
      generalize upd H21 q (.tup [.ref dt, .ref dd]) = H22 at s22 gq hD ⊢
      refine lc_it (walk_tup (xs := [.ref dt, .ref dd])) (fun i H' => Same H22 H' ∧ ∃ rows : List Addr, H' D = some (.lst (rows.map V.ref)) ∧ rows.length = i ∧ Paired (fun r b => r ≠ D ∧ ∃ vs, H' r = some (.lst vs) ∧ KdsAt H' vs (an.map fun x => (Kd.var x).put b)) rows ([b1, b2].take i)) ⟨same_new hD, [], upd_same, rfl, .nil⟩ (fun i H' _ p => SqT.of (p.1 _ _ gq)) ?_ ?_
      · rintro i y H23 H24 hi ⟨s24, rows, h1, h2, h3⟩ ⟨rfl, e⟩
        have s2 := s22.trans s24
        obtain ⟨dy, ky, by', rfl, eby, gy, bty⟩ : ∃ (dy : Addr) (ky : List (Key × V)) (by' : By), y = .ref dy ∧ [b1, b2][i]? = some by' ∧ H24 dy = some (.dK ky) ∧ ByAt H24 ky by' := by
          match i, e with
          | 0, e => cases e; exact ⟨dt, kt, b1, rfl, rfl, s2 _ _ gt21, ByAt.tups (same_tups s2) bt21⟩
          | 1, e => cases e; exact ⟨dd, kd, b2, rfl, rfl, s2 _ _ gd21, ByAt.tups (same_tups s2) bd21⟩
        have gn24 := s2 _ _ gn21
        have hi2 : i < 2 := hi
        refine ⟨rfl, ?_⟩
        refine ⟨_, rfl, pn, rfl, ⟨_, SqL.of gn24⟩, fun D4 hD4 => ?_⟩
        have nD4 : D4 ≠ D := (ne_of_none h1 hD4).symm
        refine lc_list (K := K) (a := pn) (xs := an.map V.str) (fun j H' => Same H24 H' ∧ ∃ vs, H' D4 = some (.lst vs) ∧ KdsAt H' vs ((an.take j).map fun x => (Kd.var x).put by') ∧ vs.length = j)
          ⟨same_new hD4, [], upd_same, .nil, rfl⟩ (fun j H' _ ⟨e1, _⟩ => SqL.of (e1 _ _ gn24)) (fun j x H' hx ⟨e1, vs, g1, g2, g3⟩ => ⟨rfl, ?_⟩) (fun H25 ⟨s25, vs, g1, g2, g3⟩ => ?_)
        · rw [List.getElem?_map] at hx
          obtain ⟨n, hn, rfl⟩ := Option.map_eq_some_iff.mp hx
          have hj : j < 4 := by
            have z := (List.getElem?_eq_some_iff.mp hn).1
            omega
          have wn := wo2 n (hnw n (List.mem_of_getElem? hn))
          refine ⟨_, rfl, slz rfl, fun qq hqq => ?_⟩
          have sq : Same H' (upd H' qq (.tup [.str "var", .str n])) := same_new hqq
          have e2 := e1.trans sq
          refine ⟨_, rfl, .ref qq, dy, .var n, ky, by', rfl, ⟨qq, rfl, upd_same⟩, fitV wn, e2 _ _ gy, ByAt.tups (same_tups e2) bty, fun H26 v6 s26 g6 => ?_⟩
          have sq26 := sq.trans s26
          have gD := sq26 _ _ g1
          have tu : Tups H26 (upd H26 D4 (.lst (vs ++ [v6]))) := Tups.put gD (by intro xs z; cases z)
          refine ⟨vs, gD, small1000 (by omega), fun b o e => ?_, vs ++ [v6], upd_same, ?_, by rw [List.length_append, g3]; rfl⟩
          · rw [upd_ne (ne_of_none e hD4)]
            exact sq26 _ _ (e1 _ _ e)
          · rw [List.take_add_one, hn]
            show KdsAt _ _ (List.map _ (an.take j ++ [n]))
            rw [List.map_append]
            exact Paired.snoc (KdsAt.tups ((same_tups sq26).trans tu) g2) (KdAt.tups tu g6)
        · have ea : an.take (an.map V.str).length = an := by rw [List.length_map, List.take_length]
          rw [ea] at g2
          have gD := s25 _ _ h1
          have tu : Tups H25 (upd H25 D (.lst (rows.map V.ref ++ [.ref D4]))) := Tups.put gD (by intro xs z; cases z)
          have hnew : (upd H25 D (.lst (rows.map V.ref ++ [.ref D4]))) D4 = some (.lst vs) := by
            rw [upd_ne nD4]
            exact g1
          have hold : ∀ (r : Addr) (b : By), (r ≠ D ∧ ∃ vs, H24 r = some (.lst vs) ∧ KdsAt H24 vs (an.map fun x => (Kd.var x).put b)) → r ≠ D ∧ ∃ vs, (upd H25 D (.lst (rows.map V.ref ++ [.ref D4]))) r = some (.lst vs) ∧ KdsAt (upd H25 D (.lst (rows.map V.ref ++ [.ref D4]))) vs (an.map fun x => (Kd.var x).put b) := fun r b ⟨n1, vs, h4, h5⟩ => ⟨n1, vs, by
            rw [upd_ne n1]
            exact s25 _ _ h4, KdsAt.tups ((same_tups s25).trans tu) h5⟩
          refine ⟨_, gD, small1000 (by rw [List.length_map]; omega), fun b o e => ?_, rows ++ [D4], by rw [upd_same, List.map_append]; rfl, by rw [List.length_append, h2]; rfl, ?_⟩
          · rw [upd_ne (ne_of_none e hD)]
            exact s25 _ _ (s24 _ _ e)
          · rw [List.take_add_one, eby]
            exact Paired.snoc (paired_map hold h3) ⟨nD4, vs, hnew, KdsAt.tups tu g2⟩
      rintro H23 ⟨s24, rows, h1, h2, h3⟩
      have h3' : Paired (fun r b => r ≠ D ∧ ∃ vs, H23 r = some (.lst vs) ∧ KdsAt H23 vs (an.map fun x => (Kd.var x).put b)) rows [b1, b2] := h3
      obtain ⟨ra, rb, rfl, ⟨_, va, ga, ka⟩, ⟨_, vb, gb, kb⟩⟩ : ∃ ra rb, rows = [ra, rb] ∧ (ra ≠ D ∧ ∃ vs, H23 ra = some (.lst vs) ∧ KdsAt H23 vs (an.map fun x => (Kd.var x).put b1)) ∧ (rb ≠ D ∧ ∃ vs, H23 rb = some (.lst vs) ∧ KdsAt H23 vs (an.map fun x => (Kd.var x).put b2)) := by
        cases h3' with
        | cons q1 r1 =>
          cases r1 with
          | cons q2 r2 =>
            cases r2
            exact ⟨_, _, rfl, q1, q2⟩
      have S23 := s22.trans s24
      refine ⟨_, rfl, _, _, _, _, rfl, rfl, SqL.of h1, rfl, _, rfl, _, _, _, _, rfl, rfl, SqL.of h1, rfl, ?_⟩
      refine ⟨ra, rb, va, vb, _, _, b1, b2, ws, rfl, SqL.of ga, SqL.of gb, ka, kb, by omega, by rw [List.length_map, List.length_map], fun i k1 k2 ek1 ek2 => ?_, fun H24 s25 => ?_⟩
      · rw [List.getElem?_map] at ek1 ek2
        obtain ⟨n, hn, rfl⟩ := Option.map_eq_some_iff.mp ek1
        rw [hn] at ek2
        cases ek2
        have nw := hnw n (List.mem_of_getElem? hn)
        have on : Org ws (.var n) := ⟨fitV (wo2 n nw), by show 1 ≤ 25; decide, nw⟩
        exact ⟨ab2 _, ab1 _, ut.bigOf on, ud.bigOf on, (ut.big on).1, (ud.big on).1⟩
      refine ⟨_, rfl, iF rfl ?_⟩
      exact ⟨_, _, _, _, _, _, _, _, _, _, _, rfl, T21.same (S23.trans s25)⟩
  · exact k _
end
end L3

namespace L3
open PySem L2
theorem all_mk {l : PySem.W.OpenLaw} {w : World} {K : PySem.W.Frag} {h : Heap} {mg : Str → Option Value} {fa f1 f2 f3 f4 f5 f6 f7 f8 f9 f10 f11 f12 f13 f14 f15 f16 f17 f18 : Addr} (X : K.In h) (G : h.Ns mainGlobals mg) (hfa : mg "law" = some (.ref fa))
    {od1 an1 od2 an2 od3 an3 od4 an4 od5 an5 od6 an6 od7 an7 od8 an8 od9 an9 od10 an10 od11 an11 od12 an12 od13 an13 od14 an14 od15 an15 od16 an16 od17 an17 od18 an18 : Option Addr} {sl1 sl2 sl3 sl4 sl5 sl6 sl7 sl8 sl9 sl10 sl11 sl12 sl13 sl14 sl15 sl16 sl17 sl18 : Array (Option Value)} {oc1 kV1 dc1 pm1 cd1 ct1 oc2 kV2 dc2 pm2 cd2 ct2 oc3 kV3 dc3 pm3 cd3 ct3 oc4 kV4 dc4 pm4 cd4 ct4 oc5 kV5 dc5 pm5 cd5 ct5 oc6 kV6 dc6 pm6 cd6 ct6 oc7 kV7 dc7 pm7 cd7 ct7 oc8 kV8 dc8 pm8 cd8 ct8 oc9 kV9 dc9 pm9 cd9 ct9 oc10 kV10 dc10 pm10 cd10 ct10 oc11 kV11 dc11 pm11 cd11 ct11 oc12 kV12 dc12 pm12 cd12 ct12 oc13 kV13 dc13 pm13 cd13 ct13 oc14 kV14 dc14 pm14 cd14 ct14 oc15 kV15 dc15 pm15 cd15 ct15 oc16 kV16 dc16 pm16 cd16 ct16 oc17 kV17 dc17 pm17 cd17 ct17 oc18 kV18 dc18 pm18 cd18 ct18 : Value}
    (a1 : PySem.W.nsIn K mainGlobals "unite" = some (some (.ref f1))) (l1 : K.lookup f1 = some ⟨oc1, od1, .func (PySem.W.fnOf "unite" "unite" (defArgs s_unite) (defBody s_unite) (defScope s_unite) .none kV1 dc1 pm1 an1 cd1 ct1), sl1⟩) (c1 : PySem.W.codeIn K cd1 "unite" = true) (k1 : PySem.W.keepIn K (.ref f1) = true)
    (a2 : PySem.W.nsIn K mainGlobals "unite_beside" = some (some (.ref f2))) (l2 : K.lookup f2 = some ⟨oc2, od2, .func (PySem.W.fnOf "unite_beside" "unite_beside" (defArgs s_unite_beside) (defBody s_unite_beside) (defScope s_unite_beside) .none kV2 dc2 pm2 an2 cd2 ct2), sl2⟩) (c2 : PySem.W.codeIn K cd2 "unite_beside" = true) (k2 : PySem.W.keepIn K (.ref f2) = true)
    (a3 : PySem.W.nsIn K mainGlobals "is_free" = some (some (.ref f3))) (l3 : K.lookup f3 = some ⟨oc3, od3, .func (PySem.W.fnOf "is_free" "is_free" (defArgs s_is_free) (defBody s_is_free) (defScope s_is_free) .none kV3 dc3 pm3 an3 cd3 ct3), sl3⟩) (c3 : PySem.W.codeIn K cd3 "is_free" = true) (k3 : PySem.W.keepIn K (.ref f3) = true)
    (a4 : PySem.W.nsIn K mainGlobals "followed" = some (some (.ref f4))) (l4 : K.lookup f4 = some ⟨oc4, od4, .func (PySem.W.fnOf "followed" "followed" (defArgs s_followed) (defBody s_followed) (defScope s_followed) .none kV4 dc4 pm4 an4 cd4 ct4), sl4⟩) (c4 : PySem.W.codeIn K cd4 "followed" = true) (k4 : PySem.W.keepIn K (.ref f4) = true)
    (a5 : PySem.W.nsIn K mainGlobals "stands_in" = some (some (.ref f5))) (l5 : K.lookup f5 = some ⟨oc5, od5, .func (PySem.W.fnOf "stands_in" "stands_in" (defArgs s_stands_in) (defBody s_stands_in) (defScope s_stands_in) .none kV5 dc5 pm5 an5 cd5 ct5), sl5⟩) (c5 : PySem.W.codeIn K cd5 "stands_in" = true) (k5 : PySem.W.keepIn K (.ref f5) = true)
    (a6 : PySem.W.nsIn K mainGlobals "resolved" = some (some (.ref f6))) (l6 : K.lookup f6 = some ⟨oc6, od6, .func (PySem.W.fnOf "resolved" "resolved" (defArgs s_resolved) (defBody s_resolved) (defScope s_resolved) .none kV6 dc6 pm6 an6 cd6 ct6), sl6⟩) (c6 : PySem.W.codeIn K cd6 "resolved" = true) (k6 : PySem.W.keepIn K (.ref f6) = true)
    (a7 : PySem.W.nsIn K mainGlobals "_law_begin" = some (some (.ref f7))) (l7 : K.lookup f7 = some ⟨oc7, od7, .func (PySem.W.fnOf "_law_begin" "_law_begin" (defArgs s__law_begin) (defBody s__law_begin) (defScope s__law_begin) .none kV7 dc7 pm7 an7 cd7 ct7), sl7⟩) (c7 : PySem.W.codeIn K cd7 "_law_begin" = true) (k7 : PySem.W.keepIn K (.ref f7) = true)
    (a8 : PySem.W.nsIn K mainGlobals "_law_draw" = some (some (.ref f8))) (l8 : K.lookup f8 = some ⟨oc8, od8, .func (PySem.W.fnOf "_law_draw" "_law_draw" (defArgs s__law_draw) (defBody s__law_draw) (defScope s__law_draw) .none kV8 dc8 pm8 an8 cd8 ct8), sl8⟩) (c8 : PySem.W.codeIn K cd8 "_law_draw" = true) (k8 : PySem.W.keepIn K (.ref f8) = true)
    (a9 : PySem.W.nsIn K mainGlobals "_law_pick" = some (some (.ref f9))) (l9 : K.lookup f9 = some ⟨oc9, od9, .func (PySem.W.fnOf "_law_pick" "_law_pick" (defArgs s__law_pick) (defBody s__law_pick) (defScope s__law_pick) .none kV9 dc9 pm9 an9 cd9 ct9), sl9⟩) (c9 : PySem.W.codeIn K cd9 "_law_pick" = true) (k9 : PySem.W.keepIn K (.ref f9) = true)
    (a10 : PySem.W.nsIn K mainGlobals "_law_words" = some (some (.ref f10))) (l10 : K.lookup f10 = some ⟨oc10, od10, .func (PySem.W.fnOf "_law_words" "_law_words" (defArgs s__law_words) (defBody s__law_words) (defScope s__law_words) .none kV10 dc10 pm10 an10 cd10 ct10), sl10⟩) (c10 : PySem.W.codeIn K cd10 "_law_words" = true) (k10 : PySem.W.keepIn K (.ref f10) = true)
    (a11 : PySem.W.nsIn K mainGlobals "_law_con" = some (some (.ref f11))) (l11 : K.lookup f11 = some ⟨oc11, od11, .func (PySem.W.fnOf "_law_con" "_law_con" (defArgs s__law_con) (defBody s__law_con) (defScope s__law_con) .none kV11 dc11 pm11 an11 cd11 ct11), sl11⟩) (c11 : PySem.W.codeIn K cd11 "_law_con" = true) (k11 : PySem.W.keepIn K (.ref f11) = true)
    (a12 : PySem.W.nsIn K mainGlobals "_law_put" = some (some (.ref f12))) (l12 : K.lookup f12 = some ⟨oc12, od12, .func (PySem.W.fnOf "_law_put" "_law_put" (defArgs s__law_put) (defBody s__law_put) (defScope s__law_put) .none kV12 dc12 pm12 an12 cd12 ct12), sl12⟩) (c12 : PySem.W.codeIn K cd12 "_law_put" = true) (k12 : PySem.W.keepIn K (.ref f12) = true)
    (a13 : PySem.W.nsIn K mainGlobals "_law_vars" = some (some (.ref f13))) (l13 : K.lookup f13 = some ⟨oc13, od13, .func (PySem.W.fnOf "_law_vars" "_law_vars" (defArgs s__law_vars) (defBody s__law_vars) (defScope s__law_vars) .none kV13 dc13 pm13 an13 cd13 ct13), sl13⟩) (c13 : PySem.W.codeIn K cd13 "_law_vars" = true) (k13 : PySem.W.keepIn K (.ref f13) = true)
    (a14 : PySem.W.nsIn K mainGlobals "_law_letter_kind" = some (some (.ref f14))) (l14 : K.lookup f14 = some ⟨oc14, od14, .func (PySem.W.fnOf "_law_letter_kind" "_law_letter_kind" (defArgs s__law_letter_kind) (defBody s__law_letter_kind) (defScope s__law_letter_kind) .none kV14 dc14 pm14 an14 cd14 ct14), sl14⟩) (c14 : PySem.W.codeIn K cd14 "_law_letter_kind" = true) (k14 : PySem.W.keepIn K (.ref f14) = true)
    (a15 : PySem.W.nsIn K mainGlobals "_law_solve" = some (some (.ref f15))) (l15 : K.lookup f15 = some ⟨oc15, od15, .func (PySem.W.fnOf "_law_solve" "_law_solve" (defArgs s__law_solve) (defBody s__law_solve) (defScope s__law_solve) .none kV15 dc15 pm15 an15 cd15 ct15), sl15⟩) (c15 : PySem.W.codeIn K cd15 "_law_solve" = true) (k15 : PySem.W.keepIn K (.ref f15) = true)
    (a16 : PySem.W.nsIn K mainGlobals "_law_renamed" = some (some (.ref f16))) (l16 : K.lookup f16 = some ⟨oc16, od16, .func (PySem.W.fnOf "_law_renamed" "_law_renamed" (defArgs s__law_renamed) (defBody s__law_renamed) (defScope s__law_renamed) .none kV16 dc16 pm16 an16 cd16 ct16), sl16⟩) (c16 : PySem.W.codeIn K cd16 "_law_renamed" = true) (k16 : PySem.W.keepIn K (.ref f16) = true)
    (a17 : PySem.W.nsIn K mainGlobals "_law_pairs_drawn" = some (some (.ref f17))) (l17 : K.lookup f17 = some ⟨oc17, od17, .func (PySem.W.fnOf "_law_pairs_drawn" "_law_pairs_drawn" (defArgs s__law_pairs_drawn) (defBody s__law_pairs_drawn) (defScope s__law_pairs_drawn) .none kV17 dc17 pm17 an17 cd17 ct17), sl17⟩) (c17 : PySem.W.codeIn K cd17 "_law_pairs_drawn" = true) (k17 : PySem.W.keepIn K (.ref f17) = true)
    (a18 : PySem.W.nsIn K mainGlobals "law" = some (some (.ref f18))) (l18 : K.lookup f18 = some ⟨oc18, od18, .func (PySem.W.fnOf "law" "law" (defArgs s_law) (defBody s_law) (defScope s_law) .none kV18 dc18 pm18 an18 cd18 ct18), sl18⟩) (c18 : PySem.W.codeIn K cd18 "law" = true) (k18 : PySem.W.keepIn K (.ref f18) = true)
    (z0 : PySem.W.nsIn K mainGlobals "len" = some none) (z1 : PySem.W.nsIn K mainGlobals "int" = some none) (z2 : PySem.W.nsIn K mainGlobals "list" = some none) (z3 : PySem.W.nsIn K mainGlobals "tuple" = some none) (z4 : PySem.W.nsIn K mainGlobals "dict" = some none) (z5 : PySem.W.nsIn K mainGlobals "repr" = some none) (z6 : PySem.W.nsIn K mainGlobals "range" = some none) (z7 : PySem.W.nsIn K mainGlobals "zip" = some none) (z8 : PySem.W.nsIn K mainGlobals "sorted" = some none) (z9 : PySem.W.nsIn K mainGlobals "set" = some none) (z10 : PySem.W.nsIn K mainGlobals "sum" = some none) :
    ∃ fd : FuncData, (∀ (s : Shared) (v : Value), BindsTo s fd ⟨[v], []⟩ [("_law_script", v)]) ∧ ∀ base : Heap, K.In base → base.Ns mainGlobals mg → LawRun l.prog w K mg base fa fd "_law_script" (spLaw K) := by
  have e := hfa.symm.trans (PySem.W.mg_of X G a18)
  cases e
  have B : Bl mg := ⟨PySem.W.mg_none_of X G z0, PySem.W.mg_none_of X G z1, PySem.W.mg_none_of X G z2, PySem.W.mg_none_of X G z3, PySem.W.mg_none_of X G z4, PySem.W.mg_none_of X G z5, PySem.W.mg_none_of X G z6, PySem.W.mg_none_of X G z7, PySem.W.mg_none_of X G z8⟩
  have B7 : Bl7 mg := ⟨PySem.W.mg_none_of X G z9, PySem.W.mg_none_of X G z10⟩
  have F1 := fun_mk (st := s_unite) l1 c1 k1
  have m1 := PySem.W.mg_of X G a1
  have F2 := fun_mk (st := s_unite_beside) l2 c2 k2
  have m2 := PySem.W.mg_of X G a2
  have F3 := fun_mk (st := s_is_free) l3 c3 k3
  have m3 := PySem.W.mg_of X G a3
  have F4 := fun_mk (st := s_followed) l4 c4 k4
  have m4 := PySem.W.mg_of X G a4
  have F5 := fun_mk (st := s_stands_in) l5 c5 k5
  have m5 := PySem.W.mg_of X G a5
  have F6 := fun_mk (st := s_resolved) l6 c6 k6
  have m6 := PySem.W.mg_of X G a6
  have F7 := fun_mk (st := s__law_begin) l7 c7 k7
  have m7 := PySem.W.mg_of X G a7
  have F8 := fun_mk (st := s__law_draw) l8 c8 k8
  have m8 := PySem.W.mg_of X G a8
  have F9 := fun_mk (st := s__law_pick) l9 c9 k9
  have m9 := PySem.W.mg_of X G a9
  have F10 := fun_mk (st := s__law_words) l10 c10 k10
  have m10 := PySem.W.mg_of X G a10
  have F11 := fun_mk (st := s__law_con) l11 c11 k11
  have m11 := PySem.W.mg_of X G a11
  have F12 := fun_mk (st := s__law_put) l12 c12 k12
  have m12 := PySem.W.mg_of X G a12
  have F13 := fun_mk (st := s__law_vars) l13 c13 k13
  have m13 := PySem.W.mg_of X G a13
  have F14 := fun_mk (st := s__law_letter_kind) l14 c14 k14
  have m14 := PySem.W.mg_of X G a14
  have F15 := fun_mk (st := s__law_solve) l15 c15 k15
  have m15 := PySem.W.mg_of X G a15
  have F16 := fun_mk (st := s__law_renamed) l16 c16 k16
  have m16 := PySem.W.mg_of X G a16
  have F17 := fun_mk (st := s__law_pairs_drawn) l17 c17 k17
  have m17 := PySem.W.mg_of X G a17
  have F18 := fun_mk (st := s_law) l18 c18 k18
  have m18 := PySem.W.mg_of X G a18
  refine ⟨PySem.W.fnOf "law" "law" (defArgs s_law) (defBody s_law) (defScope s_law) .none kV18 dc18 pm18 an18 cd18 ct18, fun s v => .of_eq rfl, fun base _ _ => ?_⟩
  have Dfol := Fun.kn (P := l.prog) (w := w) (base := base) (k := 1) F4 m4 (ok_followed F4) fun _ _ _ _ _ _ us hl => match us, hl with | [_, _], _ => rfl
  have Dfree := Fun.kn (P := l.prog) (w := w) (base := base) (k := 1) F3 m3 (ok_free F3) fun _ _ _ _ _ _ us hl => match us, hl with | [_, _], _ => rfl
  have Dstand := Fun.kn (P := l.prog) (w := w) (base := base) (k := 1) F5 m5 (ok_stand F5 B7) fun _ _ _ _ _ _ us hl => match us, hl with | [_, _, _], _ => rfl
  have Dres := Fun.kn (P := l.prog) (w := w) (base := base) (k := 25) F6 m6 (ok_res F6 m6 24) fun _ _ _ _ _ _ us hl => match us, hl with | [_, _], _ => rfl
  have Dub := Fun.kn (P := l.prog) (w := w) (base := base) (k := 26) F2 m2 (ok_ub F2 Dfol Dfree Dstand Dres) fun _ _ _ _ _ _ us hl => match us, hl with | [_, _], _ => rfl
  have Dunite := Fun.kn (P := l.prog) (w := w) (base := base) (k := 27) F1 m1 (ok_unite F1 Dub) fun _ _ _ _ _ _ us hl => match us, hl with | [_], _ => rfl
  have Dbegin := Fun.kn (P := l.prog) (w := w) (base := base) (k := 1) F7 m7 (ok_begin F7) fun _ _ _ _ _ _ us hl => match us, hl with | [_], _ => rfl
  have Ddraw := Fun.kn (P := l.prog) (w := w) (base := base) (k := 1) F8 m8 (ok_draw F8 B) fun _ _ _ _ _ _ us hl => match us, hl with | [_, _], _ => rfl
  have Dpick := Fun.kn (P := l.prog) (w := w) (base := base) (k := 2) F9 m9 (ok_pick F9 B Ddraw) fun _ _ _ _ _ _ us hl => match us, hl with | [_, _], _ => rfl
  have Dwords := Fun.kn (P := l.prog) (w := w) (base := base) (k := 3) F10 m10 (ok_words F10 B Ddraw Dpick) fun _ _ _ _ _ _ us hl => match us, hl with | [_, _], _ => rfl
  have Dlcon := Fun.kn (P := l.prog) (w := w) (base := base) (k := 1) F11 m11 (ok_con F11) fun _ _ _ _ _ _ us hl => match us, hl with | [_, _], _ => rfl
  have Dlput := Fun.kn (P := l.prog) (w := w) (base := base) (k := 21) F12 m12 (ok_put F12 m12 20) fun _ _ _ _ _ _ us hl => match us, hl with | [_, _], _ => rfl
  have Dvars := Fun.kn (P := l.prog) (w := w) (base := base) (k := 1) F13 m13 (ok_vars F13 B) fun _ _ _ _ _ _ us hl => match us, hl with | [_], _ => rfl
  have okl := fun n => ok_letter (P := l.prog) (w := w) (base := base) F14 m14 B Ddraw Dpick Dlcon n
  have Dls := Fun.kn (P := l.prog) (w := w) (base := base) (k := 5) F14 m14 (fn_ls fun n hn => (okl n).mono (by omega)) fun _ _ _ _ _ _ us hl => match us, hl with | [_, _, _, _], _ => rfl
  have Dsolve := Fun.kn (P := l.prog) (w := w) (base := base) (k := 22) F15 m15 (ok_solve F15 B Dlput Dvars) fun _ _ _ _ _ _ us hl => match us, hl with | [_], _ => rfl
  have Dren := Fun.kn (P := l.prog) (w := w) (base := base) (k := 1) F16 m16 (ok_ren F16 B) fun _ _ _ _ _ _ us hl => match us, hl with | [_, _], _ => rfl
  have Dpd := Fun.kn (P := l.prog) (w := w) (base := base) (k := 22) F17 m17 (ok_pd F17 B Ddraw Dls Dlput) fun _ _ _ _ _ _ us hl => match us, hl with | [_, _, _], _ => rfl
  exact law_run F18 B B7 Dbegin Ddraw Dwords Dpd Dsolve Dunite Dlput Dvars Dren
end L3

open PySem PySem.W PyProof.Rows in
set_option maxRecDepth 100000 in
set_option maxHeartbeats 0 in
theorem PySem.Challenge.cw_leastneeds_k07_whole_most_general_ways_holds : PySem.Challenge.rw_leastneeds_k07_whole_most_general_ways.Holds := by
  w_on; o_law; k_head; (case hw => w_witness2)
  k_fill
  refine L3.walkG (l := PySem.Challenge.rw_leastneeds_k07_whole_most_general_ways) (n := 63) (x := "_law_script") (sp := L3.spLaw) rfl (by decide) rfl (fun w h Y => PySem.W.kIn_of Y) ?F (fun K H a ns _ hS => ⟨a, ns, rfl, hS, fun _ => rfl⟩)
  case F =>
    intro w mg fa h KX G hmg
    refine' L3.all_mk KX G hmg ?a1 ?l1 ?c1 ?k1 ?a2 ?l2 ?c2 ?k2 ?a3 ?l3 ?c3 ?k3 ?a4 ?l4 ?c4 ?k4 ?a5 ?l5 ?c5 ?k5 ?a6 ?l6 ?c6 ?k6 ?a7 ?l7 ?c7 ?k7 ?a8 ?l8 ?c8 ?k8 ?a9 ?l9 ?c9 ?k9 ?a10 ?l10 ?c10 ?k10 ?a11 ?l11 ?c11 ?k11 ?a12 ?l12 ?c12 ?k12 ?a13 ?l13 ?c13 ?k13 ?a14 ?l14 ?c14 ?k14 ?a15 ?l15 ?c15 ?k15 ?a16 ?l16 ?c16 ?k16 ?a17 ?l17 ?c17 ?k17 ?a18 ?l18 ?c18 ?k18 ?z0 ?z1 ?z2 ?z3 ?z4 ?z5 ?z6 ?z7 ?z8 ?z9 ?z10
    (case a1 => k_is)
    (case l1 => k_is)
    (case c1 => k_is)
    (case k1 => k_is)
    (case a2 => k_is)
    (case l2 => k_is)
    (case c2 => k_is)
    (case k2 => k_is)
    (case a3 => k_is)
    (case l3 => k_is)
    (case c3 => k_is)
    (case k3 => k_is)
    (case a4 => k_is)
    (case l4 => k_is)
    (case c4 => k_is)
    (case k4 => k_is)
    (case a5 => k_is)
    (case l5 => k_is)
    (case c5 => k_is)
    (case k5 => k_is)
    (case a6 => k_is)
    (case l6 => k_is)
    (case c6 => k_is)
    (case k6 => k_is)
    (case a7 => k_is)
    (case l7 => k_is)
    (case c7 => k_is)
    (case k7 => k_is)
    (case a8 => k_is)
    (case l8 => k_is)
    (case c8 => k_is)
    (case k8 => k_is)
    (case a9 => k_is)
    (case l9 => k_is)
    (case c9 => k_is)
    (case k9 => k_is)
    (case a10 => k_is)
    (case l10 => k_is)
    (case c10 => k_is)
    (case k10 => k_is)
    (case a11 => k_is)
    (case l11 => k_is)
    (case c11 => k_is)
    (case k11 => k_is)
    (case a12 => k_is)
    (case l12 => k_is)
    (case c12 => k_is)
    (case k12 => k_is)
    (case a13 => k_is)
    (case l13 => k_is)
    (case c13 => k_is)
    (case k13 => k_is)
    (case a14 => k_is)
    (case l14 => k_is)
    (case c14 => k_is)
    (case k14 => k_is)
    (case a15 => k_is)
    (case l15 => k_is)
    (case c15 => k_is)
    (case k15 => k_is)
    (case a16 => k_is)
    (case l16 => k_is)
    (case c16 => k_is)
    (case k16 => k_is)
    (case a17 => k_is)
    (case l17 => k_is)
    (case c17 => k_is)
    (case k17 => k_is)
    (case a18 => k_is)
    (case l18 => k_is)
    (case c18 => k_is)
    (case k18 => k_is)
    (case z0 => k_is)
    (case z1 => k_is)
    (case z2 => k_is)
    (case z3 => k_is)
    (case z4 => k_is)
    (case z5 => k_is)
    (case z6 => k_is)
    (case z7 => k_is)
    (case z8 => k_is)
    (case z9 => k_is)
    (case z10 => k_is)
