import PyProof.Rows.All
import Wide.All
import OpenK.AllK
import Wide.FinOn
import HandS.ForMost
import HandS.Flow
import HandS.Small
import HandS.SetKeys
import HandS.Zip
import HandS.Style
import HandS.More
import HandS.Deep
import HandS.Rev
import HandS.Walk
import HandS.DictComp
import PySem.Challenge.RW_leastneeds_k05_kinds_made_and_measured
import HandS.Star
import HandS.Conv
import KE.KDictList
import KE.KDictZip
import HandS.ListItems
import PyProof.ReprLen
import PyProof.StrLawsRepr
import PyProof.Rows.StrMeet
import HandS.NoneIn
set_option Elab.async false
set_option linter.all false
set_option maxRecDepth 100000
set_option maxHeartbeats 4000000
namespace L3
open PySem L2
/-! ### a def that is known by its name -/
section
variable {P : Program} {w : World} {K : PySem.W.Frag} {mg : Str → Option Value} {base : Heap}
structure Kn (P : Program) (w : World) (K : PySem.W.Frag) (mg : Str → Option Value) (base : Heap) (k : Nat) (x : Str) (ps : List Str) (sp : Sp) : Prop where
  ex : ∃ (f : Addr) (fd : FuncData), FnOk P w K mg base CX0 k f fd ps sp ∧ mg x = some (.ref f) ∧ PySem.W.keepIn K (.ref f) = true ∧ Binds K fd ps []
end
section
variable {X : Cx} {x : Str} {k : Nat} {ps : List Str} {sp : Sp} {e : Expr} {es : List Expr} {t : TA} {p pos : Pos}
theorem pe_kn (D : Kn X.prog X.w X.K X.mg X.base k x ps sp) (hr : Room k X.A) (ha : PA X (e :: es) t) (hg : Gl X x := by rfl) (hdb : (x == ("__debug__" : Str)) = false := by decide)
    (he : starEach (e :: es) X.env = (false, eval e X.env) :: starEach es X.env := by rfl) (hpl : (backTo pos (starEach es X.env)).any (·.1) = false := by rfl) :
    PE X (.Call (.Name x p) (e :: es) [] pos) (tCall sp [] E0 t) := by
  obtain ⟨f, fd, F, hm, hk, hb⟩ := D.ex
  exact pe_call F hr hg hm hk hb .nil pass0 ha hdb he hpl
theorem pe_kn0 (D : Kn X.prog X.w X.K X.mg X.base k x ps sp) (hr : Room k X.A) (hg : Gl X x := by rfl) (hdb : (x == ("__debug__" : Str)) = false := by decide) :
    PE X (.Call (.Name x p) [] [] pos) (tCall sp [] E0 tNil) := by
  obtain ⟨f, fd, F, hm, hk, hb⟩ := D.ex
  exact pe_call0 F hr hg hm hk hb .nil pass0 hdb
end
/-- built-in names that the text leaves alone -/
structure Bl (mg : Str → Option Value) : Prop where
  len : mg "len" = none
  int : mg "int" = none
  list : mg "list" = none
  tuple : mg "tuple" = none
  dict : mg "dict" = none
  repr : mg "repr" = none
  range : mg "range" = none
  zip : mg "zip" = none
  sorted : mg "sorted" = none

/-! ### the tape -/
/-- all but the object at t is kept -/
def Ext (t : Addr) (H H' : Hp) : Prop := ∀ b o, b ≠ t → H b = some o → H' b = some o
theorem Ext.refl (t : Addr) (H : Hp) : Ext t H H := fun _ _ _ h => h
theorem Ext.trans {t : Addr} {H H1 H2 : Hp} (a : Ext t H H1) (b : Ext t H1 H2) : Ext t H H2 := fun c o n h => b c o n (a c o n h)
theorem Ext.new {t p : Addr} {H : Hp} {o : HO} (h : H p = none) : Ext t H (upd H p o) := fun b u _ e => by
  rw [upd_ne (ne_of_none e h)]
  exact e
theorem Ext.put {t : Addr} {H : Hp} {o : HO} : Ext t H (upd H t o) := fun b u n e => by
  rw [upd_ne n]
  exact e
theorem same_ext {t : Addr} {H H' : Hp} (h : Same H H') : Ext t H H' := fun b o _ e => h b o e
theorem same_new {p : Addr} {H : Hp} {o : HO} (h : H p = none) : Same H (upd H p o) := fun b u e => by
  rw [upd_ne (ne_of_none e h)]
  exact e
def tp (c : Addr) (p l : Int) : List (Key × V) := [(.inr "cells", .ref c), (.inr "place", .int p), (.inr "left", .int l)]
theorem tp_cells (c : Addr) (p l : Int) : valV (tp c p l) (.inr "cells") = some (.ref c) := by rfl
theorem tp_place (c : Addr) (p l : Int) : valV (tp c p l) (.inr "place") = some (.int p) := by rfl
theorem tp_left (c : Addr) (p l : Int) : valV (tp c p l) (.inr "left") = some (.int l) := by rfl
theorem tp_putP (c : Addr) (p l q : Int) : putK (tp c p l) (.inr "place") (.int q) = tp c q l := by rfl
theorem tp_putL (c : Addr) (p l q : Int) : putK (tp c p l) (.inr "left") (.int q) = tp c p q := by rfl
/-- at t a tape stands, its cells at c, from which b more cells may be taken -/
def Tape (K : PySem.W.Frag) (H : Hp) (t c : Addr) (b : Nat) : Prop :=
  ∃ (p l : Int) (ns : List Int), H t = some (.dK (tp c p l)) ∧ SqL K H c (ns.map V.int) ∧ c ≠ t ∧ 0 < ns.length ∧ ns.length ≤ 63 ∧ 0 ≤ p ∧ p + b ≤ 1000000 ∧ 0 ≤ l
theorem Tape.less {K : PySem.W.Frag} {H : Hp} {t c : Addr} {b b' : Nat} (h : Tape K H t c b) (hb : b' ≤ b) : Tape K H t c b' := by
  obtain ⟨p, l, ns, h1, h2, h3, h4, h5, h6, h7, h8⟩ := h
  exact ⟨p, l, ns, h1, h2, h3, h4, h5, h6, by omega, h8⟩
theorem SqL.same {K : PySem.W.Frag} {H H' : Hp} {a : Addr} {xs : List V} (h : SqL K H a xs) (k : ∀ o, H a = some o → H' a = some o) : SqL K H' a xs := by
  rcases h with (h | ⟨o, h⟩) | h
  · exact .inl (.inl (k _ h))
  · exact .inl (.inr ⟨o, k _ h⟩)
  · exact .inr h
theorem SqL.ext {K : PySem.W.Frag} {t : Addr} {H H' : Hp} {a : Addr} {xs : List V} (h : SqL K H a xs) (e : Ext t H H') (n : a ≠ t) : SqL K H' a xs := SqL.same h fun o q => e a o n q
/-- the tape is untouched -/
theorem Tape.same {K : PySem.W.Frag} {H H' : Hp} {t c : Addr} {b : Nat} (h : Tape K H t c b) (k : Same H H') : Tape K H' t c b := by
  obtain ⟨p, l, ns, h1, h2, h3, h4, h5, h6, h7, h8⟩ := h
  exact ⟨p, l, ns, k _ _ h1, k.seq h2, h3, h4, h5, h6, h7, h8⟩
theorem Tape.new {K : PySem.W.Frag} {H : Hp} {t c : Addr} {b : Nat} {q : Addr} {o : HO} (h : Tape K H t c b) (n : H q = none) : Tape K (upd H q o) t c b := h.same (same_new n)
theorem Tape.dict {K : PySem.W.Frag} {H : Hp} {t c : Addr} {b : Nat} (h : Tape K H t c b) : ∃ kvs, H t = some (.dK kvs) := by
  obtain ⟨p, l, ns, h1, _⟩ := h
  exact ⟨_, h1⟩
theorem Tape.ne {K : PySem.W.Frag} {H : Hp} {t c : Addr} {b : Nat} (h : Tape K H t c b) {l : Addr} (n : H l = none) : l ≠ t := fun e => by
  obtain ⟨kvs, q⟩ := h.dict
  rw [e, q] at n
  cases n
theorem Ext.free {t : Addr} {H H' : Hp} (e : Ext t H H') {l : Addr} (n : l ≠ t) (h : H' l = none) : H l = none := by
  cases q : H l with
  | none => rfl
  | some o =>
    rw [e l o n q] at h
    cases h
/-- an object D that was not there at H0 is stored into -/
theorem Tape.put {K : PySem.W.Frag} {H0 H : Hp} {t c : Addr} {b0 b : Nat} {D : Addr} {o : HO} (h0 : Tape K H0 t c b0) (e : Ext t H0 H) (h : Tape K H t c b) (n : H0 D = none) : Tape K (upd H D o) t c b := by
  have nt : t ≠ D := (h0.ne n).symm
  obtain ⟨_, _, ns, _, g2, g3, g4, g5, _⟩ := h0
  obtain ⟨p, l, _, h1, _, _, _, _, h6, h7, h8⟩ := h
  refine ⟨p, l, ns, by rw [upd_ne nt]; exact h1, SqL.same g2 fun u q => ?_, g3, g4, g5, h6, h7, h8⟩
  rw [upd_ne (ne_of_none q n)]
  exact e _ _ g3 q
theorem Ext.upd {t : Addr} {H0 H : Hp} {D : Addr} {o : HO} (e : Ext t H0 H) (n : H0 D = none) : Ext t H0 (upd H D o) := fun q u h1 h2 => by
  rw [upd_ne (ne_of_none h2 n)]
  exact e q u h1 h2
end L3

set_option maxHeartbeats 4000000
/-! walks: reversed(tuple); dict comprehensions over any walk -/
namespace L3
open PySem L2 RT
theorem walk_revT {K : PySem.W.Frag} {a : Addr} {xs : List V} : Walk (ItvT K a xs.length) xs.length (fun H => SqT K H a xs) (fun i H x H' => H' = H ∧ xs[xs.length - 1 - i]? = some x) :=
  ⟨fun i _ hi q => ⟨hi, xs, xs[xs.length - 1 - i]'(by omega), q, by simp [show xs.length - 1 - i < xs.length by omega]⟩, fun _ _ => Nat.le_refl _, fun _ _ _ _ _ q y => ⟨y.1, y.2 xs q⟩⟩
theorem rev_at {α : Type} {xs : List α} {i : Nat} {y : α} (hi : i < xs.length) (h : xs[xs.length - 1 - i]? = some y) : xs.reverse[i]? = some y := by
  rw [List.getElem?_reverse hi]
  exact h
theorem dc_it {J : It} {n : Nat} {G : Hp → Prop} {Y : Nat → Hp → V → Hp → Prop} (w : Walk J n G Y) {g : TG} {tt : TT} {tk tv : TE} {vs : List Nat} {σ : L2.St} {H1 : Hp} {D : Addr} {Qd : Hp → Prop} (Pv : Nat → Hp → Prop) (h0 : Pv 0 (upd H1 D (.dK []))) (hG : ∀ i H, i ≤ n → Pv i H → G H)
    (hs : ∀ i x H H', i < n → Pv i H → Y i H x H' → g x (wipe σ vs) H' fun σ2 H2 => wipe σ2 vs = wipe σ vs ∧ tt σ2 H2 fun b H3 =>
      if b = true then tk σ2 H3 fun y H4 => tv σ2 H4 fun z H5 => ∃ kvs k, y = kV k ∧ H5 D = some (.dK kvs) ∧ kvs.length < sizeLine ∧ Pv (i + 1) (upd H5 D (.dK (putK kvs k z))) else Pv (i + 1) H3) (hd : ∀ H, Pv n H → Qd H) :
    ∃ W : Nat → Nat → Hp → Prop, (∃ m, W 0 m (upd H1 D (.dK []))) ∧ ∀ i m H, W i m H →
      (J.stop i H ∧ Qd H) ∨ (J.go i H ∧ ∃ Nx : Hp → Prop, (∀ H', Nx H' → ∃ m', m' < m ∧ W (i + 1) m' H') ∧ ∀ x H', J.yld i H x H' → g x (wipe σ vs) H' fun σ2 H2 => wipe σ2 vs = wipe σ vs ∧ tt σ2 H2 fun b H3 =>
        if b = true then tk σ2 H3 fun y H4 => tv σ2 H4 fun z H5 => ∃ kvs k, y = kV k ∧ H5 D = some (.dK kvs) ∧ kvs.length < sizeLine ∧ Nx (upd H5 D (.dK (putK kvs k z))) else Nx H3) := by
  refine ⟨fun i m H => m = n - i ∧ i ≤ n ∧ Pv i H, ⟨n, by simp, Nat.zero_le _, h0⟩, ?_⟩
  rintro i m H ⟨rfl, hi, p⟩
  have q := hG i H hi p
  by_cases hlt : i < n
  · exact .inr ⟨w.goes i H hlt q, Pv (i + 1), fun H' p' => ⟨n - (i + 1), by omega, rfl, hlt, p'⟩, fun x H' y => hs i x H H' hlt p (w.yields i H x H' hlt q y)⟩
  · have e : i = n := by omega
    subst e
    exact .inl ⟨w.stops H q, hd H p⟩
end L3

namespace L3
open PySem L2
theorem slz {n : Nat} (h : Nat.ble n 1000 = true) : n ≤ sizeLine := Nat.le_of_lt (small1000 (Nat.le_of_ble_eq_true h))
theorem iT {c : Bool} {A B : Prop} (h : c = true) (a : A) : if c = true then A else B := by
  rw [if_pos h]
  exact a
theorem iF {c : Bool} {A B : Prop} (h : c = false) (b : B) : if c = true then A else B := by
  rw [h]
  exact iteF b
theorem tg_aa : decide (V.str ("apply" : Str) = V.str ("apply" : Str)) = true := decide_eq_true rfl
theorem tg_va : decide (V.str ("var" : Str) = V.str ("apply" : Str)) = false := by decide +kernel
theorem tg_ca : decide (V.str ("con" : Str) = V.str ("apply" : Str)) = false := by decide +kernel
theorem tg_vv : decide (V.str ("var" : Str) = V.str ("var" : Str)) = true := decide_eq_true rfl
theorem tg_cv : decide (V.str ("con" : Str) = V.str ("var" : Str)) = false := by decide +kernel
theorem tg_av : decide (V.str ("apply" : Str) = V.str ("var" : Str)) = false := by decide +kernel
theorem tg_ac : decide (V.str ("apply" : Str) = V.str ("con" : Str)) = false := by decide +kernel
theorem tg_vc : decide (V.str ("var" : Str) = V.str ("con" : Str)) = false := by decide +kernel
theorem tg_cc : decide (V.str ("con" : Str) = V.str ("con" : Str)) = true := decide_eq_true rfl
/-! ### kinds -/
inductive Kd where
  | var (x : Str) | con (x : Str) | app (a b : Kd)
  deriving DecidableEq
def Kd.tag : Kd → Str
  | .var _ => "var" | .con _ => "con" | .app _ _ => "apply"
/-- a word of 1 to 8 letters from a to z -/
def Wok (x : Str) : Prop := 1 ≤ x.length ∧ x.length ≤ 8 ∧ ∀ c ∈ x.cps.toList, 97 ≤ c ∧ c ≤ 122
/-- at most n deep, of words -/
def Kd.fit : Nat → Kd → Prop
  | _, .var x => Wok x
  | _, .con x => Wok x
  | 0, .app _ _ => False
  | n + 1, .app a b => Kd.fit n a ∧ Kd.fit n b
theorem Kd.fit_mono : ∀ {k : Kd} {n m : Nat}, n ≤ m → Kd.fit n k → Kd.fit m k
  | .var _, n, m, _, h => by cases n <;> cases m <;> exact h
  | .con _, n, m, _, h => by cases n <;> cases m <;> exact h
  | .app a b, 0, _, _, h => h.elim
  | .app a b, n + 1, 0, e, _ => absurd e (by omega)
  | .app a b, n + 1, m + 1, e, h => ⟨Kd.fit_mono (by omega) h.1, Kd.fit_mono (by omega) h.2⟩
theorem Kd.fit_app {n : Nat} {a b : Kd} (h : Kd.fit n (.app a b)) : ∃ m, n = m + 1 ∧ Kd.fit m a ∧ Kd.fit m b := by
  cases n with
  | zero => exact h.elim
  | succ m => exact ⟨m, rfl, h.1, h.2⟩
def KdAt (H : Hp) : V → Kd → Prop
  | v, .var x => ∃ a, v = .ref a ∧ H a = some (.tup [.str "var", .str x])
  | v, .con x => ∃ a, v = .ref a ∧ H a = some (.tup [.str "con", .str x])
  | v, .app k l => ∃ a u z, v = .ref a ∧ H a = some (.tup [.str "apply", u, z]) ∧ KdAt H u k ∧ KdAt H z l
/-- tuples stay -/
def Tups (H H' : Hp) : Prop := ∀ b xs, H b = some (.tup xs) → H' b = some (.tup xs)
theorem same_tups {H H' : Hp} (h : Same H H') : Tups H H' := fun b xs e => h b _ e
theorem Tups.trans {H H1 H2 : Hp} (a : Tups H H1) (b : Tups H1 H2) : Tups H H2 := fun c xs e => b c xs (a c xs e)
theorem Tups.put {H : Hp} {d : Addr} {o u : HO} (h : H d = some o) (n : ∀ xs, o ≠ .tup xs) : Tups H (upd H d u) := fun b xs e => by
  rw [upd_ne (fun q => by rw [q, h] at e; exact n xs (Option.some.inj e))]
  exact e
theorem Tups.new {H : Hp} {d : Addr} {u : HO} (h : H d = none) : Tups H (upd H d u) := same_tups (same_new h)
theorem Ext.tups {K : PySem.W.Frag} {t c : Addr} {b : Nat} {H H' : Hp} (e : Ext t H H') (h : Tape K H t c b) : Tups H H' := fun q xs z => by
  obtain ⟨kvs, hk⟩ := h.dict
  exact e q _ (ne_of z hk (by intro r; cases r)) z
theorem KdAt.tups {H H' : Hp} (h : Tups H H') : ∀ {k : Kd} {v : V}, KdAt H v k → KdAt H' v k
  | .var _, _, ⟨a, e, q⟩ => ⟨a, e, h _ _ q⟩
  | .con _, _, ⟨a, e, q⟩ => ⟨a, e, h _ _ q⟩
  | .app _ _, _, ⟨a, u, z, e, q, h1, h2⟩ => ⟨a, u, z, e, h _ _ q, KdAt.tups h h1, KdAt.tups h h2⟩
/-- the tuple of a kind, and its first item -/
theorem KdAt.top {H : Hp} : ∀ {k : Kd} {v : V}, KdAt H v k → ∃ a xs, v = .ref a ∧ H a = some (.tup xs) ∧ xs[0]? = some (.str k.tag)
  | .var _, _, ⟨a, e, q⟩ => ⟨a, _, e, q, rfl⟩
  | .con _, _, ⟨a, e, q⟩ => ⟨a, _, e, q, rfl⟩
  | .app _ _, _, ⟨a, u, z, e, q, _⟩ => ⟨a, _, e, q, rfl⟩
def Kd.dat : Kd → PyData
  | .var x => .tuple [.str "var", .str x]
  | .con x => .tuple [.str "con", .str x]
  | .app a b => .tuple [.str "apply", a.dat, b.dat]
theorem KdAt.dp {K : PySem.W.Frag} {H : Hp} : ∀ {k : Kd} {v : V}, KdAt H v k → Dp K H v k.dat
  | .var x, _, ⟨a, e, q⟩ => by subst e; exact .tup (SqT.of q) (.cons (.str _) (.cons (.str _) .nil))
  | .con x, _, ⟨a, e, q⟩ => by subst e; exact .tup (SqT.of q) (.cons (.str _) (.cons (.str _) .nil))
  | .app _ _, _, ⟨a, u, z, e, q, h1, h2⟩ => by subst e; exact .tup (SqT.of q) (.cons (.str _) (.cons h1.dp (.cons h2.dp .nil)))
theorem ne_vc : ¬ (("var" : Str) = "con") := by decide +kernel
theorem ne_cv : ¬ (("con" : Str) = "var") := by decide +kernel
theorem ne_va : ¬ (("var" : Str) = "apply") := by decide +kernel
theorem ne_av : ¬ (("apply" : Str) = "var") := by decide +kernel
theorem ne_ca : ¬ (("con" : Str) = "apply") := by decide +kernel
theorem ne_ac : ¬ (("apply" : Str) = "con") := by decide +kernel
theorem str_beq (x y : Str) : (x == y) = decide (x = y) := by
  rw [Bool.eq_iff_iff]
  simp
theorem eqv_tt (xs ys : List PyData) : PyData.eqv (.tuple xs) (.tuple ys) = PyData.eqvAll xs ys := by rw [PyData.eqv]
theorem eqv_cc (x y : PyData) (xs ys : List PyData) : PyData.eqvAll (x :: xs) (y :: ys) = (PyData.eqv x y && PyData.eqvAll xs ys) := by rw [PyData.eqvAll]
theorem eqv_nn : PyData.eqvAll [] [] = true := by rw [PyData.eqvAll]
theorem eqv_nc (y : PyData) (ys : List PyData) : PyData.eqvAll [] (y :: ys) = false := by rw [PyData.eqvAll]
theorem eqv_cn (y : PyData) (ys : List PyData) : PyData.eqvAll (y :: ys) [] = false := by rw [PyData.eqvAll]
theorem eqv_ss (x y : Str) : PyData.eqv (.str x) (.str y) = decide (x = y) := by rw [PyData.eqv]; exact str_beq x y
theorem Kd.eqv (a b : Kd) : PyData.eqv a.dat b.dat = decide (a = b) := by
  induction a generalizing b with
  | var x =>
    cases b with
    | var y => simp only [Kd.dat, eqv_tt, eqv_cc, eqv_ss, eqv_nn, decide_true, Bool.true_and, Bool.and_true, Kd.var.injEq]
    | con y => simp only [Kd.dat, eqv_tt, eqv_cc, eqv_ss, decide_eq_false ne_vc, Bool.false_and, reduceCtorEq, decide_false]
    | app c d => simp only [Kd.dat, eqv_tt, eqv_cc, eqv_ss, decide_eq_false ne_va, Bool.false_and, reduceCtorEq, decide_false]
  | con x =>
    cases b with
    | con y => simp only [Kd.dat, eqv_tt, eqv_cc, eqv_ss, eqv_nn, decide_true, Bool.true_and, Bool.and_true, Kd.con.injEq]
    | var y => simp only [Kd.dat, eqv_tt, eqv_cc, eqv_ss, decide_eq_false ne_cv, Bool.false_and, reduceCtorEq, decide_false]
    | app c d => simp only [Kd.dat, eqv_tt, eqv_cc, eqv_ss, decide_eq_false ne_ca, Bool.false_and, reduceCtorEq, decide_false]
  | app a1 a2 h1 h2 =>
    cases b with
    | var y => simp only [Kd.dat, eqv_tt, eqv_cc, eqv_ss, decide_eq_false ne_av, Bool.false_and, reduceCtorEq, decide_false]
    | con y => simp only [Kd.dat, eqv_tt, eqv_cc, eqv_ss, decide_eq_false ne_ac, Bool.false_and, reduceCtorEq, decide_false]
    | app c d =>
      simp only [Kd.dat, eqv_tt, eqv_cc, eqv_ss, eqv_nn, h1, h2, decide_true, Bool.true_and, Bool.and_true, Kd.app.injEq, Bool.decide_and]
theorem SqL.extT {K : PySem.W.Frag} {t c : Addr} {b : Nat} {H H' : Hp} {a : Addr} {xs : List V} (h : SqL K H a xs) (hT : Tape K H t c b) (e : Ext t H H') : SqL K H' a xs := by
  obtain ⟨kvs, hk⟩ := hT.dict
  rcases h with (h | ⟨o, h⟩) | h
  · exact .inl (.inl (e _ _ (ne_of h hk (by intro r; cases r)) h))
  · exact .inl (.inr ⟨o, e _ _ (ne_of h hk (by intro r; cases r)) h⟩)
  · exact .inr h
theorem Wok.str {x : Str} (h : Wok x) : PyData.strOk x = true := by
  unfold PyData.strOk
  rw [Array.all_eq_true']
  intro c hc
  have := h.2.2 c (by simpa using hc)
  exact decide_eq_true (by omega)
theorem Kd.lay : ∀ {k : Kd} {n : Nat}, Kd.fit n k → k.dat.canLay0 = true ∧ k.dat.depth ≤ n + 1
  | .var x, n, h => by
    have w : Wok x := by cases n <;> exact h
    refine ⟨?_, ?_⟩
    · simp only [Kd.dat, PyData.canLay0, PyData.canLayAll0, w.str, Bool.and_true]
      decide +kernel
    · simp [Kd.dat, PyData.depth, PyData.depthAll]
  | .con x, n, h => by
    have w : Wok x := by cases n <;> exact h
    refine ⟨?_, ?_⟩
    · simp only [Kd.dat, PyData.canLay0, PyData.canLayAll0, w.str, Bool.and_true]
      decide +kernel
    · simp [Kd.dat, PyData.depth, PyData.depthAll]
  | .app a b, n, h => by
    obtain ⟨m, rfl, h1, h2⟩ := Kd.fit_app h
    obtain ⟨a1, a2⟩ := Kd.lay h1
    obtain ⟨b1, b2⟩ := Kd.lay h2
    refine ⟨?_, ?_⟩
    · simp only [Kd.dat, PyData.canLay0, PyData.canLayAll0, a1, b1, Bool.and_true]
      decide +kernel
    · simp only [Kd.dat, PyData.depth, PyData.depthAll]
      omega
theorem Kd.shaped {k : Kd} {n : Nat} (h : Kd.fit n k) (hn : n ≤ 60) : SeqAt.shaped k.dat = true := by
  obtain ⟨h1, h2⟩ := Kd.lay h
  unfold SeqAt.shaped
  rw [h1, Bool.true_and]
  exact decide_eq_true (by omega)
/-- a list of words -/
theorem dp_words {K : PySem.W.Frag} {H : Hp} : ∀ ws : List Str, DpAll K H (ws.map V.str) (ws.map PyData.str)
  | [] => .nil
  | _ :: r => .cons (.str _) (dp_words r)
theorem lay_words : ∀ {ws : List Str}, (∀ x ∈ ws, Wok x) → PyData.canLayAll0 (ws.map PyData.str) = true ∧ PyData.depthAll (ws.map PyData.str) = 0
  | [], _ => ⟨by simp [PyData.canLayAll0], by simp [PyData.depthAll]⟩
  | x :: r, h => by
    obtain ⟨h1, h2⟩ := lay_words (ws := r) fun y hy => h y (List.mem_cons_of_mem _ hy)
    refine ⟨?_, ?_⟩
    · simp only [List.map_cons, PyData.canLayAll0, PyData.canLay0, (h x List.mem_cons_self).str, h1, Bool.true_and]
    · simp only [List.map_cons, PyData.depthAll, PyData.depth, h2]; rfl
theorem shaped_words {ws : List Str} (h : ∀ x ∈ ws, Wok x) : SeqAt.shaped (.list (ws.map PyData.str)) = true := by
  obtain ⟨h1, h2⟩ := lay_words h
  unfold SeqAt.shaped
  simp only [PyData.canLay0, h1, PyData.depth, h2]
  decide
theorem shaped_nil : SeqAt.shaped (.list []) = true := by decide
/-! ### rows of kinds, dicts of kinds -/
abbrev KdsAt (H : Hp) : List V → List Kd → Prop := Paired (KdAt H)
theorem paired_get {α β : Type} {F : α → β → Prop} : ∀ {xs : List α} {ys : List β} {i : Nat} {x : α}, Paired F xs ys → xs[i]? = some x → ∃ y, ys[i]? = some y ∧ F x y
  | _, _, _, _, .nil, e => by simp at e
  | _, _, 0, _, .cons r _, e => by simp at e; subst e; exact ⟨_, rfl, r⟩
  | _, _, i + 1, x, .cons _ t, e => by
    obtain ⟨y, h1, h2⟩ := paired_get (i := i) (x := x) t (by simpa using e)
    exact ⟨y, by simpa using h1, h2⟩
theorem paired_map {α β : Type} {F G : α → β → Prop} (h : ∀ a b, F a b → G a b) : ∀ {xs : List α} {ys : List β}, Paired F xs ys → Paired G xs ys
  | _, _, .nil => .nil
  | _, _, .cons r t => .cons (h _ _ r) (paired_map h t)
theorem KdsAt.tups {H H' : Hp} (h : Tups H H') {xs : List V} {ks : List Kd} (r : KdsAt H xs ks) : KdsAt H' xs ks := paired_map (fun _ _ q => KdAt.tups h q) r
theorem KdsAt.dp {K : PySem.W.Frag} {H : Hp} : ∀ {xs : List V} {ks : List Kd}, KdsAt H xs ks → DpAll K H xs (ks.map Kd.dat)
  | _, _, .nil => .nil
  | _, _, .cons r t => .cons r.dp (KdsAt.dp t)
abbrev By := List (Str × Kd)
def lk (by' : By) (x : Str) : Option Kd := (by'.find? fun p => decide (p.1 = x)).map (·.2)
theorem lk_nil (x : Str) : lk [] x = none := rfl
theorem lk_pos {p : Str × Kd} {r : By} {x : Str} (e : p.1 = x) : lk (p :: r) x = some p.2 := by simp [lk, List.find?_cons, e]
theorem lk_neg {p : Str × Kd} {r : By} {x : Str} (e : ¬ p.1 = x) : lk (p :: r) x = lk r x := by simp [lk, List.find?_cons, e]
abbrev ByAt (H : Hp) : List (Key × V) → By → Prop := Paired fun p q => p.1 = .inr q.1 ∧ KdAt H p.2 q.2
theorem ByAt.tups {H H' : Hp} (h : Tups H H') {kvs : List (Key × V)} {by' : By} (r : ByAt H kvs by') : ByAt H' kvs by' := paired_map (fun _ _ q => ⟨q.1, KdAt.tups h q.2⟩) r
theorem ByAt.get {H : Hp} (x : Str) : ∀ {kvs : List (Key × V)} {by' : By}, ByAt H kvs by' → (valV kvs (.inr x) = none ∧ lk by' x = none) ∨ ∃ v k, valV kvs (.inr x) = some v ∧ lk by' x = some k ∧ KdAt H v k
  | _, _, .nil => .inl ⟨rfl, rfl⟩
  | p :: kvs, q :: by', .cons r t => by
    by_cases e : q.1 = x
    · exact .inr ⟨p.2, q.2, valV_pos (by rw [r.1, e]), lk_pos e, r.2⟩
    · have e' : ¬ p.1 = (.inr x : Key) := by
        rw [r.1]
        intro z
        exact e (Sum.inr.inj z)
      rw [valV_neg e', lk_neg e]
      exact ByAt.get x t
def Kd.put (by' : By) : Kd → Kd
  | .var x => (lk by' x).getD (.var x)
  | .con x => .con x
  | .app a b => .app (a.put by') (b.put by')
def conK (x : Str) (ks : List Kd) : Kd := ks.foldl Kd.app (.con x)
theorem conK_snoc (x : Str) (ks : List Kd) (k : Kd) : conK x (ks ++ [k]) = .app (conK x ks) k := by
  unfold conK
  rw [List.foldl_append]
  rfl
theorem Kd.fit_put {by' : By} {m : Nat} (hb : ∀ x k, lk by' x = some k → Kd.fit m k) : ∀ {k : Kd} {n : Nat}, Kd.fit n k → Kd.fit (n + m) (k.put by')
  | .var x, n, h => by
    have w : Wok x := by cases n <;> exact h
    show Kd.fit (n + m) ((lk by' x).getD (.var x))
    cases e : lk by' x with
    | none =>
      show Kd.fit (n + m) (.var x)
      generalize n + m = j
      cases j <;> exact w
    | some k => exact Kd.fit_mono (by omega) (hb x k e)
  | .con x, n, h => by
    have w : Wok x := by cases n <;> exact h
    show Kd.fit (n + m) (.con x)
    generalize n + m = j
    cases j <;> exact w
  | .app a b, n, h => by
    obtain ⟨j, rfl, h1, h2⟩ := Kd.fit_app h
    show Kd.fit (j + 1 + m) (.app (a.put by') (b.put by'))
    rw [show j + 1 + m = j + m + 1 by omega]
    exact ⟨Kd.fit_put hb h1, Kd.fit_put hb h2⟩
theorem fitV {n : Nat} {x : Str} (w : Wok x) : Kd.fit n (.var x) := by cases n <;> exact w
theorem fitC {n : Nat} {x : Str} (w : Wok x) : Kd.fit n (.con x) := by cases n <;> exact w
theorem wok_of_var {n : Nat} {x : Str} (h : Kd.fit n (.var x)) : Wok x := by cases n <;> exact h
theorem wok_of_con {n : Nat} {x : Str} (h : Kd.fit n (.con x)) : Wok x := by cases n <;> exact h
theorem fit_fold {j : Nat} : ∀ {ks : List Kd} {h : Kd} {i : Nat}, Kd.fit i h → (∀ k ∈ ks, Kd.fit j k) → j ≤ i → Kd.fit (i + ks.length) (ks.foldl Kd.app h)
  | [], h, i, h1, _, _ => h1
  | k :: r, h, i, h1, h2, h3 => by
    have q : Kd.fit (i + 1) (.app h k) := ⟨h1, Kd.fit_mono h3 (h2 k List.mem_cons_self)⟩
    have z := fit_fold (ks := r) q (fun y hy => h2 y (List.mem_cons_of_mem _ hy)) (by omega)
    rw [List.length_cons, show i + (r.length + 1) = i + 1 + r.length by omega]
    exact z
theorem fit_conK {j : Nat} {x : Str} {ks : List Kd} (w : Wok x) (h : ∀ k ∈ ks, Kd.fit j k) : Kd.fit (j + ks.length) (conK x ks) := fit_fold (fitC w) h (Nat.le_refl _)
theorem eqv_ll (xs ys : List PyData) : PyData.eqv (.list xs) (.list ys) = PyData.eqvAll xs ys := by rw [PyData.eqv]
theorem words_ne {ws : List Str} : (!PyData.eqv (.list (ws.map PyData.str)) (.list [])) = !ws.isEmpty := by
  rw [eqv_ll]
  cases ws with
  | nil => rw [List.map_nil, eqv_nn]; rfl
  | cons x r => rw [List.map_cons, eqv_cn]; rfl
/-- rows (word, how many parts) -/
def ConsAt (K : PySem.W.Frag) (H : Hp) (l : Addr) : Prop := ∃ xs, SqL K H l xs ∧ 0 < xs.length ∧ xs.length < 1000 ∧ ∀ v ∈ xs, ∃ (a : Addr) (x : Str) (m : Nat), v = .ref a ∧ H a = some (.tup [.str x, .int (m : Int)]) ∧ m ≤ 2 ∧ Wok x
theorem ConsAt.ext {K : PySem.W.Frag} {t c : Addr} {b : Nat} {H H' : Hp} {l : Addr} (h : ConsAt K H l) (hT : Tape K H t c b) (e : Ext t H H') : ConsAt K H' l := by
  obtain ⟨xs, h1, h2, h3, h4⟩ := h
  refine ⟨xs, SqL.extT h1 hT e, h2, h3, fun v hv => ?_⟩
  obtain ⟨a, x, m, e1, e2, e3, e4⟩ := h4 v hv
  exact ⟨a, x, m, e1, Ext.tups e hT _ _ e2, e3, e4⟩
/-- the variables of kinds are among some words -/
def Kd.of (ws : List Str) : Kd → Prop
  | .var x => x ∈ ws
  | .con _ => True
  | .app a b => Kd.of ws a ∧ Kd.of ws b
theorem of_fold {ws : List Str} : ∀ {ks : List Kd} {h : Kd}, Kd.of ws h → (∀ k ∈ ks, Kd.of ws k) → Kd.of ws (ks.foldl Kd.app h)
  | [], _, h1, _ => h1
  | k :: r, h, h1, h2 => of_fold (ks := r) (h := .app h k) ⟨h1, h2 k List.mem_cons_self⟩ fun y hy => h2 y (List.mem_cons_of_mem _ hy)
theorem of_conK {ws : List Str} {x : Str} {ks : List Kd} (h : ∀ k ∈ ks, Kd.of ws k) : Kd.of ws (conK x ks) := of_fold (h := .con x) trivial h
/-! ### recursion -/
theorem fn_false {P : Program} {w : World} {K : PySem.W.Frag} {mg : Str → Option Value} {base : Heap} {f : Addr} {fd : FuncData} {ps : List Str} : FnOk P w K mg base CX0 0 f fd ps (fun _ _ _ _ => False) :=
  ⟨fun _ _ _ _ h => h.elim, fun _ _ _ _ _ _ _ _ _ _ _ _ _ h => h.elim⟩
end L3

namespace L3
open PySem L2
def topS (i : Nat) : Stmt := PySem.Challenge.pw_leastneeds_k05_kinds_made_and_measured.main.body.getD i (.Pass ⟨0, 0, 0, 0⟩)
section
variable {P : Program} {w : World} {K : PySem.W.Frag} {mg : Str → Option Value} {base : Heap}

abbrev s__law_begin : Stmt := topS 10
abbrev N__law_begin : List Str := ["_law_script"]
theorem sc__law_begin : FnScope N__law_begin ["_law_script"] (defScope s__law_begin) := ⟨rfl, rfl, rfl, by decide +kernel, rfl, by decide +kernel, by decide +kernel⟩
def spBegin (K : PySem.W.Frag) : Sp := fun vs H Q _ => ∃ (a : Addr) (ns : List Int), vs = [.ref a] ∧ SqL K H a (ns.map V.int) ∧ ∀ (H' : Hp) (t c : Addr), Same H H' → H t = none → Tape K H' t c 1000000 → Q (.ref t) H'
theorem cut63 (ns : List Int) : cutV (ns.map V.int) none (some 63) = (ns.take 63).map V.int := by
  unfold cutV
  rw [HT.sIx_none, show (63 : Int) = ((63 : Nat) : Int) from rfl, HT.sIx_nat, List.drop_zero, List.length_map, Nat.sub_zero, List.map_take]
  by_cases h : 63 ≤ ns.length
  · rw [Nat.min_eq_left h]
  · rw [Nat.min_eq_right (by omega), List.take_of_length_le (by simp), List.take_of_length_le (by simp; omega)]
theorem ok_begin {f : Addr} {fd : FuncData} (F : Fun K "_law_begin" "_law_begin" s__law_begin f fd) : FnOk P w K mg base CX0 1 f fd ["_law_script"] (spBegin K) := by
  refine F.ok sc__law_begin (fun vs H Q E h => ?_) (fun cdv A outer s H vs Q E hr h => ?_)
  · obtain ⟨a, ns, rfl, _⟩ := h
    rfl
  · obtain ⟨a, ns, rfl, hS, k⟩ := h
    refine ⟨_, (pss_one (ps_ret (pe_disp (pps_cons pe_str (pe_orT (pe_slice sl_list (pv 0) po_none (po_some pe_int)) (pe_one (pe_lst (pa_cons pe_int pa_nil)))) (pps_cons pe_str pe_int (pps_cons pe_str pe_int pps_nil))) (by rfl) (by rfl) (fun z => by cases z) (by decide)))), ?_⟩
    intro t ht
    have s0 : Same H (upd H t (.dK [])) := same_new ht
    refine ⟨_, rfl, _, rfl, a, _, rfl, s0.seq hS, fun q hq => ?_⟩
    rw [cut63]
    have nq : t ≠ q := fun e => by
      rw [← e, upd_same] at hq
      cases hq
    have s1 : Same (upd H t (.dK [])) (upd (upd H t (.dK [])) q (.lst ((ns.take 63).map V.int))) := same_new hq
    -- what stands at the end
    have fin : ∀ (H2 : Hp) (c : Addr) (ms : List Int), Same (upd H t (.dK [])) H2 → H2 c = some (.lst (ms.map V.int)) → c ≠ t → 0 < ms.length → ms.length ≤ 63 →
        H2 t = some (.dK []) ∧ ∃ kvs : List (Key × V), [(V.str "cells", V.ref c), (V.str "place", V.int 0), (V.str "left", V.int 0)] = kvs.map (fun kv => (kV kv.1, kv.2)) ∧ kvs.length ≤ 15 ∧ Q (.ref t) (upd H2 t (.dK (mergeK [] kvs))) := by
      intro H2 c ms h2 hc nc h0 h63
      refine ⟨h2 _ _ upd_same, tp c 0 0, rfl, by show 3 ≤ 15; decide, ?_⟩
      refine k _ t c (fun b o e => ?_) ht ⟨0, 0, ms, ?_, SqL.of ?_, nc, h0, h63, by omega, by omega, by omega⟩
      · have n : b ≠ t := ne_of_none e ht
        rw [upd_ne n]
        exact h2 _ _ (s0 _ _ e)
      · rw [upd_same]
        rfl
      · rw [upd_ne nc]
        exact hc
    refine ⟨_, .inl ⟨_, SqL.of upd_same, rfl⟩, ?_⟩
    cases hns : ns.take 63 with
    | nil =>
      rw [hns] at s1
      refine iteF ?_
      refine ⟨by decide, fun r hr2 => ?_⟩
      refine fin _ r [0] (s1.trans (same_new hr2)) upd_same (fun e => ?_) (by decide) (by decide)
      rw [e, upd_ne nq, upd_same] at hr2
      cases hr2
    | cons z zs =>
      refine iteT ?_
      refine fin _ q (z :: zs) (by rw [← hns]; exact s1) (by rw [upd_same]) nq.symm (Nat.zero_lt_succ _) ?_
      rw [← hns, List.length_take]
      omega

/-! ### a number from the tape -/
abbrev s__law_draw : Stmt := topS 11
abbrev N__law_draw : List Str := ["_law_tape", "_law_many", "_law_spot", "_law_size", "_law_cell", "_law_got"]
theorem sc__law_draw : FnScope N__law_draw ["_law_tape", "_law_many"] (defScope s__law_draw) := ⟨rfl, rfl, rfl, by decide +kernel, rfl, by decide +kernel, by decide +kernel⟩
theorem get_left {H : Hp} {t c : Addr} {p l : Int} (h : H t = some (.dK (tp c p l))) : DGet H t (.str "left") (some (.int l)) := DGet.k (k := .inr "left") h
theorem get_place {H : Hp} {t c : Addr} {p l : Int} (h : H t = some (.dK (tp c p l))) : DGet H t (.str "place") (some (.int p)) := DGet.k (k := .inr "place") h
theorem get_cells {H : Hp} {t c : Addr} {p l : Int} (h : H t = some (.dK (tp c p l))) : DGet H t (.str "cells") (some (.ref c)) := DGet.k (k := .inr "cells") h
theorem put_left {H : Hp} {t c : Addr} {p l q : Int} (h : H t = some (.dK (tp c p l))) : DPut H t (.str "left") (.int q) (upd H t (.dK (tp c p q))) := DPut.k (k := .inr "left") (v := .int q) h (by show 3 < sizeLine; decide)
theorem put_place {H : Hp} {t c : Addr} {p l q : Int} (h : H t = some (.dK (tp c p l))) : DPut H t (.str "place") (.int q) (upd H t (.dK (tp c q l))) := DPut.k (k := .inr "place") (v := .int q) h (by show 3 < sizeLine; decide)
def spDraw (K : PySem.W.Frag) : Sp := fun vs H Q _ => ∃ (t c : Addr) (n : Int) (b : Nat), vs = [.ref t, .int n] ∧ 1 ≤ n ∧ n < 1000000 ∧ Tape K H t c (b + 1) ∧
  ∀ (H' : Hp) (r : Int), Ext t H H' → Tape K H' t c b → 0 ≤ r → r < n → Q (.int r) H'
theorem ok_draw {f : Addr} {fd : FuncData} (F : Fun K "_law_draw" "_law_draw" s__law_draw f fd) (B : Bl mg) : FnOk P w K mg base CX0 1 f fd ["_law_tape", "_law_many"] (spDraw K) := by
  refine F.ok sc__law_draw (fun vs H Q E h => ?_) (fun cdv A outer s H vs Q E hr h => ?_)
  · obtain ⟨t, c, n, b, rfl, _⟩ := h
    rfl
  · obtain ⟨t, c, n, b, rfl, hn1, hn2, ⟨p, l, ns, h1, h2, h3, h4, h5, h6, h7, h8⟩, k⟩ := h
    have hu := hu_of hr
    refine ⟨_, (pss_cons (ps_if (pt_cmpR op_lt (pe_dget hu (pv 0) pe_str (fun _ _ => rfl)) (pv 1) (nomark _))
  (pss_cons (ps_par (i := 2) (j := 3) (by rfl) sc__law_draw.nd rfl rfl (by decide) rfl rfl (pa_cons (pe_dget hu (pv 0) pe_str (fun _ _ => rfl)) (pa_cons (pe_callB call_len (by rfl) B.len PySem.boot_len (pa_cons (pe_dget hu (pv 0) pe_str (fun _ _ => rfl)) pa_nil)) pa_nil)) (by rfl))
  (pss_cons (ps_asg (pe_tup (pa_cons (pe_ix ix_list (pe_dget hu (pv 0) pe_str (fun _ _ => rfl)) (pe_op op_mod (pe_callTy call_int1 (by rfl) B.int (by decide +kernel) (pa_cons (pv 2) pa_nil)) (pv 3)) (fun _ _ => rfl)) (pa_cons (pe_op op_add (pv 2) pe_int) pa_nil))) (pg_tup (by rfl) (pgs_cons (pg_name (i := 4) sc__law_draw.nd rfl (Or.inl rfl)) (pgs_cons (pg_sub (pv 0) pe_str (set_dict hu)) pgs_nil))))
  (pss_cons (ps_dput hu (pv 0) pe_str (pe_op op_mod (pe_callTy call_int1 (by rfl) B.int (by decide +kernel) (pa_cons (pe_op op_pow (pe_op op_add (pe_op op_add (pe_op op_mod (pe_callTy call_int1 (by rfl) B.int (by decide +kernel) (pa_cons (pv 4) pa_nil)) pe_int) (pe_op op_mul pe_int (pv 2))) pe_int) pe_int) pa_nil)) (pe_op op_add (pe_op op_pow pe_int pe_int) pe_int)) rfl)
  (pss_one (ps_if (PW.pt (pw_and (pt_cmpR op_ge (pv 4) (pe_op op_pow pe_int pe_int) (nomark _)) (pw_and1 (pt_cmpR op_lt (pv 2) (pv 3) (nomark _)))))
  (pss_one (ps_dput hu (pv 0) pe_str (pe_op op_sub (pv 4) (pe_op op_pow pe_int pe_int)) rfl))
  pss_nil)))))
  pss_nil)
  (pss_cons (ps_asg (pe_tup (pa_cons (pe_op op_mod (pe_callTy call_int1 (by rfl) B.int (by decide +kernel) (pa_cons (pe_dget hu (pv 0) pe_str (fun _ _ => rfl)) pa_nil)) (pv 1)) (pa_cons (pe_op op_fdivN (pe_dget hu (pv 0) pe_str (fun _ _ => rfl)) (pv 1)) pa_nil))) (pg_tup (by rfl) (pgs_cons (pg_name (i := 5) sc__law_draw.nd rfl (Or.inl rfl)) (pgs_cons (pg_sub (pv 0) pe_str (set_dict hu)) pgs_nil))))
  (pss_one (ps_ret (pv 5))))), ?_⟩
    -- the last two rows, from any tape
    have fin : ∀ (H1 : Hp) (p l : Int) (v2 v3 v4 : Option V), Ext t H H1 → H1 t = some (.dK (tp c p l)) → SqL K H1 c (ns.map V.int) → 0 ≤ p → p + b ≤ 1000000 → 0 ≤ l →
        tSeq (tAsg (tTup (tCons (tOp (rI (fun _ j => 0 < j) fun i j => .int (i % j)) (tCB (fun xs H Q => (∃ i, xs = [.int i] ∧ Q (.int i) H) ∨ ∃ k, xs = [.bl k] ∧ Q (.int (if k then 1 else 0)) H) (tCons (tDGet (tVar 0) (tC (.str "left"))) tNil)) (tVar 1)) (tCons (tOp (rI CDivN fun i j => .int (i.fdiv j)) (tDGet (tVar 0) (tC (.str "left"))) (tVar 1)) tNil)))
          (gTup K 2 (gCons (gName 5) (gCons (gSub (tVar 0) (tC (.str "left")) rSetD) gNil)))) (tRet (tVar 5)) { nx := fun _ H' => Q .non H', rt := Q } [some (.ref t), some (.int n), v2, v3, v4, none] H1 := by
      intro H1 p l v2 v3 v4 e1 g1 g2 g3 g4 g5
      refine ⟨_, rfl, _, _, rfl, get_left g1, .inl ⟨_, rfl, _, rfl, _, _, rfl, rfl, (by omega), ?_⟩⟩
      refine ⟨_, rfl, _, _, rfl, get_left g1, _, rfl, _, _, rfl, rfl, ⟨by omega, by omega⟩, slz rfl, fun q hq => ?_⟩
      have nq : t ≠ q := ne_of_none g1 hq
      refine ⟨q, _, rfl, SqT.of upd_same, rfl, _, _, rfl, _, _, rfl, _, rfl, t, _, rfl, put_left (by rw [upd_ne nq]; exact g1), rfl, ?_⟩
      refine ⟨_, rfl, ?_⟩
      have e2 : Ext t H (upd H1 q (.tup [.int (l % n), .int (l.fdiv n)])) := e1.trans (Ext.new hq)
      refine k _ _ (e2.trans Ext.put) ⟨p, l.fdiv n, ns, upd_same, (SqL.ext g2 ((Ext.new hq).trans Ext.put) h3), h3, h4, h5, g3, g4, Int.fdiv_nonneg g5 (by omega)⟩ (Int.emod_nonneg _ (by omega)) (Int.emod_lt_of_pos _ (by omega))
    refine ⟨_, rfl, _, _, rfl, get_left h1, _, rfl, _, _, rfl, rfl, _, rfl, ?_⟩
    refine ite2 (fun hc => ?_) (fun hc => ?_)
    · refine ⟨_, rfl, _, _, rfl, get_place h1, _, rfl, _, _, rfl, get_cells h1, _, _, rfl, .inl ⟨_, h2, rfl⟩, _, _, rfl, ?_⟩
      have hm : p % ((ns.map V.int).length : Int) = ((p % ((ns.map V.int).length : Int)).toNat : Int) := (Int.toNat_of_nonneg (Int.emod_nonneg _ (by rw [List.length_map]; omega))).symm
      have hlt : (p % ((ns.map V.int).length : Int)).toNat < ns.length := by
        have := Int.emod_lt_of_pos p (show (0 : Int) < ((ns.map V.int).length : Int) by rw [List.length_map]; omega)
        rw [List.length_map] at this ⊢
        omega
      refine ⟨_, rfl, _, _, rfl, get_cells h1, _, rfl, .inl ⟨_, rfl, _, rfl, _, _, rfl, rfl, (by rw [List.length_map]; omega), c, _, _, V.int (ns[(p % ((ns.map V.int).length : Int)).toNat]), rfl, rfl, h2, at_of hm (by rw [List.getElem?_map, List.getElem?_eq_getElem hlt]; rfl), ?_⟩⟩
      generalize ns[(p % ((ns.map V.int).length : Int)).toNat] = cell
      refine ⟨_, rfl, _, _, rfl, rfl, slz rfl, fun q hq => ?_⟩
      have nq : t ≠ q := ne_of_none h1 hq
      have g0 : (upd H q (.tup [.int cell, .int (p + 1)])) t = some (.dK (tp c p l)) := by rw [upd_ne nq]; exact h1
      refine ⟨q, _, rfl, SqT.of upd_same, rfl, _, _, rfl, _, _, rfl, _, rfl, t, _, rfl, put_place g0, rfl, ?_⟩
      have e1 : Ext t H (upd (upd H q (.tup [.int cell, .int (p + 1)])) t (.dK (tp c (p + 1) l))) := (Ext.new hq).trans Ext.put
      have hu1 : 0 ≤ cell % 2147483587 := Int.emod_nonneg _ (by decide)
      have hu2 : cell % 2147483587 < 2147483587 := Int.emod_lt_of_pos _ (by decide)
      refine ⟨_, rfl, .inl ⟨_, rfl, _, _, rfl, rfl, (show (0 : Int) < 2147483587 by decide), _, rfl, _, _, rfl, rfl, .inr ⟨by omega, by omega⟩, _, _, rfl, rfl, _, _, rfl, rfl, ?_⟩⟩
      refine ⟨_, _, rfl, rfl, ⟨by decide, by decide, ?_⟩, .inl ⟨_, rfl, ?_⟩⟩
      · show (cell % 2147483587 + 48271 * p + 16807).natAbs < 2 ^ 64
        omega
      generalize (cell % 2147483587 + 48271 * p + 16807) ^ (13 : Int).toNat = big
      refine ⟨_, _, rfl, rfl, ⟨by decide, by decide, by decide⟩, _, _, rfl, rfl, _, _, rfl, rfl, (show (0 : Int) < 10 ^ (50 : Int).toNat + 57 by decide +kernel), ?_⟩
      refine ⟨_, rfl, t, _, rfl, put_left upd_same, ?_⟩
      have hl : 0 ≤ big % (10 ^ (50 : Int).toNat + 57) := Int.emod_nonneg _ (by decide +kernel)
      generalize big % (10 ^ (50 : Int).toNat + 57) = l2 at hl ⊢
      have e3 : Ext t H (upd (upd (upd H q (.tup [.int cell, .int (p + 1)])) t (.dK (tp c (p + 1) l))) t (.dK (tp c (p + 1) l2))) := e1.trans Ext.put
      refine ⟨_, rfl, _, _, rfl, rfl, ⟨by decide, by decide, by decide⟩, _, _, rfl, rfl, _, rfl, ?_⟩
      refine ite2 (fun hc1 => ?_) (fun hc1 => ?_)
      · refine ⟨_, rfl, _, rfl, _, _, rfl, rfl, _, rfl, ?_⟩
        refine ite2 (fun hc2 => ?_) (fun hc2 => ?_)
        · refine ⟨_, rfl, _, _, rfl, rfl, ⟨by decide, by decide, by decide⟩, _, _, rfl, rfl, ?_⟩
          refine ⟨_, rfl, t, _, rfl, put_left upd_same, ?_⟩
          have hc3 : (10 : Int) ^ (18 : Int).toNat ≤ cell := of_decide_eq_true hc1
          exact fin _ (p + 1) _ _ _ _ (e3.trans Ext.put) upd_same (SqL.ext h2 (e3.trans Ext.put) h3) (by omega) (by omega) (by omega)
        · exact fin _ (p + 1) _ _ _ _ e3 upd_same (SqL.ext h2 e3 h3) (by omega) (by omega) hl
      · refine iteF ?_
        exact fin _ (p + 1) _ _ _ _ e3 upd_same (SqL.ext h2 e3 h3) (by omega) (by omega) hl
    · exact fin H p l none none none (Ext.refl _ _) h1 h2 h6 (by omega) h8
end
end L3

namespace L3
open PySem L2
section
variable {P : Program} {w : World} {K : PySem.W.Frag} {mg : Str → Option Value} {base : Heap}
theorem Fun.kn {x : Str} {st : Stmt} {f : Addr} {fd : FuncData} {k : Nat} {ps : List Str} {sp : Sp} (F : Fun K x x st f fd) (hm : mg x = some (.ref f)) (h : FnOk P w K mg base CX0 k f fd ps sp)
    (b : ∀ (kV doc pm : Value) (an : Option Addr) (cdv ct : Value) (us : List Value), us.length = ps.length → bindArgs (PySem.W.fnOf x x (defArgs st) (defBody st) (defScope st) .none kV doc pm an cdv ct) ⟨us, []⟩ = pure (ps.zip us)) : Kn P w K mg base k x ps sp :=
  ⟨f, fd, h, hm, F.kp, F.binds b⟩
abbrev s__law_pick : Stmt := topS 12
abbrev N__law_pick : List Str := ["_law_tape", "_law_items"]
theorem sc__law_pick : FnScope N__law_pick ["_law_tape", "_law_items"] (defScope s__law_pick) := ⟨rfl, rfl, rfl, by decide +kernel, rfl, by decide +kernel, by decide +kernel⟩
def spPick (K : PySem.W.Frag) : Sp := fun vs H Q _ => ∃ (t c l : Addr) (xs : List V) (b : Nat), vs = [.ref t, .ref l] ∧ SqL K H l xs ∧ 0 < xs.length ∧ xs.length < 1000000 ∧ Tape K H t c (b + 1) ∧
  ∀ (H' : Hp) (v : V), Ext t H H' → Tape K H' t c b → v ∈ xs → Q v H'
theorem ok_pick {f : Addr} {fd : FuncData} (F : Fun K "_law_pick" "_law_pick" s__law_pick f fd) (B : Bl mg) (D__law_draw : Kn P w K mg base 1 "_law_draw" ["_law_tape", "_law_many"] (spDraw K)) : FnOk P w K mg base CX0 2 f fd ["_law_tape", "_law_items"] (spPick K) := by
  refine F.ok sc__law_pick (fun vs H Q E h => ?_) (fun cdv A outer s H vs Q E hr h => ?_)
  · obtain ⟨t, c, l, xs, b, rfl, _⟩ := h
    rfl
  · obtain ⟨t, c, l, xs, b, rfl, h1, h2, h3, h4, k⟩ := h
    have hr__law_draw := hr
    refine ⟨_, (pss_one (ps_ret (pe_ix ix_list (pv 1) (pe_kn D__law_draw hr__law_draw (pa_cons (pv 0) (pa_cons (pe_callB call_len (by rfl) B.len PySem.boot_len (pa_cons (pv 1) pa_nil)) pa_nil))) (fun _ _ => rfl)))), ?_⟩
    refine ⟨_, rfl, _, rfl, _, rfl, _, _, rfl, .inl ⟨_, h1, rfl⟩, t, c, _, b, rfl, by omega, by omega, h4, fun H' r e1 e2 r1 r2 => ?_⟩
    have hj : r = (r.toNat : Int) := (Int.toNat_of_nonneg r1).symm
    have hlt : r.toNat < xs.length := by omega
    exact ⟨l, xs, r, xs[r.toNat], rfl, rfl, SqL.extT h1 h4 e1, at_of hj (List.getElem?_eq_getElem hlt), k H' _ e1 e2 (List.getElem_mem hlt)⟩

/-! ### words -/
def sgn (j : Nat) : Str := ⟨#[97 + j]⟩
def mkW (rest : Str) (d : Bool) (c : Str) : Str := if d then rest ++ c else c ++ rest
abbrev s__law_words : Stmt := topS 14
abbrev N__law_words : List Str := ["_law_tape", "_law_many", "_law_rest", "_law_first", "_law_letters", "_law_is_behind", "_law_k", "_law_letter"]
theorem sc__law_words : FnScope N__law_words ["_law_tape", "_law_many"] (defScope s__law_words) := ⟨rfl, rfl, rfl, by decide +kernel, rfl, by decide +kernel, by decide +kernel⟩
def rests : List Str := ["", "x", "oo", "zzzz", "ery", "bbbbbbb"]
def lets (first n : Nat) : List Str := (List.range n).map fun k => sgn ((first + 7 * k) % 26)
def spWords (K : PySem.W.Frag) : Sp := fun vs H Q _ => ∃ (t c : Addr) (n b : Nat), vs = [.ref t, .int (n : Int)] ∧ n ≤ 100 ∧ Tape K H t c (b + 3) ∧
  ∀ (H' : Hp) (l : Addr) (rest : Str) (first : Nat) (d : Bool), Ext t H H' → Tape K H' t c b → H l = none → rest ∈ rests → first < 26 → H' l = some (.lst (((lets first n).map (mkW rest d)).map V.str)) → Q (.ref l) H'
theorem at_ofG {α : Type} {xs : List α} {z : Int} {j : Nat} {v : α} (e : z = (j : Int)) (h : xs[j]? = some v) : atI xs z = some v := by
  rw [e]
  exact atI_nat h
theorem abc_at : ∀ j : Nat, j < 26 → ("abcdefghijklmnopqrstuvwxyz" : Str).cps.toList[j]? = some (97 + j) := by decide +kernel
theorem lets_succ (first n : Nat) : lets first (n + 1) = lets first n ++ [sgn ((first + 7 * n) % 26)] := by
  unfold lets
  rw [List.range_succ, List.map_append]
  rfl
theorem lets_length (first n : Nat) : (lets first n).length = n := by
  unfold lets
  rw [List.length_map, List.length_range]
theorem rests_len : ∀ r ∈ rests, r.length ≤ 7 := by decide +kernel
theorem ok_words {f : Addr} {fd : FuncData} (F : Fun K "_law_words" "_law_words" s__law_words f fd) (B : Bl mg) (D__law_draw : Kn P w K mg base 1 "_law_draw" ["_law_tape", "_law_many"] (spDraw K)) (D__law_pick : Kn P w K mg base 2 "_law_pick" ["_law_tape", "_law_items"] (spPick K)) :
    FnOk P w K mg base CX0 3 f fd ["_law_tape", "_law_many"] (spWords K) := by
  refine F.ok sc__law_words (fun vs H Q E h => ?_) (fun cdv A outer s H vs Q E hr h => ?_)
  · obtain ⟨t, c, n, b, rfl, _⟩ := h
    rfl
  · obtain ⟨t, c, n, b, rfl, hn, hT, k⟩ := h
    have hr__law_draw : Room 1 _ := hr.mono (by decide)
    have hr__law_pick : Room 2 _ := hr
    refine ⟨_, (pss_cons (ps_asg (pe_tup (pa_cons (pe_kn D__law_pick hr__law_pick (pa_cons (pv 0) (pa_cons (pe_lst (pa_cons pe_str (pa_cons pe_str (pa_cons pe_str (pa_cons pe_str (pa_cons pe_str (pa_cons pe_str pa_nil))))))) pa_nil))) (pa_cons (pe_kn D__law_draw hr__law_draw (pa_cons (pv 0) (pa_cons pe_int pa_nil))) pa_nil))) (pg_tup (by rfl) (pgs_cons (pg_name (i := 2) sc__law_words.nd rfl (Or.inr rfl)) (pgs_cons (pg_name (i := 3) sc__law_words.nd rfl (Or.inr rfl)) pgs_nil))))
  (pss_cons (ps_setLc (i := 4) (own := [("_law_k", 6)]) rfl sc__law_words.nd rfl rfl (sw_true rfl rfl rfl (by decide +kernel)) (pi_range1 (by rfl) B.range (pa_cons (pv 1) pa_nil)) (blkOk_by (N := N__law_words) (sc := (defScope s__law_words)) (own := [("_law_k", 6)]) (by decide +kernel)) (fun _ _ _ _ _ => (pg_name (i := 6) sc__law_words.nd rfl (Or.inl rfl))) (fun _ _ _ _ _ => pts_nil) (fun _ _ _ _ _ => (pe_ix ix_str pe_str (pe_op op_mod (pe_callTy call_int1 (by rfl) B.int (by decide +kernel) (pa_cons (pe_op op_add (pv 3) (pe_op op_mul pe_int (pv 6))) pa_nil)) pe_int) (fun _ _ => rfl))))
  (pss_cons (ps_set (i := 5) sc__law_words.nd rfl (Or.inr rfl) (pe_cmpR op_eq (pe_kn D__law_draw hr__law_draw (pa_cons (pv 0) (pa_cons pe_int pa_nil))) pe_int (nomark _)))
  (pss_one (ps_ret (pe_lc (own := [("_law_letter", 7)]) rfl sc__law_words.nd (pi_list (pv 4)) (blkOk_by (N := N__law_words) (sc := (defScope s__law_words)) (own := [("_law_letter", 7)]) (by decide +kernel)) (fun _ _ _ _ _ => (pg_name (i := 7) sc__law_words.nd rfl (Or.inl rfl))) (fun _ _ _ _ _ => pts_nil) (fun _ _ _ _ _ => (pe_ifExp (pt_val (pv 5)) (pe_op op_add_str (pv 2) (pv 7)) (pe_op op_add_str (pv 7) (pv 2)))))))))), ?_⟩
    refine ⟨_, rfl, slz rfl, fun l0 hl0 => ?_⟩
    refine ⟨t, c, l0, rests.map V.str, b + 2, rfl, SqL.of upd_same, by decide, by decide, hT.new hl0, fun H1 v e1 T1 hv => ?_⟩
    obtain ⟨rest, hrest, rfl⟩ := List.mem_map.mp hv
    refine ⟨_, rfl, t, c, 26, b + 1, rfl, by decide, by decide, T1, fun H2 r e2 T2 r1 r2 => ?_⟩
    obtain ⟨first, rfl⟩ : ∃ m : Nat, r = (m : Int) := ⟨r.toNat, (Int.toNat_of_nonneg r1).symm⟩
    have hf : first < 26 := by omega
    refine ⟨slz rfl, fun q hq => ⟨q, _, rfl, SqT.of upd_same, rfl, _, _, rfl, _, _, rfl, rfl, ?_⟩⟩
    have E2 : Ext t H (upd H2 q (.tup [.str rest, .int (first : Int)])) := (((Ext.new hl0).trans e1).trans e2).trans (Ext.new hq)
    have T3 := T2.new (o := .tup [.str rest, .int (first : Int)]) hq
    generalize upd H2 q (.tup [.str rest, .int (first : Int)]) = H3 at E2 T3 ⊢
    refine ⟨_, rfl, (n : Int), rfl, by omega, by omega, fun D hD => ?_⟩
    refine lc_range (lo := 0) (n := n) (fun i H' => Same H3 H' ∧ H' D = some (.lst ((lets first i).map V.str))) ⟨same_new hD, upd_same⟩ (fun i H' hi ⟨s1, g1⟩ => ⟨rfl, ?_⟩) (fun H4 ⟨s4, g4⟩ => ?_)
    · refine ⟨_, rfl, _, rfl, _, _, rfl, rfl, .inl ⟨by decide, by decide⟩, _, _, rfl, rfl, .inl ⟨_, rfl, ?_⟩⟩
      refine ⟨_, _, rfl, rfl, (show (0 : Int) < 26 by decide), _, _, _, rfl, rfl, slz rfl, at_ofG (show ((first : Int) + 7 * (0 + (i : Int))) % 26 = (((first + 7 * i) % 26 : Nat) : Int) by omega) (abc_at _ (by omega)), ?_⟩
      refine ⟨_, g1, ?_, ?_⟩
      · rw [List.length_map, lets_length]
        exact small1000 (by omega)
      · refine ⟨fun b' o z => ?_, ?_⟩
        · rw [upd_ne (ne_of_none z hD)]
          exact s1 _ _ z
        · rw [upd_same, lets_succ, List.map_append]
          rfl
    · have T4 := T3.same s4
      refine ⟨_, rfl, t, c, 2, b, rfl, by decide, by decide, T4, fun H5 r5 e5 T5 r51 r52 => ?_⟩
      refine ⟨rfl, ?_⟩
      have n5 : D ≠ t := T3.ne hD
      have g5 := e5 _ _ n5 g4
      refine ⟨_, rfl, D, rfl, ⟨_, SqL.of g5⟩, fun D2 hD2 => ?_⟩
      have nD : D ≠ D2 := ne_of_none g5 hD2
      refine lc_list (K := K) (a := D) (xs := (lets first n).map V.str) (fun i H' => Same H5 H' ∧ H' D2 = some (.lst ((((lets first n).take i).map (mkW rest (decide (V.int r5 = V.int 0)))).map V.str))) ⟨same_new hD2, upd_same⟩ (fun i H' _ ⟨s1, _⟩ => SqL.of (s1 _ _ g5)) (fun i x H' hx ⟨s1, g1⟩ => ⟨rfl, ?_⟩) (fun H6 ⟨s6, g6⟩ => ?_)
      · rw [List.getElem?_map] at hx
        obtain ⟨ch, hc, rfl⟩ := Option.map_eq_some_iff.mp hx
        have hi : i < (lets first n).length := (List.getElem?_eq_some_iff.mp hc).1
        have c1 : ch.length = 1 := by
          unfold lets at hc
          rw [List.getElem?_map] at hc
          obtain ⟨j, _, rfl⟩ := Option.map_eq_some_iff.mp hc
          rfl
        have rl := rests_len _ hrest
        have tk : (lets first n).take (i + 1) = (lets first n).take i ++ [ch] := by
          rw [List.take_add_one, hc]
          rfl
        have fin : ∀ z : Str, z = mkW rest (decide (V.int r5 = V.int 0)) ch → ∃ acc, H' D2 = some (.lst acc) ∧ acc.length < sizeLine ∧ Same H5 (upd H' D2 (.lst (acc ++ [V.str z]))) ∧ upd H' D2 (.lst (acc ++ [V.str z])) D2 = some (.lst ((((lets first n).take (i + 1)).map (mkW rest (decide (V.int r5 = V.int 0)))).map V.str)) := by
          rintro z rfl
          refine ⟨_, g1, ?_, fun b' o z => ?_, ?_⟩
          · rw [List.length_map, List.length_map, List.length_take]
            rw [lets_length] at hi
            exact small1000 (by omega)
          · rw [upd_ne (ne_of_none z hD2)]
            exact s1 _ _ z
          · rw [upd_same, tk, List.map_append, List.map_append]
            rfl
        refine ⟨_, rfl, _, rfl, ?_⟩
        refine ite2 (fun hc1 => ?_) (fun hc1 => ?_)
        · refine ⟨_, rfl, _, rfl, _, _, rfl, rfl, Nat.le_trans (show rest.length + ch.length ≤ 8 by omega) (slz rfl), ?_⟩
          refine fin _ ?_
          unfold mkW
          rw [if_pos hc1]
        · refine ⟨_, rfl, _, rfl, _, _, rfl, rfl, Nat.le_trans (show ch.length + rest.length ≤ 8 by omega) (slz rfl), ?_⟩
          refine fin _ ?_
          unfold mkW
          rw [if_neg hc1]
      · have T6 := T5.same s6
        rw [List.length_map, List.take_of_length_le (Nat.le_refl _)] at g6
        have n2 : D2 ≠ t := T5.ne hD2
        have EE : Ext t H H6 := ((E2.trans (same_ext s4)).trans e5).trans (same_ext s6)
        refine k H6 D2 rest first _ EE T6 ?_ hrest hf g6
        exact ((E2.trans (same_ext s4)).trans e5).free n2 hD2
end
end L3

namespace L3
open PySem L2
section
variable {P : Program} {w : World} {K : PySem.W.Frag} {mg : Str → Option Value} {base : Heap}
abbrev s__law_con : Stmt := topS 15
abbrev N__law_con : List Str := ["_law_name", "_law_parts", "_law_found", "_law_part"]
theorem sc__law_con : FnScope N__law_con ["_law_name", "_law_parts"] (defScope s__law_con) := ⟨rfl, rfl, rfl, by decide +kernel, rfl, by decide +kernel, by decide +kernel⟩
def spCon (K : PySem.W.Frag) : Sp := fun vs H Q _ => ∃ (x : Str) (l : Addr) (xs : List V) (ks : List Kd), vs = [.str x, .ref l] ∧ SqL K H l xs ∧ KdsAt H xs ks ∧
  ∀ (H' : Hp) (v : V), Same H H' → KdAt H' v (conK x ks) → Q v H'
theorem ok_con {f : Addr} {fd : FuncData} (F : Fun K "_law_con" "_law_con" s__law_con f fd) : FnOk P w K mg base CX0 1 f fd ["_law_name", "_law_parts"] (spCon K) := by
  refine F.ok sc__law_con (fun vs H Q E h => ?_) (fun cdv A outer s H vs Q E hr h => ?_)
  · obtain ⟨x, l, xs, ks, rfl, _⟩ := h
    rfl
  · obtain ⟨x, l, xs, ks, rfl, h1, h2, k⟩ := h
    refine ⟨_, (pss_cons (ps_set (i := 2) sc__law_con.nd rfl (Or.inl rfl) (pe_tup (pa_cons pe_str (pa_cons (pv 0) pa_nil))))
  (pss_cons (ps_for PassesOwn.never rfl (pi_list (pv 1)) (pg_name (i := 3) sc__law_con.nd rfl (Or.inl rfl))
  (pss_one (ps_set (i := 2) sc__law_con.nd rfl (Or.inl rfl) (pe_tup (pa_cons pe_str (pa_cons (pv 2) (pa_cons (pv 3) pa_nil)))))))
  (pss_one (ps_ret (pv 2))))), ?_⟩
    refine ⟨_, rfl, slz rfl, fun p hp => ?_⟩
    have s0 : Same H (upd H p (.tup [.str "con", .str x])) := same_new hp
    refine ⟨_, rfl, l, rfl, ⟨_, s0.seq h1⟩, for_list (K := K) (a := l) (xs := xs) (fun i σ H' => Same H H' ∧ ∃ (v : V) (pv : Option V), σ = [some (.str x), some (.ref l), some v, pv] ∧ KdAt H' v (conK x (ks.take i))) ⟨s0, .ref p, none, rfl, ⟨p, rfl, upd_same⟩⟩ (fun i σ H' _ ⟨s1, _⟩ => s1.seq h1) ?_ ?_⟩
    · rintro i y σ H' hi ⟨s1, v, pv, rfl, hv⟩
      obtain ⟨ky, hky, hy⟩ := paired_get h2 hi
      refine ⟨_, rfl, _, rfl, slz rfl, fun q hq => ?_⟩
      have s2 : Same H' (upd H' q (.tup [.str "apply", v, y])) := same_new hq
      refine ⟨s1.trans s2, _, _, rfl, ?_⟩
      have tk : ks.take (i + 1) = ks.take i ++ [ky] := by
        rw [List.take_add_one, hky]
        rfl
      rw [tk, conK_snoc]
      exact ⟨q, v, y, rfl, upd_same, KdAt.tups (same_tups s2) hv, KdAt.tups (same_tups (s1.trans s2)) hy⟩
    · rintro σ H' ⟨s1, v, pv, rfl, hv⟩
      have e : ks.take xs.length = ks := by rw [Paired.length h2, List.take_length]
      rw [e] at hv
      exact ⟨_, rfl, k _ _ s1 hv⟩

/-! ### put -/
abbrev s__law_put : Stmt := topS 17
abbrev N__law_put : List Str := ["_law_kind", "_law_by"]
theorem sc__law_put : FnScope N__law_put ["_law_kind", "_law_by"] (defScope s__law_put) := ⟨rfl, rfl, rfl, by decide +kernel, rfl, by decide +kernel, by decide +kernel⟩
def spPut (K : PySem.W.Frag) (n : Nat) : Sp := fun vs H Q _ => ∃ (v : V) (d : Addr) (k : Kd) (kvs : List (Key × V)) (by' : By), vs = [v, .ref d] ∧ KdAt H v k ∧ k.fit n ∧ H d = some (.dK kvs) ∧ ByAt H kvs by' ∧
  ∀ (H' : Hp) (v' : V), Same H H' → KdAt H' v' (k.put by') → Q v' H'
def spPrev (f : Nat → Sp) : Nat → Sp
  | 0 => fun _ _ _ _ => False
  | n + 1 => f n
theorem ok_put_step {n : Nat} {f : Addr} {fd : FuncData} (F : Fun K "_law_put" "_law_put" s__law_put f fd) (D__law_put : Kn P w K mg base n "_law_put" ["_law_kind", "_law_by"] (spPrev (spPut K) n)) : FnOk P w K mg base CX0 (n + 1) f fd ["_law_kind", "_law_by"] (spPut K n) := by
  refine F.ok sc__law_put (fun vs H Q E h => ?_) (fun cdv A outer s H vs Q E hr h => ?_)
  · obtain ⟨v, d, k, kvs, by', rfl, _⟩ := h
    rfl
  · obtain ⟨v, d, kd, kvs, by', rfl, h1, h2, h3, h4, k⟩ := h
    have hr__law_put := hr
    have hu := hu_of hr
    refine ⟨_, (pss_cons (ps_if (pt_cmpR op_eq (pe_ix ix_tup (pv 0) pe_int (fun _ _ => rfl)) pe_str (nomark _))
  (pss_one (ps_ret (pe_tup (pa_cons pe_str (pa_cons (pe_kn D__law_put hr__law_put (pa_cons (pe_ix ix_tup (pv 0) pe_int (fun _ _ => rfl)) (pa_cons (pv 1) pa_nil))) (pa_cons (pe_kn D__law_put hr__law_put (pa_cons (pe_ix ix_tup (pv 0) pe_int (fun _ _ => rfl)) (pa_cons (pv 1) pa_nil))) pa_nil))))))
  pss_nil)
  (pss_one (ps_ret (pe_ifExp (pt_cmpR op_eq (pe_ix ix_tup (pv 0) pe_int (fun _ _ => rfl)) pe_str (nomark _)) (pe_dget2 hu (pv 1) (pe_ix ix_tup (pv 0) pe_int (fun _ _ => rfl)) (pv 0) ⟨rfl, rfl, rfl, rfl⟩) (pv 0))))), ?_⟩
    cases kd with
    | app a b =>
      obtain ⟨m, rfl, ha, hb⟩ := Kd.fit_app h2
      obtain ⟨p, u, z, rfl, hp, hu1, hz1⟩ := h1
      refine ⟨_, rfl, _, _, _, _, rfl, rfl, SqT.of hp, rfl, rfl, _, rfl, iT tg_aa ?_⟩
      refine ⟨_, rfl, _, _, _, _, rfl, rfl, SqT.of hp, rfl, _, rfl, u, d, a, kvs, by', rfl, hu1, ha, h3, h4, fun H1 v1 s1 g1 => ?_⟩
      refine ⟨_, rfl, _, _, _, _, rfl, rfl, SqT.of (s1 _ _ hp), rfl, _, rfl, z, d, b, kvs, by', rfl, KdAt.tups (same_tups s1) hz1, hb, s1 _ _ h3, ByAt.tups (same_tups s1) h4, fun H2 v2 s2 g2 => ?_⟩
      refine ⟨slz rfl, fun q hq => ?_⟩
      have s3 : Same H2 (upd H2 q (.tup [.str "apply", v1, v2])) := same_new hq
      exact k _ _ ((s1.trans s2).trans s3) ⟨q, v1, v2, rfl, upd_same, KdAt.tups (same_tups (s2.trans s3)) g1, KdAt.tups (same_tups s3) g2⟩
    | var x =>
      obtain ⟨p, rfl, hp⟩ := id h1
      refine ⟨_, rfl, _, _, _, _, rfl, rfl, SqT.of hp, rfl, rfl, _, rfl, iF tg_va ?_⟩
      refine ⟨_, rfl, _, _, _, _, rfl, rfl, SqT.of hp, rfl, rfl, _, rfl, iT tg_vv ?_⟩
      refine ⟨_, rfl, d, rfl, .inl ⟨_, .inl h3⟩, _, rfl, _, _, _, _, rfl, rfl, SqT.of hp, rfl, _, rfl, _, DGet.k (k := .inr x) h3, ?_⟩
      rcases h4.get x with ⟨e1, e2⟩ | ⟨v, kd, e1, e2, g⟩
      · rw [e1]
        refine k _ _ (Same.refl _) ?_
        show KdAt H (.ref p) ((lk by' x).getD (.var x))
        rw [e2]
        exact h1
      · rw [e1]
        refine k _ _ (Same.refl _) ?_
        show KdAt H v ((lk by' x).getD (.var x))
        rw [e2]
        exact g
    | con x =>
      obtain ⟨p, rfl, hp⟩ := id h1
      refine ⟨_, rfl, _, _, _, _, rfl, rfl, SqT.of hp, rfl, rfl, _, rfl, iF tg_ca ?_⟩
      refine ⟨_, rfl, _, _, _, _, rfl, rfl, SqT.of hp, rfl, rfl, _, rfl, iF tg_cv ?_⟩
      exact ⟨_, rfl, k _ _ (Same.refl _) h1⟩
theorem ok_put {f : Addr} {fd : FuncData} (F : Fun K "_law_put" "_law_put" s__law_put f fd) (hm : mg "_law_put" = some (.ref f)) : ∀ n, FnOk P w K mg base CX0 (n + 1) f fd ["_law_kind", "_law_by"] (spPut K n)
  | 0 => ok_put_step F ⟨f, fd, fn_false, hm, F.kp, F.binds fun _ _ _ _ _ _ us hl => match us, hl with | [_, _], _ => rfl⟩
  | n + 1 => ok_put_step F ⟨f, fd, ok_put F hm n, hm, F.kp, F.binds fun _ _ _ _ _ _ us hl => match us, hl with | [_, _], _ => rfl⟩
end
end L3

namespace L3
open PySem L2
/-- what a constructor heads has at most two parts -/
def Kd.hv : Kd → Bool
  | .var _ => true
  | .con _ => false
  | .app a _ => a.hv
def Kd.args : Kd → Nat
  | .app a _ => a.args + 1
  | _ => 0
def Kd.two : Kd → Prop
  | .app a b => a.two ∧ b.two ∧ (a.hv = true ∨ a.args ≤ 1)
  | _ => True
theorem two_conK {x : Str} {ks : List Kd} (hl : ks.length ≤ 2) (h : ∀ k ∈ ks, k.two) : (conK x ks).two := by
  match ks, hl, h with
  | [], _, _ => exact trivial
  | [a], _, h => exact ⟨trivial, h a (by simp), .inr (Nat.zero_le 1)⟩
  | [a, b], _, h => exact ⟨⟨trivial, h a (by simp), .inr (Nat.zero_le 1)⟩, h b (by simp), .inr (Nat.le_refl 1)⟩
  | a :: b :: c :: r, hl, _ => simp at hl
section
variable {P : Program} {w : World} {K : PySem.W.Frag} {mg : Str → Option Value} {base : Heap}
abbrev s__law_letter_kind : Stmt := topS 20
abbrev N__law_letter_kind : List Str := ["_law_tape", "_law_names", "_law_cons", "_law_deep", "_law_name", "_law_many", "_law_parts", "_law_k"]
theorem sc__law_letter_kind : FnScope N__law_letter_kind ["_law_tape", "_law_names", "_law_cons", "_law_deep"] (defScope s__law_letter_kind) := ⟨rfl, rfl, rfl, by decide +kernel, rfl, by decide +kernel, by decide +kernel⟩
def cost : Nat → Nat
  | 0 => 3
  | n + 1 => 5 + 2 * cost n
def spLK (K : PySem.W.Frag) (n : Nat) : Sp := fun vs H Q _ => ∃ (t c ln lc : Addr) (ws : List Str) (b : Nat), vs = [.ref t, .ref ln, .ref lc, .int (n : Int)] ∧ SqL K H ln (ws.map V.str) ∧ (∀ x ∈ ws, Wok x) ∧ ws.length < 1000 ∧ ConsAt K H lc ∧ Tape K H t c (b + cost n) ∧
  ∀ (H' : Hp) (v : V) (k : Kd), Ext t H H' → Tape K H' t c b → KdAt H' v k → k.fit (2 * n) → Kd.of ws k → k.two → Q v H'
theorem ok_letter_step {n : Nat} {f : Addr} {fd : FuncData} (F : Fun K "_law_letter_kind" "_law_letter_kind" s__law_letter_kind f fd) (B : Bl mg) (D__law_draw : Kn P w K mg base 1 "_law_draw" ["_law_tape", "_law_many"] (spDraw K)) (D__law_pick : Kn P w K mg base 2 "_law_pick" ["_law_tape", "_law_items"] (spPick K))
    (D__law_con : Kn P w K mg base 1 "_law_con" ["_law_name", "_law_parts"] (spCon K)) (D__law_letter_kind : Kn P w K mg base (n + 2) "_law_letter_kind" ["_law_tape", "_law_names", "_law_cons", "_law_deep"] (spPrev (spLK K) n)) : FnOk P w K mg base CX0 (n + 3) f fd ["_law_tape", "_law_names", "_law_cons", "_law_deep"] (spLK K n) := by
  refine F.ok sc__law_letter_kind (fun vs H Q E h => ?_) (fun cdv A outer s H vs Q E hr h => ?_)
  · obtain ⟨t, c, ln, lc, ws, b, rfl, _⟩ := h
    rfl
  · obtain ⟨t, c, ln, lc, ws, b, rfl, h1, h2, h3, h4, hT, k⟩ := h
    have hr__law_draw : Room 1 _ := hr.mono (by omega)
    have hr__law_con : Room 1 _ := hr.mono (by omega)
    have hr__law_pick : Room 2 _ := hr.mono (by omega)
    have hr__law_letter_kind := hr
    have hu64 := hr.units
    have c3 : 3 ≤ cost n := by cases n <;> simp only [cost] <;> omega
    refine ⟨_, (pss_cons (ps_if (PW.pt (pw_or (pt_cmpR op_eq (pv 3) pe_int (nomark _)) (pw_or1 (pt_cmpR op_eq (pe_kn D__law_draw hr__law_draw (pa_cons (pv 0) (pa_cons pe_int pa_nil))) pe_int (nomark _)))))
  (pss_one (ps_ret (pe_ifExp (PW.pt (pw_and (pt_cmpR (op_neD hu64) (pv 1) (pe_lst pa_nil) (nomark _)) (pw_and1 (pt_cmpR op_eq (pe_kn D__law_draw hr__law_draw (pa_cons (pv 0) (pa_cons pe_int pa_nil))) pe_int (nomark _))))) (pe_tup (pa_cons pe_str (pa_cons (pe_kn D__law_pick hr__law_pick (pa_cons (pv 0) (pa_cons (pv 1) pa_nil))) pa_nil))) (pe_tup (pa_cons pe_str (pa_cons (pe_ix ix_tup (pe_kn D__law_pick hr__law_pick (pa_cons (pv 0) (pa_cons (pv 2) pa_nil))) pe_int (fun _ _ => rfl)) pa_nil))))))
  pss_nil)
  (pss_cons (ps_asg (pe_kn D__law_pick hr__law_pick (pa_cons (pv 0) (pa_cons (pv 2) pa_nil))) (pg_tup (by rfl) (pgs_cons (pg_name (i := 4) sc__law_letter_kind.nd rfl (Or.inl rfl)) (pgs_cons (pg_name (i := 5) sc__law_letter_kind.nd rfl (Or.inl rfl)) pgs_nil))))
  (pss_cons (ps_setLc (i := 6) (own := [("_law_k", 7)]) rfl sc__law_letter_kind.nd rfl rfl (sw_true rfl rfl rfl (by decide +kernel)) (pi_range1 (by rfl) B.range (pa_cons (pv 5) pa_nil)) (blkOk_by (N := N__law_letter_kind) (sc := (defScope s__law_letter_kind)) (own := [("_law_k", 7)]) (by decide +kernel)) (fun _ _ _ _ _ => (pg_name (i := 7) sc__law_letter_kind.nd rfl (Or.inl rfl))) (fun _ _ _ _ _ => pts_nil) (fun _ _ _ _ _ => (pe_kn D__law_letter_kind hr__law_letter_kind (pa_cons (pv 0) (pa_cons (pv 1) (pa_cons (pv 2) (pa_cons (pe_op op_sub (pv 3) pe_int) pa_nil)))))))
  (pss_cons (ps_if (PW.pt (pw_and (pt_cmpR (op_neD hu64) (pv 1) (pe_lst pa_nil) (nomark _)) (pw_and (pt_cmpR op_eq (pv 5) pe_int (nomark _)) (pw_and1 (pt_cmpR op_eq (pe_kn D__law_draw hr__law_draw (pa_cons (pv 0) (pa_cons pe_int pa_nil))) pe_int (nomark _))))))
  (pss_one (ps_ret (pe_tup (pa_cons pe_str (pa_cons (pe_tup (pa_cons pe_str (pa_cons (pe_kn D__law_pick hr__law_pick (pa_cons (pv 0) (pa_cons (pv 1) pa_nil))) pa_nil))) (pa_cons (pe_ix ix_list (pv 6) pe_int (fun _ _ => rfl)) pa_nil))))))
  pss_nil)
  (pss_one (ps_ret (pe_kn D__law_con hr__law_con (pa_cons (pv 4) (pa_cons (pv 6) pa_nil))))))))), ?_⟩
    -- the leaf ("con", pick(cons)[0])
    have con_leaf : ∀ H3 : Hp, Ext t H H3 → Tape K H3 t c (b + 1) → tTup (tCons (tC (.str "con")) (tCons (tOp (rIxT K) (tCall (spPick K) [] E0 (tCons (tVar 0) (tCons (tVar 2) tNil))) (tC (.int 0))) tNil)) [some (.ref t), some (.ref ln), some (.ref lc), some (.int (n : Int)), none, none, none, none] H3 Q := by
      intro H3 E3 T3
      obtain ⟨xs, h41, h42, h43, h44⟩ := h4.ext hT E3
      refine ⟨_, rfl, _, rfl, t, c, lc, xs, b, rfl, h41, h42, by omega, T3, fun H4 v E4 T4 hv => ?_⟩
      obtain ⟨a, x, m, rfl, ha, _, wx⟩ := h44 v hv
      refine ⟨_, _, _, _, rfl, rfl, SqT.of (Ext.tups E4 T3 _ _ ha), rfl, slz rfl, fun q hq => ?_⟩
      exact k _ _ (.con x) ((E3.trans E4).trans (Ext.new hq)) (T4.new hq) ⟨q, rfl, upd_same⟩ (fitC wx) trivial trivial
    refine ⟨_, rfl, rfl, _, rfl, ite2 (fun z => ?g1) (fun hn0 => ?g2)⟩
    case' g1 =>
      refine iteT ?_
      have E1 : Ext t H H := Ext.refl _ _
      have T1 : Tape K H t c (b + 2) := hT.less (by omega)
    case' g2 =>
      refine ⟨_, rfl, t, c, 3, b + (cost n - 1), rfl, by decide, by decide, hT.less (by omega), fun H1 r1 E1 T1 hr1 hr2 => ⟨rfl, _, rfl, ite2 (fun z => ?g3) (fun z => ?g4)⟩⟩
    case' g3 => replace T1 := T1.less (show b + 2 ≤ _ by omega)
    case g1 | g3 =>
      refine ⟨_, rfl, slz rfl, fun e he => ?_⟩
      have E2 := E1.trans (Ext.new (o := .lst []) he)
      have T2 := T1.new (o := .lst []) he
      refine ⟨_, _, .lst (SqL.extT h1 hT E2) (dp_words ws), .lst (SqL.of upd_same) .nil, shaped_words h2, shaped_nil, _, rfl, ?_⟩
      rw [words_ne]
      refine ite2 (fun hws => ?_) (fun hws => ?_)
      · have ne : 0 < ws.length := by
          cases ws with
          | nil => cases hws
          | cons x r => exact Nat.zero_lt_succ _
        refine ⟨_, rfl, t, c, 2, b + 1, rfl, by decide, by decide, T2, fun H3 r3 E3 T3 hr31 hr32 => ⟨rfl, _, rfl, ite2 (fun z => ?_) (fun z => ?_)⟩⟩
        · refine ⟨_, rfl, _, rfl, t, c, ln, ws.map V.str, b, rfl, SqL.extT h1 hT (E2.trans E3), by rw [List.length_map]; exact ne, by rw [List.length_map]; omega, T3, fun H4 v E4 T4 hv => ?_⟩
          obtain ⟨x, hx, rfl⟩ := List.mem_map.mp hv
          refine ⟨slz rfl, fun q hq => ?_⟩
          exact k _ _ (.var x) (((E2.trans E3).trans E4).trans (Ext.new hq)) (T4.new hq) ⟨q, rfl, upd_same⟩ (fitV (h2 x hx)) hx trivial
        · exact con_leaf H3 (E2.trans E3) (T3.less (by omega))
      · exact iteF (con_leaf _ E2 (T2.less (by omega)))
    case g4 =>
      obtain ⟨j, rfl⟩ : ∃ j, n = j + 1 := by
        cases n with
        | zero => exact absurd rfl hn0
        | succ j => exact ⟨j, rfl⟩
      obtain ⟨xs, h41, h42, h43, h44⟩ := h4.ext hT E1
      refine ⟨_, rfl, _, rfl, t, c, lc, xs, b + 3 + 2 * cost j, rfl, h41, h42, by omega, T1.less (by simp only [cost]; omega), fun H2 v E2 T2 hv => ?_⟩
      obtain ⟨a, x, m, rfl, ha, hm, wx⟩ := h44 v hv
      have EE := E1.trans E2
      refine ⟨a, _, rfl, SqT.of (Ext.tups E2 T1 _ _ ha), rfl, _, _, rfl, _, _, rfl, rfl, ?_⟩
      refine ⟨_, rfl, (m : Int), rfl, by omega, by omega, fun D hD => ?_⟩
      refine lc_range (lo := 0) (n := m) (fun i H' => Ext t H2 H' ∧ Tape K H' t c (b + 2 + (m - i) * cost j) ∧ ∃ (vs : List V) (ks : List Kd), H' D = some (.lst vs) ∧ KdsAt H' vs ks ∧ vs.length = i ∧ ∀ k ∈ ks, k.fit (2 * j) ∧ Kd.of ws k ∧ k.two)
        ⟨Ext.new hD, (T2.new hD).less ?_, [], [], upd_same, .nil, rfl, fun _ q => nomatch q⟩ (fun i H' hi ⟨e1, t1, vs, ks, g1, g2, g3, g4⟩ => ⟨rfl, ?_⟩) (fun H3 ⟨e1, t1, vs, ks, g1, g2, g3, g4⟩ => ?_)
      · have : m * cost j ≤ 2 * cost j := Nat.mul_le_mul_right _ hm
        rw [Nat.sub_zero]
        omega
      · have em : (m - i) * cost j = (m - (i + 1)) * cost j + cost j := by
          rw [show m - i = (m - (i + 1)) + 1 by omega, Nat.succ_mul]
        refine ⟨_, rfl, _, rfl, _, rfl, _, rfl, _, _, rfl, rfl, ?_⟩
        refine ⟨t, c, ln, lc, ws, b + 2 + (m - (i + 1)) * cost j, congrArg (fun z : Int => [V.ref t, V.ref ln, V.ref lc, V.int z]) (by omega), SqL.extT h1 hT (EE.trans e1), h2, h3, h4.ext hT (EE.trans e1), t1.less (by omega), fun H4 v k4 e4 t4 f1 f2 f3 f4 => ?_⟩
        have nD : D ≠ t := T2.ne hD
        refine ⟨vs, e4 _ _ nD g1, small1000 (by omega), (e1.trans e4).upd hD, Tape.put T2 (e1.trans e4) t4 hD, vs ++ [v], ks ++ [k4], upd_same, ?_, by rw [List.length_append, g3]; rfl, ?_⟩
        · have tu : Tups H4 (upd H4 D (.lst (vs ++ [v]))) := Tups.put (e4 _ _ nD g1) (by intro xs z; cases z)
          exact Paired.snoc (KdsAt.tups ((Ext.tups e4 t1).trans tu) g2) (KdAt.tups tu f1)
        · intro k hk
          rcases List.mem_append.mp hk with q | q
          · exact g4 k q
          · rw [List.mem_singleton.mp q]
            exact ⟨f2, f3, f4⟩
      · have EE3 := EE.trans e1
        have lks : ks.length = m := by rw [← Paired.length g2, g3]
        -- the kind with its parts
        have con_all : ∀ H5 : Hp, Ext t H3 H5 → Tape K H5 t c b → tRet (tCall (spCon K) [] E0 (tCons (tVar 4) (tCons (tVar 6) tNil))) { nx := fun _ H' => Q .non H', rt := Q } [some (.ref t), some (.ref ln), some (.ref lc), some (.int ((j + 1 : Nat) : Int)), some (.str x), some (.int (m : Int)), some (.ref D), none] H5 := by
          intro H5 e5 t5
          refine ⟨_, rfl, _, rfl, x, D, vs, ks, rfl, SqL.of (e5 _ _ (T2.ne hD) g1), KdsAt.tups (Ext.tups e5 t1) g2, fun H6 v s6 f6 => ?_⟩
          exact k _ _ _ ((EE3.trans e5).trans (same_ext s6)) (t5.same s6) f6 (Kd.fit_mono (by omega) (fit_conK wx fun q hq => (g4 q hq).1)) (of_conK fun q hq => (g4 q hq).2.1) (two_conK (by omega) fun q hq => (g4 q hq).2.2)
        refine ⟨_, rfl, slz rfl, fun e he => ?_⟩
        have e6 := Ext.new (t := t) (o := .lst []) he
        have t6 := t1.new (o := .lst []) he
        refine ⟨_, _, .lst (SqL.extT h1 hT (EE3.trans e6)) (dp_words ws), .lst (SqL.of upd_same) .nil, shaped_words h2, shaped_nil, _, rfl, ?_⟩
        rw [words_ne]
        refine ite2 (fun hws => ?_) (fun hws => ?_)
        · refine ⟨_, rfl, rfl, _, rfl, ite2 (fun hm1 => ?_) (fun hm1 => ?_)⟩
          · have m1 : m = 1 := by
              have q := V.int.inj (of_decide_eq_true hm1)
              omega
            refine ⟨_, rfl, t, c, 4, b + 1, rfl, by decide, by decide, t6.less (by omega), fun H7 r7 e7 t7 hr71 hr72 => ⟨rfl, _, rfl, ite2 (fun z => ?_) (fun z => ?_)⟩⟩
            · have ne : 0 < ws.length := by
                cases ws with
                | nil => cases hws
                | cons x r => exact Nat.zero_lt_succ _
              refine ⟨_, rfl, _, rfl, t, c, ln, ws.map V.str, b, rfl, SqL.extT h1 hT ((EE3.trans e6).trans e7), by rw [List.length_map]; exact ne, by rw [List.length_map]; omega, t7, fun H8 v e8 t8 hv => ?_⟩
              obtain ⟨y, hy, rfl⟩ := List.mem_map.mp hv
              refine ⟨slz rfl, fun q hq => ?_⟩
              subst m1
              obtain ⟨v0, rfl⟩ : ∃ v0, vs = [v0] := by
                match vs, g3 with
                | [v0], _ => exact ⟨v0, rfl⟩
              obtain ⟨k0, rfl⟩ : ∃ k0, ks = [k0] := by
                match ks, lks with
                | [k0], _ => exact ⟨k0, rfl⟩
              have gD : H8 D = some (.lst [v0]) := e8 _ _ (T2.ne hD) (e7 _ _ (T2.ne hD) (e6 _ _ (T2.ne hD) g1))
              have nq : D ≠ q := ne_of_none gD hq
              refine ⟨_, rfl, _, _, _, _, rfl, rfl, SqL.of (by rw [upd_ne nq]; exact gD), rfl, slz rfl, fun q2 hq2 => ?_⟩
              have k0at : KdAt H3 v0 k0 := by cases g2 with | cons r _ => exact r
              have e9 : Ext t H8 (upd H8 q (.tup [.str "var", .str y])) := Ext.new hq
              have t9 := t8.new (o := .tup [.str "var", .str y]) hq
              have e10 := Ext.new (t := t) (o := .tup [.str "apply", .ref q, v0]) hq2
              have up : Tups H3 _ := Ext.tups (((e6.trans e7).trans e8).trans (e9.trans e10)) t1
              refine k _ _ (.app (.var y) k0) (((((EE3.trans e6).trans e7).trans e8).trans e9).trans e10) (t9.new hq2) ⟨q2, .ref q, v0, rfl, upd_same, ⟨q, rfl, Ext.tups e10 t9 _ _ upd_same⟩, KdAt.tups up k0at⟩ ?_ ⟨hy, (g4 k0 List.mem_cons_self).2.1⟩ ⟨trivial, (g4 k0 List.mem_cons_self).2.2, .inl rfl⟩
              exact ⟨fitV (h2 y hy), show Kd.fit (2 * j + 1) k0 from Kd.fit_mono (by omega) (g4 k0 List.mem_cons_self).1⟩
            · exact con_all H7 (e6.trans e7) (t7.less (by omega))
          · exact iteF (con_all _ e6 (t6.less (by omega)))
        · exact iteF (con_all _ e6 (t6.less (by omega)))
theorem ok_letter {f : Addr} {fd : FuncData} (F : Fun K "_law_letter_kind" "_law_letter_kind" s__law_letter_kind f fd) (hm : mg "_law_letter_kind" = some (.ref f)) (B : Bl mg) (D1 : Kn P w K mg base 1 "_law_draw" ["_law_tape", "_law_many"] (spDraw K)) (D2 : Kn P w K mg base 2 "_law_pick" ["_law_tape", "_law_items"] (spPick K))
    (D3 : Kn P w K mg base 1 "_law_con" ["_law_name", "_law_parts"] (spCon K)) : ∀ n, FnOk P w K mg base CX0 (n + 3) f fd ["_law_tape", "_law_names", "_law_cons", "_law_deep"] (spLK K n)
  | 0 => ok_letter_step F B D1 D2 D3 ⟨f, fd, fn_false.mono (by decide), hm, F.kp, F.binds fun _ _ _ _ _ _ us hl => match us, hl with | [_, _, _, _], _ => rfl⟩
  | n + 1 => ok_letter_step F B D1 D2 D3 ⟨f, fd, ok_letter F hm B D1 D2 D3 n, hm, F.kp, F.binds fun _ _ _ _ _ _ us hl => match us, hl with | [_, _, _, _], _ => rfl⟩
end
end L3

namespace L3
open PySem L2
/-! ### variables in order -/
def addV (fs : List Str) (x : Str) : List Str := if x ∈ fs then fs else fs ++ [x]
def Kd.vs : Kd → List Str → List Str
  | .var x, fs => addV fs x
  | .con _, fs => fs
  | .app a b, fs => b.vs (a.vs fs)
def vsL : List Kd → List Str → List Str
  | [], fs => fs
  | k :: r, fs => vsL r (k.vs fs)
def Kd.size : Kd → Nat
  | .var _ => 1
  | .con _ => 1
  | .app a b => a.size + b.size + 1
def sizeL : List Kd → Nat
  | [] => 0
  | k :: r => k.size + sizeL r
theorem Kd.size_pos (k : Kd) : 0 < k.size := by cases k <;> simp [Kd.size]
theorem eqV_str (x y : Str) : eqV (.str y) (.str x) = decide (y = x) := str_beq y x
theorem inV_words (x : Str) : ∀ fs : List Str, inV (.str x) (fs.map V.str) = decide (x ∈ fs)
  | [] => rfl
  | y :: r => by
    have ih := inV_words x r
    unfold inV at ih ⊢
    rw [List.map_cons, List.any_cons, ih, eqV_str]
    by_cases h : y = x
    · subst h
      simp
    · have h2 : ¬ x = y := fun e => h e.symm
      simp [h, h2]
theorem flat_words : ∀ fs : List Str, (fs.map V.str).all flatV = true
  | [] => rfl
  | _ :: r => by
    rw [List.map_cons, List.all_cons, flat_words r]
    rfl
/-- the last of a row -/
theorem paired_last {α β : Type} {F : α → β → Prop} : ∀ {xs : List α} {ys : List β} {y : β}, Paired F xs (ys ++ [y]) → ∃ xs0 x, xs = xs0 ++ [x] ∧ Paired F xs0 ys ∧ F x y
  | [], [], _, h => nomatch h
  | [], _ :: _, _, h => nomatch h
  | x :: xs, [], y, .cons r t => by
    cases t
    exact ⟨[], x, rfl, .nil, r⟩
  | x :: xs, z :: ys, y, .cons r t => by
    obtain ⟨xs0, w, e, h1, h2⟩ := paired_last (ys := ys) t
    exact ⟨x :: xs0, w, by rw [e]; rfl, .cons r h1, h2⟩
theorem paired_snoc {α β : Type} {F : α → β → Prop} {xs : List α} {ys : List β} {x : α} {y : β} (h : Paired F xs ys) (r : F x y) : Paired F (xs ++ [x]) (ys ++ [y]) := Paired.snoc h r
theorem paired_rev {α β : Type} {F : α → β → Prop} : ∀ {xs : List α} {ys : List β}, Paired F xs ys → Paired F xs.reverse ys.reverse
  | _, _, .nil => .nil
  | _, _, .cons r t => by
    rw [List.reverse_cons, List.reverse_cons]
    exact Paired.snoc (paired_rev t) r
theorem kds_snoc : ∀ ks : List Kd, ks ≠ [] → ∃ ks0 k, ks = ks0 ++ [k] := fun ks h => ⟨ks.dropLast, ks.getLast h, (List.dropLast_concat_getLast h).symm⟩
theorem shaped_kds {ks : List Kd} (h : ∀ k ∈ ks, k.fit 60) : SeqAt.shaped (.list (ks.map Kd.dat)) = true := by
  have key : ∀ ks : List Kd, (∀ k ∈ ks, k.fit 60) → PyData.canLayAll0 (ks.map Kd.dat) = true ∧ PyData.depthAll (ks.map Kd.dat) ≤ 61 := by
    intro ks
    induction ks with
    | nil => intro _; exact ⟨by simp [PyData.canLayAll0], by simp [PyData.depthAll]⟩
    | cons k r ih =>
      intro h
      obtain ⟨h1, h2⟩ := ih fun y hy => h y (List.mem_cons_of_mem _ hy)
      obtain ⟨h3, h4⟩ := Kd.lay (h k List.mem_cons_self)
      refine ⟨by simp only [List.map_cons, PyData.canLayAll0, h3, h1, Bool.true_and], ?_⟩
      simp only [List.map_cons, PyData.depthAll]
      omega
  obtain ⟨h1, h2⟩ := key ks h
  unfold SeqAt.shaped
  simp only [PyData.canLay0, h1, PyData.depth, Bool.true_and]
  exact decide_eq_true (by omega)
theorem kds_ne {ks : List Kd} : (!PyData.eqv (.list (ks.map Kd.dat)) (.list [])) = !ks.isEmpty := by
  rw [eqv_ll]
  cases ks with
  | nil => rw [List.map_nil, eqv_nn]; rfl
  | cons x r => rw [List.map_cons, eqv_cn]; rfl
/-! ### matching -/
def Kd.mt : Kd → Kd → By → Bool × By
  | .var x, k, b => match lk b x with
    | some k' => (decide (k' = k), b)
    | none => (true, b ++ [(x, k)])
  | .con x, k, b => (decide (Kd.con x = k), b)
  | .app a c, .app d e, b => if (a.mt d b).1 = true then c.mt e (a.mt d b).2 else (false, (a.mt d b).2)
  | .app _ _, .var _, b => (false, b)
  | .app _ _, .con _, b => (false, b)
def mtL : List Kd → List Kd → By → Option By
  | p :: ps, k :: ks, b => if (p.mt k b).1 = true then mtL ps ks (p.mt k b).2 else none
  | _, _, b => some b
def mtP : List (Kd × Kd) → By → Option By
  | [], b => some b
  | (p, k) :: r, b => if (p.mt k b).1 = true then mtP r (p.mt k b).2 else none
theorem mtP_zip : ∀ (ps ks : List Kd) (b : By), mtP (ps.zip ks) b = mtL ps ks b
  | [], _, _ => rfl
  | _ :: _, [], _ => rfl
  | p :: ps, k :: ks, b => by
    show (if (p.mt k b).1 = true then mtP (ps.zip ks) (p.mt k b).2 else none) = if (p.mt k b).1 = true then mtL ps ks (p.mt k b).2 else none
    rw [mtP_zip ps ks]
theorem mtP_app (a c d e : Kd) (r : List (Kd × Kd)) (b : By) : mtP ((.app a c, .app d e) :: r) b = mtP ((a, d) :: (c, e) :: r) b := by
  show (if ((Kd.app a c).mt (.app d e) b).1 = true then mtP r ((Kd.app a c).mt (.app d e) b).2 else none) = if (a.mt d b).1 = true then (if (c.mt e (a.mt d b).2).1 = true then mtP r (c.mt e (a.mt d b).2).2 else none) else none
  by_cases h : (a.mt d b).1 = true
  · have q : (Kd.app a c).mt (.app d e) b = c.mt e (a.mt d b).2 := by simp only [Kd.mt, if_pos h]
    rw [if_pos h, q]
  · have q : (Kd.app a c).mt (.app d e) b = (false, (a.mt d b).2) := by simp only [Kd.mt, if_neg h]
    rw [if_neg h, q]
    rfl
theorem lk_snoc {b : By} {x : Str} {k : Kd} (h : lk b x = none) (y : Str) : lk (b ++ [(x, k)]) y = if y = x then some k else lk b y := by
  induction b with
  | nil =>
    by_cases e : x = y
    · rw [if_pos e.symm]
      exact lk_pos e
    · rw [if_neg (fun z => e z.symm)]
      exact lk_neg e
  | cons p r ih =>
    have hk : ¬ p.1 = x := fun z => by rw [lk_pos z] at h; cases h
    rw [lk_neg hk] at h
    rw [List.cons_append]
    by_cases e : p.1 = y
    · rw [lk_pos e, lk_pos e, if_neg (fun z => hk (e.trans z))]
    · rw [lk_neg e, lk_neg e, ih h]
theorem lk_mem {b : By} {x : Str} {k : Kd} (h : lk b x = some k) : (x, k) ∈ b := by
  induction b with
  | nil => cases h
  | cons p r ih =>
    by_cases e : p.1 = x
    · rw [lk_pos e] at h
      have : p = (x, k) := by
        obtain ⟨p1, p2⟩ := p
        have e' : p1 = x := e
        have h' : p2 = k := Option.some.inj h
        rw [e', h']
      rw [this]
      exact List.mem_cons_self
    · rw [lk_neg e] at h
      exact List.mem_cons_of_mem _ (ih h)
/-- what matching adds -/
theorem Kd.mt_grow {m : Nat} : ∀ (p k : Kd) (b : By), k.fit m → (∀ q ∈ b, q.2.fit m) → (p.mt k b).2.length ≤ b.length + p.size ∧ ∀ q ∈ (p.mt k b).2, q.2.fit m
  | .var x, k, b, hk, hb => by
    simp only [Kd.mt]
    cases e : lk b x with
    | some k' => exact ⟨Nat.le_add_right _ _, hb⟩
    | none =>
      refine ⟨by simp [Kd.size], fun q hq => ?_⟩
      rcases List.mem_append.mp hq with h | h
      · exact hb q h
      · rw [List.mem_singleton.mp h]
        exact hk
  | .con x, k, b, hk, hb => ⟨Nat.le_add_right _ _, hb⟩
  | .app a c, .app d e, b, hk, hb => by
    obtain ⟨j, rfl, h1, h2⟩ := Kd.fit_app hk
    have h1' := Kd.fit_mono (Nat.le_succ j) h1
    have h2' := Kd.fit_mono (Nat.le_succ j) h2
    obtain ⟨g1, g2⟩ := Kd.mt_grow a d b h1' hb
    obtain ⟨g3, g4⟩ := Kd.mt_grow c e (a.mt d b).2 h2' g2
    simp only [Kd.mt]
    by_cases h : (a.mt d b).1 = true
    · rw [if_pos h]
      refine ⟨?_, g4⟩
      simp only [Kd.size]
      omega
    · rw [if_neg h]
      refine ⟨?_, g2⟩
      simp only [Kd.size]
      omega
  | .app _ _, .var _, b, _, hb => ⟨Nat.le_add_right _ _, hb⟩
  | .app _ _, .con _, b, _, hb => ⟨Nat.le_add_right _ _, hb⟩
/-- the names, as the variables come -/
def names (b : By) : List Str := b.map (·.1)
theorem lk_names (b : By) (x : Str) : (lk b x).isSome = decide (x ∈ names b) := by
  induction b with
  | nil => rfl
  | cons p r ih =>
    by_cases e : p.1 = x
    · rw [lk_pos e]
      simp [names, e]
    · rw [lk_neg e, ih]
      have e' : ¬ x = p.1 := fun z => e z.symm
      have q : names (p :: r) = p.1 :: names r := rfl
      rw [q]
      simp [e']
theorem Kd.mt_names : ∀ (p k : Kd) (b : By), (p.mt k b).1 = true → names (p.mt k b).2 = p.vs (names b)
  | .var x, k, b, h => by
    have hn := lk_names b x
    simp only [Kd.mt, Kd.vs, addV] at h ⊢
    cases e : lk b x with
    | some k' =>
      rw [e] at hn
      have : x ∈ names b := of_decide_eq_true hn.symm
      simp only [this, if_true]
    | none =>
      rw [e] at hn
      have : ¬ x ∈ names b := of_decide_eq_false hn.symm
      rw [if_neg this]
      simp [names]
  | .con x, k, b, _ => rfl
  | .app a c, .app d e, b, h => by
    simp only [Kd.mt, Kd.vs] at h ⊢
    by_cases h1 : (a.mt d b).1 = true
    · rw [if_pos h1] at h ⊢
      rw [Kd.mt_names c e _ h, Kd.mt_names a d b h1]
    · rw [if_neg h1] at h
      cases h
  | .app _ _, .var _, b, h => by simp [Kd.mt] at h
  | .app _ _, .con _, b, h => by simp [Kd.mt] at h
theorem mtL_names : ∀ (ps ks : List Kd) (b c : By), ps.length = ks.length → mtL ps ks b = some c → names c = vsL ps (names b)
  | [], [], b, c, _, h => by cases h; rfl
  | [], _ :: _, _, _, h, _ => by cases h
  | _ :: _, [], _, _, h, _ => by cases h
  | p :: ps, k :: ks, b, c, hl, h => by
    simp only [mtL] at h
    by_cases h1 : (p.mt k b).1 = true
    · rw [if_pos h1] at h
      rw [mtL_names ps ks _ c (Nat.succ.inj hl) h, Kd.mt_names p k b h1]
      rfl
    · rw [if_neg h1] at h
      cases h
end L3

namespace L3
open PySem L2
section
variable {P : Program} {w : World} {K : PySem.W.Frag} {mg : Str → Option Value} {base : Heap}
/-! ### vars -/
abbrev s__law_vars : Stmt := topS 18
abbrev N__law_vars : List Str := ["_law_kinds", "_law_found", "_law_waiting", "_law_kind"]
theorem sc__law_vars : FnScope N__law_vars ["_law_kinds"] (defScope s__law_vars) := ⟨rfl, rfl, rfl, by decide +kernel, rfl, by decide +kernel, by decide +kernel⟩
def spVars (K : PySem.W.Frag) : Sp := fun vs H Q _ => ∃ (l : Addr) (xs : List V) (ks : List Kd), vs = [.ref l] ∧ SqL K H l xs ∧ KdsAt H xs ks ∧ (∀ k ∈ ks, k.fit 60) ∧ sizeL ks ≤ 100000 ∧
  ∀ (H' : Hp) (p : Addr), Same H H' → H p = none → H' p = some (.lst ((vsL ks []).map V.str)) → Q (.ref p) H'
theorem vsL_append : ∀ (a b : List Kd) (fs : List Str), vsL (a ++ b) fs = vsL b (vsL a fs)
  | [], _, _ => rfl
  | k :: r, b, fs => vsL_append r b (k.vs fs)
theorem sizeL_append : ∀ (a b : List Kd), sizeL (a ++ b) = sizeL a + sizeL b
  | [], b => (Nat.zero_add _).symm
  | k :: r, b => by
    show k.size + sizeL (r ++ b) = k.size + sizeL r + sizeL b
    rw [sizeL_append r b, Nat.add_assoc]
theorem sizeL_rev : ∀ (a : List Kd), sizeL a.reverse = sizeL a
  | [] => rfl
  | k :: r => by
    rw [List.reverse_cons, sizeL_append, sizeL_rev r]
    show sizeL r + (k.size + 0) = k.size + sizeL r
    omega
theorem sizeL_len : ∀ (a : List Kd), a.length ≤ sizeL a
  | [] => Nat.le_refl _
  | k :: r => by
    have := sizeL_len r
    have := k.size_pos
    simp only [List.length_cons, sizeL]
    omega
theorem size_line {n : Nat} (h : n ≤ 1000000) : n < sizeLine := Nat.lt_of_le_of_lt h (by decide)
theorem ok_vars {f : Addr} {fd : FuncData} (F : Fun K "_law_vars" "_law_vars" s__law_vars f fd) (B : Bl mg) : FnOk P w K mg base CX0 1 f fd ["_law_kinds"] (spVars K) := by
  refine F.ok sc__law_vars (fun vs H Q E h => ?_) (fun cdv A outer s H vs Q E hr h => ?_)
  · obtain ⟨l, xs, ks, rfl, _⟩ := h
    rfl
  · obtain ⟨l, xs, ks, rfl, h1, h2, h3, h4, k⟩ := h
    have hu64 := hr.units
    refine ⟨_, (pss_cons (ps_par (i := 1) (j := 2) (by rfl) sc__law_vars.nd rfl rfl (by decide) rfl rfl (pa_cons (pe_lst pa_nil) (pa_cons (pe_revL (pe_callTy call_list_of (by rfl) B.list (by decide +kernel) (pa_cons (pv 0) pa_nil))) pa_nil)) (by rfl))
  (pss_cons (ps_while PassesOwn.never (pt_cmpR (op_neD hu64) (pv 2) (pe_lst pa_nil) (nomark _))
  (pss_cons (ps_set (i := 3) sc__law_vars.nd rfl (Or.inl rfl) (pe_bm0 PySem.F.plainAttrs_list PySem.F.slot_list_pop PySem.F.type_list_pop mt_pop (pv 2)))
  (pss_one (ps_if (pt_cmpR op_eq (pe_ix ix_tup (pv 3) pe_int (fun _ _ => rfl)) pe_str (nomark _))
  (pss_one (ps_expr (pe_bm PySem.F.plainAttrs_list PySem.F.slot_list_extend PySem.F.type_list_extend mt_extend (pv 2) (pa_cons (pe_lst (pa_cons (pe_ix ix_tup (pv 3) pe_int (fun _ _ => rfl)) (pa_cons (pe_ix ix_tup (pv 3) pe_int (fun _ _ => rfl)) pa_nil))) pa_nil))))
  (pss_one (ps_if (PW.pt (pw_and (pt_cmpR op_eq (pe_ix ix_tup (pv 3) pe_int (fun _ _ => rfl)) pe_str (nomark _)) (pw_and1 (pt_cmpR op_notIn_seq (pe_ix ix_tup (pv 3) pe_int (fun _ _ => rfl)) (pv 1) (by rfl)))))
  (pss_one (ps_expr (pe_bm PySem.F.plainAttrs_list PySem.F.slot_list_append PySem.F.type_list_append mt_append (pv 1) (pa_cons (pe_ix ix_tup (pv 3) pe_int (fun _ _ => rfl)) pa_nil))))
  pss_nil))))))
  (pss_one (ps_ret (pv 1))))), ?_⟩
    refine ⟨slz rfl, fun lf hlf => ?_⟩
    have s1 : Same H (upd H lf (.lst [])) := same_new hlf
    refine ⟨_, rfl, l, xs, rfl, .inl (s1.seq h1), fun l2 hl2 => ?_⟩
    have s2 : Same (upd H lf (.lst [])) (upd (upd H lf (.lst [])) l2 (.lst xs)) := same_new hl2
    refine ⟨l2, xs, rfl, SqL.of upd_same, fun lw hlw => ?_⟩
    have s3 : Same (upd (upd H lf (.lst [])) l2 (.lst xs)) (upd (upd (upd H lf (.lst [])) l2 (.lst xs)) lw (.lst xs.reverse)) := same_new hlw
    have ss := (s1.trans s2).trans s3
    have nlw : H lw = none := (s1.trans s2).free hlw
    have nfw : lf ≠ lw := ne_of_none (s2 _ _ upd_same) hlw
    refine ⟨_, _, rfl, ?_⟩
    -- the loop
    refine ⟨fun m σ H' => ∃ (st : List Kd) (vs : List V) (fs : List Str) (v3 : Option V), σ = [some (.ref l), some (.ref lf), some (.ref lw), v3] ∧ Same H H' ∧ H' lf = some (.lst (fs.map V.str)) ∧ H' lw = some (.lst vs) ∧ KdsAt H' vs st ∧ m = sizeL st ∧
      (∀ k ∈ st, k.fit 60) ∧ fs.length + sizeL st ≤ 100000 ∧ vsL st.reverse fs = vsL ks [], ⟨sizeL ks, ks.reverse, xs.reverse, [], none, rfl, ss, ?_, upd_same, KdsAt.tups (same_tups ss) (paired_rev h2), (sizeL_rev ks).symm, fun q hq => h3 q (List.mem_reverse.mp hq), by rw [sizeL_rev]; simpa using h4, by rw [List.reverse_reverse]⟩, ?_⟩
    · rw [upd_ne nfw]
      exact s2 _ _ upd_same
    · rintro m σ H1 ⟨st, vs, fs, v3, rfl, s4, g1, g2, g3, rfl, g4, g5, g6⟩
      refine ⟨_, rfl, slz rfl, fun e he => ?_⟩
      have s5 : Same H1 (upd H1 e (.lst [])) := same_new he
      refine ⟨_, _, .lst (SqL.of (s5 _ _ g2)) (KdsAt.dp (KdsAt.tups (same_tups s5) g3)), .lst (SqL.of upd_same) .nil, shaped_kds g4, shaped_nil, _, rfl, ?_⟩
      rw [kds_ne]
      have S5 := s4.trans s5
      have g1' := s5 _ _ g1
      have g2' := s5 _ _ g2
      have g3' := KdsAt.tups (same_tups s5) g3
      generalize upd H1 e (.lst []) = H2 at S5 g1' g2' g3' ⊢
      clear g1 g2 g3 s5 s4
      by_cases hst : st = []
      · subst hst
        refine iteF ?_
        refine ⟨_, rfl, k H2 lf S5 hlf ?_⟩
        rw [g1']
        have : fs = vsL ks [] := g6
        rw [this]
      · have hne : (!st.isEmpty) = true := by
          cases st with
          | nil => exact absurd rfl hst
          | cons _ _ => rfl
        refine iT hne ?_
        obtain ⟨st0, kd, rfl⟩ := kds_snoc st hst
        obtain ⟨vs0, v, rfl, g31, g32⟩ := paired_last g3'
        refine ⟨fun σ' H' => ∃ (st : List Kd) (vs : List V) (fs : List Str) (v3 : Option V), σ' = [some (.ref l), some (.ref lf), some (.ref lw), v3] ∧ Same H H' ∧ H' lf = some (.lst (fs.map V.str)) ∧ H' lw = some (.lst vs) ∧ KdsAt H' vs st ∧ sizeL st < sizeL (st0 ++ [kd]) ∧
          (∀ k ∈ st, k.fit 60) ∧ fs.length + sizeL st ≤ 100000 ∧ vsL st.reverse fs = vsL ks [], ?_, ?_⟩
        · rintro σ' H' ⟨st, vs, fs, v3, e1, e2, e3, e4, e5, e6, e7, e8, e9⟩
          exact ⟨sizeL st, e6, st, vs, fs, v3, e1, e2, e3, e4, e5, rfl, e7, e8, e9⟩
        · have lsz : sizeL (st0 ++ [kd]) = sizeL st0 + kd.size := by rw [sizeL_append]; rfl
          rw [List.reverse_append] at g6
          have g6' : vsL st0.reverse (kd.vs fs) = vsL ks [] := g6
          have fitk := g4 kd (List.mem_append_right _ List.mem_cons_self)
          have fit0 : ∀ k ∈ st0, k.fit 60 := fun q hq => g4 q (List.mem_append_left _ hq)
          have S6 : Same H (upd H2 lw (.lst vs0)) := fun b o z => by
            rw [upd_ne (ne_of_none z nlw)]
            exact S5 _ _ z
          have tu : Tups H2 (upd H2 lw (.lst vs0)) := Tups.put g2' (by intro xs z; cases z)
          have gf : (upd H2 lw (.lst vs0)) lf = some (.lst (fs.map V.str)) := by rw [upd_ne nfw]; exact g1'
          refine ⟨_, rfl, .inl ⟨rfl, _, SqL.of g2'⟩, lw, vs0 ++ [v], v, rfl, rfl, g2', by simp, ?_⟩
          rw [List.dropLast_concat]
          have gw : (upd H2 lw (.lst vs0)) lw = some (.lst vs0) := upd_same
          have k1 := KdsAt.tups tu g31
          have k2 := KdAt.tups tu g32
          generalize upd H2 lw (.lst vs0) = H3 at S6 gf gw k1 k2 ⊢
          clear tu
          have hs1 := kd.size_pos
          cases kd with
          | app a d =>
            obtain ⟨p, u, z, rfl, hp, ha, hd⟩ := id k2
            obtain ⟨j, ej, fa, fd'⟩ := Kd.fit_app fitk
            have ej' : j = 59 := by omega
            subst ej'
            refine ⟨_, rfl, _, _, _, _, rfl, rfl, SqT.of hp, rfl, rfl, _, rfl, iT tg_aa ?_⟩
            refine ⟨_, rfl, .inl ⟨rfl, _, SqL.of gw⟩, _, rfl, _, _, _, _, rfl, rfl, SqT.of hp, rfl, _, rfl, _, _, _, _, rfl, rfl, SqT.of hp, rfl, slz rfl, fun q hq => ?_⟩
            have s7 : Same H3 (upd H3 q (.lst [z, u])) := same_new hq
            have nq : lw ≠ q := ne_of_none gw hq
            have lnv : vs0.length ≤ 100000 := by
              have := sizeL_len st0
              rw [Paired.length k1]
              omega
            refine ⟨lw, q, vs0, [z, u], rfl, rfl, s7 _ _ gw, upd_same, Nat.le_of_lt (size_line (by simp; omega)), ?_⟩
            have tu8 : Tups H3 (upd (upd H3 q (.lst [z, u])) lw (.lst (vs0 ++ [z, u]))) := (same_tups s7).trans (Tups.put (s7 _ _ gw) (by intro xs z; cases z))
            refine ⟨st0 ++ [d, a], vs0 ++ [z, u], fs, _, rfl, fun b o zz => ?_, ?_, upd_same, ?_, ?_, ?_, ?_, ?_⟩
            · rw [upd_ne (ne_of_none zz nlw)]
              exact s7 _ _ (S6 _ _ zz)
            · rw [upd_ne nfw]
              exact s7 _ _ gf
            · have q1 := KdsAt.tups tu8 k1
              have q2 := Paired.snoc (Paired.snoc q1 (KdAt.tups tu8 hd)) (KdAt.tups tu8 ha)
              rw [List.append_assoc, List.append_assoc] at q2
              exact q2
            · rw [sizeL_append, lsz]
              simp only [sizeL, Kd.size]
              omega
            · intro k hk
              rcases List.mem_append.mp hk with q | q
              · exact fit0 k q
              · rcases List.mem_cons.mp q with q | q
                · rw [q]; exact Kd.fit_mono (by omega) fd'
                · rw [List.mem_singleton.mp q]; exact Kd.fit_mono (by omega) fa
            · rw [sizeL_append]
              rw [lsz] at g5
              simp only [sizeL, Kd.size] at g5 ⊢
              omega
            · rw [List.reverse_append]
              exact g6'
          | var x =>
            obtain ⟨p, rfl, hp⟩ := id k2
            refine ⟨_, rfl, _, _, _, _, rfl, rfl, SqT.of hp, rfl, rfl, _, rfl, iF tg_va ?_⟩
            refine ⟨_, rfl, _, _, _, _, rfl, rfl, SqT.of hp, rfl, rfl, _, rfl, iT tg_vv ?_⟩
            refine ⟨_, rfl, _, _, _, _, rfl, rfl, SqT.of hp, rfl, _, rfl, lf, _, rfl, .inl (SqL.of gf), rfl, flat_words fs, _, rfl, ?_⟩
            show if (!inV (.str x) (fs.map V.str)) = true then _ else _
            rw [inV_words]
            by_cases hx : x ∈ fs
            · refine iF (by rw [decide_eq_true hx]; rfl) ?_
              refine ⟨st0, vs0, fs, _, rfl, S6, gf, gw, k1, by rw [lsz]; omega, fit0, by rw [lsz] at g5; omega, ?_⟩
              rw [← g6']
              show vsL st0.reverse fs = vsL st0.reverse (addV fs x)
              unfold addV
              rw [if_pos hx]
            · refine iT (by rw [decide_eq_false hx]; rfl) ?_
              have lnf : fs.length ≤ 100000 := by omega
              refine ⟨_, rfl, .inl ⟨rfl, _, SqL.of gf⟩, _, rfl, _, _, _, _, rfl, rfl, SqT.of hp, rfl, lf, _, _, rfl, rfl, gf, by rw [List.length_map]; exact size_line (by omega), ?_⟩
              have tu8 : Tups H3 (upd H3 lf (.lst (fs.map V.str ++ [V.str x]))) := Tups.put gf (by intro xs z; cases z)
              refine ⟨st0, vs0, fs ++ [x], _, rfl, fun b o zz => ?_, by rw [upd_same, List.map_append]; rfl, by rw [upd_ne nfw.symm]; exact gw, KdsAt.tups tu8 k1, by rw [lsz]; omega, fit0, ?_, ?_⟩
              · rw [upd_ne (ne_of_none zz hlf)]
                exact S6 _ _ zz
              · rw [lsz] at g5
                simp only [Kd.size, List.length_append, List.length_singleton] at g5 ⊢
                omega
              · rw [← g6']
                show vsL st0.reverse (fs ++ [x]) = vsL st0.reverse (addV fs x)
                unfold addV
                rw [if_neg hx]
          | con x =>
            obtain ⟨p, rfl, hp⟩ := id k2
            refine ⟨_, rfl, _, _, _, _, rfl, rfl, SqT.of hp, rfl, rfl, _, rfl, iF tg_ca ?_⟩
            refine ⟨_, rfl, _, _, _, _, rfl, rfl, SqT.of hp, rfl, rfl, _, rfl, iF tg_cv ?_⟩
            refine iteF ?_
            exact ⟨st0, vs0, fs, _, rfl, S6, gf, gw, k1, by rw [lsz]; omega, fit0, by rw [lsz] at g5; omega, g6'⟩
end
end L3

/-! repr of nested data; a law's own run, where nothing else is being shown -/
namespace L3
open PySem PySem.Spec PyProof.Rows L2
section
variable {X : Cx}
/-- repr of a list or tuple of nested data -/
def rRepr (K : PySem.W.Frag) : List V → Hp → VK → Prop := fun xs H Q => ∃ (a : Addr) (d : PyData), xs = [.ref a] ∧ Dp K H (.ref a) d ∧ d.showable = true ∧ d.hasDict = false ∧ d.depth ≤ 60 ∧ d.shown.length ≤ sizeLine ∧ Q (.str d.shown) H
theorem call_reprD (hg : X.A.guards = some []) (hu : X.A.units + 64 < cLine) : CallR X (.builtin "repr") (rRepr X.K) := by
  intro pins s σ H xs us Q I r h
  obtain ⟨a, d, rfl, hd, hs, hn, hdep, hsz, q⟩ := h
  obtain ⟨u, rfl, rx⟩ := vals1 r
  obtain rfl : u = Value.ref a := rx
  obtain ⟨as, hr⟩ := Dp.reads I d _ _ hd (show RelV (.ref a) (.ref a) from rfl)
  exact repr_of_reads' hr hs (fun z => by rw [hn] at z; cases z) hg (by omega) (fun _ _ e => e) (fun h' u tk hk => ⟨.str d.shown, H, I.kept (t' := tk) hk, ⟨u, rfl⟩, q⟩) hsz
end
/-- the law's own def, called by nobody -/
def LawRun (P : Program) (w : World) (K : PySem.W.Frag) (mg : Str → Option Value) (base : Heap) (f : Addr) (fd : FuncData) (x : Str) (sp : List V → Hp → VK → Prop) : Prop :=
  ∀ (s : Shared) (H : Hp) (args : Args) (u : Value) (v : V) (Q : VK), Env0 P w K mg base callerA [] s H → BindsTo s fd args [(x, u)] → RelV v u → sp [v] H Q → codeAny (model P w) callerA (.call (.ref f) args) (CR CX0 [] P w H s Q E0) s
section
variable {P : Program} {w : World} {K : PySem.W.Frag} {mg : Str → Option Value} {base : Heap}
theorem lawRun_of {st : Stmt} {f : Addr} {fd : FuncData} {N : List Str} {k : Nat} {x : Str} {sp : List V → Hp → VK → Prop} (F : Fun K "law" "law" st f fd) (S : FnScope N [x] (defScope st)) (hroom : Room (k + 1) callerA)
    (hbody : ∀ (cdv : Value) (s : Shared) (H : Hp) (v : V) (Q : VK), Room k (callerA.deeper (envOfC "law" (defScope st) s.heap.objs.size f cdv)) → sp [v] H Q →
      ∃ t, PSs (cxOf CX0 P w K mg base N "law" (defScope st) f cdv callerA [] s H E0).nox (defBody st) t ∧ t { nx := fun _ H' => Q .non H', rt := Q } (start N [v]) H) : LawRun P w K mg base f fd x sp := by
  obtain ⟨oc, od, kV, doc, pm, an, cdv, ct, osl, rfl, lk, hcd⟩ := F.ex
  intro s H args u v Q e0 hb rv hsp
  have inK : K.In s.heap := e0.mod.kin.keeps fun b o z => (e0.bs b o z).1
  have noL : s.heap.NoLimit := e0.mod.nolimit.keeps fun b o z => (e0.bs b o z).1
  have kinds : ∀ y ∈ ([x].zip [u] : List (Str × Value)), (defScope st).names.lookup y.1 = some .local ∨ ((defScope st).names.lookup y.1 = some .cell ∧ ((cellsFrom (s.heap.objs.size + 1) (defScope st).names []).lookup y.1).isSome = true) := by
    rintro ⟨n, z⟩ hy
    rcases S.par n (List.of_mem_zip hy).1 with q | q
    · exact Or.inl q
    · exact Or.inr ⟨q, PySem.W.cellsFrom_some _ _ _ (Or.inl q)⟩
  refine codeAny_call_function (Room.depth hroom) (inK _ _ lk) rfl S.co S.gen rfl (PySem.W.codeRec_of inK hcd) (hb _ _ _ _ ?_)
  refine wpAny_newFunctionEnv_cells S.kind kinds fun env he s1 xx => ?_
  subst he
  refine ⟨noL.keeps xx.toInCall.keep, codeAny_func ?_⟩
  obtain ⟨t, ht, hq⟩ := hbody cdv s H v Q (Room.deeper hroom _) hsp
  have J : Inv (cxOf CX0 P w K mg base N "law" (defScope st) f cdv callerA [] s H E0) [] (start N [v]) H s1 := inv_start S rfl e0 rfl (Paired.cons rv .nil) xx
  refine wpAny_mono ((PSs.nox ht).run [] s1 (start N [v]) H _ J hq) (fun fl s' hs => ?_) (fun e s' hs => hs)
  cases fl with
  | next =>
    obtain ⟨σ', H', J', q⟩ := hs
    exact ⟨V.non, H', J'.os, J'.bare, J'.base, J'.hok, rfl, q⟩
  | ret z =>
    obtain ⟨v', σ', H', J', rz, q⟩ := hs
    exact ⟨v', H', J'.os, J'.bare, J'.base, J'.hok, rz, q⟩
  | brk =>
    obtain ⟨_, _, _, q⟩ := hs
    exact q.elim
  | cont =>
    obtain ⟨_, _, _, q⟩ := hs
    exact q.elim
end
section
variable {P : Program} {w : World} {K : PySem.W.Frag} {mg mb : Str → Option Value} {fa a : Addr} {fd : FuncData} {x : Str} {sp : List V → Hp → VK → Prop} {s1 : Shared} {vs : List Value} {ns : List Int}
/-- what the law's call has to come to -/
abbrev LawEnd (s1 : Shared) (r : Result) (s' : Shared) : Prop := r = .ok (.ret (.bool true)) ∧ OldK s1.heap s'.heap ∧ s'.os = s1.os ∧ AllBare s'.gens
theorem law_core (inK : K.In s1.heap) (gl : s1.heap.Ns mainGlobals mg) (bi : s1.heap.Ns builtinsNs mb) (bb : ∀ y : Str, y ≠ "__name__" → mb y = bootBuiltins y) (nl : s1.heap.NoLimit) (ng : s1.gens = #[])
    (ob : s1.heap.get? a = some { cls := .type "list", data := .seq vs.toArray }) (run : ∀ base : Heap, K.In base → base.Ns mainGlobals mg → LawRun P w K mg base fa fd x sp)
    (bind : ∀ (s : Shared) (u : Value), BindsTo s fd ⟨[u], []⟩ [(x, u)]) (want : ∀ H : Hp, Only H → SqL K H a (ns.map V.int) → sp [.ref a] H (fun v _ => v = .bl true))
    (H : Hp) (hO : Only H) (hS : SqL K H a (ns.map V.int)) (ok : HOk P w H s1.heap) (alone : ∀ b, H b ≠ none → b = a) (off : H a ≠ none → K.lookup a = none) :
    codeAny (model P w) callerA (.call (.ref fa) ⟨[.ref a], []⟩) (LawEnd s1) s1 := by
  -- a thing that is tracked is the script
  have isA : ∀ {b : Addr} {u : HO}, H b = some u → b = a := fun {b u} q => alone b (by rw [q]; simp)
  have hid : ∀ {b : Addr} {o : Obj}, s1.heap.get? b = some o → H b = none → (hidT s1.heap H).get? b = some o := fun z n => hidT_get z n
  have dictFree : ∀ {b : Addr} {o : Obj} {es : Array DictEntry} {ep : Nat}, s1.heap.get? b = some o → o.data = .dict es ep → H b = none := by
    intro b o es ep z dd
    cases q : H b with
    | none => rfl
    | some u =>
      have e' := isA q
      subst e'
      rw [ob] at z
      cases z
      have dd' : Data.seq vs.toArray _ = Data.dict es ep := dd
      cases dd'
  have nsH : ∀ {b : Addr} {m : Str → Option Value}, s1.heap.Ns b m → (hidT s1.heap H).Ns b m := by
    rintro b m ⟨o, es, ep, z, dd, r⟩
    exact ⟨o, es, ep, hid z (dictFree z dd), dd, r⟩
  have inH : K.In (hidT s1.heap H) := by
    intro b o z
    refine hid (inK b o z) ?_
    cases q : H b with
    | none => rfl
    | some u =>
      have e' := isA q
      subst e'
      rw [off (by rw [q]; simp)] at z
      cases z
  have md : Mod K mg (hidT s1.heap H) := by
    obtain ⟨mc, z1, z2⟩ := nl
    exact ⟨inH, nsH gl, ⟨mb, nsH bi, bb⟩, ⟨mc, nsH z1, z2⟩⟩
  have e0 : Env0 P w K mg (hidT s1.heap H) callerA [] s1 H := by
    refine ⟨rfl, md, fun b o z => of_hidT z, Nat.le_of_eq (hidT_size _ _), trivial, ?_, ok, .of_eq ng⟩
    intro b hb
    exact nomatch (show b ∈ ([] : List Addr) from hb)
  refine codeAny_mono (run _ inH (nsH gl) s1 H ⟨[.ref a], []⟩ (.ref a) (.ref a) _ e0 (bind s1 (.ref a)) rfl (want H hO hS)) fun r s' h => ?_
  cases r with
  | error e => exact h.elim
  | ok fl =>
    cases fl with
    | next => exact h.elim
    | brk => exact h.elim
    | cont => exact h.elim
    | ret u =>
      obtain ⟨v, H', os, bare, un, ok', r', q⟩ := h
      obtain rfl : v = .bl true := q
      obtain rfl : u = Value.bool true := r'
      refine ⟨rfl, OldK.of_keep fun b o z => ?_, os, bare⟩
      cases q : H b with
      | none => exact un.keep b o z q (fun y => nomatch (show b ∈ ([] : List Addr) from y)) (fun y => nomatch y)
      | some u =>
        rcases hO b with y | ⟨o2, xs, y⟩
        · rw [q] at y
          cases y
        · obtain ⟨z1, _⟩ := ok b _ y
          obtain ⟨z2, _⟩ := ok' b _ (un.frzs b o2 _ y)
          rw [z] at z1
          cases z1
          exact z2
theorem law_callG (inK : K.In s1.heap) (gl : s1.heap.Ns mainGlobals mg) (bi : s1.heap.Ns builtinsNs mb) (bb : ∀ y : Str, y ≠ "__name__" → mb y = bootBuiltins y) (nl : s1.heap.NoLimit) (ng : s1.gens = #[])
    (ob : s1.heap.get? a = some { cls := .type "list", data := .seq vs.toArray }) (hi : IntsAre vs ns) (hl : ns.length ≤ sizeLine) (run : ∀ base : Heap, K.In base → base.Ns mainGlobals mg → LawRun P w K mg base fa fd x sp)
    (bind : ∀ (s : Shared) (u : Value), BindsTo s fd ⟨[u], []⟩ [(x, u)]) (want : ∀ H : Hp, Only H → SqL K H a (ns.map V.int) → sp [.ref a] H (fun v _ => v = .bl true)) :
    codeAny (model P w) callerA (.call (.ref fa) ⟨[.ref a], []⟩) (LawEnd s1) s1 := by
  have rv := vals_ints hi
  cases hk : K.lookup a with
  | some o =>
    have z := inK a o hk
    rw [ob] at z
    cases z
    have hS : SqL K (fun _ => none) a (ns.map V.int) := Or.inr ⟨_, vs.toArray, _, hk, rfl, rfl, rfl, by rw [List.size_toArray, hi.length]; exact hl, by simpa using rv⟩
    exact law_core inK gl bi bb nl ng ob run bind want (fun _ => none) (fun _ => .inl rfl) hS (fun _ _ z => nomatch (show (none : Option HO) = some _ from z)) (fun _ z => (z rfl).elim) (fun z => (z rfl).elim)
  | none =>
    let fz : HO := .frz { cls := .type "list", data := .seq vs.toArray } (.lst (ns.map V.int))
    have at1 : upd (fun _ => none) a fz a = some fz := upd_same
    refine law_core inK gl bi bb nl ng ob run bind want (upd (fun _ => none) a fz) (fun b => ?_) (.inl (.inr ⟨_, at1⟩)) (fun b u z => ?_) (fun b z => ?_) fun _ => hk
    · by_cases hb : b = a
      · rw [hb, at1]
        exact .inr ⟨_, _, rfl⟩
      · exact .inl (upd_ne hb)
    · by_cases hb : b = a
      · subst hb
        rw [at1] at z
        cases z
        exact ⟨ob, by rw [List.length_map]; exact hl, vs, _, rv, ob⟩
      · rw [upd_ne hb] at z
        cases z
    · by_cases hb : b = a
      · exact hb
      · exact (z (upd_ne hb)).elim
end
/-- the end of a law whose own def is run by LawRun -/
theorem walkG {l : PySem.W.OpenLaw} {n : Nat} {q : Program} {loose : List Str} {XP : (Str → Option Value) → Heap → Prop} {YP : World → Heap → Prop} {d : DefRec} {K : Params → PySem.W.Frag} {sp : PySem.W.Frag → List V → Hp → VK → Prop} {x : Str}
    (hn : l.most = some n) (hn2 : n ≤ sizeLine) (hdf : d.params.defaults = []) (hY : ∀ (w : World) (h : Heap), YP w h → (K w.params).In h)
    (F : ∀ (w : World) (mg : Str → Option Value) (fa : Addr) (h : Heap), (K w.params).In h → h.Ns mainGlobals mg → mg d.name = some (.ref fa) →
      ∃ fd : FuncData, (∀ (s : Shared) (u : Value), BindsTo s fd ⟨[u], []⟩ [(x, u)]) ∧ ∀ base : Heap, (K w.params).In base → base.Ns mainGlobals mg → LawRun l.prog w (K w.params) mg base fa fd x (sp (K w.params)))
    (want : ∀ (K : PySem.W.Frag) (H : Hp) (a : Addr) (ns : List Int), ns.length ≤ n → SqL K H a (ns.map V.int) → sp K [.ref a] H (fun v _ => v = .bl true)) : PySem.W.WalkO q loose XP YP l.row.toRowW d [] (fun f vs => PySem.call f vs) := by
  refine Att.attach_call hn hdf ?_
  intro w s0 s1 mg mb fa o pm cd doc a vs ns G Y ho hd hcd hmg hobj hints hlen hg
  obtain ⟨fd, hb, run⟩ := F w mg fa _ (hY w _ Y) G.T.g hmg
  exact law_callG (hY w _ Y) G.T.g G.T.b G.T.builtins G.T.nolimit hg hobj hints (Nat.le_trans hlen hn2) run hb (fun H _ hS => want _ H a ns hlen hS)
end L3

/-! list(reversed(t)) of a tuple -/
namespace L3
open PySem PySem.Spec PyProof.Rows L2 RT
theorem nolen_rt : typeLookup (.type "reversed") "__len__" = pure none := by rw [typeLookup_type, builtinLookup_eq_fast]; kernel_rfl
theorem hint_rt : typeLookup (.type "reversed") "__length_hint__" = pure (some (.builtin "reversed.__length_hint__")) := by rw [typeLookup_type, builtinLookup_eq_fast]; kernel_rfl
theorem walks_rt {prog : Program} {w : World} {A : Around} (hh : A.handled = none) (I t : Addr) (hne : t ≠ I) (items : Array Value) (hn : items.size ≤ sizeLine) :
    Walks prog w A I [I, t] [I] items.size (fun i v => items[items.size - 1 - i]? = some v) (fun i h => i ≤ items.size ∧ IsRt h I t ((items.size : Int) - 1 - (i : Int)) ∧ IsTup h t items) where
  sub := fun b hb => by simp at hb; simp [hb]
  frame := fun _ _ _ x hk => ⟨x.1, x.2.1.at fun o e => hk I (by simp) o e, by
    obtain ⟨o, ho, r⟩ := x.2.2
    exact ⟨o, hk t (by simp) o ho, r⟩⟩
  item := fun i s Q E hi x hQ => by
    have e : (items.size : Int) - 1 - (i : Int) = ((items.size - 1 - i : Nat) : Int) := by omega
    have hit := x.2.1
    rw [e] at hit
    have hx : items[items.size - 1 - i]? = some (items[items.size - 1 - i]'(by omega)) := Array.getElem?_eq_getElem (by omega)
    refine next_rt_item hit x.2.2 hx hn fun h' hit' hs' => ?_
    have e2 : ((items.size - 1 - i : Nat) : Int) - 1 = (items.size : Int) - 1 - ((i + 1 : Nat) : Int) := by omega
    rw [e2] at hit'
    refine hQ _ h' (s.toks + 1) hx ⟨hi, hit', ?_⟩ fun b o hb eo => hs'.extBut b o (fun h => hb (by simp [h])) eo
    obtain ⟨o, ho, r⟩ := x.2.2
    exact ⟨o, (hs'.2 t hne).trans ho, r⟩
  done := fun s Q E x hQ => by
    have e : (items.size : Int) - 1 - (items.size : Int) = -1 := by omega
    have hit := x.2.1
    rw [e] at hit
    exact next_rt_end hh hit fun h' he' => hQ h' s.toks fun b o hb eo => he' b o (fun h => hb (by simp [h])) eo
  self := fun _ _ _ _ x hQ => iter_rt x.2.1 hQ
theorem asInt_int (n : Int) (tk : Nat) : asInt? (Value.int n tk) = pure (some n) := rfl
theorem slot_rt_hint : Slot "reversed" "__length_hint__" "reversed.__length_hint__" :=
  .of (owner := "reversed") (n := "__length_hint__") (by rw [typeLookup_type, builtinLookup_eq_fast]; kernel_rfl) (by decide +kernel) (by decide +kernel) (by decide +kernel)
    (by first | exact .inl (by decide +kernel) | exact .inr (by decide +kernel)) (by rw [isSubtype_type]; kernel_rfl)
theorem entry_rt_hint : entryFor table "reversed.__length_hint__" = some Builtin.«reversed.__length_hint__» := entryFor_of_tree (by kernel_rfl)
theorem args_rt_hint (a : Value) : argsOk "reversed.__length_hint__" ⟨[a], []⟩ := by
  unfold argsOk; rw [signature?_of (id := "reversed.__length_hint__") (n := ['_', '_', 't', 'n', 'i', 'h', '_', 'h', 't', 'g', 'n', 'e', 'l', '_', '_']) (o := ['d', 'e', 's', 'r', 'e', 'v', 'e', 'r']) (by kernel_rfl) owner_rt]; kernel_rfl
section
variable {prog : Program} {w : World} {A : Around} {E : Value → Shared → Prop} {s : Shared}
theorem hint_rt_call {it t : Addr} {items : Array Value} {Q : Value → Shared → Prop} (hit : IsRt s.heap it t ((items.size : Int) - 1)) (ht : IsTup s.heap t items) (hn : items.size ≤ sizeLine)
    (q : ∀ tk tk', Q (.int (items.size : Int) tk) { s with toks := tk' }) : wpAny (model prog w) A (call (.builtin "reversed.__length_hint__") [.ref it]) Q E s := by
  obtain ⟨o, ho, hc, hd⟩ := id hit
  have hn' := hn
  rw [sizeLine_eq] at hn'
  refine wpAny_call_entry slot_rt_hint hit.typeIs entry_rt_hint ?_ (args_rt_hint _)
  unfold Builtin.«reversed.__length_hint__»
  refine wpAny_bind (wpAny_of_eq (a := Value.ref it) rfl ?_)
  try dsimp only
  refine wpAny_bind (wpAny_field ho hd (x := .ref t) rfl ?_)
  rw [if_neg (show ¬ ((Value.ref t == Value.none) = true) from Bool.false_ne_true)]
  try dsimp only
  refine wpAny_bind (len_tuple ht (by omega) ?_)
  refine wpAny_bind (wpAny_of_eq (a := some ((items.size : Nat) : Int)) rfl ?_)
  try dsimp only
  refine wpAny_bind (wpAny_field (s := { s with toks := s.toks + 1 + 1 }) ho hd (x := rawInt ((items.size : Int) - 1)) rfl ?_)
  show wpAny _ _ (if ((items.size : Nat) : Int) < (items.size : Int) - 1 + 1 then _ else _) _ _ _
  rw [if_neg (by omega)]
  unfold retInt
  refine wpAny_bind (wpAny_mkInt ?_)
  refine wpAny_pure ⟨_, rfl, ?_⟩
  rw [show (items.size : Int) - 1 + 1 = (items.size : Int) by omega]
  exact q _ _
theorem call_list_rt {it t : Addr} {items : Array Value} {Q : Value → Shared → Prop} (hh : A.handled = none) (hit : IsRt s.heap it t ((items.size : Int) - 1)) (ht : IsTup s.heap t items) (hne : t ≠ it) (hn : items.size ≤ sizeLine)
    (q : ∀ h' tk acc c, (∀ b o, b ≠ it → s.heap.get? b = some o → h'.get? b = some o) → h'.get? s.heap.objs.size = some { cls := .type "list", dict := none, data := .seq acc c, slots := #[] } → ItemsOf (fun i v => items[items.size - 1 - i]? = some v) acc items.size →
      Q (.ref s.heap.objs.size) { s with heap := h', toks := tk }) : wpAny (model prog w) A (call (.type "list") [.ref it]) Q E s := by
  have W := (walks_rt (prog := prog) (w := w) (A := A.in1.in1) hh it t hne items hn).toS
  obtain ⟨oi, hoi, _⟩ := id hit
  obtain ⟨ot, hot, _⟩ := id ht
  have zlt : it < s.heap.objs.size := Heap.lt_size hoi
  have tlt : t < s.heap.objs.size := Heap.lt_size hot
  refine callType_codes (Q₁ := fun obj s' => obj = .ref s.heap.objs.size ∧ s' = { s with heap := s.heap.push { cls := .type "list", data := .seq #[] } }) PySem.F.called_list (PySem.F.typeCall_list_1 _) PySem.F.entry_list_init (code_list_new _ ⟨rfl, rfl⟩) ?_
  rintro obj s' ⟨rfl, rfl⟩
  have at0 : (s.heap.push { cls := .type "list", data := .seq #[] }).get? s.heap.objs.size = some { cls := .type "list", data := .seq #[] } := Heap.get?_push_size _ rfl
  refine ⟨⟨_, at0, rfl⟩, PySem.F.args_list_init_2 _ _, ?_⟩
  show wpAny _ A.in1.in1 (do let old ← Builtin.List.listItems (.ref s.heap.objs.size); Builtin.List.listUpdate (.ref s.heap.objs.size) (fun _ => #[]); letGo old.toList.reverse; Builtin.List.listExtendWith (.ref s.heap.objs.size) (.ref it) .none) _ _ _
  refine wpAny_bind ?_
  unfold Builtin.List.listItems
  refine wpAny_bind (wpAny_seqItems at0 rfl (wpAny_pure ?_))
  show wpAny _ A.in1.in1 (updateSeq s.heap.objs.size (fun _ => #[]) >>= fun _ => letGo (#[] : Array Value).toList.reverse >>= fun _ => Builtin.List.listExtendWith (.ref s.heap.objs.size) (.ref it) .none) _ _ _
  refine wpAny_bind (wpAny_updateSeq at0 rfl (wpAny_bind (wpAny_letGo ?_)))
  have at1 := Heap.get?_update_self (Obj.mapSeq (fun _ => (#[] : Array Value))) at0 rfl
  have k1 : ∀ b o, s.heap.get? b = some o → ((s.heap.push { cls := .type "list", data := .seq #[] }).update s.heap.objs.size (Obj.mapSeq (fun _ => (#[] : Array Value)))).get? b = some o :=
    fun b o e => (Heap.get?_update_other _ _ (Nat.ne_of_gt (Heap.lt_size e))).trans (Heap.get?_push_of_some _ e)
  generalize (s.heap.push { cls := .type "list", data := .seq #[] }).update s.heap.objs.size (Obj.mapSeq (fun _ => (#[] : Array Value))) = g1 at at1 k1 ⊢
  have hit1 : IsRt g1 it t ((items.size : Int) - 1) := hit.at fun o e => k1 _ o e
  have ht1 : IsTup g1 t items := by
    obtain ⟨o, ho, r⟩ := ht
    exact ⟨o, k1 _ _ ho, r⟩
  have isz : ({ s with heap := g1 } : Shared).TypeIs (.ref it) "reversed" := IsRt.typeIs (s := { s with heap := g1 }) hit1
  have nsame : Builtin.List.listSameRef (.ref s.heap.objs.size) (.ref it) = false := by simp [Builtin.List.listSameRef, Nat.ne_of_gt zlt]
  have zz : (Value.type "reversed" == Value.type "list") = false := by decide
  have zt : (Value.type "reversed" == Value.type "tuple") = false := by decide
  unfold Builtin.List.listExtendWith
  refine wpAny_bind (wpAny_typeOf isz ?_)
  simp only [nsame, zz, zt, Bool.or_false, Bool.false_eq_true, if_false]
  refine wpAny_bind (iter_rt (s := { s with heap := g1 }) hit1 (wpAny_bind (wpAny_holding ?_)))
  unfold Builtin.List.listLengthHint
  refine wpAny_bind (wpAny_specialOf isz nolen_rt ?_)
  show wpAny _ A.in1.in1 (specialOf (Value.ref it) (Str.ofString "__length_hint__") >>= _) _ _ _
  refine wpAny_bind (wpAny_specialOf isz hint_rt ?_)
  generalize hid : ("reversed.__length_hint__" : String) = id0
  wp_delta
  rw [show splitId id0 = some ("reversed", "__length_hint__") from by subst hid; decide +kernel]
  subst hid
  refine wpAny_bind (wpAny_isInstance (b := true) isz (by rw [isSubtype_type]; kernel_rfl) ?_)
  rw [if_neg (by decide)]
  try dsimp only
  rw [if_neg (by decide +kernel)]
  refine wpAny_bind (wpAny_rule ?_)
  refine wpAny_bind (wpAny_of_eq (slot_rt_hint.bind _) ?_)
  try dsimp only
  refine wpAny_bind (wpAny_attempt (hint_rt_call (s := { s with heap := g1 }) hit1 ht1 hn fun tk tk' => ?_))
  try dsimp only
  have hS : ∀ (g2 : Heap) (c : Nat) (tk2 : Nat), (∀ b o, s.heap.get? b = some o → g2.get? b = some o) → g2.get? s.heap.objs.size = some { cls := .type "list", dict := none, data := .seq #[] c, slots := #[] } →
      codeAny (model prog w) A.in1 (.builtin "list.extend.loop" ⟨[.ref s.heap.objs.size, .ref it, .none], []⟩) (wants (fun r s₂ => r = Value.none ∧ Q (Value.ref s.heap.objs.size) s₂) E) { s with heap := g2, toks := tk2 } := by
    intro g2 c tk2 k2 at2
    have e0 : ((items.size : Nat) : Int) - 1 - ((0 : Nat) : Int) = (items.size : Int) - 1 := by omega
    refine codeAny_extend_loopS W hn _ ?_ .none items.size 0 { s with heap := g2, toks := tk2 } #[] c rfl (Nat.zero_le _) ⟨Nat.zero_le _, by rw [e0]; exact hit.at fun o e => k2 _ o e, by
      obtain ⟨o, ho, r⟩ := ht
      exact ⟨o, k2 _ _ ho, r⟩⟩ at2 (ItemsOf.nil _) fun s' acc' c' hm hS' hacc => ?_
    · simp only [List.mem_cons, List.not_mem_nil, or_false, not_or]
      exact ⟨Nat.ne_of_gt zlt, Nat.ne_of_gt tlt⟩
    · refine ⟨rfl, ?_⟩
      rw [Moved.eq_with hm]
      refine q s'.heap s'.toks acc' c' (fun b o hb e => hm.heap b o (fun hmem => ?_) (k2 _ _ e)) hS' hacc
      rcases List.mem_cons.mp hmem with e' | hmem
      · exact absurd (Heap.lt_size e) (by rw [e']; exact Nat.lt_irrefl _)
      · exact hb (List.mem_singleton.mp hmem)
  have hz0 : 0 ≤ (items.size : Int) := by omega
  have hz1 : (items.size : Int) < 2 ^ 63 := by
    rw [sizeLine_eq] at hn
    omega
  have hz2 : (items.size : Int).toNat ≤ sizeLine := by
    rw [Int.toNat_natCast]
    exact hn
  generalize ((items.size : Nat) : Int) = z at hz0 hz1 hz2 ⊢
  refine wpAny_bind (wpAny_of_eq (asInt_int z tk) ?_)
  try dsimp only
  rw [if_neg (by
    have : Builtin.List.listFitsIndex z = true := by
      unfold Builtin.List.listFitsIndex
      simp only [Bool.and_eq_true, decide_eq_true_eq]
      omega
    rw [this]; decide), if_neg (by omega), if_neg (by
    unfold Builtin.List.listTooLong
    simp only [decide_eq_true_eq]
    omega)]
  refine wpAny_pure ?_
  split
  · refine wpAny_bind (wpAny_rule (wpAny_bind ?_))
    show wpAny _ A.in1.in1 (updateSeq s.heap.objs.size (·.push .none) >>= fun _ => updateSeq s.heap.objs.size (·.pop)) _ _ _
    refine wpAny_bind (wpAny_updateSeq at1 rfl ?_)
    have at2 := Heap.get?_update_self (Obj.mapSeq (·.push Value.none)) at1 rfl
    refine wpAny_updateSeq (hz := by seq_fits) at2 rfl ?_
    have at3 := Heap.get?_update_self (Obj.mapSeq (·.pop)) at2 rfl
    refine wpAny_pure ⟨plainId_quiet F.plain_extend_loop _, ?_⟩
    refine hS _ _ tk' (fun b o e => ?_) at3
    have nb := Nat.ne_of_gt (Heap.lt_size e)
    exact (Heap.get?_update_other _ _ nb).trans ((Heap.get?_update_other _ _ nb).trans (k1 b o e))
  · refine wpAny_pure ⟨plainId_quiet F.plain_extend_loop _, ?_⟩
    exact hS g1 _ tk' k1 at1
end
/-- list(reversed(t)), t a tuple -/
def tListRevT (K : PySem.W.Frag) (te : TE) : TE := fun σ H Q => te σ H fun v H1 => ∃ (a : Addr) (xs : List V), v = .ref a ∧ SqT K H1 a xs ∧ ∀ q, H1 q = none → Q (.ref q) (upd H1 q (.lst xs.reverse))
theorem pe_listRevT {X : Cx} {e : Expr} {te : TE} {p p2 pos pos2 : Pos} (hc : X.calm = true) (hg : Gl X "list") (hm : X.mg "list" = none) (hg2 : Gl X "reversed") (hm2 : X.mg "reversed" = none) (he : PE X e te)
    (hs : starEach [e] X.env = (false, eval e X.env) :: starEach [] X.env := by rfl)
    (hs2 : starEach [.Call (.Name "reversed" p2) [e] [] pos2] X.env = (false, eval (.Call (.Name "reversed" p2) [e] [] pos2) X.env) :: starEach [] X.env := by rfl) :
    PE X (.Call (.Name "list" p) [.Call (.Name "reversed" p2) [e] [] pos2] [] pos) (tListRevT X.K te) := by
  refine ⟨fun pins s σ H Q I h => ?_⟩
  refine Call_ (ld_blt I hg hm (show bootBuiltins "list" = some (Value.type "list") by decide +kernel) (PyProof.Rows.callWith_type1 (args_cons (Call_ (ld_blt I hg2 hm2 PyProof.Rows.boot_reversed (PyProof.Rows.callWith_type1 (args_cons (thn (he.run pins s σ H _ I h) fun u s1 ⟨v, H1, I1, r1, q1⟩ => args_nil ?_) hs) hs rfl))) hs2) hs2 rfl))
  obtain ⟨a, xs, ev, hq, q⟩ := q1
  subst ev
  obtain rfl : u = Value.ref a := r1
  obtain ⟨its, rv, p', hz⟩ := I1.tuple hq
  have hl := rv.length
  have hn63 := line63
  have hn : its.toArray.size ≤ sizeLine := by rw [List.size_toArray, ← rv.length]; exact hz
  refine call_reversed_tup p' (fun A E Q k => len_tuple p' (by simp only [List.size_toArray] <;> omega) k) (args_nil ?_)
  have k0 : ∀ b o, s1.heap.get? b = some o → (s1.heap.push (rtObj a ((its.toArray.size : Int) - 1))).get? b = some o := fun b o e => Heap.get?_push_of_some _ e
  obtain ⟨ol, hol, _⟩ := id p'
  have hne : a ≠ s1.heap.objs.size := Nat.ne_of_lt (Heap.lt_size hol)
  refine call_list_rt (s := { s1 with heap := s1.heap.push (rtObj a ((its.toArray.size : Int) - 1)), toks := s1.toks + 1 + 1 }) (I1.ok.hd hc) ⟨_, Heap.get?_push_size _ rfl, rfl, rfl⟩ (by
    obtain ⟨o, ho, r⟩ := p'
    exact ⟨o, k0 _ _ ho, r⟩) hne hn fun h' tk acc c hk at' hi => ?_
  have kk : ∀ b o, s1.heap.get? b = some o → h'.get? b = some o := fun b o e => hk b o (Nat.ne_of_lt (Heap.lt_size e)) (k0 b o e)
  have le : s1.heap.objs.size ≤ (s1.heap.push (rtObj a ((its.toArray.size : Int) - 1))).objs.size := by
    have z : (s1.heap.push (rtObj a ((its.toArray.size : Int) - 1))).get? s1.heap.objs.size = some (rtObj a ((its.toArray.size : Int) - 1)) := Heap.get?_push_size _ rfl
    exact Nat.le_of_lt (Heap.lt_size z)
  exact ⟨.ref _, upd H1 _ (.lst xs.reverse), I1.laid (t' := tk) kk le (show ObjOk X.prog X.w _ h' _ (.lst xs.reverse) from ⟨by rw [List.length_reverse]; exact hz, acc.toList, c, vals_rev rv hi, by rw [Array.toArray_toList]; exact at'⟩), rfl, q _ (I1.hok.fresh le)⟩
end L3

/-! defs with a star parameter, known by their names -/
namespace L3
open PySem PySem.Spec PyProof.Rows L2 StX
structure KnR (P : Program) (w : World) (K : PySem.W.Frag) (mg : Str → Option Value) (base : Heap) (k : Nat) (x : Str) (sp : Sp) : Prop where
  ex : ∃ (f : Addr), FnR P w K mg base CX0 k f sp ∧ mg x = some (.ref f) ∧ PySem.W.keepIn K (.ref f) = true
def tCallR (sp : Sp) (t : TA) : TE := fun σ H Q => t σ H fun vs H1 => sp vs H1 Q E0
def tCallS (K : PySem.W.Frag) (sp : Sp) (te : TE) : TE := fun σ H Q => te σ H fun y H1 => ∃ a xs, y = V.ref a ∧ (SqT K H1 a xs ∨ SqL K H1 a xs) ∧ sp xs H1 Q E0
section
variable {X : Cx} {x : Str} {k : Nat} {sp : Sp} {e : Expr} {es : List Expr} {te : TE} {t : TA} {p sp_ pos : Pos}
theorem pe_ks (D : KnR X.prog X.w X.K X.mg X.base k x sp) (hr : Room k X.A) (ha : PA X (e :: es) t) (hg : Gl X x := by rfl) (hdb : (x == ("__debug__" : Str)) = false := by decide)
    (he : starEach (e :: es) X.env = (false, eval e X.env) :: starEach es X.env := by rfl) (hpl : (backTo pos (starEach es X.env)).any (·.1) = false := by rfl) :
    PE X (.Call (.Name x p) (e :: es) [] pos) (tCallR sp t) := by
  obtain ⟨f, F, hm, hk⟩ := D.ex
  refine ⟨fun pins s σ H Q I h => ?_⟩
  refine wpAny_Call_Name_kw (ld_glob I hg hm ?_ hdb)
  refine PySem.W.callWith_K (h₀ := X.base) I.ok.mod.kin hk (thn (ha.run pos pins s σ H _ I h) fun us s1 ⟨vs, H1, I1, r, q⟩ => ⟨I1.kIn, ?_⟩) he hpl
  exact wpAny_call (run_fnR F hr pass0 I1 r q)
theorem pe_ks0 (D : KnR X.prog X.w X.K X.mg X.base k x sp) (hr : Room k X.A) (hg : Gl X x := by rfl) (hdb : (x == ("__debug__" : Str)) = false := by decide) : PE X (.Call (.Name x p) [] [] pos) (tCallR sp tNil) := by
  obtain ⟨f, F, hm, hk⟩ := D.ex
  refine ⟨fun pins s σ H Q I h => ?_⟩
  refine wpAny_Call_Name_kw (ld_glob I hg hm ?_ hdb)
  exact PySem.W.callWith_K0 I.kIn hk (wpAny_call (run_fnR (us := []) F hr pass0 I .nil h))
theorem pe_ks1 (D : KnR X.prog X.w X.K X.mg X.base k x sp) (hr : Room k X.A) (he : PE X e te) (hg : Gl X x := by rfl) (hd : (x == ("__debug__" : Str)) = false := by decide)
    (hst : starEach [.Starred e sp_] X.env = [(true, eval e X.env)] := by rfl) :
    PE X (.Call (.Name x p) [.Starred e sp_] [] pos) (tCallS X.K sp te) := by
  obtain ⟨f, F, hm, hk⟩ := D.ex
  exact pe_callS1 F hr hk hg hm pass0 he hd hst
end
section
variable {P : Program} {w : World} {K : PySem.W.Frag} {mg : Str → Option Value} {base : Heap}
/-- what a def with a star parameter is promised, by what it is promised of the tuple -/
def spStar (n : Nat) (sp : Sp) : Sp := fun vs H Q E => ∃ ws rest, vs = ws ++ rest ∧ ws.length = n ∧ rest.length ≤ sizeLine ∧ ∀ p, H p = none → sp (ws ++ [V.ref p]) (upd H p (.tup rest)) Q E
theorem fn_starK {x qual pv : Str} {st : Stmt} {f : Addr} {fd : FuncData} {N ps : List Str} {k : Nat} {sp : Sp} (F : Fun K x qual st f fd) (S : FnScope N (ps ++ [pv]) (defScope st))
    (hb : ∀ (kV doc pm : Value) (an : Option Addr) (cdv ct : Value) (us rest : List Value), us.length = ps.length → bindArgs (PySem.W.fnOf x qual (defArgs st) (defBody st) (defScope st) .none kV doc pm an cdv ct) ⟨us ++ rest, []⟩ = (newTuple rest >>= fun t => pure (ps.zip us ++ [(pv, t)])))
    (hbody : ∀ (cdv : Value) (A : Around) (outer : List Env) (s : Shared) (H : Hp) (vs : List V) (Q : VK) (E : XK), Room k (A.deeper (envOfC qual (defScope st) s.heap.objs.size f cdv)) → sp vs H Q E →
      ∃ t, PSs (cxOf CX0 P w K mg base N qual (defScope st) f cdv A outer s H E).nox (defBody st) t ∧ t { nx := fun _ H' => Q .non H', rt := Q } (start N vs) H) : FnR P w K mg base CX0 (k + 1) f (spStar ps.length sp) := by
  obtain ⟨oc, od, kV, doc, pm, an, cdv, ct, osl, rfl, lk, hcd⟩ := F.ex
  exact fn_star lk hcd S (fun _ _ _ _ _ _ _ _ _ _ _ z => z) (hb kV doc pm an cdv ct) fun A outer s H vs Q E hr h => by
    obtain ⟨t, ht, q⟩ := hbody cdv A outer s H vs Q E hr h
    exact ⟨t, PSs.nox ht, q⟩
end
end L3

/-! tuple(d) of a dict: its keys -/
namespace L3
open PySem PySem.Spec PyProof.Rows L2
section
variable {prog : Program} {w : World} {A : Around} {E : Value → Shared → Prop} {s : Shared} {T : String} {r d : Addr} {n : Nat} {P : Nat → Value → Prop} {OK : Heap → Prop}
/-- what is collected, and what else is there -/
abbrev Got (P : Nat → Value → Prop) (n : Nat) (s : Shared) (Q : List Value → Shared → Prop) : Prop := ∀ (h' : Heap) (tk : Nat) (acc : Array Value), (∀ b o, s.heap.get? b = some o → h'.get? b = some o) → ItemsOf P acc n → Q acc.toList { s with heap := h', toks := tk }
theorem collect_src {Q : List Value → Shared → Prop} (K : PySem.W.KdlSrc prog w T r d n P OK) (hh : A.handled = none) (hok : OK s.heap) (hn : n ≤ sizeLine) (hQ : Got P n s Q) : wpAny (model prog w) A (collect (.ref r)) Q E s := by
  unfold collect
  refine wpAny_bind (wpAny_runValue (codeAny_builtin F.entry_proto_collect ?_))
  rw [Around.under_plainId F.plain_proto_collect _]
  show wpAny _ A.in1 (newList [] >>= fun l => again (.builtin "list.__iadd__" ⟨[l, .ref r], []⟩)) _ _ s
  refine wpAny_bind (wpAny_newObj_type ?_)
  refine wpAny_pure ⟨plainId_quiet F.plain_list_iadd _, codeAny_builtin F.entry_list_iadd ?_⟩
  rw [Around.under_plainId F.plain_list_iadd _]
  show wpAny _ A.in1 (Builtin.List.listExtendWith (.ref s.heap.objs.size) (.ref r) (.ref s.heap.objs.size)) _ _ _
  have hS : (s.heap.push { cls := .type "list", data := .seq ([] : List Value).toArray }).get? s.heap.objs.size = some { cls := .type "list", data := .seq #[] 0 } := Heap.get?_push_size _ rfl
  obtain ⟨lr, ld⟩ := K.there _ hok
  refine wpAny_mono (PySem.W.kdl_extend (A := A) (R := fun rr s' => rr = .ok (.ret (.ref s.heap.objs.size)) ∧ ∃ (h' : Heap) (tk : Nat) (acc : Array Value) (c' : Nat), s' = { s with heap := h', toks := tk } ∧
      (∀ b o, s.heap.get? b = some o → h'.get? b = some o) ∧ h'.get? s.heap.objs.size = some { cls := .type "list", dict := none, data := .seq acc c', slots := #[] } ∧ ItemsOf P acc n)
    (s := { s with heap := s.heap.push { cls := .type "list", data := .seq ([] : List Value).toArray } }) K hh (K.keep _ _ hok fun b _ o e => Heap.get?_push_of_some _ e) _ (Nat.ne_of_gt lr) (Nat.ne_of_gt ld) _ 0 hS
    (fun h' tk acc c' hk e hi => ⟨rfl, h', tk, acc, c', rfl, fun b o q => hk b o (Nat.ne_of_lt (Heap.lt_size q)) (Heap.get?_push_of_some _ q), e, hi⟩) hn) (fun fin s' h => ?_) (fun e s' h => ?_)
  · cases fin with
    | done f =>
      obtain ⟨e, h', tk, acc, c', rfl, hk, hS', hi⟩ := h
      cases e
      show wpAny _ A (load s.heap.objs.size >>= _) _ _ _
      exact wpAny_bind (wpAny_load hS' (wpAny_pure (hQ h' tk acc hk hi)))
    | again c' =>
      refine ⟨h.1, codeAny_mono h.2 fun rr s'' hr' => ?_⟩
      obtain ⟨rfl, h', tk, acc, c', rfl, hk, hS', hi⟩ := hr'
      show wpAny _ A (load s.heap.objs.size >>= _) _ _ _
      exact wpAny_bind (wpAny_load hS' (wpAny_pure (hQ h' tk acc hk hi)))
  · exact absurd h.1 (by simp)
theorem call_tuple_src {Q : Value → Shared → Prop} (K : PySem.W.KdlSrc prog w T r d n P OK) (hh : A.handled = none) (hok : OK s.heap) (hn : n ≤ sizeLine) (hT : s.TypeIs (.ref r) "dict")
    (hQ : ∀ (h' : Heap) (tk : Nat) (acc : Array Value), (∀ b o, s.heap.get? b = some o → h'.get? b = some o) → ItemsOf P acc n → Q (.ref h'.objs.size) { s with heap := h'.push { cls := .type "tuple", data := .seq acc }, toks := tk }) :
    wpAny (model prog w) A (call (.type "tuple") [.ref r]) Q E s := by
  refine callType_codes (Q₁ := fun obj s₁ => s₁.TypeIs obj "tuple" ∧ Q obj s₁) F.called_tuple (F.typeCall_tuple_1 _) F.entry_object_init ?_ fun obj s₁ h₁ => ?_
  · refine codeAny_of_tree ?_
    show wpAny _ A.in1.in1 (do checkBuiltinCall "tuple.__new__" ⟨[.type "tuple", .ref r], []⟩; again (.builtin "tuple.__new__" ⟨[.type "tuple", .ref r], []⟩)) _ _ s
    refine wpAny_bind (wpAny_of_eq (F.newCall_tuple_1 _) (wpAny_pure ⟨plainId_quiet F.plain_tuple_new _, codeAny_builtin F.entry_tuple_new ?_⟩))
    rw [Around.under_plainId F.plain_tuple_new _]
    have hsub := sub_tuple_self
    have hinit := init_tuple_lookup
    have hmh := madeHere_tuple
    have hh1 : A.in1.in1.handled = none := hh
    wp_walk using wpAny_typeOf hT, collect_src (A := A.in1.in1) K hh1 hok hn
    intro h' tk acc hk hacc
    show wpAny _ _ (Builtin.Tuple.tupleExact acc.toList.toArray >>= fun v => ret v) _ _ _
    unfold Builtin.Tuple.tupleExact
    refine wpAny_bind (wpAny_newObj_type ?_ (by show acc.toList.toArray.size ≤ sizeLine; simp only [Array.toArray_toList]; rw [hacc.1]; exact hn))
    refine wpAny_pure ?_
    have e : acc.toList.toArray = acc := by simp
    rw [e]
    exact ⟨⟨_, Heap.get?_push_size _ rfl, rfl⟩, hQ h' tk acc hk hacc⟩
  · exact ⟨h₁.1, F.args_object_init_2 obj _, object_init_meets F.called_tuple.init.lookup F.called_tuple.made (by decide) prog w A.in1 _ s₁ ⟨h₁.1, rfl, h₁.2⟩⟩
end
def rTupD : List V → Hp → VK → Prop := fun xs H Q => ∃ p kvs, xs = [.ref p] ∧ H p = some (.dK kvs) ∧ ∀ q, H q = none → Q (.ref q) (upd H q (.tup (kvs.map fun kv => kV kv.1)))
theorem call_tuple_dK {X : Cx} (hc : X.calm = true) : CallR X (.type "tuple") rTupD := by
  intro pins s σ H xs us Q I r h
  obtain ⟨p, kvs, e, hk, q⟩ := h
  subst e
  obtain ⟨u, eu, rx⟩ := vals1 r
  subst eu
  obtain rfl : u = Value.ref p := rx
  obtain ⟨z, lo, vs, rk, hd⟩ := (show ObjOk X.prog X.w H s.heap p (.dK kvs) from I.hok p _ hk)
  obtain ⟨ep, hat⟩ := hd.dictAt
  have hl : kvs.length = vs.length := Paired.length rk
  have K := PySem.W.kdl_dict (prog := X.prog) (w := X.w) (d := p) (knd := mixKind X.prog X.w) (kvs := vs) (ep := ep) lo
  refine call_tuple_src K (I.ok.hd hc) hat (by rw [← hl]; exact z) (K.type s hat) fun h' tk acc hkeep hacc => ?_
  have I2 : Inv X pins σ H { s with heap := h', toks := tk } := I.kept hkeep
  refine ⟨.ref h'.objs.size, upd H h'.objs.size (.tup (kvs.map fun kv => kV kv.1)), I2.laid (t' := tk) (fun c o e => Heap.get?_push_of_some _ e) (Nat.le_refl _) (show ObjOk X.prog X.w _ _ _ (.tup (kvs.map fun kv => kV kv.1)) from ⟨?_, acc.toList, ?_, ?_⟩), rfl, q _ (I2.hok.fresh (Nat.le_refl _))⟩
  · rw [List.length_map]; exact z
  · have el : acc.toList.length = acc.size := by simp
    refine vals_of_at (by rw [List.length_map, el, hacc.1, hl]) fun j x w h1 h2 => ?_
    obtain ⟨k, y, hky, hi⟩ := hacc.2 j w (by rw [← Array.getElem?_toList]; exact h2)
    have e1 : (kvs.map (·.1))[j]? = some k := by
      rw [KV.keys rk, List.getElem?_map, hky] <;> rfl
    have e2 : (kvs.map fun kv => kV kv.1)[j]? = some (kV k) := by
      have e3 : (kvs.map fun kv => kV kv.1) = (kvs.map (·.1)).map kV := by rw [List.map_map] <;> rfl
      rw [e3, List.getElem?_map, e1] <;> rfl
    rw [e2] at h1
    cases h1
    exact keyIs_rel hi
  · rw [Array.toArray_toList]; exact IsTup.new _ _
end L3

/-! the package's kinds: var, con, to -/
namespace L3
open PySem L2 RT
structure Bl5 (mg : Str → Option Value) : Prop where
  reversed : mg "reversed" = none
  sum : mg "sum" = none
theorem SqT.same' {K : PySem.W.Frag} {H H' : Hp} (e : Same H H') {a : Addr} {xs : List V} (h : SqT K H a xs) : SqT K H' a xs := by
  rcases h with (h | ⟨o, h⟩) | h
  · exact .inl (.inl (e _ _ h))
  · exact .inl (.inr ⟨o, e _ _ h⟩)
  · exact .inr h
def arrow (a b : Kd) : Kd := .app (.app (.con "to") a) b
section
variable {P : Program} {w : World} {K : PySem.W.Frag} {mg : Str → Option Value} {base : Heap}
abbrev s_var : Stmt := topS 1
abbrev N_var : List Str := ["name"]
theorem sc_var : FnScope N_var ["name"] (defScope s_var) := ⟨rfl, rfl, rfl, by decide +kernel, rfl, by decide +kernel, by decide +kernel⟩
def spVar : Sp := fun vs H Q _ => ∃ (x : Str), vs = [.str x] ∧ ∀ q, H q = none → Q (.ref q) (upd H q (.tup [.str "var", .str x]))
theorem ok_var {f : Addr} {fd : FuncData} (F : Fun K "var" "var" s_var f fd) : FnOk P w K mg base CX0 1 f fd ["name"] spVar := by
  refine F.ok sc_var (fun vs H Q E h => ?_) (fun cdv A outer s H vs Q E hr h => ?_)
  · obtain ⟨x, rfl, _⟩ := h
    rfl
  · obtain ⟨x, rfl, k⟩ := h
    refine ⟨_, (pss_one (ps_ret (pe_tup (pa_cons pe_str (pa_cons (pv 0) pa_nil))))), ?_⟩
    exact ⟨_, rfl, slz rfl, fun q hq => k q hq⟩
abbrev s_applied : Stmt := topS 3
abbrev N_applied : List Str := ["head", "parts", "found", "part"]
theorem sc_applied : FnScope N_applied ["head", "parts"] (defScope s_applied) := ⟨rfl, rfl, rfl, by decide +kernel, rfl, by decide +kernel, by decide +kernel⟩
def spApplied (K : PySem.W.Frag) : Sp := fun vs H Q _ => ∃ (v0 : V) (l : Addr) (k0 : Kd) (xs : List V) (ks : List Kd), vs = [v0, .ref l] ∧ KdAt H v0 k0 ∧ SqT K H l xs ∧ KdsAt H xs ks ∧
  ∀ (H' : Hp) (v : V), Same H H' → KdAt H' v (ks.foldl Kd.app k0) → Q v H'
theorem ok_applied {f : Addr} {fd : FuncData} (F : Fun K "applied" "applied" s_applied f fd) : FnOk P w K mg base CX0 1 f fd ["head", "parts"] (spApplied K) := by
  refine F.ok sc_applied (fun vs H Q E h => ?_) (fun cdv A outer s H vs Q E hr h => ?_)
  · obtain ⟨v0, l, k0, xs, ks, rfl, _⟩ := h
    rfl
  · obtain ⟨v0, l, k0, xs, ks, rfl, h0, h1, h2, k⟩ := h
    refine ⟨_, (pss_cons (ps_set (i := 2) sc_applied.nd rfl (Or.inl rfl) (pv 0))
  (pss_cons (ps_for PassesOwn.never rfl (pi_tup (pv 1)) (pg_name (i := 3) sc_applied.nd rfl (Or.inl rfl))
  (pss_one (ps_set (i := 2) sc_applied.nd rfl (Or.inl rfl) (pe_tup (pa_cons pe_str (pa_cons (pv 2) (pa_cons (pv 3) pa_nil)))))))
  (pss_one (ps_ret (pv 2))))), ?_⟩
    refine ⟨_, rfl, _, rfl, l, rfl, ⟨_, h1⟩, for_tup (K := K) (a := l) (xs := xs) (fun i σ H' => Same H H' ∧ ∃ (v : V) (pv : Option V), σ = [some v0, some (.ref l), some v, pv] ∧ KdAt H' v ((ks.take i).foldl Kd.app k0)) ⟨fun _ _ q => q, v0, none, rfl, h0⟩ (fun i σ H' _ ⟨s1, _⟩ => SqT.same' s1 h1) ?_ ?_⟩
    · rintro i y σ H' hi ⟨s1, v, pv, rfl, hv⟩
      obtain ⟨ky, hky, hy⟩ := paired_get h2 hi
      refine ⟨_, rfl, _, rfl, slz rfl, fun q hq => ?_⟩
      have s2 : Same H' (upd H' q (.tup [.str "apply", v, y])) := same_new hq
      refine ⟨s1.trans s2, _, _, rfl, ?_⟩
      have tk : ks.take (i + 1) = ks.take i ++ [ky] := by
        rw [List.take_add_one, hky]
        rfl
      rw [tk, List.foldl_append]
      exact ⟨q, v, y, rfl, upd_same, KdAt.tups (same_tups s2) hv, KdAt.tups (same_tups (s1.trans s2)) hy⟩
    · rintro σ H' ⟨s1, v, pv, rfl, hv⟩
      have e : ks.take xs.length = ks := by rw [Paired.length h2, List.take_length]
      rw [e] at hv
      exact ⟨_, rfl, k _ _ s1 hv⟩
abbrev s_con : Stmt := topS 2
abbrev N_con : List Str := ["name", "parts"]
theorem sc_con : FnScope N_con ["name", "parts"] (defScope s_con) := ⟨rfl, rfl, rfl, by decide +kernel, rfl, by decide +kernel, by decide +kernel⟩
def spConT (K : PySem.W.Frag) : Sp := fun vs H Q _ => ∃ (x : Str) (l : Addr) (xs : List V) (ks : List Kd), vs = [.str x, .ref l] ∧ SqT K H l xs ∧ KdsAt H xs ks ∧
  ∀ (H' : Hp) (v : V), Same H H' → KdAt H' v (conK x ks) → Q v H'
theorem ok_conP {f : Addr} {fd : FuncData} (F : Fun K "con" "con" s_con f fd) (D_applied : Kn P w K mg base 1 "applied" ["head", "parts"] (spApplied K)) : FnR P w K mg base CX0 2 f (spStar 1 (spConT K)) := by
  refine fn_starK (ps := ["name"]) F sc_con (fun _ _ _ _ _ _ us rest hl => match us, rest, hl with | [_], [], _ => rfl | [_], _ :: _, _ => rfl) (fun cdv A outer s H vs Q E hr h => ?_)
  obtain ⟨x, l, xs, ks, rfl, h1, h2, k⟩ := h
  have hr_applied := hr
  refine ⟨_, (pss_one (ps_ret (pe_kn D_applied hr_applied (pa_cons (pe_tup (pa_cons pe_str (pa_cons (pv 0) pa_nil))) (pa_cons (pv 1) pa_nil))))), ?_⟩
  refine ⟨_, rfl, slz rfl, fun q hq => ?_⟩
  have s1 : Same H (upd H q (.tup [.str "con", .str x])) := same_new hq
  refine ⟨_, rfl, .ref q, l, .con x, xs, ks, rfl, ⟨q, rfl, upd_same⟩, SqT.same' s1 h1, KdsAt.tups (same_tups s1) h2, fun H' v s2 hv => ?_⟩
  exact k _ _ (s1.trans s2) hv
abbrev s_to : Stmt := topS 4
abbrev N_to : List Str := ["kinds", "found", "kind"]
theorem sc_to : FnScope N_to ["kinds"] (defScope s_to) := ⟨rfl, rfl, rfl, by decide +kernel, rfl, by decide +kernel, by decide +kernel⟩
def spTo (K : PySem.W.Frag) : Sp := fun vs H Q _ => ∃ (l : Addr) (xs : List V) (x : V) (ks : List Kd) (kl : Kd), vs = [.ref l] ∧ SqT K H l (xs ++ [x]) ∧ KdsAt H xs ks ∧ KdAt H x kl ∧
  ∀ (H' : Hp) (v : V), Same H H' → KdAt H' v (ks.foldr arrow kl) → Q v H'
theorem cut_last (xs : List V) (x : V) : cutV (xs ++ [x]) none (some (-1)) = xs := by
  unfold cutV
  have e : HT.sIx (xs ++ [x]).length (xs ++ [x]).length (some (-1)) = xs.length := by
    unfold HT.sIx
    rw [List.length_append]
    simp
    omega
  rw [e, HT.sIx_none, List.drop_zero, Nat.sub_zero, List.take_left']
  rfl
theorem ok_to {f : Addr} {fd : FuncData} (F : Fun K "to" "to" s_to f fd) (B : Bl mg) (B5 : Bl5 mg) (D_con : KnR P w K mg base 2 "con" (spStar 1 (spConT K))) : FnR P w K mg base CX0 3 f (spStar 0 (spTo K)) := by
  refine fn_starK (ps := []) F sc_to (fun _ _ _ _ _ _ us rest hl => ?_) (fun cdv A outer s H vs Q E hr h => ?_)
  · cases us with
    | nil => cases rest <;> rfl
    | cons a r => cases hl
  obtain ⟨l, xs, x, ks, kl, rfl, h1, h2, h3, k⟩ := h
  have hr_con := hr
  refine ⟨_, (pss_cons (ps_set (i := 1) sc_to.nd rfl (Or.inl rfl) (pe_ix ix_tup (pv 0) (pe_un un_neg pe_int) (fun _ _ => rfl)))
  (pss_cons (ps_for PassesOwn.never rfl (pi_revA (by rfl) B5.reversed (pe_slice sl_tup (pv 0) po_none (po_some (pe_un un_neg pe_int)))) (pg_name (i := 2) sc_to.nd rfl (Or.inl rfl))
  (pss_one (ps_set (i := 1) sc_to.nd rfl (Or.inl rfl) (pe_ks D_con hr_con (pa_cons pe_str (pa_cons (pv 2) (pa_cons (pv 1) pa_nil)))))))
  (pss_one (ps_ret (pv 1))))), ?_⟩
  refine ⟨_, rfl, _, rfl, _, _, _, _, rfl, rfl, h1, atI_last xs x, ?_⟩
  refine ⟨_, rfl, _, rfl, _, rfl, l, xs ++ [x], rfl, h1, ?_, fun q hq => ?_⟩
  · rintro ⟨_, e⟩
    have e2 : HT.sIx (xs ++ [x]).length (xs ++ [x]).length (some (-1)) = xs.length := by
      unfold HT.sIx
      rw [List.length_append]
      simp
      omega
    rw [e2, List.length_append] at e
    simp at e
  · rw [cut_last]
    have s0 : Same H (upd H q (.tup xs)) := same_new hq
    have g0 : (upd H q (.tup xs)) q = some (.tup xs) := upd_same
    generalize upd H q (.tup xs) = H0 at s0 g0 ⊢
    have lk : xs.length = ks.length := Paired.length h2
    refine ⟨q, xs, rfl, .inr ⟨SqT.of g0, for_ItvT (K := K) (a := q) (xs := xs) (fun i σ H' => Same H0 H' ∧ ∃ (v : V) (pv : Option V), σ = [some (.ref l), some v, pv] ∧ KdAt H' v ((ks.drop (xs.length - i)).foldr arrow kl)) ⟨fun _ _ z => z, x, none, rfl, ?_⟩ (fun i σ H' ⟨s1, _⟩ => SqT.of (s1 _ _ g0)) ?_ ?_⟩⟩
    · rw [Nat.sub_zero, lk, List.drop_length]
      exact KdAt.tups (same_tups s0) h3
    · rintro i y σ H' hi hy ⟨s1, v, pv, rfl, hv⟩
      obtain ⟨ky, hky, hyy⟩ := paired_get h2 hy
      refine ⟨_, rfl, _, rfl, [.str "to"], [y, v], rfl, rfl, slz rfl, fun p hp => ?_⟩
      have s2 : Same H' (upd H' p (.tup [y, v])) := same_new hp
      refine ⟨"to", p, [y, v], [ky, (ks.drop (xs.length - i)).foldr arrow kl], rfl, SqT.of upd_same, .cons (KdAt.tups (same_tups ((s0.trans s1).trans s2)) hyy) (.cons (KdAt.tups (same_tups s2) hv) .nil), fun H2 v2 s3 hv2 => ?_⟩
      refine ⟨(s1.trans s2).trans s3, v2, _, rfl, ?_⟩
      obtain ⟨hj, ej⟩ := List.getElem?_eq_some_iff.mp hky
      have dr : ks.drop (xs.length - (i + 1)) = ky :: ks.drop (xs.length - i) := by
        rw [show xs.length - (i + 1) = xs.length - 1 - i by omega, List.drop_eq_getElem_cons hj, ej, show xs.length - 1 - i + 1 = xs.length - i by omega]
      rw [dr]
      exact hv2
    · rintro σ H' ⟨s1, v, pv, rfl, hv⟩
      rw [Nat.sub_self, List.drop_zero] at hv
      exact ⟨_, rfl, k _ _ (s0.trans s1) hv⟩
end
end L3

/-! the package's kinds: put, leaves_of, size_of, variables_of -/
namespace L3
open PySem L2 RT
section
variable {P : Program} {w : World} {K : PySem.W.Frag} {mg : Str → Option Value} {base : Heap}
abbrev s_put : Stmt := topS 8
abbrev N_put : List Str := ["kind", "by"]
theorem sc_put : FnScope N_put ["kind", "by"] (defScope s_put) := ⟨rfl, rfl, rfl, by decide +kernel, rfl, by decide +kernel, by decide +kernel⟩
theorem ok_putP_step {n : Nat} {f : Addr} {fd : FuncData} (F : Fun K "put" "put" s_put f fd) (D_put : Kn P w K mg base n "put" ["kind", "by"] (spPrev (spPut K) n)) : FnOk P w K mg base CX0 (n + 1) f fd ["kind", "by"] (spPut K n) := by
  refine F.ok sc_put (fun vs H Q E h => ?_) (fun cdv A outer s H vs Q E hr h => ?_)
  · obtain ⟨v, d, k, kvs, by', rfl, _⟩ := h
    rfl
  · obtain ⟨v, d, kd, kvs, by', rfl, h1, h2, h3, h4, k⟩ := h
    have hr_put := hr
    have hu := hu_of hr
    refine ⟨_, (pss_cons (ps_if (pt_cmpR op_eq (pe_ix ix_tup (pv 0) pe_int (fun _ _ => rfl)) pe_str (nomark _))
  (pss_one (ps_ret (pe_tup (pa_cons pe_str (pa_cons (pe_kn D_put hr_put (pa_cons (pe_ix ix_tup (pv 0) pe_int (fun _ _ => rfl)) (pa_cons (pv 1) pa_nil))) (pa_cons (pe_kn D_put hr_put (pa_cons (pe_ix ix_tup (pv 0) pe_int (fun _ _ => rfl)) (pa_cons (pv 1) pa_nil))) pa_nil))))))
  pss_nil)
  (pss_cons (ps_if (pt_cmpR op_eq (pe_ix ix_tup (pv 0) pe_int (fun _ _ => rfl)) pe_str (nomark _))
  (pss_one (ps_ret (pe_dget2 hu (pv 1) (pe_ix ix_tup (pv 0) pe_int (fun _ _ => rfl)) (pv 0) ⟨rfl, rfl, rfl, rfl⟩)))
  pss_nil)
  (pss_one (ps_ret (pv 0))))), ?_⟩
    cases kd with
    | app a b =>
      obtain ⟨m, rfl, ha, hb⟩ := Kd.fit_app h2
      obtain ⟨p, u, z, rfl, hp, hu1, hz1⟩ := h1
      refine ⟨_, rfl, _, _, _, _, rfl, rfl, SqT.of hp, rfl, rfl, _, rfl, iT tg_aa ?_⟩
      refine ⟨_, rfl, _, _, _, _, rfl, rfl, SqT.of hp, rfl, _, rfl, u, d, a, kvs, by', rfl, hu1, ha, h3, h4, fun H1 v1 s1 g1 => ?_⟩
      refine ⟨_, rfl, _, _, _, _, rfl, rfl, SqT.of (s1 _ _ hp), rfl, _, rfl, z, d, b, kvs, by', rfl, KdAt.tups (same_tups s1) hz1, hb, s1 _ _ h3, ByAt.tups (same_tups s1) h4, fun H2 v2 s2 g2 => ?_⟩
      refine ⟨slz rfl, fun q hq => ?_⟩
      have s3 : Same H2 (upd H2 q (.tup [.str "apply", v1, v2])) := same_new hq
      exact k _ _ ((s1.trans s2).trans s3) ⟨q, v1, v2, rfl, upd_same, KdAt.tups (same_tups (s2.trans s3)) g1, KdAt.tups (same_tups s3) g2⟩
    | var x =>
      obtain ⟨p, rfl, hp⟩ := id h1
      refine ⟨_, rfl, _, _, _, _, rfl, rfl, SqT.of hp, rfl, rfl, _, rfl, iF tg_va ?_⟩
      refine ⟨_, rfl, _, _, _, _, rfl, rfl, SqT.of hp, rfl, rfl, _, rfl, iT tg_vv ?_⟩
      refine ⟨_, rfl, d, rfl, .inl ⟨_, .inl h3⟩, _, rfl, _, _, _, _, rfl, rfl, SqT.of hp, rfl, _, rfl, _, DGet.k (k := .inr x) h3, ?_⟩
      rcases h4.get x with ⟨e1, e2⟩ | ⟨v, kd, e1, e2, g⟩
      · rw [e1]
        refine k _ _ (Same.refl _) ?_
        show KdAt H (.ref p) ((lk by' x).getD (.var x))
        rw [e2]
        exact h1
      · rw [e1]
        refine k _ _ (Same.refl _) ?_
        show KdAt H v ((lk by' x).getD (.var x))
        rw [e2]
        exact g
    | con x =>
      obtain ⟨p, rfl, hp⟩ := id h1
      refine ⟨_, rfl, _, _, _, _, rfl, rfl, SqT.of hp, rfl, rfl, _, rfl, iF tg_ca ?_⟩
      refine ⟨_, rfl, _, _, _, _, rfl, rfl, SqT.of hp, rfl, rfl, _, rfl, iF tg_cv ?_⟩
      exact ⟨_, rfl, k _ _ (Same.refl _) h1⟩
theorem ok_putP {f : Addr} {fd : FuncData} (F : Fun K "put" "put" s_put f fd) (hm : mg "put" = some (.ref f)) : ∀ n, FnOk P w K mg base CX0 (n + 1) f fd ["kind", "by"] (spPut K n)
  | 0 => ok_putP_step F ⟨f, fd, fn_false, hm, F.kp, F.binds fun _ _ _ _ _ _ us hl => match us, hl with | [_, _], _ => rfl⟩
  | n + 1 => ok_putP_step F ⟨f, fd, ok_putP F hm n, hm, F.kp, F.binds fun _ _ _ _ _ _ us hl => match us, hl with | [_, _], _ => rfl⟩
/-! ### leaves -/
end
def Kd.leaves : Kd → List Kd
  | .var x => [.var x]
  | .con x => [.con x]
  | .app a b => a.leaves ++ b.leaves
def leavesL : List Kd → List Kd
  | [] => []
  | k :: r => k.leaves ++ leavesL r
theorem leavesL_append : ∀ a b : List Kd, leavesL (a ++ b) = leavesL a ++ leavesL b
  | [], _ => rfl
  | k :: r, b => by
    show k.leaves ++ leavesL (r ++ b) = k.leaves ++ leavesL r ++ leavesL b
    rw [leavesL_append r b, List.append_assoc]
theorem leaves_size : ∀ k : Kd, k.leaves.length ≤ k.size
  | .var _ => Nat.le_refl _
  | .con _ => Nat.le_refl _
  | .app a b => by
    have h1 := leaves_size a
    have h2 := leaves_size b
    show (a.leaves ++ b.leaves).length ≤ a.size + b.size + 1
    rw [List.length_append]
    omega
theorem leavesL_size : ∀ ks : List Kd, (leavesL ks).length ≤ sizeL ks
  | [] => Nat.le_refl _
  | k :: r => by
    have h1 := leaves_size k
    have h2 := leavesL_size r
    show (k.leaves ++ leavesL r).length ≤ k.size + sizeL r
    rw [List.length_append]
    omega
theorem vsL_leaves : ∀ (k : Kd) (fs : List Str), vsL k.leaves fs = k.vs fs
  | .var _, _ => rfl
  | .con _, _ => rfl
  | .app a b, fs => by
    show vsL (a.leaves ++ b.leaves) fs = b.vs (a.vs fs)
    rw [vsL_append, vsL_leaves a, vsL_leaves b]
theorem vsL_leavesL : ∀ (ks : List Kd) (fs : List Str), vsL (leavesL ks) fs = vsL ks fs
  | [], _ => rfl
  | k :: r, fs => by
    show vsL (k.leaves ++ leavesL r) fs = vsL r (k.vs fs)
    rw [vsL_append, vsL_leaves, vsL_leavesL r]
section
variable {P : Program} {w : World} {K : PySem.W.Frag} {mg : Str → Option Value} {base : Heap}
abbrev s_leaves_of : Stmt := topS 5
abbrev N_leaves_of : List Str := ["kinds", "found", "waiting", "part", "kind"]
theorem sc_leaves_of : FnScope N_leaves_of ["kinds"] (defScope s_leaves_of) := ⟨rfl, rfl, rfl, by decide +kernel, rfl, by decide +kernel, by decide +kernel⟩
def spLeaves (K : PySem.W.Frag) : Sp := fun vs H Q _ => ∃ (l : Addr) (xs : List V) (ks : List Kd), vs = [.ref l] ∧ SqT K H l xs ∧ KdsAt H xs ks ∧ sizeL ks ≤ 100000 ∧
  ∀ (H' : Hp) (p : Addr) (ls : List V), Same H H' → H p = none → H' p = some (.lst ls) → KdsAt H' ls (leavesL ks) → Q (.ref p) H'
theorem ok_leaves {f : Addr} {fd : FuncData} (F : Fun K "leaves_of" "leaves_of" s_leaves_of f fd) (B : Bl mg) (B5 : Bl5 mg) : FnR P w K mg base CX0 1 f (spStar 0 (spLeaves K)) := by
  refine fn_starK (ps := []) F sc_leaves_of (fun _ _ _ _ _ _ us rest hl => ?_) (fun cdv A outer s H vs Q E hr h => ?_)
  · cases us with
    | nil => cases rest <;> rfl
    | cons a r => cases hl
  obtain ⟨l, xs, ks, rfl, h1, h2, h4, k⟩ := h
  refine ⟨_, (pss_cons (ps_set (i := 1) sc_leaves_of.nd rfl (Or.inl rfl) (pe_lst pa_nil))
  (pss_cons (ps_setLc (i := 2) (own := [("kind", 4)]) rfl sc_leaves_of.nd rfl rfl (sw_true rfl rfl rfl (by decide +kernel)) (pi_revA (by rfl) B5.reversed (pv 0)) (blkOk_by (N := N_leaves_of) (sc := (defScope s_leaves_of)) (own := [("kind", 4)]) (by decide +kernel)) (fun _ _ _ _ _ => (pg_name (i := 4) sc_leaves_of.nd rfl (Or.inl rfl))) (fun _ _ _ _ _ => pts_nil) (fun _ _ _ _ _ => (pv 4)))
  (pss_cons (ps_while PassesOwn.never (pt_truth (pv 2) (by intro _; rfl))
  (pss_cons (ps_set (i := 3) sc_leaves_of.nd rfl (Or.inl rfl) (pe_bm0 PySem.F.plainAttrs_list PySem.F.slot_list_pop PySem.F.type_list_pop mt_pop (pv 2)))
  (pss_one (ps_if (pt_cmpR op_eq (pe_ix ix_tup (pv 3) pe_int (fun _ _ => rfl)) pe_str (nomark _))
  (pss_cons (ps_expr (pe_bm PySem.F.plainAttrs_list PySem.F.slot_list_append PySem.F.type_list_append mt_append (pv 2) (pa_cons (pe_ix ix_tup (pv 3) pe_int (fun _ _ => rfl)) pa_nil)))
  (pss_one (ps_expr (pe_bm PySem.F.plainAttrs_list PySem.F.slot_list_append PySem.F.type_list_append mt_append (pv 2) (pa_cons (pe_ix ix_tup (pv 3) pe_int (fun _ _ => rfl)) pa_nil)))))
  (pss_one (ps_expr (pe_bm PySem.F.plainAttrs_list PySem.F.slot_list_append PySem.F.type_list_append mt_append (pv 1) (pa_cons (pv 3) pa_nil))))))))
  (pss_one (ps_ret (pv 1)))))), ?_⟩
  refine ⟨slz rfl, fun lf hlf => ?_⟩
  have s1 : Same H (upd H lf (.lst [])) := same_new hlf
  have gf1 : (upd H lf (.lst [])) lf = some (.lst []) := upd_same
  generalize upd H lf (.lst []) = H1 at s1 gf1 ⊢
  refine ⟨_, rfl, l, xs, rfl, .inr ⟨SqT.same' s1 h1, fun lw hlw => lc_it walk_revT (fun i H' => Same H1 H' ∧ H' lw = some (.lst (xs.reverse.take i))) ⟨same_new hlw, upd_same⟩ (fun i H' _ h => SqT.same' h.1 (SqT.same' s1 h1)) ?_ ?_⟩⟩
  · rintro i y H2 H3 hi ⟨s2, g2⟩ ⟨rfl, ey⟩
    refine ⟨rfl, ?_⟩
    refine ⟨_, rfl, _, g2, size_line (by have := sizeL_len ks; have := Paired.length h2; simp; omega), fun b o e => ?_, ?_⟩
    · rw [upd_ne (ne_of_none e hlw)]
      exact s2 _ _ e
    · rw [upd_same, List.take_add_one, rev_at hi ey]
      rfl
  rintro H2 ⟨s3, gw0⟩
  rw [List.take_of_length_le (by simp)] at gw0
  have ss := s1.trans s3
  have nlw : H lw = none := s1.free hlw
  have nfw : lf ≠ lw := ne_of_none gf1 hlw
  refine ⟨fun m σ H' => ∃ (st dn : List Kd) (vs fs : List V) (v3 : Option V), σ = [some (.ref l), some (.ref lf), some (.ref lw), v3, none] ∧ Same H H' ∧ H' lf = some (.lst fs) ∧ KdsAt H' fs dn ∧ H' lw = some (.lst vs) ∧ KdsAt H' vs st ∧ m = sizeL st ∧
      dn.length + sizeL st ≤ 100000 ∧ dn ++ leavesL st.reverse = leavesL ks, ⟨sizeL ks, ks.reverse, [], xs.reverse, [], none, rfl, ss, s3 _ _ gf1, .nil, gw0, KdsAt.tups (same_tups ss) (paired_rev h2), (sizeL_rev ks).symm, by rw [sizeL_rev]; simpa using h4, by rw [List.reverse_reverse]; rfl⟩, ?_⟩
  rintro m σ H2 ⟨st, dn, vs, fs, v3, rfl, s4, g1, gd, g2, g3, rfl, g5, g6⟩
  refine ⟨_, rfl, _, .inl ⟨vs, SqL.of g2, rfl⟩, ?_⟩
  by_cases hst : st = []
  · subst hst
    cases g3
    refine iteF ?_
    have e : dn = leavesL ks := by rw [← g6]; simp [leavesL]
    exact ⟨_, rfl, k H2 lf fs s4 hlf g1 (by rw [← e]; exact gd)⟩
  · obtain ⟨st0, kd, rfl⟩ := kds_snoc st hst
    obtain ⟨vs0, v, rfl, g31, g32⟩ := paired_last g3
    have hne : (!(vs0 ++ [v]).isEmpty) = true := by cases vs0 <;> rfl
    refine iT hne ?_
    refine ⟨fun σ' H' => ∃ (st dn : List Kd) (vs fs : List V) (v3 : Option V), σ' = [some (.ref l), some (.ref lf), some (.ref lw), v3, none] ∧ Same H H' ∧ H' lf = some (.lst fs) ∧ KdsAt H' fs dn ∧ H' lw = some (.lst vs) ∧ KdsAt H' vs st ∧ sizeL st < sizeL (st0 ++ [kd]) ∧
        dn.length + sizeL st ≤ 100000 ∧ dn ++ leavesL st.reverse = leavesL ks, ?_, ?_⟩
    · rintro σ' H' ⟨st, dn, vs, fs, v3, e1, e2, e3, e4, e5, e6, e7, e8, e9⟩
      exact ⟨sizeL st, e7, st, dn, vs, fs, v3, e1, e2, e3, e4, e5, e6, rfl, e8, e9⟩
    · have lsz : sizeL (st0 ++ [kd]) = sizeL st0 + kd.size := by rw [sizeL_append]; rfl
      rw [List.reverse_append] at g6
      have g6' : dn ++ (kd.leaves ++ leavesL st0.reverse) = leavesL ks := g6
      have S6 : Same H (upd H2 lw (.lst vs0)) := fun b o z => by
        rw [upd_ne (ne_of_none z nlw)]
        exact s4 _ _ z
      have tu : Tups H2 (upd H2 lw (.lst vs0)) := Tups.put g2 (by intro xs z; cases z)
      have gf : (upd H2 lw (.lst vs0)) lf = some (.lst fs) := by rw [upd_ne nfw]; exact g1
      refine ⟨_, rfl, .inl ⟨rfl, _, SqL.of g2⟩, lw, vs0 ++ [v], v, rfl, rfl, g2, by simp, ?_⟩
      rw [List.dropLast_concat]
      have gw : (upd H2 lw (.lst vs0)) lw = some (.lst vs0) := upd_same
      have k1 := KdsAt.tups tu g31
      have k2 := KdAt.tups tu g32
      have kd' := KdsAt.tups tu gd
      generalize upd H2 lw (.lst vs0) = H3 at S6 gf gw k1 k2 kd' ⊢
      clear tu
      have hs1 := kd.size_pos
      have lnv : vs0.length ≤ 100000 := by
        have := sizeL_len st0
        rw [Paired.length k1]
        omega
      have leaf : ∀ (kl : Kd), kl = kd → kd.leaves = [kd] → ∃ acc, H3 lf = some (.lst acc) ∧ acc.length < sizeLine ∧ ∃ (st dn : List Kd) (vs fs : List V) (v3 : Option V), [some (.ref l), some (.ref lf), some (.ref lw), some v, none] = [some (V.ref l), some (.ref lf), some (.ref lw), v3, none] ∧ Same H (upd H3 lf (.lst (acc ++ [v]))) ∧ (upd H3 lf (.lst (acc ++ [v]))) lf = some (.lst fs) ∧ KdsAt (upd H3 lf (.lst (acc ++ [v]))) fs dn ∧ (upd H3 lf (.lst (acc ++ [v]))) lw = some (.lst vs) ∧ KdsAt (upd H3 lf (.lst (acc ++ [v]))) vs st ∧ sizeL st < sizeL (st0 ++ [kd]) ∧
          dn.length + sizeL st ≤ 100000 ∧ dn ++ leavesL st.reverse = leavesL ks := by
        intro kl _ el
        have tu8 : Tups H3 (upd H3 lf (.lst (fs ++ [v]))) := Tups.put gf (by intro xs z; cases z)
        refine ⟨fs, gf, by rw [Paired.length kd']; exact size_line (by omega), st0, dn ++ [kd], vs0, fs ++ [v], _, rfl, fun b o zz => ?_, upd_same, Paired.snoc (KdsAt.tups tu8 kd') (KdAt.tups tu8 k2), by rw [upd_ne nfw.symm]; exact gw, KdsAt.tups tu8 k1, by rw [lsz]; omega, ?_, ?_⟩
        · rw [upd_ne (ne_of_none zz hlf)]
          exact S6 _ _ zz
        · rw [lsz] at g5
          rw [List.length_append, List.length_singleton]
          omega
        · rw [← g6', el, List.append_assoc]
      cases kd with
      | app a d =>
        obtain ⟨p, u, z, rfl, hp, ha, hd⟩ := id k2
        refine ⟨_, rfl, _, _, _, _, rfl, rfl, SqT.of hp, rfl, rfl, _, rfl, iT tg_aa ?_⟩
        refine ⟨_, rfl, .inl ⟨rfl, _, SqL.of gw⟩, _, rfl, _, _, _, _, rfl, rfl, SqT.of hp, rfl, lw, _, _, rfl, rfl, gw, size_line (by omega), ?_⟩
        have tu8 : Tups H3 (upd H3 lw (.lst (vs0 ++ [z]))) := Tups.put gw (by intro xs z; cases z)
        have gw8 : (upd H3 lw (.lst (vs0 ++ [z]))) lw = some (.lst (vs0 ++ [z])) := upd_same
        have gf8 : (upd H3 lw (.lst (vs0 ++ [z]))) lf = some (.lst fs) := by rw [upd_ne nfw]; exact gf
        have S8 : Same H (upd H3 lw (.lst (vs0 ++ [z]))) := fun b o zz => by
          rw [upd_ne (ne_of_none zz nlw)]
          exact S6 _ _ zz
        generalize upd H3 lw (.lst (vs0 ++ [z])) = H4 at tu8 gw8 gf8 S8 ⊢
        refine ⟨_, rfl, .inl ⟨rfl, _, SqL.of gw8⟩, _, rfl, _, _, _, _, rfl, rfl, SqT.of (tu8 _ _ hp), rfl, lw, _, _, rfl, rfl, gw8, size_line (by rw [List.length_append, List.length_singleton]; omega), ?_⟩
        have tu9 : Tups H3 (upd H4 lw (.lst (vs0 ++ [z] ++ [u]))) := tu8.trans (Tups.put gw8 (by intro xs z; cases z))
        refine ⟨st0 ++ [d] ++ [a], dn, vs0 ++ [z] ++ [u], fs, _, rfl, fun b o zz => ?_, by rw [upd_ne nfw]; exact gf8, KdsAt.tups tu9 kd', upd_same, Paired.snoc (Paired.snoc (KdsAt.tups tu9 k1) (KdAt.tups tu9 hd)) (KdAt.tups tu9 ha), ?_, ?_, ?_⟩
        · rw [upd_ne (ne_of_none zz nlw)]
          exact S8 _ _ zz
        · rw [sizeL_append, sizeL_append, lsz]
          simp only [sizeL, Kd.size]
          omega
        · rw [sizeL_append, sizeL_append]
          rw [lsz] at g5
          simp only [sizeL, Kd.size] at g5 ⊢
          omega
        · rw [← g6', List.reverse_append, List.reverse_append]
          show dn ++ (a.leaves ++ (d.leaves ++ leavesL st0.reverse)) = dn ++ (a.leaves ++ d.leaves ++ leavesL st0.reverse)
          rw [List.append_assoc]
      | var x =>
        obtain ⟨p, rfl, hp⟩ := id k2
        refine ⟨_, rfl, _, _, _, _, rfl, rfl, SqT.of hp, rfl, rfl, _, rfl, iF tg_va ?_⟩
        obtain ⟨acc, a1, a2, a3⟩ := leaf _ rfl rfl
        exact ⟨_, rfl, .inl ⟨rfl, _, SqL.of a1⟩, _, rfl, lf, _, _, rfl, rfl, a1, a2, a3⟩
      | con x =>
        obtain ⟨p, rfl, hp⟩ := id k2
        refine ⟨_, rfl, _, _, _, _, rfl, rfl, SqT.of hp, rfl, rfl, _, rfl, iF tg_ca ?_⟩
        obtain ⟨acc, a1, a2, a3⟩ := leaf _ rfl rfl
        exact ⟨_, rfl, .inl ⟨rfl, _, SqL.of a1⟩, _, rfl, lf, _, _, rfl, rfl, a1, a2, a3⟩
abbrev s_size_of : Stmt := topS 6
abbrev N_size_of : List Str := ["kinds"]
theorem sc_size_of : FnScope N_size_of ["kinds"] (defScope s_size_of) := ⟨rfl, rfl, rfl, by decide +kernel, rfl, by decide +kernel, by decide +kernel⟩
def spSize (K : PySem.W.Frag) : Sp := fun vs H Q _ => ∃ (l : Addr) (xs : List V) (ks : List Kd), vs = [.ref l] ∧ SqT K H l xs ∧ KdsAt H xs ks ∧ sizeL ks ≤ 100000 ∧
  ∀ (H' : Hp), Same H H' → Q (.int ((leavesL ks).length : Int)) H'
theorem ok_size {f : Addr} {fd : FuncData} (F : Fun K "size_of" "size_of" s_size_of f fd) (B : Bl mg) (D_leaves_of : KnR P w K mg base 1 "leaves_of" (spStar 0 (spLeaves K))) : FnR P w K mg base CX0 2 f (spStar 0 (spSize K)) := by
  refine fn_starK (ps := []) F sc_size_of (fun _ _ _ _ _ _ us rest hl => ?_) (fun cdv A outer s H vs Q E hr h => ?_)
  · cases us with
    | nil => cases rest <;> rfl
    | cons a r => cases hl
  obtain ⟨l, xs, ks, rfl, h1, h2, h4, k⟩ := h
  have hr_leaves_of := hr
  have lx : xs.length ≤ 100000 := by
    have := sizeL_len ks
    rw [Paired.length h2]
    omega
  refine ⟨_, (pss_one (ps_ret (pe_callB call_len (by rfl) B.len PySem.boot_len (pa_cons (pe_ks1 D_leaves_of hr_leaves_of (pv 0)) pa_nil)))), ?_⟩
  refine ⟨_, rfl, l, xs, rfl, .inl h1, [], xs, rfl, rfl, Nat.le_of_lt (size_line (by omega)), fun q hq => ⟨q, xs, ks, rfl, SqT.of upd_same, KdsAt.tups (same_tups (same_new hq)) h2, h4, fun H1 p ls s1 hp g1 g2 => ?_⟩⟩
  refine ⟨_, _, rfl, .inl ⟨_, SqL.of g1, rfl⟩, ?_⟩
  have := k H1 ((same_new hq).trans s1)
  rw [← Paired.length g2] at this
  exact this
abbrev s_variables_of : Stmt := topS 7
abbrev N_variables_of : List Str := ["kinds", "leaf"]
theorem sc_variables_of : FnScope N_variables_of ["kinds"] (defScope s_variables_of) := ⟨rfl, rfl, rfl, by decide +kernel, rfl, by decide +kernel, by decide +kernel⟩
def spVarsT (K : PySem.W.Frag) : Sp := fun vs H Q _ => ∃ (l : Addr) (xs : List V) (ks : List Kd), vs = [.ref l] ∧ SqT K H l xs ∧ KdsAt H xs ks ∧ sizeL ks ≤ 100000 ∧
  ∀ (H' : Hp) (q : Addr), Same H H' → H q = none → H' q = some (.tup ((vsL ks []).map V.str)) → Q (.ref q) H'
end
end L3

/-! list(zip(a, b)) over two lists or two tuples of one length -/
namespace L3
open PySem PySem.Spec PyProof.Rows L2
section
variable {prog : Program} {w : World} {A : Around} {E : Value → Shared → Prop} {s : Shared} {z TI TO T i1 i2 l1 l2 : Addr} {f : Bool} {oT : Obj} {xs ys : Array Value}
/-- a zip of tuples whose last pair is still out gives the next pair -/
theorem zt_item {k1 k2 : Nat} {x y : Value} {Q : Option Value → Shared → Prop} (D : ZipApart z TI TO i1 i2 l1 l2) (hz : IsZipHeld s.heap z TI TO T f) (hT : s.heap.get? T = some oT) (hTI : IsPair s.heap TI (.ref i1) (.ref i2))
    (a1 : s.heap.IsTupleIter i1 l1 k1) (a2 : s.heap.IsTupleIter i2 l2 k2) (t1 : s.heap.IsTuple l1 xs) (t2 : s.heap.IsTuple l2 ys) (ex : xs[k1]? = some x) (ey : ys[k2]? = some y)
    (q : ∀ h', IsZipHeld h' z TI TO T true → h'.IsTupleIter i1 l1 (k1 + 1) → h'.IsTupleIter i2 l2 (k2 + 1) → IsPair h' s.heap.objs.size x y → h'.objs.size = s.heap.objs.size + 1 →
      (∀ b o, b ≠ z → b ≠ i1 → b ≠ i2 → s.heap.get? b = some o → h'.get? b = some o) → Q (some (.ref s.heap.objs.size)) { s with heap := h' }) : wpAny (model prog w) A (pyNext (.ref z)) Q E s := by
  have isZip : s.TypeIs (.ref z) "zip" := ⟨_, hz, rfl⟩
  have body : ∀ (A' : Around) (E' : Value → Shared → Prop), wpAny (model prog w) A' (Builtin.«zip.__next__» ⟨[.ref z], []⟩) (fun fin s' => ∃ v, fin = .done (.ret v) ∧ Q (some v) s') E' s := by
    intro A' E'
    show wpAny _ _ (field (.ref z) 2 >>= _) _ _ s
    refine wpAny_bind (wpAny_field (i := 2) hz rfl rfl ?_)
    show wpAny _ _ (field (.ref z) 3 >>= _) _ _ s
    refine wpAny_bind (wpAny_field (i := 3) hz rfl rfl (wpAny_bind (wpAny_seqItems hTI rfl ?_)))
    refine wpAny_bind (wpAny_tupleHeld_zip hz hT fun ha hza hsa => ?_)
    rw [if_neg Bool.false_ne_true]
    refine wpAny_bind ?_
    rw [← Array.forIn_toList]
    simp only [List.forIn_nil, List.forIn_cons]
    refine wpAny_bind (wpAny_bind (wpAny_holding (wpAny_bind (RZ.nextOf_tuple_item (a1.extBut hsa.extBut D.i1z) (t1.extBut hsa.extBut D.l1z) ex fun hb b1 hsb => wpAny_pure (wpAny_pure ?_)))))
    refine wpAny_bind (wpAny_bind (wpAny_holding (wpAny_bind (RZ.nextOf_tuple_item ((a2.extBut hsa.extBut D.i2z).extBut hsb.extBut D.i12.symm) ((t2.extBut hsa.extBut D.l2z).extBut hsb.extBut D.l2i1) ey fun hc c2 hsc => wpAny_pure (wpAny_pure ?_)))))
    refine wpAny_pure ?_
    show wpAny _ _ (newTuple [x, y] >>= _) _ _ _
    refine wpAny_bind (wpAny_newTuple ?_)
    have size3 : hc.objs.size = s.heap.objs.size := (hsc.1.trans hsb.1).trans hsa.1
    have stays : ∀ b o, b ≠ z → b ≠ i1 → b ≠ i2 → s.heap.get? b = some o → hc.get? b = some o := fun b o n1 n2 n3 e => hsc.extBut b o n3 (hsb.extBut b o n2 (hsa.extBut b o n1 e))
    have pz : IsZipHeld hc z TI TO T true := hsc.extBut z _ D.i2z.symm (hsb.extBut z _ D.i1z.symm hza)
    refine wpAny_pure ⟨_, rfl, ?_⟩
    have fresh : IsPair (hc.push { cls := .type "tuple", data := .seq #[x, y] }) hc.objs.size x y := Heap.get?_push_size _ rfl
    have one : (hc.push { cls := .type "tuple", data := .seq #[x, y] }).objs.size = hc.objs.size + 1 := Heap.size_push ..
    show Q (some (.ref hc.objs.size)) _
    rw [size3] at fresh one ⊢
    exact q _ (Heap.get?_push_of_some _ pz) ((b1.extBut hsc.extBut D.i12).at fun o e => Heap.get?_push_of_some _ e) (c2.at fun o e => Heap.get?_push_of_some _ e) fresh one fun b o n1 n2 n3 e => Heap.get?_push_of_some _ (stays b o n1 n2 n3 e)
  unfold pyNext
  refine wpAny_bind (wpAny_attempt (wpAny_callSpecial?_slot (name := Str.ofString "__next__") isZip F.slot_zip_next (wpAny_call_entry F.slot_zip_next isZip F.entry_zip_next ?_ (F.args_zip_next_1 _))))
  exact wpAny_mono (body _ _) (fun fin s' ⟨v, e, h⟩ => ⟨v, e, wpAny_pure h⟩) fun _ _ h => h
theorem zt_end {k1 : Nat} {Q : Option Value → Shared → Prop} (hh : A.handled = none) (D : ZipApart z TI TO i1 i2 l1 l2) (hz : IsZipHeld s.heap z TI TO T f) (hT : s.heap.get? T = some oT) (hTI : IsPair s.heap TI (.ref i1) (.ref i2))
    (a1 : s.heap.IsTupleIter i1 l1 k1) (t1 : s.heap.IsTuple l1 xs) (ex : xs[k1]? = none)
    (q : ∀ h', (∀ b o, b ≠ z → b ≠ i1 → b ≠ i2 → s.heap.get? b = some o → h'.get? b = some o) → Q none { s with heap := h' }) : wpAny (model prog w) A (pyNext (.ref z)) Q E s := by
  have isZip : s.TypeIs (.ref z) "zip" := ⟨_, hz, rfl⟩
  unfold pyNext
  refine wpAny_bind (wpAny_attempt (wpAny_callSpecial?_slot (name := Str.ofString "__next__") isZip F.slot_zip_next (wpAny_call_entry F.slot_zip_next isZip F.entry_zip_next ?_ (F.args_zip_next_1 _))))
  show wpAny _ _ (field (.ref z) 2 >>= _) _ _ s
  refine wpAny_bind (wpAny_field (i := 2) hz rfl rfl ?_)
  show wpAny _ _ (field (.ref z) 3 >>= _) _ _ s
  refine wpAny_bind (wpAny_field (i := 3) hz rfl rfl (wpAny_bind (wpAny_seqItems hTI rfl ?_)))
  refine wpAny_bind (wpAny_tupleHeld_zip hz hT fun ha hza hsa => ?_)
  rw [if_neg Bool.false_ne_true]
  refine wpAny_bind ?_
  rw [← Array.forIn_toList]
  simp only [List.forIn_nil, List.forIn_cons]
  refine wpAny_bind (wpAny_bind (wpAny_holding (wpAny_bind (RZ.nextOf_tuple_end (s := { s with heap := ha }) hh (a1.extBut hsa.extBut D.i1z) (t1.extBut hsa.extBut D.l1z) ex fun hb e hsb he => ?_))))
  obtain ⟨o, ho, hc⟩ := he
  refine wpAny_bind (wpAny_isInstance (T := "StopIteration") (b := true) ⟨o, ho, hc⟩ isSubtype_stop ?_)
  exact wpAny_pure (q hb fun b o n1 n2 _ e => hsb b o n2 (hsa.extBut b o n1 e))
end
/-! ### a zip as a source of pairs for a list S that is being made -/
structure PSrc (prog : Program) (w : World) (z : Addr) (wr : List Addr) (n : Nat) (pr : Nat → Value × Value) (St : Nat → Addr → Heap → Prop) : Prop where
  type : ∀ i S (s : Shared), St i S s.heap → s.TypeIs (.ref z) "zip"
  self : ∀ (A : Around) (E : Value → Shared → Prop) i S (s : Shared) (Q : Value → Shared → Prop), St i S s.heap → Q (.ref z) s → wpAny (model prog w) A (pyIter (.ref z)) Q E s
  keep : ∀ i S h h', St i S h → (∀ b o, b ≠ S → h.get? b = some o → h'.get? b = some o) → St i S h'
  item : ∀ (A : Around) (E : Value → Shared → Prop) i S (s : Shared) (Q : Option Value → Shared → Prop), i < n → S < s.heap.objs.size → St i S s.heap →
    (∀ h', St (i + 1) S h' → h'.get? s.heap.objs.size = some { cls := .type "tuple", data := .seq #[(pr i).1, (pr i).2] } → h'.objs.size = s.heap.objs.size + 1 → (∀ b o, b ∉ wr → s.heap.get? b = some o → h'.get? b = some o) → Q (some (.ref s.heap.objs.size)) { s with heap := h' }) →
    wpAny (model prog w) A (pyNext (.ref z)) Q E s
  done : ∀ (A : Around) (E : Value → Shared → Prop) S (s : Shared) (Q : Option Value → Shared → Prop), A.handled = none → St n S s.heap → (∀ h', (∀ b o, b ∉ wr → s.heap.get? b = some o → h'.get? b = some o) → Q none { s with heap := h' }) →
    wpAny (model prog w) A (pyNext (.ref z)) Q E s
/-- the pairs that are out -/
structure Outs (pr : Nat → Value × Value) (lo : Addr) (h : Heap) (as : List Addr) : Prop where
  rise : as.Pairwise (· < ·)
  above : ∀ a ∈ as, lo ≤ a
  pairs : ∀ (j : Nat) (a : Addr), as[j]? = some a → h.get? a = some { cls := .type "tuple", data := .seq #[(pr j).1, (pr j).2] }
section
variable {prog : Program} {w : World} {A : Around} {E : Value → Shared → Prop} {s : Shared} {R : Result → Shared → Prop} {z : Addr} {wr : List Addr} {n : Nat} {pr : Nat → Value × Value} {St : Nat → Addr → Heap → Prop}
theorem Outs.lt {lo : Addr} {h : Heap} {as : List Addr} (g : Outs pr lo h as) {a : Addr} (ha : a ∈ as) : a < h.objs.size := by
  obtain ⟨j, hj⟩ := List.mem_iff_getElem?.mp ha
  exact Heap.lt_size (g.pairs j a hj)
theorem zip_loop (W : PSrc prog w z wr n pr St) {S lo : Addr} (hh : A.handled = none) (wlo : ∀ b ∈ wr, b < lo) (Slo : S < lo) (Sw : S ∉ wr) (hn : n ≤ sizeLine) (res : Value) {h0 : Heap}
    (fin : ∀ h' tk acc c as, (∀ b o, b ≠ S → b ∉ wr → h0.get? b = some o → h'.get? b = some o) → h'.get? S = some { cls := .type "list", dict := none, data := .seq acc c, slots := #[] } → as.length = n → Outs pr lo h' as → acc.toList = as.map Value.ref →
      R (.ok (.ret res)) { s with heap := h', toks := tk }) :
    ∀ (m i : Nat) (h : Heap) (tk c : Nat) (acc : Array Value) (as : List Addr), n - i = m → i ≤ n → St i S h → (∀ b o, b ≠ S → b ∉ wr → h0.get? b = some o → h.get? b = some o) → h.get? S = some { cls := .type "list", dict := none, data := .seq acc c, slots := #[] } →
      acc.toList = as.map Value.ref → as.length = i → Outs pr lo h as → lo ≤ h.objs.size → codeAny (model prog w) A (.builtin "list.extend.loop" ⟨[.ref S, .ref z, res], []⟩) R { s with heap := h, toks := tk } := by
  intro m
  induction m with
  | zero =>
    intro i h tk c acc as e1 e2 st kp hS ha hl g hlo
    have ein : i = n := by omega
    subst ein
    refine codeAny_builtin PySem.F.entry_extend_loop ?_
    rw [Around.under_plainId PySem.F.plain_extend_loop _]
    show wpAny _ A.in1 (pyNext (.ref z) >>= _) _ _ _
    refine wpAny_bind (W.done A.in1 _ S { s with heap := h, toks := tk } _ hh st fun h' k => wpAny_pure ?_)
    exact fin h' tk acc c as (fun b o n1 n2 e => k b o n2 (kp b o n1 n2 e)) (k S _ Sw hS) hl ⟨g.rise, g.above, fun j a hj => k a _ (fun q => absurd (wlo a q) (Nat.not_lt.mpr (g.above a (List.mem_of_getElem? hj)))) (g.pairs j a hj)⟩ ha
  | succ m ih =>
    intro i h tk c acc as e1 e2 st kp hS ha hl g hlo
    have lt : i < n := by omega
    have sz : acc.size = i := by rw [← Array.length_toList, ha, List.length_map, hl]
    refine codeAny_builtin PySem.F.entry_extend_loop ?_
    rw [Around.under_plainId PySem.F.plain_extend_loop _]
    show wpAny _ A.in1 (pyNext (.ref z) >>= _) _ _ _
    have Slt : S < h.objs.size := Heap.lt_size hS
    refine wpAny_bind (W.item A.in1 _ i S { s with heap := h, toks := tk } _ lt Slt st fun h' st' tup one k => ?_)
    have hS' : h'.get? S = some { cls := .type "list", dict := none, data := .seq acc c, slots := #[] } := k S _ Sw hS
    have tup' : h'.get? h.objs.size = some { cls := .type "tuple", data := .seq #[(pr i).1, (pr i).2] } := tup
    have one' : h'.objs.size = h.objs.size + 1 := one
    have nS : h.objs.size ≠ S := Nat.ne_of_gt Slt
    have off : ∀ b o, b ≠ S → h'.get? b = some o → (h'.update S (Obj.mapSeq (·.push (Value.ref h.objs.size)))).get? b = some o := fun b o nb e => (Heap.get?_update_other _ _ (Ne.symm nb)).trans e
    show wpAny _ A.in1 (updateSeq S (·.push (Value.ref h.objs.size)) >>= _) _ _ _
    refine wpAny_bind ?_
    refine wpAny_updateSeq hS' rfl (wpAny_pure ⟨plainId_quiet PySem.F.plain_extend_loop _, ?_⟩) (by rw [sz]; omega) (by show (acc.push (Value.ref h.objs.size)).size ≤ sizeLine + 1; rw [Array.size_push, sz]; omega)
    refine ih (i + 1) _ tk _ (acc.push (Value.ref h.objs.size)) (as ++ [h.objs.size]) (by omega) lt (W.keep _ _ _ _ st' off) (fun b o n1 n2 e => off b o n1 (k b o n2 (kp b o n1 n2 e))) (Heap.get?_update_self _ hS' rfl)
      (by rw [Array.toList_push, ha, List.map_append]; rfl) (by rw [List.length_append, hl]; rfl) ⟨?_, ?_, ?_⟩ ?_
    · refine List.pairwise_append.mpr ⟨g.rise, List.pairwise_singleton _ _, ?_⟩
      intro a q b q'
      obtain rfl := List.mem_singleton.mp q'
      exact g.lt q
    · intro a q
      rcases List.mem_append.mp q with q | q
      · exact g.above a q
      · obtain rfl := List.mem_singleton.mp q
        exact hlo
    · intro j b hj
      by_cases jl : j < as.length
      · rw [List.getElem?_append_left jl] at hj
        have ab := g.above b (List.mem_of_getElem? hj)
        exact off b _ (Nat.ne_of_gt (Nat.lt_of_lt_of_le Slo ab)) (k b _ (fun q => absurd (wlo b q) (Nat.not_lt.mpr ab)) (g.pairs j b hj))
      · rw [List.getElem?_append_right (by omega)] at hj
        have j0 : j - as.length = 0 := by
          cases q : j - as.length with
          | zero => rfl
          | succ r => rw [q] at hj; simp at hj
        have ej : j = i := by omega
        rw [j0] at hj
        obtain rfl : h.objs.size = b := Option.some.inj hj
        rw [ej]
        exact off _ _ nS tup'
    · have e : (h'.update S (Obj.mapSeq (·.push (Value.ref h.objs.size)))).get? h.objs.size = _ := off _ _ nS tup'
      exact Nat.le_trans hlo (Nat.le_of_lt (Heap.lt_size e))
theorem nolen_zip : typeLookup (.type "zip") "__len__" = pure none := by rw [typeLookup_type, builtinLookup_eq_fast]; kernel_rfl
theorem nohint_zip : typeLookup (.type "zip") "__length_hint__" = pure none := by rw [typeLookup_type, builtinLookup_eq_fast]; kernel_rfl
/-- the list's end behind the call -/
def ListOut (n : Nat) (pr : Nat → Value × Value) (wr : List Addr) (lo : Addr) (s : Shared) (Q : Value → Shared → Prop) : Prop :=
  ∀ h' tk acc c as, (∀ b o, b ∉ wr → s.heap.get? b = some o → h'.get? b = some o) → h'.get? s.heap.objs.size = some { cls := .type "list", dict := none, data := .seq acc c, slots := #[] } → as.length = n → Outs pr lo h' as → acc.toList = as.map Value.ref →
    Q (.ref s.heap.objs.size) { s with heap := h', toks := tk }
theorem call_list_zip {Q : Value → Shared → Prop} (W : PSrc prog w z wr n pr St) (hh : A.handled = none) (st : ∀ h', (∀ b o, s.heap.get? b = some o → h'.get? b = some o) → St 0 s.heap.objs.size h') (wlt : ∀ b ∈ wr, b < s.heap.objs.size) (zlt : z < s.heap.objs.size) (hn : n ≤ sizeLine)
    (q : ListOut n pr wr (s.heap.objs.size + 1) s Q) : wpAny (model prog w) A (call (.type "list") [.ref z]) Q E s := by
  refine callType_codes (Q₁ := fun obj s' => obj = .ref s.heap.objs.size ∧ s' = { s with heap := s.heap.push { cls := .type "list", data := .seq #[] } }) PySem.F.called_list (PySem.F.typeCall_list_1 _) PySem.F.entry_list_init (code_list_new _ ⟨rfl, rfl⟩) ?_
  rintro obj s' ⟨rfl, rfl⟩
  have at0 : (s.heap.push { cls := .type "list", data := .seq #[] }).get? s.heap.objs.size = some { cls := .type "list", data := .seq #[] } := Heap.get?_push_size _ rfl
  refine ⟨⟨_, at0, rfl⟩, PySem.F.args_list_init_2 _ _, ?_⟩
  show wpAny _ A.in1.in1 (do let old ← Builtin.List.listItems (.ref s.heap.objs.size); Builtin.List.listUpdate (.ref s.heap.objs.size) (fun _ => #[]); letGo old.toList.reverse; Builtin.List.listExtendWith (.ref s.heap.objs.size) (.ref z) .none) _ _ _
  refine wpAny_bind ?_
  unfold Builtin.List.listItems
  refine wpAny_bind (wpAny_seqItems at0 rfl (wpAny_pure ?_))
  show wpAny _ A.in1.in1 (updateSeq s.heap.objs.size (fun _ => #[]) >>= fun _ => letGo (#[] : Array Value).toList.reverse >>= fun _ => Builtin.List.listExtendWith (.ref s.heap.objs.size) (.ref z) .none) _ _ _
  refine wpAny_bind (wpAny_updateSeq at0 rfl (wpAny_bind (wpAny_letGo ?_)))
  have at1 := Heap.get?_update_self (Obj.mapSeq (fun _ => (#[] : Array Value))) at0 rfl
  have k1 : ∀ b o, s.heap.get? b = some o → ((s.heap.push { cls := .type "list", data := .seq #[] }).update s.heap.objs.size (Obj.mapSeq (fun _ => (#[] : Array Value)))).get? b = some o :=
    fun b o e => (Heap.get?_update_other _ _ (Nat.ne_of_gt (Heap.lt_size e))).trans (Heap.get?_push_of_some _ e)
  have st1 := st _ k1
  have zz : (Value.type "zip" == Value.type "list") = false := by decide
  have zt : (Value.type "zip" == Value.type "tuple") = false := by decide
  have nsame : Builtin.List.listSameRef (.ref s.heap.objs.size) (.ref z) = false := by simp [Builtin.List.listSameRef, Nat.ne_of_gt zlt]
  unfold Builtin.List.listExtendWith
  refine wpAny_bind (wpAny_typeOf (W.type 0 _ { s with heap := (s.heap.push { cls := .type "list", data := .seq #[] }).update s.heap.objs.size (Obj.mapSeq (fun _ => (#[] : Array Value))) } st1) ?_)
  simp only [nsame, zz, zt, Bool.or_false, Bool.false_eq_true, if_false]
  refine wpAny_bind (W.self _ _ 0 _ _ _ st1 (wpAny_bind (wpAny_holding ?_)))
  have isz := W.type 0 _ { s with heap := (s.heap.push { cls := .type "list", data := .seq #[] }).update s.heap.objs.size (Obj.mapSeq (fun _ => (#[] : Array Value))) } st1
  unfold Builtin.List.listLengthHint
  refine wpAny_bind (wpAny_specialOf isz nolen_zip ?_)
  show wpAny _ A.in1.in1 (specialOf (Value.ref z) (Str.ofString "__length_hint__") >>= _) _ _ _
  refine wpAny_bind (wpAny_specialOf isz nohint_zip (wpAny_pure ?_))
  show wpAny _ A.in1.in1 (rule "list.extend.makes-room" >>= fun _ => Builtin.List.listTouch (.ref s.heap.objs.size) >>= fun _ => again (.builtin "list.extend.loop" ⟨[.ref s.heap.objs.size, .ref z, .none], []⟩)) _ _ _
  refine wpAny_bind (wpAny_rule (wpAny_bind ?_))
  show wpAny _ A.in1.in1 (updateSeq s.heap.objs.size (·.push .none) >>= fun _ => updateSeq s.heap.objs.size (·.pop)) _ _ _
  refine wpAny_bind (wpAny_updateSeq at1 rfl ?_)
  have at2 := Heap.get?_update_self (Obj.mapSeq (·.push Value.none)) at1 rfl
  refine wpAny_updateSeq (hz := by seq_fits) at2 rfl ?_
  have at3 := Heap.get?_update_self (Obj.mapSeq (·.pop)) at2 rfl
  have k3 : ∀ b o, s.heap.get? b = some o → ((((s.heap.push { cls := .type "list", data := .seq #[] }).update s.heap.objs.size (Obj.mapSeq (fun _ => (#[] : Array Value)))).update s.heap.objs.size (Obj.mapSeq (·.push Value.none))).update s.heap.objs.size (Obj.mapSeq (·.pop))).get? b = some o := by
    intro b o e
    have nb := Nat.ne_of_gt (Heap.lt_size e)
    exact (Heap.get?_update_other _ _ nb).trans ((Heap.get?_update_other _ _ nb).trans (k1 b o e))
  have big : s.heap.objs.size + 1 ≤ ((((s.heap.push { cls := .type "list", data := .seq #[] }).update s.heap.objs.size (Obj.mapSeq (fun _ => (#[] : Array Value)))).update s.heap.objs.size (Obj.mapSeq (·.push Value.none))).update s.heap.objs.size (Obj.mapSeq (·.pop))).objs.size := Heap.lt_size at3
  refine wpAny_pure ⟨plainId_quiet F.plain_extend_loop _, ?_⟩
  refine zip_loop (s := s) (A := A.in1) W (S := s.heap.objs.size) (lo := s.heap.objs.size + 1) (h0 := s.heap) hh (fun b q => Nat.lt_succ_of_lt (wlt b q)) (Nat.lt_succ_self _) (fun q => absurd (wlt _ q) (Nat.lt_irrefl _)) hn .none ?_ n 0 _ s.toks _ #[] [] rfl (Nat.zero_le _) (st _ k3) (fun b o _ _ e => k3 b o e) at3 rfl rfl ⟨List.Pairwise.nil, fun _ q => (nomatch q), fun j a q => by simp at q⟩ big
  intro h' tk acc c as kp hS hl g ha
  exact ⟨rfl, q h' tk acc c as (fun b o n2 e => kp b o (Nat.ne_of_lt (Heap.lt_size e)) n2 e) hS hl g ha⟩
end

theorem psrc_lists {prog : Program} {w : World} {z TI TO i1 i2 l1 l2 : Addr} (D : ZipApart z TI TO i1 i2 l1 l2) (xs ys : Array Value) (hn : xs.size = ys.size) : PSrc prog w z [z, TO, i1, i2] xs.size (fun i => (xs.getD i .none, ys.getD i .none))
    (fun i S h => IsPair h TI (.ref i1) (.ref i2) ∧ h.IsListIter i1 l1 i ∧ h.IsListIter i2 l2 i ∧ h.IsList l1 xs ∧ h.IsList l2 ys ∧ (S ≠ z ∧ S ≠ TI ∧ S ≠ TO ∧ S ≠ i1 ∧ S ≠ i2 ∧ S ≠ l1 ∧ S ≠ l2) ∧
      ((IsZip h z TI TO .none ∧ ∃ a b, IsPair h TO a b) ∨ ∃ T f oT, IsZipHeld h z TI TO T f ∧ h.get? T = some oT ∧ T ≠ z ∧ T ≠ i1 ∧ T ≠ i2 ∧ T ≠ S)) where
  type := by
    rintro i S s ⟨_, _, _, _, _, _, ⟨hz, _⟩ | ⟨T, f, oT, hz, _⟩⟩
    · exact ⟨_, hz, rfl⟩
    · exact ⟨_, hz, rfl⟩
  self := by
    rintro A E i S s Q ⟨_, _, _, _, _, _, ⟨hz, _⟩ | ⟨T, f, oT, hz, _⟩⟩ q
    · exact wpAny_pyIter_zip hz q
    · have isz : s.TypeIs (.ref z) "zip" := ⟨_, hz, rfl⟩
      exact wpAny_pyIter_slot isz F.slot_zip_iter (wpAny_call_entry F.slot_zip_iter isz F.entry_zip_iter (wpAny_pure ⟨_, rfl, "zip", _, isz, F.slot_zip_next.lookup, q⟩) (F.args_zip_iter_1 _))
  keep := by
    rintro i S h h' ⟨p, a1, a2, t1, t2, ⟨n1, n2, n3, n4, n5, n6, n7⟩, hz⟩ k
    refine ⟨k _ _ n2.symm p, a1.at fun o e => k _ o n4.symm e, a2.at fun o e => k _ o n5.symm e, t1.at fun o e => k _ o n6.symm e, t2.at fun o e => k _ o n7.symm e, ⟨n1, n2, n3, n4, n5, n6, n7⟩, ?_⟩
    rcases hz with ⟨hz, a, b, ho⟩ | ⟨T, f, oT, hz, hT, r1, r2, r3, r4⟩
    · exact .inl ⟨k _ _ n1.symm hz, a, b, k _ _ n3.symm ho⟩
    · exact .inr ⟨T, f, oT, k _ _ n1.symm hz, k _ _ r4 hT, r1, r2, r3, r4⟩
  item := by
    rintro A E i S s Q lt Slt ⟨p, a1, a2, t1, t2, ns, hz⟩ q
    have ex : xs[i]? = some (xs.getD i .none) := by simp [Array.getD, lt]
    have ey : ys[i]? = some (ys.getD i .none) := by
      have : i < ys.size := by omega
      simp [Array.getD, this]
    have new : ∀ {b o}, s.heap.get? b = some o → s.heap.objs.size ≠ b := fun e => Nat.ne_of_gt (Heap.lt_size e)
    have ni1 : s.heap.objs.size ≠ i1 := let ⟨_, e, _⟩ := a1; new e
    have ni2 : s.heap.objs.size ≠ i2 := let ⟨_, e, _⟩ := a2; new e
    rcases hz with ⟨hz, a, b, ho⟩ | ⟨T, f, oT, hz, hT, r1, r2, r3, r4⟩
    · refine wpAny_pyNext_zip_item D hz p ho a1 a2 t1 t2 ex ey fun h' c1 c2 c3 c4 c5 c6 k => ?_
      refine q h' ⟨k _ _ D.TIz D.TITO D.TIi1 D.TIi2 p, c3, c4, t1.at fun o e => k _ o D.l1z D.l1TO D.l1i1 D.l1i2 e, t2.at fun o e => k _ o D.l2z D.l2TO D.l2i1 D.l2i2 e, ns, .inr ⟨s.heap.objs.size, false, _, c1, c5, new hz, ni1, ni2, Nat.ne_of_gt Slt⟩⟩ c5 c6 fun b o nb e => ?_
      simp only [List.mem_cons, List.not_mem_nil, or_false, not_or] at nb
      exact k b o nb.1 nb.2.1 nb.2.2.1 nb.2.2.2 e
    · refine wpAny_pyNext_zip_item_held D hz hT p a1 a2 t1 t2 ex ey fun h' c1 c3 c4 c5 c6 k => ?_
      refine q h' ⟨k _ _ D.TIz D.TIi1 D.TIi2 p, c3, c4, t1.at fun o e => k _ o D.l1z D.l1i1 D.l1i2 e, t2.at fun o e => k _ o D.l2z D.l2i1 D.l2i2 e, ns, .inr ⟨T, true, oT, c1, k _ _ r1 r2 r3 hT, r1, r2, r3, r4⟩⟩ c5 c6 fun b o nb e => ?_
      simp only [List.mem_cons, List.not_mem_nil, or_false, not_or] at nb
      exact k b o nb.1 nb.2.2.1 nb.2.2.2 e
  done := by
    rintro A E S s Q hh ⟨p, a1, a2, t1, t2, ns, hz⟩ q
    have ex : xs[xs.size]? = none := by simp
    rcases hz with ⟨hz, a, b, ho⟩ | ⟨T, f, oT, hz, hT, r1, r2, r3, r4⟩
    · refine wpAny_pyNext_zip_end hh D hz p ho a1 a2 t1 t2 (.inl ex) fun h' k => q h' fun b o nb e => ?_
      simp only [List.mem_cons, List.not_mem_nil, or_false, not_or] at nb
      exact k b o nb.1 nb.2.1 nb.2.2.1 nb.2.2.2 e
    · refine wpAny_pyNext_zip_end_held hh D hz hT p a1 a2 t1 t2 (.inl ex) fun h' k => q h' fun b o nb e => ?_
      simp only [List.mem_cons, List.not_mem_nil, or_false, not_or] at nb
      exact k b o nb.1 nb.2.2.1 nb.2.2.2 e

theorem psrc_tuples {prog : Program} {w : World} {z TI TO i1 i2 l1 l2 : Addr} (D : ZipApart z TI TO i1 i2 l1 l2) (xs ys : Array Value) (hn : xs.size = ys.size) : PSrc prog w z [z, TO, i1, i2] xs.size (fun i => (xs.getD i .none, ys.getD i .none))
    (fun i S h => IsPair h TI (.ref i1) (.ref i2) ∧ h.IsTupleIter i1 l1 i ∧ h.IsTupleIter i2 l2 i ∧ h.IsTuple l1 xs ∧ h.IsTuple l2 ys ∧ (S ≠ z ∧ S ≠ TI ∧ S ≠ TO ∧ S ≠ i1 ∧ S ≠ i2 ∧ S ≠ l1 ∧ S ≠ l2) ∧
      ((IsZip h z TI TO .none ∧ ∃ a b, IsPair h TO a b) ∨ ∃ T f oT, IsZipHeld h z TI TO T f ∧ h.get? T = some oT ∧ T ≠ z ∧ T ≠ i1 ∧ T ≠ i2 ∧ T ≠ S)) where
  type := by
    rintro i S s ⟨_, _, _, _, _, _, ⟨hz, _⟩ | ⟨T, f, oT, hz, _⟩⟩
    · exact ⟨_, hz, rfl⟩
    · exact ⟨_, hz, rfl⟩
  self := by
    rintro A E i S s Q ⟨_, _, _, _, _, _, ⟨hz, _⟩ | ⟨T, f, oT, hz, _⟩⟩ q
    · exact wpAny_pyIter_zip hz q
    · have isz : s.TypeIs (.ref z) "zip" := ⟨_, hz, rfl⟩
      exact wpAny_pyIter_slot isz F.slot_zip_iter (wpAny_call_entry F.slot_zip_iter isz F.entry_zip_iter (wpAny_pure ⟨_, rfl, "zip", _, isz, F.slot_zip_next.lookup, q⟩) (F.args_zip_iter_1 _))
  keep := by
    rintro i S h h' ⟨p, a1, a2, t1, t2, ⟨n1, n2, n3, n4, n5, n6, n7⟩, hz⟩ k
    refine ⟨k _ _ n2.symm p, a1.at fun o e => k _ o n4.symm e, a2.at fun o e => k _ o n5.symm e, t1.at fun o e => k _ o n6.symm e, t2.at fun o e => k _ o n7.symm e, ⟨n1, n2, n3, n4, n5, n6, n7⟩, ?_⟩
    rcases hz with ⟨hz, a, b, ho⟩ | ⟨T, f, oT, hz, hT, r1, r2, r3, r4⟩
    · exact .inl ⟨k _ _ n1.symm hz, a, b, k _ _ n3.symm ho⟩
    · exact .inr ⟨T, f, oT, k _ _ n1.symm hz, k _ _ r4 hT, r1, r2, r3, r4⟩
  item := by
    rintro A E i S s Q lt Slt ⟨p, a1, a2, t1, t2, ns, hz⟩ q
    have ex : xs[i]? = some (xs.getD i .none) := by simp [Array.getD, lt]
    have ey : ys[i]? = some (ys.getD i .none) := by
      have : i < ys.size := by omega
      simp [Array.getD, this]
    have new : ∀ {b o}, s.heap.get? b = some o → s.heap.objs.size ≠ b := fun e => Nat.ne_of_gt (Heap.lt_size e)
    have ni1 : s.heap.objs.size ≠ i1 := let ⟨_, e, _⟩ := a1; new e
    have ni2 : s.heap.objs.size ≠ i2 := let ⟨_, e, _⟩ := a2; new e
    rcases hz with ⟨hz, a, b, ho⟩ | ⟨T, f, oT, hz, hT, r1, r2, r3, r4⟩
    · refine RZ.pyNext_zipT_item D hz p ho a1 a2 t1 t2 ex ey fun h' c1 c2 c3 c4 c5 c6 k => ?_
      refine q h' ⟨k _ _ D.TIz D.TITO D.TIi1 D.TIi2 p, c3, c4, t1.at fun o e => k _ o D.l1z D.l1TO D.l1i1 D.l1i2 e, t2.at fun o e => k _ o D.l2z D.l2TO D.l2i1 D.l2i2 e, ns, .inr ⟨s.heap.objs.size, false, _, c1, c5, new hz, ni1, ni2, Nat.ne_of_gt Slt⟩⟩ c5 c6 fun b o nb e => ?_
      simp only [List.mem_cons, List.not_mem_nil, or_false, not_or] at nb
      exact k b o nb.1 nb.2.1 nb.2.2.1 nb.2.2.2 e
    · refine zt_item D hz hT p a1 a2 t1 t2 ex ey fun h' c1 c3 c4 c5 c6 k => ?_
      refine q h' ⟨k _ _ D.TIz D.TIi1 D.TIi2 p, c3, c4, t1.at fun o e => k _ o D.l1z D.l1i1 D.l1i2 e, t2.at fun o e => k _ o D.l2z D.l2i1 D.l2i2 e, ns, .inr ⟨T, true, oT, c1, k _ _ r1 r2 r3 hT, r1, r2, r3, r4⟩⟩ c5 c6 fun b o nb e => ?_
      simp only [List.mem_cons, List.not_mem_nil, or_false, not_or] at nb
      exact k b o nb.1 nb.2.2.1 nb.2.2.2 e
  done := by
    rintro A E S s Q hh ⟨p, a1, a2, t1, t2, ns, hz⟩ q
    have ex : xs[xs.size]? = none := by simp
    rcases hz with ⟨hz, a, b, ho⟩ | ⟨T, f, oT, hz, hT, r1, r2, r3, r4⟩
    · refine RZ.pyNext_zipT_end hh D hz p ho a1 a2 t1 t2 (.inl ex) fun h' k => q h' fun b o nb e => ?_
      simp only [List.mem_cons, List.not_mem_nil, or_false, not_or] at nb
      exact k b o nb.1 nb.2.1 nb.2.2.1 nb.2.2.2 e
    · refine zt_end hh D hz hT p a1 t1 ex fun h' k => q h' fun b o nb e => ?_
      simp only [List.mem_cons, List.not_mem_nil, or_false, not_or] at nb
      exact k b o nb.1 nb.2.2.1 nb.2.2.2 e

/-! ### the rule -/
def putP : Hp → List Addr → List (V × V) → Hp
  | H, a :: as, p :: ps => putP (upd H a (.tup [p.1, p.2])) as ps
  | H, _, _ => H
theorem putP_off {b : Addr} : ∀ (as : List Addr) (ps : List (V × V)) (H : Hp), b ∉ as → putP H as ps b = H b
  | [], _, _, _ => rfl
  | _ :: _, [], _, _ => rfl
  | a :: as, p :: ps, H, h => by
    have h1 : b ∉ as := fun q => h (List.mem_cons_of_mem _ q)
    have h2 : b ≠ a := fun q => h (by rw [q]; exact List.mem_cons_self)
    show putP (upd H a (.tup [p.1, p.2])) as ps b = H b
    rw [putP_off as ps _ h1, upd_ne h2]
theorem putP_at : ∀ (as : List Addr) (ps : List (V × V)) (H : Hp), as.length = ps.length → as.Nodup → Paired (fun (t : Addr) (p : V × V) => putP H as ps t = some (.tup [p.1, p.2])) as ps
  | [], [], _, _, _ => .nil
  | [], _ :: _, _, h, _ => by cases h
  | _ :: _, [], _, h, _ => by cases h
  | a :: as, p :: ps, H, h, hn => by
    obtain ⟨n1, n2⟩ := List.nodup_cons.mp hn
    refine .cons ?_ (putP_at as ps (upd H a (.tup [p.1, p.2])) (Nat.succ.inj h) n2)
    show putP (upd H a (.tup [p.1, p.2])) as ps a = some (.tup [p.1, p.2])
    rw [putP_off as ps _ n1, upd_same]
/-- behind list(zip(..)): a new list of new pairs -/
def ZipEnd (H : Hp) (Q : VK) (xs ys : List V) : Prop := ∀ (H' : Hp) (l : Addr) (ts : List Addr), Same H H' → H l = none → H' l = some (.lst (ts.map V.ref)) → Paired (fun (t : Addr) (p : V × V) => H' t = some (.tup [p.1, p.2])) ts (xs.zip ys) → Q (.ref l) H'
section
variable {X : Cx} {pins : List (Addr × Obj)} {σ : L2.St} {H : Hp} {s : Shared} {xs ys : List V} {us vs : List Value}
theorem na_not {L : Nat} (h : L + 1 ≤ L) : False := by omega
theorem na_le {n L t : Nat} (h : n ≤ L) (g : L + 1 ≤ t) : n ≤ t := by omega
theorem na_ne {b n L : Nat} (h : b < n) (g : n ≤ L) : b ≠ L := by omega
theorem na_out {b n L : Nat} (h : b < n) (g : n ≤ L) (q : L + 1 ≤ b) : False := by omega
theorem na_ns {n a b : Nat} (la : a < n) (lb : b < n) : n + 5 ≠ n + 4 ∧ n + 5 ≠ n + 2 ∧ n + 5 ≠ n + 3 ∧ n + 5 ≠ n ∧ n + 5 ≠ n + 1 ∧ n + 5 ≠ a ∧ n + 5 ≠ b := by omega
theorem na_wr {n b : Nat} (h : b = n + 4 ∨ b = n + 3 ∨ b = n ∨ b = n + 1) : b < n + 5 := by omega
theorem na_old {n b : Nat} (h : b < n) (q : b = n + 4 ∨ b = n + 3 ∨ b = n ∨ b = n + 1) : False := by omega
theorem getD_of {us : List Value} {j : Nat} {u : Value} (h : us[j]? = some u) : us.toArray.getD j .none = u := by
  obtain ⟨h1, h2⟩ := List.getElem?_eq_some_iff.mp h
  simp [Array.getD, h1, h2]
theorem zip_laid (I : Inv X pins σ H s) (rx : Vals xs us) (ry : Vals ys vs) {h2 : Heap} {tk c L : Nat} {acc : Array Value} {as : List Addr} (k : ∀ b o, s.heap.get? b = some o → h2.get? b = some o) (hL : s.heap.objs.size ≤ L)
    (hS : h2.get? L = some { cls := .type "list", dict := none, data := .seq acc c, slots := #[] }) (hn : as.length = (xs.zip ys).length) (hz : as.length ≤ sizeLine) (g : Outs (fun i => (us.toArray.getD i .none, vs.toArray.getD i .none)) (L + 1) h2 as) (ha : acc.toList = as.map Value.ref) :
    ∃ H' : Hp, Same H H' ∧ H L = none ∧ H' L = some (.lst (as.map V.ref)) ∧ Paired (fun (t : Addr) (p : V × V) => H' t = some (.tup [p.1, p.2])) as (xs.zip ys) ∧ Inv X pins σ H' { s with heap := h2, toks := tk } := by
  have nL : L ∉ as := fun q => na_not (g.above L q)
  have nd : as.Nodup := List.Pairwise.imp (fun {a b} (h : a < b) => Nat.ne_of_lt h) g.rise
  have newT : ∀ t ∈ as, H t = none := fun t q => I.hok.fresh (na_le hL (g.above t q))
  have newL : H L = none := I.hok.fresh hL
  have tups := putP_at as (xs.zip ys) (upd H L (.lst (as.map V.ref))) hn nd
  have off : ∀ b, b ∉ as → b ≠ L → putP (upd H L (.lst (as.map V.ref))) as (xs.zip ys) b = H b := fun b q1 q2 => by rw [putP_off as _ _ q1, upd_ne q2]
  have low : ∀ b o, s.heap.get? b = some o → b ∉ as ∧ b ≠ L := fun b o e => by
    have lt := Heap.lt_size e
    exact ⟨fun q => na_out lt hL (g.above b q), na_ne lt hL⟩
  have kp : Same H (putP (upd H L (.lst (as.map V.ref))) as (xs.zip ys)) := fun b u e => by
    rw [off b (fun q => by rw [newT b q] at e; cases e) (fun q => by rw [q, newL] at e; cases e)]
    exact e
  have atL : putP (upd H L (.lst (as.map V.ref))) as (xs.zip ys) L = some (.lst (as.map V.ref)) := by rw [putP_off as _ _ nL, upd_same]
  refine ⟨_, kp, newL, atL, tups, ?_⟩
  have un : Un (frs X.stack) [] H (putP (upd H L (.lst (as.map V.ref))) as (xs.zip ys)) s.heap h2 := by
    refine ⟨fun b o e _ _ _ => k b o e, fun b o e _ _ _ => ⟨o.slots, k b o e⟩, fun b o e n _ => ?_, fun b o e _ => ⟨o, k b o e⟩, fun b zs e => kp b _ e, fun b o u e => kp b _ e, fun b ps e => ⟨#[], ?_⟩⟩
    · obtain ⟨q1, q2⟩ := low b o e
      rw [off b q1 q2]
      exact n
    · rw [kp b _ e]
      simp
  refine I.call' (ch := []) rfl un (fun b u e => ?_) I.bare fun b q => nomatch q
  by_cases hb : b ∈ as
  · obtain ⟨j, p, e1, e2, e3⟩ := LiI.paired_ix tups hb
    rw [e3] at e
    cases e
    obtain ⟨x1, y1⟩ := List.getElem?_zip_eq_some.mp e2
    obtain ⟨u, eu, ru⟩ := Vals.get rx x1
    obtain ⟨v, ev, rv⟩ := Vals.get ry y1
    have t := g.pairs j b e1
    rw [getD_of eu, getD_of ev] at t
    exact ⟨by show 2 ≤ sizeLine; decide, [u, v], .cons ru (.cons rv .nil), ⟨_, t, rfl, _, rfl⟩⟩
  · by_cases hb2 : b = L
    · rw [hb2] at e ⊢
      rw [atL] at e
      cases e
      refine ⟨by rw [List.length_map]; exact hz, acc.toList, c, by rw [ha]; exact LiI.vals_refs as, ?_⟩
      rw [Array.toArray_toList]
      exact hS
    · rw [off b hb hb2] at e
      exact (I.hok b u e).stay (fun d w _ q => k d w q) (fun d q => kp d _ q) fun d zs q => kp d _ q
def tListZip (K : PySem.W.Frag) (ta : TA) : TE := fun σ H Q => ta σ H fun vs H1 => ∃ (a b : Addr) (xs ys : List V), vs = [.ref a, .ref b] ∧ ((SqL K H1 a xs ∧ SqL K H1 b ys) ∨ (SqT K H1 a xs ∧ SqT K H1 b ys)) ∧ xs.length = ys.length ∧ ZipEnd H1 Q xs ys
theorem pe_listZip {e e2 : Expr} {ta : TA} {p p2 pos pos2 : Pos} (hg : Gl X "list") (hm : X.mg "list" = none) (hgz : Gl X "zip") (hmz : X.mg "zip" = none) (hc : X.calm = true) (hp : PA X [e, e2] ta)
    (hs : starEach [.Call (.Name "zip" p2) [e, e2] [] pos2] X.env = (false, eval (.Call (.Name "zip" p2) [e, e2] [] pos2) X.env) :: starEach [] X.env := by rfl) (hpl : (backTo pos (starEach [] X.env)).any (·.1) = false := by rfl)
    (hs2 : starEach [e, e2] X.env = (false, eval e X.env) :: starEach [e2] X.env := by rfl) (hpl2 : (backTo pos2 (starEach [e2] X.env)).any (·.1) = false := by rfl) :
    PE X (.Call (.Name "list" p) [.Call (.Name "zip" p2) [e, e2] [] pos2] [] pos) (tListZip X.K ta) := by
  refine ⟨fun pins s σ H Q I h => ?_⟩
  refine Call_ (ld_blt I hg hm (show bootBuiltins "list" = some (Value.type "list") by decide +kernel) (PyProof.Rows.callWith_type1 ?_ hs hpl))
  rw [hs]
  show wpAny _ _ (spliced ((false, eval (.Call (.Name "zip" p2) [e, e2] [] pos2) X.env) :: backTo pos (starEach [] X.env))) _ _ s
  refine Calls.spliced_cons ?_
  refine Call_ (ld_blt I hgz hmz PyProof.Rows.boot_zip (PyProof.Rows.callWith_type1 (thn (hp.run pos2 pins s σ H _ I h) fun us s1 ⟨vs, H1, I1, r1, q1⟩ => ?_) hs2 hpl2))
  obtain ⟨a, b, xs, ys, ex, hq, hl, q⟩ := q1
  subst ex
  cases r1 with
  | cons r rr =>
    cases rr with
    | cons r' rr =>
      cases rr
      cases r
      cases r'
      rcases hq with ⟨hx, hy⟩ | ⟨hx, hy⟩
      · obtain ⟨ia, rv, p1, z1⟩ := I1.list hx
        obtain ⟨ib, rw', p3, _⟩ := I1.list hy
        have eq : ia.toArray.size = ib.toArray.size := by simp only [List.size_toArray]; rw [← rv.length, ← rw'.length]; exact hl
        refine call_zip_2 p1.isList p3.isList fun h' hz hTI hTO h1 h2 hsz hk => Calls.spliced_nil ?_
        refine call_list_zip (s := { s1 with heap := h' }) (psrc_lists (PySem.W.ktu_apart s1.heap.objs.size a b p1.lt p3.lt) ia.toArray ib.toArray eq) (I1.ok.hd hc) ?_ ?_ ?_ ?_ ?_
        · intro h2' k
          have la := p1.lt
          have lb := p3.lt
          refine ⟨k _ _ hTI, h1.at fun o e => k _ o e, h2.at fun o e => k _ o e, p1.isList.at fun o e => k _ o (hk _ o e), p3.isList.at fun o e => k _ o (hk _ o e), ?_, .inl ⟨k _ _ hz, _, _, k _ _ hTO⟩⟩
          show h'.objs.size ≠ _ ∧ h'.objs.size ≠ _ ∧ h'.objs.size ≠ _ ∧ h'.objs.size ≠ _ ∧ h'.objs.size ≠ _ ∧ h'.objs.size ≠ _ ∧ h'.objs.size ≠ _
          rw [hsz]
          exact na_ns la lb
        · intro b' hb'
          show b' < h'.objs.size
          rw [hsz]
          simp only [List.mem_cons, List.not_mem_nil, or_false] at hb'
          exact na_wr hb'
        · show s1.heap.objs.size + 4 < h'.objs.size
          rw [hsz]
          exact Nat.lt_succ_self _
        · rw [List.size_toArray, ← rv.length]
          exact z1
        · intro h3 tk acc c as kp hS hlen g ha
          have kk : ∀ b' o, s1.heap.get? b' = some o → h3.get? b' = some o := fun b' o e => kp b' o (fun z => by
            have := Heap.lt_size e
            simp only [List.mem_cons, List.not_mem_nil, or_false] at z
            exact na_old this z) (hk b' o e)
          have lz : (xs.zip ys).length = xs.length := by rw [List.length_zip]; omega
          have la : as.length = xs.length := by rw [hlen, List.size_toArray, ← rv.length]
          obtain ⟨H', c1, c2, c3, c4, J⟩ := zip_laid (tk := tk) I1 rv rw' kk (show s1.heap.objs.size ≤ h'.objs.size by rw [hsz]; exact Nat.le_add_right _ _) hS (by omega) (by omega) g ha
          exact ⟨.ref h'.objs.size, H', J, rfl, q H' _ as c1 c2 c3 c4⟩
      · obtain ⟨ia, rv, p1, z1⟩ := I1.tuple hx
        obtain ⟨ib, rw', p3, _⟩ := I1.tuple hy
        have eq : ia.toArray.size = ib.toArray.size := by simp only [List.size_toArray]; rw [← rv.length, ← rw'.length]; exact hl
        refine RZ.call_zipT p1 p3 fun h' hz hTI hTO h1 h2 hsz hk => Calls.spliced_nil ?_
        refine call_list_zip (s := { s1 with heap := h' }) (psrc_tuples (PySem.W.ktu_apart s1.heap.objs.size a b p1.lt p3.lt) ia.toArray ib.toArray eq) (I1.ok.hd hc) ?_ ?_ ?_ ?_ ?_
        · intro h2' k
          have la := p1.lt
          have lb := p3.lt
          refine ⟨k _ _ hTI, h1.at fun o e => k _ o e, h2.at fun o e => k _ o e, Heap.IsTuple.at p1 fun o e => k _ o (hk _ o e), Heap.IsTuple.at p3 fun o e => k _ o (hk _ o e), ?_, .inl ⟨k _ _ hz, _, _, k _ _ hTO⟩⟩
          show h'.objs.size ≠ _ ∧ h'.objs.size ≠ _ ∧ h'.objs.size ≠ _ ∧ h'.objs.size ≠ _ ∧ h'.objs.size ≠ _ ∧ h'.objs.size ≠ _ ∧ h'.objs.size ≠ _
          rw [hsz]
          exact na_ns la lb
        · intro b' hb'
          show b' < h'.objs.size
          rw [hsz]
          simp only [List.mem_cons, List.not_mem_nil, or_false] at hb'
          exact na_wr hb'
        · show s1.heap.objs.size + 4 < h'.objs.size
          rw [hsz]
          exact Nat.lt_succ_self _
        · rw [List.size_toArray, ← rv.length]
          exact z1
        · intro h3 tk acc c as kp hS hlen g ha
          have kk : ∀ b' o, s1.heap.get? b' = some o → h3.get? b' = some o := fun b' o e => kp b' o (fun z => by
            have := Heap.lt_size e
            simp only [List.mem_cons, List.not_mem_nil, or_false] at z
            exact na_old this z) (hk b' o e)
          have lz : (xs.zip ys).length = xs.length := by rw [List.length_zip]; omega
          have la : as.length = xs.length := by rw [hlen, List.size_toArray, ← rv.length]
          obtain ⟨H', c1, c2, c3, c4, J⟩ := zip_laid (tk := tk) I1 rv rw' kk (show s1.heap.objs.size ≤ h'.objs.size by rw [hsz]; exact Nat.le_add_right _ _) hS (by omega) (by omega) g ha
          exact ⟨.ref h'.objs.size, H', J, rfl, q H' _ as c1 c2 c3 c4⟩
end
end L3

/-! dicts of kinds that are equal -/
namespace L3
open PySem PySem.Spec PyProof.Rows L2
section
variable {X : Cx} {pins : List (Addr × Obj)} {σ : L2.St} {H : Hp} {s : Shared}
theorem opR_or {f : Value → Value → Sem Value} {r r' : R2} (h : OpR X f r) (h' : OpR X f r') : OpR X f (fun x y H Q => r x y H Q ∨ r' x y H Q) := by
  intro pins s σ H x y v u Q I rx ry q
  rcases q with q | q
  · exact h pins s σ H x y v u Q I rx ry q
  · exact h' pins s σ H x y v u Q I rx ry q
theorem kv_hits (I : Inv X pins σ H s) {A : Around} (hu : A.units + 64 < cLine) {ls : List (Key × V)} {b2 : By} {vb : List (Key × Value)} (rb : KV ls vb) (k2 : ByAt H ls b2) (f2 : ∀ q ∈ b2, q.2.fit 60) :
    ∀ {ks : List (Key × V)} {b1 : By} {va : List (Key × Value)}, KV ks va → ByAt H ks b1 → (∀ q ∈ b1, q.2.fit 60 ∧ lk b2 q.1 = some q.2) → PySem.W.KeqHits A s vb va true
  | _, _, _, .nil, .nil, _ => .nil
  | (key, v) :: ks, (x, k) :: b1, (key', u) :: va, .cons ⟨e1, r1⟩ t1, .cons ⟨e2, g⟩ t2, h => by
    obtain ⟨fk, el⟩ := h _ List.mem_cons_self
    have e1' : key = key' := e1
    have e2' : key = .inr x := e2
    subst e1' e2'
    rcases k2.get x with ⟨_, z⟩ | ⟨v2, k', e3, e4, g'⟩
    · rw [z] at el
      cases el
    · rw [e4] at el
      cases el
      have rr : RelO (some v2) (valueAt vb (.inr x)) := by
        rw [← e3]
        exact rb.val (.inr x)
      obtain ⟨y, hy, ry⟩ := rr.some_of
      obtain ⟨as, ra⟩ := Dp.reads I _ v u g.dp r1
      obtain ⟨bs, rb'⟩ := Dp.reads I _ v2 y g'.dp ry
      obtain ⟨l1, l2⟩ := Kd.lay fk
      have eq := SeqAt.eqAt_reads _ _ A s u y as bs ra rb' l1 l1 (by have : min k.dat.depth k.dat.depth = k.dat.depth := Nat.min_self _; omega)
      rw [Kd.eqv, decide_eq_true rfl] at eq
      exact PySem.W.KeqHits.hit hy eq (kv_hits I hu rb k2 f2 t1 t2 fun q hq => h q (List.mem_cons_of_mem _ hq))
def rBy (r : Bool) : R2 := fun x y H Q => ∃ (a b : Addr) (ks ls : List (Key × V)) (b1 b2 : By), x = .ref a ∧ y = .ref b ∧ H a = some (.dK ks) ∧ H b = some (.dK ls) ∧ ByAt H ks b1 ∧ ByAt H ls b2 ∧ b1.length = b2.length ∧ (∀ q ∈ b1, q.2.fit 60 ∧ lk b2 q.1 = some q.2) ∧ (∀ q ∈ b2, q.2.fit 60) ∧ Q (.bl r) H
theorem op_eqBy (hu : X.A.units + 65 < cLine) : OpR X (compareOp .Eq) (rBy true) := by
  intro pins s σ H x y v u Q I rx ry ⟨a, b, ks, ls, b1, b2, ex, ey, ea, eb, k1, k2, hl, h1, h2, q⟩
  subst ex ey
  obtain rfl : v = Value.ref a := rx
  obtain rfl : u = Value.ref b := ry
  obtain ⟨_, ya, va, ra, da⟩ := (show ObjOk X.prog X.w H s.heap a (.dK ks) from I.hok a _ ea)
  obtain ⟨_, yb, vb, rb, db⟩ := (show ObjOk X.prog X.w H s.heap b (.dK ls) from I.hok b _ eb)
  have lv : va.length = vb.length := by rw [← ra.length, ← rb.length, Paired.length k1, Paired.length k2]; exact hl
  refine PySem.W.keq_eq (knd := mixKind X.prog X.w) (r := true) ya yb da db (by omega) (fun _ => kv_hits I (A := X.A.in1) (by show X.A.units + 1 + 64 < cLine; omega) rb k2 h2 ra k1 h1) ?_
  have e : (va.length == vb.length && true) = true := by simp [lv]
  rw [e]
  exact ⟨.bl true, H, I, rfl, q⟩
theorem op_neBy (hu : X.A.units + 65 < cLine) : OpR X (compareOp .NotEq) (rBy false) := by
  intro pins s σ H x y v u Q I rx ry ⟨a, b, ks, ls, b1, b2, ex, ey, ea, eb, k1, k2, hl, h1, h2, q⟩
  subst ex ey
  obtain rfl : v = Value.ref a := rx
  obtain rfl : u = Value.ref b := ry
  obtain ⟨_, ya, va, ra, da⟩ := (show ObjOk X.prog X.w H s.heap a (.dK ks) from I.hok a _ ea)
  obtain ⟨_, yb, vb, rb, db⟩ := (show ObjOk X.prog X.w H s.heap b (.dK ls) from I.hok b _ eb)
  have lv : va.length = vb.length := by rw [← ra.length, ← rb.length, Paired.length k1, Paired.length k2]; exact hl
  refine PySem.W.keq_ne (knd := mixKind X.prog X.w) (r := true) ya yb da db (by omega) (fun _ => kv_hits I (A := X.A.in1) (by show X.A.units + 1 + 64 < cLine; omega) rb k2 h2 ra k1 h1) ?_
  have e : (!(va.length == vb.length && true)) = false := by simp [lv]
  rw [e]
  exact ⟨.bl false, H, I, rfl, q⟩
end
/-- what is in order names each key once -/
theorem addV_nodup {fs : List Str} (x : Str) (h : fs.Nodup) : (addV fs x).Nodup := by
  unfold addV
  by_cases e : x ∈ fs
  · rw [if_pos e]
    exact h
  · rw [if_neg e]
    exact List.nodup_append.mpr ⟨h, by simp, fun a ha b hb => by rw [List.mem_singleton.mp hb]; intro z; rw [z] at ha; exact e ha⟩
theorem Kd.vs_nodup : ∀ (k : Kd) {fs : List Str}, fs.Nodup → (k.vs fs).Nodup
  | .var x, _, h => addV_nodup x h
  | .con _, _, h => h
  | .app a b, _, h => Kd.vs_nodup b (Kd.vs_nodup a h)
theorem vsL_nodup : ∀ (ks : List Kd) {fs : List Str}, fs.Nodup → (vsL ks fs).Nodup
  | [], _, h => h
  | k :: r, _, h => vsL_nodup r (k.vs_nodup h)
theorem lk_self : ∀ (b : By), (names b).Nodup → ∀ q ∈ b, lk b q.1 = some q.2
  | [], _, q, h => nomatch h
  | p :: r, hn, q, h => by
    obtain ⟨n1, n2⟩ := List.nodup_cons.mp (show (p.1 :: names r).Nodup from hn)
    rcases List.mem_cons.mp h with e | h
    · rw [e]
      exact lk_pos rfl
    · have ne : ¬ p.1 = q.1 := fun z => n1 (by rw [z]; exact List.mem_map.mpr ⟨q, h, rfl⟩)
      rw [lk_neg ne]
      exact lk_self r n2 q h
end L3

/-! how kinds are shown: no dict, not too long -/
namespace L3
open PySem L2
theorem shown_word {x : Str} (w : Wok x) : (PyData.str x).shown.length ≤ 82 := by
  have h := StrLaws.reprText_len x (fun c hc => by have := w.2.2 c hc; omega)
  have e : (PyData.str x).shown = reprText x := by simp only [PyData.shown]
  rw [e]
  have := w.2.1
  omega
theorem shown_var : (PyData.str "var").shown.length ≤ 82 := by decide +kernel
theorem shown_con : (PyData.str "con").shown.length ≤ 82 := by decide +kernel
theorem shown_apply : (PyData.str "apply").shown.length ≤ 82 := by decide +kernel
theorem shown_two (a b : PyData) : (PyData.tuple [a, b]).shown.length ≤ a.shown.length + b.shown.length + 7 := by
  have h := tupleText_len_le [a.shown, b.shown]
  simp only [PyData.shown, PyData.shownAll]
  simp only [List.map_cons, List.map_nil, List.sum_cons, List.sum_nil, List.length_cons, List.length_nil] at h
  omega
theorem shown_three (a b c : PyData) : (PyData.tuple [a, b, c]).shown.length ≤ a.shown.length + b.shown.length + c.shown.length + 9 := by
  have h := tupleText_len_le [a.shown, b.shown, c.shown]
  simp only [PyData.shown, PyData.shownAll]
  simp only [List.map_cons, List.map_nil, List.sum_cons, List.sum_nil, List.length_cons, List.length_nil] at h
  omega
theorem Kd.shown_len : ∀ {k : Kd} {n : Nat}, k.fit n → k.dat.shown.length + 100 ≤ 300 * 2 ^ n
  | .var x, n, h => by
    have h1 := shown_two (.str "var") (.str x)
    have h2 := shown_word (wok_of_var h)
    have h3 := shown_var
    have h4 : 1 ≤ 2 ^ n := Nat.one_le_two_pow
    show (PyData.tuple [.str "var", .str x]).shown.length + 100 ≤ _
    omega
  | .con x, n, h => by
    have h1 := shown_two (.str "con") (.str x)
    have h2 := shown_word (wok_of_con h)
    have h3 := shown_con
    have h4 : 1 ≤ 2 ^ n := Nat.one_le_two_pow
    show (PyData.tuple [.str "con", .str x]).shown.length + 100 ≤ _
    omega
  | .app a b, n, h => by
    obtain ⟨m, rfl, ha, hb⟩ := Kd.fit_app h
    have h1 := shown_three (.str "apply") a.dat b.dat
    have h2 := Kd.shown_len ha
    have h3 := Kd.shown_len hb
    have h4 := shown_apply
    have h5 : 2 ^ (m + 1) = 2 ^ m * 2 := Nat.pow_succ ..
    show (PyData.tuple [.str "apply", a.dat, b.dat]).shown.length + 100 ≤ _
    omega
theorem Kd.show_ok : ∀ k : Kd, k.dat.showable = true ∧ k.dat.hasDict = false
  | .var x => by simp [Kd.dat, PyData.showable, PyData.showableAll, PyData.hasDict, PyData.hasDictAll]
  | .con x => by simp [Kd.dat, PyData.showable, PyData.showableAll, PyData.hasDict, PyData.hasDictAll]
  | .app a b => by
    obtain ⟨h1, h2⟩ := Kd.show_ok a
    obtain ⟨h3, h4⟩ := Kd.show_ok b
    simp [Kd.dat, PyData.showable, PyData.showableAll, PyData.hasDict, PyData.hasDictAll, h1, h2, h3, h4]
theorem kds_show : ∀ {ks : List Kd} {n : Nat}, (∀ k ∈ ks, k.fit n) → PyData.showableAll (ks.map Kd.dat) = true ∧ PyData.hasDictAll (ks.map Kd.dat) = false ∧ PyData.depthAll (ks.map Kd.dat) ≤ n + 1 ∧ ((PyData.shownAll (ks.map Kd.dat)).map (·.length)).sum ≤ ks.length * (300 * 2 ^ n) ∧ (PyData.shownAll (ks.map Kd.dat)).length = ks.length
  | [], n, _ => by simp [PyData.showableAll, PyData.hasDictAll, PyData.depthAll, PyData.shownAll]
  | k :: r, n, h => by
    obtain ⟨h1, h2, h3, h4, h5⟩ := kds_show (ks := r) (n := n) fun y hy => h y (List.mem_cons_of_mem _ hy)
    have hk := h k List.mem_cons_self
    obtain ⟨g1, g2⟩ := Kd.show_ok k
    obtain ⟨g3, g4⟩ := Kd.lay hk
    have g5 := Kd.shown_len hk
    refine ⟨?_, ?_, ?_, ?_, ?_⟩
    · simp [PyData.showableAll, g1, h1]
    · simp [PyData.hasDictAll, g2, h2]
    · simp only [List.map_cons, PyData.depthAll]
      omega
    · have e : (r.length + 1) * (300 * 2 ^ n) = r.length * (300 * 2 ^ n) + 300 * 2 ^ n := Nat.succ_mul ..
      simp only [List.map_cons, PyData.shownAll, List.sum_cons, List.length_cons]
      rw [e]
      generalize r.length * (300 * 2 ^ n) = z at h4 ⊢
      omega
    · simp [PyData.shownAll, h5]
/-- [patterns, kinds] -/
def twoD (ps ks : List Kd) : PyData := .list [.list (ps.map Kd.dat), .list (ks.map Kd.dat)]
theorem twoD_show {ps ks : List Kd} (hp : ∀ k ∈ ps, k.fit 12) (hk : ∀ k ∈ ks, k.fit 12) (lp : ps.length ≤ 4) (lk : ks.length ≤ 4) :
    (twoD ps ks).showable = true ∧ (twoD ps ks).hasDict = false ∧ (twoD ps ks).depth ≤ 60 ∧ (twoD ps ks).shown.length ≤ sizeLine := by
  obtain ⟨a1, a2, a3, a4, a5⟩ := kds_show hp
  obtain ⟨b1, b2, b3, b4, b5⟩ := kds_show hk
  refine ⟨?_, ?_, ?_, ?_⟩
  · simp [twoD, PyData.showable, PyData.showableAll, a1, b1]
  · simp [twoD, PyData.hasDict, PyData.hasDictAll, a2, b2]
  · simp only [twoD, PyData.depth, PyData.depthAll]
    omega
  · have h := listText_len_le [listText (PyData.shownAll (ps.map Kd.dat)), listText (PyData.shownAll (ks.map Kd.dat))]
    have h1 := listText_len_le (PyData.shownAll (ps.map Kd.dat))
    have h2 := listText_len_le (PyData.shownAll (ks.map Kd.dat))
    have c1 : ps.length * (300 * 2 ^ 12) ≤ 4 * (300 * 2 ^ 12) := Nat.mul_le_mul_right _ lp
    have c2 : ks.length * (300 * 2 ^ 12) ≤ 4 * (300 * 2 ^ 12) := Nat.mul_le_mul_right _ lk
    simp only [List.map_cons, List.map_nil, List.sum_cons, List.sum_nil, List.length_cons, List.length_nil] at h
    simp only [twoD, PyData.shown, PyData.shownAll]
    have e := sizeLine_eq
    rw [e]
    omega
end L3

/-! what is sorted is told by what is in it -/
namespace L3
open PySem PySem.Spec PyProof.Rows L2
theorem str_ext {x y : Str} (h : x.cps.toList = y.cps.toList) : x = y := by
  obtain ⟨⟨a⟩⟩ := x
  obtain ⟨⟨b⟩⟩ := y
  have e : a = b := h
  rw [e]
theorem rising_pw : ∀ (l : List Str) (p : Str), risingS p l = true → (p :: l).Pairwise fun a b => a.cps.toList ≤ b.cps.toList
  | [], p, _ => List.pairwise_singleton _ _
  | x :: r, p, h => by
    unfold risingS at h
    rw [Bool.and_eq_true, ltCps_eq] at h
    obtain ⟨h1, h2⟩ := h
    have ih := rising_pw r x h2
    have le : p.cps.toList ≤ x.cps.toList := by
      have : ¬ x.cps.toList < p.cps.toList := by simpa using h1
      exact this
    refine List.pairwise_cons.mpr ⟨fun y hy => ?_, ih⟩
    rcases List.mem_cons.mp hy with e | e
    · rw [e]; exact le
    · exact List.le_trans le ((List.pairwise_cons.mp ih).1 y e)
theorem sorted_pw : ∀ {l : List Str}, sortedS l = true → l.Pairwise fun a b => a.cps.toList ≤ b.cps.toList
  | [], _ => List.Pairwise.nil
  | x :: r, h => rising_pw r x h
theorem sorted_uniq {xs ys : List Str} (p : xs.Perm ys) (a : sortedS xs = true) (b : sortedS ys = true) : xs = ys :=
  List.Perm.eq_of_pairwise (le := fun a b : Str => a.cps.toList ≤ b.cps.toList) (fun x y _ _ h1 h2 => str_ext (List.le_antisymm h1 h2)) (sorted_pw a) (sorted_pw b) p
/-! the size of kinds, words of a script -/
theorem Kd.size_fit : ∀ {k : Kd} {n : Nat}, k.fit n → k.size + 1 ≤ 2 * 2 ^ n
  | .var x, n, _ => by
    have : 1 ≤ 2 ^ n := Nat.one_le_two_pow
    show 1 + 1 ≤ _
    omega
  | .con x, n, _ => by
    have : 1 ≤ 2 ^ n := Nat.one_le_two_pow
    show 1 + 1 ≤ _
    omega
  | .app a b, n, h => by
    obtain ⟨m, rfl, ha, hb⟩ := Kd.fit_app h
    have h1 := Kd.size_fit ha
    have h2 := Kd.size_fit hb
    have h5 : 2 ^ (m + 1) = 2 ^ m * 2 := Nat.pow_succ ..
    show a.size + b.size + 1 + 1 ≤ _
    omega
theorem sizeL_fit {n : Nat} : ∀ {ks : List Kd}, (∀ k ∈ ks, k.fit n) → sizeL ks ≤ ks.length * (2 * 2 ^ n)
  | [], _ => Nat.zero_le _
  | k :: r, h => by
    have h1 := Kd.size_fit (h k List.mem_cons_self)
    have h2 := sizeL_fit (ks := r) fun y hy => h y (List.mem_cons_of_mem _ hy)
    have e : (r.length + 1) * (2 * 2 ^ n) = r.length * (2 * 2 ^ n) + 2 * 2 ^ n := Nat.succ_mul ..
    show k.size + sizeL r ≤ (r.length + 1) * (2 * 2 ^ n)
    rw [e]
    omega
theorem vs_len : ∀ (k : Kd) (fs : List Str), (k.vs fs).length ≤ fs.length + k.size
  | .var x, fs => by
    show (addV fs x).length ≤ fs.length + 1
    unfold addV
    split
    · omega
    · simp
  | .con _, fs => Nat.le_add_right _ _
  | .app a b, fs => by
    have h1 := vs_len a fs
    have h2 := vs_len b (a.vs fs)
    show (b.vs (a.vs fs)).length ≤ fs.length + (a.size + b.size + 1)
    omega
theorem addV_of {ws fs : List Str} {x : Str} (h : x ∈ ws) (hf : ∀ y ∈ fs, y ∈ ws) : ∀ y ∈ addV fs x, y ∈ ws := by
  intro y hy
  unfold addV at hy
  split at hy
  · exact hf y hy
  · rcases List.mem_append.mp hy with q | q
    · exact hf y q
    · rw [List.mem_singleton.mp q]; exact h
theorem Kd.vs_of {ws : List Str} : ∀ {k : Kd} {fs : List Str}, Kd.of ws k → (∀ y ∈ fs, y ∈ ws) → ∀ y ∈ k.vs fs, y ∈ ws
  | .var x, _, h, hf => addV_of h hf
  | .con _, _, _, hf => hf
  | .app a b, fs, h, hf => Kd.vs_of (k := b) h.2 (Kd.vs_of (k := a) h.1 hf)
theorem vsL_of {ws : List Str} : ∀ {ks : List Kd} {fs : List Str}, (∀ k ∈ ks, Kd.of ws k) → (∀ y ∈ fs, y ∈ ws) → ∀ y ∈ vsL ks fs, y ∈ ws
  | [], _, _, hf => hf
  | k :: r, _, h, hf => vsL_of (ks := r) (fun y hy => h y (List.mem_cons_of_mem _ hy)) (Kd.vs_of (h k List.mem_cons_self) hf)
end L3

/-! the package's kinds: variables_of -/
namespace L3
open PySem L2 RT
theorem leaf_cases : ∀ {k q : Kd}, q ∈ k.leaves → (∃ x, q = .var x) ∨ ∃ x, q = .con x
  | .var x, q, h => .inl ⟨x, List.mem_singleton.mp h⟩
  | .con x, q, h => .inr ⟨x, List.mem_singleton.mp h⟩
  | .app a b, q, h => by
    rcases List.mem_append.mp (show q ∈ a.leaves ++ b.leaves from h) with h | h
    · exact leaf_cases h
    · exact leaf_cases h
theorem leafL_cases : ∀ {ks : List Kd} {q : Kd}, q ∈ leavesL ks → (∃ x, q = .var x) ∨ ∃ x, q = .con x
  | [], _, h => nomatch h
  | k :: r, q, h => by
    rcases List.mem_append.mp (show q ∈ k.leaves ++ leavesL r from h) with h | h
    · exact leaf_cases h
    · exact leafL_cases h
theorem vsL_len : ∀ (ks : List Kd) (fs : List Str), (vsL ks fs).length ≤ fs.length + sizeL ks
  | [], _ => Nat.le_refl _
  | k :: r, fs => by
    have h1 := vs_len k fs
    have h2 := vsL_len r (k.vs fs)
    show (vsL r (k.vs fs)).length ≤ fs.length + (k.size + sizeL r)
    omega
theorem sizeL_leaf : ∀ {ks : List Kd}, (∀ q ∈ ks, (∃ x, q = Kd.var x) ∨ ∃ x, q = Kd.con x) → sizeL ks = ks.length
  | [], _ => rfl
  | k :: r, h => by
    have h2 := sizeL_leaf (ks := r) fun q hq => h q (List.mem_cons_of_mem _ hq)
    have h1 : k.size = 1 := by
      rcases h k List.mem_cons_self with ⟨x, rfl⟩ | ⟨x, rfl⟩ <;> rfl
    show k.size + sizeL r = r.length + 1
    omega
def flag (x : Str) : Key × V := (.inr x, .bl true)
theorem flag_put (fs : List Str) (x : Str) : putK (fs.map flag) (.inr x) (.bl true) = (addV fs x).map flag := by
  have e : ((fs.map flag).any fun kv => decide (kv.1 = (.inr x : Key))) = decide (x ∈ fs) := by
    induction fs with
    | nil => rfl
    | cons y r ih =>
      rw [List.map_cons, List.any_cons, ih]
      by_cases h : y = x
      · subst h
        simp [flag]
      · have h2 : ¬ x = y := fun z => h z.symm
        have h3 : ¬ (flag y).1 = (.inr x : Key) := fun z => h (Sum.inr.inj z)
        simp [h2, h3]
  unfold putK addV
  rw [e]
  by_cases h : x ∈ fs
  · rw [if_pos (decide_eq_true h), if_pos h, List.map_map]
    apply List.map_congr_left
    intro y _
    show (if (flag y).1 = (.inr x : Key) then ((flag y).1, V.bl true) else flag y) = flag y
    by_cases h3 : (flag y).1 = (.inr x : Key)
    · rw [if_pos h3]; rfl
    · rw [if_neg h3]
  · rw [if_neg (by rw [decide_eq_false h]; decide), if_neg h, List.map_append]
    rfl
theorem flag_keys (fs : List Str) : ((fs.map flag).map fun kv => kV kv.1) = fs.map V.str := by
  rw [List.map_map]
  rfl
section
variable {P : Program} {w : World} {K : PySem.W.Frag} {mg : Str → Option Value} {base : Heap}
theorem ok_variables {f : Addr} {fd : FuncData} (F : Fun K "variables_of" "variables_of" s_variables_of f fd) (B : Bl mg) (D_leaves_of : KnR P w K mg base 1 "leaves_of" (spStar 0 (spLeaves K))) : FnR P w K mg base CX0 2 f (spStar 0 (spVarsT K)) := by
  refine fn_starK (ps := []) F sc_variables_of (fun _ _ _ _ _ _ us rest hl => ?_) (fun cdv A outer s H vs Q E hr h => ?_)
  · cases us with
    | nil => cases rest <;> rfl
    | cons a r => cases hl
  obtain ⟨l, xs, ks, rfl, h1, h2, h4, k⟩ := h
  have hr_leaves_of := hr
  have hu := hu_of hr
  have lx : xs.length ≤ 100000 := by
    have := sizeL_len ks
    rw [Paired.length h2]
    omega
  have lL := leavesL_size ks
  refine ⟨_, (pss_one (ps_ret (pe_callTy (call_tuple_dK rfl) (by rfl) B.tuple (by decide +kernel) (pa_cons (pe_dc (own := [("leaf", 1)]) rfl sc_variables_of.nd (pi_list (pe_ks1 D_leaves_of hr_leaves_of (pv 0))) (blkOk_by (N := N_variables_of) (sc := (defScope s_variables_of)) (own := [("leaf", 1)]) (by decide +kernel)) (fun _ _ _ _ _ => (pg_name (i := 1) sc_variables_of.nd rfl (Or.inl rfl))) (fun _ _ _ _ _ => (pts_one (pt_cmpR op_eq (pe_ix (show IxR _ (rIxT K) from ix_tup) (pv 1) pe_int (fun _ _ => rfl)) pe_str (nomark _)))) (fun _ _ _ _ _ => (pe_ix (show IxR _ (rIxT K) from ix_tup) (pv 1) pe_int (fun _ _ => rfl))) (fun _ _ _ _ _ => pe_bl)) pa_nil)))), ?_⟩
  refine ⟨_, rfl, l, xs, rfl, .inl h1, [], xs, rfl, rfl, Nat.le_of_lt (size_line (by omega)), fun q hq => ⟨q, xs, ks, rfl, SqT.of upd_same, KdsAt.tups (same_tups (same_new hq)) h2, h4, fun H1 p ls s1 hp g1 g2 => ?_⟩⟩
  have S1 := (same_new hq).trans s1
  refine ⟨p, rfl, ⟨_, SqL.of g1⟩, fun d hd => dc_it walk_list (fun i H' => Same H1 H' ∧ H' d = some (.dK ((vsL ((leavesL ks).take i) []).map flag))) ⟨same_new hd, upd_same⟩ (fun i H' _ h => SqL.of (h.1 _ _ g1)) ?_ ?_⟩
  · rintro i y H2 H3 hi ⟨s2, gd2⟩ ⟨rfl, ey⟩
    obtain ⟨ky, hky, hy⟩ := paired_get g2 ey
    have tk : vsL ((leavesL ks).take (i + 1)) [] = ky.vs (vsL ((leavesL ks).take i) []) := by
      rw [List.take_add_one, hky, vsL_append]
      rfl
    have hy2 := KdAt.tups (same_tups s2) hy
    refine ⟨rfl, ?_⟩
    rcases leafL_cases (List.mem_of_getElem? hky) with ⟨x, rfl⟩ | ⟨x, rfl⟩
    · obtain ⟨a, rfl, ha⟩ := hy2
      refine ⟨_, rfl, _, _, _, _, rfl, rfl, SqT.of ha, rfl, rfl, _, rfl, iT tg_vv ?_⟩
      have ln : (vsL ((leavesL ks).take i) []).length + 1 ≤ 1000000 := by
        have h1 := vsL_len ((leavesL ks).take i) []
        have h2 := sizeL_leaf (ks := (leavesL ks).take i) fun q hq => leafL_cases (List.mem_of_mem_take hq)
        rw [List.length_take] at h2
        simp only [List.length_nil] at h1
        omega
      refine ⟨_, rfl, _, _, _, _, rfl, rfl, SqT.of ha, rfl, _, (.inr x), rfl, gd2, size_line (by rw [List.length_map]; omega), fun b o z => ?_, ?_⟩
      · rw [upd_ne (ne_of_none z hd)]
        exact s2 _ _ z
      · rw [upd_same, flag_put, tk]
        rfl
    · obtain ⟨a, rfl, ha⟩ := hy2
      refine ⟨_, rfl, _, _, _, _, rfl, rfl, SqT.of ha, rfl, rfl, _, rfl, iF tg_cv ?_⟩
      exact ⟨s2, by rw [tk]; exact gd2⟩
  · rintro H' ⟨s2, gd2⟩
    have e : (leavesL ks).take ls.length = leavesL ks := by rw [Paired.length g2, List.take_length]
    rw [e, vsL_leavesL] at gd2
    refine ⟨d, _, rfl, gd2, fun q2 hq2 => ?_⟩
    rw [flag_keys]
    exact k _ _ ((S1.trans s2).trans (same_new hq2)) ((S1.trans s2).free hq2) upd_same
end
end L3

/-! the law's own: to, head_of, count_leaves -/
namespace L3
open PySem L2 RT
section
variable {P : Program} {w : World} {K : PySem.W.Frag} {mg : Str → Option Value} {base : Heap}
abbrev s__law_to : Stmt := topS 16
abbrev N__law_to : List Str := ["_law_kinds", "_law_found", "_law_kind"]
theorem sc__law_to : FnScope N__law_to ["_law_kinds"] (defScope s__law_to) := ⟨rfl, rfl, rfl, by decide +kernel, rfl, by decide +kernel, by decide +kernel⟩
def spLTo (K : PySem.W.Frag) : Sp := fun vs H Q _ => ∃ (l : Addr) (xs : List V) (x : V) (ks : List Kd) (kl : Kd), vs = [.ref l] ∧ SqL K H l (xs ++ [x]) ∧ KdsAt H xs ks ∧ KdAt H x kl ∧
  ∀ (H' : Hp) (v : V), Same H H' → KdAt H' v (ks.foldr arrow kl) → Q v H'
theorem ok_lto {f : Addr} {fd : FuncData} (F : Fun K "_law_to" "_law_to" s__law_to f fd) (D__law_con : Kn P w K mg base 1 "_law_con" ["_law_name", "_law_parts"] (spCon K)) : FnOk P w K mg base CX0 2 f fd ["_law_kinds"] (spLTo K) := by
  refine F.ok sc__law_to (fun vs H Q E h => ?_) (fun cdv A outer s H vs Q E hr h => ?_)
  · obtain ⟨l, xs, x, ks, kl, rfl, _⟩ := h
    rfl
  · obtain ⟨l, xs, x, ks, kl, rfl, h1, h2, h3, k⟩ := h
    have hr__law_con := hr
    refine ⟨_, (pss_cons (ps_set (i := 1) sc__law_to.nd rfl (Or.inl rfl) (pe_ix ix_list (pv 0) (pe_un un_neg pe_int) (fun _ _ => rfl)))
  (pss_cons (ps_for PassesOwn.never rfl (pi_list (pe_revL (pe_slice sl_list (pv 0) po_none (po_some (pe_un un_neg pe_int))))) (pg_name (i := 2) sc__law_to.nd rfl (Or.inl rfl))
  (pss_one (ps_set (i := 1) sc__law_to.nd rfl (Or.inl rfl) (pe_kn D__law_con hr__law_con (pa_cons pe_str (pa_cons (pe_lst (pa_cons (pv 2) (pa_cons (pv 1) pa_nil))) pa_nil))))))
  (pss_one (ps_ret (pv 1))))), ?_⟩
    refine ⟨_, rfl, _, rfl, _, _, _, _, rfl, rfl, h1, atI_last xs x, ?_⟩
    refine ⟨_, rfl, _, rfl, _, rfl, l, xs ++ [x], rfl, h1, fun q hq => ?_⟩
    rw [cut_last]
    have s0 : Same H (upd H q (.lst xs)) := same_new hq
    have g0 : (upd H q (.lst xs)) q = some (.lst xs) := upd_same
    generalize upd H q (.lst xs) = H0 at s0 g0 ⊢
    refine ⟨q, xs, rfl, SqL.of g0, fun q2 hq2 => ?_⟩
    have s1 : Same H (upd H0 q2 (.lst xs.reverse)) := s0.trans (same_new hq2)
    have g1 : (upd H0 q2 (.lst xs.reverse)) q2 = some (.lst xs.reverse) := upd_same
    generalize upd H0 q2 (.lst xs.reverse) = H1 at s1 g1 ⊢
    have pr := paired_rev h2
    refine ⟨q2, rfl, ⟨_, SqL.of g1⟩, for_list (K := K) (a := q2) (xs := xs.reverse) (fun i σ H' => Same H1 H' ∧ ∃ (v : V) (pv : Option V), σ = [some (.ref l), some v, pv] ∧ KdAt H' v ((ks.reverse.take i).foldl (fun acc k => arrow k acc) kl)) ⟨fun _ _ z => z, x, none, rfl, KdAt.tups (same_tups s1) h3⟩ (fun i σ H' _ ⟨s2, _⟩ => SqL.of (s2 _ _ g1)) ?_ ?_⟩
    · rintro i y σ H' hi ⟨s2, v, pv, rfl, hv⟩
      obtain ⟨ky, hky, hyy⟩ := paired_get pr hi
      refine ⟨_, rfl, _, rfl, slz rfl, fun p hp => ?_⟩
      have s3 : Same H' (upd H' p (.lst [y, v])) := same_new hp
      refine ⟨"to", p, [y, v], [ky, (ks.reverse.take i).foldl (fun acc k => arrow k acc) kl], rfl, SqL.of upd_same, .cons (KdAt.tups (same_tups ((s1.trans s2).trans s3)) hyy) (.cons (KdAt.tups (same_tups s3) hv) .nil), fun H2 v2 s4 hv2 => ?_⟩
      refine ⟨(s2.trans s3).trans s4, v2, _, rfl, ?_⟩
      have tk : ks.reverse.take (i + 1) = ks.reverse.take i ++ [ky] := by
        rw [List.take_add_one, hky]
        rfl
      rw [tk, List.foldl_append]
      exact hv2
    · rintro σ H' ⟨s2, v, pv, rfl, hv⟩
      have e : ks.reverse.take xs.reverse.length = ks.reverse := by rw [Paired.length pr, List.take_length]
      rw [e, List.foldl_reverse] at hv
      exact ⟨_, rfl, k _ _ (s1.trans s2) hv⟩
/-! ### head_of -/
def Kd.isApp : Kd → Bool
  | .app _ _ => true
  | _ => false
abbrev s__law_head_of : Stmt := topS 19
abbrev N__law_head_of : List Str := ["_law_kind", "_law_parts"]
theorem sc__law_head_of : FnScope N__law_head_of ["_law_kind"] (defScope s__law_head_of) := ⟨rfl, rfl, rfl, by decide +kernel, rfl, by decide +kernel, by decide +kernel⟩
def spHead (K : PySem.W.Frag) : Sp := fun vs H Q _ => ∃ (v0 : V) (kd : Kd), vs = [v0] ∧ KdAt H v0 kd ∧ kd.size ≤ 100000 ∧
  ∀ (H' : Hp) (q lp : Addr) (v : V) (ps : List V) (kh : Kd) (kps : List Kd), Same H H' → H' q = some (.tup [v, .ref lp]) → KdAt H' v kh → H' lp = some (.lst ps) → KdsAt H' ps kps → kps.foldl Kd.app kh = kd → kh.isApp = false → Q (.ref q) H'
theorem ok_head {f : Addr} {fd : FuncData} (F : Fun K "_law_head_of" "_law_head_of" s__law_head_of f fd) : FnOk P w K mg base CX0 1 f fd ["_law_kind"] (spHead K) := by
  refine F.ok sc__law_head_of (fun vs H Q E h => ?_) (fun cdv A outer s H vs Q E hr h => ?_)
  · obtain ⟨v0, kd, rfl, _⟩ := h
    rfl
  · obtain ⟨v0, kd, rfl, h1, hz, k⟩ := h
    refine ⟨_, (pss_cons (ps_set (i := 1) sc__law_head_of.nd rfl (Or.inl rfl) (pe_lst pa_nil))
  (pss_cons (ps_while PassesOwn.never (pt_cmpR op_eq (pe_ix ix_tup (pv 0) pe_int (fun _ _ => rfl)) pe_str (nomark _))
  (pss_one (ps_par (i := 1) (j := 0) (by rfl) sc__law_head_of.nd rfl rfl (by decide) rfl rfl (pa_cons (pe_op op_cat (pe_lst (pa_cons (pe_ix ix_tup (pv 0) pe_int (fun _ _ => rfl)) pa_nil)) (pv 1)) (pa_cons (pe_ix ix_tup (pv 0) pe_int (fun _ _ => rfl)) pa_nil)) (by rfl))))
  (pss_one (ps_ret (pe_tup (pa_cons (pv 0) (pa_cons (pv 1) pa_nil))))))), ?_⟩
    refine ⟨slz rfl, fun l0 hl0 => ?_⟩
    have s1 : Same H (upd H l0 (.lst [])) := same_new hl0
    refine ⟨fun m σ H' => ∃ (v : V) (lp : Addr) (kh : Kd) (ps : List V) (kps : List Kd), σ = [some v, some (.ref lp)] ∧ Same H H' ∧ KdAt H' v kh ∧ H' lp = some (.lst ps) ∧ KdsAt H' ps kps ∧ kps.foldl Kd.app kh = kd ∧ m = kh.size ∧ kps.length + kh.size ≤ 100000,
      ⟨kd.size, v0, l0, kd, [], [], rfl, s1, KdAt.tups (same_tups s1) h1, upd_same, .nil, rfl, rfl, by simpa using hz⟩, ?_⟩
    rintro m σ H2 ⟨v, lp, kh, ps, kps, rfl, s2, hv, gp, hps, ef, rfl, ln⟩
    have lps := Paired.length hps
    cases kh with
    | app a d =>
      obtain ⟨p, u, z, rfl, hp, ha, hd⟩ := id hv
      refine ⟨_, rfl, _, _, _, _, rfl, rfl, SqT.of hp, rfl, rfl, _, rfl, iT tg_aa ?_⟩
      refine ⟨fun σ' H' => ∃ (v : V) (lp : Addr) (kh : Kd) (ps : List V) (kps : List Kd), σ' = [some v, some (.ref lp)] ∧ Same H H' ∧ KdAt H' v kh ∧ H' lp = some (.lst ps) ∧ KdsAt H' ps kps ∧ kps.foldl Kd.app kh = kd ∧ kh.size < (Kd.app a d).size ∧ kps.length + kh.size ≤ 100000, ?_, ?_⟩
      · rintro σ' H' ⟨v, lp, kh, ps, kps, e1, e2, e3, e4, e5, e6, e7, e8⟩
        exact ⟨kh.size, e7, v, lp, kh, ps, kps, e1, e2, e3, e4, e5, e6, rfl, e8⟩
      · have hd1 := d.size_pos
        have sz : (Kd.app a d).size = a.size + d.size + 1 := rfl
        refine ⟨_, rfl, _, _, _, _, rfl, rfl, SqT.of hp, rfl, slz rfl, fun q hq => ?_⟩
        have s3 : Same H2 (upd H2 q (.lst [z])) := same_new hq
        have gq : (upd H2 q (.lst [z])) q = some (.lst [z]) := upd_same
        generalize upd H2 q (.lst [z]) = H3 at s3 gq ⊢
        refine ⟨_, rfl, _, _, _, _, rfl, rfl, gq, s3 _ _ gp, Nat.le_of_lt (size_line (by rw [List.length_singleton]; omega)), fun r hr' => ?_⟩
        have s4 : Same H2 (upd H3 r (.lst ([z] ++ ps))) := s3.trans (same_new hr')
        refine ⟨_, rfl, _, _, _, _, rfl, rfl, SqT.of (s4 _ _ hp), rfl, _, _, rfl, ?_⟩
        refine ⟨u, r, a, [z] ++ ps, d :: kps, rfl, s2.trans s4, KdAt.tups (same_tups s4) ha, upd_same, .cons (KdAt.tups (same_tups s4) hd) (KdsAt.tups (same_tups s4) hps), ef, by rw [sz]; omega, by rw [sz] at ln; rw [List.length_cons]; omega⟩
    | var x =>
      obtain ⟨p, rfl, hp⟩ := id hv
      refine ⟨_, rfl, _, _, _, _, rfl, rfl, SqT.of hp, rfl, rfl, _, rfl, iF tg_va ?_⟩
      refine ⟨_, rfl, _, rfl, slz rfl, fun q hq => ?_⟩
      have s3 : Same H2 (upd H2 q (.tup [.ref p, .ref lp])) := same_new hq
      exact k _ q lp _ ps (.var x) kps (s2.trans s3) upd_same (KdAt.tups (same_tups s3) hv) (s3 _ _ gp) (KdsAt.tups (same_tups s3) hps) ef rfl
    | con x =>
      obtain ⟨p, rfl, hp⟩ := id hv
      refine ⟨_, rfl, _, _, _, _, rfl, rfl, SqT.of hp, rfl, rfl, _, rfl, iF tg_ca ?_⟩
      refine ⟨_, rfl, _, rfl, slz rfl, fun q hq => ?_⟩
      have s3 : Same H2 (upd H2 q (.tup [.ref p, .ref lp])) := same_new hq
      exact k _ q lp _ ps (.con x) kps (s2.trans s3) upd_same (KdAt.tups (same_tups s3) hv) (s3 _ _ gp) (KdsAt.tups (same_tups s3) hps) ef rfl
/-! ### count_leaves -/
abbrev s__law_count_leaves : Stmt := topS 21
abbrev N__law_count_leaves : List Str := ["_law_kind"]
theorem sc__law_count_leaves : FnScope N__law_count_leaves ["_law_kind"] (defScope s__law_count_leaves) := ⟨rfl, rfl, rfl, by decide +kernel, rfl, by decide +kernel, by decide +kernel⟩
def spCount (n : Nat) : Sp := fun vs H Q _ => ∃ (v : V) (kd : Kd), vs = [v] ∧ KdAt H v kd ∧ kd.fit n ∧ ∀ (H' : Hp), Same H H' → Q (.int (kd.leaves.length : Int)) H'
theorem ok_count_step {n : Nat} {f : Addr} {fd : FuncData} (F : Fun K "_law_count_leaves" "_law_count_leaves" s__law_count_leaves f fd) (D__law_count_leaves : Kn P w K mg base n "_law_count_leaves" ["_law_kind"] (spPrev spCount n)) : FnOk P w K mg base CX0 (n + 1) f fd ["_law_kind"] (spCount n) := by
  refine F.ok sc__law_count_leaves (fun vs H Q E h => ?_) (fun cdv A outer s H vs Q E hr h => ?_)
  · obtain ⟨v, kd, rfl, _⟩ := h
    rfl
  · obtain ⟨v, kd, rfl, h1, h2, k⟩ := h
    have hr__law_count_leaves := hr
    refine ⟨_, (pss_one (ps_ret (pe_ifExp (pt_cmpR op_eq (pe_ix ix_tup (pv 0) pe_int (fun _ _ => rfl)) pe_str (nomark _)) (pe_op op_add (pe_kn D__law_count_leaves hr__law_count_leaves (pa_cons (pe_ix ix_tup (pv 0) pe_int (fun _ _ => rfl)) pa_nil)) (pe_kn D__law_count_leaves hr__law_count_leaves (pa_cons (pe_ix ix_tup (pv 0) pe_int (fun _ _ => rfl)) pa_nil))) pe_int))), ?_⟩
    cases kd with
    | app a b =>
      obtain ⟨m, rfl, ha, hb⟩ := Kd.fit_app h2
      obtain ⟨p, u, z, rfl, hp, hu1, hz1⟩ := h1
      refine ⟨_, rfl, _, _, _, _, rfl, rfl, SqT.of hp, rfl, rfl, _, rfl, iT tg_aa ?_⟩
      refine ⟨_, rfl, _, _, _, _, rfl, rfl, SqT.of hp, rfl, u, a, rfl, hu1, ha, fun H1 s1 => ?_⟩
      refine ⟨_, rfl, _, _, _, _, rfl, rfl, SqT.of (s1 _ _ hp), rfl, z, b, rfl, KdAt.tups (same_tups s1) hz1, hb, fun H2 s2 => ?_⟩
      refine ⟨_, _, rfl, rfl, ?_⟩
      have := k H2 (s1.trans s2)
      have e : (((Kd.app a b).leaves.length : Nat) : Int) = (a.leaves.length : Int) + (b.leaves.length : Int) := by
        show ((a.leaves ++ b.leaves).length : Int) = _
        rw [List.length_append]
        omega
      rw [e] at this
      exact this
    | var x =>
      obtain ⟨p, rfl, hp⟩ := id h1
      refine ⟨_, rfl, _, _, _, _, rfl, rfl, SqT.of hp, rfl, rfl, _, rfl, iF tg_va ?_⟩
      exact k _ (Same.refl _)
    | con x =>
      obtain ⟨p, rfl, hp⟩ := id h1
      refine ⟨_, rfl, _, _, _, _, rfl, rfl, SqT.of hp, rfl, rfl, _, rfl, iF tg_ca ?_⟩
      exact k _ (Same.refl _)
theorem ok_count {f : Addr} {fd : FuncData} (F : Fun K "_law_count_leaves" "_law_count_leaves" s__law_count_leaves f fd) (hm : mg "_law_count_leaves" = some (.ref f)) : ∀ n, FnOk P w K mg base CX0 (n + 1) f fd ["_law_kind"] (spCount n)
  | 0 => ok_count_step F ⟨f, fd, fn_false, hm, F.kp, F.binds fun _ _ _ _ _ _ us hl => match us, hl with | [_], _ => rfl⟩
  | n + 1 => ok_count_step F ⟨f, fd, ok_count F hm n, hm, F.kp, F.binds fun _ _ _ _ _ _ us hl => match us, hl with | [_], _ => rfl⟩
end
end L3

/-! the law's own: made -/
namespace L3
open PySem L2 RT
/-! ### the spine of a kind -/
theorem fold_fit : ∀ {ps : List Kd} {h : Kd} {n : Nat}, (ps.foldl Kd.app h).fit n → h.fit n ∧ ∀ p ∈ ps, ∃ m, n = m + 1 ∧ p.fit m
  | [], _, _, f => ⟨f, fun _ q => nomatch q⟩
  | k :: r, h, n, f => by
    obtain ⟨h1, h2⟩ := fold_fit (ps := r) (h := .app h k) f
    obtain ⟨m, rfl, ha, hb⟩ := Kd.fit_app h1
    refine ⟨Kd.fit_mono (by omega) ha, fun p hp => ?_⟩
    rcases List.mem_cons.mp hp with e | e
    · exact ⟨m, rfl, by rw [e]; exact hb⟩
    · exact h2 p e
theorem fold_two : ∀ {ps : List Kd} {h : Kd}, (ps.foldl Kd.app h).two → h.two ∧ ∀ p ∈ ps, p.two
  | [], _, f => ⟨f, fun _ q => nomatch q⟩
  | k :: r, h, f => by
    obtain ⟨⟨h1, h2, _⟩, h3⟩ := fold_two (ps := r) (h := .app h k) f
    refine ⟨h1, fun p hp => ?_⟩
    rcases List.mem_cons.mp hp with e | e
    · rw [e]; exact h2
    · exact h3 p e
theorem fold_hv : ∀ {ps : List Kd} {h : Kd}, (ps.foldl Kd.app h).hv = h.hv
  | [], _ => rfl
  | k :: r, h => by
    show (r.foldl Kd.app (.app h k)).hv = h.hv
    rw [fold_hv (ps := r)]
    rfl
theorem fold_args : ∀ {ps : List Kd} {h : Kd}, (ps.foldl Kd.app h).args = h.args + ps.length
  | [], _ => rfl
  | k :: r, h => by
    show (r.foldl Kd.app (.app h k)).args = h.args + (r.length + 1)
    rw [fold_args (ps := r)]
    show h.args + 1 + r.length = _
    omega
theorem two_len {ps : List Kd} {x : Str} (h : (ps.foldl Kd.app (.con x)).two) : ps.length ≤ 2 := by
  by_cases e : ps = []
  · rw [e]; decide
  · obtain ⟨ps0, k, rfl⟩ := kds_snoc ps e
    rw [List.foldl_append] at h
    obtain ⟨_, _, h3⟩ := h
    rw [fold_hv, fold_args] at h3
    rcases h3 with h3 | h3
    · cases h3
    · rw [List.length_append, List.length_singleton]
      have : (Kd.con x).args = 0 := rfl
      omega
section
variable {P : Program} {w : World} {K : PySem.W.Frag} {mg : Str → Option Value} {base : Heap}
abbrev s__law_made : Stmt := topS 22
abbrev N__law_made : List Str := ["_law_kind", "_law_head", "_law_parts", "_law_found", "_law_part", "_law_one", "_law_two"]
theorem sc__law_made : FnScope N__law_made ["_law_kind"] (defScope s__law_made) := ⟨rfl, rfl, rfl, by decide +kernel, rfl, by decide +kernel, by decide +kernel⟩
def spMade (K : PySem.W.Frag) (n : Nat) : Sp := fun vs H Q _ => ∃ (v : V) (kd : Kd), vs = [v] ∧ KdAt H v kd ∧ kd.fit n ∧ n ≤ 12 ∧ kd.two ∧ ∀ (H' : Hp) (v' : V), Same H H' → KdAt H' v' kd → Q v' H'
theorem ok_made_step {n : Nat} {f : Addr} {fd : FuncData} (F : Fun K "_law_made" "_law_made" s__law_made f fd) (B : Bl mg) (D_var : Kn P w K mg base 1 "var" ["name"] spVar) (D_con : KnR P w K mg base 2 "con" (spStar 1 (spConT K)))
    (D__law_head_of : Kn P w K mg base 1 "_law_head_of" ["_law_kind"] (spHead K)) (D__law_made : Kn P w K mg base (n + 2) "_law_made" ["_law_kind"] (spPrev (spMade K) n)) : FnOk P w K mg base CX0 (n + 3) f fd ["_law_kind"] (spMade K n) := by
  refine F.ok sc__law_made (fun vs H Q E h => ?_) (fun cdv A outer s H vs Q E hr h => ?_)
  · obtain ⟨v, kd, rfl, _⟩ := h
    rfl
  · obtain ⟨v, kd, rfl, h1, h2, hn, h3, k⟩ := h
    have hr_var : Room 1 _ := hr.mono (by omega)
    have hr_con : Room 2 _ := hr.mono (by omega)
    have hr__law_head_of : Room 1 _ := hr.mono (by omega)
    have hr__law_made := hr
    have szk : kd.size ≤ 100000 := by
      have h1 := Kd.size_fit h2
      have h4 : 2 ^ n ≤ 2 ^ 12 := Nat.pow_le_pow_right (by decide) hn
      omega
    refine ⟨_, (pss_cons (ps_if (pt_cmpR op_eq (pe_ix ix_tup (pv 0) pe_int (fun _ _ => rfl)) pe_str (nomark _))
  (pss_one (ps_ret (pe_kn D_var hr_var (pa_cons (pe_ix ix_tup (pv 0) pe_int (fun _ _ => rfl)) pa_nil))))
  pss_nil)
  (pss_cons (ps_asg (pe_kn D__law_head_of hr__law_head_of (pa_cons (pv 0) pa_nil)) (pg_tup (by rfl) (pgs_cons (pg_name (i := 1) sc__law_made.nd rfl (Or.inl rfl)) (pgs_cons (pg_name (i := 2) sc__law_made.nd rfl (Or.inl rfl)) pgs_nil))))
  (pss_cons (ps_if (pt_cmpR op_eq (pe_ix ix_tup (pv 1) pe_int (fun _ _ => rfl)) pe_str (nomark _))
  (pss_cons (ps_set (i := 3) sc__law_made.nd rfl (Or.inl rfl) (pe_kn D_var hr_var (pa_cons (pe_ix ix_tup (pv 1) pe_int (fun _ _ => rfl)) pa_nil)))
  (pss_cons (ps_for PassesOwn.never rfl (pi_list (pv 2)) (pg_name (i := 4) sc__law_made.nd rfl (Or.inl rfl))
  (pss_one (ps_set (i := 3) sc__law_made.nd rfl (Or.inl rfl) (pe_tup (pa_cons pe_str (pa_cons (pv 3) (pa_cons (pe_kn D__law_made hr__law_made (pa_cons (pv 4) pa_nil)) pa_nil)))))))
  (pss_one (ps_ret (pv 3)))))
  pss_nil)
  (pss_cons (ps_asg (pe_slice sl_list (pe_op op_cat (pv 2) (pe_lst (pa_cons pe_non (pa_cons pe_non pa_nil)))) po_none (po_some pe_int)) (pg_unl (by rfl) (pgs_cons (pg_name (i := 5) sc__law_made.nd rfl (Or.inl rfl)) (pgs_cons (pg_name (i := 6) sc__law_made.nd rfl (Or.inl rfl)) pgs_nil))))
  (pss_cons (ps_if (pt_cmpR op_eq (pe_callB call_len (by rfl) B.len PySem.boot_len (pa_cons (pv 2) pa_nil)) pe_int (nomark _))
  (pss_one (ps_ret (pe_ks D_con hr_con (pa_cons (pe_ix ix_tup (pv 1) pe_int (fun _ _ => rfl)) pa_nil))))
  pss_nil)
  (pss_one (ps_ret (pe_ifExp (pt_cmpR op_eq (pe_callB call_len (by rfl) B.len PySem.boot_len (pa_cons (pv 2) pa_nil)) pe_int (nomark _)) (pe_ks D_con hr_con (pa_cons (pe_ix ix_tup (pv 1) pe_int (fun _ _ => rfl)) (pa_cons (pe_kn D__law_made hr__law_made (pa_cons (pv 5) pa_nil)) pa_nil))) (pe_ks D_con hr_con (pa_cons (pe_ix ix_tup (pv 1) pe_int (fun _ _ => rfl)) (pa_cons (pe_kn D__law_made hr__law_made (pa_cons (pv 5) pa_nil)) (pa_cons (pe_kn D__law_made hr__law_made (pa_cons (pv 6) pa_nil)) pa_nil)))))))))))), ?_⟩
    -- the second part, behind the test for a variable
    by_cases hv : ∃ x, kd = .var x
    · obtain ⟨x, rfl⟩ := hv
      obtain ⟨p, rfl, hp⟩ := id h1
      refine ⟨_, rfl, _, _, _, _, rfl, rfl, SqT.of hp, rfl, rfl, _, rfl, iT tg_vv ?_⟩
      refine ⟨_, rfl, _, _, _, _, rfl, rfl, SqT.of hp, rfl, x, rfl, fun q hq => ?_⟩
      exact k _ _ (same_new hq) ⟨q, rfl, upd_same⟩
    · obtain ⟨p0, xs0, rfl, hp0, ht0⟩ := h1.top
      have e0 : atI xs0 0 = some (.str kd.tag) := atI_nat (j := 0) ht0
      have tg : decide (V.str kd.tag = V.str ("var" : Str)) = false := by
        cases kd with
        | var x => exact absurd ⟨x, rfl⟩ hv
        | con x => exact tg_cv
        | app a b => exact tg_av
      refine ⟨_, rfl, _, _, _, _, rfl, rfl, SqT.of hp0, e0, rfl, _, rfl, iF tg ?_⟩
      refine ⟨_, rfl, .ref p0, kd, rfl, h1, szk, fun H1 q lp v ps kh kps s1 gq hkh gp hps ef na => ?_⟩
      refine ⟨q, _, rfl, SqT.of gq, rfl, _, _, rfl, _, _, rfl, rfl, ?_⟩
      rw [← ef] at h2 h3
      obtain ⟨fh, fps⟩ := fold_fit h2
      obtain ⟨_, tps⟩ := fold_two h3
      cases kh with
      | app a b => cases na
      | var y =>
        obtain ⟨p, rfl, hp⟩ := id hkh
        refine ⟨_, rfl, _, _, _, _, rfl, rfl, SqT.of hp, rfl, rfl, _, rfl, iT tg_vv ?_⟩
        refine ⟨_, rfl, _, _, _, _, rfl, rfl, SqT.of hp, rfl, y, rfl, fun q2 hq2 => ?_⟩
        have s2 : Same H1 (upd H1 q2 (.tup [.str "var", .str y])) := same_new hq2
        have g2 : (upd H1 q2 (.tup [.str "var", .str y])) q2 = _ := upd_same
        generalize upd H1 q2 (.tup [.str "var", .str y]) = H2 at s2 g2 ⊢
        refine ⟨_, rfl, lp, rfl, ⟨_, SqL.of (s2 _ _ gp)⟩, for_list (K := K) (a := lp) (xs := ps) (fun i σ H' => Same H2 H' ∧ ∃ (v : V) (pv v5 v6 : Option V), σ = [some (.ref p0), some (.ref p), some (.ref lp), some v, pv, v5, v6] ∧ KdAt H' v ((kps.take i).foldl Kd.app (.var y))) ⟨fun _ _ z => z, .ref q2, _, _, _, rfl, ⟨q2, rfl, g2⟩⟩ (fun i σ H' _ ⟨s3, _⟩ => SqL.of (s3 _ _ (s2 _ _ gp))) ?_ ?_⟩
        · rintro i z σ H' hi ⟨s3, v, pv, v5, v6, rfl, hv⟩
          obtain ⟨ky, hky, hz⟩ := paired_get hps hi
          obtain ⟨m, rfl, fm⟩ := fps ky (List.mem_of_getElem? hky)
          have tm := tps ky (List.mem_of_getElem? hky)
          refine ⟨_, rfl, _, rfl, z, ky, rfl, KdAt.tups (same_tups (s2.trans s3)) hz, fm, by omega, tm, fun H3 v3 s4 hv3 => ?_⟩
          refine ⟨slz rfl, fun q3 hq3 => ?_⟩
          have s5 : Same H3 (upd H3 q3 (.tup [.str "apply", v, v3])) := same_new hq3
          refine ⟨(s3.trans s4).trans s5, _, _, _, _, rfl, ?_⟩
          have tk : kps.take (i + 1) = kps.take i ++ [ky] := by
            rw [List.take_add_one, hky]
            rfl
          rw [tk, List.foldl_append]
          exact ⟨q3, v, v3, rfl, upd_same, KdAt.tups (same_tups (s4.trans s5)) hv, KdAt.tups (same_tups s5) hv3⟩
        · rintro σ H' ⟨s3, v, pv, v5, v6, rfl, hv⟩
          have e : kps.take ps.length = kps := by rw [Paired.length hps, List.take_length]
          rw [e, ef] at hv
          exact ⟨_, rfl, k _ _ ((s1.trans s2).trans s3) hv⟩
      | con y =>
        have ln := two_len h3
        have lps := Paired.length hps
        obtain ⟨p, rfl, hp⟩ := id hkh
        refine ⟨_, rfl, _, _, _, _, rfl, rfl, SqT.of hp, rfl, rfl, _, rfl, iF tg_cv ?_⟩
        refine ⟨_, rfl, slz rfl, fun q2 hq2 => ?_⟩
        have s2 : Same H1 (upd H1 q2 (.lst [.non, .non])) := same_new hq2
        have g2 : (upd H1 q2 (.lst [.non, .non])) q2 = some (.lst [.non, .non]) := upd_same
        generalize upd H1 q2 (.lst [.non, .non]) = H2 at s2 g2 ⊢
        refine ⟨lp, q2, ps, [.non, .non], rfl, rfl, s2 _ _ gp, g2, Nat.le_of_lt (size_line (by show ps.length + 2 ≤ 1000000; omega)), fun q3 hq3 => ?_⟩
        have s3 : Same H1 (upd H2 q3 (.lst (ps ++ [.non, .non]))) := s2.trans (same_new hq3)
        have g3 : (upd H2 q3 (.lst (ps ++ [.non, .non]))) q3 = some (.lst (ps ++ [.non, .non])) := upd_same
        generalize upd H2 q3 (.lst (ps ++ [.non, .non])) = H3 at s3 g3 ⊢
        refine ⟨_, rfl, q3, _, rfl, SqL.of g3, fun q4 hq4 => ?_⟩
        have s4 : Same H1 (upd H3 q4 (.lst (cutV (ps ++ [.non, .non]) none (some 2)))) := s3.trans (same_new hq4)
        have g4 : (upd H3 q4 (.lst (cutV (ps ++ [.non, .non]) none (some 2)))) q4 = some (.lst (cutV (ps ++ [.non, .non]) none (some 2))) := upd_same
        generalize upd H3 q4 (.lst (cutV (ps ++ [.non, .non]) none (some 2))) = H4 at s4 g4 ⊢
        have S4 := s1.trans s4
        have gp4 := s4 _ _ gp
        have hp4 := s4 _ _ hp
        have hps4 := KdsAt.tups (same_tups s4) hps
        have kk : kps = [] ∨ (∃ k1, kps = [k1]) ∨ ∃ k1 k2, kps = [k1, k2] := by
          match kps, ln with
          | [], _ => exact .inl rfl
          | [k1], _ => exact .inr (.inl ⟨k1, rfl⟩)
          | [k1, k2], _ => exact .inr (.inr ⟨k1, k2, rfl⟩)
          | _ :: _ :: _ :: _, h => simp at h
        have lenT : decide (V.int ((0 : Nat) : Int) = V.int 0) = true := decide_eq_true rfl
        have len1 : decide (V.int ((1 : Nat) : Int) = V.int 0) = false := by decide +kernel
        have len11 : decide (V.int ((1 : Nat) : Int) = V.int 1) = true := decide_eq_true rfl
        have len2 : decide (V.int ((2 : Nat) : Int) = V.int 0) = false := by decide +kernel
        have len21 : decide (V.int ((2 : Nat) : Int) = V.int 1) = false := by decide +kernel
        rcases kk with rfl | ⟨k1, rfl⟩ | ⟨k1, k2, rfl⟩
        · cases hps4
          refine ⟨q4, _, rfl, SqL.of g4, rfl, _, _, rfl, _, _, rfl, rfl, ?_⟩
          refine ⟨_, rfl, _, _, rfl, .inl ⟨_, SqL.of gp4, rfl⟩, rfl, _, rfl, iT lenT ?_⟩
          refine ⟨_, rfl, _, _, _, _, rfl, rfl, SqT.of hp4, rfl, [.str y], [], rfl, rfl, slz rfl, fun p5 hp5 => ⟨y, p5, [], [], rfl, SqT.of upd_same, .nil, fun H5 v5 s5 hv5 => ?_⟩⟩
          rw [← ef] at k
          exact k _ _ ((S4.trans (same_new hp5)).trans s5) hv5
        · cases hps4 with
          | @cons u1 _ _ _ r1 t1 =>
          cases t1
          obtain ⟨m, rfl, f1⟩ := fps k1 (by simp)
          have t1 := tps k1 (by simp)
          refine ⟨q4, _, rfl, SqL.of g4, rfl, _, _, rfl, _, _, rfl, rfl, ?_⟩
          refine ⟨_, rfl, _, _, rfl, .inl ⟨_, SqL.of gp4, rfl⟩, rfl, _, rfl, iF len1 ?_⟩
          refine ⟨_, rfl, _, _, rfl, .inl ⟨_, SqL.of gp4, rfl⟩, rfl, _, rfl, iT len11 ?_⟩
          refine ⟨_, rfl, _, _, _, _, rfl, rfl, SqT.of hp4, rfl, _, rfl, u1, k1, rfl, r1, f1, by omega, t1, fun H5 v5 s5 hv5 => ?_⟩
          refine ⟨[.str y], [v5], rfl, rfl, slz rfl, fun p6 hp6 => ⟨y, p6, [v5], [k1], rfl, SqT.of upd_same, .cons (KdAt.tups (same_tups (same_new hp6)) hv5) .nil, fun H6 v6 s6 hv6 => ?_⟩⟩
          rw [← ef] at k
          exact k _ _ (((S4.trans s5).trans (same_new hp6)).trans s6) hv6
        · cases hps4 with
          | @cons u1 _ _ _ r1 t1 =>
          cases t1 with
          | @cons u2 _ _ _ r2 t2 =>
          cases t2
          obtain ⟨m, rfl, f1⟩ := fps k1 (by simp)
          obtain ⟨m', em, f2⟩ := fps k2 (by simp)
          obtain rfl : m = m' := by omega
          have t1 := tps k1 (by simp)
          have t2 := tps k2 (by simp)
          refine ⟨q4, _, rfl, SqL.of g4, rfl, _, _, rfl, _, _, rfl, rfl, ?_⟩
          refine ⟨_, rfl, _, _, rfl, .inl ⟨_, SqL.of gp4, rfl⟩, rfl, _, rfl, iF len2 ?_⟩
          refine ⟨_, rfl, _, _, rfl, .inl ⟨_, SqL.of gp4, rfl⟩, rfl, _, rfl, iF len21 ?_⟩
          refine ⟨_, rfl, _, _, _, _, rfl, rfl, SqT.of hp4, rfl, _, rfl, u1, k1, rfl, r1, f1, by omega, t1, fun H5 v5 s5 hv5 => ?_⟩
          refine ⟨_, rfl, u2, k2, rfl, KdAt.tups (same_tups s5) r2, f2, by omega, t2, fun H6 v6 s6 hv6 => ?_⟩
          refine ⟨[.str y], [v5, v6], rfl, rfl, slz rfl, fun p7 hp7 => ⟨y, p7, [v5, v6], [k1, k2], rfl, SqT.of upd_same, .cons (KdAt.tups (same_tups (s6.trans (same_new hp7))) hv5) (.cons (KdAt.tups (same_tups (same_new hp7)) hv6) .nil), fun H7 v7 s7 hv7 => ?_⟩⟩
          rw [← ef] at k
          exact k _ _ ((((S4.trans s5).trans s6).trans (same_new hp7)).trans s7) hv7
theorem ok_made {f : Addr} {fd : FuncData} (F : Fun K "_law_made" "_law_made" s__law_made f fd) (hm : mg "_law_made" = some (.ref f)) (B : Bl mg) (D1 : Kn P w K mg base 1 "var" ["name"] spVar) (D2 : KnR P w K mg base 2 "con" (spStar 1 (spConT K)))
    (D3 : Kn P w K mg base 1 "_law_head_of" ["_law_kind"] (spHead K)) : ∀ n, FnOk P w K mg base CX0 (n + 3) f fd ["_law_kind"] (spMade K n)
  | 0 => ok_made_step F B D1 D2 D3 ⟨f, fd, fn_false.mono (by decide), hm, F.kp, F.binds fun _ _ _ _ _ _ us hl => match us, hl with | [_], _ => rfl⟩
  | n + 1 => ok_made_step F B D1 D2 D3 ⟨f, fd, ok_made F hm B D1 D2 D3 n, hm, F.kp, F.binds fun _ _ _ _ _ _ us hl => match us, hl with | [_], _ => rfl⟩
end
end L3

/-! the law's own: shuffled -/
namespace L3
open PySem L2 RT
theorem eraseIdx_str : ∀ (ws : List Str) (j : Nat), (ws.map V.str).eraseIdx j = (ws.eraseIdx j).map V.str
  | [], _ => rfl
  | _ :: _, 0 => rfl
  | x :: r, j + 1 => by
    show V.str x :: (r.map V.str).eraseIdx j = V.str x :: (r.eraseIdx j).map V.str
    rw [eraseIdx_str r j]
section
variable {P : Program} {w : World} {K : PySem.W.Frag} {mg : Str → Option Value} {base : Heap}
abbrev s__law_shuffled : Stmt := topS 13
abbrev N__law_shuffled : List Str := ["_law_tape", "_law_items", "_law_left", "_law_found"]
theorem sc__law_shuffled : FnScope N__law_shuffled ["_law_tape", "_law_items"] (defScope s__law_shuffled) := ⟨rfl, rfl, rfl, by decide +kernel, rfl, by decide +kernel, by decide +kernel⟩
def spShuf (K : PySem.W.Frag) : Sp := fun vs H Q _ => ∃ (t c l : Addr) (ws : List Str) (b : Nat), vs = [.ref t, .ref l] ∧ SqL K H l (ws.map V.str) ∧ (∀ x ∈ ws, Wok x) ∧ ws.length ≤ 1000 ∧ Tape K H t c (b + ws.length) ∧
  ∀ (H' : Hp) (p : Addr) (ws' : List Str), Ext t H H' → Tape K H' t c b → H p = none → H' p = some (.lst (ws'.map V.str)) → (∀ x ∈ ws', Wok x) → ws'.length = ws.length → Q (.ref p) H'
theorem ok_shuf {f : Addr} {fd : FuncData} (F : Fun K "_law_shuffled" "_law_shuffled" s__law_shuffled f fd) (B : Bl mg) (D__law_draw : Kn P w K mg base 1 "_law_draw" ["_law_tape", "_law_many"] (spDraw K)) : FnOk P w K mg base CX0 2 f fd ["_law_tape", "_law_items"] (spShuf K) := by
  refine F.ok sc__law_shuffled (fun vs H Q E h => ?_) (fun cdv A outer s H vs Q E hr h => ?_)
  · obtain ⟨t, c, l, ws, b, rfl, _⟩ := h
    rfl
  · obtain ⟨t, c, l, ws, b, rfl, h1, h2, h3, hT, k⟩ := h
    have hr__law_draw := hr
    have hu64 := hr.units
    refine ⟨_, (pss_cons (ps_par (i := 2) (j := 3) (by rfl) sc__law_shuffled.nd rfl rfl (by decide) rfl rfl (pa_cons (pe_callTy call_list_of (by rfl) B.list (by decide +kernel) (pa_cons (pv 1) pa_nil)) (pa_cons (pe_lst pa_nil) pa_nil)) (by rfl))
  (pss_cons (ps_while PassesOwn.never (pt_cmpR (op_neD hu64) (pv 2) (pe_lst pa_nil) (nomark _))
  (pss_one (ps_expr (pe_bm PySem.F.plainAttrs_list PySem.F.slot_list_append PySem.F.type_list_append mt_append (pv 3) (pa_cons (pe_bm PySem.F.plainAttrs_list PySem.F.slot_list_pop PySem.F.type_list_pop mt_popAt (pv 2) (pa_cons (pe_kn D__law_draw hr__law_draw (pa_cons (pv 0) (pa_cons (pe_callB call_len (by rfl) B.len PySem.boot_len (pa_cons (pv 2) pa_nil)) pa_nil))) pa_nil)) pa_nil)))))
  (pss_one (ps_ret (pv 3))))), ?_⟩
    refine ⟨_, rfl, l, _, rfl, .inl h1, fun ll hll => ?_⟩
    have s1 : Same H (upd H ll (.lst (ws.map V.str))) := same_new hll
    have gl1 : (upd H ll (.lst (ws.map V.str))) ll = some (.lst (ws.map V.str)) := upd_same
    generalize upd H ll (.lst (ws.map V.str)) = H1 at s1 gl1 ⊢
    refine ⟨slz rfl, fun lf hlf => ⟨_, _, rfl, ?_⟩⟩
    have s2 : Same H (upd H1 lf (.lst [])) := s1.trans (same_new hlf)
    have nlf : H lf = none := s1.free hlf
    have nll : ll ≠ lf := ne_of_none gl1 hlf
    have ntl : ll ≠ t := hT.ne hll
    have ntf : lf ≠ t := hT.ne nlf
    refine ⟨fun m σ H' => ∃ (ws1 ws2 : List Str), σ = [some (.ref t), some (.ref l), some (.ref ll), some (.ref lf)] ∧ Ext t H H' ∧ Tape K H' t c (b + ws1.length) ∧ H' ll = some (.lst (ws1.map V.str)) ∧ H' lf = some (.lst (ws2.map V.str)) ∧ (∀ x ∈ ws1, Wok x) ∧ (∀ x ∈ ws2, Wok x) ∧ m = ws1.length ∧ ws1.length + ws2.length = ws.length,
      ⟨ws.length, ws, [], rfl, same_ext s2, hT.same s2, same_new hlf _ _ gl1, upd_same, h2, (fun _ q => nomatch q), rfl, rfl⟩, ?_⟩
    rintro m σ H2 ⟨ws1, ws2, rfl, e2, t2, g1, g2, w1, w2, rfl, ln⟩
    refine ⟨_, rfl, slz rfl, fun e he => ?_⟩
    have s5 : Same H2 (upd H2 e (.lst [])) := same_new he
    refine ⟨_, _, .lst (SqL.of (s5 _ _ g1)) (dp_words ws1), .lst (SqL.of upd_same) .nil, shaped_words w1, shaped_nil, _, rfl, ?_⟩
    rw [words_ne]
    have E5 := e2.trans (same_ext (t := t) s5)
    have T5 := t2.same s5
    have g1' := s5 _ _ g1
    have g2' := s5 _ _ g2
    generalize upd H2 e (.lst []) = H3 at E5 T5 g1' g2' ⊢
    clear s5
    by_cases hst : ws1 = []
    · subst hst
      refine iteF ?_
      exact ⟨_, rfl, k H3 lf ws2 E5 T5 nlf g2' w2 (by simpa using ln)⟩
    · have pos : 0 < ws1.length := List.length_pos_iff.mpr hst
      have hne : (!ws1.isEmpty) = true := by
        cases ws1 with
        | nil => exact absurd rfl hst
        | cons _ _ => rfl
      refine iT hne ?_
      refine ⟨fun σ' H' => ∃ (ws1' ws2 : List Str), σ' = [some (.ref t), some (.ref l), some (.ref ll), some (.ref lf)] ∧ Ext t H H' ∧ Tape K H' t c (b + ws1'.length) ∧ H' ll = some (.lst (ws1'.map V.str)) ∧ H' lf = some (.lst (ws2.map V.str)) ∧ (∀ x ∈ ws1', Wok x) ∧ (∀ x ∈ ws2, Wok x) ∧ ws1'.length < ws1.length ∧ ws1'.length + ws2.length = ws.length, ?_, ?_⟩
      · rintro σ' H' ⟨a1, a2, x1, x2, x3, x4, x5, x6, x7, x8, x9⟩
        exact ⟨a1.length, x8, a1, a2, x1, x2, x3, x4, x5, x6, x7, rfl, x9⟩
      · have lm : (ws1.map V.str).length = ws1.length := List.length_map ..
        refine ⟨_, rfl, .inl ⟨rfl, _, SqL.of g2'⟩, _, rfl, .inl ⟨rfl, _, SqL.of g1'⟩, _, rfl, _, rfl, _, _, rfl, .inl ⟨_, SqL.of g1', rfl⟩, t, c, _, b + (ws1.length - 1), rfl, by rw [lm]; omega, by rw [lm]; omega, T5.less (by omega), fun H4 r e4 t4 r0 r1 => ?_⟩
        obtain ⟨j, rfl⟩ : ∃ j : Nat, r = (j : Int) := ⟨r.toNat, (Int.toNat_of_nonneg r0).symm⟩
        rw [lm] at r1
        have hj : j < ws1.length := by omega
        obtain ⟨x, hx⟩ : ∃ x, ws1[j]? = some x := ⟨_, List.getElem?_eq_getElem hj⟩
        have mx := List.mem_of_getElem? hx
        have g14 := e4 _ _ ntl g1'
        have g24 := e4 _ _ ntf g2'
        refine ⟨ll, ws1.map V.str, (j : Int), j, .str x, rfl, rfl, g14, by omega, by omega, ?_, by rw [List.getElem?_map, hx]; rfl, ?_⟩
        · rw [lm, seqIndex_of (by omega) (by omega), Int.toNat_natCast]
        · rw [eraseIdx_str]
          have E6 := E5.trans e4
          have g1u : (upd H4 ll (.lst ((ws1.eraseIdx j).map V.str))) ll = _ := upd_same
          have g2u : (upd H4 ll (.lst ((ws1.eraseIdx j).map V.str))) lf = some (.lst (ws2.map V.str)) := by rw [upd_ne nll.symm]; exact g24
          have E7 := E6.upd (o := .lst ((ws1.eraseIdx j).map V.str)) hll
          have T7 := Tape.put hT E6 t4 hll (o := .lst ((ws1.eraseIdx j).map V.str))
          generalize upd H4 ll (.lst ((ws1.eraseIdx j).map V.str)) = H5 at g1u g2u E7 T7 ⊢
          have le : (ws1.eraseIdx j).length = ws1.length - 1 := List.length_eraseIdx_of_lt hj
          refine ⟨lf, _, _, rfl, rfl, g2u, by rw [List.length_map]; exact size_line (by omega), ws1.eraseIdx j, ws2 ++ [x], rfl, E7.upd nlf, Tape.put hT E7 (T7.less (by rw [le]; exact Nat.le_refl _)) nlf, by rw [upd_ne nll]; exact g1u, by rw [upd_same, List.map_append]; rfl, fun y hy => w1 y (List.mem_of_mem_eraseIdx hy), fun y hy => ?_, by rw [le]; omega, by rw [le, List.length_append, List.length_singleton]; omega⟩
          rcases List.mem_append.mp hy with q | q
          · exact w2 y q
          · rw [List.mem_singleton.mp q]; exact w1 x mx
end
end L3

/-! the law's own: many_right -/
namespace L3
open PySem L2 RT
theorem fit_arrows {j : Nat} {kl : Kd} (hl : kl.fit j) : ∀ {ks : List Kd}, (∀ k ∈ ks, k.fit j) → (ks.foldr arrow kl).fit (j + 2 * ks.length)
  | [], _ => hl
  | k :: r, h => by
    have ih := fit_arrows hl (ks := r) fun q hq => h q (List.mem_cons_of_mem _ hq)
    have e : j + 2 * (k :: r).length = j + 2 * r.length + 1 + 1 := by rw [List.length_cons]; omega
    rw [e]
    exact ⟨⟨fitC ⟨by decide, by decide, by decide +kernel⟩, Kd.fit_mono (by omega) (h k List.mem_cons_self)⟩, Kd.fit_mono (by omega) ih⟩
def cnt (ks : List Kd) : List Int := ks.map fun k => (k.leaves.length : Int)
theorem cnt_sum : ∀ ks : List Kd, (cnt ks).sum = ((leavesL ks).length : Int)
  | [] => rfl
  | k :: r => by
    show (k.leaves.length : Int) + (cnt r).sum = ((k.leaves ++ leavesL r).length : Int)
    rw [cnt_sum r, List.length_append]
    omega
section
variable {P : Program} {w : World} {K : PySem.W.Frag} {mg : Str → Option Value} {base : Heap}
theorem words_eqv5 : ∀ ws : List Str, PyData.eqvAll (ws.map PyData.str) (ws.map PyData.str) = true
  | [] => eqv_nn
  | x :: r => by rw [List.map_cons, eqv_cc, eqv_ss, words_eqv5 r, decide_eq_true rfl]; rfl
theorem sizeArgs {H : Hp} {Q : VK} {E : XK} {xs : List V} {ks : List Kd} (h : KdsAt H xs ks) (sz : sizeL ks ≤ 100000) (k : ∀ H', Same H H' → Q (.int ((leavesL ks).length : Int)) H') : spStar 0 (spSize K) xs H Q E := by
  have lx : xs.length ≤ 100000 := by
    have := sizeL_len ks
    rw [Paired.length h]
    omega
  exact ⟨[], xs, rfl, rfl, Nat.le_of_lt (size_line (by omega)), fun p hp => ⟨p, xs, ks, rfl, SqT.of upd_same, KdsAt.tups (same_tups (same_new hp)) h, sz, fun H' s => k H' ((same_new hp).trans s)⟩⟩
theorem varsArgs {H : Hp} {Q : VK} {E : XK} {xs : List V} {ks : List Kd} (h : KdsAt H xs ks) (sz : sizeL ks ≤ 100000) (k : ∀ (H' : Hp) (q : Addr), Same H H' → H' q = some (.tup ((vsL ks []).map V.str)) → Q (.ref q) H') : spStar 0 (spVarsT K) xs H Q E := by
  have lx : xs.length ≤ 100000 := by
    have := sizeL_len ks
    rw [Paired.length h]
    omega
  exact ⟨[], xs, rfl, rfl, Nat.le_of_lt (size_line (by omega)), fun p hp => ⟨p, xs, ks, rfl, SqT.of upd_same, KdsAt.tups (same_tups (same_new hp)) h, sz, fun H' q s _ g => k H' q ((same_new hp).trans s) g⟩⟩
theorem toArgs {H : Hp} {Q : VK} {E : XK} {xs : List V} {x : V} {ks : List Kd} {kl : Kd} (h : KdsAt H xs ks) (hx : KdAt H x kl) (sz : xs.length ≤ 1000) (k : ∀ (H' : Hp) (v : V), Same H H' → KdAt H' v (ks.foldr arrow kl) → Q v H') : spStar 0 (spTo K) (xs ++ [x]) H Q E :=
  ⟨[], xs ++ [x], rfl, rfl, Nat.le_of_lt (size_line (by rw [List.length_append, List.length_singleton]; omega)), fun p hp => ⟨p, xs, x, ks, kl, rfl, SqT.of upd_same, KdsAt.tups (same_tups (same_new hp)) h, KdAt.tups (same_tups (same_new hp)) hx, fun H' v s hv => k H' v ((same_new hp).trans s) hv⟩⟩
theorem vs_wok : ∀ {k : Kd} {n : Nat} {fs : List Str}, k.fit n → (∀ x ∈ fs, Wok x) → ∀ x ∈ k.vs fs, Wok x
  | .var y, n, fs, h, hf => by
    intro x hx
    have hx' : x ∈ addV fs y := hx
    unfold addV at hx'
    split at hx'
    · exact hf x hx'
    · rcases List.mem_append.mp hx' with q | q
      · exact hf x q
      · rw [List.mem_singleton.mp q]; exact wok_of_var h
  | .con _, _, _, _, hf => hf
  | .app a b, n, fs, h, hf => by
    obtain ⟨m, rfl, ha, hb⟩ := Kd.fit_app h
    exact vs_wok (k := b) hb (vs_wok (k := a) ha hf)
theorem vsL_wok {n : Nat} : ∀ {ks : List Kd} {fs : List Str}, (∀ k ∈ ks, k.fit n) → (∀ x ∈ fs, Wok x) → ∀ x ∈ vsL ks fs, Wok x
  | [], _, _, hf => hf
  | k :: r, _, h, hf => vsL_wok (ks := r) (fun y hy => h y (List.mem_cons_of_mem _ hy)) (vs_wok (h k List.mem_cons_self) hf)
theorem shaped_wordsT {ws : List Str} (h : ∀ x ∈ ws, Wok x) : SeqAt.shaped (.tuple (ws.map PyData.str)) = true := by
  obtain ⟨h1, h2⟩ := lay_words h
  unfold SeqAt.shaped
  simp only [PyData.canLay0, h1, PyData.depth, h2]
  decide
theorem eqv_self (k : Kd) : PyData.eqv k.dat k.dat = true := by rw [Kd.eqv, decide_eq_true rfl]
theorem eqv_wordsT (ws : List Str) : PyData.eqv (.tuple (ws.map PyData.str)) (.tuple (ws.map PyData.str)) = true := by rw [eqv_tt, words_eqv5]
abbrev s__law_many_right : Stmt := topS 23
abbrev N__law_many_right : List Str := ["_law_some", "_law_due", "_law_names", "_law_is_right", "_law_kind"]
theorem sc__law_many_right : FnScope N__law_many_right ["_law_some"] (defScope s__law_many_right) := ⟨rfl, rfl, rfl, by decide +kernel, rfl, by decide +kernel, by decide +kernel⟩
def spMany (K : PySem.W.Frag) : Sp := fun vs H Q _ => ∃ (l : Addr) (xs : List V) (ks : List Kd), vs = [.ref l] ∧ SqL K H l xs ∧ KdsAt H xs ks ∧ 1 ≤ ks.length ∧ ks.length ≤ 4 ∧ (∀ k ∈ ks, k.fit 8) ∧ ∀ (H' : Hp), Same H H' → Q (.bl true) H'
theorem ok_many {f : Addr} {fd : FuncData} (F : Fun K "_law_many_right" "_law_many_right" s__law_many_right f fd) (B : Bl mg) (B5 : Bl5 mg) (D__law_count_leaves : Kn P w K mg base 9 "_law_count_leaves" ["_law_kind"] (spCount 8))
    (D__law_vars : Kn P w K mg base 1 "_law_vars" ["_law_kinds"] (spVars K)) (D__law_to : Kn P w K mg base 2 "_law_to" ["_law_kinds"] (spLTo K)) (D_size_of : KnR P w K mg base 2 "size_of" (spStar 0 (spSize K))) (D_variables_of : KnR P w K mg base 2 "variables_of" (spStar 0 (spVarsT K)))
    (D_to : KnR P w K mg base 3 "to" (spStar 0 (spTo K))) : FnOk P w K mg base CX0 10 f fd ["_law_some"] (spMany K) := by
  refine F.ok sc__law_many_right (fun vs H Q E h => ?_) (fun cdv A outer s H vs Q E hr h => ?_)
  · obtain ⟨l, xs, ks, rfl, _⟩ := h
    rfl
  · obtain ⟨l, xs, ks, rfl, h1, h2, n1, n4, hf, k⟩ := h
    have hr__law_count_leaves : Room 9 _ := hr
    have hr__law_vars : Room 1 _ := hr.mono (by omega)
    have hr__law_to : Room 2 _ := hr.mono (by omega)
    have hr_size_of : Room 2 _ := hr.mono (by omega)
    have hr_variables_of : Room 2 _ := hr.mono (by omega)
    have hr_to : Room 3 _ := hr.mono (by omega)
    have hu64 := hr.units
    have hf60 : ∀ k ∈ ks, k.fit 60 := fun q hq => Kd.fit_mono (by omega) (hf q hq)
    have lx : xs.length = ks.length := Paired.length h2
    have sz : sizeL ks ≤ 100000 := by
      have h1 := sizeL_fit hf
      have h2 : ks.length * (2 * 2 ^ 8) ≤ 4 * (2 * 2 ^ 8) := Nat.mul_le_mul_right _ n4
      omega
    refine ⟨_, (pss_cons (ps_par (i := 1) (j := 2) (by rfl) sc__law_many_right.nd rfl rfl (by decide) rfl rfl (pa_cons (pe_callB (cr_sum rfl) (by rfl) B5.sum (by decide +kernel) (pa_cons (pe_lc (own := [("_law_kind", 4)]) rfl sc__law_many_right.nd (pi_list (pv 0)) (blkOk_by (N := N__law_many_right) (sc := (defScope s__law_many_right)) (own := [("_law_kind", 4)]) (by decide +kernel)) (fun _ _ _ _ _ => (pg_name (i := 4) sc__law_many_right.nd rfl (Or.inl rfl))) (fun _ _ _ _ _ => pts_nil) (fun _ _ _ _ _ => (pe_kn D__law_count_leaves hr__law_count_leaves (pa_cons (pv 4) pa_nil)))) pa_nil)) (pa_cons (pe_callTy call_tuple_of (by rfl) B.tuple (by decide +kernel) (pa_cons (pe_kn D__law_vars hr__law_vars (pa_cons (pv 0) pa_nil)) pa_nil)) pa_nil)) (by rfl))
  (pss_cons (ps_if (pt_cmpR op_eq (pe_callB call_len (by rfl) B.len PySem.boot_len (pa_cons (pv 0) pa_nil)) pe_int (nomark _))
  (pss_one (ps_ret (pe_and (pe_cmpR op_eq (pe_ks D_size_of hr_size_of (pa_cons (pe_ix ix_list (pv 0) pe_int (fun _ _ => rfl)) pa_nil)) (pv 1) (nomark _)) (pe_and (pe_cmpR (op_eqD hu64) (pe_ks D_variables_of hr_variables_of (pa_cons (pe_ix ix_list (pv 0) pe_int (fun _ _ => rfl)) pa_nil)) (pv 2) (nomark _)) (pe_one (pe_cmpR (op_eqD hu64) (pe_ks D_to hr_to (pa_cons (pe_ix ix_list (pv 0) pe_int (fun _ _ => rfl)) pa_nil)) (pe_ix ix_list (pv 0) pe_int (fun _ _ => rfl)) (nomark _)))))))
  pss_nil)
  (pss_cons (ps_if (pt_cmpR op_eq (pe_callB call_len (by rfl) B.len PySem.boot_len (pa_cons (pv 0) pa_nil)) pe_int (nomark _))
  (pss_cons (ps_set (i := 3) sc__law_many_right.nd rfl (Or.inl rfl) (pe_and (pe_cmpR op_eq (pe_ks D_size_of hr_size_of (pa_cons (pe_ix ix_list (pv 0) pe_int (fun _ _ => rfl)) (pa_cons (pe_ix ix_list (pv 0) pe_int (fun _ _ => rfl)) pa_nil))) (pv 1) (nomark _)) (pe_one (pe_cmpR (op_eqD hu64) (pe_ks D_variables_of hr_variables_of (pa_cons (pe_ix ix_list (pv 0) pe_int (fun _ _ => rfl)) (pa_cons (pe_ix ix_list (pv 0) pe_int (fun _ _ => rfl)) pa_nil))) (pv 2) (nomark _)))))
  (pss_one (ps_ret (pe_and (pv 3) (pe_one (pe_cmpR (op_eqD hu64) (pe_ks D_to hr_to (pa_cons (pe_ix ix_list (pv 0) pe_int (fun _ _ => rfl)) (pa_cons (pe_ix ix_list (pv 0) pe_int (fun _ _ => rfl)) pa_nil))) (pe_kn D__law_to hr__law_to (pa_cons (pv 0) pa_nil)) (nomark _)))))))
  pss_nil)
  (pss_cons (ps_if (pt_cmpR op_eq (pe_callB call_len (by rfl) B.len PySem.boot_len (pa_cons (pv 0) pa_nil)) pe_int (nomark _))
  (pss_cons (ps_set (i := 3) sc__law_many_right.nd rfl (Or.inl rfl) (pe_and (pe_cmpR op_eq (pe_ks D_size_of hr_size_of (pa_cons (pe_ix ix_list (pv 0) pe_int (fun _ _ => rfl)) (pa_cons (pe_ix ix_list (pv 0) pe_int (fun _ _ => rfl)) (pa_cons (pe_ix ix_list (pv 0) pe_int (fun _ _ => rfl)) pa_nil)))) (pv 1) (nomark _)) (pe_one (pe_cmpR (op_eqD hu64) (pe_ks D_variables_of hr_variables_of (pa_cons (pe_ix ix_list (pv 0) pe_int (fun _ _ => rfl)) (pa_cons (pe_ix ix_list (pv 0) pe_int (fun _ _ => rfl)) (pa_cons (pe_ix ix_list (pv 0) pe_int (fun _ _ => rfl)) pa_nil)))) (pv 2) (nomark _)))))
  (pss_one (ps_ret (pe_and (pv 3) (pe_one (pe_cmpR (op_eqD hu64) (pe_ks D_to hr_to (pa_cons (pe_ix ix_list (pv 0) pe_int (fun _ _ => rfl)) (pa_cons (pe_ix ix_list (pv 0) pe_int (fun _ _ => rfl)) (pa_cons (pe_ix ix_list (pv 0) pe_int (fun _ _ => rfl)) pa_nil)))) (pe_kn D__law_to hr__law_to (pa_cons (pv 0) pa_nil)) (nomark _)))))))
  pss_nil)
  (pss_cons (ps_set (i := 3) sc__law_many_right.nd rfl (Or.inl rfl) (pe_cmpR op_eq (pe_ks D_size_of hr_size_of (pa_cons (pe_ix ix_list (pv 0) pe_int (fun _ _ => rfl)) (pa_cons (pe_ix ix_list (pv 0) pe_int (fun _ _ => rfl)) (pa_cons (pe_ix ix_list (pv 0) pe_int (fun _ _ => rfl)) (pa_cons (pe_ix ix_list (pv 0) pe_int (fun _ _ => rfl)) pa_nil))))) (pv 1) (nomark _)))
  (pss_one (ps_ret (pe_and (pv 3) (pe_one (pe_cmpR (op_eqD hu64) (pe_ks D_to hr_to (pa_cons (pe_ix ix_list (pv 0) pe_int (fun _ _ => rfl)) (pa_cons (pe_ix ix_list (pv 0) pe_int (fun _ _ => rfl)) (pa_cons (pe_ix ix_list (pv 0) pe_int (fun _ _ => rfl)) (pa_cons (pe_ix ix_list (pv 0) pe_int (fun _ _ => rfl)) pa_nil))))) (pe_kn D__law_to hr__law_to (pa_cons (pv 0) pa_nil)) (nomark _))))))))))), ?_⟩
    refine ⟨_, rfl, l, rfl, ⟨_, h1⟩, fun D hD => ?_⟩
    refine lc_list (K := K) (a := l) (xs := xs) (fun i H' => Same H H' ∧ H' D = some (.lst ((cnt (ks.take i)).map V.int))) ⟨same_new hD, upd_same⟩ (fun i H' _ ⟨e1, _⟩ => e1.seq h1) (fun i x H' hx ⟨e1, g1⟩ => ⟨rfl, ?_⟩) (fun H1 ⟨s1, g1⟩ => ?_)
    · obtain ⟨kx, hkx, xk⟩ := paired_get h2 hx
      have hi := (List.getElem?_eq_some_iff.mp hx).1
      refine ⟨_, rfl, x, kx, rfl, KdAt.tups (same_tups e1) xk, hf kx (List.mem_of_getElem? hkx), fun H2 s2 => ?_⟩
      refine ⟨_, s2 _ _ g1, ?_, fun b o z => ?_, ?_⟩
      · unfold cnt
        rw [List.length_map, List.length_map, List.length_take]
        exact small1000 (by omega)
      · rw [upd_ne (ne_of_none z hD)]
        exact s2 _ _ (e1 _ _ z)
      · rw [upd_same, List.take_add_one, hkx]
        unfold cnt
        rw [List.map_append, List.map_append]
        rfl
    · rw [lx, List.take_length] at g1
      refine ⟨D, cnt ks, rfl, SqL.of g1, ?_⟩
      rw [cnt_sum]
      have h2a := KdsAt.tups (same_tups s1) h2
      refine ⟨_, rfl, l, xs, ks, rfl, s1.seq h1, h2a, hf60, sz, fun H2 pv s2 hpv gpv => ?_⟩
      refine ⟨pv, _, rfl, .inl ⟨SqL.of gpv, fun tn htn => ⟨_, _, rfl, ?_⟩⟩⟩
      have S3 := (s1.trans s2).trans (same_new (o := .tup ((vsL ks []).map V.str)) htn)
      have gtn : (upd H2 tn (.tup ((vsL ks []).map V.str))) tn = some (.tup ((vsL ks []).map V.str)) := upd_same
      generalize upd H2 tn (.tup ((vsL ks []).map V.str)) = H3 at S3 gtn ⊢
      have h1c := S3.seq h1
      have h2c := KdsAt.tups (same_tups S3) h2
      clear s1 s2 h1 h2 h2a g1 gpv
      have kk : (∃ k0, ks = [k0]) ∨ (∃ k0 k1, ks = [k0, k1]) ∨ (∃ k0 k1 k2, ks = [k0, k1, k2]) ∨ ∃ k0 k1 k2 k3, ks = [k0, k1, k2, k3] := by
        match ks, n1, n4 with
        | [k0], _, _ => exact .inl ⟨k0, rfl⟩
        | [k0, k1], _, _ => exact .inr (.inl ⟨k0, k1, rfl⟩)
        | [k0, k1, k2], _, _ => exact .inr (.inr (.inl ⟨k0, k1, k2, rfl⟩))
        | [k0, k1, k2, k3], _, _ => exact .inr (.inr (.inr ⟨k0, k1, k2, k3, rfl⟩))
        | _ :: _ :: _ :: _ :: _ :: _, _, h => simp at h
      have lenT : ∀ n : Nat, decide (V.int (n : Int) = V.int (n : Int)) = true := fun n => decide_eq_true rfl
      rcases kk with ⟨k0, rfl⟩ | ⟨k0, k1, rfl⟩ | ⟨k0, k1, k2, rfl⟩ | ⟨k0, k1, k2, k3, rfl⟩
      · cases h2c with
        | @cons x0 _ _ _ r0 t0 =>
        cases t0
        refine ⟨_, rfl, _, _, rfl, .inl ⟨_, h1c, rfl⟩, rfl, _, rfl, iT (decide_eq_true rfl) ?_⟩
        refine ⟨_, rfl, _, _, _, _, rfl, rfl, h1c, rfl, sizeArgs (ks := [k0]) (.cons r0 (.nil)) sz fun H4 s4 => ?_⟩
        refine ⟨_, rfl, rfl, _, rfl, iT (decide_eq_true rfl) ?_⟩
        refine ⟨_, rfl, _, _, _, _, rfl, rfl, (s4.seq h1c), rfl, varsArgs (ks := [k0]) (.cons (KdAt.tups (same_tups s4) r0) (.nil)) sz fun H5 q5 s5 g5 => ?_⟩
        have S5 := s4.trans s5
        have h1d := S5.seq h1c
        refine ⟨_, rfl, _, _, .tup (SqT.of g5) (dp_words _), .tup (SqT.of (S5 _ _ gtn)) (dp_words _), shaped_wordsT (vsL_wok hf (fun _ q => nomatch q)), shaped_wordsT (vsL_wok hf (fun _ q => nomatch q)), ?_⟩
        refine ⟨_, rfl, iT (eqv_wordsT _) ?_⟩
        refine ⟨_, rfl, _, _, _, _, rfl, rfl, h1d, rfl, toArgs (xs := []) (ks := []) .nil (KdAt.tups (same_tups S5) r0) (by decide) fun H6 v6 s6 hv6 => ?_⟩
        refine ⟨_, rfl, _, _, _, _, rfl, rfl, s6.seq h1d, rfl, _, _, hv6.dp, (KdAt.tups (same_tups (S5.trans s6)) r0).dp, Kd.shaped (hf60 k0 (by simp)) (by decide), Kd.shaped (hf60 k0 (by simp)) (by decide), ?_⟩
        have e : PyData.eqv (Kd.dat (List.foldr arrow k0 [])) k0.dat = true := eqv_self k0
        rw [e]
        exact k _ (S3.trans (S5.trans s6))
      · cases h2c with
        | @cons x0 _ _ _ r0 t0 =>
        cases t0 with
        | @cons x1 _ _ _ r1 t1 =>
        cases t1
        refine ⟨_, rfl, _, _, rfl, .inl ⟨_, h1c, rfl⟩, rfl, _, rfl, iF (show decide (V.int ((2 : Nat) : Int) = V.int 1) = false by decide +kernel) ?_⟩
        refine ⟨_, rfl, _, _, rfl, .inl ⟨_, h1c, rfl⟩, rfl, _, rfl, iT (decide_eq_true rfl) ?_⟩
        refine ⟨_, rfl, _, _, _, _, rfl, rfl, h1c, rfl, _, rfl, _, _, _, _, rfl, rfl, h1c, rfl, sizeArgs (ks := [k0, k1]) (.cons r0 (.cons r1 (.nil))) sz fun H4 s4 => ?_⟩
        refine ⟨_, rfl, rfl, _, rfl, iT (decide_eq_true rfl) ?_⟩
        refine ⟨_, rfl, _, _, _, _, rfl, rfl, (s4.seq h1c), rfl, _, rfl, _, _, _, _, rfl, rfl, (s4.seq h1c), rfl, varsArgs (ks := [k0, k1]) (.cons (KdAt.tups (same_tups s4) r0) (.cons (KdAt.tups (same_tups s4) r1) (.nil))) sz fun H5 q5 s5 g5 => ?_⟩
        have S5 := s4.trans s5
        have h1d := S5.seq h1c
        refine ⟨_, rfl, _, _, .tup (SqT.of g5) (dp_words _), .tup (SqT.of (S5 _ _ gtn)) (dp_words _), shaped_wordsT (vsL_wok hf (fun _ q => nomatch q)), shaped_wordsT (vsL_wok hf (fun _ q => nomatch q)), ?_⟩
        refine ⟨_, rfl, _, rfl, iT (eqv_wordsT _) ?_⟩
        refine ⟨_, rfl, _, _, _, _, rfl, rfl, h1d, rfl, _, rfl, _, _, _, _, rfl, rfl, h1d, rfl, toArgs (xs := [x0]) (ks := [k0]) (.cons (KdAt.tups (same_tups S5) r0) (.nil)) (KdAt.tups (same_tups S5) r1) (by show 1 ≤ 1000; decide) fun H6 v6 s6 hv6 => ?_⟩
        refine ⟨_, rfl, l, [x0], x1, [k0], k1, rfl, s6.seq h1d, .cons (KdAt.tups (same_tups (S5.trans s6)) r0) (.nil), KdAt.tups (same_tups (S5.trans s6)) r1, fun H7 v7 s7 hv7 => ?_⟩
        have fa : ([k0].foldr arrow k1).fit 60 := Kd.fit_mono (by show 8 + 2 * 1 ≤ 60; decide) (fit_arrows (hf k1 (by simp)) (ks := [k0]) fun q hq => hf q (List.mem_of_mem_take (i := 1) (l := [k0, k1]) hq))
        refine ⟨_, _, (KdAt.tups (same_tups s7) hv6).dp, hv7.dp, Kd.shaped fa (by decide), Kd.shaped fa (by decide), ?_⟩
        rw [eqv_self]
        exact k _ (S3.trans (S5.trans (s6.trans s7)))
      · cases h2c with
        | @cons x0 _ _ _ r0 t0 =>
        cases t0 with
        | @cons x1 _ _ _ r1 t1 =>
        cases t1 with
        | @cons x2 _ _ _ r2 t2 =>
        cases t2
        refine ⟨_, rfl, _, _, rfl, .inl ⟨_, h1c, rfl⟩, rfl, _, rfl, iF (show decide (V.int ((3 : Nat) : Int) = V.int 1) = false by decide +kernel) ?_⟩
        refine ⟨_, rfl, _, _, rfl, .inl ⟨_, h1c, rfl⟩, rfl, _, rfl, iF (show decide (V.int ((3 : Nat) : Int) = V.int 2) = false by decide +kernel) ?_⟩
        refine ⟨_, rfl, _, _, rfl, .inl ⟨_, h1c, rfl⟩, rfl, _, rfl, iT (decide_eq_true rfl) ?_⟩
        refine ⟨_, rfl, _, _, _, _, rfl, rfl, h1c, rfl, _, rfl, _, _, _, _, rfl, rfl, h1c, rfl, _, rfl, _, _, _, _, rfl, rfl, h1c, rfl, sizeArgs (ks := [k0, k1, k2]) (.cons r0 (.cons r1 (.cons r2 (.nil)))) sz fun H4 s4 => ?_⟩
        refine ⟨_, rfl, rfl, _, rfl, iT (decide_eq_true rfl) ?_⟩
        refine ⟨_, rfl, _, _, _, _, rfl, rfl, (s4.seq h1c), rfl, _, rfl, _, _, _, _, rfl, rfl, (s4.seq h1c), rfl, _, rfl, _, _, _, _, rfl, rfl, (s4.seq h1c), rfl, varsArgs (ks := [k0, k1, k2]) (.cons (KdAt.tups (same_tups s4) r0) (.cons (KdAt.tups (same_tups s4) r1) (.cons (KdAt.tups (same_tups s4) r2) (.nil)))) sz fun H5 q5 s5 g5 => ?_⟩
        have S5 := s4.trans s5
        have h1d := S5.seq h1c
        refine ⟨_, rfl, _, _, .tup (SqT.of g5) (dp_words _), .tup (SqT.of (S5 _ _ gtn)) (dp_words _), shaped_wordsT (vsL_wok hf (fun _ q => nomatch q)), shaped_wordsT (vsL_wok hf (fun _ q => nomatch q)), ?_⟩
        refine ⟨_, rfl, _, rfl, iT (eqv_wordsT _) ?_⟩
        refine ⟨_, rfl, _, _, _, _, rfl, rfl, h1d, rfl, _, rfl, _, _, _, _, rfl, rfl, h1d, rfl, _, rfl, _, _, _, _, rfl, rfl, h1d, rfl, toArgs (xs := [x0, x1]) (ks := [k0, k1]) (.cons (KdAt.tups (same_tups S5) r0) (.cons (KdAt.tups (same_tups S5) r1) (.nil))) (KdAt.tups (same_tups S5) r2) (by show 2 ≤ 1000; decide) fun H6 v6 s6 hv6 => ?_⟩
        refine ⟨_, rfl, l, [x0, x1], x2, [k0, k1], k2, rfl, s6.seq h1d, .cons (KdAt.tups (same_tups (S5.trans s6)) r0) (.cons (KdAt.tups (same_tups (S5.trans s6)) r1) (.nil)), KdAt.tups (same_tups (S5.trans s6)) r2, fun H7 v7 s7 hv7 => ?_⟩
        have fa : ([k0, k1].foldr arrow k2).fit 60 := Kd.fit_mono (by show 8 + 2 * 2 ≤ 60; decide) (fit_arrows (hf k2 (by simp)) (ks := [k0, k1]) fun q hq => hf q (List.mem_of_mem_take (i := 2) (l := [k0, k1, k2]) hq))
        refine ⟨_, _, (KdAt.tups (same_tups s7) hv6).dp, hv7.dp, Kd.shaped fa (by decide), Kd.shaped fa (by decide), ?_⟩
        rw [eqv_self]
        exact k _ (S3.trans (S5.trans (s6.trans s7)))
      · cases h2c with
        | @cons x0 _ _ _ r0 t0 =>
        cases t0 with
        | @cons x1 _ _ _ r1 t1 =>
        cases t1 with
        | @cons x2 _ _ _ r2 t2 =>
        cases t2 with
        | @cons x3 _ _ _ r3 t3 =>
        cases t3
        refine ⟨_, rfl, _, _, rfl, .inl ⟨_, h1c, rfl⟩, rfl, _, rfl, iF (show decide (V.int ((4 : Nat) : Int) = V.int 1) = false by decide +kernel) ?_⟩
        refine ⟨_, rfl, _, _, rfl, .inl ⟨_, h1c, rfl⟩, rfl, _, rfl, iF (show decide (V.int ((4 : Nat) : Int) = V.int 2) = false by decide +kernel) ?_⟩
        refine ⟨_, rfl, _, _, rfl, .inl ⟨_, h1c, rfl⟩, rfl, _, rfl, iF (show decide (V.int ((4 : Nat) : Int) = V.int 3) = false by decide +kernel) ?_⟩
        refine ⟨_, rfl, _, _, _, _, rfl, rfl, h1c, rfl, _, rfl, _, _, _, _, rfl, rfl, h1c, rfl, _, rfl, _, _, _, _, rfl, rfl, h1c, rfl, _, rfl, _, _, _, _, rfl, rfl, h1c, rfl, sizeArgs (ks := [k0, k1, k2, k3]) (.cons r0 (.cons r1 (.cons r2 (.cons r3 (.nil))))) sz fun H4 s4 => ?_⟩
        have S5 := s4
        have h1d := S5.seq h1c
        refine ⟨_, rfl, rfl, ?_⟩
        refine ⟨_, rfl, _, rfl, iT (decide_eq_true rfl) ?_⟩
        refine ⟨_, rfl, _, _, _, _, rfl, rfl, h1d, rfl, _, rfl, _, _, _, _, rfl, rfl, h1d, rfl, _, rfl, _, _, _, _, rfl, rfl, h1d, rfl, _, rfl, _, _, _, _, rfl, rfl, h1d, rfl, toArgs (xs := [x0, x1, x2]) (ks := [k0, k1, k2]) (.cons (KdAt.tups (same_tups S5) r0) (.cons (KdAt.tups (same_tups S5) r1) (.cons (KdAt.tups (same_tups S5) r2) (.nil)))) (KdAt.tups (same_tups S5) r3) (by show 3 ≤ 1000; decide) fun H6 v6 s6 hv6 => ?_⟩
        refine ⟨_, rfl, l, [x0, x1, x2], x3, [k0, k1, k2], k3, rfl, s6.seq h1d, .cons (KdAt.tups (same_tups (S5.trans s6)) r0) (.cons (KdAt.tups (same_tups (S5.trans s6)) r1) (.cons (KdAt.tups (same_tups (S5.trans s6)) r2) (.nil))), KdAt.tups (same_tups (S5.trans s6)) r3, fun H7 v7 s7 hv7 => ?_⟩
        have fa : ([k0, k1, k2].foldr arrow k3).fit 60 := Kd.fit_mono (by show 8 + 2 * 3 ≤ 60; decide) (fit_arrows (hf k3 (by simp)) (ks := [k0, k1, k2]) fun q hq => hf q (List.mem_of_mem_take (i := 3) (l := [k0, k1, k2, k3]) hq))
        refine ⟨_, _, (KdAt.tups (same_tups s7) hv6).dp, hv7.dp, Kd.shaped fa (by decide), Kd.shaped fa (by decide), ?_⟩
        rw [eqv_self]
        exact k _ (S3.trans (S5.trans (s6.trans s7)))
end
end L3

/-! repr of a dict of kinds -/
namespace L3
open PySem PySem.Spec PyProof.Rows L2
def byD (b : By) : PyData := .dict (b.map fun q => (.str q.1, q.2.dat))
section
variable {X : Cx} {pins : List (Addr × Obj)} {σ : L2.St} {H : Hp} {s : Shared}
theorem kd_reads (I : Inv X pins σ H s) : ∀ {k : Kd} {v : V} {u : Value}, KdAt H v k → RelV v u → Reads s.heap u k.dat []
  | .var x, v, u, ⟨a, e, q⟩, r => by
    subst e
    obtain rfl : u = Value.ref a := r
    obtain ⟨its, rv, ⟨o, ho, hc, n, hd⟩, _⟩ := I.tuple (SqT.of q)
    cases rv with
    | cons r1 t1 =>
      cases t1 with
      | cons r2 t2 =>
        cases t2
        obtain ⟨k1, rfl⟩ := (show ∃ t, _ = Value.str "var" t from r1)
        obtain ⟨k2, rfl⟩ := (show ∃ t, _ = Value.str x t from r2)
        exact Reads.tuple (as := []) ho hc hd (ReadsAll.cons (as := []) (bs := []) (Reads.str _ _) (ReadsAll.cons (as := []) (bs := []) (Reads.str _ _) ReadsAll.nil))
  | .con x, v, u, ⟨a, e, q⟩, r => by
    subst e
    obtain rfl : u = Value.ref a := r
    obtain ⟨its, rv, ⟨o, ho, hc, n, hd⟩, _⟩ := I.tuple (SqT.of q)
    cases rv with
    | cons r1 t1 =>
      cases t1 with
      | cons r2 t2 =>
        cases t2
        obtain ⟨k1, rfl⟩ := (show ∃ t, _ = Value.str "con" t from r1)
        obtain ⟨k2, rfl⟩ := (show ∃ t, _ = Value.str x t from r2)
        exact Reads.tuple (as := []) ho hc hd (ReadsAll.cons (as := []) (bs := []) (Reads.str _ _) (ReadsAll.cons (as := []) (bs := []) (Reads.str _ _) ReadsAll.nil))
  | .app k1 k2, v, u, ⟨a, u1, u2, e, q, h1, h2⟩, r => by
    subst e
    obtain rfl : u = Value.ref a := r
    obtain ⟨its, rv, ⟨o, ho, hc, n, hd⟩, _⟩ := I.tuple (SqT.of q)
    cases rv with
    | cons r1 t1 =>
      cases t1 with
      | cons r2 t2 =>
        cases t2 with
        | cons r3 t3 =>
          cases t3
          obtain ⟨k1, rfl⟩ := (show ∃ t, _ = Value.str "apply" t from r1)
          exact Reads.tuple (as := []) ho hc hd (ReadsAll.cons (as := []) (bs := []) (Reads.str _ _) (ReadsAll.cons (as := []) (bs := []) (kd_reads I h1 r2) (ReadsAll.cons (as := []) (bs := []) (kd_reads I h2 r3) ReadsAll.nil)))
theorem by_keys {knd : KeyKind X.prog X.w Key} (hk : knd.is = keyIs) : ∀ {kvs : List (Key × V)} {b : By} {es : List DictEntry} {vs : List (Key × Value)}, ByAt H kvs b → KV kvs vs → Pairs knd es vs → ReadsAll s.heap (es.map (·.key)) ((b.map fun q => ((PyData.str q.1, q.2.dat) : PyData × PyData)).map (·.1)) []
  | _, _, _, _, .nil, .nil, .nil => ReadsAll.nil
  | _ :: _, _ :: _, [], _, .cons _ _, h2, h3 => by
    cases h3
    cases h2
  | (key, v) :: kvs, (x, k) :: b, e :: es, (key', u) :: vs, .cons ⟨e1, g⟩ t1, .cons ⟨e2, r⟩ t2, .cons h1 h2 t3 => by
    have e1' : key = .inr x := e1
    have e2' : key = key' := e2
    rw [hk] at h1
    have h1' : keyIs key' e.key = true := h1
    rw [← e2', e1'] at h1'
    obtain ⟨t, ht⟩ := Value.isStrOf_shape (x := x) (v := e.key) h1'
    have ih := by_keys hk t1 t2 t3
    show ReadsAll s.heap (e.key :: es.map (·.key)) (PyData.str x :: _) []
    rw [ht]
    exact ReadsAll.cons (as := []) (bs := []) (Reads.str _ _) ih
theorem by_vals (I : Inv X pins σ H s) {knd : KeyKind X.prog X.w Key} : ∀ {kvs : List (Key × V)} {b : By} {es : List DictEntry} {vs : List (Key × Value)}, ByAt H kvs b → KV kvs vs → Pairs knd es vs → ReadsAll s.heap (es.map (·.val)) ((b.map fun q => ((PyData.str q.1, q.2.dat) : PyData × PyData)).map (·.2)) []
  | _, _, _, _, .nil, .nil, .nil => ReadsAll.nil
  | _ :: _, _ :: _, [], _, .cons _ _, h2, h3 => by
    cases h3
    cases h2
  | (key, v) :: kvs, (x, k) :: b, e :: es, (key', u) :: vs, .cons ⟨e1, g⟩ t1, .cons ⟨e2, r⟩ t2, .cons h1 h2 t3 => by
    have ih := by_vals I t1 t2 t3
    have h2' : e.val = u := h2
    show ReadsAll s.heap (e.val :: es.map (·.val)) (k.dat :: _) []
    rw [h2']
    exact ReadsAll.cons (as := []) (bs := []) (kd_reads I g r) ih
theorem by_show : ∀ {b : By}, PyData.showableKv (b.map fun q => (.str q.1, q.2.dat)) = true
  | [] => by simp [PyData.showableKv]
  | q :: r => by simp [PyData.showableKv, PyData.showable, (Kd.show_ok q.2).1, by_show (b := r)]
theorem by_depth {n : Nat} : ∀ {b : By}, (∀ q ∈ b, q.2.fit n) → PyData.depthKv (b.map fun q => (.str q.1, q.2.dat)) ≤ n + 1
  | [], _ => by simp [PyData.depthKv]
  | q :: r, h => by
    have ih := by_depth (b := r) fun y hy => h y (List.mem_cons_of_mem _ hy)
    obtain ⟨_, h2⟩ := Kd.lay (h q List.mem_cons_self)
    simp only [List.map_cons, PyData.depthKv, PyData.depth]
    omega
theorem by_len {n : Nat} : ∀ {b : By}, (∀ q ∈ b, q.2.fit n ∧ Wok q.1) → ((PyData.shownKv (b.map fun q => (.str q.1, q.2.dat))).map (·.length)).sum ≤ b.length * (300 * 2 ^ n + 100)
  | [], _ => by simp [PyData.shownKv]
  | q :: r, h => by
    have ih := by_len (b := r) fun y hy => h y (List.mem_cons_of_mem _ hy)
    have h1 := Kd.shown_len (h q List.mem_cons_self).1
    have h2 := shown_word (h q List.mem_cons_self).2
    have e : (r.length + 1) * (300 * 2 ^ n + 100) = r.length * (300 * 2 ^ n + 100) + (300 * 2 ^ n + 100) := Nat.succ_mul ..
    simp only [List.map_cons, PyData.shownKv, List.sum_cons, List.length_cons]
    have ln : ∀ u v : Str, (u ++ v).length = u.length + v.length := fun u v => Array.size_append
    have l2 : (": " : Str).length = 2 := by decide +kernel
    rw [e, ln, ln, l2]
    generalize r.length * (300 * 2 ^ n + 100) = z at ih ⊢
    omega
/-- repr(d), d a dict of kinds -/
def rReprBy : List V → Hp → VK → Prop := fun xs H Q => ∃ (a : Addr) (kvs : List (Key × V)) (b : By), xs = [.ref a] ∧ H a = some (.dK kvs) ∧ ByAt H kvs b ∧ (∀ q ∈ b, q.2.fit 12 ∧ Wok q.1) ∧ b.length ≤ 4 ∧ Q (.str (byD b).shown) H
theorem call_reprBy (hg : X.A.guards = some []) (hu : X.A.units + 64 < cLine) : CallR X (.builtin "repr") rReprBy := by
  intro pins s σ H xs us Q I r h
  obtain ⟨a, kvs, b, rfl, hd, hb, hf, hl, q⟩ := h
  obtain ⟨u, rfl, rx⟩ := vals1 r
  obtain rfl : u = Value.ref a := rx
  obtain ⟨_, lo, vs, ra, da⟩ := (show ObjOk X.prog X.w H s.heap a (.dK kvs) from I.hok a _ hd)
  obtain ⟨ep, o, es, ho, hx, hdat, _, pr, _⟩ := da.dictAt
  have rd : Reads s.heap (.ref a) (byD b) [a] := Reads.dict (as := []) (bs := []) ho hx.1 hdat (by_keys rfl hb ra pr) (by_vals I hb ra pr)
  have hdep : (byD b).depth ≤ 20 := by
    have := by_depth (b := b) fun q hq => (hf q hq).1
    show PyData.depthKv _ + 1 ≤ 20
    omega
  refine repr_of_reads' rd by_show (fun _ hm => ?_) hg (by omega) (fun _ _ e => e) (fun h' u tk hk => ⟨.str (byD b).shown, H, I.kept (t' := tk) hk, ⟨u, rfl⟩, q⟩) ?_
  · have e := List.mem_singleton.mp hm
    rw [← e] at lo
    simp at lo
  · have h := dictText_len_le (PyData.shownKv (b.map fun q => (.str q.1, q.2.dat)))
    have h1 := by_len hf
    have h2 := PyData.shownKv_length (b.map fun q => ((PyData.str q.1, q.2.dat) : PyData × PyData))
    rw [List.length_map] at h2
    have c1 : b.length * (300 * 2 ^ 12 + 100) ≤ 4 * (300 * 2 ^ 12 + 100) := Nat.mul_le_mul_right _ hl
    show (dictText (PyData.shownKv (b.map fun q => (.str q.1, q.2.dat)))).length ≤ sizeLine
    rw [sizeLine_eq]
    omega
end
end L3

set_option maxHeartbeats 4000000
/-! [e for p in zip(a, b) if ..], p a name: the first pair that came is held by the zip, so whoever writes the loop keeps it -/
namespace L3
open PySem PySem.Spec PyProof.Rows L2
/-- a zip behind i turns; G is the pair that it holds -/
structure ZS (h : Heap) (z TI TO i1 i2 a b : Addr) (i : Nat) (G : Option Addr) : Prop where
  ti : IsPair h TI (.ref i1) (.ref i2)
  to : ∃ x y, IsPair h TO x y
  l1 : h.IsListIter i1 a i
  l2 : h.IsListIter i2 b i
  st : (G = none ∧ IsZip h z TI TO .none) ∨ ∃ T f, G = some T ∧ IsZipHeld h z TI TO T f
section
variable {h g : Heap} {z TI TO i1 i2 a b : Addr} {i : Nat} {G : Option Addr}
abbrev zfp (z TI TO i1 i2 : Addr) : List Addr := [z, TI, TO, i1, i2]
theorem zfp_mem {c : Addr} (m : c ∈ zfp z TI TO i1 i2) : c = z ∨ c = TI ∨ c = TO ∨ c = i1 ∨ c = i2 := by simpa using m
theorem ZS.zip (S : ZS h z TI TO i1 i2 a b i G) : ∃ o, h.get? z = some o ∧ ∀ v, o.data ≠ .cell v := by
  rcases S.st with ⟨_, q⟩ | ⟨_, _, _, q⟩
  · exact ⟨_, q, fun v e => nomatch e⟩
  · exact ⟨_, q, fun v e => nomatch e⟩
theorem ZS.obj (S : ZS h z TI TO i1 i2 a b i G) : ∀ c ∈ zfp z TI TO i1 i2, ∃ o, h.get? c = some o ∧ ∀ v, o.data ≠ .cell v := by
  intro c m
  rcases zfp_mem m with e | e | e | e | e <;> rw [e]
  · exact S.zip
  · exact ⟨_, S.ti, fun v e => nomatch e⟩
  · obtain ⟨_, _, q⟩ := S.to
    exact ⟨_, q, fun v e => nomatch e⟩
  · obtain ⟨o, q, _, d⟩ := S.l1
    exact ⟨o, q, fun v e => by rw [d] at e; cases e⟩
  · obtain ⟨o, q, _, d⟩ := S.l2
    exact ⟨o, q, fun v e => by rw [d] at e; cases e⟩
theorem ZS.keep (S : ZS h z TI TO i1 i2 a b i G) (k : ∀ c ∈ zfp z TI TO i1 i2, ∀ o, h.get? c = some o → g.get? c = some o) : ZS g z TI TO i1 i2 a b i G where
  ti := k TI (by simp) _ S.ti
  to := let ⟨x, y, q⟩ := S.to; ⟨x, y, k TO (by simp) _ q⟩
  l1 := S.l1.at fun o q => k i1 (by simp) o q
  l2 := S.l2.at fun o q => k i2 (by simp) o q
  st := by
    rcases S.st with ⟨e, q⟩ | ⟨T, f, e, q⟩
    · exact .inl ⟨e, k z (by simp) _ q⟩
    · exact .inr ⟨T, f, e, k z (by simp) _ q⟩
end
/-- what is held behind the next pair -/
def heldNext (G : Option Addr) (T : Addr) : Option Addr := some (G.getD T)
section
variable {X : Cx} {pins : List (Addr × Obj)} {σ : L2.St} {H : Hp} {s : Shared} {z TI TO i1 i2 a b : Addr} {i : Nat} {G : Option Addr}
/-- a pair comes -/
theorem zs_item (D : ZipApart z TI TO i1 i2 a b) {xs ys : List V} {x y : V} {E : Value → Shared → Prop} (I : Inv X pins σ H s) (hf : ∀ c ∈ zfp z TI TO i1 i2, FpOk X pins H c) (S : ZS s.heap z TI TO i1 i2 a b i G) (hG : ∀ T, G = some T → ∃ us, H T = some (.tup us))
    (qx : SqL X.K H a xs) (qy : SqL X.K H b ys) (ex : xs[i]? = some x) (ey : ys[i]? = some y) :
    wpAny (model X.prog X.w) X.A (pyNext (.ref z)) (fun r s1 => ∃ T, r = some (.ref T) ∧ H T = none ∧ Inv X pins σ (upd H T (.tup [x, y])) s1 ∧ ZS s1.heap z TI TO i1 i2 a b (i + 1) (heldNext G T) ∧ ∀ c ∈ zfp z TI TO i1 i2, (upd H T (.tup [x, y])) c = none) E s := by
  obtain ⟨ua, ra, pa, _⟩ := I.list qx
  obtain ⟨ub, rb, pb, _⟩ := I.list qy
  obtain ⟨u, hu, ru⟩ := ra.get ex
  obtain ⟨v, hv, rv⟩ := rb.get ey
  have lt : ∀ c ∈ zfp z TI TO i1 i2, c < s.heap.objs.size := fun c m => by
    obtain ⟨o, q, _⟩ := S.obj c m
    exact Heap.lt_size q
  have fresh : H s.heap.objs.size = none := I.hok.fresh (Nat.le_refl _)
  have off : ∀ c ∈ zfp z TI TO i1 i2, (upd H s.heap.objs.size (.tup [x, y])) c = none := fun c m => by
    rw [upd_ne (Nat.ne_of_lt (lt c m))]
    exact (hf c m).1
  have land : ∀ h', h'.get? s.heap.objs.size = some { cls := .type "tuple", data := .seq #[u, v] } → (∀ c o, c ∉ zfp z TI TO i1 i2 → s.heap.get? c = some o → h'.get? c = some o) → Inv X pins σ (upd H s.heap.objs.size (.tup [x, y])) { s with heap := h' } := fun h' q k =>
    I.turnedNew (t' := s.toks) (ch := zfp z TI TO i1 i2) k hf (Nat.le_refl _) ⟨by show 2 ≤ sizeLine; decide, [u, v], .cons ru (.cons rv .nil), ⟨_, q, rfl, _, rfl⟩⟩
  have hu' : ua.toArray[i]? = some u := by simpa using hu
  have hv' : ub.toArray[i]? = some v := by simpa using hv
  obtain ⟨x0, y0, hTO⟩ := S.to
  rcases S.st with ⟨e, hz⟩ | ⟨T, f, e, hz⟩
  · refine wpAny_pyNext_zip_item D hz S.ti hTO S.l1 S.l2 pa.isList pb.isList hu' hv' fun h' c1 c2 c3 c4 c5 c6 k => ?_
    have kz : ∀ c o, c ∉ zfp z TI TO i1 i2 → s.heap.get? c = some o → h'.get? c = some o := fun c o n q => by
      simp only [List.mem_cons, List.not_mem_nil, or_false, not_or] at n
      exact k c o n.1 n.2.2.1 n.2.2.2.1 n.2.2.2.2 q
    refine ⟨_, rfl, fresh, land h' c5 kz, ⟨k _ _ D.TIz D.TITO D.TIi1 D.TIi2 S.ti, ⟨_, _, c2⟩, c3, c4, .inr ⟨s.heap.objs.size, false, by rw [e]; rfl, c1⟩⟩, off⟩
  · obtain ⟨w, hw⟩ := hG T e
    obtain ⟨oT, hT⟩ : ∃ o, s.heap.get? T = some o := by
      obtain ⟨_, _, ⟨o, q, _⟩, _⟩ := I.tuple (SqT.of hw)
      exact ⟨o, q⟩
    refine wpAny_pyNext_zip_item_held D hz hT S.ti S.l1 S.l2 pa.isList pb.isList hu' hv' fun h' c1 c3 c4 c5 c6 k => ?_
    have kz : ∀ c o, c ∉ zfp z TI TO i1 i2 → s.heap.get? c = some o → h'.get? c = some o := fun c o n q => by
      simp only [List.mem_cons, List.not_mem_nil, or_false, not_or] at n
      exact k c o n.1 n.2.2.2.1 n.2.2.2.2 q
    refine ⟨_, rfl, fresh, land h' c5 kz, ⟨k _ _ D.TIz D.TIi1 D.TIi2 S.ti, ⟨_, _, k _ _ D.TOz D.TOi1 D.TOi2 hTO⟩, c3, c4, .inr ⟨T, true, by rw [e]; rfl, c1⟩⟩, off⟩
/-- no pair comes any more -/
theorem zs_done (D : ZipApart z TI TO i1 i2 a b) {xs ys : List V} {E : Value → Shared → Prop} (hc : X.A.handled = none) (I : Inv X pins σ H s) (hf : ∀ c ∈ zfp z TI TO i1 i2, FpOk X pins H c) (S : ZS s.heap z TI TO i1 i2 a b i G) (hG : ∀ T, G = some T → ∃ us, H T = some (.tup us))
    (qx : SqL X.K H a xs) (qy : SqL X.K H b ys) (e : xs.length ≤ i) : wpAny (model X.prog X.w) X.A (pyNext (.ref z)) (fun r s1 => r = none ∧ Inv X pins σ H s1) E s := by
  obtain ⟨ua, ra, pa, _⟩ := I.list qx
  obtain ⟨ub, rb, pb, _⟩ := I.list qy
  have la := ra.length
  have out : ua.toArray[i]? = none ∨ ub.toArray[i]? = none := .inl (by simp; omega)
  have land : ∀ h', (∀ c o, c ∉ zfp z TI TO i1 i2 → s.heap.get? c = some o → h'.get? c = some o) → Inv X pins σ H { s with heap := h' } := fun h' k => I.turnedL (t' := s.toks) (ch := zfp z TI TO i1 i2) k hf
  obtain ⟨x0, y0, hTO⟩ := S.to
  rcases S.st with ⟨_, hz⟩ | ⟨T, f, e2, hz⟩
  · refine wpAny_pyNext_zip_end hc D hz S.ti hTO S.l1 S.l2 pa.isList pb.isList out fun h' k => ⟨rfl, land h' fun c o n q => ?_⟩
    simp only [List.mem_cons, List.not_mem_nil, or_false, not_or] at n
    exact k c o n.1 n.2.2.1 n.2.2.2.1 n.2.2.2.2 q
  · obtain ⟨w, hw⟩ := hG T e2
    obtain ⟨_, _, ⟨oT, hT, _⟩, _⟩ := I.tuple (SqT.of hw)
    refine wpAny_pyNext_zip_end_held hc D hz hT S.ti S.l1 S.l2 pa.isList pb.isList out fun h' k => ⟨rfl, land h' fun c o n q => ?_⟩
    simp only [List.mem_cons, List.not_mem_nil, or_false, not_or] at n
    exact k c o n.1 n.2.2.2.1 n.2.2.2.2 q
end
/-- the zip has come -/
def ZCome (X : Cx) (pins : List (Addr × Obj)) (σ : L2.St) (R : Addr → Addr → List V → List V → Hp → Prop) (v : Value) (s : Shared) : Prop :=
  ∃ (z TI TO i1 i2 a b : Addr) (H : Hp), v = .ref z ∧ ZipApart z TI TO i1 i2 a b ∧ Inv X pins σ H s ∧ ZS s.heap z TI TO i1 i2 a b 0 none ∧ (∀ c ∈ zfp z TI TO i1 i2, FpOk X pins H c) ∧ (∀ (A : Around) (Q : Value → Shared → Prop) (E : Value → Shared → Prop) (s' : Shared), (∃ G, ZS s'.heap z TI TO i1 i2 a b 0 G ∧ G = none) → Q (.ref z) s' → wpAny (model X.prog X.w) A (pyIter (.ref z)) Q E s') ∧ ∃ xs ys, R a b xs ys H
theorem zcome_of {X : Cx} {pins : List (Addr × Obj)} {σ : L2.St} {R : Addr → Addr → List V → List V → Hp → Prop} {s : Shared} {z TI TO i1 i2 a b : Addr} {H : Hp} (D : ZipApart z TI TO i1 i2 a b) (I : Inv X pins σ H s) (S : ZS s.heap z TI TO i1 i2 a b 0 none) (F : ∀ c ∈ zfp z TI TO i1 i2, FpOk X pins H c) (q : ∃ xs ys, R a b xs ys H) :
    ZCome X pins σ R (.ref z) s := by
  refine ⟨z, TI, TO, i1, i2, a, b, H, rfl, D, I, S, F, fun A Q E s' h hq => ?_, q⟩
  obtain ⟨G, S', eg⟩ := h
  rcases S'.st with ⟨_, w⟩ | ⟨T, f, w, _⟩
  · exact wpAny_pyIter_zip w hq
  · rw [eg] at w
    cases w
section
variable {X : Cx} {e e2 : Expr} {ta : TA} {p pos : Pos}
theorem zip_come (hg : Gl X "zip") (hm : X.mg "zip" = none) (ha : PA X [e, e2] ta) {pins : List (Addr × Obj)} {σ : L2.St} {H : Hp} {s : Shared} {R : Addr → Addr → List V → List V → Hp → Prop} (I : Inv X pins σ H s)
    (h : ta σ H fun vs H1 => ∃ a b xs ys, vs = [.ref a, .ref b] ∧ SqL X.K H1 a xs ∧ SqL X.K H1 b ys ∧ R a b xs ys H1)
    (hs : starEach [e, e2] X.env = (false, eval e X.env) :: starEach [e2] X.env := by rfl) (hpl : (backTo pos (starEach [e2] X.env)).any (·.1) = false := by rfl) :
    wpAny (model X.prog X.w) X.A (eval (.Call (.Name "zip" p) [e, e2] [] pos) X.env) (fun v s1 => wpAny (model X.prog X.w) X.A (pyIter v) (ZCome X pins σ R) X.xe s1) X.xe s := by
  refine Call_ (ld_blt I hg hm PyProof.Rows.boot_zip (PyProof.Rows.callWith_type1 (thn (ha.run pos pins s σ H _ I h) fun us s1 ⟨vs, H1, I1, r1, a, b, xs, ys, ev, qa, qb, q⟩ => ?_) hs hpl))
  subst ev
  obtain ⟨ua, ur, rfl⟩ : ∃ ua ur, us = ua :: ur := by
    cases r1 with
    | cons _ _ => exact ⟨_, _, rfl⟩
  cases r1 with
  | cons ra rr =>
  obtain ⟨ub, rfl⟩ : ∃ ub, ur = [ub] := by
    cases rr with
    | cons _ r3 =>
      cases r3
      exact ⟨_, rfl⟩
  cases rr with
  | cons rb r3 =>
  obtain rfl : ua = Value.ref a := ra
  obtain rfl : ub = Value.ref b := rb
  clear r3
  obtain ⟨ia, _, pa, _⟩ := I1.list qa
  obtain ⟨ib, _, pb, _⟩ := I1.list qb
  refine call_zip_2 pa.isList pb.isList fun h' hz hTI hTO k1 k2 _ hk => wpAny_pyIter_zip hz ?_
  have D := PySem.W.ktu_apart s1.heap.objs.size a b pa.lt pb.lt
  have S : ZS h' (s1.heap.objs.size + 4) (s1.heap.objs.size + 2) (s1.heap.objs.size + 3) s1.heap.objs.size (s1.heap.objs.size + 1) a b 0 none := ⟨hTI, ⟨_, _, hTO⟩, k1, k2, .inl ⟨rfl, hz⟩⟩
  have F : ∀ c ∈ zfp (s1.heap.objs.size + 4) (s1.heap.objs.size + 2) (s1.heap.objs.size + 3) s1.heap.objs.size (s1.heap.objs.size + 1), FpOk X pins H1 c := fun c m => by
    have le : s1.heap.objs.size ≤ c := by
      rcases zfp_mem m with w | w | w | w | w <;> rw [w]
      · exact Nat.le_add_right _ _
      · exact Nat.le_add_right _ _
      · exact Nat.le_add_right _ _
      · exact Nat.le_refl _
      · exact Nat.le_add_right _ _
    exact I1.fpOk le (I1.hok.fresh le)
  have I2 : Inv X pins σ H1 { s1 with heap := h' } := I1.kept (t' := s1.toks) hk
  exact zcome_of D I2 S F ⟨xs, ys, q⟩
end
end L3

/-! [e for p in zip(a, b) if ..], p a name: the loop -/
namespace L3
open PySem PySem.Spec PyProof.Rows L2
/-- what a turn is to reach; W by the turn, the held pair, a measure -/
def tLcZ (K : PySem.W.Frag) (ta : TA) (g : TG) (tt : TT) (te : TE) (vs : List Nat) : TE := fun σ H Q => ta σ H fun args H1 => ∃ a b xs ys, args = [.ref a, .ref b] ∧ SqL K H1 a xs ∧ SqL K H1 b ys ∧ xs.length = ys.length ∧
  ∀ D, H1 D = none → ∃ W : Nat → Option Addr → Nat → Hp → Prop, (∃ m, W 0 none m (upd H1 D (.lst []))) ∧ ∀ i G m H, W i G m H → SqL K H a xs ∧ SqL K H b ys ∧ (∀ T, G = some T → ∃ us, H T = some (.tup us)) ∧
    ((xs.length ≤ i ∧ Q (.ref D) H) ∨ ∃ x y, xs[i]? = some x ∧ ys[i]? = some y ∧ ∃ Nx : Option Addr → Hp → Prop, (∀ G' H', Nx G' H' → ∃ m', m' < m ∧ W (i + 1) G' m' H') ∧ ∀ T, H T = none →
      g (.ref T) (wipe σ vs) (upd H T (.tup [x, y])) fun σ2 H2 => wipe σ2 vs = wipe σ vs ∧ tt σ2 H2 fun c H3 => if c = true then te σ2 H3 fun z H4 => ∃ acc, H4 D = some (.lst acc) ∧ acc.length < sizeLine ∧ Nx (heldNext G T) (upd H4 D (.lst (acc ++ [z]))) else Nx (heldNext G T) H3)
section
variable {X : Cx}
theorem pe_lcZ {nm : Str} {np p pz pos : Pos} {e e2 elt : Expr} {ifs : List Expr} {scope : Scope} {own : List (Str × Nat)} {ta : TA} {g : TG} {tt : TT} {te : TE} (calm : X.calm = true) (nd : X.N.Nodup) (hgz : Gl X "zip") (hmz : X.mg "zip" = none) (ha : PA X [e, e2] ta) (ok : BlkOk X.N X.env.scope scope own)
    (hg : ∀ (s : Shared) (H : Hp) (C : Addr) (cl : List (Str × Addr)) (fp : List Addr), PG (X.blk s H scope (compEnvC scope cl C X.env) fp) (.Name nm np) g)
    (ht : ∀ (s : Shared) (H : Hp) (C : Addr) (cl : List (Str × Addr)) (fp : List Addr), PTs (X.blk s H scope (compEnvC scope cl C X.env) fp) ifs tt)
    (he : ∀ (s : Shared) (H : Hp) (C : Addr) (cl : List (Str × Addr)) (fp : List Addr), PE (X.blk s H scope (compEnvC scope cl C X.env) fp) elt te)
    (hfold : ∀ x, foldedSetIterable (.Call (.Name "zip" p) [e, e2] [] pz) X.env x = pure x := by intro _; rfl)
    (hs : starEach [e, e2] X.env = (false, eval e X.env) :: starEach [e2] X.env := by rfl) (hpl : (backTo pz (starEach [e2] X.env)).any (·.1) = false := by rfl) :
    PE X (.ListComp elt [⟨.Name nm np, .Call (.Name "zip" p) [e, e2] [] pz, ifs, 0⟩] scope pos) (tLcZ X.K ta g tt te (own.map (·.2))) := by
  refine ⟨fun pins s σ H Q I h => ?_⟩
  rw [eval_ListComp]
  have free : ∀ y ∈ scope.names, y.2 = .free → ∃ c, X.env.cells.lookup y.1 = some c := fun y hy q => (ok.free y hy q).elim (fun k => I.ok.has _ (.inl k)) (fun k => I.ok.has _ (.inr k))
  -- behind the loop
  have last : ∀ {D C : Addr} {s' : Shared} {m : Str → Option Value} {H' : Hp}, Inv X pins σ H' s' → Q (.ref D) H' → s'.heap.Ns C m → FpOk X pins H' C → compPost (model X.prog X.w) X.A X.xe none (EP X pins σ Q) (.ref D) C (.ok .next) s' := by
    intro D C s' m H' I' q hn f
    obtain ⟨f0, f1, f2, f3, f4, f5⟩ := f
    exact ⟨m, hn, fun h'' sb => ⟨.ref D, H', I'.turned (t' := s'.toks) (fun c o n q => (sb.2 c n).trans q) f0 f1 f3 f4 f5, rfl, q⟩⟩
  refine wpAny_comprehension_free (use := none) rfl hfold (closure_ok free) ok.kind (fun y hy q => by rw [ok.uniq y hy, q]) (thn (zip_come hgz hmz ha I h hs hpl) fun xv s1 hx => thn hx fun itv s2 come => ?_)
  obtain ⟨z, TI, TO, i1, i2, a, b, H2, ev, DZ, I2, Z2, F2, self, xs, ys, lxy, q⟩ := come
  subst ev
  refine wpAny_newObj_type (newEnv_comp ?_) (by show 0 ≤ sizeLine; decide)
  generalize eD : s2.heap.objs.size = D
  obtain ⟨W, ⟨m0, w0⟩, turn⟩ := q D (I2.hok.fresh (Nat.le_of_eq eD))
  have at3 : (s2.heap.push { cls := .type "list", data := .seq ([] : List Value).toArray }).get? D = some { cls := .type "list", data := .seq ([] : List Value).toArray } := by
    rw [← eD]
    exact Heap.get?_push_size _ rfl
  have k3 : ∀ c o, s2.heap.get? c = some o → (s2.heap.push { cls := .type "list", data := .seq ([] : List Value).toArray }).get? c = some o := fun c o q => Heap.get?_push_of_some _ q
  have I3 : Inv X pins σ (upd H2 D (.lst [])) { s2 with heap := s2.heap.push { cls := .type "list", data := .seq ([] : List Value).toArray } } := I2.laid (t' := s2.toks) k3 (Nat.le_of_eq eD) ⟨Nat.zero_le _, [], 0, .nil, at3⟩
  have Z3 := Z2.keep fun c _ o q => k3 c o q
  have lt3 : ∀ c ∈ zfp z TI TO i1 i2, c < s2.heap.objs.size := fun c m => let ⟨_, q, _⟩ := Z2.obj c m; Heap.lt_size q
  have F3 : ∀ c ∈ zfp z TI TO i1 i2, FpOk X pins (upd H2 D (.lst [])) c ∧ c < (s2.heap.push { cls := .type "list", data := .seq ([] : List Value).toArray }).objs.size := fun c m => by
    refine ⟨⟨?_, (F2 c m).2⟩, ?_⟩
    · rw [upd_ne (by rw [← eD]; exact Nat.ne_of_lt (lt3 c m))]
      exact (F2 c m).1
    · obtain ⟨_, q, _⟩ := Z3.obj c m
      exact Heap.lt_size q
  generalize e3 : ({ s2 with heap := s2.heap.push { cls := .type "list", data := .seq ([] : List Value).toArray } } : Shared) = s3 at I3 ⊢
  have h3 : s3.heap = s2.heap.push { cls := .type "list", data := .seq ([] : List Value).toArray } := by rw [← e3]
  rw [← h3] at F3 Z3
  generalize eH : upd H2 D (.lst []) = H3 at I3 F3 w0 ⊢
  have I4 := block_start I3 ok nd F3
  have pg := hg s3 H3 s3.heap.objs.size (cellsFrom (s3.heap.objs.size + 1) scope.names (cloFrom X.env.cells scope.names [])) (zfp z TI TO i1 i2)
  have pt := ht s3 H3 s3.heap.objs.size (cellsFrom (s3.heap.objs.size + 1) scope.names (cloFrom X.env.cells scope.names [])) (zfp z TI TO i1 i2)
  have pe := he s3 H3 s3.heap.objs.size (cellsFrom (s3.heap.objs.size + 1) scope.names (cloFrom X.env.cells scope.names [])) (zfp z TI TO i1 i2)
  show codeAny _ _ (.compStart (.ListComp elt [⟨.Name nm np, .Call (.Name "zip" p) [e, e2] [] pz, ifs, 0⟩] scope pos) 0 (.ref z) (.ref D) (compEnvC scope (cellsFrom (s3.heap.objs.size + 1) scope.names (cloFrom X.env.cells scope.names [])) s3.heap.objs.size X.env)) (compPost _ _ _ none (EP X pins σ Q) (.ref D) s3.heap.objs.size) { s3 with heap := pushCells (s3.heap.push { cls := .type "dict", data := .dict #[] }) scope.names }
  generalize ec : compEnvC scope (cellsFrom (s3.heap.objs.size + 1) scope.names (cloFrom X.env.cells scope.names [])) s3.heap.objs.size X.env = ce at I4 pg pt pe ⊢
  have cl : ce.locals = s3.heap.objs.size := by rw [← ec]; rfl
  generalize e4 : ({ s3 with heap := pushCells (s3.heap.push { cls := .type "dict", data := .dict #[] }) scope.names } : Shared) = s4 at I4 ⊢
  have Z4 : ZS s4.heap z TI TO i1 i2 a b 0 none := Z3.keep fun c _ o q => by
    rw [← e4]
    exact pushCells_keeps _ _ _ _ (Heap.get?_push_of_some _ q)
  have still : ∀ {σ' : L2.St} {H' : Hp} {s' : Shared}, Inv (X.blk s3 H3 scope ce (zfp z TI TO i1 i2)) [] σ' H' s' → (∀ c ∈ zfp z TI TO i1 i2, H' c = none) → ∀ c ∈ zfp z TI TO i1 i2, FpOk (X.blk s3 H3 scope ce (zfp z TI TO i1 i2)) [] H' c := fun {σ' H' s'} J n c m =>
    ⟨n c m, (J.ok.exf c m).1, J.ok.exfs c m, .inl m, fun y d q => (J.ok.exf c m).2 y d q, fun r hr => absurd (show r ∈ ([] : List (Addr × Obj)) ++ [] from hr) (by simp)⟩
  have loop : codeAny (model X.prog X.w) X.A (.compLoop (.ListComp elt [⟨.Name nm np, .Call (.Name "zip" p) [e, e2] [] pz, ifs, 0⟩] scope pos) 0 (.ref z) (.ref D) ce) (compPost (model X.prog X.w) X.A X.xe none (EP X pins σ Q) (.ref D) s3.heap.objs.size) s4 := by
    refine compLoop_any (fun n s' => ∃ i G H', Inv (X.blk s3 H3 scope ce (zfp z TI TO i1 i2)) [] (wipe σ (own.map (·.2))) H' s' ∧ ZS s'.heap z TI TO i1 i2 a b i G ∧ (∀ c ∈ zfp z TI TO i1 i2, H' c = none) ∧ W i G n H') ?_ m0 ⟨0, none, H3, I4, Z4, fun c m => (F3 c m).1.1, w0⟩
    rintro n s5 ⟨i, G, H5, I5, Z5, n5, w5⟩
    obtain ⟨qx, qy, hG, alt⟩ := turn i G n H5 w5
    rcases alt with ⟨le, qq⟩ | ⟨x, y, ex, ey, Nx, hNx, step⟩
    · refine thnF (zs_done (X := X.blk s3 H3 scope ce (zfp z TI TO i1 i2)) DZ (I5.ok.hd calm) I5 (still I5 n5) Z5 hG qx qy le) fun r s6 ⟨er, I6⟩ => ?_
      subst er
      have I7 : Inv X pins σ H5 s6 := I3.call' (ch := zfp z TI TO i1 i2) I6.os I6.base I6.hok I6.bare fun c m => ⟨(F3 c m).1.2.2.2.1, (F3 c m).1.2.1, (F3 c m).1.2.2.2.2.1, (F3 c m).1.2.2.2.2.2⟩
      have nC : H5 s3.heap.objs.size = none := by
        have q : H5 ce.locals = none := I6.free
        rw [cl] at q
        exact q
      obtain ⟨mm, hn, _⟩ := I6.loc
      have hn' : s6.heap.Ns ce.locals mm := hn
      rw [cl] at hn'
      exact last I7 qq hn' (I3.fpOk (Nat.le_refl _) nC)
    · refine thnF (zs_item (X := X.blk s3 H3 scope ce (zfp z TI TO i1 i2)) DZ I5 (still I5 n5) Z5 hG qx qy ex ey) fun r s6 ⟨T, er, hT, I7, Z7, n7⟩ => ?_
      subst er
      refine wpAny_pure ?_
      have J7 := I7.pinned (still I7 n7) Z7.obj
      refine thnF (pg.run _ s6 _ (upd H5 T (.tup [x, y])) (.ref T) (.ref T) _ J7 rfl (step T hT)) fun _ s8 ⟨σ8, H8, I8, hw8, q8⟩ => ?_
      refine thnF (pt.run _ s8 σ8 H8 _ I8 q8) fun c s9 ⟨H9, I9, q9⟩ => ?_
      have fin : ∀ {s' : Shared} {H' : Hp}, Inv (X.blk s3 H3 scope ce (zfp z TI TO i1 i2)) ([] ++ pinsAt (zfp z TI TO i1 i2) s6.heap) σ8 H' s' → Nx (heldNext G T) H' → ∃ m, m < n ∧ ∃ i G H', Inv (X.blk s3 H3 scope ce (zfp z TI TO i1 i2)) [] (wipe σ (own.map (·.2))) H' s' ∧ ZS s'.heap z TI TO i1 i2 a b i G ∧ (∀ c ∈ zfp z TI TO i1 i2, H' c = none) ∧ W i G m H' := fun {s' H'} J nx => by
        obtain ⟨m', lt, w'⟩ := hNx _ H' nx
        have pin : ∀ c ∈ zfp z TI TO i1 i2, ∀ o, s6.heap.get? c = some o → s'.heap.get? c = some o ∧ H' c = none := fun c m o q =>
          let w := J.pin (c, o) (List.mem_append_right _ (List.mem_append_right _ (mem_pinsAt m q)))
          ⟨w.1, w.2.1⟩
        have ln : (wipe σ (own.map (·.2))).length = σ8.length := by rw [← hw8, wipe_length]
        refine ⟨m', lt, i + 1, heldNext G T, H', (J.unpinned (pins := [])).weak ln (fun j v q => ?_), Z7.keep fun c m o q => (pin c m o q).1, fun c m => ?_, w'⟩
        · rw [← hw8] at q
          exact (wipe_some q).1
        · obtain ⟨o, q, _⟩ := Z7.obj c m
          exact (pin c m o q).2
      cases c with
      | false =>
        simp only [Bool.false_eq_true, if_false] at q9 ⊢
        exact fin I9 q9
      | true =>
        simp only [if_true] at q9 ⊢
        refine thnF (pe.run _ s9 σ8 H9 _ I9 q9) fun zz s10 ⟨yv, H10, I10, r10, acc, hD10, hz10, nx⟩ => ?_
        exact app_ok (X := X.blk s3 H3 scope ce (zfp z TI TO i1 i2)) I10 hD10 hz10 r10 fun s11 I11 => fin I11 nx
  exact codeAny_compStart_list loop (self X.A _ _ _ ⟨none, Z4, rfl⟩ loop)
end
end L3

/-! the law itself -/
namespace L3
open PySem L2 PyProof.Rows
theorem byAt_setE {H : Hp} {m : Nat} {x : Str} {v : V} {k : Kd} (g : KdAt H v k) (f : k.fit m) (wx : Wok x) : ∀ {kvs : List (Key × V)} {b : By}, ByAt H kvs b → (∀ q ∈ b, q.2.fit m ∧ Wok q.1) → ∃ b' : By, ByAt H (kvs.map fun kv => if kv.1 = (.inr x : Key) then (kv.1, v) else kv) b' ∧ ∀ q ∈ b', q.2.fit m ∧ Wok q.1
  | _, _, .nil, _ => ⟨[], .nil, fun _ q => nomatch q⟩
  | p :: kvs, q :: b, .cons r t, h => by
    obtain ⟨b', h1, h2⟩ := byAt_setE g f wx t fun y hy => h y (List.mem_cons_of_mem _ hy)
    by_cases e : p.1 = (.inr x : Key)
    · refine ⟨(q.1, k) :: b', ?_, fun y hy => ?_⟩
      · rw [List.map_cons, if_pos e]
        exact .cons ⟨r.1, g⟩ h1
      · rcases List.mem_cons.mp hy with z | z
        · rw [z]; exact ⟨f, (h q List.mem_cons_self).2⟩
        · exact h2 y z
    · refine ⟨q :: b', ?_, fun y hy => ?_⟩
      · rw [List.map_cons, if_neg e]
        exact .cons r h1
      · rcases List.mem_cons.mp hy with z | z
        · rw [z]; exact h q List.mem_cons_self
        · exact h2 y z
theorem byAt_putE {H : Hp} {m : Nat} {x : Str} {v : V} {k : Kd} (g : KdAt H v k) (f : k.fit m) (wx : Wok x) {kvs : List (Key × V)} {b : By} (hb : ByAt H kvs b) (hf : ∀ q ∈ b, q.2.fit m ∧ Wok q.1) : ∃ b' : By, ByAt H (putK kvs (.inr x) v) b' ∧ ∀ q ∈ b', q.2.fit m ∧ Wok q.1 := by
  unfold putK
  split
  · exact byAt_setE g f wx hb hf
  · refine ⟨b ++ [(x, k)], Paired.snoc hb ⟨rfl, g⟩, fun y hy => ?_⟩
    rcases List.mem_append.mp hy with z | z
    · exact hf y z
    · rw [List.mem_singleton.mp z]; exact ⟨f, wx⟩
theorem byAt_merge {H : Hp} {m : Nat} : ∀ {more : List (Key × V)} {qs : By} {kvs : List (Key × V)} {b : By}, ByAt H more qs → (∀ q ∈ qs, q.2.fit m ∧ Wok q.1) → ByAt H kvs b → (∀ q ∈ b, q.2.fit m ∧ Wok q.1) → ∃ b' : By, ByAt H (mergeK kvs more) b' ∧ ∀ q ∈ b', q.2.fit m ∧ Wok q.1
  | _, _, kvs, b, .nil, _, hb, hf => ⟨b, hb, hf⟩
  | (key, v) :: more, (x, k) :: qs, kvs, b, .cons r t, h, hb, hf => by
    obtain ⟨e, g⟩ := r
    have e' : key = .inr x := e
    subst e'
    obtain ⟨b1, h1, h2⟩ := byAt_putE (x := x) g (h (x, k) List.mem_cons_self).1 (h (x, k) List.mem_cons_self).2 hb hf
    exact byAt_merge (more := more) (qs := qs) t (fun y hy => h y (List.mem_cons_of_mem _ hy)) h1 h2
theorem cps_append (x y : Str) : (x ++ y).cps.toList = x.cps.toList ++ y.cps.toList := Array.toList_append
theorem rests_ok : ∀ r ∈ rests, ∀ c ∈ r.cps.toList, 97 ≤ c ∧ c ≤ 122 := by decide +kernel
theorem words_wok {rest : Str} {first n : Nat} {d : Bool} (h : rest ∈ rests) : ∀ x ∈ (lets first n).map (mkW rest d), Wok x := by
  intro x hx
  obtain ⟨ch, hc, rfl⟩ := List.mem_map.mp hx
  unfold lets at hc
  obtain ⟨j, _, rfl⟩ := List.mem_map.mp hc
  have rl := rests_len _ h
  have ro := rests_ok _ h
  have so : ∀ c ∈ (sgn ((first + 7 * j) % 26)).cps.toList, 97 ≤ c ∧ c ≤ 122 := by
    intro c hc
    have e : c = 97 + (first + 7 * j) % 26 := List.mem_singleton.mp hc
    omega
  have sl : (sgn ((first + 7 * j) % 26)).length = 1 := rfl
  have ln : ∀ u v : Str, (u ++ v).length = u.length + v.length := fun u v => Array.size_append
  unfold mkW
  cases d
  · refine ⟨?_, ?_, fun c hc => ?_⟩
    · show 1 ≤ (_ ++ _ : Str).length
      rw [ln]; omega
    · show (_ ++ _ : Str).length ≤ 8
      rw [ln]; omega
    · rcases List.mem_append.mp ((cps_append _ _) ▸ hc) with q | q
      · exact so c q
      · exact ro c q
  · refine ⟨?_, ?_, fun c hc => ?_⟩
    · show 1 ≤ (_ ++ _ : Str).length
      rw [ln]; omega
    · show (_ ++ _ : Str).length ≤ 8
      rw [ln]; omega
    · rcases List.mem_append.mp ((cps_append _ _) ▸ hc) with q | q
      · exact ro c q
      · exact so c q
theorem cost_le4 {n : Nat} (h : n ≤ 4) : cost n ≤ 123 := by
  match n, h with
  | 0, _ => decide
  | 1, _ => decide
  | 2, _ => decide
  | 3, _ => decide
  | 4, _ => decide
theorem cost_le2 {n : Nat} (h : n ≤ 2) : cost n ≤ 27 := by
  match n, h with
  | 0, _ => decide
  | 1, _ => decide
  | 2, _ => decide
def oneD (ps : List Kd) : PyData := .list (ps.map Kd.dat)
theorem oneD_show {ps : List Kd} (hp : ∀ k ∈ ps, k.fit 12) (lp : ps.length ≤ 4) : (oneD ps).showable = true ∧ (oneD ps).hasDict = false ∧ (oneD ps).depth ≤ 60 ∧ (oneD ps).shown.length ≤ sizeLine := by
  obtain ⟨a1, a2, a3, a4, a5⟩ := kds_show hp
  refine ⟨by simp [oneD, PyData.showable, a1], by simp [oneD, PyData.hasDict, a2], ?_, ?_⟩
  · simp only [oneD, PyData.depth]
    omega
  · have h1 := listText_len_le (PyData.shownAll (ps.map Kd.dat))
    have c1 : ps.length * (300 * 2 ^ 12) ≤ 4 * (300 * 2 ^ 12) := Nat.mul_le_mul_right _ lp
    simp only [oneD, PyData.shown]
    have e := sizeLine_eq
    rw [e]
    omega
theorem put_nil : ∀ k : Kd, k.put [] = k
  | .var _ => rfl
  | .con _ => rfl
  | .app a b => by
    show Kd.app (a.put []) (b.put []) = _
    rw [put_nil a, put_nil b]
section
variable {P : Program} {w : World} {K : PySem.W.Frag} {mg : Str → Option Value} {base : Heap}
def spLs (K : PySem.W.Frag) : Sp := fun vs H Q E => ∃ n, n ≤ 4 ∧ spLK K n vs H Q E
theorem fn_ls {k : Nat} {f : Addr} {fd : FuncData} {ps : List Str} (h : ∀ n, n ≤ 4 → FnOk P w K mg base CX0 k f fd ps (spLK K n)) : FnOk P w K mg base CX0 k f fd ps (spLs K) :=
  ⟨fun vs H Q E ⟨n, hn, q⟩ => (h n hn).len vs H Q E q, fun A outer s H args us vs Q E hr he hb hv ⟨n, hn, q⟩ => (h n hn).run A outer s H args us vs Q E hr he hb hv q⟩
abbrev s_law : Stmt := topS 24
abbrev N_law : List Str := ["_law_script", "_law_tape", "_law_turn", "_law_words_here", "_law_names", "_law_cons", "_law_some", "_law_kept", "_law_kind", "_law_inner", "_law_by", "_law_told", "_law_k", "_law_name", "_law_pair"]
theorem sc_law : FnScope N_law ["_law_script"] (defScope s_law) := ⟨rfl, rfl, rfl, by decide +kernel, rfl, by decide +kernel, by decide +kernel⟩
def spLaw (K : PySem.W.Frag) : List V → Hp → VK → Prop := fun vs H Q => ∃ (a : Addr) (ns : List Int), vs = [.ref a] ∧ SqL K H a (ns.map V.int) ∧ ∀ H', Q (.bl true) H'
theorem law_run {f : Addr} {fd : FuncData} (F : Fun K "law" "law" s_law f fd) (B : Bl mg) (D__law_begin : Kn P w K mg base 1 "_law_begin" ["_law_script"] (spBegin K)) (D__law_draw : Kn P w K mg base 1 "_law_draw" ["_law_tape", "_law_many"] (spDraw K))
    (D__law_words : Kn P w K mg base 3 "_law_words" ["_law_tape", "_law_many"] (spWords K)) (D__law_letter_kind : Kn P w K mg base 7 "_law_letter_kind" ["_law_tape", "_law_names", "_law_cons", "_law_deep"] (spLs K)) (D__law_put : Kn P w K mg base 9 "_law_put" ["_law_kind", "_law_by"] (spPut K 8)) (D_put : Kn P w K mg base 9 "put" ["kind", "by"] (spPut K 8))
    (D__law_made : Kn P w K mg base 11 "_law_made" ["_law_kind"] (spMade K 8)) (D__law_many_right : Kn P w K mg base 10 "_law_many_right" ["_law_some"] (spMany K)) (D__law_shuffled : Kn P w K mg base 2 "_law_shuffled" ["_law_tape", "_law_items"] (spShuf K))
    (D_size_of : KnR P w K mg base 2 "size_of" (spStar 0 (spSize K))) (D_variables_of : KnR P w K mg base 2 "variables_of" (spStar 0 (spVarsT K))) :
    LawRun P w K mg base f fd "_law_script" (spLaw K) := by
  refine lawRun_of F sc_law (k := 15) ⟨rfl, by decide, by decide⟩ (fun cdv s H v Q hr h => ?_)
  obtain ⟨a, ns, h, hS, k⟩ := h
  cases h
  have hgd : (callerA.deeper (envOfC "law" (defScope s_law) s.heap.objs.size f cdv)).guards = some [] := rfl
  have hr__law_begin : Room 1 _ := hr.mono (by decide)
  have hr__law_draw : Room 1 _ := hr.mono (by decide)
  have hr__law_words : Room 3 _ := hr.mono (by decide)
  have hr__law_letter_kind : Room 7 _ := hr.mono (by decide)
  have hr__law_put : Room 9 _ := hr.mono (by decide)
  have hr_put : Room 9 _ := hr.mono (by decide)
  have hr__law_made : Room 11 _ := hr.mono (by decide)
  have hr__law_many_right : Room 10 _ := hr.mono (by decide)
  have hr__law_shuffled : Room 2 _ := hr.mono (by decide)
  have hr_size_of : Room 2 _ := hr.mono (by decide)
  have hr_variables_of : Room 2 _ := hr.mono (by decide)
  have hu := hu_of hr
  have hu64 := hr.units
  refine ⟨_, (pss_cons (ps_set (i := 1) sc_law.nd rfl (Or.inr rfl) (pe_kn D__law_begin hr__law_begin (pa_cons (pv 0) pa_nil)))
  (pss_cons (ps_for PassesOwn.never rfl (pi_range1 (by rfl) B.range (pa_cons pe_int pa_nil)) (pg_name (i := 2) sc_law.nd rfl (Or.inl rfl))
  (pss_cons (ps_asg (pe_tup (pa_cons (pe_kn D__law_words hr__law_words (pa_cons (pv 1) (pa_cons pe_int pa_nil))) (pa_cons (pe_kn D__law_words hr__law_words (pa_cons (pv 1) (pa_cons pe_int pa_nil))) pa_nil))) (pg_tup (by rfl) (pgs_cons (pg_name (i := 3) sc_law.nd rfl (Or.inl rfl)) (pgs_cons (pg_name (i := 4) sc_law.nd rfl (Or.inr rfl)) pgs_nil))))
  (pss_cons (ps_set (i := 5) sc_law.nd rfl (Or.inr rfl) (pe_lst (pa_cons (pe_tup (pa_cons (pe_ix ix_list (pv 3) pe_int (fun _ _ => rfl)) (pa_cons pe_int pa_nil))) (pa_cons (pe_tup (pa_cons (pe_ix ix_list (pv 3) pe_int (fun _ _ => rfl)) (pa_cons pe_int pa_nil))) (pa_cons (pe_tup (pa_cons (pe_ix ix_list (pv 3) pe_int (fun _ _ => rfl)) (pa_cons pe_int pa_nil))) (pa_cons (pe_tup (pa_cons pe_str (pa_cons pe_int pa_nil))) (pa_cons (pe_tup (pa_cons pe_str (pa_cons pe_int pa_nil))) pa_nil)))))))
  (pss_cons (ps_setLc (i := 6) (own := [("_law_k", 12)]) rfl sc_law.nd rfl rfl (sw_true rfl rfl rfl (by decide +kernel)) (pi_range1 (by rfl) B.range (pa_cons (pe_op op_add pe_int (pe_kn D__law_draw hr__law_draw (pa_cons (pv 1) (pa_cons pe_int pa_nil)))) pa_nil)) (blkOk_by (N := N_law) (sc := (defScope s_law)) (own := [("_law_k", 12)]) (by decide +kernel)) (fun _ _ _ _ _ => (pg_name (i := 12) sc_law.nd rfl (Or.inl rfl))) (fun _ _ _ _ _ => pts_nil) (fun _ _ _ _ _ => (pe_kn D__law_letter_kind hr__law_letter_kind (pa_cons (pv 1) (pa_cons (pv 4) (pa_cons (pv 5) (pa_cons (pe_op op_add pe_int (pe_kn D__law_draw hr__law_draw (pa_cons (pv 1) (pa_cons pe_int pa_nil)))) pa_nil)))))))
  (pss_cons (ps_set (i := 7) sc_law.nd rfl (Or.inl rfl) (pe_callB (call_reprD hgd hu64) (by rfl) B.repr (by decide +kernel) (pa_cons (pv 6) pa_nil)))
  (pss_cons (ps_if (PW.pt (pw_or (pt_cmpR op_ne (pe_callB (call_reprD hgd hu64) (by rfl) B.repr (by decide +kernel) (pa_cons (pe_lc (own := [("_law_kind", 8)]) rfl sc_law.nd (pi_list (pv 6)) (blkOk_by (N := N_law) (sc := (defScope s_law)) (own := [("_law_kind", 8)]) (by decide +kernel)) (fun _ _ _ _ _ => (pg_name (i := 8) sc_law.nd rfl (Or.inl rfl))) (fun _ _ _ _ _ => pts_nil) (fun _ _ _ _ _ => (pe_kn D__law_made hr__law_made (pa_cons (pv 8) pa_nil)))) pa_nil)) (pv 7) (nomark _)) (pw_or1 (pt_not (pt_val (pe_kn D__law_many_right hr__law_many_right (pa_cons (pv 6) pa_nil)))))))
  (pss_one (ps_ret pe_bl))
  pss_nil)
  (pss_cons (ps_setLc (i := 9) (own := [("_law_name", 13)]) rfl sc_law.nd rfl rfl (sw_true rfl rfl rfl (by decide +kernel)) (pi_list (pv 4)) (blkOk_by (N := N_law) (sc := (defScope s_law)) (own := [("_law_name", 13)]) (by decide +kernel)) (fun _ _ _ _ _ => (pg_name (i := 13) sc_law.nd rfl (Or.inl rfl))) (fun _ _ _ _ _ => pts_nil) (fun _ _ _ _ _ => (pe_kn D__law_letter_kind hr__law_letter_kind (pa_cons (pv 1) (pa_cons (pv 4) (pa_cons (pv 5) (pa_cons (pe_kn D__law_draw hr__law_draw (pa_cons (pv 1) (pa_cons pe_int pa_nil))) pa_nil)))))))
  (pss_cons (ps_set (i := 10) sc_law.nd rfl (Or.inl rfl) (pe_callTy (call_dictP rfl) (by rfl) B.dict (by decide +kernel) (pa_cons (pe_lcZ (own := [("_law_pair", 14)]) rfl sc_law.nd (by rfl) B.zip (pa_cons (pe_kn D__law_shuffled hr__law_shuffled (pa_cons (pv 1) (pa_cons (pv 4) pa_nil))) (pa_cons (pv 9) pa_nil)) (blkOk_by (N := N_law) (sc := (defScope s_law)) (own := [("_law_pair", 14)]) (by decide +kernel)) (fun _ _ _ _ _ => (pg_name (i := 14) sc_law.nd rfl (Or.inl rfl))) (fun _ _ _ _ _ => (pts_one (pt_cmpR op_gt (pe_kn D__law_draw hr__law_draw (pa_cons (pv 1) (pa_cons pe_int pa_nil))) pe_int (nomark _)))) (fun _ _ _ _ _ => (pv 14))) pa_nil)))
  (pss_cons (ps_set (i := 11) sc_law.nd rfl (Or.inl rfl) (pe_callB (call_reprBy hgd hu64) (by rfl) B.repr (by decide +kernel) (pa_cons (pv 10) pa_nil)))
  (pss_cons (ps_for PassesOwn.never rfl (pi_list (pv 6)) (pg_name (i := 8) sc_law.nd rfl (Or.inl rfl))
  (pss_one (ps_if (PW.pt (pw_or (pt_cmpR (op_neD hu64) (pe_kn D_put hr_put (pa_cons (pv 8) (pa_cons (pv 10) pa_nil))) (pe_kn D__law_put hr__law_put (pa_cons (pv 8) (pa_cons (pv 10) pa_nil))) (nomark _)) (pw_or1 (pt_cmpR (op_neD hu64) (pe_kn D_put hr_put (pa_cons (pv 8) (pa_cons pe_dnewK pa_nil))) (pv 8) (nomark _)))))
  (pss_one (ps_ret pe_bl))
  pss_nil)))
  (pss_one (ps_if (PW.pt (pw_or (pt_cmpR op_ne (pe_callB (call_reprBy hgd hu64) (by rfl) B.repr (by decide +kernel) (pa_cons (pv 10) pa_nil)) (pv 11) (nomark _)) (pw_or (pt_cmpR op_ne (pe_callB (call_reprD hgd hu64) (by rfl) B.repr (by decide +kernel) (pa_cons (pv 6) pa_nil)) (pv 7) (nomark _)) (pw_or (pt_cmpR op_ne (pe_ks0 D_size_of hr_size_of) pe_int (nomark _)) (pw_or1 (pt_cmpR (op_neD hu64) (pe_ks0 D_variables_of hr_variables_of) (pe_tup pa_nil) (nomark _)))))))
  (pss_one (ps_ret pe_bl))
  pss_nil))))))))))))
  (pss_one (ps_ret pe_bl)))), ?_⟩
  refine ⟨_, rfl, a, ns, rfl, hS, fun H1 t c s1 nt T1 => ?_⟩
  refine ⟨8, rfl, by decide, by decide, ?_⟩
  refine for_range (lo := 0) (n := 8) (fun i σ H' => ∃ (v2 v3 v4 v5 v6 v7 v8 v9 v10 v11 v12 v13 v14 : Option V), σ = [some (.ref a), some (.ref t), v2, v3, v4, v5, v6, v7, v8, v9, v10, v11, v12, v13, v14] ∧ Tape K H' t c ((8 - i) * 700)) ⟨_, _, _, _, _, _, _, _, _, _, _, _, _, rfl, T1.less (by decide)⟩ (fun i σ H2 hi h => ?_) (fun σ H2 h => ?_)
  · obtain ⟨v2, v3, v4, v5, v6, v7, v8, v9, v10, v11, v12, v13, v14, rfl, T2⟩ := h
    obtain ⟨m, hm⟩ : ∃ m, m = (8 - (i + 1)) * 700 := ⟨_, rfl⟩
    rw [← hm]
    replace T2 : Tape K H2 t c (m + 700) := T2.less (by omega)
    refine ⟨_, rfl, t, c, 6, m + 697, rfl, by decide, T2, fun H3 lw r1 f1 d1 e3 T3 hlw hr1 hf1 gw => ?_⟩
    refine ⟨_, rfl, t, c, 4, m + 694, rfl, by decide, T3, fun H4 ln r2 f2 d2 e4 T4 hln hr2 hf2 gn => ?_⟩
    refine ⟨slz rfl, fun q hq => ⟨q, _, rfl, SqT.of upd_same, rfl, _, _, rfl, _, _, rfl, rfl, ?_⟩⟩
    have S1 : SqL K (upd H4 q (.tup [.ref lw, .ref ln])) lw (((lets f1 6).map (mkW r1 d1)).map V.str) := SqL.of ((e4.trans (Ext.new hq)) _ _ (T2.ne hlw) gw)
    have S2 : SqL K (upd H4 q (.tup [.ref lw, .ref ln])) ln (((lets f2 4).map (mkW r2 d2)).map V.str) := SqL.of (Ext.new hq _ _ (T3.ne hln) gn)
    have wo1 := words_wok (first := f1) (n := 6) (d := d1) hr1
    have wo2 := words_wok (first := f2) (n := 4) (d := d2) hr2
    have len1 : ((lets f1 6).map (mkW r1 d1)).length = 6 := by rw [List.length_map, lets_length]
    have len2 : ((lets f2 4).map (mkW r2 d2)).length = 4 := by rw [List.length_map, lets_length]
    have T5 := T4.new (o := .tup [.ref lw, .ref ln]) hq
    generalize upd H4 q (.tup [.ref lw, .ref ln]) = H5 at S1 S2 T5 ⊢
    generalize (lets f1 6).map (mkW r1 d1) = ws1 at S1 wo1 len1
    generalize (lets f2 4).map (mkW r2 d2) = ws at S2 wo2 len2
    clear gw gn e3 e4 T2 T3 T4 hlw hln hq hr1 hr2 hf1 hf2 f1 f2 d1 d2 r1 r2 H2 H3 H4 s1 nt T1
    obtain ⟨x1, x2, x3, x4, x5, x6, rfl⟩ : ∃ x1 x2 x3 x4 x5 x6, ws1 = [x1, x2, x3, x4, x5, x6] := by
      match ws1, len1 with
      | [x1, x2, x3, x4, x5, x6], _ => exact ⟨x1, x2, x3, x4, x5, x6, rfl⟩
    refine ⟨_, rfl, _, _, _, _, rfl, rfl, S1, rfl, slz rfl, fun q1 hq1 => ?_⟩
    have s1 := (same_new (o := HO.tup [.str x1, .int 0]) hq1)
    have u1 : (upd H5 q1 (HO.tup [.str x1, .int 0])) q1 = _ := upd_same
    generalize upd H5 q1 (HO.tup [.str x1, .int 0]) = G1 at s1 u1 ⊢
    refine ⟨_, rfl, _, _, _, _, rfl, rfl, (s1.seq S1), rfl, slz rfl, fun q2 hq2 => ?_⟩
    have s2 := s1.trans (same_new (o := HO.tup [.str x2, .int 1]) hq2)
    have u2 : (upd G1 q2 (HO.tup [.str x2, .int 1])) q2 = _ := upd_same
    replace u1 := same_new (o := HO.tup [.str x2, .int 1]) hq2 _ _ u1
    generalize upd G1 q2 (HO.tup [.str x2, .int 1]) = G2 at s2 u1 u2 ⊢
    refine ⟨_, rfl, _, _, _, _, rfl, rfl, (s2.seq S1), rfl, slz rfl, fun q3 hq3 => ?_⟩
    have s3 := s2.trans (same_new (o := HO.tup [.str x3, .int 2]) hq3)
    have u3 : (upd G2 q3 (HO.tup [.str x3, .int 2])) q3 = _ := upd_same
    replace u1 := same_new (o := HO.tup [.str x3, .int 2]) hq3 _ _ u1
    replace u2 := same_new (o := HO.tup [.str x3, .int 2]) hq3 _ _ u2
    generalize upd G2 q3 (HO.tup [.str x3, .int 2]) = G3 at s3 u1 u2 u3 ⊢
    refine ⟨slz rfl, fun q4 hq4 => ?_⟩
    have s4 := s3.trans (same_new (o := HO.tup [.str "to", .int 2]) hq4)
    have u4 : (upd G3 q4 (HO.tup [.str "to", .int 2])) q4 = _ := upd_same
    replace u1 := same_new (o := HO.tup [.str "to", .int 2]) hq4 _ _ u1
    replace u2 := same_new (o := HO.tup [.str "to", .int 2]) hq4 _ _ u2
    replace u3 := same_new (o := HO.tup [.str "to", .int 2]) hq4 _ _ u3
    generalize upd G3 q4 (HO.tup [.str "to", .int 2]) = G4 at s4 u1 u2 u3 u4 ⊢
    refine ⟨slz rfl, fun q5 hq5 => ?_⟩
    have s5 := s4.trans (same_new (o := HO.tup [.str "whole", .int 0]) hq5)
    have u5 : (upd G4 q5 (HO.tup [.str "whole", .int 0])) q5 = _ := upd_same
    replace u1 := same_new (o := HO.tup [.str "whole", .int 0]) hq5 _ _ u1
    replace u2 := same_new (o := HO.tup [.str "whole", .int 0]) hq5 _ _ u2
    replace u3 := same_new (o := HO.tup [.str "whole", .int 0]) hq5 _ _ u3
    replace u4 := same_new (o := HO.tup [.str "whole", .int 0]) hq5 _ _ u4
    generalize upd G4 q5 (HO.tup [.str "whole", .int 0]) = G5 at s5 u1 u2 u3 u4 u5 ⊢
    refine ⟨slz rfl, fun lc hlc => ?_⟩
    have s6 := same_new (o := HO.lst [.ref q1, .ref q2, .ref q3, .ref q4, .ref q5]) hlc
    have C6 : ConsAt K (upd G5 lc (HO.lst [.ref q1, .ref q2, .ref q3, .ref q4, .ref q5])) lc := by
      refine ⟨_, SqL.of upd_same, (by show 0 < 5; decide), (by show 5 < 1000; decide), fun v hv => ?_⟩
      rcases List.mem_cons.mp hv with e | hv
      · exact ⟨q1, x1, 0, e, s6 _ _ u1, by decide, (wo1 x1 (by simp))⟩
      rcases List.mem_cons.mp hv with e | hv
      · exact ⟨q2, x2, 1, e, s6 _ _ u2, by decide, (wo1 x2 (by simp))⟩
      rcases List.mem_cons.mp hv with e | hv
      · exact ⟨q3, x3, 2, e, s6 _ _ u3, by decide, (wo1 x3 (by simp))⟩
      rcases List.mem_cons.mp hv with e | hv
      · exact ⟨q4, "to", 2, e, s6 _ _ u4, by decide, ⟨by decide, by decide, by decide +kernel⟩⟩
      · exact ⟨q5, "whole", 0, List.mem_singleton.mp hv, s6 _ _ u5, by decide, ⟨by decide, by decide, by decide +kernel⟩⟩
    have T6 := (T5.same s5).same s6
    replace S2 := s6.seq (s5.seq S2)
    generalize upd G5 lc (HO.lst [.ref q1, .ref q2, .ref q3, .ref q4, .ref q5]) = H6 at C6 T6 S2 ⊢
    clear s1 s2 s3 s4 s5 s6 u1 u2 u3 u4 u5 hq1 hq2 hq3 hq4 hq5 hlc G1 G2 G3 G4 G5 S1 wo1 len1 T5
    -- some kinds
    refine ⟨_, rfl, t, c, 4, m + 693, rfl, by decide, by decide, T6, fun H7 r7 e7 T7 hr71 hr72 => ?_⟩
    obtain ⟨p, hp, p1, p3⟩ : ∃ p : Nat, 1 + r7 = (p : Int) ∧ 1 ≤ p ∧ p ≤ 4 := ⟨(1 + r7).toNat, (Int.toNat_of_nonneg (by omega)).symm, by omega, by omega⟩
    refine ⟨_, _, rfl, rfl, (p : Int), congrArg (fun z : Int => [V.int z]) hp, by omega, by omega, fun D hD => ?_⟩
    refine lc_range (lo := 0) (n := p) (fun i H' => Ext t H7 H' ∧ Tape K H' t c (m + 197 + (p - i) * 124) ∧ ∃ (vs : List V) (ks : List Kd), H' D = some (.lst vs) ∧ KdsAt H' vs ks ∧ vs.length = i ∧ ∀ k ∈ ks, k.fit 8 ∧ k.two)
      ⟨Ext.new hD, (T7.new hD).less (by omega), [], [], upd_same, .nil, rfl, fun _ q => nomatch q⟩ (fun i H' hi ⟨e1, t1, vs, ks, g1, g2, g3, g4⟩ => ⟨rfl, ?_⟩) (fun H8 ⟨e8, T8, pvs, ps, g1, g2, g3, g4⟩ => ?_)
    · have em : (p - i) * 124 = (p - (i + 1)) * 124 + 124 := by omega
      rw [em] at t1
      refine ⟨_, rfl, _, rfl, _, rfl, _, rfl, t, c, 4, m + 197 + (p - (i + 1)) * 124 + 123, rfl, by decide, by decide, t1, fun H9 r9 e9 T9 hr91 hr92 => ?_⟩
      obtain ⟨n, hn9, hn⟩ : ∃ n : Nat, 1 + r9 = (n : Int) ∧ n ≤ 4 := ⟨(1 + r9).toNat, (Int.toNat_of_nonneg (by omega)).symm, by omega⟩
      have ee := (e7.trans e1).trans e9
      have cn := cost_le4 hn
      refine ⟨_, _, rfl, rfl, n, hn, t, c, ln, lc, ws, m + 197 + (p - (i + 1)) * 124, congrArg (fun z : Int => [V.ref t, V.ref ln, V.ref lc, V.int z]) hn9, SqL.extT S2 T6 ee, wo2, by rw [len2]; decide, C6.ext T6 ee, T9.less (by omega), fun H10 v k4 e10 t10 f1 f2 f3 f4 => ?_⟩
      have nD : D ≠ t := T7.ne hD
      have e11 := (e1.trans e9).trans e10
      have gD : H10 D = some (.lst vs) := e10 _ _ nD (e9 _ _ nD g1)
      refine ⟨vs, gD, small1000 (by omega), e11.upd hD, Tape.put T7 e11 t10 hD, vs ++ [v], ks ++ [k4], upd_same, ?_, by rw [List.length_append, g3]; rfl, ?_⟩
      · have tu : Tups H10 (upd H10 D (.lst (vs ++ [v]))) := Tups.put gD (by intro xs z; cases z)
        exact Paired.snoc (KdsAt.tups ((Ext.tups (e9.trans e10) t1).trans tu) g2) (KdAt.tups tu f1)
      · intro k hk
        rcases List.mem_append.mp hk with q | q
        · exact g4 k q
        · rw [List.mem_singleton.mp q]
          exact ⟨Kd.fit_mono (by omega) f2, f4⟩
    have S8 := SqL.extT S2 T6 (e7.trans e8)
    have C8 := C6.ext T6 (e7.trans e8)
    have nD : D ≠ t := T7.ne hD
    replace T8 : Tape K H8 t c (m + 197) := T8.less (by omega)
    clear e7 e8 T6 T7 S2 C6 hr71 hr72 hp hD H5
    have FP : ∀ k ∈ ps, k.fit 8 := fun k hk => (g4 k hk).1
    have WP : ∀ k ∈ ps, k.two := fun k hk => (g4 k hk).2
    have lpv : pvs.length = ps.length := Paired.length g2
    have lps : ps.length = p := by rw [← lpv]; exact g3
    obtain ⟨w1, w2, w3, w4⟩ := oneD_show (fun k hk => Kd.fit_mono (by omega) (FP k hk)) (show ps.length ≤ 4 by omega)
    refine ⟨_, rfl, D, oneD ps, rfl, .lst (SqL.of g1) (KdsAt.dp g2), w1, w2, w3, w4, ?_⟩
    refine ⟨_, rfl, D, rfl, ⟨_, SqL.of g1⟩, fun D2 hD2 => ?_⟩
    refine lc_list (K := K) (a := D) (xs := pvs) (fun i H' => Same H8 H' ∧ ∃ (vs : List V), H' D2 = some (.lst vs) ∧ KdsAt H' vs (ps.take i) ∧ vs.length = i)
      ⟨same_new hD2, [], upd_same, .nil, rfl⟩ (fun i H' _ ⟨e1, _⟩ => SqL.of (e1 _ _ g1)) (fun i x H' hx ⟨e1, vs, h1, h2, h3⟩ => ⟨rfl, ?_⟩) (fun H9 ⟨e9, vs, h1, h2, h3⟩ => ?_)
    · obtain ⟨pk, hpk, xk⟩ := paired_get g2 hx
      have hi3 : i < 4 := by
        have := (List.getElem?_eq_some_iff.mp hx).1
        omega
      refine ⟨_, rfl, x, pk, rfl, KdAt.tups (same_tups e1) xk, FP pk (List.mem_of_getElem? hpk), by decide, WP pk (List.mem_of_getElem? hpk), fun H12 v' s12 a12 => ?_⟩
      have gD := s12 _ _ h1
      have tu : Tups H12 (upd H12 D2 (.lst (vs ++ [v']))) := Tups.put gD (by intro xs z; cases z)
      refine ⟨vs, gD, small1000 (by omega), fun b o z => ?_, vs ++ [v'], upd_same, ?_, by rw [List.length_append, h3]; rfl⟩
      · rw [upd_ne (ne_of_none z hD2)]
        exact s12 _ _ (e1 _ _ z)
      · have tk : ps.take (i + 1) = ps.take i ++ [pk] := by
          rw [List.take_add_one, hpk]
          rfl
        rw [tk]
        exact Paired.snoc (KdsAt.tups ((same_tups s12).trans tu) h2) (KdAt.tups tu a12)
    rw [lpv, List.take_length] at h2
    refine ⟨D2, oneD ps, rfl, .lst (SqL.of h1) (KdsAt.dp h2), w1, w2, w3, w4, _, rfl, rfl, _, rfl, ?_⟩
    refine iF (by simp) ?_
    refine ⟨_, rfl, D, pvs, ps, rfl, SqL.of (e9 _ _ g1), KdsAt.tups (same_tups e9) g2, by omega, by omega, FP, fun H10 s10 => ?_⟩
    refine ⟨_, rfl, ?_⟩
    have sx := e9.trans s10
    replace g2 := KdsAt.tups (same_tups sx) g2
    replace g1 := sx _ _ g1
    replace S8 := sx.seq S8
    replace C8 := C8.ext T8 (same_ext sx)
    replace T8 := T8.same sx
    clear e9 s10 sx h1 h2 h3 hD2
    -- inner
    refine ⟨_, rfl, ln, rfl, ⟨_, S8⟩, fun D3 hD3 => ?_⟩
    refine lc_list (K := K) (a := ln) (xs := ws.map V.str) (fun i H' => Ext t H10 H' ∧ Tape K H' t c (m + 85 + (4 - i) * 28) ∧ ∃ (vs : List V) (ks : List Kd), H' D3 = some (.lst vs) ∧ KdsAt H' vs ks ∧ vs.length = i ∧ ∀ k ∈ ks, k.fit 4)
      ⟨Ext.new hD3, (T8.new hD3).less (by omega), [], [], upd_same, .nil, rfl, fun _ q => nomatch q⟩ (fun i H' _ ⟨e1, _⟩ => SqL.extT S8 T8 e1) (fun i x H' hx ⟨e1, t1, vs, ks, h1, h2, h3, h4⟩ => ⟨rfl, ?_⟩) (fun H11 ⟨e11, T11, ivs, iks, j1, j2, j3, j4⟩ => ?_)
    · have hi3 : i < 4 := by
        have := (List.getElem?_eq_some_iff.mp hx).1
        rw [List.length_map] at this
        omega
      have em : (4 - i) * 28 = (4 - (i + 1)) * 28 + 28 := by omega
      rw [em] at t1
      refine ⟨_, rfl, _, rfl, _, rfl, _, rfl, t, c, 3, m + 85 + (4 - (i + 1)) * 28 + 27, rfl, by decide, by decide, t1, fun H9 r9 e9 T9 hr91 hr92 => ?_⟩
      obtain ⟨n, rfl⟩ : ∃ n : Nat, r9 = (n : Int) := ⟨r9.toNat, (Int.toNat_of_nonneg hr91).symm⟩
      have hn : n ≤ 2 := by omega
      have ee := e1.trans e9
      have cn := cost_le2 hn
      refine ⟨n, by omega, t, c, ln, lc, ws, m + 85 + (4 - (i + 1)) * 28, rfl, SqL.extT S8 T8 ee, wo2, by rw [len2]; decide, C8.ext T8 ee, T9.less (by omega), fun H12 v k4 e12 t12 f1 f2 f3 f4 => ?_⟩
      have n3 : D3 ≠ t := T8.ne hD3
      have e13 := (e1.trans e9).trans e12
      have gD : H12 D3 = some (.lst vs) := e12 _ _ n3 (e9 _ _ n3 h1)
      refine ⟨vs, gD, small1000 (by omega), e13.upd hD3, Tape.put T8 e13 t12 hD3, vs ++ [v], ks ++ [k4], upd_same, ?_, by rw [List.length_append, h3]; rfl, ?_⟩
      · have tu : Tups H12 (upd H12 D3 (.lst (vs ++ [v]))) := Tups.put gD (by intro xs z; cases z)
        exact Paired.snoc (KdsAt.tups ((Ext.tups (e9.trans e12) t1).trans tu) h2) (KdAt.tups tu f1)
      · intro k hk
        rcases List.mem_append.mp hk with q | q
        · exact h4 k q
        · rw [List.mem_singleton.mp q]
          exact Kd.fit_mono (by omega) f2
    have n3 : D3 ≠ t := T8.ne hD3
    have G1 := e11 _ _ nD g1
    have G2 := KdsAt.tups (Ext.tups e11 T8) g2
    have S11 := SqL.extT S8 T8 e11
    replace T11 : Tape K H11 t c (m + 85) := T11.less (by omega)
    rw [List.length_map, len2] at j3
    clear g1 g2 e11 T8 S8 C8 hD3
    -- the dict
    refine ⟨_, rfl, _, rfl, t, c, ln, ws, m + 81, rfl, S11, wo2, by rw [len2]; decide, T11.less (by rw [len2]; omega), fun H12 l2 ws2 e12 T12 hl2 gl2 wo3 len3 => ?_⟩
    have nl2 : l2 ≠ t := T11.ne hl2
    have J1 := e12 _ _ n3 j1
    have J2 := KdsAt.tups (Ext.tups e12 T11) j2
    refine ⟨_, rfl, l2, D3, ws2.map V.str, ivs, rfl, SqL.of gl2, SqL.of J1, by rw [List.length_map, len3, len2, j3], fun D4 hD4 => ?_⟩
    have n4 : D4 ≠ t := T12.ne hD4
    refine ⟨fun i G mm H' => mm = 4 - i ∧ i ≤ 4 ∧ Ext t H12 H' ∧ Tape K H' t c (m + 77 + (4 - i)) ∧ (∃ (pa : List Addr) (kvs : List (Key × V)) (qs : By), H' D4 = some (.lst (pa.map V.ref)) ∧ Paired (fun p kv => H' p = some (.tup [kV kv.1, kv.2])) pa kvs ∧ ByAt H' kvs qs ∧ pa.length ≤ i ∧ ∀ q ∈ qs, q.2.fit 4 ∧ Wok q.1) ∧ ∀ T, G = some T → ∃ us, H' T = some (.tup us),
      ⟨4, rfl, Nat.zero_le _, Ext.new hD4, (T12.new hD4).less (by omega), ⟨[], [], [], upd_same, .nil, .nil, Nat.le_refl _, fun _ q => nomatch q⟩, fun _ q => nomatch q⟩, ?_⟩
    rintro i G mm H13 ⟨rfl, li4, e13, T13, ⟨pa, kvs, qs, h1, h2, h3, h4, h5⟩, hG⟩
    refine ⟨SqL.of (e13 _ _ nl2 gl2), SqL.of (e13 _ _ n3 J1), hG, ?_⟩
    by_cases hi4 : 4 ≤ i
    · refine .inl ⟨by rw [List.length_map, len3, len2]; exact hi4, ?_⟩
      refine ⟨D4, pa, kvs, rfl, SqL.of h1, paired_map (fun _ _ q => SqT.of q) h2, fun d hd => ?_⟩
      obtain ⟨by', b1, b2⟩ := byAt_merge (kvs := []) (b := []) h3 h5 .nil (fun _ q => nomatch q)
      have lby : by'.length ≤ 4 := by
        have q1 := length_mergeK kvs []
        have q2 := Paired.length b1
        have q3 := Paired.length h2
        simp only [List.length_nil] at q1
        omega
      have sd := same_new (o := .dK (mergeK [] kvs)) hd
      have td := same_tups sd
      have tt := ((Ext.tups e12 T11).trans (Ext.tups e13 T12)).trans td
      have GP : (upd H13 d (.dK (mergeK [] kvs))) D = some (.lst pvs) := sd _ _ (e13 _ _ nD (e12 _ _ nD G1))
      have KP := KdsAt.tups tt G2
      have GB : (upd H13 d (.dK (mergeK [] kvs))) d = some (.dK (mergeK [] kvs)) := upd_same
      have BB := ByAt.tups td b1
      replace T13 := (T13.same sd).less (show m ≤ _ by omega)
      generalize upd H13 d (.dK (mergeK [] kvs)) = H14 at GP KP GB BB T13 ⊢
      generalize mergeK [] kvs = kd at GB BB
      clear sd td tt b1 h1 h2 h3 h5 hG e13 hD4
      have B12 : ∀ q ∈ by', q.2.fit 12 ∧ Wok q.1 := fun q hq => ⟨Kd.fit_mono (by omega) (b2 q hq).1, (b2 q hq).2⟩
      refine ⟨_, rfl, d, kd, by', rfl, GB, BB, B12, lby, ?_⟩
      refine ⟨_, rfl, D, rfl, ⟨_, SqL.of GP⟩, for_list (K := K) (a := D) (xs := pvs) (fun i σ H' => Same H14 H' ∧ ∃ (y2 y3 y4 y5 y8 y9 y12 y13 y14 : Option V), σ = [some (.ref a), some (.ref t), y2, y3, y4, y5, some (.ref D), some (.str (oneD ps).shown), y8, y9, some (.ref d), some (.str (byD by').shown), y12, y13, y14]) ⟨fun _ _ z => z, _, _, _, _, _, _, _, _, _, rfl⟩ (fun i σ H' _ ⟨s1, _⟩ => SqL.of (s1 _ _ GP)) ?_ ?_⟩
      · rintro i x σ H15 hi ⟨s15, y2, y3, y4, y5, y8, y9, y12, y13, y14, rfl⟩
        obtain ⟨pk, hpk, xk⟩ := paired_get KP hi
        have fpk := FP pk (List.mem_of_getElem? hpk)
        have fput : (pk.put by').fit 12 := Kd.fit_put (n := 8) (m := 4) (fun x k hk => (b2 (x, k) (lk_mem hk)).1) fpk
        have X15 := KdAt.tups (same_tups s15) xk
        refine ⟨_, rfl, _, rfl, x, d, pk, kd, by', rfl, X15, fpk, s15 _ _ GB, ByAt.tups (same_tups s15) BB, fun H16 v1 s16 a1 => ?_⟩
        have S16 := s15.trans s16
        refine ⟨_, rfl, _, rfl, x, d, pk, kd, by', rfl, KdAt.tups (same_tups s16) X15, fpk, S16 _ _ GB, ByAt.tups (same_tups S16) BB, fun H17 v2 s17 a2 => ?_⟩
        have S17 := S16.trans s17
        refine ⟨_, _, (KdAt.tups (same_tups s17) a1).dp, a2.dp, Kd.shaped fput (by decide), Kd.shaped fput (by decide), _, rfl, ?_⟩
        refine iF (by rw [eqv_self]; rfl) ?_
        refine ⟨_, rfl, fun e he => ?_⟩
        have S18 := S17.trans (same_new (o := .dK []) he)
        refine ⟨x, e, pk, [], [], rfl, KdAt.tups (same_tups S18) xk, fpk, upd_same, .nil, fun H19 v3 s19 a3 => ?_⟩
        rw [put_nil] at a3
        have S19 := S18.trans s19
        refine ⟨_, rfl, _, _, a3.dp, (KdAt.tups (same_tups S19) xk).dp, Kd.shaped fpk (by decide), Kd.shaped fpk (by decide), _, rfl, ?_⟩
        refine iF (by rw [eqv_self]; rfl) ?_
        exact ⟨S19, _, _, _, _, _, _, _, _, _, rfl⟩
      · rintro σ H15 ⟨s15, y2, y3, y4, y5, y8, y9, y12, y13, y14, rfl⟩
        refine ⟨_, rfl, d, kd, by', rfl, s15 _ _ GB, ByAt.tups (same_tups s15) BB, B12, lby, _, rfl, rfl, _, rfl, ?_⟩
        refine iF (by simp) ?_
        refine ⟨_, rfl, D, oneD ps, rfl, .lst (SqL.of (s15 _ _ GP)) (KdsAt.dp (KdsAt.tups (same_tups s15) KP)), w1, w2, w3, w4, _, rfl, rfl, _, rfl, ?_⟩
        refine iF (by simp) ?_
        refine sizeArgs (ks := []) .nil (Nat.zero_le _) fun H16 s16 => ?_
        refine ⟨rfl, _, rfl, ?_⟩
        refine iF (by decide +kernel) ?_
        refine varsArgs (ks := []) .nil (Nat.zero_le _) fun H17 q s17 g17 => ?_
        refine ⟨slz rfl, fun q2 hq2 => ?_⟩
        have s18 := same_new (o := .tup []) hq2
        refine ⟨_, _, .tup (SqT.of (s18 _ _ g17)) .nil, .tup (SqT.of upd_same) .nil, by decide, by decide, _, rfl, ?_⟩
        refine iF (by decide +kernel) ?_
        exact ⟨_, _, _, _, _, _, _, _, _, _, _, _, _, rfl, T13.same (((s15.trans s16).trans s17).trans s18)⟩
    · have lt2 : i < ws2.length := by rw [len3, len2]; omega
      have lt3 : i < ivs.length := by omega
      obtain ⟨kx, hkx, xk⟩ := paired_get J2 (List.getElem?_eq_getElem lt3)
      refine .inr ⟨.str ws2[i], ivs[i], by rw [List.getElem?_map, List.getElem?_eq_getElem lt2]; rfl, List.getElem?_eq_getElem lt3, fun G' H' => Ext t H12 H' ∧ Tape K H' t c (m + 77 + (4 - (i + 1))) ∧ (∃ (pa : List Addr) (kvs : List (Key × V)) (qs : By), H' D4 = some (.lst (pa.map V.ref)) ∧ Paired (fun p kv => H' p = some (.tup [kV kv.1, kv.2])) pa kvs ∧ ByAt H' kvs qs ∧ pa.length ≤ i + 1 ∧ ∀ q ∈ qs, q.2.fit 4 ∧ Wok q.1) ∧ ∀ T, G' = some T → ∃ us, H' T = some (.tup us), fun G' H' ⟨a1, a2, a3, a4⟩ => ⟨4 - (i + 1), by omega, rfl, by omega, a1, a2, a3, a4⟩, fun T hT => ⟨rfl, ?_⟩⟩
      refine ⟨_, rfl, t, c, 3, m + 77 + (4 - (i + 1)), rfl, by decide, by decide, (T13.new hT).less (by omega), fun H14 r14 e14 T14 hr141 hr142 => ?_⟩
      have nT : T ≠ t := T13.ne hT
      have e15 := e13.trans ((Ext.new (t := t) (o := .tup [.str ws2[i], ivs[i]]) hT).trans e14)
      have tp0 := same_tups (same_new (o := .tup [.str ws2[i], ivs[i]]) hT)
      have tp1 := Ext.tups e14 (T13.new (o := .tup [.str ws2[i], ivs[i]]) hT)
      have gT := tp1 _ _ (upd_same (H := H13) (a := T) (o := HO.tup [.str ws2[i], ivs[i]]))
      have gD4 : H14 D4 = some (.lst (pa.map V.ref)) := e14 _ _ n4 (same_new (o := .tup [.str ws2[i], ivs[i]]) hT _ _ h1)
      have tp := tp0.trans tp1
      have held : ∀ {H' : Hp}, Tups H14 H' → ∀ T', heldNext G T = some T' → ∃ us, H' T' = some (.tup us) := fun {H'} tu T' q => by
        cases G with
        | none =>
          obtain rfl : T = T' := Option.some.inj q
          exact ⟨_, tu _ _ gT⟩
        | some T0 =>
          obtain rfl : T0 = T' := Option.some.inj q
          obtain ⟨us, hu0⟩ := hG T0 rfl
          exact ⟨us, tu _ _ (tp _ _ hu0)⟩
      refine ⟨_, _, rfl, rfl, _, rfl, ?_⟩
      refine ite2 (fun hc => ?_) (fun hc => ?_)
      · have tu : Tups H14 (upd H14 D4 (.lst (pa.map V.ref ++ [.ref T]))) := Tups.put gD4 (by intro xs z; cases z)
        have t2 := tp.trans tu
        refine ⟨_, rfl, _, gD4, small1000 (by rw [List.length_map]; omega), e15.upd hD4, Tape.put T12 e15 T14 hD4, ⟨pa ++ [T], kvs ++ [(.inr ws2[i], ivs[i])], qs ++ [(ws2[i], kx)], by rw [upd_same, List.map_append]; rfl, Paired.snoc (paired_map (fun _ _ q => t2 _ _ q) h2) (by exact tu _ _ gT), Paired.snoc (ByAt.tups t2 h3) ⟨rfl, KdAt.tups ((Ext.tups e13 T12).trans t2) xk⟩, by rw [List.length_append, List.length_singleton]; omega, fun z hz => ?_⟩, held tu⟩
        rcases List.mem_append.mp hz with q | q
        · exact h5 z q
        · rw [List.mem_singleton.mp q]
          exact ⟨j4 kx (List.mem_of_getElem? hkx), wo3 _ (List.getElem_mem ..)⟩
      · exact ⟨e15, T14, ⟨pa, kvs, qs, gD4, paired_map (fun _ _ q => tp _ _ q) h2, ByAt.tups tp h3, by omega, h5⟩, held fun _ _ z => z⟩
  · obtain ⟨_, _, _, _, _, _, _, _, _, _, _, _, _, rfl, _⟩ := h
    exact k _
end
end L3

namespace L3
open PySem L2
theorem all_mk {l : PySem.W.OpenLaw} {w : World} {K : PySem.W.Frag} {h : Heap} {mg : Str → Option Value} {fa f1 f2 f3 f4 f5 f6 f7 f8 f9 f10 f11 f12 f13 f14 f15 f16 f17 f18 f19 f20 f21 f22 f23 : Addr} (X : K.In h) (G : h.Ns mainGlobals mg) (hfa : mg "law" = some (.ref fa))
    {od1 an1 od2 an2 od3 an3 od4 an4 od5 an5 od6 an6 od7 an7 od8 an8 od9 an9 od10 an10 od11 an11 od12 an12 od13 an13 od14 an14 od15 an15 od16 an16 od17 an17 od18 an18 od19 an19 od20 an20 od21 an21 od22 an22 od23 an23 : Option Addr} {sl1 sl2 sl3 sl4 sl5 sl6 sl7 sl8 sl9 sl10 sl11 sl12 sl13 sl14 sl15 sl16 sl17 sl18 sl19 sl20 sl21 sl22 sl23 : Array (Option Value)} {oc1 kV1 dc1 pm1 cd1 ct1 oc2 kV2 dc2 pm2 cd2 ct2 oc3 kV3 dc3 pm3 cd3 ct3 oc4 kV4 dc4 pm4 cd4 ct4 oc5 kV5 dc5 pm5 cd5 ct5 oc6 kV6 dc6 pm6 cd6 ct6 oc7 kV7 dc7 pm7 cd7 ct7 oc8 kV8 dc8 pm8 cd8 ct8 oc9 kV9 dc9 pm9 cd9 ct9 oc10 kV10 dc10 pm10 cd10 ct10 oc11 kV11 dc11 pm11 cd11 ct11 oc12 kV12 dc12 pm12 cd12 ct12 oc13 kV13 dc13 pm13 cd13 ct13 oc14 kV14 dc14 pm14 cd14 ct14 oc15 kV15 dc15 pm15 cd15 ct15 oc16 kV16 dc16 pm16 cd16 ct16 oc17 kV17 dc17 pm17 cd17 ct17 oc18 kV18 dc18 pm18 cd18 ct18 oc19 kV19 dc19 pm19 cd19 ct19 oc20 kV20 dc20 pm20 cd20 ct20 oc21 kV21 dc21 pm21 cd21 ct21 oc22 kV22 dc22 pm22 cd22 ct22 oc23 kV23 dc23 pm23 cd23 ct23 : Value}
    (a1 : PySem.W.nsIn K mainGlobals "var" = some (some (.ref f1))) (l1 : K.lookup f1 = some ⟨oc1, od1, .func (PySem.W.fnOf "var" "var" (defArgs s_var) (defBody s_var) (defScope s_var) .none kV1 dc1 pm1 an1 cd1 ct1), sl1⟩) (c1 : PySem.W.codeIn K cd1 "var" = true) (k1 : PySem.W.keepIn K (.ref f1) = true)
    (a2 : PySem.W.nsIn K mainGlobals "con" = some (some (.ref f2))) (l2 : K.lookup f2 = some ⟨oc2, od2, .func (PySem.W.fnOf "con" "con" (defArgs s_con) (defBody s_con) (defScope s_con) .none kV2 dc2 pm2 an2 cd2 ct2), sl2⟩) (c2 : PySem.W.codeIn K cd2 "con" = true) (k2 : PySem.W.keepIn K (.ref f2) = true)
    (a3 : PySem.W.nsIn K mainGlobals "applied" = some (some (.ref f3))) (l3 : K.lookup f3 = some ⟨oc3, od3, .func (PySem.W.fnOf "applied" "applied" (defArgs s_applied) (defBody s_applied) (defScope s_applied) .none kV3 dc3 pm3 an3 cd3 ct3), sl3⟩) (c3 : PySem.W.codeIn K cd3 "applied" = true) (k3 : PySem.W.keepIn K (.ref f3) = true)
    (a4 : PySem.W.nsIn K mainGlobals "to" = some (some (.ref f4))) (l4 : K.lookup f4 = some ⟨oc4, od4, .func (PySem.W.fnOf "to" "to" (defArgs s_to) (defBody s_to) (defScope s_to) .none kV4 dc4 pm4 an4 cd4 ct4), sl4⟩) (c4 : PySem.W.codeIn K cd4 "to" = true) (k4 : PySem.W.keepIn K (.ref f4) = true)
    (a5 : PySem.W.nsIn K mainGlobals "leaves_of" = some (some (.ref f5))) (l5 : K.lookup f5 = some ⟨oc5, od5, .func (PySem.W.fnOf "leaves_of" "leaves_of" (defArgs s_leaves_of) (defBody s_leaves_of) (defScope s_leaves_of) .none kV5 dc5 pm5 an5 cd5 ct5), sl5⟩) (c5 : PySem.W.codeIn K cd5 "leaves_of" = true) (k5 : PySem.W.keepIn K (.ref f5) = true)
    (a6 : PySem.W.nsIn K mainGlobals "size_of" = some (some (.ref f6))) (l6 : K.lookup f6 = some ⟨oc6, od6, .func (PySem.W.fnOf "size_of" "size_of" (defArgs s_size_of) (defBody s_size_of) (defScope s_size_of) .none kV6 dc6 pm6 an6 cd6 ct6), sl6⟩) (c6 : PySem.W.codeIn K cd6 "size_of" = true) (k6 : PySem.W.keepIn K (.ref f6) = true)
    (a7 : PySem.W.nsIn K mainGlobals "variables_of" = some (some (.ref f7))) (l7 : K.lookup f7 = some ⟨oc7, od7, .func (PySem.W.fnOf "variables_of" "variables_of" (defArgs s_variables_of) (defBody s_variables_of) (defScope s_variables_of) .none kV7 dc7 pm7 an7 cd7 ct7), sl7⟩) (c7 : PySem.W.codeIn K cd7 "variables_of" = true) (k7 : PySem.W.keepIn K (.ref f7) = true)
    (a8 : PySem.W.nsIn K mainGlobals "put" = some (some (.ref f8))) (l8 : K.lookup f8 = some ⟨oc8, od8, .func (PySem.W.fnOf "put" "put" (defArgs s_put) (defBody s_put) (defScope s_put) .none kV8 dc8 pm8 an8 cd8 ct8), sl8⟩) (c8 : PySem.W.codeIn K cd8 "put" = true) (k8 : PySem.W.keepIn K (.ref f8) = true)
    (a9 : PySem.W.nsIn K mainGlobals "_law_begin" = some (some (.ref f9))) (l9 : K.lookup f9 = some ⟨oc9, od9, .func (PySem.W.fnOf "_law_begin" "_law_begin" (defArgs s__law_begin) (defBody s__law_begin) (defScope s__law_begin) .none kV9 dc9 pm9 an9 cd9 ct9), sl9⟩) (c9 : PySem.W.codeIn K cd9 "_law_begin" = true) (k9 : PySem.W.keepIn K (.ref f9) = true)
    (a10 : PySem.W.nsIn K mainGlobals "_law_draw" = some (some (.ref f10))) (l10 : K.lookup f10 = some ⟨oc10, od10, .func (PySem.W.fnOf "_law_draw" "_law_draw" (defArgs s__law_draw) (defBody s__law_draw) (defScope s__law_draw) .none kV10 dc10 pm10 an10 cd10 ct10), sl10⟩) (c10 : PySem.W.codeIn K cd10 "_law_draw" = true) (k10 : PySem.W.keepIn K (.ref f10) = true)
    (a11 : PySem.W.nsIn K mainGlobals "_law_pick" = some (some (.ref f11))) (l11 : K.lookup f11 = some ⟨oc11, od11, .func (PySem.W.fnOf "_law_pick" "_law_pick" (defArgs s__law_pick) (defBody s__law_pick) (defScope s__law_pick) .none kV11 dc11 pm11 an11 cd11 ct11), sl11⟩) (c11 : PySem.W.codeIn K cd11 "_law_pick" = true) (k11 : PySem.W.keepIn K (.ref f11) = true)
    (a12 : PySem.W.nsIn K mainGlobals "_law_shuffled" = some (some (.ref f12))) (l12 : K.lookup f12 = some ⟨oc12, od12, .func (PySem.W.fnOf "_law_shuffled" "_law_shuffled" (defArgs s__law_shuffled) (defBody s__law_shuffled) (defScope s__law_shuffled) .none kV12 dc12 pm12 an12 cd12 ct12), sl12⟩) (c12 : PySem.W.codeIn K cd12 "_law_shuffled" = true) (k12 : PySem.W.keepIn K (.ref f12) = true)
    (a13 : PySem.W.nsIn K mainGlobals "_law_words" = some (some (.ref f13))) (l13 : K.lookup f13 = some ⟨oc13, od13, .func (PySem.W.fnOf "_law_words" "_law_words" (defArgs s__law_words) (defBody s__law_words) (defScope s__law_words) .none kV13 dc13 pm13 an13 cd13 ct13), sl13⟩) (c13 : PySem.W.codeIn K cd13 "_law_words" = true) (k13 : PySem.W.keepIn K (.ref f13) = true)
    (a14 : PySem.W.nsIn K mainGlobals "_law_con" = some (some (.ref f14))) (l14 : K.lookup f14 = some ⟨oc14, od14, .func (PySem.W.fnOf "_law_con" "_law_con" (defArgs s__law_con) (defBody s__law_con) (defScope s__law_con) .none kV14 dc14 pm14 an14 cd14 ct14), sl14⟩) (c14 : PySem.W.codeIn K cd14 "_law_con" = true) (k14 : PySem.W.keepIn K (.ref f14) = true)
    (a15 : PySem.W.nsIn K mainGlobals "_law_to" = some (some (.ref f15))) (l15 : K.lookup f15 = some ⟨oc15, od15, .func (PySem.W.fnOf "_law_to" "_law_to" (defArgs s__law_to) (defBody s__law_to) (defScope s__law_to) .none kV15 dc15 pm15 an15 cd15 ct15), sl15⟩) (c15 : PySem.W.codeIn K cd15 "_law_to" = true) (k15 : PySem.W.keepIn K (.ref f15) = true)
    (a16 : PySem.W.nsIn K mainGlobals "_law_put" = some (some (.ref f16))) (l16 : K.lookup f16 = some ⟨oc16, od16, .func (PySem.W.fnOf "_law_put" "_law_put" (defArgs s__law_put) (defBody s__law_put) (defScope s__law_put) .none kV16 dc16 pm16 an16 cd16 ct16), sl16⟩) (c16 : PySem.W.codeIn K cd16 "_law_put" = true) (k16 : PySem.W.keepIn K (.ref f16) = true)
    (a17 : PySem.W.nsIn K mainGlobals "_law_vars" = some (some (.ref f17))) (l17 : K.lookup f17 = some ⟨oc17, od17, .func (PySem.W.fnOf "_law_vars" "_law_vars" (defArgs s__law_vars) (defBody s__law_vars) (defScope s__law_vars) .none kV17 dc17 pm17 an17 cd17 ct17), sl17⟩) (c17 : PySem.W.codeIn K cd17 "_law_vars" = true) (k17 : PySem.W.keepIn K (.ref f17) = true)
    (a18 : PySem.W.nsIn K mainGlobals "_law_head_of" = some (some (.ref f18))) (l18 : K.lookup f18 = some ⟨oc18, od18, .func (PySem.W.fnOf "_law_head_of" "_law_head_of" (defArgs s__law_head_of) (defBody s__law_head_of) (defScope s__law_head_of) .none kV18 dc18 pm18 an18 cd18 ct18), sl18⟩) (c18 : PySem.W.codeIn K cd18 "_law_head_of" = true) (k18 : PySem.W.keepIn K (.ref f18) = true)
    (a19 : PySem.W.nsIn K mainGlobals "_law_letter_kind" = some (some (.ref f19))) (l19 : K.lookup f19 = some ⟨oc19, od19, .func (PySem.W.fnOf "_law_letter_kind" "_law_letter_kind" (defArgs s__law_letter_kind) (defBody s__law_letter_kind) (defScope s__law_letter_kind) .none kV19 dc19 pm19 an19 cd19 ct19), sl19⟩) (c19 : PySem.W.codeIn K cd19 "_law_letter_kind" = true) (k19 : PySem.W.keepIn K (.ref f19) = true)
    (a20 : PySem.W.nsIn K mainGlobals "_law_count_leaves" = some (some (.ref f20))) (l20 : K.lookup f20 = some ⟨oc20, od20, .func (PySem.W.fnOf "_law_count_leaves" "_law_count_leaves" (defArgs s__law_count_leaves) (defBody s__law_count_leaves) (defScope s__law_count_leaves) .none kV20 dc20 pm20 an20 cd20 ct20), sl20⟩) (c20 : PySem.W.codeIn K cd20 "_law_count_leaves" = true) (k20 : PySem.W.keepIn K (.ref f20) = true)
    (a21 : PySem.W.nsIn K mainGlobals "_law_made" = some (some (.ref f21))) (l21 : K.lookup f21 = some ⟨oc21, od21, .func (PySem.W.fnOf "_law_made" "_law_made" (defArgs s__law_made) (defBody s__law_made) (defScope s__law_made) .none kV21 dc21 pm21 an21 cd21 ct21), sl21⟩) (c21 : PySem.W.codeIn K cd21 "_law_made" = true) (k21 : PySem.W.keepIn K (.ref f21) = true)
    (a22 : PySem.W.nsIn K mainGlobals "_law_many_right" = some (some (.ref f22))) (l22 : K.lookup f22 = some ⟨oc22, od22, .func (PySem.W.fnOf "_law_many_right" "_law_many_right" (defArgs s__law_many_right) (defBody s__law_many_right) (defScope s__law_many_right) .none kV22 dc22 pm22 an22 cd22 ct22), sl22⟩) (c22 : PySem.W.codeIn K cd22 "_law_many_right" = true) (k22 : PySem.W.keepIn K (.ref f22) = true)
    (a23 : PySem.W.nsIn K mainGlobals "law" = some (some (.ref f23))) (l23 : K.lookup f23 = some ⟨oc23, od23, .func (PySem.W.fnOf "law" "law" (defArgs s_law) (defBody s_law) (defScope s_law) .none kV23 dc23 pm23 an23 cd23 ct23), sl23⟩) (c23 : PySem.W.codeIn K cd23 "law" = true) (k23 : PySem.W.keepIn K (.ref f23) = true)
    (z0 : PySem.W.nsIn K mainGlobals "len" = some none) (z1 : PySem.W.nsIn K mainGlobals "int" = some none) (z2 : PySem.W.nsIn K mainGlobals "list" = some none) (z3 : PySem.W.nsIn K mainGlobals "tuple" = some none) (z4 : PySem.W.nsIn K mainGlobals "dict" = some none) (z5 : PySem.W.nsIn K mainGlobals "repr" = some none) (z6 : PySem.W.nsIn K mainGlobals "range" = some none) (z7 : PySem.W.nsIn K mainGlobals "zip" = some none) (z8 : PySem.W.nsIn K mainGlobals "sorted" = some none) (z9 : PySem.W.nsIn K mainGlobals "reversed" = some none) (z10 : PySem.W.nsIn K mainGlobals "sum" = some none) :
    ∃ fd : FuncData, (∀ (s : Shared) (v : Value), BindsTo s fd ⟨[v], []⟩ [("_law_script", v)]) ∧ ∀ base : Heap, K.In base → base.Ns mainGlobals mg → LawRun l.prog w K mg base fa fd "_law_script" (spLaw K) := by
  have e := hfa.symm.trans (PySem.W.mg_of X G a23)
  cases e
  have B : Bl mg := ⟨PySem.W.mg_none_of X G z0, PySem.W.mg_none_of X G z1, PySem.W.mg_none_of X G z2, PySem.W.mg_none_of X G z3, PySem.W.mg_none_of X G z4, PySem.W.mg_none_of X G z5, PySem.W.mg_none_of X G z6, PySem.W.mg_none_of X G z7, PySem.W.mg_none_of X G z8⟩
  have B5 : Bl5 mg := ⟨PySem.W.mg_none_of X G z9, PySem.W.mg_none_of X G z10⟩
  have F1 := fun_mk (st := s_var) l1 c1 k1
  have m1 := PySem.W.mg_of X G a1
  have F2 := fun_mk (st := s_con) l2 c2 k2
  have m2 := PySem.W.mg_of X G a2
  have F3 := fun_mk (st := s_applied) l3 c3 k3
  have m3 := PySem.W.mg_of X G a3
  have F4 := fun_mk (st := s_to) l4 c4 k4
  have m4 := PySem.W.mg_of X G a4
  have F5 := fun_mk (st := s_leaves_of) l5 c5 k5
  have m5 := PySem.W.mg_of X G a5
  have F6 := fun_mk (st := s_size_of) l6 c6 k6
  have m6 := PySem.W.mg_of X G a6
  have F7 := fun_mk (st := s_variables_of) l7 c7 k7
  have m7 := PySem.W.mg_of X G a7
  have F8 := fun_mk (st := s_put) l8 c8 k8
  have m8 := PySem.W.mg_of X G a8
  have F9 := fun_mk (st := s__law_begin) l9 c9 k9
  have m9 := PySem.W.mg_of X G a9
  have F10 := fun_mk (st := s__law_draw) l10 c10 k10
  have m10 := PySem.W.mg_of X G a10
  have F11 := fun_mk (st := s__law_pick) l11 c11 k11
  have m11 := PySem.W.mg_of X G a11
  have F12 := fun_mk (st := s__law_shuffled) l12 c12 k12
  have m12 := PySem.W.mg_of X G a12
  have F13 := fun_mk (st := s__law_words) l13 c13 k13
  have m13 := PySem.W.mg_of X G a13
  have F14 := fun_mk (st := s__law_con) l14 c14 k14
  have m14 := PySem.W.mg_of X G a14
  have F15 := fun_mk (st := s__law_to) l15 c15 k15
  have m15 := PySem.W.mg_of X G a15
  have F16 := fun_mk (st := s__law_put) l16 c16 k16
  have m16 := PySem.W.mg_of X G a16
  have F17 := fun_mk (st := s__law_vars) l17 c17 k17
  have m17 := PySem.W.mg_of X G a17
  have F18 := fun_mk (st := s__law_head_of) l18 c18 k18
  have m18 := PySem.W.mg_of X G a18
  have F19 := fun_mk (st := s__law_letter_kind) l19 c19 k19
  have m19 := PySem.W.mg_of X G a19
  have F20 := fun_mk (st := s__law_count_leaves) l20 c20 k20
  have m20 := PySem.W.mg_of X G a20
  have F21 := fun_mk (st := s__law_made) l21 c21 k21
  have m21 := PySem.W.mg_of X G a21
  have F22 := fun_mk (st := s__law_many_right) l22 c22 k22
  have m22 := PySem.W.mg_of X G a22
  have F23 := fun_mk (st := s_law) l23 c23 k23
  have m23 := PySem.W.mg_of X G a23
  refine ⟨PySem.W.fnOf "law" "law" (defArgs s_law) (defBody s_law) (defScope s_law) .none kV23 dc23 pm23 an23 cd23 ct23, fun s v => .of_eq rfl, fun base _ _ => ?_⟩
  have Dvar := Fun.kn (P := l.prog) (w := w) (base := base) (k := 1) F1 m1 (ok_var F1) fun _ _ _ _ _ _ us hl => match us, hl with | [_], _ => rfl
  have Dapplied := Fun.kn (P := l.prog) (w := w) (base := base) (k := 1) F3 m3 (ok_applied F3) fun _ _ _ _ _ _ us hl => match us, hl with | [_, _], _ => rfl
  have Dcon : KnR l.prog w K mg base 2 "con" (spStar 1 (spConT K)) := ⟨f2, ok_conP F2 Dapplied, m2, F2.kp⟩
  have Dto : KnR l.prog w K mg base 3 "to" (spStar 0 (spTo K)) := ⟨f4, ok_to F4 B B5 Dcon, m4, F4.kp⟩
  have Dleaves : KnR l.prog w K mg base 1 "leaves_of" (spStar 0 (spLeaves K)) := ⟨f5, ok_leaves F5 B B5, m5, F5.kp⟩
  have Dsize : KnR l.prog w K mg base 2 "size_of" (spStar 0 (spSize K)) := ⟨f6, ok_size F6 B Dleaves, m6, F6.kp⟩
  have Dvariables : KnR l.prog w K mg base 2 "variables_of" (spStar 0 (spVarsT K)) := ⟨f7, ok_variables F7 B Dleaves, m7, F7.kp⟩
  have Dput := Fun.kn (P := l.prog) (w := w) (base := base) (k := 9) F8 m8 (ok_putP F8 m8 8) fun _ _ _ _ _ _ us hl => match us, hl with | [_, _], _ => rfl
  have Dbegin := Fun.kn (P := l.prog) (w := w) (base := base) (k := 1) F9 m9 (ok_begin F9) fun _ _ _ _ _ _ us hl => match us, hl with | [_], _ => rfl
  have Ddraw := Fun.kn (P := l.prog) (w := w) (base := base) (k := 1) F10 m10 (ok_draw F10 B) fun _ _ _ _ _ _ us hl => match us, hl with | [_, _], _ => rfl
  have Dpick := Fun.kn (P := l.prog) (w := w) (base := base) (k := 2) F11 m11 (ok_pick F11 B Ddraw) fun _ _ _ _ _ _ us hl => match us, hl with | [_, _], _ => rfl
  have Dshuf := Fun.kn (P := l.prog) (w := w) (base := base) (k := 2) F12 m12 (ok_shuf F12 B Ddraw) fun _ _ _ _ _ _ us hl => match us, hl with | [_, _], _ => rfl
  have Dwords := Fun.kn (P := l.prog) (w := w) (base := base) (k := 3) F13 m13 (ok_words F13 B Ddraw Dpick) fun _ _ _ _ _ _ us hl => match us, hl with | [_, _], _ => rfl
  have Dlcon := Fun.kn (P := l.prog) (w := w) (base := base) (k := 1) F14 m14 (ok_con F14) fun _ _ _ _ _ _ us hl => match us, hl with | [_, _], _ => rfl
  have Dlto := Fun.kn (P := l.prog) (w := w) (base := base) (k := 2) F15 m15 (ok_lto F15 Dlcon) fun _ _ _ _ _ _ us hl => match us, hl with | [_], _ => rfl
  have Dlput := Fun.kn (P := l.prog) (w := w) (base := base) (k := 9) F16 m16 (ok_put F16 m16 8) fun _ _ _ _ _ _ us hl => match us, hl with | [_, _], _ => rfl
  have Dvars := Fun.kn (P := l.prog) (w := w) (base := base) (k := 1) F17 m17 (ok_vars F17 B) fun _ _ _ _ _ _ us hl => match us, hl with | [_], _ => rfl
  have Dhead := Fun.kn (P := l.prog) (w := w) (base := base) (k := 1) F18 m18 (ok_head F18) fun _ _ _ _ _ _ us hl => match us, hl with | [_], _ => rfl
  have okl := fun n => ok_letter (P := l.prog) (w := w) (base := base) F19 m19 B Ddraw Dpick Dlcon n
  have Dls := Fun.kn (P := l.prog) (w := w) (base := base) (k := 7) F19 m19 (fn_ls fun n hn => (okl n).mono (by omega)) fun _ _ _ _ _ _ us hl => match us, hl with | [_, _, _, _], _ => rfl
  have Dcount := Fun.kn (P := l.prog) (w := w) (base := base) (k := 9) F20 m20 (ok_count F20 m20 8) fun _ _ _ _ _ _ us hl => match us, hl with | [_], _ => rfl
  have Dmade := Fun.kn (P := l.prog) (w := w) (base := base) (k := 11) F21 m21 (ok_made F21 m21 B Dvar Dcon Dhead 8) fun _ _ _ _ _ _ us hl => match us, hl with | [_], _ => rfl
  have Dmany := Fun.kn (P := l.prog) (w := w) (base := base) (k := 10) F22 m22 (ok_many F22 B B5 Dcount Dvars Dlto Dsize Dvariables Dto) fun _ _ _ _ _ _ us hl => match us, hl with | [_], _ => rfl
  exact law_run F23 B Dbegin Ddraw Dwords Dls Dlput Dput Dmade Dmany Dshuf Dsize Dvariables
end L3

open PySem PySem.W PyProof.Rows in
set_option maxRecDepth 100000 in
set_option maxHeartbeats 0 in
theorem PySem.Challenge.cw_leastneeds_k05_kinds_made_and_measured_holds : PySem.Challenge.rw_leastneeds_k05_kinds_made_and_measured.Holds := by
  w_on; o_law; k_head; (case hw => w_witness2)
  k_fill
  refine L3.walkG (l := PySem.Challenge.rw_leastneeds_k05_kinds_made_and_measured) (n := 63) (x := "_law_script") (sp := L3.spLaw) rfl (by decide) rfl (fun w h Y => PySem.W.kIn_of Y) ?F (fun K H a ns _ hS => ⟨a, ns, rfl, hS, fun _ => rfl⟩)
  case F =>
    intro w mg fa h KX G hmg
    refine' L3.all_mk KX G hmg ?a1 ?l1 ?c1 ?k1 ?a2 ?l2 ?c2 ?k2 ?a3 ?l3 ?c3 ?k3 ?a4 ?l4 ?c4 ?k4 ?a5 ?l5 ?c5 ?k5 ?a6 ?l6 ?c6 ?k6 ?a7 ?l7 ?c7 ?k7 ?a8 ?l8 ?c8 ?k8 ?a9 ?l9 ?c9 ?k9 ?a10 ?l10 ?c10 ?k10 ?a11 ?l11 ?c11 ?k11 ?a12 ?l12 ?c12 ?k12 ?a13 ?l13 ?c13 ?k13 ?a14 ?l14 ?c14 ?k14 ?a15 ?l15 ?c15 ?k15 ?a16 ?l16 ?c16 ?k16 ?a17 ?l17 ?c17 ?k17 ?a18 ?l18 ?c18 ?k18 ?a19 ?l19 ?c19 ?k19 ?a20 ?l20 ?c20 ?k20 ?a21 ?l21 ?c21 ?k21 ?a22 ?l22 ?c22 ?k22 ?a23 ?l23 ?c23 ?k23 ?z0 ?z1 ?z2 ?z3 ?z4 ?z5 ?z6 ?z7 ?z8 ?z9 ?z10
    (case a1 => k_is)
    (case l1 => k_is)
    (case c1 => k_is)
    (case k1 => k_is)
    (case a2 => k_is)
    (case l2 => k_is)
    (case c2 => k_is)
    (case k2 => k_is)
    (case a3 => k_is)
    (case l3 => k_is)
    (case c3 => k_is)
    (case k3 => k_is)
    (case a4 => k_is)
    (case l4 => k_is)
    (case c4 => k_is)
    (case k4 => k_is)
    (case a5 => k_is)
    (case l5 => k_is)
    (case c5 => k_is)
    (case k5 => k_is)
    (case a6 => k_is)
    (case l6 => k_is)
    (case c6 => k_is)
    (case k6 => k_is)
    (case a7 => k_is)
    (case l7 => k_is)
    (case c7 => k_is)
    (case k7 => k_is)
    (case a8 => k_is)
    (case l8 => k_is)
    (case c8 => k_is)
    (case k8 => k_is)
    (case a9 => k_is)
    (case l9 => k_is)
    (case c9 => k_is)
    (case k9 => k_is)
    (case a10 => k_is)
    (case l10 => k_is)
    (case c10 => k_is)
    (case k10 => k_is)
    (case a11 => k_is)
    (case l11 => k_is)
    (case c11 => k_is)
    (case k11 => k_is)
    (case a12 => k_is)
    (case l12 => k_is)
    (case c12 => k_is)
    (case k12 => k_is)
    (case a13 => k_is)
    (case l13 => k_is)
    (case c13 => k_is)
    (case k13 => k_is)
    (case a14 => k_is)
    (case l14 => k_is)
    (case c14 => k_is)
    (case k14 => k_is)
    (case a15 => k_is)
    (case l15 => k_is)
    (case c15 => k_is)
    (case k15 => k_is)
    (case a16 => k_is)
    (case l16 => k_is)
    (case c16 => k_is)
    (case k16 => k_is)
    (case a17 => k_is)
    (case l17 => k_is)
    (case c17 => k_is)
    (case k17 => k_is)
    (case a18 => k_is)
    (case l18 => k_is)
    (case c18 => k_is)
    (case k18 => k_is)
    (case a19 => k_is)
    (case l19 => k_is)
    (case c19 => k_is)
    (case k19 => k_is)
    (case a20 => k_is)
    (case l20 => k_is)
    (case c20 => k_is)
    (case k20 => k_is)
    (case a21 => k_is)
    (case l21 => k_is)
    (case c21 => k_is)
    (case k21 => k_is)
    (case a22 => k_is)
    (case l22 => k_is)
    (case c22 => k_is)
    (case k22 => k_is)
    (case a23 => k_is)
    (case l23 => k_is)
    (case c23 => k_is)
    (case k23 => k_is)
    (case z0 => k_is)
    (case z1 => k_is)
    (case z2 => k_is)
    (case z3 => k_is)
    (case z4 => k_is)
    (case z5 => k_is)
    (case z6 => k_is)
    (case z7 => k_is)
    (case z8 => k_is)
    (case z9 => k_is)
    (case z10 => k_is)
