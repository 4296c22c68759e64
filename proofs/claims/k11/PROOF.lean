import PyProof.Rows.All
import Wide.All
import OpenK.AllK
import Wide.FinOn
import HandS.ForMost
import HandS.Wide
import HandS.WideBits
import HandS.Gcd
import HandS.IsInst
import HandS.Property
import HandS.Defaults
import HandS.MakeKw
import HandS.ClsMeth
import HandS.FStr
import HandS.RaiseMore
import HandS.OwnEq
import HandS.MakeKwOnly
import HandS.Style
import HandS.Head0
import HandS.Head1
import HandS.Head2
import HandS.Head3
import HandS.HeadEnd
import HandS.HeadHook1
import HandS.HeadHook2
import HandS.HeadNt
import PySem.Challenge.RW_rootsround_k11_ratios_reckoned
set_option Elab.async false
section
set_option linter.all false
set_option maxRecDepth 100000
set_option maxHeartbeats 4000000
/-! Data that never change, what a state says of them, and what expressions and statements come to on them. -/
namespace DL
open PySem PySem.Spec PyProof.Rows L2

inductive D where
  | non | bl (b : Bool) | int (i : Int) | str (x : Str) | lst (xs : List D) | tup (xs : List D) | rat (t b : Int) | adr (a : Addr) | ty (n : String)

def ratF (t b : Int) : List (Str × V) := putF "_bottom" (.int b) (putF "_top" (.int t) [])

section
variable (C : Addr) (H : Hp)
mutual
inductive Is : V → D → Prop where
  | non : Is .non .non
  | bl (b : Bool) : Is (.bl b) (.bl b)
  | int (i : Int) : Is (.int i) (.int i)
  | str (x : Str) : Is (.str x) (.str x)
  | lst {a : Addr} {vs : List V} {ds : List D} (h : H a = some (.lst vs)) (r : IsL vs ds) : Is (.ref a) (.lst ds)
  | tup {a : Addr} {vs : List V} {ds : List D} (h : H a = some (.tup vs)) (r : IsL vs ds) : Is (.ref a) (.tup ds)
  | rat {a dx : Addr} {t b : Int} (h : H a = some (.ins C dx (ratF t b))) : Is (.ref a) (.rat t b)
  | adr (a : Addr) : Is (.ref a) (.adr a)
  | ty (n : String) : Is (.ty n) (.ty n)
inductive IsL : List V → List D → Prop where
  | nil : IsL [] []
  | cons {v : V} {d : D} {vs : List V} {ds : List D} (h : Is v d) (r : IsL vs ds) : IsL (v :: vs) (d :: ds)
end
end
section
variable {C : Addr} {H H' : Hp}
mutual
theorem Is.mono (e : Same H H') : ∀ {v : V} {d : D}, Is C H v d → Is C H' v d
  | _, _, .non => .non
  | _, _, .bl b => .bl b
  | _, _, .int i => .int i
  | _, _, .str x => .str x
  | _, _, .lst h r => .lst (e _ _ h) (IsL.mono e r)
  | _, _, .tup h r => .tup (e _ _ h) (IsL.mono e r)
  | _, _, .rat h => .rat (e _ _ h)
  | _, _, .adr a => .adr a
  | _, _, .ty n => .ty n
theorem IsL.mono (e : Same H H') : ∀ {vs : List V} {ds : List D}, IsL C H vs ds → IsL C H' vs ds
  | _, _, .nil => .nil
  | _, _, .cons h r => .cons (Is.mono e h) (IsL.mono e r)
end
theorem IsL.length : ∀ {vs : List V} {ds : List D}, IsL C H vs ds → vs.length = ds.length
  | _, _, .nil => rfl
  | _, _, .cons _ r => congrArg Nat.succ (IsL.length r)
theorem IsL.get : ∀ {vs : List V} {ds : List D} {i : Nat} {v : V}, IsL C H vs ds → vs[i]? = some v → ∃ d, ds[i]? = some d ∧ Is C H v d
  | _, _, _, _, .nil, e => by simp at e
  | _, _, 0, _, .cons h _, e => by simp at e; subst e; exact ⟨_, rfl, h⟩
  | _, _, i + 1, v, .cons _ r, e => by
    obtain ⟨d, h1, h2⟩ := IsL.get (i := i) (v := v) r (by simpa using e)
    exact ⟨d, by simpa using h1, h2⟩
theorem IsL.getD : ∀ {vs : List V} {ds : List D} {i : Nat} {d : D}, IsL C H vs ds → ds[i]? = some d → ∃ v, vs[i]? = some v ∧ Is C H v d
  | _, _, _, _, .nil, e => by simp at e
  | _, _, 0, _, .cons h _, e => by simp at e; subst e; exact ⟨_, rfl, h⟩
  | _, _, i + 1, d, .cons _ r, e => by
    obtain ⟨v, h1, h2⟩ := IsL.getD (i := i) (d := d) r (by simpa using e)
    exact ⟨v, by simpa using h1, h2⟩
theorem IsL.append : ∀ {vs ws : List V} {ds es : List D}, IsL C H vs ds → IsL C H ws es → IsL C H (vs ++ ws) (ds ++ es)
  | _, _, _, _, .nil, s => s
  | _, _, _, _, .cons h r, s => .cons h (IsL.append r s)
theorem IsL.snoc {vs : List V} {ds : List D} {v : V} {d : D} (r : IsL C H vs ds) (h : Is C H v d) : IsL C H (vs ++ [v]) (ds ++ [d]) := r.append (.cons h .nil)
theorem IsL.rep {vs : List V} {ds : List D} (r : IsL C H vs ds) : ∀ k : Nat, IsL C H (List.replicate k vs).flatten (List.replicate k ds).flatten
  | 0 => .nil
  | k + 1 => by
    rw [List.replicate_succ, List.replicate_succ, List.flatten_cons, List.flatten_cons]
    exact r.append (IsL.rep r k)
end

/-! ### the one object that may change (the law's pot) -/
def Pot (H : Hp) (p : Addr) : Prop := ∃ a b : Int, H p = some (.lst [.int a, .int b]) ∧ 0 ≤ a ∧ 0 ≤ b ∧ b < 2 ^ 40
/-- G: what is fixed for good; H: all that is tracked -/
structure Bef (pt : Option Addr) (G H : Hp) : Prop where
  sub : Same G H
  pot : ∀ p, pt = some p → G p = none ∧ Pot H p
structure Aft (pt : Option Addr) (G H G' H' : Hp) : Prop where
  g : Same G G'
  sub : Same G' H'
  keep : ∀ a o, pt ≠ some a → H a = some o → H' a = some o
  fr : ∀ a o, G' a = some o → G a = some o ∨ H a = none
  pot : ∀ p, pt = some p → Pot H' p
section
variable {pt : Option Addr} {G H G1 H1 G2 H2 : Hp}
theorem Pot.ne {p : Addr} (h : Pot H p) : H p ≠ none := by
  obtain ⟨a, b, e, _⟩ := h
  rw [e]
  exact fun z => nomatch z
theorem Aft.refl (b : Bef pt G H) : Aft pt G H G H := ⟨Same.refl G, b.sub, fun _ _ _ h => h, fun _ _ h => .inl h, fun p e => (b.pot p e).2⟩
theorem Aft.bef (b : Bef pt G H) (a : Aft pt G H G1 H1) : Bef pt G1 H1 := ⟨a.sub, fun p e => by
  refine ⟨?_, a.pot p e⟩
  cases q : G1 p with
  | none => rfl
  | some o =>
    rcases a.fr p o q with z | z
    · rw [(b.pot p e).1] at z; cases z
    · exact absurd z (b.pot p e).2.ne⟩
theorem Aft.back (b : Bef pt G H) (a : Aft pt G H G1 H1) {x : Addr} (h : H1 x = none) : H x = none := by
  cases q : H x with
  | none => rfl
  | some o =>
    by_cases e : pt = some x
    · exact absurd h (a.pot x e).ne
    · rw [a.keep x o e q] at h; cases h
theorem Aft.trans (b : Bef pt G H) (a : Aft pt G H G1 H1) (c : Aft pt G1 H1 G2 H2) : Aft pt G H G2 H2 :=
  ⟨a.g.trans c.g, c.sub, fun x o e h => c.keep x o e (a.keep x o e h), fun x o h => by
    rcases c.fr x o h with z | z
    · exact a.fr x o z
    · exact .inr (a.back b z), c.pot⟩
/-- a new object, fixed -/
theorem Aft.new (b : Bef pt G H) {p : Addr} {o : HO} (h : H p = none) : Aft pt G H (upd G p o) (upd H p o) := by
  have hg : G p = none := by
    cases q : G p with
    | none => rfl
    | some o => rw [b.sub p o q] at h; cases h
  refine ⟨fun a u e => by rw [upd_ne (ne_of_none e hg)]; exact e, fun a u e => ?_, fun a u _ e => by rw [upd_ne (ne_of_none e h)]; exact e, fun a u e => ?_, fun q e => ?_⟩
  · by_cases z : a = p
    · subst z; rw [upd_same] at e ⊢; exact e
    · rw [upd_ne z] at e ⊢; exact b.sub a u e
  · by_cases z : a = p
    · subst z; exact .inr h
    · rw [upd_ne z] at e; exact .inl e
  · have hn : q ≠ p := fun z => by subst z; exact absurd h (b.pot q e).2.ne
    obtain ⟨x, y, e1, r⟩ := (b.pot q e).2
    exact ⟨x, y, by rw [upd_ne hn]; exact e1, r⟩
/-- a new object that is not fixed yet -/
theorem Aft.open_ (b : Bef pt G H) {p : Addr} {o : HO} (h : H p = none) : Aft pt G H G (upd H p o) := by
  refine ⟨Same.refl G, fun a u e => by rw [upd_ne (ne_of_none (b.sub a u e) h)]; exact b.sub a u e, fun a u _ e => by rw [upd_ne (ne_of_none e h)]; exact e, fun a u e => .inl e, fun q e => ?_⟩
  have hn : q ≠ p := fun z => by subst z; exact absurd h (b.pot q e).2.ne
  obtain ⟨x, y, e1, r⟩ := (b.pot q e).2
  exact ⟨x, y, by rw [upd_ne hn]; exact e1, r⟩
end

/-! ### the frame's values -/
abbrev Rho := List (Option D)
def EnvOk (C : Addr) (G : Hp) (σ : L2.St) (ρ : Rho) : Prop := σ.length = ρ.length ∧ ∀ (i : Nat) (d : D), ρ[i]? = some (some d) → ∃ v, σ[i]? = some (some v) ∧ Is C G v d
section
variable {C : Addr} {G G' : Hp} {σ : L2.St} {ρ : Rho}
theorem EnvOk.mono (e : Same G G') (h : EnvOk C G σ ρ) : EnvOk C G' σ ρ := ⟨h.1, fun i d q => let ⟨v, h1, h2⟩ := h.2 i d q; ⟨v, h1, h2.mono e⟩⟩
theorem EnvOk.set (h : EnvOk C G σ ρ) {i : Nat} {v : V} {d : D} (r : Is C G v d) : EnvOk C G (σ.set i (some v)) (ρ.set i (some d)) := by
  refine ⟨by rw [List.length_set, List.length_set]; exact h.1, fun j e q => ?_⟩
  by_cases hj : i = j
  · subst hj
    have hl : i < ρ.length := by
      have := (List.getElem?_eq_some_iff.mp q).1
      rwa [List.length_set] at this
    rw [List.getElem?_set_self hl] at q
    cases q
    exact ⟨v, by rw [List.getElem?_set_self (by rw [h.1]; exact hl)], r⟩
  · rw [List.getElem?_set_ne hj] at q ⊢
    exact h.2 j e q
theorem EnvOk.weak (h : EnvOk C G σ ρ) {ρ' : Rho} (hl : ρ'.length = ρ.length) (w : ∀ (i : Nat) (d : D), ρ'[i]? = some (some d) → ρ[i]? = some (some d)) : EnvOk C G σ ρ' := ⟨by rw [hl]; exact h.1, fun i d q => h.2 i d (w i d q)⟩
/-- some slots forgotten -/
def wipeD (ρ : Rho) : List Nat → Rho
  | [] => ρ
  | v :: vs => (wipeD ρ vs).set v none
theorem EnvOk.setNone (h : EnvOk C G σ ρ) (i : Nat) : EnvOk C G (σ.set i none) (ρ.set i none) := by
  refine ⟨by rw [List.length_set, List.length_set]; exact h.1, fun j e q => ?_⟩
  by_cases hj : i = j
  · subst hj
    have hl : i < ρ.length := by
      have := (List.getElem?_eq_some_iff.mp q).1
      rwa [List.length_set] at this
    rw [List.getElem?_set_self hl] at q
    cases q
  · rw [List.getElem?_set_ne hj] at q ⊢
    exact h.2 j e q
theorem EnvOk.wipe (h : EnvOk C G σ ρ) : ∀ vs : List Nat, EnvOk C G (L2.wipe σ vs) (wipeD ρ vs)
  | [] => h
  | v :: vs => (EnvOk.wipe h vs).setNone v
def startD (n : Nat) (ds : List D) : Rho := ds.map some ++ List.replicate (n - ds.length) none
theorem EnvOk.start {N : List Str} {vs : List V} {ds : List D} (h : IsL C G vs ds) : EnvOk C G (L2.start N vs) (startD N.length ds) := by
  unfold L2.start startD
  refine ⟨by simp [h.length], fun i d q => ?_⟩
  have hi : i < ds.length := by
    by_cases hi : i < ds.length
    · exact hi
    · rw [List.getElem?_append_right (by simpa using hi), List.getElem?_replicate] at q
      split at q <;> cases q
  rw [List.getElem?_append_left (by simpa using hi), List.getElem?_map] at q
  have q' : ds[i]? = some d := by
    cases e : ds[i]? with
    | none => rw [e] at q; cases q
    | some a => rw [e] at q; cases q; rfl
  obtain ⟨v, h1, h2⟩ := h.getD q'
  refine ⟨v, ?_, h2⟩
  rw [List.getElem?_append_left (by simp [h.length]; exact hi), List.getElem?_map, h1]
  rfl
end

/-! ### what readings come to -/
section
variable (C : Addr) (pt : Option Addr)
def EvP (te : TE) (ρ : Rho) (P : D → Prop) : Prop := ∀ σ G H, EnvOk C G σ ρ → Bef pt G H → ∀ Q : VK, (∀ d v G2 H2, P d → Aft pt G H G2 H2 → Is C G2 v d → Q v H2) → te σ H Q
def EvD (te : TE) (ρ : Rho) (d : D) : Prop := ∀ σ G H, EnvOk C G σ ρ → Bef pt G H → ∀ Q : VK, (∀ v G2 H2, Aft pt G H G2 H2 → Is C G2 v d → Q v H2) → te σ H Q
def EvT (tt : TT) (ρ : Rho) (b : Bool) : Prop := ∀ σ G H, EnvOk C G σ ρ → Bef pt G H → ∀ Q : Bool → Hp → Prop, (∀ G2 H2, Aft pt G H G2 H2 → Q b H2) → tt σ H Q
def EvA (ta : TA) (ρ : Rho) (ds : List D) : Prop := ∀ σ G H, EnvOk C G σ ρ → Bef pt G H → ∀ Q : List V → Hp → Prop, (∀ vs G2 H2, Aft pt G H G2 H2 → IsL C G2 vs ds → Q vs H2) → ta σ H Q
/-- a two-place operation by values -/
def R2D (r : R2) (x y z : D) : Prop := ∀ G H, Bef pt G H → ∀ (v u : V), Is C G v x → Is C G u y → ∀ Q : VK, (∀ w G2 H2, Aft pt G H G2 H2 → Is C G2 w z → Q w H2) → r v u H Q
def R1D (r : V → Hp → VK → Prop) (x z : D) : Prop := ∀ G H, Bef pt G H → ∀ (v : V), Is C G v x → ∀ Q : VK, (∀ w G2 H2, Aft pt G H G2 H2 → Is C G2 w z → Q w H2) → r v H Q
def RnD (r : List V → Hp → VK → Prop) (xs : List D) (z : D) : Prop := ∀ G H, Bef pt G H → ∀ (vs : List V), IsL C G vs xs → ∀ Q : VK, (∀ w G2 H2, Aft pt G H G2 H2 → Is C G2 w z → Q w H2) → r vs H Q
end
/-! ### the syntax's own readings: whatever it takes -/
def wE (X : Cx) (e : Expr) : TE := fun σ H Q => ∀ pins s, Inv X pins σ H s → wpAny (model X.prog X.w) X.A (eval e X.env) (EP X pins σ Q) X.xe s
def wT (X : Cx) (e : Expr) : TT := fun σ H Q => ∀ pins s, Inv X pins σ H s → wpAny (model X.prog X.w) X.A (isTrue e X.env (eval e X.env)) (TP X pins σ Q) X.xe s
def wA (X : Cx) (es : List Expr) : TA := fun σ H Q => ∀ pos pins s, Inv X pins σ H s → wpAny (model X.prog X.w) X.A (spliced (backTo pos (starEach es X.env))) (AP X pins σ Q) X.xe s
def wS (X : Cx) (st : List Stmt) : TS := fun D σ H => ∀ pins s, Inv X pins σ H s → wpAny (model X.prog X.w) X.A (execs st X.env) (SP X pins D) X.xe s
section
variable {X : Cx} {C : Addr} {pt : Option Addr} {ρ : Rho}
theorem pe_w (e : Expr) : PE X e (wE X e) := ⟨fun pins s _ _ _ I h => h pins s I⟩
theorem pt_w (e : Expr) : PT X e (wT X e) := ⟨fun pins s _ _ _ I h => h pins s I⟩
theorem pa_w (es : List Expr) : PA X es (wA X es) := ⟨fun pos pins s _ _ _ I h => h pos pins s I⟩
theorem ps_w (st : List Stmt) : PSs X st (wS X st) := ⟨fun pins s _ _ _ I h => h pins s I⟩
theorem ofPE {e : Expr} {te : TE} {d : D} (h : PE X e te) (ev : EvD C pt te ρ d) : EvD C pt (wE X e) ρ d := fun σ G H en b Q k pins s I => h.run pins s σ H Q I (ev σ G H en b Q k)
theorem ofPT {e : Expr} {te : TT} {d : Bool} (h : PT X e te) (ev : EvT C pt te ρ d) : EvT C pt (wT X e) ρ d := fun σ G H en b Q k pins s I => h.run pins s σ H Q I (ev σ G H en b Q k)
theorem ofPA {es : List Expr} {ta : TA} {ds : List D} (h : PA X es ta) (ev : EvA C pt ta ρ ds) : EvA C pt (wA X es) ρ ds := fun σ G H en b Q k pos pins s I => h.run pos pins s σ H Q I (ev σ G H en b Q k)
theorem EvP.of {te : TE} {d : D} {P : D → Prop} (h : EvD C pt te ρ d) (p : P d) : EvP C pt te ρ P := fun σ G H en b Q k => h σ G H en b Q fun v G2 H2 a i => k d v G2 H2 p a i

/-! ### expressions -/
variable {a b e : Expr} {es : List Expr} {x y z d : D} {pos : Pos}
theorem d_var {n : Str} (i : Nat) (hN : X.N[i]? = some n) (hv : Vis X.env.scope n) (h : ρ[i]? = some (some d)) (hd : (n == ("__debug__" : Str)) = false := by decide) (hcd : (n == ("__classdict__" : Str)) = false := by decide) : EvD C pt (wE X (.Name n pos)) ρ d :=
  ofPE (pe_var hN hv hd hcd) fun σ G H en b Q k => let ⟨v, h1, h2⟩ := en.2 i d h; ⟨v, h1, k v G H (Aft.refl b) h2⟩
theorem d_int {i : Int} {j} : EvD C pt (wE X (.Constant (.int i) j pos)) ρ (.int i) := ofPE pe_int fun σ G H en b Q k => k _ G H (Aft.refl b) (.int i)
theorem d_bl {i : Bool} {j} : EvD C pt (wE X (.Constant (.bool i) j pos)) ρ (.bl i) := ofPE pe_bl fun σ G H en b Q k => k _ G H (Aft.refl b) (.bl i)
theorem d_non {j} : EvD C pt (wE X (.Constant .none j pos)) ρ .non := ofPE pe_non fun σ G H en b Q k => k _ G H (Aft.refl b) .non
theorem d_str {i : Str} {j} : EvD C pt (wE X (.Constant (.str i) j pos)) ρ (.str i) := ofPE pe_str fun σ G H en b Q k => k _ G H (Aft.refl b) (.str i)
theorem ev_op {r : R2} {ta tb : TE} (ha : EvD C pt ta ρ x) (hb : EvD C pt tb ρ y) (hr : R2D C pt r x y z) : EvD C pt (tOp r ta tb) ρ z := fun σ G H en b Q k =>
  ha σ G H en b _ fun v G1 H1 a1 i1 => hb σ G1 H1 (en.mono a1.g) (a1.bef b) _ fun u G2 H2 a2 i2 => by
    have b2 := a2.bef (a1.bef b)
    exact hr G2 H2 b2 v u (i1.mono a2.g) i2 Q fun w G3 H3 a3 i3 => k w G3 H3 ((a1.trans b a2).trans b a3) i3
theorem d_bin {op : Operator} {r : R2} (ho : OpR X (binaryOp op) r) (ha : EvD C pt (wE X a) ρ x) (hb : EvD C pt (wE X b) ρ y) (hr : R2D C pt r x y z) : EvD C pt (wE X (.BinOp a op b pos)) ρ z := ofPE (pe_op ho (pe_w a) (pe_w b)) (ev_op ha hb hr)
theorem d_cmp {op : CmpOp} {r : R2} (ho : OpR X (compareOp op) r) (ha : EvD C pt (wE X a) ρ x) (hb : EvD C pt (wE X b) ρ y) (hr : R2D C pt r x y z) (hm : behindInMarks op b = false) : EvD C pt (wE X (.Compare a [op] [b] pos)) ρ z := ofPE (pe_cmpR ho (pe_w a) (pe_w b) hm) (ev_op ha hb hr)
theorem t_cmp {op : CmpOp} {r : R2} {c : Bool} (ho : OpR X (compareOp op) r) (ha : EvD C pt (wE X a) ρ x) (hb : EvD C pt (wE X b) ρ y) (hr : R2D C pt r x y (.bl c)) (hm : behindInMarks op b = false) : EvT C pt (wT X (.Compare a [op] [b] pos)) ρ c :=
  ofPT (pt_cmpR ho (pe_w a) (pe_w b) hm) fun σ G H en b Q k => ev_op ha hb hr σ G H en b _ fun v G2 H2 a i => by
    cases i
    exact ⟨c, rfl, k G2 H2 a⟩
theorem d_un {op : UnaryOp} {r : V → Hp → VK → Prop} (ho : UnR X (unaryOp op) r) (ha : EvD C pt (wE X a) ρ x) (hr : R1D C pt r x z) : EvD C pt (wE X (.UnaryOp op a pos)) ρ z := ofPE (pe_un ho (pe_w a)) fun σ G H en b Q k =>
  ha σ G H en b _ fun v G1 H1 a1 i1 => hr G1 H1 (a1.bef b) v i1 Q fun w G3 H3 a3 i3 => k w G3 H3 (a1.trans b a3) i3
/-- a bool as a test -/
theorem t_val {c : Bool} (h : EvD C pt (wE X e) ρ (.bl c)) (he : ∀ whole, isTrue e X.env whole = (do let v ← whole; standAt e.pos; holding [v] (truthy v)) := by intro _; rfl) : EvT C pt (wT X e) ρ c :=
  ofPT (pt_val (pe_w e) he) fun σ G H en b Q k => h σ G H en b _ fun v G2 H2 a i => by
    cases i
    exact ⟨c, rfl, k G2 H2 a⟩
theorem t_not {c : Bool} (h : EvT C pt (wT X e) ρ c) : EvT C pt (wT X (.UnaryOp .Not e pos)) ρ (!c) := ofPT (pt_not (pt_w e)) fun σ G H en b Q k => h σ G H en b _ fun G2 H2 a => k G2 H2 a
theorem d_not {c : Bool} (h : EvD C pt (wE X e) ρ (.bl c)) : EvD C pt (wE X (.UnaryOp .Not e pos)) ρ (.bl (!c)) := ofPE (pe_not (pe_w e)) fun σ G H en b Q k => h σ G H en b _ fun v G2 H2 a i => by
  cases i
  exact ⟨c, rfl, k _ G2 H2 a (.bl _)⟩
/-- a and b, a or b as values (bools) -/
theorem d_and {c1 c2 : Bool} (h1 : EvD C pt (wE X a) ρ (.bl c1)) (h2 : c1 = true → EvD C pt (wE X (.BoolOp .And (b :: es) pos)) ρ (.bl c2)) : EvD C pt (wE X (.BoolOp .And (a :: b :: es) pos)) ρ (.bl (c1 && c2)) :=
  ofPE (pe_and (pe_w a) (pe_w _)) fun σ G H en b Q k => h1 σ G H en b _ fun v G2 H2 a i => by
    cases i
    refine ⟨c1, rfl, ?_⟩
    cases c1 with
    | true => exact h2 rfl σ G2 H2 (en.mono a.g) (a.bef b) Q fun w G3 H3 a3 i3 => k w G3 H3 (a.trans b a3) i3
    | false => exact k _ G2 H2 a (.bl _)
theorem d_or {c1 c2 : Bool} (h1 : EvD C pt (wE X a) ρ (.bl c1)) (h2 : c1 = false → EvD C pt (wE X (.BoolOp .Or (b :: es) pos)) ρ (.bl c2)) : EvD C pt (wE X (.BoolOp .Or (a :: b :: es) pos)) ρ (.bl (c1 || c2)) :=
  ofPE (pe_or (pe_w a) (pe_w _)) fun σ G H en b Q k => h1 σ G H en b _ fun v G2 H2 a i => by
    cases i
    refine ⟨c1, rfl, ?_⟩
    cases c1 with
    | false => exact h2 rfl σ G2 H2 (en.mono a.g) (a.bef b) Q fun w G3 H3 a3 i3 => k w G3 H3 (a.trans b a3) i3
    | true => exact k _ G2 H2 a (.bl _)
theorem d_last {op} (h : EvD C pt (wE X a) ρ x) : EvD C pt (wE X (.BoolOp op [a] pos)) ρ x := ofPE (pe_one (pe_w a)) h
/-- .. as tests; whatever the whole is -/
def EvW (C : Addr) (pt : Option Addr) (X : Cx) (e : Expr) (ρ : Rho) (c : Bool) : Prop := ∃ tt, PW X e tt ∧ EvT C pt tt ρ c
theorem EvW.t {c : Bool} (h : EvW C pt X e ρ c) : EvT C pt (wT X e) ρ c := let ⟨_, p, q⟩ := h; ofPT p.pt q
theorem w_and1 {c : Bool} (h : EvT C pt (wT X a) ρ c) : EvW C pt X (.BoolOp .And [a] pos) ρ c := ⟨_, pw_and1 (pt_w a), h⟩
theorem w_or1 {c : Bool} (h : EvT C pt (wT X a) ρ c) : EvW C pt X (.BoolOp .Or [a] pos) ρ c := ⟨_, pw_or1 (pt_w a), h⟩
theorem w_and {c1 c2 : Bool} (h1 : EvT C pt (wT X a) ρ c1) (h2 : ∃ tt, PW X (.BoolOp .And (b :: es) pos) tt ∧ (c1 = true → EvT C pt tt ρ c2)) : EvW C pt X (.BoolOp .And (a :: b :: es) pos) ρ (c1 && c2) :=
  let ⟨tt, p, q⟩ := h2
  ⟨_, pw_and (pt_w a) p, fun σ G H en b Q k => h1 σ G H en b _ fun G2 H2 a => by
    cases c1 with
    | true => exact q rfl σ G2 H2 (en.mono a.g) (a.bef b) Q fun G3 H3 a3 => k G3 H3 (a.trans b a3)
    | false => exact k G2 H2 a⟩
theorem w_or {c1 c2 : Bool} (h1 : EvT C pt (wT X a) ρ c1) (h2 : ∃ tt, PW X (.BoolOp .Or (b :: es) pos) tt ∧ (c1 = false → EvT C pt tt ρ c2)) : EvW C pt X (.BoolOp .Or (a :: b :: es) pos) ρ (c1 || c2) :=
  let ⟨tt, p, q⟩ := h2
  ⟨_, pw_or (pt_w a) p, fun σ G H en b Q k => h1 σ G H en b _ fun G2 H2 a => by
    cases c1 with
    | false => exact q rfl σ G2 H2 (en.mono a.g) (a.bef b) Q fun G3 H3 a3 => k G3 H3 (a.trans b a3)
    | true => exact k G2 H2 a⟩
theorem d_if {t : Expr} {c : Bool} (h : EvT C pt (wT X t) ρ c) (h1 : c = true → EvD C pt (wE X a) ρ x) (h2 : c = false → EvD C pt (wE X b) ρ x) : EvD C pt (wE X (.IfExp t a b pos)) ρ x := ofPE (pe_ifExp (pt_w t) (pe_w a) (pe_w b)) fun σ G H en b Q k => h σ G H en b _ fun G2 H2 a => by
  cases c with
  | true => exact h1 rfl σ G2 H2 (en.mono a.g) (a.bef b) Q fun w G3 H3 a3 i3 => k w G3 H3 (a.trans b a3) i3
  | false => exact h2 rfl σ G2 H2 (en.mono a.g) (a.bef b) Q fun w G3 H3 a3 i3 => k w G3 H3 (a.trans b a3) i3
/-- arguments -/
theorem a_nil : EvA C pt (wA X []) ρ [] := ofPA pa_nil fun σ G H en b Q k => k _ G H (Aft.refl b) .nil
theorem a_cons {ds : List D} (h : EvD C pt (wE X e) ρ d) (hr : EvA C pt (wA X es) ρ ds) (hs : starEach (e :: es) X.env = (false, eval e X.env) :: starEach es X.env := by rfl) : EvA C pt (wA X (e :: es)) ρ (d :: ds) := ofPA (pa_cons (pe_w e) (pa_w es) hs) fun σ G H en b Q k =>
  h σ G H en b _ fun v G1 H1 a1 i1 => hr σ G1 H1 (en.mono a1.g) (a1.bef b) _ fun vs G2 H2 a2 i2 => k _ G2 H2 (a1.trans b a2) (.cons (i1.mono a2.g) i2)
theorem d_tup {ds : List D} {j} (h : EvA C pt (wA X es) ρ ds) (hl : ds.length ≤ 100000) : EvD C pt (wE X (.Tuple es j pos)) ρ (.tup ds) := ofPE (pe_tup (pa_w es)) fun σ G H en b Q k => h σ G H en b _ fun vs G1 H1 a1 i1 =>
  ⟨by rw [i1.length]; exact Nat.le_trans hl (by rw [sizeLine_eq]; decide), fun p hp => by
    have n := Aft.new (o := .tup vs) (a1.bef b) hp
    exact k _ _ _ (a1.trans b n) (.tup upd_same (i1.mono n.g))⟩
theorem d_lst {ds : List D} (h : EvA C pt (wA X es) ρ ds) (hl : ds.length ≤ 100000) : EvD C pt (wE X (.List es pos)) ρ (.lst ds) := ofPE (pe_lst (pa_w es)) fun σ G H en b Q k => h σ G H en b _ fun vs G1 H1 a1 i1 =>
  ⟨by rw [i1.length]; exact Nat.le_trans hl (by rw [sizeLine_eq]; decide), fun p hp => by
    have n := Aft.new (o := .lst vs) (a1.bef b) hp
    exact k _ _ _ (a1.trans b n) (.lst upd_same (i1.mono n.g))⟩
/-- the call of a built-in function, a built-in type, a module's function -/
theorem d_callB {f : Str} {p : Pos} {id : String} {r : List V → Hp → VK → Prop} {ds : List D} (hc : CallR X (.builtin id) r) (hg : Gl X f) (hm : X.mg f = none) (hv : bootBuiltins f = some (.builtin id)) (ha : EvA C pt (wA X (e :: es)) ρ ds) (hr : RnD C pt r ds z) (hn : f ≠ "__name__" := by decide) (hdb : (f == ("__debug__" : Str)) = false := by decide)
    (he : starEach (e :: es) X.env = (false, eval e X.env) :: starEach es X.env := by rfl) (hpl : (backTo pos (starEach es X.env)).any (·.1) = false := by rfl) : EvD C pt (wE X (.Call (.Name f p) (e :: es) [] pos)) ρ z :=
  ofPE (pe_callB hc hg hm hv (pa_w _) hn hdb he hpl) fun σ G H en b Q k => ha σ G H en b _ fun vs G1 H1 a1 i1 => hr G1 H1 (a1.bef b) vs i1 Q fun w G3 H3 a3 i3 => k w G3 H3 (a1.trans b a3) i3
theorem d_callTy {f : Str} {p : Pos} {T : String} {r : List V → Hp → VK → Prop} {ds : List D} (hc : CallR X (.type T) r) (hg : Gl X f) (hm : X.mg f = none) (hv : bootBuiltins f = some (.type T)) (ha : EvA C pt (wA X (e :: es)) ρ ds) (hr : RnD C pt r ds z) (hn : f ≠ "__name__" := by decide) (hdb : (f == ("__debug__" : Str)) = false := by decide)
    (he : starEach (e :: es) X.env = (false, eval e X.env) :: starEach es X.env := by rfl) (hpl : (backTo pos (starEach es X.env)).any (·.1) = false := by rfl) : EvD C pt (wE X (.Call (.Name f p) (e :: es) [] pos)) ρ z :=
  ofPE (pe_callTy hc hg hm hv (pa_w _) hn hdb he hpl) fun σ G H en b Q k => ha σ G H en b _ fun vs G1 H1 a1 i1 => hr G1 H1 (a1.bef b) vs i1 Q fun w G3 H3 a3 i3 => k w G3 H3 (a1.trans b a3) i3
theorem d_callM {f : Str} {p : Pos} {id : String} {r : List V → Hp → VK → Prop} {ds : List D} (hc : CallR X (.builtin id) r) (hg : Gl X f) (hm : X.mg f = some (.builtin id)) (ha : EvA C pt (wA X (e :: es)) ρ ds) (hr : RnD C pt r ds z) (hdb : (f == ("__debug__" : Str)) = false := by decide)
    (he : starEach (e :: es) X.env = (false, eval e X.env) :: starEach es X.env := by rfl) (hpl : (backTo pos (starEach es X.env)).any (·.1) = false := by rfl) : EvD C pt (wE X (.Call (.Name f p) (e :: es) [] pos)) ρ z :=
  ofPE (pe_callBfun hc hg hm (pa_w _) hdb he hpl) fun σ G H en b Q k => ha σ G H en b _ fun vs G1 H1 a1 i1 => hr G1 H1 (a1.bef b) vs i1 Q fun w G3 H3 a3 i3 => k w G3 H3 (a1.trans b a3) i3
/-- a global's value: a class, a built-in class -/
theorem d_glob {n : Str} {c : Addr} (hg : Gl X n) (hm : X.mg n = some (.ref c)) (hd : (n == ("__debug__" : Str)) = false := by decide) : EvD C pt (wE X (.Name n pos)) ρ (.adr c) := ofPE (pe_glob (v := .ref c) hg hm rfl hd) fun σ G H en b Q k => k _ G H (Aft.refl b) (.adr c)
theorem d_bltn {n : Str} {T : String} (hg : Gl X n) (hm : X.mg n = none) (hv : bootBuiltins n = some (.type T)) (hn : n ≠ "__name__" := by decide) (hd : (n == ("__debug__" : Str)) = false := by decide) : EvD C pt (wE X (.Name n pos)) ρ (.ty T) := ofPE (pe_bltn (v := .ty T) hg hm hv rfl hn hd) fun σ G H en b Q k => k _ G H (Aft.refl b) (.ty T)
/-- t[i] -/
theorem d_ix {r : R2} (hr : IxR X r) (ha : EvD C pt (wE X a) ρ x) (hb : EvD C pt (wE X b) ρ y) (h : R2D C pt r x y z) (hs : PlainIx b) : EvD C pt (wE X (.Subscript a b pos)) ρ z := ofPE (pe_ix hr (pe_w a) (pe_w b) hs) (ev_op ha hb h)

/-! ### operations by values -/
theorem r_same {r : R2} (h : ∀ G H, Bef pt G H → ∀ v u, Is C G v x → Is C G u y → ∃ w, Is C G w z ∧ ∀ Q : VK, Q w H → r v u H Q) : R2D C pt r x y z := fun G H b v u i1 i2 Q k => let ⟨w, i, q⟩ := h G H b v u i1 i2; q Q (k w G H (Aft.refl b) i)
theorem r_I0b {i j : Int} {g : Int → Int → Bool} : R2D C pt (rI0 fun i j => .bl (g i j)) (.int i) (.int j) (.bl (g i j)) := r_same fun G H b v u i1 i2 => by
  cases i1; cases i2; exact ⟨_, .bl _, fun Q q => ⟨i, j, rfl, rfl, q⟩⟩
theorem r_I0 {i j : Int} {g : Int → Int → Int} : R2D C pt (rI0 fun i j => .int (g i j)) (.int i) (.int j) (.int (g i j)) := r_same fun G H b v u i1 i2 => by
  cases i1; cases i2; exact ⟨_, .int _, fun Q q => ⟨i, j, rfl, rfl, q⟩⟩
theorem r_I {i j : Int} {c : Int → Int → Prop} {g : Int → Int → Int} (h : c i j) : R2D C pt (rI c fun i j => .int (g i j)) (.int i) (.int j) (.int (g i j)) := r_same fun G H b v u i1 i2 => by
  cases i1; cases i2; exact ⟨_, .int _, fun Q q => ⟨i, j, rfl, rfl, h, q⟩⟩
theorem r_ixT {K : PySem.W.Frag} {ds : List D} {i : Int} (h : atI ds i = some z) : R2D C pt (rIxT K) (.tup ds) (.int i) z := fun G H b v u i1 i2 Q k => by
  cases i1 with
  | tup ha hr =>
    cases i2
    unfold atI at h
    cases e : ixN ds.length i with
    | none => rw [e] at h; cases h
    | some j =>
      rw [e] at h
      obtain ⟨w, h1, h2⟩ := hr.getD (show ds[j]? = some z from h)
      exact ⟨_, _, i, w, rfl, rfl, SqT.of (b.sub _ _ ha), by unfold atI; rw [hr.length, e]; exact h1, k w G H (Aft.refl b) h2⟩
theorem r_ixL {K : PySem.W.Frag} {ds : List D} {i : Int} (h : atI ds i = some z) : R2D C pt (rIxL K) (.lst ds) (.int i) z := fun G H b v u i1 i2 Q k => by
  cases i1 with
  | lst ha hr =>
    cases i2
    unfold atI at h
    cases e : ixN ds.length i with
    | none => rw [e] at h; cases h
    | some j =>
      rw [e] at h
      obtain ⟨w, h1, h2⟩ := hr.getD (show ds[j]? = some z from h)
      exact ⟨_, _, i, w, rfl, rfl, SqL.of (b.sub _ _ ha), by unfold atI; rw [hr.length, e]; exact h1, k w G H (Aft.refl b) h2⟩
end

/-! ### statements -/
inductive Out where
  | ret (d : D) | fall (ρ : Rho)
section
variable (C : Addr) (pt : Option Addr)
/-- the block's end: what is returned, or the frame's values behind -/
def RunP (X : Cx) (ss : List Stmt) (ρ : Rho) (P : Out → Prop) : Prop := ∀ σ G H, EnvOk C G σ ρ → Bef pt G H → ∀ E : Ends,
  (∀ d v G2 H2, P (.ret d) → Aft pt G H G2 H2 → Is C G2 v d → E.rt v H2) → (∀ ρ' σ' G2 H2, P (.fall ρ') → Aft pt G H G2 H2 → EnvOk C G2 σ' ρ' → E.nx σ' H2) → wS X ss E σ H
abbrev RetD (X : Cx) (ss : List Stmt) (ρ : Rho) (d : D) : Prop := RunP C pt X ss ρ (fun o => o = .ret d)
abbrev FallD (X : Cx) (ss : List Stmt) (ρ ρ' : Rho) : Prop := RunP C pt X ss ρ (fun o => o = .fall ρ')
end
section
variable {X : Cx} {C : Addr} {pt : Option Addr} {ρ ρ' : Rho} {P P' : Out → Prop} {rest : List Stmt} {st : Stmt} {e : Expr} {pos : Pos} {d : D}
theorem RunP.imp {ss : List Stmt} (h : RunP C pt X ss ρ P) (i : ∀ o, P o → P' o) : RunP C pt X ss ρ P' := fun σ G H en b E k1 k2 => h σ G H en b E (fun d v G2 H2 p => k1 d v G2 H2 (i _ p)) fun ρ' σ' G2 H2 p => k2 ρ' σ' G2 H2 (i _ p)
theorem s_nil (h : P (.fall ρ)) : RunP C pt X [] ρ P := fun σ G H en b E k1 k2 pins s I => pss_nil.run pins s σ H E I (k2 ρ σ G H h (Aft.refl b) en)
/-- one statement by a rule, then the rest -/
theorem s_of {t : TS} (hp : PS X st t) (h : ∀ σ G H, EnvOk C G σ ρ → Bef pt G H → ∀ E : Ends, (∀ d v G2 H2, P (.ret d) → Aft pt G H G2 H2 → Is C G2 v d → E.rt v H2) →
    (∀ ρ' σ' G2 H2, RunP C pt X rest ρ' P → Aft pt G H G2 H2 → EnvOk C G2 σ' ρ' → E.nx σ' H2) → t E σ H) : RunP C pt X (st :: rest) ρ P := fun σ G H en b E k1 k2 pins s I => by
  refine (pss_cons hp (ps_w rest)).run pins s σ H E I ?_
  refine h σ G H en b { E with nx := wS X rest E } k1 fun ρ' σ' G2 H2 hr a en' => ?_
  exact hr σ' G2 H2 en' (a.bef b) E (fun d v G3 H3 p a3 i => k1 d v G3 H3 p (a.trans b a3) i) fun ρ2 σ2 G3 H3 p a3 e3 => k2 ρ2 σ2 G3 H3 p (a.trans b a3) e3
theorem s_ret (h : EvD C pt (wE X e) ρ d) (p : P (.ret d)) : RunP C pt X (.Return (some e) pos :: rest) ρ P := s_of (ps_ret (pe_w e)) fun σ G H en b E k1 k2 => h σ G H en b _ fun v G2 H2 a i => k1 d v G2 H2 p a i
theorem s_retP {R : D → Prop} (h : EvP C pt (wE X e) ρ R) (p : ∀ d, R d → P (.ret d)) : RunP C pt X (.Return (some e) pos :: rest) ρ P := s_of (ps_ret (pe_w e)) fun σ G H en b E k1 k2 => h σ G H en b _ fun d v G2 H2 r a i => k1 d v G2 H2 (p d r) a i
theorem s_set {n : Str} {p' : Pos} (i : Nat) (hN : X.N.Nodup) (hi : X.N[i]? = some n) (hx : Loc X.env.scope n) (h : EvD C pt (wE X e) ρ d) (hr : RunP C pt X rest (ρ.set i (some d)) P) (hs : swapsWith e (some (.Name n p')) pos.line X.env = pure false := by rfl)
    (hf : X.fn n = true ∨ X.env.scope.names.lookup n = some .local := by first | exact .inl rfl | exact .inr rfl | assumption) : RunP C pt X (.Assign [.Name n p'] e pos :: rest) ρ P := s_of (ps_set hN hi hx (pe_w e) hs hf) fun σ G H en b E k1 k2 => h σ G H en b _ fun v G2 H2 a i' => k2 _ _ G2 H2 hr a ((en.mono a.g).set i')
theorem s_setP {n : Str} {p' : Pos} {R : D → Prop} (i : Nat) (hN : X.N.Nodup) (hi : X.N[i]? = some n) (hx : Loc X.env.scope n) (h : EvP C pt (wE X e) ρ R) (hr : ∀ d, R d → RunP C pt X rest (ρ.set i (some d)) P) (hs : swapsWith e (some (.Name n p')) pos.line X.env = pure false := by rfl)
    (hf : X.fn n = true ∨ X.env.scope.names.lookup n = some .local := by first | exact .inl rfl | exact .inr rfl | assumption) : RunP C pt X (.Assign [.Name n p'] e pos :: rest) ρ P := s_of (ps_set hN hi hx (pe_w e) hs hf) fun σ G H en b E k1 k2 => h σ G H en b _ fun d v G2 H2 r a i' => k2 _ _ G2 H2 (hr d r) a ((en.mono a.g).set i')
theorem s_par {n m : Str} {p1 p2 p3 p4 : Pos} {k1' k2' a1 a2} {x y : D} (i j : Nat) (hc : X.calm = true) (hN : X.N.Nodup) (hi : X.N[i]? = some n) (hj : X.N[j]? = some m) (hij : i ≠ j) (hx : X.env.scope.names.lookup n = some .local) (hy : X.env.scope.names.lookup m = some .local)
    (h1 : EvD C pt (wE X a1) ρ x) (h2 : EvD C pt (wE X a2) ρ y) (hr : RunP C pt X rest ((ρ.set i (some x)).set j (some y)) P)
    (hw : swappedStores [.Tuple [.Name n p1, .Name m p2] k1' p3] (.Tuple [a1, a2] k2' p4) X.env = pure (some [n, m]) := by rfl) (hs : swapsWithSole [.Tuple [.Name n p1, .Name m p2] k1' p3] (.Tuple [a1, a2] k2' p4) pos.line X.env = pure false := by rfl)
    (hs1 : starEach [a1, a2] X.env = (false, eval a1 X.env) :: starEach [a2] X.env := by rfl) (hs2 : starEach [a2] X.env = (false, eval a2 X.env) :: starEach [] X.env := by rfl) :
    RunP C pt X (.Assign [.Tuple [.Name n p1, .Name m p2] k1' p3] (.Tuple [a1, a2] k2' p4) pos :: rest) ρ P :=
  s_of (ps_par hc hN hi hj hij hx hy (pa_cons (pe_w a1) (pa_cons (pe_w a2) pa_nil hs2) hs1) hw hs) fun σ G H en b E k1 k2 => h1 σ G H en b _ fun v G1 H1 b1 i1 => h2 σ G1 H1 (en.mono b1.g) (b1.bef b) _ fun u G2 H2 b2 i2 =>
    ⟨v, u, rfl, k2 _ _ G2 H2 hr (b1.trans b b2) ((((en.mono b1.g).mono b2.g).set (i1.mono b2.g)).set i2)⟩
theorem s_if {c : Expr} {A B : List Stmt} {k : Bool} (hc : EvT C pt (wT X c) ρ k) (h : RunP C pt X (if k = true then A else B) ρ (fun o => match o with | .ret d => P (.ret d) | .fall ρ' => RunP C pt X rest ρ' P)) : RunP C pt X (.If c A B pos :: rest) ρ P :=
  s_of (ps_if (pt_w c) (ps_w A) (ps_w B)) fun σ G H en b E k1 k2 => hc σ G H en b _ fun G2 H2 a => by
    cases k with
    | true => exact h σ G2 H2 (en.mono a.g) (a.bef b) E (fun d v G3 H3 p a3 i => k1 d v G3 H3 p (a.trans b a3) i) fun ρ' σ' G3 H3 p a3 e3 => k2 ρ' σ' G3 H3 p (a.trans b a3) e3
    | false => exact h σ G2 H2 (en.mono a.g) (a.bef b) E (fun d v G3 H3 p a3 i => k1 d v G3 H3 p (a.trans b a3) i) fun ρ' σ' G3 H3 p a3 e3 => k2 ρ' σ' G3 H3 p (a.trans b a3) e3
/-- an if that is not gone into, without an else -/
theorem s_skip {c : Expr} {A : List Stmt} (hc : EvT C pt (wT X c) ρ false) (h : RunP C pt X rest ρ P) : RunP C pt X (.If c A [] pos :: rest) ρ P := s_if hc (s_nil h)
/-- an if whose suite ends by a return -/
theorem s_into {c : Expr} {A B : List Stmt} (hc : EvT C pt (wT X c) ρ true) (h : RunP C pt X A ρ (fun o => match o with | .ret d => P (.ret d) | .fall _ => False)) : RunP C pt X (.If c A B pos :: rest) ρ P := s_if hc (h.imp fun o p => by
  cases o with
  | ret d => exact p
  | fall ρ' => exact p.elim)
theorem s_expr (h : EvD C pt (wE X e) ρ d) (hr : RunP C pt X rest ρ P) (hs : swapsWith e none pos.line X.env = pure false := by rfl) : RunP C pt X (.Expr e pos :: rest) ρ P := s_of (ps_expr (pe_w e) hs) fun σ G H en b E k1 k2 => h σ G H en b _ fun v G2 H2 a i => k2 ρ σ G2 H2 hr a (en.mono a.g)
end
end DL
end

section
set_option linter.all false
set_option maxRecDepth 100000
set_option maxHeartbeats 4000000
/-! An own class's operators: beside ints, the other way round, told unequal. -/
namespace DL
open PySem PySem.W PyProof.Rows
open Sem (wp)
section
variable {prog : Program} {w : World} {A : Around} {E : Value → Shared → Prop} {s : Shared} {K : Frag} {x C f g : Addr} {ox : Obj} {od : Option Obj}

theorem asInt_ref {M : Model} {Q : Option Int → Shared → Prop} (I : InstAt s.heap x ox C od) (hd : ox.data = .plain) (h : Q none s) : wpAny M A (asInt? (.ref x)) Q E s := by
  unfold asInt?
  refine wpAny_bind (wpAny_load I.at_ ?_)
  rw [hd]
  exact wpAny_pure h
theorem int_declines {nm : String} {k : Int → Int → Sem Fin} {i : Int} {t : Tok} {Q : Fin → Shared → Prop} (I : InstAt s.heap x ox C od) (hd : ox.data = .plain) (h : Q (.done (.ret .notImplemented)) s) :
    wpAny (model prog w) A (Builtin.Int.intBinary nm k false ⟨[.int i t, .ref x], []⟩) Q E s := by
  unfold Builtin.Int.intBinary
  refine wpAny_bind (m := slotArgs nm 1 _) (wpAny_pure ?_)
  refine wpAny_bind (m := Builtin.Int.intOfSelf (.int i t)) (wpAny_bind (wpAny_pure (wpAny_pure ?_)))
  refine wpAny_bind (asInt_ref I hd ?_)
  first
    | exact wpAny_bind (wpAny_rule (wpAny_pure h))
    | exact wpAny_rule (wpAny_pure h)

/-- an int on the left of an own instance: int's own operator declines, the instance's other one is called -/
theorem bin_refl {op : Operator} {i : Int} {t : Tok} {idl : String} {k : Int → Int → Sem Fin} {Q : Value → Shared → Prop} (X : K.In s.heap) (I : InstAt s.heap x ox C od) (hd : ox.data = .plain) (hc : selfFirst K C = true)
    (hs : findIn K (.ref C) (PySem.dunder op.info.2) = some (some (.ref g))) (hr : findIn K (.ref C) (dunderR op.info.2) = some (some (.ref f))) (hf : isFn K (.ref f) = true)
    (hfi : fillsNumberSlot (.type "int") op.info.2 = pure true) (hsub : subIn K (.ref C) (.type "int") = some false) (slot : Slot "int" (PySem.dunder op.info.2) idl) (entry : entryFor table idl = some (Builtin.Int.intBinary (PySem.dunder op.info.2).toString k false)) (args : ∀ a b, argsOk idl ⟨[a, b], []⟩)
    (h : ∀ t', wpAny (model prog w) A (call (.ref f) [.ref x, .int i t]) (W.CmpBack Q) E { s with toks := t' }) : wpAny (model prog w) A (binaryOp op (.int i t) (.ref x)) Q E s := by
  obtain ⟨cd, rest, hcd, hm⟩ := ksp_first hc
  generalize hi : op.info = sn at hs hr hfi slot entry
  obtain ⟨sym, nm⟩ := sn
  dsimp only at hs hr hfi slot entry
  simp only [binaryOp, hi]
  refine wpAny_holding (wpAny_bind ?_)
  unfold binaryOp1
  refine wpAny_bind (wpAny_typeOf (typeIs_int s i t) (wpAny_bind (I.type.here (wpAny_bind (wpAny_of_eq hfi ?_)))))
  have hne : (Value.type "int" == Value.ref C) = false := Bool.eq_false_iff.mpr fun q => by cases beq_iff_eq.mp q
  simp only [hne, Bool.false_eq_true, if_false]
  refine wpAny_bind ((fills_K X hcd hm hs).here ?_)
  simp only [Bool.and_self, if_true]
  refine wpAny_bind ((looks_subIn X hsub).here ?_)
  simp only [Bool.false_eq_true, if_false]
  refine wpAny_bind (wpAny_pure ?_)
  simp only [Bool.false_eq_true, if_false, Bool.not_false, Bool.and_true, if_true]
  refine wpAny_bind (m := tryMethod (.int i t) _ (.ref x)) (wpAny_tryMethod_declines (typeIs_int s i t) slot (wpAny_call (codeAny_call_builtin slot.plain entry (slot.check _ _ _ _ _ _ _ _ (typeIs_int s i t) (args _ _) ?_))))
  refine int_declines I hd ?_
  refine ⟨rfl, ?_⟩
  refine wpAny_bind (m := tryMethod (.ref x) _ (.int i t)) ?_
  unfold tryMethod
  refine wpAny_bind (special_fn X I hr (beq_iff_eq.mp hf) (wpAny_mono (h s.toks) (fun v s' hv => ?_) fun _ _ e => e))
  cases v <;> first | exact hv.elim | exact wpAny_pure (wpAny_bind (wpAny_rule (wpAny_pure (wpAny_pure hv))))

/-- != of two own instances without an own __ne__: == turned about -/
theorem ne_own {b : Value} {tb : Value} {Q : Value → Shared → Prop} (hu : A.units + 1 < cLine) (X : K.In s.heap) (I : InstAt s.heap x ox C od) (hb : Looks (model prog w) s.heap (typeOf b) tb) (hn : notFirst K C tb = true)
    (hm : mroIn K C (.type "object") = some true) (hne : findIn K (.ref C) "__ne__" = some (some (.builtin "object.__ne__"))) (hs : findIn K (.ref C) "__eq__" = some (some (.ref f))) (hf : isFn K (.ref f) = true)
    (h : wpAny (model prog w) A.in1 (call (.ref f) [.ref x, b]) (fun v s' => ∃ c, v = .bool c ∧ Q (.bool (!c)) s') E s) : wpAny (model prog w) A (richCompare .NotEq (.ref x) b) Q E s := by
  have body : ∀ R : PySem.Fin → Shared → Prop, (∀ c s', Q (.bool (!c)) s' → R (.done (.ret (.bool (!c)))) s') → wpAny (model prog w) A.in1 (Builtin.«object.__ne__» ⟨[.ref x, b], []⟩) R E s := fun R hR => by
    unfold Builtin.«object.__ne__»
    refine wpAny_bind (m := slotArgs "__ne__" 1 _) (wpAny_pure ?_)
    refine wpAny_bind (m := cRoomFor _ _) (wpAny_cRoomFor hu ?_)
    refine wpAny_bind (m := callSpecialIfBound? (.ref x) (Str.ofString "__eq__") _) (ifBound_K X I hs hf (wpAny_mono h (fun r s' hq => ?_) fun _ _ y => y))
    obtain ⟨c, rfl, hq⟩ := hq
    refine wpAny_bind (m := truthy (.bool c)) (wpAny_truthy_bool ?_)
    exact wpAny_pure (hR c s' hq)
  have ent : wpAny (model prog w) A (call (.builtin "object.__ne__") [.ref x, b]) (fun v s' => ∃ c, v = .bool c ∧ Q v s') E s := by
    refine wpAny_call (codeAny_call_builtin (id := "object.__ne__") (by decide +kernel) PySem.F.cmpEntry_ne (check_slot (i := "object.__ne__") (owner := "object") (n := "__ne__") PySem.F.cmpKind_ne PySem.F.cmpSplit_ne (I.type.andThen (looks_mroIn X hm)) (PySem.F.cmpArgs_ne _ _) ?_))
    exact body _ fun c s' q => ⟨_, rfl, q⟩
  have one : wpAny (model prog w) A (tryCompare (.ref x) "__ne__" b) (fun r s' => ∃ v, r = some v ∧ Q v s') E s := by
    unfold tryCompare callSpecialIfBound? bindSpecialIfBound?
    refine wpAny_bind (wpAny_holding (wpAny_bind (wpAny_bind (wpAny_bind (I.type.here ((looks_findIn X hne).here ?_))))))
    have hbind : ∀ self, bindSpecial (.builtin "object.__ne__") self = pure (.builtin "object.__ne__", [self]) := fun self => by kernel_rfl
    simp only [hbind]
    have fin : wpAny (model prog w) A (call (.builtin "object.__ne__") ([.ref x] ++ [b]) >>= fun v => pure (some v)) (fun a s' => wpAny (model prog w) A (match a with | some .notImplemented => pure none | none => pure none | some v => pure (some v)) (fun r s' => ∃ v, r = some v ∧ Q v s') E s') E s :=
      wpAny_bind (wpAny_mono ent (fun v s' ⟨c, hv, q⟩ => by subst hv; exact wpAny_pure (wpAny_pure ⟨_, rfl, q⟩)) fun _ _ e => e)
    refine wpAny_bind (wpAny_askSetting (wpAny_ite (by
      split
      · exact wpAny_bind (wpAny_pure (wpAny_pure (by exact fin)))
      · exact wpAny_tryCatch (wpAny_bind (wpAny_pure (wpAny_pure (by exact fin)))))))
  unfold richCompare
  rw [oneThing_ref]
  refine wpAny_holding (wpAny_bind (wpAny_cRoomFor (by omega) (wpAny_bind (I.type.here (wpAny_bind (hb.here ?_))))))
  by_cases z : (Value.ref C != tb) = true
  · have z2 : subIn K tb (.ref C) = some false := by
      unfold notFirst at hn
      have z3 : (tb == Value.ref C) = false := by
        simp at z
        simpa using fun y => z y.symm
      simpa [z3] using hn
    rw [if_pos z]
    refine wpAny_bind ((looks_subIn X z2).here ?_)
    simp only [if_false, Bool.false_eq_true]
    exact wpAny_bind (wpAny_mono one (fun r s' z => let ⟨v, e, q⟩ := z; by rw [e]; exact wpAny_pure q) fun _ _ e => e)
  · rw [if_neg z]
    refine wpAny_bind (wpAny_pure (by
      simp only [if_false, Bool.false_eq_true]
      exact wpAny_bind (wpAny_mono one (fun r s' z => let ⟨v, e, q⟩ := z; by rw [e]; exact wpAny_pure q) fun _ _ e => e)))
/-- int == instance: int declines, the instance's own == is asked -/
theorem eq_refl {i : Int} {t : Tok} {Q : Value → Shared → Prop} (hu : A.units < cLine) (X : K.In s.heap) (I : InstAt s.heap x ox C od) (hd : ox.data = .plain) (hsub : subIn K (.ref C) (.type "int") = some false)
    (hs : findIn K (.ref C) "__eq__" = some (some (.ref f))) (hf : isFn K (.ref f) = true)
    (h : wpAny (model prog w) A (call (.ref f) [.ref x, .int i t]) (W.CmpBack Q) E s) : wpAny (model prog w) A (richCompare .Eq (.int i t) (.ref x)) Q E s := by
  unfold richCompare
  have h1 : oneThing? .Eq (.int i t) (.ref x) = none := by first | rfl | simp [oneThing?]
  simp only [h1]
  refine wpAny_holding (wpAny_bind (wpAny_cRoomFor hu ?_))
  refine wpAny_bind (wpAny_typeOf (typeIs_int s i t) (wpAny_bind (I.type.here ?_)))
  have hne : (Value.type "int" != Value.ref C) = true := by
    have : (Value.type "int" == Value.ref C) = false := Bool.eq_false_iff.mpr fun q => by cases beq_iff_eq.mp q
    simp [bne, this]
  simp only [hne, if_true]
  refine wpAny_bind ((looks_subIn X hsub).here ?_)
  simp only [Bool.false_eq_true, if_false, Bool.not_false, if_true]
  refine wpAny_bind (m := tryCompare (.int i t) _ (.ref x)) (wpAny_tryCompare_declines (typeIs_int s i t) PySem.F.slot_int_eq (wpAny_call (codeAny_call_builtin PySem.F.slot_int_eq.plain PySem.F.entry_int_eq (PySem.F.slot_int_eq.check _ _ _ _ _ _ _ _ (typeIs_int s i t) (PySem.F.args_int_eq_2 _ _) ?_))))
  refine int_declines (nm := "__eq__") (k := fun x y => ret (.bool (x == y))) I hd ?_
  refine ⟨rfl, ?_⟩
  refine wpAny_bind (m := tryCompare (.ref x) _ (.int i t)) ?_
  unfold tryCompare
  refine wpAny_bind (ifBound_K X I hs hf (wpAny_mono h (fun v s' hv => ?_) fun _ _ e => e))
  cases v <;> first | exact hv.elim | exact wpAny_pure (wpAny_pure hv)
end
end DL
end

section
set_option linter.all false
set_option maxRecDepth 100000
set_option maxHeartbeats 4000000
/-! Contracts on data; the class of fractions: its fields, properties, methods, operators. -/
namespace DL
open PySem PySem.Spec PyProof.Rows L2

/-- a def's contract: what it is handed, what it hands back -/
def Ct (C : Addr) (Rel : List D → D → Prop) : Sp := fun vs H Q _ => ∃ (pt : Option Addr) (ds : List D) (d : D) (G : Hp), Rel ds d ∧ Bef pt G H ∧ IsL C G vs ds ∧ ∀ v G2 H2, Aft pt G H G2 H2 → Is C G2 v d → Q v H2
structure Df (P : Program) (w : World) (K : PySem.W.Frag) (mg : Str → Option Value) (base : Heap) (C : Addr) (k : Nat) (f : Addr) (Rel : List D → D → Prop) : Prop where
  ex : ∃ (fd : FuncData) (ps : List Str), FnOk P w K mg base CX0 k f fd ps (Ct C Rel) ∧ Binds K fd ps []
  kp : (PySem.W.keepIn K (.ref f)) = true
  fn : (PySem.W.isFn K (.ref f)) = true
abbrev bx (P : Program) (w : World) (K : PySem.W.Frag) (mg : Str → Option Value) (base : Heap) (N : List Str) (qual : Str) (sc : Scope) (f : Addr) (cdv : Value) (A : Around) (outer : List Env) (s : Shared) (H : Hp) (E : XK) : Cx :=
  (cxOf CX0 P w K mg base N qual sc f cdv A outer s H E).nox
section
variable {P : Program} {w : World} {K : PySem.W.Frag} {mg : Str → Option Value} {base : Heap} {C : Addr}
/-- a def of data, its promise alone -/
theorem df_fn {x qual : Str} {st : Stmt} {f : Addr} {fd : FuncData} {N ps : List Str} {k : Nat} {Rel : List D → D → Prop} (F : Fun K x qual st f fd) (S : FnScope N ps (defScope st))
    (len : ∀ ds d, Rel ds d → ds.length = ps.length)
    (h : ∀ (cdv : Value) (A : Around) (outer : List Env) (s : Shared) (H : Hp) (E : XK) (pt : Option Addr) (ds : List D) (d : D), Room k (A.deeper (envOfC qual (defScope st) s.heap.objs.size f cdv)) → Rel ds d →
      RetD C pt (bx P w K mg base N qual (defScope st) f cdv A outer s H E) (defBody st) (startD N.length ds) d) : FnOk P w K mg base CX0 (k + 1) f fd ps (Ct C Rel) := by
  refine F.ok S (fun vs H Q E hh => ?_) (fun cdv A outer s H vs Q E hr hh => ?_)
  · obtain ⟨pt, ds, d, G, hR, _, hi, _⟩ := hh
    rw [hi.length]
    exact len ds d hR
  · obtain ⟨pt, ds, d, G, hR, b, hi, q⟩ := hh
    refine ⟨_, ps_w _, ?_⟩
    refine h cdv A outer s H E pt ds d hr hR _ G H (EnvOk.start hi) b _ (fun d' v G2 H2 e a i => ?_) (fun ρ' σ' G2 H2 e _ _ => nomatch e)
    cases e
    exact q v G2 H2 a i
/-- THE RULE for a def of data -/
theorem df_mk {x qual : Str} {st : Stmt} {f : Addr} {fd : FuncData} {N ps : List Str} {k : Nat} {Rel : List D → D → Prop} (F : Fun K x qual st f fd) (S : FnScope N ps (defScope st)) (hb : Binds K fd ps []) (hf : PySem.W.isFn K (.ref f) = true)
    (len : ∀ ds d, Rel ds d → ds.length = ps.length)
    (h : ∀ (cdv : Value) (A : Around) (outer : List Env) (s : Shared) (H : Hp) (E : XK) (pt : Option Addr) (ds : List D) (d : D), Room k (A.deeper (envOfC qual (defScope st) s.heap.objs.size f cdv)) → Rel ds d →
      RetD C pt (bx P w K mg base N qual (defScope st) f cdv A outer s H E) (defBody st) (startD N.length ds) d) : Df P w K mg base C (k + 1) f Rel := ⟨⟨fd, ps, df_fn F S len h, hb⟩, F.kp, hf⟩
end
section
variable {X : Cx} {C : Addr} {pt : Option Addr} {ρ : Rho} {k : Nat} {f g : Addr} {Rel : List D → D → Prop} {a b e o : Expr} {es : List Expr} {x y z d : D} {ds : List D} {pos p apos : Pos} {n m : Str}
theorem ct_of {vs : List V} {G H : Hp} {Q : VK} {E : XK} (hR : Rel ds z) (b : Bef pt G H) (hi : IsL C G vs ds) (h : ∀ v G2 H2, Aft pt G H G2 H2 → Is C G2 v z → Q v H2) : Ct C Rel vs H Q E := ⟨pt, ds, z, G, hR, b, hi, h⟩
/-- f(e, ..) -/
theorem d_call (D' : Df X.prog X.w X.K X.mg X.base C k f Rel) (hr : Room k X.A) (hg : Gl X n) (hm : X.mg n = some (.ref f)) (ha : EvA C pt (wA X (e :: es)) ρ ds) (h : Rel ds z)
    (hdb : (n == ("__debug__" : Str)) = false := by decide) (he : starEach (e :: es) X.env = (false, eval e X.env) :: starEach es X.env := by rfl) (hpl : (backTo pos (starEach es X.env)).any (·.1) = false := by rfl) : EvD C pt (wE X (.Call (.Name n p) (e :: es) [] pos)) ρ z := by
  obtain ⟨fd, ps, F, hb⟩ := D'.ex
  refine ofPE (pe_call F hr hg hm D'.kp hb .nil (pass0 (X := X)) (pa_w _) hdb he hpl) fun σ G H en b Q k => ha σ G H en b _ fun vs G1 H1 a1 i1 => ?_
  rw [List.append_nil]
  exact ct_of h (a1.bef b) i1 fun v G2 H2 a2 i2 => k v G2 H2 (a1.trans b a2) i2

/-! ### fractions -/
structure Rt (K : PySem.W.Frag) (mg : Str → Option Value) (C : Addr) : Prop where
  cl : Cls K C
  nT : NoAttr K C "_top"
  nB : NoAttr K C "_bottom"
  sf : PySem.W.selfFirst K C = true
  mro : PySem.W.mroIn K C (.type "object") = some true
  subI : PySem.W.subIn K (.type "int") (.ref C) = some false
  subC : PySem.W.subIn K (.ref C) (.type "int") = some false
  mgC : mg "Ratio" = some (.ref C)
  ne : PySem.W.findIn K (.ref C) "__ne__" = some (some (.builtin "object.__ne__"))
  ic : PySem.W.findIn K (.ref C) "__class__" = some (some (.builtin "object.__class__"))
  ig : PySem.W.specialIn K (.builtin "object.__class__") "__get__" = some (some (.builtin "getset_descriptor.__get__"))
  it : PySem.W.takesIn K (.builtin "object.__class__") = some true
  kI : PySem.W.kitOne K (.ref C) (.type "int") = some false
  iC : PySem.W.kitOne K (.type "int") (.ref C) = some false
  bC : PySem.W.kitOne K (.type "bool") (.ref C) = some false
  nC : PySem.W.kitOne K (.type "NoneType") (.ref C) = some false
  sC : PySem.W.kitOne K (.type "str") (.ref C) = some false
  lC : PySem.W.kitOne K (.type "list") (.ref C) = some false
  tC : PySem.W.kitOne K (.type "tuple") (.ref C) = some false

theorem kTB : ¬ (("_top" : Str) = "_bottom") := by decide +kernel
theorem ratF_top (t b : Int) : (ratF t b).lookup ("_top" : Str) = some (.int t) := by
  unfold ratF
  rw [lookup_putF, if_neg kTB, lookup_putF, if_pos rfl]
theorem ratF_bot (t b : Int) : (ratF t b).lookup ("_bottom" : Str) = some (.int b) := by
  unfold ratF
  rw [lookup_putF, if_pos rfl]
theorem ratF_no (t b : Int) {m : Str} (h1 : ¬ m = "_bottom") (h2 : ¬ m = "_top") : (ratF t b).lookup m = none := by
  unfold ratF
  rw [lookup_putF, if_neg h1, lookup_putF, if_neg h2]
  rfl
theorem d_top (T : Rt X.K X.mg C) {t b' : Int} (h : EvD C pt (wE X o) ρ (.rat t b')) (hb : attributeBase o "_top" X.env (eval o X.env) = eval o X.env := by rfl) : EvD C pt (wE X (.Attribute o "_top" pos)) ρ (.int t) := ofPE (pe_fld (pe_w o) hb) fun σ G H en b Q k => h σ G H en b _ fun v G1 H1 a1 i1 => by
  cases i1 with
  | rat h1 => exact ⟨_, C, _, _, _, rfl, a1.sub _ _ h1, T.cl, T.nT, ratF_top _ _, k _ G1 H1 a1 (.int t)⟩
theorem d_bot (T : Rt X.K X.mg C) {t b' : Int} (h : EvD C pt (wE X o) ρ (.rat t b')) (hb : attributeBase o "_bottom" X.env (eval o X.env) = eval o X.env := by rfl) : EvD C pt (wE X (.Attribute o "_bottom" pos)) ρ (.int b') := ofPE (pe_fld (pe_w o) hb) fun σ G H en b Q k => h σ G H en b _ fun v G1 H1 a1 i1 => by
  cases i1 with
  | rat h1 => exact ⟨_, C, _, _, _, rfl, a1.sub _ _ h1, T.cl, T.nB, ratF_bot _ _, k _ G1 H1 a1 (.int b')⟩
/-- o.f, a property -/
theorem d_prop {t b' : Int} {q : Addr} (T : Rt X.K X.mg C) (hp : PropOf X.K C m q f) (D' : Df X.prog X.w X.K X.mg X.base C k f Rel) (hr : Room (k + 1) X.A) (h : EvD C pt (wE X o) ρ (.rat t b')) (hR : Rel [.rat t b'] z)
    (hab : attributeBase o m X.env (eval o X.env) = eval o X.env := by rfl) : EvD C pt (wE X (.Attribute o m pos)) ρ z := by
  obtain ⟨fd, ps, F, hb⟩ := D'.ex
  refine ofPE (pe_prop (pe_w o) T.cl hp F hr hb .nil (pass0 (X := X.nox)) hab) fun σ G H en b Q k => h σ G H en b _ fun v G1 H1 a1 i1 => ?_
  cases i1 with
  | rat h1 => exact ⟨_, _, _, rfl, a1.sub _ _ h1, ct_of (E := E0) hR (a1.bef b) (.cons (.rat h1) .nil) fun v G2 H2 a2 i2 => k v G2 H2 (a1.trans b a2) i2⟩
/-- o.m(e, ..), o.m() -/
theorem d_meth {t b' : Int} (T : Rt X.K X.mg C) (D' : Df X.prog X.w X.K X.mg X.base C k f Rel) (h : EvD C pt (wE X o) ρ (.rat t b')) (ha : EvA C pt (wA X es) ρ ds) (hR : Rel (.rat t b' :: ds) z)
    (hp : ∀ fd ps, FnOk X.prog X.w X.K X.mg X.base CX0 k f fd ps (Ct C Rel) → Binds X.K fd ps [] → PE X e (tMeth C m (Ct C Rel) [] E0 (wE X o) (wA X es)))
    (n1 : ¬ m = "_bottom" := by decide +kernel) (n2 : ¬ m = "_top" := by decide +kernel) : EvD C pt (wE X e) ρ z := by
  obtain ⟨fd, ps, F, hb⟩ := D'.ex
  refine ofPE (hp fd ps F hb) fun σ G H en b Q k => h σ G H en b _ fun v G1 H1 a1 i1 => ?_
  cases i1 with
  | rat h1 =>
    refine ⟨_, _, _, rfl, a1.sub _ _ h1, ratF_no _ _ n1 n2, ha σ G1 H1 (en.mono a1.g) (a1.bef b) _ fun vs G2 H2 a2 i2 => ?_⟩
    rw [List.append_nil]
    exact ct_of hR (a2.bef (a1.bef b)) (.cons (.rat (a2.g _ _ h1)) i2) fun v G3 H3 a3 i3 => k v G3 H3 ((a1.trans b a2).trans b a3) i3
theorem d_meth0 {t b' : Int} (T : Rt X.K X.mg C) (D' : Df X.prog X.w X.K X.mg X.base C k f Rel) (h : EvD C pt (wE X o) ρ (.rat t b')) (hR : Rel [.rat t b'] z)
    (hp : ∀ fd ps, FnOk X.prog X.w X.K X.mg X.base CX0 k f fd ps (Ct C Rel) → Binds X.K fd ps [] → PE X e (tMeth C m (Ct C Rel) [] E0 (wE X o) tNil))
    (n1 : ¬ m = "_bottom" := by decide +kernel) (n2 : ¬ m = "_top" := by decide +kernel) : EvD C pt (wE X e) ρ z := by
  obtain ⟨fd, ps, F, hb⟩ := D'.ex
  refine ofPE (hp fd ps F hb) fun σ G H en b Q k => h σ G H en b _ fun v G1 H1 a1 i1 => ?_
  cases i1 with
  | rat h1 => exact ⟨_, _, _, rfl, a1.sub _ _ h1, ratF_no _ _ n1 n2, ct_of (E := E0) hR (a1.bef b) (.cons (.rat h1) .nil) fun v G2 H2 a2 i2 => k v G2 H2 (a1.trans b a2) i2⟩

/-! operators -/
def OpB (X : Cx) (C : Addr) (pt : Option Addr) (f : Value → Value → Sem Value) (x y z : D) : Prop := ∃ r, OpR X f r ∧ R2D C pt r x y z
theorem d_binB {op : Operator} (ho : OpB X C pt (binaryOp op) x y z) (ha : EvD C pt (wE X a) ρ x) (hb : EvD C pt (wE X b) ρ y) : EvD C pt (wE X (.BinOp a op b pos)) ρ z := let ⟨_, h, r⟩ := ho; d_bin h ha hb r
theorem d_cmpB {op : CmpOp} (ho : OpB X C pt (compareOp op) x y z) (ha : EvD C pt (wE X a) ρ x) (hb : EvD C pt (wE X b) ρ y) (hm : behindInMarks op b = false := by exact nomark _) : EvD C pt (wE X (.Compare a [op] [b] pos)) ρ z := let ⟨_, h, r⟩ := ho; d_cmp h ha hb r hm
theorem t_cmpB {op : CmpOp} {c : Bool} (ho : OpB X C pt (compareOp op) x y (.bl c)) (ha : EvD C pt (wE X a) ρ x) (hb : EvD C pt (wE X b) ρ y) (hm : behindInMarks op b = false := by exact nomark _) : EvT C pt (wT X (.Compare a [op] [b] pos)) ρ c := let ⟨_, h, r⟩ := ho; t_cmp h ha hb r hm
/-- the reading «stands for x and y, and what comes stands for z» -/
def rD (C : Addr) (pt : Option Addr) (x y z : D) : R2 := fun v u H Q => ∃ G, Bef pt G H ∧ Is C G v x ∧ Is C G u y ∧ ∀ w G2 H2, Aft pt G H G2 H2 → Is C G2 w z → Q w H2
theorem opB {F : Value → Value → Sem Value} (h : OpR X F (rD C pt x y z)) : OpB X C pt F x y z := ⟨_, h, fun G H b v u i1 i2 Q k => ⟨G, b, i1, i2, k⟩⟩
theorem ep_back {pins : List (Addr × Obj)} {σ : L2.St} {Q : VK} {u : Value} {s' : Shared} (h : EP X pins σ Q u s') : PySem.W.CmpBack (EP X pins σ Q) u s' := by
  obtain ⟨v, H', I, r, q⟩ := id h
  cases u <;> first | exact h | (cases v <;> first | exact absurd r (fun z => nomatch z) | (obtain ⟨t, r⟩ := r; exact absurd r (fun z => nomatch z)))
theorem rat_inst {pins : List (Addr × Obj)} {σ : L2.St} {H : Hp} {s : Shared} {a dx : Addr} {fs : List (Str × V)} (I : Inv X pins σ H s) (h : H a = some (.ins C dx fs)) : ∃ od, PySem.W.InstAt s.heap a (PySem.W.instObj C dx) C (some od) := by
  obtain ⟨mA, O, _⟩ := ins_get I.hok h
  obtain ⟨od, J, _⟩ := O.look
  exact ⟨od, J⟩
/-- the own operator called on two values -/
theorem run_df {pins : List (Addr × Obj)} {σ : L2.St} {H G : Hp} {s : Shared} {Q : VK} {us : List Value} {vs : List V} (D' : Df X.prog X.w X.K X.mg X.base C k f Rel) (hr : Room k X.A) (I : Inv X pins σ H s) (r : Vals vs us) (hR : Rel ds z) (b : Bef pt G H) (hi : IsL C G vs ds)
    (h : ∀ v G2 H2, Aft pt G H G2 H2 → Is C G2 v z → Q v H2) : wpAny (model X.prog X.w) X.A (call (.ref f) us) (EP X pins σ Q) X.xe s := by
  obtain ⟨fd, ps, F, hb⟩ := D'.ex
  refine run_fn F hr hb .nil (pass0 (X := X)) I r ?_
  rw [List.append_nil]
  exact ct_of hR b hi h
/-- .. a unit of C's stack further in -/
theorem run_dfin {pins : List (Addr × Obj)} {σ : L2.St} {H G : Hp} {s : Shared} {Q : VK} {us : List Value} {vs : List V} {A : Around} {E' : Value → Shared → Prop} (D' : Df X.prog X.w X.K X.mg X.base C k f Rel) (hr : Room k A) (hfr : A.frames = X.A.frames) (I : Inv X pins σ H s) (r : Vals vs us) (hR : Rel ds z) (b : Bef pt G H) (hi : IsL C G vs ds)
    (h : ∀ v G2 H2, Aft pt G H G2 H2 → Is C G2 v z → Q v H2) : wpAny (model X.prog X.w) A (call (.ref f) us) (EP X pins σ Q) E' s := by
  obtain ⟨fd, ps, F, hb⟩ := D'.ex
  have e := I.env0
  have e0 : Env0 X.prog X.w X.K X.mg X.base A X.stack s H := ⟨hfr.trans e.frames, e.mod, e.bs, e.bsz, e.funs, e.frf, e.hok, e.bare⟩
  have sp : Ct C Rel vs H Q E0 := ct_of hR b hi h
  have hl := F.len _ _ _ _ sp
  have b1 := hb s us I.kIn (by rw [List.append_nil, ← r.length]; exact hl)
  rw [List.append_nil] at b1
  refine wpAny_call (codeAny_mono (F.run A X.stack s H ⟨us, []⟩ us vs Q E0 hr e0 b1 r sp) fun r s' hq => ?_)
  cases r with
  | error er => exact (show False from hq).elim
  | ok fl => cases fl <;> first | exact I.after hq | exact (show False from hq).elim
/-- fraction op fraction -/
theorem op_rr {op : Operator} {t b' t2 b2 : Int} (T : Rt X.K X.mg C) (hs : PySem.W.findIn X.K (.ref C) (PySem.dunder op.info.2) = some (some (.ref f))) (D' : Df X.prog X.w X.K X.mg X.base C k f Rel) (hr : Room k X.A) (hR : Rel [.rat t b', .rat t2 b2] z) : OpB X C pt (binaryOp op) (.rat t b') (.rat t2 b2) z := opB fun pins s σ H x y v u Q I rx ry h => by
  obtain ⟨G, b, i1, i2, q⟩ := h
  cases i1 with
  | rat h1 =>
    cases i2 with
    | rat h2 =>
      cases rx; cases ry
      obtain ⟨od, J⟩ := rat_inst I (b.sub _ _ h1)
      obtain ⟨od2, J2⟩ := rat_inst I (b.sub _ _ h2)
      obtain ⟨m', Fm⟩ := I.fr
      refine PySem.W.binop_K Fm I.ok.mod.kin J J2.type T.sf hs D'.fn ?_
      exact thn (run_df (vs := [V.ref _, V.ref _]) D' hr I (.cons rfl (.cons rfl .nil)) hR b (.cons (.rat h1) (.cons (.rat h2) .nil)) q) fun _ _ e => ep_back e
/-- fraction op int -/
theorem op_ri {op : Operator} {t b' j : Int} {fo ro : Option Value} (T : Rt X.K X.mg C) (hs : PySem.W.findIn X.K (.ref C) (PySem.dunder op.info.2) = some (some (.ref f))) (h2 : PySem.W.findIn X.K (.ref C) (PySem.dunderR op.info.2) = some (some (.ref g)))
    (h3 : PySem.W.findIn X.K (.type "int") (PySem.dunder op.info.2) = some fo) (h4 : PySem.W.findIn X.K (.type "int") (PySem.dunderR op.info.2) = some ro) (D' : Df X.prog X.w X.K X.mg X.base C k f Rel) (hr : Room k X.A) (hR : Rel [.rat t b', .int j] z) : OpB X C pt (binaryOp op) (.rat t b') (.int j) z := opB fun pins s σ H x y v u Q I rx ry h => by
  obtain ⟨G, b, i1, i2, q⟩ := h
  cases i1 with
  | rat h1 =>
    cases i2
    cases rx
    obtain ⟨tk, e⟩ := id ry
    subst e
    obtain ⟨od, J⟩ := rat_inst I (b.sub _ _ h1)
    obtain ⟨m', Fm⟩ := I.fr
    refine PySem.W.ksp_binT (T := "int") Fm I.ok.mod.kin J rfl T.sf hs D'.fn h2 (.inr ⟨_, rfl⟩) h3 h4 T.subI ?_
    exact thn (run_df (vs := [V.ref _, V.int _]) D' hr I (.cons rfl (.cons ⟨tk, rfl⟩ .nil)) hR b (.cons (.rat h1) (.cons (.int j) .nil)) q) fun _ _ e => ep_back e
/-- int op fraction -/
theorem op_ir {op : Operator} {t b' j : Int} {idl : String} {kf : Int → Int → Sem PySem.Fin} (T : Rt X.K X.mg C) (hs : PySem.W.findIn X.K (.ref C) (PySem.dunder op.info.2) = some (some (.ref g))) (h2 : PySem.W.findIn X.K (.ref C) (PySem.dunderR op.info.2) = some (some (.ref f)))
    (hfi : fillsNumberSlot (.type "int") op.info.2 = pure true) (slot : Slot "int" (PySem.dunder op.info.2) idl) (entry : entryFor table idl = some (Builtin.Int.intBinary (PySem.dunder op.info.2).toString kf false)) (args : ∀ a b, argsOk idl ⟨[a, b], []⟩)
    (D' : Df X.prog X.w X.K X.mg X.base C k f Rel) (hr : Room k X.A) (hR : Rel [.rat t b', .int j] z) : OpB X C pt (binaryOp op) (.int j) (.rat t b') z := opB fun pins s σ H x y v u Q I rx ry h => by
  obtain ⟨G, b, i1, i2, q⟩ := h
  cases i2 with
  | rat h1 =>
    cases i1
    cases ry
    obtain ⟨tk, e⟩ := id rx
    subst e
    obtain ⟨od, J⟩ := rat_inst I (b.sub _ _ h1)
    refine bin_refl I.kIn J rfl T.sf hs h2 D'.fn hfi T.subC slot entry args fun t' => ?_
    exact thn (run_df (vs := [V.ref _, V.int _]) D' hr (I.tok t') (.cons rfl (.cons ⟨tk, rfl⟩ .nil)) hR b (.cons (.rat h1) (.cons (.int j) .nil)) q) fun _ _ e => ep_back e
/-- ==, != by the own == -/
theorem op_eqr {t b' : Int} (T : Rt X.K X.mg C) (hs : PySem.W.findIn X.K (.ref C) "__eq__" = some (some (.ref f))) (D' : Df X.prog X.w X.K X.mg X.base C k f Rel) (hr : Room k X.A) (hy : (∃ t2 b2, y = .rat t2 b2) ∨ ∃ j, y = .int j) (hR : Rel [.rat t b', y] z) : OpB X C pt (compareOp .Eq) (.rat t b') y z := opB fun pins s σ H x y' v u Q I rx ry h => by
  obtain ⟨G, b, i1, i2, q⟩ := h
  cases i1 with
  | rat h1 =>
    cases rx
    obtain ⟨od, J⟩ := rat_inst I (b.sub _ _ h1)
    obtain ⟨m', Fm⟩ := I.fr
    have fin : wpAny (model X.prog X.w) X.A (call (.ref f) [.ref _, u]) (PySem.W.CmpBack (EP X pins σ Q)) X.xe s := thn (run_df (vs := [V.ref _, _]) D' hr I (.cons rfl (.cons ry .nil)) hR b (.cons (.rat h1) (.cons i2 .nil)) q) fun _ _ e => ep_back e
    rcases hy with ⟨t2, b2, rfl⟩ | ⟨j, rfl⟩
    · cases i2 with
      | rat h2 =>
        cases ry
        obtain ⟨od2, J2⟩ := rat_inst I (b.sub _ _ h2)
        exact PySem.W.cmp_K (op := .Eq) (tb := .ref C) hr.units0 Fm I.ok.mod.kin J J2.type (by simp [PySem.W.notFirst]) hs D'.fn fin
    · cases i2
      obtain ⟨tk, e⟩ := id ry
      subst e
      exact PySem.W.cmp_K (op := .Eq) (tb := .type "int") hr.units0 Fm I.ok.mod.kin J (PySem.W.Looks.of_pure rfl) (by unfold PySem.W.notFirst; rw [T.subI]; simp) hs D'.fn fin
theorem op_eir {t b' j : Int} (T : Rt X.K X.mg C) (hs : PySem.W.findIn X.K (.ref C) "__eq__" = some (some (.ref f))) (D' : Df X.prog X.w X.K X.mg X.base C k f Rel) (hr : Room k X.A) (hR : Rel [.rat t b', .int j] z) : OpB X C pt (compareOp .Eq) (.int j) (.rat t b') z := opB fun pins s σ H x y v u Q I rx ry h => by
  obtain ⟨G, b, i1, i2, q⟩ := h
  cases i2 with
  | rat h1 =>
    cases i1
    cases ry
    obtain ⟨tk, e⟩ := id rx
    subst e
    obtain ⟨od, J⟩ := rat_inst I (b.sub _ _ h1)
    refine eq_refl hr.units0 I.kIn J rfl T.subC hs D'.fn ?_
    exact thn (run_df (vs := [V.ref _, V.int _]) D' hr I (.cons rfl (.cons ⟨tk, rfl⟩ .nil)) hR b (.cons (.rat h1) (.cons (.int j) .nil)) q) fun _ _ e => ep_back e
theorem op_ner {t b' t2 b2 : Int} {c : Bool} (T : Rt X.K X.mg C) (hs : PySem.W.findIn X.K (.ref C) "__eq__" = some (some (.ref f))) (D' : Df X.prog X.w X.K X.mg X.base C k f Rel) (hr : Room (k + 1) X.A) (hR : Rel [.rat t b', .rat t2 b2] (.bl c)) : OpB X C pt (compareOp .NotEq) (.rat t b') (.rat t2 b2) (.bl (!c)) := opB fun pins s σ H x y v u Q I rx ry h => by
  obtain ⟨G, b, i1, i2, q⟩ := h
  cases i1 with
  | rat h1 =>
    cases i2 with
    | rat h2 =>
      cases rx; cases ry
      obtain ⟨od, J⟩ := rat_inst I (b.sub _ _ h1)
      obtain ⟨od2, J2⟩ := rat_inst I (b.sub _ _ h2)
      refine ne_own (by have := hr.units; omega) I.kIn J J2.type (by simp [PySem.W.notFirst]) T.mro T.ne hs D'.fn ?_
      refine thn (run_dfin (vs := [V.ref _, V.ref _]) (Q := fun v H' => v = .bl c ∧ ∃ G2, Aft pt G H G2 H') D' hr.in1 rfl I (.cons rfl (.cons rfl .nil)) hR b (.cons (.rat h1) (.cons (.rat h2) .nil)) fun v G2 H2 a i => by cases i; exact ⟨rfl, G2, a⟩) fun u s' e => ?_
      obtain ⟨w', H', I', r', e', G2, a⟩ := e
      subst e'
      cases r'
      exact ⟨c, rfl, .bl (!c), H', I', rfl, q _ G2 H' a (.bl _)⟩
end
end DL
end

section
set_option linter.all false
set_option maxRecDepth 100000
set_option maxHeartbeats 4000000
/-! Built-in operations and functions on data. -/
namespace DL
open PySem PySem.Spec PyProof.Rows L2

abbrev Bd (n : Nat) (i : Int) : Prop := i.natAbs < 2 ^ n
section
variable {X : Cx} {C : Addr} {pt : Option Addr} {G H : Hp} {ds : List D} {d x y z : D} {vs : List V}
theorem isl1 (h : IsL C G vs [d]) : ∃ v, vs = [v] ∧ Is C G v d := by
  cases h with
  | cons h r => cases r; exact ⟨_, rfl, h⟩
theorem isl2 (h : IsL C G vs [x, y]) : ∃ v u, vs = [v, u] ∧ Is C G v x ∧ Is C G u y := by
  cases h with
  | cons h r =>
    cases r with
    | cons h' r' => cases r'; exact ⟨_, _, rfl, h, h'⟩
theorem isI {v : V} {i : Int} (h : Is C G v (.int i)) : v = .int i := by cases h; rfl
theorem isB {v : V} {i : Bool} (h : Is C G v (.bl i)) : v = .bl i := by cases h; rfl
theorem isS {v : V} {i : Str} (h : Is C G v (.str i)) : v = .str i := by cases h; rfl
/-- one int in, one flat value out -/
theorem rn_1 {r : List V → Hp → VK → Prop} {i : Int} {w : V} (hw : ∀ G, Is C G w z) (h : ∀ H (Q : VK), Q w H → r [.int i] H Q) : RnD C pt r [.int i] z := fun G H b vs hi Q k => by
  obtain ⟨v, rfl, h1⟩ := isl1 hi
  cases isI h1
  exact h H Q (k w G H (Aft.refl b) (hw G))
theorem rn_2 {r : List V → Hp → VK → Prop} {i j : Int} {w : V} (hw : ∀ G, Is C G w z) (h : ∀ H (Q : VK), Q w H → r [.int i, .int j] H Q) : RnD C pt r [.int i, .int j] z := fun G H b vs hi Q k => by
  obtain ⟨v, u, rfl, h1, h2⟩ := isl2 hi
  cases isI h1
  cases isI h2
  exact h H Q (k w G H (Aft.refl b) (hw G))

/-! ints -/
theorem o_add {i j : Int} : OpB X C pt (binaryOp .Add) (.int i) (.int j) (.int (i + j)) := ⟨_, op_add, r_I0⟩
theorem o_sub {i j : Int} : OpB X C pt (binaryOp .Sub) (.int i) (.int j) (.int (i - j)) := ⟨_, op_sub, r_I0⟩
theorem o_mul {i j : Int} {n m : Nat} (hi : Bd n i) (hj : Bd m j) (h : n + m ≤ 900000) : OpB X C pt (binaryOp .Mult) (.int i) (.int j) (.int (i * j)) := ⟨_, op_mulW, r_I (by
  have h1 : Bd (n + 1) i := Nat.lt_of_lt_of_le hi (Nat.pow_le_pow_right (by decide) (by omega))
  have h2 : Bd (m + 1) j := Nat.lt_of_lt_of_le hj (Nat.pow_le_pow_right (by decide) (by omega))
  exact wide_mul h1 h2 (by omega) (by omega) (by omega))⟩
theorem o_mod {i j : Int} (h : 0 < j) : OpB X C pt (binaryOp .Mod) (.int i) (.int j) (.int (i % j)) := ⟨_, op_mod, r_I h⟩
theorem o_div {i j : Int} (h0 : 0 < j) (h1 : j < 1073741824) : OpB X C pt (binaryOp .FloorDiv) (.int i) (.int j) (.int (i / j)) := ⟨_, op_fdiv, r_I ⟨h0, h1⟩⟩
/-- // by any divisor but 0 of less than 8,000 bits -/
def CDivX (_ j : Int) : Prop := j ≠ 0 ∧ j.natAbs < 2 ^ 8000
theorem op_fdivX : OpR X (binaryOp .FloorDiv) (rI CDivX fun i j => .int (i.fdiv j)) := opI fun i j _ _ _ _ _ hc q => floordiv_int hc.1 q (.inl (PyProof.noPylong_of_log2 (Nat.lt_of_lt_of_le (PySem.Flt.log2_lt_of (by decide) hc.2) (by decide))))
theorem o_fdiv {i j : Int} (h0 : j ≠ 0) (h1 : Bd 8000 j) : OpB X C pt (binaryOp .FloorDiv) (.int i) (.int j) (.int (i.fdiv j)) := ⟨_, op_fdivX, r_I ⟨h0, h1⟩⟩
theorem o_pow {i j : Int} (h : 0 ≤ j ∧ j ≤ 1000000 ∧ i.natAbs < 2 ^ 64) : OpB X C pt (binaryOp .Pow) (.int i) (.int j) (.int (i ^ j.toNat)) := ⟨_, op_pow, r_I h⟩
theorem o_lt {i j : Int} : OpB X C pt (compareOp .Lt) (.int i) (.int j) (.bl (decide (i < j))) := ⟨_, op_lt, r_I0b⟩
theorem o_le {i j : Int} : OpB X C pt (compareOp .LtE) (.int i) (.int j) (.bl (decide (i ≤ j))) := ⟨_, op_le, r_I0b⟩
theorem o_gt {i j : Int} : OpB X C pt (compareOp .Gt) (.int i) (.int j) (.bl (decide (j < i))) := ⟨_, op_gt, r_I0b⟩
theorem o_ge {i j : Int} : OpB X C pt (compareOp .GtE) (.int i) (.int j) (.bl (decide (j ≤ i))) := ⟨_, op_ge, r_I0b⟩
theorem o_eq {i j : Int} : OpB X C pt (compareOp .Eq) (.int i) (.int j) (.bl (decide (i = j))) := ⟨_, op_eq, r_same fun G H b v u i1 i2 => by
  cases i1; cases i2
  refine ⟨.bl (decide (i = j)), .bl _, fun Q q => ⟨rfl, ?_⟩⟩
  have e : decide (V.int i = V.int j) = decide (i = j) := by simp
  rw [e]
  exact q⟩
theorem o_ne {i j : Int} : OpB X C pt (compareOp .NotEq) (.int i) (.int j) (.bl (!decide (i = j))) := ⟨_, op_ne, r_same fun G H b v u i1 i2 => by
  cases i1; cases i2
  refine ⟨.bl (!decide (i = j)), .bl _, fun Q q => ⟨rfl, ?_⟩⟩
  have e : decide (V.int i = V.int j) = decide (i = j) := by simp
  rw [e]
  exact q⟩
theorem o_eqS {i j : Str} : OpB X C pt (compareOp .Eq) (.str i) (.str j) (.bl (decide (i = j))) := ⟨_, op_eq, r_same fun G H b v u i1 i2 => by
  cases i1; cases i2
  refine ⟨.bl (decide (i = j)), .bl _, fun Q q => ⟨rfl, ?_⟩⟩
  have e : decide (V.str i = V.str j) = decide (i = j) := by simp
  rw [e]
  exact q⟩
theorem o_neS {i j : Str} : OpB X C pt (compareOp .NotEq) (.str i) (.str j) (.bl (!decide (i = j))) := ⟨_, op_ne, r_same fun G H b v u i1 i2 => by
  cases i1; cases i2
  refine ⟨.bl (!decide (i = j)), .bl _, fun Q q => ⟨rfl, ?_⟩⟩
  have e : decide (V.str i = V.str j) = decide (i = j) := by simp
  rw [e]
  exact q⟩
theorem u_neg {i : Int} : R1D C pt (rU fun i => .int (-i)) (.int i) (.int (-i)) := fun G H b v hi Q k => by
  cases hi
  exact ⟨i, rfl, k _ G H (Aft.refl b) (.int _)⟩
theorem o_addS {i j : Str} (h : i.length + j.length ≤ 100000) : OpB X C pt (binaryOp .Add) (.str i) (.str j) (.str (i ++ j)) := ⟨_, op_add_str, r_same fun G H b v u i1 i2 => by
  cases i1; cases i2
  exact ⟨.str (i ++ j), .str _, fun Q q => ⟨i, j, rfl, rfl, Nat.le_trans h (by rw [sizeLine_eq]; decide), q⟩⟩⟩

/-! calls -/
theorem f_abs {i : Int} : RnD C pt (fun xs H Q => ∃ i, xs = [.int i] ∧ Q (.int (if i < 0 then -i else i)) H) [.int i] (.int (if i < 0 then -i else i)) := rn_1 (fun _ => .int _) fun H Q q => ⟨i, rfl, q⟩
theorem f_max {i j : Int} : RnD C pt (fun xs H Q => ∃ i j, xs = [.int i, .int j] ∧ Q (.int (if j > i then j else i)) H) [.int i, .int j] (.int (if j > i then j else i)) := rn_2 (fun _ => .int _) fun H Q q => ⟨i, j, rfl, q⟩
theorem f_int {i : Int} : RnD C pt (fun xs H Q => (∃ i, xs = [.int i] ∧ Q (.int i) H) ∨ ∃ k, xs = [.bl k] ∧ Q (.int (if k then 1 else 0)) H) [.int i] (.int i) := rn_1 (fun _ => .int _) fun H Q q => .inl ⟨i, rfl, q⟩
theorem f_str {i : Int} (h : Bd 1900 i) : RnD C pt (fun xs H Q => ∃ i, xs = [.int i] ∧ i.natAbs.log2 < 1920 ∧ Q (.str (toString i)) H) [.int i] (.str (toString i)) := rn_1 (fun _ => .str _) fun H Q q => ⟨i, rfl, Nat.lt_of_lt_of_le (PySem.Flt.log2_lt_of (by decide) h) (by decide), q⟩
theorem f_gcd {i j : Int} : RnD C pt rGcd [.int i, .int j] (.int ((Nat.gcd i.natAbs j.natAbs : Nat) : Int)) := rn_2 (fun _ => .int _) fun H Q q => ⟨i, j, rfl, q⟩
def rLcm : List V → Hp → VK → Prop := fun vs H Q => ∃ a b : Int, vs = [.int a, .int b] ∧ Bd 8000 a ∧ Bd 8000 b ∧ Q (.int ((Nat.lcm a.natAbs b.natAbs : Nat) : Int)) H
theorem log2_le_of {n k : Nat} (h : n < 2 ^ (k + 1)) : n.log2 ≤ k := Nat.le_of_lt_succ (PySem.Flt.log2_lt_of (Nat.succ_pos k) h)
theorem cr_lcm : CallR X (.builtin "math.lcm") rLcm := by
  intro pins s σ H vs us Q I r h
  obtain ⟨a, b, rfl, ha, hb, q⟩ := h
  obtain ⟨t, u, rfl⟩ := Vals.int2 r
  have p0 : (2 : Nat) ^ 0 < 2 ^ 8000 := Nat.pow_lt_pow_right (by decide) (by decide)
  have h1 : (max 1 a.natAbs).log2 ≤ 7999 := log2_le_of (Nat.max_lt.mpr ⟨p0, ha⟩)
  have h2 : (max a.natAbs b.natAbs).log2 ≤ 7999 := log2_le_of (Nat.max_lt.mpr ⟨ha, hb⟩)
  have e1 : (Nat.lcm 1 a.natAbs) = a.natAbs := Nat.lcm_one_left _
  have hl : (Nat.lcm a.natAbs b.natAbs) ≤ a.natAbs * b.natAbs := by
    unfold Nat.lcm
    exact Nat.div_le_self _ _
  have hz : (((Nat.lcm 1 a.natAbs).lcm b.natAbs : Nat) : Int).natAbs.log2 < bitsLine := by
    rw [e1]
    show (Nat.lcm a.natAbs b.natAbs).log2 < bitsLine
    have hlt : Nat.lcm a.natAbs b.natAbs < 2 ^ 16000 := Nat.lt_of_le_of_lt hl (by
      have := Nat.mul_lt_mul'' ha hb
      rw [← Nat.pow_add] at this
      exact this)
    exact Nat.lt_of_lt_of_le (PySem.Flt.log2_lt_of (by decide) hlt) (by decide)
  have gv := PySem.W.mg_run_lcm a t b u (by omega) (by omega) hz
  rw [e1] at gv
  exact PySem.call_function_meets PySem.W.MGF.kind_lcm PySem.W.MGF.plain_lcm PySem.W.MGF.entry_lcm (PySem.W.MGF.args_lcm _ _) gv.meets ⟨.int _, H, I.tok _, ⟨_, rfl⟩, q⟩
theorem f_lcm {i j : Int} (hi : Bd 8000 i) (hj : Bd 8000 j) : RnD C pt rLcm [.int i, .int j] (.int ((Nat.lcm i.natAbs j.natAbs : Nat) : Int)) := rn_2 (fun _ => .int _) fun H Q q => ⟨i, j, rfl, hi, hj, q⟩
theorem f_len : RnD C pt (fun xs H Q => ∃ p ys, xs = [.ref p] ∧ (SqL X.K H p ys ∨ SqT X.K H p ys) ∧ Q (.int ys.length) H) [.lst ds] (.int ds.length) := fun G H b vs hi Q k => by
  obtain ⟨v, rfl, h1⟩ := isl1 hi
  cases h1 with
  | lst ha hr =>
    refine ⟨_, _, rfl, .inl (SqL.of (b.sub _ _ ha)), ?_⟩
    rw [hr.length]
    exact k _ G H (Aft.refl b) (.int _)
theorem f_tuple : RnD C pt (fun xs H Q => ∃ p ys, xs = [.ref p] ∧ ((SqL X.K H p ys ∧ ∀ l, H l = none → Q (.ref l) (upd H l (.tup ys))) ∨ (SqT X.K H p ys ∧ Q (.ref p) H))) [.lst ds] (.tup ds) := fun G H b vs hi Q k => by
  obtain ⟨v, rfl, h1⟩ := isl1 hi
  cases h1 with
  | lst ha hr =>
    refine ⟨_, _, rfl, .inl ⟨SqL.of (b.sub _ _ ha), fun l hl => ?_⟩⟩
    exact k _ _ _ (Aft.new b hl) (.tup upd_same (hr.mono (Aft.new b hl).g))
theorem f_divmod {i j : Int} (h0 : 0 < j) (h1 : j < 1073741824) : RnD C pt (fun xs H Q => ∃ i j, xs = [.int i, .int j] ∧ CDiv i j ∧ ∀ p, H p = none → Q (.ref p) (upd H p (.tup [.int (i / j), .int (i % j)]))) [.int i, .int j] (.tup [.int (i / j), .int (i % j)]) := fun G H b vs hi Q k => by
  obtain ⟨v, u, rfl, e1, e2⟩ := isl2 hi
  cases isI e1
  cases isI e2
  refine ⟨i, j, rfl, ⟨h0, h1⟩, fun p hp => ?_⟩
  have n := Aft.new (o := .tup [.int (i / j), .int (i % j)]) b hp
  exact k _ _ _ n (.tup upd_same (.cons (.int _) (.cons (.int _) .nil)))
/-! lists -/
theorem o_cat {es : List D} (h : ds.length + es.length ≤ 100000) : OpB X C pt (binaryOp .Add) (.lst ds) (.lst es) (.lst (ds ++ es)) := ⟨_, op_cat, fun G H b v u i1 i2 Q k => by
  cases i1 with
  | lst h1 r1 =>
    cases i2 with
    | lst h2 r2 =>
      refine ⟨_, _, _, _, rfl, rfl, b.sub _ _ h1, b.sub _ _ h2, by rw [r1.length, r2.length]; exact Nat.le_trans h (by rw [sizeLine_eq]; decide), fun p hp => ?_⟩
      exact k _ _ _ (Aft.new b hp) (.lst upd_same ((r1.append r2).mono (Aft.new b hp).g))⟩
theorem o_rep {j : Int} (h0 : 0 ≤ j) (h1 : j < 1000) (h : ds.length * j.toNat ≤ 100000) : OpB X C pt (binaryOp .Mult) (.lst ds) (.int j) (.lst (List.replicate j.toNat ds).flatten) := ⟨_, op_rep, fun G H b v u i1 i2 Q k => by
  cases i1 with
  | lst h1' r1 =>
    cases i2
    refine ⟨_, _, _, rfl, rfl, b.sub _ _ h1', by omega, by omega, by rw [r1.length]; exact Nat.le_trans h (by rw [sizeLine_eq]; decide), fun p hp => ?_⟩
    exact k _ _ _ (Aft.new b hp) (.lst upd_same ((r1.rep _).mono (Aft.new b hp).g))⟩

/-! == of data -/
mutual
def toP : D → PyData
  | .non => .none | .bl b => .bool b | .int i => .int i | .str x => .str x | .lst xs => .list (toPs xs) | .tup xs => .tuple (toPs xs) | .rat _ _ => .none | .adr _ => .none | .ty _ => .none
def toPs : List D → List PyData
  | [] => []
  | x :: xs => toP x :: toPs xs
end
mutual
def isP : D → Bool
  | .lst xs => isPs xs | .tup xs => isPs xs | .rat _ _ => false | .adr _ => false | .ty _ => false | _ => true
def isPs : List D → Bool
  | [] => true
  | x :: xs => isP x && isPs xs
end
mutual
theorem dp_of {K : PySem.W.Frag} (e : Same G H) : ∀ {d : D} {v : V}, isP d = true → Is C G v d → Dp K H v (toP d)
  | .non, _, _, h => by cases h; exact .non
  | .bl b, _, _, h => by cases h; exact .bl b
  | .int i, _, _, h => by cases h; exact .int i
  | .str x, _, _, h => by cases h; exact .str x
  | .lst xs, _, p, h => by
    cases h with
    | lst h r => exact .lst (SqL.of (e _ _ h)) (dps_of e (by simpa [isP] using p) r)
  | .tup xs, _, p, h => by
    cases h with
    | tup h r => exact .tup (SqT.of (e _ _ h)) (dps_of e (by simpa [isP] using p) r)
  | .rat _ _, _, p, _ => by simp [isP] at p
  | .adr _, _, p, _ => by simp [isP] at p
  | .ty _, _, p, _ => by simp [isP] at p
theorem dps_of {K : PySem.W.Frag} (e : Same G H) : ∀ {ds : List D} {vs : List V}, isPs ds = true → IsL C G vs ds → DpAll K H vs (toPs ds)
  | [], _, _, h => by cases h; exact .nil
  | d :: ds, _, p, h => by
    cases h with
    | cons h r =>
      have p' : isP d = true ∧ isPs ds = true := by simpa [isPs] using p
      exact .cons (dp_of e p'.1 h) (dps_of e p'.2 r)
end
theorem o_eqD (hu : X.A.units + 64 < cLine) (px : isP x = true) (py : isP y = true) (sx : SeqAt.shaped (toP x) = true) (sy : SeqAt.shaped (toP y) = true) {c : Bool} (h : PyData.eqv (toP x) (toP y) = c) : OpB X C pt (compareOp .Eq) x y (.bl c) := ⟨_, op_eqD hu, fun G H b v u i1 i2 Q k => by
  refine ⟨_, _, dp_of b.sub px i1, dp_of b.sub py i2, sx, sy, ?_⟩
  rw [h]
  exact k _ G H (Aft.refl b) (.bl c)⟩
theorem o_neD (hu : X.A.units + 64 < cLine) (px : isP x = true) (py : isP y = true) (sx : SeqAt.shaped (toP x) = true) (sy : SeqAt.shaped (toP y) = true) {c : Bool} (h : PyData.eqv (toP x) (toP y) = c) : OpB X C pt (compareOp .NotEq) x y (.bl (!c)) := ⟨_, op_neD hu, fun G H b v u i1 i2 Q k => by
  refine ⟨_, _, dp_of b.sub px i1, dp_of b.sub py i2, sx, sy, ?_⟩
  rw [h]
  exact k _ G H (Aft.refl b) (.bl _)⟩
theorem o_neSame (hu : X.A.units + 64 < cLine) (px : isP x = true) (sx : SeqAt.shaped (toP x) = true) : OpB X C pt (compareOp .NotEq) x x (.bl false) := o_neD hu px px sx sx (SeqAt.eqv_refl _ (SeqAt.canLay_of_shaped sx))
theorem o_eqSame (hu : X.A.units + 64 < cLine) (px : isP x = true) (sx : SeqAt.shaped (toP x) = true) : OpB X C pt (compareOp .Eq) x x (.bl true) := o_eqD hu px px sx sx (SeqAt.eqv_refl _ (SeqAt.canLay_of_shaped sx))

/-! isinstance -/
def tyD (C : Addr) : D → Value
  | .non => .type "NoneType" | .bl _ => .type "bool" | .int _ => .type "int" | .str _ => .type "str" | .lst _ => .type "list" | .tup _ => .type "tuple" | .rat _ _ => .ref C | .adr _ => .none | .ty _ => .none
def hasTy : D → Bool
  | .adr _ => false | .ty _ => false | _ => true
theorem ty_of (T : Rt X.K X.mg C) (e : Same G H) {v : V} (h : Is C G v d) (p : hasTy d = true) : TyX X.K H v (tyD C d) := by
  cases h with
  | non => exact .base .non
  | bl b => exact .base (.bl b)
  | int i => exact .base (.int i)
  | str i => exact .base (.str i)
  | lst h r => exact .base (.lst (e _ _ h))
  | tup h r => exact .base (.tup (e _ _ h))
  | rat h => exact .base (.ins (e _ _ h) T.cl T.ic T.ig T.it T.mro)
  | adr a => simp [hasTy] at p
  | ty n => simp [hasTy] at p
theorem f_isT (T : Rt X.K X.mg C) {n : String} {c : Bool} (p : hasTy d = true) (h : PySem.W.kitOne X.K (tyD C d) (.type n) = some c) : RnD C pt (rIsi X.K) [d, .ty n] (.bl c) := fun G H b vs hi Q k => by
  obtain ⟨v, u, rfl, e1, e2⟩ := isl2 hi
  cases e2
  exact ⟨_, _, _, _, c, rfl, .ty n, ty_of T b.sub e1 p, h, k _ G H (Aft.refl b) (.bl c)⟩
theorem f_isC (T : Rt X.K X.mg C) {a : Addr} {c : Bool} (p : hasTy d = true) (h : PySem.W.kitOne X.K (tyD C d) (.ref a) = some c) : RnD C pt (rIsi X.K) [d, .adr a] (.bl c) := fun G H b vs hi Q k => by
  obtain ⟨v, u, rfl, e1, e2⟩ := isl2 hi
  cases e2
  exact ⟨_, _, _, _, c, rfl, .own a, ty_of T b.sub e1 p, h, k _ G H (Aft.refl b) (.bl c)⟩
theorem f_is2 (T : Rt X.K X.mg C) {n m : String} {c : Bool} (p : hasTy d = true) (h : PySem.W.kitAny X.K (tyD C d) [.type n, .type m] = some c) : RnD C pt (rIsiT X.K) [d, .tup [.ty n, .ty m]] (.bl c) := fun G H b vs hi Q k => by
  obtain ⟨v, u, rfl, e1, e2⟩ := isl2 hi
  cases e2 with
  | tup h2 r2 =>
    obtain ⟨v1, v2, rfl, g1, g2⟩ := isl2 r2
    cases g1
    cases g2
    exact ⟨_, _, _, _, _, c, rfl, b.sub _ _ h2, .cons (.ty n) (.cons (.ty m) .nil), ty_of T b.sub e1 p, h, k _ G H (Aft.refl b) (.bl c)⟩
end
end DL
end

section
set_option linter.all false
set_option maxRecDepth 100000
set_option maxHeartbeats 4000000
/-! Loops, comprehensions, tuples taken apart. -/
namespace DL
open PySem PySem.Spec PyProof.Rows L2

section
variable {pt : Option Addr} {G H G1 H1 G2 H2 : Hp} {D' : Addr} {o : HO}
theorem Aft.ptne (b : Bef pt G H) (h : H D' = none) : pt ≠ some D' := fun e => absurd h (b.pot D' e).2.ne
theorem Bef.free (b : Bef pt G H) (h : H D' = none) : G D' = none := by
  cases q : G D' with
  | none => rfl
  | some u => rw [b.sub D' u q] at h; cases h
/-- an object that is not fixed yet is changed -/
theorem Aft.mutD (b : Bef pt G H) (a : Aft pt G H G2 H2) (h : H D' = none) (g : G2 D' = none) : Aft pt G H G2 (upd H2 D' o) := by
  have hp := Aft.ptne b h
  refine ⟨a.g, fun x u e => by rw [upd_ne (ne_of_none e g)]; exact a.sub x u e, fun x u hx e => ?_, a.fr, fun p e => ?_⟩
  · rw [upd_ne (ne_of_none e h)]
    exact a.keep x u hx e
  · have hn : p ≠ D' := fun z => by subst z; exact hp e
    obtain ⟨i, j, e1, r⟩ := a.pot p e
    exact ⟨i, j, by rw [upd_ne hn]; exact e1, r⟩
/-- it is fixed -/
theorem Aft.fixD (b : Bef pt G H) (a : Aft pt G H G2 H2) (h : H D' = none) (g : G2 D' = none) (e : H2 D' = some o) : Aft pt G H (upd G2 D' o) H2 := by
  refine ⟨fun x u q => by rw [upd_ne (ne_of_none (a.g x u q) g)]; exact a.g x u q, fun x u q => ?_, a.keep, fun x u q => ?_, a.pot⟩
  · by_cases z : x = D'
    · subst z; rw [upd_same] at q; cases q; exact e
    · rw [upd_ne z] at q; exact a.sub x u q
  · by_cases z : x = D'
    · subst z; exact .inr h
    · rw [upd_ne z] at q; exact a.fr x u q
theorem same_upd (g : G D' = none) : Same G (upd G D' o) := fun x u q => by rw [upd_ne (ne_of_none q g)]; exact q
/-- what is open stays, and stays open -/
theorem Aft.stays (b : Bef pt G H) (a : Aft pt G H G2 H2) {p : Addr} (hp : pt ≠ some p) (e : H p = some o) (g : G p = none) : H2 p = some o ∧ G2 p = none := by
  refine ⟨a.keep p o hp e, ?_⟩
  cases q : G2 p with
  | none => rfl
  | some u =>
    rcases a.fr p u q with z | z
    · rw [g] at z; cases z
    · rw [e] at z; cases z
end

section
variable {X : Cx} {C : Addr} {pt : Option Addr} {ρ : Rho} {P : Out → Prop} {rest body : List Stmt} {e it elt : Expr} {pos : Pos} {n m : Str} {ds : List D} {x y d : D}
/-- a, b = e, e a tuple of two -/
theorem s_tup2 {p1 p2 p3 : Pos} {k1'} (i j : Nat) (hc : X.calm = true) (hN : X.N.Nodup) (hi : X.N[i]? = some n) (hj : X.N[j]? = some m) (hx : Loc X.env.scope n) (hy : Loc X.env.scope m) (h : EvD C pt (wE X e) ρ (.tup [x, y])) (hr : RunP C pt X rest ((ρ.set i (some x)).set j (some y)) P)
    (hs : swapsWithSole [.Tuple [.Name n p1, .Name m p2] k1' p3] e pos.line X.env = pure false := by rfl) (hw : swappedStores [.Tuple [.Name n p1, .Name m p2] k1' p3] e X.env = pure none := by rfl)
    (hf1 : X.fn n = true ∨ X.env.scope.names.lookup n = some .local := by first | exact .inl rfl | exact .inr rfl | assumption) (hf2 : X.fn m = true ∨ X.env.scope.names.lookup m = some .local := by first | exact .inl rfl | exact .inr rfl | assumption) :
    RunP C pt X (.Assign [.Tuple [.Name n p1, .Name m p2] k1' p3] e pos :: rest) ρ P :=
  s_of (ps_asg (pe_w e) (pg_tup hc (pgs_cons (pg_name hN hi hx hf1) (pgs_cons (pg_name hN hj hy hf2) pgs_nil)) (n := 2)) hs hw) fun σ G H en b E k1 k2 => h σ G H en b _ fun v G1 H1 a1 i1 => by
    cases i1 with
    | tup h1 r1 =>
      obtain ⟨v1, v2, rfl, g1, g2⟩ := isl2 r1
      exact ⟨_, _, rfl, SqT.of (a1.sub _ _ h1), rfl, _, _, rfl, _, _, rfl, rfl, k2 _ _ G1 H1 hr a1 (((en.mono a1.g).set g1).set g2)⟩

/-- for x in a list -/
theorem s_forL {p : Pos} (i : Nat) (I : Nat → Rho → Prop) (hc : X.calm = true) (hN : X.N.Nodup) (hi : X.N[i]? = some n) (hx : Loc X.env.scope n) (hp : PassesOwn (model X.prog X.w) X.A X.env X.xe) (h : EvD C pt (wE X it) ρ (.lst ds)) (h0 : I 0 ρ)
    (hs : ∀ j d ρ', ds[j]? = some d → I j ρ' → RunP C pt X body (ρ'.set i (some d)) (fun o => match o with | .ret d => P (.ret d) | .fall ρ2 => I (j + 1) ρ2)) (hd : ∀ ρ', I ds.length ρ' → RunP C pt X rest ρ' P)
    (hf : X.fn n = true ∨ X.env.scope.names.lookup n = some .local := by first | exact .inl rfl | exact .inr rfl | assumption) (hs' : ∀ x, foldedSetIterable it X.env x = pure x := by intro _; rfl) : RunP C pt X (.For (.Name n p) it body [] pos :: rest) ρ P :=
  s_of (ps_for hp hc (pi_list (pe_w it)) (pg_name hN hi hx hf) (ps_w body) hs') fun σ G H en b E k1 k2 => h σ G H en b _ fun v G1 H1 a1 i1 => by
    cases i1 with
    | @lst a vs _ h1 r1 =>
      refine ⟨_, rfl, ⟨_, SqL.of (a1.sub _ _ h1)⟩, for_list (K := X.K) (a := a) (xs := vs) (fun j σ' H' => ∃ G' ρ', Aft pt G H G' H' ∧ Same G1 G' ∧ EnvOk C G' σ' ρ' ∧ I j ρ') ⟨G1, ρ, a1, Same.refl _, en.mono a1.g, h0⟩ (fun j σ' H' _ q => ?_) (fun j w σ' H' hj q => ?_) (fun σ' H' q => ?_)⟩
      · obtain ⟨G', ρ', a', s', _, _⟩ := q
        exact SqL.of (a'.sub _ _ (s' _ _ h1))
      · obtain ⟨G', ρ', a', s', en', hI⟩ := q
        obtain ⟨d, hd1, hd2⟩ := r1.get hj
        refine hs j d ρ' hd1 hI (σ'.set i (some w)) G' H' (en'.set (hd2.mono s')) (a'.bef b) _ (fun d' v' G2 H2 p2 a2 i2 => k1 d' v' G2 H2 p2 (a'.trans b a2) i2) fun ρ2 σ2 G2 H2 p2 a2 e2 => ?_
        exact ⟨G2, ρ2, a'.trans b a2, s'.trans a2.g, e2, p2⟩
      · obtain ⟨G', ρ', a', s', en', hI⟩ := q
        exact k2 ρ' σ' G' H' (hd ρ' (by rw [r1.length] at hI; exact hI)) a' en'
/-- for x in range(n) -/
theorem s_forR {p p' p'' : Pos} {t : Expr} {num : Nat} (i : Nat) (I : Nat → Rho → Prop) (hc : X.calm = true) (hN : X.N.Nodup) (hi : X.N[i]? = some n) (hx : Loc X.env.scope n) (hp : PassesOwn (model X.prog X.w) X.A X.env X.xe) (hg : Gl X "range") (hm : X.mg "range" = none) (h : EvD C pt (wE X t) ρ (.int (num : Nat))) (hnum : num < 2 ^ 60) (h0 : I 0 ρ)
    (hs : ∀ (j : Nat) ρ', j < num → I j ρ' → RunP C pt X body (ρ'.set i (some (.int (j : Nat)))) (fun o => match o with | .ret d => P (.ret d) | .fall ρ2 => I (j + 1) ρ2)) (hd : ∀ ρ', I num ρ' → RunP C pt X rest ρ' P)
    (hst : starEach [t] X.env = [(false, eval t X.env)] := by rfl)
    (hf : X.fn n = true ∨ X.env.scope.names.lookup n = some .local := by first | exact .inl rfl | exact .inr rfl | assumption) (hs' : ∀ x, foldedSetIterable (.Call (.Name "range" p') [t] [] p'') X.env x = pure x := by intro _; rfl) : RunP C pt X (.For (.Name n p) (.Call (.Name "range" p') [t] [] p'') body [] pos :: rest) ρ P :=
  s_of (ps_for hp hc (pi_range1 hg hm (pa_w [t]) hst) (pg_name hN hi hx hf) (ps_w body) hs') fun σ G H en b E k1 k2 => a_cons h a_nil hst σ G H en b _ fun vs G1 H1 a1 i1 => by
    obtain ⟨v, rfl, g1⟩ := isl1 i1
    cases isI g1
    refine ⟨(num : Nat), rfl, by omega, by omega, for_range (lo := 0) (n := ((num : Nat) : Int).toNat) (fun j σ' H' => ∃ G' ρ', Aft pt G H G' H' ∧ EnvOk C G' σ' ρ' ∧ I j ρ') ⟨G1, ρ, a1, en.mono a1.g, h0⟩ (fun j σ' H' hj q => ?_) (fun σ' H' q => ?_)⟩
    · obtain ⟨G', ρ', a', en', hI⟩ := q
      have ej : (0 : Int) + (j : Nat) = ((j : Nat) : Int) := Int.zero_add _
      rw [ej]
      refine hs j ρ' (by omega) hI (σ'.set i (some (.int (j : Nat)))) G' H' (en'.set (.int _)) (a'.bef b) _ (fun d' v' G2 H2 p2 a2 i2 => k1 d' v' G2 H2 p2 (a'.trans b a2) i2) fun ρ2 σ2 G2 H2 p2 a2 e2 => ?_
      exact ⟨G2, ρ2, a'.trans b a2, e2, p2⟩
    · obtain ⟨G', ρ', a', en', hI⟩ := q
      exact k2 ρ' σ' G' H' (hd ρ' (by simpa using hI)) a' en'
/-- while -/
theorem s_while {c : Expr} (I : Rho → Prop) (μ : Rho → Nat) (hp : PassesOwn (model X.prog X.w) X.A X.env X.xe) (h0 : I ρ)
    (hs : ∀ ρ', I ρ' → ∃ k, EvT C pt (wT X c) ρ' k ∧ (k = true → RunP C pt X body ρ' (fun o => match o with | .ret d => P (.ret d) | .fall ρ2 => I ρ2 ∧ μ ρ2 < μ ρ')) ∧ (k = false → RunP C pt X rest ρ' P)) : RunP C pt X (.While c body [] pos :: rest) ρ P :=
  s_of (ps_while hp (pt_w c) (ps_w body)) fun σ G H en b E k1 k2 => by
    refine ⟨fun mm σ' H' => ∃ G' ρ', Aft pt G H G' H' ∧ EnvOk C G' σ' ρ' ∧ I ρ' ∧ mm = μ ρ', ⟨_, G, ρ, Aft.refl b, en, h0, rfl⟩, ?_⟩
    rintro mm σ' H' ⟨G', ρ', a', en', hI, rfl⟩
    obtain ⟨k, hk, ht, hf⟩ := hs ρ' hI
    refine hk σ' G' H' en' (a'.bef b) _ fun G2 H2 a2 => ?_
    cases k with
    | true =>
      refine ⟨fun σ3 H3 => ∃ G3 ρ3, Aft pt G H G3 H3 ∧ EnvOk C G3 σ3 ρ3 ∧ I ρ3 ∧ μ ρ3 < μ ρ', fun σ3 H3 q => ?_, ?_⟩
      · obtain ⟨G3, ρ3, a3, e3, i3, l3⟩ := q
        exact ⟨_, l3, G3, ρ3, a3, e3, i3, rfl⟩
      · have a02 := a'.trans b a2
        refine ht rfl σ' G2 H2 (en'.mono a2.g) (a02.bef b) _ (fun d' v' G3 H3 p3 a3 i3 => k1 d' v' G3 H3 p3 (a02.trans b a3) i3) fun ρ3 σ3 G3 H3 p3 a3 e3 => ?_
        exact ⟨G3, ρ3, a02.trans b a3, e3, p3.1, p3.2⟩
    | false => exact k2 ρ' σ' G2 H2 (hf rfl) (a'.trans b a2) (en'.mono a2.g)

/-! ### comprehensions -/
/-- the element, in whatever frame of the block -/
def wB (X : Cx) (scope : Scope) (elt : Expr) : TE := fun σ H Q => ∀ s H' Ca cl fp, wE (X.blk s H' scope (compEnvC scope cl Ca X.env) fp) elt σ H Q
theorem EvP.wB {scope : Scope} {R : D → Prop} (h : ∀ s H' Ca cl fp, EvP C pt (wE (X.blk s H' scope (compEnvC scope cl Ca X.env) fp) elt) ρ R) : EvP C pt (wB X scope elt) ρ R := fun σ G H en b Q k s H' Ca cl fp => h s H' Ca cl fp σ G H en b Q k
/-- the list that grows -/
def Grow (C : Addr) (pt : Option Addr) (R : Nat → D → Prop) (G H : Hp) (L : Addr) (j : Nat) (H' : Hp) : Prop := ∃ G' acc fs, Aft pt G H G' H' ∧ G' L = none ∧ H' L = some (.lst acc) ∧ IsL C G' acc fs ∧ fs.length = j ∧ ∀ (q : Nat) z, fs[q]? = some z → R q z
theorem grow_0 {R : Nat → D → Prop} {G H : Hp} {L : Addr} (b : Bef pt G H) (h : H L = none) : Grow C pt R G H L 0 (upd H L (.lst [])) := ⟨G, [], [], Aft.open_ b h, b.free h, upd_same, .nil, rfl, fun q z e => by simp at e⟩
theorem grow_1 {R : Nat → D → Prop} {G H G2 H2 : Hp} {L : Addr} {j : Nat} {v : V} {H' G' : Hp} {acc : List V} {fs : List D} (b : Bef pt G H) (h : H L = none) (a' : Aft pt G H G' H') (g' : G' L = none) (e' : H' L = some (.lst acc)) (r : IsL C G' acc fs) (hl : fs.length = j) (hR : ∀ (q : Nat) z, fs[q]? = some z → R q z)
    (a2 : Aft pt G' H' G2 H2) (i2 : Is C G2 v d) (h2 : R j d) : H2 L = some (.lst acc) ∧ Grow C pt R G H L (j + 1) (upd H2 L (.lst (acc ++ [v]))) := by
  obtain ⟨e2, g2⟩ := a2.stays (a'.bef b) (Aft.ptne b h) e' g'
  refine ⟨e2, G2, acc ++ [v], fs ++ [d], Aft.mutD b (a'.trans b a2) h g2, g2, upd_same, (r.mono a2.g).snoc i2, by rw [List.length_append, hl]; rfl, fun q z e => ?_⟩
  by_cases hq : q < fs.length
  · rw [List.getElem?_append_left hq] at e
    exact hR q z e
  · rw [List.getElem?_append_right (Nat.le_of_not_lt hq)] at e
    have e0 : q - fs.length = 0 := by
      cases t : q - fs.length with
      | zero => rfl
      | succ u => rw [t] at e; simp at e
    rw [e0] at e
    simp at e
    subst e
    have : q = j := by omega
    subst this
    exact h2
theorem grow_end {R : Nat → D → Prop} {G H : Hp} {L : Addr} {j : Nat} {H' : Hp} {Q : VK} (b : Bef pt G H) (h : H L = none) (g : Grow C pt R G H L j H') (k : ∀ d v G2 H2, (∃ fs, d = .lst fs ∧ fs.length = j ∧ ∀ (q : Nat) z, fs[q]? = some z → R q z) → Aft pt G H G2 H2 → Is C G2 v d → Q v H2) : Q (.ref L) H' := by
  obtain ⟨G', acc, fs, a', g', e', r, hl, hR⟩ := g
  exact k _ _ _ _ ⟨fs, rfl, hl, hR⟩ (Aft.fixD b a' h g' e') (.lst upd_same (r.mono (same_upd g')))
theorem ev_lcL {i : Nat} {R : Nat → D → Prop} {te : TE} (h : EvD C pt (wE X it) ρ (.lst ds)) (hz : ds.length ≤ 100000) (he : ∀ j d, ds[j]? = some d → EvP C pt te ((wipeD ρ [i]).set i (some d)) (R j)) :
    EvP C pt (tLc (iList X.K (wE X it)) (gName i) tYes te [i]) ρ (fun z => ∃ fs, z = .lst fs ∧ fs.length = ds.length ∧ ∀ (q : Nat) z, fs[q]? = some z → R q z) := fun σ G H en b Q k => h σ G H en b _ fun v G1 H1 a1 i1 => by
  cases i1 with
  | @lst a vs _ h1 r1 =>
    have b1 := a1.bef b
    refine ⟨a, rfl, ⟨_, SqL.of (a1.sub _ _ h1)⟩, fun L hL => lc_list (K := X.K) (a := a) (xs := vs) (fun j H' => Grow C pt R G1 H1 L j H') (grow_0 b1 hL) (fun j H' _ q => ?_) (fun j w H' hj q => ?_) (fun H' q => ?_)⟩
    · obtain ⟨G', acc, fs, a', _⟩ := q
      exact SqL.of (a'.sub _ _ (a'.g _ _ h1))
    · obtain ⟨G', acc, fs, a', g', e', r, hl, hR⟩ := q
      obtain ⟨d, hd1, hd2⟩ := r1.get hj
      refine ⟨by simp [wipe], ?_⟩
      show te _ H' _
      refine he j d hd1 _ G' H' ((((en.mono a1.g).mono a'.g).wipe [i]).set (hd2.mono a'.g)) (a'.bef b1) _ fun d2 v2 G2 H2 p2 a2 i2 => ?_
      obtain ⟨e2, gr⟩ := grow_1 b1 hL a' g' e' r hl hR a2 i2 p2
      have hjl : j < ds.length := (List.getElem?_eq_some_iff.mp hd1).1
      exact ⟨acc, e2, by rw [r.length, hl, sizeLine_eq]; omega, gr⟩
    · rw [r1.length] at q
      exact grow_end b1 hL q fun d v2 G2 H2 p a2 i2 => k d v2 G2 H2 p (a1.trans b a2) i2
theorem ev_lcR {t : Expr} {num : Nat} {i : Nat} {R : Nat → D → Prop} {te : TE} (h : EvD C pt (wE X t) ρ (.int (num : Nat))) (hz : num ≤ 100000) (hst : starEach [t] X.env = [(false, eval t X.env)]) (he : ∀ j : Nat, j < num → EvP C pt te ((wipeD ρ [i]).set i (some (.int (j : Nat)))) (R j)) :
    EvP C pt (tLc (iRng1 (wA X [t])) (gName i) tYes te [i]) ρ (fun z => ∃ fs, z = .lst fs ∧ fs.length = num ∧ ∀ (q : Nat) z, fs[q]? = some z → R q z) := fun σ G H en b Q k => a_cons h a_nil hst σ G H en b _ fun vs G1 H1 a1 i1 => by
  obtain ⟨v, rfl, g1⟩ := isl1 i1
  cases isI g1
  have b1 := a1.bef b
  refine ⟨(num : Nat), rfl, by omega, by omega, fun L hL => lc_range (lo := 0) (n := ((num : Nat) : Int).toNat) (fun j H' => Grow C pt R G1 H1 L j H') (grow_0 b1 hL) (fun j H' hj q => ?_) (fun H' q => ?_)⟩
  · obtain ⟨G', acc, fs, a', g', e', r, hl, hR⟩ := q
    refine ⟨by simp [wipe], ?_⟩
    show te _ H' _
    have ej : (0 : Int) + (j : Nat) = ((j : Nat) : Int) := Int.zero_add _
    rw [ej]
    refine he j (by omega) _ G' H' ((((en.mono a1.g).mono a'.g).wipe [i]).set (.int _)) (a'.bef b1) _ fun d2 v2 G2 H2 p2 a2 i2 => ?_
    obtain ⟨e2, gr⟩ := grow_1 b1 hL a' g' e' r hl hR a2 i2 p2
    exact ⟨acc, e2, by rw [r.length, hl, sizeLine_eq]; omega, gr⟩
  · have en : ((num : Nat) : Int).toNat = num := by omega
    rw [en] at q
    exact grow_end b1 hL q fun d v2 G2 H2 p a2 i2 => k d v2 G2 H2 p (a1.trans b a2) i2
theorem ofPEP {te : TE} {R : D → Prop} (h : PE X e te) (ev : EvP C pt te ρ R) : EvP C pt (wE X e) ρ R := fun σ G H en b Q k pins s I => h.run pins s σ H Q I (ev σ G H en b Q k)
/-- [elt for x in a list] -/
theorem d_lcL {i : Nat} {R : Nat → D → Prop} {scope : Scope} {p : Pos} (hc : X.calm = true) (hN : X.N.Nodup) (ok : BlkOk X.N X.env.scope scope [(n, i)]) (h : EvD C pt (wE X it) ρ (.lst ds)) (hz : ds.length ≤ 100000)
    (hg : ∀ (s : Shared) (H : Hp) (C : Addr) (cl : List (Str × Addr)) (fp : List Addr), PG (X.blk s H scope (compEnvC scope cl C X.env) fp) (.Name n p) (gName i))
    (he : ∀ j d, ds[j]? = some d → ∀ s H' Ca cl fp, EvP C pt (wE (X.blk s H' scope (compEnvC scope cl Ca X.env) fp) elt) ((wipeD ρ [i]).set i (some d)) (R j)) (hs : ∀ x, foldedSetIterable it X.env x = pure x := by intro _; rfl) :
    EvP C pt (wE X (.ListComp elt [⟨.Name n p, it, [], 0⟩] scope pos)) ρ (fun z => ∃ fs, z = .lst fs ∧ fs.length = ds.length ∧ ∀ (q : Nat) z, fs[q]? = some z → R q z) :=
  ofPEP (pe_lc (own := [(n, i)]) (g := gName i) (tt := tYes) (te := wB X scope elt) hc hN (pi_list (pe_w it)) ok hg (fun _ _ _ _ _ => pts_nil) (fun s H C cl fp => ⟨fun pins s' σ H' Q I q => q s H C cl fp pins s' I⟩) hs) (ev_lcL h hz fun j d hj => EvP.wB (he j d hj))
theorem d_lcR {i : Nat} {t : Expr} {num : Nat} {R : Nat → D → Prop} {scope : Scope} {p p' p'' : Pos} (hc : X.calm = true) (hN : X.N.Nodup) (ok : BlkOk X.N X.env.scope scope [(n, i)]) (hgr : Gl X "range") (hm : X.mg "range" = none) (h : EvD C pt (wE X t) ρ (.int (num : Nat))) (hz : num ≤ 100000)
    (hg : ∀ (s : Shared) (H : Hp) (C : Addr) (cl : List (Str × Addr)) (fp : List Addr), PG (X.blk s H scope (compEnvC scope cl C X.env) fp) (.Name n p) (gName i))
    (he : ∀ j : Nat, j < num → ∀ s H' Ca cl fp, EvP C pt (wE (X.blk s H' scope (compEnvC scope cl Ca X.env) fp) elt) ((wipeD ρ [i]).set i (some (.int (j : Nat)))) (R j)) (hst : starEach [t] X.env = [(false, eval t X.env)] := by rfl) (hs : ∀ x, foldedSetIterable (.Call (.Name "range" p') [t] [] p'') X.env x = pure x := by intro _; rfl) :
    EvP C pt (wE X (.ListComp elt [⟨.Name n p, .Call (.Name "range" p') [t] [] p'', [], 0⟩] scope pos)) ρ (fun z => ∃ fs, z = .lst fs ∧ fs.length = num ∧ ∀ (q : Nat) z, fs[q]? = some z → R q z) :=
  ofPEP (pe_lc (own := [(n, i)]) (g := gName i) (tt := tYes) (te := wB X scope elt) hc hN (pi_range1 hgr hm (pa_w [t]) hst) ok hg (fun _ _ _ _ _ => pts_nil) (fun s H C cl fp => ⟨fun pins s' σ H' Q I q => q s H C cl fp pins s' I⟩) hs) (ev_lcR h hz hst fun j hj => EvP.wB (he j hj))
/-- y = [elt for x in ..] -/
theorem s_lcL {i l : Nat} {R : Nat → D → Prop} {scope : Scope} {p py spos : Pos} {yn : Str} (hc : X.calm = true) (hN : X.N.Nodup) (hy : X.N[l]? = some yn) (hyl : X.env.scope.names.lookup yn = some .local) (hsw : swapsWith (.ListComp elt [⟨.Name n p, it, [], 0⟩] scope pos) (some (.Name yn py)) spos.line X.env = pure true)
    (ok : BlkOk X.N X.env.scope scope [(n, i)]) (h : EvD C pt (wE X it) ρ (.lst ds)) (hz : ds.length ≤ 100000)
    (hg : ∀ (s : Shared) (H : Hp) (C : Addr) (cl : List (Str × Addr)) (fp : List Addr), PG (X.blk s H scope (compEnvC scope cl C X.env) fp) (.Name n p) (gName i))
    (he : ∀ j d, ds[j]? = some d → ∀ s H' Ca cl fp, EvP C pt (wE (X.blk s H' scope (compEnvC scope cl Ca X.env) fp) elt) ((wipeD ρ [i]).set i (some d)) (R j))
    (hr : ∀ fs, fs.length = ds.length → (∀ (q : Nat) z, fs[q]? = some z → R q z) → RunP C pt X rest (ρ.set l (some (.lst fs))) P) (hs : ∀ x, foldedSetIterable it X.env x = pure x := by intro _; rfl) :
    RunP C pt X (.Assign [.Name yn py] (.ListComp elt [⟨.Name n p, it, [], 0⟩] scope pos) spos :: rest) ρ P :=
  s_of (ps_setLc (i := l) (own := [(n, i)]) (g := gName i) (tt := tYes) (te := wB X scope elt) hc hN hy hyl hsw (pi_list (pe_w it)) ok hg (fun _ _ _ _ _ => pts_nil) (fun s H C cl fp => ⟨fun pins s' σ H' Q I q => q s H C cl fp pins s' I⟩) hs) fun σ G H en b E k1 k2 => ev_lcL (R := R) h hz (fun j d hj => EvP.wB (he j d hj)) σ G H en b _ fun d v G2 H2 p a i' => by
    obtain ⟨fs, rfl, hl, hR⟩ := p
    exact k2 _ _ G2 H2 (hr fs hl hR) a ((en.mono a.g).set i')
theorem s_lcR {i l : Nat} {t : Expr} {num : Nat} {R : Nat → D → Prop} {scope : Scope} {p p' p'' py spos : Pos} {yn : Str} (hc : X.calm = true) (hN : X.N.Nodup) (hy : X.N[l]? = some yn) (hyl : X.env.scope.names.lookup yn = some .local) (hsw : swapsWith (.ListComp elt [⟨.Name n p, .Call (.Name "range" p') [t] [] p'', [], 0⟩] scope pos) (some (.Name yn py)) spos.line X.env = pure true)
    (ok : BlkOk X.N X.env.scope scope [(n, i)]) (hgr : Gl X "range") (hm : X.mg "range" = none) (h : EvD C pt (wE X t) ρ (.int (num : Nat))) (hz : num ≤ 100000)
    (hg : ∀ (s : Shared) (H : Hp) (C : Addr) (cl : List (Str × Addr)) (fp : List Addr), PG (X.blk s H scope (compEnvC scope cl C X.env) fp) (.Name n p) (gName i))
    (he : ∀ j : Nat, j < num → ∀ s H' Ca cl fp, EvP C pt (wE (X.blk s H' scope (compEnvC scope cl Ca X.env) fp) elt) ((wipeD ρ [i]).set i (some (.int (j : Nat)))) (R j))
    (hr : ∀ fs, fs.length = num → (∀ (q : Nat) z, fs[q]? = some z → R q z) → RunP C pt X rest (ρ.set l (some (.lst fs))) P) (hst : starEach [t] X.env = [(false, eval t X.env)] := by rfl) (hs : ∀ x, foldedSetIterable (.Call (.Name "range" p') [t] [] p'') X.env x = pure x := by intro _; rfl) :
    RunP C pt X (.Assign [.Name yn py] (.ListComp elt [⟨.Name n p, .Call (.Name "range" p') [t] [] p'', [], 0⟩] scope pos) spos :: rest) ρ P :=
  s_of (ps_setLc (i := l) (own := [(n, i)]) (g := gName i) (tt := tYes) (te := wB X scope elt) hc hN hy hyl hsw (pi_range1 hgr hm (pa_w [t]) hst) ok hg (fun _ _ _ _ _ => pts_nil) (fun s H C cl fp => ⟨fun pins s' σ H' Q I q => q s H C cl fp pins s' I⟩) hs) fun σ G H en b E k1 k2 => ev_lcR (R := R) h hz hst (fun j hj => EvP.wB (he j hj)) σ G H en b _ fun d v G2 H2 p a i' => by
    obtain ⟨fs, rfl, hl, hR⟩ := p
    exact k2 _ _ G2 H2 (hr fs hl hR) a ((en.mono a.g).set i')
end
end DL
end

section
set_option linter.all false
set_option maxRecDepth 100000
set_option maxHeartbeats 4000000
/-! Keywords, class methods, own texts, f-strings, loops over tuples, the class held by a name. -/
namespace DL
open PySem PySem.Spec PyProof.Rows L2
section
variable {X : Cx} {C : Addr} {pt : Option Addr} {ρ : Rho} {k : Nat} {f g : Addr} {fd : FuncData} {ps ks : List Str} {Rel : List D → D → Prop} {a b e o : Expr} {es : List Expr} {kws : List Keyword} {x y z d : D} {ds : List D} {pos p apos kpos : Pos} {n m : Str} {rest body : List Stmt} {P : Out → Prop} {nm : Option Str}
def wK (X : Cx) (kws : List Keyword) : TA := fun σ H Q => ∀ pos pins s, Inv X pins σ H s → wpAny (model X.prog X.w) X.A (evalAll ((backToKw pos (keywordEach kws X.env)).map (·.2))) (AP X pins σ Q) X.xe s
theorem pk_w (kws : List Keyword) : PK X kws (wK X kws) := ⟨fun pos pins s _ _ _ I h => h pos pins s I⟩
theorem k_nil : EvA C pt (wK X []) ρ [] := fun σ G H en b Q k pos pins s I => pk_nil.run pos pins s σ H Q I (k [] G H (Aft.refl b) .nil)
theorem k_cons (h : EvD C pt (wE X e) ρ d) (hr : EvA C pt (wK X kws) ρ ds) : EvA C pt (wK X (⟨nm, e, kpos⟩ :: kws)) ρ (d :: ds) := fun σ G H en b Q k pos pins s I => (pk_cons (pe_w e) (pk_w kws)).run pos pins s σ H Q I
  (h σ G H en b _ fun v G1 H1 a1 i1 => hr σ G1 H1 (en.mono a1.g) (a1.bef b) _ fun vs G2 H2 a2 i2 => k _ G2 H2 (a1.trans b a2) (.cons (i1.mono a2.g) i2))
/-- self, then the keywords in the parameters' order -/
abbrev KB (K : PySem.W.Frag) (fd : FuncData) (ps ks : List Str) : Prop := KBn K fd ps 1 ks (fun us ws => us ++ ws) (fun vs zs => vs ++ zs)
theorem kb_mk {K : PySem.W.Frag} (h : ∀ (s : Shared) (u : Value) (ws : List Value), K.In s.heap → ws.length = ks.length → BindsTo s fd ⟨[u], ks.zip ws⟩ (ps.zip (u :: ws))) : KB K fd ps ks :=
  ⟨fun s us ws hK l1 l2 => match us, l1 with | [u], _ => h s u ws hK l2, fun r1 r2 => r1.append r2⟩
/-- o.m(k = e, ..) -/
theorem d_methK {t b' : Int} {pl : Sem Bool} (T : Rt X.K X.mg C) (hm : PySem.W.findIn X.K (.ref C) m = some (some (.ref f))) (kp : PySem.W.keepIn X.K (.ref f) = true) (fn : PySem.W.isFn X.K (.ref f) = true) (F : FnOk X.prog X.w X.K X.mg X.base CX0 k f fd ps (Ct C Rel)) (hb : KB X.K fd ps ks) (hr : Room k X.A)
    (h : EvD C pt (wE X o) ρ (.rat t b')) (hk : EvA C pt (wK X kws) ρ ds) (hl : ds.length = ks.length) (hR : Rel (.rat t b' :: ds) z) (n1 : ¬ m = "_bottom") (n2 : ¬ m = "_top")
    (hks : (backToKw pos (keywordEach kws X.env)).filterMap (·.1) = ks) (hall : (backToKw pos (keywordEach kws X.env)).all (·.1.isSome) = true) (hpl : ((backTo pos (starEach [] X.env)).any (·.1) || (backToKw pos (keywordEach kws X.env)).any (·.1.isNone)) = false)
    (step : ∀ {M : Model} {A : Around} {E' : Value → Shared → Prop} {Q : Value → Shared → Prop} {s : Shared}, wpAny M A (eval o X.env) (fun ov s₁ => wpAny M A (getMethod ov m pl) (fun fx s₂ => wpAny M A (callWith pos fx.1 fx.2 (backTo pos (starEach [] X.env)) (backToKw pos (keywordEach kws X.env))) Q E' s₂) E' s₁) E' s → wpAny M A (eval (.Call (.Attribute o m apos) [] kws pos) X.env) Q E' s) :
    EvD C pt (wE X (.Call (.Attribute o m apos) [] kws pos)) ρ z := fun σ G H en b Q q pins s I => by
  refine step (thn (h σ G H en b (fun v H1 => ∃ G1, Aft pt G H G1 H1 ∧ Is C G1 v (.rat t b')) (fun v G1 H1 a1 i1 => ⟨G1, a1, i1⟩) pins s I) fun u s1 ⟨v, H1, I1, r1, G1, a1, i1⟩ => ?_)
  cases i1 with
  | @rat a dx _ _ h1 =>
    obtain rfl : u = Value.ref a := r1
    refine getmeth_ok I1 (a1.sub _ _ h1) T.cl ⟨hm, fn, kp⟩ (ratF_no _ _ n1 n2) ?_
    refine PySem.W.callWith_KW0 (h₀ := X.base) I.ok.mod.kin kp hall (thn (hk σ G1 H1 (en.mono a1.g) (a1.bef b) (fun vs H2 => ∃ G2, Aft pt G1 H1 G2 H2 ∧ IsL C G2 vs ds) (fun vs G2 H2 a2 i2 => ⟨G2, a2, i2⟩) pos pins s1 I1) fun ws s2 ⟨zs, H2, I2, rz, G2, a2, i2⟩ => ⟨I2.kIn, ?_⟩) hpl
    rw [hks]
    refine run_fnN (us := [Value.ref a]) (vs := [V.ref a]) F hr hb (pass0 (X := X)) I2 (.cons rfl .nil) rz rfl (by rw [i2.length]; exact hl) ?_
    exact ct_of hR (a2.bef (a1.bef b)) (.cons (.rat (a2.g _ _ h1)) i2) fun v G3 H3 a3 i3 => q v G3 H3 ((a1.trans b a2).trans b a3) i3

/-! class methods -/
/-- C.m(e, ..), handed the class first -/
theorem d_cmeth (hp : PE X (.Call (.Attribute o m apos) (e :: es) [] pos) (ClX.tCMeth C (Ct C Rel) E0 (wE X o) (wA X (e :: es)))) (h : EvD C pt (wE X o) ρ (.adr C)) (ha : EvA C pt (wA X (e :: es)) ρ ds) (hR : Rel (.adr C :: ds) z) : EvD C pt (wE X (.Call (.Attribute o m apos) (e :: es) [] pos)) ρ z :=
  ofPE hp fun σ G H en b Q k => h σ G H en b _ fun v G1 H1 a1 i1 => by
    cases i1
    exact ⟨rfl, ha σ G1 H1 (en.mono a1.g) (a1.bef b) _ fun vs G2 H2 a2 i2 => ct_of hR (a2.bef (a1.bef b)) (.cons (.adr C) i2) fun v G3 H3 a3 i3 => k v G3 H3 ((a1.trans b a2).trans b a3) i3⟩
/-- C.m(k = e) -/
theorem d_cmethK {mc : Value} {q : Addr} {pl : Sem Bool} (r : ClX.CRead X.K C mc) (c : ClX.CMet X.K C mc m q f) (F : FnOk X.prog X.w X.K X.mg X.base CX0 k f fd ps (Ct C Rel)) (hb : KB X.K fd ps ks) (hr : Room k X.A)
    (h : EvD C pt (wE X o) ρ (.adr C)) (hk : EvA C pt (wK X kws) ρ ds) (hl : ds.length = ks.length) (hR : Rel (.adr C :: ds) z)
    (hks : (backToKw pos (keywordEach kws X.env)).filterMap (·.1) = ks) (hall : (backToKw pos (keywordEach kws X.env)).all (·.1.isSome) = true) (hpl : ((backTo pos (starEach [] X.env)).any (·.1) || (backToKw pos (keywordEach kws X.env)).any (·.1.isNone)) = false)
    (step : ∀ {M : Model} {A : Around} {E' : Value → Shared → Prop} {Q : Value → Shared → Prop} {s : Shared}, wpAny M A (eval o X.env) (fun ov s₁ => wpAny M A (getMethod ov m pl) (fun fx s₂ => wpAny M A (callWith pos fx.1 fx.2 (backTo pos (starEach [] X.env)) (backToKw pos (keywordEach kws X.env))) Q E' s₂) E' s₁) E' s → wpAny M A (eval (.Call (.Attribute o m apos) [] kws pos) X.env) Q E' s) :
    EvD C pt (wE X (.Call (.Attribute o m apos) [] kws pos)) ρ z := fun σ G H en b Q q' pins s I => by
  refine step (thn (h σ G H en b (fun v H1 => v = .ref C ∧ ∃ G1, Aft pt G H G1 H1) (fun v G1 H1 a1 i1 => by cases i1; exact ⟨rfl, G1, a1⟩) pins s I) fun u s1 ⟨v, H1, I1, r1, e1, G1, a1⟩ => ?_)
  subst e1
  obtain rfl : u = Value.ref C := r1
  refine ClX.getmethcm_ok I1 r c fun s2 I2 => ?_
  refine PySem.W.callWith_of (P := PySem.W.MethP X.K s1.heap.objs.size f (.ref C)) hpl (PySem.W.keeps_M c.fi) (evalArgs_kw2_nil hall (thn (hk σ G1 H1 (en.mono a1.g) (a1.bef b) (fun vs H2 => ∃ G2, Aft pt G1 H1 G2 H2 ∧ IsL C G2 vs ds) (fun vs G2 H2 a2 i2 => ⟨G2, a2, i2⟩) pos _ s2 I2) fun ws s3 ⟨zs, H2, I3, rz, G2, a2, i2⟩ => ⟨⟨ClX.pin_at I3, I3.kIn⟩, ?_⟩))
  rw [hks]
  have ct : Ct C Rel (V.ref C :: zs) H2 Q E0 := ct_of hR (a2.bef (a1.bef b)) (.cons (.adr C) i2) fun v G3 H3 a3 i3 => q' v G3 H3 ((a1.trans b a2).trans b a3) i3
  have rv : Vals (V.ref C :: zs) (Value.ref C :: ws) := .cons rfl rz
  have lw : ws.length = ks.length := by rw [← rz.length, i2.length]; exact hl
  refine wpAny_call (PySem.W.method_call (ClX.pin_at I3) (codeAny_mono (F.run X.A X.stack s3 H2 ⟨[.ref C], ks.zip ws⟩ (.ref C :: ws) (V.ref C :: zs) Q E0 hr I3.env0 (hb.to s3 [.ref C] ws I3.kIn rfl lw) rv ct) fun r s' hq => ?_))
  cases r with
  | error er => exact (show False from hq).elim
  | ok fl => cases fl <;> first | exact ClX.unpinE (I3.after hq) | exact (show False from hq).elim
end
end DL
end

section
set_option linter.all false
set_option maxRecDepth 100000
set_option maxHeartbeats 4000000
/-! Own minus, own texts; f-strings; loops over tuples; the class called by a local name. -/
namespace DL
open PySem PySem.Spec PyProof.Rows L2
section
variable {X : Cx} {C : Addr} {pt : Option Addr} {ρ : Rho} {k : Nat} {f g : Addr} {Rel : List D → D → Prop} {a b e o it : Expr} {es : List Expr} {x y z d : D} {ds : List D} {pos p : Pos} {n : Str} {rest body : List Stmt} {P : Out → Prop}
theorem d_negR {t b' : Int} (T : Rt X.K X.mg C) (hs : PySem.W.findIn X.K (.ref C) "__neg__" = some (some (.ref f))) (D' : Df X.prog X.w X.K X.mg X.base C k f Rel) (hr : Room k X.A) (ha : EvD C pt (wE X a) ρ (.rat t b')) (hR : Rel [.rat t b'] z) : EvD C pt (wE X (.UnaryOp .USub a pos)) ρ z :=
  d_un (r := fun v H Q => ∃ G, Bef pt G H ∧ Is C G v (.rat t b') ∧ ∀ w G2 H2, Aft pt G H G2 H2 → Is C G2 w z → Q w H2) (fun pins s σ H x v Q I rx h => by
    obtain ⟨G, b, i1, q⟩ := h
    cases i1 with
    | rat h1 =>
      cases rx
      obtain ⟨od, J⟩ := rat_inst I (b.sub _ _ h1)
      obtain ⟨m', Fm⟩ := I.fr
      exact PySem.W.ksp_neg Fm I.ok.mod.kin J hs D'.fn (run_df (vs := [V.ref _]) D' hr I (.cons rfl .nil) hR b (.cons (.rat h1) .nil) q)) ha fun G H b v i Q k => ⟨G, b, i, k⟩
theorem ep_str {pins : List (Addr × Obj)} {σ : L2.St} {Q : VK} {u : Value} {s' : Shared} {i : Str} (h : EP X pins σ (fun v H' => v = .str i ∧ Q v H') u s') : PySem.W.StrBack (EP X pins σ Q) u s' := by
  obtain ⟨v, H', I, r, e, q⟩ := h
  subst e
  obtain ⟨t, rfl⟩ := r
  exact ⟨.str i, H', I, ⟨t, rfl⟩, q⟩
/-- str(x), repr(x) of an own instance -/
theorem f_strR {t b' : Int} {i : Str} (hs : PySem.W.findIn X.K (.ref C) "__str__" = some (some (.ref f))) (D' : Df X.prog X.w X.K X.mg X.base C k f Rel) (hr : Room (k + 2) X.A) (hR : Rel [.rat t b'] (.str i)) :
    ∃ r, CallR X (.type "str") r ∧ RnD C pt r [.rat t b'] (.str i) := ⟨fun vs H Q => ∃ G, Bef pt G H ∧ IsL C G vs [.rat t b'] ∧ ∀ w G2 H2, Aft pt G H G2 H2 → Is C G2 w (.str i) → Q w H2, fun pins s σ H vs us Q I r h => by
    obtain ⟨G, b, i1, q⟩ := h
    obtain ⟨v, rfl, h0⟩ := isl1 i1
    cases h0 with
    | rat h1 =>
      obtain ⟨u, rfl, ru⟩ := vals1 r
      cases ru
      obtain ⟨od, J⟩ := rat_inst I (b.sub _ _ h1)
      refine PySem.W.kso_call (by show X.A.units + 1 + 1 < cLine; have := hr.units; omega) I.kIn J hs D'.fn ?_
      refine thn (run_dfin (vs := [V.ref _]) (Q := fun v H' => v = .str i ∧ Q v H') D' hr.in1.in1 rfl I (.cons rfl .nil) hR b (.cons (.rat h1) .nil) fun v G2 H2 a2 i2 => by cases i2; exact ⟨rfl, q _ G2 H2 a2 (.str i)⟩) fun _ _ e => ep_str e, fun G H b vs hi Q k => ⟨G, b, hi, k⟩⟩
theorem f_reprR {t b' : Int} {i : Str} (hs : PySem.W.findIn X.K (.ref C) "__repr__" = some (some (.ref f))) (D' : Df X.prog X.w X.K X.mg X.base C k f Rel) (hr : Room (k + 1) X.A) (hR : Rel [.rat t b'] (.str i)) :
    ∃ r, CallR X (.builtin "repr") r ∧ RnD C pt r [.rat t b'] (.str i) := ⟨fun vs H Q => ∃ G, Bef pt G H ∧ IsL C G vs [.rat t b'] ∧ ∀ w G2 H2, Aft pt G H G2 H2 → Is C G2 w (.str i) → Q w H2, fun pins s σ H vs us Q I r h => by
    obtain ⟨G, b, i1, q⟩ := h
    obtain ⟨v, rfl, h0⟩ := isl1 i1
    cases h0 with
    | rat h1 =>
      obtain ⟨u, rfl, ru⟩ := vals1 r
      cases ru
      obtain ⟨od, J⟩ := rat_inst I (b.sub _ _ h1)
      obtain ⟨m', Fm⟩ := I.fr
      refine PySem.W.repr_K (by show X.A.units + 1 < cLine; have := hr.units; omega) Fm I.ok.mod.kin J hs D'.fn ?_
      refine thn (run_dfin (vs := [V.ref _]) (Q := fun v H' => v = .str i ∧ Q v H') D' hr.in1 rfl I (.cons rfl .nil) hR b (.cons (.rat h1) .nil) fun v G2 H2 a2 i2 => by cases i2; exact ⟨rfl, q _ G2 H2 a2 (.str i)⟩) fun _ _ e => ep_str e, fun G H b vs hi Q k => ⟨G, b, hi, k⟩⟩

/-! f-strings -/
/-- {e}, e an int -/
theorem d_fmt {i : Int} (h : EvD C pt (wE X e) ρ (.int i)) (hb : Bd 1900 i) : EvD C pt (wE X (.FormattedValue e (-1) none pos)) ρ (.str (toString i)) := ofPE (pe_fmt (pe_w e)) fun σ G H en b Q k => h σ G H en b _ fun v G1 H1 a1 i1 => by
  cases i1
  exact .inr ⟨i, rfl, Nat.lt_of_lt_of_le (PySem.Flt.log2_lt_of (by decide) hb) (by decide), k _ G1 H1 a1 (.str _)⟩
/-- the parts, one behind the other -/
inductive Parts (C : Addr) (pt : Option Addr) (X : Cx) (ρ : Rho) : List Expr → List Str → Prop where
  | nil : Parts C pt X ρ [] []
  | cons {e : Expr} {es : List Expr} {i : Str} {is : List Str} (h : EvD C pt (wE X e) ρ (.str i)) (r : Parts C pt X ρ es is) : Parts C pt X ρ (e :: es) (i :: is)
def glue (acc : Str) : List Str → Str
  | [] => acc
  | i :: is => glue (acc ++ i) is
theorem Parts.pj {is : List Str} (h : Parts C pt X ρ es is) : PJ X es (es.map (wE X)) := by
  induction h with
  | nil => exact .nil
  | cons h r ih => exact .cons (pe_w _) ih
theorem Parts.run {is : List Str} (h : Parts C pt X ρ es is) : ∀ (acc : Str) (σ : L2.St) (G H : Hp), EnvOk C G σ ρ → Bef pt G H → acc.length + (is.map Str.length).sum ≤ 100000 → ∀ Q : Str → Hp → Prop, (∀ G2 H2, Aft pt G H G2 H2 → Q (glue acc is) H2) → tJs (es.map (wE X)) acc σ H Q := by
  induction h with
  | nil => exact fun acc σ G H en b _ Q k => k G H (Aft.refl b)
  | @cons e es i is h r ih =>
    intro acc σ G H en b hz Q k
    refine h σ G H en b _ fun v G1 H1 a1 i1 => ?_
    cases i1
    have hl : (acc ++ i).length = acc.length + i.length := Str.length_append acc i
    rw [List.map_cons, List.sum_cons] at hz
    refine ⟨i, rfl, by rw [hl, sizeLine_eq]; omega, ih (acc ++ i) σ G1 H1 (en.mono a1.g) (a1.bef b) (by rw [hl]; omega) Q fun G2 H2 a2 => k G2 H2 (a1.trans b a2)⟩
theorem d_fstr {v1 v2 : Expr} {is : List Str} (h : Parts C pt X ρ (v1 :: v2 :: es) is) (hz : (is.map Str.length).sum ≤ 100000) : EvD C pt (wE X (.JoinedStr (v1 :: v2 :: es) pos)) ρ (.str (glue Str.empty is)) :=
  ofPE (pe_joined h.pj) fun σ G H en b Q k => h.run Str.empty σ G H en b (by show 0 + _ ≤ _; omega) _ fun G2 H2 a => k _ G2 H2 a (.str _)

/-- for x in a tuple -/
theorem s_forT {p : Pos} (i : Nat) (I : Nat → Rho → Prop) (hc : X.calm = true) (hN : X.N.Nodup) (hi : X.N[i]? = some n) (hx : Loc X.env.scope n) (hp : PassesOwn (model X.prog X.w) X.A X.env X.xe) (h : EvD C pt (wE X it) ρ (.tup ds)) (h0 : I 0 ρ)
    (hs : ∀ j d ρ', ds[j]? = some d → I j ρ' → RunP C pt X body (ρ'.set i (some d)) (fun o => match o with | .ret d => P (.ret d) | .fall ρ2 => I (j + 1) ρ2)) (hd : ∀ ρ', I ds.length ρ' → RunP C pt X rest ρ' P)
    (hf : X.fn n = true ∨ X.env.scope.names.lookup n = some .local := by first | exact .inl rfl | exact .inr rfl | assumption) (hs' : ∀ x, foldedSetIterable it X.env x = pure x := by intro _; rfl) : RunP C pt X (.For (.Name n p) it body [] pos :: rest) ρ P :=
  s_of (ps_for hp hc (pi_tup (pe_w it)) (pg_name hN hi hx hf) (ps_w body) hs') fun σ G H en b E k1 k2 => h σ G H en b _ fun v G1 H1 a1 i1 => by
    cases i1 with
    | @tup a vs _ h1 r1 =>
      refine ⟨_, rfl, ⟨_, SqT.of (a1.sub _ _ h1)⟩, for_tup (K := X.K) (a := a) (xs := vs) (fun j σ' H' => ∃ G' ρ', Aft pt G H G' H' ∧ Same G1 G' ∧ EnvOk C G' σ' ρ' ∧ I j ρ') ⟨G1, ρ, a1, Same.refl _, en.mono a1.g, h0⟩ (fun j σ' H' _ q => ?_) (fun j w σ' H' hj q => ?_) (fun σ' H' q => ?_)⟩
      · obtain ⟨G', ρ', a', s', _, _⟩ := q
        exact SqT.of (a'.sub _ _ (s' _ _ h1))
      · obtain ⟨G', ρ', a', s', en', hI⟩ := q
        obtain ⟨d, hd1, hd2⟩ := r1.get hj
        refine hs j d ρ' hd1 hI (σ'.set i (some w)) G' H' (en'.set (hd2.mono s')) (a'.bef b) _ (fun d' v' G2 H2 p2 a2 i2 => k1 d' v' G2 H2 p2 (a'.trans b a2) i2) fun ρ2 σ2 G2 H2 p2 a2 e2 => ?_
        exact ⟨G2, ρ2, a'.trans b a2, s'.trans a2.g, e2, p2⟩
      · obtain ⟨G', ρ', a', s', en', hI⟩ := q
        exact k2 ρ' σ' G' H' (hd ρ' (by rw [r1.length] at hI; exact hI)) a' en'
end
end DL
end

section
set_option linter.all false
set_option maxRecDepth 100000
set_option maxHeartbeats 4000000
/-! The program's own defs: whole numbers, fractions. -/
namespace DL
open PySem PySem.Spec PyProof.Rows L2

/-! ### numbers in lowest terms -/
def gc (t b : Int) : Int := ((Nat.gcd t.natAbs b.natAbs : Nat) : Int)
def sg (t b : Int) : Int := if b < 0 then -gc t b else gc t b
def nT (t b : Int) : Int := t.fdiv (sg t b)
def nB (t b : Int) : Int := b.fdiv (sg t b)
theorem gc_pos {t b : Int} (h : b ≠ 0) : 0 < gc t b := by
  unfold gc
  have : 0 < Nat.gcd t.natAbs b.natAbs := Nat.gcd_pos_of_pos_right _ (Int.natAbs_pos.mpr h)
  omega
theorem sg_ne {t b : Int} (h : b ≠ 0) : sg t b ≠ 0 := by
  have := gc_pos (t := t) h
  unfold sg
  split <;> omega
theorem sg_abs (t b : Int) : (sg t b).natAbs = Nat.gcd t.natAbs b.natAbs := by
  unfold sg gc
  split <;> simp
theorem sg_bd {n : Nat} {t b : Int} (h : b ≠ 0) (hb : Bd n b) : Bd n (sg t b) := by
  unfold Bd
  rw [sg_abs]
  exact Nat.lt_of_le_of_lt (Nat.gcd_le_right _ (Int.natAbs_pos.mpr h)) hb

/-! ### names for what the top has -/
structure Gd (P : Program) (w : World) (K : PySem.W.Frag) (mg : Str → Option Value) (base : Heap) (C : Addr) (k : Nat) (n : Str) (Rel : List D → D → Prop) : Prop where
  ex : ∃ f, mg n = some (.ref f) ∧ Df P w K mg base C k f Rel
structure Md (P : Program) (w : World) (K : PySem.W.Frag) (mg : Str → Option Value) (base : Heap) (C : Addr) (k : Nat) (m : Str) (Rel : List D → D → Prop) : Prop where
  ex : ∃ f, PySem.W.findIn K (.ref C) m = some (some (.ref f)) ∧ Df P w K mg base C k f Rel
structure Pd (P : Program) (w : World) (K : PySem.W.Frag) (mg : Str → Option Value) (base : Heap) (C : Addr) (k : Nat) (m : Str) (Rel : List D → D → Prop) : Prop where
  ex : ∃ p f, PropOf K C m p f ∧ Df P w K mg base C k f Rel
/-- what __init__ promises -/
def spInit (C : Addr) : Sp := fun vs H Q _ => ∃ (a dx : Addr) (t b : Int), vs = [.ref a, .int t, .int b] ∧ b ≠ 0 ∧ Bd 6000 t ∧ Bd 6000 b ∧ H a = some (.ins C dx []) ∧
  ∀ H', (∀ c o, c ≠ a → H c = some o → H' c = some o) → H' a = some (.ins C dx (ratF (nT t b) (nB t b))) → Q .non H'
structure Ck (P : Program) (w : World) (K : PySem.W.Frag) (mg : Str → Option Value) (base : Heap) (C : Addr) (k : Nat) : Prop where
  ex : ∃ f fd, Mk K C f ∧ FnOk P w K mg base CX0 k f fd ["self", "top", "bottom"] (spInit C) ∧ Binds K fd ["self", "top", "bottom"] [] ∧ KB K fd ["self", "top", "bottom"] ["top", "bottom"]

section
variable {X : Cx} {C : Addr} {pt : Option Addr} {ρ : Rho} {k : Nat} {Rel : List D → D → Prop} {a b e o : Expr} {es : List Expr} {x y z d : D} {ds : List D} {pos p apos : Pos} {n m : Str} {rest : List Stmt} {P : Out → Prop}
theorem vr (i : Nat) (hN : X.N[i]? = some n := by rfl) (hv : Vis X.env.scope n := by first | exact Or.inl rfl | exact Or.inr (Or.inl rfl) | exact Or.inr (Or.inr rfl)) (h : ρ[i]? = some (some d) := by rfl) (hd : (n == ("__debug__" : Str)) = false := by decide) (hcd : (n == ("__classdict__" : Str)) = false := by decide) : EvD C pt (wE X (.Name n pos)) ρ d := d_var i hN hv h hd hcd
theorem s_br {c : Expr} {A : List Stmt} {k : Bool} (hc : EvT C pt (wT X c) ρ k) (ht : k = true → RunP C pt X A ρ (fun o => match o with | .ret d => P (.ret d) | .fall ρ' => RunP C pt X rest ρ' P)) (hf : k = false → RunP C pt X rest ρ P) : RunP C pt X (.If c A [] pos :: rest) ρ P := by
  cases k with
  | true => exact s_if hc (ht rfl)
  | false => exact s_skip hc (hf rfl)
theorem t_notT (h : EvT C pt (wT X e) ρ true) : EvT C pt (wT X (.UnaryOp .Not e pos)) ρ false := t_not h
theorem t_notF (h : EvT C pt (wT X e) ρ false) : EvT C pt (wT X (.UnaryOp .Not e pos)) ρ true := t_not h
theorem d_tp {j} (h : EvA C pt (wA X es) ρ ds) (hl : ds.length ≤ 100000 := by exact Nat.le_of_ble_eq_true rfl) : EvD C pt (wE X (.Tuple es j pos)) ρ (.tup ds) := d_tup h hl
theorem d_ls (h : EvA C pt (wA X es) ρ ds) (hl : ds.length ≤ 100000 := by exact Nat.le_of_ble_eq_true rfl) : EvD C pt (wE X (.List es pos)) ρ (.lst ds) := d_lst h hl
theorem d_callG (g : Gd X.prog X.w X.K X.mg X.base C k n Rel) (hr : Room k X.A) (ha : EvA C pt (wA X (e :: es)) ρ ds) (h : Rel ds z) (hg : Gl X n := by rfl)
    (hdb : (n == ("__debug__" : Str)) = false := by decide) (he : starEach (e :: es) X.env = (false, eval e X.env) :: starEach es X.env := by rfl) (hpl : (backTo pos (starEach es X.env)).any (·.1) = false := by rfl) : EvD C pt (wE X (.Call (.Name n p) (e :: es) [] pos)) ρ z :=
  let ⟨_, hm, D'⟩ := g.ex
  d_call D' hr hg hm ha h hdb he hpl
theorem d_propG {t b' : Int} (T : Rt X.K X.mg C) (g : Pd X.prog X.w X.K X.mg X.base C k m Rel) (hr : Room (k + 1) X.A) (h : EvD C pt (wE X o) ρ (.rat t b')) (hR : Rel [.rat t b'] z)
    (hab : attributeBase o m X.env (eval o X.env) = eval o X.env := by rfl) : EvD C pt (wE X (.Attribute o m pos)) ρ z :=
  let ⟨_, _, hp, D'⟩ := g.ex
  d_prop T hp D' hr h hR hab
/-- a new fraction: the fresh instance, then what __init__ makes of it -/
theorem make_aft {G H : Hp} {x dx : Addr} {t b' : Int} {H' : Hp} (b : Bef pt G H) (hx : H x = none) (hdx : H dx = none) (ne : dx ≠ x)
    (h1 : ∀ c o, c ≠ x → (upd (upd H dx (.own x)) x (.ins C dx [])) c = some o → H' c = some o) (h2 : H' x = some (.ins C dx (ratF t b'))) : Aft pt G H (upd G x (.ins C dx (ratF t b'))) H' := by
  have gx := b.free hx
  have k1 : ∀ c o, H c = some o → H' c = some o := fun c o e => h1 c o (ne_of_none e hx) (by rw [upd_ne (ne_of_none e hx), upd_ne (ne_of_none e hdx)]; exact e)
  refine ⟨same_upd gx, fun c o e => ?_, fun c o _ e => k1 c o e, fun c o e => ?_, fun q e => ?_⟩
  · by_cases z : c = x
    · subst z; rw [upd_same] at e; cases e; exact h2
    · rw [upd_ne z] at e; exact k1 c o (b.sub c o e)
  · by_cases z : c = x
    · subst z; exact .inr hx
    · rw [upd_ne z] at e; exact .inl e
  · obtain ⟨i, j, e1, r⟩ := (b.pot q e).2
    exact ⟨i, j, k1 _ _ e1, r⟩
theorem d_make {t b' : Int} (T : Rt X.K X.mg C) (c : Ck X.prog X.w X.K X.mg X.base C k) (hr : Room (k + 1) X.A) (ha : EvA C pt (wA X (e :: es)) ρ [.int t, .int b']) (h0 : b' ≠ 0) (ht : Bd 6000 t) (hb : Bd 6000 b') (hg : Gl X "Ratio" := by rfl)
    (he : starEach (e :: es) X.env = (false, eval e X.env) :: starEach es X.env := by rfl) (hpl : (backTo pos (starEach es X.env)).any (·.1) = false := by rfl) : EvD C pt (wE X (.Call (.Name "Ratio" p) (e :: es) [] pos)) ρ (.rat (nT t b') (nB t b')) := by
  obtain ⟨f, fd, M, F, hbd, _⟩ := c.ex
  refine ofPE (pe_make M F hr hg T.mgC hbd .nil (pass0 (X := X)) (pa_w _) (by decide) he hpl) fun σ G H en b Q k => ha σ G H en b _ fun vs G1 H1 a1 i1 x dx hx hdx ne => ?_
  obtain ⟨v, u, rfl, e1, e2⟩ := isl2 i1
  cases isI e1
  cases isI e2
  refine ⟨x, dx, t, b', rfl, h0, ht, hb, upd_same, fun H' h1 h2 => ⟨rfl, ?_⟩⟩
  exact k _ _ _ (a1.trans b (make_aft (a1.bef b) hx hdx ne h1 h2)) (.rat upd_same)
/-- Ratio(top = e, bottom = e') -/
theorem d_makeK {t b' : Int} {kws : List Keyword} (T : Rt X.K X.mg C) (c : Ck X.prog X.w X.K X.mg X.base C k) (hr : Room (k + 1) X.A) (ha : EvA C pt (wK X kws) ρ [.int t, .int b']) (h0 : b' ≠ 0) (ht : Bd 6000 t) (hb : Bd 6000 b')
    (hp : ∀ f fd g gV, Mk X.K C f → FnOk X.prog X.w X.K X.mg X.base CX0 k f fd ["self", "top", "bottom"] (spInit C) → KBn X.K fd ["self", "top", "bottom"] 1 ["top", "bottom"] g gV → PE X e (tMakeK C 0 2 (spInit C) gV E0 tNil (wK X kws))) : EvD C pt (wE X e) ρ (.rat (nT t b') (nB t b')) := by
  obtain ⟨f, fd, M, F, _, hkb⟩ := c.ex
  refine ofPE (hp f fd _ _ M F hkb) fun σ G H en b Q k => ?_
  refine ha σ G H en b _ fun vs G1 H1 a1 i1 => ?_
  obtain ⟨v, u, rfl, e1, e2⟩ := isl2 i1
  cases isI e1
  cases isI e2
  refine ⟨rfl, rfl, fun x dx hx hdx ne => ⟨x, dx, t, b', rfl, h0, ht, hb, upd_same, fun H' h1 h2 => ⟨rfl, ?_⟩⟩⟩
  exact k _ _ _ (a1.trans b (make_aft (a1.bef b) hx hdx ne h1 h2)) (.rat upd_same)
/-- the class called by a local name -/
theorem d_makeL {t b' : Int} (c : Ck X.prog X.w X.K X.mg X.base C k) (hr : Room (k + 1) X.A) (hv : EvD C pt (wE X (.Name n p)) ρ (.adr C)) (ha : EvA C pt (wA X (e :: es)) ρ [.int t, .int b']) (h0 : b' ≠ 0) (ht : Bd 6000 t) (hb : Bd 6000 b')
    (he : starEach (e :: es) X.env = (false, eval e X.env) :: starEach es X.env := by rfl) (hpl : (backTo pos (starEach es X.env)).any (·.1) = false := by rfl) : EvD C pt (wE X (.Call (.Name n p) (e :: es) [] pos)) ρ (.rat (nT t b') (nB t b')) := fun σ G H en b Q q pins s I => by
  obtain ⟨f, fd, M, F, hbd, _⟩ := c.ex
  refine wpAny_Call_Name_kw (thn (hv σ G H en b (fun v H1 => v = .ref C ∧ ∃ G1, Aft pt G H G1 H1) (fun v G1 H1 a1 i1 => by cases i1; exact ⟨rfl, G1, a1⟩) pins s I) fun u s1 ⟨v, H1, I1, r1, e1, G1, a1⟩ => ?_)
  subst e1
  obtain rfl : u = Value.ref C := r1
  refine PySem.W.callWith_K (h₀ := X.base) I.ok.mod.kin M.kp (thn (ha σ G1 H1 (en.mono a1.g) (a1.bef b) (fun vs H2 => ∃ G2, Aft pt G1 H1 G2 H2 ∧ IsL C G2 vs [.int t, .int b']) (fun vs G2 H2 a2 i2 => ⟨G2, a2, i2⟩) pos pins s1 I1) fun us s2 ⟨vs, H2, I2, r2, G2, a2, i2⟩ => ⟨I2.kIn, ?_⟩) he hpl
  have a02 := a1.trans b a2
  obtain ⟨v, u, rfl, e1, e2⟩ := isl2 i2
  cases isI e1
  cases isI e2
  refine run_make M F hr hbd .nil (pass0 (X := X)) I2 r2 fun x dx hx hdx ne => ⟨x, dx, t, b', rfl, h0, ht, hb, upd_same, fun H' h1 h2 => ⟨rfl, ?_⟩⟩
  exact q _ _ _ (a02.trans b (make_aft (a02.bef b) hx hdx ne h1 h2)) (.rat upd_same)
end

/-! ### the text by places -/
def top (i : Nat) : Stmt := PySem.Challenge.pw_rootsround_k11_ratios_reckoned.main.body.getD i (.Pass ⟨0, 0, 0, 0⟩)
abbrev sIsInt : Stmt := top 6
abbrev sIsCount : Stmt := top 7
abbrev sIsNum : Stmt := top 9
abbrev sHalves : Stmt := top 10
abbrev sR (j : Nat) : Stmt := inClass (top 11) j

section
variable {P : Program} {w : World} {K : PySem.W.Frag} {mg : Str → Option Value} {base : Heap} {C f : Addr} {fd : FuncData}
def isInt : D → Bool
  | .int _ => true | _ => false
def intB : D → Bool
  | .int _ => true | .bl _ => true | _ => false
theorem kit2 {a b : String} {r : Bool} (h : kitB a b = some r := by decide +kernel) : PySem.W.kitOne K (.type a) (.type b) = some r := kit_ty h
theorem scII : FnScope ["value"] ["value"] (defScope sIsInt) := ⟨rfl, rfl, rfl, by decide +kernel, rfl, by decide +kernel, by decide +kernel⟩
def RII : List D → D → Prop := fun ds z => ∃ d, ds = [d] ∧ hasTy d = true ∧ z = .bl (isInt d)
theorem ok_isInt (T : Rt K mg C) (zi : mg "isinstance" = none) (zt : mg "int" = none) (zb : mg "bool" = none) (F : Fun K "is_integer" "is_integer" sIsInt f fd) (hb : Binds K fd ["value"] []) (hf : PySem.W.isFn K (.ref f) = true) : Df P w K mg base C 1 f RII :=
  df_mk F scII hb hf (fun ds d h => by obtain ⟨_, rfl, _⟩ := h; rfl) fun cdv A outer s H E pt ds z hr h => by
    obtain ⟨d, rfl, hd, rfl⟩ := h
    have i1 : PySem.W.kitOne K (tyD C d) (.type "int") = some (intB d) := by
      cases d <;> first | exact kit2 (r := true) | exact kit2 (r := false) | exact T.kI | exact absurd hd (by simp [hasTy])
    have i2 : intB d = true → PySem.W.kitOne K (tyD C d) (.type "bool") = some (!isInt d) := fun q => by
      cases d <;> first | exact kit2 (r := true) | exact kit2 (r := false) | exact absurd q (by simp [intB])
    refine s_ret (d := .bl (intB d && !(!isInt d))) (d_and (d_callB call_isi rfl zi (by decide +kernel) (a_cons (vr 0) (a_cons (d_bltn rfl zt (by decide +kernel)) a_nil)) (f_isT T hd i1)) fun q => d_last (d_not (d_callB call_isi rfl zi (by decide +kernel) (a_cons (vr 0) (a_cons (d_bltn rfl zb (by decide +kernel)) a_nil)) (f_isT T hd (i2 q))))) ?_
    cases d <;> rfl
end
end DL
end

section
set_option linter.all false
set_option maxRecDepth 100000
set_option maxHeartbeats 4000000
namespace DL
open PySem PySem.Spec PyProof.Rows L2
section
variable {P : Program} {w : World} {K : PySem.W.Frag} {mg : Str → Option Value} {base : Heap} {C f : Addr} {fd : FuncData}
def isCnt : D → Bool
  | .int i => decide (0 ≤ i) | _ => false
def isRat : D → Bool
  | .rat _ _ => true | _ => false
def RIC : List D → D → Prop := fun ds z => ∃ d, ds = [d] ∧ hasTy d = true ∧ z = .bl (isCnt d)
def RIN : List D → D → Prop := fun ds z => ∃ d, ds = [d] ∧ hasTy d = true ∧ z = .bl (isRat d || isInt d)
theorem scIC : FnScope ["value"] ["value"] (defScope sIsCount) := ⟨rfl, rfl, rfl, by decide +kernel, rfl, by decide +kernel, by decide +kernel⟩
theorem ok_isCount (g : Gd P w K mg base C 1 "is_integer" RII) (F : Fun K "is_count" "is_count" sIsCount f fd) (hb : Binds K fd ["value"] []) (hf : PySem.W.isFn K (.ref f) = true) : Df P w K mg base C 2 f RIC :=
  df_mk F scIC hb hf (fun ds d h => by obtain ⟨_, rfl, _⟩ := h; rfl) fun cdv A outer s H E pt ds z hr h => by
    obtain ⟨d, rfl, hd, rfl⟩ := h
    refine s_ret (d := .bl (isInt d && isCnt d)) (d_and (d_callG g hr (a_cons (vr 0) a_nil) ⟨d, rfl, hd, rfl⟩) fun q => d_last ?_) ?_
    · cases d with
      | int i => exact d_cmpB o_ge (vr 0) d_int
      | _ => exact absurd q (by simp [isInt])
    · cases d <;> rfl
theorem kitC (T : Rt K mg C) {d : D} (hd : hasTy d = true) : PySem.W.kitOne K (tyD C d) (.ref C) = some (isRat d) := by
  cases d with
  | non => exact T.nC
  | bl b => exact T.bC
  | int i => exact T.iC
  | str x => exact T.sC
  | lst xs => exact T.lC
  | tup xs => exact T.tC
  | rat t b =>
    unfold PySem.W.kitOne
    rw [if_pos (by show (Value.ref C == Value.ref C) = true; simp)]
    rfl
  | adr a => exact absurd hd (by simp [hasTy])
  | ty n => exact absurd hd (by simp [hasTy])
theorem scIN : FnScope ["value"] ["value"] (defScope sIsNum) := ⟨rfl, rfl, rfl, by decide +kernel, rfl, by decide +kernel, by decide +kernel⟩
theorem ok_isNum (T : Rt K mg C) (zi : mg "isinstance" = none) (g : Gd P w K mg base C 1 "is_integer" RII) (F : Fun K "is_number" "is_number" sIsNum f fd) (hb : Binds K fd ["value"] []) (hf : PySem.W.isFn K (.ref f) = true) : Df P w K mg base C 2 f RIN :=
  df_mk F scIN hb hf (fun ds d h => by obtain ⟨_, rfl, _⟩ := h; rfl) fun cdv A outer s H E pt ds z hr h => by
    obtain ⟨d, rfl, hd, rfl⟩ := h
    exact s_ret (d := .bl (isRat d || isInt d)) (d_or (d_callB call_isi rfl zi (by decide +kernel) (a_cons (vr 0) (a_cons (d_glob rfl T.mgC) a_nil)) (f_isC T hd (kitC T hd))) fun q => d_last (d_callG g hr (a_cons (vr 0) a_nil) ⟨d, rfl, hd, rfl⟩)) rfl
/-- an operand's top and bottom -/
def opv : D → Int × Int
  | .rat t b => (t, b) | .int i => (i, 1) | _ => (0, 1)
def isNum : D → Prop
  | .rat _ _ => True | .int _ => True | _ => False
def RHalves : List D → D → Prop := fun ds z => ∃ d, ds = [d] ∧ isNum d ∧ z = .tup [.int (opv d).1, .int (opv d).2]
def RTop : List D → D → Prop := fun ds z => ∃ t b, ds = [.rat t b] ∧ z = .int t
def RBot : List D → D → Prop := fun ds z => ∃ t b, ds = [.rat t b] ∧ z = .int b
theorem scH : FnScope ["value"] ["value"] (defScope sHalves) := ⟨rfl, rfl, rfl, by decide +kernel, rfl, by decide +kernel, by decide +kernel⟩
theorem ok_halves (T : Rt K mg C) (zi : mg "isinstance" = none) (g : Gd P w K mg base C 1 "is_integer" RII) (pT : Pd P w K mg base C 1 "top" RTop) (pB : Pd P w K mg base C 1 "bottom" RBot) (F : Fun K "halves" "halves" sHalves f fd) (hb : Binds K fd ["value"] []) (hf : PySem.W.isFn K (.ref f) = true) : Df P w K mg base C 3 f RHalves :=
  df_mk F scH hb hf (fun ds d h => by obtain ⟨_, rfl, _⟩ := h; rfl) fun cdv A outer s H E pt ds z hr h => by
    obtain ⟨d, rfl, hn, rfl⟩ := h
    cases d with
    | rat t b =>
      exact s_into (t_val (d_callB call_isi rfl zi (by decide +kernel) (a_cons (vr 0) (a_cons (d_glob rfl T.mgC) a_nil)) (f_isC T rfl (kitC (d := .rat t b) T rfl)))) (s_ret (d_tp (a_cons (d_propG T pT hr (vr 0) ⟨t, b, rfl, rfl⟩) (a_cons (d_propG T pB hr (vr 0) ⟨t, b, rfl, rfl⟩) a_nil))) rfl)
    | int i =>
      refine s_skip (t_val (d_callB call_isi rfl zi (by decide +kernel) (a_cons (vr 0) (a_cons (d_glob rfl T.mgC) a_nil)) (f_isC T rfl (kitC (d := .int i) T rfl)))) ?_
      refine s_skip (t_notT (t_val (d_callG g (hr.mono (by decide)) (a_cons (vr 0) a_nil) ⟨.int i, rfl, rfl, rfl⟩))) ?_
      exact s_ret (d_tp (a_cons (vr 0) (a_cons d_int a_nil))) rfl
    | _ => exact hn.elim
theorem sc1 (j : Nat) (h : FnScope ["self"] ["self"] (defScope (sR j)) := by exact ⟨rfl, rfl, rfl, by decide +kernel, rfl, by decide +kernel, by decide +kernel⟩) : FnScope ["self"] ["self"] (defScope (sR j)) := h
theorem ok_top (T : Rt K mg C) (F : Fun K "top" "Ratio.top" (sR 1) f fd) (hb : Binds K fd ["self"] []) (hf : PySem.W.isFn K (.ref f) = true) : Df P w K mg base C 1 f RTop :=
  df_mk F (sc1 1) hb hf (fun ds d h => by obtain ⟨_, _, rfl, _⟩ := h; rfl) fun cdv A outer s H E pt ds z hr h => by
    obtain ⟨t, b, rfl, rfl⟩ := h
    exact s_ret (d_top T (vr 0)) rfl
theorem ok_bottom (T : Rt K mg C) (F : Fun K "bottom" "Ratio.bottom" (sR 2) f fd) (hb : Binds K fd ["self"] []) (hf : PySem.W.isFn K (.ref f) = true) : Df P w K mg base C 1 f RBot :=
  df_mk F (sc1 2) hb hf (fun ds d h => by obtain ⟨_, _, rfl, _⟩ := h; rfl) fun cdv A outer s H E pt ds z hr h => by
    obtain ⟨t, b, rfl, rfl⟩ := h
    exact s_ret (d_bot T (vr 0)) rfl
def sgnI (t : Int) : Int := if t < 0 then -1 else if 0 < t then 1 else 0
def RSign : List D → D → Prop := fun ds z => ∃ t b, ds = [.rat t b] ∧ z = .int (sgnI t)
def RWhole : List D → D → Prop := fun ds z => ∃ t b, ds = [.rat t b] ∧ z = .bl (decide (b = 1))
theorem ok_sign (T : Rt K mg C) (F : Fun K "sign" "Ratio.sign" (sR 3) f fd) (hb : Binds K fd ["self"] []) (hf : PySem.W.isFn K (.ref f) = true) : Df P w K mg base C 1 f RSign :=
  df_mk F (sc1 3) hb hf (fun ds d h => by obtain ⟨_, _, rfl, _⟩ := h; rfl) fun cdv A outer s H E pt ds z hr h => by
    obtain ⟨t, b, rfl, rfl⟩ := h
    refine s_br (t_cmpB o_lt (d_top T (vr 0)) d_int) (fun q => ?_) (fun q => ?_)
    · refine s_ret (d_un un_neg d_int u_neg) ?_
      show Out.ret _ = _
      unfold sgnI
      rw [if_pos (of_decide_eq_true q)]
    · refine s_ret (d_if (t_cmpB o_gt (d_top T (vr 0)) d_int) (x := .int (if 0 < t then 1 else 0)) (fun q => ?_) (fun q => ?_)) ?_
      · rw [if_pos (of_decide_eq_true q)]; exact d_int
      · rw [if_neg (of_decide_eq_false q)]; exact d_int
      · show Out.ret _ = _
        unfold sgnI
        rw [if_neg (of_decide_eq_false q)]
theorem ok_whole (T : Rt K mg C) (F : Fun K "is_whole" "Ratio.is_whole" (sR 4) f fd) (hb : Binds K fd ["self"] []) (hf : PySem.W.isFn K (.ref f) = true) : Df P w K mg base C 1 f RWhole :=
  df_mk F (sc1 4) hb hf (fun ds d h => by obtain ⟨_, _, rfl, _⟩ := h; rfl) fun cdv A outer s H E pt ds z hr h => by
    obtain ⟨t, b, rfl, rfl⟩ := h
    exact s_ret (d_cmpB o_eq (d_bot T (vr 0)) d_int) rfl
end
end DL
end

section
set_option linter.all false
set_option maxRecDepth 100000
set_option maxHeartbeats 4000000
set_option exponentiation.threshold 100
namespace DL
open PySem PySem.Spec PyProof.Rows L2
theorem bd_mono {n m : Nat} {i : Int} (h : Bd n i) (l : n ≤ m) : Bd m i := Nat.lt_of_lt_of_le h (Nat.pow_le_pow_right (by decide) l)
theorem bd_mul {n m : Nat} {i j : Int} (h : Bd n i) (h' : Bd m j) : Bd (n + m) (i * j) := wide_lt h h'
theorem bd_add {n : Nat} {i j : Int} (h : Bd n i) (h' : Bd n j) : Bd (n + 1) (i + j) := by
  unfold Bd at *
  rw [Nat.pow_succ]
  have := Int.natAbs_add_le i j
  omega
theorem bd_neg {n : Nat} {i : Int} (h : Bd n i) : Bd n (-i) := by
  unfold Bd at *
  rw [Int.natAbs_neg]
  exact h
theorem bd_sub {n : Nat} {i j : Int} (h : Bd n i) (h' : Bd n j) : Bd (n + 1) (i - j) := by
  rw [Int.sub_eq_add_neg]
  exact bd_add h (bd_neg h')
theorem bd_abs {n : Nat} {i : Int} (h : Bd n i) : Bd n (if i < 0 then -i else i) := by
  split
  · exact bd_neg h
  · exact h
section
variable {X : Cx} {st : Stmt} {rest : List Stmt} {E : Ends} {σ : L2.St} {H : Hp}
theorem w_cons {t : TS} (hp : PS X st t) (h : t { E with nx := wS X rest E } σ H) : wS X (st :: rest) E σ H := fun pins s I => (pss_cons hp (ps_w rest)).run pins s σ H E I h
theorem w_nil (h : E.nx σ H) : wS X [] E σ H := fun pins s I => pss_nil.run pins s σ H E I h
end
theorem use_ev {C : Addr} {pt : Option Addr} {te : TE} {ρ : Rho} {σ : L2.St} {G H : Hp} {Q : VK} (d : D) (en : EnvOk C G σ ρ) (b : Bef pt G H) (ev : EvD C pt te ρ d) (k : ∀ v G2 H2, Aft pt G H G2 H2 → Is C G2 v d → Q v H2) : te σ H Q := ev σ G H en b Q k
theorem use_t {C : Addr} {pt : Option Addr} {te : TT} {ρ : Rho} {σ : L2.St} {G H : Hp} {Q : Bool → Hp → Prop} (d : Bool) (en : EnvOk C G σ ρ) (b : Bef pt G H) (ev : EvT C pt te ρ d) (k : ∀ G2 H2, Aft pt G H G2 H2 → Q d H2) : te σ H Q := ev σ G H en b Q k
/-- all but the object at a -/
def hole (H : Hp) (a : Addr) : Hp := fun c => if c = a then none else H c
theorem hole_same (H : Hp) (a : Addr) : Same (hole H a) H := fun c o e => by
  unfold hole at e
  by_cases z : c = a
  · rw [if_pos z] at e; cases e
  · rw [if_neg z] at e; exact e
theorem hole_at (H : Hp) (a : Addr) : hole H a a = none := by unfold hole; rw [if_pos rfl]
theorem hole_ne {H : Hp} {a c : Addr} {o : HO} (z : c ≠ a) (h : H c = some o) : hole H a c = some o := by unfold hole; rw [if_neg z]; exact h
section
variable {P : Program} {w : World} {K : PySem.W.Frag} {mg : Str → Option Value} {base : Heap} {C f : Addr} {fd : FuncData}
theorem scInit : FnScope ["self", "top", "bottom", "shared"] ["self", "top", "bottom"] (defScope (sR 0)) := ⟨rfl, rfl, rfl, by decide +kernel, rfl, by decide +kernel, by decide +kernel⟩
theorem ok_init (T : Rt K mg C) (zg : mg "gcd" = some (.builtin "math.gcd")) (g : Gd P w K mg base C 1 "is_integer" RII) (F : FunD K "__init__" "Ratio.__init__" (defArgs (sR 0)) (defBody (sR 0)) (defScope (sR 0)) [.int 1] [] f fd) : FnOk P w K mg base CX0 2 f fd ["self", "top", "bottom"] (spInit C) := by
  refine F.ok scInit (fun vs H Q E h => ?_) (fun cdv A outer s H vs Q E hr h => ?_)
  · obtain ⟨a, dx, t, b, rfl, _⟩ := h
    rfl
  · obtain ⟨a, dx, t, b, rfl, h0, ht, hb, ha, k⟩ := h
    have b0 : Bef none (hole H a) H := ⟨hole_same H a, fun p e => nomatch e⟩
    have e0 : EnvOk C (hole H a) (L2.start ["self", "top", "bottom", "shared"] [.ref a, .int t, .int b]) (startD 4 [.adr a, .int t, .int b]) := EnvOk.start (N := ["self", "top", "bottom", "shared"]) (.cons (.adr a) (.cons (.int t) (.cons (.int b) .nil)))
    refine ⟨_, (ps_w (X := bx P w K mg base ["self", "top", "bottom", "shared"] "Ratio.__init__" (defScope (sR 0)) f cdv A outer s H E) _).nox, ?_⟩
    -- the two looks
    refine w_cons (ps_if (pt_w _) (ps_w _) (ps_w _)) ?_
    refine t_notT (t_val (d_callG g hr (a_cons (vr 1) a_nil) ⟨.int t, rfl, rfl, rfl⟩)) _ _ _ e0 b0 _ fun G1 H1 a1 => ?_
    refine w_nil ?_
    have b1 := a1.bef b0
    obtain ⟨ha1, hg1⟩ := a1.stays b0 (fun e => nomatch e) ha (hole_at H a)
    refine w_cons (ps_if (pt_w _) (ps_w _) (ps_w _)) ?_
    refine EvW.t (w_or (t_notT (t_val (d_callG g hr (a_cons (vr 2) a_nil) ⟨.int b, rfl, rfl, rfl⟩))) ⟨_, pw_or1 (pt_w _), fun _ => t_cmpB o_eq (vr 2) d_int⟩) _ _ _ (e0.mono a1.g) b1 _ fun G2 H2 a2 => ?_
    rw [decide_eq_false h0]
    refine w_nil ?_
    have a02 := a1.trans b0 a2
    have b2 := a02.bef b0
    -- shared
    refine w_cons (ps_set (i := 3) scInit.nd rfl (Or.inl rfl) (pe_w _)) ?_
    refine use_ev (.int (gc t b)) (e0.mono a02.g) b2 (d_callM cr_gcd rfl zg (a_cons (vr 1) (a_cons (vr 2) a_nil)) f_gcd) fun v3 G3 H3 a3 i3 => ?_
    have a03 := a02.trans b0 a3
    have b3 := a03.bef b0
    have e3 := ((e0.mono a02.g).mono a3.g).set (i := 3) i3
    -- its sign
    have fin : ∀ σ G4 H4, Aft none (hole H a) H G4 H4 → EnvOk C G4 σ ((startD 4 [.adr a, .int t, .int b]).set 3 (some (.int (sg t b)))) → wS (bx P w K mg base ["self", "top", "bottom", "shared"] "Ratio.__init__" (defScope (sR 0)) f cdv A outer s H E) ((defBody (sR 0)).drop 4) { nx := fun _ H' => Q .non H', rt := Q } σ H4 := fun σ G4 H4 a04 e4 => by
      have b4 := a04.bef b0
      obtain ⟨ha4, hg4⟩ := a04.stays b0 (fun e => nomatch e) ha (hole_at H a)
      have nz := sg_ne (t := t) h0
      have bz : Bd 8000 (sg t b) := bd_mono (sg_bd h0 hb) (by decide)
      refine w_cons (ps_fld (pe_w _) (pe_w _) rfl) ?_
      refine use_ev (.int (t.fdiv (sg t b))) e4 b4 (d_binB (o_fdiv nz bz) (vr 1) (vr 3)) fun v5 G5 H5 a5 i5 => ?_
      have a05 := a04.trans b0 a5
      refine use_ev (.adr a) (e4.mono a5.g) (a05.bef b0) (vr 0) fun v6 G6 H6 a6 i6 => ?_
      have a06 := a05.trans b0 a6
      obtain ⟨ha6, hg6⟩ := a06.stays b0 (fun e => nomatch e) ha (hole_at H a)
      cases i5
      cases i6
      refine ⟨a, C, dx, [], rfl, ha6, T.cl, T.nT, (by decide), ?_⟩
      have b7 : Bef none G6 (upd H6 a (.ins C dx (putF "_top" (.int (t.fdiv (sg t b))) []))) := ⟨fun c o e => by rw [upd_ne (ne_of_none e hg6)]; exact a06.sub c o e, fun p e => nomatch e⟩
      refine w_cons (ps_fld (pe_w _) (pe_w _) rfl) ?_
      refine use_ev (.int (b.fdiv (sg t b))) ((e4.mono a5.g).mono a6.g) b7 (d_binB (o_fdiv nz bz) (vr 2) (vr 3)) fun v8 G8 H8 a8 i8 => ?_
      refine use_ev (.adr a) (((e4.mono a5.g).mono a6.g).mono a8.g) (a8.bef b7) (vr 0) fun v9 G9 H9 a9 i9 => ?_
      have a79 := a8.trans b7 a9
      obtain ⟨ha9, hg9⟩ := a79.stays b7 (fun e => nomatch e) upd_same hg6
      cases i8
      cases i9
      refine ⟨a, C, dx, _, rfl, ha9, T.cl, T.nB, (by show (1 : Nat) < 1000; decide), ?_⟩
      refine w_nil ?_
      refine k _ (fun c o hc e => ?_) upd_same
      rw [upd_ne hc]
      refine a79.keep c o (fun z => nomatch z) ?_
      rw [upd_ne hc]
      exact a06.keep c o (fun z => nomatch z) e
    refine w_cons (ps_if (pt_w _) (ps_w _) (ps_w _)) ?_
    refine use_t (decide (b < 0)) e3 b3 (t_cmpB o_lt (vr 2) d_int) fun G4 H4 a4 => ?_
    have a04 := a03.trans b0 a4
    by_cases hn : b < 0
    · rw [decide_eq_true hn]
      refine w_cons (ps_set (i := 3) scInit.nd rfl (Or.inl rfl) (pe_w _)) ?_
      refine use_ev (.int (-gc t b)) (e3.mono a4.g) (a04.bef b0) (d_un un_neg (vr 3) u_neg) fun v5 G5 H5 a5 i5 => ?_
      refine w_nil ?_
      refine fin _ G5 H5 (a04.trans b0 a5) ?_
      have e5 := ((e3.mono a4.g).mono a5.g).set (i := 3) i5
      have es : sg t b = -gc t b := by unfold sg; rw [if_pos hn]
      rw [es]
      exact e5
    · rw [decide_eq_false hn]
      refine w_nil ?_
      refine fin _ G4 H4 a04 ?_
      have es : sg t b = gc t b := by unfold sg; rw [if_neg hn]
      rw [es]
      exact e3.mono a4.g
end
end DL
end

section
set_option linter.all false
set_option maxRecDepth 100000
set_option maxHeartbeats 4000000
set_option exponentiation.threshold 100
namespace DL
open PySem PySem.Spec PyProof.Rows L2
section
variable {P : Program} {w : World} {K : PySem.W.Frag} {mg : Str → Option Value} {base : Heap} {C f : Addr} {fd : FuncData}
/-- a fraction made of a top and a bottom -/
def mk (t b : Int) : D := .rat (nT t b) (nB t b)
/-- an operand that is let: a number, its bottom not 0, of at most n bits -/
def okv (n : Nat) (d : D) : Prop := isNum d ∧ (opv d).2 ≠ 0 ∧ Bd n (opv d).1 ∧ Bd n (opv d).2
def R2op (n : Nat) (g : Int × Int → Int × Int → D) : List D → D → Prop := fun ds z => ∃ t b y, ds = [.rat t b, y] ∧ okv n (.rat t b) ∧ okv n y ∧ z = g (t, b) (opv y)
abbrev gAdd (x y : Int × Int) : D := mk (x.1 * y.2 + y.1 * x.2) (x.2 * y.2)
abbrev gSub (x y : Int × Int) : D := mk (x.1 * y.2 - y.1 * x.2) (x.2 * y.2)
abbrev gMul (x y : Int × Int) : D := mk (x.1 * y.1) (x.2 * y.2)
theorem sc4 (j : Nat) (h : FnScope ["self", "other", "top", "bottom"] ["self", "other"] (defScope (sR j)) := by exact ⟨rfl, rfl, rfl, by decide +kernel, rfl, by decide +kernel, by decide +kernel⟩) : FnScope ["self", "other", "top", "bottom"] ["self", "other"] (defScope (sR j)) := h
theorem sc2 (j : Nat) (h : FnScope ["self", "other"] ["self", "other"] (defScope (sR j)) := by exact ⟨rfl, rfl, rfl, by decide +kernel, rfl, by decide +kernel, by decide +kernel⟩) : FnScope ["self", "other"] ["self", "other"] (defScope (sR j)) := h
theorem len2 {n : Nat} {g : Int × Int → Int × Int → D} (ds : List D) (d : D) (h : R2op n g ds d) : ds.length = 2 := by
  obtain ⟨_, _, _, rfl, _⟩ := h
  rfl
theorem ok_add (T : Rt K mg C) (gH : Gd P w K mg base C 3 "halves" RHalves) (c : Ck P w K mg base C 2) (F : Fun K "__add__" "Ratio.__add__" (sR 5) f fd) (hb : Binds K fd ["self", "other"] []) (hf : PySem.W.isFn K (.ref f) = true) : Df P w K mg base C 4 f (R2op 2000 gAdd) :=
  df_mk F (sc4 5) hb hf len2 fun cdv A outer s H E pt ds z hr h => by
    obtain ⟨t, b, y, rfl, ⟨_, h1, h2, h3⟩, ⟨hn, k1, k2, k3⟩, rfl⟩ := h
    refine s_tup2 2 3 rfl (sc4 5).nd rfl rfl (.inl rfl) (.inl rfl) (d_callG gH hr (a_cons (vr 1) a_nil) ⟨y, rfl, hn, rfl⟩) ?_
    exact s_ret (d_make T c hr (a_cons (d_binB o_add (d_binB (o_mul h2 k3 (by decide)) (d_top T (vr 0)) (vr 3)) (d_binB (o_mul k2 h3 (by decide)) (vr 2) (d_bot T (vr 0)))) (a_cons (d_binB (o_mul h3 k3 (by decide)) (d_bot T (vr 0)) (vr 3)) a_nil)) (Int.mul_ne_zero h1 k1) (bd_mono (bd_add (bd_mul h2 k3) (bd_mul k2 h3)) (by decide)) (bd_mono (bd_mul h3 k3) (by decide))) rfl
theorem ok_sub (T : Rt K mg C) (gH : Gd P w K mg base C 3 "halves" RHalves) (c : Ck P w K mg base C 2) (F : Fun K "__sub__" "Ratio.__sub__" (sR 7) f fd) (hb : Binds K fd ["self", "other"] []) (hf : PySem.W.isFn K (.ref f) = true) : Df P w K mg base C 4 f (R2op 2000 gSub) :=
  df_mk F (sc4 7) hb hf len2 fun cdv A outer s H E pt ds z hr h => by
    obtain ⟨t, b, y, rfl, ⟨_, h1, h2, h3⟩, ⟨hn, k1, k2, k3⟩, rfl⟩ := h
    refine s_tup2 2 3 rfl (sc4 7).nd rfl rfl (.inl rfl) (.inl rfl) (d_callG gH hr (a_cons (vr 1) a_nil) ⟨y, rfl, hn, rfl⟩) ?_
    exact s_ret (d_make T c hr (a_cons (d_binB o_sub (d_binB (o_mul h2 k3 (by decide)) (d_top T (vr 0)) (vr 3)) (d_binB (o_mul k2 h3 (by decide)) (vr 2) (d_bot T (vr 0)))) (a_cons (d_binB (o_mul h3 k3 (by decide)) (d_bot T (vr 0)) (vr 3)) a_nil)) (Int.mul_ne_zero h1 k1) (bd_mono (bd_sub (bd_mul h2 k3) (bd_mul k2 h3)) (by decide)) (bd_mono (bd_mul h3 k3) (by decide))) rfl
theorem ok_mul (T : Rt K mg C) (gH : Gd P w K mg base C 3 "halves" RHalves) (c : Ck P w K mg base C 2) (F : Fun K "__mul__" "Ratio.__mul__" (sR 9) f fd) (hb : Binds K fd ["self", "other"] []) (hf : PySem.W.isFn K (.ref f) = true) : Df P w K mg base C 4 f (R2op 2000 gMul) :=
  df_mk F (sc4 9) hb hf len2 fun cdv A outer s H E pt ds z hr h => by
    obtain ⟨t, b, y, rfl, ⟨_, h1, h2, h3⟩, ⟨hn, k1, k2, k3⟩, rfl⟩ := h
    refine s_tup2 2 3 rfl (sc4 9).nd rfl rfl (.inl rfl) (.inl rfl) (d_callG gH hr (a_cons (vr 1) a_nil) ⟨y, rfl, hn, rfl⟩) ?_
    exact s_ret (d_make T c hr (a_cons (d_binB (o_mul h2 k2 (by decide)) (d_top T (vr 0)) (vr 2)) (a_cons (d_binB (o_mul h3 k3 (by decide)) (d_bot T (vr 0)) (vr 3)) a_nil)) (Int.mul_ne_zero h1 k1) (bd_mono (bd_mul h2 k2) (by decide)) (bd_mono (bd_mul h3 k3) (by decide))) rfl
def RNeg : List D → D → Prop := fun ds z => ∃ t b, ds = [.rat t b] ∧ okv 2000 (.rat t b) ∧ z = mk (-t) b
theorem ok_neg (T : Rt K mg C) (c : Ck P w K mg base C 2) (F : Fun K "__neg__" "Ratio.__neg__" (sR 11) f fd) (hb : Binds K fd ["self"] []) (hf : PySem.W.isFn K (.ref f) = true) : Df P w K mg base C 4 f RNeg :=
  df_mk F (sc1 11) hb hf (fun ds d h => by obtain ⟨_, _, rfl, _⟩ := h; rfl) fun cdv A outer s H E pt ds z hr h => by
    obtain ⟨t, b, rfl, ⟨_, h1, h2, h3⟩, rfl⟩ := h
    exact s_ret (d_make T c hr (a_cons (d_un un_neg (d_top T (vr 0)) u_neg) (a_cons (d_bot T (vr 0)) a_nil)) h1 (bd_mono (bd_neg h2) (by decide)) (bd_mono h3 (by decide))) rfl
def RSize : List D → D → Prop := fun ds z => ∃ t b, ds = [.rat t b] ∧ okv 2000 (.rat t b) ∧ z = mk (if t < 0 then -t else t) b
theorem ok_size (T : Rt K mg C) (za : mg "abs" = none) (c : Ck P w K mg base C 2) (F : Fun K "size" "Ratio.size" (sR 13) f fd) (hb : Binds K fd ["self"] []) (hf : PySem.W.isFn K (.ref f) = true) : Df P w K mg base C 4 f RSize :=
  df_mk F (sc1 13) hb hf (fun ds d h => by obtain ⟨_, _, rfl, _⟩ := h; rfl) fun cdv A outer s H E pt ds z hr h => by
    obtain ⟨t, b, rfl, ⟨_, h1, h2, h3⟩, rfl⟩ := h
    exact s_ret (d_make T c hr (a_cons (d_callB call_abs rfl za (by decide +kernel) (a_cons (d_top T (vr 0)) a_nil) f_abs) (a_cons (d_bot T (vr 0)) a_nil)) h1 (bd_mono (bd_abs h2) (by decide)) (bd_mono h3 (by decide))) rfl
def ROver : List D → D → Prop := fun ds z => ∃ t b y, ds = [.rat t b, y] ∧ okv 2000 (.rat t b) ∧ okv 2000 y ∧ (opv y).1 ≠ 0 ∧ z = mk (t * (opv y).2) (b * (opv y).1)
theorem fn_over (T : Rt K mg C) (gH : Gd P w K mg base C 3 "halves" RHalves) (c : Ck P w K mg base C 2) (F : Fun K "over" "Ratio.over" (sR 12) f fd) : FnOk P w K mg base CX0 4 f fd ["self", "other"] (Ct C ROver) :=
  df_fn F (sc4 12) (fun ds d h => by obtain ⟨_, _, _, rfl, _⟩ := h; rfl) fun cdv A outer s H E pt ds z hr h => by
    obtain ⟨t, b, y, rfl, ⟨_, h1, h2, h3⟩, ⟨hn, k1, k2, k3⟩, k0, rfl⟩ := h
    refine s_tup2 2 3 rfl (sc4 12).nd rfl rfl (.inl rfl) (.inl rfl) (d_callG gH hr (a_cons (vr 1) a_nil) ⟨y, rfl, hn, rfl⟩) ?_
    refine s_br (t_cmpB o_eq (vr 2) d_int) (fun q => absurd (of_decide_eq_true q) k0) (fun _ => ?_)
    exact s_ret (d_make T c hr (a_cons (d_binB (o_mul h2 k3 (by decide)) (d_top T (vr 0)) (vr 3)) (a_cons (d_binB (o_mul h3 k2 (by decide)) (d_bot T (vr 0)) (vr 2)) a_nil)) (Int.mul_ne_zero h1 k0) (bd_mono (bd_mul h2 k3) (by decide)) (bd_mono (bd_mul h3 k2) (by decide))) rfl
theorem ok_over (T : Rt K mg C) (gH : Gd P w K mg base C 3 "halves" RHalves) (c : Ck P w K mg base C 2) (F : Fun K "over" "Ratio.over" (sR 12) f fd) (hb : Binds K fd ["self", "other"] []) (hf : PySem.W.isFn K (.ref f) = true) : Df P w K mg base C 4 f ROver := ⟨⟨fd, _, fn_over T gH c F, hb⟩, F.kp, hf⟩
abbrev gBelow (x y : Int × Int) : D := .bl (decide (x.1 * y.2 < y.1 * x.2))
abbrev gAtMost (x y : Int × Int) : D := .bl (decide (x.1 * y.2 ≤ y.1 * x.2))
theorem ok_below (T : Rt K mg C) (gH : Gd P w K mg base C 3 "halves" RHalves) (F : Fun K "is_below" "Ratio.is_below" (sR 14) f fd) (hb : Binds K fd ["self", "other"] []) (hf : PySem.W.isFn K (.ref f) = true) : Df P w K mg base C 4 f (R2op 2000 gBelow) :=
  df_mk F (sc4 14) hb hf len2 fun cdv A outer s H E pt ds z hr h => by
    obtain ⟨t, b, y, rfl, ⟨_, h1, h2, h3⟩, ⟨hn, k1, k2, k3⟩, rfl⟩ := h
    refine s_tup2 2 3 rfl (sc4 14).nd rfl rfl (.inl rfl) (.inl rfl) (d_callG gH hr (a_cons (vr 1) a_nil) ⟨y, rfl, hn, rfl⟩) ?_
    exact s_ret (d_cmpB o_lt (d_binB (o_mul h2 k3 (by decide)) (d_top T (vr 0)) (vr 3)) (d_binB (o_mul k2 h3 (by decide)) (vr 2) (d_bot T (vr 0)))) rfl
theorem ok_atmost (T : Rt K mg C) (gH : Gd P w K mg base C 3 "halves" RHalves) (F : Fun K "is_at_most" "Ratio.is_at_most" (sR 15) f fd) (hb : Binds K fd ["self", "other"] []) (hf : PySem.W.isFn K (.ref f) = true) : Df P w K mg base C 4 f (R2op 2000 gAtMost) :=
  df_mk F (sc4 15) hb hf len2 fun cdv A outer s H E pt ds z hr h => by
    obtain ⟨t, b, y, rfl, ⟨_, h1, h2, h3⟩, ⟨hn, k1, k2, k3⟩, rfl⟩ := h
    refine s_tup2 2 3 rfl (sc4 15).nd rfl rfl (.inl rfl) (.inl rfl) (d_callG gH hr (a_cons (vr 1) a_nil) ⟨y, rfl, hn, rfl⟩) ?_
    exact s_ret (d_cmpB o_le (d_binB (o_mul h2 k3 (by decide)) (d_top T (vr 0)) (vr 3)) (d_binB (o_mul k2 h3 (by decide)) (vr 2) (d_bot T (vr 0)))) rfl
def REq : List D → D → Prop := fun ds z => ∃ t b y, ds = [.rat t b, y] ∧ hasTy y = true ∧ z = .bl (match y with | .rat t2 b2 => decide (t = t2) && decide (b = b2) | _ => false)
theorem ok_eq (T : Rt K mg C) (zi : mg "isinstance" = none) (F : Fun K "__eq__" "Ratio.__eq__" (sR 17) f fd) (hb : Binds K fd ["self", "other"] []) (hf : PySem.W.isFn K (.ref f) = true) : Df P w K mg base C 1 f REq :=
  df_mk F (sc2 17) hb hf (fun ds d h => by obtain ⟨_, _, _, rfl, _⟩ := h; rfl) fun cdv A outer s H E pt ds z hr h => by
    obtain ⟨t, b, y, rfl, hy, rfl⟩ := h
    have q0 := kitC T hy
    cases y with
    | rat t2 b2 =>
      refine s_ret (d := .bl (true && (decide (t = t2) && decide (b = b2)))) (d_and (d_callB call_isi rfl zi (by decide +kernel) (a_cons (vr 1) (a_cons (d_glob rfl T.mgC) a_nil)) (f_isC T hy q0)) fun _ => d_and (d_cmpB o_eq (d_top T (vr 0)) (d_top T (vr 1))) fun _ => d_last (d_cmpB o_eq (d_bot T (vr 0)) (d_bot T (vr 1)))) ?_
      rw [Bool.true_and]
    | _ => exact s_ret (d := .bl (false && false)) (d_and (d_callB call_isi rfl zi (by decide +kernel) (a_cons (vr 1) (a_cons (d_glob rfl T.mgC) a_nil)) (f_isC T hy q0)) fun q => nomatch q) rfl
end
end DL
end

section
set_option linter.all false
set_option maxRecDepth 100000
set_option maxHeartbeats 4000000
set_option exponentiation.threshold 100
namespace DL
open PySem PySem.Spec PyProof.Rows L2
/-- what int and the class have under an operator's names -/
structure OpI (K : PySem.W.Frag) (C : Addr) (op : Operator) : Prop where
  r : ∃ g, PySem.W.findIn K (.ref C) (PySem.dunderR op.info.2) = some (some (.ref g))
  f : ∃ fo, PySem.W.findIn K (.type "int") (PySem.dunder op.info.2) = some fo
  g : ∃ ro, PySem.W.findIn K (.type "int") (PySem.dunderR op.info.2) = some ro
section
variable {X : Cx} {C : Addr} {pt : Option Addr} {k : Nat} {Rel : List D → D → Prop} {z : D}
theorem op_riG {op : Operator} {t b' j : Int} (T : Rt X.K X.mg C) (i : OpI X.K C op) (m : Md X.prog X.w X.K X.mg X.base C k (PySem.dunder op.info.2) Rel) (hr : Room k X.A) (hR : Rel [.rat t b', .int j] z) : OpB X C pt (binaryOp op) (.rat t b') (.int j) z :=
  let ⟨_, hs, D'⟩ := m.ex
  let ⟨_, h2⟩ := i.r
  let ⟨_, h3⟩ := i.f
  let ⟨_, h4⟩ := i.g
  op_ri T hs h2 h3 h4 D' hr hR
theorem op_rrG {op : Operator} {t b' t2 b2 : Int} (T : Rt X.K X.mg C) (m : Md X.prog X.w X.K X.mg X.base C k (PySem.dunder op.info.2) Rel) (hr : Room k X.A) (hR : Rel [.rat t b', .rat t2 b2] z) : OpB X C pt (binaryOp op) (.rat t b') (.rat t2 b2) z :=
  let ⟨_, hs, D'⟩ := m.ex
  op_rr T hs D' hr hR
theorem op_irG {op : Operator} {t b' j : Int} {idl : String} {kf : Int → Int → Sem PySem.Fin} {Rel' : List D → D → Prop} {k' : Nat} (T : Rt X.K X.mg C) (m : Md X.prog X.w X.K X.mg X.base C k' (PySem.dunder op.info.2) Rel') (m2 : Md X.prog X.w X.K X.mg X.base C k (PySem.dunderR op.info.2) Rel)
    (hfi : fillsNumberSlot (.type "int") op.info.2 = pure true) (slot : Slot "int" (PySem.dunder op.info.2) idl) (entry : entryFor table idl = some (Builtin.Int.intBinary (PySem.dunder op.info.2).toString kf false)) (args : ∀ a b, argsOk idl ⟨[a, b], []⟩) (hr : Room k X.A) (hR : Rel [.rat t b', .int j] z) : OpB X C pt (binaryOp op) (.int j) (.rat t b') z :=
  let ⟨_, hs, _⟩ := m.ex
  let ⟨_, h2, D'⟩ := m2.ex
  op_ir T hs h2 hfi slot entry args D' hr hR
end
section
variable {P : Program} {w : World} {K : PySem.W.Frag} {mg : Str → Option Value} {base : Heap} {C f : Addr} {fd : FuncData}
def Rri (g : Int × Int → Int × Int → D) : List D → D → Prop := fun ds z => ∃ t b j, ds = [.rat t b, .int j] ∧ okv 2000 (.rat t b) ∧ Bd 2000 j ∧ z = g (t, b) (j, 1)
theorem okv_int {n : Nat} {j : Int} (hn : 0 < n) (h : Bd n j) : okv n (.int j) := ⟨trivial, (by show (1 : Int) ≠ 0; decide), h, by
  show (1 : Nat) < 2 ^ n
  exact Nat.one_lt_two_pow (by omega)⟩
theorem lenri {g : Int × Int → Int × Int → D} (ds : List D) (d : D) (h : Rri g ds d) : ds.length = 2 := by
  obtain ⟨_, _, _, rfl, _⟩ := h
  rfl
theorem ok_radd (T : Rt K mg C) (i : OpI K C .Add) (m : Md P w K mg base C 4 (PySem.dunder "add") (R2op 2000 gAdd)) (F : Fun K "__radd__" "Ratio.__radd__" (sR 6) f fd) (hb : Binds K fd ["self", "other"] []) (hf : PySem.W.isFn K (.ref f) = true) : Df P w K mg base C 5 f (Rri gAdd) :=
  df_mk F (sc2 6) hb hf lenri fun cdv A outer s H E pt ds z hr h => by
    obtain ⟨t, b, j, rfl, h1, h2, rfl⟩ := h
    exact s_ret (d_binB (op_riG T i m hr ⟨t, b, .int j, rfl, h1, okv_int (by decide) h2, rfl⟩) (vr 0) (vr 1)) rfl
theorem ok_rmul (T : Rt K mg C) (i : OpI K C .Mult) (m : Md P w K mg base C 4 (PySem.dunder "mul") (R2op 2000 gMul)) (F : Fun K "__rmul__" "Ratio.__rmul__" (sR 10) f fd) (hb : Binds K fd ["self", "other"] []) (hf : PySem.W.isFn K (.ref f) = true) : Df P w K mg base C 5 f (Rri gMul) :=
  df_mk F (sc2 10) hb hf lenri fun cdv A outer s H E pt ds z hr h => by
    obtain ⟨t, b, j, rfl, h1, h2, rfl⟩ := h
    exact s_ret (d_binB (op_riG T i m hr ⟨t, b, .int j, rfl, h1, okv_int (by decide) h2, rfl⟩) (vr 0) (vr 1)) rfl
abbrev gRsub (x y : Int × Int) : D := gAdd (nT (-x.1) x.2, nB (-x.1) x.2) y
theorem fdiv_le (a b : Int) : (a.fdiv b).natAbs ≤ a.natAbs + 1 := by
  have h := Int.natAbs_ediv_le_natAbs a b
  rw [Int.fdiv_eq_ediv]
  split <;> omega
theorem fdiv_dvd {a b : Int} (h : b ∣ a) : (a.fdiv b).natAbs ≤ a.natAbs := by
  rw [Int.fdiv_eq_ediv_of_dvd h]
  exact Int.natAbs_ediv_le_natAbs a b
theorem sg_dvd_t (t b : Int) : sg t b ∣ t := by
  rw [← Int.natAbs_dvd_natAbs, sg_abs]
  exact Nat.gcd_dvd_left _ _
theorem sg_dvd_b (t b : Int) : sg t b ∣ b := by
  rw [← Int.natAbs_dvd_natAbs, sg_abs]
  exact Nat.gcd_dvd_right _ _
theorem nT_bd {n : Nat} {t b : Int} (h : Bd n t) : Bd n (nT t b) := Nat.lt_of_le_of_lt (fdiv_dvd (sg_dvd_t t b)) h
theorem nB_bd {n : Nat} {t b : Int} (h : Bd n b) : Bd n (nB t b) := Nat.lt_of_le_of_lt (fdiv_dvd (sg_dvd_b t b)) h
theorem nB_pos {t b : Int} (h : b ≠ 0) : 0 < nB t b := by
  have h1 := sg_dvd_b t b
  have h2 := gc_pos (t := t) h
  have e : nB t b * sg t b = b := Int.fdiv_mul_cancel h1
  unfold sg at e
  by_cases hb : b < 0
  · rw [if_pos hb] at e
    have e2 : nB t b * gc t b = -b := by
      rw [Int.mul_neg] at e
      omega
    rcases Int.lt_trichotomy (nB t b) 0 with h' | h' | h'
    · have := Int.mul_neg_of_neg_of_pos h' h2
      omega
    · rw [h', Int.zero_mul] at e2
      omega
    · exact h'
  · rw [if_neg hb] at e
    rcases Int.lt_trichotomy (nB t b) 0 with h' | h' | h'
    · have := Int.mul_neg_of_neg_of_pos h' h2
      omega
    · rw [h', Int.zero_mul] at e
      omega
    · exact h'
theorem okv_mk {n : Nat} {t b : Int} (h0 : b ≠ 0) (ht : Bd n t) (hb : Bd n b) : okv n (.rat (nT t b) (nB t b)) := ⟨trivial, by have := nB_pos (t := t) h0; show nB t b ≠ 0; omega, nT_bd ht, nB_bd hb⟩
theorem ok_rsub (T : Rt K mg C) (i : OpI K C .Add) (m : Md P w K mg base C 4 (PySem.dunder "add") (R2op 2000 gAdd)) (mn : Md P w K mg base C 4 "__neg__" RNeg) (F : Fun K "__rsub__" "Ratio.__rsub__" (sR 8) f fd) (hb : Binds K fd ["self", "other"] []) (hf : PySem.W.isFn K (.ref f) = true) : Df P w K mg base C 5 f (Rri gRsub) :=
  df_mk F (sc2 8) hb hf lenri fun cdv A outer s H E pt ds z hr h => by
    obtain ⟨t, b, j, rfl, h1, h2, rfl⟩ := h
    obtain ⟨fn, hn, Dn⟩ := mn.ex
    obtain ⟨_, k1, k2, k3⟩ := id h1
    exact s_ret (d_binB (op_riG T i m hr ⟨_, _, .int j, rfl, okv_mk k1 (bd_neg k2) k3, okv_int (by decide) h2, rfl⟩) (d_negR T hn Dn hr (vr 0) ⟨t, b, rfl, h1, rfl⟩) (vr 1)) rfl
/-! texts -/
def shownS (t b : Int) : Str := if b = 1 then toString t else toString t ++ ("/" : Str) ++ toString b
def reprS (t b : Int) : Str := ("Ratio(" : Str) ++ toString t ++ (", " : Str) ++ toString b ++ (")" : Str)
def RShow (g : Int → Int → Str) : List D → D → Prop := fun ds z => ∃ t b, ds = [.rat t b] ∧ Bd 1900 t ∧ Bd 1900 b ∧ z = .str (g t b)
theorem lens {g : Int → Int → Str} (ds : List D) (d : D) (h : RShow g ds d) : ds.length = 1 := by
  obtain ⟨_, _, rfl, _⟩ := h
  rfl
theorem toStr_len {i : Int} (h : Bd 1900 i) : ((toString i : String) : Str).length ≤ 10000 := by
  have h1 := int_text_length_le (a := i) (k := 1920) (by decide) (Nat.lt_of_lt_of_le (PySem.Flt.log2_lt_of (by decide) h) (by decide))
  rw [PySem.ofString_length]
  omega
theorem ok_str (T : Rt K mg C) (zs : mg "str" = none) (F : Fun K "__str__" "Ratio.__str__" (sR 18) f fd) (hb : Binds K fd ["self"] []) (hf : PySem.W.isFn K (.ref f) = true) : Df P w K mg base C 1 f (RShow shownS) :=
  df_mk F (sc1 18) hb hf lens fun cdv A outer s H E pt ds z hr h => by
    obtain ⟨t, b, rfl, ht, hb', rfl⟩ := h
    refine s_br (t_cmpB o_eq (d_bot T (vr 0)) d_int) (fun q => ?_) (fun q => ?_)
    · refine s_ret (d_callTy call_str_int rfl zs (by decide +kernel) (a_cons (d_top T (vr 0)) a_nil) (f_str ht)) ?_
      show Out.ret _ = _
      unfold shownS
      rw [if_pos (of_decide_eq_true q)]
    · refine s_ret (d_fstr (.cons (d_fmt (d_top T (vr 0)) ht) (.cons d_str (.cons (d_fmt (d_bot T (vr 0)) hb') .nil))) ?_) ?_
      · have h1 := toStr_len ht
        have h2 := toStr_len hb'
        have h3 : ("/" : Str).length = 1 := by decide +kernel
        simp only [List.map_cons, List.map_nil, List.sum_cons, List.sum_nil]
        omega
      · show Out.ret _ = _
        unfold shownS
        rw [if_neg (of_decide_eq_false q)]
        unfold glue glue glue glue
        rw [Str.empty_append]
theorem ok_repr (T : Rt K mg C) (F : Fun K "__repr__" "Ratio.__repr__" (sR 19) f fd) (hb : Binds K fd ["self"] []) (hf : PySem.W.isFn K (.ref f) = true) : Df P w K mg base C 1 f (RShow reprS) :=
  df_mk F (sc1 19) hb hf lens fun cdv A outer s H E pt ds z hr h => by
    obtain ⟨t, b, rfl, ht, hb', rfl⟩ := h
    refine s_ret (d_fstr (.cons d_str (.cons (d_fmt (d_top T (vr 0)) ht) (.cons d_str (.cons (d_fmt (d_bot T (vr 0)) hb') (.cons d_str .nil))))) ?_) ?_
    · have h1 := toStr_len ht
      have h2 := toStr_len hb'
      have h3 : ("Ratio(" : Str).length = 6 := by decide +kernel
      have h4 : (", " : Str).length = 2 := by decide +kernel
      have h5 : (")" : Str).length = 1 := by decide +kernel
      simp only [List.map_cons, List.map_nil, List.sum_cons, List.sum_nil]
      omega
    · show Out.ret _ = _
      unfold reprS
      unfold glue glue glue glue glue glue
      rw [Str.empty_append]
end
end DL
end

section
set_option linter.all false
set_option maxRecDepth 100000
set_option maxHeartbeats 4000000
set_option exponentiation.threshold 100
namespace DL
open PySem PySem.Spec PyProof.Rows L2
def stAt (l : List Stmt) (i : Nat) : Stmt := l.getD i (.Pass ⟨0, 0, 0, 0⟩)
def loopBody : Stmt → List Stmt
  | .For _ _ b _ _ => b
  | .While _ b _ _ => b
  | _ => []
/-! ### sums of many -/
def lc (a b : Int) : Int := ((Nat.lcm a.natAbs b.natAbs : Nat) : Int)
def totStep (s u : Int × Int) : Int × Int := (s.1 * (lc s.2 u.2).fdiv s.2 + u.1 * (lc s.2 u.2).fdiv u.2, lc s.2 u.2)
def totF (ds : List D) : Int × Int := ds.foldl (fun s d => totStep s (opv d)) (0, 1)
theorem lc_ne {a b : Int} (ha : a ≠ 0) (hb : b ≠ 0) : lc a b ≠ 0 := by
  unfold lc
  have := Nat.lcm_pos (Int.natAbs_pos.mpr ha) (Int.natAbs_pos.mpr hb)
  omega
theorem lc_le (a b : Int) : (lc a b).natAbs ≤ a.natAbs * b.natAbs := by
  show Nat.lcm a.natAbs b.natAbs ≤ _
  unfold Nat.lcm
  exact Nat.div_le_self _ _
theorem lc_dvd1 (a b : Int) : a ∣ lc a b := Int.natAbs_dvd_natAbs.mp (Nat.dvd_lcm_left _ _)
theorem lc_dvd2 (a b : Int) : b ∣ lc a b := Int.natAbs_dvd_natAbs.mp (Nat.dvd_lcm_right _ _)
theorem lc_quot1 {a b : Int} (ha : a ≠ 0) : ((lc a b).fdiv a).natAbs ≤ b.natAbs := by
  have e := congrArg Int.natAbs (Int.fdiv_mul_cancel (lc_dvd1 a b))
  rw [Int.natAbs_mul] at e
  have l := lc_le a b
  rw [← e, Nat.mul_comm] at l
  exact Nat.le_of_mul_le_mul_left l (Int.natAbs_pos.mpr ha)
theorem lc_quot2 {a b : Int} (hb : b ≠ 0) : ((lc a b).fdiv b).natAbs ≤ a.natAbs := by
  have e := congrArg Int.natAbs (Int.fdiv_mul_cancel (lc_dvd2 a b))
  rw [Int.natAbs_mul] at e
  have l := lc_le a b
  rw [← e] at l
  exact Nat.le_of_mul_le_mul_right l (Int.natAbs_pos.mpr hb)
theorem bd_le {n : Nat} {i j : Int} (l : i.natAbs ≤ j.natAbs) (h : Bd n j) : Bd n i := Nat.lt_of_le_of_lt l h
/-- what holds behind j of them -/
structure TotOk (j : Nat) (s : Int × Int) : Prop where
  ne : s.2 ≠ 0
  t : Bd (301 * j + 1) s.1
  b : Bd (301 * j + 1) s.2
theorem totOk0 : TotOk 0 (0, 1) := ⟨by decide, by decide, by decide⟩
theorem totOk1 {j : Nat} {s : Int × Int} {d : D} (h : TotOk j s) (hd : okv 300 d) : TotOk (j + 1) (totStep s (opv d)) := by
  obtain ⟨hn, h1, h2, h3⟩ := hd
  refine ⟨lc_ne h.ne h1, ?_, ?_⟩
  · have q1 : Bd 300 ((lc s.2 (opv d).2).fdiv s.2) := bd_le (lc_quot1 h.ne) h3
    have q2 : Bd (301 * j + 1) ((lc s.2 (opv d).2).fdiv (opv d).2) := bd_le (lc_quot2 h1) h.b
    exact bd_mono (bd_add (bd_mul h.t q1) (bd_mono (bd_mul h2 q2) (by omega))) (by omega)
  · have := bd_mul h.b h3
    refine bd_mono (n := 301 * j + 1 + 300) ?_ (by omega)
    unfold Bd at this ⊢
    rw [Int.natAbs_mul] at this
    exact Nat.lt_of_le_of_lt (lc_le _ _) this
section
variable {P : Program} {w : World} {K : PySem.W.Frag} {mg : Str → Option Value} {base : Heap} {C f : Addr} {fd : FuncData}
def RTotal (C : Addr) : List D → D → Prop := fun ds z => ∃ xs ns, ds = [.adr C, xs] ∧ (xs = .lst ns ∨ xs = .tup ns) ∧ ns.length ≤ 12 ∧ (∀ d ∈ ns, okv 300 d) ∧ z = mk (totF ns).1 (totF ns).2
theorem scTot : FnScope ["cls", "numbers", "top", "bottom", "number", "upper", "lower", "shared"] ["cls", "numbers"] (defScope (sR 16)) := ⟨rfl, rfl, rfl, by decide +kernel, rfl, by decide +kernel, by decide +kernel⟩
/-- the frame behind j numbers -/
def TotI (C : Addr) (xs : D) (ns : List D) (j : Nat) (ρ : Rho) : Prop := ∃ a b c d s, s = (ns.take j).foldl (fun s d => totStep s (opv d)) (0, 1) ∧ TotOk j s ∧ ρ = [some (.adr C), some xs, some (.int s.1), some (.int s.2), a, b, c, d]
theorem fn_total (T : Rt K mg C) (zi : mg "isinstance" = none) (zl : mg "list" = none) (zt : mg "tuple" = none) (zm : mg "lcm" = some (.builtin "math.lcm")) (gH : Gd P w K mg base C 3 "halves" RHalves) (c : Ck P w K mg base C 2) (F : Fun K "total" "Ratio.total" (sR 16) f fd) : FnOk P w K mg base CX0 4 f fd ["cls", "numbers"] (Ct C (RTotal C)) :=
  df_fn F scTot (fun ds d h => by obtain ⟨_, _, rfl, _⟩ := h; rfl) fun cdv A outer s H E pt ds z hr h => by
    obtain ⟨xs, ns, rfl, hx, hl, hn, rfl⟩ := h
    have hty : hasTy xs = true := by rcases hx with rfl | rfl <;> rfl
    have hk : PySem.W.kitAny K (tyD C xs) [.type "list", .type "tuple"] = some true := by
      rcases hx with rfl | rfl
      · exact kitAny_cons (kit2 (a := "list") (b := "list") (r := true)) (fun q => nomatch q) fun _ => rfl
      · exact kitAny_cons (kit2 (a := "tuple") (b := "list") (r := false)) (fun _ => kitAny_cons (kit2 (a := "tuple") (b := "tuple") (r := true)) (fun q => nomatch q) fun _ => rfl) (fun q => nomatch q)
    refine s_skip (t_notT (t_val (d_callB call_isiT rfl zi (by decide +kernel) (a_cons (vr 1) (a_cons (d_tp (a_cons (d_bltn rfl zl (by decide +kernel)) (a_cons (d_bltn rfl zt (by decide +kernel)) a_nil))) a_nil)) (f_is2 T hty hk)))) ?_
    refine s_tup2 2 3 rfl scTot.nd rfl rfl (.inl rfl) (.inl rfl) (d_tp (a_cons d_int (a_cons d_int a_nil))) ?_
    have fin : ∀ ρ', TotI C xs ns ns.length ρ' → RunP C pt (bx P w K mg base ["cls", "numbers", "top", "bottom", "number", "upper", "lower", "shared"] "Ratio.total" (defScope (sR 16)) f cdv A outer s H E) ((defBody (sR 16)).drop 3) ρ' (fun o => o = .ret (mk (totF ns).1 (totF ns).2)) := fun ρ' h => by
      obtain ⟨a, b, c', d, s', hs, ho, rfl⟩ := h
      rw [List.take_length] at hs
      subst hs
      have e : 301 * ns.length + 1 ≤ 6000 := by omega
      exact s_ret (d_makeL c hr (vr 0) (a_cons (vr 2) (a_cons (vr 3) a_nil)) ho.ne (bd_mono ho.t e) (bd_mono ho.b e)) rfl
    have turn : ∀ j d ρ', ns[j]? = some d → TotI C xs ns j ρ' → RunP C pt (bx P w K mg base ["cls", "numbers", "top", "bottom", "number", "upper", "lower", "shared"] "Ratio.total" (defScope (sR 16)) f cdv A outer s H E) (loopBody (stAt (defBody (sR 16)) 2)) (ρ'.set 4 (some d)) (fun o => match o with | .ret d => Out.ret d = .ret (mk (totF ns).1 (totF ns).2) | .fall ρ2 => TotI C xs ns (j + 1) ρ2) := fun j d ρ' hj h => by
      obtain ⟨a, b, c', e, s', hs, ho, rfl⟩ := h
      obtain ⟨m1, m2, m3, m4⟩ := hn d (List.mem_of_getElem? hj)
      have hjl : j < ns.length := (List.getElem?_eq_some_iff.mp hj).1
      have B1 : Bd 8000 s'.2 := bd_mono ho.b (by omega)
      have B2 : Bd 8000 (opv d).2 := bd_mono m4 (by decide)
      refine s_tup2 5 6 rfl scTot.nd rfl rfl (.inl rfl) (.inl rfl) (d_callG gH (hr.mono (by decide)) (a_cons (vr 4) a_nil) ⟨d, rfl, m1, rfl⟩) ?_
      refine s_set 7 scTot.nd rfl (.inl rfl) (d_callM cr_lcm rfl zm (a_cons (vr 3) (a_cons (vr 6) a_nil)) (f_lcm B1 B2)) ?_
      have q1 : Bd 300 ((lc s'.2 (opv d).2).fdiv s'.2) := bd_le (lc_quot1 ho.ne) m4
      have q2 : Bd (301 * j + 1) ((lc s'.2 (opv d).2).fdiv (opv d).2) := bd_le (lc_quot2 m2) ho.b
      refine s_set 2 scTot.nd rfl (.inl rfl) (d_binB o_add (d_binB (o_mul ho.t q1 (by omega)) (vr 2) (d_binB (o_fdiv ho.ne B1) (vr 7) (vr 3))) (d_binB (o_mul m3 q2 (by omega)) (vr 5) (d_binB (o_fdiv m2 B2) (vr 7) (vr 6)))) ?_
      refine s_set 3 scTot.nd rfl (.inl rfl) (vr 7) (s_nil ?_)
      refine ⟨_, _, _, _, totStep s' (opv d), ?_, totOk1 ho (hn d (List.mem_of_getElem? hj)), rfl⟩
      rw [List.take_add_one, hj, List.foldl_append, ← hs]
      rfl
    have h0 : TotI C xs ns 0 (((startD 8 [.adr C, xs]).set 2 (some (.int 0))).set 3 (some (.int 1))) := ⟨none, none, none, none, (0, 1), rfl, totOk0, rfl⟩
    rcases hx with rfl | rfl
    · exact s_forL 4 (TotI C (.lst ns) ns) rfl scTot.nd rfl (.inl rfl) PassesOwn.never (vr 1) h0 turn fin
    · exact s_forT 4 (TotI C (.tup ns) ns) rfl scTot.nd rfl (.inl rfl) PassesOwn.never (vr 1) h0 turn fin
theorem ok_total (T : Rt K mg C) (zi : mg "isinstance" = none) (zl : mg "list" = none) (zt : mg "tuple" = none) (zm : mg "lcm" = some (.builtin "math.lcm")) (gH : Gd P w K mg base C 3 "halves" RHalves) (c : Ck P w K mg base C 2) (F : Fun K "total" "Ratio.total" (sR 16) f fd) (hb : Binds K fd ["cls", "numbers"] []) (hf : PySem.W.isFn K (.ref f) = true) : Df P w K mg base C 4 f (RTotal C) := ⟨⟨fd, _, fn_total T zi zl zt zm gH c F, hb⟩, F.kp, hf⟩
end
end DL
end

section
set_option linter.all false
set_option maxRecDepth 100000
set_option maxHeartbeats 4000000
set_option exponentiation.threshold 100
namespace DL
open PySem PySem.Spec PyProof.Rows L2
/-! ### the law's own reckoning -/
abbrev sLow : Stmt := top 16
abbrev sSum : Stmt := top 17
abbrev sBy : Stmt := top 18
abbrev sLess : Stmt := top 19
abbrev sOver : Stmt := top 20
abbrev sTot : Stmt := top 21
abbrev sPair : Stmt := top 22
abbrev sPairs : Stmt := top 23
abbrev sShown : Stmt := top 24
def pr (x : Int × Int) : D := .tup [.int x.1, .int x.2]
def rt (x : Int × Int) : D := .rat x.1 x.2
def nrm (t b : Int) : Int × Int := (nT t b, nB t b)
/-- a top and a bottom that is not 0, of at most n bits -/
def okp (n : Nat) (x : Int × Int) : Prop := x.2 ≠ 0 ∧ Bd n x.1 ∧ Bd n x.2
theorem nrm_ok {n : Nat} {t b : Int} (h : b ≠ 0) (ht : Bd n t) (hb : Bd n b) : okp n (nrm t b) := ⟨by have := nB_pos (t := t) h; show nB t b ≠ 0; omega, nT_bd ht, nB_bd hb⟩
section
variable {P : Program} {w : World} {K : PySem.W.Frag} {mg : Str → Option Value} {base : Heap} {C f : Addr} {fd : FuncData}
def RLow : List D → D → Prop := fun ds z => ∃ t b, ds = [.int t, .int b] ∧ b ≠ 0 ∧ Bd 7000 t ∧ Bd 7000 b ∧ z = pr (nrm t b)
theorem scLow : FnScope ["_law_top", "_law_bottom", "_law_one", "_law_other"] ["_law_top", "_law_bottom"] (defScope sLow) := ⟨rfl, rfl, rfl, by decide +kernel, rfl, by decide +kernel, by decide +kernel⟩
theorem abs_nat (i : Int) : (if i < 0 then -i else i) = ((i.natAbs : Nat) : Int) := by
  split <;> omega
theorem sg_posC {t b : Int} {x : Nat} (hg : x = Nat.gcd t.natAbs b.natAbs) (h : 0 < b) : sg t b = ((x : Nat) : Int) := by
  unfold sg gc
  rw [if_neg (by omega), ← hg]
theorem sg_negC {t b : Int} {x : Nat} (hg : x = Nat.gcd t.natAbs b.natAbs) (h0 : b ≠ 0) (h : ¬ 0 < b) : sg t b = 0 - ((x : Nat) : Int) := by
  unfold sg gc
  rw [if_pos (by omega), ← hg]
  omega
theorem ok_low (za : mg "abs" = none) (zi : mg "int" = none) (F : Fun K "_law_low" "_law_low" sLow f fd) (hb : Binds K fd ["_law_top", "_law_bottom"] []) (hf : PySem.W.isFn K (.ref f) = true) : Df P w K mg base C 1 f RLow :=
  df_mk F scLow hb hf (fun ds d h => by obtain ⟨_, _, rfl, _⟩ := h; rfl) fun cdv A outer s H E pt ds z hr h => by
    obtain ⟨t, b, rfl, h0, ht, hb', rfl⟩ := h
    refine s_par 2 3 rfl scLow.nd rfl rfl (by decide) rfl rfl (d_callB call_abs rfl za (by decide +kernel) (a_cons (vr 0) a_nil) f_abs) (d_callB call_abs rfl za (by decide +kernel) (a_cons (vr 1) a_nil) f_abs) ?_
    refine s_while (fun ρ => ∃ x y : Nat, ρ = [some (.int t), some (.int b), some (.int (x : Nat)), some (.int (y : Nat))] ∧ Nat.gcd x y = Nat.gcd t.natAbs b.natAbs) (fun ρ => match ρ with | [_, _, _, some (.int y)] => y.toNat | _ => 0) PassesOwn.never ⟨t.natAbs, b.natAbs, by rw [abs_nat, abs_nat]; rfl, rfl⟩ ?_
    rintro ρ' ⟨x, y, rfl, hg⟩
    refine ⟨decide (0 < (y : Int)), t_cmpB o_gt (vr 3) d_int, fun q => ?_, fun q => ?_⟩
    · have hy : 0 < (y : Int) := of_decide_eq_true q
      refine s_par 2 3 rfl scLow.nd rfl rfl (by decide) rfl rfl (vr 3) (d_binB (o_mod hy) (d_callTy call_int1 rfl zi (by decide +kernel) (a_cons (vr 2) a_nil) f_int) (vr 3)) (s_nil ?_)
      have e : ((x : Nat) : Int) % ((y : Nat) : Int) = ((x % y : Nat) : Int) := (Int.natCast_emod x y).symm
      refine ⟨⟨y, x % y, by rw [e]; rfl, ?_⟩, ?_⟩
      · rw [← hg, Nat.gcd_comm x y, Nat.gcd_rec y x, Nat.gcd_comm]
      · show (((x : Nat) : Int) % ((y : Nat) : Int)).toNat < ((y : Nat) : Int).toNat
        have := Int.emod_lt_of_pos (x : Int) hy
        have := Int.emod_nonneg (x : Int) (show (y : Int) ≠ 0 by omega)
        omega
    · have hy : y = 0 := by have := of_decide_eq_false q; omega
      subst hy
      rw [Nat.gcd_zero_right] at hg
      refine s_set 2 scLow.nd rfl (.inl rfl) (d := .int (sg t b)) (d_if (t_cmpB o_gt (vr 1) d_int) (fun q => ?_) (fun q => ?_)) ?_
      · rw [sg_posC hg (of_decide_eq_true q)]
        exact vr 2
      · rw [sg_negC hg h0 (of_decide_eq_false q)]
        exact d_binB o_sub d_int (vr 2)
      have nz := sg_ne (t := t) h0
      have bz : Bd 8000 (sg t b) := bd_mono (sg_bd h0 hb') (by decide)
      exact s_ret (d_tp (a_cons (d_binB (o_fdiv nz bz) (vr 0) (vr 2)) (a_cons (d_binB (o_fdiv nz bz) (vr 1) (vr 2)) a_nil))) rfl
/-- t[0], t[1] of a pair -/
theorem d_p0 {X : Cx} {pt : Option Addr} {ρ : Rho} {a : Expr} {x : Int × Int} {j : Nat} {p pos : Pos} (h : EvD C pt (wE X a) ρ (pr x)) : EvD C pt (wE X (.Subscript a (.Constant (.int 0) j p) pos)) ρ (.int x.1) := d_ix ix_tup h d_int (r_ixT rfl) fun _ _ => rfl
theorem d_p1 {X : Cx} {pt : Option Addr} {ρ : Rho} {a : Expr} {x : Int × Int} {j : Nat} {p pos : Pos} (h : EvD C pt (wE X a) ρ (pr x)) : EvD C pt (wE X (.Subscript a (.Constant (.int 1) j p) pos)) ρ (.int x.2) := d_ix ix_tup h d_int (r_ixT rfl) fun _ _ => rfl
abbrev pSum (x y : Int × Int) : Int × Int := nrm (x.1 * y.2 + y.1 * x.2) (x.2 * y.2)
abbrev pBy (x y : Int × Int) : Int × Int := nrm (x.1 * y.1) (x.2 * y.2)
abbrev pLess (x y : Int × Int) : Int × Int := pSum x (0 - y.1, y.2)
abbrev pOver (x y : Int × Int) : Int × Int := nrm (x.1 * y.2) (x.2 * y.1)
def RP2 (n : Nat) (g : Int × Int → Int × Int → Int × Int) : List D → D → Prop := fun ds z => ∃ x y, ds = [pr x, pr y] ∧ okp n x ∧ okp n y ∧ z = pr (g x y)
theorem lenP {n : Nat} {g : Int × Int → Int × Int → Int × Int} (ds : List D) (d : D) (h : RP2 n g ds d) : ds.length = 2 := by
  obtain ⟨_, _, rfl, _⟩ := h
  rfl
theorem scP2 (i : Nat) (h : FnScope ["_law_one", "_law_other"] ["_law_one", "_law_other"] (defScope (top i)) := by exact ⟨rfl, rfl, rfl, by decide +kernel, rfl, by decide +kernel, by decide +kernel⟩) : FnScope ["_law_one", "_law_other"] ["_law_one", "_law_other"] (defScope (top i)) := h
theorem ok_sum (g : Gd P w K mg base C 1 "_law_low" RLow) (F : Fun K "_law_sum" "_law_sum" sSum f fd) (hb : Binds K fd ["_law_one", "_law_other"] []) (hf : PySem.W.isFn K (.ref f) = true) : Df P w K mg base C 2 f (RP2 3000 pSum) :=
  df_mk F (scP2 17) hb hf lenP fun cdv A outer s H E pt ds z hr h => by
    obtain ⟨x, y, rfl, ⟨x0, x1, x2⟩, ⟨y0, y1, y2⟩, rfl⟩ := h
    exact s_ret (d_callG g hr (a_cons (d_binB o_add (d_binB (o_mul x1 y2 (by decide)) (d_p0 (vr 0)) (d_p1 (vr 1))) (d_binB (o_mul y1 x2 (by decide)) (d_p0 (vr 1)) (d_p1 (vr 0)))) (a_cons (d_binB (o_mul x2 y2 (by decide)) (d_p1 (vr 0)) (d_p1 (vr 1))) a_nil)) ⟨_, _, rfl, Int.mul_ne_zero x0 y0, bd_mono (bd_add (bd_mul x1 y2) (bd_mul y1 x2)) (by decide), bd_mono (bd_mul x2 y2) (by decide), rfl⟩) rfl
theorem ok_by (g : Gd P w K mg base C 1 "_law_low" RLow) (F : Fun K "_law_by" "_law_by" sBy f fd) (hb : Binds K fd ["_law_one", "_law_other"] []) (hf : PySem.W.isFn K (.ref f) = true) : Df P w K mg base C 2 f (RP2 3000 pBy) :=
  df_mk F (scP2 18) hb hf lenP fun cdv A outer s H E pt ds z hr h => by
    obtain ⟨x, y, rfl, ⟨x0, x1, x2⟩, ⟨y0, y1, y2⟩, rfl⟩ := h
    exact s_ret (d_callG g hr (a_cons (d_binB (o_mul x1 y1 (by decide)) (d_p0 (vr 0)) (d_p0 (vr 1))) (a_cons (d_binB (o_mul x2 y2 (by decide)) (d_p1 (vr 0)) (d_p1 (vr 1))) a_nil)) ⟨_, _, rfl, Int.mul_ne_zero x0 y0, bd_mono (bd_mul x1 y1) (by decide), bd_mono (bd_mul x2 y2) (by decide), rfl⟩) rfl
theorem okp_neg {n : Nat} {y : Int × Int} (h : okp n y) : okp n (0 - y.1, y.2) := ⟨h.1, by
  have e : (0 - y.1) = -y.1 := Int.zero_sub _
  show Bd n (0 - y.1)
  rw [e]
  exact bd_neg h.2.1, h.2.2⟩
theorem ok_less (g : Gd P w K mg base C 2 "_law_sum" (RP2 3000 pSum)) (F : Fun K "_law_less" "_law_less" sLess f fd) (hb : Binds K fd ["_law_one", "_law_other"] []) (hf : PySem.W.isFn K (.ref f) = true) : Df P w K mg base C 3 f (RP2 3000 pLess) :=
  df_mk F (scP2 19) hb hf lenP fun cdv A outer s H E pt ds z hr h => by
    obtain ⟨x, y, rfl, hx, hy, rfl⟩ := h
    exact s_ret (d_callG g hr (a_cons (vr 0) (a_cons (d_tp (a_cons (d_binB o_sub d_int (d_p0 (x := y) (vr 1))) (a_cons (d_p1 (x := y) (vr 1)) a_nil))) a_nil)) ⟨x, (0 - y.1, y.2), rfl, hx, okp_neg hy, rfl⟩) rfl
def ROverP : List D → D → Prop := fun ds z => ∃ x y, ds = [pr x, pr y] ∧ okp 3000 x ∧ okp 3000 y ∧ y.1 ≠ 0 ∧ z = pr (pOver x y)
theorem ok_overP (g : Gd P w K mg base C 1 "_law_low" RLow) (F : Fun K "_law_over" "_law_over" sOver f fd) (hb : Binds K fd ["_law_one", "_law_other"] []) (hf : PySem.W.isFn K (.ref f) = true) : Df P w K mg base C 2 f ROverP :=
  df_mk F (scP2 20) hb hf (fun ds d h => by obtain ⟨_, _, rfl, _⟩ := h; rfl) fun cdv A outer s H E pt ds z hr h => by
    obtain ⟨x, y, rfl, ⟨x0, x1, x2⟩, ⟨y0, y1, y2⟩, n1, rfl⟩ := h
    exact s_ret (d_callG g hr (a_cons (d_binB (o_mul x1 y2 (by decide)) (d_p0 (vr 0)) (d_p1 (vr 1))) (a_cons (d_binB (o_mul x2 y1 (by decide)) (d_p1 (vr 0)) (d_p0 (vr 1))) a_nil)) ⟨_, _, rfl, Int.mul_ne_zero x0 n1, bd_mono (bd_mul x1 y2) (by decide), bd_mono (bd_mul x2 y1) (by decide), rfl⟩) rfl
end
end DL
end

section
set_option linter.all false
set_option maxRecDepth 100000
set_option maxHeartbeats 4000000
set_option exponentiation.threshold 100
namespace DL
open PySem PySem.Spec PyProof.Rows L2
section
variable {P : Program} {w : World} {K : PySem.W.Frag} {mg : Str → Option Value} {base : Heap} {C f : Addr} {fd : FuncData}
theorem EvP.imp {te : TE} {pt : Option Addr} {ρ : Rho} {P Q : D → Prop} (h : EvP C pt te ρ P) (i : ∀ d, P d → Q d) : EvP C pt te ρ Q := fun σ G H en b q k => h σ G H en b q fun d v G2 H2 p a r => k d v G2 H2 (i d p) a r
theorem d_ifTP {X : Cx} {pt : Option Addr} {ρ : Rho} {t a b : Expr} {pos : Pos} {R : D → Prop} (hc : EvT C pt (wT X t) ρ true) (h : EvP C pt (wE X a) ρ R) : EvP C pt (wE X (.IfExp t a b pos)) ρ R :=
  ofPEP (pe_ifExp (pt_w t) (pe_w a) (pe_w b)) fun σ G H en b Q k => hc σ G H en b _ fun G2 H2 a2 => by
    rw [if_pos rfl]
    exact h σ G2 H2 (en.mono a2.g) (a2.bef b) Q fun d v G3 H3 p a3 i => k d v G3 H3 p (a2.trans b a3) i
/-! totals, pairs, texts -/
def totP (xs : List (Int × Int)) : Int × Int := xs.foldl pSum (0, 1)
def RTotP : List D → D → Prop := fun ds z => ∃ xs : List (Int × Int), ds = [.lst (xs.map pr)] ∧ xs.length ≤ 9 ∧ (∀ x ∈ xs, okp 300 x) ∧ z = pr (totP xs)
theorem scTP : FnScope ["_law_pairs_here", "_law_found", "_law_pair_here"] ["_law_pairs_here"] (defScope sTot) := ⟨rfl, rfl, rfl, by decide +kernel, rfl, by decide +kernel, by decide +kernel⟩
theorem okp_sum {j : Nat} {s x : Int × Int} (hs : okp (301 * j + 1) s) (hx : okp 300 x) : okp (301 * (j + 1) + 1) (pSum s x) := by
  obtain ⟨s0, s1, s2⟩ := hs
  obtain ⟨x0, x1, x2⟩ := hx
  exact nrm_ok (Int.mul_ne_zero s0 x0) (bd_mono (bd_add (bd_mul s1 x2) (bd_mono (bd_mul x1 s2) (by omega))) (by omega)) (bd_mono (bd_mul s2 x2) (by omega))
theorem ok_totP (g : Gd P w K mg base C 2 "_law_sum" (RP2 3000 pSum)) (F : Fun K "_law_total" "_law_total" sTot f fd) (hb : Binds K fd ["_law_pairs_here"] []) (hf : PySem.W.isFn K (.ref f) = true) : Df P w K mg base C 3 f RTotP :=
  df_mk F scTP hb hf (fun ds d h => by obtain ⟨_, rfl, _⟩ := h; rfl) fun cdv A outer s H E pt ds z hr h => by
    obtain ⟨xs, rfl, hl, hx, rfl⟩ := h
    refine s_set 1 scTP.nd rfl (.inl rfl) (d_tp (a_cons d_int (a_cons d_int a_nil))) ?_
    refine s_forL 2 (fun j ρ => ∃ a s, s = (xs.take j).foldl pSum (0, 1) ∧ okp (301 * j + 1) s ∧ ρ = [some (.lst (xs.map pr)), some (pr s), a]) rfl scTP.nd rfl (.inl rfl) PassesOwn.never (vr 0) ⟨none, (0, 1), rfl, ⟨by decide, by decide, by decide⟩, rfl⟩ (fun j d ρ' hj h => ?_) fun ρ' h => ?_
    · obtain ⟨a, s', hs, ho, rfl⟩ := h
      rw [List.getElem?_map] at hj
      cases e : xs[j]? with
      | none => rw [e] at hj; cases hj
      | some x =>
        rw [e] at hj
        cases hj
        have hjl : j < xs.length := (List.getElem?_eq_some_iff.mp e).1
        have ox := hx x (List.mem_of_getElem? e)
        have b1 : okp 3000 s' := ⟨ho.1, bd_mono ho.2.1 (by omega), bd_mono ho.2.2 (by omega)⟩
        have b2 : okp 3000 x := ⟨ox.1, bd_mono ox.2.1 (by decide), bd_mono ox.2.2 (by decide)⟩
        refine s_set 1 scTP.nd rfl (.inl rfl) (d_callG g hr (a_cons (vr 1) (a_cons (vr 2) a_nil)) ⟨s', x, rfl, b1, b2, rfl⟩) (s_nil ?_)
        refine ⟨_, pSum s' x, ?_, okp_sum ho ox, rfl⟩
        rw [List.take_add_one, e, List.foldl_append, ← hs]
        rfl
    · obtain ⟨a, s', hs, ho, rfl⟩ := h
      rw [List.length_map, List.take_length] at hs
      subst hs
      exact s_ret (vr 1) rfl
def RPair : List D → D → Prop := fun ds z => ∃ x, ds = [rt x] ∧ z = pr x
theorem scPair : FnScope ["_law_value"] ["_law_value"] (defScope sPair) := ⟨rfl, rfl, rfl, by decide +kernel, rfl, by decide +kernel, by decide +kernel⟩
theorem ok_pair (T : Rt K mg C) (zi : mg "isinstance" = none) (pT : Pd P w K mg base C 1 "top" RTop) (pB : Pd P w K mg base C 1 "bottom" RBot) (F : Fun K "_law_pair" "_law_pair" sPair f fd) (hb : Binds K fd ["_law_value"] []) (hf : PySem.W.isFn K (.ref f) = true) : Df P w K mg base C 3 f RPair :=
  df_mk F scPair hb hf (fun ds d h => by obtain ⟨_, rfl, _⟩ := h; rfl) fun cdv A outer s H E pt ds z hr h => by
    obtain ⟨x, rfl, rfl⟩ := h
    exact s_ret (d_if (t_val (d_callB call_isi rfl zi (by decide +kernel) (a_cons (vr 0) (a_cons (d_glob rfl T.mgC) a_nil)) (f_isC T rfl (kitC (d := rt x) T rfl)))) (x := pr x) (fun _ => d_tp (a_cons (d_propG T pT hr (vr 0) ⟨x.1, x.2, rfl, rfl⟩) (a_cons (d_propG T pB hr (vr 0) ⟨x.1, x.2, rfl, rfl⟩) a_nil))) (fun q => nomatch q)) rfl
def RPairs : List D → D → Prop := fun ds z => ∃ xs : List (Int × Int), ds = [.lst (xs.map rt)] ∧ xs.length ≤ 100 ∧ z = .lst (xs.map pr)
theorem scPairs : FnScope ["_law_value", "_law_one"] ["_law_value"] (defScope sPairs) := ⟨rfl, rfl, rfl, by decide +kernel, rfl, by decide +kernel, by decide +kernel⟩
/-- a list known item by item -/
theorem list_of {fs gs : List D} (hl : fs.length = gs.length) (h : ∀ (q : Nat) z, fs[q]? = some z → gs[q]? = some z) : fs = gs := by
  apply List.ext_getElem? 
  intro q
  by_cases hq : q < fs.length
  · have e := List.getElem?_eq_getElem hq
    rw [e, h q _ e]
  · rw [List.getElem?_eq_none (by omega), List.getElem?_eq_none (by omega)]
theorem ok_pairs (T : Rt K mg C) (zi : mg "isinstance" = none) (zl : mg "list" = none) (g : Gd P w K mg base C 3 "_law_pair" RPair) (F : Fun K "_law_pairs" "_law_pairs" sPairs f fd) (hb : Binds K fd ["_law_value"] []) (hf : PySem.W.isFn K (.ref f) = true) : Df P w K mg base C 4 f RPairs :=
  df_mk F scPairs hb hf (fun ds d h => by obtain ⟨_, rfl, _⟩ := h; rfl) fun cdv A outer s H E pt ds z hr h => by
    obtain ⟨xs, rfl, hl, rfl⟩ := h
    refine s_retP (R := fun z => z = .lst (xs.map pr)) (d_ifTP (t_val (d_callB call_isi rfl zi (by decide +kernel) (a_cons (vr 0) (a_cons (d_bltn (T := "list") rfl zl (by decide +kernel)) a_nil)) (f_isT T rfl (kit2 (a := "list") (b := "list") (r := true))))) ?_) (fun d q => by rw [q])
    refine EvP.imp (d_lcL (R := fun j z => (xs.map pr)[j]? = some z) rfl scPairs.nd (blkOk_by (show blkC ["_law_value", "_law_one"] (defScope sPairs) _ [("_law_one", 1)] = true by decide +kernel)) (vr 0) (by rw [List.length_map]; omega) (fun _ _ _ _ _ => pg_name (i := 1) scPairs.nd rfl (Or.inl rfl)) (fun j d hj s H' Ca cl fp => ?_)) fun d hd => ?_
    · rw [List.getElem?_map] at hj
      cases e : xs[j]? with
      | none => rw [e] at hj; cases hj
      | some x =>
        rw [e] at hj
        cases hj
        refine EvP.of (d_callG g hr (a_cons (vr 1) a_nil) ⟨x, rfl, rfl⟩) ?_
        rw [List.getElem?_map, e]
        rfl
    · obtain ⟨fs, rfl, hl2, hR⟩ := hd
      rw [list_of (by rw [hl2, List.length_map, List.length_map]) hR]
def RShown : List D → D → Prop := fun ds z => ∃ x : Int × Int, ds = [pr x] ∧ Bd 1900 x.1 ∧ Bd 1900 x.2 ∧ z = .str (shownS x.1 x.2)
theorem scSh : FnScope ["_law_pair_here"] ["_law_pair_here"] (defScope sShown) := ⟨rfl, rfl, rfl, by decide +kernel, rfl, by decide +kernel, by decide +kernel⟩
theorem ok_shown (zs : mg "str" = none) (F : Fun K "_law_shown" "_law_shown" sShown f fd) (hb : Binds K fd ["_law_pair_here"] []) (hf : PySem.W.isFn K (.ref f) = true) : Df P w K mg base C 1 f RShown :=
  df_mk F scSh hb hf (fun ds d h => by obtain ⟨_, rfl, _⟩ := h; rfl) fun cdv A outer s H E pt ds z hr h => by
    obtain ⟨x, rfl, h1, h2, rfl⟩ := h
    have l1 := toStr_len h1
    have l2 := toStr_len h2
    have l3 : ("/" : Str).length = 1 := by decide +kernel
    have l4 : ((toString x.1 : Str) ++ ("/" : Str)).length = (toString x.1 : Str).length + ("/" : Str).length := Str.length_append _ _
    refine s_ret (d_if (t_cmpB o_eq (d_p1 (vr 0)) d_int) (x := .str (shownS x.1 x.2)) (fun q => ?_) (fun q => ?_)) rfl
    · unfold shownS
      rw [if_pos (of_decide_eq_true q)]
      exact d_callTy call_str_int rfl zs (by decide +kernel) (a_cons (d_p0 (vr 0)) a_nil) (f_str h1)
    · unfold shownS
      rw [if_neg (of_decide_eq_false q)]
      exact d_binB (o_addS (by rw [l4]; omega)) (d_binB (o_addS (by omega)) (d_callTy call_str_int rfl zs (by decide +kernel) (a_cons (d_p0 (vr 0)) a_nil) (f_str h1)) d_str) (d_callTy call_str_int rfl zs (by decide +kernel) (a_cons (d_p1 (vr 0)) a_nil) (f_str h2))
end
end DL
end

section
set_option linter.all false
set_option maxRecDepth 100000
set_option maxHeartbeats 4000000
set_option exponentiation.threshold 100
/-! A def at a place of the stack whose guards are known; results that are not known by value. -/
namespace DL
open PySem PySem.Spec PyProof.Rows L2
section
variable {P : Program} {w : World} {K : PySem.W.Frag} {mg : Str → Option Value} {base : Heap} {C : Addr}
/-- a def's body at one place of the stack is enough for the call there -/
theorem run_at {x qual : Str} {st : Stmt} {f : Addr} {fd : FuncData} {N ps : List Str} {k : Nat} {A : Around} {outer : List Env} {s : Shared} {H : Hp} {args : Args} {us : List Value} {vs : List V} {Q : VK} {E : XK}
    (F : Fun K x qual st f fd) (S : FnScope N ps (defScope st)) (hr : Room (k + 1) A) (e0 : Env0 P w K mg base A outer s H) (hb : BindsTo s fd args (ps.zip us)) (rv : Vals vs us) (hl : vs.length = ps.length)
    (body : ∀ cdv, wS (bx P w K mg base N qual (defScope st) f cdv A outer s H E) (defBody st) { nx := fun _ H' => Q .non H', rt := Q } (L2.start N vs) H) :
    codeAny (model P w) A (.call (.ref f) args) (CR CX0 outer P w H s Q E) s := by
  obtain ⟨_, _, _, _, _, _, cdv, _, _, rfl, at_f, code⟩ := F.ex
  have here : K.In s.heap := e0.mod.kin.keeps fun b o e => (e0.bs b o e).1
  have names : ∀ y ∈ ps.zip us, (defScope st).names.lookup y.1 = some .local ∨ ((defScope st).names.lookup y.1 = some .cell ∧ ((cellsFrom (s.heap.objs.size + 1) (defScope st).names []).lookup y.1).isSome = true) := by
    rintro ⟨n, v⟩ hy
    exact (S.par n (List.of_mem_zip hy).1).imp id fun q => ⟨q, PySem.W.cellsFrom_some _ _ _ (.inl q)⟩
  refine codeAny_call_function hr.depth (here _ _ at_f) rfl S.co S.gen rfl (PySem.W.codeRec_of here code) (hb _ _ _ _ (wpAny_newFunctionEnv_cells S.kind names ?_))
  rintro env rfl s1 new
  have roomy : s.heap.NoLimit := e0.mod.nolimit.keeps fun b o e => (e0.bs b o e).1
  refine ⟨roomy.keeps new.toInCall.keep, codeAny_func (wpAny_mono (((ps_w (defBody st)).nox : PSs (cxOf CX0 P w K mg base N qual (defScope st) f cdv A outer s H E) _ _).run [] s1 (L2.start N vs) H _ (inv_start S hr.hd e0 hl rv new) (body cdv)) (fun fl s' got => ?_) fun _ _ h => h)⟩
  match fl, got with
  | .ret u, ⟨v, σ', H', J, same, q⟩ => exact ⟨v, H', J.os, J.bare, J.base, J.hok, same, q⟩
  | .next, ⟨σ', H', J, q⟩ => exact ⟨.non, H', J.os, J.bare, J.base, J.hok, rfl, q⟩
  | .brk, ⟨_, _, _, q⟩ => exact q.elim
  | .cont, ⟨_, _, _, q⟩ => exact q.elim
end
/-- a def's contract where the guards are known: what the pot is, what it is handed, what may come back -/
structure DfG (P : Program) (w : World) (K : PySem.W.Frag) (mg : Str → Option Value) (base : Heap) (C : Addr) (k : Nat) (f : Addr) (Rel : Option Addr → List D → (D → Prop) → Prop) : Prop where
  ex : ∃ (fd : FuncData) (ps : List Str), Binds K fd ps [] ∧ (∀ pt ds R, Rel pt ds R → ds.length = ps.length) ∧
    ∀ (A : Around) (outer : List Env) (s : Shared) (H : Hp) (args : Args) (us : List Value) (vs : List V) (Q : VK) (pt : Option Addr) (ds : List D) (R : D → Prop) (G : Hp), A.guards = some [] → Room k A → Env0 P w K mg base A outer s H →
      BindsTo s fd args (ps.zip us) → Vals vs us → Rel pt ds R → Bef pt G H → IsL C G vs ds → (∀ d v G2 H2, R d → Aft pt G H G2 H2 → Is C G2 v d → Q v H2) → codeAny (model P w) A (.call (.ref f) args) (CR CX0 outer P w H s Q E0) s
  kp : (PySem.W.keepIn K (.ref f)) = true
structure Gq (P : Program) (w : World) (K : PySem.W.Frag) (mg : Str → Option Value) (base : Heap) (C : Addr) (k : Nat) (n : Str) (Rel : Option Addr → List D → (D → Prop) → Prop) : Prop where
  ex : ∃ f, mg n = some (.ref f) ∧ DfG P w K mg base C k f Rel
section
variable {P : Program} {w : World} {K : PySem.W.Frag} {mg : Str → Option Value} {base : Heap} {C : Addr}
theorem dfG_mk {x qual : Str} {st : Stmt} {f : Addr} {fd : FuncData} {N ps : List Str} {k : Nat} {Rel : Option Addr → List D → (D → Prop) → Prop} (F : Fun K x qual st f fd) (S : FnScope N ps (defScope st)) (hb : Binds K fd ps [])
    (len : ∀ pt ds R, Rel pt ds R → ds.length = ps.length)
    (h : ∀ (cdv : Value) (A : Around) (outer : List Env) (s : Shared) (H : Hp) (pt : Option Addr) (ds : List D) (R : D → Prop), (bx P w K mg base N qual (defScope st) f cdv A outer s H E0).A.guards = some [] → Room k (bx P w K mg base N qual (defScope st) f cdv A outer s H E0).A → Rel pt ds R →
      RunP C pt (bx P w K mg base N qual (defScope st) f cdv A outer s H E0) (defBody st) (startD N.length ds) (fun o => match o with | .ret d => R d | .fall _ => False)) : DfG P w K mg base C (k + 1) f Rel := by
  refine ⟨⟨fd, ps, hb, len, fun A outer s H args us vs Q pt ds R G hg hr e0 bt rv hR b hi q => ?_⟩, F.kp⟩
  refine run_at F S hr e0 bt rv (by rw [hi.length]; exact len pt ds R hR) fun cdv => ?_
  exact h cdv A outer s H pt ds R hg (hr.deeper _) hR _ G H (EnvOk.start hi) b _ (fun d v G2 H2 p a i => q d v G2 H2 p a i) fun ρ' σ' G2 H2 p _ _ => p.elim
end
/-! ### results that are not known by value -/
def EvAP (C : Addr) (pt : Option Addr) (ta : TA) (ρ : Rho) (L : List D → Prop) : Prop := ∀ σ G H, EnvOk C G σ ρ → Bef pt G H → ∀ Q : List V → Hp → Prop, (∀ ds vs G2 H2, L ds → Aft pt G H G2 H2 → IsL C G2 vs ds → Q vs H2) → ta σ H Q
def EvTP (C : Addr) (pt : Option Addr) (tt : TT) (ρ : Rho) (R : Bool → Prop) : Prop := ∀ σ G H, EnvOk C G σ ρ → Bef pt G H → ∀ Q : Bool → Hp → Prop, (∀ b G2 H2, R b → Aft pt G H G2 H2 → Q b H2) → tt σ H Q
section
variable {X : Cx} {C : Addr} {pt : Option Addr} {ρ : Rho} {k : Nat} {f : Addr} {a b e : Expr} {es : List Expr} {x y z d : D} {ds : List D} {pos p : Pos} {n : Str} {R R1 R2' : D → Prop} {L : List D → Prop} {rest : List Stmt} {P : Out → Prop}
theorem a_of (h : EvA C pt (wA X es) ρ ds) : EvAP C pt (wA X es) ρ (fun l => l = ds) := fun σ G H en b Q k => h σ G H en b Q fun vs G2 H2 a i => k ds vs G2 H2 rfl a i
theorem a_consP (h : EvP C pt (wE X e) ρ R) (hr : EvAP C pt (wA X es) ρ L) (hs : starEach (e :: es) X.env = (false, eval e X.env) :: starEach es X.env := by rfl) : EvAP C pt (wA X (e :: es)) ρ (fun l => ∃ d t, l = d :: t ∧ R d ∧ L t) := fun σ G H en b Q k pos pins s I =>
  (pa_cons (pe_w e) (pa_w es) hs).run pos pins s σ H Q I (h σ G H en b _ fun d v G1 H1 p1 a1 i1 => hr σ G1 H1 (en.mono a1.g) (a1.bef b) _ fun t vs G2 H2 p2 a2 i2 => k (d :: t) (v :: vs) G2 H2 ⟨d, t, rfl, p1, p2⟩ (a1.trans b a2) (.cons (i1.mono a2.g) i2))
theorem a_nilP : EvAP C pt (wA X []) ρ (fun l => l = []) := a_of a_nil
theorem opP {r : R2} (ha : EvP C pt (wE X a) ρ R1) (hb : EvP C pt (wE X b) ρ R2') (hr : ∀ x y, R1 x → R2' y → ∃ z, R z ∧ R2D C pt r x y z) : EvP C pt (tOp r (wE X a) (wE X b)) ρ R := fun σ G H en bf Q k =>
  ha σ G H en bf _ fun x v G1 H1 p1 a1 i1 => hb σ G1 H1 (en.mono a1.g) (a1.bef bf) _ fun y u G2 H2 p2 a2 i2 => by
    obtain ⟨z, pz, hz⟩ := hr x y p1 p2
    have a12 := a1.trans bf a2
    exact hz G2 H2 (a12.bef bf) v u (i1.mono a2.g) i2 Q fun w G3 H3 a3 i3 => k z w G3 H3 pz (a12.trans bf a3) i3
theorem d_binP {op : Operator} {r : R2} (ho : OpR X (binaryOp op) r) (ha : EvP C pt (wE X a) ρ R1) (hb : EvP C pt (wE X b) ρ R2') (hr : ∀ x y, R1 x → R2' y → ∃ z, R z ∧ R2D C pt r x y z) : EvP C pt (wE X (.BinOp a op b pos)) ρ R := ofPEP (pe_op ho (pe_w a) (pe_w b)) (opP ha hb hr)
theorem d_ixP {r : R2} (hr' : IxR X r) (ha : EvP C pt (wE X a) ρ R1) (hb : EvP C pt (wE X b) ρ R2') (hr : ∀ x y, R1 x → R2' y → ∃ z, R z ∧ R2D C pt r x y z) (hs : PlainIx b) : EvP C pt (wE X (.Subscript a b pos)) ρ R := ofPEP (pe_ix hr' (pe_w a) (pe_w b) hs) (opP ha hb hr)
theorem t_cmpP {op : CmpOp} {r : R2} (ho : OpR X (compareOp op) r) (ha : EvP C pt (wE X a) ρ R1) (hb : EvP C pt (wE X b) ρ R2') (hr : ∀ x y, R1 x → R2' y → ∃ c, R2D C pt r x y (.bl c)) (hm : behindInMarks op b = false := by exact nomark _) : EvTP C pt (wT X (.Compare a [op] [b] pos)) ρ (fun _ => True) := by
  have h : EvP C pt (tOp r (wE X a) (wE X b)) ρ (fun d => ∃ c, d = .bl c) := opP ha hb fun x y p q => let ⟨c, h⟩ := hr x y p q; ⟨.bl c, ⟨c, rfl⟩, h⟩
  intro σ G H en bf Q k pins s I
  refine (pt_cmpR ho (pe_w a) (pe_w b) hm).run pins s σ H Q I ?_
  refine h σ G H en bf _ fun d v G2 H2 ⟨c, e⟩ a i => ?_
  subst e
  cases i
  exact ⟨c, rfl, k c G2 H2 trivial a⟩
theorem d_callTyP {f : Str} {p : Pos} {T : String} {r : List V → Hp → VK → Prop} (hc : CallR X (.type T) r) (hg : Gl X f) (hm : X.mg f = none) (hv : bootBuiltins f = some (.type T)) (ha : EvAP C pt (wA X (e :: es)) ρ L) (hr : ∀ ds, L ds → ∃ z, R z ∧ RnD C pt r ds z) (hn : f ≠ "__name__" := by decide) (hdb : (f == ("__debug__" : Str)) = false := by decide)
    (he : starEach (e :: es) X.env = (false, eval e X.env) :: starEach es X.env := by rfl) (hpl : (backTo pos (starEach es X.env)).any (·.1) = false := by rfl) : EvP C pt (wE X (.Call (.Name f p) (e :: es) [] pos)) ρ R :=
  ofPEP (pe_callTy hc hg hm hv (pa_w _) hn hdb he hpl) fun σ G H en b Q k => ha σ G H en b _ fun ds vs G1 H1 l a1 i1 => by
    obtain ⟨z, pz, hz⟩ := hr ds l
    exact hz G1 H1 (a1.bef b) vs i1 Q fun w G3 H3 a3 i3 => k z w G3 H3 pz (a1.trans b a3) i3
theorem d_callBP {f : Str} {p : Pos} {id : String} {r : List V → Hp → VK → Prop} (hc : CallR X (.builtin id) r) (hg : Gl X f) (hm : X.mg f = none) (hv : bootBuiltins f = some (.builtin id)) (ha : EvAP C pt (wA X (e :: es)) ρ L) (hr : ∀ ds, L ds → ∃ z, R z ∧ RnD C pt r ds z) (hn : f ≠ "__name__" := by decide) (hdb : (f == ("__debug__" : Str)) = false := by decide)
    (he : starEach (e :: es) X.env = (false, eval e X.env) :: starEach es X.env := by rfl) (hpl : (backTo pos (starEach es X.env)).any (·.1) = false := by rfl) : EvP C pt (wE X (.Call (.Name f p) (e :: es) [] pos)) ρ R :=
  ofPEP (pe_callB hc hg hm hv (pa_w _) hn hdb he hpl) fun σ G H en b Q k => ha σ G H en b _ fun ds vs G1 H1 l a1 i1 => by
    obtain ⟨z, pz, hz⟩ := hr ds l
    exact hz G1 H1 (a1.bef b) vs i1 Q fun w G3 H3 a3 i3 => k z w G3 H3 pz (a1.trans b a3) i3
/-- the call of a def whose contract wants the guards -/
theorem d_callQ {Rel : Option Addr → List D → (D → Prop) → Prop} (D' : DfG X.prog X.w X.K X.mg X.base C k f Rel) (hgs : X.A.guards = some []) (hr : Room k X.A) (hg : Gl X n) (hm : X.mg n = some (.ref f)) (ha : EvAP C pt (wA X (e :: es)) ρ L) (h : ∀ ds, L ds → Rel pt ds R)
    (hdb : (n == ("__debug__" : Str)) = false := by decide) (he : starEach (e :: es) X.env = (false, eval e X.env) :: starEach es X.env := by rfl) (hpl : (backTo pos (starEach es X.env)).any (·.1) = false := by rfl) : EvP C pt (wE X (.Call (.Name n p) (e :: es) [] pos)) ρ R := by
  obtain ⟨fd, ps, bind, len, run⟩ := D'.ex
  intro σ G H en b Q k pins s I
  refine wpAny_Call_Name_kw (ld_glob I hg hm (PySem.W.callWith_K (h₀ := X.base) I.ok.mod.kin D'.kp (thn ((pa_w (e :: es)).run pos pins s σ H _ I (ha σ G H en b (fun vs H1 => ∃ ds G1, L ds ∧ Aft pt G H G1 H1 ∧ IsL C G1 vs ds) fun ds vs G1 H1 l a i => ⟨ds, G1, l, a, i⟩)) ?_) he hpl) hdb)
  rintro us s1 ⟨vs, H1, I1, rv, ds, G1, l, a1, i1⟩
  have hn : (us ++ []).length = ps.length := by rw [List.append_nil, ← rv.length, i1.length]; exact len pt ds R (h ds l)
  refine ⟨I1.kIn, wpAny_call (codeAny_mono (run X.A X.stack s1 H1 ⟨us, []⟩ us vs Q pt ds R G1 hgs hr I1.env0 (by have := bind s1 us I1.kIn hn; rwa [List.append_nil] at this) rv (h ds l) (a1.bef b) i1 fun d v G2 H2 p a i => k d v G2 H2 p (a1.trans b a) i) fun res s' got => ?_)⟩
  match res, got with
  | .ok (.ret _), got => exact I1.after got
theorem d_callQG {Rel : Option Addr → List D → (D → Prop) → Prop} (g : Gq X.prog X.w X.K X.mg X.base C k n Rel) (hgs : X.A.guards = some []) (hr : Room k X.A) (ha : EvAP C pt (wA X (e :: es)) ρ L) (h : ∀ ds, L ds → Rel pt ds R) (hg : Gl X n := by rfl)
    (hdb : (n == ("__debug__" : Str)) = false := by decide) (he : starEach (e :: es) X.env = (false, eval e X.env) :: starEach es X.env := by rfl) (hpl : (backTo pos (starEach es X.env)).any (·.1) = false := by rfl) : EvP C pt (wE X (.Call (.Name n p) (e :: es) [] pos)) ρ R :=
  let ⟨_, hm, D'⟩ := g.ex
  d_callQ D' hgs hr hg hm ha h hdb he hpl
/-- an if of which it is not known which way it goes -/
theorem s_ifP {c : Expr} {A B : List Stmt} {RB : Bool → Prop} (hc : EvTP C pt (wT X c) ρ RB) (h : ∀ k, RB k → RunP C pt X (if k = true then A else B) ρ (fun o => match o with | .ret d => P (.ret d) | .fall ρ' => RunP C pt X rest ρ' P)) : RunP C pt X (.If c A B pos :: rest) ρ P :=
  s_of (ps_if (pt_w c) (ps_w A) (ps_w B)) fun σ G H en b E k1 k2 => hc σ G H en b _ fun k G2 H2 rb a => by
    have h' := h k rb σ G2 H2 (en.mono a.g) (a.bef b) E (fun d v G3 H3 p a3 i => k1 d v G3 H3 p (a.trans b a3) i) fun ρ' σ' G3 H3 p a3 e3 => k2 ρ' σ' G3 H3 p (a.trans b a3) e3
    cases k with
    | true => exact h'
    | false => exact h'
/-! ### the pot -/
theorem d_pot {j : Int} {jj} {p1 p2 : Pos} {q : Addr} (i : Nat) (hp : pt = some q) (hN : X.N[i]? = some n := by rfl) (hv : Vis X.env.scope n := by first | exact Or.inl rfl | exact Or.inr (Or.inl rfl) | exact Or.inr (Or.inr rfl)) (h : ρ[i]? = some (some (.adr q)) := by rfl) (hj : j = 0 ∨ j = 1)
    (hd : (n == ("__debug__" : Str)) = false := by decide) (hcd : (n == ("__classdict__" : Str)) = false := by decide) (hs : PlainIx (.Constant (.int j) jj p2) := by intro _ _; rfl) : EvP C pt (wE X (.Subscript (.Name n p1) (.Constant (.int j) jj p2) pos)) ρ (fun d => ∃ a : Int, d = .int a ∧ 0 ≤ a ∧ (j = 1 → a < 2 ^ 40)) :=
  ofPEP (pe_ix ix_list (pe_w _) (pe_w _) hs) fun σ G H en b Q k => d_var i hN hv h hd hcd σ G H en b _ fun v G1 H1 a1 i1 => d_int σ G1 H1 (en.mono a1.g) (a1.bef b) _ fun u G2 H2 a2 i2 => by
    cases i1
    cases i2
    obtain ⟨a0, b0, e, h0, h1, h2⟩ := ((a2.bef (a1.bef b)).pot q hp).2
    have a12 := a1.trans b a2
    rcases hj with rfl | rfl
    · exact ⟨q, _, 0, .int a0, rfl, rfl, SqL.of e, rfl, k (.int a0) (.int a0) G2 H2 ⟨a0, rfl, h0, fun z => by cases z⟩ a12 (.int a0)⟩
    · exact ⟨q, _, 1, .int b0, rfl, rfl, SqL.of e, rfl, k (.int b0) (.int b0) G2 H2 ⟨b0, rfl, h1, fun _ => h2⟩ a12 (.int b0)⟩
end
end DL
end

section
set_option linter.all false
set_option maxRecDepth 100000
set_option maxHeartbeats 4000000
set_option exponentiation.threshold 100
/-! The pot: what is drawn, what is picked. -/
namespace DL
open PySem PySem.Spec PyProof.Rows L2
def IntP (A : Int → Prop) : D → Prop := fun d => ∃ i, d = .int i ∧ A i
section
variable {X : Cx} {C : Addr} {pt : Option Addr} {ρ : Rho} {k : Nat} {f : Addr} {a b e : Expr} {es : List Expr} {x y z d : D} {ds : List D} {pos p : Pos} {n m : Str} {R R1 R2' : D → Prop} {L : List D → Prop} {rest : List Stmt} {P : Out → Prop} {A B Z : Int → Prop}
theorem i_of {i : Int} (h : EvD C pt (wE X e) ρ (.int i)) (ha : A i) : EvP C pt (wE X e) ρ (IntP A) := EvP.of h ⟨i, rfl, ha⟩
theorem i_add (ha : EvP C pt (wE X a) ρ (IntP A)) (hb : EvP C pt (wE X b) ρ (IntP B)) (h : ∀ x y, A x → B y → Z (x + y)) : EvP C pt (wE X (.BinOp a .Add b pos)) ρ (IntP Z) :=
  d_binP op_add ha hb fun x y ⟨i, e1, p⟩ ⟨j, e2, q⟩ => by subst e1; subst e2; exact ⟨_, ⟨_, rfl, h i j p q⟩, r_I0⟩
theorem i_sub (ha : EvP C pt (wE X a) ρ (IntP A)) (hb : EvP C pt (wE X b) ρ (IntP B)) (h : ∀ x y, A x → B y → Z (x - y)) : EvP C pt (wE X (.BinOp a .Sub b pos)) ρ (IntP Z) :=
  d_binP op_sub ha hb fun x y ⟨i, e1, p⟩ ⟨j, e2, q⟩ => by subst e1; subst e2; exact ⟨_, ⟨_, rfl, h i j p q⟩, r_I0⟩
theorem i_mul (u v : Nat) (ha : EvP C pt (wE X a) ρ (IntP A)) (hb : EvP C pt (wE X b) ρ (IntP B)) (h : ∀ x y, A x → B y → Bd u x ∧ Bd v y ∧ Z (x * y)) (hn : u + v ≤ 900000) : EvP C pt (wE X (.BinOp a .Mult b pos)) ρ (IntP Z) :=
  d_binP op_mulW ha hb fun x y ⟨i, e1, p⟩ ⟨j, e2, q⟩ => by
    subst e1; subst e2
    obtain ⟨h1, h2, h3⟩ := h i j p q
    have g1 : Bd (u + 1) i := Nat.lt_of_lt_of_le h1 (Nat.pow_le_pow_right (by decide) (by omega))
    have g2 : Bd (v + 1) j := Nat.lt_of_lt_of_le h2 (Nat.pow_le_pow_right (by decide) (by omega))
    exact ⟨_, ⟨_, rfl, h3⟩, r_I (wide_mul g1 g2 (by omega) (by omega) (by omega))⟩
theorem i_mod (ha : EvP C pt (wE X a) ρ (IntP A)) (hb : EvP C pt (wE X b) ρ (IntP B)) (h : ∀ x y, A x → B y → 0 < y ∧ Z (x % y)) : EvP C pt (wE X (.BinOp a .Mod b pos)) ρ (IntP Z) :=
  d_binP op_mod ha hb fun x y ⟨i, e1, p⟩ ⟨j, e2, q⟩ => by subst e1; subst e2; exact ⟨_, ⟨_, rfl, (h i j p q).2⟩, r_I (h i j p q).1⟩
theorem i_div (ha : EvP C pt (wE X a) ρ (IntP A)) (hb : EvP C pt (wE X b) ρ (IntP B)) (h : ∀ x y, A x → B y → (0 < y ∧ y < 1073741824) ∧ Z (x / y)) : EvP C pt (wE X (.BinOp a .FloorDiv b pos)) ρ (IntP Z) :=
  d_binP op_fdiv ha hb fun x y ⟨i, e1, p⟩ ⟨j, e2, q⟩ => by subst e1; subst e2; exact ⟨_, ⟨_, rfl, (h i j p q).2⟩, r_I (h i j p q).1⟩
theorem i_int (zi : X.mg "int" = none) (ha : EvP C pt (wE X e) ρ (IntP A)) (hs : starEach [e] X.env = (false, eval e X.env) :: starEach [] X.env := by rfl)
    (hg : Gl X "int" := by rfl) (hpl : (backTo pos (starEach ([] : List Expr) X.env)).any (·.1) = false := by rfl) : EvP C pt (wE X (.Call (.Name "int" p) [e] [] pos)) ρ (IntP A) :=
  d_callTyP call_int1 hg zi (by decide +kernel) (a_consP ha a_nilP hs) (fun ds hd => by
    obtain ⟨d, t, rfl, ⟨i, rfl, hi⟩, rfl⟩ := hd
    exact ⟨_, ⟨i, rfl, hi⟩, f_int⟩) (by decide) (by decide) hs hpl
theorem i_gt (ha : EvP C pt (wE X a) ρ (IntP A)) (hb : EvP C pt (wE X b) ρ (IntP B)) (hm : behindInMarks .Gt b = false := by exact nomark _) : EvTP C pt (wT X (.Compare a [.Gt] [b] pos)) ρ (fun _ => True) :=
  t_cmpP op_gt ha hb (fun x y ⟨i, e1, p⟩ ⟨j, e2, q⟩ => by subst e1; subst e2; exact ⟨_, r_I0b⟩) hm
theorem i_eq (ha : EvP C pt (wE X a) ρ (IntP A)) (hb : EvP C pt (wE X b) ρ (IntP B)) (hm : behindInMarks .Eq b = false := by exact nomark _) : EvTP C pt (wT X (.Compare a [.Eq] [b] pos)) ρ (fun _ => True) :=
  t_cmpP op_eq ha hb (fun x y ⟨i, e1, p⟩ ⟨j, e2, q⟩ => by
    subst e1; subst e2
    refine ⟨decide (i = j), r_same fun G H b v u i1 i2 => ?_⟩
    cases i1
    cases i2
    refine ⟨.bl (decide (i = j)), .bl _, fun Q q => ⟨rfl, ?_⟩⟩
    have e : decide (V.int i = V.int j) = decide (i = j) := by simp
    rw [e]
    exact q) hm
theorem put_aft {q : Addr} {G H : Hp} {a b : Int} (bf : Bef (some q) G H) (h0 : 0 ≤ a) (h1 : 0 ≤ b) (h2 : b < 2 ^ 40) : Aft (some q) G H G (upd H q (.lst [.int a, .int b])) := by
  refine ⟨Same.refl G, fun x u g => ?_, fun x o ne g => ?_, fun x o g => .inl g, fun x e => ?_⟩
  · have : x ≠ q := fun z => by subst z; rw [(bf.pot x rfl).1] at g; cases g
    rw [upd_ne this]
    exact bf.sub x u g
  · have : x ≠ q := fun z => ne (by rw [z])
    rw [upd_ne this]
    exact g
  · cases e
    exact ⟨a, b, upd_same, h0, h1, h2⟩
/-- pot[1] = e -/
theorem s_put1 {jj} {p1 p2 p3 : Pos} {q : Addr} (i : Nat) (hp : pt = some q) (h : EvP C pt (wE X e) ρ (IntP fun b => 0 ≤ b ∧ b < 2 ^ 40)) (hr : RunP C pt X rest ρ P) (hN : X.N[i]? = some n := by rfl) (hv : Vis X.env.scope n := by first | exact Or.inl rfl | exact Or.inr (Or.inl rfl) | exact Or.inr (Or.inr rfl)) (hi : ρ[i]? = some (some (.adr q)) := by rfl)
    (hd : (n == ("__debug__" : Str)) = false := by decide) (hcd : (n == ("__classdict__" : Str)) = false := by decide)
    (ha : ∀ v, assign (.Subscript (.Name n p1) (.Constant (.int 1) jj p2) p3) X.env v = (do
      let ov ← holding [v] (eval (.Name n p1) X.env)
      let iv ← holding [v, ov] (eval (.Constant (.int 1) jj p2) X.env)
      standAt p3
      holding [v, ov, iv] (setItem ov iv v)
      release [v, ov, iv] []) := by intro _; rfl)
    (hs : swapsWithSole [.Subscript (.Name n p1) (.Constant (.int 1) jj p2) p3] e pos.line X.env = pure false := by rfl) (hw : swappedStores [.Subscript (.Name n p1) (.Constant (.int 1) jj p2) p3] e X.env = pure none := by rfl) :
    RunP C pt X (.Assign [.Subscript (.Name n p1) (.Constant (.int 1) jj p2) p3] e pos :: rest) ρ P :=
  s_of (ps_asg (pe_w e) (pg_sub (pe_w _) (pe_w _) set_list ha) hs hw) fun σ G H en b E k1 k2 => h σ G H en b _ fun d v G1 H1 ⟨b1, e1, h1, h2⟩ a1 i1 => by
    subst e1
    cases i1
    have bf1 := a1.bef b
    refine d_var i hN hv hi hd hcd σ G1 H1 (en.mono a1.g) bf1 _ fun v2 G2 H2 a2 i2 => d_int σ G2 H2 ((en.mono a1.g).mono a2.g) (a2.bef bf1) _ fun v3 G3 H3 a3 i3 => ?_
    cases i2
    cases i3
    have a23 := a2.trans bf1 a3
    have bf3 := a23.bef bf1
    obtain ⟨x0, y0, e0, g0, g1, g2⟩ := (bf3.pot q hp).2
    subst hp
    refine ⟨q, _, 1, 1, rfl, rfl, e0, rfl, k2 ρ σ G3 _ hr (((a1.trans b a23)).trans b (put_aft (a := x0) (b := b1) bf3 g0 h1 h2)) ?_⟩
    exact (en.mono a1.g).mono a23.g
/-- pot[0], name = e -/
theorem s_put0 {jj kk} {p1 p2 p3 p4 p5 : Pos} {q : Addr} {T : Int → Prop} (i j : Nat) (hp : pt = some q) (hc : X.calm = true) (hNd : X.N.Nodup) (h : EvP C pt (wE X e) ρ (fun d => ∃ a t, d = .tup [.int a, .int t] ∧ 0 ≤ a ∧ T t)) (hr : ∀ t, T t → RunP C pt X rest (ρ.set j (some (.int t))) P)
    (hN : X.N[i]? = some n := by rfl) (hv : Vis X.env.scope n := by first | exact Or.inl rfl | exact Or.inr (Or.inl rfl) | exact Or.inr (Or.inr rfl)) (hi : ρ[i]? = some (some (.adr q)) := by rfl) (hj : X.N[j]? = some m := by rfl) (hy : Loc X.env.scope m := by exact .inl rfl)
    (hf : X.fn m = true ∨ X.env.scope.names.lookup m = some .local := by first | exact .inl rfl | exact .inr rfl)
    (hd : (n == ("__debug__" : Str)) = false := by decide) (hcd : (n == ("__classdict__" : Str)) = false := by decide)
    (ha : ∀ v, assign (.Subscript (.Name n p1) (.Constant (.int 0) jj p2) p3) X.env v = (do
      let ov ← holding [v] (eval (.Name n p1) X.env)
      let iv ← holding [v, ov] (eval (.Constant (.int 0) jj p2) X.env)
      standAt p3
      holding [v, ov, iv] (setItem ov iv v)
      release [v, ov, iv] []) := by intro _; rfl)
    (hs : swapsWithSole [.Tuple [.Subscript (.Name n p1) (.Constant (.int 0) jj p2) p3, .Name m p4] kk p5] e pos.line X.env = pure false := by rfl) (hw : swappedStores [.Tuple [.Subscript (.Name n p1) (.Constant (.int 0) jj p2) p3, .Name m p4] kk p5] e X.env = pure none := by rfl) :
    RunP C pt X (.Assign [.Tuple [.Subscript (.Name n p1) (.Constant (.int 0) jj p2) p3, .Name m p4] kk p5] e pos :: rest) ρ P :=
  s_of (ps_asg (pe_w e) (pg_tup hc (pgs_cons (pg_sub (pe_w _) (pe_w _) set_list ha) (pgs_cons (pg_name hNd hj hy hf) pgs_nil)) (n := 2)) hs hw) fun σ G H en b E k1 k2 => h σ G H en b _ fun d v G1 H1 ⟨a0, t, e1, h1, h2⟩ a1 i1 => by
    subst e1
    cases i1 with
    | tup l1 r1 =>
      obtain ⟨v1, v2, rfl, g1, g2⟩ := isl2 r1
      cases isI g1
      cases isI g2
      have bf1 := a1.bef b
      refine ⟨_, _, rfl, SqT.of (a1.sub _ _ l1), rfl, _, _, rfl, ?_⟩
      refine d_var i hN hv hi hd hcd σ G1 H1 (en.mono a1.g) bf1 _ fun v2 G2 H2 a2 i2 => d_int σ G2 H2 ((en.mono a1.g).mono a2.g) (a2.bef bf1) _ fun v3 G3 H3 a3 i3 => ?_
      cases i2
      cases i3
      have a23 := a2.trans bf1 a3
      have bf3 := a23.bef bf1
      obtain ⟨x0, y0, e0, f0, f1, f2⟩ := (bf3.pot q hp).2
      subst hp
      refine ⟨q, _, 0, 0, rfl, rfl, e0, rfl, _, _, rfl, rfl, k2 _ _ G3 _ (hr t h2) (((a1.trans b a23)).trans b (put_aft (a := a0) (b := y0) bf3 h1 f1 f2)) ?_⟩
      exact (((en.mono a1.g).mono a23.g)).set (.int t)
end
end DL
end

section
set_option linter.all false
set_option maxRecDepth 100000
set_option maxHeartbeats 4000000
set_option exponentiation.threshold 100
namespace DL
open PySem PySem.Spec PyProof.Rows L2
abbrev sDraw : Stmt := top 14
abbrev sPick : Stmt := top 15
abbrev sRaw : Stmt := top 25
section
variable {P : Program} {w : World} {K : PySem.W.Frag} {mg : Str → Option Value} {base : Heap} {C f : Addr} {fd : FuncData}
def RDraw : Option Addr → List D → (D → Prop) → Prop := fun pt ds R => ∃ (q : Addr) (n : Int), pt = some q ∧ ds = [.adr q, .int n] ∧ 0 < n ∧ n < 1073741824 ∧ R = IntP fun i => 0 ≤ i ∧ i < n
theorem scDraw : FnScope ["_law_pot_here", "_law_size", "_law_digit"] ["_law_pot_here", "_law_size"] (defScope sDraw) := ⟨rfl, rfl, rfl, by decide +kernel, rfl, by decide +kernel, by decide +kernel⟩
theorem ok_draw (zi : mg "int" = none) (zd : mg "divmod" = none) (F : Fun K "_law_draw" "_law_draw" sDraw f fd) (hb : Binds K fd ["_law_pot_here", "_law_size"] []) : DfG P w K mg base C 1 f RDraw :=
  dfG_mk F scDraw hb (fun pt ds R h => by obtain ⟨_, _, _, rfl, _⟩ := h; rfl) fun cdv A outer s H pt ds R hgs hr h => by
    obtain ⟨q, n, hp, rfl, h0, h1, rfl⟩ := h
    refine s_ifP (i_gt (A := fun _ => True) (B := fun _ => True) (EvP.imp (d_pot 0 hp (hj := .inl rfl)) fun d ⟨a, e, _⟩ => ⟨a, e, trivial⟩) (i_of d_int trivial)) fun kk _ => ?_
    cases kk with
    | true =>
      refine s_put0 (T := fun t => 0 ≤ t ∧ t < n) 0 2 hp rfl scDraw.nd (d_callBP call_divmod rfl zd (by decide +kernel) (a_consP (d_pot 0 hp (hj := .inl rfl)) (a_of (a_cons (vr 1) a_nil))) fun ds hd => ?_) fun t ht => s_ret (vr 2) ⟨t, rfl, ht⟩
      obtain ⟨d, t, rfl, ⟨a, rfl, ha, _⟩, rfl⟩ := hd
      exact ⟨_, ⟨_, _, rfl, Int.ediv_nonneg ha (by omega), Int.emod_nonneg a (by omega), Int.emod_lt_of_pos a h0⟩, f_divmod h0 h1⟩
    | false =>
      refine s_nil ?_
      refine s_put1 0 hp (i_mod (A := fun _ => True) (B := fun j => j = 2147483587) (i_int zi (i_add (A := fun _ => True) (B := fun _ => True) (i_mul 40 20 (A := fun a => 0 ≤ a ∧ a < 2 ^ 40) (B := fun j => j = 48271) (EvP.imp (d_pot 0 hp (hj := .inr rfl)) fun d ⟨a, e, h2, h3⟩ => ⟨a, e, h2, h3 rfl⟩) (i_of d_int rfl) (fun x y hx hy => ⟨?_, ?_, trivial⟩) (by decide)) (i_of d_int trivial) fun _ _ _ _ => trivial)) (i_of d_int rfl) fun x y _ hy => ?_) ?_
      · unfold Bd; omega
      · subst hy; decide
      · subst hy
        exact ⟨by decide, Int.emod_nonneg x (by decide), Int.lt_trans (Int.emod_lt_of_pos x (by decide)) (by decide)⟩
      · refine s_retP (R := IntP fun i => 0 ≤ i ∧ i < n) (i_mod (A := fun _ => True) (B := fun j => j = n) (i_int zi (i_div (A := fun _ => True) (B := fun j => j = 23) (i_mod (A := fun _ => True) (B := fun j => j = 2147483549) (i_int zi (i_mul 40 40 (A := fun a => 0 ≤ a ∧ a < 2 ^ 40) (B := fun a => 0 ≤ a ∧ a < 2 ^ 40) (EvP.imp (d_pot 0 hp (hj := .inr rfl)) fun d ⟨a, e, h2, h3⟩ => ⟨a, e, h2, h3 rfl⟩) (EvP.imp (d_pot 0 hp (hj := .inr rfl)) fun d ⟨a, e, h2, h3⟩ => ⟨a, e, h2, h3 rfl⟩) (fun x y hx hy => ⟨?_, ?_, trivial⟩) (by decide))) (i_of d_int rfl) fun x y _ hy => ?_) (i_of d_int rfl) fun x y _ hy => ?_)) (i_of (vr 1) rfl) fun x y _ hy => ?_) fun d hd => hd
        · unfold Bd; omega
        · unfold Bd; omega
        · subst hy; exact ⟨by decide, trivial⟩
        · subst hy; exact ⟨by decide, trivial⟩
        · subst hy; exact ⟨h0, Int.emod_nonneg x (by omega), Int.emod_lt_of_pos x h0⟩
def RPick : Option Addr → List D → (D → Prop) → Prop := fun pt ds R => ∃ (q : Addr) (xs : List D), pt = some q ∧ ds = [.adr q, .lst xs] ∧ 0 < xs.length ∧ xs.length < 1000 ∧ R = fun d => d ∈ xs
theorem scPick : FnScope ["_law_pot_here", "_law_some"] ["_law_pot_here", "_law_some"] (defScope sPick) := ⟨rfl, rfl, rfl, by decide +kernel, rfl, by decide +kernel, by decide +kernel⟩
theorem at_in {ds : List D} {i : Int} (h0 : 0 ≤ i) (h1 : i < (ds.length : Nat)) : ∃ d, atI ds i = some d ∧ d ∈ ds := by
  have h : i.toNat < ds.length := by omega
  refine ⟨ds[i.toNat], ?_, List.getElem_mem h⟩
  have e : ixN ds.length i = some i.toNat := by
    unfold ixN
    rw [if_pos h0, if_pos h1]
  unfold atI
  rw [e]
  exact List.getElem?_eq_getElem h
theorem ok_pick (zl : mg "len" = none) (g : Gq P w K mg base C 1 "_law_draw" RDraw) (F : Fun K "_law_pick" "_law_pick" sPick f fd) (hb : Binds K fd ["_law_pot_here", "_law_some"] []) : DfG P w K mg base C 2 f RPick :=
  dfG_mk F scPick hb (fun pt ds R h => by obtain ⟨_, _, _, rfl, _⟩ := h; rfl) fun cdv A outer s H pt ds R hgs hr h => by
    obtain ⟨q, xs, hp, rfl, h0, h1, rfl⟩ := h
    refine s_retP (R := fun d => d ∈ xs) (d_ixP ix_list (R1 := fun d => d = .lst xs) (R2' := IntP fun i => 0 ≤ i ∧ i < (xs.length : Nat)) (EvP.of (vr 1) rfl) (d_callQG g hgs hr (a_of (a_cons (vr 0) (a_cons (d_callB call_len_seq rfl zl (by decide +kernel) (a_cons (vr 1) a_nil) f_len) a_nil))) (fun ds hd => ⟨q, (xs.length : Nat), hp, hd, by omega, by omega, rfl⟩)) (fun x y hx hy => ?_) (by intro _ _; rfl)) fun d hd => hd
    obtain ⟨i, rfl, i0, i1⟩ := hy
    subst hx
    obtain ⟨d, e, m⟩ := at_in i0 i1
    exact ⟨d, m, r_ixL e⟩
def RRaw : Option Addr → List D → (D → Prop) → Prop := fun pt ds R => ∃ q : Addr, pt = some q ∧ ds = [.adr q] ∧ R = fun d => ∃ x, d = pr x ∧ okp 200 x
theorem scRaw : FnScope ["_law_pot_here", "_law_top", "_law_bottom", "_law_common", "_law_sign"] ["_law_pot_here"] (defScope sRaw) := ⟨rfl, rfl, rfl, by decide +kernel, rfl, by decide +kernel, by decide +kernel⟩
theorem ok_raw (g : Gq P w K mg base C 1 "_law_draw" RDraw) (gp : Gq P w K mg base C 2 "_law_pick" RPick) (F : Fun K "_law_raw" "_law_raw" sRaw f fd) (hb : Binds K fd ["_law_pot_here"] []) : DfG P w K mg base C 3 f RRaw :=
  dfG_mk F scRaw hb (fun pt ds R h => by obtain ⟨_, _, rfl, _⟩ := h; rfl) fun cdv A outer s H pt ds R hgs hr h => by
    obtain ⟨q, hp, rfl, rfl⟩ := h
    have draw : ∀ {ρ : Rho} {p1 p2 p3 p4 : Pos} {j1} {n : Int}, ρ[0]? = some (some (.adr q)) → 0 < n → n < 1073741824 → EvP C pt (wE (bx P w K mg base ["_law_pot_here", "_law_top", "_law_bottom", "_law_common", "_law_sign"] "_law_raw" (defScope sRaw) f cdv A outer s H E0) (.Call (.Name "_law_draw" p1) [.Name "_law_pot_here" p2, .Constant (.int n) j1 p3] [] p4)) ρ (IntP fun i => 0 ≤ i ∧ i < n) := fun h0 h1 h2 =>
      d_callQG g hgs (hr.mono (by decide)) (a_of (a_cons (vr 0 (h := h0)) (a_cons d_int a_nil))) fun ds hd => ⟨q, _, hp, hd, h1, h2, rfl⟩
    have tail : ∀ t b : Int, Bd 100 t → 0 < b → Bd 100 b → RunP C pt (bx P w K mg base ["_law_pot_here", "_law_top", "_law_bottom", "_law_common", "_law_sign"] "_law_raw" (defScope sRaw) f cdv A outer s H E0) ((defBody sRaw).drop 3) [some (.adr q), some (.int t), some (.int b), none, none] (fun o => match o with | .ret d => ∃ x, d = pr x ∧ okp 200 x | .fall _ => False) := by
      intro t b ht h0 hb
      refine s_setP (R := IntP fun c => 1 ≤ c ∧ c ≤ 1000000000) 3 scRaw.nd rfl (.inl rfl) (EvP.imp (d_callQG gp hgs (hr.mono (by decide)) (a_of (a_cons (vr 0) (a_cons (d_ls (a_cons d_int (a_cons d_int (a_cons d_int (a_cons (d_binB (o_pow (by decide)) d_int d_int) a_nil))))) a_nil))) fun ds hd => ⟨q, _, hp, hd, by show 0 < 4; decide, by show 4 < 1000; decide, rfl⟩) fun d hd => ?_) ?_
      · rcases List.mem_cons.mp hd with rfl | hd
        · exact ⟨_, rfl, by decide, by decide⟩
        rcases List.mem_cons.mp hd with rfl | hd
        · exact ⟨_, rfl, by decide, by decide⟩
        rcases List.mem_cons.mp hd with rfl | hd
        · exact ⟨_, rfl, by decide, by decide⟩
        rcases List.mem_cons.mp hd with rfl | hd
        · exact ⟨_, rfl, by decide, by decide⟩
        cases hd
      rintro d ⟨c, rfl, c0, c1⟩
      refine s_setP (R := IntP fun c => c = 1 ∨ c = -1) 4 scRaw.nd rfl (.inl rfl) (EvP.imp (d_callQG gp hgs (hr.mono (by decide)) (a_of (a_cons (vr 0) (a_cons (d_ls (a_cons d_int (a_cons (d_un un_neg d_int u_neg) a_nil))) a_nil))) fun ds hd => ⟨q, _, hp, hd, by show 0 < 2; decide, by show 2 < 1000; decide, rfl⟩) fun d hd => ?_) ?_
      · rcases List.mem_cons.mp hd with rfl | hd
        · exact ⟨_, rfl, .inl rfl⟩
        rcases List.mem_cons.mp hd with rfl | hd
        · exact ⟨_, rfl, .inr rfl⟩
        cases hd
      rintro d ⟨g, rfl, hg⟩
      have bc : Bd 30 c := by unfold Bd; omega
      have bg : Bd 1 g := by unfold Bd; omega
      refine s_ret (d_tp (a_cons (d_binB (o_mul (bd_mul ht bc) bg (by decide)) (d_binB (o_mul ht bc (by decide)) (vr 1) (vr 3)) (vr 4)) (a_cons (d_binB (o_mul (bd_mul hb bc) bg (by decide)) (d_binB (o_mul hb bc (by decide)) (vr 2) (vr 3)) (vr 4)) a_nil))) ⟨(t * c * g, b * c * g), rfl, ?_, bd_mono (bd_mul (bd_mul ht bc) bg) (by decide), bd_mono (bd_mul (bd_mul hb bc) bg) (by decide)⟩
      show b * c * g ≠ 0
      exact Int.mul_ne_zero (Int.mul_ne_zero (by omega) (by omega)) (by omega)
    refine s_setP (R := IntP fun i => -12 ≤ i ∧ i ≤ 12) 1 scRaw.nd rfl (.inl rfl) (i_sub (B := fun j => j = 12) (draw rfl (by decide) (by decide)) (i_of d_int rfl) fun x y hx hy => by subst hy; omega) ?_
    rintro d ⟨t, rfl, t0, t1⟩
    refine s_setP (R := IntP fun i => 1 ≤ i ∧ i ≤ 12) 2 scRaw.nd rfl (.inl rfl) (i_add (A := fun j => j = 1) (i_of d_int rfl) (draw rfl (by decide) (by decide)) fun x y hx hy => by subst hx; omega) ?_
    rintro d ⟨b, rfl, b0, b1⟩
    refine s_ifP (i_eq (B := fun _ => True) (draw rfl (by decide) (by decide)) (i_of d_int trivial)) fun kk _ => ?_
    cases kk with
    | false => exact s_nil (tail t b (by unfold Bd; omega) (by omega) (by unfold Bd; omega))
    | true =>
      refine s_setP (R := IntP fun i => Bd 100 i) 1 scRaw.nd rfl (.inl rfl) (i_add (A := fun i => -13000000000000000000000000 ≤ i ∧ i ≤ 13000000000000000000000000) (i_mul 4 81 (A := fun i => i = t) (B := fun j => j = 1004207356863602508537649) (i_of (vr 1) rfl) (i_of (d_binB (o_pow (by decide)) d_int d_int) (by decide)) (fun x y hx hy => ⟨?_, ?_, ?_⟩) (by decide)) (draw rfl (by decide) (by decide)) fun x y hx hy => ?_) ?_
      · subst hx; unfold Bd; omega
      · subst hy; decide
      · subst hx; subst hy; omega
      · unfold Bd; omega
      rintro d ⟨t2, rfl, ht2⟩
      refine s_setP (R := IntP fun i => 0 < i ∧ Bd 100 i) 2 scRaw.nd rfl (.inl rfl) (i_add (A := fun i => 0 < i ∧ i < 1300000000000000000000) (B := fun j => j = 1) (i_add (A := fun i => 0 < i ∧ i < 1290000000000000000000) (i_mul 4 81 (A := fun i => i = b) (B := fun j => j = 100000000000000000000) (i_of (vr 2) rfl) (i_of (d_binB (o_pow (by decide)) d_int d_int) (by decide)) (fun x y hx hy => ⟨?_, ?_, ?_⟩) (by decide)) (draw rfl (by decide) (by decide)) fun x y hx hy => ?_) (i_of d_int rfl) fun x y hx hy => ?_) ?_
      · subst hx; unfold Bd; omega
      · subst hy; decide
      · subst hx; subst hy; omega
      · omega
      · subst hy
        exact ⟨by omega, by unfold Bd; omega⟩
      rintro d ⟨b2, rfl, hb0, hb2⟩
      exact s_nil (tail t2 b2 ht2 hb0 hb2)
end
end DL
end

section
set_option linter.all false
set_option maxRecDepth 100000
set_option exponentiation.threshold 100
/-! Fractions in lowest terms. -/
namespace DL
open PySem
def Red (x : Int × Int) : Prop := 0 < x.2 ∧ Nat.gcd x.1.natAbs x.2.natAbs = 1
theorem sg_split {t b : Int} (h : b ≠ 0) : t = sg t b * nT t b ∧ b = sg t b * nB t b := by
  have d1 : sg t b ∣ t := Int.natAbs_dvd_natAbs.mp (by rw [sg_abs]; exact Nat.gcd_dvd_left _ _)
  have d2 : sg t b ∣ b := Int.natAbs_dvd_natAbs.mp (by rw [sg_abs]; exact Nat.gcd_dvd_right _ _)
  have n := sg_ne (t := t) h
  obtain ⟨u, hu⟩ := d1
  obtain ⟨v, hv⟩ := d2
  have e1 : nT t b = u := by
    unfold nT
    generalize sg t b = g at *
    subst hu
    exact Int.mul_fdiv_cancel_left u n
  have e2 : nB t b = v := by
    unfold nB
    generalize sg t b = g at *
    subst hv
    exact Int.mul_fdiv_cancel_left v n
  rw [e1, e2]
  exact ⟨hu, hv⟩
theorem nrm_red {t b : Int} (h : b ≠ 0) : Red (nrm t b) := by
  refine ⟨nB_pos h, ?_⟩
  show Nat.gcd (nT t b).natAbs (nB t b).natAbs = 1
  obtain ⟨e1, e2⟩ := sg_split (t := t) h
  have ha := sg_abs t b
  have hg : (sg t b).natAbs * Nat.gcd (nT t b).natAbs (nB t b).natAbs = Nat.gcd t.natAbs b.natAbs := by
    rw [← Nat.gcd_mul_left, ← Int.natAbs_mul, ← Int.natAbs_mul, ← e1, ← e2]
  have hp : 0 < Nat.gcd t.natAbs b.natAbs := Nat.gcd_pos_of_pos_right _ (Int.natAbs_pos.mpr h)
  rw [ha] at hg
  exact Nat.eq_of_mul_eq_mul_left hp (by rw [hg, Nat.mul_one])
theorem red_eq {x y : Int × Int} (hx : Red x) (hy : Red y) (h : x.1 * y.2 = y.1 * x.2) : x = y := by
  obtain ⟨x1, x2⟩ := x
  obtain ⟨y1, y2⟩ := y
  obtain ⟨px, cx⟩ := hx
  obtain ⟨py, cy⟩ := hy
  simp only at px cx py cy h
  have hn : x1.natAbs * y2.natAbs = y1.natAbs * x2.natAbs := by rw [← Int.natAbs_mul, h, Int.natAbs_mul]
  have d1 : x2.natAbs ∣ y2.natAbs := (Nat.Coprime.symm cx : Nat.Coprime x2.natAbs x1.natAbs).dvd_of_dvd_mul_left ⟨y1.natAbs, by rw [hn, Nat.mul_comm]⟩
  have d2 : y2.natAbs ∣ x2.natAbs := (Nat.Coprime.symm cy : Nat.Coprime y2.natAbs y1.natAbs).dvd_of_dvd_mul_left ⟨x1.natAbs, by rw [← hn, Nat.mul_comm]⟩
  have e : x2.natAbs = y2.natAbs := Nat.dvd_antisymm d1 d2
  have e2 : x2 = y2 := by omega
  subst e2
  have : x1 = y1 := Int.eq_of_mul_eq_mul_right (by omega) h
  rw [this]
theorem nrm_cross {t b : Int} (h : b ≠ 0) : (nrm t b).1 * b = t * (nrm t b).2 := by
  obtain ⟨e1, e2⟩ := sg_split (t := t) h
  show nT t b * b = t * nB t b
  generalize sg t b = g at *
  generalize nT t b = u at *
  generalize nB t b = v at *
  subst e1
  subst e2
  rw [← Int.mul_assoc, Int.mul_comm u g]
theorem red_ne {x : Int × Int} (h : Red x) : x.2 ≠ 0 := by have := h.1; omega
/-- equal crosswise: alike in lowest terms -/
theorem nrm_eq {t b u v : Int} (h : b ≠ 0) (h' : v ≠ 0) (e : t * v = u * b) : nrm t b = nrm u v := by
  refine red_eq (nrm_red h) (nrm_red h') ?_
  have c1 := nrm_cross (t := t) h
  have c2 := nrm_cross (t := u) h'
  generalize nrm t b = x at *
  generalize nrm u v = y at *
  refine Int.eq_of_mul_eq_mul_right (Int.mul_ne_zero h h') ?_
  calc x.1 * y.2 * (b * v) = (x.1 * b) * (y.2 * v) := by ac_rfl
    _ = (t * x.2) * (y.2 * v) := by rw [c1]
    _ = (t * v) * (x.2 * y.2) := by ac_rfl
    _ = (u * b) * (x.2 * y.2) := by rw [e]
    _ = (u * y.2) * (x.2 * b) := by ac_rfl
    _ = (y.1 * v) * (x.2 * b) := by rw [c2]
    _ = y.1 * x.2 * (b * v) := by ac_rfl
theorem nrm_self {x : Int × Int} (h : Red x) : nrm x.1 x.2 = x := red_eq (nrm_red (red_ne h)) h (by
  have c := nrm_cross (t := x.1) (red_ne h)
  exact c)
theorem nrm_inj {t b u v : Int} (h : b ≠ 0) (h' : v ≠ 0) : nrm t b = nrm u v ↔ t * v = u * b := by
  refine ⟨fun q => ?_, nrm_eq h h'⟩
  have c1 := nrm_cross (t := t) h
  have c2 := nrm_cross (t := u) h'
  have r := nrm_red (t := t) h
  rw [← q] at c2
  generalize nrm t b = x at *
  have n := red_ne r
  refine Int.eq_of_mul_eq_mul_right n ?_
  calc t * v * x.2 = (t * x.2) * v := by ac_rfl
    _ = (x.1 * b) * v := by rw [c1]
    _ = (x.1 * v) * b := by ac_rfl
    _ = (u * x.2) * b := by rw [c2]
    _ = u * b * x.2 := by ac_rfl
/-- the numbers of a fraction in lowest terms may be put for those it was made of -/
theorem red_neg {x : Int × Int} (h : Red x) : Red (0 - x.1, x.2) := ⟨h.1, by
  have e : ((0 - x.1, x.2) : Int × Int).1.natAbs = x.1.natAbs := by
    show (0 - x.1).natAbs = _
    omega
  rw [e]
  exact h.2⟩
theorem red_abs {x : Int × Int} (h : Red x) : Red ((if x.1 < 0 then -x.1 else x.1), x.2) := ⟨h.1, by
  have e : (((if x.1 < 0 then -x.1 else x.1), x.2) : Int × Int).1.natAbs = x.1.natAbs := by
    show (if x.1 < 0 then -x.1 else x.1).natAbs = _
    split <;> omega
  rw [e]
  exact h.2⟩
end DL
end

section
set_option linter.all false
set_option maxRecDepth 100000
set_option maxHeartbeats 4000000
set_option exponentiation.threshold 100
namespace DL
open PySem PySem.Spec PyProof.Rows L2
section
variable {X : Cx} {C : Addr} {pt : Option Addr} {ρ : Rho} {k : Nat} {a b e o : Expr} {es : List Expr} {x y z d : D} {ds : List D} {pos p : Pos} {n m : Str}
/-- repr of a list of data, nothing else being shown -/
theorem f_reprD {ds : List D} {i : Str} (hg : X.A.guards = some []) (hr : Room k X.A) (px : isPs ds = true) (hs : (toP (.lst ds)).showable = true) (hd : (toP (.lst ds)).hasDict = false) (hp : (toP (.lst ds)).depth < 60) (hz : (toP (.lst ds)).shown.length ≤ sizeLine) (hi : (toP (.lst ds)).shown = i) :
    ∃ r, CallR X (.builtin "repr") r ∧ RnD C pt r [.lst ds] (.str i) := ⟨fun vs H Q => ∃ G, Bef pt G H ∧ IsL C G vs [.lst ds] ∧ ∀ w G2 H2, Aft pt G H G2 H2 → Is C G2 w (.str i) → Q w H2, fun pins s σ H vs us Q I r h => by
    obtain ⟨G, b, i1, q⟩ := h
    obtain ⟨v, rfl, h0⟩ := isl1 i1
    have dp := dp_of (K := X.K) b.sub (show isP (.lst ds) = true from px) h0
    cases h0 with
    | lst h1 r1 =>
      obtain ⟨u, rfl, ru⟩ := vals1 r
      obtain ⟨as, rd⟩ := dp.reads I _ _ u ru
      cases ru
      have hu := hr.units
      refine repr_of_reads' (h₀ := s.heap) rd hs (fun z => by rw [hd] at z; cases z) hg (by omega) (fun _ _ e => e) (fun h' u tk hk => ?_) hz
      rw [hi]
      exact ⟨.str i, H, I.kept hk, ⟨u, rfl⟩, q (.str i) G H (Aft.refl b) (.str i)⟩, fun G H b vs hi Q k => ⟨G, b, hi, k⟩⟩
theorem o_neSs {i : Str} : OpB X C pt (compareOp .NotEq) (.str i) (.str i) (.bl false) := by
  have h := o_neS (X := X) (C := C) (pt := pt) (i := i) (j := i)
  rw [decide_eq_true rfl] at h
  exact h
end
/-- all that the program and the law's small defs promise -/
structure Al (P : Program) (w : World) (K : PySem.W.Frag) (mg : Str → Option Value) (base : Heap) (C : Addr) : Prop where
  T : Rt K mg C
  z : ∀ n ∈ (["int", "abs", "max", "len", "str", "repr", "isinstance", "list", "tuple", "range", "divmod", "bool"] : List Str), mg n = none
  isI : Gd P w K mg base C 1 "is_integer" RII
  isN : Gd P w K mg base C 2 "is_number" RIN
  isC : Gd P w K mg base C 2 "is_count" RIC
  ck : Ck P w K mg base C 2
  pSign : Pd P w K mg base C 1 "sign" RSign
  pWhole : Pd P w K mg base C 1 "is_whole" RWhole
  iAdd : OpI K C .Add
  iSub : OpI K C .Sub
  iMul : OpI K C .Mult
  mAdd : Md P w K mg base C 4 (PySem.dunder "add") (R2op 2000 gAdd)
  mSub : Md P w K mg base C 4 (PySem.dunder "sub") (R2op 2000 gSub)
  mMul : Md P w K mg base C 4 (PySem.dunder "mul") (R2op 2000 gMul)
  mRadd : Md P w K mg base C 5 (PySem.dunderR "add") (Rri gAdd)
  mRsub : Md P w K mg base C 5 (PySem.dunderR "sub") (Rri gRsub)
  mRmul : Md P w K mg base C 5 (PySem.dunderR "mul") (Rri gMul)
  mNeg : Md P w K mg base C 4 "__neg__" RNeg
  mSize : Md P w K mg base C 4 "size" RSize
  mBelow : Md P w K mg base C 4 "is_below" (R2op 2000 gBelow)
  mMost : Md P w K mg base C 4 "is_at_most" (R2op 2000 gAtMost)
  mOver : ∃ f fd, PySem.W.findIn K (.ref C) "over" = some (some (.ref f)) ∧ PySem.W.keepIn K (.ref f) = true ∧ PySem.W.isFn K (.ref f) = true ∧ FnOk P w K mg base CX0 4 f fd ["self", "other"] (Ct C ROver) ∧ Binds K fd ["self", "other"] [] ∧ KB K fd ["self", "other"] ["other"]
  mEq : Md P w K mg base C 1 "__eq__" REq
  mStr : Md P w K mg base C 1 "__str__" (RShow shownS)
  mRepr : Md P w K mg base C 1 "__repr__" (RShow reprS)
  mTot : ∃ mc q f fd, ClX.CRead K C mc ∧ ClX.CMet K C mc "total" q f ∧ FnOk P w K mg base CX0 4 f fd ["cls", "numbers"] (Ct C (RTotal C)) ∧ Binds K fd ["cls", "numbers"] [] ∧ KB K fd ["cls", "numbers"] ["numbers"]
  low : Gd P w K mg base C 1 "_law_low" RLow
  sum : Gd P w K mg base C 2 "_law_sum" (RP2 3000 pSum)
  by_ : Gd P w K mg base C 2 "_law_by" (RP2 3000 pBy)
  less : Gd P w K mg base C 3 "_law_less" (RP2 3000 pLess)
  over : Gd P w K mg base C 2 "_law_over" ROverP
  tot : Gd P w K mg base C 3 "_law_total" RTotP
  pair : Gd P w K mg base C 3 "_law_pair" RPair
  pairs : Gd P w K mg base C 4 "_law_pairs" RPairs
  shown : Gd P w K mg base C 1 "_law_shown" RShown
abbrev sOne : Stmt := top 26
section
variable {P : Program} {w : World} {K : PySem.W.Frag} {mg : Str → Option Value} {base : Heap} {C f : Addr} {fd : FuncData}
def ROne : Option Addr → List D → (D → Prop) → Prop := fun pt ds R => ∃ x, ds = [pr x] ∧ okp 300 x ∧ R = fun d => d = .bl true
theorem scOne : FnScope ["_law_raw_here", "_law_made", "_law_pair_here", "_law_sign"] ["_law_raw_here"] (defScope sOne) := ⟨rfl, rfl, rfl, by decide +kernel, rfl, by decide +kernel, by decide +kernel⟩
theorem mk_red {x : Int × Int} (h : Red x) : mk x.1 x.2 = rt x := by
  have := nrm_self h
  show D.rat (nT x.1 x.2) (nB x.1 x.2) = rt x
  show rt (nrm x.1 x.2) = rt x
  rw [this]
theorem mk_negR {x : Int × Int} (h : Red x) : mk (-x.1) x.2 = rt (0 - x.1, x.2) := by
  rw [show -x.1 = 0 - x.1 by omega]
  exact mk_red (red_neg h)
theorem rsub0 {x : Int × Int} (h : Red x) : gRsub x (0, 1) = rt (0 - x.1, x.2) := by
  have e := nrm_self (red_neg h)
  have e1 : nT (-x.1) x.2 = 0 - x.1 := by rw [show -x.1 = 0 - x.1 by omega]; exact congrArg Prod.fst e
  have e2 : nB (-x.1) x.2 = x.2 := by rw [show -x.1 = 0 - x.1 by omega]; exact congrArg Prod.snd e
  show mk (nT (-x.1) x.2 * 1 + 0 * nB (-x.1) x.2) (nB (-x.1) x.2 * 1) = _
  rw [e1, e2, Int.mul_one, Int.mul_one, Int.zero_mul, Int.add_zero]
  exact mk_red (red_neg h)
theorem sgn_eq (t : Int) : sgnI t = if t = 0 then 0 else if 0 < t then 1 else -1 := by
  unfold sgnI
  split <;> split <;> (try split) <;> omega
theorem sgn_cases (t : Int) : sgnI t = 0 ∨ sgnI t = 1 ∨ sgnI t = -1 := by
  unfold sgnI
  split
  · exact .inr (.inr rfl)
  · split
    · exact .inr (.inl rfl)
    · exact .inl rfl
theorem okv_of {n : Nat} {x : Int × Int} (h : okp n x) : okv n (rt x) := ⟨trivial, h.1, h.2.1, h.2.2⟩
theorem okp_mono {n m : Nat} {x : Int × Int} (h : okp n x) (l : n ≤ m) : okp m x := ⟨h.1, bd_mono h.2.1 l, bd_mono h.2.2 l⟩
theorem len5 (a : Int) (b : Int) (ha : Bd 1900 a) (hb : Bd 1900 b) : (((("Ratio(" : Str) ++ (toString a : Str)) ++ (", " : Str)) ++ (toString b : Str)).length + (")" : Str).length ≤ 100000 ∧ ((("Ratio(" : Str) ++ (toString a : Str)) ++ (", " : Str)).length + (toString b : Str).length ≤ 100000 ∧ (("Ratio(" : Str) ++ (toString a : Str)).length + (", " : Str).length ≤ 100000 ∧ ("Ratio(" : Str).length + (toString a : Str).length ≤ 100000 := by
  have l1 := toStr_len ha
  have l2 := toStr_len hb
  have l3 : ("Ratio(" : Str).length = 6 := by decide +kernel
  have l4 : (", " : Str).length = 2 := by decide +kernel
  have l5 : (")" : Str).length = 1 := by decide +kernel
  simp only [Str.length_append]
  omega
theorem bd_0 {n : Nat} : Bd n 0 := Nat.two_pow_pos n
theorem rep_ok (c : Bool) (t : Int) (h : t = 0 ∨ t = 1 ∨ t = -1) : (toP (.lst [.int t, .bl c])).showable = true ∧ (toP (.lst [.int t, .bl c])).depth < 60 ∧ (toP (.lst [.int t, .bl c])).shown.length ≤ sizeLine := by
  rcases h with rfl | rfl | rfl <;> cases c <;> decide +kernel
theorem ok_one (a : Al P w K mg base C) (F : Fun K "_law_one_right" "_law_one_right" sOne f fd) (hb : Binds K fd ["_law_raw_here"] []) : DfG P w K mg base C 7 f ROne :=
  dfG_mk F scOne hb (fun pt ds R h => by obtain ⟨_, rfl, _⟩ := h; rfl) fun cdv A outer s H pt ds R hgs hr h => by
    obtain ⟨x, rfl, hx, rfl⟩ := h
    have hu := hr.units
    have T := a.T
    refine s_par (x := rt (nrm x.1 x.2)) (y := pr (nrm x.1 x.2)) 1 2 rfl scOne.nd rfl rfl (by decide) rfl rfl (d_make T a.ck (hr.mono (by decide)) (a_cons (d_p0 (vr 0)) (a_cons (d_p1 (vr 0)) a_nil)) hx.1 (bd_mono hx.2.1 (by decide)) (bd_mono hx.2.2 (by decide))) (d_callG a.low (hr.mono (by decide)) (a_cons (d_p0 (vr 0)) (a_cons (d_p1 (vr 0)) a_nil)) ⟨_, _, rfl, hx.1, bd_mono hx.2.1 (by decide), bd_mono hx.2.2 (by decide), rfl⟩) ?_
    have ry := nrm_red (t := x.1) hx.1
    have oy := nrm_ok (n := 300) hx.1 hx.2.1 hx.2.2
    generalize hy : nrm x.1 x.2 = y at *
    have y1 : Bd 1900 y.1 := bd_mono oy.2.1 (by decide)
    have y2 : Bd 1900 y.2 := bd_mono oy.2.2 (by decide)
    refine s_skip (EvW.t (w_or (c1 := false) (c2 := false) (t_cmpB (o_neSame (x := pr y) hu rfl rfl) (d_callG a.pair (hr.mono (by decide)) (a_cons (vr 1) a_nil) ⟨y, rfl, rfl⟩) (vr 2)) ⟨_, pw_or1 (pt_w _), fun _ => ?_⟩)) ?_
    · obtain ⟨fs, hs, Ds⟩ := a.mStr.ex
      obtain ⟨r, hc, hr'⟩ := f_strR (X := bx P w K mg base ["_law_raw_here", "_law_made", "_law_pair_here", "_law_sign"] "_law_one_right" (defScope sOne) f cdv A outer s H E0) (C := C) (pt := pt) hs Ds (hr.mono (by decide)) ⟨y.1, y.2, rfl, y1, y2, rfl⟩
      exact t_cmpB o_neSs (d_callTy hc rfl (a.z "str" (by decide +kernel)) (by decide +kernel) (a_cons (vr 1) a_nil) hr') (d_callG a.shown (hr.mono (by decide)) (a_cons (vr 2) a_nil) ⟨y, rfl, y1, y2, rfl⟩)
    refine s_skip (t_cmpB (x := .str (reprS y.1 y.2)) (y := .str (reprS y.1 y.2)) o_neSs ?_ ?_) ?_
    · obtain ⟨fs, hs, Ds⟩ := a.mRepr.ex
      obtain ⟨r, hc, hr'⟩ := f_reprR (X := bx P w K mg base ["_law_raw_here", "_law_made", "_law_pair_here", "_law_sign"] "_law_one_right" (defScope sOne) f cdv A outer s H E0) (C := C) (pt := pt) hs Ds (hr.mono (by decide)) ⟨y.1, y.2, rfl, y1, y2, rfl⟩
      exact d_callB hc rfl (a.z "repr" (by decide +kernel)) (by decide +kernel) (a_cons (vr 1) a_nil) hr'
    · obtain ⟨l1, l2, l3, l4⟩ := len5 y.1 y.2 y1 y2
      exact d_binB (o_addS l1) (d_binB (o_addS l2) (d_binB (o_addS l3) (d_binB (o_addS l4) d_str (d_callTy call_str_int rfl (a.z "str" (by decide +kernel)) (by decide +kernel) (a_cons (d_p0 (x := y) (vr 2)) a_nil) (f_str y1))) d_str) (d_callTy call_str_int rfl (a.z "str" (by decide +kernel)) (by decide +kernel) (a_cons (d_p1 (x := y) (vr 2)) a_nil) (f_str y2))) d_str
    refine s_set 3 scOne.nd rfl (.inl rfl) (d := .int (sgnI y.1)) ?_ ?_
    · rw [sgn_eq]
      refine d_if (t_cmpB o_eq (d_p0 (x := y) (vr 2)) d_int) (fun q => ?_) fun q => ?_
      · rw [if_pos (of_decide_eq_true q)]
        exact d_int
      · rw [if_neg (of_decide_eq_false q)]
        refine d_if (t_cmpB o_gt (d_p0 (x := y) (vr 2)) d_int) (fun q => ?_) fun q => ?_
        · rw [if_pos (of_decide_eq_true q)]
          exact d_int
        · rw [if_neg (of_decide_eq_false q)]
          exact d_un un_neg d_int u_neg
    refine s_skip ?_ ?_
    · obtain ⟨r, hc, hr'⟩ := f_reprD (X := bx P w K mg base ["_law_raw_here", "_law_made", "_law_pair_here", "_law_sign"] "_law_one_right" (defScope sOne) f cdv A outer s H E0) (C := C) (pt := pt) (ds := [.int (sgnI y.1), .bl (decide (y.2 = 1))]) (i := (toP (.lst [.int (sgnI y.1), .bl (decide (y.2 = 1))])).shown) hgs hr rfl (rep_ok _ _ (sgn_cases y.1)).1 rfl (rep_ok _ _ (sgn_cases y.1)).2.1 (rep_ok _ _ (sgn_cases y.1)).2.2 rfl
      exact t_cmpB o_neSs (d_callB hc rfl (a.z "repr" (by decide +kernel)) (by decide +kernel) (a_cons (d_ls (a_cons (d_propG T a.pSign (hr.mono (by decide)) (vr 1) ⟨y.1, y.2, rfl, rfl⟩) (a_cons (d_propG T a.pWhole (hr.mono (by decide)) (vr 1) ⟨y.1, y.2, rfl, rfl⟩) a_nil))) a_nil) hr') (d_callB hc rfl (a.z "repr" (by decide +kernel)) (by decide +kernel) (a_cons (d_ls (a_cons (vr 3) (a_cons (d_cmpB o_eq (d_p1 (x := y) (vr 2)) d_int) a_nil))) a_nil) hr')
    have ny : okv 2000 (rt y) := okv_of (okp_mono oy (by decide))
    refine s_skip (t_cmpB (o_neSame (x := pr ((if y.1 < 0 then -y.1 else y.1), y.2)) hu rfl rfl) (d_callG a.pair (hr.mono (by decide)) (a_cons (d := rt ((if y.1 < 0 then -y.1 else y.1), y.2)) ?_ a_nil) ⟨_, rfl, rfl⟩) (d_tp (a_cons (d_callB call_abs rfl (a.z "abs" (by decide +kernel)) (by decide +kernel) (a_cons (d_p0 (x := y) (vr 2)) a_nil) f_abs) (a_cons (d_p1 (x := y) (vr 2)) a_nil)))) ?_
    · obtain ⟨fs, hs, Ds⟩ := a.mSize.ex
      exact d_meth0 T Ds (vr 1) ⟨y.1, y.2, rfl, ny, (mk_red (red_abs ry)).symm⟩ fun fd ps F B => pe_meth0 (pe_w _) T.cl ⟨hs, Ds.fn, Ds.kp⟩ F (hr.mono (by decide)) B .nil (pass0 (X := bx P w K mg base ["_law_raw_here", "_law_made", "_law_pair_here", "_law_sign"] "_law_one_right" (defScope sOne) f cdv A outer s H E0))
    refine s_skip (EvW.t (w_or (c1 := false) (c2 := false) (t_cmpB (o_neSame (x := pr (0 - y.1, y.2)) hu rfl rfl) (d_callG a.pair (hr.mono (by decide)) (a_cons (d := rt (0 - y.1, y.2)) ?_ a_nil) ⟨_, rfl, rfl⟩) (d_tp (a_cons (d_binB o_sub d_int (d_p0 (x := y) (vr 2))) (a_cons (d_p1 (x := y) (vr 2)) a_nil)))) ⟨_, pw_or1 (pt_w _), fun _ => t_cmpB (o_neSame (x := pr (0 - y.1, y.2)) hu rfl rfl) (d_callG a.pair (hr.mono (by decide)) (a_cons (d := rt (0 - y.1, y.2)) ?_ a_nil) ⟨_, rfl, rfl⟩) (d_tp (a_cons (d_binB o_sub d_int (d_p0 (x := y) (vr 2))) (a_cons (d_p1 (x := y) (vr 2)) a_nil)))⟩)) ?_
    · exact d_binB (op_irG T a.mSub a.mRsub PySem.F.fills_int_sub PySem.F.slot_int_sub PySem.F.entry_int_sub PySem.F.args_int_sub_2 (hr.mono (by decide)) ⟨y.1, y.2, 0, rfl, ny, bd_0, (rsub0 ry).symm⟩) d_int (vr 1)
    · obtain ⟨fs, hs, Ds⟩ := a.mNeg.ex
      exact d_negR T hs Ds (hr.mono (by decide)) (vr 1) ⟨y.1, y.2, rfl, ny, (mk_negR ry).symm⟩
    refine s_skip (t_cmpB (o_neSame (x := .lst [.bl true, .bl false, .bl false]) hu rfl rfl) (d_ls (a_cons (d_callG a.isN (hr.mono (by decide)) (a_cons (vr 1) a_nil) ⟨rt y, rfl, rfl, rfl⟩) (a_cons (d_callG a.isI (hr.mono (by decide)) (a_cons (vr 1) a_nil) ⟨rt y, rfl, rfl, rfl⟩) (a_cons (d_callG a.isC (hr.mono (by decide)) (a_cons (vr 1) a_nil) ⟨rt y, rfl, rfl, rfl⟩) a_nil)))) (d_ls (a_cons d_bl (a_cons d_bl (a_cons d_bl a_nil))))) ?_
    refine s_ret (d_cmpB (o_eqSame (x := pr y) hu rfl rfl) (d_callG a.pair (hr.mono (by decide)) (a_cons (d := rt y) ?_ a_nil) ⟨_, rfl, rfl⟩) (vr 2)) rfl
    rw [← hy]
    exact d_makeK T a.ck (hr.mono (by decide)) (k_cons (d_p0 (vr 0)) (k_cons (d_p1 (vr 0)) k_nil)) hx.1 (bd_mono hx.2.1 (by decide)) (bd_mono hx.2.2 (by decide)) fun _ _ _ _ M F B => pe_makeK0 M F (hr.mono (by decide)) (by exact rfl) T.mgC B (pass0 (X := bx P w K mg base ["_law_raw_here", "_law_made", "_law_pair_here", "_law_sign"] "_law_one_right" (defScope sOne) f cdv A outer s H E0)) (pk_w _)
end
end DL
end

section
set_option linter.all false
set_option maxRecDepth 100000
set_option maxHeartbeats 4000000
set_option exponentiation.threshold 100
/-! A list of the def's own that still grows. -/
namespace DL
open PySem PySem.Spec PyProof.Rows L2
def delA (G : Hp) (L : Addr) : Hp := fun a => if a = L then none else G a
mutual
def noL : D → Bool
  | .lst _ => false | .tup xs => noLs xs | _ => true
def noLs : List D → Bool
  | [] => true
  | x :: xs => noL x && noLs xs
end
section
variable {C : Addr} {G : Hp} {L : Addr} {ws : List V}
theorem del_ne {a : Addr} (h : a ≠ L) : delA G L a = G a := if_neg h
theorem del_same : delA G L L = none := if_pos rfl
mutual
theorem is_del (e : G L = some (.lst ws)) : ∀ {d : D} {v : V}, noL d = true → Is C G v d → Is C (delA G L) v d
  | .non, _, _, .non => .non
  | .bl b, _, _, .bl _ => .bl b
  | .int i, _, _, .int _ => .int i
  | .str x, _, _, .str _ => .str x
  | .lst _, _, n, _ => nomatch (show false = true from n)
  | .tup xs, _, n, .tup h r => .tup (by rw [del_ne]; exact h; intro z; subst z; rw [e] at h; cases h) (isL_del e (by simpa [noL] using n) r)
  | .rat _ _, _, _, .rat h => .rat (by rw [del_ne]; exact h; intro z; subst z; rw [e] at h; cases h)
  | .adr a, _, _, .adr _ => .adr a
  | .ty n, _, _, .ty _ => .ty n
theorem isL_del (e : G L = some (.lst ws)) : ∀ {ds : List D} {vs : List V}, noLs ds = true → IsL C G vs ds → IsL C (delA G L) vs ds
  | [], _, _, .nil => .nil
  | d :: ds, _, n, .cons h r => by
    have n' : noL d = true ∧ noLs ds = true := by simpa [noLs] using n
    exact .cons (is_del e n'.1 h) (isL_del e n'.2 r)
end
end
section
variable (C : Addr) (pt : Option Addr)
/-- a block behind which the list in slot i (its items ds) is the def's own, and nobody else's -/
def RunO (X : Cx) (i : Nat) (ds : List D) (ss : List Stmt) (ρ : Rho) (P : Out → Prop) : Prop := ∀ σ G H L vs G0 H0, EnvOk C G σ ρ → σ[i]? = some (some (.ref L)) → G L = none → H L = some (.lst vs) → IsL C G vs ds → Bef pt G0 H0 → H0 L = none → Aft pt G0 H0 G H → ∀ E : Ends,
  (∀ d v G2 H2, P (.ret d) → Aft pt G0 H0 G2 H2 → Is C G2 v d → E.rt v H2) → (∀ ρ' σ' G2 H2, P (.fall ρ') → Aft pt G0 H0 G2 H2 → EnvOk C G2 σ' ρ' → E.nx σ' H2) → wS X ss E σ H
end
section
variable {X : Cx} {C : Addr} {pt : Option Addr} {ρ : Rho} {P : Out → Prop} {rest : List Stmt} {e : Expr} {es : List Expr} {pos : Pos} {n m : Str} {ds es' : List D} {x y d : D} {i : Nat}
theorem setNone' {σ : L2.St} {G : Hp} {v : Option V} (h : EnvOk C G σ ρ) : EnvOk C G (σ.set i v) (ρ.set i none) := by
  refine ⟨by rw [List.length_set, List.length_set]; exact h.1, fun j d q => ?_⟩
  by_cases e : j = i
  · subst e
    by_cases hj : j < ρ.length
    · rw [List.getElem?_set_self hj] at q; cases q
    · rw [List.getElem?_eq_none (by rw [List.length_set]; omega)] at q; cases q
  · rw [List.getElem?_set_ne (fun z => e z.symm)] at q ⊢
    exact h.2 j d q
/-- it grows no more -/
theorem o_close (hi : i < ρ.length) (h : RunP C pt X rest (ρ.set i (some (.lst ds))) P) : RunO C pt X i ds rest ρ P := fun σ G H L vs G0 H0 en hσ g hH hv b0 h0 a E k1 k2 => by
  have a' : Aft pt G0 H0 (upd G L (.lst vs)) H := Aft.fixD b0 a h0 g hH
  have en' : EnvOk C (upd G L (.lst vs)) σ (ρ.set i (some (.lst ds))) := by
    refine ⟨by rw [List.length_set]; exact en.1, fun j d q => ?_⟩
    by_cases e : j = i
    · subst e
      rw [List.getElem?_set_self hi] at q
      cases q
      exact ⟨_, hσ, .lst upd_same (hv.mono (same_upd g))⟩
    · rw [List.getElem?_set_ne (fun z => e z.symm)] at q
      obtain ⟨v, h1, h2⟩ := en.2 j d q
      exact ⟨v, h1, h2.mono (same_upd g)⟩
  exact h σ _ H en' (a'.bef b0) E (fun d v G2 H2 p a2 i2 => k1 d v G2 H2 p (a'.trans b0 a2) i2) fun ρ' σ' G2 H2 p a2 e2 => k2 ρ' σ' G2 H2 p (a'.trans b0 a2) e2
/-- name = [..] -/
theorem o_lst {p' lp : Pos} (hN : X.N.Nodup) (hi : X.N[i]? = some n) (hx : Loc X.env.scope n) (hl : ds.length ≤ 100000) (hρ : i < ρ.length) (h : EvA C pt (wA X es) ρ ds) (hr : RunO C pt X i ds rest (ρ.set i none) P) (hs : swapsWith (.List es lp) (some (.Name n p')) pos.line X.env = pure false := by rfl)
    (hf : X.fn n = true ∨ X.env.scope.names.lookup n = some .local := by first | exact .inl rfl | exact .inr rfl | assumption) : RunP C pt X (.Assign [.Name n p'] (.List es lp) pos :: rest) ρ P := fun σ G H en b E k1 k2 pins s I => by
  refine (pss_cons (ps_set hN hi hx (pe_lst (pa_w es)) hs hf) (ps_w rest)).run pins s σ H E I ?_
  refine h σ G H en b _ fun vs G1 H1 a1 i1 => ⟨by rw [i1.length]; exact Nat.le_trans hl (by rw [sizeLine_eq]; decide), fun L hL => ?_⟩
  have b1 := a1.bef b
  refine hr (σ.set i (some (.ref L))) G1 (upd H1 L (.lst vs)) L vs G H (setNone' (en.mono a1.g)) ?_ (b1.free hL) upd_same i1 b (a1.back b hL) (a1.trans b (Aft.open_ b1 hL)) E k1 k2
  rw [List.getElem?_set_self (by rw [en.1]; exact hρ)]
/-- the frame's values while the list is read as it is now -/
theorem o_look {σ : L2.St} {G : Hp} {L : Addr} {vs : List V} (en : EnvOk C G σ ρ) (hi : i < ρ.length) (hσ : σ[i]? = some (some (.ref L))) (g : G L = none) (hv : IsL C G vs ds) : EnvOk C (upd G L (.lst vs)) σ (ρ.set i (some (.lst ds))) := by
  refine ⟨by rw [List.length_set]; exact en.1, fun j d q => ?_⟩
  by_cases e : j = i
  · subst e
    rw [List.getElem?_set_self hi] at q
    cases q
    exact ⟨_, hσ, .lst upd_same (hv.mono (same_upd g))⟩
  · rw [List.getElem?_set_ne (fun z => e z.symm)] at q
    obtain ⟨v, h1, h2⟩ := en.2 j d q
    exact ⟨v, h1, h2.mono (same_upd g)⟩
/-- what holds behind a growth -/
theorem grown {G H G0 H0 G2 H2 : Hp} {L : Addr} {vs : List V} {o : HO} (b0 : Bef pt G0 H0) (h0 : H0 L = none) (g : G L = none) (hH : H L = some (.lst vs)) (a : Aft pt G0 H0 G H) (a2 : Aft pt (upd G L (.lst vs)) H G2 H2) :
    Same G (delA G2 L) ∧ Aft pt G0 H0 (delA G2 L) (upd H2 L o) ∧ delA G2 L L = none ∧ G2 L = some (.lst vs) ∧ H2 L = some (.lst vs) := by
  have a' : Aft pt G0 H0 (upd G L (.lst vs)) H := Aft.fixD b0 a h0 g hH
  have a02 := a'.trans b0 a2
  have e2 : G2 L = some (.lst vs) := a2.g _ _ upd_same
  have hp := Aft.ptne b0 h0
  refine ⟨fun x u q => ?_, ⟨fun x u q => ?_, fun x u q => ?_, fun x u hx q => ?_, fun x u q => ?_, fun p q => ?_⟩, del_same, e2, a2.sub _ _ e2⟩
  · have ne := ne_of_none q g
    rw [del_ne ne]
    exact a2.g x u (by rw [upd_ne ne]; exact q)
  · have ne : x ≠ L := ne_of_none q (b0.free h0)
    rw [del_ne ne]
    exact a02.g x u q
  · by_cases z : x = L
    · subst z; rw [del_same] at q; cases q
    · rw [del_ne z] at q
      rw [upd_ne z]
      exact a02.sub x u q
  · have ne : x ≠ L := ne_of_none q h0
    rw [upd_ne ne]
    exact a02.keep x u hx q
  · by_cases z : x = L
    · subst z; rw [del_same] at q; cases q
    · rw [del_ne z] at q
      exact a02.fr x u q
  · have ne : p ≠ L := fun z => by subst z; exact hp q
    obtain ⟨i, j, e1, r⟩ := a02.pot p q
    exact ⟨i, j, by rw [upd_ne ne]; exact e1, r⟩
/-- name.append(e) -/
theorem o_app {p1 p2 p3 p4 : Pos} (hρ : i < ρ.length) (hN : X.N[i]? = some n) (hvis : Vis X.env.scope n) (hl : ds.length < 100000) (hd : noL d = true) (h : EvD C pt (wE X e) (ρ.set i (some (.lst ds))) d) (hr : RunO C pt X i (ds ++ [d]) rest ρ P)
    (hp : PE X (.Call (.Attribute (.Name n p1) "append" p2) [e] [] p3) (tBM X.K "list" rAppend (tVar i) (wA X [e]))) (hst : starEach [e] X.env = (false, eval e X.env) :: starEach [] X.env := by rfl) (hs : swapsWith (.Call (.Attribute (.Name n p1) "append" p2) [e] [] p3) none p4.line X.env = pure false := by rfl) :
    RunO C pt X i ds (.Expr (.Call (.Attribute (.Name n p1) "append" p2) [e] [] p3) p4 :: rest) ρ P := fun σ G H L vs G0 H0 en hσ g hH hv b0 h0 a E k1 k2 pins s I => by
  refine (pss_cons (ps_expr hp hs) (ps_w rest)).run pins s σ H E I ?_
  have b' : Bef pt (upd G L (.lst vs)) H := (Aft.fixD b0 a h0 g hH).bef b0
  refine ⟨.ref L, hσ, .inl ⟨rfl, vs, SqL.of hH⟩, a_cons h a_nil hst σ (upd G L (.lst vs)) H (o_look en hρ hσ g hv) b' _ fun us G2 H2 a2 i2 => ?_⟩
  obtain ⟨u, rfl, iu⟩ := isl1 i2
  obtain ⟨sm, a3, g3, e2, hH2⟩ := grown (o := .lst (vs ++ [u])) b0 h0 g hH a a2
  refine ⟨L, vs, u, rfl, rfl, hH2, by rw [hv.length, sizeLine_eq]; omega, ?_⟩
  exact hr σ (delA G2 L) _ L (vs ++ [u]) G0 H0 (en.mono sm) hσ g3 upd_same ((hv.mono sm).append (.cons (is_del e2 hd iu) .nil)) b0 h0 a3 E k1 k2
/-- name.extend([..]) -/
theorem o_ext {p1 p2 p3 p4 lp : Pos} (hρ : i < ρ.length) (hN : X.N[i]? = some n) (hvis : Vis X.env.scope n) (hl : ds.length + es'.length ≤ 100000) (hd : noLs es' = true) (h : EvA C pt (wA X es) (ρ.set i (some (.lst ds))) es') (hr : RunO C pt X i (ds ++ es') rest ρ P)
    (hp : PE X (.Call (.Attribute (.Name n p1) "extend" p2) [.List es lp] [] p3) (tBM X.K "list" rExtend (tVar i) (wA X [.List es lp]))) (hst : starEach [.List es lp] X.env = (false, eval (.List es lp) X.env) :: starEach [] X.env := by rfl) (hs : swapsWith (.Call (.Attribute (.Name n p1) "extend" p2) [.List es lp] [] p3) none p4.line X.env = pure false := by rfl) :
    RunO C pt X i ds (.Expr (.Call (.Attribute (.Name n p1) "extend" p2) [.List es lp] [] p3) p4 :: rest) ρ P := fun σ G H L vs G0 H0 en hσ g hH hv b0 h0 a E k1 k2 pins s I => by
  refine (pss_cons (ps_expr hp hs) (ps_w rest)).run pins s σ H E I ?_
  have b' : Bef pt (upd G L (.lst vs)) H := (Aft.fixD b0 a h0 g hH).bef b0
  refine ⟨.ref L, hσ, .inl ⟨rfl, vs, SqL.of hH⟩, a_cons (d_lst h (by omega)) a_nil hst σ (upd G L (.lst vs)) H (o_look en hρ hσ g hv) b' _ fun us G2 H2 a2 i2 => ?_⟩
  obtain ⟨u, rfl, iu⟩ := isl1 i2
  cases iu with
  | @lst q ws _ hq rq =>
    obtain ⟨sm, a3, g3, e2, hH2⟩ := grown (o := .lst (vs ++ ws)) b0 h0 g hH a a2
    refine ⟨L, q, vs, ws, rfl, rfl, hH2, a2.sub _ _ hq, by rw [hv.length, rq.length, sizeLine_eq]; omega, ?_⟩
    exact hr σ (delA G2 L) _ L (vs ++ ws) G0 H0 (en.mono sm) hσ g3 upd_same ((hv.mono sm).append (isL_del e2 hd rq)) b0 h0 a3 E k1 k2
/-- name = [elt for x in range(..)] -/
theorem o_lcR {l : Nat} {elt t : Expr} {num : Nat} {R : Nat → D → Prop} {scope : Scope} {p p' p'' py spos : Pos} {yn : Str} (hc : X.calm = true) (hN : X.N.Nodup) (hy : X.N[l]? = some yn) (hyl : X.env.scope.names.lookup yn = some .local) (hsw : swapsWith (.ListComp elt [⟨.Name n p, .Call (.Name "range" p') [t] [] p'', [], 0⟩] scope pos) (some (.Name yn py)) spos.line X.env = pure true)
    (ok : BlkOk X.N X.env.scope scope [(n, i)]) (hgr : Gl X "range") (hm : X.mg "range" = none) (h : EvD C pt (wE X t) ρ (.int (num : Nat))) (hz : num ≤ 100000) (hρ : l < ρ.length)
    (hg : ∀ (s : Shared) (H : Hp) (C : Addr) (cl : List (Str × Addr)) (fp : List Addr), PG (X.blk s H scope (compEnvC scope cl C X.env) fp) (.Name n p) (gName i))
    (he : ∀ j : Nat, j < num → ∀ s H' Ca cl fp, EvP C pt (wE (X.blk s H' scope (compEnvC scope cl Ca X.env) fp) elt) ((wipeD ρ [i]).set i (some (.int (j : Nat)))) (R j))
    (hr : ∀ fs, fs.length = num → (∀ (q : Nat) z, fs[q]? = some z → R q z) → RunO C pt X l fs rest (ρ.set l none) P) (hst : starEach [t] X.env = [(false, eval t X.env)] := by rfl) (hs : ∀ x, foldedSetIterable (.Call (.Name "range" p') [t] [] p'') X.env x = pure x := by intro _; rfl) :
    RunP C pt X (.Assign [.Name yn py] (.ListComp elt [⟨.Name n p, .Call (.Name "range" p') [t] [] p'', [], 0⟩] scope pos) spos :: rest) ρ P := fun σ G H en b E k1 k2 pins s I => by
  refine (pss_cons (ps_setLc (i := l) (own := [(n, i)]) (g := gName i) (tt := tYes) (te := wB X scope elt) hc hN hy hyl hsw (pi_range1 hgr hm (pa_w [t]) hst) ok hg (fun _ _ _ _ _ => pts_nil) (fun s H C cl fp => ⟨fun pins s' σ H' Q I q => q s H C cl fp pins s' I⟩) hs) (ps_w rest)).run pins s σ H E I ?_
  refine a_cons h a_nil hst σ G H en b _ fun vs G1 H1 a1 i1 => ?_
  obtain ⟨v, rfl, g1⟩ := isl1 i1
  cases isI g1
  have b1 := a1.bef b
  refine ⟨(num : Nat), rfl, by omega, by omega, fun L hL => lc_range (lo := 0) (n := ((num : Nat) : Int).toNat) (fun j H' => Grow C pt R G1 H1 L j H') (grow_0 b1 hL) (fun j H' hj q => ?_) (fun H' q => ?_)⟩
  · obtain ⟨G', acc, fs, a', g', e', r, hl, hR⟩ := q
    refine ⟨by simp [wipe], ?_⟩
    show wB X scope elt _ H' _
    have ej : (0 : Int) + (j : Nat) = ((j : Nat) : Int) := Int.zero_add _
    rw [ej]
    refine EvP.wB (he j (by omega)) _ G' H' ((((en.mono a1.g).mono a'.g).wipe [i]).set (.int _)) (a'.bef b1) _ fun d2 v2 G2 H2 p2 a2 i2 => ?_
    obtain ⟨e2, gr⟩ := grow_1 b1 hL a' g' e' r hl hR a2 i2 p2
    exact ⟨acc, e2, by rw [r.length, hl, sizeLine_eq]; omega, gr⟩
  · have en' : ((num : Nat) : Int).toNat = num := by omega
    rw [en'] at q
    obtain ⟨G', acc, fs, a', g', e', r, hl, hR⟩ := q
    refine hr fs hl hR (σ.set l (some (.ref L))) G' H' L acc G H (setNone' ((en.mono a1.g).mono a'.g)) ?_ g' e' r b (a1.back b hL) (a1.trans b a') E k1 k2
    rw [List.getElem?_set_self (by rw [en.1]; exact hρ)]
end
end DL
end

section
set_option linter.all false
set_option maxRecDepth 100000
set_option maxHeartbeats 4000000
set_option exponentiation.threshold 100
namespace DL
open PySem PySem.Spec PyProof.Rows L2
section
variable {X : Cx} {C : Addr} {pt : Option Addr} {ρ : Rho} {k : Nat} {Rel : List D → D → Prop} {a b e o : Expr} {es : List Expr} {x y z d : D} {ds : List D} {pos p apos : Pos} {n m : Str} {P : Out → Prop} {rest : List Stmt}
/-- a, b, c = x, y, z -/
theorem s_par3 {n m l : Str} {p1 p2 p3 p4 p5 : Pos} {k1' k2' a1 a2 a3} {x y z : D} (i j h : Nat) (hc : X.calm = true) (hN : X.N.Nodup) (hi : X.N[i]? = some n) (hj : X.N[j]? = some m) (hh : X.N[h]? = some l) (hij : i ≠ j) (hil : i ≠ h) (hjl : j ≠ h) (hx : X.env.scope.names.lookup n = some .local) (hy : X.env.scope.names.lookup m = some .local) (hz : X.env.scope.names.lookup l = some .local)
    (h1 : EvA C pt (wA X [a1, a2, a3]) ρ [x, y, z]) (hr : RunP C pt X rest (((ρ.set i (some x)).set j (some y)).set h (some z)) P)
    (hw : swappedStores [.Tuple [.Name n p1, .Name m p2, .Name l p3] k1' p4] (.Tuple [a1, a2, a3] k2' p5) X.env = pure (some [n, m, l]) := by rfl) (hs : swapsWithSole [.Tuple [.Name n p1, .Name m p2, .Name l p3] k1' p4] (.Tuple [a1, a2, a3] k2' p5) pos.line X.env = pure false := by rfl) :
    RunP C pt X (.Assign [.Tuple [.Name n p1, .Name m p2, .Name l p3] k1' p4] (.Tuple [a1, a2, a3] k2' p5) pos :: rest) ρ P :=
  s_of (ps_par3 hc hN hi hj hh hij hil hjl hx hy hz (pa_w _) hw hs) fun σ G H en b E k1 k2 => h1 σ G H en b _ fun vs G1 H1 a1 i1 => by
    cases i1 with
    | cons i1 r1 =>
      obtain ⟨v, u, rfl, g1, g2⟩ := isl2 r1
      exact ⟨_, _, _, rfl, k2 _ _ G1 H1 hr a1 ((((en.mono a1.g).set i1).set g1).set g2)⟩
theorem d_methG {pl : Sem Bool} {t b' : Int} (T : Rt X.K X.mg C) (g : Md X.prog X.w X.K X.mg X.base C k m Rel) (hr : Room k X.A) (h : EvD C pt (wE X o) ρ (.rat t b')) (ha : EvA C pt (wA X (e :: es)) ρ ds) (hR : Rel (.rat t b' :: ds) z) (n1 : ¬ m = "_bottom" := by decide +kernel) (n2 : ¬ m = "_top" := by decide +kernel)
    (hst : starEach (e :: es) X.env = (false, eval e X.env) :: starEach es X.env := by rfl) (hpl : (backTo pos (starEach es X.env)).any (·.1) = false := by rfl)
    (ht : eval (.Call (.Attribute o m apos) (e :: es) [] pos) X.env = (do
      let ov ← eval o X.env
      standAt apos.atName
      let (f, first) ← holding [ov] (getMethod ov m pl)
      callWith pos f first (backTo pos (starEach (e :: es) X.env)) (backToKw pos (keywordEach [] X.env))) := by rfl) : EvD C pt (wE X (.Call (.Attribute o m apos) (e :: es) [] pos)) ρ z :=
  let ⟨_, hs, D'⟩ := g.ex
  d_meth T D' h ha hR (fun _ _ F B => pe_meth (pe_w _) T.cl ⟨hs, D'.fn, D'.kp⟩ F hr B .nil (pass0 (X := X)) (pa_w _) hst hpl ht) n1 n2
end
theorem le_d {n m : Nat} (h : Nat.ble n m = true := by rfl) : n ≤ m := Nat.le_of_ble_eq_true h
theorem lt_d {n m : Nat} (h : Nat.ble (n + 1) m = true := by rfl) : n < m := Nat.le_of_ble_eq_true h
abbrev sTwo : Stmt := top 27
theorem eqv_pr (y z : Int × Int) : PyData.eqv (toP (pr y)) (toP (pr z)) = (decide (y.1 = z.1) && decide (y.2 = z.2)) := by
  simp [pr, toP, toPs, PyData.eqv, PyData.eqvAll]
  rfl
section
variable {P : Program} {w : World} {K : PySem.W.Frag} {mg : Str → Option Value} {base : Heap} {C f : Addr} {fd : FuncData}
def RTwo : Option Addr → List D → (D → Prop) → Prop := fun pt ds R => ∃ x x' j, ds = [pr x, pr x', .int j] ∧ okp 300 x ∧ okp 300 x' ∧ Bd 300 j ∧ R = fun d => d = .bl true
theorem scTwo : FnScope ["_law_raw_here", "_law_other_raw", "_law_number", "_law_made", "_law_mate", "_law_one", "_law_two", "_law_whole", "_law_told", "_law_due", "_law_below", "_law_above"] ["_law_raw_here", "_law_other_raw", "_law_number"] (defScope sTwo) := ⟨rfl, rfl, rfl, by decide +kernel, rfl, by decide +kernel, by decide +kernel⟩
theorem gsub_less (y z : Int × Int) : gSub y z = rt (pLess y z) := by
  show mk (y.1 * z.2 - z.1 * y.2) (y.2 * z.2) = mk (y.1 * z.2 + (0 - z.1) * y.2) (y.2 * z.2)
  rw [Int.zero_sub, Int.neg_mul, Int.sub_eq_add_neg]
theorem grsub_less {y : Int × Int} (h : Red y) (j : Int) : gRsub y (j, 1) = rt (pLess (j, 1) y) := by
  have e := nrm_self (red_neg h)
  have e1 : nT (-y.1) y.2 = 0 - y.1 := by rw [show -y.1 = 0 - y.1 by omega]; exact congrArg Prod.fst e
  have e2 : nB (-y.1) y.2 = y.2 := by rw [show -y.1 = 0 - y.1 by omega]; exact congrArg Prod.snd e
  show mk (nT (-y.1) y.2 * 1 + j * nB (-y.1) y.2) (nB (-y.1) y.2 * 1) = mk (j * y.2 + (0 - y.1) * 1) (1 * y.2)
  rw [e1, e2, Int.add_comm, Int.mul_comm y.2 1]
theorem okp_one {j : Int} (h : Bd 300 j) : okp 300 (j, 1) := ⟨by show (1 : Int) ≠ 0; decide, h, by
  exact Nat.one_lt_two_pow (n := 300) (by decide)⟩
theorem and_ff (b : Bool) {X : Cx} {pt : Option Addr} {ρ : Rho} {e : Expr} (h : EvT C pt (wT X e) ρ (b && false)) : EvT C pt (wT X e) ρ false := by
  rw [Bool.and_false] at h
  exact h
theorem most_not (a b : Int) : decide (a ≤ b) = !decide (b < a) := by
  by_cases h : a ≤ b
  · rw [decide_eq_true h, decide_eq_false (by omega)]
    rfl
  · rw [decide_eq_false h, decide_eq_true (by omega)]
    rfl
theorem two_tail (a : Al P w K mg base C) {cdv : Value} {A : Around} {outer : List Env} {s : Shared} {H : Hp} {E : XK} {pt : Option Addr} {d1 d2 d8 d9 : D} {j : Int} {y z : Int × Int}
    (hr : Room 6 (bx P w K mg base ["_law_raw_here", "_law_other_raw", "_law_number", "_law_made", "_law_mate", "_law_one", "_law_two", "_law_whole", "_law_told", "_law_due", "_law_below", "_law_above"] "_law_two_right" (defScope sTwo) f cdv A outer s H E).A)
    (ry : Red y) (oy : okp 300 y) (rz : Red z) (oz : okp 300 z) (hj : Bd 300 j) :
    RunP C pt (bx P w K mg base ["_law_raw_here", "_law_other_raw", "_law_number", "_law_made", "_law_mate", "_law_one", "_law_two", "_law_whole", "_law_told", "_law_due", "_law_below", "_law_above"] "_law_two_right" (defScope sTwo) f cdv A outer s H E) ((defBody sTwo).drop 7) [some d1, some d2, some (.int j), some (rt y), some (rt z), some (pr y), some (pr z), some (pr (j, 1)), some d8, some d9, none, none]
      (fun o => match o with | .ret d => d = .bl true | .fall _ => False) := by
  have hu := hr.units
  have T := a.T
  have ow := okp_one hj
  have vy : okv 2000 (rt y) := okv_of (okp_mono oy (by decide))
  have vz : okv 2000 (rt z) := okv_of (okp_mono oz (by decide))
  have vj : okv 2000 (.int j) := okv_int (by decide) (bd_mono hj (by decide))
  have py : okp 3000 y := okp_mono oy (by decide)
  have pz : okp 3000 z := okp_mono oz (by decide)
  have pw : okp 3000 (j, 1) := okp_mono ow (by decide)
  have r1 := hr.mono (show 1 ≤ 6 by decide)
  have r2 := hr.mono (show 2 ≤ 6 by decide)
  have r3 := hr.mono (show 3 ≤ 6 by decide)
  have r4 := hr.mono (show 4 ≤ 6 by decide)
  have r5 := hr.mono (show 5 ≤ 6 by decide)
  obtain ⟨fo, fdo, o1, o2, o3, o4, o5, o6⟩ := a.mOver
  have mo : Md P w K mg base C 4 "over" ROver := ⟨fo, o1, ⟨⟨fdo, _, o4, o5⟩, o2, o3⟩⟩
  obtain ⟨fe, e1, De⟩ := a.mEq.ex
  refine s_skip (and_ff (!decide (z.1 = 0)) (EvW.t (w_and (t_cmpB o_ne (d_p0 (x := z) (vr 6)) d_int) ⟨_, pw_and1 (pt_w _), fun q => ?_⟩))) ?_
  · have hz : z.1 ≠ 0 := by simpa using q
    have RO : ROver [rt y, rt z] (rt (pOver y z)) := ⟨y.1, y.2, rt z, rfl, vy, vz, hz, rfl⟩
    refine t_cmpB (o_neSame (x := .lst [pr (pOver y z), pr (pOver y z)]) hu rfl rfl) (d_ls (a_cons (d_callG a.pair r3 (a_cons (d_methG T mo r4 (vr 3) (a_cons (vr 4) a_nil) RO) a_nil) ⟨pOver y z, rfl, rfl⟩) (a_cons (d_callG a.pair r3 (a_cons (d := rt (pOver y z)) ?_ a_nil) ⟨pOver y z, rfl, rfl⟩) a_nil))) (d_binB (o_rep (ds := [pr (pOver y z)]) (by decide) (by decide) le_d) (d_ls (a_cons (d_callG a.over r2 (a_cons (vr 5) (a_cons (vr 6) a_nil)) ⟨y, z, rfl, py, pz, hz, rfl⟩) a_nil)) d_int)
    exact d_methK T o1 o2 o3 o4 o6 r4 (vr 3) (k_cons (vr 4) k_nil) rfl RO (by decide +kernel) (by decide +kernel) rfl rfl rfl fun h => PySem.W.methodCall_KW h rfl
  refine s_skip (and_ff (!decide (j = 0)) (EvW.t (w_and (t_cmpB o_ne (vr 2) d_int) ⟨_, pw_and1 (pt_w _), fun q => ?_⟩))) ?_
  · have hz : j ≠ 0 := by simpa using q
    exact t_cmpB (o_neSame (x := pr (pOver y (j, 1))) hu rfl rfl) (d_callG a.pair r3 (a_cons (d_methG T mo r4 (vr 3) (a_cons (vr 2) a_nil) ⟨y.1, y.2, .int j, rfl, vy, vj, hz, rfl⟩) a_nil) ⟨pOver y (j, 1), rfl, rfl⟩) (d_callG a.over r2 (a_cons (vr 5) (a_cons (vr 7) a_nil)) ⟨y, (j, 1), rfl, py, pw, hz, rfl⟩)
  have m4 : ∀ {u v : Int × Int}, okp 300 u → okp 300 v → Bd 300 u.1 ∧ Bd 300 v.2 := fun a b => ⟨a.2.1, b.2.2⟩
  refine s_set 10 scTwo.nd rfl (.inl rfl) (d_cmpB o_lt (d_binB (o_mul oy.2.1 oz.2.2 (by decide)) (d_p0 (x := y) (vr 5)) (d_p1 (x := z) (vr 6))) (d_binB (o_mul oz.2.1 oy.2.2 (by decide)) (d_p0 (x := z) (vr 6)) (d_p1 (x := y) (vr 5)))) ?_
  refine s_set 8 scTwo.nd rfl (.inl rfl) (d_ls (a_cons (d_methG T a.mBelow r4 (vr 3) (a_cons (vr 4) a_nil) ⟨y.1, y.2, rt z, rfl, vy, vz, rfl⟩) (a_cons (d_methG T a.mBelow r4 (vr 4) (a_cons (vr 3) a_nil) ⟨z.1, z.2, rt y, rfl, vz, vy, rfl⟩) (a_cons (d_methG T a.mMost r4 (vr 3) (a_cons (vr 4) a_nil) ⟨y.1, y.2, rt z, rfl, vy, vz, rfl⟩) (a_cons (d_cmpB (op_eqr T e1 De r1 (.inl ⟨z.1, z.2, rfl⟩) ⟨y.1, y.2, rt z, rfl, rfl, rfl⟩) (vr 3) (vr 4)) (a_cons (d_cmpB (op_ner T e1 De r2 ⟨y.1, y.2, rt z, rfl, rfl, rfl⟩) (vr 3) (vr 4)) a_nil)))))) ?_
  refine s_set 11 scTwo.nd rfl (.inl rfl) (d_cmpB o_gt (d_binB (o_mul oy.2.1 oz.2.2 (by decide)) (d_p0 (x := y) (vr 5)) (d_p1 (x := z) (vr 6))) (d_binB (o_mul oz.2.1 oy.2.2 (by decide)) (d_p0 (x := z) (vr 6)) (d_p1 (x := y) (vr 5)))) ?_
  refine s_skip (t_cmpB (o_neSame (x := .lst [.bl (decide (y.1 * z.2 < z.1 * y.2)), .bl (decide (z.1 * y.2 < y.1 * z.2)), .bl (!decide (z.1 * y.2 < y.1 * z.2)), .bl (decide (y.1 = z.1) && decide (y.2 = z.2)), .bl (!(decide (y.1 = z.1) && decide (y.2 = z.2)))]) hu rfl rfl) ?_ (d_ls (a_cons (vr 10) (a_cons (vr 11) (a_cons (d_not (vr 11)) (a_cons (d_cmpB (o_eqD hu rfl rfl rfl rfl (eqv_pr y z)) (vr 5) (vr 6)) (a_cons (d_cmpB (o_neD hu rfl rfl rfl rfl (eqv_pr y z)) (vr 5) (vr 6)) a_nil))))))) ?_
  · rw [← most_not]
    exact vr 8
  refine s_set 8 scTwo.nd rfl (.inl rfl) (d := .lst [.bl (decide (y.1 < j * y.2)), .bl (decide (y.1 ≤ j * y.2)), .bl false, .bl false]) (d_ls (a_cons (d_methG T a.mBelow r4 (vr 3) (a_cons (vr 2) a_nil) ⟨y.1, y.2, .int j, rfl, vy, vj, ?_⟩) (a_cons (d_methG T a.mMost r4 (vr 3) (a_cons (vr 2) a_nil) ⟨y.1, y.2, .int j, rfl, vy, vj, ?_⟩) (a_cons (d_cmpB (op_eqr T e1 De r1 (.inr ⟨j, rfl⟩) ⟨y.1, y.2, .int j, rfl, rfl, rfl⟩) (vr 3) (vr 2)) (a_cons (d_cmpB (op_eir T e1 De r1 ⟨y.1, y.2, .int j, rfl, rfl, rfl⟩) (vr 2) (vr 3)) a_nil))))) ?_
  · show D.bl _ = D.bl (decide (y.1 * 1 < j * y.2))
    rw [Int.mul_one]
  · show D.bl _ = D.bl (decide (y.1 * 1 ≤ j * y.2))
    rw [Int.mul_one]
  refine s_ret (d_cmpB (o_eqSame (x := .lst [.bl (decide (y.1 < j * y.2)), .bl (decide (y.1 ≤ j * y.2)), .bl false, .bl false]) hu rfl rfl) (vr 8) (d_ls (a_cons (d_cmpB o_lt (d_p0 (x := y) (vr 5)) (d_binB (o_mul hj oy.2.2 (by decide)) (vr 2) (d_p1 (x := y) (vr 5)))) (a_cons (d_cmpB o_le (d_p0 (x := y) (vr 5)) (d_binB (o_mul hj oy.2.2 (by decide)) (vr 2) (d_p1 (x := y) (vr 5)))) (a_cons d_bl (a_cons d_bl a_nil)))))) rfl
theorem ok_two (a : Al P w K mg base C) (F : Fun K "_law_two_right" "_law_two_right" sTwo f fd) (hb : Binds K fd ["_law_raw_here", "_law_other_raw", "_law_number"] []) : DfG P w K mg base C 7 f RTwo :=
  dfG_mk F scTwo hb (fun pt ds R h => by obtain ⟨_, _, _, rfl, _⟩ := h; rfl) fun cdv A outer s H pt ds R hgs hr h => by
    obtain ⟨x, x', j, rfl, hx, hx', hj, rfl⟩ := h
    have hu := hr.units
    have T := a.T
    have r3 := hr.mono (show 3 ≤ 6 by decide)
    have r1 := hr.mono (show 1 ≤ 6 by decide)
    refine s_par (x := rt (nrm x.1 x.2)) (y := rt (nrm x'.1 x'.2)) 3 4 rfl scTwo.nd rfl rfl (by decide) rfl rfl (d_make T a.ck r3 (a_cons (d_p0 (x := x) (vr 0)) (a_cons (d_p1 (x := x) (vr 0)) a_nil)) hx.1 (bd_mono hx.2.1 (by decide)) (bd_mono hx.2.2 (by decide))) (d_make T a.ck r3 (a_cons (d_p0 (x := x') (vr 1)) (a_cons (d_p1 (x := x') (vr 1)) a_nil)) hx'.1 (bd_mono hx'.2.1 (by decide)) (bd_mono hx'.2.2 (by decide))) ?_
    refine s_par3 (x := pr (nrm x.1 x.2)) (y := pr (nrm x'.1 x'.2)) (z := pr (j, 1)) 5 6 7 rfl scTwo.nd rfl rfl rfl (by decide) (by decide) (by decide) rfl rfl rfl (a_cons (d_callG a.low r1 (a_cons (d_p0 (x := x) (vr 0)) (a_cons (d_p1 (x := x) (vr 0)) a_nil)) ⟨_, _, rfl, hx.1, bd_mono hx.2.1 (by decide), bd_mono hx.2.2 (by decide), rfl⟩) (a_cons (d_callG a.low r1 (a_cons (d_p0 (x := x') (vr 1)) (a_cons (d_p1 (x := x') (vr 1)) a_nil)) ⟨_, _, rfl, hx'.1, bd_mono hx'.2.1 (by decide), bd_mono hx'.2.2 (by decide), rfl⟩) (a_cons (d_tp (a_cons (vr 2) (a_cons d_int a_nil))) a_nil))) ?_
    have ry := nrm_red (t := x.1) hx.1
    have oy := nrm_ok (n := 300) hx.1 hx.2.1 hx.2.2
    have rz := nrm_red (t := x'.1) hx'.1
    have oz := nrm_ok (n := 300) hx'.1 hx'.2.1 hx'.2.2
    generalize nrm x.1 x.2 = y at *
    generalize nrm x'.1 x'.2 = z at *
    have ow := okp_one hj
    have vy : okv 2000 (rt y) := okv_of (okp_mono oy (by decide))
    have vz : okv 2000 (rt z) := okv_of (okp_mono oz (by decide))
    have vj : okv 2000 (.int j) := okv_int (by decide) (bd_mono hj (by decide))
    have bj : Bd 2000 j := bd_mono hj (by decide)
    have py : okp 3000 y := okp_mono oy (by decide)
    have pz : okp 3000 z := okp_mono oz (by decide)
    have pw : okp 3000 (j, 1) := okp_mono ow (by decide)
    have r4 := hr.mono (show 4 ≤ 6 by decide)
    have r5 := hr.mono (show 5 ≤ 6 by decide)
    have r2 := hr.mono (show 2 ≤ 6 by decide)
    refine o_lst (i := 8) (ds := [rt (pSum y z), rt (pLess y z), rt (pBy y z), rt (pSum y (j, 1)), rt (pSum y (j, 1)), rt (pBy y (j, 1)), rt (pBy y (j, 1))]) scTwo.nd rfl (.inl rfl) le_d lt_d
      (a_cons (d_binB (op_rrG T a.mAdd r4 ⟨y.1, y.2, rt z, rfl, vy, vz, rfl⟩) (vr 3) (vr 4)) (a_cons (d_binB (op_rrG T a.mSub r4 ⟨y.1, y.2, rt z, rfl, vy, vz, (gsub_less y z).symm⟩) (vr 3) (vr 4)) (a_cons (d_binB (op_rrG T a.mMul r4 ⟨y.1, y.2, rt z, rfl, vy, vz, rfl⟩) (vr 3) (vr 4)) (a_cons (d_binB (op_riG T a.iAdd a.mAdd r4 ⟨y.1, y.2, .int j, rfl, vy, vj, rfl⟩) (vr 3) (vr 2)) (a_cons (d_binB (op_irG T a.mAdd a.mRadd PySem.F.fills_int_add PySem.F.slot_int_add PySem.F.entry_int_add PySem.F.args_int_add_2 r5 ⟨y.1, y.2, j, rfl, vy, bj, rfl⟩) (vr 2) (vr 3)) (a_cons (d_binB (op_riG T a.iMul a.mMul r4 ⟨y.1, y.2, .int j, rfl, vy, vj, rfl⟩) (vr 3) (vr 2)) (a_cons (d_binB (op_irG T a.mMul a.mRmul PySem.F.fills_int_mul PySem.F.slot_int_mul PySem.F.entry_int_mul PySem.F.args_int_mul_2 r5 ⟨y.1, y.2, j, rfl, vy, bj, rfl⟩) (vr 2) (vr 3)) a_nil))))))) ?_
    refine o_ext (es' := [rt (pLess (j, 1) y), rt (pLess y (j, 1))]) lt_d rfl (.inl rfl) le_d rfl (a_cons (d_binB (op_irG T a.mSub a.mRsub PySem.F.fills_int_sub PySem.F.slot_int_sub PySem.F.entry_int_sub PySem.F.args_int_sub_2 r5 ⟨y.1, y.2, j, rfl, vy, bj, (grsub_less ry j).symm⟩) (vr 2) (vr 3)) (a_cons (d_binB (op_riG T a.iSub a.mSub r4 ⟨y.1, y.2, .int j, rfl, vy, vj, (gsub_less y (j, 1)).symm⟩) (vr 3) (vr 2)) a_nil)) ?_ (pe_bm PySem.F.plainAttrs_list PySem.F.slot_list_extend PySem.F.type_list_extend mt_extend (pv 8) (pa_w _))
    refine o_close lt_d ?_
    have S2 : ∀ u v, okp 3000 u → okp 3000 v → RP2 3000 pSum [pr u, pr v] (pr (pSum u v)) := fun u v hu hv => ⟨u, v, rfl, hu, hv, rfl⟩
    have B2 : ∀ u v, okp 3000 u → okp 3000 v → RP2 3000 pBy [pr u, pr v] (pr (pBy u v)) := fun u v hu hv => ⟨u, v, rfl, hu, hv, rfl⟩
    have L2' : ∀ u v, okp 3000 u → okp 3000 v → RP2 3000 pLess [pr u, pr v] (pr (pLess u v)) := fun u v hu hv => ⟨u, v, rfl, hu, hv, rfl⟩
    refine o_lst (i := 9) (ds := [pr (pSum y z), pr (pLess y z), pr (pBy y z), pr (pSum y (j, 1)), pr (pSum y (j, 1))]) scTwo.nd rfl (.inl rfl) le_d lt_d
      (a_cons (d_callG a.sum r2 (a_cons (vr 5) (a_cons (vr 6) a_nil)) (S2 y z py pz)) (a_cons (d_callG a.less r3 (a_cons (vr 5) (a_cons (vr 6) a_nil)) (L2' y z py pz)) (a_cons (d_callG a.by_ r2 (a_cons (vr 5) (a_cons (vr 6) a_nil)) (B2 y z py pz)) (a_cons (d_callG a.sum r2 (a_cons (vr 5) (a_cons (vr 7) a_nil)) (S2 y (j, 1) py pw)) (a_cons (d_callG a.sum r2 (a_cons (vr 5) (a_cons (vr 7) a_nil)) (S2 y (j, 1) py pw)) a_nil))))) ?_
    refine o_ext (es' := [pr (pBy y (j, 1)), pr (pBy y (j, 1)), pr (pLess (j, 1) y), pr (pLess y (j, 1))]) lt_d rfl (.inl rfl) le_d rfl (a_cons (d_callG a.by_ r2 (a_cons (vr 5) (a_cons (vr 7) a_nil)) (B2 y (j, 1) py pw)) (a_cons (d_callG a.by_ r2 (a_cons (vr 5) (a_cons (vr 7) a_nil)) (B2 y (j, 1) py pw)) (a_cons (d_callG a.less r3 (a_cons (vr 7) (a_cons (vr 5) a_nil)) (L2' (j, 1) y pw py)) (a_cons (d_callG a.less r3 (a_cons (vr 5) (a_cons (vr 7) a_nil)) (L2' y (j, 1) py pw)) a_nil)))) ?_ (pe_bm PySem.F.plainAttrs_list PySem.F.slot_list_extend PySem.F.type_list_extend mt_extend (pv 9) (pa_w _))
    refine o_close lt_d ?_
    refine s_skip (t_cmpB (o_neSame (x := .lst [pr (pSum y z), pr (pLess y z), pr (pBy y z), pr (pSum y (j, 1)), pr (pSum y (j, 1)), pr (pBy y (j, 1)), pr (pBy y (j, 1)), pr (pLess (j, 1) y), pr (pLess y (j, 1))]) hu rfl rfl) (d_callG a.pairs r4 (a_cons (vr 8) a_nil) ⟨[pSum y z, pLess y z, pBy y z, pSum y (j, 1), pSum y (j, 1), pBy y (j, 1), pBy y (j, 1), pLess (j, 1) y, pLess y (j, 1)], rfl, le_d, rfl⟩) (vr 9)) ?_
    exact two_tail a hr ry oy rz oz hj
end
end DL
end

section
set_option linter.all false
set_option maxRecDepth 100000
set_option exponentiation.threshold 100
/-! The program's total and the law's. -/
namespace DL
open PySem
theorem lc_l {a b : Int} (ha : a ≠ 0) : (lc a b).fdiv a * a = lc a b := by
  have d : a ∣ lc a b := Int.natAbs_dvd_natAbs.mp (by
    unfold lc
    rw [Int.natAbs_natCast]
    exact Nat.dvd_lcm_left _ _)
  obtain ⟨u, hu⟩ := d
  rw [hu, Int.mul_fdiv_cancel_left u ha, Int.mul_comm]
theorem lc_r {a b : Int} (hb : b ≠ 0) : (lc a b).fdiv b * b = lc a b := by
  have d : b ∣ lc a b := Int.natAbs_dvd_natAbs.mp (by
    unfold lc
    rw [Int.natAbs_natCast]
    exact Nat.dvd_lcm_right _ _)
  obtain ⟨u, hu⟩ := d
  rw [hu, Int.mul_fdiv_cancel_left u hb, Int.mul_comm]
theorem step_eq {s u : Int × Int} (hs : s.2 ≠ 0) (hu : u.2 ≠ 0) : nrm (totStep s u).1 (totStep s u).2 = pSum (nrm s.1 s.2) u := by
  have hL := lc_ne hs hu
  have e1 := lc_l (b := u.2) hs
  have e2 := lc_r (a := s.2) hu
  have c := nrm_cross (t := s.1) hs
  have rn := red_ne (nrm_red (t := s.1) hs)
  show nrm (s.1 * (lc s.2 u.2).fdiv s.2 + u.1 * (lc s.2 u.2).fdiv u.2) (lc s.2 u.2) = nrm ((nrm s.1 s.2).1 * u.2 + u.1 * (nrm s.1 s.2).2) ((nrm s.1 s.2).2 * u.2)
  generalize nrm s.1 s.2 = n at *
  generalize (lc s.2 u.2).fdiv s.2 = x at *
  generalize (lc s.2 u.2).fdiv u.2 = y at *
  generalize lc s.2 u.2 = l at *
  refine nrm_eq hL (Int.mul_ne_zero rn hu) ?_
  calc (s.1 * x + u.1 * y) * (n.2 * u.2) = s.1 * n.2 * x * u.2 + u.1 * n.2 * (y * u.2) := by
        rw [Int.add_mul]
        congr 1 <;> ac_rfl
    _ = n.1 * s.2 * x * u.2 + u.1 * n.2 * l := by rw [← c, e2]
    _ = n.1 * u.2 * (x * s.2) + u.1 * n.2 * l := by
        congr 1
        ac_rfl
    _ = (n.1 * u.2 + u.1 * n.2) * l := by rw [e1, Int.add_mul]
theorem fold_eq : ∀ (ds : List D) (s : Int × Int), s.2 ≠ 0 → (∀ d ∈ ds, (opv d).2 ≠ 0) →
    nrm (ds.foldl (fun s d => totStep s (opv d)) s).1 (ds.foldl (fun s d => totStep s (opv d)) s).2 = (ds.map opv).foldl pSum (nrm s.1 s.2)
  | [], _, _, _ => rfl
  | d :: ds, s, hs, hd => by
    have h1 := hd d (List.mem_cons_self ..)
    rw [List.map_cons, List.foldl_cons, List.foldl_cons, ← step_eq hs h1]
    exact fold_eq ds _ (lc_ne hs h1) fun d m => hd d (List.mem_cons_of_mem _ m)
theorem tot_eq (ds : List D) (h : ∀ d ∈ ds, (opv d).2 ≠ 0) : mk (totF ds).1 (totF ds).2 = rt (totP (ds.map opv)) := by
  have e := fold_eq ds (0, 1) (by decide) h
  have z : nrm (0 : Int) 1 = (0, 1) := nrm_self (x := (0, 1)) ⟨by decide, by decide⟩
  rw [z] at e
  show rt (nrm (totF ds).1 (totF ds).2) = _
  unfold totF totP
  rw [e]
end DL
end

section
set_option linter.all false
set_option maxRecDepth 100000
set_option maxHeartbeats 4000000
set_option exponentiation.threshold 100
namespace DL
open PySem PySem.Spec PyProof.Rows L2
section
variable {X : Cx} {C : Addr} {pt : Option Addr} {ρ : Rho} {P : Out → Prop} {rest : List Stmt} {e it elt : Expr} {pos : Pos} {n m : Str} {ds gs : List D} {x y d : D} {te : TE}
theorem d_of (h : EvP C pt te ρ (fun z => z = d)) : EvD C pt te ρ d := fun σ G H en b Q k => h σ G H en b Q fun z v G2 H2 p a i => by
  subst p
  exact k v G2 H2 a i
theorem d_lcV {i : Nat} {scope : Scope} {p : Pos} (hl : ds.length = gs.length) (hc : X.calm = true) (hN : X.N.Nodup) (ok : BlkOk X.N X.env.scope scope [(n, i)]) (h : EvD C pt (wE X it) ρ (.lst ds)) (hz : ds.length ≤ 100000)
    (hg : ∀ (s : Shared) (H : Hp) (C : Addr) (cl : List (Str × Addr)) (fp : List Addr), PG (X.blk s H scope (compEnvC scope cl C X.env) fp) (.Name n p) (gName i))
    (he : ∀ (j : Nat) (d e : D), ds[j]? = some d → gs[j]? = some e → ∀ s H' Ca cl fp, EvD C pt (wE (X.blk s H' scope (compEnvC scope cl Ca X.env) fp) elt) ((wipeD ρ [i]).set i (some d)) e) (hs : ∀ x, foldedSetIterable it X.env x = pure x := by intro _; rfl) :
    EvD C pt (wE X (.ListComp elt [⟨.Name n p, it, [], 0⟩] scope pos)) ρ (.lst gs) :=
  d_of (EvP.imp (d_lcL (R := fun j z => gs[j]? = some z) hc hN ok h hz hg (fun j d hj s H' Ca cl fp => by
    have hj2 : j < gs.length := by rw [← hl]; exact (List.getElem?_eq_some_iff.mp hj).1
    have e := List.getElem?_eq_getElem hj2
    exact EvP.of (he j d _ hj e s H' Ca cl fp) e) hs) fun d hd => by
      obtain ⟨fs, rfl, hl2, hR⟩ := hd
      rw [list_of (by rw [hl2, hl]) hR])
theorem s_lcV {i l : Nat} {scope : Scope} {p py spos : Pos} {yn : Str} (hl : ds.length = gs.length) (hc : X.calm = true) (hN : X.N.Nodup) (hy : X.N[l]? = some yn) (hyl : X.env.scope.names.lookup yn = some .local) (hsw : swapsWith (.ListComp elt [⟨.Name n p, it, [], 0⟩] scope pos) (some (.Name yn py)) spos.line X.env = pure true)
    (ok : BlkOk X.N X.env.scope scope [(n, i)]) (h : EvD C pt (wE X it) ρ (.lst ds)) (hz : ds.length ≤ 100000)
    (hg : ∀ (s : Shared) (H : Hp) (C : Addr) (cl : List (Str × Addr)) (fp : List Addr), PG (X.blk s H scope (compEnvC scope cl C X.env) fp) (.Name n p) (gName i))
    (he : ∀ (j : Nat) (d e : D), ds[j]? = some d → gs[j]? = some e → ∀ s H' Ca cl fp, EvD C pt (wE (X.blk s H' scope (compEnvC scope cl Ca X.env) fp) elt) ((wipeD ρ [i]).set i (some d)) e)
    (hr : RunP C pt X rest (ρ.set l (some (.lst gs))) P) (hs : ∀ x, foldedSetIterable it X.env x = pure x := by intro _; rfl) :
    RunP C pt X (.Assign [.Name yn py] (.ListComp elt [⟨.Name n p, it, [], 0⟩] scope pos) spos :: rest) ρ P :=
  s_lcL (R := fun j z => gs[j]? = some z) hc hN hy hyl hsw ok h hz hg (fun j d hj s H' Ca cl fp => by
    have hj2 : j < gs.length := by rw [← hl]; exact (List.getElem?_eq_some_iff.mp hj).1
    have e := List.getElem?_eq_getElem hj2
    exact EvP.of (he j d _ hj e s H' Ca cl fp) e) (fun fs hl2 hR => by
      rw [list_of (by rw [hl2, hl]) hR]
      exact hr) hs
theorem d_lcRV {i : Nat} {t : Expr} {num : Nat} {scope : Scope} {p p' p'' : Pos} (z : D) (hc : X.calm = true) (hN : X.N.Nodup) (ok : BlkOk X.N X.env.scope scope [(n, i)]) (hgr : Gl X "range") (hm : X.mg "range" = none) (h : EvD C pt (wE X t) ρ (.int (num : Nat))) (hz : num ≤ 100000)
    (hg : ∀ (s : Shared) (H : Hp) (C : Addr) (cl : List (Str × Addr)) (fp : List Addr), PG (X.blk s H scope (compEnvC scope cl C X.env) fp) (.Name n p) (gName i))
    (he : ∀ j : Nat, j < num → ∀ s H' Ca cl fp, EvD C pt (wE (X.blk s H' scope (compEnvC scope cl Ca X.env) fp) elt) ((wipeD ρ [i]).set i (some (.int (j : Nat)))) z) (hst : starEach [t] X.env = [(false, eval t X.env)] := by rfl) (hs : ∀ x, foldedSetIterable (.Call (.Name "range" p') [t] [] p'') X.env x = pure x := by intro _; rfl) :
    EvD C pt (wE X (.ListComp elt [⟨.Name n p, .Call (.Name "range" p') [t] [] p'', [], 0⟩] scope pos)) ρ (.lst (List.replicate num z)) :=
  d_of (EvP.imp (d_lcR (R := fun j u => u = z) hc hN ok hgr hm h hz hg (fun j hj s H' Ca cl fp => EvP.of (he j hj s H' Ca cl fp) rfl) hst hs) fun d hd => by
    obtain ⟨fs, rfl, hl2, hR⟩ := hd
    congr 1
    refine List.eq_replicate_iff.mpr ⟨hl2, fun b hb => ?_⟩
    obtain ⟨q, hq⟩ := List.mem_iff_getElem?.mp hb
    exact hR q b hq)
theorem get_map2 {α : Type} {rs : List α} {p g : α → D} {j : Nat} {d e : D} (h1 : (rs.map p)[j]? = some d) (h2 : (rs.map g)[j]? = some e) : ∃ x, x ∈ rs ∧ d = p x ∧ e = g x := by
  rw [List.getElem?_map] at h1 h2
  cases q : rs[j]? with
  | none => rw [q] at h1; cases h1
  | some x =>
    rw [q] at h1 h2
    cases h1
    cases h2
    exact ⟨x, List.mem_of_getElem? q, rfl, rfl⟩
end
section
variable {X : Cx} {C : Addr} {pt : Option Addr} {ρ : Rho} {es : List Expr} {d : D} {ds : List D}
theorem ac_k {c j p} (h : EvD C pt (wE X (.Constant c j p)) ρ d) (hr : EvA C pt (wA X es) ρ ds) : EvA C pt (wA X (.Constant c j p :: es)) ρ (d :: ds) := a_cons h hr rfl
theorem ac_u {c j p} (h : EvD C pt (wE X (.UnaryOp c j p)) ρ d) (hr : EvA C pt (wA X es) ρ ds) : EvA C pt (wA X (.UnaryOp c j p :: es)) ρ (d :: ds) := a_cons h hr rfl
theorem ac_b {c j l p} (h : EvD C pt (wE X (.BinOp c j l p)) ρ d) (hr : EvA C pt (wA X es) ρ ds) : EvA C pt (wA X (.BinOp c j l p :: es)) ρ (d :: ds) := a_cons h hr rfl
theorem ac_l {c p} (h : EvD C pt (wE X (.List c p)) ρ d) (hr : EvA C pt (wA X es) ρ ds) : EvA C pt (wA X (.List c p :: es)) ρ (d :: ds) := a_cons h hr rfl
theorem ac_t {c j p} (h : EvD C pt (wE X (.Tuple c j p)) ρ d) (hr : EvA C pt (wA X es) ρ ds) : EvA C pt (wA X (.Tuple c j p :: es)) ρ (d :: ds) := a_cons h hr rfl
end
abbrev sRight : Stmt := top 28
abbrev NR : List Str := ["_law_pot_here", "_law_turn", "_law_raws", "_law_raw_here", "_law_pairs_here", "_law_given", "_law_told", "_law_values", "_law_due", "_law_one"]
def chk (d : D) : D := .lst [.bl (isRat d || isInt d), .bl (isInt d), .bl (isCnt d)]
def vals11 : List D := [.int 0, .int 1, .int (-1), .int 5, .bl true, .bl false, .non, .str "1", .lst [.int 1], .tup [.int 1, .int 2], .int (10 ^ (5 : Int).toNat)]
def due11 : List D := [.lst [.bl true, .bl true, .bl true], .lst [.bl true, .bl true, .bl true], .lst [.bl true, .bl true, .bl false], .lst [.bl true, .bl true, .bl true]]
def listOf : Stmt → List Expr
  | .Assign _ (.List es _) _ => es
  | _ => []
theorem t9 {X : Cx} {C : Addr} {pt : Option Addr} {ρ : Rho} : EvA C pt (wA X (listOf ((defBody sRight).getD 9 (.Pass ⟨0, 0, 0, 0⟩)))) ρ vals11 := by
  refine a_cons ?_ ?_
  · exact d_int
  refine a_cons ?_ ?_
  · exact d_int
  refine a_cons ?_ ?_
  · exact d_un un_neg d_int u_neg
  refine a_cons ?_ ?_
  · exact d_int
  refine a_cons ?_ ?_
  · exact d_bl
  refine a_cons ?_ ?_
  · exact d_bl
  refine a_cons ?_ ?_
  · exact d_non
  refine a_cons ?_ ?_
  · exact d_str
  refine a_cons ?_ ?_
  · exact d_ls (a_cons d_int a_nil)
  refine a_cons ?_ ?_
  · exact d_tp (a_cons d_int (a_cons d_int a_nil))
  refine a_cons ?_ ?_
  · exact d_binB (o_pow (by decide)) d_int d_int
  exact a_nil
theorem t3 {X : Cx} {C : Addr} {pt : Option Addr} {ρ : Rho} {i j k l : Pos} {a b c} {x y z : Bool} : EvD C pt (wE X (.List [.Constant (.bool x) a i, .Constant (.bool y) b j, .Constant (.bool z) c k] l)) ρ (.lst [.bl x, .bl y, .bl z]) := by
  refine d_ls ?_
  refine a_cons ?_ ?_
  · exact d_bl
  refine a_cons ?_ ?_
  · exact d_bl
  refine a_cons ?_ ?_
  · exact d_bl
  exact a_nil
theorem t11 {X : Cx} {C : Addr} {pt : Option Addr} {ρ : Rho} : EvA C pt (wA X (listOf ((defBody sRight).getD 11 (.Pass ⟨0, 0, 0, 0⟩)))) ρ due11 := by
  refine a_cons ?_ ?_
  · exact t3
  refine a_cons ?_ ?_
  · exact t3
  refine a_cons ?_ ?_
  · exact t3
  refine a_cons ?_ ?_
  · exact t3
  exact a_nil
theorem t12 {X : Cx} {C : Addr} {pt : Option Addr} {ρ : Rho} {l p q r u : Pos} {a b c} : EvD C pt (wE X (.List [.List [.Constant (.bool true) a p, .Constant (.bool true) b q, .Constant (.bool true) c r] u] l)) ρ (.lst [.lst [.bl true, .bl true, .bl true]]) := by
  refine d_ls ?_
  refine a_cons ?_ ?_
  · exact t3
  exact a_nil
theorem chk11 : vals11.map chk = (due11 ++ List.replicate 6 (.lst [.bl false, .bl false, .bl false])) ++ [.lst [.bl true, .bl true, .bl true]] := rfl
section
variable {P : Program} {w : World} {K : PySem.W.Frag} {mg : Str → Option Value} {base : Heap} {C f : Addr} {fd : FuncData}
theorem scRight : FnScope NR ["_law_pot_here"] (defScope sRight) := ⟨rfl, rfl, rfl, by decide +kernel, rfl, by decide +kernel, by decide +kernel⟩
def nr (x : Int × Int) : Int × Int := nrm x.1 x.2
theorem right_end (a : Al P w K mg base C) {cdv : Value} {A : Around} {outer : List Env} {s : Shared} {H : Hp} {E : XK} {pt : Option Addr} {d0 a1 a2 a3 a4 a5 a7 : Option D}
    (hr : Room 7 (bx P w K mg base NR "_law_right" (defScope sRight) f cdv A outer s H E).A) :
    RunP C pt (bx P w K mg base NR "_law_right" (defScope sRight) f cdv A outer s H E) ((defBody sRight).drop 11) [d0, a1, a2, a3, a4, a5, some (.lst (vals11.map chk)), a7, none, none]
      (fun o => match o with | .ret d => d = .bl true | .fall _ => False) := by
  have hu := hr.units
  refine s_set 8 scRight.nd rfl (.inl rfl) (d := .lst due11) ?_ ?_
  · exact d_ls t11
  rw [chk11]
  refine s_ret (d_cmpB (o_eqSame (x := .lst ((due11 ++ List.replicate 6 (.lst [.bl false, .bl false, .bl false])) ++ [.lst [.bl true, .bl true, .bl true]])) hu rfl rfl) (vr 6) ?_) rfl
  refine d_binB (o_cat le_d) ?_ ?_
  · refine d_binB (o_cat le_d) (vr 8) ?_
    refine d_lcRV (i := 1) (.lst [.bl false, .bl false, .bl false]) rfl scRight.nd (blkOk_by (show blkC NR (defScope sRight) _ [("_law_turn", 1)] = true by decide +kernel)) (by exact rfl) (a.z "range" (by decide +kernel)) d_int (by decide) (fun _ _ _ _ _ => pg_name (i := 1) scRight.nd rfl (Or.inl rfl)) (fun j hj s H' Ca cl fp => ?_)
    exact d_binB (o_rep (ds := [.bl false]) (by decide) (by decide) le_d) (d_ls (a_cons d_bl a_nil)) d_int
  · exact t12
theorem right_tail (a : Al P w K mg base C) {cdv : Value} {A : Around} {outer : List Env} {s : Shared} {H : Hp} {E : XK} {pt : Option Addr} {d0 a1 a3 : Option D} {rs : List (Int × Int)}
    (hr : Room 7 (bx P w K mg base NR "_law_right" (defScope sRight) f cdv A outer s H E).A) (hl : rs.length = 8) (ho : ∀ x ∈ rs, okp 300 x) :
    RunP C pt (bx P w K mg base NR "_law_right" (defScope sRight) f cdv A outer s H E) ((defBody sRight).drop 5) [d0, a1, some (.lst (rs.map pr)), a3, none, none, none, none, none, none]
      (fun o => match o with | .ret d => d = .bl true | .fall _ => False) := by
  have hu := hr.units
  have T := a.T
  have r1 := hr.mono (show 1 ≤ 7 by decide)
  have r2 := hr.mono (show 2 ≤ 7 by decide)
  have r3 := hr.mono (show 3 ≤ 7 by decide)
  have r4 := hr.mono (show 4 ≤ 7 by decide)
  have r5 := hr.mono (show 5 ≤ 7 by decide)
  refine s_lcV (i := 3) (l := 4) (ds := rs.map pr) (gs := rs.map fun x => pr (nr x)) (by simp) rfl scRight.nd rfl rfl rfl (blkOk_by (show blkC NR (defScope sRight) _ [("_law_raw_here", 3)] = true by decide +kernel)) (vr 2) (by rw [List.length_map]; omega) (fun _ _ _ _ _ => pg_name (i := 3) scRight.nd rfl (Or.inl rfl)) (fun j d e h1 h2 s H' Ca cl fp => ?_) ?_
  · obtain ⟨x, hx, rfl, rfl⟩ := get_map2 h1 h2
    have o := ho x hx
    exact d_callG a.low r1 (a_cons (d_p0 (x := x) (vr 3)) (a_cons (d_p1 (x := x) (vr 3)) a_nil)) ⟨_, _, rfl, o.1, bd_mono o.2.1 (by decide), bd_mono o.2.2 (by decide), rfl⟩
  refine s_set 5 scRight.nd rfl (.inl rfl) (d := .lst ((rs.map fun x => rt (nr x)) ++ [.int 7])) (d_binB (o_cat (by rw [List.length_map]; show _ + 1 ≤ _; omega)) (d_lcV (i := 3) (ds := rs.map pr) (by simp) rfl scRight.nd (blkOk_by (show blkC NR (defScope sRight) _ [("_law_raw_here", 3)] = true by decide +kernel)) (vr 2) (by rw [List.length_map]; omega) (fun _ _ _ _ _ => pg_name (i := 3) scRight.nd rfl (Or.inl rfl)) (fun j d e h1 h2 s H' Ca cl fp => ?_)) (d_ls (a_cons d_int a_nil))) ?_
  · obtain ⟨x, hx, rfl, rfl⟩ := get_map2 h1 h2
    have o := ho x hx
    exact d_make T a.ck r3 (a_cons (d_p0 (x := x) (vr 3)) (a_cons (d_p1 (x := x) (vr 3)) a_nil)) o.1 (bd_mono o.2.1 (by decide)) (bd_mono o.2.2 (by decide))
  obtain ⟨mc, q, ft, fdt, t1, t2, t3, t4, t5⟩ := a.mTot
  have tR : FnR P w K mg base CX0 4 ft (Ct C (RTotal C)) := (t3.raw t4 .nil).imp fun vs H Q E h => by rw [List.append_nil]; exact h
  have on : ∀ d ∈ (rs.map fun x => rt (nr x)) ++ [.int 7], okv 300 d := by
    intro d hd
    rcases List.mem_append.mp hd with hd | hd
    · obtain ⟨x, hx, rfl⟩ := List.mem_map.mp hd
      have o := ho x hx
      exact okv_of (nrm_ok o.1 o.2.1 o.2.2)
    · cases List.mem_singleton.mp hd
      exact okv_int (by decide) (bd_mono (show Bd 3 7 by unfold Bd; decide) (by decide))
  have ln : ((rs.map fun x => rt (nr x)) ++ [D.int 7]).length ≤ 12 := by
    rw [List.length_append, List.length_map]
    show _ + 1 ≤ _
    omega
  have eT : mk (totF ((rs.map fun x => rt (nr x)) ++ [.int 7])).1 (totF ((rs.map fun x => rt (nr x)) ++ [.int 7])).2 = rt (totP (rs.map nr ++ [(7, 1)])) := by
    rw [tot_eq _ fun d hd => (on d hd).2.1, List.map_append, List.map_map]
    rfl
  have RT : ∀ xs, (xs = .lst ((rs.map fun x => rt (nr x)) ++ [.int 7]) ∨ xs = .tup ((rs.map fun x => rt (nr x)) ++ [.int 7])) → RTotal C [.adr C, xs] (rt (totP (rs.map nr ++ [(7, 1)]))) := fun xs h => ⟨xs, _, rfl, h, ln, on, eT.symm⟩
  have R0 : RTotal C [.adr C, .lst []] (rt (0, 1)) := ⟨.lst [], [], rfl, .inl rfl, by decide, fun d hd => (by cases hd), by
    show rt (0, 1) = mk 0 1
    exact (mk_red (x := (0, 1)) ⟨by decide, by decide⟩).symm⟩
  have zt := a.z "tuple" (by decide +kernel)
  have ho2 : (rs.map nr ++ [((7 : Int), (1 : Int))]).map pr = (rs.map fun x => pr (nr x)) ++ [pr (7, 1)] := by
    rw [List.map_append, List.map_map]
    rfl
  have hT : RTotP [.lst ((rs.map fun x => pr (nr x)) ++ [pr (7, 1)])] (pr (totP (rs.map nr ++ [(7, 1)]))) := ⟨rs.map nr ++ [(7, 1)], by rw [ho2], by rw [List.length_append, List.length_map]; show _ + 1 ≤ _; omega, fun x hx => by
    rcases List.mem_append.mp hx with hx | hx
    · obtain ⟨u, hu, rfl⟩ := List.mem_map.mp hx
      have o := ho u hu
      exact nrm_ok o.1 o.2.1 o.2.2
    · cases List.mem_singleton.mp hx
      exact okp_one (bd_mono (show Bd 3 7 by unfold Bd; decide) (by decide)), rfl⟩
  generalize (rs.map fun x => rt (nr x)) ++ [D.int 7] = gv at *
  generalize totP (rs.map nr ++ [(7, 1)]) = tt at *
  refine s_set 6 scRight.nd rfl (.inl rfl) (d := .lst [rt tt, rt tt, rt tt, rt (0, 1)]) (d_ls (a_cons ?_ (a_cons ?_ (a_cons ?_ (a_cons ?_ a_nil))))) ?_
  · exact d_cmeth (ClX.pe_cmeth (pe_w _) t1 t2 tR r4 (pass0 (X := bx P w K mg base NR "_law_right" (defScope sRight) f cdv A outer s H E)) (pa_w _)) (d_glob rfl T.mgC) (a_cons (vr 5) a_nil) (RT _ (.inl rfl))
  · exact d_cmeth (ClX.pe_cmeth (pe_w _) t1 t2 tR r4 (pass0 (X := bx P w K mg base NR "_law_right" (defScope sRight) f cdv A outer s H E)) (pa_w _)) (d_glob rfl T.mgC) (a_cons (d_callTy call_tuple_of rfl zt (by decide +kernel) (a_cons (vr 5) a_nil) f_tuple) a_nil) (RT _ (.inr rfl))
  · exact d_cmethK t1 t2 t3 t5 r4 (d_glob rfl T.mgC) (k_cons (vr 5) k_nil) rfl (RT _ (.inl rfl)) rfl rfl rfl fun h => PySem.W.methodCall_KW h rfl
  · exact d_cmeth (ClX.pe_cmeth (pe_w _) t1 t2 tR r4 (pass0 (X := bx P w K mg base NR "_law_right" (defScope sRight) f cdv A outer s H E)) (pa_w _)) (d_glob rfl T.mgC) (a_cons (d_ls a_nil) a_nil) R0
  refine s_skip (t_cmpB (o_neSame (x := .lst [pr tt, pr tt, pr tt, pr (0, 1)]) hu rfl rfl) (d_callG a.pairs r4 (a_cons (vr 6) a_nil) ⟨[tt, tt, tt, (0, 1)], rfl, le_d, rfl⟩) (d_binB (o_cat (ds := [pr tt, pr tt, pr tt]) (es := [pr (0, 1)]) le_d) (d_binB (o_rep (ds := [pr tt]) (by decide) (by decide) le_d) (d_ls (a_cons (d_callG a.tot r3 (a_cons (d_binB (o_cat (by rw [List.length_map]; show _ + 1 ≤ _; omega)) (vr 4) (d_ls (a_cons (d_tp (a_cons d_int (a_cons d_int a_nil))) a_nil))) a_nil) hT) a_nil)) d_int) (d_ls (a_cons (d_tp (a_cons d_int (a_cons d_int a_nil))) a_nil)))) ?_
  refine s_set 7 scRight.nd rfl (.inl rfl) (d := .lst vals11) ?_ ?_
  · exact d_ls t9
  have hv : ∀ d ∈ vals11, hasTy d = true := List.all_eq_true.mp (show vals11.all hasTy = true from rfl)
  refine s_lcV (i := 9) (l := 6) (ds := vals11) (gs := vals11.map chk) rfl rfl scRight.nd rfl rfl rfl (blkOk_by (show blkC NR (defScope sRight) _ [("_law_one", 9)] = true by decide +kernel)) (vr 7) le_d (fun _ _ _ _ _ => pg_name (i := 9) scRight.nd rfl (Or.inl rfl)) (fun j d e h1 h2 s H' Ca cl fp => ?_) ?_
  · have hd := hv d (List.mem_of_getElem? h1)
    rw [List.getElem?_map, h1] at h2
    cases h2
    exact d_ls (a_cons (d_callG a.isN r2 (a_cons (vr 9) a_nil) ⟨d, rfl, hd, rfl⟩) (a_cons (d_callG a.isI r1 (a_cons (vr 9) a_nil) ⟨d, rfl, hd, rfl⟩) (a_cons (d_callG a.isC r2 (a_cons (vr 9) a_nil) ⟨d, rfl, hd, rfl⟩) a_nil)))
  exact right_end a hr
end
end DL
end

section
set_option linter.all false
set_option maxRecDepth 100000
set_option maxHeartbeats 4000000
set_option exponentiation.threshold 100
namespace DL
open PySem PySem.Spec PyProof.Rows L2
theorem pairs_of : ∀ {fs : List D}, (∀ (q : Nat) z, fs[q]? = some z → ∃ x, z = pr x ∧ okp 200 x) → ∃ xs : List (Int × Int), fs = xs.map pr ∧ ∀ x ∈ xs, okp 200 x
  | [], _ => ⟨[], rfl, fun x h => nomatch h⟩
  | f :: fs, h => by
    obtain ⟨x, rfl, hx⟩ := h 0 f rfl
    obtain ⟨xs, rfl, hxs⟩ := pairs_of (fs := fs) fun q z e => h (q + 1) z e
    exact ⟨x :: xs, rfl, fun y hy => by
      rcases List.mem_cons.mp hy with rfl | hy
      · exact hx
      · exact hxs y hy⟩
theorem six {α : Type} : ∀ {xs : List α}, xs.length = 6 → ∃ a b c d e f, xs = [a, b, c, d, e, f]
  | [a, b, c, d, e, f], _ => ⟨a, b, c, d, e, f, rfl⟩
section
variable {P : Program} {w : World} {K : PySem.W.Frag} {mg : Str → Option Value} {base : Heap} {C f : Addr} {fd : FuncData}
def RRight : Option Addr → List D → (D → Prop) → Prop := fun pt ds R => ∃ q : Addr, pt = some q ∧ ds = [.adr q] ∧ R = fun d => d = .bl true
theorem ok_right (a : Al P w K mg base C) (gRaw : Gq P w K mg base C 3 "_law_raw" RRaw) (gPick : Gq P w K mg base C 2 "_law_pick" RPick) (gDraw : Gq P w K mg base C 1 "_law_draw" RDraw) (gOne : Gq P w K mg base C 7 "_law_one_right" ROne) (gTwo : Gq P w K mg base C 7 "_law_two_right" RTwo)
    (F : Fun K "_law_right" "_law_right" sRight f fd) (hb : Binds K fd ["_law_pot_here"] []) : DfG P w K mg base C 8 f RRight :=
  dfG_mk F scRight hb (fun pt ds R h => by obtain ⟨_, _, rfl, _⟩ := h; rfl) fun cdv A outer s H pt ds R hgs hr h => by
    obtain ⟨q, hp, rfl, rfl⟩ := h
    refine o_lcR (i := 1) (l := 2) (num := 6) (R := fun _ z => ∃ x, z = pr x ∧ okp 200 x) rfl scRight.nd rfl rfl rfl (blkOk_by (show blkC NR (defScope sRight) _ [("_law_turn", 1)] = true by decide +kernel)) (by exact rfl) (a.z "range" (by decide +kernel)) d_int (by decide) lt_d (fun _ _ _ _ _ => pg_name (i := 1) scRight.nd rfl (Or.inl rfl)) (fun j hj s H' Ca cl fp => ?_) (fun fs hl hR => ?_)
    · exact d_callQG gRaw hgs (hr.mono (show 3 ≤ 7 by decide)) (a_of (a_cons (vr 0) a_nil)) fun ds hd => ⟨q, hp, hd, rfl⟩
    obtain ⟨xs, rfl, hx⟩ := pairs_of hR
    rw [List.length_map] at hl
    obtain ⟨x0, x1, x2, x3, x4, x5, rfl⟩ := six hl
    have o0 := hx x0 (by simp)
    have o1 := hx x1 (by simp)
    have b3 : Bd 2 3 := by unfold Bd; decide
    refine o_app (d := pr (x0.1 * 3, x0.2 * 3)) lt_d rfl (.inl rfl) (Nat.lt_of_lt_of_le (show ([x0, x1, x2, x3, x4, x5].map pr).length < 7 from lt_d) (by decide)) rfl ?_ ?_ (pe_bm PySem.F.plainAttrs_list PySem.F.slot_list_append PySem.F.type_list_append mt_append (pv 2) (pa_w _))
    · refine d_tp (a_cons ?_ (a_cons ?_ a_nil))
      · exact d_binB (o_mul o0.2.1 b3 (by decide)) (d_p0 (x := x0) (d_ix ix_list (vr 2) d_int (r_ixL rfl) (by intro _ _; rfl))) d_int
      · exact d_binB (o_mul o0.2.2 b3 (by decide)) (d_p1 (x := x0) (d_ix ix_list (vr 2) d_int (r_ixL rfl) (by intro _ _; rfl))) d_int
    refine o_app (d := pr (0, x1.2)) lt_d rfl (.inl rfl) (Nat.lt_of_lt_of_le (show ([x0, x1, x2, x3, x4, x5].map pr ++ [pr (x0.1 * 3, x0.2 * 3)]).length < 8 from lt_d) (by decide)) rfl ?_ ?_ (pe_bm PySem.F.plainAttrs_list PySem.F.slot_list_append PySem.F.type_list_append mt_append (pv 2) (pa_w _))
    · refine d_tp (a_cons ?_ (a_cons ?_ a_nil))
      · exact d_int
      · exact d_p1 (x := x1) (d_ix ix_list (vr 2) d_int (r_ixL rfl) (by intro _ _; rfl))
    refine o_close lt_d ?_
    have ho : ∀ x ∈ [x0, x1, x2, x3, x4, x5, (x0.1 * 3, x0.2 * 3), (0, x1.2)], okp 300 x := by
      intro x hx'
      rcases List.mem_append.mp (show x ∈ [x0, x1, x2, x3, x4, x5] ++ [(x0.1 * 3, x0.2 * 3), (0, x1.2)] from hx') with h | h
      · exact okp_mono (hx x h) (by decide)
      · rcases List.mem_cons.mp h with rfl | h
        · exact ⟨Int.mul_ne_zero o0.1 (by decide), bd_mono (bd_mul o0.2.1 b3) (by decide), bd_mono (bd_mul o0.2.2 b3) (by decide)⟩
        · cases List.mem_singleton.mp h
          exact ⟨o1.1, bd_0, bd_mono o1.2.2 (by decide)⟩
    have hL : ([x0, x1, x2, x3, x4, x5].map pr ++ [pr (x0.1 * 3, x0.2 * 3)]) ++ [pr (0, x1.2)] = [x0, x1, x2, x3, x4, x5, (x0.1 * 3, x0.2 * 3), (0, x1.2)].map pr := rfl
    rw [hL]
    have h8 : [x0, x1, x2, x3, x4, x5, (x0.1 * 3, x0.2 * 3), (0, x1.2)].length = 8 := rfl
    generalize [x0, x1, x2, x3, x4, x5, (x0.1 * 3, x0.2 * 3), (0, x1.2)] = rs at *
    have hlen : (rs.map pr).length = 8 := by rw [List.length_map]; exact h8
    refine s_forL 3 (fun j ρ => ∃ a1 a3, ρ = [some (.adr q), a1, some (.lst (rs.map pr)), a3, none, none, none, none, none, none]) rfl scRight.nd rfl (.inl rfl) PassesOwn.never (vr 2) ⟨none, none, rfl⟩ (fun j d ρ' hj h => ?_) fun ρ' h => ?_
    · obtain ⟨a1, a3, rfl⟩ := h
      have hm := List.mem_of_getElem? hj
      obtain ⟨x, hxm, rfl⟩ := List.mem_map.mp hm
      refine s_skip (t_notT (t_val (d_of (d_callQG gOne hgs hr (a_of (a_cons (vr 3) a_nil)) fun ds hd => ⟨x, hd, ho x hxm, rfl⟩)))) (s_nil ⟨a1, _, rfl⟩)
    obtain ⟨a1, a3, rfl⟩ := h
    refine s_forR (num := 12) 1 (fun j ρ => ∃ a1 a3, ρ = [some (.adr q), a1, some (.lst (rs.map pr)), a3, none, none, none, none, none, none]) rfl scRight.nd rfl (.inl rfl) PassesOwn.never (by exact rfl) (a.z "range" (by decide +kernel)) d_int (by decide) ⟨a1, a3, rfl⟩ (fun j ρ' hj h => ?_) fun ρ' h => ?_
    · obtain ⟨a1, a3, rfl⟩ := h
      refine s_skip (t_notT (t_val (d_of (d_callQG gTwo hgs hr (a_consP (d_callQG gPick hgs (hr.mono (show 2 ≤ 7 by decide)) (a_of (a_cons (vr 0) (a_cons (vr 2) a_nil))) fun ds hd => ⟨q, rs.map pr, hp, hd, by omega, by omega, rfl⟩) (a_consP (d_callQG gPick hgs (hr.mono (show 2 ≤ 7 by decide)) (a_of (a_cons (vr 0) (a_cons (vr 2) a_nil))) fun ds hd => ⟨q, rs.map pr, hp, hd, by omega, by omega, rfl⟩) (a_consP (i_sub (A := fun i => 0 ≤ i ∧ i < 41) (B := fun j => j = 20) (Z := fun i => Bd 300 i) (d_callQG gDraw hgs (hr.mono (show 1 ≤ 7 by decide)) (a_of (a_cons (vr 0) (a_cons d_int a_nil))) fun ds hd => ⟨q, _, hp, hd, by decide, by decide, rfl⟩) (i_of d_int rfl) fun x y hx hy => bd_mono (show Bd 6 (x - y) by unfold Bd; omega) (by decide)) a_nilP))) fun ds hd => ?_)))) (s_nil ⟨_, a3, rfl⟩)
      obtain ⟨d1, t1, rfl, h1, d2, t2, rfl, h2, d3, t3, rfl, ⟨i, rfl, h3⟩, rfl⟩ := hd
      obtain ⟨u, hu, rfl⟩ := List.mem_map.mp h1
      obtain ⟨v, hv, rfl⟩ := List.mem_map.mp h2
      exact ⟨u, v, i, rfl, ho u hu, ho v hv, h3, rfl⟩
    obtain ⟨a1, a3, rfl⟩ := h
    exact right_tail a hr h8 ho
end
end DL
end

section
set_option linter.all false
set_option maxRecDepth 100000
set_option maxHeartbeats 4000000
set_option exponentiation.threshold 100
namespace DL
open PySem PySem.Spec PyProof.Rows L2
abbrev sPot : Stmt := top 13
abbrev sLaw : Stmt := top 29
abbrev NP : List Str := ["_law_script", "_law_k", "_law_cell"]
theorem keepS {K : PySem.W.Frag} {H H' : Hp} {p : Addr} {xs : List V} (k : ∀ a o, H a = some o → H' a = some o) (h : SqL K H p xs) : SqL K H' p xs := by
  rcases h with h | h
  · refine .inl ?_
    rcases h with h | ⟨o, h⟩
    · exact .inl (k _ _ h)
    · exact .inr ⟨o, k _ _ h⟩
  · exact .inr h
theorem bef0 {H : Hp} : Bef none (fun _ => none) H := ⟨fun _ _ h => (nomatch h), fun _ h => (nomatch h)⟩
theorem aft_keep {G H G' H' : Hp} (a : Aft none G H G' H') : ∀ x o, H x = some o → H' x = some o := fun x o e => a.keep x o (fun z => nomatch z) e
def potB (c : Int) : Int := if 0 < c - 1000000000000000000 then c - 1000000000000000000 else 0
/-- what _law_pot promises -/
def spPot (K : PySem.W.Frag) : Sp := fun vs H Q _ => ∃ (p : Addr) (ns : List Int), vs = [.ref p, .int 0] ∧ SqL K H p (ns.map V.int) ∧ ∀ (l : Addr) (b c : Int) (H' : Hp), (∀ x o, H x = some o → H' x = some o) → H' l = some (.lst [.int b, .int c]) → 0 ≤ b → 0 ≤ c → c < 2 ^ 40 → Q (.ref l) H'
theorem scPot : FnScope NP ["_law_script", "_law_k"] (defScope sPot) := ⟨rfl, rfl, rfl, by decide +kernel, rfl, by decide +kernel, by decide +kernel⟩
section
variable {P : Program} {w : World} {K : PySem.W.Frag} {mg : Str → Option Value} {base : Heap} {C f : Addr} {fd : FuncData}
theorem pot_tail (za : mg "max" = none) (zi : mg "int" = none) {cdv : Value} {A : Around} {outer : List Env} {s : Shared} {H : Hp} {E : XK} {d0 : Option D} {c : Int} :
    RunP C none (bx P w K mg base NP "_law_pot" (defScope sPot) f cdv A outer s H E) ((defBody sPot).drop 2) [d0, some (.int 0), some (.int c)] (fun o => match o with | .ret d => ∃ a b, d = .lst [.int a, .int b] ∧ 0 ≤ a ∧ 0 ≤ b ∧ b < 2 ^ 40 | .fall _ => False) := by
  refine s_ret (d := .lst [.int (if c - 10 ^ (18 : Int).toNat > 0 then c - 10 ^ (18 : Int).toNat else 0), .int ((c % 2147483549 + 53) * (2 * 0 + 3) ^ (3 : Int).toNat % 2147483477 + 1)]) (d_ls (a_cons ?_ (a_cons ?_ a_nil))) ⟨_, _, rfl, ?_, ?_, ?_⟩
  · exact d_callB (call_max2 rfl) rfl za (by decide +kernel) (a_cons d_int (a_cons (d_binB o_sub (vr 2) (d_binB (o_pow (by decide)) d_int d_int)) a_nil)) f_max
  · refine d_binB o_add (d_binB (o_mod (by decide)) (d_binB (o_mul (n := 34) (m := 34) ?_ ?_ (by decide)) (d_callTy call_int1 rfl zi (by decide +kernel) (a_cons (d_binB o_add (d_binB (o_mod (by decide)) (d_callTy call_int1 rfl zi (by decide +kernel) (a_cons (vr 2) a_nil) f_int) d_int) d_int) a_nil) f_int) (d_binB (o_pow ?_) (d_binB o_add (d_binB (o_mul (n := 2) (m := 1) (by unfold Bd; decide) (by unfold Bd; decide) (by decide)) d_int (vr 1)) d_int) d_int)) d_int) d_int
    · have h0 := Int.emod_nonneg c (show (2147483549 : Int) ≠ 0 by decide)
      have h1 := Int.emod_lt_of_pos c (show (0 : Int) < 2147483549 by decide)
      unfold Bd
      omega
    · unfold Bd
      decide
    · decide
  · split <;> omega
  · have h0 := Int.emod_nonneg ((c % 2147483549 + 53) * (2 * 0 + 3) ^ (3 : Int).toNat) (show (2147483477 : Int) ≠ 0 by decide)
    omega
  · have h1 := Int.emod_lt_of_pos ((c % 2147483549 + 53) * (2 * 0 + 3) ^ (3 : Int).toNat) (show (0 : Int) < 2147483477 by decide)
    omega
theorem at0 {x : V} {xs : List V} : atI (x :: xs) 0 = some x := by
  have e : ixN (x :: xs).length 0 = some 0 := by
    unfold ixN
    rw [if_pos (by decide), if_pos (by rw [List.length_cons]; omega)]
    rfl
  unfold atI
  rw [e]
  rfl
theorem iteT {b : Bool} {p q : Prop} (h : b = true) (hp : p) : if b = true then p else q := by
  rw [if_pos h]
  exact hp
theorem iteF {b : Bool} {p q : Prop} (h : b = false) (hq : q) : if b = true then p else q := by
  rw [if_neg (by rw [h]; decide)]
  exact hq
theorem ok_pot (za : mg "max" = none) (zi : mg "int" = none) (zb : mg "abs" = none) (zl : mg "len" = none) (C : Addr) (F : Fun K "_law_pot" "_law_pot" sPot f fd) : FnOk P w K mg base CX0 1 f fd ["_law_script", "_law_k"] (spPot K) :=
  F.ok scPot (fun vs H Q E h => by obtain ⟨_, _, rfl, _⟩ := h; rfl) fun cdv A outer s H vs Q E hr h => by
    obtain ⟨p, ns, rfl, hS, q⟩ := h
    refine ⟨_, ps_w _, ?_⟩
    intro pins s0 I
    have en0 : EnvOk C (fun _ => none) (L2.start NP [V.ref p, V.int 0]) [some (.adr p), some (.int 0), none] := EnvOk.start (C := C) (G := fun _ => none) (N := NP) (ds := [.adr p, .int 0]) (.cons (.adr p) (.cons (.int 0) .nil))
    refine (pss_cons (ps_set (i := 2) scPot.nd rfl (.inl rfl) (pe_w _)) (ps_w _)).run pins s0 _ H _ I ?_
    refine (d_binB o_add (d_binB (o_mul (n := 8) (m := 1) (by unfold Bd; decide) (by unfold Bd; decide) (by decide)) d_int (vr 1)) d_int : EvD C none _ [some (.adr p), some (.int 0), none] (.int (127 * 0 + 53))) _ _ H en0 bef0 _ fun v G1 H1 a1 i1 => ?_
    cases i1
    intro pins s1 I
    have S1 := keepS (aft_keep a1) hS
    have tail : ∀ (σ : L2.St) (c : Int), σ = [some (.ref p), some (.int 0), some (.int c)] → wS (bx P w K mg base NP "_law_pot" (defScope sPot) f cdv A outer s H E) ((defBody sPot).drop 2) { nx := fun _ H' => Q .non H', rt := Q } σ H1 := by
      rintro σ c rfl
      refine pot_tail (C := C) za zi (d0 := some (.adr p)) (c := c) _ (fun _ => none) H1 ⟨rfl, fun i d e => ?_⟩ bef0 _ (fun d v G2 H2 hd a2 i2 => ?_) (fun ρ' σ' G2 H2 hd _ _ => hd.elim)
      · match i, e with
        | 0, e => cases e; exact ⟨_, rfl, .adr p⟩
        | 1, e => cases e; exact ⟨_, rfl, .int 0⟩
        | 2, e => cases e; exact ⟨_, rfl, .int c⟩
      · obtain ⟨x, y, rfl, h0, h1, h2⟩ := hd
        cases i2 with
        | @lst l vs2 _ hl r2 =>
          obtain ⟨v1, v2, rfl, g1, g2⟩ := isl2 r2
          cases isI g1
          cases isI g2
          exact q l x y H2 (fun u o e => aft_keep a2 u o (aft_keep a1 u o e)) (a2.sub _ _ hl) h0 h1 h2
    refine (pss_cons (ps_if (pt_cmpR op_lt (pv 1) (pe_callB call_len_seq (by exact rfl) zl (by decide +kernel) (pa_cons (pv 0) pa_nil)) (nomark _)) (pss_one (ps_set (i := 2) scPot.nd rfl (.inl rfl) (pe_callB call_abs (by exact rfl) zb (by decide +kernel) (pa_cons (pe_ix ix_list (pv 0) (pv 1) (by intro _ _; rfl)) pa_nil)))) pss_nil) (ps_w _)).run pins s1 _ H1 _ I ?_
    refine ⟨.int 0, rfl, .ref p, rfl, p, ns.map V.int, rfl, .inl S1, 0, ((ns.map V.int).length : Nat), rfl, rfl, _, rfl, ?_⟩
    cases ns with
    | nil => exact iteF rfl (tail _ 53 rfl)
    | cons n0 ns =>
      refine iteT (decide_eq_true (by rw [List.length_map, List.length_cons]; omega)) ?_
      refine ⟨.ref p, rfl, .int 0, rfl, p, _, 0, .int n0, rfl, rfl, S1, at0, n0, rfl, ?_⟩
      exact tail _ _ rfl
end
end DL
end

section
set_option linter.all false
set_option maxRecDepth 100000
set_option maxHeartbeats 4000000
set_option exponentiation.threshold 100
/-! The law itself, where no text is being shown. -/
namespace DL
open PySem PySem.Spec PyProof.Rows L2
theorem scLaw : FnScope ["_law_script"] ["_law_script"] (defScope sLaw) := ⟨rfl, rfl, rfl, by decide +kernel, rfl, by decide +kernel, by decide +kernel⟩
def QPot (vs : List V) (H : Hp) : Prop := ∃ (l : Addr) (b c : Int), vs = [.ref l] ∧ H l = some (.lst [.int b, .int c]) ∧ 0 ≤ b ∧ 0 ≤ c ∧ c < 2 ^ 40
theorem law_args {X : Cx} {fp p : Addr} {fdp : FuncData} {ns : List Int} {σ : L2.St} {H : Hp} {p1 p2 p3 p4 : Pos} {j} (Fp : FnOk X.prog X.w X.K X.mg X.base CX0 1 fp fdp ["_law_script", "_law_k"] (spPot X.K)) (hr : Room 1 X.A) (hg : Gl X "_law_pot") (hm : X.mg "_law_pot" = some (.ref fp)) (hk : PySem.W.keepIn X.K (.ref fp) = true) (hb : Binds X.K fdp ["_law_script", "_law_k"] [])
    (hN : X.N[0]? = some ("_law_script" : Str)) (hv : Vis X.env.scope "_law_script") (hσ : σ[0]? = some (some (.ref p))) (hS : SqL X.K H p (ns.map V.int)) : wA X [.Call (.Name "_law_pot" p1) [.Name "_law_script" p2, .Constant (.int 0) j p3] [] p4] σ H QPot := fun pos pins s I =>
  (pa_cons (pe_call Fp hr hg hm hk hb .nil (pass0 (X := X)) (pa_cons (pe_var hN hv) (pa_cons pe_int pa_nil))) pa_nil).run pos pins s σ H QPot I ⟨.ref p, hσ, p, ns, rfl, hS, fun l b c H' _ hl h0 h1 h2 => ⟨l, b, c, rfl, hl, h0, h1, h2⟩⟩
section
variable {P : Program} {w : World} {K : PySem.W.Frag} {mg : Str → Option Value} {base : Heap} {C f fp : Addr} {fd fdp : FuncData}
theorem law_run (gR : Gq P w K mg base C 8 "_law_right" RRight) (hmp : mg "_law_pot" = some (.ref fp)) (Fp : FnOk P w K mg base CX0 1 fp fdp ["_law_script", "_law_k"] (spPot K)) (hbp : Binds K fdp ["_law_script", "_law_k"] []) (hkp : PySem.W.keepIn K (.ref fp) = true)
    (F : Fun K "law" "law" sLaw f fd) {A : Around} {outer : List Env} {s : Shared} {H : Hp} {args : Args} {us : List Value} {p : Addr} {ns : List Int} (hg : A.guards = some []) (hr : Room 9 A) (e0 : Env0 P w K mg base A outer s H) (hb : BindsTo s fd args ((["_law_script"] : List Str).zip us)) (rv : Vals [V.ref p] us) (hS : SqL K H p (ns.map V.int)) :
    codeAny (model P w) A (.call (.ref f) args) (CR CX0 outer P w H s (fun v _ => v = .bl true) E0) s := by
  refine run_at F scLaw hr e0 hb rv rfl fun cdv => ?_
  have hr8 : Room 8 (bx P w K mg base ["_law_script"] "law" (defScope sLaw) f cdv A outer s H E0).A := hr.deeper _
  have hg8 : (bx P w K mg base ["_law_script"] "law" (defScope sLaw) f cdv A outer s H E0).A.guards = some [] := hg
  intro pins s1 I
  refine (pss_cons (ps_ret (pe_w _)) pss_nil).run pins s1 _ H _ I ?_
  intro pins s2 I
  obtain ⟨fr, hm, D'⟩ := gR.ex
  obtain ⟨fdr, ps, bind, len, run⟩ := D'.ex
  refine wpAny_Call_Name_kw (ld_glob I (by exact rfl) hm (PySem.W.callWith_K (h₀ := base) I.ok.mod.kin D'.kp (thn (law_args (X := bx P w K mg base ["_law_script"] "law" (defScope sLaw) f cdv A outer s H E0) Fp (hr8.mono (by decide)) (by exact rfl) hmp hkp hbp rfl (.inl rfl) rfl hS _ pins s2 I) ?_) rfl rfl) (by decide))
  rintro us s3 ⟨vs, H1, I1, rv1, l, b, c, rfl, hl, h0, h1, h2⟩
  have b0 : Bef (some l) (fun _ => none) H1 := ⟨fun _ _ h => (nomatch h), fun q e => by cases e; exact ⟨rfl, b, c, hl, h0, h1, h2⟩⟩
  have RR : RRight (some l) [.adr l] (fun d => d = .bl true) := ⟨l, rfl, rfl, rfl⟩
  have hn : (us ++ []).length = ps.length := by rw [List.append_nil, ← rv1.length]; exact len _ _ _ RR
  refine ⟨I1.kIn, wpAny_call (codeAny_mono (run _ _ s3 H1 ⟨us, []⟩ us [.ref l] (fun v _ => v = .bl true) (some l) [.adr l] (fun d => d = .bl true) (fun _ => none) hg8 hr8 I1.env0 (by have := bind s3 us I1.kIn hn; rwa [List.append_nil] at this) rv1 RR b0 (.cons (.adr l) .nil) fun d v G2 H2 e a i => by subst e; cases i; rfl) fun res s' got => ?_)⟩
  match res, got with
  | .ok (.ret _), got => exact I1.after got
end
end DL
end

section
set_option linter.all false
set_option maxRecDepth 100000
set_option maxHeartbeats 4000000
set_option exponentiation.threshold 100
/-! The law from the top, where nothing is being shown. -/
namespace DL
open PySem PySem.Spec PyProof.Rows L2
section
variable {P : Program} {w : World} {K : PySem.W.Frag} {mg mb : Str → Option Value} {s₁ : Shared} {a : Addr} {vs : List Value} {ns : List Int} {H : Hp}
/-- the script alone is tracked: what a call from the top starts from -/
theorem env_top (KX : K.In s₁.heap) (hns : s₁.heap.Ns mainGlobals mg) (hb : s₁.heap.Ns builtinsNs mb) (hbb : ∀ x : Str, x ≠ "__name__" → mb x = bootBuiltins x) (hlim : s₁.heap.NoLimit) (hg : s₁.gens = #[])
    (ha : s₁.heap.get? a = some { cls := .type "list", data := .seq vs.toArray }) (only : ∀ b, H b ≠ none → b = a) (hK : H a ≠ none → K.lookup a = none) (hok : HOk P w H s₁.heap) :
    K.In (hidT s₁.heap H) ∧ (hidT s₁.heap H).Ns mainGlobals mg ∧ Env0 P w K mg (hidT s₁.heap H) callerA [] s₁ H := by
  have free : ∀ {b : Addr} {o : Obj}, b ≠ a → s₁.heap.get? b = some o → (hidT s₁.heap H).get? b = some o := fun ne e => hidT_get e (Classical.not_not.mp fun z => ne (only _ z))
  have other : ∀ {b : Addr} {o : Obj} {es : Array DictEntry} {ep : Nat}, s₁.heap.get? b = some o → o.data = .dict es ep → b ≠ a := by
    rintro b o es ep e d rfl
    rw [ha] at e
    cases e
    cases (show Data.seq vs.toArray _ = Data.dict es ep from d)
  have spaces : ∀ {b : Addr} {m : Str → Option Value}, s₁.heap.Ns b m → (hidT s₁.heap H).Ns b m := by
    rintro b m ⟨o, es, ep, e, d, r⟩
    exact ⟨o, es, ep, free (other e d) e, d, r⟩
  have kin : K.In (hidT s₁.heap H) := by
    intro b o e
    refine hidT_get (KX b o e) (Classical.not_not.mp fun z => ?_)
    have := only b z
    subst this
    rw [hK z] at e
    cases e
  obtain ⟨mc, l1, l2⟩ := hlim
  exact ⟨kin, spaces hns, rfl, ⟨kin, spaces hns, ⟨mb, spaces hb, hbb⟩, mc, spaces l1, l2⟩, fun b o e => of_hidT e, Nat.le_of_eq (hidT_size _ _), trivial, fun b z => (by cases z), hok, .of_eq hg⟩
/-- what is left behind the call -/
theorem end_top {fa : Addr} {args : Args} (tr : ∀ b, H b = none ∨ ∃ o xs, H b = some (.frz o (.lst xs))) (hok : HOk P w H s₁.heap) (h : codeAny (model P w) callerA (.call (.ref fa) args) (CR CX0 [] P w H s₁ (fun v _ => v = .bl true) E0) s₁) :
    codeAny (model P w) callerA (.call (.ref fa) args) (fun r s' => r = .ok (.ret (.bool true)) ∧ OldK s₁.heap s'.heap ∧ s'.os = s₁.os ∧ AllBare s'.gens) s₁ :=
  codeAny_mono h fun res s' got => match res, got with
    | .ok (.ret u), ⟨v, H', os, bare, un, hok', same, q⟩ => by
      subst q
      cases same
      refine ⟨rfl, OldK.of_keep fun b o e => ?_, os, bare⟩
      rcases tr b with n | ⟨x, xs, n⟩
      · exact un.keep b o e n (List.not_mem_nil) (List.not_mem_nil)
      · have before := (hok b _ n).1
        have after := (hok' b _ (un.frzs b x _ n)).1
        rw [e] at before
        rw [after, Option.some.inj before]
theorem law_top {fa : Addr} (KX : K.In s₁.heap) (hns : s₁.heap.Ns mainGlobals mg) (hb : s₁.heap.Ns builtinsNs mb) (hbb : ∀ x : Str, x ≠ "__name__" → mb x = bootBuiltins x) (hlim : s₁.heap.NoLimit) (hg : s₁.gens = #[])
    (ha : s₁.heap.get? a = some { cls := .type "list", data := .seq vs.toArray }) (hi : IntsAre vs ns) (hl : ns.length ≤ sizeLine)
    (run : ∀ base H, K.In base → base.Ns mainGlobals mg → Env0 P w K mg base callerA [] s₁ H → SqL K H a (ns.map V.int) → codeAny (model P w) callerA (.call (.ref fa) ⟨[.ref a], []⟩) (CR CX0 [] P w H s₁ (fun v _ => v = .bl true) E0) s₁) :
    codeAny (model P w) callerA (.call (.ref fa) ⟨[.ref a], []⟩) (fun r s' => r = .ok (.ret (.bool true)) ∧ OldK s₁.heap s'.heap ∧ s'.os = s₁.os ∧ AllBare s'.gens) s₁ := by
  have rv := vals_ints hi
  by_cases own : ∃ o, K.lookup a = some o
  · obtain ⟨o, hk⟩ := own
    have here := (KX a o hk).symm.trans ha
    cases here
    have hok : HOk P w (fun _ => none) s₁.heap := fun b u z => nomatch (show (none : Option HO) = some u from z)
    obtain ⟨k1, k2, k3⟩ := env_top (H := fun _ => none) KX hns hb hbb hlim hg ha (fun b z => absurd rfl z) (fun z => absurd rfl z) hok
    exact end_top (fun b => .inl rfl) hok (run _ _ k1 k2 k3 (.inr ⟨_, vs.toArray, _, hk, rfl, rfl, rfl, by rw [List.size_toArray, hi.length]; exact hl, by simpa using rv⟩))
  · have none' : K.lookup a = none := by
      cases z : K.lookup a with
      | none => rfl
      | some o => exact absurd ⟨o, z⟩ own
    let H : Hp := fun b => if b = a then some (.frz { cls := .type "list", data := .seq vs.toArray } (.lst (ns.map V.int))) else none
    have at_a : H a = some (.frz { cls := .type "list", data := .seq vs.toArray } (.lst (ns.map V.int))) := if_pos rfl
    have off : ∀ {b}, b ≠ a → H b = none := fun ne => if_neg ne
    have hok : HOk P w H s₁.heap := fun b u z => by
      by_cases e : b = a
      · subst e
        rw [at_a] at z
        cases z
        exact ⟨ha, by rw [List.length_map]; exact hl, vs, _, rv, ha⟩
      · rw [off e] at z
        cases z
    obtain ⟨k1, k2, k3⟩ := env_top (H := H) KX hns hb hbb hlim hg ha (fun b z => Classical.not_not.mp fun e => z (off e)) (fun _ => none') hok
    refine end_top (fun b => ?_) hok (run _ _ k1 k2 k3 (.inl (.inr ⟨_, at_a⟩)))
    by_cases e : b = a
    · subst e
      exact .inr ⟨_, _, at_a⟩
    · exact .inl (off e)
end
end DL
end

section
set_option linter.all false
set_option maxRecDepth 100000
set_option maxHeartbeats 4000000
set_option exponentiation.threshold 100
/-! What the top has written, and all that follows. -/
namespace DL
open PySem PySem.Spec PyProof.Rows L2
structure G1 (K : PySem.W.Frag) (n : Str) (st : Stmt) : Prop where
  ex : ∃ f fd, PySem.W.nsIn K mainGlobals n = some (some (.ref f)) ∧ Fun K n n st f fd ∧ PySem.W.isFn K (.ref f) = true
structure Mt1 (K : PySem.W.Frag) (C : Addr) (m qual : Str) (st : Stmt) : Prop where
  ex : ∃ f fd, PySem.W.findIn K (.ref C) m = some (some (.ref f)) ∧ Fun K m qual st f fd ∧ PySem.W.isFn K (.ref f) = true
structure Pr1 (K : PySem.W.Frag) (C : Addr) (m qual : Str) (st : Stmt) : Prop where
  ex : ∃ p f fd, PropOf K C m p f ∧ Fun K m qual st f fd ∧ PySem.W.isFn K (.ref f) = true
structure KF (K : PySem.W.Frag) (C : Addr) : Prop where
  aC : PySem.W.nsIn K mainGlobals "Ratio" = some (some (.ref C))
  T : ∀ mg : Str → Option Value, mg "Ratio" = some (.ref C) → Rt K mg C
  z1 : PySem.W.nsIn K mainGlobals "int" = some none
  z2 : PySem.W.nsIn K mainGlobals "abs" = some none
  z3 : PySem.W.nsIn K mainGlobals "max" = some none
  z4 : PySem.W.nsIn K mainGlobals "len" = some none
  z5 : PySem.W.nsIn K mainGlobals "str" = some none
  z6 : PySem.W.nsIn K mainGlobals "repr" = some none
  z7 : PySem.W.nsIn K mainGlobals "isinstance" = some none
  z8 : PySem.W.nsIn K mainGlobals "list" = some none
  z9 : PySem.W.nsIn K mainGlobals "tuple" = some none
  z10 : PySem.W.nsIn K mainGlobals "range" = some none
  z11 : PySem.W.nsIn K mainGlobals "divmod" = some none
  z12 : PySem.W.nsIn K mainGlobals "bool" = some none
  zg : PySem.W.nsIn K mainGlobals "gcd" = some (some (.builtin "math.gcd"))
  zm : PySem.W.nsIn K mainGlobals "lcm" = some (some (.builtin "math.lcm"))
  fII : G1 K "is_integer" sIsInt
  fIC : G1 K "is_count" sIsCount
  fIN : G1 K "is_number" sIsNum
  fH : G1 K "halves" sHalves
  init : ∃ f fd, Mk K C f ∧ FunD K "__init__" "Ratio.__init__" (defArgs (sR 0)) (defBody (sR 0)) (defScope (sR 0)) [.int 1] [] f fd
  pT : Pr1 K C "top" "Ratio.top" (sR 1)
  pB : Pr1 K C "bottom" "Ratio.bottom" (sR 2)
  pS : Pr1 K C "sign" "Ratio.sign" (sR 3)
  pW : Pr1 K C "is_whole" "Ratio.is_whole" (sR 4)
  mAdd : Mt1 K C "__add__" "Ratio.__add__" (sR 5)
  mRadd : Mt1 K C "__radd__" "Ratio.__radd__" (sR 6)
  mSub : Mt1 K C "__sub__" "Ratio.__sub__" (sR 7)
  mRsub : Mt1 K C "__rsub__" "Ratio.__rsub__" (sR 8)
  mMul : Mt1 K C "__mul__" "Ratio.__mul__" (sR 9)
  mRmul : Mt1 K C "__rmul__" "Ratio.__rmul__" (sR 10)
  mNeg : Mt1 K C "__neg__" "Ratio.__neg__" (sR 11)
  mOver : Mt1 K C "over" "Ratio.over" (sR 12)
  mSize : Mt1 K C "size" "Ratio.size" (sR 13)
  mBelow : Mt1 K C "is_below" "Ratio.is_below" (sR 14)
  mMost : Mt1 K C "is_at_most" "Ratio.is_at_most" (sR 15)
  mEq : Mt1 K C "__eq__" "Ratio.__eq__" (sR 17)
  mStr : Mt1 K C "__str__" "Ratio.__str__" (sR 18)
  mRepr : Mt1 K C "__repr__" "Ratio.__repr__" (sR 19)
  tot : ∃ mc q f fd, ClX.CRead K C mc ∧ ClX.CMet K C mc "total" q f ∧ Fun K "total" "Ratio.total" (sR 16) f fd
  iAdd : (∃ o, PySem.W.findIn K (.type "int") "__add__" = some o) ∧ ∃ o, PySem.W.findIn K (.type "int") "__radd__" = some o
  iSub : (∃ o, PySem.W.findIn K (.type "int") "__sub__" = some o) ∧ ∃ o, PySem.W.findIn K (.type "int") "__rsub__" = some o
  iMul : (∃ o, PySem.W.findIn K (.type "int") "__mul__" = some o) ∧ ∃ o, PySem.W.findIn K (.type "int") "__rmul__" = some o
  lPot : G1 K "_law_pot" sPot
  lDraw : G1 K "_law_draw" sDraw
  lPick : G1 K "_law_pick" sPick
  lLow : G1 K "_law_low" sLow
  lSum : G1 K "_law_sum" sSum
  lBy : G1 K "_law_by" sBy
  lLess : G1 K "_law_less" sLess
  lOver : G1 K "_law_over" sOver
  lTot : G1 K "_law_total" sTot
  lPair : G1 K "_law_pair" sPair
  lPairs : G1 K "_law_pairs" sPairs
  lShown : G1 K "_law_shown" sShown
  lRaw : G1 K "_law_raw" sRaw
  lOne : G1 K "_law_one_right" sOne
  lTwo : G1 K "_law_two_right" sTwo
  lRight : G1 K "_law_right" sRight
section
variable {P : Program} {w : World} {K : PySem.W.Frag} {mg : Str → Option Value} {base : Heap} {C : Addr} {n m qual : Str} {st : Stmt} {k : Nat} {Rel : List D → D → Prop} {RelG : Option Addr → List D → (D → Prop) → Prop}
theorem gd (X : K.In base) (G : base.Ns mainGlobals mg) (g : G1 K n st) (h : ∀ f fd, Fun K n n st f fd → PySem.W.isFn K (.ref f) = true → Df P w K mg base C k f Rel) : Gd P w K mg base C k n Rel :=
  let ⟨f, fd, a, F, i⟩ := g.ex
  ⟨f, PySem.W.mg_of X G a, h f fd F i⟩
theorem gq (X : K.In base) (G : base.Ns mainGlobals mg) (g : G1 K n st) (h : ∀ f fd, Fun K n n st f fd → DfG P w K mg base C k f RelG) : Gq P w K mg base C k n RelG :=
  let ⟨f, fd, a, F, i⟩ := g.ex
  ⟨f, PySem.W.mg_of X G a, h f fd F⟩
theorem md (g : Mt1 K C m qual st) (h : ∀ f fd, Fun K m qual st f fd → PySem.W.isFn K (.ref f) = true → Df P w K mg base C k f Rel) : Md P w K mg base C k m Rel :=
  let ⟨f, fd, a, F, i⟩ := g.ex
  ⟨f, a, h f fd F i⟩
theorem pd (g : Pr1 K C m qual st) (h : ∀ f fd, Fun K m qual st f fd → PySem.W.isFn K (.ref f) = true → Df P w K mg base C k f Rel) : Pd P w K mg base C k m Rel :=
  let ⟨p, f, fd, a, F, i⟩ := g.ex
  ⟨p, f, a, h f fd F i⟩
theorem opI_mk {op : Operator} {a b : Str} (e1 : PySem.dunder op.info.2 = a) (e2 : PySem.dunderR op.info.2 = b) (hr : ∃ g, PySem.W.findIn K (.ref C) b = some (some (.ref g))) (hf : ∃ o, PySem.W.findIn K (.type "int") a = some o) (hg : ∃ o, PySem.W.findIn K (.type "int") b = some o) : OpI K C op := ⟨by rw [e2]; exact hr, by rw [e1]; exact hf, by rw [e2]; exact hg⟩
theorem al_of (X : K.In base) (G : base.Ns mainGlobals mg) (q : KF K C) : Al P w K mg base C := by
  have T := q.T mg (PySem.W.mg_of X G q.aC)
  have n1 := PySem.W.mg_none_of X G q.z1
  have n2 := PySem.W.mg_none_of X G q.z2
  have n3 := PySem.W.mg_none_of X G q.z3
  have n4 := PySem.W.mg_none_of X G q.z4
  have n5 := PySem.W.mg_none_of X G q.z5
  have n6 := PySem.W.mg_none_of X G q.z6
  have n7 := PySem.W.mg_none_of X G q.z7
  have n8 := PySem.W.mg_none_of X G q.z8
  have n9 := PySem.W.mg_none_of X G q.z9
  have n10 := PySem.W.mg_none_of X G q.z10
  have n11 := PySem.W.mg_none_of X G q.z11
  have n12 := PySem.W.mg_none_of X G q.z12
  have gII := gd (P := P) (w := w) (C := C) X G q.fII fun f fd F i => ok_isInt T n7 n1 n12 F (F.binds fun _ _ _ _ _ _ us hl => match us, hl with | [_], _ => rfl) i
  have gIC := gd (P := P) (w := w) (C := C) X G q.fIC fun f fd F i => ok_isCount gII F (F.binds fun _ _ _ _ _ _ us hl => match us, hl with | [_], _ => rfl) i
  have gIN := gd (P := P) (w := w) (C := C) X G q.fIN fun f fd F i => ok_isNum T n7 gII F (F.binds fun _ _ _ _ _ _ us hl => match us, hl with | [_], _ => rfl) i
  have pT := pd (P := P) (w := w) (mg := mg) (base := base) q.pT fun f fd F i => ok_top T F (F.binds fun _ _ _ _ _ _ us hl => match us, hl with | [_], _ => rfl) i
  have pB := pd (P := P) (w := w) (mg := mg) (base := base) q.pB fun f fd F i => ok_bottom T F (F.binds fun _ _ _ _ _ _ us hl => match us, hl with | [_], _ => rfl) i
  have pS := pd (P := P) (w := w) (mg := mg) (base := base) q.pS fun f fd F i => ok_sign T F (F.binds fun _ _ _ _ _ _ us hl => match us, hl with | [_], _ => rfl) i
  have pW := pd (P := P) (w := w) (mg := mg) (base := base) q.pW fun f fd F i => ok_whole T F (F.binds fun _ _ _ _ _ _ us hl => match us, hl with | [_], _ => rfl) i
  have gH := gd (P := P) (w := w) (C := C) X G q.fH fun f fd F i => ok_halves T n7 gII pT pB F (F.binds fun _ _ _ _ _ _ us hl => match us, hl with | [_], _ => rfl) i
  have ck : Ck P w K mg base C 2 := by
    obtain ⟨f, fd, M, F⟩ := q.init
    have I := ok_init (P := P) (w := w) (base := base) T (PySem.W.mg_of X G q.zg) gII F
    obtain ⟨its, kb⟩ := F.kbindsD (ps := ["self", "top", "bottom"]) 1 ["top", "bottom"] (fun us its ws => us ++ ws) (by simp) (fun r1 _ r3 => r1.append r3) (fun T kV doc pm an cdv ct us its ws l1 l2 l3 => match us, its, ws, l1, l2, l3 with | [_], [_], [_, _], _, _, _ => ⟨_, rfl, rfl⟩)
    obtain ⟨ds, rd, bd⟩ := F.binds1 (ps := ["self", "top", "bottom"]) 3 1 (by simp) rfl (fun T kV doc pm an cdv ct us its l1 l2 => match us, its, l1, l2 with | [_, _, _], [_], _, _ => ⟨_, rfl, rfl⟩)
    cases (show Vals [] ds from rd)
    exact ⟨f, _, M, I, bd, kb⟩
  have mAdd : Md P w K mg base C 4 (PySem.dunder "add") (R2op 2000 gAdd) := by
    rw [show PySem.dunder "add" = ("__add__" : Str) by decide +kernel]
    exact md q.mAdd fun f fd F i => ok_add T gH ck F (F.binds fun _ _ _ _ _ _ us hl => match us, hl with | [_, _], _ => rfl) i
  have mSub : Md P w K mg base C 4 (PySem.dunder "sub") (R2op 2000 gSub) := by
    rw [show PySem.dunder "sub" = ("__sub__" : Str) by decide +kernel]
    exact md q.mSub fun f fd F i => ok_sub T gH ck F (F.binds fun _ _ _ _ _ _ us hl => match us, hl with | [_, _], _ => rfl) i
  have mMul : Md P w K mg base C 4 (PySem.dunder "mul") (R2op 2000 gMul) := by
    rw [show PySem.dunder "mul" = ("__mul__" : Str) by decide +kernel]
    exact md q.mMul fun f fd F i => ok_mul T gH ck F (F.binds fun _ _ _ _ _ _ us hl => match us, hl with | [_, _], _ => rfl) i
  have mNeg : Md P w K mg base C 4 "__neg__" (RNeg) := md q.mNeg fun f fd F i => ok_neg T ck F (F.binds fun _ _ _ _ _ _ us hl => match us, hl with | [_], _ => rfl) i
  have iAdd : OpI K C .Add := opI_mk (a := "__add__") (b := "__radd__") (by decide +kernel) (by decide +kernel) (let ⟨g, _, e, _⟩ := q.mRadd.ex; ⟨g, e⟩) q.iAdd.1 q.iAdd.2
  have iSub : OpI K C .Sub := opI_mk (a := "__sub__") (b := "__rsub__") (by decide +kernel) (by decide +kernel) (let ⟨g, _, e, _⟩ := q.mRsub.ex; ⟨g, e⟩) q.iSub.1 q.iSub.2
  have iMul : OpI K C .Mult := opI_mk (a := "__mul__") (b := "__rmul__") (by decide +kernel) (by decide +kernel) (let ⟨g, _, e, _⟩ := q.mRmul.ex; ⟨g, e⟩) q.iMul.1 q.iMul.2
  have mRadd : Md P w K mg base C 5 (PySem.dunderR "add") (Rri gAdd) := by
    rw [show PySem.dunderR "add" = ("__radd__" : Str) by decide +kernel]
    exact md q.mRadd fun f fd F i => ok_radd T iAdd mAdd F (F.binds fun _ _ _ _ _ _ us hl => match us, hl with | [_, _], _ => rfl) i
  have mRmul : Md P w K mg base C 5 (PySem.dunderR "mul") (Rri gMul) := by
    rw [show PySem.dunderR "mul" = ("__rmul__" : Str) by decide +kernel]
    exact md q.mRmul fun f fd F i => ok_rmul T iMul mMul F (F.binds fun _ _ _ _ _ _ us hl => match us, hl with | [_, _], _ => rfl) i
  have mRsub : Md P w K mg base C 5 (PySem.dunderR "sub") (Rri gRsub) := by
    rw [show PySem.dunderR "sub" = ("__rsub__" : Str) by decide +kernel]
    exact md q.mRsub fun f fd F i => ok_rsub T iAdd mAdd mNeg F (F.binds fun _ _ _ _ _ _ us hl => match us, hl with | [_, _], _ => rfl) i
  have mSize : Md P w K mg base C 4 "size" (RSize) := md q.mSize fun f fd F i => ok_size T n2 ck F (F.binds fun _ _ _ _ _ _ us hl => match us, hl with | [_], _ => rfl) i
  have mBelow : Md P w K mg base C 4 "is_below" (R2op 2000 gBelow) := md q.mBelow fun f fd F i => ok_below T gH F (F.binds fun _ _ _ _ _ _ us hl => match us, hl with | [_, _], _ => rfl) i
  have mMost : Md P w K mg base C 4 "is_at_most" (R2op 2000 gAtMost) := md q.mMost fun f fd F i => ok_atmost T gH F (F.binds fun _ _ _ _ _ _ us hl => match us, hl with | [_, _], _ => rfl) i
  have mEq : Md P w K mg base C 1 "__eq__" (REq) := md q.mEq fun f fd F i => ok_eq T n7 F (F.binds fun _ _ _ _ _ _ us hl => match us, hl with | [_, _], _ => rfl) i
  have mStr : Md P w K mg base C 1 "__str__" (RShow shownS) := md q.mStr fun f fd F i => ok_str T n5 F (F.binds fun _ _ _ _ _ _ us hl => match us, hl with | [_], _ => rfl) i
  have mRepr : Md P w K mg base C 1 "__repr__" (RShow reprS) := md q.mRepr fun f fd F i => ok_repr T F (F.binds fun _ _ _ _ _ _ us hl => match us, hl with | [_], _ => rfl) i
  have low := gd (P := P) (w := w) (C := C) X G q.lLow fun f fd F i => ok_low n2 n1 F (F.binds fun _ _ _ _ _ _ us hl => match us, hl with | [_, _], _ => rfl) i
  have sum := gd (P := P) (w := w) (C := C) X G q.lSum fun f fd F i => ok_sum low F (F.binds fun _ _ _ _ _ _ us hl => match us, hl with | [_, _], _ => rfl) i
  have by_ := gd (P := P) (w := w) (C := C) X G q.lBy fun f fd F i => ok_by low F (F.binds fun _ _ _ _ _ _ us hl => match us, hl with | [_, _], _ => rfl) i
  have less := gd (P := P) (w := w) (C := C) X G q.lLess fun f fd F i => ok_less sum F (F.binds fun _ _ _ _ _ _ us hl => match us, hl with | [_, _], _ => rfl) i
  have over := gd (P := P) (w := w) (C := C) X G q.lOver fun f fd F i => ok_overP low F (F.binds fun _ _ _ _ _ _ us hl => match us, hl with | [_, _], _ => rfl) i
  have tot := gd (P := P) (w := w) (C := C) X G q.lTot fun f fd F i => ok_totP sum F (F.binds fun _ _ _ _ _ _ us hl => match us, hl with | [_], _ => rfl) i
  have pair := gd (P := P) (w := w) (C := C) X G q.lPair fun f fd F i => ok_pair T n7 pT pB F (F.binds fun _ _ _ _ _ _ us hl => match us, hl with | [_], _ => rfl) i
  have pairs := gd (P := P) (w := w) (C := C) X G q.lPairs fun f fd F i => ok_pairs T n7 n8 pair F (F.binds fun _ _ _ _ _ _ us hl => match us, hl with | [_], _ => rfl) i
  have shown := gd (P := P) (w := w) (C := C) X G q.lShown fun f fd F i => ok_shown n5 F (F.binds fun _ _ _ _ _ _ us hl => match us, hl with | [_], _ => rfl) i
  have mOver : ∃ f fd, PySem.W.findIn K (.ref C) "over" = some (some (.ref f)) ∧ PySem.W.keepIn K (.ref f) = true ∧ PySem.W.isFn K (.ref f) = true ∧ FnOk P w K mg base CX0 4 f fd ["self", "other"] (Ct C ROver) ∧ Binds K fd ["self", "other"] [] ∧ KB K fd ["self", "other"] ["other"] := by
    obtain ⟨f, fd, e, F, i⟩ := q.mOver.ex
    have I := fn_over (P := P) (w := w) (base := base) T gH ck F
    have kp := F.kp
    have B := F.binds (ps := ["self", "other"]) fun _ _ _ _ _ _ us hl => match us, hl with | [_, _], _ => rfl
    obtain ⟨oc, od, kV, doc, pm, an, cdv, ct, osl, rfl, _⟩ := F.ex
    exact ⟨f, _, e, kp, i, I, B, kb_mk fun s u ws _ hl => (match ws, hl with | [_], _ => .of_eq rfl)⟩
  have mTot : ∃ mc q f fd, ClX.CRead K C mc ∧ ClX.CMet K C mc "total" q f ∧ FnOk P w K mg base CX0 4 f fd ["cls", "numbers"] (Ct C (RTotal C)) ∧ Binds K fd ["cls", "numbers"] [] ∧ KB K fd ["cls", "numbers"] ["numbers"] := by
    obtain ⟨mc, qq, f, fd, r, c, F⟩ := q.tot
    have I := fn_total (P := P) (w := w) (base := base) T n7 n8 n9 (PySem.W.mg_of X G q.zm) gH ck F
    have B := F.binds (ps := ["cls", "numbers"]) fun _ _ _ _ _ _ us hl => match us, hl with | [_, _], _ => rfl
    obtain ⟨oc, od, kV, doc, pm, an, cdv, ct, osl, rfl, _⟩ := F.ex
    exact ⟨mc, qq, f, _, r, c, I, B, kb_mk fun s u ws _ hl => (match ws, hl with | [_], _ => .of_eq rfl)⟩
  have z : ∀ n ∈ (["int", "abs", "max", "len", "str", "repr", "isinstance", "list", "tuple", "range", "divmod", "bool"] : List Str), mg n = none := by
    intro n hn
    rcases List.mem_cons.mp hn with rfl | hn
    · exact n1
    rcases List.mem_cons.mp hn with rfl | hn
    · exact n2
    rcases List.mem_cons.mp hn with rfl | hn
    · exact n3
    rcases List.mem_cons.mp hn with rfl | hn
    · exact n4
    rcases List.mem_cons.mp hn with rfl | hn
    · exact n5
    rcases List.mem_cons.mp hn with rfl | hn
    · exact n6
    rcases List.mem_cons.mp hn with rfl | hn
    · exact n7
    rcases List.mem_cons.mp hn with rfl | hn
    · exact n8
    rcases List.mem_cons.mp hn with rfl | hn
    · exact n9
    rcases List.mem_cons.mp hn with rfl | hn
    · exact n10
    rcases List.mem_cons.mp hn with rfl | hn
    · exact n11
    rcases List.mem_cons.mp hn with rfl | hn
    · exact n12
    cases hn
  exact { T := T, z := z, isI := gII, isN := gIN, isC := gIC, ck := ck, pSign := pS, pWhole := pW, iAdd := iAdd, iSub := iSub, iMul := iMul, mAdd := mAdd, mSub := mSub, mMul := mMul, mRadd := mRadd, mRsub := mRsub, mRmul := mRmul, mNeg := mNeg, mSize := mSize, mBelow := mBelow, mMost := mMost, mOver := mOver, mEq := mEq, mStr := mStr, mRepr := mRepr, mTot := mTot, low := low, sum := sum, by_ := by_, less := less, over := over, tot := tot, pair := pair, pairs := pairs, shown := shown }
theorem walkH {l : PySem.W.OpenLaw} {q : Program} {loose : List Str} {XP : (Str → Option Value) → Heap → Prop} {YP : World → Heap → Prop} {d : DefRec} (hn : l.most = some 63) (hdf : d.params.defaults = []) (hname : d.name = "law")
    (F : ∀ (w : World) (h : Heap), YP w h → ∃ K : PySem.W.Frag, K.In h ∧ ∃ C, KF K C ∧ G1 K "law" sLaw) :
    PySem.W.WalkO q loose XP YP l.row.toRowW d [] (fun f vs => PySem.call f vs) := by
  refine Att.attach_call hn hdf fun w s₀ s₁ mg mb fa o pm cd doc a vs ns G Y ho hd hcd hmg hobj hints hlen hg => ?_
  obtain ⟨K, KX, C, kf, fl, fd, el, Fl, _⟩ := F w _ Y
  rw [hname] at hmg
  cases hmg.symm.trans (PySem.W.mg_of KX G.T.g el)
  refine law_top KX G.T.g G.T.b G.T.builtins G.T.nolimit hg hobj hints (Nat.le_trans hlen (by rw [sizeLine_eq]; decide)) fun base H X N e0 hS => ?_
  have A := al_of (P := l.prog) (w := w) X N kf
  have gDraw := gq (P := l.prog) (w := w) (C := C) X N kf.lDraw fun f fd F => ok_draw (A.z "int" (by decide +kernel)) (A.z "divmod" (by decide +kernel)) F (F.binds fun _ _ _ _ _ _ us hl => match us, hl with | [_, _], _ => rfl)
  have gPick := gq (P := l.prog) (w := w) (C := C) X N kf.lPick fun f fd F => ok_pick (A.z "len" (by decide +kernel)) gDraw F (F.binds fun _ _ _ _ _ _ us hl => match us, hl with | [_, _], _ => rfl)
  have gRaw := gq (P := l.prog) (w := w) (C := C) X N kf.lRaw fun f fd F => ok_raw gDraw gPick F (F.binds fun _ _ _ _ _ _ us hl => match us, hl with | [_], _ => rfl)
  have gOne := gq (P := l.prog) (w := w) (C := C) X N kf.lOne fun f fd F => ok_one A F (F.binds fun _ _ _ _ _ _ us hl => match us, hl with | [_], _ => rfl)
  have gTwo := gq (P := l.prog) (w := w) (C := C) X N kf.lTwo fun f fd F => ok_two A F (F.binds fun _ _ _ _ _ _ us hl => match us, hl with | [_, _, _], _ => rfl)
  have gRight := gq (P := l.prog) (w := w) (C := C) X N kf.lRight fun f fd F => ok_right A gRaw gPick gDraw gOne gTwo F (F.binds fun _ _ _ _ _ _ us hl => match us, hl with | [_], _ => rfl)
  obtain ⟨fp, fdp, ep, Fp, ip⟩ := kf.lPot.ex
  have bp := Fp.binds (ps := ["_law_script", "_law_k"]) fun _ _ _ _ _ _ us hl => match us, hl with | [_, _], _ => rfl
  have bl := Fl.binds (ps := ["_law_script"]) fun _ _ _ _ _ _ us hl => match us, hl with | [_], _ => rfl
  exact law_run gRight (PySem.W.mg_of X N ep) (ok_pot (A.z "max" (by decide +kernel)) (A.z "int" (by decide +kernel)) (A.z "abs" (by decide +kernel)) (A.z "len" (by decide +kernel)) C Fp) bp Fp.kp Fl rfl ⟨rfl, by decide, by decide⟩ e0 (bl s₁ [.ref a] KX rfl) (.cons rfl .nil) hS
end
end DL
end

section
set_option linter.all false
set_option maxRecDepth 100000
set_option maxHeartbeats 2000000
/-! The head's facts by one Hook: defs at any address, facts by names, further Bools. -/
namespace DH
open PySem PySem.Spec PyProof.Rows L2
abbrev Ck := PySem.W.Frag → Bool
def obsE (fa : List He.Fa) (fn : List He5.DefA) (ex : List Ck) (K : PySem.W.Frag) : He.AlD := ((fa.all fun f => f.ok K) && ((fn.all fun d => d.ok K) && ex.all fun f => f K), fn.map fun d => He5.fnA K (d.at_ K))
def SaysE (fa : List He.Fa) (fn : List He5.DefA) (ex : List Ck) (K : PySem.W.Frag) : Prop := obsE fa fn ex K = He5.valA fn
def obsEG (n : Nat) (fa : List He.Fa) (fn : List He5.DefA) (ex : List Ck) (g : Addr → Option Obj) : He.AlD := obsE fa fn ex (He.frG g (He5.asA g n))
def hookE (n : Nat) (fa : List He.Fa) (fn : List He5.DefA) (ex : List Ck) : PySem.W.Hook where
  α := He.AlD
  obs := fun s => obsEG n fa fn ex s.heap.get?
  val := fun _ => He5.valA fn
  says := fun _ h => ∃ K : PySem.W.Frag, K.In h ∧ SaysE fa fn ex K
  of := fun _ _ e => ⟨_, He.frG_in, e⟩
  keeps := fun _ _ _ ⟨K, hK, c⟩ k => ⟨K, PySem.W.Frag.In.keeps hK k, c⟩
theorem obsEG_eq {n : Nat} {fa : List He.Fa} {fn : List He5.DefA} {ex : List Ck} {g : Addr → Option Obj} {s : Shared} (h : ∀ a, g a = s.heap.get? a) : obsEG n fa fn ex g = (hookE n fa fn ex).obs s := by
  have e : g = s.heap.get? := funext h
  rw [e] <;> rfl
section
variable {fa : List He.Fa} {fn : List He5.DefA} {ex : List Ck} {K : PySem.W.Frag}
theorem SaysE.all (c : SaysE fa fn ex K) : (fa.all fun f => f.ok K) = true ∧ (fn.all fun d => d.ok K) = true ∧ (ex.all fun f => f K) = true := by
  have c1 : ((fa.all fun f => f.ok K) && ((fn.all fun d => d.ok K) && ex.all fun f => f K)) = true := congrArg (fun z : He.AlD => z.1) c
  obtain ⟨h1, h2⟩ := He.ba c1
  exact ⟨h1, He.ba h2⟩
theorem SaysE.fact (c : SaysE fa fn ex K) {f : He.Fa} (h : f ∈ fa) : f.ok K = true := List.all_eq_true.mp c.all.1 f h
theorem SaysE.ck (c : SaysE fa fn ex K) (i : Nat) {f : Ck} (h : ex[i]? = some f) : f K = true := List.all_eq_true.mp c.all.2.2 f (List.mem_of_getElem? h)
theorem SaysE.def_ (c : SaysE fa fn ex K) (i : Nat) {d : He5.DefA} (h : fn[i]? = some d) : ∃ fd, FunD K d.name d.qual d.params d.body d.scope (d.dvs K) (d.kws K) (d.at_ K) fd := by
  have c2 := c.all.2.1
  have e : fn.map (fun d => He5.fnA K (d.at_ K)) = fn.map He5.DefA.val := congrArg (fun z : He.AlD => z.2) c
  have e2 : (fn.map fun d => He5.fnA K (d.at_ K))[i]? = (fn.map He5.DefA.val)[i]? := by rw [e]
  rw [List.getElem?_map, List.getElem?_map, h] at e2
  exact He5.DefA.funD (Option.some.inj e2) (List.all_eq_true.mp c2 d (List.mem_of_getElem? h))
end
/-! paths -/
def gD (n : Str) (st : Stmt) : He5.DefA := ⟨fun K => He.ga K n, n, n, defArgs st, defBody st, defScope st, [], []⟩
def mD (C m qual : Str) (st : Stmt) (dfl : List He.Dv := []) : He5.DefA := ⟨fun K => He.ma K (He.ga K C) m, m, qual, defArgs st, defBody st, defScope st, dfl, []⟩
def pf (K : PySem.W.Frag) (C m : Str) : Addr := match PySem.W.recIn K (He.ma K (He.ga K C) m) "property" with
  | some (.ref f :: _) => f
  | _ => 0
def pD (C m qual : Str) (st : Stmt) : He5.DefA := ⟨fun K => pf K C m, m, qual, defArgs st, defBody st, defScope st, [], []⟩
def cD (C m qual : Str) (st : Stmt) : He5.DefA := ⟨fun K => He5.wf K (He.ga K C) "classmethod" m, m, qual, defArgs st, defBody st, defScope st, [], []⟩
/-- a property -/
def propB (C m : Str) : Ck := fun K => He.eqO (PySem.W.findIn K (.ref (He.ga K C)) m) (some (some (.ref (He.ma K (He.ga K C) m)))) && (He.eqO (PySem.W.specialIn K (.ref (He.ma K (He.ga K C) m)) "__get__") (some (some (.builtin "property.__get__"))) &&
  (decide (PySem.W.takesIn K (.ref (He.ma K (He.ga K C) m)) = some true) && ((match PySem.W.recIn K (He.ma K (He.ga K C) m) "property" with
    | some (.ref _ :: _) => true
    | _ => false) && PySem.W.isFn K (.ref (pf K C m)))))
theorem prop_ok {K : PySem.W.Frag} {C m : Str} (h : propB C m K = true) : PropOf K (He.ga K C) m (He.ma K (He.ga K C) m) (pf K C m) ∧ PySem.W.isFn K (.ref (pf K C m)) = true := by
  obtain ⟨h1, h⟩ := He.ba h
  obtain ⟨h2, h⟩ := He.ba h
  obtain ⟨h3, h⟩ := He.ba h
  obtain ⟨h4, h5⟩ := He.ba h
  refine ⟨⟨He.eqO_ok h1, He.eqO_ok h2, of_decide_eq_true h3, ?_⟩, h5⟩
  unfold pf
  split at h4
  · rename_i f r e
    exact ⟨r, by rw [e]⟩
  · cases h4
end DH
end

section
set_option linter.all false
set_option maxRecDepth 100000
set_option maxHeartbeats 0
namespace DL
open PySem PySem.Spec PyProof.Rows L2
def names11 : List Str := ["RootError", "InvalidNumber", "DividedByZero", "Ratio", "is_integer", "is_count", "is_number", "halves", "_law_pot", "_law_draw", "_law_pick", "_law_low", "_law_sum", "_law_by", "_law_less", "_law_over", "_law_total", "_law_pair", "_law_pairs", "_law_shown", "_law_raw", "_law_one_right", "_law_two_right", "_law_right"]
def fns11 : List Str := ["is_integer", "is_count", "is_number", "halves", "_law_pot", "_law_draw", "_law_pick", "_law_low", "_law_sum", "_law_by", "_law_less", "_law_over", "_law_total", "_law_pair", "_law_pairs", "_law_shown", "_law_raw", "_law_one_right", "_law_two_right", "_law_right", "law"]
def cR (K : PySem.W.Frag) : Addr := He.ga K "Ratio"
def fa11 : List He.Fa := [.glo "Ratio", .cls "Ratio", .noat "Ratio" "_top", .noat "Ratio" "_bottom", .mkr "Ratio"] ++ fns11.map He.Fa.glo ++ (["int", "abs", "max", "len", "str", "repr", "isinstance", "list", "tuple", "range", "divmod", "bool"] : List Str).map He.Fa.free ++ (["__add__", "__radd__", "__sub__", "__rsub__", "__mul__", "__rmul__", "__neg__", "over", "size", "is_below", "is_at_most", "__eq__", "__str__", "__repr__"] : List Str).map (He.Fa.meth "Ratio")
def fn11 : List He5.DefA := [DH.gD "is_integer" sIsInt, DH.gD "is_count" sIsCount, DH.gD "is_number" sIsNum, DH.gD "halves" sHalves, DH.gD "_law_pot" sPot, DH.gD "_law_draw" sDraw, DH.gD "_law_pick" sPick, DH.gD "_law_low" sLow, DH.gD "_law_sum" sSum, DH.gD "_law_by" sBy, DH.gD "_law_less" sLess, DH.gD "_law_over" sOver, DH.gD "_law_total" sTot, DH.gD "_law_pair" sPair, DH.gD "_law_pairs" sPairs, DH.gD "_law_shown" sShown, DH.gD "_law_raw" sRaw, DH.gD "_law_one_right" sOne, DH.gD "_law_two_right" sTwo, DH.gD "_law_right" sRight, DH.gD "law" sLaw, DH.mD "Ratio" "__add__" "Ratio.__add__" (sR 5), DH.mD "Ratio" "__radd__" "Ratio.__radd__" (sR 6), DH.mD "Ratio" "__sub__" "Ratio.__sub__" (sR 7), DH.mD "Ratio" "__rsub__" "Ratio.__rsub__" (sR 8), DH.mD "Ratio" "__mul__" "Ratio.__mul__" (sR 9), DH.mD "Ratio" "__rmul__" "Ratio.__rmul__" (sR 10), DH.mD "Ratio" "__neg__" "Ratio.__neg__" (sR 11), DH.mD "Ratio" "over" "Ratio.over" (sR 12), DH.mD "Ratio" "size" "Ratio.size" (sR 13), DH.mD "Ratio" "is_below" "Ratio.is_below" (sR 14), DH.mD "Ratio" "is_at_most" "Ratio.is_at_most" (sR 15), DH.mD "Ratio" "__eq__" "Ratio.__eq__" (sR 17), DH.mD "Ratio" "__str__" "Ratio.__str__" (sR 18), DH.mD "Ratio" "__repr__" "Ratio.__repr__" (sR 19), DH.pD "Ratio" "top" "Ratio.top" (sR 1), DH.pD "Ratio" "bottom" "Ratio.bottom" (sR 2), DH.pD "Ratio" "sign" "Ratio.sign" (sR 3), DH.pD "Ratio" "is_whole" "Ratio.is_whole" (sR 4), DH.mD "Ratio" "__init__" "Ratio.__init__" (sR 0) [.int 1], DH.cD "Ratio" "total" "Ratio.total" (sR 16)]
def ex11 : List DH.Ck := [fun K => fns11.all fun n => PySem.W.isFn K (.ref (He.ga K n)),
  fun K => PySem.W.selfFirst K (cR K),
  fun K => decide (PySem.W.mroIn K (cR K) (.type "object") = some true),
  fun K => decide (PySem.W.subIn K (.type "int") (.ref (cR K)) = some false),
  fun K => decide (PySem.W.subIn K (.ref (cR K)) (.type "int") = some false),
  fun K => He.eqO (PySem.W.findIn K (.ref (cR K)) "__ne__") (some (some (.builtin "object.__ne__"))),
  fun K => He.eqO (PySem.W.findIn K (.ref (cR K)) "__class__") (some (some (.builtin "object.__class__"))),
  fun K => He.eqO (PySem.W.specialIn K (.builtin "object.__class__") "__get__") (some (some (.builtin "getset_descriptor.__get__"))),
  fun K => decide (PySem.W.takesIn K (.builtin "object.__class__") = some true),
  fun K => decide (PySem.W.kitOne K (.ref (cR K)) (.type "int") = some false),
  fun K => ["int", "bool", "NoneType", "str", "list", "tuple"].all fun t => decide (PySem.W.kitOne K (.type t) (.ref (cR K)) = some false),
  fun K => He.eqO (PySem.W.nsIn K mainGlobals "gcd") (some (some (.builtin "math.gcd"))),
  fun K => He.eqO (PySem.W.nsIn K mainGlobals "lcm") (some (some (.builtin "math.lcm"))),
  DH.propB "Ratio" "top",
  DH.propB "Ratio" "bottom",
  DH.propB "Ratio" "sign",
  DH.propB "Ratio" "is_whole",
  fun K => PySem.W.readsIn K (cR K) (.type "type"),
  fun K => He.eqO (PySem.W.specialIn K (.ref (cR K)) "__getattribute__") (some (some (.builtin "type.__getattribute__"))),
  fun K => He5.wrapB K (cR K) "classmethod" "classmethod.__get__" "total",
  fun K => PySem.W.fnIn K (He5.wf K (cR K) "classmethod" "total")]
abbrev R11 : PySem.W.OpenRow := PySem.W.OpenLaw.row PySem.Challenge.rw_rootsround_k11_ratios_reckoned
def ob11 (s : PySem.W.SharedT) : He.AlD := DH.obsEG 6 fa11 fn11 ex11 (HandSHeadRun.getT s)
abbrev hk11 : PySem.W.Hook := DH.hookE 6 fa11 fn11 ex11
theorem ob11_eq (s : PySem.W.SharedT) : ob11 s = hk11.obs s.abs := DH.obsEG_eq (HandSHeadRun.getT_eq s)

section
variable {K : PySem.W.Frag} (c : DH.SaysE fa11 fn11 ex11 K)
include c
theorem g1_11 {n : Str} {st : Stmt} (i : Nat) (hn : n ∈ fns11) (hi : fn11[i]? = some (DH.gD n st)) : G1 K n st := by
  have h0 : (He.Fa.glo n) ∈ fa11 := by
    unfold fa11
    exact List.mem_append_left _ (List.mem_append_left _ (List.mem_append_right _ (List.mem_map.mpr ⟨n, hn, rfl⟩)))
  obtain ⟨fd, F⟩ := c.def_ i hi
  exact ⟨_, fd, He.eqO_ok (c.fact h0), He5.fun_of F, List.all_eq_true.mp (c.ck 0 rfl) n hn⟩
theorem mt_11 {m qual : Str} {st : Stmt} (i : Nat) (hn : He.Fa.meth "Ratio" m ∈ fa11) (hi : fn11[i]? = some (DH.mD "Ratio" m qual st)) : Mt1 K (cR K) m qual st := by
  obtain ⟨fd, F⟩ := c.def_ i hi
  have M := He.meth_ok (c.fact hn)
  exact ⟨_, fd, M.at_, He5.fun_of F, M.fn⟩
theorem pr_11 {m qual : Str} {st : Stmt} (i j : Nat) (hj : ex11[j]? = some (DH.propB "Ratio" m)) (hi : fn11[i]? = some (DH.pD "Ratio" m qual st)) : Pr1 K (cR K) m qual st := by
  obtain ⟨fd, F⟩ := c.def_ i hi
  obtain ⟨p, q⟩ := DH.prop_ok (c.ck j hj)
  exact ⟨_, _, fd, p, He5.fun_of F, q⟩
theorem fm {x : He.Fa} (h : x ∈ fa11) : x.ok K = true := c.fact h
theorem fr_11 {n : Str} (h : n ∈ (["int", "abs", "max", "len", "str", "repr", "isinstance", "list", "tuple", "range", "divmod", "bool"] : List Str)) : PySem.W.nsIn K mainGlobals n = some none := by
  have h0 : (He.Fa.free n) ∈ fa11 := by
    unfold fa11
    exact List.mem_append_left _ (List.mem_append_right _ (List.mem_map.mpr ⟨n, h, rfl⟩))
  exact He.eqO_ok (c.fact h0)
theorem kit_11 {t : String} (h : t ∈ (["int", "bool", "NoneType", "str", "list", "tuple"] : List String)) : PySem.W.kitOne K (.type t) (.ref (cR K)) = some false := of_decide_eq_true (List.all_eq_true.mp (c.ck 10 rfl) t h)
omit c in
theorem int_has {n : Str} (h : (PySem.W.findIn K (.type "int") n).isSome = true) : ∃ o, PySem.W.findIn K (.type "int") n = some o := Option.isSome_iff_exists.mp h
omit c in
theorem meth_mem {m : Str} (h : m ∈ (["__add__", "__radd__", "__sub__", "__rsub__", "__mul__", "__rmul__", "__neg__", "over", "size", "is_below", "is_at_most", "__eq__", "__str__", "__repr__"] : List Str)) : He.Fa.meth "Ratio" m ∈ fa11 := by
  unfold fa11
  exact List.mem_append_right _ (List.mem_map.mpr ⟨m, h, rfl⟩)
theorem kf_11 : KF K (cR K) := by
  have hC : (He.Fa.glo "Ratio") ∈ fa11 := by unfold fa11; simp
  have hcl : (He.Fa.cls "Ratio") ∈ fa11 := by unfold fa11; simp
  have h1 : (He.Fa.noat "Ratio" "_top") ∈ fa11 := by unfold fa11; simp
  have h2 : (He.Fa.noat "Ratio" "_bottom") ∈ fa11 := by unfold fa11; simp
  have h3 : (He.Fa.mkr "Ratio") ∈ fa11 := by unfold fa11; simp
  obtain ⟨fdI, FI⟩ := c.def_ 39 (d := DH.mD "Ratio" "__init__" "Ratio.__init__" (sR 0) [.int 1]) rfl
  obtain ⟨fdT, FT⟩ := c.def_ 40 (d := DH.cD "Ratio" "total" "Ratio.total" (sR 16)) rfl
  exact {
    aC := He.eqO_ok (c.fact hC)
    T := fun mg e => { cl := He.cls_ok (c.fact hcl), nT := He.noat_ok (c.fact h1), nB := He.noat_ok (c.fact h2), sf := c.ck 1 rfl, mro := of_decide_eq_true (c.ck 2 rfl), subI := of_decide_eq_true (c.ck 3 rfl), subC := of_decide_eq_true (c.ck 4 rfl), mgC := e, ne := He.eqO_ok (c.ck 5 rfl), ic := He.eqO_ok (c.ck 6 rfl), ig := He.eqO_ok (c.ck 7 rfl), it := of_decide_eq_true (c.ck 8 rfl), kI := of_decide_eq_true (c.ck 9 rfl), iC := kit_11 c (by decide), bC := kit_11 c (by decide), nC := kit_11 c (by decide), sC := kit_11 c (by decide), lC := kit_11 c (by decide), tC := kit_11 c (by decide) }
    z1 := fr_11 c (by decide +kernel)
    z2 := fr_11 c (by decide +kernel)
    z3 := fr_11 c (by decide +kernel)
    z4 := fr_11 c (by decide +kernel)
    z5 := fr_11 c (by decide +kernel)
    z6 := fr_11 c (by decide +kernel)
    z7 := fr_11 c (by decide +kernel)
    z8 := fr_11 c (by decide +kernel)
    z9 := fr_11 c (by decide +kernel)
    z10 := fr_11 c (by decide +kernel)
    z11 := fr_11 c (by decide +kernel)
    z12 := fr_11 c (by decide +kernel)
    zg := He.eqO_ok (c.ck 11 rfl)
    zm := He.eqO_ok (c.ck 12 rfl)
    fII := g1_11 c 0 (by decide +kernel) rfl
    fIC := g1_11 c 1 (by decide +kernel) rfl
    fIN := g1_11 c 2 (by decide +kernel) rfl
    fH := g1_11 c 3 (by decide +kernel) rfl
    lPot := g1_11 c 4 (by decide +kernel) rfl
    lDraw := g1_11 c 5 (by decide +kernel) rfl
    lPick := g1_11 c 6 (by decide +kernel) rfl
    lLow := g1_11 c 7 (by decide +kernel) rfl
    lSum := g1_11 c 8 (by decide +kernel) rfl
    lBy := g1_11 c 9 (by decide +kernel) rfl
    lLess := g1_11 c 10 (by decide +kernel) rfl
    lOver := g1_11 c 11 (by decide +kernel) rfl
    lTot := g1_11 c 12 (by decide +kernel) rfl
    lPair := g1_11 c 13 (by decide +kernel) rfl
    lPairs := g1_11 c 14 (by decide +kernel) rfl
    lShown := g1_11 c 15 (by decide +kernel) rfl
    lRaw := g1_11 c 16 (by decide +kernel) rfl
    lOne := g1_11 c 17 (by decide +kernel) rfl
    lTwo := g1_11 c 18 (by decide +kernel) rfl
    lRight := g1_11 c 19 (by decide +kernel) rfl
    init := ⟨_, fdI, He.mkr_ok (c.fact h3), FI⟩
    pT := pr_11 c 35 13 rfl rfl
    pB := pr_11 c 36 14 rfl rfl
    pS := pr_11 c 37 15 rfl rfl
    pW := pr_11 c 38 16 rfl rfl
    mAdd := mt_11 c 21 (meth_mem (by decide +kernel)) rfl
    mRadd := mt_11 c 22 (meth_mem (by decide +kernel)) rfl
    mSub := mt_11 c 23 (meth_mem (by decide +kernel)) rfl
    mRsub := mt_11 c 24 (meth_mem (by decide +kernel)) rfl
    mMul := mt_11 c 25 (meth_mem (by decide +kernel)) rfl
    mRmul := mt_11 c 26 (meth_mem (by decide +kernel)) rfl
    mNeg := mt_11 c 27 (meth_mem (by decide +kernel)) rfl
    mOver := mt_11 c 28 (meth_mem (by decide +kernel)) rfl
    mSize := mt_11 c 29 (meth_mem (by decide +kernel)) rfl
    mBelow := mt_11 c 30 (meth_mem (by decide +kernel)) rfl
    mMost := mt_11 c 31 (meth_mem (by decide +kernel)) rfl
    mEq := mt_11 c 32 (meth_mem (by decide +kernel)) rfl
    mStr := mt_11 c 33 (meth_mem (by decide +kernel)) rfl
    mRepr := mt_11 c 34 (meth_mem (by decide +kernel)) rfl
    tot := ⟨.type "type", _, _, fdT, ⟨c.ck 17 rfl, He.eqO_ok (c.ck 18 rfl)⟩, He5.cmet_of (c.ck 19 rfl) (c.ck 20 rfl), He5.fun_of FT⟩
    iAdd := ⟨int_has (by kernel_rfl), int_has (by kernel_rfl)⟩
    iSub := ⟨int_has (by kernel_rfl), int_has (by kernel_rfl)⟩
    iMul := ⟨int_has (by kernel_rfl), int_has (by kernel_rfl)⟩ }
theorem law_11 : G1 K "law" sLaw := g1_11 c 20 (by decide +kernel) rfl
end
end DL
end

section
set_option linter.all false
set_option maxRecDepth 100000
set_option maxHeartbeats 0
namespace DL
open PySem PySem.Spec PyProof.Rows L2
theorem run11 (w : World) : HandSHeadRun.RunEqI R11 (PySem.W.view R11.prog [0, 29]) hk11 ob11 6000 names11 w := by
  unfold HandSHeadRun.RunEqI
  kernel_rfl
end DL
open PySem PySem.W PySem.Calls PyProof.Rows
theorem PySem.Challenge.cw_rootsround_k11_ratios_reckoned_holds : PySem.Challenge.rw_rootsround_k11_ratios_reckoned.Holds := by
  w_on; o_law
  refine HandSHeadRun.head_imp (r := OpenLaw.row PySem.Challenge.rw_rootsround_k11_ratios_reckoned) (q := view (OpenLaw.row PySem.Challenge.rw_rootsround_k11_ratios_reckoned).prog [0, 29]) (H := DL.hk11) (ob := DL.ob11) (M := 6000) (loose := DL.names11) (d := HandSHeadRun.topDef (OpenLaw.row PySem.Challenge.rw_rootsround_k11_ratios_reckoned).prog 29) (kwd := []) DL.ob11_eq DL.run11
    (by kernel_rfl) (by kernel_rfl) (by kernel_rfl) (by rfl) (by first | assumption | decide +kernel) (by decide +kernel) ⟨rfl, rfl, rfl, rfl, rfl, by decide +kernel⟩ ?hw ?hc
  case hw => w_witness2
  case hc =>
    refine DL.walkH (l := PySem.Challenge.rw_rootsround_k11_ratios_reckoned) rfl rfl (by kernel_rfl) ?F
    intro w h Y
    obtain ⟨K, KX, c⟩ := Y
    exact ⟨K, KX, _, DL.kf_11 c, DL.law_11 c⟩
end
