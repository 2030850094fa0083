import PyProof.Rows.All
import Wide.All
import OpenK.AllK
import Wide.FinOn
import HandS.Base
import HandS.Call
import HandS.List
import HandS.Comp
import HandS.Ends
import HandS.Dict
import HandS.Iter
import HandS.Text
import HandS.Deep
import HandS.TupAny
import HandS.IsInst
import HandS.Words
import HandS.WordsList
import KE.GoesEnum
import KE.GoesMore
import KE.GoesZip
import HandS.Zip
import HandS.Style
import KE.DataMinMax
import HandS.FStr
import HandS.More
import HandS.DictComp
import HandS.Strs
import KE.KDictZip
import HandS.Conv
import HandS.Finally
import HandS.Exc
import HandS.ExcInit
import HandS.Nested
import KE.KExcSuper
import HandS.MakeKwOnly
import HandS.CallSlots
import HandS.ExcOwn
import PyProof.Rows.RegStrFacts
import PyProof.Rows.ListStrD
import PyProof.StrBlock2
import HandS.WordsExc
import HandS.ExcIs
import HandS.ExcField
import KE.KExcIs
import HandS.Lambda
import HandS.Defaults
import HandS.HeadHook3
import HandS.EndOwn
import KE.KNestM
import HandS.ForMost
import PySem.Challenge.RW_hingehall_k17_texts_refused
/-! PdA -/
set_option Elab.async false
set_option linter.all false
set_option maxRecDepth 100000
set_option maxHeartbeats 4000000
/-! Pure data: what expressions evaluate to, told over PyData, the heap only growing (a base heap of pure data, owned lists beside it). -/
namespace Pd
open PySem PySem.Spec PyProof.Rows L2

def Ex (H H' : Hp) : Prop := ∀ a o, H a = some o → H' a = some o
theorem Ex.refl (H : Hp) : Ex H H := fun _ _ h => h
theorem Ex.trans {H H1 H2 : Hp} (a : Ex H H1) (b : Ex H1 H2) : Ex H H2 := fun x o h => b x o (a x o h)
theorem Ex.new {H : Hp} {p : Addr} {o : HO} (h : H p = none) : Ex H (upd H p o) := fun a u e => by
  rw [upd_ne (ne_of_none e h)]
  exact e
theorem Ex.mut {H H' : Hp} {p : Addr} {o : HO} (e : Ex H H') (h : H p = none) : Ex H (upd H' p o) := fun a u ha => by
  rw [upd_ne (ne_of_none ha h)]
  exact e a u ha
theorem Ex.nil {H H' : Hp} {p : Addr} (e : Ex H H') (h : H' p = none) : H p = none := by
  cases h1 : H p with
  | none => rfl
  | some o =>
    rw [e p o h1] at h
    cases h
theorem Ex.nn {H H' : Hp} {p : Addr} (e : Ex H H') (h : H p ≠ none) : H' p ≠ none := fun z => h (Ex.nil e z)
theorem Ex.upd2 {H H' : Hp} {p : Addr} {o : HO} (e : Ex H H') : Ex (upd H p o) (upd H' p o) := fun a u ha => by
  by_cases h : a = p
  · subst h
    rw [upd_same] at ha ⊢
    exact ha
  · rw [upd_ne h] at ha ⊢
    exact e a u ha
theorem Ex.seqL {K : PySem.W.Frag} {H H' : Hp} {a : Addr} {xs : List V} (e : Ex H H') (h : SqL K H a xs) : SqL K H' a xs := by
  rcases h with (h | ⟨o, h⟩) | h
  · exact .inl (.inl (e _ _ h))
  · exact .inl (.inr ⟨o, e _ _ h⟩)
  · exact .inr h

mutual
inductive DH (H : Hp) : V → PyData → Prop
  | non : DH H .non .none
  | bl (b : Bool) : DH H (.bl b) (.bool b)
  | int (i : Int) : DH H (.int i) (.int i)
  | str (x : Str) : DH H (.str x) (.str x)
  | lst {a : Addr} {xs : List V} {ds : List PyData} : H a = some (.lst xs) → DHs H xs ds → DH H (.ref a) (.list ds)
  | tup {a : Addr} {xs : List V} {ds : List PyData} : H a = some (.tup xs) → DHs H xs ds → DH H (.ref a) (.tuple ds)
inductive DHs (H : Hp) : List V → List PyData → Prop
  | nil : DHs H [] []
  | cons {v : V} {vs : List V} {d : PyData} {ds : List PyData} : DH H v d → DHs H vs ds → DHs H (v :: vs) (d :: ds)
end
mutual
theorem DH.mono {H H' : Hp} (e : Ex H H') : ∀ {v : V} {d : PyData}, DH H v d → DH H' v d
  | _, _, .non => .non
  | _, _, .bl b => .bl b
  | _, _, .int i => .int i
  | _, _, .str x => .str x
  | _, _, .lst h r => .lst (e _ _ h) (DHs.mono e r)
  | _, _, .tup h r => .tup (e _ _ h) (DHs.mono e r)
theorem DHs.mono {H H' : Hp} (e : Ex H H') : ∀ {vs : List V} {ds : List PyData}, DHs H vs ds → DHs H' vs ds
  | _, _, .nil => .nil
  | _, _, .cons h r => .cons (DH.mono e h) (DHs.mono e r)
end
mutual
theorem DH.dp {K : PySem.W.Frag} {H : Hp} : ∀ {v : V} {d : PyData}, DH H v d → Dp K H v d
  | _, _, .non => .non
  | _, _, .bl b => .bl b
  | _, _, .int i => .int i
  | _, _, .str x => .str x
  | _, _, .lst h r => .lst (SqL.of h) (DHs.dp r)
  | _, _, .tup h r => .tup (SqT.of h) (DHs.dp r)
theorem DHs.dp {K : PySem.W.Frag} {H : Hp} : ∀ {vs : List V} {ds : List PyData}, DHs H vs ds → DpAll K H vs ds
  | _, _, .nil => .nil
  | _, _, .cons h r => .cons (DH.dp h) (DHs.dp r)
end
theorem DHs.length {H : Hp} : ∀ {vs : List V} {ds : List PyData}, DHs H vs ds → vs.length = ds.length
  | _, _, .nil => rfl
  | _, _, .cons _ r => by rw [List.length_cons, List.length_cons, DHs.length r]
theorem DHs.get {H : Hp} : ∀ {vs : List V} {ds : List PyData} {i : Nat} {d : PyData}, DHs H vs ds → ds[i]? = some d → ∃ v, vs[i]? = some v ∧ DH H v d
  | _, _, _, _, .nil, e => by simp at e
  | _, _, 0, _, .cons h _, e => by
    simp at e
    subst e
    exact ⟨_, rfl, h⟩
  | _, _, i + 1, _, .cons _ r, e => by
    obtain ⟨v, h1, h2⟩ := DHs.get (i := i) r (by simpa using e)
    exact ⟨v, by simpa using h1, h2⟩
theorem DHs.get' {H : Hp} : ∀ {vs : List V} {ds : List PyData} {i : Nat} {v : V}, DHs H vs ds → vs[i]? = some v → ∃ d, ds[i]? = some d ∧ DH H v d
  | _, _, _, _, .nil, e => by simp at e
  | _, _, 0, _, .cons h _, e => by
    simp at e
    subst e
    exact ⟨_, rfl, h⟩
  | _, _, i + 1, _, .cons _ r, e => by
    obtain ⟨v, h1, h2⟩ := DHs.get' (i := i) r (by simpa using e)
    exact ⟨v, by simpa using h1, h2⟩
theorem DHs.append {H : Hp} : ∀ {vs ws : List V} {ds es : List PyData}, DHs H vs ds → DHs H ws es → DHs H (vs ++ ws) (ds ++ es)
  | _, _, _, _, .nil, s => s
  | _, _, _, _, .cons h r, s => .cons h (DHs.append r s)
theorem DHs.take {H : Hp} : ∀ {vs : List V} {ds : List PyData} (n : Nat), DHs H vs ds → DHs H (vs.take n) (ds.take n)
  | _, _, 0, _ => .nil
  | _, _, _ + 1, .nil => .nil
  | _, _, n + 1, .cons h r => .cons h (DHs.take n r)
theorem DHs.drop {H : Hp} : ∀ {vs : List V} {ds : List PyData} (n : Nat), DHs H vs ds → DHs H (vs.drop n) (ds.drop n)
  | _, _, 0, r => r
  | _, _, _ + 1, .nil => .nil
  | _, _, n + 1, .cons _ r => DHs.drop n r
theorem DHs.one {H : Hp} {v : V} {d : PyData} (h : DH H v d) : DHs H [v] [d] := .cons h .nil
theorem DHs.erase {H : Hp} : ∀ {vs : List V} {ds : List PyData} (n : Nat), DHs H vs ds → DHs H (vs.eraseIdx n) (ds.eraseIdx n)
  | _, _, _, .nil => by simpa using DHs.nil
  | _, _, 0, .cons h r => r
  | _, _, n + 1, .cons h r => .cons h (DHs.erase n r)
theorem DHs.strs {H : Hp} : ∀ {vs : List V} {zs : List Str}, DHs H vs (zs.map PyData.str) → vs = zs.map V.str
  | _, [], h => by cases h; rfl
  | _, z :: zs, h => by
    cases h with
    | cons a r =>
      cases a
      rw [DHs.strs r]
      rfl

/-- the base grows, the heap grows, what was beside the base stays beside it -/
structure Gr (B H B' H' : Hp) : Prop where
  b : Ex B B'
  t : Ex B' H'
  h : Ex H H'
  n : ∀ a, B a = none → H a ≠ none → B' a = none
theorem Gr.refl {B H : Hp} (e : Ex B H) : Gr B H B H := ⟨Ex.refl B, e, Ex.refl H, fun _ h _ => h⟩
theorem Gr.trans {B H B1 H1 B2 H2 : Hp} (a : Gr B H B1 H1) (b : Gr B1 H1 B2 H2) : Gr B H B2 H2 :=
  ⟨a.b.trans b.b, b.t, a.h.trans b.h, fun x h1 h2 => b.n x (a.n x h1 h2) (Ex.nn a.h h2)⟩
/-- a new object, into the base -/
theorem Gr.new {B H : Hp} {p : Addr} {o : HO} (e : Ex B H) (h : H p = none) : Gr B H (upd B p o) (upd H p o) :=
  ⟨Ex.new (e.nil h), e.upd2, Ex.new h, fun a h1 h2 => by
    have q : a ≠ p := fun z => h2 (by rw [z]; exact h)
    rw [upd_ne q]
    exact h1⟩
/-- a new object, beside the base -/
theorem Gr.own {B H : Hp} {p : Addr} {o : HO} (e : Ex B H) (h : H p = none) : Gr B H B (upd H p o) :=
  ⟨Ex.refl B, e.mut (e.nil h), Ex.new h, fun a h1 _ => h1⟩

abbrev Rho := List (Option PyData)
/-- the slots hold the data told -/
structure EnvD (σ : L2.St) (B : Hp) (ρ : Rho) : Prop where
  len : σ.length = ρ.length
  get : ∀ (i : Nat) (d : PyData), ρ[i]? = some (some d) → ∃ v, σ[i]? = some (some v) ∧ DH B v d
theorem EnvD.mono {σ : L2.St} {B B' : Hp} {ρ : Rho} (e : Ex B B') (h : EnvD σ B ρ) : EnvD σ B' ρ :=
  ⟨h.len, fun i d q => let ⟨v, a, b⟩ := h.get i d q; ⟨v, a, b.mono e⟩⟩
theorem EnvD.set {σ : L2.St} {B : Hp} {ρ : Rho} {v : V} {d : PyData} (i : Nat) (h : EnvD σ B ρ) (hd : DH B v d) : EnvD (σ.set i (some v)) B (ρ.set i (some d)) := by
  refine ⟨by rw [List.length_set, List.length_set]; exact h.len, fun j e q => ?_⟩
  by_cases hj : i = j
  · subst hj
    by_cases hl : i < ρ.length
    · rw [List.getElem?_set_self hl] at q
      cases q
      exact ⟨v, List.getElem?_set_self (by rw [h.len]; exact hl), hd⟩
    · rw [List.getElem?_eq_none (by rw [List.length_set]; omega)] at q
      cases q
  · rw [List.getElem?_set_ne hj] at q ⊢
    exact h.get j e q
/-- a slot's data forgotten -/
theorem EnvD.forget {σ : L2.St} {B : Hp} {ρ : Rho} (i : Nat) (o : Option V) (h : EnvD σ B ρ) : EnvD (σ.set i o) B (ρ.set i none) := by
  refine ⟨by rw [List.length_set, List.length_set]; exact h.len, fun j e q => ?_⟩
  by_cases hj : i = j
  · subst hj
    by_cases hl : i < ρ.length
    · rw [List.getElem?_set_self hl] at q
      cases q
    · rw [List.getElem?_eq_none (by rw [List.length_set]; omega)] at q
      cases q
  · rw [List.getElem?_set_ne hj] at q ⊢
    exact h.get j e q
theorem EnvD.drop {σ : L2.St} {B : Hp} {ρ : Rho} (i : Nat) (h : EnvD σ B ρ) : EnvD σ B (ρ.set i none) := by
  refine ⟨by rw [List.length_set]; exact h.len, fun j e q => ?_⟩
  by_cases hj : i = j
  · subst hj
    by_cases hl : i < ρ.length
    · rw [List.getElem?_set_self hl] at q
      cases q
    · rw [List.getElem?_eq_none (by rw [List.length_set]; omega)] at q
      cases q
  · rw [List.getElem?_set_ne hj] at q
    exact h.get j e q
/-- told anew -/
theorem EnvD.tell {σ : L2.St} {B : Hp} {ρ : Rho} {v : V} {d : PyData} (i : Nat) (h : EnvD σ B ρ) (hv : σ[i]? = some (some v)) (hd : DH B v d) : EnvD σ B (ρ.set i (some d)) := by
  refine ⟨by rw [List.length_set]; exact h.len, fun j e q => ?_⟩
  by_cases hj : i = j
  · subst hj
    by_cases hl : i < ρ.length
    · rw [List.getElem?_set_self hl] at q
      cases q
      exact ⟨v, hv, hd⟩
    · rw [List.getElem?_eq_none (by rw [List.length_set]; omega)] at q
      cases q
  · rw [List.getElem?_set_ne hj] at q
    exact h.get j e q
def wipeR (ρ : Rho) : List Nat → Rho
  | [] => ρ
  | v :: vs => (wipeR ρ vs).set v none
theorem EnvD.wipe {σ : L2.St} {B : Hp} {ρ : Rho} (h : EnvD σ B ρ) : ∀ vs : List Nat, EnvD (L2.wipe σ vs) B (wipeR ρ vs)
  | [] => h
  | v :: vs => (EnvD.wipe h vs).forget v none
theorem env_start {N : List Str} {vs : List V} {B : Hp} {ds : List PyData} (h : DHs B vs ds) (hl : vs.length ≤ N.length) : EnvD (L2.start N vs) B (ds.map some ++ List.replicate (N.length - ds.length) none) := by
  have e := h.length
  refine ⟨by simp [L2.start, e], fun i d q => ?_⟩
  unfold L2.start
  by_cases hi : i < ds.length
  · rw [List.getElem?_append_left (by rw [List.length_map]; exact hi), List.getElem?_map] at q
    cases hd : ds[i]? with
    | none => rw [hd] at q; simp at q
    | some u =>
      rw [hd] at q
      simp at q
      subst q
      obtain ⟨v, h1, h2⟩ := h.get hd
      refine ⟨v, ?_, h2⟩
      rw [List.getElem?_append_left (by rw [List.length_map]; omega), List.getElem?_map, h1]
      rfl
  · rw [List.getElem?_append_right (by rw [List.length_map]; omega)] at q
    rw [List.getElem?_replicate] at q
    split at q
    · cases q
    · cases q

/-! ### the judgements -/
def ED (te : TE) (ρ : Rho) (d : PyData) : Prop := ∀ σ B H, Ex B H → EnvD σ B ρ → ∀ Q : VK, (∀ v B' H', Gr B H B' H' → DH B' v d → Q v H') → te σ H Q
def ET (tt : TT) (ρ : Rho) (b : Bool) : Prop := ∀ σ B H, Ex B H → EnvD σ B ρ → ∀ Q : Bool → Hp → Prop, (∀ B' H', Gr B H B' H' → Q b H') → tt σ H Q
def EA (ta : TA) (ρ : Rho) (ds : List PyData) : Prop := ∀ σ B H, Ex B H → EnvD σ B ρ → ∀ Q : List V → Hp → Prop, (∀ vs B' H', Gr B H B' H' → DHs B' vs ds → Q vs H') → ta σ H Q
def EO (to : TO) (ρ : Rho) (o : Option Int) : Prop := ∀ σ B H, Ex B H → EnvD σ B ρ → ∀ Q : Option Int → Hp → Prop, (∀ B' H', Gr B H B' H' → Q o H') → to σ H Q
def RD2 (r : R2) (d e z : PyData) : Prop := ∀ B H x y, Ex B H → DH B x d → DH B y e → ∀ Q : VK, (∀ v B' H', Gr B H B' H' → DH B' v z → Q v H') → r x y H Q
def RC (r : List V → Hp → VK → Prop) (ds : List PyData) (z : PyData) : Prop := ∀ B H vs, Ex B H → DHs B vs ds → ∀ Q : VK, (∀ v B' H', Gr B H B' H' → DH B' v z → Q v H') → r vs H Q

section
variable {K : PySem.W.Frag} {ρ : Rho} {ta tb tc te : TE} {t u : TT} {d e z : PyData} {r : R2}
theorem ed_var {i : Nat} (h : ρ[i]? = some (some d)) : ED (tVar i) ρ d := fun σ B H e ev Q q => by
  obtain ⟨v, h1, h2⟩ := ev.get i d h
  exact ⟨v, h1, q v B H (Gr.refl e) h2⟩
theorem ed_int {i : Int} : ED (tC (.int i)) ρ (.int i) := fun σ B H e ev Q q => q _ B H (Gr.refl e) (.int i)
theorem ed_str {x : Str} : ED (tC (.str x)) ρ (.str x) := fun σ B H e ev Q q => q _ B H (Gr.refl e) (.str x)
theorem ed_bl {b : Bool} : ED (tC (.bl b)) ρ (.bool b) := fun σ B H e ev Q q => q _ B H (Gr.refl e) (.bl b)
theorem ed_non : ED (tC .non) ρ .none := fun σ B H e ev Q q => q _ B H (Gr.refl e) .non
theorem ED.is {d' : PyData} (h : ED te ρ d) (e : d = d') : ED te ρ d' := e ▸ h
theorem ET.is {b b' : Bool} (h : ET t ρ b) (e : b = b') : ET t ρ b' := e ▸ h
theorem ed_op (ha : ED ta ρ d) (hb : ED tb ρ e) (hr : RD2 r d e z) : ED (tOp r ta tb) ρ z := fun σ B H ex ev Q q => by
  refine ha σ B H ex ev _ fun x B1 H1 g1 d1 => ?_
  refine hb σ B1 H1 g1.t (ev.mono g1.b) _ fun y B2 H2 g2 d2 => ?_
  exact hr B2 H2 x y g2.t (d1.mono g2.b) d2 Q fun v B' H' g3 d3 => q v B' H' ((g1.trans g2).trans g3) d3
theorem ea_nil : EA tNil ρ [] := fun σ B H ex ev Q q => q [] B H (Gr.refl ex) .nil
theorem ea_cons {tr : TA} {ds : List PyData} (h : ED ta ρ d) (hr : EA tr ρ ds) : EA (tCons ta tr) ρ (d :: ds) := fun σ B H ex ev Q q => by
  refine h σ B H ex ev _ fun x B1 H1 g1 d1 => ?_
  refine hr σ B1 H1 g1.t (ev.mono g1.b) _ fun xs B2 H2 g2 d2 => ?_
  exact q (x :: xs) B2 H2 (g1.trans g2) (.cons (d1.mono g2.b) d2)
theorem ed_tup {ta : TA} {ds : List PyData} (h : EA ta ρ ds) (hl : ds.length ≤ 100000) : ED (tTup ta) ρ (.tuple ds) := fun σ B H ex ev Q q => by
  refine h σ B H ex ev _ fun xs B1 H1 g1 d1 => ⟨?_, fun p hp => ?_⟩
  · rw [d1.length]
    exact Nat.le_trans hl (by decide)
  · have g2 := Gr.new (o := .tup xs) g1.t hp
    exact q _ _ _ (g1.trans g2) (.tup upd_same (d1.mono g2.b))
theorem ed_lst {ta : TA} {ds : List PyData} (h : EA ta ρ ds) (hl : ds.length ≤ 100000) : ED (tLst ta) ρ (.list ds) := fun σ B H ex ev Q q => by
  refine h σ B H ex ev _ fun xs B1 H1 g1 d1 => ⟨?_, fun p hp => ?_⟩
  · rw [d1.length]
    exact Nat.le_trans hl (by decide)
  · have g2 := Gr.new (o := .lst xs) g1.t hp
    exact q _ _ _ (g1.trans g2) (.lst upd_same (d1.mono g2.b))
theorem ed_cb {r : List V → Hp → VK → Prop} {ta : TA} {ds : List PyData} (h : EA ta ρ ds) (hr : RC r ds z) : ED (tCB r ta) ρ z := fun σ B H ex ev Q q => by
  refine h σ B H ex ev _ fun xs B1 H1 g1 d1 => ?_
  exact hr B1 H1 xs g1.t d1 Q fun v B' H' g3 d3 => q v B' H' (g1.trans g3) d3
theorem ed_if {b : Bool} (h : ET t ρ b) (h1 : b = true → ED ta ρ d) (h2 : b = false → ED tb ρ d) : ED (tIf t ta tb) ρ d := fun σ B H ex ev Q q => by
  refine h σ B H ex ev _ fun B1 H1 g1 => ?_
  cases b with
  | true => exact h1 rfl σ B1 H1 g1.t (ev.mono g1.b) Q fun v B' H' g3 d3 => q v B' H' (g1.trans g3) d3
  | false => exact h2 rfl σ B1 H1 g1.t (ev.mono g1.b) Q fun v B' H' g3 d3 => q v B' H' (g1.trans g3) d3
theorem et_test {b : Bool} (h : ED te ρ (.bool b)) : ET (tTest te) ρ b := fun σ B H ex ev Q q => by
  refine h σ B H ex ev _ fun v B1 H1 g1 d1 => ?_
  cases d1
  exact ⟨b, rfl, q B1 H1 g1⟩
theorem et_B {b : Bool} (h : ED te ρ (.bool b)) : ET (tB te) ρ b := et_test h
theorem et_and {a b : Bool} (h1 : ET t ρ a) (h2 : a = true → ET u ρ b) : ET (tAnd t u) ρ (a && b) := fun σ B H ex ev Q q => by
  refine h1 σ B H ex ev _ fun B1 H1 g1 => ?_
  cases a with
  | true => exact h2 rfl σ B1 H1 g1.t (ev.mono g1.b) Q fun B' H' g3 => q B' H' (g1.trans g3)
  | false => exact q B1 H1 g1
theorem et_or {a b : Bool} (h1 : ET t ρ a) (h2 : a = false → ET u ρ b) : ET (tOr t u) ρ (a || b) := fun σ B H ex ev Q q => by
  refine h1 σ B H ex ev _ fun B1 H1 g1 => ?_
  cases a with
  | true => exact q B1 H1 g1
  | false => exact h2 rfl σ B1 H1 g1.t (ev.mono g1.b) Q fun B' H' g3 => q B' H' (g1.trans g3)
theorem et_not {a : Bool} (h : ET t ρ a) : ET (tNot t) ρ (!a) := fun σ B H ex ev Q q => h σ B H ex ev _ fun B1 H1 g1 => q B1 H1 g1
theorem et_yes : ET tYes ρ true := fun σ B H ex ev Q q => q B H (Gr.refl ex)
theorem ed_andV {a b : Bool} (h1 : ED ta ρ (.bool a)) (h2 : a = true → ED tb ρ (.bool b)) : ED (tAndV ta tb) ρ (.bool (a && b)) := fun σ B H ex ev Q q => by
  refine h1 σ B H ex ev _ fun v B1 H1 g1 d1 => ?_
  cases d1
  refine ⟨a, rfl, ?_⟩
  cases a with
  | true => exact h2 rfl σ B1 H1 g1.t (ev.mono g1.b) Q fun v B' H' g3 d3 => q v B' H' (g1.trans g3) d3
  | false => exact q _ B1 H1 g1 (.bl false)
theorem ed_orV {a b : Bool} (h1 : ED ta ρ (.bool a)) (h2 : a = false → ED tb ρ (.bool b)) : ED (tOrV ta tb) ρ (.bool (a || b)) := fun σ B H ex ev Q q => by
  refine h1 σ B H ex ev _ fun v B1 H1 g1 d1 => ?_
  cases d1
  refine ⟨a, rfl, ?_⟩
  cases a with
  | true => exact q _ B1 H1 g1 (.bl true)
  | false => exact h2 rfl σ B1 H1 g1.t (ev.mono g1.b) Q fun v B' H' g3 d3 => q v B' H' (g1.trans g3) d3
theorem ed_notV {a : Bool} (h1 : ED ta ρ (.bool a)) : ED (tNotV ta) ρ (.bool (!a)) := fun σ B H ex ev Q q => by
  refine h1 σ B H ex ev _ fun v B1 H1 g1 d1 => ?_
  cases d1
  exact ⟨a, rfl, q _ B1 H1 g1 (.bl _)⟩
/-- a < b < c -/
theorem ed_chain {r' : R2} {f : PyData} {k k2 : Bool} (ha : ED ta ρ d) (hb : ED tb ρ e) (hr : RD2 r d e (.bool k)) (hc : k = true → ED tc ρ f ∧ RD2 r' e f (.bool k2)) : ED (tChain r r' ta tb tc) ρ (.bool (k && k2)) := fun σ B H ex ev Q q => by
  refine ha σ B H ex ev _ fun x B1 H1 g1 d1 => ?_
  refine hb σ B1 H1 g1.t (ev.mono g1.b) _ fun y B2 H2 g2 d2 => ?_
  refine hr B2 H2 x y g2.t (d1.mono g2.b) d2 _ fun v B3 H3 g3 d3 => ?_
  cases d3
  refine ⟨k, rfl, ?_⟩
  have gg := (g1.trans g2).trans g3
  cases k with
  | true =>
    obtain ⟨hc, hr'⟩ := hc rfl
    show tc σ H3 fun w' H4 => r' y w' H4 Q
    refine hc σ B3 H3 g3.t (ev.mono gg.b) _ fun w B4 H4 g4 d4 => ?_
    exact hr' B4 H4 y w g4.t ((d2.mono g3.b).mono g4.b) d4 Q fun v B' H' g5 d5 => q v B' H' ((gg.trans g4).trans g5) d5
  | false => exact q _ B3 H3 gg (.bl false)
theorem eo_none : EO tNoPart ρ none := fun σ B H ex ev Q q => q B H (Gr.refl ex)
theorem eo_some {i : Int} (h : ED te ρ (.int i)) : EO (tPart te) ρ (some i) := fun σ B H ex ev Q q => by
  refine h σ B H ex ev _ fun v B1 H1 g1 d1 => ?_
  cases d1
  exact ⟨i, rfl, q B1 H1 g1⟩
end
end Pd

/-! PdB -/
set_option Elab.async false
set_option linter.all false
set_option maxRecDepth 100000
set_option maxHeartbeats 4000000
namespace Pd
open PySem PySem.Spec PyProof.Rows L2

/-! ### operators of several kinds of operands -/
def rAddS : R2 := fun x y H Q => ∃ i j, x = .str i ∧ y = .str j ∧ i.length + j.length ≤ sizeLine ∧ Q (.str (i ++ j)) H
def rAddX (K : PySem.W.Frag) : R2 := fun x y H Q => rI0 (fun i j => .int (i + j)) x y H Q ∨ rAddS x y H Q ∨ rCatA K x y H Q ∨ rCat x y H Q
theorem op_addX {X : Cx} : OpR X (binaryOp .Add) (rAddX X.K) := OpR.or op_add (OpR.or op_add_str (OpR.or op_catA op_cat))
def rMulX : R2 := fun x y H Q => rI CMul (fun i j => .int (i * j)) x y H Q ∨ rRep x y H Q
theorem op_mulX' {X : Cx} : OpR X (binaryOp .Mult) rMulX := OpR.or op_mul op_rep
/-- x in t, t a tuple of data -/
def rInDT (K : PySem.W.Frag) (neg : Bool) : R2 := fun x y H Q => ∃ d ds, Dp K H x d ∧ Dp K H y (.tuple ds) ∧ SeqAt.shaped d = true ∧ SeqAt.shaped (.tuple ds) = true ∧ Q (.bl (if neg then !ds.any fun z => PyData.eqv z d else ds.any fun z => PyData.eqv z d)) H
theorem op_inDT {X : Cx} (hu : X.A.units + 65 < cLine) : OpR X (compareOp .In) (rInDT X.K false) := by
  intro pins s σ H x y v u Q I rx ry h
  obtain ⟨d, ds, hd, he, sd, se, q⟩ := h
  obtain ⟨as, r1⟩ := Dp.reads I d x v hd rx
  obtain ⟨bs, r2⟩ := Dp.reads I (.tuple ds) y u he ry
  exact SeqAt.in_tuple_reads r2 r1 (SeqAt.canLay_of_shaped se) (SeqAt.canLay_of_shaped sd) (room_in_shaped sd hu) ⟨.bl _, H, I, rfl, q⟩
theorem op_notInDT {X : Cx} (hu : X.A.units + 65 < cLine) : OpR X (compareOp .NotIn) (rInDT X.K true) := by
  intro pins s σ H x y v u Q I rx ry h
  obtain ⟨d, ds, hd, he, sd, se, q⟩ := h
  obtain ⟨as, r1⟩ := Dp.reads I d x v hd rx
  obtain ⟨bs, r2⟩ := Dp.reads I (.tuple ds) y u he ry
  exact SeqAt.notIn_tuple_reads r2 r1 (SeqAt.canLay_of_shaped se) (SeqAt.canLay_of_shaped sd) (room_in_shaped sd hu) ⟨.bl _, H, I, rfl, q⟩
def rInSg (neg : Bool) : R2 := fun x y H Q => ∃ (c : Nat) (z : Str), x = .str ⟨#[c]⟩ ∧ y = .str z ∧ Q (.bl (if neg then !decide (c ∈ z.cps.toList) else decide (c ∈ z.cps.toList))) H
def rInLs (K : PySem.W.Frag) (neg : Bool) : R2 := fun x y H Q => ∃ d ds, Dp K H x d ∧ Dp K H y (.list ds) ∧ SeqAt.shaped d = true ∧ SeqAt.shaped (.list ds) = true ∧ Q (.bl (if neg then !ds.any fun z => PyData.eqv z d else ds.any fun z => PyData.eqv z d)) H
def rInX (K : PySem.W.Frag) (neg : Bool) : R2 := fun x y H Q => rInDT K neg x y H Q ∨ rInLs K neg x y H Q ∨ rIn K neg x y H Q ∨ rInSg neg x y H Q
theorem op_inX {X : Cx} (hu : X.A.units + 65 < cLine) : OpR X (compareOp .In) (rInX X.K false) := OpR.or (op_inDT hu) (OpR.or (op_inD hu) (OpR.or op_in_seq op_in_sign))
theorem op_notInX {X : Cx} (hu : X.A.units + 65 < cLine) : OpR X (compareOp .NotIn) (rInX X.K true) := OpR.or (op_notInDT hu) (OpR.or (op_notInD hu) (OpR.or op_notIn_seq op_notIn_sign))
def rSlX (K : PySem.W.Frag) : V → Option Int → Option Int → Hp → VK → Prop := fun x lo hi H Q => rSlL K x lo hi H Q ∨ rSlA K x lo hi H Q ∨ rSlS x lo hi H Q
theorem sl_X {X : Cx} : SlR X (rSlX X.K) := SlR.or sl_list (SlR.or sl_tupA sl_str)
theorem hu65 {A : Around} {k : Nat} (hr : Room k A) : A.units + 65 < cLine := by
  have := hr.un
  omega

section
variable {K : PySem.W.Frag} {ρ : Rho} {ta tb tc te : TE} {t u : TT} {d e z : PyData} {ds es : List PyData} {i j : Int}
theorem r2_i0 {g : Int → Int → V} {f : Int → Int → PyData} (hf : ∀ (H : Hp) (a b : Int), DH H (g a b) (f a b)) : RD2 (rI0 g) (.int i) (.int j) (f i j) := fun B H x y ex dx dy Q q => by
  cases dx; cases dy
  exact ⟨i, j, rfl, rfl, q _ B H (Gr.refl ex) (hf B i j)⟩
theorem r2_iC {C : Int → Int → Prop} {g : Int → Int → V} {f : Int → Int → PyData} (hf : ∀ (H : Hp) (a b : Int), DH H (g a b) (f a b)) (hc : C i j) : RD2 (rI C g) (.int i) (.int j) (f i j) := fun B H x y ex dx dy Q q => by
  cases dx; cases dy
  exact ⟨i, j, rfl, rfl, hc, q _ B H (Gr.refl ex) (hf B i j)⟩
theorem r2_addI : RD2 (rAddX K) (.int i) (.int j) (.int (i + j)) := fun B H x y ex dx dy Q q => .inl (r2_i0 (f := fun a b => .int (a + b)) (fun _ a b => .int _) B H x y ex dx dy Q q)
theorem r2_subI : RD2 (rI0 fun i j => .int (i - j)) (.int i) (.int j) (.int (i - j)) := r2_i0 (f := fun a b => .int (a - b)) (fun _ a b => .int _)
theorem r2_lt : RD2 (rI0 fun i j => .bl (decide (i < j))) (.int i) (.int j) (.bool (decide (i < j))) := r2_i0 (f := fun a b => .bool (decide (a < b))) (fun _ a b => .bl _)
theorem r2_le : RD2 (rI0 fun i j => .bl (decide (i ≤ j))) (.int i) (.int j) (.bool (decide (i ≤ j))) := r2_i0 (f := fun a b => .bool (decide (a ≤ b))) (fun _ a b => .bl _)
theorem r2_gt : RD2 (rI0 fun i j => .bl (decide (j < i))) (.int i) (.int j) (.bool (decide (j < i))) := r2_i0 (f := fun a b => .bool (decide (b < a))) (fun _ a b => .bl _)
theorem r2_ge : RD2 (rI0 fun i j => .bl (decide (j ≤ i))) (.int i) (.int j) (.bool (decide (j ≤ i))) := r2_i0 (f := fun a b => .bool (decide (b ≤ a))) (fun _ a b => .bl _)
theorem r2_mod (h : 0 < j) : RD2 (rI (fun _ j => 0 < j) fun i j => .int (i % j)) (.int i) (.int j) (.int (i % j)) := r2_iC (f := fun a b => .int (a % b)) (fun _ a b => .int _) h
theorem r2_fdiv (h : CDiv i j) : RD2 (rI CDiv fun i j => .int (i / j)) (.int i) (.int j) (.int (i / j)) := r2_iC (f := fun a b => .int (a / b)) (fun _ a b => .int _) h
theorem r2_pow (h : CPow i j) : RD2 (rI CPow fun i j => .int (i ^ j.toNat)) (.int i) (.int j) (.int (i ^ j.toNat)) := r2_iC (f := fun a b => .int (a ^ b.toNat)) (fun _ a b => .int _) h
theorem r2_mulI (h : CMul i j) : RD2 rMulX (.int i) (.int j) (.int (i * j)) := fun B H x y ex dx dy Q q => .inl (r2_iC (f := fun a b => .int (a * b)) (fun _ a b => .int _) h B H x y ex dx dy Q q)
theorem DHs.flatRep {H : Hp} {xs : List V} (h : DHs H xs ds) : ∀ n : Nat, DHs H (List.replicate n xs).flatten (List.replicate n ds).flatten
  | 0 => .nil
  | n + 1 => by
    rw [List.replicate_succ, List.replicate_succ, List.flatten_cons, List.flatten_cons]
    exact h.append (DHs.flatRep h n)
theorem r2_rep (h0 : 0 ≤ i) (h1 : i ≤ 1000) (h2 : ds.length ≤ 1000) : RD2 rMulX (.list ds) (.int i) (.list (List.replicate i.toNat ds).flatten) := fun B H x y ex dx dy Q q => by
  cases dy
  cases dx with
  | @lst a xs _ ha hs =>
    refine .inr ⟨a, i, xs, rfl, rfl, ex _ _ ha, by omega, by omega, ?_, fun p hp => ?_⟩
    · rw [hs.length]
      have : ds.length * i.toNat ≤ 1000 * 1000 := Nat.mul_le_mul h2 (by omega)
      exact Nat.le_trans this (by decide)
    · have g := Gr.new (o := .lst (List.replicate i.toNat xs).flatten) ex hp
      exact q _ _ _ g (.lst upd_same ((hs.flatRep i.toNat).mono g.b))
theorem r2_addS {x y : Str} (h : x.length + y.length ≤ 100000) : RD2 (rAddX K) (.str x) (.str y) (.str (x ++ y)) := fun B H a b ex dx dy Q q => by
  cases dx; cases dy
  exact .inr (.inl ⟨x, y, rfl, rfl, Nat.le_trans h (by decide), q _ B H (Gr.refl ex) (.str _)⟩)
theorem r2_catL (h : ds.length + es.length ≤ 100000) : RD2 (rAddX K) (.list ds) (.list es) (.list (ds ++ es)) := fun B H x y ex dx dy Q q => by
  cases dx with
  | @lst a xs _ ha hs =>
  cases dy with
  | @lst b ys _ hb hs' =>
    refine .inr (.inr (.inr ⟨a, b, xs, ys, rfl, rfl, ex _ _ ha, ex _ _ hb, ?_, fun p hp => ?_⟩))
    · rw [hs.length, hs'.length]
      exact Nat.le_trans h (by decide)
    · have g := Gr.new (o := .lst (xs ++ ys)) ex hp
      exact q _ _ _ g (.lst upd_same ((hs.append hs').mono g.b))
theorem r2_catT (h : ds.length + es.length ≤ 100000) : RD2 (rAddX K) (.tuple ds) (.tuple es) (.tuple (ds ++ es)) := fun B H x y ex dx dy Q q => by
  cases dx with
  | @tup a xs _ ha hs =>
  cases dy with
  | @tup b ys _ hb hs' =>
    refine .inr (.inr (.inl ⟨a, b, xs, ys, rfl, rfl, SqT.of (ex _ _ ha), SqT.of (ex _ _ hb), ?_, fun z => ?_, fun z1 z2 => ?_, fun z1 z2 p hp => ?_⟩))
    · rw [hs.length, hs'.length]
      exact Nat.le_trans h (by decide)
    · subst z
      cases hs
      exact q _ B H (Gr.refl ex) (.tup hb hs')
    · subst z2
      cases hs'
      rw [List.append_nil] at q
      exact q _ B H (Gr.refl ex) (.tup ha hs)
    · have g := Gr.new (o := .tup (xs ++ ys)) ex hp
      exact q _ _ _ g (.tup upd_same ((hs.append hs').mono g.b))
theorem r2_eq (hd : SeqAt.shaped d = true) (he : SeqAt.shaped e = true) : RD2 (rEqD K) d e (.bool (PyData.eqv d e)) := fun B H x y ex dx dy Q q =>
  ⟨d, e, (dx.mono ex).dp, (dy.mono ex).dp, hd, he, q _ B H (Gr.refl ex) (.bl _)⟩
theorem r2_ne (hd : SeqAt.shaped d = true) (he : SeqAt.shaped e = true) : RD2 (rNeD K) d e (.bool (!PyData.eqv d e)) := fun B H x y ex dx dy Q q =>
  ⟨d, e, (dx.mono ex).dp, (dy.mono ex).dp, hd, he, q _ B H (Gr.refl ex) (.bl _)⟩
theorem r2_inT {neg : Bool} (hd : SeqAt.shaped d = true) (he : SeqAt.shaped (.tuple ds) = true) : RD2 (rInX K neg) d (.tuple ds) (.bool (if neg then !ds.any fun z => PyData.eqv z d else ds.any fun z => PyData.eqv z d)) := fun B H x y ex dx dy Q q =>
  .inl ⟨d, ds, (dx.mono ex).dp, (dy.mono ex).dp, hd, he, q _ B H (Gr.refl ex) (.bl _)⟩
theorem r2_inL {neg : Bool} (hd : SeqAt.shaped d = true) (he : SeqAt.shaped (.list ds) = true) : RD2 (rInX K neg) d (.list ds) (.bool (if neg then !ds.any fun z => PyData.eqv z d else ds.any fun z => PyData.eqv z d)) := fun B H x y ex dx dy Q q =>
  .inr (.inl ⟨d, ds, (dx.mono ex).dp, (dy.mono ex).dp, hd, he, q _ B H (Gr.refl ex) (.bl _)⟩)
theorem r2_inS {neg : Bool} {c : Nat} {z : Str} : RD2 (rInX K neg) (.str ⟨#[c]⟩) (.str z) (.bool (if neg then !decide (c ∈ z.cps.toList) else decide (c ∈ z.cps.toList))) := fun B H x y ex dx dy Q q => by
  cases dx; cases dy
  exact .inr (.inr (.inr ⟨c, z, rfl, rfl, q _ B H (Gr.refl ex) (.bl _)⟩))
/-- x in T, T a tuple of texts of the module's own -/
theorem ed_inK {neg : Bool} {a : Addr} {xs : List V} {x : Str} (h : ED te ρ (.str x)) (hT : ∀ H, SqT K H a xs) (hf : xs.all flatV = true) : ED (tOp (rInX K neg) te (tC (.ref a))) ρ (.bool (if neg then !inV (.str x) xs else inV (.str x) xs)) := fun σ B H ex ev Q q => by
  refine h σ B H ex ev _ fun v B1 H1 g1 d1 => ?_
  cases d1
  exact .inr (.inr (.inl ⟨a, xs, rfl, .inr (hT H1), rfl, hf, q _ B1 H1 g1 (.bl _)⟩))
def isN : PyData → Bool
  | .none => true
  | _ => false
theorem r2_isN : RD2 (fun x y H Q => y = .non ∧ Q (.bl (decide (x = .non))) H) d .none (.bool (isN d)) := fun B H x y ex dx dy Q q => by
  cases dy
  refine ⟨rfl, q _ B H (Gr.refl ex) ?_⟩
  have e : decide (x = .non) = isN d := by cases dx <;> rfl
  rw [e]
  exact .bl _
theorem r2_notN : RD2 (fun x y H Q => y = .non ∧ Q (.bl (!decide (x = .non))) H) d .none (.bool (!isN d)) := fun B H x y ex dx dy Q q => by
  cases dy
  refine ⟨rfl, q _ B H (Gr.refl ex) ?_⟩
  have e : decide (x = .non) = isN d := by cases dx <;> rfl
  rw [e]
  exact .bl _
theorem atI_DHs {H : Hp} {xs : List V} (h : DHs H xs ds) (ha : atI ds i = some d) : ∃ v, atI xs i = some v ∧ DH H v d := by
  unfold atI at ha ⊢
  rw [h.length]
  cases e : ixN ds.length i with
  | none => rw [e] at ha; cases ha
  | some j =>
    rw [e] at ha
    exact h.get ha
theorem r2_ixL (ha : atI ds i = some d) : RD2 (rIx K) (.list ds) (.int i) d := fun B H x y ex dx dy Q q => by
  cases dy
  cases dx with
  | @lst a xs _ hb hs =>
    obtain ⟨v, h1, h2⟩ := atI_DHs hs ha
    exact .inl ⟨a, xs, i, v, rfl, rfl, SqL.of (ex _ _ hb), h1, q v B H (Gr.refl ex) h2⟩
theorem r2_ixT (ha : atI ds i = some d) : RD2 (rIx K) (.tuple ds) (.int i) d := fun B H x y ex dx dy Q q => by
  cases dy
  cases dx with
  | @tup a xs _ hb hs =>
    obtain ⟨v, h1, h2⟩ := atI_DHs hs ha
    exact .inr (.inl ⟨a, xs, i, v, rfl, rfl, SqT.of (ex _ _ hb), h1, q v B H (Gr.refl ex) h2⟩)
theorem r2_ixS {z : Str} {c : Nat} (hl : z.length ≤ 100000) (ha : atI z.cps.toList i = some c) : RD2 (rIx K) (.str z) (.int i) (.str ⟨#[c]⟩) := fun B H x y ex dx dy Q q => by
  cases dx; cases dy
  exact .inr (.inr ⟨z, i, c, rfl, rfl, Nat.le_trans hl (by decide), ha, q _ B H (Gr.refl ex) (.str _)⟩)
def cutD (ds : List PyData) (lo hi : Option Int) : List PyData := (ds.drop (HT.sIx ds.length 0 lo)).take (HT.sIx ds.length ds.length hi - HT.sIx ds.length 0 lo)
theorem DHs.cut {H : Hp} {xs : List V} {lo hi : Option Int} (h : DHs H xs ds) : DHs H (cutV xs lo hi) (cutD ds lo hi) := by
  unfold cutV cutD
  rw [h.length]
  exact (h.drop _).take _
theorem ed_slT {tl th : TO} {lo hi : Option Int} (h : ED te ρ (.tuple ds)) (hl : EO tl ρ lo) (hh : EO th ρ hi) : ED (tSl (rSlX K) te tl th) ρ (.tuple (cutD ds lo hi)) := fun σ B H ex ev Q q => by
  refine h σ B H ex ev _ fun v B1 H1 g1 d1 => ?_
  refine hl σ B1 H1 g1.t (ev.mono g1.b) _ fun B2 H2 g2 => ?_
  refine hh σ B2 H2 g2.t (ev.mono (g1.b.trans g2.b)) _ fun B3 H3 g3 => ?_
  have gg := (g1.trans g2).trans g3
  have d3 := (d1.mono g2.b).mono g3.b
  cases d3 with
  | @tup a xs _ ha hs =>
    refine .inr (.inl ⟨a, xs, rfl, SqT.of (g3.t _ _ ha), fun hw => ?_, fun hw p hp => ?_⟩)
    · refine q _ B3 H3 gg ?_
      have e : cutD ds lo hi = ds := by
        have hn := hs.length
        unfold cutD
        rw [hn] at hw
        rw [hw.1, hw.2]
        simp
      rw [e]
      exact .tup ha hs
    · have g := Gr.new (o := .tup (cutV xs lo hi)) g3.t hp
      exact q _ _ _ (gg.trans g) (.tup upd_same (hs.cut.mono g.b))
theorem ed_slL {tl th : TO} {lo hi : Option Int} (h : ED te ρ (.list ds)) (hl : EO tl ρ lo) (hh : EO th ρ hi) : ED (tSl (rSlX K) te tl th) ρ (.list (cutD ds lo hi)) := fun σ B H ex ev Q q => by
  refine h σ B H ex ev _ fun v B1 H1 g1 d1 => ?_
  refine hl σ B1 H1 g1.t (ev.mono g1.b) _ fun B2 H2 g2 => ?_
  refine hh σ B2 H2 g2.t (ev.mono (g1.b.trans g2.b)) _ fun B3 H3 g3 => ?_
  have gg := (g1.trans g2).trans g3
  have d3 := (d1.mono g2.b).mono g3.b
  cases d3 with
  | @lst a xs _ ha hs =>
    refine .inl ⟨a, xs, rfl, SqL.of (g3.t _ _ ha), fun p hp => ?_⟩
    have g := Gr.new (o := .lst (cutV xs lo hi)) g3.t hp
    exact q _ _ _ (gg.trans g) (.lst upd_same (hs.cut.mono g.b))
theorem ed_slS {tl th : TO} {lo hi : Option Int} {z : Str} (h : ED te ρ (.str z)) (hl : EO tl ρ lo) (hh : EO th ρ hi) (hz : z.length ≤ 100000) : ED (tSl (rSlX K) te tl th) ρ (.str (cutS z lo hi)) := fun σ B H ex ev Q q => by
  refine h σ B H ex ev _ fun v B1 H1 g1 d1 => ?_
  cases d1
  refine hl σ B1 H1 g1.t (ev.mono g1.b) _ fun B2 H2 g2 => ?_
  refine hh σ B2 H2 g2.t (ev.mono (g1.b.trans g2.b)) _ fun B3 H3 g3 => ?_
  exact .inr (.inr ⟨z, rfl, Nat.le_trans hz (by decide), q _ B3 H3 ((g1.trans g2).trans g3) (.str _)⟩)
/-! ### calls of built-ins -/
def rLenX (K : PySem.W.Frag) : List V → Hp → VK → Prop := fun xs H Q => ∃ x n, xs = [x] ∧ LenV K x H n ∧ Q (.int n) H
theorem rc_lenT : RC (rLenX K) [.tuple ds] (.int (ds.length : Nat)) := fun B H vs ex dv Q q => by
  cases dv with
  | cons dv r =>
    cases r
    cases dv with
    | @tup a xs _ ha hs =>
      rw [← hs.length] at q
      exact ⟨_, xs.length, rfl, .inr ⟨xs, SqT.of (ex _ _ ha), rfl⟩, q _ B H (Gr.refl ex) (.int _)⟩
theorem rc_lenL : RC (rLenX K) [.list ds] (.int (ds.length : Nat)) := fun B H vs ex dv Q q => by
  cases dv with
  | cons dv r =>
    cases r
    cases dv with
    | @lst a xs _ ha hs =>
      rw [← hs.length] at q
      exact ⟨_, xs.length, rfl, .inl ⟨xs, SqL.of (ex _ _ ha), rfl⟩, q _ B H (Gr.refl ex) (.int _)⟩
theorem rc_lenS {z : Str} (hz : z.length ≤ 100000) : RC (rLenX K) [.str z] (.int (z.length : Nat)) := fun B H vs ex dv Q q => by
  cases dv with
  | cons dv r =>
    cases r
    cases dv
    exact ⟨_, z.length, rfl, ⟨Nat.le_trans hz (by decide), rfl⟩, q _ B H (Gr.refl ex) (.int _)⟩
def rIntX : List V → Hp → VK → Prop := fun xs H Q => (∃ i, xs = [.int i] ∧ Q (.int i) H) ∨ ∃ k, xs = [.bl k] ∧ Q (.int (if k then 1 else 0)) H
theorem rc_intB {b : Bool} : RC rIntX [.bool b] (.int (if b then 1 else 0)) := fun B H vs ex dv Q q => by
  cases dv with
  | cons dv r =>
    cases r
    cases dv
    exact .inr ⟨b, rfl, q _ B H (Gr.refl ex) (.int _)⟩
def rTupX (K : PySem.W.Frag) : List V → Hp → VK → Prop := fun xs H Q => ∃ p ys, xs = [.ref p] ∧ ((SqL K H p ys ∧ ∀ l, H l = none → Q (.ref l) (upd H l (.tup ys))) ∨ (SqT K H p ys ∧ Q (.ref p) H))
theorem rc_tupL : RC (rTupX K) [.list ds] (.tuple ds) := fun B H vs ex dv Q q => by
  cases dv with
  | cons dv r =>
    cases r
    cases dv with
    | @lst a xs _ ha hs =>
      refine ⟨a, xs, rfl, .inl ⟨SqL.of (ex _ _ ha), fun p hp => ?_⟩⟩
      have g := Gr.new (o := .tup xs) ex hp
      exact q _ _ _ g (.tup upd_same (hs.mono g.b))
def tyN : PyData → String
  | .none => "NoneType"
  | .bool _ => "bool"
  | .int _ => "int"
  | .str _ => "str"
  | .list _ => "list"
  | .tuple _ => "tuple"
  | .dict _ => "dict"
theorem DH.ty {H H' : Hp} {v : V} (e : Ex H H') (h : DH H v d) : TyX K H' v (.type (tyN d)) := by
  cases h with
  | non => exact .base .non
  | bl b => exact .base (.bl b)
  | int i => exact .base (.int i)
  | str x => exact .base (.str x)
  | lst h _ => exact .base (.lst (e _ _ h))
  | tup h _ => exact .base (.tup (e _ _ h))
theorem ed_isi {n : String} {b : Bool} (h : ED te ρ d) (hk : kitB (tyN d) n = some b) : ED (tCB (rIsi K) (tCons te (tCons (tC (.ty n)) tNil))) ρ (.bool b) := fun σ B H ex ev Q q => by
  refine h σ B H ex ev _ fun v B1 H1 g1 d1 => ?_
  exact ⟨v, .ty n, _, _, b, rfl, .ty n, d1.ty g1.t, kit_ty hk, q _ B1 H1 g1 (.bl b)⟩
/-- isinstance(x, (tuple, list)) -/
theorem ed_isi2 {n m : String} {b c : Bool} (h : ED te ρ d) (hk : kitB (tyN d) n = some b) (hk2 : kitB (tyN d) m = some c) : ED (tCB (rIsiT K) (tCons te (tCons (tTup (tCons (tC (.ty n)) (tCons (tC (.ty m)) tNil))) tNil))) ρ (.bool (b || c)) := fun σ B H ex ev Q q => by
  refine h σ B H ex ev _ fun v B1 H1 g1 d1 => ⟨by show 2 ≤ sizeLine; decide, fun p hp => ?_⟩
  have g2 := Gr.own (o := .tup [.ty n, .ty m]) g1.t hp
  refine ⟨v, p, [.ty n, .ty m], _, [.type n, .type m], b || c, rfl, upd_same, .cons (.ty n) (.cons (.ty m) .nil), d1.ty g2.t, ?_, q _ B1 _ (g1.trans g2) (.bl _)⟩
  refine kitAny_cons (kit_ty hk) (fun hb => ?_) (fun hb => by rw [hb]; rfl)
  rw [hb]
  exact kitAny_cons (kit_ty hk2) (fun hc => by rw [hc]; exact kitAny_nil) (fun hc => by rw [hc]; rfl)
/-- ''.join(texts) -/
def rJoin (K : PySem.W.Frag) : V → List V → Hp → VK → Prop := fun x xs H Q => ∃ a p, ∃ ys : List Str, x = .str a ∧ xs = [.ref p] ∧ (SqL K H p (ys.map V.str) ∨ SqT K H p (ys.map V.str)) ∧ (ys.map (·.length)).sum + ys.length * a.length ≤ 16777216 ∧ Q (.str (Txt.join a ys)) H
theorem ed_join {a : Str} {ys : List Str} (h : ED te ρ (.list (ys.map PyData.str))) (hz : (ys.map (·.length)).sum + ys.length * a.length ≤ 16777216) : ED (tM1 (rJoin K) (tC (.str a)) te) ρ (.str (Txt.join a ys)) := fun σ B H ex ev Q q => by
  refine ⟨⟨a, rfl⟩, ?_⟩
  refine h σ B H ex ev _ fun v B1 H1 g1 d1 => ?_
  cases d1 with
  | @lst p xs _ ha hs =>
    have e := hs.strs
    subst e
    exact ⟨a, p, ys, rfl, rfl, .inl (SqL.of (g1.t _ _ ha)), hz, q _ B1 H1 g1 (.str _)⟩
/-- {'a': i, 'b': j}.get(x, k) -/
theorem ed_dget2 {a b x : Str} {k i j : Int} (hab : a ≠ b) (ha : ED ta ρ (.int i)) (hb : ED tb ρ (.int j)) (hx : ED tc ρ (.str x)) (hk : ED te ρ (.int k)) :
    ED (tDGet2 (tDisp [(tC (.str a), ta), (tC (.str b), tb)]) tc te) ρ (.int (if x = a then i else if x = b then j else k)) := fun σ B H ex ev Q q p hp => by
  have g0 := Gr.own (o := .dK []) ex hp
  have hB : B p = none := ex.nil hp
  have hH : (upd H p (.dK [])) p ≠ none := by rw [upd_same]; exact fun z => nomatch z
  refine ha σ B _ g0.t ev _ fun v1 B1 H1 g1 d1 => ?_
  cases d1
  refine hb σ B1 H1 g1.t (ev.mono g1.b) _ fun v2 B2 H2 g2 d2 => ?_
  cases d2
  have e1 := g1.h _ _ (upd_same (H := H) (a := p) (o := .dK []))
  have e2 := g2.h _ _ e1
  have nB2 : B2 p = none := g2.n p (g1.n p hB hH) (by rw [e1]; exact fun z => nomatch z)
  refine ⟨e2, [(Sum.inr a, .int i), (Sum.inr b, .int j)], rfl, by show 2 ≤ 15; decide, ?_⟩
  have hm : mergeK [] [((Sum.inr a : Key), V.int i), (Sum.inr b, .int j)] = [(Sum.inr a, .int i), (Sum.inr b, .int j)] := by
    have n1 : ¬ ((Sum.inr a : Key) = Sum.inr b) := fun z => hab (Sum.inr.inj z)
    simp [mergeK, putK, n1]
  rw [hm]
  have g12 := (g0.trans g1).trans g2
  have ex3 : Ex B2 (upd H2 p (.dK [(Sum.inr a, .int i), (Sum.inr b, .int j)])) := g12.t.mut nB2
  have exH : Ex H (upd H2 p (.dK [(Sum.inr a, .int i), (Sum.inr b, .int j)])) := g12.h.mut hp
  refine ⟨p, rfl, .inl ⟨_, .inl upd_same⟩, ?_⟩
  refine hx σ B2 _ ex3 (ev.mono g12.b) _ fun v3 B3 H3 g3 d3 => ?_
  cases d3
  refine hk σ B3 H3 g3.t (ev.mono (g12.b.trans g3.b)) _ fun v4 B4 H4 g4 d4 => ?_
  cases d4
  have e4 := g4.h _ _ (g3.h _ _ (upd_same (H := H2) (a := p) (o := .dK [(Sum.inr a, .int i), (Sum.inr b, .int j)])))
  refine ⟨_, DGet.k (k := Sum.inr x) e4, ?_⟩
  have ev4 : (valV [((Sum.inr a : Key), V.int i), (Sum.inr b, .int j)] (Sum.inr x)).getD (.int k) = .int (if x = a then i else if x = b then j else k) := by
    by_cases h1 : x = a
    · subst h1
      rw [if_pos rfl, valV_pos rfl]
      rfl
    · rw [if_neg h1, valV_neg (fun z => h1 (Sum.inr.inj z).symm)]
      by_cases h2 : x = b
      · subst h2
        rw [if_pos rfl, valV_pos rfl]
        rfl
      · rw [if_neg h2, valV_neg (fun z => h2 (Sum.inr.inj z).symm)]
        rfl
  rw [ev4]
  refine q _ B4 H4 ⟨g12.b.trans (g3.b.trans g4.b), g4.t, exH.trans (g3.h.trans g4.h), fun c h1 h2 => ?_⟩ (.int _)
  have hc : c ≠ p := fun z => h2 (by rw [z]; exact hp)
  have c2 := g12.n c h1 h2
  have c2' : (upd H2 p (.dK [(Sum.inr a, .int i), (Sum.inr b, .int j)])) c ≠ none := by
    rw [upd_ne hc]
    exact Ex.nn g12.h h2
  exact g4.n c (g3.n c c2 c2') (Ex.nn g3.h c2')
end
end Pd

/-! PdC -/
set_option Elab.async false
set_option linter.all false
set_option maxRecDepth 100000
set_option maxHeartbeats 4000000
namespace Pd
open PySem PySem.Spec PyProof.Rows L2

/-! ### targets -/
def GD (g : TG) (ρ : Rho) (d : PyData) (ρ' : Rho) (vs : List Nat) : Prop := ∀ σ B H v, Ex B H → EnvD σ B ρ → DH B v d → ∀ Q : L2.St → Hp → Prop, (∀ σ', EnvD σ' B ρ' → L2.wipe σ' vs = L2.wipe σ vs → Q σ' H) → g v σ H Q
def GDs (g : TGs) (ρ : Rho) (ds : List PyData) (ρ' : Rho) (vs : List Nat) : Prop := ∀ σ B H xs, Ex B H → EnvD σ B ρ → DHs B xs ds → ∀ Q : L2.St → Hp → Prop, (∀ σ', EnvD σ' B ρ' → L2.wipe σ' vs = L2.wipe σ vs → Q σ' H) → g xs σ H Q
theorem wipe_get (σ : L2.St) : ∀ (vs : List Nat) (i : Nat), (L2.wipe σ vs)[i]? = if i ∈ vs ∧ i < σ.length then some none else σ[i]?
  | [], i => by simp [L2.wipe]
  | v :: vs, i => by
    show ((L2.wipe σ vs).set v none)[i]? = _
    rw [List.getElem?_set, wipe_length]
    by_cases h : v = i
    · subst h
      by_cases hl : v < σ.length
      · rw [if_pos rfl, if_pos hl, if_pos ⟨List.mem_cons_self, hl⟩]
      · rw [if_pos rfl, if_neg hl, if_neg (fun z => hl z.2), List.getElem?_eq_none (by omega)]
    · rw [if_neg h, wipe_get σ vs i]
      by_cases hi : i ∈ vs
      · by_cases hl : i < σ.length
        · rw [if_pos ⟨hi, hl⟩, if_pos ⟨List.mem_cons_of_mem _ hi, hl⟩]
        · rw [if_neg (fun z => hl z.2), if_neg (fun z => hl z.2)]
      · have h2 : i ∉ v :: vs := fun z => by
          rcases List.mem_cons.mp z with z | z
          · exact h z.symm
          · exact hi z
        rw [if_neg (fun z => hi z.1), if_neg (fun z => h2 z.1)]
theorem wipe_set {σ : L2.St} {vs : List Nat} {j : Nat} {o : Option V} (h : j ∈ vs) : L2.wipe (σ.set j o) vs = L2.wipe σ vs := by
  refine List.ext_getElem? fun i => ?_
  rw [wipe_get, wipe_get, List.length_set, List.getElem?_set]
  by_cases hi : i ∈ vs ∧ i < σ.length
  · rw [if_pos hi, if_pos hi]
  · rw [if_neg hi, if_neg hi]
    by_cases hj : j = i
    · subst hj
      have hl : ¬ j < σ.length := fun z => hi ⟨h, z⟩
      rw [if_pos rfl, if_neg hl, List.getElem?_eq_none (by omega)]
    · rw [if_neg hj]
theorem wipe_idem (σ : L2.St) (vs : List Nat) : L2.wipe (L2.wipe σ vs) vs = L2.wipe σ vs := by
  refine List.ext_getElem? fun i => ?_
  rw [wipe_get, wipe_length, wipe_get]
  by_cases hi : i ∈ vs ∧ i < σ.length
  · rw [if_pos hi, if_pos hi]
  · rw [if_neg hi, if_neg hi]
section
variable {K : PySem.W.Frag} {ρ ρ' ρ1 : Rho} {ta tb tc te : TE} {tt : TT} {t u : TS} {d e z : PyData} {ds es : List PyData} {i j : Nat} {vs : List Nat}
theorem gd_name (h : i ∈ vs) : GD (gName i) ρ d (ρ.set i (some d)) vs := fun σ B H v ex ev dv Q q => q _ (ev.set i dv) (wipe_set h)
theorem gds_nil : GDs gNil ρ [] ρ vs := fun σ B H xs ex ev dv Q q => by
  cases dv
  exact ⟨rfl, q σ ev rfl⟩
theorem gds_cons {g : TG} {gs : TGs} (h : GD g ρ d ρ1 vs) (hs : GDs gs ρ1 ds ρ' vs) : GDs (gCons g gs) ρ (d :: ds) ρ' vs := fun σ B H xs ex ev dv Q q => by
  cases dv with
  | cons a r =>
    exact ⟨_, _, rfl, h σ B H _ ex ev a _ fun σ1 ev1 w1 => hs σ1 B H _ ex ev1 r _ fun σ2 ev2 w2 => q σ2 ev2 (w2.trans w1)⟩
theorem gd_tup {n : Nat} {gs : TGs} (hs : GDs gs ρ ds ρ' vs) (hn : ds.length = n) : GD (gTup K n gs) ρ (.tuple ds) ρ' vs := fun σ B H v ex ev dv Q q => by
  cases dv with
  | @tup a xs _ ha hx =>
    exact ⟨a, xs, rfl, SqT.of (ex _ _ ha), by rw [hx.length]; exact hn, hs σ B H xs ex ev hx Q q⟩

/-! ### statements -/
def RD (t : TS) (ρ : Rho) (d : PyData) : Prop := ∀ σ B H (D : Ends), Ex B H → EnvD σ B ρ → (∀ v B' H', Gr B H B' H' → DH B' v d → D.rt v H') → t D σ H
def SD (t : TS) (ρ ρ' : Rho) : Prop := ∀ σ B H (D : Ends), Ex B H → EnvD σ B ρ → (∀ σ' B' H', Gr B H B' H' → EnvD σ' B' ρ' → D.nx σ' H') → t D σ H
theorem rd_ret (h : ED te ρ d) : RD (tRet te) ρ d := fun σ B H D ex ev q => h σ B H ex ev D.rt q
theorem RD.is {d' : PyData} (h : RD t ρ d) (e : d = d') : RD t ρ d' := e ▸ h
theorem rd_seqR (h : RD t ρ d) : RD (tSeq t u) ρ d := fun σ B H D ex ev q => h σ B H { D with nx := u D } ex ev q
theorem rd_seq (h : SD t ρ ρ') (k : RD u ρ' d) : RD (tSeq t u) ρ d := fun σ B H D ex ev q => h σ B H { D with nx := u D } ex ev fun σ' B' H' g ev' => k σ' B' H' D g.t ev' fun v B2 H2 g2 d2 => q v B2 H2 (g.trans g2) d2
theorem sd_seq (h : SD t ρ ρ1) (k : SD u ρ1 ρ') : SD (tSeq t u) ρ ρ' := fun σ B H D ex ev q => h σ B H { D with nx := u D } ex ev fun σ' B' H' g ev' => k σ' B' H' D g.t ev' fun v B2 H2 g2 d2 => q v B2 H2 (g.trans g2) d2
theorem rd_if {b : Bool} (h : ET tt ρ b) (h1 : b = true → RD t ρ d) (h2 : b = false → RD u ρ d) : RD (tIfS tt t u) ρ d := fun σ B H D ex ev q => by
  refine h σ B H ex ev _ fun B1 H1 g1 => ?_
  cases b with
  | true => exact h1 rfl σ B1 H1 D g1.t (ev.mono g1.b) fun v B' H' g3 d3 => q v B' H' (g1.trans g3) d3
  | false => exact h2 rfl σ B1 H1 D g1.t (ev.mono g1.b) fun v B' H' g3 d3 => q v B' H' (g1.trans g3) d3
theorem sd_if {b : Bool} (h : ET tt ρ b) (h1 : b = true → SD t ρ ρ') (h2 : b = false → SD u ρ ρ') : SD (tIfS tt t u) ρ ρ' := fun σ B H D ex ev q => by
  refine h σ B H ex ev _ fun B1 H1 g1 => ?_
  cases b with
  | true => exact h1 rfl σ B1 H1 D g1.t (ev.mono g1.b) fun v B' H' g3 d3 => q v B' H' (g1.trans g3) d3
  | false => exact h2 rfl σ B1 H1 D g1.t (ev.mono g1.b) fun v B' H' g3 d3 => q v B' H' (g1.trans g3) d3
theorem sd_next : SD tNext ρ ρ := fun σ B H D ex ev q => q σ B H (Gr.refl ex) ev
/-- if t: return ..; the rest -/
theorem rd_ifS {b : Bool} {w : TS} (h : ET tt ρ b) (h1 : b = true → RD t ρ d) (h2 : b = false → RD w ρ d) : RD (tSeq (tIfS tt t tNext) w) ρ d := fun σ B H D ex ev q => by
  refine h σ B H ex ev _ fun B1 H1 g1 => ?_
  cases b with
  | true => exact h1 rfl σ B1 H1 { D with nx := w D } g1.t (ev.mono g1.b) fun v B' H' g3 d3 => q v B' H' (g1.trans g3) d3
  | false => exact h2 rfl σ B1 H1 D g1.t (ev.mono g1.b) fun v B' H' g3 d3 => q v B' H' (g1.trans g3) d3
theorem sd_set (h : ED te ρ d) : SD (tAsg te (gName i)) ρ (ρ.set i (some d)) := fun σ B H D ex ev q => h σ B H ex ev _ fun v B' H' g dv => q _ B' H' g ((ev.mono g.b).set i dv)
theorem sd_asg {g : TG} (h : ED te ρ d) (hg : GD g ρ d ρ' vs) : SD (tAsg te g) ρ ρ' := fun σ B H D ex ev q => h σ B H ex ev _ fun v B' H' gr dv => hg σ B' H' v gr.t (ev.mono gr.b) dv _ fun σ' ev' _ => q σ' B' H' gr ev'
theorem sd_par {ta : TA} (h : EA ta ρ [d, e]) : SD (tPar i j ta) ρ ((ρ.set i (some d)).set j (some e)) := fun σ B H D ex ev q => h σ B H ex ev _ fun xs B' H' g dv => by
  cases dv with
  | cons a r =>
    cases r with
    | cons b r =>
      cases r
      exact ⟨_, _, rfl, q _ B' H' g (((ev.mono g.b).set i a).set j b)⟩

/-! ### what a comprehension walks -/
def ItD (J : It) (B : Hp) (items : List PyData) : Prop := ∀ B1 H, Ex B B1 → Ex B1 H → ∀ i, (i = items.length → J.stop i H) ∧ ∀ d, items[i]? = some d → J.go i H ∧ ∀ x H', J.yld i H x H' → ∃ B2, Gr B1 H B2 H' ∧ DH B2 x d
def IE (wi : TI) (ρ : Rho) (items : List PyData) : Prop := ∀ σ B H, Ex B H → EnvD σ B ρ → ∀ R : It → Hp → Prop, (∀ J B' H', Gr B H B' H' → ItD J B' items → R J H') → wi σ H R
theorem ie_list (h : ED te ρ (.list ds)) : IE (iList K te) ρ ds := fun σ B H ex ev R q => by
  refine h σ B H ex ev _ fun v B1 H1 g1 d1 => ?_
  cases d1 with
  | @lst a xs _ ha hs =>
    refine ⟨a, rfl, ⟨xs, SqL.of (g1.t _ _ ha)⟩, q _ B1 H1 g1 fun B2 H2 e1 e2 i => ⟨fun hi => ⟨xs, SqL.of (e2 _ _ (e1 _ _ ha)), by rw [hs.length]; omega⟩, fun d hd => ?_⟩⟩
    obtain ⟨x, hx, dx⟩ := hs.get hd
    refine ⟨⟨xs, x, SqL.of (e2 _ _ (e1 _ _ ha)), hx⟩, fun y H' ⟨eh, hy⟩ => ⟨B2, ?_, ?_⟩⟩
    · subst eh
      exact Gr.refl e2
    · have := hy xs (SqL.of (e2 _ _ (e1 _ _ ha)))
      rw [hx] at this
      cases this
      exact dx.mono e1
theorem ie_tup (h : ED te ρ (.tuple ds)) : IE (iTup K te) ρ ds := fun σ B H ex ev R q => by
  refine h σ B H ex ev _ fun v B1 H1 g1 d1 => ?_
  cases d1 with
  | @tup a xs _ ha hs =>
    refine ⟨a, rfl, ⟨xs, SqT.of (g1.t _ _ ha)⟩, q _ B1 H1 g1 fun B2 H2 e1 e2 i => ⟨fun hi => ⟨xs, SqT.of (e2 _ _ (e1 _ _ ha)), by rw [hs.length]; omega⟩, fun d hd => ?_⟩⟩
    obtain ⟨x, hx, dx⟩ := hs.get hd
    refine ⟨⟨xs, x, SqT.of (e2 _ _ (e1 _ _ ha)), hx⟩, fun y H' ⟨eh, hy⟩ => ⟨B2, ?_, ?_⟩⟩
    · subst eh
      exact Gr.refl e2
    · have := hy xs (SqT.of (e2 _ _ (e1 _ _ ha)))
      rw [hx] at this
      cases this
      exact dx.mono e1
theorem ie_rng1 {ta : TA} {n : Int} (h : EA ta ρ [.int n]) (h0 : -100000 ≤ n) (h1 : n ≤ 100000) : IE (iRng1 ta) ρ ((List.range n.toNat).map fun k => .int (k : Nat)) := fun σ B H ex ev R q => by
  refine h σ B H ex ev _ fun v B1 H1 g1 d1 => ?_
  cases d1 with
  | cons a r =>
    cases r
    cases a
    refine ⟨n, rfl, by omega, by omega, q _ B1 H1 g1 fun B2 H2 e1 e2 i => ⟨fun hi => ?_, fun d hd => ?_⟩⟩
    · have : i = n.toNat := by simpa using hi
      exact Nat.le_of_eq this.symm
    · rw [List.getElem?_map] at hd
      cases hr : (List.range n.toNat)[i]? with
      | none => rw [hr] at hd; cases hd
      | some k =>
        rw [hr] at hd
        cases hd
        obtain ⟨hl, hk⟩ := List.getElem?_eq_some_iff.mp hr
        simp at hk hl
        subst hk
        refine ⟨by show i < n.toNat; omega, fun y H' ⟨eh, hy⟩ => ⟨B2, ?_, ?_⟩⟩
        · subst eh
          exact Gr.refl e2
        · have e0 : (0 : Int) + ((i : Nat) : Int) = (i : Int) := Int.zero_add _
          rw [hy, e0]
          exact .int _
theorem ie_rng2 {ta : TA} {m n : Int} (h : EA ta ρ [.int m, .int n]) (h0 : -100000 ≤ n) (h1 : n ≤ 100000) (h2 : -100000 ≤ m) (h3 : m ≤ 100000) : IE (iRng2 ta) ρ ((List.range (n - m).toNat).map fun k => .int (m + (k : Nat))) := fun σ B H ex ev R q => by
  refine h σ B H ex ev _ fun v B1 H1 g1 d1 => ?_
  cases d1 with
  | cons a r =>
  cases r with
  | cons b r =>
    cases r
    cases a
    cases b
    refine ⟨m, n, rfl, ⟨by omega, by omega, by omega, by omega⟩, q _ B1 H1 g1 fun B2 H2 e1 e2 i => ⟨fun hi => ?_, fun d hd => ?_⟩⟩
    · have : i = (n - m).toNat := by simpa using hi
      exact Nat.le_of_eq this.symm
    · rw [List.getElem?_map] at hd
      cases hr : (List.range (n - m).toNat)[i]? with
      | none => rw [hr] at hd; cases hd
      | some k =>
        rw [hr] at hd
        cases hd
        obtain ⟨hl, hk⟩ := List.getElem?_eq_some_iff.mp hr
        simp at hk hl
        subst hk
        refine ⟨by show i < (n - m).toNat; omega, fun y H' ⟨eh, hy⟩ => ⟨B2, ?_, ?_⟩⟩
        · subst eh
          exact Gr.refl e2
        · rw [hy]
          exact .int _
theorem ie_str {x : Str} (h : ED te ρ (.str x)) : IE (iStr te) ρ (x.cps.toList.map fun c => .str ⟨#[c]⟩) := fun σ B H ex ev R q => by
  refine h σ B H ex ev _ fun v B1 H1 g1 d1 => ?_
  cases d1
  refine ⟨x, rfl, q _ B1 H1 g1 fun B2 H2 e1 e2 i => ⟨fun hi => ?_, fun d hd => ?_⟩⟩
  · have : i = x.cps.size := by simpa using hi
    exact Nat.le_of_eq this.symm
  · rw [List.getElem?_map, Array.getElem?_toList] at hd
    cases hc : x.cps[i]? with
    | none => rw [hc] at hd; cases hd
    | some c =>
      rw [hc] at hd
      cases hd
      have hl : i < x.cps.size := by
        by_cases hl : i < x.cps.size
        · exact hl
        · rw [Array.getElem?_eq_none (by omega)] at hc
          cases hc
      refine ⟨hl, fun y H' ⟨eh, c', hc', hy⟩ => ⟨B2, ?_, ?_⟩⟩
      · subst eh
        exact Gr.refl e2
      · rw [hc] at hc'
        cases hc'
        rw [hy]
        exact .str _
theorem take_filter_succ {α : Type} {items : List α} {f : α → Bool} {i : Nat} {d : α} (h : items[i]? = some d) : (items.take (i + 1)).filter f = (items.take i).filter f ++ (if f d = true then [d] else []) := by
  rw [List.take_add_one, h, List.filter_append]
  show _ ++ List.filter f [d] = _
  cases hf : f d with
  | true => simp [hf]
  | false => simp [hf]
/-- a comprehension over data: the items told by a list of any kind -/
theorem ed_lcT {α : Type} {wi : TI} {g : TG} (items : List α) (enc : α → PyData) (f : α → Bool) (v : α → PyData) (hi : IE wi ρ (items.map enc)) (hz : items.length ≤ 100000)
    (ht : ∀ d ∈ items, ∃ ρ', GD g (wipeR ρ vs) (enc d) ρ' vs ∧ ET tt ρ' (f d) ∧ (f d = true → ED te ρ' (v d))) : ED (tLc wi g tt te vs) ρ (.list ((items.filter f).map v)) := fun σ B H ex ev Q q => by
  refine hi σ B H ex ev _ fun J B1 H1 g1 hJ Dl hD => ?_
  have nB1 : B1 Dl = none := g1.t.nil hD
  refine ⟨fun i m H' => m = items.length - i ∧ i ≤ items.length ∧ ∃ B' xs, Gr B1 H1 B' H' ∧ H' Dl = some (.lst xs) ∧ B' Dl = none ∧ DHs B' xs (((items.take i).filter f).map v), ⟨items.length, by omega, Nat.zero_le _, B1, [], Gr.own g1.t hD, upd_same, nB1, .nil⟩, ?_⟩
  rintro i m H' ⟨rfl, hle, B', xs, g2, hDl, nB', hx⟩
  obtain ⟨hstop, hgo⟩ := hJ B' H' g2.b g2.t i
  by_cases hlt : i < items.length
  · right
    have hd : items[i]? = some items[i] := List.getElem?_eq_getElem hlt
    obtain ⟨go, hy⟩ := hgo (enc items[i]) (by rw [List.getElem?_map, hd]; rfl)
    refine ⟨go, fun H2 => i + 1 ≤ items.length ∧ ∃ B' xs, Gr B1 H1 B' H2 ∧ H2 Dl = some (.lst xs) ∧ B' Dl = none ∧ DHs B' xs (((items.take (i + 1)).filter f).map v), fun H2 ⟨h1, h2⟩ => ⟨items.length - (i + 1), by omega, rfl, h1, h2⟩, fun x H2 hyl => ?_⟩
    obtain ⟨B2, g3, dx⟩ := hy x H2 hyl
    obtain ⟨ρ', hg, htt, hte⟩ := ht _ (List.mem_of_getElem? hd)
    have hDn : H' Dl ≠ none := by rw [hDl]; exact fun z => nomatch z
    have n2 : B2 Dl = none := g3.n _ nB' hDn
    have e2 := g3.h _ _ hDl
    refine hg (L2.wipe σ vs) B2 H2 x g3.t (((ev.mono g1.b).mono (g2.b.trans g3.b)).wipe vs) dx _ fun σ2 ev2 w2 => ⟨w2.trans (wipe_idem σ vs), ?_⟩
    refine htt σ2 B2 H2 g3.t ev2 _ fun B3 H3 g4 => ?_
    have n3 : B3 Dl = none := g4.n _ n2 (by rw [e2]; exact fun z => nomatch z)
    have e3 := g4.h _ _ e2
    have g234 := (g2.trans g3).trans g4
    have hfs := take_filter_succ (f := f) hd
    cases hf : f items[i] with
    | true =>
      refine hte hf σ2 B3 H3 g4.t (ev2.mono g4.b) _ fun y B4 H4 g5 d5 => ?_
      have n4 : B4 Dl = none := g5.n _ n3 (by rw [e3]; exact fun z => nomatch z)
      have e4 := g5.h _ _ e3
      have g25 := g234.trans g5
      refine ⟨xs, e4, ?_, hlt, B4, xs ++ [y], ⟨g25.b, g5.t.mut n4, g25.h.mut hD, g25.n⟩, upd_same, n4, ?_⟩
      · have hl := hx.length
        rw [hl, List.length_map]
        have h1 := List.length_filter_le f (items.take i)
        rw [List.length_take] at h1
        have : ((items.take i).filter f).length ≤ 100000 := by omega
        exact Nat.lt_of_le_of_lt this (by decide)
      · rw [hfs, hf, if_pos rfl, List.map_append]
        exact (hx.mono ((g3.b.trans g4.b).trans g5.b)).append (.one d5)
    | false =>
      refine ⟨hlt, B3, xs, g234, e3, n3, ?_⟩
      rw [hfs, hf, if_neg (by decide), List.append_nil]
      exact hx.mono (g3.b.trans g4.b)
  · left
    have hie : i = items.length := by omega
    subst hie
    refine ⟨hstop (by rw [List.length_map]), ?_⟩
    rw [List.take_length] at hx
    refine q _ (upd B' Dl (.lst xs)) H' (g1.trans ⟨g2.b.mut nB1, fun a o ha => ?_, g2.h, fun a h1 h2 => ?_⟩) (.lst upd_same (hx.mono (Ex.new nB')))
    · by_cases h : a = Dl
      · subst h
        rw [upd_same] at ha
        cases ha
        exact hDl
      · rw [upd_ne h] at ha
        exact g2.t a o ha
    · have h : a ≠ Dl := fun z => h2 (by rw [z]; exact hD)
      rw [upd_ne h]
      exact g2.n a h1 h2
/-- the same without a test -/
theorem ed_lcM {α : Type} {wi : TI} {g : TG} (items : List α) (enc : α → PyData) (v : α → PyData) (hi : IE wi ρ (items.map enc)) (hz : items.length ≤ 100000)
    (ht : ∀ d ∈ items, ∃ ρ', GD g (wipeR ρ vs) (enc d) ρ' vs ∧ ED te ρ' (v d)) : ED (tLc wi g tYes te vs) ρ (.list (items.map v)) := by
  have h := ed_lcT (tt := tYes) (g := g) (vs := vs) (te := te) items enc (fun _ => true) v hi hz fun d hd => by
    obtain ⟨ρ', a, b⟩ := ht d hd
    exact ⟨ρ', a, et_yes, fun _ => b⟩
  rw [List.filter_eq_self.mpr (fun _ _ => rfl)] at h
  exact h
end

/-! ### defs -/
def spR (R : List PyData → PyData → Prop) : Sp := fun vs H Q _ => ∃ B ds d, Ex B H ∧ DHs B vs ds ∧ R ds d ∧ ∀ v B' H', Gr B H B' H' → DH B' v d → Q v H'
/-- where a def stands -/
def At (K : PySem.W.Frag) (mg : Str → Option Value) (x : Str) (st : Stmt) (ps : List Str) : Prop := ∃ f fd, mg x = some (.ref f) ∧ Fun K x x st f fd ∧ Binds K fd ps []
/-- a def that keeps a promise -/
def DefS (P : Program) (w : World) (K : PySem.W.Frag) (mg : Str → Option Value) (base : Heap) (CX : CXT) (k : Nat) (x : Str) (ps : List Str) (sp : Sp) : Prop :=
  ∃ f fd, mg x = some (.ref f) ∧ PySem.W.keepIn K (.ref f) = true ∧ Binds K fd ps [] ∧ FnOk P w K mg base CX k f fd ps sp
abbrev DefD (P : Program) (w : World) (K : PySem.W.Frag) (mg : Str → Option Value) (base : Heap) (k : Nat) (x : Str) (ps : List Str) (R : List PyData → PyData → Prop) : Prop := DefS P w K mg base CX0 k x ps (spR R)
theorem DefS.mono {P : Program} {w : World} {K : PySem.W.Frag} {mg : Str → Option Value} {base : Heap} {CX : CXT} {k j : Nat} {x : Str} {ps : List Str} {sp : Sp} (h : DefS P w K mg base CX k x ps sp) (hj : k ≤ j) : DefS P w K mg base CX j x ps sp :=
  let ⟨f, fd, a, b, c, d⟩ := h
  ⟨f, fd, a, b, c, d.mono hj⟩
section
variable {P : Program} {w : World} {K : PySem.W.Frag} {mg : Str → Option Value} {base : Heap} {x : Str} {st : Stmt} {ps N : List Str} {k : Nat} {R : List PyData → PyData → Prop} {sp : Sp}
theorem def_ok (F : At K mg x st ps) (S : FnScope N ps (defScope st)) (len : ∀ vs H Q E, sp vs H Q E → vs.length = ps.length)
    (hbody : ∀ (f : Addr) (cdv : Value) (A : Around) (outer : List Env) (s : Shared) (H : Hp) (vs : List V) (Q : VK) (E : XK), Room k (A.deeper (envOfC x (defScope st) s.heap.objs.size f cdv)) → sp vs H Q E →
      ∃ t, PSs (cxOf CX0 P w K mg base N x (defScope st) f cdv A outer s H E).nox (defBody st) t ∧ t { nx := fun _ H' => Q .non H', rt := Q } (L2.start N vs) H) : DefS P w K mg base CX0 (k + 1) x ps sp := by
  obtain ⟨f, fd, h1, h2, h3⟩ := F
  exact ⟨f, fd, h1, h2.kp, h3, h2.ok S len (hbody f)⟩
/-- a def over data -/
theorem def_okD (F : At K mg x st ps) (S : FnScope N ps (defScope st)) (len : ∀ ds d, R ds d → ds.length = ps.length)
    (hbody : ∀ (f : Addr) (cdv : Value) (A : Around) (outer : List Env) (s : Shared) (H : Hp) (E : XK), Room k (A.deeper (envOfC x (defScope st) s.heap.objs.size f cdv)) →
      ∃ t, PSs (cxOf CX0 P w K mg base N x (defScope st) f cdv A outer s H E).nox (defBody st) t ∧ ∀ ds d, R ds d → RD t (ds.map some ++ List.replicate (N.length - ds.length) none) d) (hN : ps.length ≤ N.length := by decide) : DefD P w K mg base (k + 1) x ps R := by
  refine def_ok F S (fun vs H Q E ⟨B, ds, d, _, h1, h2, _⟩ => ?_) fun f cdv A outer s H vs Q E hr ⟨B, ds, d, ex, h1, h2, q⟩ => ?_
  · rw [h1.length]
    exact len ds d h2
  · obtain ⟨t, ht, hd⟩ := hbody f cdv A outer s H E hr
    refine ⟨t, ht, hd ds d h2 _ B H _ ex (env_start h1 ?_) q⟩
    rw [h1.length, len ds d h2]
    exact hN
end
abbrev tCallD (sp : Sp) (t : TA) : TE := tCall sp [] E0 t
theorem pe_dcall {X : Cx} {k : Nat} {x : Str} {ps : List Str} {sp : Sp} {p pos : Pos} {e : Expr} {es : List Expr} {t : TA} (G : DefS X.prog X.w X.K X.mg X.base CX0 k x ps sp) (hr : Room k X.A) (ha : PA X (e :: es) t) (hg : Gl X x := by rfl)
    (hdb : (x == ("__debug__" : Str)) = false := by decide) (he : starEach (e :: es) X.env = (false, eval e X.env) :: starEach es X.env := by rfl) (hpl : (backTo pos (starEach es X.env)).any (·.1) = false := by rfl) :
    PE X (.Call (.Name x p) (e :: es) [] pos) (tCallD sp t) := by
  obtain ⟨f, fd, h1, h2, h3, h4⟩ := G
  exact pe_call h4 hr hg h1 h2 h3 .nil pass0 ha hdb he hpl
theorem ed_call {ρ : Rho} {ta : TA} {ds : List PyData} {d : PyData} {R : List PyData → PyData → Prop} (h : EA ta ρ ds) (hR : R ds d) : ED (tCallD (spR R) ta) ρ d := fun σ B H ex ev Q q => by
  refine h σ B H ex ev _ fun vs B1 H1 g1 d1 => ⟨B1, ds, d, g1.t, ?_, hR, fun v B' H' g2 d2 => q v B' H' (g1.trans g2) d2⟩
  rw [List.append_nil]
  exact d1
end Pd

/-! PdX -/
set_option Elab.async false
set_option linter.all false
set_option maxRecDepth 100000
set_option maxHeartbeats 4000000
namespace Pd
open PySem PySem.Spec PyProof.Rows L2
abbrev rSubI : R2 := rI0 fun i j => .int (i - j)
abbrev rModI : R2 := rI (fun _ j => 0 < j) fun i j => .int (i % j)
abbrev rFdivI : R2 := rI CDiv fun i j => .int (i / j)
abbrev rPowI : R2 := rI CPow fun i j => .int (i ^ j.toNat)
abbrev rLtI : R2 := rI0 fun i j => .bl (decide (i < j))
abbrev rLeI : R2 := rI0 fun i j => .bl (decide (i ≤ j))
abbrev rGtI : R2 := rI0 fun i j => .bl (decide (j < i))
abbrev rGeI : R2 := rI0 fun i j => .bl (decide (j ≤ i))
abbrev rIsN : R2 := fun x y H Q => y = .non ∧ Q (.bl (decide (x = .non))) H
abbrev rNotN : R2 := fun x y H Q => y = .non ∧ Q (.bl (!decide (x = .non))) H
theorem pe_globI {X : Cx} {x : Str} {i : Int} {pos : Pos} (hg : Gl X x) (hm : ∃ t, X.mg x = some (.int i t)) (hd : (x == ("__debug__" : Str)) = false := by decide) : PE X (.Name x pos) (tC (.int i)) := by
  obtain ⟨t, h⟩ := hm
  exact pe_glob hg h ⟨t, rfl⟩ hd

/-! ### zip(a tuple, a text) -/
def ItzTS (K : PySem.W.Frag) (a : Addr) (x : Str) : It :=
  ⟨fun i H => (∃ (xs : List V) (v : V), SqT K H a xs ∧ xs[i]? = some v) ∧ i < x.cps.size,
    fun i H v H' => ∃ T y c, v = .ref T ∧ H T = none ∧ x.cps[i]? = some c ∧ H' = upd H T (.tup [y, .str ⟨#[c]⟩]) ∧ ∀ xs, SqT K H a xs → xs[i]? = some y,
    fun i H => ∃ xs : List V, SqT K H a xs ∧ i ≤ xs.length ∧ i ≤ x.cps.size ∧ (i = xs.length ∨ i = x.cps.size)⟩
structure ApTS (z TI TO i1 i2 a : Addr) : Prop where
  sep : ZipSep2 z TI TO i1 i2 [i1, a] [i2]
  a1 : a ≠ i1
theorem turn_zipTS {P : Program} {w : World} {K : PySem.W.Frag} {elts : List Expr} {kk : Nat} {tpos : Pos} {a z TI TO i1 i2 : Addr} {x : Str} {t : Tok} (D : ApTS z TI TO i1 i2 a) :
    Turn P w K (.Tuple elts kk tpos) (ItzTS K a x) [z, TI, TO, i1, i2] z (fun i h => IsZip h z TI TO .none ∧ IsTupOf2 h TI (.ref i1) (.ref i2) ∧ (∃ x y, IsTupOf2 h TO x y) ∧ h.IsTupleIter i1 a i ∧ h.IsStrIter i2 (strIterType x) x t i) where
  mem := by simp
  obj := fun i h st c hc => by
    obtain ⟨hz, hTI, ⟨x, y, hTO⟩, ⟨o1, e1, _, d1⟩, ⟨o2, e2, _, d2⟩⟩ := st
    have e' : c = z ∨ c = TI ∨ c = TO ∨ c = i1 ∨ c = i2 := by simpa using hc
    rcases e' with q | q | q | q | q
    · rw [q]; exact ⟨_, hz, fun v q => nomatch q⟩
    · rw [q]; exact ⟨_, hTI, fun v q => nomatch q⟩
    · rw [q]; exact ⟨_, hTO, fun v q => nomatch q⟩
    · rw [q]; exact ⟨o1, e1, fun v q => by rw [d1] at q; cases q⟩
    · rw [q]; exact ⟨o2, e2, fun v q => by rw [d2] at q; cases q⟩
  keep := fun i h h' st k => by
    obtain ⟨hz, hTI, ⟨x, y, hTO⟩, h1, ⟨o2, e2, r2⟩⟩ := st
    exact ⟨k z (by simp) _ hz, k TI (by simp) _ hTI, ⟨x, y, k TO (by simp) _ hTO⟩, h1.at fun o q => k i1 (by simp) o q, ⟨o2, k i2 (by simp) _ e2, r2⟩⟩
  item := by
    intro X hP hw hK hc i pins s σ H E I hf st hg
    subst hP hw hK
    obtain ⟨hz, hTI, ⟨x0, y0, hTO⟩, h1, h2⟩ := st
    obtain ⟨⟨xs, y, hqx, hx⟩, hlt⟩ := hg
    obtain ⟨its, rv, p, _⟩ := I.tuple hqx
    obtain ⟨u, hu, ru⟩ := rv.get hx
    have hul : i < its.toArray.size := by
      have := (List.getElem?_eq_some_iff.mp hu).1
      simpa using this
    have hzl : z < s.heap.objs.size := Heap.lt_size hz
    have hh := I.ok.hd hc
    refine wpAny_pyNext_zipD2_item D.sep (Draws.tuple (A := X.A.in1) hh i1 a D.a1 its.toArray) (Draws.text (A := X.A.in1) hh i2 x t) hz hTI hTO ⟨h1, p⟩ h2 hul hlt fun x1 x2 h' tk p1 p2 hz' hTO' st1 st2 hT hsz hk => ?_
    have e1 : x1 = u := by
      have q1 : its.toArray[i]? = some x1 := p1
      have q2 : its[i]? = some x1 := by simpa using q1
      rw [hu] at q2
      exact (Option.some.inj q2).symm
    subst e1
    obtain ⟨c, tc, hcx, e2⟩ := p2
    subst e2
    refine ⟨_, rfl, wpAny_letOwnedTupleGo_zip (s := { s with heap := h', toks := tk }) hz' fun h'' z'' sb => ?_⟩
    have hT2 : h''.get? s.heap.objs.size = some { cls := .type "tuple", data := .seq #[x1, .str ⟨#[c]⟩ tc] } := (sb.2 _ (Nat.ne_of_gt hzl)).trans hT
    have new : ObjOk X.prog X.w (upd H s.heap.objs.size (.tup [y, .str ⟨#[c]⟩])) h'' s.heap.objs.size (.tup [y, .str ⟨#[c]⟩]) :=
      ⟨by show 2 ≤ sizeLine; decide, [x1, .str ⟨#[c]⟩ tc], .cons ru (.cons ⟨tc, rfl⟩ .nil), ⟨_, hT2, rfl, _, rfl⟩⟩
    have I1 : Inv X pins σ (upd H s.heap.objs.size (.tup [y, .str ⟨#[c]⟩])) { s with heap := h'', toks := tk } :=
      I.turnedNew (t' := tk) (ch := [z, TI, TO, i1, i2]) (fun c o hb q => (sb.2 c (fun q' => hb (by simp [q']))).trans (hk c o (fun q' => hb (by simp [q'])) (fun q' => hb (by simp [q'])) (fun q' => hb (by simp [q'])) (fun q' => hb (by simp [q'])) q)) hf (Nat.le_refl _) new
    refine ⟨.ref s.heap.objs.size, _, I1, rfl, ⟨_, y, c, rfl, I.hok.fresh (Nat.le_refl _), hcx, rfl, fun l hl => by rw [I.tuple_inj hl hqx]; exact hx⟩, ⟨z'', ?_, ⟨x1, .str ⟨#[c]⟩ tc, ?_⟩, ?_, ?_⟩, fun c hcm => ?_⟩
    · exact (sb.2 _ D.sep.TIz).trans (hk _ _ D.sep.TIz D.sep.TITO D.sep.TIi1 D.sep.TIi2 hTI)
    · exact (sb.2 _ D.sep.TOz).trans hTO'
    · exact st1.1.at fun o q => (sb.2 _ D.sep.zi1.symm).trans q
    · obtain ⟨o2, e2, r2⟩ := st2
      exact ⟨o2, (sb.2 _ D.sep.zi2.symm).trans e2, r2⟩
    · have hlt : c < s.heap.objs.size := by
        have e' : c = z ∨ c = TI ∨ c = TO ∨ c = i1 ∨ c = i2 := by simpa using hcm
        rcases e' with q | q | q | q | q
        · rw [q]; exact hzl
        · rw [q]; exact Heap.lt_size hTI
        · rw [q]; exact Heap.lt_size hTO
        · rw [q]; obtain ⟨_, e1, _⟩ := h1; exact Heap.lt_size e1
        · rw [q]; obtain ⟨_, e2, _⟩ := h2; exact Heap.lt_size e2
      rw [upd_ne (Nat.ne_of_lt hlt)]
      exact (hf c hcm).1
  done := by
    intro X hP hw hK hc i pins s σ H E I hf st hg
    subst hP hw hK
    obtain ⟨hz, hTI, ⟨x0, y0, hTO⟩, h1, h2⟩ := st
    obtain ⟨xs, hqx, l1, l2, hend⟩ := hg
    obtain ⟨its, rv, p, _⟩ := I.tuple hqx
    have hl : its.toArray.size = xs.length := by
      rw [List.size_toArray]
      exact rv.length.symm
    have hh := I.ok.hd hc
    refine wpAny_pyNext_zipD2_end D.sep (Draws.tuple (A := X.A.in1) hh i1 a D.a1 its.toArray) (Draws.text (A := X.A.in1) hh i2 x t) hz hTI hTO ⟨h1, p⟩ h2 (by omega) l2 (by omega) fun h' tk hk => ⟨rfl, I.turnedL (t' := tk) (ch := [z, TI, TO, i1, i2]) (fun c o hb q =>
      hk c o (fun q' => hb (by simp [q'])) (fun q' => hb (by simp [q'])) (fun q' => hb (by simp [q'])) (fun q' => hb (by simp [q'])) q) hf⟩
  self := fun A i s Q E st h => wpAny_pyIter_zip st.1 h
def iZipTS (K : PySem.W.Frag) (ta : TA) : TI := fun σ H R => ta σ H fun vs H1 => ∃ a xs x, vs = [.ref a, .str x] ∧ SqT K H1 a xs ∧ R (ItzTS K a x) H1
theorem pi_zipTS {X : Cx} {e e2 : Expr} {ta : TA} {p pos tpos : Pos} {elts : List Expr} {kk : Nat} (hg : Gl X "zip") (hm : X.mg "zip" = none) (ha : PA X [e, e2] ta)
    (hs : starEach [e, e2] X.env = (false, eval e X.env) :: starEach [e2] X.env := by rfl) (hpl : (backTo pos (starEach [e2] X.env)).any (·.1) = false := by rfl) :
    PI X (.Tuple elts kk tpos) (.Call (.Name "zip" p) [e, e2] [] pos) (iZipTS X.K ta) := by
  refine ⟨fun pins s σ H R I h => ?_⟩
  refine Call_ (ld_blt I hg hm PyProof.Rows.boot_zip (PyProof.Rows.callWith_type1 (thn (ha.run pos pins s σ H _ I h) fun us s1 ⟨vs, H1, I1, r1, q1⟩ => ?_) hs hpl))
  obtain ⟨a, xs, x, ex, hqx, q⟩ := q1
  subst ex
  cases r1 with
  | cons r rr =>
    cases rr with
    | cons r' rr =>
      cases rr
      cases r
      obtain ⟨t, rfl⟩ := r'
      obtain ⟨its, rv, p1, _⟩ := I1.tuple hqx
      have hal : a < s1.heap.objs.size := by obtain ⟨o, ho, _⟩ := id p1; exact Heap.lt_size ho
      refine zip_begins2 (begins_tuple a its.toArray) (begins_text x t) p1 trivial fun h' hz hTI hTO h1 h2 hsz hk => wpAny_pyIter_zip hz ?_
      have I2 : Inv X pins σ H1 { s1 with heap := h' } := I1.kept (t' := s1.toks) hk
      have hsep : ApTS (s1.heap.objs.size + 4) (s1.heap.objs.size + 2) (s1.heap.objs.size + 3) s1.heap.objs.size (s1.heap.objs.size + 1) a :=
        ⟨zip_sep2 (N := s1.heap.objs.size) (fp1 := [a]) (fp2 := []) (fun b hb => by simp at hb; rw [hb]; exact hal) (fun b hb => by simp at hb), Nat.ne_of_lt hal⟩
      refine ⟨s1.heap.objs.size + 4, [s1.heap.objs.size + 4, s1.heap.objs.size + 2, s1.heap.objs.size + 3, s1.heap.objs.size, s1.heap.objs.size + 1], _, _, H1, rfl, I2, turn_zipTS (t := t) hsep, ⟨hz, hTI, ⟨_, _, hTO⟩, ⟨_, h1, rfl, rfl⟩, ⟨_, h2, rfl, rfl⟩⟩, fun c hcm => ?_, q⟩
      have e' : c = s1.heap.objs.size + 4 ∨ c = s1.heap.objs.size + 2 ∨ c = s1.heap.objs.size + 3 ∨ c = s1.heap.objs.size ∨ c = s1.heap.objs.size + 1 := by simpa using hcm
      have hle : s1.heap.objs.size ≤ c := by
        rcases e' with z | z | z | z | z
        · rw [z]; exact Nat.le_add_right _ _
        · rw [z]; exact Nat.le_add_right _ _
        · rw [z]; exact Nat.le_add_right _ _
        · rw [z]; exact Nat.le_refl _
        · rw [z]; exact Nat.le_add_right _ _
      exact I1.fpOk hle (I1.hok.fresh hle)

/-! ### enumerate(a tuple) -/
def IteT (K : PySem.W.Frag) (a : Addr) : It :=
  ⟨fun i H => ∃ (xs : List V) (x : V), SqT K H a xs ∧ xs[i]? = some x, fun i H v H' => ∃ T x, v = .ref T ∧ H T = none ∧ H' = upd H T (.tup [.int (i : Nat), x]) ∧ ∀ xs, SqT K H a xs → xs[i]? = some x, fun i H => ∃ xs : List V, SqT K H a xs ∧ xs.length = i⟩
set_option maxHeartbeats 1000000 in
theorem meets_enumerate_newT (l : Addr) (items : Array Value) (n : Nat) (dct : Option Addr) (sl : Array (Option Value)) :
    Meets (Builtin.«enumerate.__new__» ⟨[.type "enumerate", .ref l], []⟩) (fun _ R s => s.heap.IsTuple l items ∧
      R (.ok (.ret (.ref (s.heap.push { cls := .type "tuple_iterator", data := .fields #[.ref l, .int 0 0] }).objs.size)))
        { s with heap := (s.heap.push { cls := .type "tuple_iterator", data := .fields #[.ref l, .int 0 0] }).push { cls := .type "enumerate", data := .fields #[.none, .bool false, .ref s.heap.objs.size, rawInt 0, .none, .none] } }) :=
  .of_wp fun prog w A R s h => by
    obtain ⟨hp, g, d, tk, os⟩ := s; obtain ⟨h1, h⟩ := h
    have hsub := sub_enumerate
    have q1 : ∀ {A' : Around} {E : Value → Shared → Prop} {Q : Value → Shared → Prop}, Q (.ref hp.objs.size) ⟨hp.push { cls := .type "tuple_iterator", data := .fields #[.ref l, .int 0 0] }, g, d, tk, os⟩ → wpAny (model prog w) A' (pyIter (.ref l)) Q E ⟨hp, g, d, tk, os⟩ :=
      fun q => wpAny_pyIter_tuple h1 q
    wp_walk
    refine wpAny_stack_any fun st => wpAny_pure ?_
    split
    · rename_i c _ _ _ _ _
      cases (c == Value.type "enumerate")
      · wp_walk using q1
        exact ⟨_, rfl, h⟩
      · wp_walk using q1
        exact ⟨_, rfl, h⟩
    · wp_walk using q1
      exact ⟨_, rfl, h⟩
theorem call_enumerate_tup {prog : Program} {w : World} {A : Around} {E : Value → Shared → Prop} {s : Shared} {l : Addr} {items : Array Value} {Q : Value → Shared → Prop} (hL : s.heap.IsTuple l items)
    (h : ∀ h', IsEnum h' (s.heap.objs.size + 1) s.heap.objs.size 0 .none → h'.IsTupleIter s.heap.objs.size l 0 → h'.objs.size = s.heap.objs.size + 2 →
      (∀ b o, s.heap.get? b = some o → h'.get? b = some o) → Q (.ref (s.heap.objs.size + 1)) { s with heap := h' }) :
    wpAny (model prog w) A (call (.type "enumerate") [.ref l]) Q E s := by
  refine callType_new F.called_enumerate (by decide) (F.typeCall_enumerate_1 _) (F.newCall_enumerate_1 _) (fun obj => F.args_object_init_2 obj _) F.entry_enumerate_new
    (meets_enumerate_newT l items 0 none #[]) ⟨hL, ?_⟩
  have hz : (s.heap.push { cls := .type "tuple_iterator", data := .fields #[.ref l, .int 0 0] }).objs.size = s.heap.objs.size + 1 := Heap.size_push ..
  show _ ∧ _
  rw [hz]
  have he : IsEnum ((s.heap.push { cls := .type "tuple_iterator", data := .fields #[.ref l, .int 0 0] }).push
      { cls := .type "enumerate", data := .fields #[.none, .bool false, .ref s.heap.objs.size, rawInt 0, .none, .none] }) (s.heap.objs.size + 1) s.heap.objs.size 0 .none := by
    have := Heap.get?_push_size (s.heap.push { cls := .type "tuple_iterator", data := .fields #[.ref l, .int 0 0] })
      (o := { cls := .type "enumerate", data := .fields #[.none, .bool false, .ref s.heap.objs.size, rawInt 0, .none, .none] }) rfl
    rw [hz] at this; exact this
  refine ⟨⟨_, he, rfl⟩, h _ he ⟨_, Heap.get?_push_of_some _ (Heap.get?_push_size _ rfl), rfl, rfl⟩ (by rw [Heap.size_push, hz]) fun b o x => Heap.get?_push_of_some _ (Heap.get?_push_of_some _ x)⟩
theorem turn_enumT {P : Program} {w : World} {K : PySem.W.Frag} {elts : List Expr} {kk : Nat} {tpos : Pos} (a e it : Addr) (hae : a ≠ e) (hai : a ≠ it) :
    Turn P w K (.Tuple elts kk tpos) (IteT K a) [e, it] e (fun i h => (∃ old, IsEnum h e it ((i : Nat) : Int) old) ∧ h.IsTupleIter it a i ∧ e ≠ it) where
  mem := by simp
  obj := fun i h st b hb => by
    obtain ⟨⟨old, he⟩, ⟨o, ho, hc, hd⟩, _⟩ := st
    have e' : b = e ∨ b = it := by simpa using hb
    rcases e' with z | z
    · rw [z]; exact ⟨_, he, fun v q => nomatch q⟩
    · rw [z]; exact ⟨o, ho, fun v q => by rw [hd] at q; cases q⟩
  keep := fun i h h' st k => let ⟨⟨old, he⟩, hi, hne⟩ := st; ⟨⟨old, k e (by simp) _ he⟩, hi.at fun o q => k it (by simp) o q, hne⟩
  item := by
    intro X hP hw hK hc i pins s σ H E I hf st hg
    subst hP hw hK
    obtain ⟨⟨old, he⟩, hit, hne⟩ := st
    obtain ⟨xs, x, hq, hx⟩ := hg
    obtain ⟨its, rv, p, hz⟩ := I.tuple hq
    obtain ⟨u, hu, ru⟩ := rv.get hx
    have hel : e < s.heap.objs.size := Heap.lt_size he
    have hil : it < s.heap.objs.size := by obtain ⟨_, q, _⟩ := hit; exact Heap.lt_size q
    have hul : i < its.toArray.size := by
      have := (List.getElem?_eq_some_iff.mp hu).1
      simpa using this
    have hh := I.ok.hd hc
    refine wpAny_pyNext_enum_itemD (Draws.tuple (A := X.A.in1) hh it a hai its.toArray) he ⟨hit, p⟩ hul hne (by simp [hne, hae.symm]) fun x1 h' tk p1 ho st' hT hsz hk => ?_
    have e1 : x1 = u := by
      have q2 : its[i]? = some x1 := by simpa using p1
      rw [hu] at q2
      exact (Option.some.inj q2).symm
    subst e1
    refine ⟨_, rfl, wpAny_letOwnedTupleGo_enum (s := { s with heap := h', toks := tk + 1 }) ho fun h'' he' sb => ?_⟩
    have hT2 : h''.get? s.heap.objs.size = some { cls := .type "tuple", data := .seq #[.int i tk, x1] } := (sb.2 _ (Nat.ne_of_gt hel)).trans hT
    have new : ObjOk X.prog X.w (upd H s.heap.objs.size (.tup [.int (i : Nat), x])) h'' s.heap.objs.size (.tup [.int (i : Nat), x]) :=
      ⟨by show 2 ≤ sizeLine; decide, [.int i tk, x1], .cons ⟨_, rfl⟩ (.cons ru .nil), ⟨_, hT2, rfl, _, rfl⟩⟩
    have I1 : Inv X pins σ (upd H s.heap.objs.size (.tup [.int (i : Nat), x])) { s with heap := h'', toks := tk + 1 } :=
      I.turnedNew (ch := [e, it]) (fun b ob hb q => (sb.2 b (fun z => hb (by simp [z]))).trans (hk b ob (fun z => hb (by simp [z])) (fun z => hb (by simp [z])) q)) hf (Nat.le_refl _) new
    refine ⟨.ref s.heap.objs.size, _, I1, rfl, ⟨_, x, rfl, I.hok.fresh (Nat.le_refl _), rfl, fun ys hy => by rw [I.tuple_inj hy hq]; exact hx⟩, ⟨⟨x1, ?_⟩, st'.1.at fun o q => (sb.2 it (Ne.symm hne)).trans q, hne⟩, fun b hb => ?_⟩
    · have e1 : ((i + 1 : Nat) : Int) = (i : Int) + 1 := by omega
      rw [e1]; exact he'
    · have hb' : b < s.heap.objs.size := by
        have e' : b = e ∨ b = it := by simpa using hb
        rcases e' with z | z
        · rw [z]; exact hel
        · rw [z]; exact hil
      rw [upd_ne (Nat.ne_of_lt hb')]
      exact (hf b hb).1
  done := by
    intro X hP hw hK hc i pins s σ H E I hf st hg
    subst hP hw hK
    obtain ⟨⟨old, he⟩, hit, hne⟩ := st
    obtain ⟨xs, hq, hx⟩ := hg
    obtain ⟨its, rv, p, hz⟩ := I.tuple hq
    obtain ⟨f0, f1, f2, f3, f4, f5⟩ := hf it (by simp)
    have hl : its.toArray.size = i := by
      rw [List.size_toArray, ← hx]
      exact rv.length.symm
    have hh := I.ok.hd hc
    subst hl
    exact wpAny_pyNext_enum_endD (Draws.tuple (A := X.A.in1) hh it a hai its.toArray) he ⟨hit, p⟩ fun h' eb => ⟨rfl, I.turned (t' := s.toks) (fun b o hb q => eb b o hb q) f0 f1 f3 f4 f5⟩
  self := fun A i s Q E st h => let ⟨⟨_, he⟩, _⟩ := st; wpAny_pyIter_enum he h
def iEnumX (K : PySem.W.Frag) (ta : TA) : TI := fun σ H R => ta σ H fun vs H1 => ∃ a xs, vs = [.ref a] ∧ ((SqL K H1 a xs ∧ R (Ite K a) H1) ∨ (SqT K H1 a xs ∧ R (IteT K a) H1))
theorem pi_enumX {X : Cx} {e : Expr} {ta : TA} {p pos tpos : Pos} {elts : List Expr} {kk : Nat} (hg : Gl X "enumerate") (hm : X.mg "enumerate" = none) (ha : PA X [e] ta) (hs : starEach [e] X.env = [(false, eval e X.env)] := by rfl) :
    PI X (.Tuple elts kk tpos) (.Call (.Name "enumerate" p) [e] [] pos) (iEnumX X.K ta) := by
  refine ⟨fun pins s σ H R I h => ?_⟩
  refine Call_ (ld_blt I hg hm boot_enumerate (PyProof.Rows.callWith_type1 (thn (ha.run pos pins s σ H _ I h) fun us s1 ⟨vs, H1, I1, r1, q1⟩ => ?_) hs rfl))
  obtain ⟨a, xs, ex, q1⟩ := q1
  subst ex
  cases r1 with
  | cons r rr =>
    cases rr
    cases r
    have fr : ∀ b, b ∈ [s1.heap.objs.size + 1, s1.heap.objs.size] → FpOk X pins H1 b := fun b hb => by
      have e' : b = s1.heap.objs.size + 1 ∨ b = s1.heap.objs.size := by simpa using hb
      have hle : s1.heap.objs.size ≤ b := by
        rcases e' with z | z
        · rw [z]; exact Nat.le_add_right _ _
        · rw [z]; exact Nat.le_refl _
      exact I1.fpOk hle (I1.hok.fresh hle)
    rcases q1 with ⟨hq, q⟩ | ⟨hq, q⟩
    · obtain ⟨its, rv, p', hz⟩ := I1.list hq
      refine call_enumerate_list p'.isList fun h' he hit hsz hk => wpAny_pyIter_enum he ?_
      have I2 : Inv X pins σ H1 { s1 with heap := h' } := I1.kept (t' := s1.toks) hk
      exact ⟨s1.heap.objs.size + 1, [s1.heap.objs.size + 1, s1.heap.objs.size], _, _, H1, rfl, I2, turn_enum a (s1.heap.objs.size + 1) s1.heap.objs.size, ⟨⟨.none, he⟩, hit, Nat.succ_ne_self _⟩, fr, q⟩
    · obtain ⟨its, rv, p', hz⟩ := I1.tuple hq
      have hal : a < s1.heap.objs.size := by obtain ⟨o, ho, _⟩ := id p'; exact Heap.lt_size ho
      refine call_enumerate_tup (items := its.toArray) p' fun h' he hit hsz hk => wpAny_pyIter_enum he ?_
      have I2 : Inv X pins σ H1 { s1 with heap := h' } := I1.kept (t' := s1.toks) hk
      exact ⟨s1.heap.objs.size + 1, [s1.heap.objs.size + 1, s1.heap.objs.size], _, _, H1, rfl, I2, turn_enumT a (s1.heap.objs.size + 1) s1.heap.objs.size (Nat.ne_of_lt (Nat.lt_succ_of_lt hal)) (Nat.ne_of_lt hal), ⟨⟨.none, he⟩, hit, Nat.succ_ne_self _⟩, fr, q⟩
theorem ie_zipTS {K : PySem.W.Frag} {ρ : Rho} {ta : TA} {ds : List PyData} {x : Str} (h : EA ta ρ [.tuple ds, .str x]) : IE (iZipTS K ta) ρ (List.zipWith (fun d c => .tuple [d, .str ⟨#[c]⟩]) ds x.cps.toList) := fun σ B H ex ev R q => by
  refine h σ B H ex ev _ fun vs B1 H1 g1 d1 => ?_
  cases d1 with
  | cons a1 r =>
  cases r with
  | cons a2 r =>
    cases r
    cases a2
    cases a1 with
    | @tup a xs _ ha hs =>
      have hl := hs.length
      refine ⟨a, xs, x, rfl, SqT.of (g1.t _ _ ha), q _ B1 H1 g1 fun B2 H2 e1 e2 i => ⟨fun hi => ?_, fun d hd => ?_⟩⟩
      · have e0 : x.cps.toList.length = x.cps.size := Array.length_toList
        rw [List.length_zipWith] at hi
        exact ⟨xs, SqT.of (e2 _ _ (e1 _ _ ha)), by omega, by omega, by omega⟩
      · rw [List.getElem?_zipWith] at hd
        cases hd1 : ds[i]? with
        | none => rw [hd1] at hd; simp at hd
        | some d0 =>
          cases hc : x.cps.toList[i]? with
          | none => rw [hd1, hc] at hd; simp at hd
          | some c =>
            rw [hd1, hc] at hd
            simp at hd
            subst hd
            obtain ⟨v, hv, dv⟩ := hs.get hd1
            rw [Array.getElem?_toList] at hc
            have hlt : i < x.cps.size := by
              by_cases hl : i < x.cps.size
              · exact hl
              · rw [Array.getElem?_eq_none (by omega)] at hc
                cases hc
            refine ⟨⟨⟨xs, v, SqT.of (e2 _ _ (e1 _ _ ha)), hv⟩, hlt⟩, fun y H' hy => ?_⟩
            obtain ⟨T, y', c', rfl, hT, hc', rfl, hy'⟩ := hy
            have e3 := hy' xs (SqT.of (e2 _ _ (e1 _ _ ha)))
            rw [hv] at e3
            cases e3
            rw [hc] at hc'
            cases hc'
            have g := Gr.new (o := .tup [v, .str ⟨#[c]⟩]) e2 hT
            exact ⟨_, g, .tup upd_same (.cons (dv.mono (e1.trans g.b)) (.cons (.str _) .nil))⟩
end Pd

/-! PdM -/
set_option Elab.async false
set_option linter.all false
set_option maxRecDepth 100000
set_option maxHeartbeats 4000000
/-! min(a, b), max(a, b) of two tuples of ints -/
namespace PySem
open PySem.W
section
variable {prog : Program} {w : World} {A : Around} {E : Value → Shared → Prop} {s : Shared}
theorem pd_min_twoH {a b : Value} {Q : Value → Shared → Prop}
    (h : wpAny (model prog w) A.in1 (pyIter (.ref s.heap.objs.size)) (fun it s₂ => ∃ I fp wr G n P St H bt, it = .ref I ∧ WalksS prog w A.in1 I fp wr G n P St ∧ St 0 s₂ ∧ (∀ b ∈ fp, b < s₂.heap.objs.size) ∧ 0 < n ∧
      (∀ b o, H.get? b = some o → b ∉ wr) ∧ (∀ b o, H.get? b = some o → s₂.heap.get? b = some o) ∧ CmpIn prog w A.in1 .Lt H P bt ∧ ∀ v s', P (argBest bt (n - 1)) v → Moved wr G s₂ s' → Q v s') E
      { s with heap := s.heap.push { cls := .type "tuple", data := .seq #[a, b] } }) :
    wpAny (model prog w) A (call (.builtin "min") [a, b]) Q E s := by
  have hname : (toString "min" ++ toString ".loop" : String) = "min.loop" := by decide
  refine call_function_tree F.kind_min F.plain_min F.entry_min (F.args_min2 _ _) ?_
  show wpAny _ A.in1 (Builtin.Builtins.bindParams "min" ["key", "default"] 0 ⟨[], []⟩ >>= _) _ _ s
  refine wpAny_bind (wpAny_of_eq (show Builtin.Builtins.bindParams "min" ["key", "default"] 0 ⟨[], []⟩ = pure [none, none] from rfl) ?_)
  show wpAny _ A.in1 (newTuple [a, b] >>= _) _ _ s
  refine wpAny_bind (wpAny_newObj_type ?_)
  refine wpAny_bind (wpAny_mono h (fun it s₂ h₂ => ?_) fun _ _ e => e)
  obtain ⟨I, fp, wr, G, n, P, St, H, bt, rfl, W, hst, hfp, hn, hw, hkeep, hcmp, hQ⟩ := h₂
  refine wpAny_bind (wpAny_newObj_type ?_)
  have hSf : s₂.heap.objs.size ∉ fp := fun hm => Nat.lt_irrefl _ (hfp _ hm)
  rw [hname]
  refine wpAny_pure ⟨plainId_quiet F.plain_min_loop _, codeAny_min_loop_firstH W H hw bt hcmp s₂.heap.objs.size hSf (fresh_in hkeep) _ hn (fun b o e => Heap.get?_push_of_some _ (hkeep b o e)) (W.frame 0 s₂ _ s₂.toks hst (Nat.le_refl _) fun b _ o e => Heap.get?_push_of_some _ e) (Heap.get?_push_size _ rfl) fun v s' hP hm => ?_⟩
  exact hQ v s' hP (Moved.drop_new (tk := s₂.toks) hm (Nat.le_refl _))
theorem pd_max_twoH {a b : Value} {Q : Value → Shared → Prop}
    (h : wpAny (model prog w) A.in1 (pyIter (.ref s.heap.objs.size)) (fun it s₂ => ∃ I fp wr G n P St H bt, it = .ref I ∧ WalksS prog w A.in1 I fp wr G n P St ∧ St 0 s₂ ∧ (∀ b ∈ fp, b < s₂.heap.objs.size) ∧ 0 < n ∧
      (∀ b o, H.get? b = some o → b ∉ wr) ∧ (∀ b o, H.get? b = some o → s₂.heap.get? b = some o) ∧ CmpIn prog w A.in1 .Gt H P bt ∧ ∀ v s', P (argBest bt (n - 1)) v → Moved wr G s₂ s' → Q v s') E
      { s with heap := s.heap.push { cls := .type "tuple", data := .seq #[a, b] } }) :
    wpAny (model prog w) A (call (.builtin "max") [a, b]) Q E s := by
  have hname : (toString "max" ++ toString ".loop" : String) = "max.loop" := by decide
  refine call_function_tree F.kind_max F.plain_max F.entry_max (F.args_max2 _ _) ?_
  show wpAny _ A.in1 (Builtin.Builtins.bindParams "max" ["key", "default"] 0 ⟨[], []⟩ >>= _) _ _ s
  refine wpAny_bind (wpAny_of_eq (show Builtin.Builtins.bindParams "max" ["key", "default"] 0 ⟨[], []⟩ = pure [none, none] from rfl) ?_)
  show wpAny _ A.in1 (newTuple [a, b] >>= _) _ _ s
  refine wpAny_bind (wpAny_newObj_type ?_)
  refine wpAny_bind (wpAny_mono h (fun it s₂ h₂ => ?_) fun _ _ e => e)
  obtain ⟨I, fp, wr, G, n, P, St, H, bt, rfl, W, hst, hfp, hn, hw, hkeep, hcmp, hQ⟩ := h₂
  refine wpAny_bind (wpAny_newObj_type ?_)
  have hSf : s₂.heap.objs.size ∉ fp := fun hm => Nat.lt_irrefl _ (hfp _ hm)
  rw [hname]
  refine wpAny_pure ⟨plainId_quiet F.plain_max_loop _, codeAny_max_loop_firstH W H hw bt hcmp s₂.heap.objs.size hSf (fresh_in hkeep) _ hn (fun b o e => Heap.get?_push_of_some _ (hkeep b o e)) (W.frame 0 s₂ _ s₂.toks hst (Nat.le_refl _) fun b _ o e => Heap.get?_push_of_some _ e) (Heap.get?_push_size _ rfl) fun v s' hP hm => ?_⟩
  exact hQ v s' hP (Moved.drop_new (tk := s₂.toks) hm (Nat.le_refl _))
/-- the new tuple of the two goes, what stood stands -/
theorem pd_min_data {a b : Value} {x y : PyData} {as bs : List Addr} {Q : Value → Shared → Prop} (hh : A.handled = none) (ra : Reads s.heap a x as) (rb : Reads s.heap b y bs) (ha : AlikeAll [x, y]) (hu : A.units + 1 + PyData.depthAll [x, y] < cLine)
    (h : ∀ h' tk, (∀ b o, s.heap.get? b = some o → h'.get? b = some o) → Q (if dataLt y x = true then b else a) { s with heap := h', toks := tk }) : wpAny (model prog w) A (call (.builtin "min") [a, b]) Q E s := by
  have hT : (s.heap.push { cls := .type "tuple", data := .seq #[a, b] }).IsTuple s.heap.objs.size #[a, b] := ⟨_, Heap.get?_push_size _ rfl, rfl, 0, rfl⟩
  have k : ∀ b' o, s.heap.get? b' = some o → (s.heap.push { cls := .type "tuple", data := .seq #[a, b] }).get? b' = some o := fun b' o e => Heap.get?_push_of_some _ e
  have hr : ReadsAll (s.heap.push { cls := .type "tuple", data := .seq #[a, b] }) (#[a, b] : Array Value).toList [x, y] (as ++ (bs ++ [])) := .cons (reads_keeps k ra) (.cons (reads_keeps k rb) .nil)
  refine pd_min_twoH (iter_tupleW (A := A.in1) hh hT fun s₂ e W st hfp hw hk => ?_)
  refine ⟨_, _, _, _, _, _, _, _, _, rfl, W, st, hfp, by simp, hw, hk, cmpIn_lt (A := A.in1) (s := { s with heap := s.heap.push { cls := .type "tuple", data := .seq #[a, b] } }) hr ha (by show A.units + 1 + _ < _; exact hu), fun v s' hP m => ?_⟩
  obtain ⟨h', tk, e', hk'⟩ := moved_old e rfl m
  have hv : (if dataLt y x = true then b else a) = v := by
    have q : (#[a, b] : Array Value)[if dataLt y x = true then 1 else 0]? = some v := hP
    by_cases hd : dataLt y x = true
    · rw [if_pos hd] at q ⊢
      simpa using q
    · rw [if_neg hd] at q ⊢
      simpa using q
  subst e'
  rw [← hv]
  exact h h' tk fun c o ec => hk' c o (k c o ec)
theorem pd_max_data {a b : Value} {x y : PyData} {as bs : List Addr} {Q : Value → Shared → Prop} (hh : A.handled = none) (ra : Reads s.heap a x as) (rb : Reads s.heap b y bs) (ha : AlikeAll [x, y]) (hu : A.units + 1 + PyData.depthAll [x, y] < cLine)
    (h : ∀ h' tk, (∀ b o, s.heap.get? b = some o → h'.get? b = some o) → Q (if dataLt x y = true then b else a) { s with heap := h', toks := tk }) : wpAny (model prog w) A (call (.builtin "max") [a, b]) Q E s := by
  have hT : (s.heap.push { cls := .type "tuple", data := .seq #[a, b] }).IsTuple s.heap.objs.size #[a, b] := ⟨_, Heap.get?_push_size _ rfl, rfl, 0, rfl⟩
  have k : ∀ b' o, s.heap.get? b' = some o → (s.heap.push { cls := .type "tuple", data := .seq #[a, b] }).get? b' = some o := fun b' o e => Heap.get?_push_of_some _ e
  have hr : ReadsAll (s.heap.push { cls := .type "tuple", data := .seq #[a, b] }) (#[a, b] : Array Value).toList [x, y] (as ++ (bs ++ [])) := .cons (reads_keeps k ra) (.cons (reads_keeps k rb) .nil)
  refine pd_max_twoH (iter_tupleW (A := A.in1) hh hT fun s₂ e W st hfp hw hk => ?_)
  refine ⟨_, _, _, _, _, _, _, _, _, rfl, W, st, hfp, by simp, hw, hk, cmpIn_gt (A := A.in1) (s := { s with heap := s.heap.push { cls := .type "tuple", data := .seq #[a, b] } }) hr ha (by show A.units + 1 + _ < _; exact hu), fun v s' hP m => ?_⟩
  obtain ⟨h', tk, e', hk'⟩ := moved_old e rfl m
  have hv : (if dataLt x y = true then b else a) = v := by
    have q : (#[a, b] : Array Value)[if dataLt x y = true then 1 else 0]? = some v := hP
    by_cases hd : dataLt x y = true
    · rw [if_pos hd] at q ⊢
      simpa using q
    · rw [if_neg hd] at q ⊢
      simpa using q
  subst e'
  rw [← hv]
  exact h h' tk fun c o ec => hk' c o (k c o ec)
end
end PySem
namespace Pd
open PySem PySem.Spec PyProof.Rows L2 PySem.W
abbrev pr (c : Int × Int) : PyData := .tuple [.int c.1, .int c.2]
def ltP (x y : Int × Int) : Bool := decide (x.1 < y.1) || (decide (x.1 = y.1) && decide (x.2 < y.2))
theorem pr_lt (x y : Int × Int) : dataLt (pr x) (pr y) = ltP x y := by
  obtain ⟨a, b⟩ := x
  obtain ⟨c, d⟩ := y
  by_cases h1 : a < c
  · have h2 : ¬ c < a := by omega
    simp [dataLt, keyToks, keyToksAll, PyProof.Rows.lexLt, itemOrd, itemLt, ltP, h1, h2]
  · by_cases h2 : c < a
    · have h3 : ¬ a = c := by omega
      simp [dataLt, keyToks, keyToksAll, PyProof.Rows.lexLt, itemOrd, itemLt, ltP, h1, h2, h3]
    · have h3 : a = c := by omega
      subst h3
      by_cases h4 : b < d
      · simp [dataLt, keyToks, keyToksAll, PyProof.Rows.lexLt, itemOrd, itemLt, ltP, h4]
      · by_cases h5 : d < b
        · simp [dataLt, keyToks, keyToksAll, PyProof.Rows.lexLt, itemOrd, itemLt, ltP, h4, h5]
        · simp [dataLt, keyToks, keyToksAll, PyProof.Rows.lexLt, itemOrd, itemLt, ltP, h4, h5]
theorem pr_alike (x y : Int × Int) : AlikeAll [pr x, pr y] := by
  refine ⟨fun a ha b hb => ?_, fun a ha z => ?_⟩
  · simp at ha hb
    rcases ha with rfl | rfl <;> rcases hb with rfl | rfl <;> simp [alike, alikeAll]
  · simp at ha
    rcases ha with rfl | rfl <;> simp at z
theorem pr_depth (x y : Int × Int) : PyData.depthAll [pr x, pr y] ≤ 1 := by simp [PyData.depthAll, PyData.depth]
def rMinT (K : PySem.W.Frag) : List V → Hp → VK → Prop := fun xs H Q => ∃ (u v : V) (x y : Int × Int), xs = [u, v] ∧ Dp K H u (pr x) ∧ Dp K H v (pr y) ∧ Q (if ltP y x = true then v else u) H
def rMaxT (K : PySem.W.Frag) : List V → Hp → VK → Prop := fun xs H Q => ∃ (u v : V) (x y : Int × Int), xs = [u, v] ∧ Dp K H u (pr x) ∧ Dp K H v (pr y) ∧ Q (if ltP x y = true then v else u) H
theorem call_minT {X : Cx} {k : Nat} (hc : X.calm = true) (hr : Room k X.A) : CallR X (.builtin "min") (rMinT X.K) := by
  intro pins s σ H xs us Q I r h
  obtain ⟨u, v, x, y, rfl, h1, h2, q⟩ := h
  obtain ⟨a, b, rfl, r1, r2⟩ := vals2 r
  obtain ⟨as, ra⟩ := Dp.reads I (pr x) u a h1 r1
  obtain ⟨bs, rb⟩ := Dp.reads I (pr y) v b h2 r2
  have hu := hu65 hr
  have hd := pr_depth x y
  refine pd_min_data (I.ok.hd hc) ra rb (pr_alike x y) (by omega) fun h' tk k' => ⟨_, H, I.kept (t' := tk) k', ?_, q⟩
  rw [pr_lt]
  by_cases hl : ltP y x = true
  · rw [if_pos hl, if_pos hl]
    exact r2
  · rw [if_neg hl, if_neg hl]
    exact r1
theorem call_maxT {X : Cx} {k : Nat} (hc : X.calm = true) (hr : Room k X.A) : CallR X (.builtin "max") (rMaxT X.K) := by
  intro pins s σ H xs us Q I r h
  obtain ⟨u, v, x, y, rfl, h1, h2, q⟩ := h
  obtain ⟨a, b, rfl, r1, r2⟩ := vals2 r
  obtain ⟨as, ra⟩ := Dp.reads I (pr x) u a h1 r1
  obtain ⟨bs, rb⟩ := Dp.reads I (pr y) v b h2 r2
  have hu := hu65 hr
  have hd := pr_depth x y
  refine pd_max_data (I.ok.hd hc) ra rb (pr_alike x y) (by omega) fun h' tk k' => ⟨_, H, I.kept (t' := tk) k', ?_, q⟩
  rw [pr_lt]
  by_cases hl : ltP x y = true
  · rw [if_pos hl, if_pos hl]
    exact r2
  · rw [if_neg hl, if_neg hl]
    exact r1
theorem rc_minT {K : PySem.W.Frag} {x y : Int × Int} : RC (rMinT K) [pr x, pr y] (pr (if ltP y x = true then y else x)) := fun B H vs ex dv Q q => by
  cases dv with
  | cons d1 r =>
    cases r with
    | cons d2 r =>
      cases r
      refine ⟨_, _, x, y, rfl, (d1.mono ex).dp, (d2.mono ex).dp, q _ B H (Gr.refl ex) ?_⟩
      by_cases hl : ltP y x = true
      · rw [if_pos hl, if_pos hl]
        exact d2
      · rw [if_neg hl, if_neg hl]
        exact d1
theorem rc_maxT {K : PySem.W.Frag} {x y : Int × Int} : RC (rMaxT K) [pr x, pr y] (pr (if ltP x y = true then y else x)) := fun B H vs ex dv Q q => by
  cases dv with
  | cons d1 r =>
    cases r with
    | cons d2 r =>
      cases r
      refine ⟨_, _, x, y, rfl, (d1.mono ex).dp, (d2.mono ex).dp, q _ B H (Gr.refl ex) ?_⟩
      by_cases hl : ltP x y = true
      · rw [if_pos hl, if_pos hl]
        exact d2
      · rw [if_neg hl, if_neg hl]
        exact d1
end Pd

/-! Rdg -/
set_option Elab.async false
set_option linter.all false
set_option maxRecDepth 100000
set_option maxHeartbeats 4000000
namespace Pd
open PySem PySem.Spec PyProof.Rows L2
def rd_is_number (K : PySem.W.Frag) : TS := (tRet (tAndV (tCB (rIsi K) (tCons (tVar 0) (tCons (tC (.ty "int")) tNil))) (tNotV (tCB (rIsi K) (tCons (tVar 0) (tCons (tC (.ty "bool")) tNil))))))
def rd_is_side (K : PySem.W.Frag) (sp_is_number : Sp) : TS := (tRet (tAndV (tCallD sp_is_number (tCons (tVar 0) tNil)) (tChain rLeI rLeI (tC (.int 1)) (tVar 0) (tC (.int 5)))))
def rd_is_cell (K : PySem.W.Frag) (sp_is_number : Sp) : TS := (tSeq (tIfS (tOr (tNot (tB (tCB (rIsi K) (tCons (tVar 1) (tCons (tC (.ty "tuple")) tNil))))) (tTest (tOp (rNeD K) (tCB (rLenX K) (tCons (tVar 1) tNil)) (tC (.int 2))))) (tRet (tC (.bl false))) tNext) (tSeq (tAsg (tVar 1) (gTup K 2 (gCons (gName 2) (gCons (gName 3) gNil)))) (tSeq (tIfS (tOr (tNot (tB (tCallD sp_is_number (tCons (tVar 2) tNil)))) (tNot (tB (tCallD sp_is_number (tCons (tVar 3) tNil))))) (tRet (tC (.bl false))) tNext) (tRet (tAndV (tChain rLeI rLtI (tC (.int 0)) (tVar 2) (tOp (rIx K) (tVar 0) (tC (.int 0)))) (tChain rLeI rLtI (tC (.int 0)) (tVar 3) (tOp (rIx K) (tVar 0) (tC (.int 1)))))))))
def rd_is_edge (K : PySem.W.Frag) (sp_is_cell : Sp) : TS := (tSeq (tIfS (tOr (tNot (tB (tCB (rIsi K) (tCons (tVar 1) (tCons (tC (.ty "tuple")) tNil))))) (tTest (tOp (rNeD K) (tCB (rLenX K) (tCons (tVar 1) tNil)) (tC (.int 3))))) (tRet (tC (.bl false))) tNext) (tSeq (tAsg (tVar 1) (gTup K 3 (gCons (gName 2) (gCons (gName 3) (gCons (gName 4) gNil))))) (tSeq (tIfS (tNot (tB (tCallD sp_is_cell (tCons (tVar 0) (tCons (tTup (tCons (tVar 2) (tCons (tVar 3) tNil))) tNil))))) (tRet (tC (.bl false))) tNext) (tSeq (tIfS (tTest (tOp (rEqD K) (tVar 4) (tC (.str "-")))) (tRet (tOp rGtI (tVar 2) (tC (.int 0)))) tNext) (tRet (tAndV (tOp (rEqD K) (tVar 4) (tC (.str "|"))) (tOp rGtI (tVar 3) (tC (.int 0)))))))))
def rd_edge_from (K : PySem.W.Frag) : TS := (tSeq (tIfS (tTest (tOp (rEqD K) (tVar 2) (tC (.str "n")))) (tRet (tTup (tCons (tOp rSubI (tVar 0) (tC (.int 1))) (tCons (tVar 1) (tCons (tC (.str "|")) tNil))))) tNext) (tSeq (tIfS (tTest (tOp (rEqD K) (tVar 2) (tC (.str "e")))) (tRet (tTup (tCons (tVar 0) (tCons (tVar 1) (tCons (tC (.str "-")) tNil))))) tNext) (tSeq (tIfS (tTest (tOp (rEqD K) (tVar 2) (tC (.str "s")))) (tRet (tTup (tCons (tVar 0) (tCons (tVar 1) (tCons (tC (.str "|")) tNil))))) tNext) (tRet (tTup (tCons (tVar 0) (tCons (tOp rSubI (tVar 1) (tC (.int 1))) (tCons (tC (.str "-")) tNil))))))))
def rd_edge_crossed (K : PySem.W.Frag) : TS := (tSeq (tAsg (tVar 0) (gTup K 2 (gCons (gName 2) (gCons (gName 3) gNil)))) (tSeq (tIfS (tTest (tOp (rEqD K) (tVar 1) (tC (.str "n")))) (tRet (tTup (tCons (tVar 2) (tCons (tVar 3) (tCons (tC (.str "-")) tNil))))) tNext) (tSeq (tIfS (tTest (tOp (rEqD K) (tVar 1) (tC (.str "e")))) (tRet (tTup (tCons (tVar 2) (tCons (tOp (rAddX K) (tVar 3) (tC (.int 1))) (tCons (tC (.str "|")) tNil))))) tNext) (tSeq (tIfS (tTest (tOp (rEqD K) (tVar 1) (tC (.str "s")))) (tRet (tTup (tCons (tOp (rAddX K) (tVar 2) (tC (.int 1))) (tCons (tVar 3) (tCons (tC (.str "-")) tNil))))) tNext) (tRet (tTup (tCons (tVar 2) (tCons (tVar 3) (tCons (tC (.str "|")) tNil)))))))))
def rd_next_cell (K : PySem.W.Frag) : TS := (tSeq (tAsg (tVar 0) (gTup K 2 (gCons (gName 2) (gCons (gName 3) gNil)))) (tSeq (tIfS (tTest (tOp (rEqD K) (tVar 1) (tC (.str "n")))) (tRet (tTup (tCons (tOp rSubI (tVar 2) (tC (.int 1))) (tCons (tVar 3) tNil)))) tNext) (tSeq (tIfS (tTest (tOp (rEqD K) (tVar 1) (tC (.str "e")))) (tRet (tTup (tCons (tVar 2) (tCons (tOp (rAddX K) (tVar 3) (tC (.int 1))) tNil)))) tNext) (tSeq (tIfS (tTest (tOp (rEqD K) (tVar 1) (tC (.str "s")))) (tRet (tTup (tCons (tOp (rAddX K) (tVar 2) (tC (.int 1))) (tCons (tVar 3) tNil)))) tNext) (tRet (tTup (tCons (tVar 2) (tCons (tOp rSubI (tVar 3) (tC (.int 1))) tNil))))))))
def rd_door_edge (K : PySem.W.Frag) (aWAYS : Addr) (sp_edge_from : Sp) (sp_is_number : Sp) : TS := (tSeq (tIfS (tOr (tNot (tB (tCB (rIsi K) (tCons (tVar 0) (tCons (tC (.ty "tuple")) tNil))))) (tTest (tOp (rNeD K) (tCB (rLenX K) (tCons (tVar 0) tNil)) (tC (.int 3))))) (tRet (tC .non)) tNext) (tSeq (tAsg (tVar 0) (gTup K 3 (gCons (gName 1) (gCons (gName 2) (gCons (gName 3) gNil))))) (tSeq (tIfS (tOr (tNot (tB (tCallD sp_is_number (tCons (tVar 1) tNil)))) (tOr (tNot (tB (tCallD sp_is_number (tCons (tVar 2) tNil)))) (tTest (tOp (rInX K true) (tVar 3) (tC (.ref aWAYS)))))) (tRet (tC .non)) tNext) (tRet (tCallD sp_edge_from (tCons (tVar 1) (tCons (tVar 2) (tCons (tVar 3) tNil))))))))
def rd_check_edges (K : PySem.W.Frag) (sp_is_edge : Sp) : TS := (tFor (iEnumX K (tCons (tVar 2) tNil)) (gTup K 2 (gCons (gName 5) (gCons (gName 6) gNil))) (tSeq (tIfS (tOr (tTest (tOp (rEqD K) (tVar 5) (tVar 3))) (tNot (tB (tCallD sp_is_edge (tCons (tVar 0) (tCons (tVar 6) tNil)))))) tNever tNext) (tIfS (tOr (tTest (tOp (rInX K false) (tVar 6) (tVar 4))) (tTest (tOp (rInX K false) (tVar 6) (tSl (rSlX K) (tVar 2) tNoPart (tPart (tVar 5)))))) tNever tNext)))
def rd_check_hall (K : PySem.W.Frag) (sp_check_edges : Sp) (sp_door_edge : Sp) (sp_is_side : Sp) : TS := (tSeq (tIfS (tOr (tNot (tB (tCB (rIsi K) (tCons (tVar 0) (tCons (tC (.ty "tuple")) tNil))))) (tTest (tOp (rNeD K) (tCB (rLenX K) (tCons (tVar 0) tNil)) (tC (.int 4))))) tNever tNext) (tSeq (tAsg (tVar 0) (gTup K 4 (gCons (gName 1) (gCons (gName 2) (gCons (gName 3) (gCons (gName 4) gNil)))))) (tSeq (tIfS (tNot (tB (tCallD sp_is_side (tCons (tVar 1) tNil)))) tNever tNext) (tSeq (tIfS (tNot (tB (tCallD sp_is_side (tCons (tVar 2) tNil)))) tNever tNext) (tSeq (tIfS (tNot (tB (tCB (rIsi K) (tCons (tVar 3) (tCons (tC (.ty "tuple")) tNil))))) tNever tNext) (tSeq (tDrop (tCallD sp_check_edges (tCons (tVar 0) (tCons (tC (.int 2)) (tCons (tVar 3) (tCons (tC (.int 24)) (tCons (tTup tNil) tNil))))))) (tSeq (tIfS (tNot (tB (tCB (rIsi K) (tCons (tVar 4) (tCons (tC (.ty "tuple")) tNil))))) tNever tNext) (tDrop (tCallD sp_check_edges (tCons (tVar 0) (tCons (tC (.int 3)) (tCons (tLc (iTup K (tVar 4)) (gName 5) tYes (tCallD sp_door_edge (tCons (tVar 5) tNil)) [5]) (tCons (tC (.int 6)) (tCons (tVar 3) tNil))))))))))))))
def rd_check_cells (K : PySem.W.Frag) (sp_is_cell : Sp) : TS := (tSeq (tIfS (tOr (tNot (tB (tCB (rIsi K) (tCons (tVar 1) (tCons (tC (.ty "tuple")) tNil))))) (tTest (tOp (rEqD K) (tCB (rLenX K) (tCons (tVar 1) tNil)) (tC (.int 0))))) tNever tNext) (tFor (iEnumX K (tCons (tVar 1) tNil)) (gTup K 2 (gCons (gName 2) (gCons (gName 3) gNil))) (tIfS (tOr (tTest (tOp (rEqD K) (tVar 2) (tC (.int 3)))) (tOr (tNot (tB (tCallD sp_is_cell (tCons (tVar 0) (tCons (tVar 3) tNil))))) (tTest (tOp (rInX K false) (tVar 3) (tSl (rSlX K) (tVar 1) tNoPart (tPart (tVar 2))))))) tNever tNext)))
def rd_check_start (K : PySem.W.Frag) (sp_check_cells : Sp) (sp_check_hall : Sp) : TS := (tSeq (tDrop (tCallD sp_check_hall (tCons (tVar 0) tNil))) (tDrop (tCallD sp_check_cells (tCons (tVar 0) (tCons (tVar 1) tNil)))))
def rd_first_standing (K : PySem.W.Frag) : TS := (tRet (tTup (tCons (tVar 1) (tCons (tM1 (rJoin K) (tC (.str "")) (tLc (iTup K (tOp (rIx K) (tVar 0) (tC (.int 3)))) (gName 2) tYes (tOp (rIx K) (tVar 2) (tC (.int 2))) [2])) tNil))))
def rd_door_edges (K : PySem.W.Frag) (sp_edge_from : Sp) : TS := (tRet (tLc (iZipTS K (tCons (tOp (rIx K) (tVar 0) (tC (.int 3))) (tCons (tVar 1) tNil))) (gTup K 2 (gCons (gName 2) (gCons (gName 3) gNil))) tYes (tCallD sp_edge_from (tCons (tOp (rIx K) (tVar 2) (tC (.int 0))) (tCons (tOp (rIx K) (tVar 2) (tC (.int 1))) (tCons (tVar 3) tNil)))) [2, 3]))
def rd_is_step (K : PySem.W.Frag) (aWAYS : Addr) (sp_is_number : Sp) : TS := (tSeq (tIfS (tOr (tNot (tB (tCB (rIsi K) (tCons (tVar 1) (tCons (tC (.ty "tuple")) tNil))))) (tTest (tOp (rNeD K) (tCB (rLenX K) (tCons (tVar 1) tNil)) (tC (.int 2))))) (tRet (tC (.bl false))) tNext) (tSeq (tAsg (tVar 1) (gTup K 2 (gCons (gName 2) (gCons (gName 3) gNil)))) (tRet (tAndV (tCallD sp_is_number (tCons (tVar 2) tNil)) (tAndV (tChain rLeI rLtI (tC (.int 0)) (tVar 2) (tCB (rLenX K) (tCons (tVar 0) tNil))) (tOp (rInX K false) (tVar 3) (tC (.ref aWAYS))))))))
def rd_swung_ways (K : PySem.W.Frag) (sp_door_edges : Sp) (sp_edge_from : Sp) (sp_is_edge : Sp) : TS := (tSeq (tAsg (tOp (rIx K) (tOp (rIx K) (tVar 0) (tC (.int 3))) (tVar 2)) (gTup K 3 (gCons (gName 4) (gCons (gName 5) (gCons (gName 6) gNil))))) (tSeq (tAsg (tCallD sp_edge_from (tCons (tVar 4) (tCons (tVar 5) (tCons (tVar 3) tNil)))) (gName 7)) (tSeq (tIfS (tOr (tNot (tB (tCallD sp_is_edge (tCons (tVar 0) (tCons (tVar 7) tNil))))) (tOr (tTest (tOp (rInX K false) (tVar 7) (tOp (rIx K) (tVar 0) (tC (.int 2))))) (tTest (tOp (rInX K false) (tVar 7) (tCallD sp_door_edges (tCons (tVar 0) (tCons (tVar 1) tNil))))))) (tRet (tC .non)) tNext) (tRet (tOp (rAddX K) (tOp (rAddX K) (tSl (rSlX K) (tVar 1) tNoPart (tPart (tVar 2))) (tVar 3)) (tSl (rSlX K) (tVar 1) (tPart (tOp (rAddX K) (tVar 2) (tC (.int 1)))) tNoPart))))))
def rd_step_done (K : PySem.W.Frag) (sp_door_edges : Sp) (sp_edge_crossed : Sp) (sp_is_cell : Sp) (sp_next_cell : Sp) (sp_swung_ways : Sp) : TS := (tSeq (tAsg (tVar 1) (gTup K 2 (gCons (gName 3) (gCons (gName 4) gNil)))) (tSeq (tAsg (tVar 2) (gTup K 2 (gCons (gName 5) (gCons (gName 6) gNil)))) (tSeq (tAsg (tCallD sp_next_cell (tCons (tOp (rIx K) (tVar 3) (tVar 5)) (tCons (tVar 6) tNil))) (gName 7)) (tSeq (tAsg (tCallD sp_edge_crossed (tCons (tOp (rIx K) (tVar 3) (tVar 5)) (tCons (tVar 6) tNil))) (gName 8)) (tSeq (tIfS (tOr (tNot (tB (tCallD sp_is_cell (tCons (tVar 0) (tCons (tVar 7) tNil))))) (tOr (tTest (tOp (rInX K false) (tVar 7) (tVar 3))) (tTest (tOp (rInX K false) (tVar 8) (tOp (rIx K) (tVar 0) (tC (.int 2))))))) (tRet (tC .non)) tNext) (tSeq (tAsg (tOp (rAddX K) (tOp (rAddX K) (tSl (rSlX K) (tVar 3) tNoPart (tPart (tVar 5))) (tTup (tCons (tVar 7) tNil))) (tSl (rSlX K) (tVar 3) (tPart (tOp (rAddX K) (tVar 5) (tC (.int 1)))) tNoPart)) (gName 9)) (tSeq (tAsg (tCallD sp_door_edges (tCons (tVar 0) (tCons (tVar 4) tNil))) (gName 10)) (tSeq (tIfS (tTest (tOp (rInX K true) (tVar 8) (tVar 10))) (tRet (tTup (tCons (tTup (tCons (tVar 9) (tCons (tVar 4) tNil))) (tCons (tC .non) tNil)))) tNext) (tSeq (tAsg (tBM K "list" (rIndexD K) (tVar 10) (tCons (tVar 8) tNil)) (gName 11)) (tSeq (tAsg (tCallD sp_swung_ways (tCons (tVar 0) (tCons (tVar 4) (tCons (tVar 11) (tCons (tVar 6) tNil))))) (gName 12)) (tSeq (tIfS (tTest (tOp rIsN (tVar 12) (tC .non))) (tRet (tC .non)) tNext) (tRet (tTup (tCons (tTup (tCons (tVar 9) (tCons (tVar 12) tNil))) (tCons (tVar 11) tNil)))))))))))))))
def rd_moves_from (K : PySem.W.Frag) (aWAYS : Addr) (sp_step_done : Sp) : TS := (tSeq (tAsg (tLst tNil) (gName 2)) (tSeq (tFor (iRng1 (tCons (tCB (rLenX K) (tCons (tOp (rIx K) (tVar 1) (tC (.int 0))) tNil)) tNil)) (gName 3) (tFor (iTup K (tC (.ref aWAYS))) (gName 4) (tSeq (tAsg (tCallD sp_step_done (tCons (tVar 0) (tCons (tVar 1) (tCons (tTup (tCons (tVar 3) (tCons (tVar 4) tNil))) tNil)))) (gName 5)) (tIfS (tTest (tOp rNotN (tVar 5) (tC .non))) (tDrop (tBM K "list" rAppend (tVar 2) (tCons (tTup (tCons (tTup (tCons (tVar 3) (tCons (tVar 4) tNil))) (tCons (tOp (rIx K) (tVar 5) (tC (.int 0))) (tCons (tOp (rIx K) (tVar 5) (tC (.int 1))) tNil)))) tNil))) tNext)))) (tRet (tVar 2))))
def rd_may (K : PySem.W.Frag) (sp_check_start : Sp) (sp_first_standing : Sp) (sp_moves_from : Sp) : TS := (tSeq (tDrop (tCallD sp_check_start (tCons (tVar 0) (tCons (tVar 1) tNil)))) (tRet (tLc (iList K (tCallD sp_moves_from (tCons (tVar 0) (tCons (tCallD sp_first_standing (tCons (tVar 0) (tCons (tVar 1) tNil))) tNil)))) (gName 2) tYes (tOp (rIx K) (tVar 2) (tC (.int 0))) [2])))
def rd_L_taken (K : PySem.W.Frag) : TS := (tSeq (tIfS (tTest (tOp rGtI (tOp (rIx K) (tVar 0) (tC (.int 3))) (tC (.int 0)))) (tSeq (tAsg (tOp rModI (tOp (rIx K) (tVar 0) (tC (.int 3))) (tVar 1)) (gName 2)) (tSeq (tAsg (tOp rFdivI (tOp (rIx K) (tVar 0) (tC (.int 3))) (tVar 1)) (gSub (tVar 0) (tC (.int 3)) rSetL)) (tRet (tVar 2)))) tNext) (tSeq (tAsg (tOp (rAddX K) (tOp (rIx K) (tVar 0) (tC (.int 1))) (tC (.int 1))) (gSub (tVar 0) (tC (.int 1)) rSetL)) (tSeq (tIfS (tTest (tOp rGtI (tOp (rIx K) (tVar 0) (tC (.int 1))) (tCB (rLenX K) (tCons (tOp (rIx K) (tVar 0) (tC (.int 0))) tNil)))) (tSeq (tAsg (tOp rModI (tOp (rAddX K) (tOp rMulX (tOp (rIx K) (tVar 0) (tC (.int 2))) (tC (.int 48271))) (tC (.int 11))) (tC (.int 2147483647))) (gSub (tVar 0) (tC (.int 2)) rSetL)) (tRet (tOp rModI (tOp rFdivI (tOp (rIx K) (tVar 0) (tC (.int 2))) (tC (.int 7))) (tVar 1)))) tNext) (tSeq (tAsg (tOp (rIx K) (tOp (rIx K) (tVar 0) (tC (.int 0))) (tOp rSubI (tOp (rIx K) (tVar 0) (tC (.int 1))) (tC (.int 1)))) (gName 3)) (tSeq (tAsg (tOp rModI (tOp (rAddX K) (tOp (rAddX K) (tOp rMulX (tOp (rIx K) (tVar 0) (tC (.int 2))) (tC (.int 48271))) (tVar 3)) (tC (.int 11))) (tC (.int 2147483647))) (gSub (tVar 0) (tC (.int 2)) rSetL)) (tSeq (tIfS (tTest (tOp rGeI (tVar 3) (tOp rPowI (tC (.int 10)) (tC (.int 18))))) (tAsg (tOp rFdivI (tVar 3) (tVar 1)) (gSub (tVar 0) (tC (.int 3)) rSetL)) tNext) (tRet (tOp rModI (tVar 3) (tVar 1)))))))))
def rd_L_pair (K : PySem.W.Frag) : TS := (tSeq (tAsg (tVar 0) (gTup K 2 (gCons (gName 2) (gCons (gName 3) gNil)))) (tSeq (tIfS (tTest (tOp (rInX K false) (tVar 1) (tC (.str "ns")))) (tSeq (tAsg (tOp rSubI (tVar 2) (tCB rIntX (tCons (tOp (rEqD K) (tVar 1) (tC (.str "n"))) tNil))) (gName 4)) (tRet (tTup (tCons (tTup (tCons (tVar 4) (tCons (tOp rSubI (tVar 3) (tC (.int 1))) tNil))) (tCons (tTup (tCons (tVar 4) (tCons (tVar 3) tNil))) tNil))))) tNext) (tSeq (tAsg (tOp rSubI (tVar 3) (tCB rIntX (tCons (tOp (rEqD K) (tVar 1) (tC (.str "w"))) tNil))) (gName 5)) (tRet (tTup (tCons (tTup (tCons (tOp rSubI (tVar 2) (tC (.int 1))) (tCons (tVar 5) tNil))) (tCons (tTup (tCons (tVar 2) (tCons (tVar 5) tNil))) tNil)))))))
def rd_L_shut (K : PySem.W.Frag) : TS := (tSeq (tAsg (tVar 0) (gTup K 3 (gCons (gName 1) (gCons (gName 2) (gCons (gName 3) gNil))))) (tRet (tIf (tTest (tOp (rEqD K) (tVar 3) (tC (.str "-")))) (tTup (tCons (tTup (tCons (tOp rSubI (tVar 1) (tC (.int 1))) (tCons (tVar 2) tNil))) (tCons (tTup (tCons (tVar 1) (tCons (tVar 2) tNil))) tNil))) (tTup (tCons (tTup (tCons (tVar 1) (tCons (tOp rSubI (tVar 2) (tC (.int 1))) tNil))) (tCons (tTup (tCons (tVar 1) (tCons (tVar 2) tNil))) tNil))))))
def rd_L_within (K : PySem.W.Frag) : TS := (tSeq (tAsg (tLc (iTup K (tVar 1)) (gName 3) (tAnd (tTest (tChain rLeI rLtI (tC (.int 0)) (tOp (rIx K) (tVar 3) (tC (.int 0))) (tOp (rIx K) (tVar 0) (tC (.int 0))))) (tTest (tChain rLeI rLtI (tC (.int 0)) (tOp (rIx K) (tVar 3) (tC (.int 1))) (tOp (rIx K) (tVar 0) (tC (.int 1)))))) (tVar 3) [3]) (gName 2)) (tRet (tOp (rEqD K) (tCB (rLenX K) (tCons (tVar 2) tNil)) (tC (.int 2)))))
def rd_L_next (K : PySem.W.Frag) : TS := (tRet (tTup (tCons (tOp (rAddX K) (tOp (rIx K) (tVar 0) (tC (.int 0))) (tDGet2 (tDisp [((tC (.str "s")), (tC (.int 1))), ((tC (.str "n")), (tOp rSubI (tC (.int 0)) (tC (.int 1))))]) (tVar 1) (tC (.int 0)))) (tCons (tOp (rAddX K) (tOp (rIx K) (tVar 0) (tC (.int 1))) (tDGet2 (tDisp [((tC (.str "e")), (tC (.int 1))), ((tC (.str "w")), (tOp rSubI (tC (.int 0)) (tC (.int 1))))]) (tVar 1) (tC (.int 0)))) tNil))))
def rd_L_step (K : PySem.W.Frag) (sp_L_next : Sp) (sp_L_pair : Sp) (sp_L_shut : Sp) (sp_L_within : Sp) : TS := (tSeq (tAsg (tVar 1) (gTup K 2 (gCons (gName 3) (gCons (gName 4) gNil)))) (tSeq (tAsg (tVar 2) (gTup K 2 (gCons (gName 5) (gCons (gName 6) gNil)))) (tSeq (tAsg (tCallD sp_L_next (tCons (tOp (rIx K) (tVar 3) (tVar 5)) (tCons (tVar 6) tNil))) (gName 7)) (tSeq (tAsg (tLc (iTup K (tOp (rIx K) (tVar 0) (tOp rSubI (tC (.int 3)) (tC (.int 1))))) (gName 14) tYes (tCallD sp_L_shut (tCons (tVar 14) tNil)) [14]) (gName 8)) (tSeq (tAsg (tLc (iRng1 (tCons (tCB (rLenX K) (tCons (tOp (rIx K) (tVar 0) (tC (.int 3))) tNil)) tNil)) (gName 9) tYes (tCallD sp_L_pair (tCons (tSl (rSlX K) (tOp (rIx K) (tOp (rIx K) (tVar 0) (tC (.int 3))) (tVar 9)) tNoPart (tPart (tC (.int 2)))) (tCons (tOp (rIx K) (tVar 4) (tVar 9)) tNil))) [9]) (gName 10)) (tSeq (tAsg (tTup (tCons (tCB (rMinT K) (tCons (tOp (rIx K) (tVar 3) (tVar 5)) (tCons (tVar 7) tNil))) (tCons (tCB (rMaxT K) (tCons (tOp (rIx K) (tVar 3) (tVar 5)) (tCons (tVar 7) tNil))) tNil))) (gName 11)) (tSeq (tIfS (tOr (tTest (tOp (rInX K false) (tVar 7) (tVar 3))) (tOr (tNot (tB (tCallD sp_L_within (tCons (tVar 0) (tCons (tVar 11) tNil))))) (tTest (tOp (rInX K false) (tVar 11) (tVar 8))))) (tRet (tC .non)) tNext) (tSeq (tAsg (tOp (rAddX K) (tOp (rAddX K) (tSl (rSlX K) (tVar 3) tNoPart (tPart (tVar 5))) (tTup (tCons (tVar 7) tNil))) (tSl (rSlX K) (tVar 3) (tPart (tOp (rAddX K) (tVar 5) (tC (.int 1)))) tNoPart)) (gName 12)) (tSeq (tIfS (tTest (tOp (rInX K true) (tVar 11) (tVar 10))) (tRet (tTup (tCons (tTup (tCons (tVar 12) (tCons (tVar 4) tNil))) (tCons (tC .non) tNil)))) tNext) (tSeq (tAsg (tBM K "list" (rIndexD K) (tVar 10) (tCons (tVar 11) tNil)) (gName 9)) (tSeq (tAsg (tCallD sp_L_pair (tCons (tSl (rSlX K) (tOp (rIx K) (tOp (rIx K) (tVar 0) (tC (.int 3))) (tVar 9)) tNoPart (tPart (tC (.int 2)))) (tCons (tVar 6) tNil))) (gName 13)) (tSeq (tIfS (tOr (tNot (tB (tCallD sp_L_within (tCons (tVar 0) (tCons (tVar 13) tNil))))) (tTest (tOp (rInX K false) (tVar 13) (tOp (rAddX K) (tVar 8) (tVar 10))))) (tRet (tC .non)) tNext) (tRet (tTup (tCons (tTup (tCons (tVar 12) (tCons (tOp (rAddX K) (tOp (rAddX K) (tSl (rSlX K) (tVar 4) tNoPart (tPart (tVar 9))) (tVar 6)) (tSl (rSlX K) (tVar 4) (tPart (tOp (rAddX K) (tVar 9) (tC (.int 1)))) tNoPart)) tNil))) (tCons (tVar 9) tNil))))))))))))))))
def rd_L_begin (K : PySem.W.Frag) : TS := (tRet (tTup (tCons (tVar 1) (tCons (tM1 (rJoin K) (tC (.str "")) (tLc (iTup K (tOp (rIx K) (tVar 0) (tC (.int 3)))) (gName 2) tYes (tOp (rIx K) (tVar 2) (tC (.int 2))) [2])) tNil))))
def rd_L_hall (K : PySem.W.Frag) (sp_L_pair : Sp) (sp_L_shut : Sp) (sp_L_taken : Sp) (sp_L_within : Sp) : TS := (tSeq (tPar 3 4 (tCons (tOp (rAddX K) (tC (.int 1)) (tCallD sp_L_taken (tCons (tVar 0) (tCons (tVar 1) tNil)))) (tCons (tOp (rAddX K) (tC (.int 1)) (tCallD sp_L_taken (tCons (tVar 0) (tCons (tVar 1) tNil)))) tNil))) (tSeq (tAsg (tLst tNil) (gName 5)) (tSeq (tFor (iRng1 (tCons (tVar 3) tNil)) (gName 6) (tAsg (tOp (rAddX K) (tOp (rAddX K) (tVar 5) (tLc (iRng1 (tCons (tOp rMulX (tVar 4) (tCB rIntX (tCons (tOp rGtI (tVar 6) (tC (.int 0))) tNil))) tNil)) (gName 14) tYes (tTup (tCons (tVar 6) (tCons (tVar 14) (tCons (tC (.str "-")) tNil)))) [14])) (tLc (iRng2 (tCons (tC (.int 1)) (tCons (tVar 4) tNil))) (gName 14) tYes (tTup (tCons (tVar 6) (tCons (tVar 14) (tCons (tC (.str "|")) tNil)))) [14])) (gName 5))) (tSeq (tPar3 7 8 9 (tCons (tLst tNil) (tCons (tLst tNil) (tCons (tLst tNil) tNil)))) (tSeq (tFor (iRng1 (tCons (tCallD sp_L_taken (tCons (tVar 0) (tCons (tOp (rIx K) (tLst (tCons (tC (.int 1)) (tCons (tC (.int 3)) (tCons (tC (.int 5)) tNil)))) (tCallD sp_L_taken (tCons (tVar 0) (tCons (tC (.int 3)) tNil)))) tNil))) tNil)) (gName 10) (tIfS (tTest (tOp (rNeD K) (tVar 5) (tLst tNil))) (tDrop (tBM K "list" rAppend (tVar 7) (tCons (tBM K "list" rPopAt (tVar 5) (tCons (tCallD sp_L_taken (tCons (tVar 0) (tCons (tCB (rLenX K) (tCons (tVar 5) tNil)) tNil))) tNil)) tNil))) tNext)) (tSeq (tAsg (tLc (iList K (tVar 7)) (gName 13) tYes (tCallD sp_L_shut (tCons (tVar 13) tNil)) [13]) (gName 9)) (tSeq (tFor (iRng1 (tCons (tCallD sp_L_taken (tCons (tVar 0) (tCons (tOp (rAddX K) (tVar 2) (tC (.int 1))) tNil))) tNil)) (gName 10) (tSeq (tAsg (tTup (tCons (tCallD sp_L_taken (tCons (tVar 0) (tCons (tOp (rAddX K) (tVar 3) (tC (.int 1))) tNil))) (tCons (tCallD sp_L_taken (tCons (tVar 0) (tCons (tOp (rAddX K) (tVar 4) (tC (.int 1))) tNil))) (tCons (tOp (rIx K) (tC (.str "ensw")) (tCallD sp_L_taken (tCons (tVar 0) (tCons (tC (.int 4)) tNil)))) tNil)))) (gName 11)) (tSeq (tAsg (tCallD sp_L_pair (tCons (tSl (rSlX K) (tVar 11) tNoPart (tPart (tC (.int 2)))) (tCons (tOp (rIx K) (tVar 11) (tC (.int 2))) tNil))) (gName 12)) (tIfS (tAnd (tB (tCallD sp_L_within (tCons (tTup (tCons (tVar 3) (tCons (tVar 4) tNil))) (tCons (tVar 12) tNil)))) (tTest (tOp (rInX K true) (tVar 12) (tVar 9)))) (tSeq (tDrop (tBM K "list" rAppend (tVar 8) (tCons (tVar 11) tNil))) (tDrop (tBM K "list" rAppend (tVar 9) (tCons (tVar 12) tNil)))) tNext)))) (tRet (tTup (tCons (tVar 3) (tCons (tVar 4) (tCons (tCB (rTupX K) (tCons (tVar 7) tNil)) (tCons (tCB (rTupX K) (tCons (tVar 8) tNil)) tNil)))))))))))))
def rd_L_cells (K : PySem.W.Frag) (sp_L_taken : Sp) : TS := (tSeq (tAsg (tLst tNil) (gName 3)) (tSeq (tFor (iRng1 (tCons (tOp (rAddX K) (tC (.int 1)) (tCallD sp_L_taken (tCons (tVar 0) (tCons (tVar 2) tNil)))) tNil)) (gName 4) (tSeq (tAsg (tTup (tCons (tCallD sp_L_taken (tCons (tVar 0) (tCons (tOp (rIx K) (tVar 1) (tC (.int 0))) tNil))) (tCons (tCallD sp_L_taken (tCons (tVar 0) (tCons (tOp (rIx K) (tVar 1) (tC (.int 1))) tNil))) tNil))) (gName 5)) (tAsg (tOp (rAddX K) (tVar 3) (tOp rMulX (tLst (tCons (tVar 5) tNil)) (tCB rIntX (tCons (tOp (rInX K true) (tVar 5) (tVar 3)) tNil)))) (gName 3)))) (tRet (tCB (rTupX K) (tCons (tVar 3) tNil)))))
def rd_L_steps (K : PySem.W.Frag) (sp_L_step : Sp) : TS := (tSeq (tAsg (tLst tNil) (gName 2)) (tSeq (tFor (iRng1 (tCons (tCB (rLenX K) (tCons (tOp (rIx K) (tVar 1) (tC (.int 0))) tNil)) tNil)) (gName 3) (tFor (iStr (tC (.str "ensw"))) (gName 4) (tSeq (tAsg (tCallD sp_L_step (tCons (tVar 0) (tCons (tVar 1) (tCons (tTup (tCons (tVar 3) (tCons (tVar 4) tNil))) tNil)))) (gName 5)) (tIfS (tTest (tOp rNotN (tVar 5) (tC .non))) (tDrop (tBM K "list" rAppend (tVar 2) (tCons (tTup (tCons (tTup (tCons (tVar 3) (tCons (tVar 4) tNil))) (tCons (tOp (rIx K) (tVar 5) (tC (.int 0))) (tCons (tOp (rIx K) (tVar 5) (tC (.int 1))) tNil)))) tNil))) tNext)))) (tRet (tVar 2))))
def rd_L_alike (K : PySem.W.Frag) (sp_L_alike : Sp) : TS := (tSeq (tIfS (tAnd (tB (tCB (rIsiT K) (tCons (tVar 0) (tCons (tTup (tCons (tC (.ty "tuple")) (tCons (tC (.ty "list")) tNil))) tNil)))) (tB (tCB (rIsiT K) (tCons (tVar 1) (tCons (tTup (tCons (tC (.ty "tuple")) (tCons (tC (.ty "list")) tNil))) tNil))))) (tSeq (tIfS (tOr (tTest (tOp (rNeD K) (tCB (rIsi K) (tCons (tVar 0) (tCons (tC (.ty "tuple")) tNil))) (tCB (rIsi K) (tCons (tVar 1) (tCons (tC (.ty "tuple")) tNil))))) (tTest (tOp (rNeD K) (tCB (rLenX K) (tCons (tVar 0) tNil)) (tCB (rLenX K) (tCons (tVar 1) tNil))))) (tRet (tC (.bl false))) tNext) (tRet (tOp (rEqD K) (tLc (iRng1 (tCons (tCB (rLenX K) (tCons (tVar 0) tNil)) tNil)) (gName 2) (tNot (tB (tCallD sp_L_alike (tCons (tOp (rIx K) (tVar 0) (tVar 2)) (tCons (tOp (rIx K) (tVar 1) (tVar 2)) tNil))))) (tVar 2) [2]) (tLst tNil)))) tNext) (tRet (tAndV (tOp (rEqD K) (tVar 0) (tVar 1)) (tOp (rEqD K) (tCB (rIsi K) (tCons (tVar 0) (tCons (tC (.ty "bool")) tNil))) (tCB (rIsi K) (tCons (tVar 1) (tCons (tC (.ty "bool")) tNil)))))))
end Pd

/-! Sem1 -/
set_option Elab.async false
set_option linter.all false
set_option maxRecDepth 100000
set_option maxHeartbeats 4000000
namespace Pd
open PySem PySem.Spec PyProof.Rows L2 PySem.W

/-! ### data of the program's own kinds -/
abbrev Cell := Int × Int
/-- the signs: four ways, two kinds of edges -/
inductive Sg where
  | e | n | s | w | h | v
  deriving DecidableEq
def Sg.code : Sg → Nat
  | .e => 101
  | .n => 110
  | .s => 115
  | .w => 119
  | .h => 45
  | .v => 124
theorem Sg.code_inj {a b : Sg} (h : a.code = b.code) : a = b := by
  cases a <;> cases b <;> first | rfl | (exact absurd h (by decide))
/-- an edge, a door: row, column, a sign -/
abbrev Edge := Int × Int × Sg
def sg (c : Sg) : PyData := .str ⟨#[c.code]⟩
def cellD (c : Cell) : PyData := .tuple [.int c.1, .int c.2]
def edgeD (e : Edge) : PyData := .tuple [.int e.1, .int e.2.1, sg e.2.2]
structure Hall where
  rows : Int
  cols : Int
  walls : List Edge
  doors : List Edge
def hallD (h : Hall) : PyData := .tuple [.int h.rows, .int h.cols, .tuple (h.walls.map edgeD), .tuple (h.doors.map edgeD)]
def wsS (ws : List Sg) : Str := ⟨(ws.map Sg.code).toArray⟩
structure Stand where
  cells : List Cell
  ways : List Sg
def cellsD (cs : List Cell) : PyData := .tuple (cs.map cellD)
def standD (s : Stand) : PyData := .tuple [cellsD s.cells, .str (wsS s.ways)]
def stepD (k : Int) (w : Sg) : PyData := .tuple [.int k, sg w]
def Way (w : Sg) : Prop := w = .e ∨ w = .n ∨ w = .s ∨ w = .w

/-! ### equality -/
theorem eqv_sg (a b : Sg) : PyData.eqv (sg a) (sg b) = decide (a = b) := by
  cases a <;> cases b <;> (simp only [sg, PyData.eqv]; decide +kernel)
theorem lit_n : PyData.str "n" = sg .n := by simp only [sg]; exact congrArg PyData.str (by decide +kernel)
theorem lit_e : PyData.str "e" = sg .e := by simp only [sg]; exact congrArg PyData.str (by decide +kernel)
theorem lit_s : PyData.str "s" = sg .s := by simp only [sg]; exact congrArg PyData.str (by decide +kernel)
theorem lit_w : PyData.str "w" = sg .w := by simp only [sg]; exact congrArg PyData.str (by decide +kernel)
theorem lit_h : PyData.str "-" = sg .h := by simp only [sg]; exact congrArg PyData.str (by decide +kernel)
theorem lit_v : PyData.str "|" = sg .v := by simp only [sg]; exact congrArg PyData.str (by decide +kernel)
theorem lit_ns : ("ns" : Str) = ⟨#[110, 115]⟩ := by decide +kernel
theorem lit_ensw : ("ensw" : Str) = ⟨#[101, 110, 115, 119]⟩ := by decide +kernel
theorem eqv_int (a b : Int) : PyData.eqv (.int a) (.int b) = decide (a = b) := by
  simp only [PyData.eqv]
  by_cases h : a = b
  · subst h; simp
  · rw [decide_eq_false h]
    simpa using h
theorem eqv_cell (a b : Cell) : PyData.eqv (cellD a) (cellD b) = decide (a = b) := by
  obtain ⟨a1, a2⟩ := a
  obtain ⟨b1, b2⟩ := b
  simp only [cellD, PyData.eqv, PyData.eqvAll, Bool.and_true]
  by_cases h1 : a1 = b1
  · by_cases h2 : a2 = b2
    · subst h1 h2; simp
    · simp [h2]
  · simp [h1]
theorem eqv_edge (a b : Edge) : PyData.eqv (edgeD a) (edgeD b) = decide (a = b) := by
  obtain ⟨a1, a2, a3⟩ := a
  obtain ⟨b1, b2, b3⟩ := b
  have h3 := eqv_sg a3 b3
  simp only [edgeD, PyData.eqv, PyData.eqvAll, Bool.and_true, h3]
  by_cases h1 : a1 = b1
  · by_cases h2 : a2 = b2
    · by_cases h : a3 = b3
      · subst h1 h2 h; simp
      · simp [h]
    · simp [h2]
  · simp [h1]
def pairD (p : Cell × Cell) : PyData := .tuple [cellD p.1, cellD p.2]
theorem eqv_pair (a b : Cell × Cell) : PyData.eqv (pairD a) (pairD b) = decide (a = b) := by
  obtain ⟨a1, a2⟩ := a
  obtain ⟨b1, b2⟩ := b
  have h1 := eqv_cell a1 b1
  have h2 := eqv_cell a2 b2
  simp only [pairD, PyData.eqv, PyData.eqvAll, Bool.and_true, h1, h2]
  by_cases h1 : a1 = b1
  · by_cases h2 : a2 = b2
    · subst h1 h2; simp
    · simp [h2]
  · simp [h1]
theorem any_enc {α : Type} [DecidableEq α] (enc : α → PyData) (h : ∀ a b, PyData.eqv (enc a) (enc b) = decide (a = b)) (xs : List α) (x : α) : ((xs.map enc).any fun z => PyData.eqv z (enc x)) = decide (x ∈ xs) := by
  induction xs with
  | nil => simp
  | cons y ys ih =>
    rw [List.map_cons, List.any_cons, ih, h]
    by_cases e : x = y
    · subst e
      simp
    · have e' : ¬ y = x := fun z => e z.symm
      simp [e, e']
theorem any_cell (xs : List Cell) (x : Cell) : ((xs.map cellD).any fun z => PyData.eqv z (cellD x)) = decide (x ∈ xs) := (any_enc cellD eqv_cell xs x).trans (decide_eq_decide.mpr Iff.rfl)
theorem any_edge (xs : List Edge) (x : Edge) : ((xs.map edgeD).any fun z => PyData.eqv z (edgeD x)) = decide (x ∈ xs) := (any_enc edgeD eqv_edge xs x).trans (decide_eq_decide.mpr Iff.rfl)
theorem any_pair (xs : List (Cell × Cell)) (x : Cell × Cell) : ((xs.map pairD).any fun z => PyData.eqv z (pairD x)) = decide (x ∈ xs) := (any_enc pairD eqv_pair xs x).trans (decide_eq_decide.mpr Iff.rfl)
/-! ### shapes -/
theorem shaped_of {d : PyData} (h : d.canLay0 = true) (hd : d.depth ≤ 64) : SeqAt.shaped d = true := by
  show (d.canLay0 && decide (d.depth ≤ 64)) = true
  rw [h, decide_eq_true hd]
  rfl
theorem lay_int (i : Int) : (PyData.int i).canLay0 = true := by simp [PyData.canLay0]
theorem lay_sg (c : Sg) : (sg c).canLay0 = true := by cases c <;> (simp only [sg, PyData.canLay0]; decide +kernel)
theorem lay_cell (c : Cell) : (cellD c).canLay0 = true := by simp [cellD, PyData.canLay0, PyData.canLayAll0]
theorem lay_edge (c : Edge) : (edgeD c).canLay0 = true := by simp [edgeD, PyData.canLay0, PyData.canLayAll0, lay_sg]
theorem lay_pair (p : Cell × Cell) : (pairD p).canLay0 = true := by simp [pairD, PyData.canLay0, PyData.canLayAll0, lay_cell]
theorem dep_cell (c : Cell) : (cellD c).depth = 1 := by simp [cellD, PyData.depth, PyData.depthAll]
theorem dep_edge (c : Edge) : (edgeD c).depth = 1 := by simp [edgeD, sg, PyData.depth, PyData.depthAll]
theorem dep_pair (p : Cell × Cell) : (pairD p).depth = 2 := by simp [pairD, PyData.depth, PyData.depthAll, dep_cell]
theorem lay_map {α : Type} (enc : α → PyData) (h : ∀ a, (enc a).canLay0 = true) : ∀ xs : List α, PyData.canLayAll0 (xs.map enc) = true
  | [] => by simp [PyData.canLayAll0]
  | x :: xs => by simp [PyData.canLayAll0, h x, lay_map enc h xs]
theorem dep_map {α : Type} (enc : α → PyData) (n : Nat) (h : ∀ a, (enc a).depth ≤ n) : ∀ xs : List α, PyData.depthAll (xs.map enc) ≤ n
  | [] => by simp [PyData.depthAll]
  | x :: xs => by
    have h1 := h x
    have h2 := dep_map enc n h xs
    simp only [List.map_cons, PyData.depthAll]
    omega
theorem sh_int (i : Int) : SeqAt.shaped (.int i) = true := shaped_of (lay_int i) (by simp [PyData.depth])
theorem sh_sg (c : Sg) : SeqAt.shaped (sg c) = true := shaped_of (lay_sg c) (by simp [sg, PyData.depth])
theorem sh_str (x : Str) (hx : PyData.strOk x = true) : SeqAt.shaped (.str x) = true := shaped_of (by simpa [PyData.canLay0] using hx) (by simp [PyData.depth])
theorem sh_cell (c : Cell) : SeqAt.shaped (cellD c) = true := shaped_of (lay_cell c) (by rw [dep_cell]; decide)
theorem sh_edge (c : Edge) : SeqAt.shaped (edgeD c) = true := shaped_of (lay_edge c) (by rw [dep_edge]; decide)
theorem sh_pair (c : Cell × Cell) : SeqAt.shaped (pairD c) = true := shaped_of (lay_pair c) (by rw [dep_pair]; decide)
theorem sh_tup {α : Type} (enc : α → PyData) (n : Nat) (h : ∀ a, (enc a).canLay0 = true) (hd : ∀ a, (enc a).depth ≤ n) (hn : n < 64) (xs : List α) : SeqAt.shaped (.tuple (xs.map enc)) = true :=
  shaped_of (by simp only [PyData.canLay0]; exact lay_map enc h xs) (by have := dep_map enc n hd xs; simp only [PyData.depth]; omega)
theorem sh_lst {α : Type} (enc : α → PyData) (n : Nat) (h : ∀ a, (enc a).canLay0 = true) (hd : ∀ a, (enc a).depth ≤ n) (hn : n < 64) (xs : List α) : SeqAt.shaped (.list (xs.map enc)) = true :=
  shaped_of (by simp only [PyData.canLay0]; exact lay_map enc h xs) (by have := dep_map enc n hd xs; simp only [PyData.depth]; omega)
theorem sh_cells (xs : List Cell) : SeqAt.shaped (.tuple (xs.map cellD)) = true := sh_tup cellD 1 lay_cell (fun a => Nat.le_of_eq (dep_cell a)) (by decide) xs
theorem sh_cellsL (xs : List Cell) : SeqAt.shaped (.list (xs.map cellD)) = true := sh_lst cellD 1 lay_cell (fun a => Nat.le_of_eq (dep_cell a)) (by decide) xs
theorem sh_edges (xs : List Edge) : SeqAt.shaped (.tuple (xs.map edgeD)) = true := sh_tup edgeD 1 lay_edge (fun a => Nat.le_of_eq (dep_edge a)) (by decide) xs
theorem sh_edgesL (xs : List Edge) : SeqAt.shaped (.list (xs.map edgeD)) = true := sh_lst edgeD 1 lay_edge (fun a => Nat.le_of_eq (dep_edge a)) (by decide) xs
theorem sh_pairsL (xs : List (Cell × Cell)) : SeqAt.shaped (.list (xs.map pairD)) = true := sh_lst pairD 2 lay_pair (fun a => Nat.le_of_eq (dep_pair a)) (by decide) xs
/-! ### isinstance -/
theorem kit_tt : kitB "tuple" "tuple" = some true := by decide +kernel
theorem kit_ii : kitB "int" "int" = some true := by decide +kernel
theorem kit_ib : kitB "int" "bool" = some false := by decide +kernel
theorem kit_it : kitB "int" "tuple" = some false := by decide +kernel
theorem kit_il : kitB "int" "list" = some false := by decide +kernel
theorem kit_st : kitB "str" "tuple" = some false := by decide +kernel
theorem kit_sl : kitB "str" "list" = some false := by decide +kernel
theorem kit_sb : kitB "str" "bool" = some false := by decide +kernel
theorem kit_nt : kitB "NoneType" "tuple" = some false := by decide +kernel
theorem kit_nl : kitB "NoneType" "list" = some false := by decide +kernel
theorem kit_nb : kitB "NoneType" "bool" = some false := by decide +kernel
theorem kit_lt : kitB "list" "tuple" = some false := by decide +kernel
theorem kit_ll : kitB "list" "list" = some true := by decide +kernel
theorem kit_tl : kitB "tuple" "list" = some false := by decide +kernel

/-! ### what the defs tell -/
def inH (h : Hall) (c : Cell) : Bool := decide (0 ≤ c.1 ∧ c.1 < h.rows ∧ 0 ≤ c.2 ∧ c.2 < h.cols)
def isEdge (h : Hall) (e : Edge) : Bool := inH h (e.1, e.2.1) && (if e.2.2 = .h then decide (0 < e.1) else decide (e.2.2 = .v) && decide (0 < e.2.1))
def edgeFrom (r c : Int) (w : Sg) : Edge := if w = .n then (r - 1, c, .v) else if w = .e then (r, c, .h) else if w = .s then (r, c, .v) else (r, c - 1, .h)
def crossed (c : Cell) (w : Sg) : Edge := if w = .n then (c.1, c.2, .h) else if w = .e then (c.1, c.2 + 1, .v) else if w = .s then (c.1 + 1, c.2, .h) else (c.1, c.2, .v)
def nextC (c : Cell) (w : Sg) : Cell := if w = .n then (c.1 - 1, c.2) else if w = .e then (c.1, c.2 + 1) else if w = .s then (c.1 + 1, c.2) else (c.1, c.2 - 1)
inductive R_is_number : List PyData → PyData → Prop | mk (i : Int) : R_is_number [.int i] (.bool true)
inductive R_is_side : List PyData → PyData → Prop | mk (i : Int) : R_is_side [.int i] (.bool (decide (1 ≤ i ∧ i ≤ 5)))
inductive R_is_cell : List PyData → PyData → Prop | mk (h : Hall) (c : Cell) : R_is_cell [hallD h, cellD c] (.bool (inH h c))
inductive R_is_edge : List PyData → PyData → Prop | mk (h : Hall) (e : Edge) : R_is_edge [hallD h, edgeD e] (.bool (isEdge h e))
inductive R_edge_from : List PyData → PyData → Prop | mk (r c : Int) (w : Sg) : R_edge_from [.int r, .int c, sg w] (edgeD (edgeFrom r c w))
inductive R_edge_crossed : List PyData → PyData → Prop | mk (c : Cell) (w : Sg) : R_edge_crossed [cellD c, sg w] (edgeD (crossed c w))
inductive R_next_cell : List PyData → PyData → Prop | mk (c : Cell) (w : Sg) : R_next_cell [cellD c, sg w] (cellD (nextC c w))

local macro_rules | `(tactic| walk_at "ed") => `(tactic| repeat' (first
  | with_reducible (first
    | exact ed_int | exact ed_str | exact ed_bl | exact ed_non
    | exact ea_nil | refine' ea_cons ?_ ?_
    | refine' ed_isi ?_ ?_ | refine' ed_isi2 ?_ ?_ ?_
    | refine' ed_andV ?_ (fun _ => ?_) | refine' ed_orV ?_ (fun _ => ?_) | refine' ed_notV ?_
    | refine' ed_chain ?_ ?_ ?_ (fun _ => ⟨?_, ?_⟩)
    | refine' ed_tup ?_ ?_ | refine' ed_lst ?_ ?_
    | refine' et_not ?_ | refine' et_and ?_ (fun _ => ?_) | refine' et_or ?_ (fun _ => ?_) | exact et_yes
    | refine' et_test ?_ | refine' et_B ?_
    | refine' ed_op ?_ ?_ ?_
    | refine' ed_cb ?_ ?_)
  | exact ed_var rfl
  | exact kit_tt | exact kit_ii | exact kit_ib | exact kit_ll | exact kit_lt | exact kit_tl
  | exact r2_addI | exact r2_subI | exact r2_lt | exact r2_le | exact r2_gt | exact r2_ge | exact r2_isN | exact r2_notN
  | exact rc_lenT | exact rc_lenL | exact rc_intB | exact rc_tupL
  | with_reducible (first | refine' r2_eq ?_ ?_ | refine' r2_ne ?_ ?_)
  | exact sh_int _ | exact sh_sg _ | exact sh_cell _ | exact sh_edge _ | exact sh_pair _ | exact sh_str _ (by decide +kernel)
  | exact r2_ixT rfl | exact r2_ixL rfl
  | (show List.length _ ≤ 100000; simp; done)))
section
variable {K : PySem.W.Frag}
theorem rp_is_number {ds : List PyData} {d : PyData} (h : R_is_number ds d) : RD (rd_is_number K) (ds.map some ++ List.replicate (1 - ds.length) none) d := by
  obtain ⟨i⟩ := h
  exact rd_ret (ED.is (by walk_at "ed") (by rfl))
theorem rp_is_side {ds : List PyData} {d : PyData} (h : R_is_side ds d) : RD (rd_is_side K (spR R_is_number)) (ds.map some ++ List.replicate (1 - ds.length) none) d := by
  obtain ⟨i⟩ := h
  refine rd_ret (ED.is (ed_andV (ed_call (by walk_at "ed") (.mk i)) fun _ => by walk_at "ed") ?_)
  by_cases h1 : 1 ≤ i
  · by_cases h2 : i ≤ 5
    · simp [h1, h2]
    · simp [h1, h2]
  · simp [h1]
theorem rp_is_cell {ds : List PyData} {d : PyData} (h : R_is_cell ds d) : RD (rd_is_cell K (spR R_is_number)) (ds.map some ++ List.replicate (4 - ds.length) none) d := by
  obtain ⟨h, c⟩ := h
  refine rd_ifS (b := false) (ET.is (by walk_at "ed") (by simp [eqv_int])) (fun z => nomatch z) (fun _ => ?_)
  refine rd_seq (sd_asg (d := cellD c) (by walk_at "ed") (gd_tup (vs := [2, 3]) (gds_cons (gd_name (by simp)) (gds_cons (gd_name (by simp)) gds_nil)) rfl)) ?_
  refine rd_ifS (b := false) (ET.is (et_or (et_not (et_B (ed_call (by walk_at "ed") (.mk c.1)))) fun _ => et_not (et_B (ed_call (by walk_at "ed") (.mk c.2)))) rfl) (fun z => nomatch z) (fun _ => ?_)
  refine rd_ret (ED.is (by walk_at "ed") ?_)
  by_cases h1 : 0 ≤ c.1
  · by_cases h2 : c.1 < h.rows
    · by_cases h3 : 0 ≤ c.2
      · by_cases h4 : c.2 < h.cols
        · simp [inH, h1, h2, h3, h4]
        · simp [inH, h1, h2, h3, h4]
      · simp [inH, h1, h2, h3]
    · simp [inH, h1, h2]
  · simp [inH, h1]
end
end Pd

/-! Sem2 -/
set_option Elab.async false
set_option linter.all false
set_option maxRecDepth 100000
set_option maxHeartbeats 4000000
namespace Pd
open PySem PySem.Spec PyProof.Rows L2 PySem.W
local macro_rules | `(tactic| walk_at "ed") => `(tactic| repeat' (first
  | with_reducible (first
    | exact ed_int | exact ed_str | exact ed_bl | exact ed_non
    | exact ea_nil | refine' ea_cons ?_ ?_
    | refine' ed_isi ?_ ?_ | refine' ed_isi2 ?_ ?_ ?_
    | refine' ed_andV ?_ (fun _ => ?_) | refine' ed_orV ?_ (fun _ => ?_) | refine' ed_notV ?_
    | refine' ed_chain ?_ ?_ ?_ (fun _ => ⟨?_, ?_⟩)
    | refine' ed_tup ?_ ?_ | refine' ed_lst ?_ ?_
    | refine' et_not ?_ | refine' et_and ?_ (fun _ => ?_) | refine' et_or ?_ (fun _ => ?_) | exact et_yes
    | refine' et_test ?_ | refine' et_B ?_
    | refine' ed_op ?_ ?_ ?_
    | refine' ed_cb ?_ ?_)
  | exact ed_var rfl
  | exact kit_tt | exact kit_ii | exact kit_ib | exact kit_ll | exact kit_lt | exact kit_tl
  | exact r2_addI | exact r2_subI | exact r2_lt | exact r2_le | exact r2_gt | exact r2_ge | exact r2_isN | exact r2_notN
  | exact rc_lenT | exact rc_lenL | exact rc_intB | exact rc_tupL
  | with_reducible (first | refine' r2_eq ?_ ?_ | refine' r2_ne ?_ ?_)
  | exact sh_int _ | exact sh_sg _ | exact sh_cell _ | exact sh_edge _ | exact sh_pair _ | exact sh_str _ (by decide +kernel)
  | exact r2_ixT rfl | exact r2_ixL rfl
  | refine' ed_tup ?_ ?_
  | (show List.length _ ≤ 100000; simp; done)))
section
variable {K : PySem.W.Frag}
theorem rp_is_edge {ds : List PyData} {d : PyData} (h : R_is_edge ds d) : RD (rd_is_edge K (spR R_is_cell)) (ds.map some ++ List.replicate (5 - ds.length) none) d := by
  obtain ⟨h, e⟩ := h
  refine rd_ifS (b := false) (ET.is (by walk_at "ed") (by simp [eqv_int])) (fun z => nomatch z) (fun _ => ?_)
  refine rd_seq (sd_asg (d := edgeD e) (by walk_at "ed") (gd_tup (vs := [2, 3, 4]) (gds_cons (gd_name (by simp)) (gds_cons (gd_name (by simp)) (gds_cons (gd_name (by simp)) gds_nil))) rfl)) ?_
  refine rd_ifS (b := !inH h (e.1, e.2.1)) (et_not (et_B (ed_call (by walk_at "ed") (.mk h (e.1, e.2.1))))) (fun hb => ?_) (fun hb => ?_)
  · refine rd_ret (ED.is ed_bl ?_)
    have : inH h (e.1, e.2.1) = false := by simpa using hb
    simp [isEdge, this]
  · have hi : inH h (e.1, e.2.1) = true := by simpa using hb
    refine rd_ifS (b := decide (e.2.2 = .h)) (ET.is (by walk_at "ed") (by rw [lit_h, eqv_sg])) (fun hc => ?_) (fun hc => ?_)
    · refine rd_ret (ED.is (by walk_at "ed") ?_)
      have := of_decide_eq_true hc
      simp [isEdge, hi, this]
    · refine rd_ret (ED.is (by walk_at "ed") ?_)
      have := of_decide_eq_false hc
      rw [lit_v, eqv_sg]
      simp [isEdge, hi, this]
theorem rp_edge_from {ds : List PyData} {d : PyData} (h : R_edge_from ds d) : RD (rd_edge_from K) (ds.map some ++ List.replicate (3 - ds.length) none) d := by
  obtain ⟨r, c, w⟩ := h
  refine rd_ifS (b := decide (w = .n)) (ET.is (by walk_at "ed") (by rw [lit_n, eqv_sg])) (fun hb => ?_) (fun hb => ?_)
  · rw [of_decide_eq_true hb]
    exact rd_ret (ED.is (by walk_at "ed") (by rw [lit_v]; rfl))
  · have h1 := of_decide_eq_false hb
    refine rd_ifS (b := decide (w = .e)) (ET.is (by walk_at "ed") (by rw [lit_e, eqv_sg])) (fun hb => ?_) (fun hb => ?_)
    · rw [of_decide_eq_true hb]
      exact rd_ret (ED.is (by walk_at "ed") (by rw [lit_h]; rfl))
    · have h2 := of_decide_eq_false hb
      refine rd_ifS (b := decide (w = .s)) (ET.is (by walk_at "ed") (by rw [lit_s, eqv_sg])) (fun hb => ?_) (fun hb => ?_)
      · rw [of_decide_eq_true hb]
        exact rd_ret (ED.is (by walk_at "ed") (by rw [lit_v]; rfl))
      · have h3 := of_decide_eq_false hb
        exact rd_ret (ED.is (by walk_at "ed") (by rw [lit_h]; simp [edgeFrom, h1, h2, h3, edgeD]))
theorem rp_edge_crossed {ds : List PyData} {d : PyData} (h : R_edge_crossed ds d) : RD (rd_edge_crossed K) (ds.map some ++ List.replicate (4 - ds.length) none) d := by
  obtain ⟨c, w⟩ := h
  refine rd_seq (sd_asg (d := cellD c) (by walk_at "ed") (gd_tup (vs := [2, 3]) (gds_cons (gd_name (by simp)) (gds_cons (gd_name (by simp)) gds_nil)) rfl)) ?_
  refine rd_ifS (b := decide (w = .n)) (ET.is (by walk_at "ed") (by rw [lit_n, eqv_sg])) (fun hb => ?_) (fun hb => ?_)
  · rw [of_decide_eq_true hb]
    exact rd_ret (ED.is (by walk_at "ed") (by rw [lit_h]; rfl))
  · have h1 := of_decide_eq_false hb
    refine rd_ifS (b := decide (w = .e)) (ET.is (by walk_at "ed") (by rw [lit_e, eqv_sg])) (fun hb => ?_) (fun hb => ?_)
    · rw [of_decide_eq_true hb]
      exact rd_ret (ED.is (by walk_at "ed") (by rw [lit_v]; rfl))
    · have h2 := of_decide_eq_false hb
      refine rd_ifS (b := decide (w = .s)) (ET.is (by walk_at "ed") (by rw [lit_s, eqv_sg])) (fun hb => ?_) (fun hb => ?_)
      · rw [of_decide_eq_true hb]
        exact rd_ret (ED.is (by walk_at "ed") (by rw [lit_h]; rfl))
      · have h3 := of_decide_eq_false hb
        exact rd_ret (ED.is (by walk_at "ed") (by rw [lit_v]; simp [crossed, h1, h2, h3, edgeD]))
theorem rp_next_cell {ds : List PyData} {d : PyData} (h : R_next_cell ds d) : RD (rd_next_cell K) (ds.map some ++ List.replicate (4 - ds.length) none) d := by
  obtain ⟨c, w⟩ := h
  refine rd_seq (sd_asg (d := cellD c) (by walk_at "ed") (gd_tup (vs := [2, 3]) (gds_cons (gd_name (by simp)) (gds_cons (gd_name (by simp)) gds_nil)) rfl)) ?_
  refine rd_ifS (b := decide (w = .n)) (ET.is (by walk_at "ed") (by rw [lit_n, eqv_sg])) (fun hb => ?_) (fun hb => ?_)
  · rw [of_decide_eq_true hb]
    exact rd_ret (ED.is (by walk_at "ed") (by rfl))
  · have h1 := of_decide_eq_false hb
    refine rd_ifS (b := decide (w = .e)) (ET.is (by walk_at "ed") (by rw [lit_e, eqv_sg])) (fun hb => ?_) (fun hb => ?_)
    · rw [of_decide_eq_true hb]
      exact rd_ret (ED.is (by walk_at "ed") (by rfl))
    · have h2 := of_decide_eq_false hb
      refine rd_ifS (b := decide (w = .s)) (ET.is (by walk_at "ed") (by rw [lit_s, eqv_sg])) (fun hb => ?_) (fun hb => ?_)
      · rw [of_decide_eq_true hb]
        exact rd_ret (ED.is (by walk_at "ed") (by rfl))
      · have h3 := of_decide_eq_false hb
        exact rd_ret (ED.is (by walk_at "ed") (by simp [nextC, h1, h2, h3, cellD]))
/-! ### doors on their edges, the first standing -/
inductive R_door_edge : List PyData → PyData → Prop | mk (e : Edge) (h : Way e.2.2) : R_door_edge [edgeD e] (edgeD (edgeFrom e.1 e.2.1 e.2.2))
theorem in_ways {neg : Bool} (w : Sg) (h : Way w) : (if neg then !inV (.str ⟨#[w.code]⟩) [.str "e", .str "n", .str "s", .str "w"] else inV (.str ⟨#[w.code]⟩) [.str "e", .str "n", .str "s", .str "w"]) = !neg := by
  have e : inV (.str ⟨#[w.code]⟩) [.str "e", .str "n", .str "s", .str "w"] = true := by
    rcases h with rfl | rfl | rfl | rfl <;> decide +kernel
  rw [e]
  cases neg <;> rfl
theorem ed_inWays {ρ : Rho} {te : TE} {neg : Bool} {aW : Addr} {w : Sg} (hT : ∀ H : Hp, SqT K H aW [.str "e", .str "n", .str "s", .str "w"]) (h : ED te ρ (sg w)) (hw : Way w) : ED (tOp (rInX K neg) te (tC (.ref aW))) ρ (.bool (!neg)) :=
  ED.is (ed_inK h hT (by decide)) (congrArg PyData.bool (in_ways w hw))
theorem rp_door_edge {aW : Addr} (hT : ∀ H : Hp, SqT K H aW [.str "e", .str "n", .str "s", .str "w"]) {ds : List PyData} {d : PyData} (h : R_door_edge ds d) :
    RD (rd_door_edge K aW (spR R_edge_from) (spR R_is_number)) (ds.map some ++ List.replicate (4 - ds.length) none) d := by
  obtain ⟨e, hw⟩ := h
  refine rd_ifS (b := false) (ET.is (by walk_at "ed") (by simp [eqv_int])) (fun z => nomatch z) (fun _ => ?_)
  refine rd_seq (sd_asg (d := edgeD e) (by walk_at "ed") (gd_tup (vs := [1, 2, 3]) (gds_cons (gd_name (by simp)) (gds_cons (gd_name (by simp)) (gds_cons (gd_name (by simp)) gds_nil))) rfl)) ?_
  refine rd_ifS (b := false) (ET.is (et_or (et_not (et_B (ed_call (by walk_at "ed") (.mk e.1)))) fun _ => et_or (et_not (et_B (ed_call (by walk_at "ed") (.mk e.2.1)))) fun _ => et_test (ed_inWays hT (w := e.2.2) (by walk_at "ed") hw)) rfl) (fun z => nomatch z) (fun _ => ?_)
  exact rd_ret (ed_call (by walk_at "ed") (.mk e.1 e.2.1 e.2.2))
theorem wsS_cons (w : Sg) (ws : List Sg) : (⟨#[w.code]⟩ : Str) ++ wsS ws = wsS (w :: ws) := by
  show (⟨#[w.code] ++ (ws.map Sg.code).toArray⟩ : Str) = ⟨((w :: ws).map Sg.code).toArray⟩
  simp
theorem wsS_append (a b : List Sg) : wsS a ++ wsS b = wsS (a ++ b) := by
  show (⟨(a.map Sg.code).toArray ++ (b.map Sg.code).toArray⟩ : Str) = ⟨((a ++ b).map Sg.code).toArray⟩
  simp
theorem empty_cat (x : Str) : ("" : Str) ++ x = x := by
  have e : ("" : Str) = ⟨#[]⟩ := by decide +kernel
  rw [e]
  show (⟨#[] ++ x.cps⟩ : Str) = x
  simp
theorem join_charsL : ∀ ws : List Sg, Str.join ("" : Str) (ws.map fun w => (⟨#[w.code]⟩ : Str)) = wsS ws
  | [] => rfl
  | [w] => rfl
  | w :: x :: ws => by
    have ih := join_charsL (x :: ws)
    show (⟨#[w.code]⟩ : Str) ++ ("" : Str) ++ Str.join ("" : Str) ((x :: ws).map fun w => (⟨#[w.code]⟩ : Str)) = _
    rw [ih, ← wsS_cons w (x :: ws)]
    have e : (⟨#[w.code]⟩ : Str) ++ ("" : Str) = ⟨#[w.code]⟩ := by
      have e : ("" : Str) = ⟨#[]⟩ := by decide +kernel
      rw [e]
      show (⟨#[w.code] ++ #[]⟩ : Str) = _
      simp
    rw [e]
theorem join_chars (ws : List Sg) : Txt.join ("" : Str) (ws.map fun w => (⟨#[w.code]⟩ : Str)) = wsS ws := by
  exact (TL.join_eq _ _).trans (join_charsL ws)
inductive R_first_standing : List PyData → PyData → Prop | mk (h : Hall) (cs : List Cell) (hd : h.doors.length ≤ 100) : R_first_standing [hallD h, cellsD cs] (standD ⟨cs, h.doors.map fun e => e.2.2⟩)
theorem sum_ones : ∀ ws : List Sg, ((ws.map fun w => (⟨#[w.code]⟩ : Str)).map (·.length)).sum = ws.length
  | [] => rfl
  | w :: ws => by
    rw [List.map_cons, List.map_cons, List.sum_cons, sum_ones ws, List.length_cons]
    show 1 + ws.length = ws.length + 1
    omega
theorem ed_doorWays {ρ : Rho} {te : TE} {i : Nat} {h : Hall} (hd : h.doors.length ≤ 100) (hh : ED te ρ (.tuple (h.doors.map edgeD))) (hi : i < ρ.length) :
    ED (tM1 (rJoin K) (tC (.str "")) (tLc (iTup K te) (gName i) tYes (tOp (rIx K) (tVar i) (tC (.int 2))) [i])) ρ (.str (wsS (h.doors.map fun e => e.2.2))) := by
  have h1 : ED (tLc (iTup K te) (gName i) tYes (tOp (rIx K) (tVar i) (tC (.int 2))) [i]) ρ (.list (((h.doors.map fun e => e.2.2).map fun w => (⟨#[w.code]⟩ : Str)).map PyData.str)) := by
    refine ED.is (ed_lcM h.doors edgeD (fun e => sg e.2.2) (ie_tup hh) (by omega) fun e _ => ⟨_, gd_name (by simp), ed_op (ed_var (List.getElem?_set_self (by simp [wipeR, hi]))) ed_int (r2_ixT rfl)⟩) ?_
    rw [List.map_map, List.map_map]
    rfl
  have h2 := ed_join (K := K) (a := "") h1 (by rw [sum_ones, List.length_map, List.length_map]; show h.doors.length + h.doors.length * 0 ≤ _; omega)
  rw [join_chars] at h2
  exact h2
theorem rp_first_standing {ds : List PyData} {d : PyData} (h : R_first_standing ds d) : RD (rd_first_standing K) (ds.map some ++ List.replicate (3 - ds.length) none) d := by
  obtain ⟨h, cs, hd⟩ := h
  refine rd_ret (ED.is (ed_tup (ea_cons (ed_var rfl) (ea_cons (ed_doorWays (h := h) hd (by walk_at "ed") (by simp)) ea_nil)) (by simp)) rfl)
theorem rp_L_begin {ds : List PyData} {d : PyData} (h : R_first_standing ds d) : RD (rd_L_begin K) (ds.map some ++ List.replicate (3 - ds.length) none) d := by
  obtain ⟨h, cs, hd⟩ := h
  refine rd_ret (ED.is (ed_tup (ea_cons (ed_var rfl) (ea_cons (ed_doorWays (h := h) hd (by walk_at "ed") (by simp)) ea_nil)) (by simp)) rfl)
end
end Pd

/-! Sem3 -/
set_option Elab.async false
set_option linter.all false
set_option maxRecDepth 100000
set_option maxHeartbeats 4000000
namespace Pd
open PySem PySem.Spec PyProof.Rows L2 PySem.W
local macro_rules | `(tactic| walk_at "ed") => `(tactic| repeat' (first
  | with_reducible (first
    | exact ed_int | exact ed_str | exact ed_bl | exact ed_non
    | exact ea_nil | refine' ea_cons ?_ ?_
    | refine' ed_isi ?_ ?_ | refine' ed_isi2 ?_ ?_ ?_
    | refine' ed_andV ?_ (fun _ => ?_) | refine' ed_orV ?_ (fun _ => ?_) | refine' ed_notV ?_
    | refine' ed_chain ?_ ?_ ?_ (fun _ => ⟨?_, ?_⟩)
    | refine' ed_tup ?_ ?_ | refine' ed_lst ?_ ?_
    | refine' et_not ?_ | refine' et_and ?_ (fun _ => ?_) | refine' et_or ?_ (fun _ => ?_) | exact et_yes
    | refine' et_test ?_ | refine' et_B ?_
    | refine' ed_op ?_ ?_ ?_
    | refine' ed_cb ?_ ?_)
  | exact ed_var rfl
  | exact kit_tt | exact kit_ii | exact kit_ib | exact kit_ll | exact kit_lt | exact kit_tl
  | exact r2_addI | exact r2_subI | exact r2_lt | exact r2_le | exact r2_gt | exact r2_ge | exact r2_isN | exact r2_notN
  | exact rc_lenT | exact rc_lenL | exact rc_intB | exact rc_tupL
  | with_reducible (first | refine' r2_eq ?_ ?_ | refine' r2_ne ?_ ?_)
  | exact sh_int _ | exact sh_sg _ | exact sh_cell _ | exact sh_edge _ | exact sh_pair _ | exact sh_str _ (by decide +kernel)
  | exact r2_ixT rfl | exact r2_ixL rfl
  | refine' ed_tup ?_ ?_
  | (show List.length _ ≤ 100000; simp; done)))
section
variable {K : PySem.W.Frag}
/-! ### doors' edges, a swing, a step -/
def doorEdges (ds : List Edge) (ws : List Sg) : List Edge := List.zipWith (fun d w => edgeFrom d.1 d.2.1 w) ds ws
inductive R_door_edges : List PyData → PyData → Prop | mk (h : Hall) (ws : List Sg) (hd : h.doors.length ≤ 100) : R_door_edges [hallD h, .str (wsS ws)] (.list ((doorEdges h.doors ws).map edgeD))
theorem rp_door_edges {ds : List PyData} {d : PyData} (h : R_door_edges ds d) : RD (rd_door_edges K (spR R_edge_from)) (ds.map some ++ List.replicate (4 - ds.length) none) d := by
  obtain ⟨h, ws, hd⟩ := h
  have hi : IE (iZipTS K (tCons (tOp (rIx K) (tVar 0) (tC (.int 3))) (tCons (tVar 1) tNil))) [some (hallD h), some (.str (wsS ws)), none, none] ((List.zip h.doors ws).map fun p => .tuple [edgeD p.1, sg p.2]) := by
    have h1 := ie_zipTS (K := K) (ρ := [some (hallD h), some (.str (wsS ws)), none, none]) (ta := tCons (tOp (rIx K) (tVar 0) (tC (.int 3))) (tCons (tVar 1) tNil)) (ds := h.doors.map edgeD) (x := wsS ws) (by walk_at "ed")
    have e : List.zipWith (fun d c => PyData.tuple [d, .str ⟨#[c]⟩]) (h.doors.map edgeD) (wsS ws).cps.toList = (List.zip h.doors ws).map fun p => .tuple [edgeD p.1, sg p.2] := by
      show List.zipWith _ (h.doors.map edgeD) ((ws.map Sg.code).toArray.toList) = _
      rw [List.toList_toArray, List.zipWith_map, List.zip, List.map_zipWith]
      rfl
    rw [e] at h1
    exact h1
  refine rd_ret (ED.is (ed_lcM (List.zip h.doors ws) (fun p => .tuple [edgeD p.1, sg p.2]) (fun p => edgeD (edgeFrom p.1.1 p.1.2.1 p.2)) hi (by rw [List.length_zip]; omega) fun p _ => ⟨_, gd_tup (gds_cons (gd_name (by simp)) (gds_cons (gd_name (by simp)) gds_nil)) rfl, ed_call (by walk_at "ed") (.mk p.1.1 p.1.2.1 p.2)⟩) ?_)
  show PyData.list _ = PyData.list _
  congr 1
  simp only [doorEdges, List.zip, List.map_zipWith]
def swung (h : Hall) (ws : List Sg) (d : Nat) (w : Sg) : Option (List Sg) :=
  match h.doors[d]? with
  | none => none
  | some e => if isEdge h (edgeFrom e.1 e.2.1 w) = false ∨ edgeFrom e.1 e.2.1 w ∈ h.walls ∨ edgeFrom e.1 e.2.1 w ∈ doorEdges h.doors ws then none else some (ws.set d w)
def optWs : Option (List Sg) → PyData
  | none => .none
  | some ws => .str (wsS ws)
inductive R_swung_ways : List PyData → PyData → Prop
  | mk (h : Hall) (ws : List Sg) (d : Nat) (w : Sg) (hd : h.doors.length ≤ 100) (hw : ws.length = h.doors.length) (hl : d < h.doors.length) : R_swung_ways [hallD h, .str (wsS ws), .int d, sg w] (optWs (swung h ws d w))
theorem len_wsS (ws : List Sg) : (wsS ws).length = ws.length := by
  show ((ws.map Sg.code).toArray).size = ws.length
  simp
theorem cut_ways (ws : List Sg) (d : Nat) (w : Sg) (hl : d < ws.length) : cutS (wsS ws) none (some (d : Int)) ++ (⟨#[w.code]⟩ : Str) ++ cutS (wsS ws) (some ((d : Int) + 1)) none = wsS (ws.set d w) := by
  have e1 : cutS (wsS ws) none (some (d : Int)) = wsS (ws.take d) := by
    unfold cutS
    rw [len_wsS, HT.sIx_none, HT.sIx_nat]
    show (⟨(((ws.map Sg.code).toArray.toList.drop 0).take (min d ws.length - 0)).toArray⟩ : Str) = ⟨((ws.take d).map Sg.code).toArray⟩
    rw [List.toList_toArray, List.drop_zero, Nat.min_eq_left (by omega), Nat.sub_zero, List.map_take]
  have e2 : cutS (wsS ws) (some ((d : Int) + 1)) none = wsS (ws.drop (d + 1)) := by
    unfold cutS
    have e : ((d : Int) + 1) = ((d + 1 : Nat) : Int) := by omega
    rw [len_wsS, e, HT.sIx_nat, HT.sIx_none]
    show (⟨(((ws.map Sg.code).toArray.toList.drop (min (d + 1) ws.length)).take (ws.length - min (d + 1) ws.length)).toArray⟩ : Str) = ⟨((ws.drop (d + 1)).map Sg.code).toArray⟩
    rw [List.toList_toArray, Nat.min_eq_left (by omega), List.map_drop, List.take_of_length_le (by simp)]
  rw [e1, e2, show (⟨#[w.code]⟩ : Str) = wsS [w] from rfl, wsS_append, wsS_append]
  congr 1
  rw [List.set_eq_take_append_cons_drop, if_pos hl]
  simp
theorem rp_swung_ways {ds : List PyData} {d : PyData} (h : R_swung_ways ds d) : RD (rd_swung_ways K (spR R_door_edges) (spR R_edge_from) (spR R_is_edge)) (ds.map some ++ List.replicate (8 - ds.length) none) d := by
  obtain ⟨h, ws, d, w, hd, hw, hl⟩ := h
  have he : h.doors[d]? = some h.doors[d] := List.getElem?_eq_getElem hl
  generalize h.doors[d] = e at he
  have hat : atI (h.doors.map edgeD) (d : Int) = some (edgeD e) := atI_nat (by rw [List.getElem?_map, he]; rfl)
  refine rd_seq (sd_asg (d := edgeD e) (ed_op (by walk_at "ed") (ed_var rfl) (r2_ixT hat)) (gd_tup (vs := [4, 5, 6]) (gds_cons (gd_name (by simp)) (gds_cons (gd_name (by simp)) (gds_cons (gd_name (by simp)) gds_nil))) rfl)) ?_
  refine rd_seq (sd_set (ed_call (by walk_at "ed") (.mk e.1 e.2.1 w))) ?_
  have h1 : ET (tOr (tNot (tB (tCallD (spR R_is_edge) (tCons (tVar 0) (tCons (tVar 7) tNil))))) (tOr (tTest (tOp (rInX K false) (tVar 7) (tOp (rIx K) (tVar 0) (tC (.int 2))))) (tTest (tOp (rInX K false) (tVar 7) (tCallD (spR R_door_edges) (tCons (tVar 0) (tCons (tVar 1) tNil)))))))
      [some (hallD h), some (.str (wsS ws)), some (.int d), some (sg w), some (.int e.1), some (.int e.2.1), some (sg e.2.2), some (edgeD (edgeFrom e.1 e.2.1 w))]
      (!isEdge h (edgeFrom e.1 e.2.1 w) || (decide (edgeFrom e.1 e.2.1 w ∈ h.walls) || decide (edgeFrom e.1 e.2.1 w ∈ doorEdges h.doors ws))) := by
    refine et_or (et_not (et_B (ed_call (by walk_at "ed") (.mk h _)))) fun _ => et_or (et_test ?_) fun _ => et_test ?_
    · exact ED.is (ed_op (ed_var rfl) (ed_op (ed_var rfl) ed_int (r2_ixT rfl)) (r2_inT (sh_edge _) (sh_edges _))) (congrArg PyData.bool (any_edge _ _))
    · exact ED.is (ed_op (ed_var rfl) (ed_call (by walk_at "ed") (.mk h ws hd)) (r2_inL (sh_edge _) (sh_edgesL _))) (congrArg PyData.bool (any_edge _ _))
  refine rd_ifS h1 (fun hb => ?_) (fun hb => ?_)
  · refine rd_ret (ED.is ed_non ?_)
    have hc : isEdge h (edgeFrom e.1 e.2.1 w) = false ∨ edgeFrom e.1 e.2.1 w ∈ h.walls ∨ edgeFrom e.1 e.2.1 w ∈ doorEdges h.doors ws := by
      simpa [Bool.or_eq_true] using hb
    simp only [swung, he]
    rw [if_pos hc]
    rfl
  · have hc : ¬ (isEdge h (edgeFrom e.1 e.2.1 w) = false ∨ edgeFrom e.1 e.2.1 w ∈ h.walls ∨ edgeFrom e.1 e.2.1 w ∈ doorEdges h.doors ws) := fun z => by
      rcases z with z | z | z
      · simp [z] at hb
      · simp [z] at hb
      · simp [z] at hb
    have hwl : d < ws.length := by omega
    have l0 := len_wsS ws
    have l1 : (cutS (wsS ws) none (some (d : Int))).length ≤ ws.length := by rw [← l0]; exact cutS_length _ _ _
    have l2 : (cutS (wsS ws) (some ((d : Int) + 1)) none).length ≤ ws.length := by rw [← l0]; exact cutS_length _ _ _
    refine rd_ret (ED.is (ed_op (ed_op (ed_slS (ed_var rfl) eo_none (eo_some (ed_var rfl)) (by rw [l0]; omega)) (ed_var (d := sg w) rfl) (r2_addS ?_)) (ed_slS (ed_var rfl) (eo_some (ed_op (ed_var rfl) ed_int r2_addI)) eo_none (by rw [l0]; omega)) (r2_addS ?_)) ?_)
    · show _ + 1 ≤ 100000
      omega
    · have e3 : (cutS (wsS ws) none (some (d : Int)) ++ (⟨#[w.code]⟩ : Str)).length = (cutS (wsS ws) none (some (d : Int))).length + 1 := by
        show (_ ++ #[w.code] : Array Nat).size = _
        rw [Array.size_append]
        rfl
      rw [e3]
      omega
    · rw [cut_ways ws d w hwl]
      simp only [swung, he]
      rw [if_neg hc]
      rfl
/-- a step: the standing behind it, the door that swings -/
def stepDone (h : Hall) (s : Stand) (k : Nat) (w : Sg) : Option (Stand × Option Nat) :=
  match s.cells[k]? with
  | none => none
  | some c =>
    if inH h (nextC c w) = false ∨ nextC c w ∈ s.cells ∨ crossed c w ∈ h.walls then none
    else match (doorEdges h.doors s.ways).findIdx? (· == crossed c w) with
      | none => some (⟨s.cells.set k (nextC c w), s.ways⟩, none)
      | some d => (swung h s.ways d w).map fun ws => (⟨s.cells.set k (nextC c w), ws⟩, some d)
def optN : Option Nat → PyData
  | none => .none
  | some n => .int n
def doneD : Option (Stand × Option Nat) → PyData
  | none => .none
  | some p => .tuple [standD p.1, optN p.2]
end
end Pd

/-! Sem4 -/
set_option Elab.async false
set_option linter.all false
set_option maxRecDepth 100000
set_option maxHeartbeats 4000000
namespace Pd
open PySem PySem.Spec PyProof.Rows L2 PySem.W
local macro_rules | `(tactic| walk_at "ed") => `(tactic| repeat' (first
  | with_reducible (first
    | exact ed_int | exact ed_str | exact ed_bl | exact ed_non
    | exact ea_nil | refine' ea_cons ?_ ?_
    | refine' ed_isi ?_ ?_ | refine' ed_isi2 ?_ ?_ ?_
    | refine' ed_andV ?_ (fun _ => ?_) | refine' ed_orV ?_ (fun _ => ?_) | refine' ed_notV ?_
    | refine' ed_chain ?_ ?_ ?_ (fun _ => ⟨?_, ?_⟩)
    | refine' ed_tup ?_ ?_ | refine' ed_lst ?_ ?_
    | refine' et_not ?_ | refine' et_and ?_ (fun _ => ?_) | refine' et_or ?_ (fun _ => ?_) | exact et_yes
    | refine' et_test ?_ | refine' et_B ?_
    | refine' ed_op ?_ ?_ ?_
    | refine' ed_cb ?_ ?_)
  | exact ed_var rfl
  | exact kit_tt | exact kit_ii | exact kit_ib | exact kit_ll | exact kit_lt | exact kit_tl
  | exact r2_addI | exact r2_subI | exact r2_lt | exact r2_le | exact r2_gt | exact r2_ge | exact r2_isN | exact r2_notN
  | exact rc_lenT | exact rc_lenL | exact rc_intB | exact rc_tupL
  | with_reducible (first | refine' r2_eq ?_ ?_ | refine' r2_ne ?_ ?_)
  | exact sh_int _ | exact sh_sg _ | exact sh_cell _ | exact sh_edge _ | exact sh_pair _ | exact sh_str _ (by decide +kernel)
  | exact r2_ixT rfl | exact r2_ixL rfl
  | refine' ed_tup ?_ ?_
  | (show List.length _ ≤ 100000; simp; done)))
theorem ed_index {K : PySem.W.Frag} {ρ : Rho} {to te : TE} {ds : List PyData} {d z : PyData} {j : Nat} (h : ED to ρ (.list ds)) (hd : ED te ρ d) (sl : SeqAt.shaped (.list ds) = true) (sd : SeqAt.shaped d = true) (hz : ds[j]? = some z) (he : PyData.eqv z d = true)
    (hno : ∀ (m : Nat) (z' : PyData), m < j → ds[m]? = some z' → PyData.eqv z' d = false) : ED (tBM K "list" (rIndexD K) to (tCons te tNil)) ρ (.int (j : Nat)) := fun σ B H ex ev Q q => by
  refine h σ B H ex ev _ fun v B1 H1 g1 d1 => ?_
  have dl := d1
  cases d1 with
  | @lst a xs _ ha hs =>
    refine ⟨.inl ⟨rfl, _, SqL.of (g1.t _ _ ha)⟩, ?_⟩
    refine hd σ B1 H1 g1.t (ev.mono g1.b) _ fun y B2 H2 g2 d2 => ?_
    exact ⟨a, y, d, ds, j, z, rfl, rfl, ((dl.mono g2.b).mono g2.t).dp, (d2.mono g2.t).dp, sl, sd, hz, he, hno, q _ B2 H2 (g1.trans g2) (.int _)⟩
theorem cut_cells (cs : List Cell) (k : Nat) (a : Cell) (hk : k < cs.length) : cutD (cs.map cellD) none (some (k : Int)) ++ [cellD a] ++ cutD (cs.map cellD) (some ((k : Int) + 1)) none = (cs.set k a).map cellD := by
  have e1 : cutD (cs.map cellD) none (some (k : Int)) = (cs.take k).map cellD := by
    unfold cutD
    rw [HT.sIx_none, HT.sIx_nat, List.drop_zero, List.length_map, Nat.min_eq_left (by omega), Nat.sub_zero, List.map_take]
  have e2 : cutD (cs.map cellD) (some ((k : Int) + 1)) none = (cs.drop (k + 1)).map cellD := by
    unfold cutD
    have e : ((k : Int) + 1) = ((k + 1 : Nat) : Int) := by omega
    rw [e, HT.sIx_nat, HT.sIx_none, List.length_map, Nat.min_eq_left (by omega), List.map_drop, List.take_of_length_le (by simp)]
  rw [e1, e2, show [cellD a] = [a].map cellD from rfl, ← List.map_append, ← List.map_append]
  congr 1
  rw [List.set_eq_take_append_cons_drop, if_pos hk]
  simp
theorem cutD_le (ds : List PyData) (lo hi : Option Int) : (cutD ds lo hi).length ≤ ds.length := by
  unfold cutD
  rw [List.length_take, List.length_drop]
  omega
theorem ed_setCells {K : PySem.W.Frag} {ρ : Rho} {cs : List Cell} {k i j l : Nat} {a : Cell} (hk : k < cs.length) (hl : cs.length ≤ 1000) (h1 : ρ[i]? = some (some (cellsD cs))) (h2 : ρ[j]? = some (some (.int k))) (h3 : ρ[l]? = some (some (cellD a))) :
    ED (tOp (rAddX K) (tOp (rAddX K) (tSl (rSlX K) (tVar i) tNoPart (tPart (tVar j))) (tTup (tCons (tVar l) tNil))) (tSl (rSlX K) (tVar i) (tPart (tOp (rAddX K) (tVar j) (tC (.int 1)))) tNoPart)) ρ (cellsD (cs.set k a)) := by
  have m1 := cutD_le (cs.map cellD) none (some (k : Int))
  have m2 := cutD_le (cs.map cellD) (some ((k : Int) + 1)) none
  rw [List.length_map] at m1 m2
  refine ED.is (ed_op (ed_op (ed_slT (ed_var h1) eo_none (eo_some (ed_var h2))) (ed_tup (ea_cons (ed_var h3) ea_nil) (by simp)) (r2_catT ?_)) (ed_slT (ed_var h1) (eo_some (ed_op (ed_var h2) ed_int r2_addI)) eo_none) (r2_catT ?_)) (congrArg PyData.tuple (cut_cells cs k a hk))
  · rw [List.length_singleton]
    omega
  · rw [List.length_append, List.length_singleton]
    omega
inductive R_step_done : List PyData → PyData → Prop
  | mk (h : Hall) (s : Stand) (k : Nat) (w : Sg) (hd : h.doors.length ≤ 100) (hw : s.ways.length = h.doors.length) (hc : s.cells.length ≤ 100) (hk : k < s.cells.length) : R_step_done [hallD h, standD s, stepD k w] (doneD (stepDone h s k w))
theorem len_doorEdges {ds : List Edge} {ws : List Sg} (h : ws.length = ds.length) : (doorEdges ds ws).length = ds.length := by
  unfold doorEdges
  rw [List.length_zipWith]
  omega
section
variable {K : PySem.W.Frag}
theorem rp_step_done {ds : List PyData} {d : PyData} (h : R_step_done ds d) : RD (rd_step_done K (spR R_door_edges) (spR R_edge_crossed) (spR R_is_cell) (spR R_next_cell) (spR R_swung_ways)) (ds.map some ++ List.replicate (13 - ds.length) none) d := by
  obtain ⟨h, s, k, w, hd, hw, hcl, hk⟩ := h
  have he : s.cells[k]? = some s.cells[k] := List.getElem?_eq_getElem hk
  generalize s.cells[k] = c at he
  have hat : atI (s.cells.map cellD) (k : Int) = some (cellD c) := atI_nat (by rw [List.getElem?_map, he]; rfl)
  refine rd_seq (sd_asg (d := standD s) (by walk_at "ed") (gd_tup (vs := [3, 4]) (gds_cons (gd_name (by simp)) (gds_cons (gd_name (by simp)) gds_nil)) rfl)) ?_
  refine rd_seq (sd_asg (d := stepD k w) (by walk_at "ed") (gd_tup (vs := [5, 6]) (gds_cons (gd_name (by simp)) (gds_cons (gd_name (by simp)) gds_nil)) rfl)) ?_
  refine rd_seq (sd_set (ed_call (ea_cons (ed_op (ed_var rfl) (ed_var rfl) (r2_ixT hat)) (ea_cons (ed_var rfl) ea_nil)) (.mk c w))) ?_
  refine rd_seq (sd_set (ed_call (ea_cons (ed_op (ed_var rfl) (ed_var rfl) (r2_ixT hat)) (ea_cons (ed_var rfl) ea_nil)) (.mk c w))) ?_
  have h1 : ET (tOr (tNot (tB (tCallD (spR R_is_cell) (tCons (tVar 0) (tCons (tVar 7) tNil))))) (tOr (tTest (tOp (rInX K false) (tVar 7) (tVar 3))) (tTest (tOp (rInX K false) (tVar 8) (tOp (rIx K) (tVar 0) (tC (.int 2)))))))
      [some (hallD h), some (standD s), some (stepD k w), some (cellsD s.cells), some (.str (wsS s.ways)), some (.int k), some (sg w), some (cellD (nextC c w)), some (edgeD (crossed c w)), none, none, none, none]
      (!inH h (nextC c w) || (decide (nextC c w ∈ s.cells) || decide (crossed c w ∈ h.walls))) := by
    refine et_or (et_not (et_B (ed_call (by walk_at "ed") (.mk h _)))) fun _ => et_or (et_test ?_) fun _ => et_test ?_
    · exact ED.is (ed_op (ed_var rfl) (ed_var rfl) (r2_inT (sh_cell _) (sh_cells _))) (congrArg PyData.bool (any_cell _ _))
    · exact ED.is (ed_op (ed_var rfl) (ed_op (ed_var rfl) ed_int (r2_ixT rfl)) (r2_inT (sh_edge _) (sh_edges _))) (congrArg PyData.bool (any_edge _ _))
  refine rd_ifS h1 (fun hb => ?_) (fun hb => ?_)
  · refine rd_ret (ED.is ed_non ?_)
    have hc : inH h (nextC c w) = false ∨ nextC c w ∈ s.cells ∨ crossed c w ∈ h.walls := by
      simpa [Bool.or_eq_true] using hb
    simp only [stepDone, he]
    rw [if_pos hc]
    rfl
  have hc : ¬ (inH h (nextC c w) = false ∨ nextC c w ∈ s.cells ∨ crossed c w ∈ h.walls) := fun z => by
    rcases z with z | z | z
    · simp [z] at hb
    · simp [z] at hb
    · simp [z] at hb
  refine rd_seq (sd_set (ed_setCells (k := k) hk (by omega) rfl rfl rfl)) ?_
  refine rd_seq (sd_set (ed_call (by walk_at "ed") (.mk h s.ways hd))) ?_
  have h2 : ET (tTest (tOp (rInX K true) (tVar 8) (tVar 10))) [some (hallD h), some (standD s), some (stepD k w), some (cellsD s.cells), some (.str (wsS s.ways)), some (.int k), some (sg w), some (cellD (nextC c w)), some (edgeD (crossed c w)), some (cellsD (s.cells.set k (nextC c w))), some (.list ((doorEdges h.doors s.ways).map edgeD)), none, none]
      (!decide (crossed c w ∈ doorEdges h.doors s.ways)) :=
    et_test (ED.is (ed_op (ed_var rfl) (ed_var rfl) (r2_inL (sh_edge _) (sh_edgesL _))) (congrArg (fun b => PyData.bool (!b)) (any_edge _ _)))
  refine rd_ifS h2 (fun hb2 => ?_) (fun hb2 => ?_)
  · have hn : crossed c w ∉ doorEdges h.doors s.ways := by simpa using hb2
    have hf : (doorEdges h.doors s.ways).findIdx? (· == crossed c w) = none := by
      rw [List.findIdx?_eq_none_iff]
      intro x hx
      simp only [beq_eq_false_iff_ne]
      exact fun z => hn (z ▸ hx)
    refine rd_ret (ED.is (ed_tup (ea_cons (ed_tup (ea_cons (ed_var rfl) (ea_cons (ed_var rfl) ea_nil)) (by simp)) (ea_cons ed_non ea_nil)) (by simp)) ?_)
    simp only [stepDone, he]
    rw [if_neg hc, hf]
    rfl
  · have hm : crossed c w ∈ doorEdges h.doors s.ways := by simpa using hb2
    obtain ⟨j, hf⟩ : ∃ j, (doorEdges h.doors s.ways).findIdx? (· == crossed c w) = some j := by
      cases hf : (doorEdges h.doors s.ways).findIdx? (· == crossed c w) with
      | none =>
        rw [List.findIdx?_eq_none_iff] at hf
        have := hf _ hm
        simp at this
      | some j => exact ⟨j, rfl⟩
    obtain ⟨hjl, hj1, hj2⟩ := List.findIdx?_eq_some_iff_getElem.mp hf
    have hjd : j < h.doors.length := by rw [len_doorEdges hw] at hjl; exact hjl
    have hje : (doorEdges h.doors s.ways)[j]? = some (crossed c w) := by
      rw [List.getElem?_eq_getElem hjl]
      simp only [beq_iff_eq] at hj1
      rw [hj1]
    refine rd_seq (sd_set (ed_index (j := j) (z := edgeD (crossed c w)) (ed_var rfl) (ed_var rfl) (sh_edgesL _) (sh_edge _) (by rw [List.getElem?_map, hje]; rfl) (by rw [eqv_edge]; simp) fun m z' hmj hz' => ?_)) ?_
    · rw [List.getElem?_map] at hz'
      have hml : m < (doorEdges h.doors s.ways).length := by omega
      rw [List.getElem?_eq_getElem hml] at hz'
      have := hj2 m hmj
      cases hz'
      rw [eqv_edge]
      simpa using this
    refine rd_seq (sd_set (ed_call (by walk_at "ed") (.mk h s.ways j w hd hw hjd))) ?_
    simp only [stepDone, he]
    rw [if_neg hc, hf]
    show RD _ _ (doneD ((swung h s.ways j w).map fun ws => ((⟨s.cells.set k (nextC c w), ws⟩ : Stand), some j)))
    cases hsw : swung h s.ways j w with
    | none =>
      refine rd_ifS (b := true) (ET.is (et_test (ed_op (ed_var rfl) ed_non r2_isN)) (by rfl)) (fun _ => ?_) (fun z => nomatch z)
      exact rd_ret ed_non
    | some ws =>
      refine rd_ifS (b := false) (ET.is (et_test (ed_op (ed_var rfl) ed_non r2_isN)) (by rfl)) (fun z => nomatch z) (fun _ => ?_)
      exact rd_ret (ED.is (ed_tup (ea_cons (ed_tup (ea_cons (ed_var rfl) (ea_cons (ed_var rfl) ea_nil)) (by simp)) (ea_cons (ed_var rfl) ea_nil)) (by simp)) rfl)
end
end Pd

/-! Sem5 -/
set_option Elab.async false
set_option linter.all false
set_option maxRecDepth 100000
set_option maxHeartbeats 4000000
namespace Pd
open PySem PySem.Spec PyProof.Rows L2 PySem.W
local macro_rules | `(tactic| walk_at "ed") => `(tactic| repeat' (first
  | with_reducible (first
    | exact ed_int | exact ed_str | exact ed_bl | exact ed_non
    | exact ea_nil | refine' ea_cons ?_ ?_
    | refine' ed_isi ?_ ?_ | refine' ed_isi2 ?_ ?_ ?_
    | refine' ed_andV ?_ (fun _ => ?_) | refine' ed_orV ?_ (fun _ => ?_) | refine' ed_notV ?_
    | refine' ed_chain ?_ ?_ ?_ (fun _ => ⟨?_, ?_⟩)
    | refine' ed_tup ?_ ?_ | refine' ed_lst ?_ ?_
    | refine' et_not ?_ | refine' et_and ?_ (fun _ => ?_) | refine' et_or ?_ (fun _ => ?_) | exact et_yes
    | refine' et_test ?_ | refine' et_B ?_
    | refine' ed_op ?_ ?_ ?_
    | refine' ed_cb ?_ ?_)
  | exact ed_var rfl
  | exact kit_tt | exact kit_ii | exact kit_ib | exact kit_ll | exact kit_lt | exact kit_tl
  | exact r2_addI | exact r2_subI | exact r2_lt | exact r2_le | exact r2_gt | exact r2_ge | exact r2_isN | exact r2_notN
  | exact rc_lenT | exact rc_lenL | exact rc_intB | exact rc_tupL
  | with_reducible (first | refine' r2_eq ?_ ?_ | refine' r2_ne ?_ ?_)
  | exact sh_int _ | exact sh_sg _ | exact sh_cell _ | exact sh_edge _ | exact sh_pair _ | exact sh_str _ (by decide +kernel)
  | exact r2_ixT rfl | exact r2_ixL rfl
  | refine' ed_tup ?_ ?_
  | (show List.length _ ≤ 100000; simp; done)))
/-! ### the law's own step -/
/-- the two cells on an edge's sides -/
def shutP (e : Edge) : Cell × Cell := if e.2.2 = .h then ((e.1 - 1, e.2.1), (e.1, e.2.1)) else ((e.1, e.2.1 - 1), (e.1, e.2.1))
def HV (e : Edge) : Prop := e.2.2 = .h ∨ e.2.2 = .v
theorem shutP_inj {a b : Edge} (ha : HV a) (hb : HV b) (h : shutP a = shutP b) : a = b := by
  obtain ⟨a1, a2, a3⟩ := a
  obtain ⟨b1, b2, b3⟩ := b
  have ha' : a3 = .h ∨ a3 = .v := ha
  have hb' : b3 = .h ∨ b3 = .v := hb
  rcases ha' with rfl | rfl <;> rcases hb' with rfl | rfl <;> simp [shutP] at h ⊢ <;> omega
theorem hv_from (r c : Int) (w : Sg) : HV (edgeFrom r c w) := by
  unfold edgeFrom HV
  split
  · exact .inr rfl
  · split
    · exact .inl rfl
    · split
      · exact .inr rfl
      · exact .inl rfl
theorem hv_crossed (c : Cell) (w : Sg) : HV (crossed c w) := by
  unfold crossed HV
  split
  · exact .inl rfl
  · split
    · exact .inr rfl
    · split
      · exact .inl rfl
      · exact .inr rfl
theorem hv_doorEdges {ds : List Edge} {ws : List Sg} : ∀ e ∈ doorEdges ds ws, HV e := fun e he => by
  unfold doorEdges at he
  obtain ⟨i, hi, rfl⟩ := List.mem_iff_getElem.mp he
  rw [List.getElem_zipWith]
  exact hv_from _ _ _
theorem mem_shut {es : List Edge} {e : Edge} (h : ∀ x ∈ es, HV x) (he : HV e) : shutP e ∈ es.map shutP ↔ e ∈ es := by
  constructor
  · intro hm
    obtain ⟨x, hx, q⟩ := List.mem_map.mp hm
    rw [← shutP_inj (h x hx) he q]
    exact hx
  · exact fun hm => List.mem_map_of_mem hm
inductive R_L_shut : List PyData → PyData → Prop | mk (e : Edge) : R_L_shut [edgeD e] (pairD (shutP e))
inductive R_L_pair : List PyData → PyData → Prop | mk (c : Cell) (w : Sg) (h : Way w) : R_L_pair [cellD c, sg w] (pairD (shutP (edgeFrom c.1 c.2 w)))
inductive R_L_next : List PyData → PyData → Prop | mk (c : Cell) (w : Sg) (h : Way w) : R_L_next [cellD c, sg w] (cellD (nextC c w))
def inRC (r c : Int) (x : Cell) : Bool := decide (0 ≤ x.1 ∧ x.1 < r ∧ 0 ≤ x.2 ∧ x.2 < c)
inductive R_L_within : List PyData → PyData → Prop
  | mk (r c : Int) (rest : List PyData) (p : Cell × Cell) : R_L_within [.tuple (.int r :: .int c :: rest), pairD p] (.bool (inRC r c p.1 && inRC r c p.2))
section
variable {K : PySem.W.Frag}
theorem rp_L_shut {ds : List PyData} {d : PyData} (h : R_L_shut ds d) : RD (rd_L_shut K) (ds.map some ++ List.replicate (4 - ds.length) none) d := by
  obtain ⟨e⟩ := h
  refine rd_seq (sd_asg (d := edgeD e) (by walk_at "ed") (gd_tup (vs := [1, 2, 3]) (gds_cons (gd_name (by simp)) (gds_cons (gd_name (by simp)) (gds_cons (gd_name (by simp)) gds_nil))) rfl)) ?_
  refine rd_ret (ed_if (b := decide (e.2.2 = .h)) (ET.is (by walk_at "ed") (by rw [lit_h, eqv_sg])) (fun hb => ?_) (fun hb => ?_))
  · have h1 := of_decide_eq_true hb
    exact ED.is (by walk_at "ed") (by simp [shutP, h1, pairD, cellD])
  · have h1 := of_decide_eq_false hb
    exact ED.is (by walk_at "ed") (by simp [shutP, h1, pairD, cellD])
theorem in_ns (w : Sg) : decide (w.code ∈ ("ns" : Str).cps.toList) = decide (w = .n ∨ w = .s) := by
  cases w <;> decide +kernel
theorem rp_L_pair {ds : List PyData} {d : PyData} (h : R_L_pair ds d) : RD (rd_L_pair K) (ds.map some ++ List.replicate (6 - ds.length) none) d := by
  obtain ⟨c, w, h⟩ := h
  refine rd_seq (sd_asg (d := cellD c) (by walk_at "ed") (gd_tup (vs := [2, 3]) (gds_cons (gd_name (by simp)) (gds_cons (gd_name (by simp)) gds_nil)) rfl)) ?_
  refine rd_ifS (b := decide (w = .n ∨ w = .s)) (et_test (ED.is (ed_op (ed_var rfl) ed_str (r2_inS (c := w.code))) (congrArg PyData.bool (in_ns w)))) (fun hb => ?_) (fun hb => ?_)
  · have h1 := of_decide_eq_true hb
    refine rd_seq (sd_set (ED.is (by walk_at "ed") (congrArg (fun b : Bool => PyData.int (c.1 - if b = true then 1 else 0)) (by rw [lit_n, eqv_sg])))) ?_
    refine rd_ret (ED.is (by walk_at "ed") ?_)
    rcases h1 with rfl | rfl
    · simp [shutP, edgeFrom, pairD, cellD]
    · simp [shutP, edgeFrom, pairD, cellD]
  · have h1 := of_decide_eq_false hb
    refine rd_seq (sd_set (ED.is (by walk_at "ed") (congrArg (fun b : Bool => PyData.int (c.2 - if b = true then 1 else 0)) (by rw [lit_w, eqv_sg])))) ?_
    refine rd_ret (ED.is (by walk_at "ed") ?_)
    rcases h with rfl | rfl | rfl | rfl
    · simp [shutP, edgeFrom, pairD, cellD]
    · exact absurd (.inl rfl) h1
    · exact absurd (.inr rfl) h1
    · simp [shutP, edgeFrom, pairD, cellD]
theorem rp_L_within {ds : List PyData} {d : PyData} (h : R_L_within ds d) : RD (rd_L_within K) (ds.map some ++ List.replicate (4 - ds.length) none) d := by
  obtain ⟨r, c, rest, p⟩ := h
  have h1 : ED (tLc (iTup K (tVar 1)) (gName 3) (tAnd (tTest (tChain rLeI rLtI (tC (.int 0)) (tOp (rIx K) (tVar 3) (tC (.int 0))) (tOp (rIx K) (tVar 0) (tC (.int 0))))) (tTest (tChain rLeI rLtI (tC (.int 0)) (tOp (rIx K) (tVar 3) (tC (.int 1))) (tOp (rIx K) (tVar 0) (tC (.int 1)))))) (tVar 3) [3])
      [some (.tuple (.int r :: .int c :: rest)), some (pairD p), none, none] (.list (([p.1, p.2].filter fun x => inRC r c x).map cellD)) := by
    refine ed_lcT [p.1, p.2] cellD (fun x => inRC r c x) cellD (ie_tup (ed_var rfl)) (by simp) fun x _ => ⟨_, gd_name (by simp), ?_, fun _ => ed_var rfl⟩
    have a0 : atI (PyData.int r :: PyData.int c :: rest) 0 = some (.int r) := atI_nat (j := 0) rfl
    have a1 : atI (PyData.int r :: PyData.int c :: rest) 1 = some (.int c) := atI_nat (j := 1) rfl
    refine ET.is (et_and (et_test (ed_chain ed_int (ed_op (ed_var (d := cellD x) rfl) ed_int (r2_ixT rfl)) r2_le fun _ => ⟨ed_op (ed_var rfl) ed_int (r2_ixT a0), r2_lt⟩)) fun _ => et_test (ed_chain ed_int (ed_op (ed_var (d := cellD x) rfl) ed_int (r2_ixT rfl)) r2_le fun _ => ⟨ed_op (ed_var rfl) ed_int (r2_ixT a1), r2_lt⟩)) ?_
    by_cases q1 : 0 ≤ x.1
    · by_cases q2 : x.1 < r
      · by_cases q3 : 0 ≤ x.2
        · by_cases q4 : x.2 < c
          · simp [inRC, q1, q2, q3, q4]
          · simp [inRC, q1, q2, q3, q4]
        · simp [inRC, q1, q2, q3]
      · simp [inRC, q1, q2]
    · simp [inRC, q1]
  refine rd_seq (sd_set h1) ?_
  refine rd_ret (ED.is (ed_op (ed_cb (ea_cons (ed_var rfl) ea_nil) rc_lenL) ed_int (r2_eq (sh_int _) (sh_int _))) ?_)
  rw [eqv_int]
  cases e1 : inRC r c p.1 <;> cases e2 : inRC r c p.2 <;> simp [e1, e2]
theorem rp_L_next {ds : List PyData} {d : PyData} (h : R_L_next ds d) : RD (rd_L_next K) (ds.map some ++ List.replicate (2 - ds.length) none) d := by
  obtain ⟨c, w, h⟩ := h
  have ix0 : ED (tOp (rIx K) (tVar 0) (tC (.int 0))) [some (cellD c), some (sg w)] (.int c.1) := ed_op (ed_var rfl) ed_int (r2_ixT rfl)
  have ix1 : ED (tOp (rIx K) (tVar 0) (tC (.int 1))) [some (cellD c), some (sg w)] (.int c.2) := ed_op (ed_var rfl) ed_int (r2_ixT rfl)
  have g1 := ed_dget2 (ρ := [some (cellD c), some (sg w)]) (a := "s") (b := "n") (x := ⟨#[w.code]⟩) (by decide +kernel) (ed_int (i := 1)) (ed_op (ed_int (i := 0)) (ed_int (i := 1)) r2_subI) (ed_var (i := 1) (d := sg w) rfl) (ed_int (i := 0))
  have g2 := ed_dget2 (ρ := [some (cellD c), some (sg w)]) (a := "e") (b := "w") (x := ⟨#[w.code]⟩) (by decide +kernel) (ed_int (i := 1)) (ed_op (ed_int (i := 0)) (ed_int (i := 1)) r2_subI) (ed_var (i := 1) (d := sg w) rfl) (ed_int (i := 0))
  refine rd_ret (ED.is (ed_tup (ea_cons (ed_op ix0 g1 r2_addI) (ea_cons (ed_op ix1 g2 r2_addI) ea_nil)) (by simp)) ?_)
  have s1 : (("e" : Str) = "s") = False := by simp; decide +kernel
  rcases h with rfl | rfl | rfl | rfl
  · rw [if_neg (by decide +kernel), if_neg (by decide +kernel), if_pos (by decide +kernel)]
    simp [nextC, cellD]
  · rw [if_neg (by decide +kernel), if_pos (by decide +kernel), if_neg (by decide +kernel), if_neg (by decide +kernel)]
    simp [nextC, cellD]
    omega
  · rw [if_pos (by decide +kernel), if_neg (by decide +kernel), if_neg (by decide +kernel)]
    simp [nextC, cellD]
  · rw [if_neg (by decide +kernel), if_neg (by decide +kernel), if_neg (by decide +kernel), if_pos (by decide +kernel)]
    simp [nextC, cellD]
    omega
end
end Pd

/-! Sem6 -/
set_option Elab.async false
set_option linter.all false
set_option maxRecDepth 100000
set_option maxHeartbeats 4000000
namespace Pd
open PySem PySem.Spec PyProof.Rows L2 PySem.W
local macro_rules | `(tactic| walk_at "ed") => `(tactic| repeat' (first
  | with_reducible (first
    | exact ed_int | exact ed_str | exact ed_bl | exact ed_non
    | exact ea_nil | refine' ea_cons ?_ ?_
    | refine' ed_isi ?_ ?_ | refine' ed_isi2 ?_ ?_ ?_
    | refine' ed_andV ?_ (fun _ => ?_) | refine' ed_orV ?_ (fun _ => ?_) | refine' ed_notV ?_
    | refine' ed_chain ?_ ?_ ?_ (fun _ => ⟨?_, ?_⟩)
    | refine' ed_tup ?_ ?_ | refine' ed_lst ?_ ?_
    | refine' et_not ?_ | refine' et_and ?_ (fun _ => ?_) | refine' et_or ?_ (fun _ => ?_) | exact et_yes
    | refine' et_test ?_ | refine' et_B ?_
    | refine' ed_op ?_ ?_ ?_
    | refine' ed_cb ?_ ?_)
  | exact ed_var rfl
  | exact kit_tt | exact kit_ii | exact kit_ib | exact kit_ll | exact kit_lt | exact kit_tl
  | exact r2_addI | exact r2_subI | exact r2_lt | exact r2_le | exact r2_gt | exact r2_ge | exact r2_isN | exact r2_notN
  | exact rc_lenT | exact rc_lenL | exact rc_intB | exact rc_tupL
  | with_reducible (first | refine' r2_eq ?_ ?_ | refine' r2_ne ?_ ?_)
  | exact sh_int _ | exact sh_sg _ | exact sh_cell _ | exact sh_edge _ | exact sh_pair _ | exact sh_str _ (by decide +kernel)
  | exact r2_ixT rfl | exact r2_ixL rfl
  | refine' ed_tup ?_ ?_
  | (show List.length _ ≤ 100000; simp; done)))
structure StepOk (h : Hall) (s : Stand) (k : Nat) (w : Sg) : Prop where
  walls : ∀ e ∈ h.walls, HV e
  nwalls : h.walls.length ≤ 100
  ndoors : h.doors.length ≤ 100
  ways : ∀ x ∈ s.ways, Way x
  nways : s.ways.length = h.doors.length
  cells : ∀ c ∈ s.cells, inH h c = true
  ncells : s.cells.length ≤ 100
  k : k < s.cells.length
  w : Way w
inductive R_L_step : List PyData → PyData → Prop
  | mk (h : Hall) (s : Stand) (k : Nat) (w : Sg) (o : StepOk h s k w) : R_L_step [hallD h, standD s, stepD k w] (doneD (stepDone h s k w))
theorem inRC_eq (h : Hall) (c : Cell) : inRC h.rows h.cols c = inH h c := rfl
/-- the edge that is crossed lies between the two cells, the lesser first -/
theorem pair_crossed (c : Cell) (w : Sg) (hw : Way w) : ((if ltP (nextC c w) c = true then nextC c w else c), (if ltP c (nextC c w) = true then nextC c w else c)) = shutP (crossed c w) := by
  obtain ⟨r, k⟩ := c
  rcases hw with rfl | rfl | rfl | rfl
  · have a : ¬ (ltP (r, k + 1) (r, k) = true) := by simp [ltP] <;> omega
    have b : ltP (r, k) (r, k + 1) = true := by simp [ltP] <;> omega
    simp [nextC, crossed, shutP, a, b]
  · have a : ltP (r - 1, k) (r, k) = true := by simp [ltP] <;> omega
    have b : ¬ (ltP (r, k) (r - 1, k) = true) := by simp [ltP] <;> omega
    simp [nextC, crossed, shutP, a, b]
  · have a : ¬ (ltP (r + 1, k) (r, k) = true) := by simp [ltP] <;> omega
    have b : ltP (r, k) (r + 1, k) = true := by simp [ltP] <;> omega
    simp [nextC, crossed, shutP, a, b]
  · have a : ltP (r, k - 1) (r, k) = true := by simp [ltP] <;> omega
    have b : ¬ (ltP (r, k) (r, k - 1) = true) := by simp [ltP] <;> omega
    simp [nextC, crossed, shutP, a, b]
theorem within_crossed (h : Hall) (c : Cell) (w : Sg) (hw : Way w) (hc : inH h c = true) : (inRC h.rows h.cols (shutP (crossed c w)).1 && inRC h.rows h.cols (shutP (crossed c w)).2) = inH h (nextC c w) := by
  rw [← pair_crossed c w hw]
  show (inH h _ && inH h _) = _
  by_cases a : ltP (nextC c w) c = true
  · by_cases b : ltP c (nextC c w) = true
    · simp only [if_pos a, if_pos b, Bool.and_self]
    · simp only [if_pos a, if_neg b, hc, Bool.and_true]
  · by_cases b : ltP c (nextC c w) = true
    · simp only [if_neg a, if_pos b, hc, Bool.true_and]
    · exfalso
      obtain ⟨r, k⟩ := c
      rcases hw with rfl | rfl | rfl | rfl <;> (simp [nextC, ltP] at a b; omega)
theorem within_edge (h : Hall) (e : Edge) (he : HV e) : (inRC h.rows h.cols (shutP e).1 && inRC h.rows h.cols (shutP e).2) = isEdge h e := by
  obtain ⟨r, c, g⟩ := e
  have he' : g = .h ∨ g = .v := he
  rw [Bool.eq_iff_iff]
  rcases he' with rfl | rfl
  · simp [shutP, inRC, isEdge, inH]
    omega
  · simp [shutP, inRC, isEdge, inH]
    omega
theorem mem_doorEdges_ways {ds : List Edge} {ws : List Sg} {k : Nat} {e : Edge} {w : Sg} (h1 : ds[k]? = some e) (h2 : ws[k]? = some w) : (doorEdges ds ws)[k]? = some (edgeFrom e.1 e.2.1 w) := by
  unfold doorEdges
  rw [List.getElem?_zipWith, h1, h2]
section
variable {K : PySem.W.Frag}
theorem rp_L_step {ds : List PyData} {d : PyData} (h : R_L_step ds d) : RD (rd_L_step K (spR R_L_next) (spR R_L_pair) (spR R_L_shut) (spR R_L_within)) (ds.map some ++ List.replicate (15 - ds.length) none) d := by
  obtain ⟨h, s, k, w, o⟩ := h
  have ok := o.k
  have he : s.cells[k]? = some s.cells[k] := List.getElem?_eq_getElem ok
  have hin : inH h s.cells[k] = true := o.cells _ (List.getElem_mem _)
  generalize s.cells[k] = c at he hin
  have hat : atI (s.cells.map cellD) (k : Int) = some (cellD c) := atI_nat (by rw [List.getElem?_map, he]; rfl)
  have nc := o.ncells
  have nd := o.ndoors
  have nw := o.nwalls
  refine rd_seq (sd_asg (d := standD s) (by walk_at "ed") (gd_tup (vs := [3, 4]) (gds_cons (gd_name (by simp)) (gds_cons (gd_name (by simp)) gds_nil)) rfl)) ?_
  refine rd_seq (sd_asg (d := stepD k w) (by walk_at "ed") (gd_tup (vs := [5, 6]) (gds_cons (gd_name (by simp)) (gds_cons (gd_name (by simp)) gds_nil)) rfl)) ?_
  refine rd_seq (sd_set (ed_call (ea_cons (ed_op (ed_var rfl) (ed_var rfl) (r2_ixT hat)) (ea_cons (ed_var rfl) ea_nil)) (.mk c w o.w))) ?_
  refine rd_seq (sd_set (d := .list ((h.walls.map shutP).map pairD)) (ED.is (ed_lcM h.walls edgeD (fun e => pairD (shutP e)) (ie_tup (ed_op (ed_var rfl) (ed_op ed_int ed_int r2_subI) (r2_ixT rfl))) (by omega) fun e _ => ⟨_, gd_name (by simp), ed_call (ea_cons (ed_var rfl) ea_nil) (.mk e)⟩) (by rw [List.map_map]; rfl))) ?_
  have hst : ED (tLc (iRng1 (tCons (tCB (rLenX K) (tCons (tOp (rIx K) (tVar 0) (tC (.int 3))) tNil)) tNil)) (gName 9) tYes (tCallD (spR R_L_pair) (tCons (tSl (rSlX K) (tOp (rIx K) (tOp (rIx K) (tVar 0) (tC (.int 3))) (tVar 9)) tNoPart (tPart (tC (.int 2)))) (tCons (tOp (rIx K) (tVar 4) (tVar 9)) tNil))) [9])
      [some (hallD h), some (standD s), some (stepD k w), some (cellsD s.cells), some (.str (wsS s.ways)), some (.int k), some (sg w), some (cellD (nextC c w)), some (.list ((h.walls.map shutP).map pairD)), none, none, none, none, none, none]
      (.list (((doorEdges h.doors s.ways).map shutP).map pairD)) := by
    have hi := ie_rng1 (ρ := [some (hallD h), some (standD s), some (stepD k w), some (cellsD s.cells), some (.str (wsS s.ways)), some (.int k), some (sg w), some (cellD (nextC c w)), some (.list ((h.walls.map shutP).map pairD)), none, none, none, none, none, none]) (ta := tCons (tCB (rLenX K) (tCons (tOp (rIx K) (tVar 0) (tC (.int 3))) tNil)) tNil) (n := ((h.doors.map edgeD).length : Nat)) (ea_cons (ed_cb (ea_cons (ed_op (ed_var rfl) ed_int (r2_ixT rfl)) ea_nil) rc_lenT) ea_nil) (by omega) (by rw [List.length_map]; omega)
    rw [Int.toNat_natCast, List.length_map] at hi
    refine ED.is (ed_lcM (List.range h.doors.length) (fun k => .int (k : Nat)) (fun j => match (doorEdges h.doors s.ways)[j]? with | some e => pairD (shutP e) | none => .none) hi (by rw [List.length_range]; omega) fun j hj => ?_) ?_
    · have hjl : j < h.doors.length := List.mem_range.mp hj
      have h1 : h.doors[j]? = some h.doors[j] := List.getElem?_eq_getElem hjl
      have hjw : j < s.ways.length := by rw [o.nways]; exact hjl
      have h2 : s.ways[j]? = some s.ways[j] := List.getElem?_eq_getElem hjw
      have hw2 : Way s.ways[j] := o.ways _ (List.getElem_mem _)
      generalize h.doors[j] = e at h1
      generalize s.ways[j] = x at h2 hw2
      have a1 : atI (h.doors.map edgeD) (j : Int) = some (edgeD e) := atI_nat (by rw [List.getElem?_map, h1]; rfl)
      have a2 : atI (wsS s.ways).cps.toList (j : Int) = some x.code := atI_nat (by
        show ((s.ways.map Sg.code).toArray.toList)[j]? = _
        rw [List.toList_toArray, List.getElem?_map, h2]
        rfl)
      rw [mem_doorEdges_ways h1 h2]
      refine ⟨_, gd_name (by simp), ed_call (ea_cons (ed_slT (ds := [.int e.1, .int e.2.1, sg e.2.2]) (ed_op (ed_op (ed_var rfl) ed_int (r2_ixT rfl)) (ed_var rfl) (r2_ixT a1)) eo_none (eo_some ed_int)) (ea_cons (ed_op (ed_var rfl) (ed_var rfl) (r2_ixS (by rw [len_wsS, o.nways]; omega) a2)) ea_nil)) (.mk (e.1, e.2.1) x hw2)⟩
    · congr 1
      refine List.ext_getElem? fun j => ?_
      rw [List.getElem?_map, List.getElem?_map, List.getElem?_map]
      by_cases hj : j < h.doors.length
      · have l1 := len_doorEdges (ds := h.doors) (ws := s.ways) o.nways
        have e1 : (doorEdges h.doors s.ways)[j]? = some (doorEdges h.doors s.ways)[j] := List.getElem?_eq_getElem (by omega)
        rw [List.getElem?_range hj]
        simp only [Option.map_some, e1]
      · have l1 := len_doorEdges (ds := h.doors) (ws := s.ways) o.nways
        rw [List.getElem?_eq_none (by rw [List.length_range]; omega), List.getElem?_eq_none (l := doorEdges h.doors s.ways) (by omega)]
        rfl
  refine rd_seq (sd_set hst) ?_
  refine rd_seq (sd_set (d := pairD (shutP (crossed c w))) (ED.is (ed_tup (ea_cons (ed_cb (ea_cons (ed_op (ed_var rfl) (ed_var rfl) (r2_ixT hat)) (ea_cons (ed_var rfl) ea_nil)) (rc_minT (x := c) (y := nextC c w))) (ea_cons (ed_cb (ea_cons (ed_op (ed_var rfl) (ed_var rfl) (r2_ixT hat)) (ea_cons (ed_var rfl) ea_nil)) (rc_maxT (x := c) (y := nextC c w))) ea_nil)) (by simp)) (congrArg pairD (pair_crossed c w o.w)))) ?_
  have h1 : ET (tOr (tTest (tOp (rInX K false) (tVar 7) (tVar 3))) (tOr (tNot (tB (tCallD (spR R_L_within) (tCons (tVar 0) (tCons (tVar 11) tNil))))) (tTest (tOp (rInX K false) (tVar 11) (tVar 8)))))
      [some (hallD h), some (standD s), some (stepD k w), some (cellsD s.cells), some (.str (wsS s.ways)), some (.int k), some (sg w), some (cellD (nextC c w)), some (.list ((h.walls.map shutP).map pairD)), none, some (.list (((doorEdges h.doors s.ways).map shutP).map pairD)), some (pairD (shutP (crossed c w))), none, none, none]
      (decide (nextC c w ∈ s.cells) || (!inH h (nextC c w) || decide (crossed c w ∈ h.walls))) := by
    refine et_or (et_test ?_) fun _ => et_or (et_not (et_B ?_)) fun _ => et_test ?_
    · exact ED.is (ed_op (ed_var rfl) (ed_var rfl) (r2_inT (sh_cell _) (sh_cells _))) (congrArg PyData.bool (any_cell _ _))
    · exact ED.is (ed_call (ea_cons (ed_var rfl) (ea_cons (ed_var rfl) ea_nil)) (.mk h.rows h.cols _ (shutP (crossed c w)))) (congrArg PyData.bool (within_crossed h c w o.w hin))
    · exact ED.is (ed_op (ed_var rfl) (ed_var rfl) (r2_inL (sh_pair _) (sh_pairsL _))) (congrArg PyData.bool ((any_pair _ _).trans (decide_eq_decide.mpr (mem_shut o.walls (hv_crossed c w)))))
  refine rd_ifS h1 (fun hb => ?_) (fun hb => ?_)
  · refine rd_ret (ED.is ed_non ?_)
    have hc : inH h (nextC c w) = false ∨ nextC c w ∈ s.cells ∨ crossed c w ∈ h.walls := by
      simp only [Bool.or_eq_true, decide_eq_true_eq, Bool.not_eq_true'] at hb
      rcases hb with z | z | z
      · exact .inr (.inl z)
      · exact .inl z
      · exact .inr (.inr z)
    simp only [stepDone, he]
    rw [if_pos hc]
    rfl
  have hc : ¬ (inH h (nextC c w) = false ∨ nextC c w ∈ s.cells ∨ crossed c w ∈ h.walls) := fun z => by
    rcases z with z | z | z
    · simp [z] at hb
    · simp [z] at hb
    · simp [z] at hb
  refine rd_seq (sd_set (ed_setCells (k := k) o.k (by omega) rfl rfl rfl)) ?_
  have h2 : ET (tTest (tOp (rInX K true) (tVar 11) (tVar 10))) [some (hallD h), some (standD s), some (stepD k w), some (cellsD s.cells), some (.str (wsS s.ways)), some (.int k), some (sg w), some (cellD (nextC c w)), some (.list ((h.walls.map shutP).map pairD)), none, some (.list (((doorEdges h.doors s.ways).map shutP).map pairD)), some (pairD (shutP (crossed c w))), some (cellsD (s.cells.set k (nextC c w))), none, none]
      (!decide (crossed c w ∈ doorEdges h.doors s.ways)) :=
    et_test (ED.is (ed_op (ed_var rfl) (ed_var rfl) (r2_inL (sh_pair _) (sh_pairsL _))) (congrArg (fun b => PyData.bool (!b)) ((any_pair _ _).trans (decide_eq_decide.mpr (mem_shut hv_doorEdges (hv_crossed c w))))))
  refine rd_ifS h2 (fun hb2 => ?_) (fun hb2 => ?_)
  · have hn : crossed c w ∉ doorEdges h.doors s.ways := by simpa using hb2
    have hf : (doorEdges h.doors s.ways).findIdx? (· == crossed c w) = none := by
      rw [List.findIdx?_eq_none_iff]
      intro x hx
      simp only [beq_eq_false_iff_ne]
      exact fun z => hn (z ▸ hx)
    refine rd_ret (ED.is (ed_tup (ea_cons (ed_tup (ea_cons (ed_var rfl) (ea_cons (ed_var rfl) ea_nil)) (by simp)) (ea_cons ed_non ea_nil)) (by simp)) ?_)
    simp only [stepDone, he]
    rw [if_neg hc, hf]
    rfl
  have hm : crossed c w ∈ doorEdges h.doors s.ways := by simpa using hb2
  obtain ⟨j, hf⟩ : ∃ j, (doorEdges h.doors s.ways).findIdx? (· == crossed c w) = some j := by
    cases hf : (doorEdges h.doors s.ways).findIdx? (· == crossed c w) with
    | none =>
      rw [List.findIdx?_eq_none_iff] at hf
      have := hf _ hm
      simp at this
    | some j => exact ⟨j, rfl⟩
  obtain ⟨hjl, hj1, hj2⟩ := List.findIdx?_eq_some_iff_getElem.mp hf
  have hjd : j < h.doors.length := by rw [len_doorEdges o.nways] at hjl; exact hjl
  have hje : (doorEdges h.doors s.ways)[j]? = some (crossed c w) := by
    rw [List.getElem?_eq_getElem hjl]
    simp only [beq_iff_eq] at hj1
    rw [hj1]
  refine rd_seq (sd_set (ed_index (j := j) (z := pairD (shutP (crossed c w))) (ed_var rfl) (ed_var rfl) (sh_pairsL _) (sh_pair _) (by rw [List.getElem?_map, List.getElem?_map, hje]; rfl) (by rw [eqv_pair]; simp) fun m z' hmj hz' => ?_)) ?_
  · rw [List.getElem?_map, List.getElem?_map] at hz'
    have hml : m < (doorEdges h.doors s.ways).length := by omega
    rw [List.getElem?_eq_getElem hml] at hz'
    have h3 := hj2 m hmj
    cases hz'
    rw [eqv_pair, decide_eq_false_iff_not]
    intro z
    have := shutP_inj (hv_doorEdges _ (List.getElem_mem _)) (hv_crossed c w) z
    simp [this] at h3
  have hde : h.doors[j]? = some h.doors[j] := List.getElem?_eq_getElem hjd
  generalize h.doors[j] = e at hde
  have a1 : atI (h.doors.map edgeD) (j : Int) = some (edgeD e) := atI_nat (by rw [List.getElem?_map, hde]; rfl)
  refine rd_seq (sd_set (ed_call (ea_cons (ed_slT (ds := [.int e.1, .int e.2.1, sg e.2.2]) (ed_op (ed_op (ed_var rfl) ed_int (r2_ixT rfl)) (ed_var rfl) (r2_ixT a1)) eo_none (eo_some ed_int)) (ea_cons (ed_var rfl) ea_nil)) (.mk (e.1, e.2.1) w o.w))) ?_
  have h3 : ET (tOr (tNot (tB (tCallD (spR R_L_within) (tCons (tVar 0) (tCons (tVar 13) tNil))))) (tTest (tOp (rInX K false) (tVar 13) (tOp (rAddX K) (tVar 8) (tVar 10)))))
      [some (hallD h), some (standD s), some (stepD k w), some (cellsD s.cells), some (.str (wsS s.ways)), some (.int k), some (sg w), some (cellD (nextC c w)), some (.list ((h.walls.map shutP).map pairD)), some (.int j), some (.list (((doorEdges h.doors s.ways).map shutP).map pairD)), some (pairD (shutP (crossed c w))), some (cellsD (s.cells.set k (nextC c w))), some (pairD (shutP (edgeFrom e.1 e.2.1 w))), none]
      (!isEdge h (edgeFrom e.1 e.2.1 w) || decide (edgeFrom e.1 e.2.1 w ∈ h.walls ++ doorEdges h.doors s.ways)) := by
    refine et_or (et_not (et_B ?_)) fun _ => et_test ?_
    · exact ED.is (ed_call (ea_cons (ed_var rfl) (ea_cons (ed_var rfl) ea_nil)) (.mk h.rows h.cols _ (shutP (edgeFrom e.1 e.2.1 w)))) (congrArg PyData.bool (within_edge h _ (hv_from _ _ _)))
    · have lde := len_doorEdges (ds := h.doors) (ws := s.ways) o.nways
      refine ED.is (ed_op (ed_var rfl) (ED.is (d' := .list (((h.walls ++ doorEdges h.doors s.ways).map shutP).map pairD)) (ed_op (ed_var rfl) (ed_var rfl) (r2_catL (by rw [List.length_map, List.length_map, List.length_map, List.length_map]; omega))) (by rw [List.map_append, List.map_append])) (r2_inL (sh_pair _) (sh_pairsL _))) (congrArg PyData.bool ((any_pair _ _).trans (decide_eq_decide.mpr (mem_shut (fun x hx => ?_) (hv_from _ _ _)))))
      rcases List.mem_append.mp hx with z | z
      · exact o.walls x z
      · exact hv_doorEdges x z
  simp only [stepDone, he]
  rw [if_neg hc, hf]
  show RD _ _ (doneD ((swung h s.ways j w).map fun ws => ((⟨s.cells.set k (nextC c w), ws⟩ : Stand), some j)))
  refine rd_ifS h3 (fun hb => ?_) (fun hb => ?_)
  · have hs : swung h s.ways j w = none := by
      simp only [swung, hde]
      refine if_pos ?_
      simp only [Bool.or_eq_true, decide_eq_true_eq, Bool.not_eq_true', List.mem_append] at hb
      exact hb
    rw [hs]
    exact rd_ret ed_non
  · have hs : swung h s.ways j w = some (s.ways.set j w) := by
      simp only [swung, hde]
      refine if_neg ?_
      intro z
      have : (!isEdge h (edgeFrom e.1 e.2.1 w) || decide (edgeFrom e.1 e.2.1 w ∈ h.walls ++ doorEdges h.doors s.ways)) = true := by
        simp only [Bool.or_eq_true, decide_eq_true_eq, Bool.not_eq_true', List.mem_append]
        exact z
      rw [this] at hb
      cases hb
    rw [hs]
    have hwl : j < s.ways.length := by rw [o.nways]; exact hjd
    have l0 := len_wsS s.ways
    have ln := o.nways
    have l1 : (cutS (wsS s.ways) none (some (j : Int))).length ≤ s.ways.length := by rw [← l0]; exact cutS_length _ _ _
    have l2 : (cutS (wsS s.ways) (some ((j : Int) + 1)) none).length ≤ s.ways.length := by rw [← l0]; exact cutS_length _ _ _
    refine rd_ret (ED.is (ed_tup (ea_cons (ed_tup (ea_cons (ed_var rfl) (ea_cons (ED.is (ed_op (ed_op (ed_slS (ed_var rfl) eo_none (eo_some (ed_var rfl)) (by rw [l0]; omega)) (ed_var (d := sg w) rfl) (r2_addS ?_)) (ed_slS (ed_var rfl) (eo_some (ed_op (ed_var rfl) ed_int r2_addI)) eo_none (by rw [l0]; omega)) (r2_addS ?_)) (congrArg PyData.str (cut_ways s.ways j w hwl))) ea_nil)) (by simp)) (ea_cons (ed_var rfl) ea_nil)) (by simp)) rfl)
    · show _ + 1 ≤ 100000
      omega
    · have e3 : (cutS (wsS s.ways) none (some (j : Int)) ++ (⟨#[w.code]⟩ : Str)).length = (cutS (wsS s.ways) none (some (j : Int))).length + 1 := by
        show (_ ++ #[w.code] : Array Nat).size = _
        rw [Array.size_append]
        rfl
      rw [e3]
      omega
end
end Pd

/-! PdF -/
set_option Elab.async false
set_option linter.all false
set_option maxRecDepth 100000
set_option maxHeartbeats 4000000
/-! loops, and lists of the def's own -/
namespace Pd
open PySem PySem.Spec PyProof.Rows L2

/-- less is told -/
def Rle (ρ0 ρ : Rho) : Prop := ρ0.length = ρ.length ∧ ∀ i : Nat, ∀ d : PyData, ρ0[i]? = some (some d) → ρ[i]? = some (some d)
theorem EnvD.less {σ : L2.St} {B : Hp} {ρ0 ρ : Rho} (h : EnvD σ B ρ) (l : Rle ρ0 ρ) : EnvD σ B ρ0 := ⟨h.len.trans l.1.symm, fun i d q => h.get i d (l.2 i d q)⟩
theorem Rle.refl (ρ : Rho) : Rle ρ ρ := ⟨rfl, fun _ _ q => q⟩
theorem Rle.trans {a b c : Rho} (h : Rle a b) (k : Rle b c) : Rle a c := ⟨h.1.trans k.1, fun i d q => k.2 i d (h.2 i d q)⟩
theorem Rle.set {ρ0 ρ : Rho} {i : Nat} {o : Option PyData} (h : Rle ρ0 ρ) (hi : ρ0[i]? = some none) : Rle ρ0 (ρ.set i o) := by
  refine ⟨by rw [List.length_set]; exact h.1, fun j d q => ?_⟩
  by_cases hj : i = j
  · subst hj
    rw [hi] at q
    cases q
  · rw [List.getElem?_set_ne hj]
    exact h.2 j d q

/-- a def's own list, at slot j: beside the base, what it holds is told. B0: what the base has known from somewhere on -/
structure Own1 (B0 B1 H1 : Hp) (l : Addr) (j : Nat) (σ : L2.St) (B H : Hp) (ρ : Rho) (ds : List PyData) : Prop where
  b0 : Ex B0 B
  g : Gr B1 H1 B H
  f : H1 l = none
  s : σ[j]? = some (some (.ref l))
  n : B l = none
  h : ∃ xs, H l = some (.lst xs) ∧ DHs B xs ds
  e : EnvD σ B ρ
theorem Own1.mono {B0 B1 H1 : Hp} {l : Addr} {j : Nat} {σ : L2.St} {B H B' H' : Hp} {ρ : Rho} {ds : List PyData} (o : Own1 B0 B1 H1 l j σ B H ρ ds) (k : Gr B H B' H') : Own1 B0 B1 H1 l j σ B' H' ρ ds := by
  obtain ⟨xs, h1, h2⟩ := o.h
  exact ⟨o.b0.trans k.b, o.g.trans k, o.f, o.s, k.n l o.n (by rw [h1]; exact fun z => nomatch z), ⟨xs, k.h _ _ h1, h2.mono k.b⟩, o.e.mono k.b⟩
theorem Own1.less {B0 B1 H1 : Hp} {l : Addr} {j : Nat} {σ : L2.St} {B H : Hp} {ρ0 ρ : Rho} {ds : List PyData} (o : Own1 B0 B1 H1 l j σ B H ρ ds) (k : Rle ρ0 ρ) : Own1 B0 B1 H1 l j σ B H ρ0 ds :=
  ⟨o.b0, o.g, o.f, o.s, o.n, o.h, o.e.less k⟩
theorem Own1.set {B0 B1 H1 : Hp} {l : Addr} {j i : Nat} {σ : L2.St} {B H : Hp} {ρ : Rho} {ds : List PyData} {v : V} {d : PyData} (o : Own1 B0 B1 H1 l j σ B H ρ ds) (hij : i ≠ j) (dv : DH B v d) : Own1 B0 B1 H1 l j (σ.set i (some v)) B H (ρ.set i (some d)) ds :=
  ⟨o.b0, o.g, o.f, by rw [List.getElem?_set_ne hij]; exact o.s, o.n, o.h, o.e.set i dv⟩
theorem Own1.base {B0 B0' B1 H1 : Hp} {l : Addr} {j : Nat} {σ : L2.St} {B H : Hp} {ρ : Rho} {ds : List PyData} (o : Own1 B0 B1 H1 l j σ B H ρ ds) (k : Ex B0' B) : Own1 B0' B1 H1 l j σ B H ρ ds :=
  ⟨k, o.g, o.f, o.s, o.n, o.h, o.e⟩
/-- it is handed back -/
theorem Own1.done {B0 B1 H1 : Hp} {l : Addr} {j : Nat} {σ : L2.St} {B H : Hp} {ρ : Rho} {ds : List PyData} (o : Own1 B0 B1 H1 l j σ B H ρ ds) : ∃ B', Ex B B' ∧ Gr B1 H1 B' H ∧ DH B' (.ref l) (.list ds) := by
  obtain ⟨xs, h1, h2⟩ := o.h
  have nB1 : B1 l = none := o.g.b.nil o.n
  refine ⟨upd B l (.lst xs), Ex.new o.n, ⟨o.g.b.mut nB1, fun a u ha => ?_, o.g.h, fun a p1 p2 => ?_⟩, .lst upd_same (h2.mono (Ex.new o.n))⟩
  · by_cases h : a = l
    · subst h
      rw [upd_same] at ha
      cases ha
      exact h1
    · rw [upd_ne h] at ha
      exact o.g.t a u ha
  · have h : a ≠ l := fun z => p2 (by rw [z]; exact o.f)
    rw [upd_ne h]
    exact o.g.n a p1 p2
def SO (t : TS) (j : Nat) (ρ : Rho) (ds : List PyData) (ρ' : Rho) (ds' : List PyData) : Prop :=
  ∀ B0 B1 H1 l σ B H (D : Ends), Own1 B0 B1 H1 l j σ B H ρ ds → (∀ σ' B' H', Own1 B0 B1 H1 l j σ' B' H' ρ' ds' → D.nx σ' H') → t D σ H
section
variable {K : PySem.W.Frag} {ρ ρ' ρ1 ρ0 : Rho} {ta tb tc te : TE} {tt : TT} {t u tb' : TS} {d e z : PyData} {ds es ds' ds1 : List PyData} {i j : Nat} {vs : List Nat}
theorem so_seq (h : SO t j ρ ds ρ1 ds1) (k : SO u j ρ1 ds1 ρ' ds') : SO (tSeq t u) j ρ ds ρ' ds' := fun B0 B1 H1 l σ B H D o q => h B0 B1 H1 l σ B H { D with nx := u D } o fun σ' B' H' o' => k B0 B1 H1 l σ' B' H' D o' q
theorem so_next : SO tNext j ρ ds ρ ds := fun B0 B1 H1 l σ B H D o q => q σ B H o
theorem so_less (h : SO t j ρ ds ρ' ds') (k : Rle ρ0 ρ') : SO t j ρ ds ρ0 ds' := fun B0 B1 H1 l σ B H D o q => h B0 B1 H1 l σ B H D o fun σ' B' H' o' => q σ' B' H' (o'.less k)
theorem so_if {b : Bool} (h : ET tt ρ b) (h1 : b = true → SO t j ρ ds ρ' ds') (h2 : b = false → SO u j ρ ds ρ' ds') : SO (tIfS tt t u) j ρ ds ρ' ds' := fun B0 B1 H1 l σ B H D o q => by
  refine h σ B H o.g.t o.e _ fun B2 H2 g2 => ?_
  cases b with
  | true => exact h1 rfl B0 B1 H1 l σ B2 H2 D (o.mono g2) q
  | false => exact h2 rfl B0 B1 H1 l σ B2 H2 D (o.mono g2) q
theorem so_set (hij : i ≠ j) (h : ED te ρ d) : SO (tAsg te (gName i)) j ρ ds (ρ.set i (some d)) ds := fun B0 B1 H1 l σ B H D o q =>
  h σ B H o.g.t o.e _ fun v B2 H2 g2 dv => q _ B2 H2 ((o.mono g2).set hij dv)
/-- xs.append(e) -/
theorem so_app (h : ED te ρ d) (hz : ds.length < 100000) : SO (tDrop (tBM K "list" rAppend (tVar j) (tCons te tNil))) j ρ ds ρ (ds ++ [d]) := fun B0 B1 H1 l σ B H D o q => by
  refine ⟨.ref l, o.s, ?_⟩
  obtain ⟨xs0, hl0, _⟩ := o.h
  refine ⟨.inl ⟨rfl, _, SqL.of hl0⟩, ?_⟩
  refine h σ B H o.g.t o.e _ fun v B2 H2 g2 dv => ?_
  have o2 := o.mono g2
  obtain ⟨xs, hl, hx⟩ := o2.h
  refine ⟨l, xs, v, rfl, rfl, hl, ?_, q σ B2 _ ⟨o2.b0, ⟨o2.g.b, o2.g.t.mut o2.n, o2.g.h.mut o2.f, o2.g.n⟩, o2.f, o2.s, o2.n, ⟨_, upd_same, hx.append (.one dv)⟩, o2.e⟩⟩
  rw [hx.length]
  exact Nat.lt_trans hz (by decide)
/-- a for over data, gathering into the list -/
theorem so_for {α : Type} {wi : TI} {items : List α} (enc : α → PyData) (F : List PyData → α → List PyData) (hij : i ≠ j) (hi : IE wi ρ0 (items.map enc))
    (turn : ∀ x ∈ items, ∀ ds0, ds0.length ≤ ds.length + 100 * items.length → SO tb' j (ρ0.set i (some (enc x))) ds0 ρ0 (F ds0 x))
    (hF : ∀ ds0 x, (F ds0 x).length ≤ ds0.length + 100) : SO (tFor wi (gName i) tb') j ρ0 ds ρ0 (items.foldl F ds) := fun B0 B1 H1 l σ B H D o q => by
  refine hi σ B H o.g.t o.e _ fun J B2 H2 g2 hJ => ?_
  refine ⟨fun n m σ' H' => m = items.length - n ∧ n ≤ items.length ∧ ∃ B', Own1 B2 B1 H1 l j σ' B' H' ρ0 ((items.take n).foldl F ds) ∧ ((items.take n).foldl F ds).length ≤ ds.length + 100 * n, ⟨items.length, by omega, Nat.zero_le _, B2, (o.mono g2).base (Ex.refl B2), by simp⟩, ?_⟩
  rintro n m σ' H' ⟨rfl, hle, B', o', hlen⟩
  obtain ⟨hstop, hgo⟩ := hJ B' H' o'.b0 o'.g.t n
  by_cases hlt : n < items.length
  · right
    have hd : items[n]? = some items[n] := List.getElem?_eq_getElem hlt
    obtain ⟨go, hy⟩ := hgo (enc items[n]) (by rw [List.getElem?_map, hd]; rfl)
    have htk : (items.take (n + 1)).foldl F ds = F ((items.take n).foldl F ds) items[n] := by
      rw [List.take_add_one, hd, List.foldl_append]
      rfl
    refine ⟨go, fun σ2 H2 => n + 1 ≤ items.length ∧ ∃ B', Own1 B2 B1 H1 l j σ2 B' H2 ρ0 ((items.take (n + 1)).foldl F ds) ∧ ((items.take (n + 1)).foldl F ds).length ≤ ds.length + 100 * (n + 1), fun σ2 H2 ⟨p1, p2⟩ => ⟨items.length - (n + 1), by omega, rfl, p1, p2⟩, fun x H3 hyl => ?_⟩
    obtain ⟨B3, g3, dx⟩ := hy x H3 hyl
    have hFl := hF ((items.take n).foldl F ds) items[n]
    refine turn items[n] (List.getElem_mem _) _ (by have : 100 * n ≤ 100 * items.length := Nat.mul_le_mul_left _ hle; omega) B2 B1 H1 l _ B3 H3 _ ((o'.mono g3).set hij dx) ?_
    intro σ4 B4 H4 o4
    exact ⟨hlt, B4, by rw [htk]; exact o4, by rw [htk]; omega⟩
  · left
    have hie : n = items.length := by omega
    subst hie
    refine ⟨hstop (by rw [List.length_map]), ?_⟩
    rw [List.take_length] at o'
    exact q σ' B' H' (o'.base ((o.b0.trans g2.b).trans o'.b0))
/-- xs = []; ..; return xs -/
theorem rd_own {n : Nat} (hj : j < ρ.length) (h : SO t j (ρ.set j none) [] ρ' ds) : RD (tSeq (tAsg (tLst tNil) (gName j)) (tSeq t (tRet (tVar j)))) ρ (.list ds) := fun σ B H D ex ev q => by
  refine ⟨Nat.zero_le _, fun l hl => ?_⟩
  have g := Gr.own (o := .lst []) ex hl
  refine h B B H l _ B _ { D with nx := tRet (tVar j) D } ⟨Ex.refl B, g, hl, List.getElem?_set_self (by rw [ev.len]; exact hj), ex.nil hl, ⟨[], upd_same, .nil⟩, ev.forget j _⟩ fun σ' B' H' o => ?_
  obtain ⟨B2, _, g2, d2⟩ := o.done
  exact ⟨_, o.s, q _ B2 H' g2 d2⟩

/-! ### loops without a list of one's own -/
theorem sd_for {α : Type} {wi : TI} {g : TG} {items : List α} (enc : α → PyData) (hi : IE wi ρ0 (items.map enc))
    (turn : ∀ (n : Nat) (x : α), items[n]? = some x → ∃ ρ1 vs, GD g ρ0 (enc x) ρ1 vs ∧ SD tb' ρ1 ρ0) : SD (tFor wi g tb') ρ0 ρ0 := fun σ B H D ex ev q => by
  refine hi σ B H ex ev _ fun J B2 H2 g2 hJ => ?_
  refine ⟨fun n m σ' H' => m = items.length - n ∧ n ≤ items.length ∧ ∃ B', Gr B2 H2 B' H' ∧ EnvD σ' B' ρ0, ⟨items.length, by omega, Nat.zero_le _, B2, Gr.refl g2.t, ev.mono g2.b⟩, ?_⟩
  rintro n m σ' H' ⟨rfl, hle, B', g3, ev3⟩
  obtain ⟨hstop, hgo⟩ := hJ B' H' g3.b g3.t n
  by_cases hlt : n < items.length
  · right
    have hd : items[n]? = some items[n] := List.getElem?_eq_getElem hlt
    obtain ⟨go, hy⟩ := hgo (enc items[n]) (by rw [List.getElem?_map, hd]; rfl)
    refine ⟨go, fun σ2 H2' => n + 1 ≤ items.length ∧ ∃ B', Gr B2 H2 B' H2' ∧ EnvD σ2 B' ρ0, fun σ2 H2 ⟨p1, p2⟩ => ⟨items.length - (n + 1), by omega, rfl, p1, p2⟩, fun x H3 hyl => ?_⟩
    obtain ⟨B3, g4, dx⟩ := hy x H3 hyl
    obtain ⟨ρ1, vs, hg, hs⟩ := turn n _ hd
    refine hg σ' B3 H3 x g4.t (ev3.mono g4.b) dx _ fun σ4 ev4 _ => ?_
    refine hs σ4 B3 H3 _ g4.t ev4 fun σ5 B5 H5 g5 ev5 => ?_
    exact ⟨hlt, B5, (g3.trans g4).trans g5, ev5⟩
  · left
    have hie : n = items.length := by omega
    subst hie
    exact ⟨hstop (by rw [List.length_map]), q σ' B' H' (g2.trans g3) ev3⟩
theorem sd_less (h : SD t ρ ρ') (k : Rle ρ0 ρ') : SD t ρ ρ0 := fun σ B H D ex ev q => h σ B H D ex ev fun σ' B' H' g ev' => q σ' B' H' g (ev'.less k)
theorem sd_drop (h : ED te ρ d) : SD (tDrop te) ρ ρ := fun σ B H D ex ev q => h σ B H ex ev _ fun v B' H' g dv => q σ B' H' g (ev.mono g.b)
/-- if t: raise .., t being false -/
theorem sd_ifNo (h : ET tt ρ false) : SD (tIfS tt u tNext) ρ ρ := fun σ B H D ex ev q => h σ B H ex ev _ fun B' H' g => q σ B' H' g (ev.mono g.b)
/-! ### enumerate -/
theorem ie_enumT {ta : TA} (h : EA ta ρ [.tuple ds]) : IE (iEnumX K ta) ρ (ds.zipIdx.map fun p => .tuple [.int p.2, p.1]) := fun σ B H ex ev R q => by
  refine h σ B H ex ev _ fun vs B1 H1 g1 d1 => ?_
  cases d1 with
  | cons a1 r =>
    cases r
    cases a1 with
    | @tup a xs _ ha hs =>
      have hl := hs.length
      refine ⟨a, xs, rfl, .inr ⟨SqT.of (g1.t _ _ ha), q _ B1 H1 g1 fun B2 H2 e1 e2 i => ⟨fun hi => ?_, fun d hd => ?_⟩⟩⟩
      · rw [List.length_map, List.length_zipIdx] at hi
        exact ⟨xs, SqT.of (e2 _ _ (e1 _ _ ha)), by omega⟩
      · rw [List.getElem?_map, List.getElem?_zipIdx] at hd
        cases hd1 : ds[i]? with
        | none => rw [hd1] at hd; simp at hd
        | some d0 =>
          rw [hd1] at hd
          simp at hd
          subst hd
          obtain ⟨v, hv, dv⟩ := hs.get hd1
          refine ⟨⟨xs, v, SqT.of (e2 _ _ (e1 _ _ ha)), hv⟩, fun y H' hy => ?_⟩
          obtain ⟨T, y', rfl, hT, rfl, hy'⟩ := hy
          have e3 := hy' xs (SqT.of (e2 _ _ (e1 _ _ ha)))
          rw [hv] at e3
          cases e3
          have g := Gr.new (o := .tup [.int (i : Nat), v]) e2 hT
          exact ⟨_, g, .tup upd_same (.cons (.int _) (.cons (dv.mono (e1.trans g.b)) .nil))⟩
theorem ie_enumL {ta : TA} (h : EA ta ρ [.list ds]) : IE (iEnumX K ta) ρ (ds.zipIdx.map fun p => .tuple [.int p.2, p.1]) := fun σ B H ex ev R q => by
  refine h σ B H ex ev _ fun vs B1 H1 g1 d1 => ?_
  cases d1 with
  | cons a1 r =>
    cases r
    cases a1 with
    | @lst a xs _ ha hs =>
      have hl := hs.length
      refine ⟨a, xs, rfl, .inl ⟨SqL.of (g1.t _ _ ha), q _ B1 H1 g1 fun B2 H2 e1 e2 i => ⟨fun hi => ?_, fun d hd => ?_⟩⟩⟩
      · rw [List.length_map, List.length_zipIdx] at hi
        exact ⟨xs, SqL.of (e2 _ _ (e1 _ _ ha)), by omega⟩
      · rw [List.getElem?_map, List.getElem?_zipIdx] at hd
        cases hd1 : ds[i]? with
        | none => rw [hd1] at hd; simp at hd
        | some d0 =>
          rw [hd1] at hd
          simp at hd
          subst hd
          obtain ⟨v, hv, dv⟩ := hs.get hd1
          refine ⟨⟨xs, v, SqL.of (e2 _ _ (e1 _ _ ha)), hv⟩, fun y H' hy => ?_⟩
          obtain ⟨T, y', rfl, hT, rfl, hy'⟩ := hy
          have e3 := hy' xs (SqL.of (e2 _ _ (e1 _ _ ha)))
          rw [hv] at e3
          cases e3
          have g := Gr.new (o := .tup [.int (i : Nat), v]) e2 hT
          exact ⟨_, g, .tup upd_same (.cons (.int _) (.cons (dv.mono (e1.trans g.b)) .nil))⟩
/-- a tuple of the module's own, of texts, walked -/
theorem ie_K {a : Addr} {xs : List V} (hT : ∀ H : Hp, SqT K H a xs) (hx : DHs (fun _ => none) xs ds) : IE (iTup K (tC (.ref a))) ρ ds := fun σ B H ex ev R q => by
  refine ⟨a, rfl, ⟨xs, hT H⟩, q _ B H (Gr.refl ex) fun B2 H2 e1 e2 i => ⟨fun hi => ⟨xs, hT _, by rw [hx.length]; omega⟩, fun d hd => ?_⟩⟩
  obtain ⟨x, hx', dx⟩ := hx.get hd
  refine ⟨⟨xs, x, hT _, hx'⟩, fun y H' ⟨eh, hy⟩ => ⟨B2, ?_, ?_⟩⟩
  · subst eh
    exact Gr.refl e2
  · have := hy xs (hT _)
    rw [hx'] at this
    cases this
    exact dx.mono (fun _ _ z => by cases z)
end
/-- a def over data that falls off its end -/
theorem def_okN {P : Program} {w : World} {K : PySem.W.Frag} {mg : Str → Option Value} {base : Heap} {x : Str} {st : Stmt} {ps N : List Str} {k : Nat} {R : List PyData → Prop}
    (F : At K mg x st ps) (S : FnScope N ps (defScope st)) (len : ∀ ds, R ds → ds.length = ps.length)
    (hbody : ∀ (f : Addr) (cdv : Value) (A : Around) (outer : List Env) (s : Shared) (H : Hp) (E : XK), Room k (A.deeper (envOfC x (defScope st) s.heap.objs.size f cdv)) →
      ∃ t, PSs (cxOf CX0 P w K mg base N x (defScope st) f cdv A outer s H E).nox (defBody st) t ∧ ∀ ds, R ds → ∃ ρ', SD t (ds.map some ++ List.replicate (N.length - ds.length) none) ρ') (hN : ps.length ≤ N.length := by decide) :
    DefD P w K mg base (k + 1) x ps (fun ds d => R ds ∧ d = .none) := by
  refine def_ok F S (fun vs H Q E ⟨B, ds, d, _, h1, h2, _⟩ => ?_) fun f cdv A outer s H vs Q E hr ⟨B, ds, d, ex, h1, ⟨h2, e⟩, q⟩ => ?_
  · rw [h1.length]
    exact len ds h2.1
  · obtain ⟨t, ht, hd⟩ := hbody f cdv A outer s H E hr
    obtain ⟨ρ', hsd⟩ := hd ds h2
    subst e
    refine ⟨t, ht, hsd _ B H _ ex (env_start h1 ?_) fun σ' B' H' g _ => q _ B' H' g .non⟩
    rw [h1.length, len ds h2]
    exact hN
end Pd

/-! Sem7 -/
set_option Elab.async false
set_option linter.all false
set_option maxRecDepth 100000
set_option maxHeartbeats 4000000
namespace Pd
open PySem PySem.Spec PyProof.Rows L2 PySem.W
local macro_rules | `(tactic| walk_at "ed") => `(tactic| repeat' (first
  | with_reducible (first
    | exact ed_int | exact ed_str | exact ed_bl | exact ed_non
    | exact ea_nil | refine' ea_cons ?_ ?_
    | refine' ed_isi ?_ ?_ | refine' ed_isi2 ?_ ?_ ?_
    | refine' ed_andV ?_ (fun _ => ?_) | refine' ed_orV ?_ (fun _ => ?_) | refine' ed_notV ?_
    | refine' ed_chain ?_ ?_ ?_ (fun _ => ⟨?_, ?_⟩)
    | refine' ed_tup ?_ ?_ | refine' ed_lst ?_ ?_
    | refine' et_not ?_ | refine' et_and ?_ (fun _ => ?_) | refine' et_or ?_ (fun _ => ?_) | exact et_yes
    | refine' et_test ?_ | refine' et_B ?_
    | refine' ed_op ?_ ?_ ?_
    | refine' ed_cb ?_ ?_)
  | exact ed_var rfl
  | exact kit_tt | exact kit_ii | exact kit_ib | exact kit_ll | exact kit_lt | exact kit_tl
  | exact r2_addI | exact r2_subI | exact r2_lt | exact r2_le | exact r2_gt | exact r2_ge | exact r2_isN | exact r2_notN
  | exact rc_lenT | exact rc_lenL | exact rc_intB | exact rc_tupL
  | with_reducible (first | refine' r2_eq ?_ ?_ | refine' r2_ne ?_ ?_)
  | exact sh_int _ | exact sh_sg _ | exact sh_cell _ | exact sh_edge _ | exact sh_pair _ | exact sh_str _ (by decide +kernel)
  | exact r2_ixT rfl | exact r2_ixL rfl
  | refine' ed_tup ?_ ?_
  | (show List.length _ ≤ 100000; simp; done)))
/-! ### all steps -/
def ways4 : List Sg := [.e, .n, .s, .w]
theorem ways4_way : ∀ w ∈ ways4, Way w := by
  intro w hw
  simp [ways4] at hw
  rcases hw with rfl | rfl | rfl | rfl
  · exact .inl rfl
  · exact .inr (.inl rfl)
  · exact .inr (.inr (.inl rfl))
  · exact .inr (.inr (.inr rfl))
def moveD (m : Nat × Sg × Stand × Option Nat) : PyData := .tuple [stepD m.1 m.2.1, standD m.2.2.1, optN m.2.2.2]
def addMove (h : Hall) (s : Stand) (k : Nat) (ds : List PyData) (w : Sg) : List PyData :=
  match stepDone h s k w with
  | none => ds
  | some p => ds ++ [moveD (k, w, p.1, p.2)]
def addMoves (h : Hall) (s : Stand) (ds : List PyData) (k : Nat) : List PyData := ways4.foldl (addMove h s k) ds
def movesD (h : Hall) (s : Stand) : List PyData := (List.range s.cells.length).foldl (addMoves h s) []
theorem addMove_len (h : Hall) (s : Stand) (k : Nat) (ds : List PyData) (w : Sg) : (addMove h s k ds w).length ≤ ds.length + 1 := by
  unfold addMove
  split
  · omega
  · rw [List.length_append, List.length_singleton]
    omega
theorem addMoves_len (h : Hall) (s : Stand) (ds : List PyData) (k : Nat) : (addMoves h s ds k).length ≤ ds.length + 4 := by
  unfold addMoves ways4
  simp only [List.foldl_cons, List.foldl_nil]
  have h1 := addMove_len h s k ds .e
  have h2 := addMove_len h s k (addMove h s k ds .e) .n
  have h3 := addMove_len h s k (addMove h s k (addMove h s k ds .e) .n) .s
  have h4 := addMove_len h s k (addMove h s k (addMove h s k (addMove h s k ds .e) .n) .s) .w
  omega
/-- what a hall and a standing must be for steps to be done -/
structure SOk (h : Hall) (s : Stand) : Prop where
  walls : ∀ e ∈ h.walls, HV e
  nwalls : h.walls.length ≤ 100
  ndoors : h.doors.length ≤ 100
  ways : ∀ x ∈ s.ways, Way x
  nways : s.ways.length = h.doors.length
  cells : ∀ c ∈ s.cells, inH h c = true
  ncells : s.cells.length ≤ 100
theorem SOk.step {h : Hall} {s : Stand} (o : SOk h s) {k : Nat} {w : Sg} (hk : k < s.cells.length) (hw : Way w) : StepOk h s k w := ⟨o.walls, o.nwalls, o.ndoors, o.ways, o.nways, o.cells, o.ncells, hk, hw⟩
inductive R_moves : List PyData → PyData → Prop | mk (h : Hall) (s : Stand) (o : SOk h s) : R_moves [hallD h, standD s] (.list (movesD h s))
theorem sg_map : ("ensw" : Str).cps.toList.map (fun c => PyData.str ⟨#[c]⟩) = ways4.map sg := by
  have e : ("ensw" : Str).cps.toList = [101, 110, 115, 119] := by decide +kernel
  rw [e]
  rfl
theorem ways_DHs : DHs (fun _ => none) [.str "e", .str "n", .str "s", .str "w"] (ways4.map sg) := by
  have e1 : (V.str "e") = .str ⟨#[101]⟩ := congrArg V.str (by decide +kernel)
  have e2 : (V.str "n") = .str ⟨#[110]⟩ := congrArg V.str (by decide +kernel)
  have e3 : (V.str "s") = .str ⟨#[115]⟩ := congrArg V.str (by decide +kernel)
  have e4 : (V.str "w") = .str ⟨#[119]⟩ := congrArg V.str (by decide +kernel)
  rw [e1, e2, e3, e4]
  exact .cons (.str _) (.cons (.str _) (.cons (.str _) (.cons (.str _) .nil)))
section
variable {K : PySem.W.Frag}
/-- the body of both loops, whatever does the step -/
theorem so_moves {R : List PyData → PyData → Prop} {wi : TI} (h : Hall) (s : Stand) (o : SOk h s) (hR : ∀ k w, k < s.cells.length → Way w → R [hallD h, standD s, stepD (k : Nat) w] (doneD (stepDone h s k w)))
    (hwi : ∀ k : Nat, IE wi [some (hallD h), some (standD s), none, some (.int k), none, none] (ways4.map sg)) :
    SO (tFor (iRng1 (tCons (tCB (rLenX K) (tCons (tOp (rIx K) (tVar 1) (tC (.int 0))) tNil)) tNil)) (gName 3) (tFor wi (gName 4) (tSeq (tAsg (tCallD (spR R) (tCons (tVar 0) (tCons (tVar 1) (tCons (tTup (tCons (tVar 3) (tCons (tVar 4) tNil))) tNil)))) (gName 5)) (tIfS (tTest (tOp rNotN (tVar 5) (tC .non))) (tDrop (tBM K "list" rAppend (tVar 2) (tCons (tTup (tCons (tTup (tCons (tVar 3) (tCons (tVar 4) tNil))) (tCons (tOp (rIx K) (tVar 5) (tC (.int 0))) (tCons (tOp (rIx K) (tVar 5) (tC (.int 1))) tNil)))) tNil))) tNext))))
      2 [some (hallD h), some (standD s), none, none, none, none] [] [some (hallD h), some (standD s), none, none, none, none] (movesD h s) := by
  have nc := o.ncells
  have hi := ie_rng1 (ρ := [some (hallD h), some (standD s), none, none, none, none]) (ta := tCons (tCB (rLenX K) (tCons (tOp (rIx K) (tVar 1) (tC (.int 0))) tNil)) tNil) (n := ((s.cells.map cellD).length : Nat)) (ea_cons (ed_cb (ea_cons (ed_op (ed_var rfl) ed_int (r2_ixT rfl)) ea_nil) rc_lenT) ea_nil) (by omega) (by rw [List.length_map]; omega)
  rw [Int.toNat_natCast, List.length_map] at hi
  refine so_for (fun k => .int (k : Nat)) (addMoves h s) (by decide) hi (fun k hk ds0 hl0 => ?_) (fun ds0 x => Nat.le_trans (addMoves_len h s ds0 x) (by omega))
  have hkl : k < s.cells.length := List.mem_range.mp hk
  rw [List.length_range] at hl0
  simp only [List.length_nil] at hl0
  show SO _ 2 [some (hallD h), some (standD s), none, some (.int k), none, none] ds0 _ (ways4.foldl (addMove h s k) ds0)
  refine so_less (ρ' := [some (hallD h), some (standD s), none, some (.int k), none, none]) ?_ ((Rle.refl [some (hallD h), some (standD s), none, none, none, none]).set (i := 3) rfl)
  refine so_for sg (addMove h s k) (by decide) (hwi k) (fun w hw ds1 hl1 => ?_) (fun ds0 x => Nat.le_trans (addMove_len h s k ds0 x) (by omega))
  show SO _ 2 [some (hallD h), some (standD s), none, some (.int k), some (sg w), none] ds1 _ _
  have hww := ways4_way w hw
  have hl1' : ds1.length ≤ ds0.length + 400 := hl1
  refine so_seq (so_set (by decide) (ed_call (ea_cons (ed_var rfl) (ea_cons (ed_var rfl) (ea_cons (ed_tup (ea_cons (ed_var rfl) (ea_cons (ed_var rfl) ea_nil)) (by simp)) ea_nil))) (hR k w hkl hww))) ?_
  have rl : Rle [some (hallD h), some (standD s), none, some (.int k), none, none] [some (hallD h), some (standD s), none, some (.int k), some (sg w), some (doneD (stepDone h s k w))] :=
    ((Rle.refl [some (hallD h), some (standD s), none, some (.int k), none, none]).set (i := 4) (o := some (sg w)) rfl).set (i := 5) rfl
  refine so_less (ρ' := [some (hallD h), some (standD s), none, some (.int k), some (sg w), some (doneD (stepDone h s k w))]) ?_ rl
  unfold addMove
  cases hs : stepDone h s k w with
  | none =>
    exact so_if (b := false) (ET.is (et_test (ed_op (ed_var rfl) ed_non r2_notN)) rfl) (fun z => nomatch z) fun _ => so_next
  | some p =>
    refine so_if (b := true) (ET.is (et_test (ed_op (ed_var rfl) ed_non r2_notN)) rfl) (fun _ => ?_) (fun z => nomatch z)
    refine so_app (d := moveD (k, w, p.1, p.2)) (ED.is (ed_tup (ea_cons (ed_tup (ea_cons (ed_var rfl) (ea_cons (ed_var rfl) ea_nil)) (by simp)) (ea_cons (ed_op (ed_var rfl) ed_int (r2_ixT rfl)) (ea_cons (ed_op (ed_var rfl) ed_int (r2_ixT rfl)) ea_nil))) (by simp)) rfl) (by omega)
theorem rp_moves_from {aW : Addr} (hT : ∀ H : Hp, SqT K H aW [.str "e", .str "n", .str "s", .str "w"]) {ds : List PyData} {d : PyData} (h : R_moves ds d) :
    RD (rd_moves_from K aW (spR R_step_done)) (ds.map some ++ List.replicate (6 - ds.length) none) d := by
  obtain ⟨h, s, o⟩ := h
  exact rd_own (n := 0) (by simp) (so_moves h s o (fun k w hk hw => .mk h s k w o.ndoors o.nways o.ncells hk) fun k => ie_K hT ways_DHs)
theorem rp_L_steps {ds : List PyData} {d : PyData} (h : R_moves ds d) : RD (rd_L_steps K (spR R_L_step)) (ds.map some ++ List.replicate (6 - ds.length) none) d := by
  obtain ⟨h, s, o⟩ := h
  refine rd_own (n := 0) (by simp) (so_moves h s o (fun k w hk hw => .mk h s k w (o.step hk hw)) fun k => ?_)
  have h1 := ie_str (ρ := [some (hallD h), some (standD s), none, some (.int k), none, none]) (te := tC (.str "ensw")) (x := "ensw") ed_str
  rw [sg_map] at h1
  exact h1
theorem rp_is_step_ok {aW : Addr} (hT : ∀ H : Hp, SqT K H aW [.str "e", .str "n", .str "s", .str "w"]) {cs : List Cell} {k : Nat} {w : Sg} (hk : k < cs.length) (hw : Way w) :
    RD (rd_is_step K aW (spR R_is_number)) [some (cellsD cs), some (stepD k w), none, none] (.bool true) := by
  refine rd_ifS (b := false) (ET.is (by walk_at "ed") (by simp [eqv_int])) (fun z => nomatch z) (fun _ => ?_)
  refine rd_seq (sd_asg (d := stepD k w) (by walk_at "ed") (gd_tup (vs := [2, 3]) (gds_cons (gd_name (by simp)) (gds_cons (gd_name (by simp)) gds_nil)) rfl)) ?_
  refine rd_ret (ED.is (ed_andV (ed_call (by walk_at "ed") (.mk k)) fun _ => ed_andV (ed_chain ed_int (ed_var rfl) r2_le fun _ => ⟨ed_cb (ea_cons (ed_var rfl) ea_nil) rc_lenT, r2_lt⟩) fun _ => ed_inWays hT (w := w) (by walk_at "ed") hw) ?_)
  have h1 : (0 : Int) ≤ (k : Int) := by omega
  simp [hk]
/-! ### halls that are halls -/
theorem sdx_seq {t u : TS} {ρ ρ1 : Rho} (h : SD t ρ ρ1) (k : ∃ ρ', SD u ρ1 ρ') : ∃ ρ', SD (tSeq t u) ρ ρ' := let ⟨r, z⟩ := k; ⟨r, sd_seq h z⟩
structure HallOk (h : Hall) : Prop where
  rows : 1 ≤ h.rows ∧ h.rows ≤ 5
  cols : 1 ≤ h.cols ∧ h.cols ≤ 5
  nwalls : h.walls.length ≤ 24
  ndoors : h.doors.length ≤ 6
  walls : ∀ e ∈ h.walls, isEdge h e = true
  nodupW : h.walls.Nodup
  ways : ∀ e ∈ h.doors, Way e.2.2
  doors : ∀ e ∈ h.doors, isEdge h (edgeFrom e.1 e.2.1 e.2.2) = true
  apart : ∀ e ∈ h.doors, edgeFrom e.1 e.2.1 e.2.2 ∉ h.walls
  nodupD : (h.doors.map fun e => edgeFrom e.1 e.2.1 e.2.2).Nodup
structure CellsOk (h : Hall) (cs : List Cell) : Prop where
  pos : cs ≠ []
  most : cs.length ≤ 3
  cells : ∀ c ∈ cs, inH h c = true
  nodup : cs.Nodup
theorem isEdge_hv {h : Hall} {e : Edge} (he : isEdge h e = true) : HV e := by
  unfold isEdge at he
  simp only [Bool.and_eq_true] at he
  by_cases hh : e.2.2 = .h
  · exact .inl hh
  · rw [if_neg hh] at he
    simp only [Bool.and_eq_true, decide_eq_true_eq] at he
    exact .inr he.2.1
/-- check_edges(h, part, es, most, taken): none is refused -/
def R_check_edges (ds : List PyData) : Prop := ∃ (h : Hall) (part : Int) (es taken : List Edge) (most : Nat) (c : PyData),
  ds = [hallD h, .int part, c, .int (most : Nat), .tuple (taken.map edgeD)] ∧ (c = .tuple (es.map edgeD) ∨ c = .list (es.map edgeD)) ∧ es.length ≤ most ∧ (∀ e ∈ es, isEdge h e = true) ∧ (∀ e ∈ es, e ∉ taken) ∧ es.Nodup
theorem not_mem_take {α : Type} {xs : List α} (h : xs.Nodup) {n : Nat} {x : α} (hx : xs[n]? = some x) : x ∉ xs.take n := fun hm => by
  obtain ⟨i, hi, e⟩ := List.mem_iff_getElem.mp hm
  rw [List.length_take] at hi
  rw [List.getElem_take] at e
  obtain ⟨hn, e2⟩ := List.getElem?_eq_some_iff.mp hx
  have h3 : xs[i] = xs[n] := by rw [e, e2]
  have := (List.getElem_inj h).mp h3
  omega
theorem cut_take (ds : List PyData) (n : Nat) (hn : n ≤ ds.length) : cutD ds none (some (n : Int)) = ds.take n := by
  unfold cutD
  rw [HT.sIx_none, HT.sIx_nat, List.drop_zero, Nat.min_eq_left hn, Nat.sub_zero]
theorem rp_check_edges {ds : List PyData} (hR : R_check_edges ds) : ∃ ρ', SD (rd_check_edges K (spR R_is_edge)) (ds.map some ++ List.replicate (7 - ds.length) none) ρ' := by
  obtain ⟨h, part, es, taken, most, c, rfl, hc, hmost, hedge, htaken, hnd⟩ := hR
  have hi : IE (iEnumX K (tCons (tVar 2) tNil)) [some (hallD h), some (.int part), some c, some (.int (most : Nat)), some (.tuple (taken.map edgeD)), none, none] (es.zipIdx.map fun p => .tuple [.int p.2, edgeD p.1]) := by
    have e : (es.map edgeD).zipIdx.map (fun p => PyData.tuple [.int (p.2 : Nat), p.1]) = es.zipIdx.map fun p => .tuple [.int p.2, edgeD p.1] := by
      rw [List.zipIdx_map, List.map_map]
      rfl
    rw [← e]
    rcases hc with rfl | rfl
    · exact ie_enumT (ea_cons (ed_var rfl) ea_nil)
    · exact ie_enumL (ea_cons (ed_var rfl) ea_nil)
  refine ⟨_, sd_for (ρ0 := [some (hallD h), some (.int part), some c, some (.int (most : Nat)), some (.tuple (taken.map edgeD)), none, none]) (fun p : Edge × Nat => .tuple [.int p.2, edgeD p.1]) hi fun n x hx => ?_⟩
  rw [List.getElem?_zipIdx] at hx
  cases hxe : es[n]? with
  | none => rw [hxe] at hx; simp at hx
  | some e =>
    rw [hxe] at hx
    simp at hx
    subst hx
    have hem : e ∈ es := List.mem_of_getElem? hxe
    have hnl : n < es.length := (List.getElem?_eq_some_iff.mp hxe).1
    refine ⟨[some (hallD h), some (.int part), some c, some (.int (most : Nat)), some (.tuple (taken.map edgeD)), some (.int n), some (edgeD e)], [5, 6], gd_tup (gds_cons (gd_name (by simp)) (gds_cons (gd_name (by simp)) gds_nil)) rfl, ?_⟩
    refine sd_less (ρ' := [some (hallD h), some (.int part), some c, some (.int (most : Nat)), some (.tuple (taken.map edgeD)), some (.int n), some (edgeD e)]) ?_ (((Rle.refl [some (hallD h), some (.int part), some c, some (.int (most : Nat)), some (.tuple (taken.map edgeD)), none, none]).set (i := 5) (o := some (.int n)) rfl).set (i := 6) rfl)
    have t1 : ET (tOr (tTest (tOp (rEqD K) (tVar 5) (tVar 3))) (tNot (tB (tCallD (spR R_is_edge) (tCons (tVar 0) (tCons (tVar 6) tNil))))))
        [some (hallD h), some (.int part), some c, some (.int (most : Nat)), some (.tuple (taken.map edgeD)), some (.int n), some (edgeD e)] false := by
      refine ET.is (et_or (et_test (ed_op (ed_var rfl) (ed_var rfl) (r2_eq (sh_int _) (sh_int _)))) fun _ => et_not (et_B (ed_call (by walk_at "ed") (.mk h e)))) ?_
      rw [eqv_int, hedge e hem]
      have : ¬ ((n : Int) = (most : Int)) := by omega
      simp [this]
    refine sd_seq (sd_ifNo t1) (sd_ifNo (ET.is (et_or (b := false) (et_test (ED.is (ed_op (ed_var rfl) (ed_var rfl) (r2_inT (sh_edge _) (sh_edges _))) (congrArg PyData.bool (any_edge _ _)))) fun _ => et_test ?_) ?_))
    · have hz : ((es.take n).map edgeD) = cutD (es.map edgeD) none (some (n : Int)) := by
        rw [cut_take _ _ (by rw [List.length_map]; omega), List.map_take]
      have hno : decide (e ∈ es.take n) = false := decide_eq_false (not_mem_take hnd hxe)
      rcases hc with rfl | rfl
      · refine ED.is (ed_op (ed_var rfl) (ED.is (d' := .tuple ((es.take n).map edgeD)) (ed_slT (ed_var rfl) eo_none (eo_some (ed_var rfl))) (by rw [hz])) (r2_inT (sh_edge _) (sh_edges _))) (congrArg PyData.bool ((any_edge _ _).trans hno))
      · refine ED.is (ed_op (ed_var rfl) (ED.is (d' := .list ((es.take n).map edgeD)) (ed_slL (ed_var rfl) eo_none (eo_some (ed_var rfl))) (by rw [hz])) (r2_inL (sh_edge _) (sh_edgesL _))) (congrArg PyData.bool ((any_edge _ _).trans hno))
    · rw [Bool.or_false]
      exact decide_eq_false (htaken e hem)
abbrev RN (R : List PyData → Prop) : List PyData → PyData → Prop := fun ds d => R ds ∧ d = .none
def R_check_hall (ds : List PyData) : Prop := ∃ h : Hall, ds = [hallD h] ∧ HallOk h
theorem rp_check_hall {ds : List PyData} (hR : R_check_hall ds) : ∃ ρ', SD (rd_check_hall K (spR (RN R_check_edges)) (spR R_door_edge) (spR R_is_side)) (ds.map some ++ List.replicate (6 - ds.length) none) ρ' := by
  obtain ⟨h, rfl, o⟩ := hR
  have nd := o.ndoors
  refine sdx_seq (sd_ifNo (ET.is (by walk_at "ed") (by simp [eqv_int]))) ?_
  refine sdx_seq (sd_asg (d := hallD h) (by walk_at "ed") (gd_tup (vs := [1, 2, 3, 4]) (gds_cons (gd_name (by simp)) (gds_cons (gd_name (by simp)) (gds_cons (gd_name (by simp)) (gds_cons (gd_name (by simp)) gds_nil)))) rfl)) ?_
  refine sdx_seq (sd_ifNo (ET.is (et_not (et_B (ed_call (by walk_at "ed") (.mk h.rows)))) (by simp [o.rows]))) ?_
  refine sdx_seq (sd_ifNo (ET.is (et_not (et_B (ed_call (by walk_at "ed") (.mk h.cols)))) (by simp [o.cols]))) ?_
  refine sdx_seq (sd_ifNo (ET.is (by walk_at "ed") (by rfl))) ?_
  refine sdx_seq (sd_drop (ed_call (R := RN R_check_edges) (ea_cons (ed_var rfl) (ea_cons ed_int (ea_cons (ed_var rfl) (ea_cons ed_int (ea_cons (ed_tup ea_nil (by simp)) ea_nil))))) ⟨⟨h, 2, h.walls, [], 24, _, rfl, .inl rfl, o.nwalls, o.walls, fun _ _ z => (by simp at z), o.nodupW⟩, rfl⟩)) ?_
  refine sdx_seq (sd_ifNo (ET.is (by walk_at "ed") (by rfl))) ?_
  refine ⟨_, sd_drop (ed_call (R := RN R_check_edges) (ea_cons (ed_var rfl) (ea_cons ed_int (ea_cons (d := .list ((h.doors.map fun e => edgeFrom e.1 e.2.1 e.2.2).map edgeD)) ?_ (ea_cons ed_int (ea_cons (ed_var rfl) ea_nil))))) ⟨⟨h, 3, h.doors.map fun e => edgeFrom e.1 e.2.1 e.2.2, h.walls, 6, _, rfl, .inr rfl, by rw [List.length_map]; exact nd, ?_, ?_, o.nodupD⟩, rfl⟩)⟩
  · refine ED.is (ed_lcM h.doors edgeD (fun e => edgeD (edgeFrom e.1 e.2.1 e.2.2)) (ie_tup (ed_var rfl)) (by omega) fun e he => ⟨_, gd_name (by simp), ed_call (ea_cons (ed_var rfl) ea_nil) (.mk e (o.ways e he))⟩) ?_
    rw [List.map_map]
    rfl
  · intro e he
    obtain ⟨x, hx, rfl⟩ := List.mem_map.mp he
    exact o.doors x hx
  · intro e he
    obtain ⟨x, hx, rfl⟩ := List.mem_map.mp he
    exact o.apart x hx
def R_check_cells (ds : List PyData) : Prop := ∃ (h : Hall) (cs : List Cell), ds = [hallD h, cellsD cs] ∧ CellsOk h cs
theorem rp_check_cells {ds : List PyData} (hR : R_check_cells ds) : ∃ ρ', SD (rd_check_cells K (spR R_is_cell)) (ds.map some ++ List.replicate (4 - ds.length) none) ρ' := by
  obtain ⟨h, cs, rfl, o⟩ := hR
  refine sdx_seq (sd_ifNo (ET.is (by walk_at "ed") (by rw [eqv_int]; simp [o.pos]))) ?_
  have hi : IE (iEnumX K (tCons (tVar 1) tNil)) [some (hallD h), some (cellsD cs), none, none] (cs.zipIdx.map fun p => .tuple [.int p.2, cellD p.1]) := by
    have e : (cs.map cellD).zipIdx.map (fun p => PyData.tuple [.int (p.2 : Nat), p.1]) = cs.zipIdx.map fun p => .tuple [.int p.2, cellD p.1] := by
      rw [List.zipIdx_map, List.map_map]
      rfl
    rw [← e]
    exact ie_enumT (ea_cons (ed_var rfl) ea_nil)
  refine ⟨_, sd_for (ρ0 := [some (hallD h), some (cellsD cs), none, none]) (fun p : Cell × Nat => .tuple [.int p.2, cellD p.1]) hi fun n x hx => ?_⟩
  rw [List.getElem?_zipIdx] at hx
  cases hxe : cs[n]? with
  | none => rw [hxe] at hx; simp at hx
  | some e =>
    rw [hxe] at hx
    simp at hx
    subst hx
    have hem : e ∈ cs := List.mem_of_getElem? hxe
    have hnl : n < cs.length := (List.getElem?_eq_some_iff.mp hxe).1
    have hm := o.most
    refine ⟨[some (hallD h), some (cellsD cs), some (.int n), some (cellD e)], [2, 3], gd_tup (gds_cons (gd_name (by simp)) (gds_cons (gd_name (by simp)) gds_nil)) rfl, ?_⟩
    refine sd_less (ρ' := [some (hallD h), some (cellsD cs), some (.int n), some (cellD e)]) ?_ (((Rle.refl [some (hallD h), some (cellsD cs), none, none]).set (i := 2) (o := some (.int n)) rfl).set (i := 3) rfl)
    refine sd_ifNo (ET.is (et_or (et_test (ed_op (ed_var rfl) ed_int (r2_eq (sh_int _) (sh_int _)))) fun _ => et_or (et_not (et_B (ed_call (by walk_at "ed") (.mk h e)))) fun _ => et_test (ED.is (ed_op (ed_var rfl) (ED.is (d' := .tuple ((cs.take n).map cellD)) (ed_slT (ed_var rfl) eo_none (eo_some (ed_var rfl))) ?_) (r2_inT (sh_cell _) (sh_cells _))) (congrArg PyData.bool (any_cell _ _)))) ?_)
    · rw [cut_take _ _ (by rw [List.length_map]; omega), List.map_take]
    · have hno : decide (e ∈ cs.take n) = false := decide_eq_false (not_mem_take o.nodup hxe)
      have h3 : ¬ ((n : Int) = 3) := by omega
      rw [eqv_int, o.cells e hem, hno]
      simp [h3]
def R_check_start (ds : List PyData) : Prop := ∃ (h : Hall) (cs : List Cell), ds = [hallD h, cellsD cs] ∧ HallOk h ∧ CellsOk h cs
theorem rp_check_start {ds : List PyData} (hR : R_check_start ds) : ∃ ρ', SD (rd_check_start K (spR (RN R_check_cells)) (spR (RN R_check_hall))) (ds.map some ++ List.replicate (2 - ds.length) none) ρ' := by
  obtain ⟨h, cs, rfl, o, oc⟩ := hR
  exact ⟨_, sd_seq (sd_drop (ed_call (R := RN R_check_hall) (ea_cons (ed_var rfl) ea_nil) ⟨⟨h, rfl, o⟩, rfl⟩)) (sd_drop (ed_call (R := RN R_check_cells) (ea_cons (ed_var rfl) (ea_cons (ed_var rfl) ea_nil)) ⟨⟨h, cs, rfl, oc⟩, rfl⟩))⟩
/-! ### may -/
def firstS (h : Hall) (cs : List Cell) : Stand := ⟨cs, h.doors.map fun e => e.2.2⟩
theorem sok_first {h : Hall} {cs : List Cell} (o : HallOk h) (oc : CellsOk h cs) : SOk h (firstS h cs) where
  walls := fun e he => isEdge_hv (o.walls e he)
  nwalls := by have := o.nwalls; omega
  ndoors := by have := o.ndoors; omega
  ways := fun x hx => by
    obtain ⟨e, he, rfl⟩ := List.mem_map.mp hx
    exact o.ways e he
  nways := List.length_map _
  cells := oc.cells
  ncells := by have := oc.most; exact Nat.le_trans this (by decide)
/-- the steps of all moves -/
def fstD : PyData → PyData
  | .tuple (d :: _) => d
  | d => d
inductive R_may : List PyData → PyData → Prop | mk (h : Hall) (cs : List Cell) (o : HallOk h) (oc : CellsOk h cs) : R_may [hallD h, cellsD cs] (.list ((movesD h (firstS h cs)).map fstD))
theorem fold_shape (P : PyData → Prop) {α : Type} (F : List PyData → α → List PyData) (hF : ∀ ds x, (∀ d ∈ ds, P d) → ∀ d ∈ F ds x, P d) : ∀ (xs : List α) (ds : List PyData), (∀ d ∈ ds, P d) → ∀ d ∈ xs.foldl F ds, P d
  | [], ds, h => h
  | x :: xs, ds, h => fold_shape P F hF xs (F ds x) (hF ds x h)
theorem movesD_shape (h : Hall) (s : Stand) : ∀ d ∈ movesD h s, ∃ m, d = moveD m := by
  refine fold_shape (fun d => ∃ m, d = moveD m) _ (fun ds k hds => ?_) _ [] (fun d hd => nomatch hd)
  refine fold_shape (fun d => ∃ m, d = moveD m) _ (fun ds w hds => ?_) _ ds hds
  intro d hd
  unfold addMove at hd
  split at hd
  · exact hds d hd
  · rcases List.mem_append.mp hd with z | z
    · exact hds d z
    · simp at z
      exact ⟨_, z⟩
theorem movesD_len (h : Hall) (s : Stand) (hs : s.cells.length ≤ 100) : (movesD h s).length ≤ 400 := by
  have key : ∀ (xs : List Nat) (ds : List PyData), (xs.foldl (addMoves h s) ds).length ≤ ds.length + 4 * xs.length := by
    intro xs
    induction xs with
    | nil => intro ds; simp
    | cons x xs ih =>
      intro ds
      have h1 := ih (addMoves h s ds x)
      have h2 := addMoves_len h s ds x
      simp only [List.foldl_cons, List.length_cons]
      omega
  have := key (List.range s.cells.length) []
  rw [List.length_range] at this
  simp only [List.length_nil] at this
  unfold movesD
  omega
theorem rp_may {ds : List PyData} {d : PyData} (h : R_may ds d) : RD (rd_may K (spR (RN R_check_start)) (spR R_first_standing) (spR R_moves)) (ds.map some ++ List.replicate (3 - ds.length) none) d := by
  obtain ⟨h, cs, o, oc⟩ := h
  have so := sok_first o oc
  have nd := o.ndoors
  refine rd_seq (sd_drop (ed_call (R := RN R_check_start) (ea_cons (ed_var rfl) (ea_cons (ed_var rfl) ea_nil)) ⟨⟨h, cs, rfl, o, oc⟩, rfl⟩)) ?_
  refine rd_ret (ed_lcM (movesD h (firstS h cs)) (fun d => d) fstD ?_ (Nat.le_trans (movesD_len _ _ so.ncells) (by omega)) fun d hd => ⟨_, gd_name (by simp), ?_⟩)
  · rw [List.map_id']
    exact ie_list (ed_call (ea_cons (ed_var rfl) (ea_cons (ed_call (ea_cons (ed_var rfl) (ea_cons (ed_var rfl) ea_nil)) (.mk h cs (by omega))) ea_nil)) (.mk h (firstS h cs) so))
  · obtain ⟨m, rfl⟩ := movesD_shape _ _ d hd
    exact ed_op (ed_var rfl) ed_int (r2_ixT rfl)
end
end Pd

/-! Sem8 -/
set_option Elab.async false
set_option linter.all false
set_option maxRecDepth 100000
set_option maxHeartbeats 4000000
namespace Pd
open PySem PySem.Spec PyProof.Rows L2 PySem.W
local macro_rules | `(tactic| walk_at "ed") => `(tactic| repeat' (first
  | with_reducible (first
    | exact ed_int | exact ed_str | exact ed_bl | exact ed_non
    | exact ea_nil | refine' ea_cons ?_ ?_
    | refine' ed_isi ?_ ?_ | refine' ed_isi2 ?_ ?_ ?_
    | refine' ed_andV ?_ (fun _ => ?_) | refine' ed_orV ?_ (fun _ => ?_) | refine' ed_notV ?_
    | refine' ed_chain ?_ ?_ ?_ (fun _ => ⟨?_, ?_⟩)
    | refine' ed_tup ?_ ?_ | refine' ed_lst ?_ ?_
    | refine' et_not ?_ | refine' et_and ?_ (fun _ => ?_) | refine' et_or ?_ (fun _ => ?_) | exact et_yes
    | refine' et_test ?_ | refine' et_B ?_
    | refine' ed_op ?_ ?_ ?_
    | refine' ed_cb ?_ ?_)
  | exact ed_var rfl
  | exact kit_tt | exact kit_ii | exact kit_ib | exact kit_ll | exact kit_lt | exact kit_tl
  | exact r2_addI | exact r2_subI | exact r2_lt | exact r2_le | exact r2_gt | exact r2_ge | exact r2_isN | exact r2_notN
  | exact rc_lenT | exact rc_lenL | exact rc_intB | exact rc_tupL
  | with_reducible (first | refine' r2_eq ?_ ?_ | refine' r2_ne ?_ ?_)
  | exact sh_int _ | exact sh_sg _ | exact sh_cell _ | exact sh_edge _ | exact sh_pair _ | exact sh_str _ (by decide +kernel)
  | exact r2_ixT rfl | exact r2_ixL rfl
  | refine' ed_tup ?_ ?_
  | (show List.length _ ≤ 100000; simp; done)))
/-! ### the draws: the law's row -/
def Pu (te : TE) (σ : L2.St) (H : Hp) (v : V) : Prop := ∀ Q : VK, Q v H → te σ H Q
section
variable {K : PySem.W.Frag} {σ : L2.St} {H : Hp} {ta tb te : TE} {i j : Int} {v : V}
theorem pu_var {n : Nat} (h : σ[n]? = some (some v)) : Pu (tVar n) σ H v := fun Q q => ⟨v, h, q⟩
theorem pu_c : Pu (tC v) σ H v := fun Q q => q
theorem ret_pu {D : Ends} (h : Pu te σ H v) (q : D.rt v H) : tRet te D σ H := h _ q
theorem pu_i0 {g : Int → Int → V} (ha : Pu ta σ H (.int i)) (hb : Pu tb σ H (.int j)) : Pu (tOp (rI0 g) ta tb) σ H (g i j) := fun Q q => ha _ (hb _ ⟨i, j, rfl, rfl, q⟩)
theorem pu_iC {C : Int → Int → Prop} {g : Int → Int → V} (ha : Pu ta σ H (.int i)) (hb : Pu tb σ H (.int j)) (hc : C i j) : Pu (tOp (rI C g) ta tb) σ H (g i j) := fun Q q => ha _ (hb _ ⟨i, j, rfl, rfl, hc, q⟩)
theorem go_iC {C : Int → Int → Prop} {g : Int → Int → V} {Q : VK} (ha : Pu ta σ H (.int i)) (hb : Pu tb σ H (.int j)) (hc : C i j) (q : Q (g i j) H) : tOp (rI C g) ta tb σ H Q := pu_iC ha hb hc Q q
theorem pu_add (ha : Pu ta σ H (.int i)) (hb : Pu tb σ H (.int j)) : Pu (tOp (rAddX K) ta tb) σ H (.int (i + j)) := fun Q q => ha _ (hb _ (.inl ⟨i, j, rfl, rfl, q⟩))
theorem pu_mul (ha : Pu ta σ H (.int i)) (hb : Pu tb σ H (.int j)) (hc : CMul i j) : Pu (tOp rMulX ta tb) σ H (.int (i * j)) := fun Q q => ha _ (hb _ (.inl ⟨i, j, rfl, rfl, hc, q⟩))
theorem pu_ix {a : Addr} {xs : List V} (ha : Pu ta σ H (.ref a)) (hb : Pu tb σ H (.int i)) (h : SqL K H a xs) (hi : atI xs i = some v) : Pu (tOp (rIx K) ta tb) σ H v := fun Q q => ha _ (hb _ (.inl ⟨a, xs, i, v, rfl, rfl, h, hi, q⟩))
theorem pu_len {a : Addr} {xs : List V} (ha : Pu ta σ H (.ref a)) (h : SqL K H a xs) : Pu (tCB (rLenX K) (tCons ta tNil)) σ H (.int (xs.length : Nat)) := fun Q q => ha _ ⟨_, xs.length, rfl, .inl ⟨xs, h, rfl⟩, q⟩
end
def rowL (sc : Addr) (a b c : Int) : HO := .lst [.ref sc, .int a, .int b, .int c]
structure RowOk (a b c : Int) : Prop where
  a : 0 ≤ a
  b : 0 ≤ b ∧ b < 2147483647
  c : 0 ≤ c
/-- the row at l over the script at sc -/
structure RowAt (K : PySem.W.Frag) (H : Hp) (l sc : Addr) (ns : List Int) : Prop where
  row : ∃ a b c, H l = some (rowL sc a b c) ∧ RowOk a b c
  scr : ∃ B : Hp, Ex B H ∧ B l = none ∧ SqL K B sc (ns.map V.int)
theorem RowAt.rd {K : PySem.W.Frag} {H : Hp} {l sc : Addr} {ns : List Int} (r : RowAt K H l sc ns) : SqL K H sc (ns.map V.int) := let ⟨_, e, _, s⟩ := r.scr; e.seqL s
theorem SqL.upd_ne {K : PySem.W.Frag} {H : Hp} {a l : Addr} {xs : List V} {o : HO} (h : SqL K H a xs) (ne : a ≠ l) : SqL K (upd H l o) a xs := by
  rcases h with (h | ⟨u, h⟩) | h
  · exact .inl (.inl (by rw [L2.upd_ne ne]; exact h))
  · exact .inl (.inr ⟨u, by rw [L2.upd_ne ne]; exact h⟩)
  · exact .inr h
theorem RowAt.upd {K : PySem.W.Frag} {H : Hp} {l sc : Addr} {ns : List Int} {a b c : Int} (r : RowAt K H l sc ns) (o : RowOk a b c) : RowAt K (L2.upd H l (rowL sc a b c)) l sc ns :=
  ⟨⟨a, b, c, upd_same, o⟩, let ⟨B, e, n, s⟩ := r.scr; ⟨B, e.mut n, n, s⟩⟩
def sp_L_taken (K : PySem.W.Frag) : Sp := fun vs H Q _ => ∃ (l sc : Addr) (ns : List Int) (m : Int), vs = [.ref l, .int m] ∧ 1 ≤ m ∧ m ≤ 100000 ∧ RowAt K H l sc ns ∧
  ∀ (a b c n : Int), RowOk a b c → 0 ≤ n → n < m → Q (.int n) (upd H l (rowL sc a b c))
theorem rp_L_taken {K : PySem.W.Frag} {vs : List V} {H : Hp} {Q : VK} {E : XK} (h : sp_L_taken K vs H Q E) : rd_L_taken K { nx := fun _ H' => Q .non H', rt := Q } (L2.start ["_law_row", "_law_many", "_law_found", "_law_cell"] vs) H := by
  obtain ⟨l, sc, ns, m, rfl, h1, h2, r, q⟩ := h
  obtain ⟨⟨a, b, c, hrow, ro⟩, _⟩ := id r
  have hL : SqL K H l [.ref sc, .int a, .int b, .int c] := SqL.of hrow
  have hm0 : (0 : Int) < m := by omega
  have hdv : ∀ x : Int, CDiv x m := fun x => ⟨hm0, by show m < 1073741824; omega⟩
  show rd_L_taken K _ [some (.ref l), some (.int m), none, none] H
  unfold rd_L_taken
  -- the rest of a great cell
  refine pu_i0 (pu_ix (pu_var (n := 0) rfl) pu_c hL (v := .int c) rfl) pu_c _ ⟨_, rfl, ?_⟩
  refine ite2 (fun hc => ?_) (fun hc => ?_)
  · refine pu_iC (pu_ix (pu_var (n := 0) rfl) pu_c hL (v := .int c) rfl) (pu_var (n := 1) rfl) hm0 _ ?_
    refine pu_iC (pu_ix (pu_var (n := 0) rfl) pu_c hL (v := .int c) rfl) (pu_var (n := 1) rfl) (hdv _) _ ?_
    refine pu_var (n := 0) rfl _ (pu_c _ ⟨l, _, 3, 3, rfl, rfl, hrow, rfl, ?_⟩)
    refine ⟨_, rfl, ?_⟩
    exact q a b (c / m) (c % m) ⟨ro.a, ro.b, Int.ediv_nonneg ro.c (by omega)⟩ (Int.emod_nonneg _ (by omega)) (Int.emod_lt_of_pos _ hm0)
  · refine pu_add (pu_ix (pu_var (n := 0) rfl) pu_c hL (v := .int a) rfl) pu_c _ ?_
    refine pu_var (n := 0) rfl _ (pu_c _ ⟨l, _, 1, 1, rfl, rfl, hrow, rfl, ?_⟩)
    show tSeq _ _ _ _ (upd H l (rowL sc (a + 1) b c))
    have r1 : RowAt K (upd H l (rowL sc (a + 1) b c)) l sc ns := r.upd ⟨by have := ro.a; omega, ro.b, ro.c⟩
    have hL1 : SqL K (upd H l (rowL sc (a + 1) b c)) l [.ref sc, .int (a + 1), .int b, .int c] := SqL.of upd_same
    have hrow1 : (upd H l (rowL sc (a + 1) b c)) l = some (.lst [.ref sc, .int (a + 1), .int b, .int c]) := upd_same
    have hcm : CMul b 48271 := .inl (by have := ro.b; omega)
    refine pu_i0 (pu_ix (pu_var (n := 0) rfl) pu_c hL1 (v := .int (a + 1)) rfl) (pu_len (pu_ix (pu_var (n := 0) rfl) pu_c hL1 (v := .ref sc) rfl) r1.rd) _ ⟨_, rfl, ?_⟩
    refine ite2 (fun hb => ?_) (fun hb => ?_)
    · refine pu_iC (pu_add (pu_mul (pu_ix (pu_var (n := 0) rfl) pu_c hL1 (v := .int b) rfl) pu_c hcm) pu_c) pu_c (by decide) _ ?_
      refine pu_var (n := 0) rfl _ (pu_c _ ⟨l, _, 2, 2, rfl, rfl, hrow1, rfl, ?_⟩)
      rw [upd_upd]
      have hb2 : 0 ≤ (b * 48271 + 11) % 2147483647 ∧ (b * 48271 + 11) % 2147483647 < 2147483647 := ⟨Int.emod_nonneg _ (by decide), Int.emod_lt_of_pos _ (by decide)⟩
      have hL2 : SqL K (upd H l (rowL sc (a + 1) ((b * 48271 + 11) % 2147483647) c)) l [.ref sc, .int (a + 1), .int ((b * 48271 + 11) % 2147483647), .int c] := SqL.of upd_same
      show tOp rModI (tOp rFdivI (tOp (rIx K) (tVar 0) (tC (.int 2))) (tC (.int 7))) (tVar 1) [some (.ref l), some (.int m), none, none] (upd H l (rowL sc (a + 1) ((b * 48271 + 11) % 2147483647) c)) _
      refine go_iC (pu_iC (C := CDiv) (i := (b * 48271 + 11) % 2147483647) (j := 7) (g := fun i j => .int (i / j)) (pu_ix (pu_var (n := 0) rfl) pu_c hL2 (v := .int ((b * 48271 + 11) % 2147483647)) rfl) pu_c ⟨by decide, by decide⟩) (pu_var (n := 1) rfl) hm0 ?_
      exact q (a + 1) _ c _ ⟨by have := ro.a; omega, hb2, ro.c⟩ (Int.emod_nonneg _ (by omega)) (Int.emod_lt_of_pos _ hm0)
    · have hb' : ¬ ((((ns.map V.int).length : Nat) : Int) < a + 1) := by simpa using hb
      rw [List.length_map] at hb'
      have ha := ro.a
      have hlt : a.toNat < ns.length := by omega
      have hat : atI (ns.map V.int) (a + 1 - 1) = some (.int ns[a.toNat]) := by
        have e : a + 1 - 1 = ((a.toNat : Nat) : Int) := by omega
        rw [e]
        exact atI_nat (by rw [List.getElem?_map, List.getElem?_eq_getElem hlt]; rfl)
      generalize ns[a.toNat] = x at hat
      refine pu_ix (pu_ix (pu_var (n := 0) rfl) pu_c hL1 (v := .ref sc) rfl) (pu_i0 (pu_ix (pu_var (n := 0) rfl) pu_c hL1 (v := .int (a + 1)) rfl) pu_c) r1.rd hat _ ?_
      refine pu_iC (pu_add (pu_add (pu_mul (pu_ix (pu_var (n := 0) rfl) pu_c hL1 (v := .int b) rfl) pu_c hcm) (pu_var (n := 3) rfl)) pu_c) pu_c (by decide) _ ?_
      refine pu_var (n := 0) rfl _ (pu_c _ ⟨l, _, 2, 2, rfl, rfl, hrow1, rfl, ?_⟩)
      rw [upd_upd]
      have hb2 : 0 ≤ (b * 48271 + x + 11) % 2147483647 ∧ (b * 48271 + x + 11) % 2147483647 < 2147483647 := ⟨Int.emod_nonneg _ (by decide), Int.emod_lt_of_pos _ (by decide)⟩
      refine pu_i0 (pu_var (n := 3) rfl) (pu_iC pu_c pu_c ⟨by decide, by decide, by decide⟩) _ ⟨_, rfl, ?_⟩
      have hrow2 : (upd H l (.lst (List.set [.ref sc, .int (a + 1), .int b, .int c] 2 (.int ((b * 48271 + x + 11) % 2147483647))))) l = some (.lst [.ref sc, .int (a + 1), .int ((b * 48271 + x + 11) % 2147483647), .int c]) := upd_same
      refine ite2 (fun hg => ?_) (fun hg => ?_)
      · have hx : (0 : Int) ≤ x := by
          have h10 : (10 : Int) ^ (18 : Int).toNat ≤ x := of_decide_eq_true hg
          have : (10 : Int) ^ (18 : Int).toNat = 1000000000000000000 := by decide
          omega
        refine go_iC (pu_var (n := 3) rfl) (pu_var (n := 1) rfl) (hdv _) ?_
        refine pu_var (n := 0) rfl _ (pu_c _ ⟨l, _, 3, 3, rfl, rfl, hrow2, rfl, ?_⟩)
        rw [upd_upd]
        unfold tRet
        refine go_iC (pu_var (n := 3) rfl) (pu_var (n := 1) rfl) hm0 ?_
        exact q (a + 1) _ (x / m) (x % m) ⟨by omega, hb2, Int.ediv_nonneg hx (by omega)⟩ (Int.emod_nonneg _ (by omega)) (Int.emod_lt_of_pos _ hm0)
      · unfold tRet
        refine go_iC (pu_var (n := 3) rfl) (pu_var (n := 1) rfl) hm0 ?_
        exact q (a + 1) _ c (x % m) ⟨by omega, hb2, ro.c⟩ (Int.emod_nonneg _ (by omega)) (Int.emod_lt_of_pos _ hm0)
end Pd

/-! PdI -/
set_option Elab.async false
set_option linter.all false
set_option maxRecDepth 100000
set_option maxHeartbeats 4000000
/-! defs that draw from the row: what they do to the heap, and lists of their own -/
namespace Pd
open PySem PySem.Spec PyProof.Rows L2

/-- the row l over the script sc, beside the base -/
structure Dr (K : PySem.W.Frag) (l sc : Addr) (ns : List Int) (B H : Hp) : Prop where
  t : Ex B H
  row : ∃ a b c, H l = some (rowL sc a b c) ∧ RowOk a b c
  scr : SqL K B sc (ns.map V.int)
  nl : B l = none
/-- all but the row stays -/
structure GrW (l : Addr) (B H B' H' : Hp) : Prop where
  b : Ex B B'
  h : ∀ a u, a ≠ l → H a = some u → H' a = some u
  n : ∀ a, B a = none → H a ≠ none → B' a = none
theorem Dr.nn {K : PySem.W.Frag} {l sc : Addr} {ns : List Int} {B H : Hp} (d : Dr K l sc ns B H) : H l ≠ none := by
  obtain ⟨a, b, c, h, _⟩ := d.row
  rw [h]
  exact fun z => nomatch z
theorem Dr.gr {K : PySem.W.Frag} {l sc : Addr} {ns : List Int} {B H B' H' : Hp} (d : Dr K l sc ns B H) (g : Gr B H B' H') : Dr K l sc ns B' H' :=
  ⟨g.t, let ⟨a, b, c, h, o⟩ := d.row; ⟨a, b, c, g.h _ _ h, o⟩, g.b.seqL d.scr, g.n _ d.nl d.nn⟩
theorem Gr.w {l : Addr} {B H B' H' : Hp} (g : Gr B H B' H') : GrW l B H B' H' := ⟨g.b, fun a u _ e => g.h a u e, g.n⟩
theorem GrW.nn {K : PySem.W.Frag} {l sc : Addr} {ns : List Int} {B H B' H' : Hp} (g : GrW l B H B' H') (d : Dr K l sc ns B' H') {a : Addr} (h : H a ≠ none) : H' a ≠ none := by
  by_cases e : a = l
  · subst e
    exact d.nn
  · cases q : H a with
    | none => exact absurd q h
    | some u =>
      rw [g.h a u e q]
      exact fun z => nomatch z
theorem GrW.trans {K : PySem.W.Frag} {l sc : Addr} {ns : List Int} {B H B1 H1 B2 H2 : Hp} (a : GrW l B H B1 H1) (d : Dr K l sc ns B1 H1) (b : GrW l B1 H1 B2 H2) : GrW l B H B2 H2 :=
  ⟨a.b.trans b.b, fun x u n e => b.h x u n (a.h x u n e), fun x h1 h2 => b.n x (a.n x h1 h2) (a.nn d h2)⟩

/-- a def that draws: it is handed the row and data, and tells data -/
def spW (K : PySem.W.Frag) (Pre : List PyData → Prop) (R : List PyData → PyData → Prop) : Sp := fun vs H Q _ => ∃ l sc ns B ws ds, vs = .ref l :: ws ∧ DHs B ws ds ∧ Dr K l sc ns B H ∧ Pre ds ∧
  ∀ v d B' H', R ds d → Dr K l sc ns B' H' → GrW l B H B' H' → DH B' v d → Q v H'
def P_taken (ds : List PyData) : Prop := ∃ m : Int, ds = [.int m] ∧ 1 ≤ m ∧ m ≤ 100000
def R_taken (ds : List PyData) (d : PyData) : Prop := ∃ m n : Int, ds = [.int m] ∧ d = .int n ∧ 0 ≤ n ∧ n < m
theorem sp_taken {K : PySem.W.Frag} {vs : List V} {H : Hp} {Q : VK} {E : XK} (h : spW K P_taken R_taken vs H Q E) : sp_L_taken K vs H Q E := by
  obtain ⟨l, sc, ns, B, ws, ds, rfl, hd, d, ⟨m, rfl, h1, h2⟩, q⟩ := h
  cases hd with
  | cons a r =>
    cases r
    cases a
    refine ⟨l, sc, ns, m, rfl, h1, h2, ⟨d.row, B, d.t, d.nl, d.scr⟩, fun a b c n ok hn hm => ?_⟩
    refine q _ (.int n) B _ ⟨m, n, rfl, rfl, hn, hm⟩ ⟨fun x u hx => ?_, ⟨a, b, c, upd_same, ok⟩, d.scr, d.nl⟩ ⟨Ex.refl B, fun x u hx e => ?_, fun x e _ => e⟩ (.int n)
    · have : x ≠ l := fun z => by rw [z, d.nl] at hx; cases hx
      rw [upd_ne this]
      exact d.t _ _ hx
    · rw [upd_ne hx]
      exact e

abbrev OS := List (Nat × List PyData)
/-- where a def stands: r the row's slot; base and heap as they were at its beginning -/
structure Cfg where
  K : PySem.W.Frag
  r : Nat
  l : Addr
  sc : Addr
  ns : List Int
  B1 : Hp
  H1 : Hp
structure Iv (c : Cfg) (A : Nat → Addr) (σ : L2.St) (B H : Hp) (ρ : Rho) (os : OS) : Prop where
  d : Dr c.K c.l c.sc c.ns B H
  g : GrW c.l c.B1 c.H1 B H
  e : EnvD σ B ρ
  s0 : σ[c.r]? = some (some (.ref c.l))
  own : ∀ p ∈ os, σ[p.1]? = some (some (.ref (A p.1))) ∧ B (A p.1) = none ∧ c.H1 (A p.1) = none ∧ A p.1 ≠ c.l ∧ ∃ xs, H (A p.1) = some (.lst xs) ∧ DHs B xs p.2
  ap : ∀ p ∈ os, ∀ q ∈ os, p.1 ≠ q.1 → A p.1 ≠ A q.1
theorem Iv.w {c : Cfg} {A : Nat → Addr} {σ : L2.St} {B H B' H' : Hp} {ρ : Rho} {os : OS} (o : Iv c A σ B H ρ os) (d : Dr c.K c.l c.sc c.ns B' H') (g : GrW c.l B H B' H') : Iv c A σ B' H' ρ os := by
  refine ⟨d, o.g.trans o.d g, o.e.mono g.b, o.s0, fun p hp => ?_, o.ap⟩
  obtain ⟨h1, h2, h3, h4, xs, h5, h6⟩ := o.own p hp
  exact ⟨h1, g.n _ h2 (by rw [h5]; exact fun z => nomatch z), h3, h4, xs, g.h _ _ h4 h5, h6.mono g.b⟩
theorem Iv.gr {c : Cfg} {A : Nat → Addr} {σ : L2.St} {B H B' H' : Hp} {ρ : Rho} {os : OS} (o : Iv c A σ B H ρ os) (g : Gr B H B' H') : Iv c A σ B' H' ρ os := o.w (o.d.gr g) g.w
theorem Iv.less {c : Cfg} {A : Nat → Addr} {σ : L2.St} {B H : Hp} {ρ ρ' : Rho} {os : OS} (o : Iv c A σ B H ρ os) (k : Rle ρ' ρ) : Iv c A σ B H ρ' os := ⟨o.d, o.g, o.e.less k, o.s0, o.own, o.ap⟩
theorem Iv.set {c : Cfg} {A : Nat → Addr} {σ : L2.St} {B H : Hp} {ρ : Rho} {os : OS} {i : Nat} {v : V} {d : PyData} (o : Iv c A σ B H ρ os) (dv : DH B v d) (hr : i ≠ c.r) (ho : ∀ p ∈ os, i ≠ p.1) : Iv c A (σ.set i (some v)) B H (ρ.set i (some d)) os := by
  refine ⟨o.d, o.g, o.e.set i dv, by rw [List.getElem?_set_ne hr]; exact o.s0, fun p hp => ?_, o.ap⟩
  obtain ⟨h1, h2⟩ := o.own p hp
  exact ⟨by rw [List.getElem?_set_ne (ho p hp)]; exact h1, h2⟩
/-- a list of one's own is dropped -/
theorem Iv.drop {c : Cfg} {A : Nat → Addr} {σ : L2.St} {B H : Hp} {ρ : Rho} {os os' : OS} (o : Iv c A σ B H ρ os) (h : ∀ p ∈ os', p ∈ os) : Iv c A σ B H ρ os' :=
  ⟨o.d, o.g, o.e, o.s0, fun p hp => o.own p (h p hp), fun p hp q hq => o.ap p (h p hp) q (h q hq)⟩

theorem Iv.own_in {c : Cfg} {A : Nat → Addr} {σ : L2.St} {B H : Hp} {ρ : Rho} {os : OS} {j : Nat} {ds : List PyData} (o : Iv c A σ B H ρ ((j, ds) :: os)) (hj : ∀ p ∈ os, p.1 ≠ j) :
    ∃ B', Ex B B' ∧ Iv c A σ B' H (ρ.set j (some (.list ds))) os := by
  obtain ⟨h1, h2, h3, h4, xs, h5, h6⟩ := o.own _ (List.mem_cons_self ..)
  have eb : Ex B (upd B (A j) (.lst xs)) := Ex.new h2
  have dl : DH (upd B (A j) (.lst xs)) (.ref (A j)) (.list ds) := .lst upd_same (h6.mono eb)
  refine ⟨_, eb, ⟨⟨fun x u hx => ?_, o.d.row, eb.seqL o.d.scr, ?_⟩, ⟨o.g.b.trans eb, o.g.h, fun x hx hn => ?_⟩, (o.e.mono eb).tell j h1 dl, o.s0, fun p hp => ?_, fun p hp q hq => o.ap p (List.mem_cons_of_mem _ hp) q (List.mem_cons_of_mem _ hq)⟩⟩
  · by_cases e : x = A j
    · subst e
      rw [upd_same] at hx
      cases hx
      exact h5
    · rw [upd_ne e] at hx
      exact o.d.t _ _ hx
  · rw [upd_ne (fun z => h4 z.symm)]
    exact o.d.nl
  · rw [upd_ne (fun z => hn (by rw [z]; exact h3))]
    exact o.g.n x hx hn
  · obtain ⟨g1, g2, g3, g4, ys, g5, g6⟩ := o.own p (List.mem_cons_of_mem _ hp)
    refine ⟨g1, ?_, g3, g4, ys, g5, g6.mono eb⟩
    rw [upd_ne (o.ap p (List.mem_cons_of_mem _ hp) _ (List.mem_cons_self ..) (hj p hp))]
    exact g2
/-- it holds no address -/
def Flat (d : PyData) : Prop := ∀ H H' v, DH H v d → DH H' v d
theorem flat_int (i : Int) : Flat (.int i) := fun H H' v h => by cases h; exact .int i
theorem flat_bl (i : Bool) : Flat (.bool i) := fun H H' v h => by cases h; exact .bl i
theorem flat_str (i : Str) : Flat (.str i) := fun H H' v h => by cases h; exact .str i
theorem flat_non : Flat .none := fun H H' v h => by cases h; exact .non
/-- a list of one's own looked at -/
theorem Iv.view {c : Cfg} {A : Nat → Addr} {σ : L2.St} {B H : Hp} {ρ : Rho} {os : OS} {j : Nat} {ds : List PyData} (o : Iv c A σ B H ρ os) (hp : (j, ds) ∈ os) :
    ∃ B', Ex B' H ∧ EnvD σ B' (ρ.set j (some (.list ds))) ∧ ∀ B2 H2, Gr B' H B2 H2 → ∃ B3, Ex B B3 ∧ Iv c A σ B3 H2 ρ os := by
  obtain ⟨h1, h2, h3, h4, xs, h5, h6⟩ := o.own _ hp
  have eb : Ex B (upd B (A j) (.lst xs)) := Ex.new h2
  have dl : DH (upd B (A j) (.lst xs)) (.ref (A j)) (.list ds) := .lst upd_same (h6.mono eb)
  refine ⟨_, fun x u hx => ?_, (o.e.mono eb).tell j h1 dl, fun B2 H2 g => ?_⟩
  · by_cases e : x = A j
    · subst e
      rw [upd_same] at hx
      cases hx
      exact h5
    · rw [upd_ne e] at hx
      exact o.d.t _ _ hx
  have e3 : Ex B (fun x => if x = A j then none else B2 x) := fun x u hx => by
    have e : x ≠ A j := fun z => by rw [z, h2] at hx; cases hx
    show (if x = A j then none else B2 x) = some u
    rw [if_neg e]
    exact g.b _ _ (eb _ _ hx)
  refine ⟨fun x => if x = A j then none else B2 x, e3, o.gr ⟨e3, fun x u hx => ?_, g.h, fun x hx hn => ?_⟩⟩
  · have hx' : (if x = A j then none else B2 x) = some u := hx
    by_cases e : x = A j
    · rw [if_pos e] at hx'
      cases hx'
    · rw [if_neg e] at hx'
      exact g.t _ _ hx'
  · show (if x = A j then none else B2 x) = none
    by_cases e : x = A j
    · rw [if_pos e]
    · rw [if_neg e]
      exact g.n x (by rw [upd_ne e]; exact hx) hn

/-! ### expressions that may draw -/
section
variable {K : PySem.W.Frag} {c : Cfg} {A : Nat → Addr} {σ : L2.St} {B H : Hp} {ρ ρ' : Rho} {os os' : OS} {te tb tc : TE} {tt tu : TT} {ta tr : TA} {d e : PyData} {ds es : List PyData} {P P2 : PyData → Prop} {i j : Nat}
def EI (c : Cfg) (te : TE) (ρ : Rho) (os : OS) (P : PyData → Prop) : Prop := ∀ A σ B H, Iv c A σ B H ρ os → ∀ Q : VK, (∀ v d B' H', Iv c A σ B' H' ρ os → Ex B B' → DH B' v d → P d → Q v H') → te σ H Q
def AI (c : Cfg) (ta : TA) (ρ : Rho) (os : OS) (P : List PyData → Prop) : Prop := ∀ A σ B H, Iv c A σ B H ρ os → ∀ Q : List V → Hp → Prop, (∀ vs ds B' H', Iv c A σ B' H' ρ os → Ex B B' → DHs B' vs ds → P ds → Q vs H') → ta σ H Q
def TI' (c : Cfg) (tt : TT) (ρ : Rho) (os : OS) (P : Bool → Prop) : Prop := ∀ A σ B H, Iv c A σ B H ρ os → ∀ Q : Bool → Hp → Prop, (∀ b B' H', Iv c A σ B' H' ρ os → P b → Q b H') → tt σ H Q
theorem ei_pure (h : ED te ρ d) : EI c te ρ os (· = d) := fun A σ B H o Q q => h σ B H o.d.t o.e Q fun v B' H' g dv => q v d B' H' (o.gr g) g.b dv rfl
theorem ei_view (h : ED te (ρ.set j (some (.list ds))) d) (hp : (j, ds) ∈ os) (hf : Flat d) : EI c te ρ os (· = d) := fun A σ B H o Q q => by
  obtain ⟨B', h1, h2, h3⟩ := o.view hp
  refine h σ B' H h1 h2 Q fun v B2 H2 g dv => ?_
  obtain ⟨B3, e3, o3⟩ := h3 B2 H2 g
  exact q v d B3 H2 o3 e3 (hf _ _ _ dv) rfl
theorem EI.imp (h : EI c te ρ os P) (k : ∀ d, P d → P2 d) : EI c te ρ os P2 := fun A σ B H o Q q => h A σ B H o Q fun v d B' H' o' ex dv hd => q v d B' H' o' ex dv (k d hd)
theorem ti_view {b : Bool} (h : ET tt (ρ.set j (some (.list ds))) b) (hp : (j, ds) ∈ os) : TI' c tt ρ os (· = b) := fun A σ B H o Q q => by
  obtain ⟨B', h1, h2, h3⟩ := o.view hp
  refine h σ B' H h1 h2 Q fun B2 H2 g => ?_
  obtain ⟨B3, _, o3⟩ := h3 B2 H2 g
  exact q b B3 H2 o3 rfl
theorem ti_pure {b : Bool} (h : ET tt ρ b) : TI' c tt ρ os (· = b) := fun A σ B H o Q q => h σ B H o.d.t o.e Q fun B' H' g => q b B' H' (o.gr g) rfl
theorem ti_test {P : Bool → Prop} (h : EI c te ρ os (fun d => ∃ b, d = .bool b ∧ P b)) : TI' c (tTest te) ρ os P := fun A σ B H o Q q => by
  refine h A σ B H o _ fun v d B' H' o' ex dv ⟨b, e, hb⟩ => ?_
  subst e
  cases dv
  exact ⟨b, rfl, q b B' H' o' hb⟩
theorem ti_and {a : Bool} {P : Bool → Prop} (h1 : TI' c tt ρ os (· = a)) (h2 : a = true → TI' c tu ρ os P) (hf : a = false → P false) : TI' c (tAnd tt tu) ρ os P := fun A σ B H o Q q => by
  refine h1 A σ B H o _ fun b B' H' o' e => ?_
  subst e
  cases b with
  | true => exact h2 rfl A σ B' H' o' _ fun b2 B2 H2 o2 hb => q b2 B2 H2 o2 hb
  | false => exact q false B' H' o' (hf rfl)
theorem ai_nil : AI c tNil ρ os (· = []) := fun A σ B H o Q q => q [] [] B H o (Ex.refl B) .nil rfl
theorem ai_cons {P' : PyData → List PyData → Prop} (h : EI c te ρ os P) (k : ∀ d, P d → AI c tr ρ os (P' d)) : AI c (tCons te tr) ρ os (fun ds => ∃ d es, ds = d :: es ∧ P d ∧ P' d es) := fun A σ B H o Q q => by
  refine h A σ B H o _ fun v d B1 H1 o1 ex dv hd => ?_
  refine k d hd A σ B1 H1 o1 _ fun vs es B2 H2 o2 ex2 dvs hes => ?_
  exact q _ _ B2 H2 o2 (ex.trans ex2) (.cons (dv.mono ex2) dvs) ⟨d, es, rfl, hd, hes⟩
theorem ai_pure (h : EA ta ρ ds) : AI c ta ρ os (· = ds) := fun A σ B H o Q q => h σ B H o.d.t o.e Q fun v B' H' g dv => q v ds B' H' (o.gr g) g.b dv rfl
theorem AI.imp {P P2 : List PyData → Prop} (h : AI c ta ρ os P) (k : ∀ d, P d → P2 d) : AI c ta ρ os P2 := fun A σ B H o Q q => h A σ B H o Q fun v d B' H' o' ex dv hd => q v d B' H' o' ex dv (k d hd)
theorem ei_op {rr : R2} {Pa : PyData → Prop} {Pb : PyData → PyData → Prop} (ha : EI c te ρ os Pa) (hb : ∀ a, Pa a → EI c tb ρ os (Pb a)) (hr : ∀ a b, Pa a → Pb a b → ∃ z, RD2 rr a b z ∧ P z) : EI c (tOp rr te tb) ρ os P := fun A σ B H o Q q => by
  refine ha A σ B H o _ fun x a B1 H1 o1 ex1 d1 p1 => ?_
  refine hb a p1 A σ B1 H1 o1 _ fun y b B2 H2 o2 ex2 d2 p2 => ?_
  obtain ⟨z, rz, pz⟩ := hr a b p1 p2
  exact rz B2 H2 x y o2.d.t (d1.mono ex2) d2 Q fun v B' H' g dv => q v z B' H' (o2.gr g) ((ex1.trans ex2).trans g.b) dv pz
theorem ei_tup {P' : List PyData → Prop} (h : AI c ta ρ os P') (hl : ∀ ds, P' ds → ds.length ≤ 100000) : EI c (tTup ta) ρ os (fun d => ∃ ds, d = .tuple ds ∧ P' ds) := fun A σ B H o Q q => by
  refine h A σ B H o _ fun vs ds B1 H1 o1 ex1 d1 p1 => ⟨?_, fun p hp => ?_⟩
  · rw [d1.length]
    exact Nat.le_trans (hl ds p1) (by decide)
  · have g := Gr.new (o := .tup vs) o1.d.t hp
    exact q _ _ _ _ (o1.gr g) (ex1.trans g.b) (.tup upd_same (d1.mono g.b)) ⟨ds, rfl, p1⟩
/-- a draw, or what else draws -/
theorem ei_callW {Pre : List PyData → Prop} {R : List PyData → PyData → Prop} {P' : List PyData → Prop} (h : AI c ta ρ os P') (hp : ∀ ds, P' ds → Pre ds) : EI c (tCallD (spW c.K Pre R) (tCons (tVar c.r) ta)) ρ os (fun d => ∃ ds, P' ds ∧ R ds d) := fun A σ B H o Q q => by
  refine ⟨_, o.s0, ?_⟩
  refine h A σ B H o _ fun vs ds B1 H1 o1 ex1 d1 p1 => ?_
  refine ⟨c.l, c.sc, c.ns, B1, vs, ds, by rw [List.append_nil], d1, o1.d, hp ds p1, fun v d B' H' r1 d2 g2 dv => ?_⟩
  exact q v d B' H' (o1.w d2 g2) (ex1.trans g2.b) dv ⟨ds, p1, r1⟩
/-- drawn below many -/
theorem ei_drawI {m : Int} (h : EI c te ρ os (· = .int m)) (h1 : 1 ≤ m) (h2 : m ≤ 1000) : EI c (tCallD (spW c.K P_taken R_taken) (tCons (tVar c.r) (tCons te tNil))) ρ os (fun d => ∃ n : Nat, d = .int n ∧ (n : Int) < m) := by
  refine (ei_callW (ai_cons h fun d _ => ai_nil) ?_).imp ?_
  · rintro ds ⟨d, es, rfl, rfl, rfl⟩
    exact ⟨m, rfl, h1, by omega⟩
  · rintro d ⟨ds, ⟨d', es, rfl, rfl, rfl⟩, m', n, e, rfl, h3, h4⟩
    simp only [List.cons.injEq, PyData.int.injEq, and_true] at e
    subst e
    exact ⟨n.toNat, by rw [Int.toNat_of_nonneg h3], by omega⟩
theorem ei_draw {m : Int} (h : ED te ρ (.int m)) (h1 : 1 ≤ m) (h2 : m ≤ 1000) : EI c (tCallD (spW c.K P_taken R_taken) (tCons (tVar c.r) (tCons te tNil))) ρ os (fun d => ∃ n : Nat, d = .int n ∧ (n : Int) < m) := ei_drawI (ei_pure h) h1 h2

/-! ### statements -/
theorem go_asg {D : Ends} (o : Iv c A σ B H ρ os) (h : EI c te ρ os P) (hr : i ≠ c.r) (ho : ∀ p ∈ os, i ≠ p.1) (k : ∀ d, P d → ∀ σ B H, Iv c A σ B H (ρ.set i (some d)) os → D.nx σ H) : tAsg te (gName i) D σ H :=
  h A σ B H o _ fun v d B' H' o' ex dv hd => k d hd _ B' H' (o'.set dv hr ho)
theorem go_if {P : Bool → Prop} {t u : TS} {D : Ends} (o : Iv c A σ B H ρ os) (h : TI' c tt ρ os P) (h1 : P true → ∀ B H, Iv c A σ B H ρ os → t D σ H) (h2 : P false → ∀ B H, Iv c A σ B H ρ os → u D σ H) : tIfS tt t u D σ H :=
  h A σ B H o _ fun b B' H' o' hb => by
    cases b with
    | true => exact h1 hb B' H' o'
    | false => exact h2 hb B' H' o'
theorem go_ret {D : Ends} (o : Iv c A σ B H ρ os) (h : EI c te ρ os P) (k : ∀ v d B' H', Iv c A σ B' H' ρ os → DH B' v d → P d → D.rt v H') : tRet te D σ H :=
  h A σ B H o _ fun v d B' H' o' ex dv hd => k v d B' H' o' dv hd
theorem go_par {P : List PyData → Prop} {D : Ends} (o : Iv c A σ B H ρ os) (h : AI c ta ρ os P) (hl : ∀ ds, P ds → ∃ d e, ds = [d, e]) (hi : i ≠ c.r) (hj : j ≠ c.r) (hoi : ∀ p ∈ os, i ≠ p.1) (hoj : ∀ p ∈ os, j ≠ p.1)
    (k : ∀ d e, P [d, e] → ∀ σ B H, Iv c A σ B H ((ρ.set i (some d)).set j (some e)) os → D.nx σ H) : tPar i j ta D σ H := by
  refine h A σ B H o _ fun vs ds B' H' o' ex dv hd => ?_
  obtain ⟨d, e, rfl⟩ := hl ds hd
  cases dv with
  | cons a r =>
  cases r with
  | cons b r =>
    cases r
    exact ⟨_, _, rfl, k d e hd _ B' H' ((o'.set a hi hoi).set b hj hoj)⟩
/-- an expression that makes a new list -/
def EN (te : TE) (ρ : Rho) (ds : List PyData) : Prop := ∀ σ B H, Ex B H → EnvD σ B ρ → ∀ Q : VK, (∀ a xs B' H', Gr B H B' H' → B' a = none → H a = none → H' a = some (.lst xs) → DHs B' xs ds → Q (.ref a) H') → te σ H Q
theorem en_lst (h : EA ta ρ ds) (hl : ds.length ≤ 100000) : EN (tLst ta) ρ ds := fun σ B H ex ev Q q => by
  refine h σ B H ex ev _ fun xs B1 H1 g1 d1 => ⟨?_, fun p hp => ?_⟩
  · rw [d1.length]
    exact Nat.le_trans hl (by decide)
  · exact q p xs B1 _ (g1.trans (Gr.own g1.t hp)) (g1.t.nil hp) (g1.h.nil hp) upd_same d1
theorem en_cat (ha : ED te ρ (.list ds)) (hb : ED tb ρ (.list es)) (hl : ds.length + es.length ≤ 100000) : EN (tOp (rAddX K) te tb) ρ (ds ++ es) := fun σ B H ex ev Q q => by
  refine ha σ B H ex ev _ fun x B1 H1 g1 d1 => ?_
  refine hb σ B1 H1 g1.t (ev.mono g1.b) _ fun y B2 H2 g2 d2 => ?_
  have d1' := d1.mono g2.b
  cases d1' with
  | @lst a xs _ ha hs =>
  cases d2 with
  | @lst b ys _ hb hs' =>
    refine .inr (.inr (.inr ⟨a, b, xs, ys, rfl, rfl, g2.t _ _ ha, g2.t _ _ hb, ?_, fun p hp => ?_⟩))
    · rw [hs.length, hs'.length]
      exact Nat.le_trans hl (by decide)
    · exact q p _ B2 _ ((g1.trans g2).trans (Gr.own g2.t hp)) (g2.t.nil hp) ((g1.trans g2).h.nil hp) upd_same (hs.append hs')
/-- xs = a new list, one's own -/
theorem go_own {D : Ends} (o : Iv c A σ B H ρ os) (h : EN te ρ ds) (hr : j ≠ c.r) (ho : ∀ p ∈ os, j ≠ p.1) (hj : j < ρ.length) (k : ∀ A σ B H, Iv c A σ B H (ρ.set j none) ((j, ds) :: os) → D.nx σ H) : tAsg te (gName j) D σ H := by
  refine h σ B H o.d.t o.e _ fun a xs B' H' g nB hn hl hx => ?_
  have o' := o.gr g
  have hne : ∀ p ∈ os, A p.1 ≠ a := fun p hp z => by
    obtain ⟨_, _, _, _, ys, h5, _⟩ := o.own p hp
    rw [z, hn] at h5
    cases h5
  have hal : a ≠ c.l := fun z => o.d.nn (by rw [← z]; exact hn)
  have hH1 : c.H1 a = none := by
    cases q : c.H1 a with
    | none => rfl
    | some u =>
      have := o.g.h a u hal q
      rw [hn] at this
      cases this
  refine k (fun x => if x = j then a else A x) _ B' H' ⟨o'.d, o'.g, o'.e.forget j _, by rw [List.getElem?_set_ne hr]; exact o'.s0, fun p hp => ?_, fun p hp q hq hpq => ?_⟩
  · rcases List.mem_cons.mp hp with rfl | hp
    · show (σ.set j (some (.ref a)))[j]? = some (some (.ref (if j = j then a else A j))) ∧ _
      simp only [if_true]
      exact ⟨List.getElem?_set_self (by rw [o.e.len]; exact hj), nB, hH1, hal, xs, hl, hx⟩
    · obtain ⟨h1, h2⟩ := o'.own p hp
      have e : p.1 ≠ j := fun z => ho p hp z.symm
      simp only [if_neg e]
      exact ⟨by rw [List.getElem?_set_ne (ho p hp)]; exact h1, h2⟩
  · rcases List.mem_cons.mp hp with rfl | hp
    · rcases List.mem_cons.mp hq with rfl | hq
      · exact absurd rfl hpq
      · have e : q.1 ≠ j := fun z => hpq z.symm
        simp only [if_true, if_neg e]
        exact fun z => hne q hq z.symm
    · have e : p.1 ≠ j := fun z => ho p hp z.symm
      rcases List.mem_cons.mp hq with rfl | hq
      · simp only [if_true, if_neg e]
        exact hne p hp
      · have e2 : q.1 ≠ j := fun z => ho q hq z.symm
        simp only [if_neg e, if_neg e2]
        exact o.ap p hp q hq hpq
/-- the first list of one's own changed -/
theorem Iv.mut {xs : List V} {es : List PyData} (o : Iv c A σ B H ρ ((j, ds) :: os)) (hj : ∀ p ∈ os, j ≠ p.1) (hx : DHs B xs es) : Iv c A σ B (upd H (A j) (.lst xs)) ρ ((j, es) :: os) := by
  obtain ⟨h1, h2, h3, h4, ys, h5, h6⟩ := o.own _ (List.mem_cons_self ..)
  refine ⟨⟨o.d.t.mut h2, ?_, o.d.scr, o.d.nl⟩, ⟨o.g.b, fun x u hx e => ?_, o.g.n⟩, o.e, o.s0, fun p hp => ?_, fun p hp q hq hpq => ?_⟩
  · rw [upd_ne (fun z => h4 z.symm)]
    exact o.d.row
  · rw [upd_ne (fun z => by rw [z, h3] at e; cases e)]
    exact o.g.h x u hx e
  · rcases List.mem_cons.mp hp with rfl | hp
    · exact ⟨h1, h2, h3, h4, xs, upd_same, hx⟩
    · obtain ⟨g1, g2, g3, g4, zs, g5, g6⟩ := o.own p (List.mem_cons_of_mem _ hp)
      refine ⟨g1, g2, g3, g4, zs, ?_, g6⟩
      rw [upd_ne (fun z => o.ap (j, ds) (List.mem_cons_self ..) p (List.mem_cons_of_mem _ hp) (hj p hp) z.symm)]
      exact g5
  · rcases List.mem_cons.mp hp with rfl | hp
    · rcases List.mem_cons.mp hq with rfl | hq
      · exact absurd rfl hpq
      · exact o.ap (j, ds) (List.mem_cons_self ..) q (List.mem_cons_of_mem _ hq) hpq
    · rcases List.mem_cons.mp hq with rfl | hq
      · exact o.ap p (List.mem_cons_of_mem _ hp) (j, ds) (List.mem_cons_self ..) hpq
      · exact o.ap p (List.mem_cons_of_mem _ hp) q (List.mem_cons_of_mem _ hq) hpq
/-- xs.append(e) -/
theorem go_app {D : Ends} (o : Iv c A σ B H ρ ((j, ds) :: os)) (hj : ∀ p ∈ os, j ≠ p.1) (h : EI c te ρ ((j, ds) :: os) P) (hz : ds.length < 100000) (k : ∀ d, P d → ∀ B H, Iv c A σ B H ρ ((j, ds ++ [d]) :: os) → D.nx σ H) :
    tDrop (tBM K "list" rAppend (tVar j) (tCons te tNil)) D σ H := by
  obtain ⟨h1, h2, h3, h4, ys, h5, h6⟩ := o.own _ (List.mem_cons_self ..)
  refine ⟨_, h1, ⟨.inl ⟨rfl, _, SqL.of h5⟩, ?_⟩⟩
  refine h A σ B H o _ fun v d B' H' o' ex dv hd => ?_
  obtain ⟨g1, g2, g3, g4, zs, g5, g6⟩ := o'.own _ (List.mem_cons_self ..)
  refine ⟨_, zs, v, rfl, rfl, g5, ?_, k d hd B' _ (o'.mut hj (g6.append (.one dv)))⟩
  rw [g6.length]
  exact Nat.lt_trans hz (by decide)
/-- the turn of the lists of one's own does not matter -/
theorem Iv.perm (o : Iv c A σ B H ρ os) (h : ∀ p ∈ os', p ∈ os) : Iv c A σ B H ρ os' := o.drop h
/-- a for over range(..), whose end may be drawn -/
theorem go_rng {D : Ends} {Pm : Int → Prop} (o : Iv c A σ B H ρ os) (h : EI c te ρ os (fun d => ∃ m, d = .int m ∧ 0 ≤ m ∧ m ≤ 1000 ∧ Pm m)) (hi : i ≠ c.r) (P : Int → Nat → Rho → OS → Prop) (hk : ∀ m n ρ os, P m n ρ os → ∀ p ∈ os, i ≠ p.1)
    (p0 : ∀ m, 0 ≤ m → Pm m → P m 0 ρ os) {tb : TS}
    (turn : ∀ m, Pm m → ∀ n : Nat, (n : Int) < m → ∀ ρ os, P m n ρ os → ∀ A σ B H N, Iv c A σ B H (ρ.set i (some (.int n))) os → (∀ A σ B H ρ' os', P m (n + 1) ρ' os' → Iv c A σ B H ρ' os' → N σ H) → tb { D with nx := N, ct := N, bk := D.nx } σ H)
    (k : ∀ m, 0 ≤ m → Pm m → ∀ ρ' os', P m m.toNat ρ' os' → ∀ A σ B H, Iv c A σ B H ρ' os' → D.nx σ H) : tFor (iRng1 (tCons te tNil)) (gName i) tb D σ H := by
  refine h A σ B H o _ fun v d B1 H1 o1 ex dv ⟨m, e, h0, h1, hm⟩ => ?_
  subst e
  cases dv
  refine ⟨m, rfl, by omega, by omega, ?_⟩
  refine ⟨fun n w σ H => w = m.toNat - n ∧ n ≤ m.toNat ∧ ∃ A B ρ os, P m n ρ os ∧ Iv c A σ B H ρ os, ⟨m.toNat, by omega, Nat.zero_le _, A, B1, ρ, os, p0 m h0 hm, o1⟩, ?_⟩
  rintro n w σ' H' ⟨rfl, hle, A', B', ρ', os', hP, o'⟩
  by_cases hlt : n < m.toNat
  · right
    refine ⟨hlt, fun σ H => n + 1 ≤ m.toNat ∧ ∃ A B ρ os, P m (n + 1) ρ os ∧ Iv c A σ B H ρ os, fun σ2 H2 ⟨q1, q2⟩ => ⟨m.toNat - (n + 1), by omega, rfl, q1, q2⟩, fun x H2 hy => ?_⟩
    obtain ⟨rfl, e⟩ := hy
    have e0 : (0 : Int) + ((n : Nat) : Int) = (n : Int) := Int.zero_add _
    rw [e0] at e
    subst e
    exact turn m hm n (by omega) ρ' os' hP A' _ B' _ _ (o'.set (.int _) hi (hk m n ρ' os' hP)) fun A2 σ2 B2 H2 ρ2 os2 hP2 o2 => ⟨hlt, A2, B2, ρ2, os2, hP2, o2⟩
  · left
    have : n = m.toNat := by omega
    subst this
    exact ⟨Nat.le_refl _, k m h0 hm ρ' os' hP A' σ' B' H' o'⟩
end
end Pd

/-! Sem9 -/
set_option Elab.async false
set_option linter.all false
set_option maxRecDepth 100000
set_option maxHeartbeats 4000000
namespace Pd
open PySem PySem.Spec PyProof.Rows L2 PySem.W
local macro_rules | `(tactic| walk_at "ed") => `(tactic| repeat' (first
  | with_reducible (first
    | exact ed_int | exact ed_str | exact ed_bl | exact ed_non
    | exact ea_nil | refine' ea_cons ?_ ?_
    | refine' ed_isi ?_ ?_ | refine' ed_isi2 ?_ ?_ ?_
    | refine' ed_andV ?_ (fun _ => ?_) | refine' ed_orV ?_ (fun _ => ?_) | refine' ed_notV ?_
    | refine' ed_chain ?_ ?_ ?_ (fun _ => ⟨?_, ?_⟩)
    | refine' ed_tup ?_ ?_ | refine' ed_lst ?_ ?_
    | refine' et_not ?_ | refine' et_and ?_ (fun _ => ?_) | refine' et_or ?_ (fun _ => ?_) | exact et_yes
    | refine' et_test ?_ | refine' et_B ?_
    | refine' ed_op ?_ ?_ ?_
    | refine' ed_cb ?_ ?_)
  | exact ed_var rfl
  | exact kit_tt | exact kit_ii | exact kit_ib | exact kit_ll | exact kit_lt | exact kit_tl
  | exact r2_addI | exact r2_subI | exact r2_lt | exact r2_le | exact r2_gt | exact r2_ge | exact r2_isN | exact r2_notN
  | exact rc_lenT | exact rc_lenL | exact rc_intB | exact rc_tupL
  | with_reducible (first | refine' r2_eq ?_ ?_ | refine' r2_ne ?_ ?_)
  | exact sh_int _ | exact sh_sg _ | exact sh_cell _ | exact sh_edge _ | exact sh_pair _ | exact sh_str _ (by decide +kernel)
  | exact r2_ixT rfl | exact r2_ixL rfl
  | refine' ed_tup ?_ ?_
  | (show List.length _ ≤ 100000; simp; done)))
theorem env_cons {x : Option V} {σ : L2.St} {B : Hp} {ρ : Rho} (h : EnvD σ B ρ) : EnvD (x :: σ) B (none :: ρ) := by
  refine ⟨by rw [List.length_cons, List.length_cons, h.len], fun i d q => ?_⟩
  cases i with
  | zero => simp at q
  | succ i =>
    obtain ⟨v, h1, h2⟩ := h.get i d (by simpa using q)
    exact ⟨v, by simpa using h1, h2⟩
/-- the row in slot 0, these constants -/
def CK (c : Cfg) (K : PySem.W.Frag) : Prop := c.r = 0 ∧ c.K = K
/-- a def that draws, at its beginning -/
theorem iv_start {K : PySem.W.Frag} {Pre : List PyData → Prop} {R : List PyData → PyData → Prop} {vs : List V} {H : Hp} {Q : VK} {E : XK} (h : spW K Pre R vs H Q E) (x : Str) (N : List Str) (hN : ∀ ds, Pre ds → ds.length ≤ N.length) :
    ∃ (c : Cfg) (ds : List PyData), CK c K ∧ Pre ds ∧ (∀ A, Iv c A (L2.start (x :: N) vs) c.B1 H (none :: (ds.map some ++ List.replicate (N.length - ds.length) none)) []) ∧
      ∀ A σ v d B' H' ρ' os', R ds d → Iv c A σ B' H' ρ' os' → DH B' v d → Q v H' := by
  obtain ⟨l, sc, ns, B, ws, ds, rfl, hd, dr, hp, q⟩ := h
  refine ⟨⟨K, 0, l, sc, ns, B, H⟩, ds, ⟨rfl, rfl⟩, hp, fun A => ⟨dr, ⟨Ex.refl B, fun _ _ _ e => e, fun _ e _ => e⟩, ?_, ?_, fun p hp => absurd hp (by simp), fun p hp => absurd hp (by simp)⟩, fun A σ v d B' H' ρ' os' r o dv => q v d B' H' r o.d o.g dv⟩
  · have e : L2.start (x :: N) (.ref l :: ws) = some (.ref l) :: L2.start N ws := by
      unfold L2.start
      simp
    rw [e]
    exact env_cons (env_start hd (by rw [hd.length]; exact hN ds hp))
  · unfold L2.start
    simp
theorem ei_drawE {K : PySem.W.Frag} {c : Cfg} {ρ : Rho} {os : OS} {te : TE} {m : Int} (hr : CK c K) (h : ED te ρ (.int m)) (h1 : 1 ≤ m) (h2 : m ≤ 1000) : EI c (tCallD (spW K P_taken R_taken) (tCons (tVar 0) (tCons te tNil))) ρ os (fun d => ∃ n : Nat, d = .int n ∧ (n : Int) < m) := by
  obtain ⟨h0, rfl⟩ := hr
  rw [← h0]
  exact ei_draw h h1 h2
/-- 1 + a draw below m -/
theorem ei_draw1 {K : PySem.W.Frag} {c : Cfg} {ρ : Rho} {os : OS} {te : TE} {m : Int} (hr : CK c K) (h : ED te ρ (.int m)) (h1 : 1 ≤ m) (h2 : m ≤ 1000) : EI c (tOp (rAddX K) (tC (.int 1)) (tCallD (spW K P_taken R_taken) (tCons (tVar 0) (tCons te tNil)))) ρ os (fun d => ∃ n : Int, d = .int n ∧ 1 ≤ n ∧ n ≤ m) := by
  refine ei_op (ei_pure ed_int) (fun a _ => ei_drawE (K := K) hr h h1 h2) ?_
  rintro a b rfl ⟨n, rfl, hn⟩
  exact ⟨_, r2_addI, 1 + n, rfl, by omega, by omega⟩
theorem go_seq {t u : TS} {D : Ends} {σ : L2.St} {H : Hp} (h : t { D with nx := u D } σ H) : tSeq t u D σ H := h
/-! ### the cells that are drawn -/
def P_cells (ds : List PyData) : Prop := ∃ h : Hall, HallOk h ∧ ds = [hallD h, .int 3]
def R_cells (ds : List PyData) (d : PyData) : Prop := ∃ (h : Hall) (cs : List Cell), ds = [hallD h, .int 3] ∧ CellsOk h cs ∧ d = cellsD cs
theorem rp_L_cells {K : PySem.W.Frag} {vs : List V} {H : Hp} {Q : VK} {E : XK} (h : spW K P_cells R_cells vs H Q E) : rd_L_cells K (spW K P_taken R_taken) { nx := fun _ H' => Q .non H', rt := Q } (L2.start ["_law_row", "_law_hall_here", "_law_size", "_law_found", "_law_k", "_law_cell"] vs) H := by
  obtain ⟨c, ds, hr, ⟨h, ho, rfl⟩, o, q⟩ := iv_start h "_law_row" ["_law_hall_here", "_law_size", "_law_found", "_law_k", "_law_cell"] (fun ds ⟨h, _, e⟩ => by rw [e]; simp)
  generalize L2.start ["_law_row", "_law_hall_here", "_law_size", "_law_found", "_law_k", "_law_cell"] vs = σ at o ⊢
  have o0 : Iv c (fun _ => 0) σ c.B1 H [none, some (hallD h), some (.int 3), none, none, none] [] := o _
  have hr0 := hr
  refine go_seq ?_
  refine go_asg (P := (· = .list (([] : List Cell).map cellD))) o0 (ei_pure (ed_lst ea_nil (by simp))) (by rw [hr.1]; decide) (by simp) ?_
  rintro d rfl σ B H o
  refine go_seq ?_
  refine go_rng (Pm := fun m => 1 ≤ m ∧ m ≤ 3) o ((ei_draw1 (m := 3) hr (ed_var rfl) (by decide) (by decide)).imp ?_) (by rw [hr.1]; decide)
    (fun _ n ρ os => os = [] ∧ ∃ cs : List Cell, ρ = [none, some (hallD h), some (.int 3), some (.list (cs.map cellD)), none, none] ∧ cs.length ≤ n ∧ (1 ≤ n → cs ≠ []) ∧ (∀ x ∈ cs, inH h x = true) ∧ cs.Nodup) ?_ ?_ ?_ ?_
  · rintro d ⟨n, rfl, h1, h2⟩
    exact ⟨n, rfl, by omega, by omega, h1, h2⟩
  · rintro m n ρ os ⟨rfl, _⟩
    simp
  · intro m _ _
    exact ⟨rfl, [], rfl, by simp, by omega, by simp, List.nodup_nil⟩
  · rintro m ⟨hm1, hm2⟩ n hn ρ os ⟨rfl, cs, rfl, hl, hne, hin, hnd⟩ A σ B H N o k
    have o : Iv c A σ B H [none, some (hallD h), some (.int 3), some (.list (cs.map cellD)), some (.int n), none] [] := o
    have h1 := ho.rows
    have h2 := ho.cols
    refine go_seq ?_
    refine go_asg (P := fun d => ∃ x : Cell, d = cellD x ∧ inH h x = true) o ((ei_tup (ai_cons (ei_drawE (K := K) hr (m := h.rows) (ed_op (ed_var rfl) ed_int (r2_ixT rfl)) (by omega) (by omega)) fun _ _ => ai_cons (ei_drawE (K := K) hr (m := h.cols) (ed_op (ed_var rfl) ed_int (r2_ixT rfl)) (by omega) (by omega)) fun _ _ => ai_nil) ?_).imp ?_) (by rw [hr.1]; decide) (by simp) ?_
    · rintro ds ⟨d, es, rfl, _, e, es2, rfl, _, rfl⟩
      simp
    · rintro d ⟨ds, rfl, d1, es, rfl, ⟨a, rfl, ha⟩, d2, es2, rfl, ⟨b, rfl, hb⟩, rfl⟩
      refine ⟨((a : Int), (b : Int)), rfl, ?_⟩
      unfold inH
      exact decide_eq_true ⟨by omega, ha, by omega, hb⟩
    rintro d ⟨x, rfl, hx⟩ σ B H o
    have o : Iv c A σ B H [none, some (hallD h), some (.int 3), some (.list (cs.map cellD)), some (.int n), some (cellD x)] [] := o
    have he : ED (tOp (rAddX K) (tVar 3) (tOp rMulX (tLst (tCons (tVar 5) tNil)) (tCB rIntX (tCons (tOp (rInX K true) (tVar 5) (tVar 3)) tNil)))) [none, some (hallD h), some (.int 3), some (.list (cs.map cellD)), some (.int n), some (cellD x)]
        (.list ((if x ∈ cs then cs else cs ++ [x]).map cellD)) := by
      have e1 : ED (tOp (rInX K true) (tVar 5) (tVar 3)) [none, some (hallD h), some (.int 3), some (.list (cs.map cellD)), some (.int n), some (cellD x)] (.bool (!decide (x ∈ cs))) :=
        ED.is (ed_op (ed_var rfl) (ed_var rfl) (r2_inL (sh_cell x) (sh_cellsL cs))) (by rw [if_pos rfl, any_cell])
      refine ED.is (ed_op (ed_var rfl) (ed_op (ed_lst (ea_cons (ed_var rfl) ea_nil) (by simp)) (ed_cb (ea_cons e1 ea_nil) rc_intB) (r2_rep (by split <;> decide) (by split <;> decide) (by simp))) (r2_catL ?_)) ?_
      · have : ∀ b : Bool, (List.replicate (if b = true then (1 : Int) else 0).toNat [cellD x]).flatten.length ≤ 1 := fun b => by cases b <;> simp
        have := this (!decide (x ∈ cs))
        rw [List.length_map]
        omega
      · by_cases hm : x ∈ cs
        · simp [hm]
        · simp [hm]
    refine go_asg (P := (· = .list ((if x ∈ cs then cs else cs ++ [x]).map cellD))) o (ei_pure he) (by rw [hr.1]; decide) (by simp) ?_
    rintro d rfl σ B H o
    have o : Iv c A σ B H [none, some (hallD h), some (.int 3), some (.list ((if x ∈ cs then cs else cs ++ [x]).map cellD)), some (.int n), some (cellD x)] [] := o
    refine k A σ B H [none, some (hallD h), some (.int 3), some (.list ((if x ∈ cs then cs else cs ++ [x]).map cellD)), none, none] [] ⟨rfl, _, rfl, ?_, fun _ => ?_, ?_, ?_⟩ (o.less (((Rle.refl [none, some (hallD h), some (.int 3), some (.list ((if x ∈ cs then cs else cs ++ [x]).map cellD)), none, none]).set (i := 4) (o := some (.int n)) rfl).set (i := 5) (o := some (cellD x)) rfl))
    · split
      · omega
      · rw [List.length_append, List.length_singleton]
        omega
    · split
      · exact List.ne_nil_of_mem ‹_›
      · simp
    · split
      · exact hin
      · intro y hy
        rcases List.mem_append.mp hy with hy | hy
        · exact hin y hy
        · rw [List.mem_singleton.mp hy]
          exact hx
    · split
      · exact hnd
      · rename_i hm
        rw [List.nodup_append]
        exact ⟨hnd, List.nodup_cons.mpr ⟨by simp, List.nodup_nil⟩, fun a ha b hb e => hm (by rw [← List.mem_singleton.mp hb, ← e]; exact ha)⟩
  · rintro m h0 ⟨hm1, hm2⟩ ρ os ⟨rfl, cs, rfl, hl, hne, hin, hnd⟩ A σ B H o
    refine go_ret o (ei_pure (ed_cb (ea_cons (ed_var rfl) ea_nil) rc_tupL)) fun v d B' H' o' dv e => ?_
    subst e
    exact q A σ v _ B' H' _ _ ⟨h, cs, rfl, ⟨hne (by omega), by omega, hin, hnd⟩, rfl⟩ o' dv
end Pd

/-! Sem10 -/
set_option Elab.async false
set_option linter.all false
set_option maxRecDepth 100000
set_option maxHeartbeats 4000000
namespace Pd
open PySem PySem.Spec PyProof.Rows L2 PySem.W
local macro_rules | `(tactic| walk_at "ed") => `(tactic| repeat' (first
  | with_reducible (first
    | exact ed_int | exact ed_str | exact ed_bl | exact ed_non
    | exact ea_nil | refine' ea_cons ?_ ?_
    | refine' ed_isi ?_ ?_ | refine' ed_isi2 ?_ ?_ ?_
    | refine' ed_andV ?_ (fun _ => ?_) | refine' ed_orV ?_ (fun _ => ?_) | refine' ed_notV ?_
    | refine' ed_chain ?_ ?_ ?_ (fun _ => ⟨?_, ?_⟩)
    | refine' ed_tup ?_ ?_ | refine' ed_lst ?_ ?_
    | refine' et_not ?_ | refine' et_and ?_ (fun _ => ?_) | refine' et_or ?_ (fun _ => ?_) | exact et_yes
    | refine' et_test ?_ | refine' et_B ?_
    | refine' ed_op ?_ ?_ ?_
    | refine' ed_cb ?_ ?_)
  | exact ed_var rfl
  | exact kit_tt | exact kit_ii | exact kit_ib | exact kit_ll | exact kit_lt | exact kit_tl
  | exact r2_addI | exact r2_subI | exact r2_lt | exact r2_le | exact r2_gt | exact r2_ge | exact r2_isN | exact r2_notN
  | exact rc_lenT | exact rc_lenL | exact rc_intB | exact rc_tupL
  | with_reducible (first | refine' r2_eq ?_ ?_ | refine' r2_ne ?_ ?_)
  | exact sh_int _ | exact sh_sg _ | exact sh_cell _ | exact sh_edge _ | exact sh_pair _ | exact sh_str _ (by decide +kernel)
  | exact r2_ixT rfl | exact r2_ixL rfl
  | refine' ed_tup ?_ ?_
  | (show List.length _ ≤ 100000; simp; done)))
section
variable {K : PySem.W.Frag} {c : Cfg} {A : Nat → Addr} {σ : L2.St} {B H : Hp} {ρ ρ' : Rho} {os os' : OS} {te tb tc : TE} {tt tu : TT} {ta tr : TA} {d e : PyData} {ds es : List PyData} {P P2 : PyData → Prop} {i j : Nat} {vs : List Nat}
/-- a new list, one's own, is put in a slot -/
theorem Iv.ownN {a : Addr} {xs : List V} (o : Iv c A σ B H ρ os) (hn : H a = none) (hx : DHs B xs ds) (hr : j ≠ c.r) (ho : ∀ p ∈ os, j ≠ p.1) (hj : j < ρ.length) :
    Iv c (fun x => if x = j then a else A x) (σ.set j (some (.ref a))) B (upd H a (.lst xs)) (ρ.set j none) ((j, ds) :: os) := by
  have g : Gr B H B (upd H a (.lst xs)) := Gr.own o.d.t hn
  have o' := o.gr g
  have nB : B a = none := o.d.t.nil hn
  have hl : upd H a (.lst xs) a = some (.lst xs) := upd_same
  have hne : ∀ p ∈ os, A p.1 ≠ a := fun p hp z => by
    obtain ⟨_, _, _, _, ys, h5, _⟩ := o.own p hp
    rw [z, hn] at h5
    cases h5
  have hal : a ≠ c.l := fun z => o.d.nn (by rw [← z]; exact hn)
  have hH1 : c.H1 a = none := by
    cases q : c.H1 a with
    | none => rfl
    | some u =>
      have := o.g.h a u hal q
      rw [hn] at this
      cases this
  refine ⟨o'.d, o'.g, o'.e.forget j _, by rw [List.getElem?_set_ne hr]; exact o'.s0, fun p hp => ?_, fun p hp q hq hpq => ?_⟩
  · rcases List.mem_cons.mp hp with rfl | hp
    · show (σ.set j (some (.ref a)))[j]? = some (some (.ref (if j = j then a else A j))) ∧ _
      simp only [if_true]
      exact ⟨List.getElem?_set_self (by rw [o.e.len]; exact hj), nB, hH1, hal, xs, hl, hx⟩
    · obtain ⟨h1, h2⟩ := o'.own p hp
      have e : p.1 ≠ j := fun z => ho p hp z.symm
      simp only [if_neg e]
      exact ⟨by rw [List.getElem?_set_ne (ho p hp)]; exact h1, h2⟩
  · rcases List.mem_cons.mp hp with rfl | hp
    · rcases List.mem_cons.mp hq with rfl | hq
      · exact absurd rfl hpq
      · have e : q.1 ≠ j := fun z => hpq z.symm
        simp only [if_true, if_neg e]
        exact fun z => hne q hq z.symm
    · have e : p.1 ≠ j := fun z => ho p hp z.symm
      rcases List.mem_cons.mp hq with rfl | hq
      · simp only [if_true, if_neg e]
        exact hne p hp
      · have e2 : q.1 ≠ j := fun z => ho q hq z.symm
        simp only [if_neg e, if_neg e2]
        exact o.ap p hp q hq hpq
/-- x, y, z = [], [], [] -/
theorem go_par3 {D : Ends} {k l : Nat} (o : Iv c A σ B H ρ os) (hj : j ≠ c.r) (hk : k ≠ c.r) (hl : l ≠ c.r) (hjk : k ≠ j) (hjl : l ≠ j) (hkl : l ≠ k) (oj : ∀ p ∈ os, j ≠ p.1) (ok : ∀ p ∈ os, k ≠ p.1) (ol : ∀ p ∈ os, l ≠ p.1)
    (lj : j < ρ.length) (lk : k < ρ.length) (ll : l < ρ.length) (q : ∀ A σ B H, Iv c A σ B H (((ρ.set j none).set k none).set l none) ((l, []) :: (k, []) :: (j, []) :: os) → D.nx σ H) :
    tPar3 j k l (tCons (tLst tNil) (tCons (tLst tNil) (tCons (tLst tNil) tNil))) D σ H := by
  refine ⟨Nat.zero_le _, fun a ha => ⟨Nat.zero_le _, fun b hb => ⟨Nat.zero_le _, fun d hd => ?_⟩⟩⟩
  refine ⟨_, _, _, rfl, ?_⟩
  have o1 := o.ownN (ds := []) ha .nil hj oj lj
  have o2 := o1.ownN (ds := []) (j := k) hb .nil hk (fun p hp => by
    rcases List.mem_cons.mp hp with rfl | hp
    · exact hjk
    · exact ok p hp) (by rw [List.length_set]; exact lk)
  have o3 := o2.ownN (ds := []) (j := l) hd .nil hl (fun p hp => by
    rcases List.mem_cons.mp hp with rfl | hp
    · exact hkl
    · rcases List.mem_cons.mp hp with rfl | hp
      · exact hjl
      · exact ol p hp) (by rw [List.length_set, List.length_set]; exact ll)
  exact q _ _ B _ o3
/-- xs.append(ys.pop(k)) -/
theorem go_pop {D : Ends} (hr : CK c K) (o : Iv c A σ B H ρ ((i, es) :: (j, ds) :: os)) (hij : i ≠ j) (hi : ∀ p ∈ os, i ≠ p.1) (hj : ∀ p ∈ os, j ≠ p.1)
    (hi' : i < ρ.length) (he : 1 ≤ es.length) (he2 : es.length ≤ 1000) (hz : ds.length < 100000)
    (k : ∀ n z, es[n]? = some z → ∀ B H, Iv c A σ B H ρ ((i, es.eraseIdx n) :: (j, ds ++ [z]) :: os) → D.nx σ H) :
    tDrop (tBM K "list" rAppend (tVar j) (tCons (tBM K "list" rPopAt (tVar i) (tCons (tCallD (spW K P_taken R_taken) (tCons (tVar 0) (tCons (tCB (rLenX K) (tCons (tVar i) tNil)) tNil))) tNil)) tNil)) D σ H := by
  obtain ⟨h1, h2, h3, h4, xs0, h5, h6⟩ := o.own (j, ds) (List.mem_cons_of_mem _ (List.mem_cons_self ..))
  obtain ⟨g1, g2, g3, g4, ys0, g5, g6⟩ := o.own (i, es) (List.mem_cons_self ..)
  refine ⟨_, h1, ⟨.inl ⟨rfl, _, SqL.of h5⟩, ?_⟩⟩
  refine ⟨_, g1, ⟨.inl ⟨rfl, _, SqL.of g5⟩, ?_⟩⟩
  have hd : EI c (tCallD (spW K P_taken R_taken) (tCons (tVar 0) (tCons (tCB (rLenX K) (tCons (tVar i) tNil)) tNil))) ρ ((i, es) :: (j, ds) :: os) (fun d => ∃ n : Nat, d = .int n ∧ (n : Int) < (es.length : Nat)) := by
    obtain ⟨h00, rfl⟩ := hr
    rw [← h00]
    refine ei_drawI (ei_view (j := i) (ds := es) ?_ (List.mem_cons_self ..) (flat_int _)) (by omega) (by omega)
    exact ed_cb (ea_cons (ed_var (List.getElem?_set_self hi')) ea_nil) rc_lenL
  refine hd A σ B H o _ fun v d B' H' o' ex dv ⟨n, e, hn⟩ => ?_
  subst e
  cases dv
  obtain ⟨a1, a2, a3, a4, ys, a5, a6⟩ := o'.own (i, es) (List.mem_cons_self ..)
  have hlen : ys.length = es.length := a6.length
  have hnl : n < es.length := by omega
  obtain ⟨y, hy, dy⟩ := a6.get (List.getElem?_eq_getElem hnl)
  have hseq : seqIndex? (n : Int) ys.length = some n := by
    have h0 : (0 : Int) ≤ (n : Int) := by omega
    have h1 : (n : Int) < (ys.length : Int) := by omega
    simp [seqIndex?, h0, h1, Int.not_lt.mpr h0]
  refine ⟨_, ys, n, n, y, rfl, rfl, a5, by omega, by omega, hseq, hy, ?_⟩
  have o2 := o'.mut (fun p hp => by
    rcases List.mem_cons.mp hp with rfl | hp
    · exact hij
    · exact hi p hp) (a6.erase n)
  have o3 := o2.perm (os' := (j, ds) :: (i, es.eraseIdx n) :: os) (fun p hp => by simp at hp ⊢; rcases hp with h | h | h <;> simp [h])
  obtain ⟨b1, b2, b3, b4, zs, b5, b6⟩ := o3.own (j, ds) (List.mem_cons_self ..)
  refine ⟨_, zs, y, rfl, rfl, b5, ?_, ?_⟩
  · rw [b6.length]
    exact Nat.lt_trans hz (by decide)
  · have o4 := o3.mut (fun p hp => by
      rcases List.mem_cons.mp hp with rfl | hp
      · exact fun z => hij z.symm
      · exact hj p hp) (b6.append (.one dy))
    have o5 := o4.perm (os' := (i, es.eraseIdx n) :: (j, ds ++ [es[n]]) :: os) (fun p hp => by simp at hp ⊢; rcases hp with h | h | h <;> simp [h])
    exact k n _ (List.getElem?_eq_getElem hnl) B' _ o5
theorem en_lcT {α : Type} {wi : TI} {g : TG} (items : List α) (enc : α → PyData) (f : α → Bool) (v : α → PyData) (hi : IE wi ρ (items.map enc)) (hz : items.length ≤ 100000)
    (ht : ∀ d ∈ items, ∃ ρ', GD g (wipeR ρ vs) (enc d) ρ' vs ∧ ET tt ρ' (f d) ∧ (f d = true → ED te ρ' (v d))) : EN (tLc wi g tt te vs) ρ ((items.filter f).map v) := fun σ B H ex ev Q q => by
  refine hi σ B H ex ev _ fun J B1 H1 g1 hJ Dl hD => ?_
  have nB1 : B1 Dl = none := g1.t.nil hD
  refine ⟨fun i m H' => m = items.length - i ∧ i ≤ items.length ∧ ∃ B' xs, Gr B1 H1 B' H' ∧ H' Dl = some (.lst xs) ∧ B' Dl = none ∧ DHs B' xs (((items.take i).filter f).map v), ⟨items.length, by omega, Nat.zero_le _, B1, [], Gr.own g1.t hD, upd_same, nB1, .nil⟩, ?_⟩
  rintro i m H' ⟨rfl, hle, B', xs, g2, hDl, nB', hx⟩
  obtain ⟨hstop, hgo⟩ := hJ B' H' g2.b g2.t i
  by_cases hlt : i < items.length
  · right
    have hd : items[i]? = some items[i] := List.getElem?_eq_getElem hlt
    obtain ⟨go, hy⟩ := hgo (enc items[i]) (by rw [List.getElem?_map, hd]; rfl)
    refine ⟨go, fun H2 => i + 1 ≤ items.length ∧ ∃ B' xs, Gr B1 H1 B' H2 ∧ H2 Dl = some (.lst xs) ∧ B' Dl = none ∧ DHs B' xs (((items.take (i + 1)).filter f).map v), fun H2 ⟨h1, h2⟩ => ⟨items.length - (i + 1), by omega, rfl, h1, h2⟩, fun x H2 hyl => ?_⟩
    obtain ⟨B2, g3, dx⟩ := hy x H2 hyl
    obtain ⟨ρ', hg, htt, hte⟩ := ht _ (List.mem_of_getElem? hd)
    have hDn : H' Dl ≠ none := by rw [hDl]; exact fun z => nomatch z
    have n2 : B2 Dl = none := g3.n _ nB' hDn
    have e2 := g3.h _ _ hDl
    refine hg (L2.wipe σ vs) B2 H2 x g3.t (((ev.mono g1.b).mono (g2.b.trans g3.b)).wipe vs) dx _ fun σ2 ev2 w2 => ⟨w2.trans (wipe_idem σ vs), ?_⟩
    refine htt σ2 B2 H2 g3.t ev2 _ fun B3 H3 g4 => ?_
    have n3 : B3 Dl = none := g4.n _ n2 (by rw [e2]; exact fun z => nomatch z)
    have e3 := g4.h _ _ e2
    have g234 := (g2.trans g3).trans g4
    have hfs := take_filter_succ (f := f) hd
    cases hf : f items[i] with
    | true =>
      refine hte hf σ2 B3 H3 g4.t (ev2.mono g4.b) _ fun y B4 H4 g5 d5 => ?_
      have n4 : B4 Dl = none := g5.n _ n3 (by rw [e3]; exact fun z => nomatch z)
      have e4 := g5.h _ _ e3
      have g25 := g234.trans g5
      refine ⟨xs, e4, ?_, hlt, B4, xs ++ [y], ⟨g25.b, g5.t.mut n4, g25.h.mut hD, g25.n⟩, upd_same, n4, ?_⟩
      · have hl := hx.length
        rw [hl, List.length_map]
        have h1 := List.length_filter_le f (items.take i)
        rw [List.length_take] at h1
        have : ((items.take i).filter f).length ≤ 100000 := by omega
        exact Nat.lt_of_le_of_lt this (by decide)
      · rw [hfs, hf, if_pos rfl, List.map_append]
        exact (hx.mono ((g3.b.trans g4.b).trans g5.b)).append (.one d5)
    | false =>
      refine ⟨hlt, B3, xs, g234, e3, n3, ?_⟩
      rw [hfs, hf, if_neg (by decide), List.append_nil]
      exact hx.mono (g3.b.trans g4.b)
  · left
    have hie : i = items.length := by omega
    subst hie
    refine ⟨hstop (by rw [List.length_map]), ?_⟩
    rw [List.take_length] at hx
    exact q Dl xs B' H' (g1.trans ⟨g2.b, g2.t, g2.h, g2.n⟩) nB' (g1.h.nil hD) hDl hx
theorem en_lcM {α : Type} {wi : TI} {g : TG} (items : List α) (enc : α → PyData) (v : α → PyData) (hi : IE wi ρ (items.map enc)) (hz : items.length ≤ 100000)
    (ht : ∀ d ∈ items, ∃ ρ', GD g (wipeR ρ vs) (enc d) ρ' vs ∧ ED te ρ' (v d)) : EN (tLc wi g tYes te vs) ρ (items.map v) := by
  have h := en_lcT (tt := tYes) (g := g) (vs := vs) (te := te) items enc (fun _ => true) v hi hz fun d hd => by
    obtain ⟨ρ', a, b⟩ := ht d hd
    exact ⟨ρ', a, et_yes, fun _ => b⟩
  rw [List.filter_eq_self.mpr (fun _ _ => rfl)] at h
  exact h
end
end Pd

/-! Sem11 -/
set_option Elab.async false
set_option linter.all false
set_option maxRecDepth 100000
set_option maxHeartbeats 4000000
namespace Pd
open PySem PySem.Spec PyProof.Rows L2 PySem.W
local macro_rules | `(tactic| walk_at "ed") => `(tactic| repeat' (first
  | with_reducible (first
    | exact ed_int | exact ed_str | exact ed_bl | exact ed_non
    | exact ea_nil | refine' ea_cons ?_ ?_
    | refine' ed_isi ?_ ?_ | refine' ed_isi2 ?_ ?_ ?_
    | refine' ed_andV ?_ (fun _ => ?_) | refine' ed_orV ?_ (fun _ => ?_) | refine' ed_notV ?_
    | refine' ed_chain ?_ ?_ ?_ (fun _ => ⟨?_, ?_⟩)
    | refine' ed_tup ?_ ?_ | refine' ed_lst ?_ ?_
    | refine' et_not ?_ | refine' et_and ?_ (fun _ => ?_) | refine' et_or ?_ (fun _ => ?_) | exact et_yes
    | refine' et_test ?_ | refine' et_B ?_
    | refine' ed_op ?_ ?_ ?_
    | refine' ed_cb ?_ ?_)
  | exact ed_var rfl
  | exact kit_tt | exact kit_ii | exact kit_ib | exact kit_ll | exact kit_lt | exact kit_tl
  | exact r2_addI | exact r2_subI | exact r2_lt | exact r2_le | exact r2_gt | exact r2_ge | exact r2_isN | exact r2_notN
  | exact rc_lenT | exact rc_lenL | exact rc_intB | exact rc_tupL
  | with_reducible (first | refine' r2_eq ?_ ?_ | refine' r2_ne ?_ ?_)
  | exact sh_int _ | exact sh_sg _ | exact sh_cell _ | exact sh_edge _ | exact sh_pair _ | exact sh_str _ (by decide +kernel)
  | exact r2_ixT rfl | exact r2_ixL rfl
  | refine' ed_tup ?_ ?_
  | (show List.length _ ≤ 100000; simp; done)))
/-! ### the hall that is drawn -/
def P_hall (ds : List PyData) : Prop := ds = [.int 5, .int 6]
def R_hall (ds : List PyData) (d : PyData) : Prop := ∃ h : Hall, HallOk h ∧ d = hallD h
/-- the edges between cells, as they are laid out -/
def leftRow (wide : Int) (r : Nat) : List Edge := ((List.range (wide * (if (0 : Int) < (r : Int) then 1 else 0)).toNat).map fun k => ((r : Int), ((k : Nat) : Int), Sg.h)) ++ ((List.range (wide - 1).toNat).map fun k => ((r : Int), 1 + ((k : Nat) : Int), Sg.v))
def leftOf (wide : Int) : Nat → List Edge
  | 0 => []
  | n + 1 => leftOf wide n ++ leftRow wide n
def lookLeft (rows wide : Nat) : Bool := decide ((leftOf (wide : Int) rows).Nodup) && (leftOf (wide : Int) rows).all fun e => isEdge ⟨(rows : Int), (wide : Int), [], []⟩ e
theorem look_all : ∀ r ∈ [1, 2, 3, 4, 5], ∀ w ∈ [1, 2, 3, 4, 5], lookLeft r w = true := by decide +kernel
theorem look_left {rows wide : Int} (h1 : 1 ≤ rows ∧ rows ≤ 5) (h2 : 1 ≤ wide ∧ wide ≤ 5) : (leftOf wide rows.toNat).Nodup ∧ ∀ e ∈ leftOf wide rows.toNat, isEdge ⟨rows, wide, [], []⟩ e = true := by
  have h := look_all rows.toNat (by
    have : rows.toNat = 1 ∨ rows.toNat = 2 ∨ rows.toNat = 3 ∨ rows.toNat = 4 ∨ rows.toNat = 5 := by omega
    simpa using this) wide.toNat (by
    have : wide.toNat = 1 ∨ wide.toNat = 2 ∨ wide.toNat = 3 ∨ wide.toNat = 4 ∨ wide.toNat = 5 := by omega
    simpa using this)
  unfold lookLeft at h
  rw [Int.toNat_of_nonneg (by omega), Int.toNat_of_nonneg (by omega)] at h
  simp only [Bool.and_eq_true, decide_eq_true_eq, List.all_eq_true] at h
  exact h
theorem len_left {wide : Int} (h2 : 1 ≤ wide ∧ wide ≤ 5) : ∀ n : Nat, (leftOf wide n).length ≤ 10 * n
  | 0 => by simp [leftOf]
  | n + 1 => by
    have := len_left h2 n
    have e1 : (wide * (if (0 : Int) < (n : Int) then 1 else 0)).toNat ≤ 5 := by
      split <;> omega
    have e2 : (wide - 1).toNat ≤ 5 := by omega
    simp only [leftOf, leftRow, List.length_append, List.length_map, List.length_range]
    omega
def doorsOk (h : Hall) (ds : List Edge) : Prop := (∀ e ∈ ds, Way e.2.2) ∧ (∀ e ∈ ds, isEdge h (edgeFrom e.1 e.2.1 e.2.2) = true) ∧ (∀ e ∈ ds, edgeFrom e.1 e.2.1 e.2.2 ∉ h.walls) ∧ (ds.map fun e => edgeFrom e.1 e.2.1 e.2.2).Nodup
def ef (e : Edge) : Edge := edgeFrom e.1 e.2.1 e.2.2
theorem eqv_nil {xs : List Edge} : PyData.eqv (.list (xs.map edgeD)) (.list []) = xs.isEmpty := by
  cases xs <;> simp [PyData.eqv, PyData.eqvAll]
theorem perm_erase {α : Type} : ∀ (xs : List α) (n : Nat) (z : α), xs[n]? = some z → List.Perm (z :: xs.eraseIdx n) xs
  | [], n, z, h => by simp at h
  | x :: xs, 0, z, h => by
    simp at h
    subst h
    simp
  | x :: xs, n + 1, z, h => by
    have ih := perm_erase xs n z (by simpa using h)
    exact (List.Perm.swap x z _).trans (ih.cons x)
/-- what the walls are, as they are drawn -/
structure WallsOk (rows wide : Int) (walls left : List Edge) : Prop where
  nd : (walls ++ left).Nodup
  edge : ∀ e ∈ walls ++ left, isEdge ⟨rows, wide, [], []⟩ e = true
  len : left.length ≤ 100
theorem WallsOk.pop {rows wide : Int} {walls left : List Edge} {n : Nat} {z : Edge} (h : WallsOk rows wide walls left) (hz : left[n]? = some z) : WallsOk rows wide (walls ++ [z]) (left.eraseIdx n) := by
  have hp : List.Perm (walls ++ [z] ++ left.eraseIdx n) (walls ++ left) := by
    rw [List.append_assoc]
    refine List.Perm.append_left walls ?_
    exact perm_erase left n z hz
  exact ⟨hp.nodup_iff.mpr h.nd, fun e he => h.edge e (hp.mem_iff.mp he), Nat.le_trans (by rw [List.length_eraseIdx]; split <;> omega) h.len⟩
theorem isEdge_rc {h h' : Hall} (h1 : h.rows = h'.rows) (h2 : h.cols = h'.cols) (e : Edge) : isEdge h e = isEdge h' e := by
  unfold isEdge inH
  rw [h1, h2]
theorem map_erase {α β : Type} (f : α → β) : ∀ (xs : List α) (n : Nat), (xs.map f).eraseIdx n = (xs.eraseIdx n).map f
  | [], _ => by simp
  | x :: xs, 0 => by simp
  | x :: xs, n + 1 => by simp [map_erase f xs n]

section
variable {K : PySem.W.Frag}
theorem ei_callW0 {c : Cfg} {ρ : Rho} {os : OS} {ta : TA} {Pre : List PyData → Prop} {R : List PyData → PyData → Prop} {P' : List PyData → Prop} (hr : CK c K) (h : AI c ta ρ os P') (hp : ∀ ds, P' ds → Pre ds) : EI c (tCallD (spW K Pre R) (tCons (tVar 0) ta)) ρ os (fun d => ∃ ds, P' ds ∧ R ds d) := by
  obtain ⟨h0, rfl⟩ := hr
  have := ei_callW (R := R) h hp
  rw [h0] at this
  exact this
theorem ei_135 {c : Cfg} {ρ : Rho} {os : OS} (hr : CK c K) : EI c (tCallD (spW K P_taken R_taken) (tCons (tVar 0) (tCons (tOp (rIx K) (tLst (tCons (tC (.int 1)) (tCons (tC (.int 3)) (tCons (tC (.int 5)) tNil)))) (tCallD (spW K P_taken R_taken) (tCons (tVar 0) (tCons (tC (.int 3)) tNil)))) tNil))) ρ os (fun d => ∃ m : Int, d = .int m ∧ 0 ≤ m ∧ m ≤ 1000 ∧ m ≤ 4) := by
  refine (ei_callW0 hr (ai_cons (P := fun d => ∃ m : Int, d = .int m ∧ 1 ≤ m ∧ m ≤ 5) (ei_op (ei_pure (ed_lst (ds := [.int 1, .int 3, .int 5]) (ea_cons ed_int (ea_cons ed_int (ea_cons ed_int ea_nil))) (by simp))) (fun _ _ => ei_drawE (K := K) (m := 3) hr ed_int (by decide) (by decide)) ?_) fun d _ => ai_nil) ?_).imp ?_
  · rintro a b rfl ⟨n, rfl, hn⟩
    have : n = 0 ∨ n = 1 ∨ n = 2 := by omega
    rcases this with rfl | rfl | rfl
    · exact ⟨.int 1, r2_ixL rfl, 1, rfl, by decide, by decide⟩
    · exact ⟨.int 3, r2_ixL rfl, 3, rfl, by decide, by decide⟩
    · exact ⟨.int 5, r2_ixL rfl, 5, rfl, by decide, by decide⟩
  · rintro ds ⟨d, es, rfl, ⟨m, rfl, h1, h2⟩, rfl⟩
    exact ⟨m, rfl, h1, by omega⟩
  · rintro d ⟨ds, ⟨d1, es, rfl, ⟨m, rfl, h1, h2⟩, rfl⟩, m', n, e, rfl, h3, h4⟩
    have : m = m' := by simpa using e
    exact ⟨n, rfl, h3, by omega, by omega⟩
theorem ei_ensw {c : Cfg} {ρ : Rho} {os : OS} (hr : CK c K) : EI c (tOp (rIx K) (tC (.str "ensw")) (tCallD (spW K P_taken R_taken) (tCons (tVar 0) (tCons (tC (.int 4)) tNil)))) ρ os (fun d => ∃ w : Sg, d = sg w ∧ Way w) := by
  refine ei_op (ei_pure ed_str) (fun _ _ => ei_drawE (K := K) (m := 4) hr ed_int (by decide) (by decide)) ?_
  rintro a b rfl ⟨n, rfl, hn⟩
  have h : ∀ (n : Nat) (w : Sg), atI ("ensw" : Str).cps.toList n = some w.code → RD2 (rIx K) (.str "ensw") (.int n) (sg w) := fun n w e => r2_ixS (by decide +kernel) e
  have : n = 0 ∨ n = 1 ∨ n = 2 ∨ n = 3 := by omega
  rcases this with rfl | rfl | rfl | rfl
  · exact ⟨_, h 0 .e (by decide +kernel), .e, rfl, .inl rfl⟩
  · exact ⟨_, h 1 .n (by decide +kernel), .n, rfl, .inr (.inl rfl)⟩
  · exact ⟨_, h 2 .s (by decide +kernel), .s, rfl, .inr (.inr (.inl rfl))⟩
  · exact ⟨_, h 3 .w (by decide +kernel), .w, rfl, .inr (.inr (.inr rfl))⟩
theorem rp_L_hall {vs : List V} {H : Hp} {Q : VK} {E : XK} (h : spW K P_hall R_hall vs H Q E) : rd_L_hall K (spR R_L_pair) (spR R_L_shut) (spW K P_taken R_taken) (spR R_L_within) { nx := fun _ H' => Q .non H', rt := Q }
    (L2.start ["_law_row", "_law_size", "_law_doors", "_law_high", "_law_wide", "_law_left", "_law_r", "_law_shuts", "_law_hung", "_law_stand", "_law_k", "_law_door", "_law_pair_here", "_law_shut_here", "_law_c"] vs) H := by
  obtain ⟨c, ds, hr, hp, o, q⟩ := iv_start h "_law_row" ["_law_size", "_law_doors", "_law_high", "_law_wide", "_law_left", "_law_r", "_law_shuts", "_law_hung", "_law_stand", "_law_k", "_law_door", "_law_pair_here", "_law_shut_here", "_law_c"] (fun ds e => by rw [e]; simp)
  have hp' : ds = [.int 5, .int 6] := hp
  subst hp'
  generalize L2.start ["_law_row", "_law_size", "_law_doors", "_law_high", "_law_wide", "_law_left", "_law_r", "_law_shuts", "_law_hung", "_law_stand", "_law_k", "_law_door", "_law_pair_here", "_law_shut_here", "_law_c"] vs = σ at o ⊢
  have o : Iv c (fun _ => 0) σ c.B1 H [none, some (.int 5), some (.int 6), none, none, none, none, none, none, none, none, none, none, none, none] [] := o _
  have hrn : ∀ i : Nat, 0 < i → i ≠ c.r := fun i hi => by rw [hr.1]; omega
  unfold rd_L_hall
  refine go_seq ?_
  refine go_par (P := fun ds => ∃ a b : Int, ds = [.int a, .int b] ∧ (1 ≤ a ∧ a ≤ 5) ∧ (1 ≤ b ∧ b ≤ 5)) o ((ai_cons (ei_draw1 (m := 5) hr (ed_var rfl) (by decide) (by decide)) fun _ _ => ai_cons (ei_draw1 (m := 5) hr (ed_var rfl) (by decide) (by decide)) fun _ _ => ai_nil).imp ?_) ?_ (hrn _ (by decide)) (hrn _ (by decide)) (by simp) (by simp) ?_
  · rintro ds ⟨d1, es, rfl, ⟨a, rfl, ha⟩, d2, es2, rfl, ⟨b, rfl, hb⟩, rfl⟩
    exact ⟨a, b, rfl, ha, hb⟩
  · rintro ds ⟨a, b, rfl, _⟩
    exact ⟨_, _, rfl⟩
  rintro d1 d2 ⟨high, wide, he, h1, h2⟩ σ B H o
  obtain ⟨rfl, rfl⟩ : d1 = .int high ∧ d2 = .int wide := by simpa using he
  have o : Iv c (fun _ => 0) σ B H [none, some (.int 5), some (.int 6), some (.int high), some (.int wide), none, none, none, none, none, none, none, none, none, none] [] := o
  -- left, as it is laid out
  refine go_seq ?_
  refine go_asg (P := (· = .list (([] : List Edge).map edgeD))) o (ei_pure (ed_lst ea_nil (by simp))) (hrn _ (by decide)) (by simp) ?_
  rintro d rfl σ B H o
  have o : Iv c (fun _ => 0) σ B H [none, some (.int 5), some (.int 6), some (.int high), some (.int wide), some (.list (([] : List Edge).map edgeD)), none, none, none, none, none, none, none, none, none] [] := o
  refine go_seq ?_
  refine go_rng (Pm := fun m => m = high) o ((ei_pure (ed_var (d := .int high) rfl)).imp ?_) (hrn _ (by decide))
    (fun _ n ρ os => (n = 0 ∧ os = [] ∧ ρ = [none, some (.int 5), some (.int 6), some (.int high), some (.int wide), some (.list ((leftOf wide 0).map edgeD)), none, none, none, none, none, none, none, none, none]) ∨ (1 ≤ n ∧ os = [(5, (leftOf wide n).map edgeD)] ∧ ρ = [none, some (.int 5), some (.int 6), some (.int high), some (.int wide), none, none, none, none, none, none, none, none, none, none])) ?_ ?_ ?_ ?_
  · rintro d rfl
    exact ⟨high, rfl, by omega, by omega, rfl⟩
  · rintro m n ρ os (⟨_, rfl, _⟩ | ⟨_, rfl, _⟩)
    · simp
    · simp
  · intro m _ _
    exact .inl ⟨rfl, rfl, rfl⟩
  · rintro m rfl n hn ρ os hP A σ B H N o k
    have o2 : ∃ B, Iv c A σ B H [none, some (.int 5), some (.int 6), some (.int m), some (.int wide), some (.list ((leftOf wide n).map edgeD)), some (.int n), none, none, none, none, none, none, none, none] [] := by
      rcases hP with ⟨rfl, rfl, rfl⟩ | ⟨_, rfl, rfl⟩
      · exact ⟨B, o⟩
      · obtain ⟨B', _, o'⟩ := o.own_in (by simp)
        exact ⟨B', o'⟩
    obtain ⟨B, o⟩ := o2
    have hl := len_left h2 n
    have e1 : (wide * (if (0 : Int) < (n : Int) then 1 else 0)).toNat ≤ 5 := by split <;> omega
    have e1' : wide * (if (0 : Int) < (n : Int) then 1 else 0) ≤ 5 := by split <;> omega
    have e1'' : 0 ≤ wide * (if (0 : Int) < (n : Int) then 1 else 0) := by split <;> omega
    have hc1 : ED (tLc (iRng1 (tCons (tOp rMulX (tVar 4) (tCB rIntX (tCons (tOp rGtI (tVar 6) (tC (.int 0))) tNil))) tNil)) (gName 14) tYes (tTup (tCons (tVar 6) (tCons (tVar 14) (tCons (tC (.str "-")) tNil)))) [14])
        [none, some (.int 5), some (.int 6), some (.int m), some (.int wide), some (.list ((leftOf wide n).map edgeD)), some (.int n), none, none, none, none, none, none, none, none]
        (.list (((List.range (wide * (if (0 : Int) < (n : Int) then 1 else 0)).toNat).map fun k => ((n : Int), ((k : Nat) : Int), Sg.h)).map edgeD)) := by
      have hb : ED (tOp rMulX (tVar 4) (tCB rIntX (tCons (tOp rGtI (tVar 6) (tC (.int 0))) tNil))) [none, some (.int 5), some (.int 6), some (.int m), some (.int wide), some (.list ((leftOf wide n).map edgeD)), some (.int n), none, none, none, none, none, none, none, none] (.int (wide * (if (0 : Int) < (n : Int) then 1 else 0))) := by
        refine ED.is (ed_op (ed_var rfl) (ed_cb (ea_cons (ed_op (ed_var rfl) ed_int r2_gt) ea_nil) rc_intB) (r2_mulI (i := wide) ?_)) ?_
        · exact .inl (by omega)
        · simp
      have h := ed_lcM (vs := [14]) (te := tTup (tCons (tVar 6) (tCons (tVar 14) (tCons (tC (.str "-")) tNil)))) (g := gName 14) (List.range (wide * (if (0 : Int) < (n : Int) then 1 else 0)).toNat) (fun k => PyData.int (k : Nat)) (fun k => edgeD ((n : Int), ((k : Nat) : Int), Sg.h)) (ie_rng1 (ea_cons hb ea_nil) (by omega) (by omega)) (by rw [List.length_range]; omega)
        (fun k _ => ⟨_, gd_name (by simp), ED.is (ed_tup (ea_cons (ed_var rfl) (ea_cons (ed_var rfl) (ea_cons ed_str ea_nil))) (by simp)) (by rw [lit_h]; rfl)⟩)
      rw [List.map_map]
      exact h
    have hc2 : ED (tLc (iRng2 (tCons (tC (.int 1)) (tCons (tVar 4) tNil))) (gName 14) tYes (tTup (tCons (tVar 6) (tCons (tVar 14) (tCons (tC (.str "|")) tNil)))) [14])
        [none, some (.int 5), some (.int 6), some (.int m), some (.int wide), some (.list ((leftOf wide n).map edgeD)), some (.int n), none, none, none, none, none, none, none, none]
        (.list (((List.range (wide - 1).toNat).map fun k => ((n : Int), 1 + ((k : Nat) : Int), Sg.v)).map edgeD)) := by
      have h := ed_lcM (vs := [14]) (te := tTup (tCons (tVar 6) (tCons (tVar 14) (tCons (tC (.str "|")) tNil)))) (g := gName 14) (List.range (wide - 1).toNat) (fun k => PyData.int (1 + (k : Nat))) (fun k => edgeD ((n : Int), 1 + ((k : Nat) : Int), Sg.v)) (ie_rng2 (ρ := [none, some (.int 5), some (.int 6), some (.int m), some (.int wide), some (.list ((leftOf wide n).map edgeD)), some (.int n), none, none, none, none, none, none, none, none]) (ta := tCons (tC (.int 1)) (tCons (tVar 4) tNil)) (m := 1) (n := wide) (ea_cons ed_int (ea_cons (ed_var rfl) ea_nil)) (by omega) (by omega) (by omega) (by omega)) (by rw [List.length_range]; omega)
        (fun k _ => ⟨_, gd_name (by simp), ED.is (ed_tup (ea_cons (ed_var rfl) (ea_cons (ed_var rfl) (ea_cons ed_str ea_nil))) (by simp)) (by rw [lit_v]; rfl)⟩)
      rw [List.map_map]
      exact h
    have hv5 : ED (tVar 5) [none, some (.int 5), some (.int 6), some (.int m), some (.int wide), some (.list ((leftOf wide n).map edgeD)), some (.int n), none, none, none, none, none, none, none, none] (.list ((leftOf wide n).map edgeD)) := ed_var rfl
    have hen := en_cat (K := K) (ed_op hv5 hc1 (r2_catL (K := K) (by simp only [List.length_map, List.length_range]; omega))) hc2 (by simp only [List.length_append, List.length_map, List.length_range]; omega)
    have e9 : (leftOf wide n).map edgeD ++ ((List.range (wide * (if (0 : Int) < (n : Int) then 1 else 0)).toNat).map fun k => ((n : Int), ((k : Nat) : Int), Sg.h)).map edgeD ++ ((List.range (wide - 1).toNat).map fun k => ((n : Int), 1 + ((k : Nat) : Int), Sg.v)).map edgeD = (leftOf wide (n + 1)).map edgeD := by
      simp only [leftOf, leftRow, List.map_append, List.append_assoc]
    rw [e9] at hen
    refine go_own o hen (hrn _ (by decide)) (by simp) (by simp) fun A σ B H o => ?_
    exact k A σ B H _ _ (.inr ⟨by omega, rfl, rfl⟩) (o.less ((Rle.refl [none, some (.int 5), some (.int 6), some (.int m), some (.int wide), none, none, none, none, none, none, none, none, none, none]).set (i := 6) (o := some (.int n)) rfl))
  rintro m hm0 rfl ρ os hP A σ B H o
  have o : Iv c A σ B H [none, some (.int 5), some (.int 6), some (.int m), some (.int wide), none, none, none, none, none, none, none, none, none, none] [(5, (leftOf wide m.toNat).map edgeD)] := by
    rcases hP with ⟨hz, _⟩ | ⟨_, rfl, rfl⟩
    · omega
    · exact o
  obtain ⟨hnd, hedge⟩ := look_left h1 h2
  have hll := len_left h2 m.toNat
  -- lists of its own
  refine go_seq ?_
  refine go_par3 o (hrn _ (by decide)) (hrn _ (by decide)) (hrn _ (by decide)) (by decide) (by decide) (by decide) (by simp) (by simp) (by simp) (by simp) (by simp) (by simp) fun A σ B H o => ?_
  have o : Iv c A σ B H [none, some (.int 5), some (.int 6), some (.int m), some (.int wide), none, none, none, none, none, none, none, none, none, none] [(5, (leftOf wide m.toNat).map edgeD), (7, ([] : List Edge).map edgeD), (8, [])] := o.perm (fun p hp => by simp at hp ⊢; rcases hp with h | h | h <;> simp [h])
  -- walls
  refine go_seq ?_
  refine go_rng (Pm := fun m => m ≤ 4) o (ei_135 hr) (hrn _ (by decide))
    (fun _ n ρ os => ρ = [none, some (.int 5), some (.int 6), some (.int m), some (.int wide), none, none, none, none, none, none, none, none, none, none] ∧ ∃ walls left : List Edge, os = [(5, left.map edgeD), (7, walls.map edgeD), (8, [])] ∧ WallsOk m wide walls left ∧ walls.length ≤ n) ?_ ?_ ?_ ?_
  · rintro k n ρ os ⟨rfl, walls, left, rfl, _⟩
    simp
  · intro _ _ _
    exact ⟨rfl, [], _, rfl, ⟨by simpa using hnd, by simpa using hedge, by omega⟩, by simp⟩
  · rintro k hk n hn ρ os ⟨rfl, walls, left, rfl, hw, hwl⟩ A σ B H N o next
    have less : Rle [none, some (.int 5), some (.int 6), some (.int m), some (.int wide), none, none, none, none, none, none, none, none, none, none] [none, some (.int 5), some (.int 6), some (.int m), some (.int wide), none, none, none, none, none, some (.int n), none, none, none, none] :=
      (Rle.refl [none, some (.int 5), some (.int 6), some (.int m), some (.int wide), none, none, none, none, none, none, none, none, none, none]).set (i := 10) (o := some (.int n)) rfl
    have o : Iv c A σ B H [none, some (.int 5), some (.int 6), some (.int m), some (.int wide), none, none, none, none, none, none, none, none, none, none] [(5, left.map edgeD), (7, walls.map edgeD), (8, [])] := o.less less
    refine go_if (P := (· = !left.isEmpty)) o ?_ (fun hb B H o => ?_) (fun hb B H o => ?_)
    · refine ti_view (j := 5) (ds := left.map edgeD) (ET.is (et_test (ed_op (d := .list (left.map edgeD)) (e := .list []) (ed_var rfl) (ed_lst ea_nil (by simp)) (r2_ne (sh_edgesL left) (sh_edgesL [])))) ?_) (by simp)
      rw [eqv_nil]
    · have hne : left ≠ [] := fun z => by rw [z] at hb; simp at hb
      have hlen : 1 ≤ left.length := by
        cases left with
        | nil => exact absurd rfl hne
        | cons => simp
      refine go_pop hr o (by decide) (by simp) (by simp) (by simp) (by rw [List.length_map]; exact hlen) (by rw [List.length_map]; have := hw.len; omega) (by rw [List.length_map]; omega) fun j z hz B H o => ?_
      rw [List.getElem?_map] at hz
      cases hz1 : left[j]? with
      | none => rw [hz1] at hz; simp at hz
      | some e =>
        rw [hz1] at hz
        simp at hz
        subst hz
        rw [map_erase] at o
        have e7 : walls.map edgeD ++ [edgeD e] = (walls ++ [e]).map edgeD := by simp
        rw [e7] at o
        exact next A σ B H _ _ ⟨rfl, walls ++ [e], left.eraseIdx j, rfl, hw.pop hz1, by rw [List.length_append, List.length_singleton]; omega⟩ o
    · exact next A σ B H _ _ ⟨rfl, walls, left, rfl, hw, by omega⟩ o
  rintro k hk0 hk4 ρ os ⟨rfl, walls, left, rfl, hw, hwl⟩ A σ B H o
  have hwl4 : walls.length ≤ 4 := by omega
  have o : Iv c A σ B H [none, some (.int 5), some (.int 6), some (.int m), some (.int wide), none, none, none, none, none, none, none, none, none, none] [(7, walls.map edgeD), (8, [])] := o.perm (fun p hp => by simp at hp ⊢; rcases hp with h | h <;> simp [h])
  obtain ⟨B, _, o⟩ := o.own_in (by simp)
  have o : Iv c A σ B H [none, some (.int 5), some (.int 6), some (.int m), some (.int wide), none, none, some (.list (walls.map edgeD)), none, none, none, none, none, none, none] [(8, [])] := o
  refine go_seq ?_
  have hst : EN (tLc (iList K (tVar 7)) (gName 13) tYes (tCallD (spR R_L_shut) (tCons (tVar 13) tNil)) [13]) [none, some (.int 5), some (.int 6), some (.int m), some (.int wide), none, none, some (.list (walls.map edgeD)), none, none, none, none, none, none, none] (walls.map fun e => pairD (shutP e)) :=
    en_lcM walls edgeD (fun e => pairD (shutP e)) (ie_list (ed_var rfl)) (by omega) fun e _ => ⟨_, gd_name (by simp), ed_call (ea_cons (ed_var rfl) ea_nil) (.mk e)⟩
  refine go_own o hst (hrn _ (by decide)) (by simp) (by simp) fun A σ B H o => ?_
  -- doors
  have hv : ∀ e ∈ walls, HV e := fun e he => isEdge_hv (hw.edge e (List.mem_append_left _ he))
  have hwe : ∀ e ∈ walls, isEdge ⟨m, wide, [], []⟩ e = true := fun e he => hw.edge e (List.mem_append_left _ he)
  have hwn : walls.Nodup := (List.nodup_append.mp hw.nd).1
  have e0 : (walls.map fun e => pairD (shutP e)) = ((walls ++ ([] : List Edge).map ef).map shutP).map pairD := by simp
  rw [e0] at o
  have o : Iv c A σ B H [none, some (.int 5), some (.int 6), some (.int m), some (.int wide), none, none, some (.list (walls.map edgeD)), none, none, none, none, none, none, none] [(8, ([] : List Edge).map edgeD), (9, ((walls ++ ([] : List Edge).map ef).map shutP).map pairD)] := o.perm (fun p hp => by simp at hp ⊢; rcases hp with h | h <;> simp [h])
  clear e0 hw hll hnd hedge hwl
  refine go_seq ?_
  refine go_rng (Pm := fun m => m ≤ 6) o ((ei_drawE (K := K) (m := 7) hr (ed_op (ed_var rfl) ed_int r2_addI) (by decide) (by decide)).imp ?_) (hrn _ (by decide))
    (fun _ n ρ os => ρ = [none, some (.int 5), some (.int 6), some (.int m), some (.int wide), none, none, some (.list (walls.map edgeD)), none, none, none, none, none, none, none] ∧ ∃ doors : List Edge, os = [(8, doors.map edgeD), (9, ((walls ++ doors.map ef).map shutP).map pairD)] ∧ doorsOk ⟨m, wide, walls, []⟩ doors ∧ doors.length ≤ n) ?_ ?_ ?_ ?_
  · rintro d ⟨n, rfl, hn⟩
    exact ⟨n, rfl, by omega, by omega, by omega⟩
  · rintro k n ρ os ⟨rfl, doors, rfl, _⟩
    simp
  · intro _ _ _
    exact ⟨rfl, [], rfl, ⟨by simp, by simp, by simp, by simp⟩, by simp⟩
  · rintro k hk n hn ρ os ⟨rfl, doors, rfl, hd, hdl⟩ A σ B H N o next
    have o : Iv c A σ B H [none, some (.int 5), some (.int 6), some (.int m), some (.int wide), none, none, some (.list (walls.map edgeD)), none, none, some (.int n), none, none, none, none] [(8, doors.map edgeD), (9, ((walls ++ doors.map ef).map shutP).map pairD)] := o
    refine go_seq ?_
    refine go_asg (P := fun d => ∃ e : Edge, d = edgeD e ∧ Way e.2.2) o ((ei_tup (ai_cons (ei_drawE (K := K) hr (m := m + 1) (ed_op (ed_var rfl) ed_int r2_addI) (by omega) (by omega)) fun _ _ => ai_cons (ei_drawE (K := K) hr (m := wide + 1) (ed_op (ed_var rfl) ed_int r2_addI) (by omega) (by omega)) fun _ _ => ai_cons (ei_ensw (K := K) hr) fun _ _ => ai_nil) ?_).imp ?_) (hrn _ (by decide)) (by simp) ?_
    · rintro ds ⟨d, es, rfl, _, e, es2, rfl, _, f, es3, rfl, _, rfl⟩
      simp
    · rintro d ⟨ds, rfl, d1, es, rfl, ⟨a, rfl, ha⟩, d2, es2, rfl, ⟨b, rfl, hb⟩, d3, es3, rfl, ⟨w, rfl, hw⟩, rfl⟩
      exact ⟨((a : Int), (b : Int), w), rfl, hw⟩
    rintro d ⟨e, rfl, he⟩ σ B H o
    have o : Iv c A σ B H [none, some (.int 5), some (.int 6), some (.int m), some (.int wide), none, none, some (.list (walls.map edgeD)), none, none, some (.int n), some (edgeD e), none, none, none] [(8, doors.map edgeD), (9, ((walls ++ doors.map ef).map shutP).map pairD)] := o
    refine go_seq ?_
    refine go_asg (P := (· = pairD (shutP (ef e)))) o (ei_pure (ed_call (ds := [cellD (e.1, e.2.1), sg e.2.2]) (ea_cons (ED.is (ed_slT (ed_var (d := edgeD e) rfl) eo_none (eo_some ed_int)) rfl) (ea_cons (ed_op (ed_var (d := edgeD e) rfl) ed_int (r2_ixT rfl)) ea_nil)) (.mk (e.1, e.2.1) e.2.2 he))) (hrn _ (by decide)) (by simp) ?_
    rintro d rfl σ B H o
    have o : Iv c A σ B H [none, some (.int 5), some (.int 6), some (.int m), some (.int wide), none, none, some (.list (walls.map edgeD)), none, none, some (.int n), some (edgeD e), some (pairD (shutP (ef e))), none, none] [(8, doors.map edgeD), (9, ((walls ++ doors.map ef).map shutP).map pairD)] := o
    have less : Rle [none, some (.int 5), some (.int 6), some (.int m), some (.int wide), none, none, some (.list (walls.map edgeD)), none, none, none, none, none, none, none] [none, some (.int 5), some (.int 6), some (.int m), some (.int wide), none, none, some (.list (walls.map edgeD)), none, none, some (.int n), some (edgeD e), some (pairD (shutP (ef e))), none, none] :=
      (((Rle.refl [none, some (.int 5), some (.int 6), some (.int m), some (.int wide), none, none, some (.list (walls.map edgeD)), none, none, none, none, none, none, none]).set (i := 10) (o := some (.int n)) rfl).set (i := 11) (o := some (edgeD e)) rfl).set (i := 12) (o := some (pairD (shutP (ef e)))) rfl
    have hve : HV (ef e) := hv_from _ _ _
    have hvs : ∀ x ∈ walls ++ doors.map ef, HV x := fun x hx => by
      rcases List.mem_append.mp hx with hx | hx
      · exact hv x hx
      · obtain ⟨y, _, rfl⟩ := List.mem_map.mp hx
        exact hv_from _ _ _
    dsimp only
    refine go_if (P := fun b => b = true → isEdge ⟨m, wide, walls, []⟩ (ef e) = true ∧ ef e ∉ walls ++ doors.map ef) o ?_ (fun hb B H o => ?_) (fun hb B H o => ?_)
    · refine ti_and (a := inRC m wide (shutP (ef e)).1 && inRC m wide (shutP (ef e)).2) (ti_pure (et_B (ed_call (ea_cons (ed_tup (ea_cons (ed_var rfl) (ea_cons (ed_var rfl) ea_nil)) (by simp)) (ea_cons (ed_var rfl) ea_nil)) (.mk m wide [] (shutP (ef e)))))) (fun ha => ?_) (fun _ z => nomatch z)
      rw [within_edge ⟨m, wide, walls, []⟩ (ef e) hve] at ha
      have e1 : ED (tOp (rInX K true) (tVar 12) (tVar 9)) [none, some (.int 5), some (.int 6), some (.int m), some (.int wide), none, none, some (.list (walls.map edgeD)), none, some (.list (((walls ++ doors.map ef).map shutP).map pairD)), some (.int n), some (edgeD e), some (pairD (shutP (ef e))), none, none] (.bool (!((((walls ++ doors.map ef).map shutP).map pairD).any fun z => PyData.eqv z (pairD (shutP (ef e)))))) :=
        ed_op (ed_var rfl) (ed_var rfl) (r2_inL (neg := true) (sh_pair _) (sh_pairsL _))
      have h9 : TI' c (tTest (tOp (rInX K true) (tVar 12) (tVar 9))) [none, some (.int 5), some (.int 6), some (.int m), some (.int wide), none, none, some (.list (walls.map edgeD)), none, none, some (.int n), some (edgeD e), some (pairD (shutP (ef e))), none, none] [(8, doors.map edgeD), (9, ((walls ++ doors.map ef).map shutP).map pairD)] (· = !((((walls ++ doors.map ef).map shutP).map pairD).any fun z => PyData.eqv z (pairD (shutP (ef e))))) :=
        ti_view (j := 9) (ds := ((walls ++ doors.map ef).map shutP).map pairD) (et_test e1) (by simp)
      intro A σ B H o Q q
      refine h9 A σ B H o Q fun b B' H' o' hb => q b B' H' o' fun hbt => ⟨ha, fun hm => ?_⟩
      rw [hbt] at hb
      rw [any_pair] at hb
      have := (mem_shut hvs hve).mpr hm
      rw [decide_eq_true this] at hb
      exact nomatch hb
    · obtain ⟨hed, hnm⟩ := hb rfl
      refine go_seq ?_
      refine go_app o (by simp) (ei_pure (ed_var (d := edgeD e) rfl)) (by rw [List.length_map]; omega) fun d hd' B H o => ?_
      subst hd'
      have o : Iv c A σ B H [none, some (.int 5), some (.int 6), some (.int m), some (.int wide), none, none, some (.list (walls.map edgeD)), none, none, some (.int n), some (edgeD e), some (pairD (shutP (ef e))), none, none] [(9, ((walls ++ doors.map ef).map shutP).map pairD), (8, doors.map edgeD ++ [edgeD e])] := o.perm (fun p hp => by simp at hp ⊢; rcases hp with h | h <;> simp [h])
      refine go_app o (by simp) (ei_pure (ed_var (d := pairD (shutP (ef e))) rfl)) (by simp only [List.length_map, List.length_append]; omega) fun d hd' B H o => ?_
      subst hd'
      have e8 : doors.map edgeD ++ [edgeD e] = (doors ++ [e]).map edgeD := by simp
      have e9 : ((walls ++ doors.map ef).map shutP).map pairD ++ [pairD (shutP (ef e))] = ((walls ++ (doors ++ [e]).map ef).map shutP).map pairD := by simp
      rw [e8, e9] at o
      have o : Iv c A σ B H [none, some (.int 5), some (.int 6), some (.int m), some (.int wide), none, none, some (.list (walls.map edgeD)), none, none, some (.int n), some (edgeD e), some (pairD (shutP (ef e))), none, none] [(8, (doors ++ [e]).map edgeD), (9, ((walls ++ (doors ++ [e]).map ef).map shutP).map pairD)] := o.perm (fun p hp => by simp only [List.mem_cons, List.not_mem_nil, or_false] at hp ⊢; rcases hp with h | h <;> simp [h])
      refine next A σ B H _ _ ⟨rfl, doors ++ [e], rfl, ⟨fun x hx => ?_, fun x hx => ?_, fun x hx => ?_, ?_⟩, by rw [List.length_append, List.length_singleton]; omega⟩ (o.less less)
      · rcases List.mem_append.mp hx with hx | hx
        · exact hd.1 x hx
        · rw [List.mem_singleton.mp hx]
          exact he
      · rcases List.mem_append.mp hx with hx | hx
        · exact hd.2.1 x hx
        · rw [List.mem_singleton.mp hx]
          exact hed
      · rcases List.mem_append.mp hx with hx | hx
        · exact hd.2.2.1 x hx
        · rw [List.mem_singleton.mp hx]
          exact fun z => hnm (List.mem_append_left _ z)
      · rw [List.map_append, List.nodup_append]
        refine ⟨hd.2.2.2, List.nodup_cons.mpr ⟨by simp, List.nodup_nil⟩, fun a ha b hb e => hnm (List.mem_append_right _ ?_)⟩
        subst e
        have : a = ef _ := List.mem_singleton.mp hb
        rw [← this]
        exact ha
    · exact next A σ B H _ _ ⟨rfl, doors, rfl, hd, by omega⟩ (o.less less)
  rintro k hk0 hk6 ρ os ⟨rfl, doors, rfl, hd, hdl⟩ A σ B H o
  obtain ⟨B, _, o⟩ := o.own_in (by simp)
  refine go_ret o (ei_pure (ed_tup (ea_cons (ed_var rfl) (ea_cons (ed_var rfl) (ea_cons (ed_cb (ea_cons (ed_var rfl) ea_nil) rc_tupL) (ea_cons (ed_cb (ea_cons (ed_var rfl) ea_nil) rc_tupL) ea_nil)))) (by simp))) fun v d B' H' o' dv e => ?_
  subst e
  refine q A σ v (hallD ⟨m, wide, walls, doors⟩) B' H' _ _ ⟨⟨m, wide, walls, doors⟩, ⟨h1, h2, by show walls.length ≤ 24; omega, by show doors.length ≤ 6; omega, fun e he => ?_, hwn, hd.1, fun e he => ?_, hd.2.2.1, hd.2.2.2⟩, rfl⟩ o' dv
  · exact (isEdge_rc rfl rfl e).trans (hwe e he)
  · exact (isEdge_rc rfl rfl _).trans (hd.2.1 e he)
end
end Pd

/-! Rdg2 -/
namespace Pd
end Pd

/-! Sem12 -/
set_option Elab.async false
set_option linter.all false
set_option maxRecDepth 100000
set_option maxHeartbeats 4000000
namespace Pd
open PySem PySem.Spec PyProof.Rows L2 PySem.W
local macro_rules | `(tactic| walk_at "ed") => `(tactic| repeat' (first
  | with_reducible (first
    | exact ed_int | exact ed_str | exact ed_bl | exact ed_non
    | exact ea_nil | refine' ea_cons ?_ ?_
    | refine' ed_isi ?_ ?_ | refine' ed_isi2 ?_ ?_ ?_
    | refine' ed_andV ?_ (fun _ => ?_) | refine' ed_orV ?_ (fun _ => ?_) | refine' ed_notV ?_
    | refine' ed_chain ?_ ?_ ?_ (fun _ => ⟨?_, ?_⟩)
    | refine' ed_tup ?_ ?_ | refine' ed_lst ?_ ?_
    | refine' et_not ?_ | refine' et_and ?_ (fun _ => ?_) | refine' et_or ?_ (fun _ => ?_) | exact et_yes
    | refine' et_test ?_ | refine' et_B ?_
    | refine' ed_op ?_ ?_ ?_
    | refine' ed_cb ?_ ?_)
  | exact ed_var rfl
  | exact kit_tt | exact kit_ii | exact kit_ib | exact kit_ll | exact kit_lt | exact kit_tl
  | exact r2_addI | exact r2_subI | exact r2_lt | exact r2_le | exact r2_gt | exact r2_ge | exact r2_isN | exact r2_notN
  | exact rc_lenT | exact rc_lenL | exact rc_intB | exact rc_tupL
  | with_reducible (first | refine' r2_eq ?_ ?_ | refine' r2_ne ?_ ?_)
  | exact sh_int _ | exact sh_sg _ | exact sh_cell _ | exact sh_edge _ | exact sh_pair _ | exact sh_str _ (by decide +kernel)
  | exact r2_ixT rfl | exact r2_ixL rfl
  | refine' ed_tup ?_ ?_
  | (show List.length _ ≤ 100000; simp; done)))
/-! ### alike -/
def Atom (d : PyData) : Prop := (∃ i, d = .int i) ∨ (∃ x, d = .str x ∧ PyData.strOk x = true) ∨ d = .none
def Nice : Nat → PyData → Prop
  | 0, _ => False
  | n + 1, d => Atom d ∨ ∃ ds : List PyData, (d = .tuple ds ∨ d = .list ds) ∧ ds.length ≤ 100000 ∧ ∀ x ∈ ds, Nice n x
def R_alike (n : Nat) (ds : List PyData) (d : PyData) : Prop := ∃ x, Nice n x ∧ ds = [x, x] ∧ d = .bool true
theorem sh_bool (b : Bool) : SeqAt.shaped (.bool b) = true := shaped_of (by simp [PyData.canLay0]) (by simp [PyData.depth])
theorem sh_non : SeqAt.shaped .none = true := shaped_of (by simp [PyData.canLay0]) (by simp [PyData.depth])
theorem eqv_bool (a b : Bool) : PyData.eqv (.bool a) (.bool b) = decide (a = b) := by
  cases a <;> cases b <;> simp [PyData.eqv]
theorem eqv_nilL : PyData.eqv (.list []) (.list []) = true := by simp [PyData.eqv, PyData.eqvAll]
section
variable {K : PySem.W.Frag}
theorem alike_atom {sp : Sp} {x : PyData} (h1 : kitB (tyN x) "tuple" = some false) (h2 : kitB (tyN x) "list" = some false) (h3 : kitB (tyN x) "bool" = some false) (hs : SeqAt.shaped x = true) (he : PyData.eqv x x = true) :
    RD (rd_L_alike K sp) [some x, some x, none] (.bool true) := by
  unfold rd_L_alike
  refine rd_ifS (b := false) (ET.is (et_and (et_B (ed_isi2 (ed_var (d := x) rfl) h1 h2)) (b := false) (fun z => by simp at z)) rfl) (fun z => nomatch z) (fun _ => ?_)
  refine rd_ret (ED.is (ed_andV (ed_op (ed_var (d := x) rfl) (ed_var (d := x) rfl) (r2_eq hs hs)) (fun _ => ed_op (ed_isi (ed_var (d := x) rfl) h3) (ed_isi (ed_var (d := x) rfl) h3) (r2_eq (sh_bool _) (sh_bool _)))) ?_)
  rw [he, eqv_bool]
  rfl
/-- of a tuple or a list -/
theorem alike_seq {R : List PyData → PyData → Prop} {x : PyData} {ds : List PyData} {b : Bool} (hx : (b = true ∧ x = .tuple ds) ∨ (b = false ∧ x = .list ds)) (hl : ds.length ≤ 100000) (hR : ∀ d ∈ ds, R [d, d] (.bool true)) :
    RD (rd_L_alike K (spR R)) [some x, some x, none] (.bool true) := by
  have k1 : kitB (tyN x) "tuple" = some b := by
    rcases hx with ⟨rfl, rfl⟩ | ⟨rfl, rfl⟩
    · exact kit_tt
    · exact kit_lt
  have k2 : kitB (tyN x) "list" = some (!b) := by
    rcases hx with ⟨rfl, rfl⟩ | ⟨rfl, rfl⟩
    · exact kit_tl
    · exact kit_ll
  have hlen : RC (rLenX K) [x] (.int (ds.length : Nat)) := by
    rcases hx with ⟨_, rfl⟩ | ⟨_, rfl⟩
    · exact rc_lenT
    · exact rc_lenL
  have hix : ∀ (i : Nat) (d : PyData), ds[i]? = some d → RD2 (rIx K) x (.int (i : Nat)) d := fun i d h => by
    rcases hx with ⟨_, rfl⟩ | ⟨_, rfl⟩
    · exact r2_ixT (atI_nat h)
    · exact r2_ixL (atI_nat h)
  unfold rd_L_alike
  refine rd_ifS (b := true) (ET.is (et_and (et_B (ed_isi2 (ed_var (d := x) rfl) k1 k2)) (b := true) (fun _ => ET.is (et_B (ed_isi2 (ed_var (d := x) rfl) k1 k2)) (by cases b <;> rfl))) (by cases b <;> rfl)) (fun _ => ?_) (fun z => nomatch z)
  refine rd_ifS (b := false) (ET.is (et_or (et_test (ed_op (ed_isi (ed_var (d := x) rfl) k1) (ed_isi (ed_var (d := x) rfl) k1) (r2_ne (sh_bool _) (sh_bool _)))) (fun _ => et_test (ed_op (ed_cb (ea_cons (ed_var (d := x) rfl) ea_nil) hlen) (ed_cb (ea_cons (ed_var (d := x) rfl) ea_nil) hlen) (r2_ne (sh_int _) (sh_int _))))) ?_) (fun z => nomatch z) (fun _ => ?_)
  · rw [eqv_bool, eqv_int]
    simp
  · have hc : ED (tLc (iRng1 (tCons (tCB (rLenX K) (tCons (tVar 0) tNil)) tNil)) (gName 2) (tNot (tB (tCallD (spR R) (tCons (tOp (rIx K) (tVar 0) (tVar 2)) (tCons (tOp (rIx K) (tVar 1) (tVar 2)) tNil))))) (tVar 2) [2]) [some x, some x, none]
        (.list (((List.range (((ds.length : Nat) : Int)).toNat).filter fun _ => false).map fun k => .int (k : Nat))) := by
      refine ed_lcT _ (fun k => .int (k : Nat)) (fun _ => false) (fun k => .int (k : Nat)) (ie_rng1 (ea_cons (ed_cb (ea_cons (ed_var (d := x) rfl) ea_nil) hlen) ea_nil) (by omega) (by omega)) (by rw [List.length_range]; omega) fun k hk => ⟨_, gd_name (by simp), ?_, fun z => nomatch z⟩
      have hk1 : k < ds.length := by
        have := List.mem_range.mp hk
        omega
      have hd : ds[k]? = some ds[k] := List.getElem?_eq_getElem hk1
      exact ET.is (et_not (et_B (ed_call (ea_cons (ed_op (ed_var (d := x) rfl) (ed_var (d := .int (k : Nat)) rfl) (hix k _ hd)) (ea_cons (ed_op (ed_var (d := x) rfl) (ed_var (d := .int (k : Nat)) rfl) (hix k _ hd)) ea_nil)) (hR _ (List.getElem_mem _))))) rfl
    refine rd_ret (ED.is (ed_op hc (ed_lst ea_nil (by simp)) (r2_eq ?_ (sh_edgesL []))) ?_)
    · rw [List.filter_eq_nil_iff.mpr (fun _ _ => by simp)]
      exact sh_edgesL []
    · rw [List.filter_eq_nil_iff.mpr (fun _ _ => by simp)]
      rw [List.map_nil, eqv_nilL]
theorem rp_L_alike {n : Nat} {ds : List PyData} {d : PyData} (h : R_alike (n + 1) ds d) : RD (rd_L_alike K (spR (R_alike n))) (ds.map some ++ List.replicate (3 - ds.length) none) d := by
  obtain ⟨x, hx, rfl, rfl⟩ := h
  show RD _ [some x, some x, none] _
  rcases hx with (⟨i, rfl⟩ | ⟨z, rfl, hz⟩ | rfl) | ⟨es, he, hl, hn⟩
  · exact alike_atom kit_it kit_il kit_ib (sh_int i) (by rw [eqv_int]; simp)
  · exact alike_atom kit_st kit_sl kit_sb (sh_str z hz) (by simp [PyData.eqv])
  · exact alike_atom kit_nt kit_nl kit_nb sh_non (by simp [PyData.eqv])
  · have hR : ∀ d ∈ es, R_alike n [d, d] (.bool true) := fun d hd => ⟨d, hn d hd, rfl, rfl⟩
    rcases he with rfl | rfl
    · exact alike_seq (b := true) (.inl ⟨rfl, rfl⟩) hl hR
    · exact alike_seq (b := false) (.inr ⟨rfl, rfl⟩) hl hR
end
end Pd

/-! RdX -/
set_option Elab.async false
set_option linter.all false
set_option maxRecDepth 100000
set_option maxHeartbeats 4000000
namespace Pd
open PySem PySem.Spec PyProof.Rows L2
/-- f'..' -/
def tJoin (ts : List TE) : TE := fun σ H Q => tJs ts Str.empty σ H fun out H1 => Q (.str out) H1
/-- x in a dict of the module -/
def rInKD (K : PySem.W.Frag) (w : World) : R2 := fun x y H Q => ∃ (z : Str) (p : Addr) (r : Option Value), x = .str z ∧ y = .ref p ∧ (∃ es n, KDict K w p es n) ∧ PySem.W.nsIn K p z = some r ∧ Q (.bl r.isSome) H
theorem op_inKD {X : Cx} : OpR X (compareOp .In) (rInKD X.K X.w) := by
  intro pins s σ H x y v u Q I rx ry h
  obtain ⟨z, p, r, rfl, rfl, ⟨es, n, D⟩, e, q⟩ := h
  exact op_in_kd D pins s σ H _ _ v u Q I rx ry ⟨z, r, rfl, rfl, e, q⟩
def rSplit : V → List V → Hp → VK → Prop := fun x xs H Q => ∃ a b, x = .str a ∧ xs = [.str b] ∧ (b.length == 0) = false ∧ a.length + 2 ≤ sizeLine ∧ rNewStrs (Txt.split a b) H Q
def rTupIx (K : PySem.W.Frag) : V → List V → Hp → VK → Prop := fun x xs H Q => ∃ p, ∃ ys : List Str, ∃ z j, x = .ref p ∧ xs = [.str z] ∧ SqT K H p (ys.map V.str) ∧ ys[j]? = some z ∧ (∀ m, m < j → ys[m]? ≠ some z) ∧ Q (.int (j : Nat)) H
def rIntS : List V → Hp → VK → Prop := fun xs H Q => ∃ a n, xs = [.str a] ∧ PySem.intText? a = some n ∧ a.length ≤ 640 ∧ Q (.int n) H
def rStrI : List V → Hp → VK → Prop := fun xs H Q => ∃ i : Int, xs = [.int i] ∧ i.natAbs.log2 < 1920 ∧ Q (.str (toString i)) H
theorem pe_globS {X : Cx} {x : Str} {z : Str} {p : Pos} (hg : Gl X x) (hm : ∃ t, X.mg x = some (.str z t)) (hdb : (x == ("__debug__" : Str)) = false := by decide) : PE X (.Name x p) (tC (.str z)) := by
  obtain ⟨t, h⟩ := hm
  exact pe_glob hg h ⟨t, rfl⟩ hdb
def rd_written (K : PySem.W.Frag) (sp_check_start : Sp) : TS := (tSeq (tDrop (tCallD sp_check_start (tCons (tVar 0) (tCons (tVar 1) tNil)))) (tSeq (tAsg (tVar 0) (gTup K 4 (gCons (gName 2) (gCons (gName 3) (gCons (gName 4) (gCons (gName 5) gNil)))))) (tSeq (tAsg (tLst (tCons (tJoin [(tC (.str "hall ")), (tFmt (tVar 2)), (tC (.str " ")), (tFmt (tVar 3))]) tNil)) (gName 6)) (tSeq (tDrop (tBM K "list" rExtend (tVar 6) (tCons (tLc (iTup K (tVar 4)) (gTup K 3 (gCons (gName 7) (gCons (gName 8) (gCons (gName 9) gNil)))) tYes (tJoin [(tC (.str "wall ")), (tFmt (tVar 7)), (tC (.str " ")), (tFmt (tVar 8)), (tC (.str " ")), (tFmt (tVar 9))]) [7, 8, 9]) tNil))) (tSeq (tDrop (tBM K "list" rExtend (tVar 6) (tCons (tLc (iTup K (tVar 5)) (gTup K 3 (gCons (gName 7) (gCons (gName 8) (gCons (gName 10) gNil)))) tYes (tJoin [(tC (.str "door ")), (tFmt (tVar 7)), (tC (.str " ")), (tFmt (tVar 8)), (tC (.str " ")), (tFmt (tVar 10))]) [7, 8, 10]) tNil))) (tSeq (tDrop (tBM K "list" rExtend (tVar 6) (tCons (tLc (iTup K (tVar 1)) (gTup K 2 (gCons (gName 7) (gCons (gName 8) gNil))) tYes (tJoin [(tC (.str "at ")), (tFmt (tVar 7)), (tC (.str " ")), (tFmt (tVar 8))]) [7, 8]) tNil))) (tRet (tM1 (rJoin K) (tC (.str "\n")) (tVar 6)))))))))
def rd_is_figure (K : PySem.W.Frag) : TS := (tRet (tAndV (tOp (rEqD K) (tCB (rLenX K) (tCons (tVar 0) tNil)) (tC (.int 1))) (tOp (rInX K false) (tVar 0) (tC (.str "0123456789")))))
def rd_is_row (K : PySem.W.Frag) (w : World) (aKINDS : Addr) (aSIGNS : Addr) (sp_is_figure : Sp) : TS := (tSeq (tIfS (tOr (tTest (tOp (rInX K true) (tOp (rIx K) (tVar 0) (tC (.int 0))) (tC (.ref aKINDS)))) (tTest (tOp rLtI (tCB (rLenX K) (tCons (tVar 0) tNil)) (tC (.int 3))))) (tRet (tC (.bl false))) tNext) (tSeq (tIfS (tOr (tNot (tB (tCallD sp_is_figure (tCons (tOp (rIx K) (tVar 0) (tC (.int 1))) tNil)))) (tNot (tB (tCallD sp_is_figure (tCons (tOp (rIx K) (tVar 0) (tC (.int 2))) tNil))))) (tRet (tC (.bl false))) tNext) (tSeq (tIfS (tTest (tOp (rInKD K w) (tOp (rIx K) (tVar 0) (tC (.int 0))) (tC (.ref aSIGNS)))) (tRet (tAndV (tOp (rEqD K) (tCB (rLenX K) (tCons (tVar 0) tNil)) (tC (.int 4))) (tOp (rInX K false) (tOp (rIx K) (tVar 0) (tC (.int 3))) (tOp (rIxD K w) (tC (.ref aSIGNS)) (tOp (rIx K) (tVar 0) (tC (.int 0))))))) tNext) (tRet (tOp (rEqD K) (tCB (rLenX K) (tCons (tVar 0) tNil)) (tC (.int 3)))))))
def rd_thing_of (K : PySem.W.Frag) : TS := (tRet (tOp (rAddX K) (tTup (tCons (tCB rIntS (tCons (tOp (rIx K) (tVar 0) (tC (.int 1))) tNil)) (tCons (tCB rIntS (tCons (tOp (rIx K) (tVar 0) (tC (.int 2))) tNil)) tNil))) (tCB (rTupX K) (tCons (tSl (rSlX K) (tVar 0) (tPart (tC (.int 3))) tNoPart) tNil))))
def rd_things_of (K : PySem.W.Frag) (aKINDS : Addr) (sp_is_row : Sp) (sp_thing_of : Sp) : TS := (tSeq (tAsg (tDc (iTup K (tC (.ref aKINDS))) (gName 7) tYes (tVar 7) (tLst tNil) [7]) (gName 1)) (tSeq (tAsg (tC (.int 0)) (gName 2)) (tSeq (tFor (iEnumX K (tCons (tM1 rSplit (tVar 0) (tC (.str "\n"))) tNil)) (gTup K 2 (gCons (gName 3) (gCons (gName 4) gNil))) (tSeq (tAsg (tM1 rSplit (tVar 4) (tC (.str " "))) (gName 5)) (tSeq (tIfS (tOr (tNot (tB (tCallD sp_is_row (tCons (tVar 5) tNil)))) (tTest (tOp (rNeD K) (tOp (rEqD K) (tOp (rIx K) (tVar 5) (tC (.int 0))) (tC (.str "hall"))) (tOp (rEqD K) (tVar 3) (tC (.int 0)))))) tNever tNext) (tSeq (tAsg (tBM K "tuple" (rTupIx K) (tC (.ref aKINDS)) (tCons (tOp (rIx K) (tVar 5) (tC (.int 0))) tNil)) (gName 6)) (tSeq (tIfS (tTest (tOp rLtI (tVar 6) (tVar 2))) tNever tNext) (tSeq (tAsg (tVar 6) (gName 2)) (tDrop (tBM K "list" rAppend (tDGet (tVar 1) (tOp (rIx K) (tVar 5) (tC (.int 0)))) (tCons (tCallD sp_thing_of (tCons (tVar 5) tNil)) tNil))))))))) (tRet (tVar 1)))))
def rd_read (K : PySem.W.Frag) (sp_check_start : Sp) (sp_things_of : Sp) : TS := (tSeq (tIfS (tNot (tB (tCB (rIsi K) (tCons (tVar 0) (tCons (tC (.ty "str")) tNil))))) tNever tNext) (tSeq (tAsg (tCallD sp_things_of (tCons (tVar 0) tNil)) (gName 1)) (tSeq (tAsg (tOp (rIx K) (tDGet (tVar 1) (tC (.str "hall"))) (tC (.int 0))) (gTup K 2 (gCons (gName 2) (gCons (gName 3) gNil)))) (tSeq (tAsg (tTup (tCons (tVar 2) (tCons (tVar 3) (tCons (tCB (rTupX K) (tCons (tDGet (tVar 1) (tC (.str "wall"))) tNil)) (tCons (tCB (rTupX K) (tCons (tDGet (tVar 1) (tC (.str "door"))) tNil)) tNil))))) (gName 4)) (tSeq (tAsg (tCB (rTupX K) (tCons (tDGet (tVar 1) (tC (.str "at"))) tNil)) (gName 5)) (tSeq (tDrop (tCallD sp_check_start (tCons (tVar 4) (tCons (tVar 5) tNil)))) (tRet (tTup (tCons (tVar 4) (tCons (tVar 5) tNil))))))))))
def rd_law (K : PySem.W.Frag) (sp_L_alike : Sp) (sp_L_cells : Sp) (sp_L_hall : Sp) (sp_read : Sp) (sp_written : Sp) : TS := (tSeq (tAsg (tLst (tCons (tVar 0) (tCons (tC (.int 0)) (tCons (tC (.int 0)) (tCons (tC (.int 0)) tNil))))) (gName 1)) (tSeq (tFor (iRng1 (tCons (tC (.int 5)) tNil)) (gName 2) (tSeq (tAsg (tCallD sp_L_hall (tCons (tVar 1) (tCons (tC (.int 5)) (tCons (tC (.int 6)) tNil)))) (gName 3)) (tSeq (tAsg (tCallD sp_L_cells (tCons (tVar 1) (tCons (tVar 3) (tCons (tC (.int 3)) tNil)))) (gName 4)) (tSeq (tAsg (tLst (tCons (tOp (rAddX K) (tOp (rAddX K) (tOp (rAddX K) (tC (.str "hall ")) (tCB rStrI (tCons (tOp (rIx K) (tVar 3) (tC (.int 0))) tNil))) (tC (.str " "))) (tCB rStrI (tCons (tOp (rIx K) (tVar 3) (tC (.int 1))) tNil))) tNil)) (gName 5)) (tSeq (tFor (iTup K (tOp (rIx K) (tVar 3) (tC (.int 2)))) (gTup K 3 (gCons (gName 6) (gCons (gName 7) (gCons (gName 8) gNil)))) (tDrop (tBM K "list" rAppend (tVar 5) (tCons (tOp (rAddX K) (tOp (rAddX K) (tOp (rAddX K) (tOp (rAddX K) (tOp (rAddX K) (tC (.str "wall ")) (tCB rStrI (tCons (tVar 6) tNil))) (tC (.str " "))) (tCB rStrI (tCons (tVar 7) tNil))) (tC (.str " "))) (tVar 8)) tNil)))) (tSeq (tFor (iTup K (tOp (rIx K) (tVar 3) (tC (.int 3)))) (gTup K 3 (gCons (gName 6) (gCons (gName 7) (gCons (gName 9) gNil)))) (tDrop (tBM K "list" rAppend (tVar 5) (tCons (tOp (rAddX K) (tOp (rAddX K) (tOp (rAddX K) (tOp (rAddX K) (tOp (rAddX K) (tC (.str "door ")) (tCB rStrI (tCons (tVar 6) tNil))) (tC (.str " "))) (tCB rStrI (tCons (tVar 7) tNil))) (tC (.str " "))) (tVar 9)) tNil)))) (tSeq (tAsg (tOp (rAddX K) (tVar 5) (tLc (iTup K (tVar 4)) (gTup K 2 (gCons (gName 6) (gCons (gName 7) gNil))) tYes (tOp (rAddX K) (tOp (rAddX K) (tOp (rAddX K) (tC (.str "at ")) (tCB rStrI (tCons (tVar 6) tNil))) (tC (.str " "))) (tCB rStrI (tCons (tVar 7) tNil))) [6, 7])) (gName 5)) (tSeq (tAsg (tM1 (rJoin K) (tC (.str "\n")) (tVar 5)) (gName 10)) (tFor (iRng1 (tCons (tC (.int 2)) tNil)) (gName 11) (tIfS (tOr (tNot (tB (tCallD sp_L_alike (tCons (tCallD sp_written (tCons (tVar 3) (tCons (tVar 4) tNil))) (tCons (tVar 10) tNil))))) (tNot (tB (tCallD sp_L_alike (tCons (tCallD sp_read (tCons (tVar 10) tNil)) (tCons (tTup (tCons (tVar 3) (tCons (tVar 4) tNil))) tNil)))))) (tRet (tC (.bl false))) tNext)))))))))) (tRet (tC (.bl true)))))
end Pd

/-! ZipL -/
set_option Elab.async false
set_option linter.all false
set_option maxRecDepth 100000
set_option maxHeartbeats 4000000
/-! list(zip(xs, ys)), xs and ys lists -/
namespace PySem
namespace F
theorem zip_no_len : typeLookup (.type "zip") "__len__" = pure none := by rw [typeLookup_type, builtinLookup_eq_fast]; kernel_rfl
theorem zip_no_hint : typeLookup (.type "zip") "__length_hint__" = pure none := by rw [typeLookup_type, builtinLookup_eq_fast]; kernel_rfl
end F
end PySem
namespace Pd
open PySem PySem.Spec PyProof.Rows L2
/-- a zip over two lists, behind i turns, while at d a list is filled -/
structure ZS (z TI TO i1 i2 l1 l2 : Addr) (xs ys : Array Value) (d : Addr) (i : Nat) (h : Heap) : Prop where
  pTI : IsPair h TI (.ref i1) (.ref i2)
  a1 : h.IsListIter i1 l1 i
  a2 : h.IsListIter i2 l2 i
  b1 : h.IsList l1 xs
  b2 : h.IsList l2 ys
  zz : (IsZip h z TI TO .none ∧ ∃ a b, IsPair h TO a b) ∨ ∃ T f oT, IsZipHeld h z TI TO T f ∧ h.get? T = some oT ∧ T ≠ z ∧ T ≠ i1 ∧ T ≠ i2 ∧ T ≠ d
section
variable {prog : Program} {w : World} {A : Around} {E : Value → Shared → Prop} {s : Shared} {z TI TO i1 i2 l1 l2 d : Addr} {xs ys : Array Value} {i : Nat} {x y : Value}
theorem ZS.frame {h h' : Heap} (st : ZS z TI TO i1 i2 l1 l2 xs ys d i h) (nd : d ∉ [z, TI, TO, i1, i2, l1, l2]) (hk : ∀ b o, b ≠ d → h.get? b = some o → h'.get? b = some o) : ZS z TI TO i1 i2 l1 l2 xs ys d i h' := by
  simp only [List.mem_cons, List.not_mem_nil, or_false, not_or] at nd
  obtain ⟨dz, dTI, dTO, di1, di2, dl1, dl2⟩ := nd
  obtain ⟨hTI, h1, h2, hl1, hl2, hz⟩ := st
  refine ⟨hk _ _ (Ne.symm dTI) hTI, h1.at fun o e => hk _ o (Ne.symm di1) e, h2.at fun o e => hk _ o (Ne.symm di2) e, hl1.at fun o e => hk _ o (Ne.symm dl1) e, hl2.at fun o e => hk _ o (Ne.symm dl2) e, ?_⟩
  rcases hz with ⟨hz, a, b, hTO⟩ | ⟨T, f, oT, hz, hT, r1, r2, r3, r4⟩
  · exact .inl ⟨hk _ _ (Ne.symm dz) hz, a, b, hk _ _ (Ne.symm dTO) hTO⟩
  · exact .inr ⟨T, f, oT, hk _ _ (Ne.symm dz) hz, hk _ _ r4 hT, r1, r2, r3, r4⟩
theorem zs_type (st : ZS z TI TO i1 i2 l1 l2 xs ys d i s.heap) : s.TypeIs (.ref z) "zip" := by
  rcases st.zz with ⟨hz, _⟩ | ⟨T, f, oT, hz, _⟩
  · exact ⟨_, hz, rfl⟩
  · exact ⟨_, hz, rfl⟩
theorem zs_item {Q : Option Value → Shared → Prop} (D : ZipApart z TI TO i1 i2 l1 l2) (st : ZS z TI TO i1 i2 l1 l2 xs ys d i s.heap) (ex : xs[i]? = some x) (ey : ys[i]? = some y) (hds : d < s.heap.objs.size)
    (hQ : ∀ h', ZS z TI TO i1 i2 l1 l2 xs ys d (i + 1) h' → IsPair h' s.heap.objs.size x y → (∀ c o, c ∉ [z, TO, i1, i2] → s.heap.get? c = some o → h'.get? c = some o) → Q (some (.ref s.heap.objs.size)) { s with heap := h' }) :
    wpAny (model prog w) A (pyNext (.ref z)) Q E s := by
  obtain ⟨hTI, h1, h2, hl1, hl2, hz⟩ := st
  have lt : ∀ {c o}, s.heap.get? c = some o → s.heap.objs.size ≠ c := fun e => Nat.ne_of_gt (Heap.lt_size e)
  have n1 : s.heap.objs.size ≠ i1 := let ⟨_, e, _⟩ := h1; lt e
  have n2 : s.heap.objs.size ≠ i2 := let ⟨_, e, _⟩ := h2; lt e
  rcases hz with ⟨hz, a, b, hTO⟩ | ⟨T, f, oT, hz, hT, r1, r2, r3, r4⟩
  · refine wpAny_pyNext_zip_item D hz hTI hTO h1 h2 hl1 hl2 ex ey fun h' a1 a2 a3 a4 a5 a6 hk => ?_
    exact hQ h' ⟨hk _ _ D.TIz D.TITO D.TIi1 D.TIi2 hTI, a3, a4, hl1.at fun o e => hk _ o D.l1z D.l1TO D.l1i1 D.l1i2 e, hl2.at fun o e => hk _ o D.l2z D.l2TO D.l2i1 D.l2i2 e,
        .inr ⟨s.heap.objs.size, false, _, a1, a5, lt hz, n1, n2, Nat.ne_of_gt hds⟩⟩ a5
      fun c o hc e => hk c o (fun x => hc (by simp [x])) (fun x => hc (by simp [x])) (fun x => hc (by simp [x])) (fun x => hc (by simp [x])) e
  · refine wpAny_pyNext_zip_item_held D hz hT hTI h1 h2 hl1 hl2 ex ey fun h' a1 a3 a4 a5 a6 hk => ?_
    exact hQ h' ⟨hk _ _ D.TIz D.TIi1 D.TIi2 hTI, a3, a4, hl1.at fun o e => hk _ o D.l1z D.l1i1 D.l1i2 e, hl2.at fun o e => hk _ o D.l2z D.l2i1 D.l2i2 e,
        .inr ⟨T, true, oT, a1, hk _ _ r1 r2 r3 hT, r1, r2, r3, r4⟩⟩ a5
      fun c o hc e => hk c o (fun x => hc (by simp [x])) (fun x => hc (by simp [x])) (fun x => hc (by simp [x])) e
theorem zs_end {Q : Option Value → Shared → Prop} (hh : A.handled = none) (D : ZipApart z TI TO i1 i2 l1 l2) (st : ZS z TI TO i1 i2 l1 l2 xs ys d i s.heap) (hend : xs[i]? = none ∨ ys[i]? = none)
    (hQ : ∀ h', (∀ c o, c ∉ [z, TO, i1, i2] → s.heap.get? c = some o → h'.get? c = some o) → Q none { s with heap := h' }) : wpAny (model prog w) A (pyNext (.ref z)) Q E s := by
  obtain ⟨hTI, h1, h2, hl1, hl2, hz⟩ := st
  rcases hz with ⟨hz, a, b, hTO⟩ | ⟨T, f, oT, hz, hT, r1, r2, r3, r4⟩
  · exact wpAny_pyNext_zip_end hh D hz hTI hTO h1 h2 hl1 hl2 hend fun h' hk => hQ h' fun c o hc e => hk c o (fun x => hc (by simp [x])) (fun x => hc (by simp [x])) (fun x => hc (by simp [x])) (fun x => hc (by simp [x])) e
  · exact wpAny_pyNext_zip_end_held hh D hz hT hTI h1 h2 hl1 hl2 hend fun h' hk => hQ h' fun c o hc e => hk c o (fun x => hc (by simp [x])) (fun x => hc (by simp [x])) (fun x => hc (by simp [x])) e
end
/-- the tuples that are laid in turn, and the list at S of them -/
inductive Zl (xv yv : List V) (S : Addr) (H1 : Hp) : Nat → List Addr → Hp → Prop
  | nil : Zl xv yv S H1 0 [] (upd H1 S (.lst []))
  | snoc {i : Nat} {ts : List Addr} {H : Hp} {x y : V} {T : Addr} : Zl xv yv S H1 i ts H → xv[i]? = some x → yv[i]? = some y → H T = none → Zl xv yv S H1 (i + 1) (ts ++ [T]) (upd (upd H T (.tup [x, y])) S (.lst ((ts ++ [T]).map V.ref)))
theorem Zl.at {xv yv : List V} {S : Addr} {H1 H : Hp} {i : Nat} {ts : List Addr} (h : Zl xv yv S H1 i ts H) : H S = some (.lst (ts.map V.ref)) := by
  cases h with
  | nil => exact upd_same
  | snoc => exact upd_same
theorem Zl.len {xv yv : List V} {S : Addr} {H1 H : Hp} {i : Nat} {ts : List Addr} (h : Zl xv yv S H1 i ts H) : ts.length = i := by
  induction h with
  | nil => rfl
  | snoc _ _ _ _ ih => rw [List.length_append, ih]; rfl
section
variable {X : Cx} {pins : List (Addr × Obj)} {σ : L2.St}
theorem fp_upd {H : Hp} {b a : Addr} {o : HO} (f : FpOk X pins H b) (h : b ≠ a) : FpOk X pins (upd H a o) b := ⟨by rw [upd_ne h]; exact f.1, f.2⟩
theorem vals_get' : ∀ {xs : List V} {us : List Value} {i : Nat} {u : Value}, Vals xs us → us[i]? = some u → ∃ x, xs[i]? = some x ∧ RelV x u
  | _, _, _, _, .nil, e => by simp at e
  | _, _, 0, _, .cons h _, e => by
    simp at e
    subst e
    exact ⟨_, rfl, h⟩
  | _, _, i + 1, _, .cons _ r, e => by
    obtain ⟨v, h1, h2⟩ := vals_get' (i := i) r (by simpa using e)
    exact ⟨v, by simpa using h1, h2⟩
theorem zip_drain {A : Around} {R : Result → Shared → Prop} {z TI TO i1 i2 l1 l2 S : Addr} {xs ys : Array Value} {xv yv : List V} {H1 : Hp} {res : Value} (hh : A.handled = none) (D : ZipApart z TI TO i1 i2 l1 l2) (nd : S ∉ [z, TI, TO, i1, i2, l1, l2])
    (rx : Vals xv xs.toList) (ry : Vals yv ys.toList) (hm : min xs.size ys.size ≤ sizeLine)
    (fin : ∀ s' H' ts, Inv X pins σ H' s' → Zl xv yv S H1 (min xs.size ys.size) ts H' → R (.ok (.ret res)) s') :
    ∀ (k i : Nat) (s : Shared) (H : Hp) (acc : Array Value) (c : Nat) (ts : List Addr), min xs.size ys.size - i = k → i ≤ min xs.size ys.size → ZS z TI TO i1 i2 l1 l2 xs ys S i s.heap →
      s.heap.get? S = some { cls := .type "list", dict := none, data := .seq acc c, slots := #[] } → Inv X pins σ H s → (∀ b ∈ [z, TO, i1, i2], FpOk X pins H b ∧ b < s.heap.objs.size) → Zl xv yv S H1 i ts H → acc.toList = ts.map Value.ref →
      codeAny (model X.prog X.w) A (.builtin "list.extend.loop" ⟨[.ref S, .ref z, res], []⟩) R s := by
  have dS : S ∉ [z, TO, i1, i2] := fun h => nd (by simp at h ⊢; rcases h with h | h | h | h <;> simp [h])
  intro k
  induction k with
  | zero =>
    intro i s H acc c ts hk hi st hS I fp zl ha
    have hin : i = min xs.size ys.size := by omega
    refine codeAny_builtin F.entry_extend_loop ?_
    rw [Around.under_plainId F.plain_extend_loop _]
    show wpAny _ A.in1 (pyNext (.ref z) >>= _) _ _ s
    have hend : xs[i]? = none ∨ ys[i]? = none := by
      rw [hin]
      rcases Nat.le_total xs.size ys.size with h | h
      · exact .inl (Array.getElem?_eq_none (by rw [Nat.min_eq_left h]; exact Nat.le_refl _))
      · exact .inr (Array.getElem?_eq_none (by rw [Nat.min_eq_right h]; exact Nat.le_refl _))
    refine wpAny_bind (zs_end (A := A.in1) hh D st hend fun h' hk => ?_)
    refine wpAny_pure (fin _ H ts ?_ (hin ▸ zl))
    exact I.turnedL (t' := s.toks) hk fun b hb => (fp b hb).1
  | succ k ih =>
    intro i s H acc c ts hk hi st hS I fp zl ha
    have hlt : i < min xs.size ys.size := by omega
    have hix : i < xs.size := Nat.lt_of_lt_of_le hlt (Nat.min_le_left ..)
    have hiy : i < ys.size := Nat.lt_of_lt_of_le hlt (Nat.min_le_right ..)
    have ex := Array.getElem?_eq_getElem hix
    have ey := Array.getElem?_eq_getElem hiy
    obtain ⟨x, hx, rx'⟩ := vals_get' rx (by rw [Array.getElem?_toList]; exact ex)
    obtain ⟨y, hy, ry'⟩ := vals_get' ry (by rw [Array.getElem?_toList]; exact ey)
    have hSl : S < s.heap.objs.size := Heap.lt_size hS
    refine codeAny_builtin F.entry_extend_loop ?_
    rw [Around.under_plainId F.plain_extend_loop _]
    show wpAny _ A.in1 (pyNext (.ref z) >>= _) _ _ s
    refine wpAny_bind (zs_item D st ex ey hSl fun h' st' pT hk' => ?_)
    have hS' := hk' S _ dS hS
    have hTn : s.heap.objs.size ≠ S := Nat.ne_of_gt hSl
    have new : ObjOk X.prog X.w (upd H s.heap.objs.size (.tup [x, y])) h' s.heap.objs.size (.tup [x, y]) :=
      ⟨by show 2 ≤ sizeLine; decide, [xs[i], ys[i]], .cons rx' (.cons ry' .nil), ⟨_, pT, rfl, _, rfl⟩⟩
    have I1 : Inv X pins σ (upd H s.heap.objs.size (.tup [x, y])) { s with heap := h' } := I.turnedNew (t' := s.toks) (ch := [z, TO, i1, i2]) hk' (fun b hb => (fp b hb).1) (Nat.le_refl _) new
    have hH : (upd H s.heap.objs.size (.tup [x, y])) S = some (.lst (ts.map V.ref)) := by rw [upd_ne (Ne.symm hTn)]; exact zl.at
    have zl' := Zl.snoc zl hx hy (I.hok.fresh (Nat.le_refl _))
    have hlen : ((ts ++ [s.heap.objs.size]).map V.ref).length ≤ sizeLine := by
      have := zl'.len
      rw [List.length_map, this]
      omega
    have hsz : acc.size = i := by
      have e1 : acc.toList.length = ts.length := by rw [ha, List.length_map]
      have e2 := zl.len
      simpa [e2] using e1
    show wpAny _ A.in1 (updateSeq S (·.push (.ref s.heap.objs.size)) >>= _) _ _ _
    refine wpAny_bind ?_
    obtain ⟨c', hup⟩ : ∃ c', (h'.update S (Obj.mapSeq (·.push (Value.ref s.heap.objs.size)))).get? S = some { cls := .type "list", dict := none, data := .seq (acc.push (.ref s.heap.objs.size)) c', slots := #[] } := ⟨_, Heap.get?_update_self (Obj.mapSeq (·.push (Value.ref s.heap.objs.size))) hS' rfl⟩
    refine wpAny_updateSeq (s := { s with heap := h' }) hS' rfl (wpAny_pure ⟨plainId_quiet F.plain_extend_loop _, ih (i + 1) _ _ (acc.push (.ref s.heap.objs.size)) c' (ts ++ [s.heap.objs.size]) (by omega) hlt (st'.frame nd fun b o hb e => ?_) hup ?_ (fun b hb => ?_) zl' ?_⟩)
      (by rw [hsz]; omega) (by show (acc.push _).size ≤ sizeLine + 1; rw [Array.size_push, hsz]; omega)
    · exact (Heap.get?_update_other _ _ (Ne.symm hb)).trans e
    · refine I1.write (x := S) (e := S) (t' := s.toks) (by rw [hH]; exact True.intro) (.inl rfl) (fun b u hb e => (Heap.get?_update_other _ _ (Ne.symm hb)).trans e) ⟨_, hup⟩ ⟨hlen, (acc.push (.ref s.heap.objs.size)).toList, c', ?_, ?_⟩
      · rw [Array.toList_push, ha]
        have : ∀ l : List Addr, Vals (l.map V.ref) (l.map Value.ref) := fun l => by
          induction l with
          | nil => exact .nil
          | cons a l ih => exact .cons rfl ih
        have q := this (ts ++ [s.heap.objs.size])
        rw [List.map_append (f := Value.ref)] at q
        exact q
      · rw [Array.toArray_toList]
        exact hup
    · obtain ⟨f1, f2⟩ := fp b hb
      have nb : b ≠ S := fun e => dS (e ▸ hb)
      refine ⟨fp_upd (fp_upd f1 (Nat.ne_of_lt f2)) nb, ?_⟩
      have : s.heap.objs.size < h'.objs.size := Heap.lt_size pT
      show b < (h'.update _ _).objs.size
      rw [Heap.size_update]
      exact Nat.lt_trans f2 this
    · rw [Array.toList_push, ha, List.map_append]
      rfl
/-- list(zip(xs, ys)) -/
def tListZip (K : PySem.W.Frag) (ta : TA) : TE := fun σ H Q => ta σ H fun vs H1 => ∃ a b xv yv, vs = [.ref a, .ref b] ∧ SqL K H1 a xv ∧ SqL K H1 b yv ∧ ∀ S ts H2, H1 S = none → Zl xv yv S H1 (min xv.length yv.length) ts H2 → Q (.ref S) H2
/-- a zip that nobody has asked yet -/
def Zip0 (X : Cx) (pins : List (Addr × Obj)) (σ : L2.St) (Q : VK) (v : Value) (s : Shared) : Prop := ∃ z TI TO i1 i2 l1 l2 xs ys xv yv H1, v = .ref z ∧ ZipApart z TI TO i1 i2 l1 l2 ∧ (∀ d, ZS z TI TO i1 i2 l1 l2 xs ys d 0 s.heap) ∧ Inv X pins σ H1 s ∧
  (∀ b ∈ [z, TO, i1, i2], FpOk X pins H1 b ∧ b < s.heap.objs.size) ∧ (∀ b ∈ [z, TI, TO, i1, i2, l1, l2], b < s.heap.objs.size) ∧ Vals xv xs.toList ∧ Vals yv ys.toList ∧ xs.size ≤ sizeLine ∧ ∀ S ts H2, H1 S = none → Zl xv yv S H1 (min xv.length yv.length) ts H2 → Q (.ref S) H2
theorem ev_zip {e e2 : Expr} {ta : TA} {p pos : Pos} (hg : Gl X "zip") (hm : X.mg "zip" = none) (ha : PA X [e, e2] ta) (hs : starEach [e, e2] X.env = (false, eval e X.env) :: starEach [e2] X.env) (hpl : (backTo pos (starEach [e2] X.env)).any (·.1) = false)
    {s : Shared} {H : Hp} {Q : VK} (I : Inv X pins σ H s) (h : tListZip X.K ta σ H Q) : wpAny (model X.prog X.w) X.A (eval (.Call (.Name "zip" p) [e, e2] [] pos) X.env) (Zip0 X pins σ Q) X.xe s := by
  refine Call_ (ld_blt I hg hm PyProof.Rows.boot_zip (PyProof.Rows.callWith_type1 (thn (ha.run pos pins s σ H _ I h) fun us s1 ⟨vs, H1, I1, r1, q1⟩ => ?_) hs hpl))
  obtain ⟨a, b, xs, ys, ex, hqx, hqy, q⟩ := q1
  subst ex
  cases r1 with
  | cons r rr =>
    cases rr with
    | cons r' rr =>
      cases rr
      cases r
      cases r'
      obtain ⟨its, rv, p1, z1⟩ := I1.list hqx
      obtain ⟨its2, rv2, p2, _⟩ := I1.list hqy
      have la : a < s1.heap.objs.size := p1.lt
      have lb : b < s1.heap.objs.size := p2.lt
      refine call_zip_2 p1.isList p2.isList fun h' hz hTI hTO h1 h2 hsz hk => ?_
      have I2 : Inv X pins σ H1 { s1 with heap := h' } := I1.kept (t' := s1.toks) hk
      refine ⟨s1.heap.objs.size + 4, s1.heap.objs.size + 2, s1.heap.objs.size + 3, s1.heap.objs.size, s1.heap.objs.size + 1, a, b, its.toArray, its2.toArray, xs, ys, H1, rfl, PySem.W.ktu_apart s1.heap.objs.size a b la lb,
        fun d => ⟨hTI, h1, h2, p1.isList.at fun o e => hk _ o e, p2.isList.at fun o e => hk _ o e, .inl ⟨hz, _, _, hTO⟩⟩, I2, fun c hcm => ⟨?_, ?_⟩, fun c hcm => ?_, by simpa using rv, by simpa using rv2, by rw [List.size_toArray, ← rv.length]; exact z1, q⟩
      · have hle : s1.heap.objs.size ≤ c := by
          have e' : c = s1.heap.objs.size + 4 ∨ c = s1.heap.objs.size + 3 ∨ c = s1.heap.objs.size ∨ c = s1.heap.objs.size + 1 := by simpa using hcm
          rcases e' with z | z | z | z
          · rw [z]; exact Nat.le_add_right _ _
          · rw [z]; exact Nat.le_add_right _ _
          · rw [z]; exact Nat.le_refl _
          · rw [z]; exact Nat.le_add_right _ _
        exact I1.fpOk hle (I1.hok.fresh hle)
      · show c < h'.objs.size
        rw [hsz]
        have e' : c = s1.heap.objs.size + 4 ∨ c = s1.heap.objs.size + 3 ∨ c = s1.heap.objs.size ∨ c = s1.heap.objs.size + 1 := by simpa using hcm
        rcases e' with z | z | z | z
        · rw [z]; exact Nat.lt_succ_self _
        · rw [z]; exact Nat.lt_of_le_of_lt (Nat.add_le_add_left (by decide : 3 ≤ 4) _) (Nat.lt_succ_self _)
        · rw [z]; exact Nat.lt_of_le_of_lt (Nat.add_le_add_left (by decide : 0 ≤ 4) _) (Nat.lt_succ_self _)
        · rw [z]; exact Nat.lt_of_le_of_lt (Nat.add_le_add_left (by decide : 1 ≤ 4) _) (Nat.lt_succ_self _)
      · show c < h'.objs.size
        rw [hsz]
        have e' : c = s1.heap.objs.size + 4 ∨ c = s1.heap.objs.size + 2 ∨ c = s1.heap.objs.size + 3 ∨ c = s1.heap.objs.size ∨ c = s1.heap.objs.size + 1 ∨ c = a ∨ c = b := by simpa using hcm
        rcases e' with z | z | z | z | z | z | z
        · rw [z]; exact Nat.lt_succ_self _
        · rw [z]; exact Nat.lt_of_le_of_lt (Nat.add_le_add_left (by decide : 2 ≤ 4) _) (Nat.lt_succ_self _)
        · rw [z]; exact Nat.lt_of_le_of_lt (Nat.add_le_add_left (by decide : 3 ≤ 4) _) (Nat.lt_succ_self _)
        · rw [z]; exact Nat.lt_of_le_of_lt (Nat.add_le_add_left (by decide : 0 ≤ 4) _) (Nat.lt_succ_self _)
        · rw [z]; exact Nat.lt_of_le_of_lt (Nat.add_le_add_left (by decide : 1 ≤ 4) _) (Nat.lt_succ_self _)
        · rw [z]; exact Nat.lt_of_lt_of_le la (Nat.le_add_right _ _)
        · rw [z]; exact Nat.lt_of_lt_of_le lb (Nat.le_add_right _ _)
theorem call_list_zip {A : Around} {E : Value → Shared → Prop} {s : Shared} {v : Value} {Q : VK} (hh : A.handled = none) (h : Zip0 X pins σ Q v s) : wpAny (model X.prog X.w) A (call (.type "list") [v]) (EP X pins σ Q) E s := by
  obtain ⟨z, TI, TO, i1, i2, l1, l2, xs, ys, xv, yv, H1, rfl, D, st, I, fp, lt, rx, ry, hz, q⟩ := h
  have nS : ∀ b ∈ [z, TI, TO, i1, i2, l1, l2], s.heap.objs.size ≠ b := fun b hb => Nat.ne_of_gt (lt b hb)
  have nd : s.heap.objs.size ∉ [z, TI, TO, i1, i2, l1, l2] := fun h => nS _ h rfl
  have hSz : s.heap.objs.size ≠ z := nS z (.head _)
  refine callType_codes (Q₁ := fun obj s₁ => obj = .ref s.heap.objs.size ∧ s₁ = { s with heap := s.heap.push { cls := .type "list", data := .seq #[] } }) F.called_list (F.typeCall_list_1 _) F.entry_list_init
    (code_list_new _ ⟨rfl, rfl⟩) fun obj s₁ h₁ => ?_
  obtain ⟨rfl, rfl⟩ := h₁
  have hS : (s.heap.push { cls := .type "list", data := .seq #[] }).get? s.heap.objs.size = some { cls := .type "list", data := .seq #[] } := Heap.get?_push_size _ rfl
  refine ⟨⟨_, hS, rfl⟩, F.args_list_init_2 _ _, ?_⟩
  show wpAny _ A.in1.in1 (do let old ← Builtin.List.listItems (.ref s.heap.objs.size); Builtin.List.listUpdate (.ref s.heap.objs.size) (fun _ => #[]); letGo old.toList.reverse; Builtin.List.listExtendWith (.ref s.heap.objs.size) (.ref z) .none) _ _ _
  refine wpAny_bind ?_
  unfold Builtin.List.listItems
  refine wpAny_bind (wpAny_seqItems hS rfl (wpAny_pure ?_))
  show wpAny _ A.in1.in1 (updateSeq s.heap.objs.size (fun _ => #[]) >>= fun _ => letGo (#[] : Array Value).toList.reverse >>= fun _ => Builtin.List.listExtendWith (.ref s.heap.objs.size) (.ref z) .none) _ _ _
  refine wpAny_bind (wpAny_updateSeq hS rfl ?_)
  have hS2 := Heap.get?_update_self (Obj.mapSeq (fun _ => (#[] : Array Value))) hS rfl
  refine wpAny_bind (wpAny_letGo ?_)
  unfold Builtin.List.listExtendWith
  have up : ∀ (h : Heap) (f : Obj → Obj), (∀ b o, s.heap.get? b = some o → h.get? b = some o) → ∀ b o, s.heap.get? b = some o → (h.update s.heap.objs.size f).get? b = some o := fun h f q b o e =>
    (Heap.get?_update_other _ _ (Ne.symm (Nat.ne_of_lt (Heap.lt_size e)))).trans (q b o e)
  have k1 : ∀ b o, s.heap.get? b = some o → (s.heap.push { cls := .type "list", data := .seq #[] }).get? b = some o := fun b o e => Heap.get?_push_of_some _ e
  have k2 := up _ (Obj.mapSeq (fun _ => (#[] : Array Value))) k1
  have zk : ∀ {h : Heap}, (∀ b o, s.heap.get? b = some o → h.get? b = some o) → ZS z TI TO i1 i2 l1 l2 xs ys s.heap.objs.size 0 h := fun {h} k => (st s.heap.objs.size).frame nd fun b o _ e => k b o e
  refine wpAny_bind (wpAny_typeOf (zs_type (s := { s with heap := _ }) (zk k2)) ?_)
  have h1 : Builtin.List.listSameRef (.ref s.heap.objs.size) (.ref z) = false := by simp [Builtin.List.listSameRef, hSz]
  have h2 : (Value.type "zip" == Value.type "list") = false := by decide
  have h3 : (Value.type "zip" == Value.type "tuple") = false := by decide
  simp only [h1, h2, h3, Bool.or_false, Bool.false_eq_true, if_false]
  have hz0 : ∃ f0, IsZip ((s.heap.push { cls := .type "list", data := .seq #[] }).update s.heap.objs.size (Obj.mapSeq (fun _ => (#[] : Array Value)))) z TI TO f0 ∨ ∃ T f, IsZipHeld ((s.heap.push { cls := .type "list", data := .seq #[] }).update s.heap.objs.size (Obj.mapSeq (fun _ => (#[] : Array Value)))) z TI TO T f := by
    rcases (zk k2).zz with ⟨a, _⟩ | ⟨T, f, _, a, _⟩
    · exact ⟨_, .inl a⟩
    · exact ⟨.none, .inr ⟨T, f, a⟩⟩
  have itr : ∀ {Q' : Value → Shared → Prop}, Q' (.ref z) { s with heap := (s.heap.push { cls := .type "list", data := .seq #[] }).update s.heap.objs.size (Obj.mapSeq (fun _ => (#[] : Array Value))) } → wpAny (model X.prog X.w) A.in1.in1 (pyIter (.ref z)) Q' E { s with heap := (s.heap.push { cls := .type "list", data := .seq #[] }).update s.heap.objs.size (Obj.mapSeq (fun _ => (#[] : Array Value))) } := fun {Q'} hq => by
    have hT := zs_type (s := { s with heap := (s.heap.push { cls := .type "list", data := .seq #[] }).update s.heap.objs.size (Obj.mapSeq (fun _ => (#[] : Array Value))) }) (zk k2)
    refine wpAny_pyIter_slot hT F.slot_zip_iter (wpAny_call_entry F.slot_zip_iter hT F.entry_zip_iter ?_ (F.args_zip_iter_1 _))
    show wpAny _ _ (ret (.ref z)) _ _ _
    exact wpAny_pure ⟨_, rfl, "zip", _, hT, F.slot_zip_next.lookup, hq⟩
  refine wpAny_bind (itr ?_)
  refine wpAny_bind (wpAny_holding ?_)
  unfold Builtin.List.listLengthHint
  refine wpAny_bind (wpAny_specialOf (zs_type (s := { s with heap := _ }) (zk k2)) F.zip_no_len ?_)
  show wpAny _ A.in1.in1 (specialOf (Value.ref z) (Str.ofString "__length_hint__") >>= _) _ _ _
  refine wpAny_bind (wpAny_specialOf (zs_type (s := { s with heap := _ }) (zk k2)) F.zip_no_hint ?_)
  refine wpAny_pure ?_
  show wpAny _ A.in1.in1 (rule "list.extend.makes-room" >>= fun _ => Builtin.List.listTouch (.ref s.heap.objs.size) >>= fun _ =>
    again (.builtin "list.extend.loop" ⟨[.ref s.heap.objs.size, .ref z, .none], []⟩)) _ _ _
  refine wpAny_bind (wpAny_rule ?_)
  refine wpAny_bind ?_
  show wpAny _ A.in1.in1 (updateSeq s.heap.objs.size (·.push .none) >>= fun _ => updateSeq s.heap.objs.size (·.pop)) _ _ _
  refine wpAny_bind (wpAny_updateSeq hS2 rfl ?_)
  have hS3 := Heap.get?_update_self (Obj.mapSeq (·.push Value.none)) hS2 rfl
  refine wpAny_updateSeq (hz := by seq_fits) hS3 rfl ?_
  have hS4 := Heap.get?_update_self (Obj.mapSeq (·.pop)) hS3 rfl
  have k4 := up _ (Obj.mapSeq (·.pop)) (up _ (Obj.mapSeq (·.push Value.none)) k2)
  have hn : H1 s.heap.objs.size = none := I.hok.fresh (Nat.le_refl _)
  refine wpAny_pure ⟨plainId_quiet F.plain_extend_loop _, ?_⟩
  have e1 : xv.length = xs.size := by rw [rx.length, Array.length_toList]
  have e2 : yv.length = ys.size := by rw [ry.length, Array.length_toList]
  refine zip_drain (pins := pins) (σ := σ) (A := A.in1) (H1 := H1) hh D nd rx ry (Nat.le_trans (Nat.min_le_left ..) hz) (fun s' H' ts I' zl => ⟨rfl, .ref s.heap.objs.size, H', I', rfl, q _ ts H' hn (by rw [e1, e2]; exact zl)⟩)
    _ 0 _ (upd H1 s.heap.objs.size (.lst [])) _ _ [] rfl (Nat.zero_le _) (zk k4) hS4 (I.laid (t' := s.toks) k4 (Nat.le_refl _) ⟨Nat.zero_le _, [], _, .nil, hS4⟩) (fun b hb => ?_) .nil rfl
  obtain ⟨f1, f2⟩ := fp b hb
  refine ⟨fp_upd f1 (Nat.ne_of_lt f2), ?_⟩
  show b < (Heap.update _ _ _).objs.size
  rw [Heap.size_update, Heap.size_update, Heap.size_update, Heap.size_push]
  exact Nat.lt_succ_of_lt f2
theorem pe_listZip {e e2 : Expr} {ta : TA} {p p2 pos pos2 : Pos} (hc : X.calm = true) (hgl : Gl X "list") (hml : X.mg "list" = none) (hg : Gl X "zip") (hm : X.mg "zip" = none) (ha : PA X [e, e2] ta)
    (hs : starEach [e, e2] X.env = (false, eval e X.env) :: starEach [e2] X.env := by rfl) (hpl : (backTo pos2 (starEach [e2] X.env)).any (·.1) = false := by rfl)
    (na : starEach [.Call (.Name "zip" p2) [e, e2] [] pos2] X.env = (false, eval (.Call (.Name "zip" p2) [e, e2] [] pos2) X.env) :: starEach [] X.env := by rfl) :
    PE X (.Call (.Name "list" p) [.Call (.Name "zip" p2) [e, e2] [] pos2] [] pos) (tListZip X.K ta) := by
  refine ⟨fun pins s σ H Q I h => ?_⟩
  refine Call_ (ld_blt I hgl hml boot_list (PyProof.Rows.callWith_type1 (args_cons (thn (ev_zip hg hm ha hs hpl I h) fun x s1 hx => args_nil ?_) na) na))
  have hA : X.A.handled = none := by
    obtain ⟨_, _, _, _, _, _, _, _, _, _, _, _, _, _, _, I1, _⟩ := hx
    exact I1.ok.hd hc
  exact call_list_zip hA hx
end
end Pd

/-! ClsB -/
set_option Elab.async false
set_option linter.all false
set_option maxRecDepth 100000
set_option maxHeartbeats 4000000
/-! methods that keep a promise -/
namespace Pd
open PySem PySem.Spec PyProof.Rows L2
def clsB : Stmt → List Stmt
  | .ClassDef (body := b) .. => b
  | _ => []
/-- list(x), x a list or a tuple -/
def rListX (K : PySem.W.Frag) : List V → Hp → VK → Prop := fun xs H Q => ∃ p ys, xs = [.ref p] ∧ (SqL K H p ys ∨ SqT K H p ys) ∧ ∀ l, H l = none → Q (.ref l) (upd H l (.lst ys))
abbrev rNegI : V → Hp → VK → Prop := rU fun i => .int (-i)
/-- a method of the class at C -/
def MethS (P : Program) (w : World) (K : PySem.W.Frag) (mg : Str → Option Value) (base : Heap) (CX : CXT) (k : Nat) (C : Addr) (m : Str) (ps : List Str) (dvs : List V) (sp : Sp) : Prop :=
  ∃ f fd ds, Meth K C m f ∧ Binds K fd ps ds ∧ Vals dvs ds ∧ FnOk P w K mg base CX k f fd ps sp
def MakeS (P : Program) (w : World) (K : PySem.W.Frag) (mg : Str → Option Value) (base : Heap) (CX : CXT) (k : Nat) (C : Addr) (ps : List Str) (sp : Sp) : Prop :=
  ∃ f fd, Mk K C f ∧ Binds K fd ps [] ∧ FnOk P w K mg base CX k f fd ps sp
theorem MethS.mono {P : Program} {w : World} {K : PySem.W.Frag} {mg : Str → Option Value} {base : Heap} {CX : CXT} {k j : Nat} {C : Addr} {m : Str} {ps : List Str} {dvs : List V} {sp : Sp} (h : MethS P w K mg base CX k C m ps dvs sp) (hj : k ≤ j) : MethS P w K mg base CX j C m ps dvs sp :=
  let ⟨f, fd, ds, a, b, c, d⟩ := h
  ⟨f, fd, ds, a, b, c, d.mono hj⟩
section
variable {X : Cx} {k : Nat} {C : Addr} {m x : Str} {ps : List Str} {dvs : List V} {sp : Sp} {o e : Expr} {es : List Expr} {ta : TE} {t : TA} {pos apos p : Pos}
theorem pe_bmeth {pl : Sem Bool} (G : MethS X.prog X.w X.K X.mg X.base CX0 k C m ps dvs sp) (c : Cls X.K C) (hr : Room k X.A) (he : PE X o ta) (ha : PA X (e :: es) t)
    (hst : starEach (e :: es) X.env = (false, eval e X.env) :: starEach es X.env := by rfl) (hpl : (backTo pos (starEach es X.env)).any (·.1) = false := by rfl)
    (ht : eval (.Call (.Attribute o m apos) (e :: es) [] pos) X.env = (do
      let ov ← eval o X.env
      standAt apos.atName
      let (f, first) ← holding [ov] (getMethod ov m pl)
      callWith pos f first (backTo pos (starEach (e :: es) X.env)) (backToKw pos (keywordEach [] X.env))) := by rfl) :
    PE X (.Call (.Attribute o m apos) (e :: es) [] pos) (tMeth C m sp dvs E0 ta t) := by
  obtain ⟨f, fd, ds, h1, h2, h3, h4⟩ := G
  exact pe_meth (pl := pl) he c h1 h4 hr h2 h3 pass0 ha hst hpl ht
theorem pe_bmeth0 {pl : Sem Bool} (G : MethS X.prog X.w X.K X.mg X.base CX0 k C m ps dvs sp) (c : Cls X.K C) (hr : Room k X.A) (he : PE X o ta)
    (ht : eval (.Call (.Attribute o m apos) [] [] pos) X.env = (do
      let ov ← eval o X.env
      standAt apos.atName
      let (f, first) ← holding [ov] (getMethod ov m pl)
      callWith pos f first (backTo pos (starEach [] X.env)) (backToKw pos (keywordEach [] X.env))) := by rfl) :
    PE X (.Call (.Attribute o m apos) [] [] pos) (tMeth C m sp dvs E0 ta tNil) := by
  obtain ⟨f, fd, ds, h1, h2, h3, h4⟩ := G
  exact pe_meth0 (pl := pl) he c h1 h4 hr h2 h3 pass0 ht
theorem pe_bmake (G : MakeS X.prog X.w X.K X.mg X.base CX0 k C ps sp) (hr : Room (k + 1) X.A) (hg : Gl X x) (hm : X.mg x = some (.ref C)) (ha : PA X (e :: es) t) (hdb : (x == ("__debug__" : Str)) = false := by decide)
    (he : starEach (e :: es) X.env = (false, eval e X.env) :: starEach es X.env := by rfl) (hpl : (backTo pos (starEach es X.env)).any (·.1) = false := by rfl) : PE X (.Call (.Name x p) (e :: es) [] pos) (tMake C sp [] E0 t) := by
  obtain ⟨f, fd, h1, h2, h4⟩ := G
  exact pe_make h1 h4 hr hg hm h2 .nil pass0 ha hdb he hpl
end
end Pd

/-! SupI -/
set_option Elab.async false
set_option linter.all false
set_option maxRecDepth 100000
set_option maxHeartbeats 4000000
/-! an own exception's __init__ that says super().__init__(x), its built-in base below another own class -/
namespace Pd
open PySem PySem.Spec PyProof.Rows L2 PySem.Calls LamX NdefX

/-- what the written part says of such an __init__ -/
structure SupF (P : Program) (K : PySem.W.Frag) (C fI cc cda : Addr) (x qual : Str) (params : Arguments) (body : List Stmt) (scope : Scope) (fd : FuncData) : Prop where
  T : OexC K C
  fn : ∃ (oc : Value) (od : Option Addr) (osl : Array (Option Value)) (dV kV doc pm ct : Value) (an : Option Addr), fd = PySem.W.fnX x qual params body scope [("__class__", cc)] dV kV doc pm an (.ref cda) ct ∧ K.lookup fI = some ⟨oc, od, .func fd, osl⟩
  cd : PySem.W.codeIn K (.ref cda) qual = true
  code : ∃ (ccl : Value) (cdd : Option Addr) (ccs : Array (Option Value)) (vs : Array Value) (file : Str) (tf : Tok), K.lookup cda = some ⟨ccl, cdd, .fields vs, ccs⟩ ∧ vs[2]? = some (.str file tf) ∧ ((P.main.file : Str) == file) = true
  cell : ∃ (cl : Value) (cld : Option Addr) (csl : Array (Option Value)), K.lookup cc = some ⟨cl, cld, .cell (some (.ref C)), csl⟩
  cls : ∃ cdD, PySem.W.clsIn K C = some cdD
  top : (P.main.scope.names.lookup ("super" : Str)).isSome = false
  sub : PySem.W.mroIn K C (.ref C) = some true
  sup : PySem.W.ks_superIn K C C "__init__" = some (some (.builtin "ValueError.__init__"))
  opq : PySem.W.nsIn K cStatics "thirdparty.any" = some none
  ve : PySem.W.subIn K (.ref C) (.type "ValueError") = some true
  ks : scope.names.lookup ("super" : Str) = some .globalImplicit
  self : scope.names.lookup ("self" : Str) = some .local
  hd : ∃ ar : Arg, (params.posonlyargs ++ params.args).head? = some ar ∧ ar.arg = "self"

theorem one_look {k y : Str} {c c' : Addr} (q : List.lookup y [(k, c)] = some c') : y = k ∧ c' = c := by
  simp only [List.lookup] at q
  split at q
  · rename_i hb
    exact ⟨beq_iff_eq.mp hb, (Option.some.inj q).symm⟩
  · cases q
theorem fn_sup {P : Program} {w : World} {K : PySem.W.Frag} {mg : Str → Option Value} {base : Heap} {k : Nat} {C fI cc cda : Addr} {x qual : Str} {params : Arguments} {rest : List Stmt} {scope : Scope} {fd : FuncData} {N ps : List Str} {sp : Sp} {e : Expr} {p0 p1 p2 p3 p4 : Pos}
    (U : SupF P K C fI cc cda x qual params (.Expr (.Call (.Attribute (.Call (.Name "super" p0) [] [] p1) "__init__" p2) [e] [] p3) p4 :: rest) scope fd) (S : NScope N ps ["__class__"] scope) (hps : ps[0]? = some ("self" : Str)) (hms : mg "super" = none)
    (pl : Addr → Sem Bool)
    (hev : ∀ L : Addr, eval (.Call (.Attribute (.Call (.Name "super" p0) [] [] p1) "__init__" p2) [e] [] p3) (envF ⟨x, qual, params, .Expr (.Call (.Attribute (.Call (.Name "super" p0) [] [] p1) "__init__" p2) [e] [] p3) p4 :: rest, scope, [("__class__", cc)], cda⟩ fI L) = (do
      let ov ← attributeBase (.Call (.Name "super" p0) [] [] p1) "__init__" (envF ⟨x, qual, params, .Expr (.Call (.Attribute (.Call (.Name "super" p0) [] [] p1) "__init__" p2) [e] [] p3) p4 :: rest, scope, [("__class__", cc)], cda⟩ fI L) (eval (.Call (.Name "super" p0) [] [] p1) (envF ⟨x, qual, params, .Expr (.Call (.Attribute (.Call (.Name "super" p0) [] [] p1) "__init__" p2) [e] [] p3) p4 :: rest, scope, [("__class__", cc)], cda⟩ fI L))
      standAt p2.atName
      let (f, first) ← holding [ov] (getMethod ov "__init__" (pl L))
      callWith p3 f first (backTo p3 (starEach [e] (envF ⟨x, qual, params, .Expr (.Call (.Attribute (.Call (.Name "super" p0) [] [] p1) "__init__" p2) [e] [] p3) p4 :: rest, scope, [("__class__", cc)], cda⟩ fI L))) []))
    (hst : ∀ L : Addr, starEach [e] (envF ⟨x, qual, params, .Expr (.Call (.Attribute (.Call (.Name "super" p0) [] [] p1) "__init__" p2) [e] [] p3) p4 :: rest, scope, [("__class__", cc)], cda⟩ fI L) = [(false, eval e (envF ⟨x, qual, params, .Expr (.Call (.Attribute (.Call (.Name "super" p0) [] [] p1) "__init__" p2) [e] [] p3) p4 :: rest, scope, [("__class__", cc)], cda⟩ fI L))])
    (len : ∀ vs H Q E, sp vs H Q E → vs.length = ps.length)
    (hbody : ∀ (A : Around) (outer : List Env) (s : Shared) (H : Hp) (vs : List V) (Q : VK) (E : XK), Room k (A.deeper (envF ⟨x, qual, params, .Expr (.Call (.Attribute (.Call (.Name "super" p0) [] [] p1) "__init__" p2) [e] [] p3) p4 :: rest, scope, [("__class__", cc)], cda⟩ fI s.heap.objs.size)) → sp vs H Q E →
      ∃ (a : Addr) (ws : List V) (te : TE) (t : TS), vs = .ref a :: ws ∧ H a = some (exo a C none) ∧
        PE (ncx CX0 P w K mg base N ⟨x, qual, params, .Expr (.Call (.Attribute (.Call (.Name "super" p0) [] [] p1) "__init__" p2) [e] [] p3) p4 :: rest, scope, [("__class__", cc)], cda⟩ fI A outer s H E) e te ∧
        PSs (ncx CX0 P w K mg base N ⟨x, qual, params, .Expr (.Call (.Attribute (.Call (.Name "super" p0) [] [] p1) "__init__" p2) [e] [] p3) p4 :: rest, scope, [("__class__", cc)], cda⟩ fI A outer s H E) rest t ∧
        te (startF N vs [some (.ref C)]) H (fun v H1 => [v].length ≤ sizeLine ∧ H1 a = some (exo a C none) ∧ t { nx := fun _ H' => Q .non H', rt := Q } (startF N vs [some (.ref C)]) H1)) : FnOk P w K mg base CX0 (k + 1) fI fd ps sp := by
  obtain ⟨T, ⟨oc, od, osl, dV, kV, doc, pm, ct, an, rfl, hf⟩, hcd, ⟨ccl, cdd, ccs, cvs, file, tf, hcode, hvs, hfile⟩, ⟨cl, cld, csl, hcell⟩, ⟨cdD, hD⟩, htop, hsub, hsup, hopq, hve, hks, hself, ⟨ar, hp, har⟩⟩ := U
  refine ⟨len, fun A outer s H args us vs Q E hr e0 hb r hsp => ?_⟩
  have hl := len _ _ _ _ hsp
  have hin : K.In s.heap := e0.mod.kin.keeps fun b o q => (e0.bs b o q).1
  have lim : s.heap.NoLimit := e0.mod.nolimit.keeps fun b o q => (e0.bs b o q).1
  have hkc : scope.names.lookup ("__class__" : Str) = some .free := S.frk _ (by simp)
  let body : List Stmt := .Expr (.Call (.Attribute (.Call (.Name "super" p0) [] [] p1) "__init__" p2) [e] [] p3) p4 :: rest
  let F : NF := ⟨x, qual, params, body, scope, [("__class__", cc)], cda⟩
  have CA : CellsAt F.cl ["__class__"] [some (.ref C)] s.heap H := by
    have hc0 : H cc = none := (e0.bs cc _ (e0.mod.kin _ _ hcell)).2
    have hcc : s.heap.IsCell cc (some (.ref C)) := ⟨_, hin _ _ hcell, rfl⟩
    refine ⟨rfl, fun y c q => ?_, fun y z c q1 q2 => ?_, fun i y q => ?_⟩
    · obtain ⟨_, rfl⟩ := one_look q
      exact ⟨hc0, _, hcc⟩
    · rw [(one_look q1).1, (one_look q2).1]
    · cases i with
      | zero =>
        have : y = "__class__" := by simpa using q.symm
        subst this
        refine ⟨cc, by simp [F, List.lookup], fun v hv => ?_⟩
        have : v = .ref C := by simpa using hv.symm
        subst this
        exact ⟨.ref C, rfl, hcc⟩
      | succ i => simp at q
  refine ks_codeAny_call_defAt (body := body) (binds := ps.zip us) hr.depth (hin _ _ hf) rfl lim (PySem.W.codeRec_of hin hcd) rfl hb S.nocell (fun ⟨n, _⟩ hy => S.par n (List.of_mem_zip hy).1) (fun h₁ hns kp => ?_) S.co S.gen S.kind
  obtain ⟨a, ws, te, t, rfl, ha, he, ht, hq⟩ := hbody A outer s H _ Q E (hr.deeper _) hsp
  have I : L2.Inv (ncx CX0 P w K mg base N F fI A outer s H E) [] (startF N (.ref a :: ws) [some (.ref C)]) H { s with heap := h₁, toks := s.toks + (ps.zip us).length } := inv_startN S hr.hd e0 hl r CA hns kp
  have fin : ∀ {σ' : L2.St} {H' : Hp} {s' : Shared} {v : V} {u : Value}, L2.Inv (ncx CX0 P w K mg base N F fI A outer s H E) [] σ' H' s' → L2.RelV v u → Q v H' → CE outer P w H s Q u s' :=
    fun {σ' H' s' v u} J rv q => ⟨v, H', J.os, J.bare, J.base, J.hok, rv, q⟩
  show _root_.PySem.wpAt (model P w) (A.deeper (envF F fI s.heap.objs.size)) (.func body (envF F fI s.heap.objs.size)) (execs body (envF F fI s.heap.objs.size)) _ _ _
  refine ks_wpAt_mono (Q := fun fl s' => SP (ncx CX0 P w K mg base N F fI A outer s H E) [] { nx := fun _ H' => Q .non H', rt := Q } fl s') (E := (ncx CX0 P w K mg base N F fI A outer s H E).xe) ?main (fun fl s' hs => ?fin) (fun e s' hs => hs)
  case fin =>
    cases fl with
    | ret u =>
      obtain ⟨v, σ', H', J, rv, q⟩ := hs
      exact fin J rv q
    | next =>
      obtain ⟨σ', H', J, q⟩ := hs
      exact fin (v := V.non) (u := Value.none) J rfl q
    | brk =>
      obtain ⟨_, _, _, q⟩ := hs
      exact False.elim q
    | cont =>
      obtain ⟨_, _, _, q⟩ := hs
      exact False.elim q
  refine ks_wpAt_execs_cons (ks_wpAt_Expr_any (ks_wpAt_MethodCall (pl := pl s.heap.objs.size) ?_ (hev _)) I.quiet)
  -- super()
  have X₁ : K.In h₁ := I.kIn
  obtain ⟨oD, hD1, hD2⟩ : ∃ oD, h₁.get? C = some oD ∧ oD.data = .cls cdD := by
    unfold PySem.W.clsIn at hD
    split at hD
    · rename_i c d cd' sl ho
      cases hD
      exact ⟨_, X₁ _ _ ho, rfl⟩
    · cases hD
  obtain ⟨t1, hex⟩ := exo_at I.hok ha
  have hex : h₁.get? a = some (PySem.HandSPX.excO C t1) := hex
  refine ks_wpAt_super_base (env := envF F fI s.heap.objs.size) hks hkc (by decide) rfl (X₁ _ _ hf) rfl hp rfl (X₁ _ _ hcode) rfl hvs hfile htop ?_
  -- the built-in super
  have hn : ("super" : Str) ≠ "__name__" := by decide
  obtain ⟨mb, hb1, hb2⟩ := I.mod.blt
  refine PySem.W.ks_loadName_global S.kind hks (Calls.loadGlobal_builtin (env := envF F fI s.heap.objs.size) (by rw [show (envF F fI s.heap.objs.size).globals = _ from I.ok.glob]; exact I.mod.glob.keeps I.bk) hms (by rw [show (envF F fI s.heap.objs.size).builtins = _ from I.ok.blt]; exact hb1.keeps I.bk) ((hb2 _ hn).trans (by decide +kernel : bootBuiltins "super" = some (.type "super"))) ⟨rfl, ?_⟩)
  have hcc₁ : h₁.IsCell cc (some (.ref C)) := ⟨_, X₁ _ _ hcell, rfl⟩
  refine wpAny_loadName_free S.kind hkc rfl hcc₁ ?_
  have ndP : ps.Nodup := by
    have q : (N.take (ps.length + [("__class__" : Str)].length)).Nodup := S.nd.sublist (List.take_sublist _ _)
    rw [S.pre] at q
    exact (List.nodup_append.mp q).1
  have hself2 : (ps.zip us).reverse.lookup ("self" : Str) = some (.ref a) := by
    cases r with
    | cons ra rr =>
      have ra' : _ = Value.ref a := ra
      subst ra'
      exact zip_look ndP hps (by simp)
  rw [har]
  refine wpAny_loadName_local S.kind hself hns hself2 ?_
  refine ks_wpAny_isType_cls hD1 hD2 ⟨rfl, ?_⟩
  refine ks_wpAny_call_super hD1 hD2 hex rfl (fun c z => nomatch z) (PySem.W.looks_mroIn X₁ hsub) (fun h₂ eso k2 => ?_)
  -- its method
  have J1 := I.kept (t' := s.toks + (ps.zip us).length) k2
  have X₂ : K.In h₂ := J1.kIn
  have hex2 : h₂.get? a = some (PySem.HandSPX.excO C t1) := k2 _ _ hex
  have inst : PySem.W.InstAt h₂ a (PySem.HandSPX.excO C t1) C none := ⟨hex2, rfl, rfl, trivial⟩
  have hI : PySem.W.Looks (model P w) h₂ (isInstance (.ref a) (.type "ValueError")) true := inst.type.andThen (PySem.W.looks_subIn X₂ hve)
  have hsup' : PySem.W.alongIn K "__init__" ((cdD.mro.dropWhile (· != .ref C)).drop 1) = some (some (.builtin "ValueError.__init__")) := by
    unfold PySem.W.ks_superIn at hsup
    rw [hD] at hsup
    exact hsup
  refine PySem.W.kxs_getMethod PySem.W.kxs_ValueError eso (PySem.W.looks_opaque X₂ hopq) (l₀ := cdD.mro) (fun A Q E s k q => wpAny_bind ((PySem.W.looks_clsIn X₂ hD) A _ E s k (wpAny_pure q))) rfl X₂ hsup' hI (PySem.W.ks_ne X₂ inst hD) (by decide) ?_
  -- its arguments
  have k3 : ∀ b o, h₂.get? b = some o → (h₂.push (PySem.W.kxs_mw "ValueError.__init__" a)).get? b = some o := fun b o q => Heap.get?_push_of_some _ q
  have J2 := J1.kept (t' := s.toks + (ps.zip us).length + 1) k3
  have hu3 : (h₂.push (PySem.W.kxs_mw "ValueError.__init__" a)).get? h₂.objs.size = some (PySem.W.kxs_mw "ValueError.__init__" a) := Heap.get?_push_at rfl rfl
  have J3 : L2.Inv (ncx CX0 P w K mg base N F fI A outer s H E) [(h₂.objs.size, PySem.W.kxs_mw "ValueError.__init__" a)] (startF N (.ref a :: ws) [some (.ref C)]) H { s with heap := h₂.push (PySem.W.kxs_mw "ValueError.__init__" a), toks := s.toks + (ps.zip us).length + 1 } :=
    J2.pins_of fun p hp => by
      rw [List.mem_singleton.mp hp]
      exact ⟨hu3, J1.hok.fresh (Nat.le_refl _), Nat.ne_of_gt J1.lt, J1.nofs (Nat.le_refl _), fun v z => nomatch z⟩
  have hpa : PA (ncx CX0 P w K mg base N F fI A outer s H E) [e] (tCons te tNil) := pa_cons he pa_nil (hst _)
  show wpAny (model P w) (A.deeper (envF F fI s.heap.objs.size)) (callWith p3 (.ref h₂.objs.size) [] (backTo p3 (starEach [e] (envF F fI s.heap.objs.size))) []) _ _ _
  have hrun := hpa.run p3 _ _ _ H (fun us2 H1 => us2.length ≤ sizeLine ∧ H1 a = some (exo a C none) ∧ t { nx := fun _ H' => Q .non H', rt := Q } (startF N (.ref a :: ws) [some (.ref C)]) H1) J3 hq
  have hst' := hst s.heap.objs.size
  refine PySem.W.kxs_callWith (i := "ValueError.__init__") (x := a) (by rw [show starEach [e] (envF F fI s.heap.objs.size) = _ from hst']; rfl) ?_
  have hrun2 : wpAny (model P w) (A.deeper (envF F fI s.heap.objs.size)) (spliced (backTo p3 (starEach [e] (envF F fI s.heap.objs.size)))) _ _ _ := hrun
  rw [show starEach [e] (envF F fI s.heap.objs.size) = _ from hst'] at hrun2 ⊢
  refine evalArgs_plain (wpAny_mono hrun2 (fun us2 s2 ⟨vs2, H1, I4, r4, hz, ea, q⟩ => ⟨(I4.pin (h₂.objs.size, PySem.W.kxs_mw "ValueError.__init__" a) (List.mem_append_right _ (List.mem_singleton_self _))).1, ?_⟩) (fun _ _ z => z))
  have hz2 : us2.length ≤ sizeLine := by
    rw [← r4.length]
    exact hz
  have hu4 := (I4.pin (h₂.objs.size, PySem.W.kxs_mw "ValueError.__init__" a) (List.mem_append_right _ (List.mem_singleton_self _))).1
  obtain ⟨nm, qn, N', bs, bm, sn, sub, ab, col, dd, c0, c1, c2, c3, c5, hC, hbm⟩ := T.cls
  obtain ⟨t2, ho⟩ := exo_at I4.hok ea
  have hC4 := I4.kIn _ _ hC
  obtain ⟨hp, g, d, tk, os⟩ := s2
  refine wpAny_call (codeAny_of_tree ?_)
  show wpAny _ _ (callAny (.ref h₂.objs.size) ⟨us2, []⟩) _ _ _
  simp only [callAny]
  refine wpAny_bind (wpAny_load hu4 ?_)
  simp only [PySem.W.kxs_mw, show (Value.type "method-wrapper" == Value.type "method" || Value.type "method-wrapper" == Value.type "builtin_function_or_method" || Value.type "method-wrapper" == Value.type "method-wrapper") = true by decide, if_true]
  refine PySem.W.KFB.if_so (by decide) ?_
  refine wpAny_bind (PySem.W.check_bound_init PySem.F.excBase_ValueError.toExcCallFacts hC4 ho rfl ?_)
  refine wpAny_bind (wpAny_pure (wpAny_pure ?_))
  refine ⟨plainId_quiet PySem.F.excBase_ValueError.init.plain _, codeAny_builtin PySem.F.excBase_ValueError.initEntry ?_⟩
  have ho' : hp.get? a = some (PySem.W.excRec (.ref C) t2 none .none .none (.bool false)) := ho
  have e1 : (#[Value.builtin "ValueError.__init__", Value.ref a] : Array Value)[1] = Value.ref a := rfl
  rw [e1]
  refine PySem.W.exc_init_tree (e := a) (rest := us2) (cls := .ref C) (t0 := t2) (dv := none) (c2 := .none) (c3 := .none) (b4 := .bool false) ho' hz2 (fun h' k hx ht2 => ?_)
  have J := I4.write (t' := tk) (x := a) (e := a) (o := exo a C none) (by rw [ea]; exact True.intro) (.inl rfl) k ⟨_, hx⟩ (exo_ok hx)
  have eu : upd H1 a (exo a C none) = H1 := by
    funext b
    by_cases hb : b = a
    · rw [hb, upd_same, ea]
    · rw [upd_ne hb]
  rw [eu] at J
  exact wpAt_of_wpAny (ht.run [] _ _ H1 _ (J.pins_of (pins' := []) fun p hp => absurd hp (by simp)) q)
end Pd

/-! MthX -/
set_option Elab.async false
set_option linter.all false
set_option maxRecDepth 100000
set_option maxHeartbeats 4000000
/-! methods that may raise; a method called with keywords; raising an own exception with its own __init__ -/
namespace Pd
open PySem PySem.Spec PyProof.Rows L2
section
variable {X : Cx} {k : Nat} {C : Addr} {m x : Str} {ps : List Str} {dvs : List V} {sp : Sp} {o e : Expr} {es : List Expr} {ta : TE} {t : TA} {pos apos p : Pos} {E : XK}
theorem pe_bmethX {pl : Sem Bool} (G : MethS X.prog X.w X.K X.mg X.base (L2.CX X.prog X.w) k C m ps dvs sp) (c : Cls X.K C) (hr : Room k X.A) (hx : Passes (L2.CX X.prog X.w) X E) (he : PE X o ta) (ha : PA X (e :: es) t)
    (hst : starEach (e :: es) X.env = (false, eval e X.env) :: starEach es X.env := by rfl) (hpl : (backTo pos (starEach es X.env)).any (·.1) = false := by rfl)
    (ht : eval (.Call (.Attribute o m apos) (e :: es) [] pos) X.env = (do
      let ov ← eval o X.env
      standAt apos.atName
      let (f, first) ← holding [ov] (getMethod ov m pl)
      callWith pos f first (backTo pos (starEach (e :: es) X.env)) (backToKw pos (keywordEach [] X.env))) := by rfl) :
    PE X (.Call (.Attribute o m apos) (e :: es) [] pos) (tMeth C m sp dvs E ta t) := by
  obtain ⟨f, fd, ds, h1, h2, h3, h4⟩ := G
  exact pe_meth (pl := pl) he c h1 h4 hr h2 h3 hx ha hst hpl ht
end
/-- a method that may raise, its exceptions wished for at the caller's slots -/
def tMethS (C : Addr) (m : Str) (sp : Sp) (dvs : List V) (E : L2.St → XK) (ta : TE) (t : TA) : TE := fun σ H Q => ta σ H fun x H1 => ∃ a dx fs, x = .ref a ∧ H1 a = some (.ins C dx fs) ∧ fs.lookup m = none ∧
  t σ H1 fun vs H2 => sp (x :: (vs ++ dvs)) H2 Q (E σ)
section
variable {X : Cx} {k : Nat} {C : Addr} {m x : Str} {ps : List Str} {dvs : List V} {sp : Sp} {o e : Expr} {es : List Expr} {ta : TE} {t : TA} {pos apos p : Pos} {E : L2.St → XK}
theorem pe_bmethS {pl : Sem Bool} (G : MethS X.prog X.w X.K X.mg X.base (L2.CX X.prog X.w) k C m ps dvs sp) (c : Cls X.K C) (hr : Room k X.A) (hx : ∀ σ, PassesAt (L2.CX X.prog X.w) X σ (E σ)) (he : PE X o ta) (ha : PA X (e :: es) t)
    (hst : starEach (e :: es) X.env = (false, eval e X.env) :: starEach es X.env := by rfl) (hpl : (backTo pos (starEach es X.env)).any (·.1) = false := by rfl)
    (ht : eval (.Call (.Attribute o m apos) (e :: es) [] pos) X.env = (do
      let ov ← eval o X.env
      standAt apos.atName
      let (f, first) ← holding [ov] (getMethod ov m pl)
      callWith pos f first (backTo pos (starEach (e :: es) X.env)) (backToKw pos (keywordEach [] X.env))) := by rfl) :
    PE X (.Call (.Attribute o m apos) (e :: es) [] pos) (tMethS C m sp dvs E ta t) := by
  obtain ⟨f, fd, ds, h1, h2, h3, h4⟩ := G
  refine ⟨fun pins s σ H Q I h => ?_⟩
  refine PySem.W.methodCall_KW (pl := pl) (thn (he.run pins s σ H _ I h) fun u s1 ⟨x, H1, I1, rx, a, dx, fs, ex, ea, l, q⟩ => ?_) ht
  subst ex
  obtain rfl : u = Value.ref a := rx
  refine getmeth_ok I1 ea c h1 l ?_
  refine PySem.W.callWith_K (first := [.ref a]) (h₀ := X.base) I.ok.mod.kin h1.kp (thn (ha.run pos pins s1 σ H1 _ I1 q) fun us s2 ⟨vs, H2, I2, r, q2⟩ => ⟨I2.kIn, ?_⟩) hst hpl
  exact run_fnSD (us := .ref a :: us) (vs := .ref a :: vs) h4 hr h2 h3 (hx σ) I2 (.cons rfl r) q2
end
/-- a method called with keywords -/
structure MethK (P : Program) (w : World) (K : PySem.W.Frag) (mg : Str → Option Value) (base : Heap) (CX : CXT) (k : Nat) (C : Addr) (m : Str) (ps : List Str) (n : Nat) (ks : List Str) (gV : List V → List V → List V) (sp : Sp) : Prop where
  ex : ∃ f fd g, Meth K C m f ∧ KBn K fd ps n ks g gV ∧ FnOk P w K mg base CX k f fd ps sp
def tMethN (C : Addr) (m : Str) (n l : Nat) (sp : Sp) (gV : List V → List V → List V) (E : XK) (ta : TE) (t tk : TA) : TE := fun σ H Q => ta σ H fun x H1 => ∃ a dx fs, x = .ref a ∧ H1 a = some (.ins C dx fs) ∧ fs.lookup m = none ∧
  t σ H1 fun vs H2 => tk σ H2 fun zs H3 => vs.length + 1 = n ∧ zs.length = l ∧ sp (gV (x :: vs) zs) H3 Q E
section
variable {X : Cx} {CX : CXT} {k n : Nat} {C : Addr} {m : Str} {ps ks : List Str} {gV : List V → List V → List V} {sp : Sp} {o e : Expr} {es : List Expr} {kws : List Keyword} {ta : TE} {t tk : TA} {pos apos : Pos} {E : XK}
theorem pe_bmethN {pl : Sem Bool} (G : MethK X.prog X.w X.K X.mg X.base CX k C m ps n ks gV sp) (c : Cls X.K C) (hr : Room k X.A) (hx : Passes CX X E) (he : PE X o ta) (ha : PA X (e :: es) t) (hkw : PK X kws tk)
    (hall : (backToKw pos (keywordEach kws X.env)).all (·.1.isSome) = true := by rfl) (hks : (backToKw pos (keywordEach kws X.env)).filterMap (·.1) = ks := by rfl)
    (hst : starEach (e :: es) X.env = (false, eval e X.env) :: starEach es X.env := by rfl)
    (hpl : ((backTo pos (starEach (e :: es) X.env)).any (·.1) || (backToKw pos (keywordEach kws X.env)).any (·.1.isNone)) = false := by rfl)
    (ht : eval (.Call (.Attribute o m apos) (e :: es) kws pos) X.env = (do
      let ov ← eval o X.env
      standAt apos.atName
      let (f, first) ← holding [ov] (getMethod ov m pl)
      callWith pos f first (backTo pos (starEach (e :: es) X.env)) (backToKw pos (keywordEach kws X.env))) := by rfl) :
    PE X (.Call (.Attribute o m apos) (e :: es) kws pos) (tMethN C m n ks.length sp gV E ta t tk) := by
  obtain ⟨f, fd, g, hm, hb, F⟩ := G.ex
  refine ⟨fun pins s σ H Q I h => ?_⟩
  refine PySem.W.methodCall_KW (pl := pl) (thn (he.run pins s σ H _ I h) fun u s1 ⟨x, H1, I1, rx, a, dx, fs, ex, ea, l, q⟩ => ?_) ht
  subst ex
  obtain rfl : u = Value.ref a := rx
  refine getmeth_ok I1 ea c hm l ?_
  refine PySem.W.callWith_KW (first := [.ref a]) (h₀ := X.base) I.ok.mod.kin hm.kp hall (thn (ha.run pos pins s1 σ H1 _ I1 q) fun us s2 ⟨vs, H2, I2, r, q2⟩ => ?_) hpl hst
  refine thn (hkw.run pos pins s2 σ H2 _ I2 q2) fun ws s3 ⟨zs, H3, I3, rz, l1, l2, q3⟩ => ⟨I3.kIn, ?_⟩
  rw [hks]
  exact run_fnN (us := .ref a :: us) (vs := .ref a :: vs) F hr hb hx I3 (.cons rfl r) rz l1 l2 q3
end
/-- an own exception class with its own __init__ -/
structure ExS (P : Program) (w : World) (K : PySem.W.Frag) (mg : Str → Option Value) (base : Heap) (nm : Str) (C : Addr) (ps : List Str) (spI : Sp) : Prop where
  T : OexC K C
  fn : ∃ fI fdI, PySem.W.findIn K (.ref C) "__init__" = some (some (.ref fI)) ∧ PySem.W.typeIn K (.ref fI) = some (.type "function") ∧ FnOk P w K mg base CX0 1 fI fdI ps spI ∧ Binds K fdI ps []
  m : mg nm = some (.ref C)
/-- raise nm(..) -/
def tRaiseX (C : Addr) (spI : Sp) (E : XK) (ta : TA) : TS := fun _ σ H => tMkO C spI [] ta σ H E
theorem ps_raiseX {X : Cx} {k : Nat} {C : Addr} {nm : Str} {psI : List Str} {spI : Sp} {E : XK} {e : Expr} {es : List Expr} {ta : TA} {p pos pos2 : Pos} (B : ExS X.prog X.w X.K X.mg X.base nm C psI spI) (tk : Takes X (fun cls d _ H => E cls d H)) (hr : Room k X.A) (ha : PA X (e :: es) ta)
    (hdb : (nm == ("__debug__" : Str)) = false := by decide) (hk : 2 ≤ k := by decide) (hc : X.calm = true := by rfl) (hg : Gl X nm := by rfl) (he : starEach (e :: es) X.env = (false, eval e X.env) :: starEach es X.env := by rfl) (hpl : (backTo pos (starEach es X.env)).any (·.1) = false := by rfl) :
    PS X (.Raise (some (.Call (.Name nm p) (e :: es) [] pos)) none pos2) (tRaiseX C spI E ta) := by
  obtain ⟨fI, fdI, iC, tI, F, b⟩ := B.fn
  exact ps_raise hc tk (pmk_oex B.T iC tI F (hr.mono hk) b .nil pass0 hg B.m ha hdb he hpl)
end Pd

/-! InitH17 -/
set_option Elab.async false
set_option linter.all false
set_option maxRecDepth 100000
set_option maxHeartbeats 4000000
/-! what the __init__s of BadHall, BadCells and BadText promise -/
namespace Pd
open PySem PySem.Spec PyProof.Rows L2
def initOkC (i : Int) : Bool := decide (i.natAbs.log2 < 1920) && decide ((Str.empty ++ Str.ofString "cell ").length ≤ sizeLine) && decide ((Str.empty ++ Str.ofString "cell " ++ Str.ofString (toString i)).length ≤ sizeLine) && decide ((Str.empty ++ Str.ofString "cell " ++ Str.ofString (toString i) ++ Str.ofString " of the walkers can't be").length ≤ sizeLine)
def initOkR (i : Int) : Bool := decide (i.natAbs.log2 < 1920) && decide ((Str.empty ++ Str.ofString "row ").length ≤ sizeLine) && decide ((Str.empty ++ Str.ofString "row " ++ Str.ofString (toString i)).length ≤ sizeLine) && decide ((Str.empty ++ Str.ofString "row " ++ Str.ofString (toString i) ++ Str.ofString " of the text can't be").length ≤ sizeLine)
def initH0 (i : Int) : Str := Str.empty ++ Str.ofString "part " ++ Str.ofString (toString i) ++ Str.ofString " of the hall, number "
def initOkH (i j : Int) : Bool := decide (i.natAbs.log2 < 1920) && decide (j.natAbs.log2 < 1920) && decide ((Str.empty ++ Str.ofString "part ").length ≤ sizeLine) && decide ((Str.empty ++ Str.ofString "part " ++ Str.ofString (toString i)).length ≤ sizeLine) && decide ((initH0 i).length ≤ sizeLine) && decide ((initH0 i ++ Str.ofString (toString j)).length ≤ sizeLine) && decide ((initH0 i ++ Str.ofString (toString j) ++ Str.ofString ", can't be").length ≤ sizeLine)
theorem initOkC_lt : ∀ n : Nat, n < 8 → initOkC (n : Int) = true := by decide +kernel
theorem initOkR_lt (n : Nat) (h : n < 100000) : initOkR (n : Int) = true := by
  have hl : ((n : Nat) : Int).natAbs.log2 < 1920 := by
    show n.log2 < 1920
    by_cases h0 : n = 0
    · subst h0; decide
    · exact Nat.lt_of_lt_of_le ((Nat.log2_lt h0).mpr (Nat.lt_of_lt_of_le h (by decide : 100000 ≤ 2 ^ 17))) (by decide)
  have e : ∀ a b : Str, (a ++ b).length = a.length + b.length := fun a b => Array.size_append
  have l := PyProof.Rows.int_text_len_1921 hl
  have s1 : (Str.empty ++ Str.ofString "row ").length = 4 := by decide +kernel
  have s2 : (Str.ofString " of the text can't be").length = 21 := by decide +kernel
  have sz : 5000 ≤ sizeLine := by decide
  unfold initOkR
  simp only [Bool.and_eq_true, decide_eq_true_eq]
  refine ⟨⟨⟨hl, ?_⟩, ?_⟩, ?_⟩
  · rw [s1]; omega
  · rw [e, s1]; omega
  · rw [e, e, s1, s2]; omega
theorem initOkH_lt : ∀ n : Nat, n < 4 → ∀ m : Nat, m < 32 → initOkH (n : Int) (m : Int) = true := by decide +kernel
def sp_initC (C : Addr) : Sp := fun vs H Q E => ∃ (a : Addr) (i : Int), vs = [.ref a, .int i] ∧ initOkC i = true ∧ H a = some (exo a C none) ∧ ∀ dx, H dx = none → dx ≠ a → Q .non (upd (upd H dx (exd dx [("number", .int i)])) a (exo a C (some dx)))
def sp_initR (C : Addr) : Sp := fun vs H Q E => ∃ (a : Addr) (i : Int), vs = [.ref a, .int i] ∧ initOkR i = true ∧ H a = some (exo a C none) ∧ ∀ dx, H dx = none → dx ≠ a → Q .non (upd (upd H dx (exd dx [("row", .int i)])) a (exo a C (some dx)))
def sp_initH (C : Addr) : Sp := fun vs H Q E => ∃ (a : Addr) (i j : Int), vs = [.ref a, .int i, .int j] ∧ initOkH i j = true ∧ H a = some (exo a C none) ∧ ∀ dx, H dx = none → dx ≠ a → Q .non (upd (upd (upd H dx (exd dx [("part", .int i)])) a (exo a C (some dx))) dx (exd dx [("number", .int j), ("part", .int i)]))
/-- a raise, once its arguments are known -/
theorem raise_C {C : Addr} {H : Hp} {E : XK} {i : Int} (hi : initOkC i = true) (k : ∀ dx, H dx = none → E (.ref C) (some dx) (upd H dx (.xd [("number", .int i)]))) : ∀ a, H a = none → sp_initC C (.ref a :: ([.int i] ++ [])) (upd H a (exo a C none))
    (fun v H2 => v = .non ∧ ∃ (d : Addr) (fs : List (Str × V)), H2 a = some (exo a C (some d)) ∧ H2 d = some (exd d fs) ∧ H d = none ∧ E (.ref C) (some d) (upd (del H2 a) d (.xd fs))) (fun _ _ _ => False) := fun a ha => by
  refine ⟨a, i, rfl, hi, upd_same, fun dx hdx hne => ⟨rfl, dx, [("number", .int i)], upd_same, ?_, ?_, ?_⟩⟩
  · rw [upd_ne hne, upd_same]
  · rw [upd_ne hne] at hdx
    exact hdx
  · rw [upd_ne hne] at hdx
    have e : upd (del (upd (upd (upd H a (exo a C none)) dx (exd dx [("number", .int i)])) a (exo a C (some dx))) a) dx (.xd [("number", .int i)]) = upd H dx (.xd [("number", .int i)]) := by
      funext b
      by_cases hb : b = dx
      · subst hb
        rw [upd_same, upd_same]
      · rw [upd_ne hb, upd_ne hb]
        unfold del
        by_cases hba : b = a
        · subst hba
          rw [if_pos rfl, ha]
        · rw [if_neg hba, upd_ne hba, upd_ne hb, upd_ne hba]
    rw [e]
    exact k dx hdx
/-- a raise, once its arguments are known -/
theorem raise_R {C : Addr} {H : Hp} {E : XK} {i : Int} (hi : initOkR i = true) (k : ∀ dx, H dx = none → E (.ref C) (some dx) (upd H dx (.xd [("row", .int i)]))) : ∀ a, H a = none → sp_initR C (.ref a :: ([.int i] ++ [])) (upd H a (exo a C none))
    (fun v H2 => v = .non ∧ ∃ (d : Addr) (fs : List (Str × V)), H2 a = some (exo a C (some d)) ∧ H2 d = some (exd d fs) ∧ H d = none ∧ E (.ref C) (some d) (upd (del H2 a) d (.xd fs))) (fun _ _ _ => False) := fun a ha => by
  refine ⟨a, i, rfl, hi, upd_same, fun dx hdx hne => ⟨rfl, dx, [("row", .int i)], upd_same, ?_, ?_, ?_⟩⟩
  · rw [upd_ne hne, upd_same]
  · rw [upd_ne hne] at hdx
    exact hdx
  · rw [upd_ne hne] at hdx
    have e : upd (del (upd (upd (upd H a (exo a C none)) dx (exd dx [("row", .int i)])) a (exo a C (some dx))) a) dx (.xd [("row", .int i)]) = upd H dx (.xd [("row", .int i)]) := by
      funext b
      by_cases hb : b = dx
      · subst hb
        rw [upd_same, upd_same]
      · rw [upd_ne hb, upd_ne hb]
        unfold del
        by_cases hba : b = a
        · subst hba
          rw [if_pos rfl, ha]
        · rw [if_neg hba, upd_ne hba, upd_ne hb, upd_ne hba]
    rw [e]
    exact k dx hdx
theorem raise_H {C : Addr} {H : Hp} {E : XK} {i j : Int} (hi : initOkH i j = true) (k : ∀ dx, H dx = none → E (.ref C) (some dx) (upd H dx (.xd [("number", .int j), ("part", .int i)]))) : ∀ a, H a = none → sp_initH C (.ref a :: ([.int i, .int j] ++ [])) (upd H a (exo a C none))
    (fun v H2 => v = .non ∧ ∃ (d : Addr) (fs : List (Str × V)), H2 a = some (exo a C (some d)) ∧ H2 d = some (exd d fs) ∧ H d = none ∧ E (.ref C) (some d) (upd (del H2 a) d (.xd fs))) (fun _ _ _ => False) := fun a ha => by
  refine ⟨a, i, j, rfl, hi, upd_same, fun dx hdx hne => ⟨rfl, dx, [("number", .int j), ("part", .int i)], ?_, upd_same, ?_, ?_⟩⟩
  · rw [upd_ne (Ne.symm hne), upd_same]
  · rw [upd_ne hne] at hdx
    exact hdx
  · rw [upd_ne hne] at hdx
    have e : upd (del (upd (upd (upd (upd H a (exo a C none)) dx (exd dx [("part", .int i)])) a (exo a C (some dx))) dx (exd dx [("number", .int j), ("part", .int i)])) a) dx (.xd [("number", .int j), ("part", .int i)]) = upd H dx (.xd [("number", .int j), ("part", .int i)]) := by
      funext b
      by_cases hb : b = dx
      · subst hb
        rw [upd_same, upd_same]
      · rw [upd_ne hb, upd_ne hb]
        unfold del
        by_cases hba : b = a
        · subst hba
          rw [if_pos rfl, ha]
        · rw [if_neg hba, upd_ne hb, upd_ne hba, upd_ne hb, upd_ne hba]
    rw [e]
    exact k dx hdx
end Pd

/-! Rul17 -/
set_option Elab.async false
set_option linter.all false
set_option maxRecDepth 100000
set_option maxHeartbeats 4000000
/-! a text once or not at all, the signs of a text, calls among defs that raise -/
namespace Pd
open PySem PySem.Spec PyProof.Rows L2
def rMulS : R2 := fun x y H Q => ∃ (z : Str) (b : Bool), x = .str z ∧ y = .int (if b then 1 else 0) ∧ Q (.str (if b then z else Str.empty)) H
theorem op_mulS {X : Cx} : OpR X (binaryOp .Mult) rMulS := by
  intro pins s σ H x y v u Q I rx ry h
  obtain ⟨z, b, rfl, rfl, q⟩ := h
  obtain ⟨t, rfl⟩ := rx
  obtain ⟨t2, rfl⟩ := ry
  cases b with
  | true =>
    refine SB.mul ⟨by decide, fun _ h => absurd h (by simp), fun _ h => absurd h (by simp)⟩ fun t' k => ⟨.str z, H, I.tok _, ⟨t', ?_⟩, q⟩
    show Value.str (Txt.mul z 1) t' = _
    unfold Txt.mul
    rw [if_neg (by decide), if_pos (by simp)]
  | false =>
    refine SB.mul ⟨by decide, fun h _ => absurd (by decide) h, fun h _ => absurd (by decide) h⟩ fun t' k => ⟨.str Str.empty, H, I.tok _, ⟨t', ?_⟩, q⟩
    show Value.str (Txt.mul z 0) t' = _
    unfold Txt.mul
    rw [if_pos (by decide)]
def rListS : List V → Hp → VK → Prop := fun xs H Q => ∃ z, xs = [.str z] ∧ z.length ≤ sizeLine ∧ ∀ l, H l = none → Q (.ref l) (upd H l (.lst (z.cps.toList.map fun c => V.str ⟨#[c]⟩)))
theorem call_listS {X : Cx} (hc : X.calm = true) : CallR X (.type "list") rListS := by
  intro pins s σ H xs us Q I r h
  obtain ⟨z, rfl, hz, q⟩ := h
  obtain ⟨u, rfl, t, rfl⟩ := vals1 r
  refine call_list_str (I.ok.hd hc) z t (hn := hz) fun h' tk acc' c' kp hS hacc => ?_
  have hl : z.cps.size = z.length := rfl
  have rv : Vals (z.cps.toList.map fun c => V.str ⟨#[c]⟩) acc'.toList := by
    refine vals_of_at (by simp [hacc.1]) fun j x u hx hu => ?_
    obtain ⟨c, t2, h1, h2⟩ := hacc.2 j u (by simpa using hu)
    rw [List.getElem?_map, Array.getElem?_toList, h1] at hx
    cases hx
    exact ⟨t2, h2⟩
  have e : h'.get? s.heap.objs.size = some { cls := .type "list", dict := none, data := .seq acc'.toList.toArray c', slots := #[] } := by simpa using hS
  exact ⟨.ref s.heap.objs.size, _, I.laid (t' := tk) kp (Nat.le_refl _) (show ObjOk X.prog X.w _ h' _ (.lst _) from ⟨by rw [List.length_map, Array.length_toList]; exact hz, acc'.toList, c', rv, e⟩), rfl, q _ (I.hok.fresh (Nat.le_refl _))⟩
/-- a call of a def that may raise, in a def that may raise -/
theorem pe_dcallX {X : Cx} {k : Nat} {x : Str} {ps : List Str} {sp : Sp} {p pos : Pos} {e : Expr} {es : List Expr} {t : TA} {E : XK} (G : DefS X.prog X.w X.K X.mg X.base (L2.CX X.prog X.w) k x ps sp) (hr : Room k X.A) (hx : Passes (L2.CX X.prog X.w) X E) (ha : PA X (e :: es) t) (hg : Gl X x := by rfl)
    (hdb : (x == ("__debug__" : Str)) = false := by decide) (he : starEach (e :: es) X.env = (false, eval e X.env) :: starEach es X.env := by rfl) (hpl : (backTo pos (starEach es X.env)).any (·.1) = false := by rfl) :
    PE X (.Call (.Name x p) (e :: es) [] pos) (tCall sp [] E t) := by
  obtain ⟨f, fd, h1, h2, h3, h4⟩ := G
  exact pe_call h4 hr hg h1 h2 h3 .nil hx ha hdb he hpl
end Pd

/-! RdB17 -/
set_option Elab.async false
set_option linter.all false
set_option maxRecDepth 100000
set_option maxHeartbeats 4000000
namespace Pd
open PySem PySem.Spec PyProof.Rows L2
def rx_check_edges (K : PySem.W.Frag) (CH : Addr) (E : XK) (sp_is_edge : Sp) : TS := (tFor (iEnumX K (tCons (tVar 2) tNil)) (gTup K 2 (gCons (gName 5) (gCons (gName 6) gNil))) (tSeq (tIfS (tOr (tTest (tOp (rEqD K) (tVar 5) (tVar 3))) (tNot (tB (tCallD sp_is_edge (tCons (tVar 0) (tCons (tVar 6) tNil)))))) (tRaiseX CH (sp_initH CH) E (tCons (tVar 1) (tCons (tVar 5) tNil))) tNext) (tIfS (tOr (tTest (tOp (rInX K false) (tVar 6) (tVar 4))) (tTest (tOp (rInX K false) (tVar 6) (tSl (rSlX K) (tVar 2) tNoPart (tPart (tVar 5)))))) (tRaiseX CH (sp_initH CH) E (tCons (tVar 1) (tCons (tVar 5) tNil))) tNext)))
def rx_check_hall (K : PySem.W.Frag) (CH : Addr) (E : XK) (sp_door_edge : Sp) (sp_is_side : Sp) (sx_check_edges : Sp) : TS := (tSeq (tIfS (tOr (tNot (tB (tCB (rIsi K) (tCons (tVar 0) (tCons (tC (.ty "tuple")) tNil))))) (tTest (tOp (rNeD K) (tCB (rLenX K) (tCons (tVar 0) tNil)) (tC (.int 4))))) (tRaiseX CH (sp_initH CH) E (tCons (tC (.int 0)) (tCons (tC (.int 0)) tNil))) tNext) (tSeq (tAsg (tVar 0) (gTup K 4 (gCons (gName 1) (gCons (gName 2) (gCons (gName 3) (gCons (gName 4) gNil)))))) (tSeq (tIfS (tNot (tB (tCallD sp_is_side (tCons (tVar 1) tNil)))) (tRaiseX CH (sp_initH CH) E (tCons (tC (.int 0)) (tCons (tC (.int 0)) tNil))) tNext) (tSeq (tIfS (tNot (tB (tCallD sp_is_side (tCons (tVar 2) tNil)))) (tRaiseX CH (sp_initH CH) E (tCons (tC (.int 1)) (tCons (tC (.int 0)) tNil))) tNext) (tSeq (tIfS (tNot (tB (tCB (rIsi K) (tCons (tVar 3) (tCons (tC (.ty "tuple")) tNil))))) (tRaiseX CH (sp_initH CH) E (tCons (tC (.int 2)) (tCons (tC (.int 0)) tNil))) tNext) (tSeq (tDrop (tCall sx_check_edges [] E (tCons (tVar 0) (tCons (tC (.int 2)) (tCons (tVar 3) (tCons (tC (.int 24)) (tCons (tTup tNil) tNil))))))) (tSeq (tIfS (tNot (tB (tCB (rIsi K) (tCons (tVar 4) (tCons (tC (.ty "tuple")) tNil))))) (tRaiseX CH (sp_initH CH) E (tCons (tC (.int 3)) (tCons (tC (.int 0)) tNil))) tNext) (tDrop (tCall sx_check_edges [] E (tCons (tVar 0) (tCons (tC (.int 3)) (tCons (tLc (iTup K (tVar 4)) (gName 5) tYes (tCallD sp_door_edge (tCons (tVar 5) tNil)) [5]) (tCons (tC (.int 6)) (tCons (tVar 3) tNil))))))))))))))
def rx_check_cells (K : PySem.W.Frag) (CC : Addr) (E : XK) (sp_is_cell : Sp) : TS := (tSeq (tIfS (tOr (tNot (tB (tCB (rIsi K) (tCons (tVar 1) (tCons (tC (.ty "tuple")) tNil))))) (tTest (tOp (rEqD K) (tCB (rLenX K) (tCons (tVar 1) tNil)) (tC (.int 0))))) (tRaiseX CC (sp_initC CC) E (tCons (tC (.int 0)) tNil)) tNext) (tFor (iEnumX K (tCons (tVar 1) tNil)) (gTup K 2 (gCons (gName 2) (gCons (gName 3) gNil))) (tIfS (tOr (tTest (tOp (rEqD K) (tVar 2) (tC (.int 3)))) (tOr (tNot (tB (tCallD sp_is_cell (tCons (tVar 0) (tCons (tVar 3) tNil))))) (tTest (tOp (rInX K false) (tVar 3) (tSl (rSlX K) (tVar 1) tNoPart (tPart (tVar 2))))))) (tRaiseX CC (sp_initC CC) E (tCons (tVar 2) tNil)) tNext)))
def rx_check_start (K : PySem.W.Frag) (E : XK) (sx_check_cells : Sp) (sx_check_hall : Sp) : TS := (tSeq (tDrop (tCall sx_check_hall [] E (tCons (tVar 0) tNil))) (tDrop (tCall sx_check_cells [] E (tCons (tVar 0) (tCons (tVar 1) tNil)))))
def rx_may (K : PySem.W.Frag) (E : XK) (sp_first_standing : Sp) (sp_moves_from : Sp) (sx_check_start : Sp) : TS := (tSeq (tDrop (tCall sx_check_start [] E (tCons (tVar 0) (tCons (tVar 1) tNil)))) (tRet (tLc (iList K (tCallD sp_moves_from (tCons (tVar 0) (tCons (tCallD sp_first_standing (tCons (tVar 0) (tCons (tVar 1) tNil))) tNil)))) (gName 2) tYes (tOp (rIx K) (tVar 2) (tC (.int 0))) [2])))
def rx_things_of (K : PySem.W.Frag) (aKINDS : Addr) (CR : Addr) (E : XK) (sp_is_row : Sp) (sp_thing_of : Sp) : TS := (tSeq (tAsg (tDc (iTup K (tC (.ref aKINDS))) (gName 7) tYes (tVar 7) (tLst tNil) [7]) (gName 1)) (tSeq (tAsg (tC (.int 0)) (gName 2)) (tSeq (tFor (iEnumX K (tCons (tM1 rSplit (tVar 0) (tC (.str "\n"))) tNil)) (gTup K 2 (gCons (gName 3) (gCons (gName 4) gNil))) (tSeq (tAsg (tM1 rSplit (tVar 4) (tC (.str " "))) (gName 5)) (tSeq (tIfS (tOr (tNot (tB (tCallD sp_is_row (tCons (tVar 5) tNil)))) (tTest (tOp (rNeD K) (tOp (rEqD K) (tOp (rIx K) (tVar 5) (tC (.int 0))) (tC (.str "hall"))) (tOp (rEqD K) (tVar 3) (tC (.int 0)))))) (tRaiseX CR (sp_initR CR) E (tCons (tVar 3) tNil)) tNext) (tSeq (tAsg (tBM K "tuple" (rTupIx K) (tC (.ref aKINDS)) (tCons (tOp (rIx K) (tVar 5) (tC (.int 0))) tNil)) (gName 6)) (tSeq (tIfS (tTest (tOp rLtI (tVar 6) (tVar 2))) (tRaiseX CR (sp_initR CR) E (tCons (tVar 3) tNil)) tNext) (tSeq (tAsg (tVar 6) (gName 2)) (tDrop (tBM K "list" rAppend (tDGet (tVar 1) (tOp (rIx K) (tVar 5) (tC (.int 0)))) (tCons (tCallD sp_thing_of (tCons (tVar 5) tNil)) tNil))))))))) (tRet (tVar 1)))))
def rx_read (K : PySem.W.Frag) (CR : Addr) (E : XK) (sx_check_start : Sp) (sx_things_of : Sp) : TS := (tSeq (tIfS (tNot (tB (tCB (rIsi K) (tCons (tVar 0) (tCons (tC (.ty "str")) tNil))))) (tRaiseX CR (sp_initR CR) E (tCons (tC (.int 0)) tNil)) tNext) (tSeq (tAsg (tCall sx_things_of [] E (tCons (tVar 0) tNil)) (gName 1)) (tSeq (tAsg (tOp (rIx K) (tDGet (tVar 1) (tC (.str "hall"))) (tC (.int 0))) (gTup K 2 (gCons (gName 2) (gCons (gName 3) gNil)))) (tSeq (tAsg (tTup (tCons (tVar 2) (tCons (tVar 3) (tCons (tCB (rTupX K) (tCons (tDGet (tVar 1) (tC (.str "wall"))) tNil)) (tCons (tCB (rTupX K) (tCons (tDGet (tVar 1) (tC (.str "door"))) tNil)) tNil))))) (gName 4)) (tSeq (tAsg (tCB (rTupX K) (tCons (tDGet (tVar 1) (tC (.str "at"))) tNil)) (gName 5)) (tSeq (tDrop (tCall sx_check_start [] E (tCons (tVar 4) (tCons (tVar 5) tNil)))) (tRet (tTup (tCons (tVar 4) (tCons (tVar 5) tNil))))))))))
end Pd

/-! RdL17 -/
set_option Elab.async false
set_option linter.all false
set_option maxRecDepth 100000
set_option maxHeartbeats 4000000
namespace Pd
open PySem PySem.Spec PyProof.Rows L2
def rd_L_due (K : PySem.W.Frag) : TS := (tSeq (tPar3 1 2 3 (tCons (tM1 rSplit (tVar 0) (tC (.str "\n"))) (tCons (tLst (tCons (tC (.str "hall")) (tCons (tC (.str "wall")) (tCons (tC (.str "door")) (tCons (tC (.str "at")) tNil))))) (tCons (tC (.int 0)) tNil)))) (tSeq (tAsg (tLst (tCons (tLst tNil) (tCons (tLst tNil) (tCons (tLst tNil) (tCons (tLst tNil) tNil))))) (gName 4)) (tSeq (tFor (iRng1 (tCons (tCB (rLenX K) (tCons (tVar 1) tNil)) tNil)) (gName 5) (tSeq (tAsg (tM1 rSplit (tOp (rIx K) (tVar 1) (tVar 5)) (tC (.str " "))) (gName 6)) (tSeq (tIfS (tTest (tOp (rInX K true) (tOp (rIx K) (tVar 6) (tC (.int 0))) (tVar 2))) (tRet (tTup (tCons (tC (.str "text")) (tCons (tVar 5) tNil)))) tNext) (tSeq (tAsg (tBM K "list" (rIndexD K) (tVar 2) (tCons (tOp (rIx K) (tVar 6) (tC (.int 0))) tNil)) (gName 7)) (tSeq (tIfS (tOr (tTest (tOp (rNeD K) (tOp (rEqD K) (tVar 7) (tC (.int 0))) (tOp (rEqD K) (tVar 5) (tC (.int 0))))) (tOr (tTest (tOp rLtI (tVar 7) (tVar 3))) (tTest (tOp (rNeD K) (tCB (rLenX K) (tCons (tVar 6) tNil)) (tOp (rIx K) (tLst (tCons (tC (.int 3)) (tCons (tC (.int 4)) (tCons (tC (.int 4)) (tCons (tC (.int 3)) tNil))))) (tVar 7)))))) (tRet (tTup (tCons (tC (.str "text")) (tCons (tVar 5) tNil)))) tNext) (tSeq (tIfS (tTest (tOp (rNeD K) (tLc (iList K (tSl (rSlX K) (tVar 6) (tPart (tC (.int 1))) (tPart (tC (.int 3))))) (gName 8) (tTest (tOp (rInX K true) (tVar 8) (tCB rListS (tCons (tC (.str "0123456789")) tNil)))) (tVar 8) [8]) (tLst tNil))) (tRet (tTup (tCons (tC (.str "text")) (tCons (tVar 5) tNil)))) tNext) (tSeq (tIfS (tAnd (tTest (tOp (rInX K false) (tVar 7) (tTup (tCons (tC (.int 1)) (tCons (tC (.int 2)) tNil))))) (tTest (tOp (rInX K true) (tOp (rIx K) (tVar 6) (tC (.int 3))) (tOp (rIx K) (tLst (tCons (tLst (tCons (tC (.str "-")) (tCons (tC (.str "|")) tNil))) (tCons (tLst (tCons (tC (.str "e")) (tCons (tC (.str "n")) (tCons (tC (.str "s")) (tCons (tC (.str "w")) tNil))))) tNil))) (tOp rSubI (tVar 7) (tC (.int 1))))))) (tRet (tTup (tCons (tC (.str "text")) (tCons (tVar 5) tNil)))) tNext) (tSeq (tAsg (tVar 7) (gName 3)) (tDrop (tBM K "list" rAppend (tOp (rIx K) (tVar 4) (tVar 7)) (tCons (tOp (rAddX K) (tTup (tCons (tCB rIntS (tCons (tOp (rIx K) (tVar 6) (tC (.int 1))) tNil)) (tCons (tCB rIntS (tCons (tOp (rIx K) (tVar 6) (tC (.int 2))) tNil)) tNil))) (tCB (rTupX K) (tCons (tSl (rSlX K) (tVar 6) (tPart (tC (.int 3))) tNoPart) tNil))) tNil))))))))))) (tRet (tTup (tCons (tOp (rAddX K) (tOp (rIx K) (tOp (rIx K) (tVar 4) (tC (.int 0))) (tC (.int 0))) (tTup (tCons (tCB (rTupX K) (tCons (tOp (rIx K) (tVar 4) (tC (.int 1))) tNil)) (tCons (tCB (rTupX K) (tCons (tOp (rIx K) (tVar 4) (tC (.int 2))) tNil)) tNil)))) (tCons (tCB (rTupX K) (tCons (tOp (rIx K) (tVar 4) (tC (.int 3))) tNil)) tNil)))))))
def rd_L_changed (K : PySem.W.Frag) (sp_L_taken : Sp) : TS := (tSeq (tPar 2 3 (tCons (tCallD sp_L_taken (tCons (tVar 0) (tCons (tOp (rAddX K) (tCB (rLenX K) (tCons (tVar 1) tNil)) (tC (.int 1))) tNil))) (tCons (tCallD sp_L_taken (tCons (tVar 0) (tCons (tC (.int 6)) tNil))) tNil))) (tSeq (tIfS (tTest (tOp rLtI (tVar 3) (tC (.int 3)))) (tSeq (tAsg (tOp rMulS (tOp (rIx K) (tC (.str " 059-|ensw\nhx")) (tCallD sp_L_taken (tCons (tVar 0) (tCons (tC (.int 13)) tNil)))) (tCB rIntX (tCons (tOp rLtI (tVar 3) (tC (.int 2))) tNil))) (gName 4)) (tRet (tOp (rAddX K) (tOp (rAddX K) (tSl (rSlX K) (tVar 1) tNoPart (tPart (tVar 2))) (tVar 4)) (tSl (rSlX K) (tVar 1) (tPart (tOp (rAddX K) (tVar 2) (tCB rIntX (tCons (tOp rGtI (tVar 3) (tC (.int 0))) tNil)))) tNoPart)))) tNext) (tSeq (tAsg (tM1 rSplit (tVar 1) (tC (.str "\n"))) (gName 5)) (tSeq (tAsg (tCallD sp_L_taken (tCons (tVar 0) (tCons (tCB (rLenX K) (tCons (tVar 5) tNil)) tNil))) (gName 6)) (tSeq (tIfS (tTest (tOp (rEqD K) (tVar 3) (tC (.int 5)))) (tSeq (tAsg (tLst (tCons (tC (.str "")) (tCons (tC (.str "hall 2 2")) (tCons (tC (.str "wall 1 0 -")) (tCons (tC (.str "door 1 1 n")) (tCons (tC (.str "at 0 0")) (tCons (tC (.str "at 0 0 ")) (tCons (tC (.str "wall 1 0")) tNil)))))))) (gName 7)) (tSeq (tAsg (tOp (rAddX K) (tVar 7) (tLst (tCons (tC (.str "door 1 1 -")) (tCons (tC (.str "at 10 0")) (tCons (tC (.str "wall 1 0 n")) tNil))))) (gName 7)) (tRet (tM1 (rJoin K) (tC (.str "\n")) (tOp (rAddX K) (tOp (rAddX K) (tSl (rSlX K) (tVar 5) tNoPart (tPart (tVar 6))) (tLst (tCons (tOp (rIx K) (tVar 7) (tCallD sp_L_taken (tCons (tVar 0) (tCons (tC (.int 10)) tNil)))) tNil))) (tSl (rSlX K) (tVar 5) (tPart (tVar 6)) tNoPart)))))) tNext) (tRet (tM1 (rJoin K) (tC (.str "\n")) (tOp (rAddX K) (tOp (rAddX K) (tSl (rSlX K) (tVar 5) tNoPart (tPart (tVar 6))) (tOp rMulX (tSl (rSlX K) (tVar 5) (tPart (tVar 6)) (tPart (tOp (rAddX K) (tVar 6) (tC (.int 1))))) (tOp rMulX (tC (.int 2)) (tCallD sp_L_taken (tCons (tVar 0) (tCons (tC (.int 2)) tNil)))))) (tSl (rSlX K) (tVar 5) (tPart (tOp (rAddX K) (tOp (rAddX K) (tVar 6) (tC (.int 1))) (tOp rModI (tVar 3) (tC (.int 2))))) tNoPart)))))))))
def rd_law17 (K : PySem.W.Frag) (tLW1 tLW2 tLW3 : TE) (sp_L_alike : Sp) (sp_L_cells : Sp) (sp_L_changed : Sp) (sp_L_due : Sp) (sp_L_hall : Sp) (sp_L_taken : Sp) (sp_read : Sp) (sp_written : Sp) : TS := (tSeq (tAsg (tLst (tCons (tVar 0) (tCons (tC (.int 0)) (tCons (tC (.int 0)) (tCons (tC (.int 0)) tNil))))) (gName 1)) (tSeq (tFor (iRng1 (tCons (tC (.int 4)) tNil)) (gName 2) (tSeq (tAsg (tCallD sp_L_hall (tCons (tVar 1) (tCons (tC (.int 5)) (tCons (tC (.int 6)) tNil)))) (gName 3)) (tSeq (tAsg (tCallD sp_written (tCons (tVar 3) (tCons (tCallD sp_L_cells (tCons (tVar 1) (tCons (tVar 3) (tCons (tC (.int 3)) tNil)))) tNil))) (gName 4)) (tSeq (tFor (iRng1 (tCons (tCallD sp_L_taken (tCons (tVar 1) (tCons (tC (.int 4)) tNil))) tNil)) (gName 5) (tAsg (tCallD sp_L_changed (tCons (tVar 1) (tCons (tVar 4) tNil))) (gName 4))) (tFor (iList K (tLst (tCons (tVar 4) (tCons (tOp (rIx K) (tLst (tCons (tC (.str "")) (tCons (tC (.str "hall")) (tCons (tC (.str "hall 1 1")) (tCons (tC (.str "hall 2 2\nat 0 0\nwall 1 0 -")) tNil))))) (tCallD sp_L_taken (tCons (tVar 1) (tCons (tC (.int 4)) tNil)))) tNil)))) (gName 8) (tSeq (tAsg (tCallD sp_L_due (tCons (tVar 8) tNil)) (gName 7)) (tIfS (tTest (tOp (rEqD K) (tOp (rIx K) (tVar 7) (tC (.int 0))) (tC (.str "text")))) (tIfS (tTest (tOp (rNeD K) tLW1 (tVar 7))) (tRet (tC (.bl false))) tNext) (tSeq (tAsg tLW3 (gName 6)) (tSeq (tIfS (tTest (tOp (rNeD K) tLW2 (tVar 6))) (tRet (tC (.bl false))) tNext) (tIfS (tAnd (tTest (tOp rIsN (tVar 6) (tC .non))) (tNot (tB (tCallD sp_L_alike (tCons (tCallD sp_read (tCons (tVar 8) tNil)) (tCons (tVar 7) tNil)))))) (tRet (tC (.bl false))) tNext)))))))))) (tRet (tC (.bl true)))))
end Pd

/-! Lam17 -/
set_option Elab.async false
set_option linter.all false
namespace Pd
open PySem PySem.Spec PyProof.Rows L2
def lamArgs : Arguments := { posonlyargs := [], args := [], vararg := none, kwonlyargs := [], kw_defaults := [], kwarg := none, defaults := [] }
def lam1B : Expr := (PySem.Expr.Call (func := (PySem.Expr.Name "read" ⟨360, 37, 360, 41⟩)) (args := [(PySem.Expr.Name "_law_one" ⟨360, 42, 360, 50⟩)]) (keywords := []) (pos := ⟨360, 37, 360, 51⟩))
def lam2B : Expr := (PySem.Expr.Call (func := (PySem.Expr.Name "read" ⟨364, 37, 364, 41⟩)) (args := [(PySem.Expr.Name "_law_one" ⟨364, 42, 364, 50⟩)]) (keywords := []) (pos := ⟨364, 37, 364, 51⟩))
def lam3B : Expr := (PySem.Expr.Call (func := (PySem.Expr.Name "may" ⟨363, 51, 363, 54⟩)) (args := [ (PySem.Expr.Subscript (value := (PySem.Expr.Name "_law_due_here" ⟨363, 55, 363, 68⟩)) (slice := (PySem.Expr.Constant (PySem.Const.int 0) 0 ⟨363, 69, 363, 70⟩)) (pos := ⟨363, 55, 363, 71⟩)), (PySem.Expr.Subscript (value := (PySem.Expr.Name "_law_due_here" ⟨363, 73, 363, 86⟩)) (slice := (PySem.Expr.Constant (PySem.Const.int 1) 0 ⟨363, 87, 363, 88⟩)) (pos := ⟨363, 73, 363, 89⟩))]) (keywords := []) (pos := ⟨363, 51, 363, 90⟩))
def lamScope1 : Scope := { kind := ScopeKind.function, names := [(PySem.Str.ofString "_law_one", NameKind.free), (PySem.Str.ofString "read", NameKind.globalImplicit)], isGenerator := false, isCoroutine := false, more := [] }
def lamScope2 : Scope := { kind := ScopeKind.function, names := [(PySem.Str.ofString "_law_due_here", NameKind.free), (PySem.Str.ofString "may", NameKind.globalImplicit)], isGenerator := false, isCoroutine := false, more := [] }
end Pd

/-! DcS -/
set_option Elab.async false
set_option linter.all false
set_option maxRecDepth 100000
set_option maxHeartbeats 4000000
/-! name = {..for..} on one line, the name a local -/
namespace Pd
open PySem PySem.Spec PyProof.Rows L2
theorem swd_true {kx vx : Expr} {gs : List Comprehension} {scope : Scope} {pos py : Pos} {y : Str} {l : Nat} {env : Env} (hk : env.scope.kind = .function) (hy : env.scope.names.lookup y = some .local) (hl : (py.line == pos.line) = true)
    (ha : (scope.names.any fun (n, k) => n == y && (k == .local || k == .cell)) = false) : swapsWith (.DictComp kx vx gs scope pos) (some (.Name y py)) l env = pure true := by
  have ky : env.kindOf y = some .local := hy
  have hb : env.blockKind = .function := by unfold Env.blockKind; rw [hk]; rfl
  unfold swapsWith
  simp only [hb, ky, ha, Expr.pos, hl]
  rfl
theorem ps_setDc {X : Cx} {i : Nat} {y : Str} {py : Pos} {kx vx tg iter : Expr} {ifs : List Expr} {scope : Scope} {own : List (Str × Nat)} {pos spos : Pos} {wi : TI} {g : TG} {tt : TT} {tk tv : TE} (hc : X.calm = true) (hN : X.N.Nodup) (hy : X.N[i]? = some y) (hyl : X.env.scope.names.lookup y = some .local)
    (hsw : swapsWith (.DictComp kx vx [⟨tg, iter, ifs, 0⟩] scope pos) (some (.Name y py)) spos.line X.env = pure true) (hi : PI X tg iter wi) (ok : BlkOk X.N X.env.scope scope own)
    (hg : ∀ (s : Shared) (H : Hp) (C : Addr) (cl : List (Str × Addr)) (fp : List Addr), PG (X.blk s H scope (compEnvC scope cl C X.env) fp) tg g) (ht : ∀ (s : Shared) (H : Hp) (C : Addr) (cl : List (Str × Addr)) (fp : List Addr), PTs (X.blk s H scope (compEnvC scope cl C X.env) fp) ifs tt)
    (hk : ∀ (s : Shared) (H : Hp) (C : Addr) (cl : List (Str × Addr)) (fp : List Addr), PE (X.blk s H scope (compEnvC scope cl C X.env) fp) kx tk)
    (he : ∀ (s : Shared) (H : Hp) (C : Addr) (cl : List (Str × Addr)) (fp : List Addr), PE (X.blk s H scope (compEnvC scope cl C X.env) fp) vx tv) (hs : ∀ x, foldedSetIterable iter X.env x = pure x := by intro _; rfl) :
    PS X (.Assign [.Name y py] (.DictComp kx vx [⟨tg, iter, ifs, 0⟩] scope pos) spos) (tAsg (tDc wi g tt tk tv (own.map (·.2))) (gName i)) := by
  refine ⟨fun pins s σ H D I h => ?_⟩
  rw [exec_Assign_Name_used _ _ _ _ hsw]
  refine wpAny_bind (wpAny_standAt (wpAny_bind ?_))
  show wpAny _ X.A (do let _ ← comprehension (.DictComp kx vx [⟨tg, iter, ifs, 0⟩] scope pos) scope X.env (firstIterPos [⟨tg, iter, ifs, 0⟩] pos) newDict false (eval iter X.env) (some (assign (.Name y py) X.env))) _ _ s
  have h : tDc wi g tt tk tv (own.map (·.2)) σ H (fun x H1 => gName i x σ H1 D.nx) := h
  refine wpAny_bind (thn (dc_core (Qf := fun _ s' => SP X pins D .next s') hc hN I hi ok hg ht hk he hs h fun L C s' m H' I' q hn f => ?_) fun _ s' hq => wpAny_pure (wpAny_pure hq))
  show wpAny _ _ (assign (.Name y py) X.env (.ref L)) _ _ _
  refine wpAny_assign_Name (store_ok2 (v := V.ref L) I' hN hy (.inl hyl) rfl (fun s2 I2 ⟨a, sb, ha⟩ => ?_) (.inr hyl))
  obtain ⟨f0, f1, f2, f3, f4, f5⟩ := f
  have haC : C ≠ a := by
    rcases ha with z | z
    · rw [z]; exact f1
    · exact fun e => f4 y a z e.symm
  refine ⟨m, hn.sameBut sb haC, fun h3 sb3 => ?_⟩
  exact ⟨_, H', I2.turned (t' := s2.toks) (fun b o hb e => (sb3.2 b hb).trans e) f0 f1 f3 f4 f5, q⟩
end Pd

/-! B17 -/
set_option Elab.async false
set_option linter.all false
set_option maxRecDepth 100000
set_option maxHeartbeats 4000000
namespace Pd
open PySem PySem.Spec PyProof.Rows L2
def topS (i : Nat) : Stmt := PySem.Challenge.pw_hingehall_k17_texts_refused.main.body.getD i (.Pass ⟨0, 0, 0, 0⟩)
structure Txt (K : PySem.W.Frag) (mg : Str → Option Value) (w : World) (aWAYS aKINDS aSIGNS : Addr) : Prop where
  b_bool : mg "bool" = none
  b_enumerate : mg "enumerate" = none
  b_int : mg "int" = none
  b_isinstance : mg "isinstance" = none
  b_len : mg "len" = none
  b_list : mg "list" = none
  b_max : mg "max" = none
  b_min : mg "min" = none
  b_range : mg "range" = none
  b_sorted : mg "sorted" = none
  b_str : mg "str" = none
  b_tuple : mg "tuple" = none
  b_zip : mg "zip" = none
  c_WAYS : mg "WAYS" = some (.ref aWAYS)
  c_MOST_SIDE : ∃ t, mg "MOST_SIDE" = some (.int 5 t)
  c_MOST_WALLS : ∃ t, mg "MOST_WALLS" = some (.int 24 t)
  c_MOST_DOORS : ∃ t, mg "MOST_DOORS" = some (.int 6 t)
  c_MOST_WALKERS : ∃ t, mg "MOST_WALKERS" = some (.int 3 t)
  c_KINDS : mg "KINDS" = some (.ref aKINDS)
  c_SIGNS : mg "SIGNS" = some (.ref aSIGNS)
  c_FIGURES : ∃ t, mg "FIGURES" = some (.str "0123456789" t)
  s_KINDS : ∀ H : Hp, SqT K H aKINDS [.str "hall", .str "wall", .str "door", .str "at"]
  t_KINDS : ∃ o, K.lookup aKINDS = some o ∧ o.cls = .type "tuple" ∧ o.dict = none
  k_SIGNS : ∃ es n, KDict K w aSIGNS es n
  n_hall : PySem.W.nsIn K aSIGNS "hall" = some none
  n_at : PySem.W.nsIn K aSIGNS "at" = some none
  d_wall : ∃ t, KDct K w aSIGNS "wall" (.ref t) ∧ ∀ H : Hp, SqT K H t [.str "-", .str "|"]
  d_door : ∃ t, KDct K w aSIGNS "door" (.ref t) ∧ ∀ H : Hp, SqT K H t [.str "e", .str "n", .str "s", .str "w"]
  s_WAYS : ∀ H : Hp, SqT K H aWAYS [.str "e", .str "n", .str "s", .str "w"]
abbrev s_is_number : Stmt := topS 20
abbrev n_is_number : List Str := ["value"]
abbrev p_is_number : List Str := ["value"]
theorem sc_is_number : FnScope n_is_number p_is_number (defScope s_is_number) := ⟨rfl, rfl, rfl, by decide +kernel, rfl, by decide +kernel, by decide +kernel⟩
theorem bd_is_number {P : Program} {w : World} {K : PySem.W.Frag} {mg : Str → Option Value} {base : Heap} {f : Addr} {cdv : Value} {A : Around} {outer : List Env} {s : Shared} {H : Hp} {E : XK} {aWAYS aKINDS aSIGNS : Addr} (T : Txt K mg w aWAYS aKINDS aSIGNS) (hr : Room 0 (A.deeper (envOfC "is_number" (defScope s_is_number) s.heap.objs.size f cdv))) :
    PSs (cxOf CX0 P w K mg base n_is_number "is_number" (defScope s_is_number) f cdv A outer s H E).nox (defBody s_is_number) (rd_is_number K) := by
  have nd : n_is_number.Nodup := sc_is_number.nd
  exact (pss_one (ps_ret (pe_and (pe_callB call_isi (by rfl) T.b_isinstance (by decide +kernel) (pa_cons (pv 0) (pa_cons (pe_bltn (v := .ty "int") (by rfl) T.b_int (by decide +kernel) rfl) pa_nil))) (pe_one (pe_not (pe_callB call_isi (by rfl) T.b_isinstance (by decide +kernel) (pa_cons (pv 0) (pa_cons (pe_bltn (v := .ty "bool") (by rfl) T.b_bool (by decide +kernel) rfl) pa_nil))))))))
abbrev s_is_side : Stmt := topS 21
abbrev n_is_side : List Str := ["value"]
abbrev p_is_side : List Str := ["value"]
theorem sc_is_side : FnScope n_is_side p_is_side (defScope s_is_side) := ⟨rfl, rfl, rfl, by decide +kernel, rfl, by decide +kernel, by decide +kernel⟩
theorem bd_is_side {P : Program} {w : World} {K : PySem.W.Frag} {mg : Str → Option Value} {base : Heap} {f : Addr} {cdv : Value} {A : Around} {outer : List Env} {s : Shared} {H : Hp} {E : XK} {aWAYS aKINDS aSIGNS : Addr} {sp_is_number : Sp} (T : Txt K mg w aWAYS aKINDS aSIGNS) (hr : Room 1 (A.deeper (envOfC "is_side" (defScope s_is_side) s.heap.objs.size f cdv))) (G_is_number : DefS P w K mg base CX0 1 "is_number" p_is_number sp_is_number) :
    PSs (cxOf CX0 P w K mg base n_is_side "is_side" (defScope s_is_side) f cdv A outer s H E).nox (defBody s_is_side) (rd_is_side K sp_is_number) := by
  have nd : n_is_side.Nodup := sc_is_side.nd
  exact (pss_one (ps_ret (pe_and (pe_dcall G_is_number (hr.mono (by first | decide | omega)) (pa_cons (pv 0) pa_nil)) (pe_one (pe_chain op_le op_le pe_int (pv 0) (pe_globI (by rfl) T.c_MOST_SIDE))))))
abbrev s_is_cell : Stmt := topS 22
abbrev n_is_cell : List Str := ["hall", "value", "row", "column"]
abbrev p_is_cell : List Str := ["hall", "value"]
theorem sc_is_cell : FnScope n_is_cell p_is_cell (defScope s_is_cell) := ⟨rfl, rfl, rfl, by decide +kernel, rfl, by decide +kernel, by decide +kernel⟩
theorem bd_is_cell {P : Program} {w : World} {K : PySem.W.Frag} {mg : Str → Option Value} {base : Heap} {f : Addr} {cdv : Value} {A : Around} {outer : List Env} {s : Shared} {H : Hp} {E : XK} {aWAYS aKINDS aSIGNS : Addr} {sp_is_number : Sp} (T : Txt K mg w aWAYS aKINDS aSIGNS) (hr : Room 1 (A.deeper (envOfC "is_cell" (defScope s_is_cell) s.heap.objs.size f cdv))) (G_is_number : DefS P w K mg base CX0 1 "is_number" p_is_number sp_is_number) :
    PSs (cxOf CX0 P w K mg base n_is_cell "is_cell" (defScope s_is_cell) f cdv A outer s H E).nox (defBody s_is_cell) (rd_is_cell K sp_is_number) := by
  have nd : n_is_cell.Nodup := sc_is_cell.nd
  exact (pss_cons (ps_if (PW.pt (pw_or (pt_not (pt_val (pe_callB call_isi (by rfl) T.b_isinstance (by decide +kernel) (pa_cons (pv 1) (pa_cons (pe_bltn (v := .ty "tuple") (by rfl) T.b_tuple (by decide +kernel) rfl) pa_nil))))) (pw_or1 (pt_cmpR (op_neD hr.units) (pe_callB call_len (by rfl) T.b_len PySem.boot_len (pa_cons (pv 1) pa_nil)) pe_int (nomark _))))) (pss_one (ps_ret pe_bl)) pss_nil) (pss_cons (ps_asg (pv 1) (pg_tup rfl (pgs_cons (pg_name (i := 2) nd rfl (Or.inl rfl)) (pgs_cons (pg_name (i := 3) nd rfl (Or.inl rfl)) pgs_nil)))) (pss_cons (ps_if (PW.pt (pw_or (pt_not (pt_val (pe_dcall G_is_number (hr.mono (by first | decide | omega)) (pa_cons (pv 2) pa_nil)))) (pw_or1 (pt_not (pt_val (pe_dcall G_is_number (hr.mono (by first | decide | omega)) (pa_cons (pv 3) pa_nil))))))) (pss_one (ps_ret pe_bl)) pss_nil) (pss_one (ps_ret (pe_and (pe_chain op_le op_lt pe_int (pv 2) (pe_ix ix_seq (pv 0) pe_int (fun _ _ => rfl))) (pe_one (pe_chain op_le op_lt pe_int (pv 3) (pe_ix ix_seq (pv 0) pe_int (fun _ _ => rfl))))))))))
abbrev s_is_edge : Stmt := topS 23
abbrev n_is_edge : List Str := ["hall", "value", "row", "column", "sign"]
abbrev p_is_edge : List Str := ["hall", "value"]
theorem sc_is_edge : FnScope n_is_edge p_is_edge (defScope s_is_edge) := ⟨rfl, rfl, rfl, by decide +kernel, rfl, by decide +kernel, by decide +kernel⟩
theorem bd_is_edge {P : Program} {w : World} {K : PySem.W.Frag} {mg : Str → Option Value} {base : Heap} {f : Addr} {cdv : Value} {A : Around} {outer : List Env} {s : Shared} {H : Hp} {E : XK} {aWAYS aKINDS aSIGNS : Addr} {sp_is_cell : Sp} (T : Txt K mg w aWAYS aKINDS aSIGNS) (hr : Room 2 (A.deeper (envOfC "is_edge" (defScope s_is_edge) s.heap.objs.size f cdv))) (G_is_cell : DefS P w K mg base CX0 2 "is_cell" p_is_cell sp_is_cell) :
    PSs (cxOf CX0 P w K mg base n_is_edge "is_edge" (defScope s_is_edge) f cdv A outer s H E).nox (defBody s_is_edge) (rd_is_edge K sp_is_cell) := by
  have nd : n_is_edge.Nodup := sc_is_edge.nd
  exact (pss_cons (ps_if (PW.pt (pw_or (pt_not (pt_val (pe_callB call_isi (by rfl) T.b_isinstance (by decide +kernel) (pa_cons (pv 1) (pa_cons (pe_bltn (v := .ty "tuple") (by rfl) T.b_tuple (by decide +kernel) rfl) pa_nil))))) (pw_or1 (pt_cmpR (op_neD hr.units) (pe_callB call_len (by rfl) T.b_len PySem.boot_len (pa_cons (pv 1) pa_nil)) pe_int (nomark _))))) (pss_one (ps_ret pe_bl)) pss_nil) (pss_cons (ps_asg (pv 1) (pg_tup rfl (pgs_cons (pg_name (i := 2) nd rfl (Or.inl rfl)) (pgs_cons (pg_name (i := 3) nd rfl (Or.inl rfl)) (pgs_cons (pg_name (i := 4) nd rfl (Or.inl rfl)) pgs_nil))))) (pss_cons (ps_if (pt_not (pt_val (pe_dcall G_is_cell (hr.mono (by first | decide | omega)) (pa_cons (pv 0) (pa_cons (pe_tup (pa_cons (pv 2) (pa_cons (pv 3) pa_nil))) pa_nil))))) (pss_one (ps_ret pe_bl)) pss_nil) (pss_cons (ps_if (pt_cmpR (op_eqD hr.units) (pv 4) pe_str (nomark _)) (pss_one (ps_ret (pe_cmpR op_gt (pv 2) pe_int (nomark _)))) pss_nil) (pss_one (ps_ret (pe_and (pe_cmpR (op_eqD hr.units) (pv 4) pe_str (nomark _)) (pe_one (pe_cmpR op_gt (pv 3) pe_int (nomark _))))))))))
abbrev s_edge_from : Stmt := topS 24
abbrev n_edge_from : List Str := ["row", "column", "way"]
abbrev p_edge_from : List Str := ["row", "column", "way"]
theorem sc_edge_from : FnScope n_edge_from p_edge_from (defScope s_edge_from) := ⟨rfl, rfl, rfl, by decide +kernel, rfl, by decide +kernel, by decide +kernel⟩
theorem bd_edge_from {P : Program} {w : World} {K : PySem.W.Frag} {mg : Str → Option Value} {base : Heap} {f : Addr} {cdv : Value} {A : Around} {outer : List Env} {s : Shared} {H : Hp} {E : XK} {aWAYS aKINDS aSIGNS : Addr} (T : Txt K mg w aWAYS aKINDS aSIGNS) (hr : Room 0 (A.deeper (envOfC "edge_from" (defScope s_edge_from) s.heap.objs.size f cdv))) :
    PSs (cxOf CX0 P w K mg base n_edge_from "edge_from" (defScope s_edge_from) f cdv A outer s H E).nox (defBody s_edge_from) (rd_edge_from K) := by
  have nd : n_edge_from.Nodup := sc_edge_from.nd
  exact (pss_cons (ps_if (pt_cmpR (op_eqD hr.units) (pv 2) pe_str (nomark _)) (pss_one (ps_ret (pe_tup (pa_cons (pe_op op_sub (pv 0) pe_int) (pa_cons (pv 1) (pa_cons pe_str pa_nil)))))) pss_nil) (pss_cons (ps_if (pt_cmpR (op_eqD hr.units) (pv 2) pe_str (nomark _)) (pss_one (ps_ret (pe_tup (pa_cons (pv 0) (pa_cons (pv 1) (pa_cons pe_str pa_nil)))))) pss_nil) (pss_cons (ps_if (pt_cmpR (op_eqD hr.units) (pv 2) pe_str (nomark _)) (pss_one (ps_ret (pe_tup (pa_cons (pv 0) (pa_cons (pv 1) (pa_cons pe_str pa_nil)))))) pss_nil) (pss_one (ps_ret (pe_tup (pa_cons (pv 0) (pa_cons (pe_op op_sub (pv 1) pe_int) (pa_cons pe_str pa_nil)))))))))
abbrev s_edge_crossed : Stmt := topS 25
abbrev n_edge_crossed : List Str := ["cell", "way", "row", "column"]
abbrev p_edge_crossed : List Str := ["cell", "way"]
theorem sc_edge_crossed : FnScope n_edge_crossed p_edge_crossed (defScope s_edge_crossed) := ⟨rfl, rfl, rfl, by decide +kernel, rfl, by decide +kernel, by decide +kernel⟩
theorem bd_edge_crossed {P : Program} {w : World} {K : PySem.W.Frag} {mg : Str → Option Value} {base : Heap} {f : Addr} {cdv : Value} {A : Around} {outer : List Env} {s : Shared} {H : Hp} {E : XK} {aWAYS aKINDS aSIGNS : Addr} (T : Txt K mg w aWAYS aKINDS aSIGNS) (hr : Room 0 (A.deeper (envOfC "edge_crossed" (defScope s_edge_crossed) s.heap.objs.size f cdv))) :
    PSs (cxOf CX0 P w K mg base n_edge_crossed "edge_crossed" (defScope s_edge_crossed) f cdv A outer s H E).nox (defBody s_edge_crossed) (rd_edge_crossed K) := by
  have nd : n_edge_crossed.Nodup := sc_edge_crossed.nd
  exact (pss_cons (ps_asg (pv 0) (pg_tup rfl (pgs_cons (pg_name (i := 2) nd rfl (Or.inl rfl)) (pgs_cons (pg_name (i := 3) nd rfl (Or.inl rfl)) pgs_nil)))) (pss_cons (ps_if (pt_cmpR (op_eqD hr.units) (pv 1) pe_str (nomark _)) (pss_one (ps_ret (pe_tup (pa_cons (pv 2) (pa_cons (pv 3) (pa_cons pe_str pa_nil)))))) pss_nil) (pss_cons (ps_if (pt_cmpR (op_eqD hr.units) (pv 1) pe_str (nomark _)) (pss_one (ps_ret (pe_tup (pa_cons (pv 2) (pa_cons (pe_op op_addX (pv 3) pe_int) (pa_cons pe_str pa_nil)))))) pss_nil) (pss_cons (ps_if (pt_cmpR (op_eqD hr.units) (pv 1) pe_str (nomark _)) (pss_one (ps_ret (pe_tup (pa_cons (pe_op op_addX (pv 2) pe_int) (pa_cons (pv 3) (pa_cons pe_str pa_nil)))))) pss_nil) (pss_one (ps_ret (pe_tup (pa_cons (pv 2) (pa_cons (pv 3) (pa_cons pe_str pa_nil))))))))))
abbrev s_next_cell : Stmt := topS 26
abbrev n_next_cell : List Str := ["cell", "way", "row", "column"]
abbrev p_next_cell : List Str := ["cell", "way"]
theorem sc_next_cell : FnScope n_next_cell p_next_cell (defScope s_next_cell) := ⟨rfl, rfl, rfl, by decide +kernel, rfl, by decide +kernel, by decide +kernel⟩
theorem bd_next_cell {P : Program} {w : World} {K : PySem.W.Frag} {mg : Str → Option Value} {base : Heap} {f : Addr} {cdv : Value} {A : Around} {outer : List Env} {s : Shared} {H : Hp} {E : XK} {aWAYS aKINDS aSIGNS : Addr} (T : Txt K mg w aWAYS aKINDS aSIGNS) (hr : Room 0 (A.deeper (envOfC "next_cell" (defScope s_next_cell) s.heap.objs.size f cdv))) :
    PSs (cxOf CX0 P w K mg base n_next_cell "next_cell" (defScope s_next_cell) f cdv A outer s H E).nox (defBody s_next_cell) (rd_next_cell K) := by
  have nd : n_next_cell.Nodup := sc_next_cell.nd
  exact (pss_cons (ps_asg (pv 0) (pg_tup rfl (pgs_cons (pg_name (i := 2) nd rfl (Or.inl rfl)) (pgs_cons (pg_name (i := 3) nd rfl (Or.inl rfl)) pgs_nil)))) (pss_cons (ps_if (pt_cmpR (op_eqD hr.units) (pv 1) pe_str (nomark _)) (pss_one (ps_ret (pe_tup (pa_cons (pe_op op_sub (pv 2) pe_int) (pa_cons (pv 3) pa_nil))))) pss_nil) (pss_cons (ps_if (pt_cmpR (op_eqD hr.units) (pv 1) pe_str (nomark _)) (pss_one (ps_ret (pe_tup (pa_cons (pv 2) (pa_cons (pe_op op_addX (pv 3) pe_int) pa_nil))))) pss_nil) (pss_cons (ps_if (pt_cmpR (op_eqD hr.units) (pv 1) pe_str (nomark _)) (pss_one (ps_ret (pe_tup (pa_cons (pe_op op_addX (pv 2) pe_int) (pa_cons (pv 3) pa_nil))))) pss_nil) (pss_one (ps_ret (pe_tup (pa_cons (pv 2) (pa_cons (pe_op op_sub (pv 3) pe_int) pa_nil)))))))))
abbrev s_door_edge : Stmt := topS 27
abbrev n_door_edge : List Str := ["door", "row", "column", "way"]
abbrev p_door_edge : List Str := ["door"]
theorem sc_door_edge : FnScope n_door_edge p_door_edge (defScope s_door_edge) := ⟨rfl, rfl, rfl, by decide +kernel, rfl, by decide +kernel, by decide +kernel⟩
theorem bd_door_edge {P : Program} {w : World} {K : PySem.W.Frag} {mg : Str → Option Value} {base : Heap} {f : Addr} {cdv : Value} {A : Around} {outer : List Env} {s : Shared} {H : Hp} {E : XK} {aWAYS aKINDS aSIGNS : Addr} {sp_edge_from : Sp} {sp_is_number : Sp} (T : Txt K mg w aWAYS aKINDS aSIGNS) (hr : Room 1 (A.deeper (envOfC "door_edge" (defScope s_door_edge) s.heap.objs.size f cdv))) (G_edge_from : DefS P w K mg base CX0 1 "edge_from" p_edge_from sp_edge_from) (G_is_number : DefS P w K mg base CX0 1 "is_number" p_is_number sp_is_number) :
    PSs (cxOf CX0 P w K mg base n_door_edge "door_edge" (defScope s_door_edge) f cdv A outer s H E).nox (defBody s_door_edge) (rd_door_edge K aWAYS sp_edge_from sp_is_number) := by
  have nd : n_door_edge.Nodup := sc_door_edge.nd
  exact (pss_cons (ps_if (PW.pt (pw_or (pt_not (pt_val (pe_callB call_isi (by rfl) T.b_isinstance (by decide +kernel) (pa_cons (pv 0) (pa_cons (pe_bltn (v := .ty "tuple") (by rfl) T.b_tuple (by decide +kernel) rfl) pa_nil))))) (pw_or1 (pt_cmpR (op_neD hr.units) (pe_callB call_len (by rfl) T.b_len PySem.boot_len (pa_cons (pv 0) pa_nil)) pe_int (nomark _))))) (pss_one (ps_ret pe_non)) pss_nil) (pss_cons (ps_asg (pv 0) (pg_tup rfl (pgs_cons (pg_name (i := 1) nd rfl (Or.inl rfl)) (pgs_cons (pg_name (i := 2) nd rfl (Or.inl rfl)) (pgs_cons (pg_name (i := 3) nd rfl (Or.inl rfl)) pgs_nil))))) (pss_cons (ps_if (PW.pt (pw_or (pt_not (pt_val (pe_dcall G_is_number (hr.mono (by first | decide | omega)) (pa_cons (pv 1) pa_nil)))) (pw_or (pt_not (pt_val (pe_dcall G_is_number (hr.mono (by first | decide | omega)) (pa_cons (pv 2) pa_nil)))) (pw_or1 (pt_cmpR (op_notInX (hu65 hr)) (pv 3) (pe_glob (by rfl) T.c_WAYS rfl) (by rfl)))))) (pss_one (ps_ret pe_non)) pss_nil) (pss_one (ps_ret (pe_dcall G_edge_from (hr.mono (by first | decide | omega)) (pa_cons (pv 1) (pa_cons (pv 2) (pa_cons (pv 3) pa_nil)))))))))
abbrev s_check_edges : Stmt := topS 28
abbrev n_check_edges : List Str := ["hall", "part", "edges", "most", "taken", "number", "edge"]
abbrev p_check_edges : List Str := ["hall", "part", "edges", "most", "taken"]
theorem sc_check_edges : FnScope n_check_edges p_check_edges (defScope s_check_edges) := ⟨rfl, rfl, rfl, by decide +kernel, rfl, by decide +kernel, by decide +kernel⟩
theorem bd_check_edges {P : Program} {w : World} {K : PySem.W.Frag} {mg : Str → Option Value} {base : Heap} {f : Addr} {cdv : Value} {A : Around} {outer : List Env} {s : Shared} {H : Hp} {E : XK} {aWAYS aKINDS aSIGNS : Addr} {sp_is_edge : Sp} (T : Txt K mg w aWAYS aKINDS aSIGNS) (hr : Room 3 (A.deeper (envOfC "check_edges" (defScope s_check_edges) s.heap.objs.size f cdv))) (G_is_edge : DefS P w K mg base CX0 3 "is_edge" p_is_edge sp_is_edge) :
    PSs (cxOf CX0 P w K mg base n_check_edges "check_edges" (defScope s_check_edges) f cdv A outer s H E).nox (defBody s_check_edges) (rd_check_edges K sp_is_edge) := by
  have nd : n_check_edges.Nodup := sc_check_edges.nd
  exact (pss_one (ps_for PassesOwn.never rfl (pi_enumX (by rfl) T.b_enumerate (pa_cons (pv 2) pa_nil)) (pg_tup rfl (pgs_cons (pg_name (i := 5) nd rfl (Or.inl rfl)) (pgs_cons (pg_name (i := 6) nd rfl (Or.inl rfl)) pgs_nil))) (pss_cons (ps_if (PW.pt (pw_or (pt_cmpR (op_eqD hr.units) (pv 5) (pv 3) (nomark _)) (pw_or1 (pt_not (pt_val (pe_dcall G_is_edge (hr.mono (by first | decide | omega)) (pa_cons (pv 0) (pa_cons (pv 6) pa_nil)))))))) (pss_one ps_never) pss_nil) (pss_one (ps_if (PW.pt (pw_or (pt_cmpR (op_inX (hu65 hr)) (pv 6) (pv 4) (by rfl)) (pw_or1 (pt_cmpR (op_inX (hu65 hr)) (pv 6) (pe_slice sl_X (pv 2) po_none (po_some (pv 5))) (by rfl))))) (pss_one ps_never) pss_nil)))))
abbrev s_check_hall : Stmt := topS 29
abbrev n_check_hall : List Str := ["hall", "rows", "columns", "walls", "doors", "door"]
abbrev p_check_hall : List Str := ["hall"]
theorem sc_check_hall : FnScope n_check_hall p_check_hall (defScope s_check_hall) := ⟨rfl, rfl, rfl, by decide +kernel, rfl, by decide +kernel, by decide +kernel⟩
theorem bd_check_hall {P : Program} {w : World} {K : PySem.W.Frag} {mg : Str → Option Value} {base : Heap} {f : Addr} {cdv : Value} {A : Around} {outer : List Env} {s : Shared} {H : Hp} {E : XK} {aWAYS aKINDS aSIGNS : Addr} {sp_check_edges : Sp} {sp_door_edge : Sp} {sp_is_side : Sp} (T : Txt K mg w aWAYS aKINDS aSIGNS) (hr : Room 4 (A.deeper (envOfC "check_hall" (defScope s_check_hall) s.heap.objs.size f cdv))) (G_check_edges : DefS P w K mg base CX0 4 "check_edges" p_check_edges sp_check_edges) (G_door_edge : DefS P w K mg base CX0 2 "door_edge" p_door_edge sp_door_edge) (G_is_side : DefS P w K mg base CX0 2 "is_side" p_is_side sp_is_side) :
    PSs (cxOf CX0 P w K mg base n_check_hall "check_hall" (defScope s_check_hall) f cdv A outer s H E).nox (defBody s_check_hall) (rd_check_hall K sp_check_edges sp_door_edge sp_is_side) := by
  have nd : n_check_hall.Nodup := sc_check_hall.nd
  exact (pss_cons (ps_if (PW.pt (pw_or (pt_not (pt_val (pe_callB call_isi (by rfl) T.b_isinstance (by decide +kernel) (pa_cons (pv 0) (pa_cons (pe_bltn (v := .ty "tuple") (by rfl) T.b_tuple (by decide +kernel) rfl) pa_nil))))) (pw_or1 (pt_cmpR (op_neD hr.units) (pe_callB call_len (by rfl) T.b_len PySem.boot_len (pa_cons (pv 0) pa_nil)) pe_int (nomark _))))) (pss_one ps_never) pss_nil) (pss_cons (ps_asg (pv 0) (pg_tup rfl (pgs_cons (pg_name (i := 1) nd rfl (Or.inl rfl)) (pgs_cons (pg_name (i := 2) nd rfl (Or.inl rfl)) (pgs_cons (pg_name (i := 3) nd rfl (Or.inl rfl)) (pgs_cons (pg_name (i := 4) nd rfl (Or.inl rfl)) pgs_nil)))))) (pss_cons (ps_if (pt_not (pt_val (pe_dcall G_is_side (hr.mono (by first | decide | omega)) (pa_cons (pv 1) pa_nil)))) (pss_one ps_never) pss_nil) (pss_cons (ps_if (pt_not (pt_val (pe_dcall G_is_side (hr.mono (by first | decide | omega)) (pa_cons (pv 2) pa_nil)))) (pss_one ps_never) pss_nil) (pss_cons (ps_if (pt_not (pt_val (pe_callB call_isi (by rfl) T.b_isinstance (by decide +kernel) (pa_cons (pv 3) (pa_cons (pe_bltn (v := .ty "tuple") (by rfl) T.b_tuple (by decide +kernel) rfl) pa_nil))))) (pss_one ps_never) pss_nil) (pss_cons (ps_expr (pe_dcall G_check_edges (hr.mono (by first | decide | omega)) (pa_cons (pv 0) (pa_cons pe_int (pa_cons (pv 3) (pa_cons (pe_globI (by rfl) T.c_MOST_WALLS) (pa_cons (pe_tup pa_nil) pa_nil))))))) (pss_cons (ps_if (pt_not (pt_val (pe_callB call_isi (by rfl) T.b_isinstance (by decide +kernel) (pa_cons (pv 4) (pa_cons (pe_bltn (v := .ty "tuple") (by rfl) T.b_tuple (by decide +kernel) rfl) pa_nil))))) (pss_one ps_never) pss_nil) (pss_one (ps_expr (pe_dcall G_check_edges (hr.mono (by first | decide | omega)) (pa_cons (pv 0) (pa_cons pe_int (pa_cons (pe_lc (own := [("door", 5)]) (g := (gName 5)) (tt := tYes) (te := (tCallD sp_door_edge (tCons (tVar 5) tNil))) rfl nd (pi_tup (pv 4)) (blkOk_by (own := [("door", 5)]) (N := ["hall", "rows", "columns", "walls", "doors", "door"]) (sc := defScope s_check_hall) (by decide +kernel)) (fun _ _ _ _ _ => (pg_name (i := 5) nd rfl (Or.inl rfl))) (fun _ _ _ _ _ => pts_nil) (fun _ _ _ _ _ => (pe_dcall G_door_edge (hr.mono (by first | decide | omega)) (pa_cons (pv 5) pa_nil)))) (pa_cons (pe_globI (by rfl) T.c_MOST_DOORS) (pa_cons (pv 3) pa_nil)))))))))))))))
abbrev s_check_cells : Stmt := topS 30
abbrev n_check_cells : List Str := ["hall", "cells", "number", "cell"]
abbrev p_check_cells : List Str := ["hall", "cells"]
theorem sc_check_cells : FnScope n_check_cells p_check_cells (defScope s_check_cells) := ⟨rfl, rfl, rfl, by decide +kernel, rfl, by decide +kernel, by decide +kernel⟩
theorem bd_check_cells {P : Program} {w : World} {K : PySem.W.Frag} {mg : Str → Option Value} {base : Heap} {f : Addr} {cdv : Value} {A : Around} {outer : List Env} {s : Shared} {H : Hp} {E : XK} {aWAYS aKINDS aSIGNS : Addr} {sp_is_cell : Sp} (T : Txt K mg w aWAYS aKINDS aSIGNS) (hr : Room 2 (A.deeper (envOfC "check_cells" (defScope s_check_cells) s.heap.objs.size f cdv))) (G_is_cell : DefS P w K mg base CX0 2 "is_cell" p_is_cell sp_is_cell) :
    PSs (cxOf CX0 P w K mg base n_check_cells "check_cells" (defScope s_check_cells) f cdv A outer s H E).nox (defBody s_check_cells) (rd_check_cells K sp_is_cell) := by
  have nd : n_check_cells.Nodup := sc_check_cells.nd
  exact (pss_cons (ps_if (PW.pt (pw_or (pt_not (pt_val (pe_callB call_isi (by rfl) T.b_isinstance (by decide +kernel) (pa_cons (pv 1) (pa_cons (pe_bltn (v := .ty "tuple") (by rfl) T.b_tuple (by decide +kernel) rfl) pa_nil))))) (pw_or1 (pt_cmpR (op_eqD hr.units) (pe_callB call_len (by rfl) T.b_len PySem.boot_len (pa_cons (pv 1) pa_nil)) pe_int (nomark _))))) (pss_one ps_never) pss_nil) (pss_one (ps_for PassesOwn.never rfl (pi_enumX (by rfl) T.b_enumerate (pa_cons (pv 1) pa_nil)) (pg_tup rfl (pgs_cons (pg_name (i := 2) nd rfl (Or.inl rfl)) (pgs_cons (pg_name (i := 3) nd rfl (Or.inl rfl)) pgs_nil))) (pss_one (ps_if (PW.pt (pw_or (pt_cmpR (op_eqD hr.units) (pv 2) (pe_globI (by rfl) T.c_MOST_WALKERS) (nomark _)) (pw_or (pt_not (pt_val (pe_dcall G_is_cell (hr.mono (by first | decide | omega)) (pa_cons (pv 0) (pa_cons (pv 3) pa_nil))))) (pw_or1 (pt_cmpR (op_inX (hu65 hr)) (pv 3) (pe_slice sl_X (pv 1) po_none (po_some (pv 2))) (by rfl)))))) (pss_one ps_never) pss_nil)))))
abbrev s_check_start : Stmt := topS 31
abbrev n_check_start : List Str := ["hall", "cells"]
abbrev p_check_start : List Str := ["hall", "cells"]
theorem sc_check_start : FnScope n_check_start p_check_start (defScope s_check_start) := ⟨rfl, rfl, rfl, by decide +kernel, rfl, by decide +kernel, by decide +kernel⟩
theorem bd_check_start {P : Program} {w : World} {K : PySem.W.Frag} {mg : Str → Option Value} {base : Heap} {f : Addr} {cdv : Value} {A : Around} {outer : List Env} {s : Shared} {H : Hp} {E : XK} {aWAYS aKINDS aSIGNS : Addr} {sp_check_cells : Sp} {sp_check_hall : Sp} (T : Txt K mg w aWAYS aKINDS aSIGNS) (hr : Room 5 (A.deeper (envOfC "check_start" (defScope s_check_start) s.heap.objs.size f cdv))) (G_check_cells : DefS P w K mg base CX0 3 "check_cells" p_check_cells sp_check_cells) (G_check_hall : DefS P w K mg base CX0 5 "check_hall" p_check_hall sp_check_hall) :
    PSs (cxOf CX0 P w K mg base n_check_start "check_start" (defScope s_check_start) f cdv A outer s H E).nox (defBody s_check_start) (rd_check_start K sp_check_cells sp_check_hall) := by
  have nd : n_check_start.Nodup := sc_check_start.nd
  exact (pss_cons (ps_expr (pe_dcall G_check_hall (hr.mono (by first | decide | omega)) (pa_cons (pv 0) pa_nil))) (pss_one (ps_expr (pe_dcall G_check_cells (hr.mono (by first | decide | omega)) (pa_cons (pv 0) (pa_cons (pv 1) pa_nil))))))
abbrev s_first_standing : Stmt := topS 43
abbrev n_first_standing : List Str := ["hall", "cells", "door"]
abbrev p_first_standing : List Str := ["hall", "cells"]
theorem sc_first_standing : FnScope n_first_standing p_first_standing (defScope s_first_standing) := ⟨rfl, rfl, rfl, by decide +kernel, rfl, by decide +kernel, by decide +kernel⟩
theorem bd_first_standing {P : Program} {w : World} {K : PySem.W.Frag} {mg : Str → Option Value} {base : Heap} {f : Addr} {cdv : Value} {A : Around} {outer : List Env} {s : Shared} {H : Hp} {E : XK} {aWAYS aKINDS aSIGNS : Addr} (T : Txt K mg w aWAYS aKINDS aSIGNS) (hr : Room 0 (A.deeper (envOfC "first_standing" (defScope s_first_standing) s.heap.objs.size f cdv))) :
    PSs (cxOf CX0 P w K mg base n_first_standing "first_standing" (defScope s_first_standing) f cdv A outer s H E).nox (defBody s_first_standing) (rd_first_standing K) := by
  have nd : n_first_standing.Nodup := sc_first_standing.nd
  exact (pss_one (ps_ret (pe_tup (pa_cons (pv 1) (pa_cons (pe_join pe_str (pe_lc (own := [("door", 2)]) (g := (gName 2)) (tt := tYes) (te := (tOp (rIx K) (tVar 2) (tC (.int 2)))) rfl nd (pi_tup (pe_ix ix_seq (pv 0) pe_int (fun _ _ => rfl))) (blkOk_by (own := [("door", 2)]) (N := ["hall", "cells", "door"]) (sc := defScope s_first_standing) (by decide +kernel)) (fun _ _ _ _ _ => (pg_name (i := 2) nd rfl (Or.inl rfl))) (fun _ _ _ _ _ => pts_nil) (fun _ _ _ _ _ => (pe_ix ix_seq (pv 2) pe_int (fun _ _ => rfl))))) pa_nil)))))
abbrev s_door_edges : Stmt := topS 44
abbrev n_door_edges : List Str := ["hall", "ways", "door", "way"]
abbrev p_door_edges : List Str := ["hall", "ways"]
theorem sc_door_edges : FnScope n_door_edges p_door_edges (defScope s_door_edges) := ⟨rfl, rfl, rfl, by decide +kernel, rfl, by decide +kernel, by decide +kernel⟩
theorem bd_door_edges {P : Program} {w : World} {K : PySem.W.Frag} {mg : Str → Option Value} {base : Heap} {f : Addr} {cdv : Value} {A : Around} {outer : List Env} {s : Shared} {H : Hp} {E : XK} {aWAYS aKINDS aSIGNS : Addr} {sp_edge_from : Sp} (T : Txt K mg w aWAYS aKINDS aSIGNS) (hr : Room 1 (A.deeper (envOfC "door_edges" (defScope s_door_edges) s.heap.objs.size f cdv))) (G_edge_from : DefS P w K mg base CX0 1 "edge_from" p_edge_from sp_edge_from) :
    PSs (cxOf CX0 P w K mg base n_door_edges "door_edges" (defScope s_door_edges) f cdv A outer s H E).nox (defBody s_door_edges) (rd_door_edges K sp_edge_from) := by
  have nd : n_door_edges.Nodup := sc_door_edges.nd
  exact (pss_one (ps_ret (pe_lc (own := [("door", 2), ("way", 3)]) (g := (gTup K 2 (gCons (gName 2) (gCons (gName 3) gNil)))) (tt := tYes) (te := (tCallD sp_edge_from (tCons (tOp (rIx K) (tVar 2) (tC (.int 0))) (tCons (tOp (rIx K) (tVar 2) (tC (.int 1))) (tCons (tVar 3) tNil))))) rfl nd (pi_zipTS (by rfl) T.b_zip (pa_cons (pe_ix ix_seq (pv 0) pe_int (fun _ _ => rfl)) (pa_cons (pv 1) pa_nil))) (blkOk_by (own := [("door", 2), ("way", 3)]) (N := ["hall", "ways", "door", "way"]) (sc := defScope s_door_edges) (by decide +kernel)) (fun _ _ _ _ _ => (pg_tup rfl (pgs_cons (pg_name (i := 2) nd rfl (Or.inl rfl)) (pgs_cons (pg_name (i := 3) nd rfl (Or.inl rfl)) pgs_nil)))) (fun _ _ _ _ _ => pts_nil) (fun _ _ _ _ _ => (pe_dcall G_edge_from (hr.mono (by first | decide | omega)) (pa_cons (pe_ix ix_seq (pv 2) pe_int (fun _ _ => rfl)) (pa_cons (pe_ix ix_seq (pv 2) pe_int (fun _ _ => rfl)) (pa_cons (pv 3) pa_nil))))))))
abbrev s_swung_ways : Stmt := topS 45
abbrev n_swung_ways : List Str := ["hall", "ways", "door", "way", "row", "column", "_", "edge"]
abbrev p_swung_ways : List Str := ["hall", "ways", "door", "way"]
theorem sc_swung_ways : FnScope n_swung_ways p_swung_ways (defScope s_swung_ways) := ⟨rfl, rfl, rfl, by decide +kernel, rfl, by decide +kernel, by decide +kernel⟩
theorem bd_swung_ways {P : Program} {w : World} {K : PySem.W.Frag} {mg : Str → Option Value} {base : Heap} {f : Addr} {cdv : Value} {A : Around} {outer : List Env} {s : Shared} {H : Hp} {E : XK} {aWAYS aKINDS aSIGNS : Addr} {sp_door_edges : Sp} {sp_edge_from : Sp} {sp_is_edge : Sp} (T : Txt K mg w aWAYS aKINDS aSIGNS) (hr : Room 3 (A.deeper (envOfC "swung_ways" (defScope s_swung_ways) s.heap.objs.size f cdv))) (G_door_edges : DefS P w K mg base CX0 2 "door_edges" p_door_edges sp_door_edges) (G_edge_from : DefS P w K mg base CX0 1 "edge_from" p_edge_from sp_edge_from) (G_is_edge : DefS P w K mg base CX0 3 "is_edge" p_is_edge sp_is_edge) :
    PSs (cxOf CX0 P w K mg base n_swung_ways "swung_ways" (defScope s_swung_ways) f cdv A outer s H E).nox (defBody s_swung_ways) (rd_swung_ways K sp_door_edges sp_edge_from sp_is_edge) := by
  have nd : n_swung_ways.Nodup := sc_swung_ways.nd
  exact (pss_cons (ps_asg (pe_ix ix_seq (pe_ix ix_seq (pv 0) pe_int (fun _ _ => rfl)) (pv 2) (fun _ _ => rfl)) (pg_tup rfl (pgs_cons (pg_name (i := 4) nd rfl (Or.inl rfl)) (pgs_cons (pg_name (i := 5) nd rfl (Or.inl rfl)) (pgs_cons (pg_name (i := 6) nd rfl (Or.inl rfl)) pgs_nil))))) (pss_cons (ps_set (i := 7) nd rfl (Or.inl rfl) (pe_dcall G_edge_from (hr.mono (by first | decide | omega)) (pa_cons (pv 4) (pa_cons (pv 5) (pa_cons (pv 3) pa_nil))))) (pss_cons (ps_if (PW.pt (pw_or (pt_not (pt_val (pe_dcall G_is_edge (hr.mono (by first | decide | omega)) (pa_cons (pv 0) (pa_cons (pv 7) pa_nil))))) (pw_or (pt_cmpR (op_inX (hu65 hr)) (pv 7) (pe_ix ix_seq (pv 0) pe_int (fun _ _ => rfl)) (by rfl)) (pw_or1 (pt_cmpR (op_inX (hu65 hr)) (pv 7) (pe_dcall G_door_edges (hr.mono (by first | decide | omega)) (pa_cons (pv 0) (pa_cons (pv 1) pa_nil))) (by rfl)))))) (pss_one (ps_ret pe_non)) pss_nil) (pss_one (ps_ret (pe_op op_addX (pe_op op_addX (pe_slice sl_X (pv 1) po_none (po_some (pv 2))) (pv 3)) (pe_slice sl_X (pv 1) (po_some (pe_op op_addX (pv 2) pe_int)) po_none)))))))
abbrev s_step_done : Stmt := topS 46
abbrev n_step_done : List Str := ["hall", "standing", "step", "cells", "ways", "walker", "way", "ahead", "crossed", "moved", "edges", "door", "swung"]
abbrev p_step_done : List Str := ["hall", "standing", "step"]
theorem sc_step_done : FnScope n_step_done p_step_done (defScope s_step_done) := ⟨rfl, rfl, rfl, by decide +kernel, rfl, by decide +kernel, by decide +kernel⟩
theorem bd_step_done {P : Program} {w : World} {K : PySem.W.Frag} {mg : Str → Option Value} {base : Heap} {f : Addr} {cdv : Value} {A : Around} {outer : List Env} {s : Shared} {H : Hp} {E : XK} {aWAYS aKINDS aSIGNS : Addr} {sp_door_edges : Sp} {sp_edge_crossed : Sp} {sp_is_cell : Sp} {sp_next_cell : Sp} {sp_swung_ways : Sp} (T : Txt K mg w aWAYS aKINDS aSIGNS) (hr : Room 4 (A.deeper (envOfC "step_done" (defScope s_step_done) s.heap.objs.size f cdv))) (G_door_edges : DefS P w K mg base CX0 2 "door_edges" p_door_edges sp_door_edges) (G_edge_crossed : DefS P w K mg base CX0 1 "edge_crossed" p_edge_crossed sp_edge_crossed) (G_is_cell : DefS P w K mg base CX0 2 "is_cell" p_is_cell sp_is_cell) (G_next_cell : DefS P w K mg base CX0 1 "next_cell" p_next_cell sp_next_cell) (G_swung_ways : DefS P w K mg base CX0 4 "swung_ways" p_swung_ways sp_swung_ways) :
    PSs (cxOf CX0 P w K mg base n_step_done "step_done" (defScope s_step_done) f cdv A outer s H E).nox (defBody s_step_done) (rd_step_done K sp_door_edges sp_edge_crossed sp_is_cell sp_next_cell sp_swung_ways) := by
  have nd : n_step_done.Nodup := sc_step_done.nd
  exact (pss_cons (ps_asg (pv 1) (pg_tup rfl (pgs_cons (pg_name (i := 3) nd rfl (Or.inl rfl)) (pgs_cons (pg_name (i := 4) nd rfl (Or.inl rfl)) pgs_nil)))) (pss_cons (ps_asg (pv 2) (pg_tup rfl (pgs_cons (pg_name (i := 5) nd rfl (Or.inl rfl)) (pgs_cons (pg_name (i := 6) nd rfl (Or.inl rfl)) pgs_nil)))) (pss_cons (ps_set (i := 7) nd rfl (Or.inl rfl) (pe_dcall G_next_cell (hr.mono (by first | decide | omega)) (pa_cons (pe_ix ix_seq (pv 3) (pv 5) (fun _ _ => rfl)) (pa_cons (pv 6) pa_nil)))) (pss_cons (ps_set (i := 8) nd rfl (Or.inl rfl) (pe_dcall G_edge_crossed (hr.mono (by first | decide | omega)) (pa_cons (pe_ix ix_seq (pv 3) (pv 5) (fun _ _ => rfl)) (pa_cons (pv 6) pa_nil)))) (pss_cons (ps_if (PW.pt (pw_or (pt_not (pt_val (pe_dcall G_is_cell (hr.mono (by first | decide | omega)) (pa_cons (pv 0) (pa_cons (pv 7) pa_nil))))) (pw_or (pt_cmpR (op_inX (hu65 hr)) (pv 7) (pv 3) (by rfl)) (pw_or1 (pt_cmpR (op_inX (hu65 hr)) (pv 8) (pe_ix ix_seq (pv 0) pe_int (fun _ _ => rfl)) (by rfl)))))) (pss_one (ps_ret pe_non)) pss_nil) (pss_cons (ps_set (i := 9) nd rfl (Or.inl rfl) (pe_op op_addX (pe_op op_addX (pe_slice sl_X (pv 3) po_none (po_some (pv 5))) (pe_tup (pa_cons (pv 7) pa_nil))) (pe_slice sl_X (pv 3) (po_some (pe_op op_addX (pv 5) pe_int)) po_none))) (pss_cons (ps_set (i := 10) nd rfl (Or.inl rfl) (pe_dcall G_door_edges (hr.mono (by first | decide | omega)) (pa_cons (pv 0) (pa_cons (pv 4) pa_nil)))) (pss_cons (ps_if (pt_cmpR (op_notInX (hu65 hr)) (pv 8) (pv 10) (by rfl)) (pss_one (ps_ret (pe_tup (pa_cons (pe_tup (pa_cons (pv 9) (pa_cons (pv 4) pa_nil))) (pa_cons pe_non pa_nil))))) pss_nil) (pss_cons (ps_set (i := 11) nd rfl (Or.inl rfl) (pe_bm PySem.F.plainAttrs_list PySem.F.slot_list_index PySem.F.type_list_index (mt_indexD (hu65 hr)) (pv 10) (pa_cons (pv 8) pa_nil))) (pss_cons (ps_set (i := 12) nd rfl (Or.inl rfl) (pe_dcall G_swung_ways (hr.mono (by first | decide | omega)) (pa_cons (pv 0) (pa_cons (pv 4) (pa_cons (pv 11) (pa_cons (pv 6) pa_nil)))))) (pss_cons (ps_if (pt_cmpR op_isN (pv 12) pe_non (nomark _)) (pss_one (ps_ret pe_non)) pss_nil) (pss_one (ps_ret (pe_tup (pa_cons (pe_tup (pa_cons (pv 9) (pa_cons (pv 12) pa_nil))) (pa_cons (pv 11) pa_nil))))))))))))))))
abbrev s_moves_from : Stmt := topS 47
abbrev n_moves_from : List Str := ["hall", "standing", "moves", "walker", "way", "found"]
abbrev p_moves_from : List Str := ["hall", "standing"]
theorem sc_moves_from : FnScope n_moves_from p_moves_from (defScope s_moves_from) := ⟨rfl, rfl, rfl, by decide +kernel, rfl, by decide +kernel, by decide +kernel⟩
theorem bd_moves_from {P : Program} {w : World} {K : PySem.W.Frag} {mg : Str → Option Value} {base : Heap} {f : Addr} {cdv : Value} {A : Around} {outer : List Env} {s : Shared} {H : Hp} {E : XK} {aWAYS aKINDS aSIGNS : Addr} {sp_step_done : Sp} (T : Txt K mg w aWAYS aKINDS aSIGNS) (hr : Room 5 (A.deeper (envOfC "moves_from" (defScope s_moves_from) s.heap.objs.size f cdv))) (G_step_done : DefS P w K mg base CX0 5 "step_done" p_step_done sp_step_done) :
    PSs (cxOf CX0 P w K mg base n_moves_from "moves_from" (defScope s_moves_from) f cdv A outer s H E).nox (defBody s_moves_from) (rd_moves_from K aWAYS sp_step_done) := by
  have nd : n_moves_from.Nodup := sc_moves_from.nd
  exact (pss_cons (ps_set (i := 2) nd rfl (Or.inl rfl) (pe_lst pa_nil)) (pss_cons (ps_for PassesOwn.never rfl (pi_range1 (by rfl) T.b_range (pa_cons (pe_callB call_len (by rfl) T.b_len PySem.boot_len (pa_cons (pe_ix ix_seq (pv 1) pe_int (fun _ _ => rfl)) pa_nil)) pa_nil)) (pg_name (i := 3) nd rfl (Or.inl rfl)) (pss_one (ps_for PassesOwn.never rfl (pi_tup (pe_glob (by rfl) T.c_WAYS rfl)) (pg_name (i := 4) nd rfl (Or.inl rfl)) (pss_cons (ps_set (i := 5) nd rfl (Or.inl rfl) (pe_dcall G_step_done (hr.mono (by first | decide | omega)) (pa_cons (pv 0) (pa_cons (pv 1) (pa_cons (pe_tup (pa_cons (pv 3) (pa_cons (pv 4) pa_nil))) pa_nil))))) (pss_one (ps_if (pt_cmpR op_notN (pv 5) pe_non (nomark _)) (pss_one (ps_expr (pe_bm PySem.F.plainAttrs_list PySem.F.slot_list_append PySem.F.type_list_append mt_append (pv 2) (pa_cons (pe_tup (pa_cons (pe_tup (pa_cons (pv 3) (pa_cons (pv 4) pa_nil))) (pa_cons (pe_ix ix_seq (pv 5) pe_int (fun _ _ => rfl)) (pa_cons (pe_ix ix_seq (pv 5) pe_int (fun _ _ => rfl)) pa_nil)))) pa_nil)))) pss_nil)))))) (pss_one (ps_ret (pv 2)))))
abbrev s_written : Stmt := topS 36
abbrev n_written : List Str := ["hall", "cells", "rows", "columns", "walls", "doors", "lines", "row", "column", "sign", "way"]
abbrev p_written : List Str := ["hall", "cells"]
theorem sc_written : FnScope n_written p_written (defScope s_written) := ⟨rfl, rfl, rfl, by decide +kernel, rfl, by decide +kernel, by decide +kernel⟩
theorem bd_written {P : Program} {w : World} {K : PySem.W.Frag} {mg : Str → Option Value} {base : Heap} {f : Addr} {cdv : Value} {A : Around} {outer : List Env} {s : Shared} {H : Hp} {E : XK} {aWAYS aKINDS aSIGNS : Addr} {sp_check_start : Sp} (T : Txt K mg w aWAYS aKINDS aSIGNS) (hr : Room 6 (A.deeper (envOfC "written" (defScope s_written) s.heap.objs.size f cdv))) (G_check_start : DefS P w K mg base CX0 6 "check_start" p_check_start sp_check_start) :
    PSs (cxOf CX0 P w K mg base n_written "written" (defScope s_written) f cdv A outer s H E).nox (defBody s_written) (rd_written K sp_check_start) := by
  have nd : n_written.Nodup := sc_written.nd
  exact (pss_cons (ps_expr (pe_dcall G_check_start (hr.mono (by first | decide | omega)) (pa_cons (pv 0) (pa_cons (pv 1) pa_nil)))) (pss_cons (ps_asg (pv 0) (pg_tup rfl (pgs_cons (pg_name (i := 2) nd rfl (Or.inl rfl)) (pgs_cons (pg_name (i := 3) nd rfl (Or.inl rfl)) (pgs_cons (pg_name (i := 4) nd rfl (Or.inl rfl)) (pgs_cons (pg_name (i := 5) nd rfl (Or.inl rfl)) pgs_nil)))))) (pss_cons (ps_set (i := 6) nd rfl (Or.inl rfl) (pe_lst (pa_cons (pe_joined (.cons pe_str (.cons (pe_fmt (pv 2)) (.cons pe_str (.cons (pe_fmt (pv 3)) PJ.nil))))) pa_nil))) (pss_cons (ps_expr (pe_bm PySem.F.plainAttrs_list PySem.F.slot_list_extend PySem.F.type_list_extend mt_extend (pv 6) (pa_cons (pe_lc (own := [("row", 7), ("column", 8), ("sign", 9)]) (g := (gTup K 3 (gCons (gName 7) (gCons (gName 8) (gCons (gName 9) gNil))))) (tt := tYes) (te := (tJoin [(tC (.str "wall ")), (tFmt (tVar 7)), (tC (.str " ")), (tFmt (tVar 8)), (tC (.str " ")), (tFmt (tVar 9))])) rfl nd (pi_tup (pv 4)) (blkOk_by (own := [("row", 7), ("column", 8), ("sign", 9)]) (N := ["hall", "cells", "rows", "columns", "walls", "doors", "lines", "row", "column", "sign", "way"]) (sc := defScope s_written) (by decide +kernel)) (fun _ _ _ _ _ => (pg_tup rfl (pgs_cons (pg_name (i := 7) nd rfl (Or.inl rfl)) (pgs_cons (pg_name (i := 8) nd rfl (Or.inl rfl)) (pgs_cons (pg_name (i := 9) nd rfl (Or.inl rfl)) pgs_nil))))) (fun _ _ _ _ _ => pts_nil) (fun _ _ _ _ _ => (pe_joined (.cons pe_str (.cons (pe_fmt (pv 7)) (.cons pe_str (.cons (pe_fmt (pv 8)) (.cons pe_str (.cons (pe_fmt (pv 9)) PJ.nil))))))))) pa_nil))) (pss_cons (ps_expr (pe_bm PySem.F.plainAttrs_list PySem.F.slot_list_extend PySem.F.type_list_extend mt_extend (pv 6) (pa_cons (pe_lc (own := [("row", 7), ("column", 8), ("way", 10)]) (g := (gTup K 3 (gCons (gName 7) (gCons (gName 8) (gCons (gName 10) gNil))))) (tt := tYes) (te := (tJoin [(tC (.str "door ")), (tFmt (tVar 7)), (tC (.str " ")), (tFmt (tVar 8)), (tC (.str " ")), (tFmt (tVar 10))])) rfl nd (pi_tup (pv 5)) (blkOk_by (own := [("row", 7), ("column", 8), ("way", 10)]) (N := ["hall", "cells", "rows", "columns", "walls", "doors", "lines", "row", "column", "sign", "way"]) (sc := defScope s_written) (by decide +kernel)) (fun _ _ _ _ _ => (pg_tup rfl (pgs_cons (pg_name (i := 7) nd rfl (Or.inl rfl)) (pgs_cons (pg_name (i := 8) nd rfl (Or.inl rfl)) (pgs_cons (pg_name (i := 10) nd rfl (Or.inl rfl)) pgs_nil))))) (fun _ _ _ _ _ => pts_nil) (fun _ _ _ _ _ => (pe_joined (.cons pe_str (.cons (pe_fmt (pv 7)) (.cons pe_str (.cons (pe_fmt (pv 8)) (.cons pe_str (.cons (pe_fmt (pv 10)) PJ.nil))))))))) pa_nil))) (pss_cons (ps_expr (pe_bm PySem.F.plainAttrs_list PySem.F.slot_list_extend PySem.F.type_list_extend mt_extend (pv 6) (pa_cons (pe_lc (own := [("row", 7), ("column", 8)]) (g := (gTup K 2 (gCons (gName 7) (gCons (gName 8) gNil)))) (tt := tYes) (te := (tJoin [(tC (.str "at ")), (tFmt (tVar 7)), (tC (.str " ")), (tFmt (tVar 8))])) rfl nd (pi_tup (pv 1)) (blkOk_by (own := [("row", 7), ("column", 8)]) (N := ["hall", "cells", "rows", "columns", "walls", "doors", "lines", "row", "column", "sign", "way"]) (sc := defScope s_written) (by decide +kernel)) (fun _ _ _ _ _ => (pg_tup rfl (pgs_cons (pg_name (i := 7) nd rfl (Or.inl rfl)) (pgs_cons (pg_name (i := 8) nd rfl (Or.inl rfl)) pgs_nil)))) (fun _ _ _ _ _ => pts_nil) (fun _ _ _ _ _ => (pe_joined (.cons pe_str (.cons (pe_fmt (pv 7)) (.cons pe_str (.cons (pe_fmt (pv 8)) PJ.nil))))))) pa_nil))) (pss_one (ps_ret (pe_join pe_str (pv 6))))))))))
abbrev s_is_figure : Stmt := topS 37
abbrev n_is_figure : List Str := ["word"]
abbrev p_is_figure : List Str := ["word"]
theorem sc_is_figure : FnScope n_is_figure p_is_figure (defScope s_is_figure) := ⟨rfl, rfl, rfl, by decide +kernel, rfl, by decide +kernel, by decide +kernel⟩
theorem bd_is_figure {P : Program} {w : World} {K : PySem.W.Frag} {mg : Str → Option Value} {base : Heap} {f : Addr} {cdv : Value} {A : Around} {outer : List Env} {s : Shared} {H : Hp} {E : XK} {aWAYS aKINDS aSIGNS : Addr} (T : Txt K mg w aWAYS aKINDS aSIGNS) (hr : Room 0 (A.deeper (envOfC "is_figure" (defScope s_is_figure) s.heap.objs.size f cdv))) :
    PSs (cxOf CX0 P w K mg base n_is_figure "is_figure" (defScope s_is_figure) f cdv A outer s H E).nox (defBody s_is_figure) (rd_is_figure K) := by
  have nd : n_is_figure.Nodup := sc_is_figure.nd
  exact (pss_one (ps_ret (pe_and (pe_cmpR (op_eqD hr.units) (pe_callB call_len (by rfl) T.b_len PySem.boot_len (pa_cons (pv 0) pa_nil)) pe_int (nomark _)) (pe_one (pe_cmpR (op_inX (hu65 hr)) (pv 0) (pe_globS (by rfl) T.c_FIGURES) (by rfl))))))
abbrev s_is_row : Stmt := topS 38
abbrev n_is_row : List Str := ["words"]
abbrev p_is_row : List Str := ["words"]
theorem sc_is_row : FnScope n_is_row p_is_row (defScope s_is_row) := ⟨rfl, rfl, rfl, by decide +kernel, rfl, by decide +kernel, by decide +kernel⟩
theorem bd_is_row {P : Program} {w : World} {K : PySem.W.Frag} {mg : Str → Option Value} {base : Heap} {f : Addr} {cdv : Value} {A : Around} {outer : List Env} {s : Shared} {H : Hp} {E : XK} {aWAYS aKINDS aSIGNS : Addr} {sp_is_figure : Sp} (T : Txt K mg w aWAYS aKINDS aSIGNS) (hr : Room 1 (A.deeper (envOfC "is_row" (defScope s_is_row) s.heap.objs.size f cdv))) (G_is_figure : DefS P w K mg base CX0 1 "is_figure" p_is_figure sp_is_figure) :
    PSs (cxOf CX0 P w K mg base n_is_row "is_row" (defScope s_is_row) f cdv A outer s H E).nox (defBody s_is_row) (rd_is_row K w aKINDS aSIGNS sp_is_figure) := by
  have nd : n_is_row.Nodup := sc_is_row.nd
  exact (pss_cons (ps_if (PW.pt (pw_or (pt_cmpR (op_notInX (hu65 hr)) (pe_ix ix_seq (pv 0) pe_int (fun _ _ => rfl)) (pe_glob (by rfl) T.c_KINDS rfl) (by rfl)) (pw_or1 (pt_cmpR op_lt (pe_callB call_len (by rfl) T.b_len PySem.boot_len (pa_cons (pv 0) pa_nil)) pe_int (nomark _))))) (pss_one (ps_ret pe_bl)) pss_nil) (pss_cons (ps_if (PW.pt (pw_or (pt_not (pt_val (pe_dcall G_is_figure (hr.mono (by first | decide | omega)) (pa_cons (pe_ix ix_seq (pv 0) pe_int (fun _ _ => rfl)) pa_nil)))) (pw_or1 (pt_not (pt_val (pe_dcall G_is_figure (hr.mono (by first | decide | omega)) (pa_cons (pe_ix ix_seq (pv 0) pe_int (fun _ _ => rfl)) pa_nil))))))) (pss_one (ps_ret pe_bl)) pss_nil) (pss_cons (ps_if (pt_cmpR op_inKD (pe_ix ix_seq (pv 0) pe_int (fun _ _ => rfl)) (pe_glob (by rfl) T.c_SIGNS rfl) (by rfl)) (pss_one (ps_ret (pe_and (pe_cmpR (op_eqD hr.units) (pe_callB call_len (by rfl) T.b_len PySem.boot_len (pa_cons (pv 0) pa_nil)) pe_int (nomark _)) (pe_one (pe_cmpR (op_inX (hu65 hr)) (pe_ix ix_seq (pv 0) pe_int (fun _ _ => rfl)) (pe_ix ix_kdict (pe_glob (by rfl) T.c_SIGNS rfl) (pe_ix ix_seq (pv 0) pe_int (fun _ _ => rfl)) (fun _ _ => rfl)) (by rfl)))))) pss_nil) (pss_one (ps_ret (pe_cmpR (op_eqD hr.units) (pe_callB call_len (by rfl) T.b_len PySem.boot_len (pa_cons (pv 0) pa_nil)) pe_int (nomark _)))))))
abbrev s_thing_of : Stmt := topS 39
abbrev n_thing_of : List Str := ["words"]
abbrev p_thing_of : List Str := ["words"]
theorem sc_thing_of : FnScope n_thing_of p_thing_of (defScope s_thing_of) := ⟨rfl, rfl, rfl, by decide +kernel, rfl, by decide +kernel, by decide +kernel⟩
theorem bd_thing_of {P : Program} {w : World} {K : PySem.W.Frag} {mg : Str → Option Value} {base : Heap} {f : Addr} {cdv : Value} {A : Around} {outer : List Env} {s : Shared} {H : Hp} {E : XK} {aWAYS aKINDS aSIGNS : Addr} (T : Txt K mg w aWAYS aKINDS aSIGNS) (hr : Room 0 (A.deeper (envOfC "thing_of" (defScope s_thing_of) s.heap.objs.size f cdv))) :
    PSs (cxOf CX0 P w K mg base n_thing_of "thing_of" (defScope s_thing_of) f cdv A outer s H E).nox (defBody s_thing_of) (rd_thing_of K) := by
  have nd : n_thing_of.Nodup := sc_thing_of.nd
  exact (pss_one (ps_ret (pe_op op_addX (pe_tup (pa_cons (pe_callTy call_int_str (by rfl) T.b_int (by decide +kernel) (pa_cons (pe_ix ix_seq (pv 0) pe_int (fun _ _ => rfl)) pa_nil)) (pa_cons (pe_callTy call_int_str (by rfl) T.b_int (by decide +kernel) (pa_cons (pe_ix ix_seq (pv 0) pe_int (fun _ _ => rfl)) pa_nil)) pa_nil))) (pe_callTy call_tuple_of (by rfl) T.b_tuple (by decide +kernel) (pa_cons (pe_slice sl_X (pv 0) (po_some pe_int) po_none) pa_nil)))))
abbrev s_things_of : Stmt := topS 40
abbrev n_things_of : List Str := ["text", "things", "latest", "number", "row", "words", "kind", "word"]
abbrev p_things_of : List Str := ["text"]
theorem sc_things_of : FnScope n_things_of p_things_of (defScope s_things_of) := ⟨rfl, rfl, rfl, by decide +kernel, rfl, by decide +kernel, by decide +kernel⟩
theorem bd_things_of {P : Program} {w : World} {K : PySem.W.Frag} {mg : Str → Option Value} {base : Heap} {f : Addr} {cdv : Value} {A : Around} {outer : List Env} {s : Shared} {H : Hp} {E : XK} {aWAYS aKINDS aSIGNS : Addr} {sp_is_row : Sp} {sp_thing_of : Sp} (T : Txt K mg w aWAYS aKINDS aSIGNS) (hr : Room 2 (A.deeper (envOfC "things_of" (defScope s_things_of) s.heap.objs.size f cdv))) (G_is_row : DefS P w K mg base CX0 2 "is_row" p_is_row sp_is_row) (G_thing_of : DefS P w K mg base CX0 1 "thing_of" p_thing_of sp_thing_of) :
    PSs (cxOf CX0 P w K mg base n_things_of "things_of" (defScope s_things_of) f cdv A outer s H E).nox (defBody s_things_of) (rd_things_of K aKINDS sp_is_row sp_thing_of) := by
  have nd : n_things_of.Nodup := sc_things_of.nd
  exact (pss_cons (ps_setDc (i := 1) (own := [("word", 7)]) (g := (gName 7)) (tt := tYes) (tk := (tVar 7)) (tv := (tLst tNil)) rfl nd rfl rfl (swd_true rfl rfl rfl (by decide +kernel)) (pi_tup (pe_glob (by rfl) T.c_KINDS rfl)) (blkOk_by (own := [("word", 7)]) (N := ["text", "things", "latest", "number", "row", "words", "kind", "word"]) (sc := defScope s_things_of) (by decide +kernel)) (fun _ _ _ _ _ => (pg_name (i := 7) nd rfl (Or.inl rfl))) (fun _ _ _ _ _ => pts_nil) (fun _ _ _ _ _ => (pv 7)) (fun _ _ _ _ _ => (pe_lst pa_nil))) (pss_cons (ps_set (i := 2) nd rfl (Or.inl rfl) pe_int) (pss_cons (ps_for PassesOwn.never rfl (pi_enumX (by rfl) T.b_enumerate (pa_cons (pe_split (pv 0) pe_str) pa_nil)) (pg_tup rfl (pgs_cons (pg_name (i := 3) nd rfl (Or.inl rfl)) (pgs_cons (pg_name (i := 4) nd rfl (Or.inl rfl)) pgs_nil))) (pss_cons (ps_set (i := 5) nd rfl (Or.inl rfl) (pe_split (pv 4) pe_str)) (pss_cons (ps_if (PW.pt (pw_or (pt_not (pt_val (pe_dcall G_is_row (hr.mono (by first | decide | omega)) (pa_cons (pv 5) pa_nil)))) (pw_or1 (pt_cmpR (op_neD hr.units) (pe_cmpR (op_eqD hr.units) (pe_ix ix_seq (pv 5) pe_int (fun _ _ => rfl)) pe_str (nomark _)) (pe_cmpR (op_eqD hr.units) (pv 3) pe_int (nomark _)) (nomark _))))) (pss_one ps_never) pss_nil) (pss_cons (ps_set (i := 6) nd rfl (Or.inl rfl) (pe_bm PySem.F.plainAttrs_tuple PySem.F.slot_tuple_index PySem.F.type_tuple_index mt_tup_index (pe_glob (by rfl) T.c_KINDS rfl) (pa_cons (pe_ix ix_seq (pv 5) pe_int (fun _ _ => rfl)) pa_nil))) (pss_cons (ps_if (pt_cmpR op_lt (pv 6) (pv 2) (nomark _)) (pss_one ps_never) pss_nil) (pss_cons (ps_set (i := 2) nd rfl (Or.inl rfl) (pv 6)) (pss_one (ps_expr (pe_bm PySem.F.plainAttrs_list PySem.F.slot_list_append PySem.F.type_list_append mt_append (pe_dget (hu_of hr) (pv 1) (pe_ix ix_seq (pv 5) pe_int (fun _ _ => rfl)) (fun _ _ => rfl)) (pa_cons (pe_dcall G_thing_of (hr.mono (by first | decide | omega)) (pa_cons (pv 5) pa_nil)) pa_nil)))))))))) (pss_one (ps_ret (pv 1))))))
abbrev s_read : Stmt := topS 41
abbrev n_read : List Str := ["text", "things", "rows", "columns", "hall", "cells"]
abbrev p_read : List Str := ["text"]
theorem sc_read : FnScope n_read p_read (defScope s_read) := ⟨rfl, rfl, rfl, by decide +kernel, rfl, by decide +kernel, by decide +kernel⟩
theorem bd_read {P : Program} {w : World} {K : PySem.W.Frag} {mg : Str → Option Value} {base : Heap} {f : Addr} {cdv : Value} {A : Around} {outer : List Env} {s : Shared} {H : Hp} {E : XK} {aWAYS aKINDS aSIGNS : Addr} {sp_check_start : Sp} {sp_things_of : Sp} (T : Txt K mg w aWAYS aKINDS aSIGNS) (hr : Room 6 (A.deeper (envOfC "read" (defScope s_read) s.heap.objs.size f cdv))) (G_check_start : DefS P w K mg base CX0 6 "check_start" p_check_start sp_check_start) (G_things_of : DefS P w K mg base CX0 3 "things_of" p_things_of sp_things_of) :
    PSs (cxOf CX0 P w K mg base n_read "read" (defScope s_read) f cdv A outer s H E).nox (defBody s_read) (rd_read K sp_check_start sp_things_of) := by
  have nd : n_read.Nodup := sc_read.nd
  exact (pss_cons (ps_if (pt_not (pt_val (pe_callB call_isi (by rfl) T.b_isinstance (by decide +kernel) (pa_cons (pv 0) (pa_cons (pe_bltn (v := .ty "str") (by rfl) T.b_str (by decide +kernel) rfl) pa_nil))))) (pss_one ps_never) pss_nil) (pss_cons (ps_set (i := 1) nd rfl (Or.inl rfl) (pe_dcall G_things_of (hr.mono (by first | decide | omega)) (pa_cons (pv 0) pa_nil))) (pss_cons (ps_asg (pe_ix ix_seq (pe_dget (hu_of hr) (pv 1) pe_str (fun _ _ => rfl)) pe_int (fun _ _ => rfl)) (pg_tup rfl (pgs_cons (pg_name (i := 2) nd rfl (Or.inl rfl)) (pgs_cons (pg_name (i := 3) nd rfl (Or.inl rfl)) pgs_nil)))) (pss_cons (ps_set (i := 4) nd rfl (Or.inl rfl) (pe_tup (pa_cons (pv 2) (pa_cons (pv 3) (pa_cons (pe_callTy call_tuple_of (by rfl) T.b_tuple (by decide +kernel) (pa_cons (pe_dget (hu_of hr) (pv 1) pe_str (fun _ _ => rfl)) pa_nil)) (pa_cons (pe_callTy call_tuple_of (by rfl) T.b_tuple (by decide +kernel) (pa_cons (pe_dget (hu_of hr) (pv 1) pe_str (fun _ _ => rfl)) pa_nil)) pa_nil)))))) (pss_cons (ps_set (i := 5) nd rfl (Or.inl rfl) (pe_callTy call_tuple_of (by rfl) T.b_tuple (by decide +kernel) (pa_cons (pe_dget (hu_of hr) (pv 1) pe_str (fun _ _ => rfl)) pa_nil))) (pss_cons (ps_expr (pe_dcall G_check_start (hr.mono (by first | decide | omega)) (pa_cons (pv 4) (pa_cons (pv 5) pa_nil)))) (pss_one (ps_ret (pe_tup (pa_cons (pv 4) (pa_cons (pv 5) pa_nil)))))))))))
theorem bx_check_edges {P : Program} {w : World} {K : PySem.W.Frag} {mg : Str → Option Value} {base : Heap} {f : Addr} {cdv : Value} {A : Around} {outer : List Env} {s : Shared} {H : Hp} {E : XK} {aWAYS aKINDS aSIGNS : Addr} {sp_is_edge : Sp} (T : Txt K mg w aWAYS aKINDS aSIGNS) {CH : Addr} (XH : ExS P w K mg base "BadHall" CH ["self", "part", "number"] (sp_initH CH)) (hr : Room 3 (A.deeper (envOfC "check_edges" (defScope s_check_edges) s.heap.objs.size f cdv))) (G_is_edge : DefS P w K mg base CX0 3 "is_edge" p_is_edge sp_is_edge) :
    PSs (cxOf (L2.CX P w) P w K mg base n_check_edges "check_edges" (defScope s_check_edges) f cdv A outer s H E) (defBody s_check_edges) (rx_check_edges K CH E sp_is_edge) := by
  have tk : Takes (cxOf (L2.CX P w) P w K mg base n_check_edges "check_edges" (defScope s_check_edges) f cdv A outer s H E) (fun cls d _ H => E cls d H) := takes_of rfl rfl rfl rfl
  have nd : n_check_edges.Nodup := sc_check_edges.nd
  exact (pss_one (ps_for (passes_of rfl) rfl (pi_enumX (by rfl) T.b_enumerate (pa_cons (pv 2) pa_nil)) (pg_tup rfl (pgs_cons (pg_name (i := 5) nd rfl (Or.inl rfl)) (pgs_cons (pg_name (i := 6) nd rfl (Or.inl rfl)) pgs_nil))) (pss_cons (ps_if (PW.pt (pw_or (pt_cmpR (op_eqD hr.units) (pv 5) (pv 3) (nomark _)) (pw_or1 (pt_not (pt_val (pe_dcall G_is_edge (hr.mono (by first | decide | omega)) (pa_cons (pv 0) (pa_cons (pv 6) pa_nil)))))))) (pss_one (ps_raiseX XH tk hr (pa_cons (pv 1) (pa_cons (pv 5) pa_nil)))) pss_nil) (pss_one (ps_if (PW.pt (pw_or (pt_cmpR (op_inX (hu65 hr)) (pv 6) (pv 4) (by rfl)) (pw_or1 (pt_cmpR (op_inX (hu65 hr)) (pv 6) (pe_slice sl_X (pv 2) po_none (po_some (pv 5))) (by rfl))))) (pss_one (ps_raiseX XH tk hr (pa_cons (pv 1) (pa_cons (pv 5) pa_nil)))) pss_nil)))))
theorem bx_check_hall {P : Program} {w : World} {K : PySem.W.Frag} {mg : Str → Option Value} {base : Heap} {f : Addr} {cdv : Value} {A : Around} {outer : List Env} {s : Shared} {H : Hp} {E : XK} {aWAYS aKINDS aSIGNS : Addr} {sp_door_edge : Sp} {sp_is_side : Sp} {sx_check_edges : Sp} (T : Txt K mg w aWAYS aKINDS aSIGNS) {CH : Addr} (XH : ExS P w K mg base "BadHall" CH ["self", "part", "number"] (sp_initH CH)) (hr : Room 4 (A.deeper (envOfC "check_hall" (defScope s_check_hall) s.heap.objs.size f cdv))) (G_door_edge : DefS P w K mg base CX0 2 "door_edge" p_door_edge sp_door_edge) (G_is_side : DefS P w K mg base CX0 2 "is_side" p_is_side sp_is_side) (X_check_edges : DefS P w K mg base (L2.CX P w) 4 "check_edges" p_check_edges sx_check_edges) :
    PSs (cxOf (L2.CX P w) P w K mg base n_check_hall "check_hall" (defScope s_check_hall) f cdv A outer s H E) (defBody s_check_hall) (rx_check_hall K CH E sp_door_edge sp_is_side sx_check_edges) := by
  have tk : Takes (cxOf (L2.CX P w) P w K mg base n_check_hall "check_hall" (defScope s_check_hall) f cdv A outer s H E) (fun cls d _ H => E cls d H) := takes_of rfl rfl rfl rfl
  have nd : n_check_hall.Nodup := sc_check_hall.nd
  exact (pss_cons (ps_if (PW.pt (pw_or (pt_not (pt_val (pe_callB call_isi (by rfl) T.b_isinstance (by decide +kernel) (pa_cons (pv 0) (pa_cons (pe_bltn (v := .ty "tuple") (by rfl) T.b_tuple (by decide +kernel) rfl) pa_nil))))) (pw_or1 (pt_cmpR (op_neD hr.units) (pe_callB call_len (by rfl) T.b_len PySem.boot_len (pa_cons (pv 0) pa_nil)) pe_int (nomark _))))) (pss_one (ps_raiseX XH tk hr (pa_cons pe_int (pa_cons pe_int pa_nil)))) pss_nil) (pss_cons (ps_asg (pv 0) (pg_tup rfl (pgs_cons (pg_name (i := 1) nd rfl (Or.inl rfl)) (pgs_cons (pg_name (i := 2) nd rfl (Or.inl rfl)) (pgs_cons (pg_name (i := 3) nd rfl (Or.inl rfl)) (pgs_cons (pg_name (i := 4) nd rfl (Or.inl rfl)) pgs_nil)))))) (pss_cons (ps_if (pt_not (pt_val (pe_dcall G_is_side (hr.mono (by first | decide | omega)) (pa_cons (pv 1) pa_nil)))) (pss_one (ps_raiseX XH tk hr (pa_cons pe_int (pa_cons pe_int pa_nil)))) pss_nil) (pss_cons (ps_if (pt_not (pt_val (pe_dcall G_is_side (hr.mono (by first | decide | omega)) (pa_cons (pv 2) pa_nil)))) (pss_one (ps_raiseX XH tk hr (pa_cons pe_int (pa_cons pe_int pa_nil)))) pss_nil) (pss_cons (ps_if (pt_not (pt_val (pe_callB call_isi (by rfl) T.b_isinstance (by decide +kernel) (pa_cons (pv 3) (pa_cons (pe_bltn (v := .ty "tuple") (by rfl) T.b_tuple (by decide +kernel) rfl) pa_nil))))) (pss_one (ps_raiseX XH tk hr (pa_cons pe_int (pa_cons pe_int pa_nil)))) pss_nil) (pss_cons (ps_expr (pe_dcallX X_check_edges (hr.mono (by first | decide | omega)) (passes_call tk (fun _ _ _ _ h => h)) (pa_cons (pv 0) (pa_cons pe_int (pa_cons (pv 3) (pa_cons (pe_globI (by rfl) T.c_MOST_WALLS) (pa_cons (pe_tup pa_nil) pa_nil))))))) (pss_cons (ps_if (pt_not (pt_val (pe_callB call_isi (by rfl) T.b_isinstance (by decide +kernel) (pa_cons (pv 4) (pa_cons (pe_bltn (v := .ty "tuple") (by rfl) T.b_tuple (by decide +kernel) rfl) pa_nil))))) (pss_one (ps_raiseX XH tk hr (pa_cons pe_int (pa_cons pe_int pa_nil)))) pss_nil) (pss_one (ps_expr (pe_dcallX X_check_edges (hr.mono (by first | decide | omega)) (passes_call tk (fun _ _ _ _ h => h)) (pa_cons (pv 0) (pa_cons pe_int (pa_cons (pe_lc (own := [("door", 5)]) (g := (gName 5)) (tt := tYes) (te := (tCallD sp_door_edge (tCons (tVar 5) tNil))) rfl nd (pi_tup (pv 4)) (blkOk_by (own := [("door", 5)]) (N := ["hall", "rows", "columns", "walls", "doors", "door"]) (sc := defScope s_check_hall) (by decide +kernel)) (fun _ _ _ _ _ => (pg_name (i := 5) nd rfl (Or.inl rfl))) (fun _ _ _ _ _ => pts_nil) (fun _ _ _ _ _ => (pe_dcall G_door_edge (hr.mono (by first | decide | omega)) (pa_cons (pv 5) pa_nil)))) (pa_cons (pe_globI (by rfl) T.c_MOST_DOORS) (pa_cons (pv 3) pa_nil)))))))))))))))
theorem bx_check_cells {P : Program} {w : World} {K : PySem.W.Frag} {mg : Str → Option Value} {base : Heap} {f : Addr} {cdv : Value} {A : Around} {outer : List Env} {s : Shared} {H : Hp} {E : XK} {aWAYS aKINDS aSIGNS : Addr} {sp_is_cell : Sp} (T : Txt K mg w aWAYS aKINDS aSIGNS) {CC : Addr} (XC : ExS P w K mg base "BadCells" CC ["self", "number"] (sp_initC CC)) (hr : Room 2 (A.deeper (envOfC "check_cells" (defScope s_check_cells) s.heap.objs.size f cdv))) (G_is_cell : DefS P w K mg base CX0 2 "is_cell" p_is_cell sp_is_cell) :
    PSs (cxOf (L2.CX P w) P w K mg base n_check_cells "check_cells" (defScope s_check_cells) f cdv A outer s H E) (defBody s_check_cells) (rx_check_cells K CC E sp_is_cell) := by
  have tk : Takes (cxOf (L2.CX P w) P w K mg base n_check_cells "check_cells" (defScope s_check_cells) f cdv A outer s H E) (fun cls d _ H => E cls d H) := takes_of rfl rfl rfl rfl
  have nd : n_check_cells.Nodup := sc_check_cells.nd
  exact (pss_cons (ps_if (PW.pt (pw_or (pt_not (pt_val (pe_callB call_isi (by rfl) T.b_isinstance (by decide +kernel) (pa_cons (pv 1) (pa_cons (pe_bltn (v := .ty "tuple") (by rfl) T.b_tuple (by decide +kernel) rfl) pa_nil))))) (pw_or1 (pt_cmpR (op_eqD hr.units) (pe_callB call_len (by rfl) T.b_len PySem.boot_len (pa_cons (pv 1) pa_nil)) pe_int (nomark _))))) (pss_one (ps_raiseX XC tk hr (pa_cons pe_int pa_nil))) pss_nil) (pss_one (ps_for (passes_of rfl) rfl (pi_enumX (by rfl) T.b_enumerate (pa_cons (pv 1) pa_nil)) (pg_tup rfl (pgs_cons (pg_name (i := 2) nd rfl (Or.inl rfl)) (pgs_cons (pg_name (i := 3) nd rfl (Or.inl rfl)) pgs_nil))) (pss_one (ps_if (PW.pt (pw_or (pt_cmpR (op_eqD hr.units) (pv 2) (pe_globI (by rfl) T.c_MOST_WALKERS) (nomark _)) (pw_or (pt_not (pt_val (pe_dcall G_is_cell (hr.mono (by first | decide | omega)) (pa_cons (pv 0) (pa_cons (pv 3) pa_nil))))) (pw_or1 (pt_cmpR (op_inX (hu65 hr)) (pv 3) (pe_slice sl_X (pv 1) po_none (po_some (pv 2))) (by rfl)))))) (pss_one (ps_raiseX XC tk hr (pa_cons (pv 2) pa_nil))) pss_nil)))))
theorem bx_check_start {P : Program} {w : World} {K : PySem.W.Frag} {mg : Str → Option Value} {base : Heap} {f : Addr} {cdv : Value} {A : Around} {outer : List Env} {s : Shared} {H : Hp} {E : XK} {aWAYS aKINDS aSIGNS : Addr} {sx_check_cells : Sp} {sx_check_hall : Sp} (T : Txt K mg w aWAYS aKINDS aSIGNS) (hr : Room 5 (A.deeper (envOfC "check_start" (defScope s_check_start) s.heap.objs.size f cdv))) (X_check_cells : DefS P w K mg base (L2.CX P w) 3 "check_cells" p_check_cells sx_check_cells) (X_check_hall : DefS P w K mg base (L2.CX P w) 5 "check_hall" p_check_hall sx_check_hall) :
    PSs (cxOf (L2.CX P w) P w K mg base n_check_start "check_start" (defScope s_check_start) f cdv A outer s H E) (defBody s_check_start) (rx_check_start K E sx_check_cells sx_check_hall) := by
  have tk : Takes (cxOf (L2.CX P w) P w K mg base n_check_start "check_start" (defScope s_check_start) f cdv A outer s H E) (fun cls d _ H => E cls d H) := takes_of rfl rfl rfl rfl
  have nd : n_check_start.Nodup := sc_check_start.nd
  exact (pss_cons (ps_expr (pe_dcallX X_check_hall (hr.mono (by first | decide | omega)) (passes_call tk (fun _ _ _ _ h => h)) (pa_cons (pv 0) pa_nil))) (pss_one (ps_expr (pe_dcallX X_check_cells (hr.mono (by first | decide | omega)) (passes_call tk (fun _ _ _ _ h => h)) (pa_cons (pv 0) (pa_cons (pv 1) pa_nil))))))
abbrev s_may : Stmt := topS 49
abbrev n_may : List Str := ["hall", "cells", "move"]
abbrev p_may : List Str := ["hall", "cells"]
theorem sc_may : FnScope n_may p_may (defScope s_may) := ⟨rfl, rfl, rfl, by decide +kernel, rfl, by decide +kernel, by decide +kernel⟩
theorem bx_may {P : Program} {w : World} {K : PySem.W.Frag} {mg : Str → Option Value} {base : Heap} {f : Addr} {cdv : Value} {A : Around} {outer : List Env} {s : Shared} {H : Hp} {E : XK} {aWAYS aKINDS aSIGNS : Addr} {sp_first_standing : Sp} {sp_moves_from : Sp} {sx_check_start : Sp} (T : Txt K mg w aWAYS aKINDS aSIGNS) (hr : Room 6 (A.deeper (envOfC "may" (defScope s_may) s.heap.objs.size f cdv))) (G_first_standing : DefS P w K mg base CX0 1 "first_standing" p_first_standing sp_first_standing) (G_moves_from : DefS P w K mg base CX0 6 "moves_from" p_moves_from sp_moves_from) (X_check_start : DefS P w K mg base (L2.CX P w) 6 "check_start" p_check_start sx_check_start) :
    PSs (cxOf (L2.CX P w) P w K mg base n_may "may" (defScope s_may) f cdv A outer s H E) (defBody s_may) (rx_may K E sp_first_standing sp_moves_from sx_check_start) := by
  have tk : Takes (cxOf (L2.CX P w) P w K mg base n_may "may" (defScope s_may) f cdv A outer s H E) (fun cls d _ H => E cls d H) := takes_of rfl rfl rfl rfl
  have nd : n_may.Nodup := sc_may.nd
  exact (pss_cons (ps_expr (pe_dcallX X_check_start (hr.mono (by first | decide | omega)) (passes_call tk (fun _ _ _ _ h => h)) (pa_cons (pv 0) (pa_cons (pv 1) pa_nil)))) (pss_one (ps_ret (pe_lc (own := [("move", 2)]) (g := (gName 2)) (tt := tYes) (te := (tOp (rIx K) (tVar 2) (tC (.int 0)))) rfl nd (pi_list (pe_dcall G_moves_from (hr.mono (by first | decide | omega)) (pa_cons (pv 0) (pa_cons (pe_dcall G_first_standing (hr.mono (by first | decide | omega)) (pa_cons (pv 0) (pa_cons (pv 1) pa_nil))) pa_nil)))) (blkOk_by (own := [("move", 2)]) (N := ["hall", "cells", "move"]) (sc := defScope s_may) (by decide +kernel)) (fun _ _ _ _ _ => (pg_name (i := 2) nd rfl (Or.inl rfl))) (fun _ _ _ _ _ => pts_nil) (fun _ _ _ _ _ => (pe_ix ix_seq (pv 2) pe_int (fun _ _ => rfl)))))))
theorem bx_things_of {P : Program} {w : World} {K : PySem.W.Frag} {mg : Str → Option Value} {base : Heap} {f : Addr} {cdv : Value} {A : Around} {outer : List Env} {s : Shared} {H : Hp} {E : XK} {aWAYS aKINDS aSIGNS : Addr} {sp_is_row : Sp} {sp_thing_of : Sp} (T : Txt K mg w aWAYS aKINDS aSIGNS) {CR : Addr} (XR : ExS P w K mg base "BadText" CR ["self", "row"] (sp_initR CR)) (hr : Room 2 (A.deeper (envOfC "things_of" (defScope s_things_of) s.heap.objs.size f cdv))) (G_is_row : DefS P w K mg base CX0 2 "is_row" p_is_row sp_is_row) (G_thing_of : DefS P w K mg base CX0 1 "thing_of" p_thing_of sp_thing_of) :
    PSs (cxOf (L2.CX P w) P w K mg base n_things_of "things_of" (defScope s_things_of) f cdv A outer s H E) (defBody s_things_of) (rx_things_of K aKINDS CR E sp_is_row sp_thing_of) := by
  have tk : Takes (cxOf (L2.CX P w) P w K mg base n_things_of "things_of" (defScope s_things_of) f cdv A outer s H E) (fun cls d _ H => E cls d H) := takes_of rfl rfl rfl rfl
  have nd : n_things_of.Nodup := sc_things_of.nd
  exact (pss_cons (ps_setDc (i := 1) (own := [("word", 7)]) (g := (gName 7)) (tt := tYes) (tk := (tVar 7)) (tv := (tLst tNil)) rfl nd rfl rfl (swd_true rfl rfl rfl (by decide +kernel)) (pi_tup (pe_glob (by rfl) T.c_KINDS rfl)) (blkOk_by (own := [("word", 7)]) (N := ["text", "things", "latest", "number", "row", "words", "kind", "word"]) (sc := defScope s_things_of) (by decide +kernel)) (fun _ _ _ _ _ => (pg_name (i := 7) nd rfl (Or.inl rfl))) (fun _ _ _ _ _ => pts_nil) (fun _ _ _ _ _ => (pv 7)) (fun _ _ _ _ _ => (pe_lst pa_nil))) (pss_cons (ps_set (i := 2) nd rfl (Or.inl rfl) pe_int) (pss_cons (ps_for (passes_of rfl) rfl (pi_enumX (by rfl) T.b_enumerate (pa_cons (pe_split (pv 0) pe_str) pa_nil)) (pg_tup rfl (pgs_cons (pg_name (i := 3) nd rfl (Or.inl rfl)) (pgs_cons (pg_name (i := 4) nd rfl (Or.inl rfl)) pgs_nil))) (pss_cons (ps_set (i := 5) nd rfl (Or.inl rfl) (pe_split (pv 4) pe_str)) (pss_cons (ps_if (PW.pt (pw_or (pt_not (pt_val (pe_dcall G_is_row (hr.mono (by first | decide | omega)) (pa_cons (pv 5) pa_nil)))) (pw_or1 (pt_cmpR (op_neD hr.units) (pe_cmpR (op_eqD hr.units) (pe_ix ix_seq (pv 5) pe_int (fun _ _ => rfl)) pe_str (nomark _)) (pe_cmpR (op_eqD hr.units) (pv 3) pe_int (nomark _)) (nomark _))))) (pss_one (ps_raiseX XR tk hr (pa_cons (pv 3) pa_nil))) pss_nil) (pss_cons (ps_set (i := 6) nd rfl (Or.inl rfl) (pe_bm PySem.F.plainAttrs_tuple PySem.F.slot_tuple_index PySem.F.type_tuple_index mt_tup_index (pe_glob (by rfl) T.c_KINDS rfl) (pa_cons (pe_ix ix_seq (pv 5) pe_int (fun _ _ => rfl)) pa_nil))) (pss_cons (ps_if (pt_cmpR op_lt (pv 6) (pv 2) (nomark _)) (pss_one (ps_raiseX XR tk hr (pa_cons (pv 3) pa_nil))) pss_nil) (pss_cons (ps_set (i := 2) nd rfl (Or.inl rfl) (pv 6)) (pss_one (ps_expr (pe_bm PySem.F.plainAttrs_list PySem.F.slot_list_append PySem.F.type_list_append mt_append (pe_dget (hu_of hr) (pv 1) (pe_ix ix_seq (pv 5) pe_int (fun _ _ => rfl)) (fun _ _ => rfl)) (pa_cons (pe_dcall G_thing_of (hr.mono (by first | decide | omega)) (pa_cons (pv 5) pa_nil)) pa_nil)))))))))) (pss_one (ps_ret (pv 1))))))
theorem bx_read {P : Program} {w : World} {K : PySem.W.Frag} {mg : Str → Option Value} {base : Heap} {f : Addr} {cdv : Value} {A : Around} {outer : List Env} {s : Shared} {H : Hp} {E : XK} {aWAYS aKINDS aSIGNS : Addr} {sx_check_start : Sp} {sx_things_of : Sp} (T : Txt K mg w aWAYS aKINDS aSIGNS) {CR : Addr} (XR : ExS P w K mg base "BadText" CR ["self", "row"] (sp_initR CR)) (hr : Room 6 (A.deeper (envOfC "read" (defScope s_read) s.heap.objs.size f cdv))) (X_check_start : DefS P w K mg base (L2.CX P w) 6 "check_start" p_check_start sx_check_start) (X_things_of : DefS P w K mg base (L2.CX P w) 3 "things_of" p_things_of sx_things_of) :
    PSs (cxOf (L2.CX P w) P w K mg base n_read "read" (defScope s_read) f cdv A outer s H E) (defBody s_read) (rx_read K CR E sx_check_start sx_things_of) := by
  have tk : Takes (cxOf (L2.CX P w) P w K mg base n_read "read" (defScope s_read) f cdv A outer s H E) (fun cls d _ H => E cls d H) := takes_of rfl rfl rfl rfl
  have nd : n_read.Nodup := sc_read.nd
  exact (pss_cons (ps_if (pt_not (pt_val (pe_callB call_isi (by rfl) T.b_isinstance (by decide +kernel) (pa_cons (pv 0) (pa_cons (pe_bltn (v := .ty "str") (by rfl) T.b_str (by decide +kernel) rfl) pa_nil))))) (pss_one (ps_raiseX XR tk hr (pa_cons pe_int pa_nil))) pss_nil) (pss_cons (ps_set (i := 1) nd rfl (Or.inl rfl) (pe_dcallX X_things_of (hr.mono (by first | decide | omega)) (passes_call tk (fun _ _ _ _ h => h)) (pa_cons (pv 0) pa_nil))) (pss_cons (ps_asg (pe_ix ix_seq (pe_dget (hu_of hr) (pv 1) pe_str (fun _ _ => rfl)) pe_int (fun _ _ => rfl)) (pg_tup rfl (pgs_cons (pg_name (i := 2) nd rfl (Or.inl rfl)) (pgs_cons (pg_name (i := 3) nd rfl (Or.inl rfl)) pgs_nil)))) (pss_cons (ps_set (i := 4) nd rfl (Or.inl rfl) (pe_tup (pa_cons (pv 2) (pa_cons (pv 3) (pa_cons (pe_callTy call_tuple_of (by rfl) T.b_tuple (by decide +kernel) (pa_cons (pe_dget (hu_of hr) (pv 1) pe_str (fun _ _ => rfl)) pa_nil)) (pa_cons (pe_callTy call_tuple_of (by rfl) T.b_tuple (by decide +kernel) (pa_cons (pe_dget (hu_of hr) (pv 1) pe_str (fun _ _ => rfl)) pa_nil)) pa_nil)))))) (pss_cons (ps_set (i := 5) nd rfl (Or.inl rfl) (pe_callTy call_tuple_of (by rfl) T.b_tuple (by decide +kernel) (pa_cons (pe_dget (hu_of hr) (pv 1) pe_str (fun _ _ => rfl)) pa_nil))) (pss_cons (ps_expr (pe_dcallX X_check_start (hr.mono (by first | decide | omega)) (passes_call tk (fun _ _ _ _ h => h)) (pa_cons (pv 4) (pa_cons (pv 5) pa_nil)))) (pss_one (ps_ret (pe_tup (pa_cons (pv 4) (pa_cons (pv 5) pa_nil)))))))))))
abbrev s_L_taken : Stmt := topS 51
abbrev n_L_taken : List Str := ["_law_row", "_law_many", "_law_found", "_law_cell"]
abbrev p_L_taken : List Str := ["_law_row", "_law_many"]
theorem sc_L_taken : FnScope n_L_taken p_L_taken (defScope s_L_taken) := ⟨rfl, rfl, rfl, by decide +kernel, rfl, by decide +kernel, by decide +kernel⟩
theorem bd_L_taken {P : Program} {w : World} {K : PySem.W.Frag} {mg : Str → Option Value} {base : Heap} {f : Addr} {cdv : Value} {A : Around} {outer : List Env} {s : Shared} {H : Hp} {E : XK} {aWAYS aKINDS aSIGNS : Addr} (T : Txt K mg w aWAYS aKINDS aSIGNS) (hr : Room 0 (A.deeper (envOfC "_law_taken" (defScope s_L_taken) s.heap.objs.size f cdv))) :
    PSs (cxOf CX0 P w K mg base n_L_taken "_law_taken" (defScope s_L_taken) f cdv A outer s H E).nox (defBody s_L_taken) (rd_L_taken K) := by
  have nd : n_L_taken.Nodup := sc_L_taken.nd
  exact (pss_cons (ps_if (pt_cmpR op_gt (pe_ix ix_seq (pv 0) pe_int (fun _ _ => rfl)) pe_int (nomark _)) (pss_cons (ps_set (i := 2) nd rfl (Or.inl rfl) (pe_op op_mod (pe_ix ix_seq (pv 0) pe_int (fun _ _ => rfl)) (pv 1))) (pss_cons (ps_asg (pe_op op_fdiv (pe_ix ix_seq (pv 0) pe_int (fun _ _ => rfl)) (pv 1)) (pg_sub (pv 0) pe_int set_list)) (pss_one (ps_ret (pv 2))))) pss_nil) (pss_cons (ps_asg (pe_op op_addX (pe_ix ix_seq (pv 0) pe_int (fun _ _ => rfl)) pe_int) (pg_sub (pv 0) pe_int set_list)) (pss_cons (ps_if (pt_cmpR op_gt (pe_ix ix_seq (pv 0) pe_int (fun _ _ => rfl)) (pe_callB call_len (by rfl) T.b_len PySem.boot_len (pa_cons (pe_ix ix_seq (pv 0) pe_int (fun _ _ => rfl)) pa_nil)) (nomark _)) (pss_cons (ps_asg (pe_op op_mod (pe_op op_addX (pe_op op_mulX' (pe_ix ix_seq (pv 0) pe_int (fun _ _ => rfl)) pe_int) pe_int) pe_int) (pg_sub (pv 0) pe_int set_list)) (pss_one (ps_ret (pe_op op_mod (pe_op op_fdiv (pe_ix ix_seq (pv 0) pe_int (fun _ _ => rfl)) pe_int) (pv 1))))) pss_nil) (pss_cons (ps_set (i := 3) nd rfl (Or.inl rfl) (pe_ix ix_seq (pe_ix ix_seq (pv 0) pe_int (fun _ _ => rfl)) (pe_op op_sub (pe_ix ix_seq (pv 0) pe_int (fun _ _ => rfl)) pe_int) (fun _ _ => rfl))) (pss_cons (ps_asg (pe_op op_mod (pe_op op_addX (pe_op op_addX (pe_op op_mulX' (pe_ix ix_seq (pv 0) pe_int (fun _ _ => rfl)) pe_int) (pv 3)) pe_int) pe_int) (pg_sub (pv 0) pe_int set_list)) (pss_cons (ps_if (pt_cmpR op_ge (pv 3) (pe_op op_pow pe_int pe_int) (nomark _)) (pss_one (ps_asg (pe_op op_fdiv (pv 3) (pv 1)) (pg_sub (pv 0) pe_int set_list))) pss_nil) (pss_one (ps_ret (pe_op op_mod (pv 3) (pv 1))))))))))
abbrev s_L_pair : Stmt := topS 54
abbrev n_L_pair : List Str := ["_law_corner", "_law_way", "_law_r", "_law_c", "_law_high", "_law_wide"]
abbrev p_L_pair : List Str := ["_law_corner", "_law_way"]
theorem sc_L_pair : FnScope n_L_pair p_L_pair (defScope s_L_pair) := ⟨rfl, rfl, rfl, by decide +kernel, rfl, by decide +kernel, by decide +kernel⟩
theorem bd_L_pair {P : Program} {w : World} {K : PySem.W.Frag} {mg : Str → Option Value} {base : Heap} {f : Addr} {cdv : Value} {A : Around} {outer : List Env} {s : Shared} {H : Hp} {E : XK} {aWAYS aKINDS aSIGNS : Addr} (T : Txt K mg w aWAYS aKINDS aSIGNS) (hr : Room 0 (A.deeper (envOfC "_law_pair" (defScope s_L_pair) s.heap.objs.size f cdv))) :
    PSs (cxOf CX0 P w K mg base n_L_pair "_law_pair" (defScope s_L_pair) f cdv A outer s H E).nox (defBody s_L_pair) (rd_L_pair K) := by
  have nd : n_L_pair.Nodup := sc_L_pair.nd
  exact (pss_cons (ps_asg (pv 0) (pg_tup rfl (pgs_cons (pg_name (i := 2) nd rfl (Or.inl rfl)) (pgs_cons (pg_name (i := 3) nd rfl (Or.inl rfl)) pgs_nil)))) (pss_cons (ps_if (pt_cmpR (op_inX (hu65 hr)) (pv 1) pe_str (by rfl)) (pss_cons (ps_set (i := 4) nd rfl (Or.inl rfl) (pe_op op_sub (pv 2) (pe_callTy call_int1 (by rfl) T.b_int (by decide +kernel) (pa_cons (pe_cmpR (op_eqD hr.units) (pv 1) pe_str (nomark _)) pa_nil)))) (pss_one (ps_ret (pe_tup (pa_cons (pe_tup (pa_cons (pv 4) (pa_cons (pe_op op_sub (pv 3) pe_int) pa_nil))) (pa_cons (pe_tup (pa_cons (pv 4) (pa_cons (pv 3) pa_nil))) pa_nil)))))) pss_nil) (pss_cons (ps_set (i := 5) nd rfl (Or.inl rfl) (pe_op op_sub (pv 3) (pe_callTy call_int1 (by rfl) T.b_int (by decide +kernel) (pa_cons (pe_cmpR (op_eqD hr.units) (pv 1) pe_str (nomark _)) pa_nil)))) (pss_one (ps_ret (pe_tup (pa_cons (pe_tup (pa_cons (pe_op op_sub (pv 2) pe_int) (pa_cons (pv 5) pa_nil))) (pa_cons (pe_tup (pa_cons (pv 2) (pa_cons (pv 5) pa_nil))) pa_nil))))))))
abbrev s_L_shut : Stmt := topS 55
abbrev n_L_shut : List Str := ["_law_shut_here", "_law_r", "_law_c", "_law_sort"]
abbrev p_L_shut : List Str := ["_law_shut_here"]
theorem sc_L_shut : FnScope n_L_shut p_L_shut (defScope s_L_shut) := ⟨rfl, rfl, rfl, by decide +kernel, rfl, by decide +kernel, by decide +kernel⟩
theorem bd_L_shut {P : Program} {w : World} {K : PySem.W.Frag} {mg : Str → Option Value} {base : Heap} {f : Addr} {cdv : Value} {A : Around} {outer : List Env} {s : Shared} {H : Hp} {E : XK} {aWAYS aKINDS aSIGNS : Addr} (T : Txt K mg w aWAYS aKINDS aSIGNS) (hr : Room 0 (A.deeper (envOfC "_law_shut" (defScope s_L_shut) s.heap.objs.size f cdv))) :
    PSs (cxOf CX0 P w K mg base n_L_shut "_law_shut" (defScope s_L_shut) f cdv A outer s H E).nox (defBody s_L_shut) (rd_L_shut K) := by
  have nd : n_L_shut.Nodup := sc_L_shut.nd
  exact (pss_cons (ps_asg (pv 0) (pg_tup rfl (pgs_cons (pg_name (i := 1) nd rfl (Or.inl rfl)) (pgs_cons (pg_name (i := 2) nd rfl (Or.inl rfl)) (pgs_cons (pg_name (i := 3) nd rfl (Or.inl rfl)) pgs_nil))))) (pss_one (ps_ret (pe_ifExp (pt_cmpR (op_eqD hr.units) (pv 3) pe_str (nomark _)) (pe_tup (pa_cons (pe_tup (pa_cons (pe_op op_sub (pv 1) pe_int) (pa_cons (pv 2) pa_nil))) (pa_cons (pe_tup (pa_cons (pv 1) (pa_cons (pv 2) pa_nil))) pa_nil))) (pe_tup (pa_cons (pe_tup (pa_cons (pv 1) (pa_cons (pe_op op_sub (pv 2) pe_int) pa_nil))) (pa_cons (pe_tup (pa_cons (pv 1) (pa_cons (pv 2) pa_nil))) pa_nil)))))))
abbrev s_L_within : Stmt := topS 56
abbrev n_L_within : List Str := ["_law_hall_here", "_law_pair_here", "_law_some", "_law_cell"]
abbrev p_L_within : List Str := ["_law_hall_here", "_law_pair_here"]
theorem sc_L_within : FnScope n_L_within p_L_within (defScope s_L_within) := ⟨rfl, rfl, rfl, by decide +kernel, rfl, by decide +kernel, by decide +kernel⟩
theorem bd_L_within {P : Program} {w : World} {K : PySem.W.Frag} {mg : Str → Option Value} {base : Heap} {f : Addr} {cdv : Value} {A : Around} {outer : List Env} {s : Shared} {H : Hp} {E : XK} {aWAYS aKINDS aSIGNS : Addr} (T : Txt K mg w aWAYS aKINDS aSIGNS) (hr : Room 0 (A.deeper (envOfC "_law_within" (defScope s_L_within) s.heap.objs.size f cdv))) :
    PSs (cxOf CX0 P w K mg base n_L_within "_law_within" (defScope s_L_within) f cdv A outer s H E).nox (defBody s_L_within) (rd_L_within K) := by
  have nd : n_L_within.Nodup := sc_L_within.nd
  exact (pss_cons (ps_setLc (i := 2) (own := [("_law_cell", 3)]) (g := (gName 3)) (tt := (tAnd (tTest (tChain rLeI rLtI (tC (.int 0)) (tOp (rIx K) (tVar 3) (tC (.int 0))) (tOp (rIx K) (tVar 0) (tC (.int 0))))) (tTest (tChain rLeI rLtI (tC (.int 0)) (tOp (rIx K) (tVar 3) (tC (.int 1))) (tOp (rIx K) (tVar 0) (tC (.int 1))))))) (te := (tVar 3)) rfl nd rfl rfl (sw_true rfl rfl rfl (by decide +kernel)) (pi_tup (pv 1)) (blkOk_by (own := [("_law_cell", 3)]) (N := ["_law_hall_here", "_law_pair_here", "_law_some", "_law_cell"]) (sc := defScope s_L_within) (by decide +kernel)) (fun _ _ _ _ _ => (pg_name (i := 3) nd rfl (Or.inl rfl))) (fun _ _ _ _ _ => (pts_one (PW.pt (pw_and (pt_chain op_le op_lt pe_int (pe_ix ix_seq (pv 3) pe_int (fun _ _ => rfl)) (pe_ix ix_seq (pv 0) pe_int (fun _ _ => rfl))) (pw_and1 (pt_chain op_le op_lt pe_int (pe_ix ix_seq (pv 3) pe_int (fun _ _ => rfl)) (pe_ix ix_seq (pv 0) pe_int (fun _ _ => rfl)))))))) (fun _ _ _ _ _ => (pv 3))) (pss_one (ps_ret (pe_cmpR (op_eqD hr.units) (pe_callB call_len (by rfl) T.b_len PySem.boot_len (pa_cons (pv 2) pa_nil)) pe_int (nomark _)))))
abbrev s_L_hall : Stmt := topS 60
abbrev n_L_hall : List Str := ["_law_row", "_law_size", "_law_doors", "_law_high", "_law_wide", "_law_left", "_law_r", "_law_shuts", "_law_hung", "_law_stand", "_law_k", "_law_door", "_law_pair_here", "_law_shut_here", "_law_c"]
abbrev p_L_hall : List Str := ["_law_row", "_law_size", "_law_doors"]
theorem sc_L_hall : FnScope n_L_hall p_L_hall (defScope s_L_hall) := ⟨rfl, rfl, rfl, by decide +kernel, rfl, by decide +kernel, by decide +kernel⟩
theorem bd_L_hall {P : Program} {w : World} {K : PySem.W.Frag} {mg : Str → Option Value} {base : Heap} {f : Addr} {cdv : Value} {A : Around} {outer : List Env} {s : Shared} {H : Hp} {E : XK} {aWAYS aKINDS aSIGNS : Addr} {sp_L_pair : Sp} {sp_L_shut : Sp} {sp_L_taken : Sp} {sp_L_within : Sp} (T : Txt K mg w aWAYS aKINDS aSIGNS) (hr : Room 1 (A.deeper (envOfC "_law_hall" (defScope s_L_hall) s.heap.objs.size f cdv))) (G_L_pair : DefS P w K mg base CX0 1 "_law_pair" p_L_pair sp_L_pair) (G_L_shut : DefS P w K mg base CX0 1 "_law_shut" p_L_shut sp_L_shut) (G_L_taken : DefS P w K mg base CX0 1 "_law_taken" p_L_taken sp_L_taken) (G_L_within : DefS P w K mg base CX0 1 "_law_within" p_L_within sp_L_within) :
    PSs (cxOf CX0 P w K mg base n_L_hall "_law_hall" (defScope s_L_hall) f cdv A outer s H E).nox (defBody s_L_hall) (rd_L_hall K sp_L_pair sp_L_shut sp_L_taken sp_L_within) := by
  have nd : n_L_hall.Nodup := sc_L_hall.nd
  exact (pss_cons (ps_par (i := 3) (j := 4) rfl nd rfl rfl (by decide) rfl rfl (pa_cons (pe_op op_addX pe_int (pe_dcall G_L_taken (hr.mono (by first | decide | omega)) (pa_cons (pv 0) (pa_cons (pv 1) pa_nil)))) (pa_cons (pe_op op_addX pe_int (pe_dcall G_L_taken (hr.mono (by first | decide | omega)) (pa_cons (pv 0) (pa_cons (pv 1) pa_nil)))) pa_nil)) (by rfl)) (pss_cons (ps_set (i := 5) nd rfl (Or.inl rfl) (pe_lst pa_nil)) (pss_cons (ps_for PassesOwn.never rfl (pi_range1 (by rfl) T.b_range (pa_cons (pv 3) pa_nil)) (pg_name (i := 6) nd rfl (Or.inr rfl)) (pss_one (ps_set (i := 5) nd rfl (Or.inl rfl) (pe_op op_addX (pe_op op_addX (pv 5) (pe_lc (own := [("_law_c", 14)]) (g := (gName 14)) (tt := tYes) (te := (tTup (tCons (tVar 6) (tCons (tVar 14) (tCons (tC (.str "-")) tNil))))) rfl nd (pi_range1 (by rfl) T.b_range (pa_cons (pe_op op_mulX' (pv 4) (pe_callTy call_int1 (by rfl) T.b_int (by decide +kernel) (pa_cons (pe_cmpR op_gt (pv 6) pe_int (nomark _)) pa_nil))) pa_nil)) (blkOk_by (own := [("_law_c", 14)]) (N := ["_law_row", "_law_size", "_law_doors", "_law_high", "_law_wide", "_law_left", "_law_r", "_law_shuts", "_law_hung", "_law_stand", "_law_k", "_law_door", "_law_pair_here", "_law_shut_here", "_law_c"]) (sc := defScope s_L_hall) (by decide +kernel)) (fun _ _ _ _ _ => (pg_name (i := 14) nd rfl (Or.inl rfl))) (fun _ _ _ _ _ => pts_nil) (fun _ _ _ _ _ => (pe_tup (pa_cons (pv 6) (pa_cons (pv 14) (pa_cons pe_str pa_nil))))))) (pe_lc (own := [("_law_c", 14)]) (g := (gName 14)) (tt := tYes) (te := (tTup (tCons (tVar 6) (tCons (tVar 14) (tCons (tC (.str "|")) tNil))))) rfl nd (pi_range2 (by rfl) T.b_range (pa_cons pe_int (pa_cons (pv 4) pa_nil))) (blkOk_by (own := [("_law_c", 14)]) (N := ["_law_row", "_law_size", "_law_doors", "_law_high", "_law_wide", "_law_left", "_law_r", "_law_shuts", "_law_hung", "_law_stand", "_law_k", "_law_door", "_law_pair_here", "_law_shut_here", "_law_c"]) (sc := defScope s_L_hall) (by decide +kernel)) (fun _ _ _ _ _ => (pg_name (i := 14) nd rfl (Or.inl rfl))) (fun _ _ _ _ _ => pts_nil) (fun _ _ _ _ _ => (pe_tup (pa_cons (pv 6) (pa_cons (pv 14) (pa_cons pe_str pa_nil)))))))))) (pss_cons (ps_par3 (i := 7) (j := 8) (l := 9) rfl nd rfl rfl rfl (by decide) (by decide) (by decide) rfl rfl rfl (pa_cons (pe_lst pa_nil) (pa_cons (pe_lst pa_nil) (pa_cons (pe_lst pa_nil) pa_nil))) (by rfl)) (pss_cons (ps_for PassesOwn.never rfl (pi_range1 (by rfl) T.b_range (pa_cons (pe_dcall G_L_taken (hr.mono (by first | decide | omega)) (pa_cons (pv 0) (pa_cons (pe_ix ix_seq (pe_lst (pa_cons pe_int (pa_cons pe_int (pa_cons pe_int pa_nil)))) (pe_dcall G_L_taken (hr.mono (by first | decide | omega)) (pa_cons (pv 0) (pa_cons pe_int pa_nil))) (fun _ _ => rfl)) pa_nil))) pa_nil)) (pg_name (i := 10) nd rfl (Or.inl rfl)) (pss_one (ps_if (pt_cmpR (op_neD hr.units) (pv 5) (pe_lst pa_nil) (nomark _)) (pss_one (ps_expr (pe_bm PySem.F.plainAttrs_list PySem.F.slot_list_append PySem.F.type_list_append mt_append (pv 7) (pa_cons (pe_bm PySem.F.plainAttrs_list PySem.F.slot_list_pop PySem.F.type_list_pop mt_popAt (pv 5) (pa_cons (pe_dcall G_L_taken (hr.mono (by first | decide | omega)) (pa_cons (pv 0) (pa_cons (pe_callB call_len (by rfl) T.b_len PySem.boot_len (pa_cons (pv 5) pa_nil)) pa_nil))) pa_nil)) pa_nil)))) pss_nil))) (pss_cons (ps_setLc (i := 9) (own := [("_law_shut_here", 13)]) (g := (gName 13)) (tt := tYes) (te := (tCallD sp_L_shut (tCons (tVar 13) tNil))) rfl nd rfl rfl (sw_true rfl rfl rfl (by decide +kernel)) (pi_list (pv 7)) (blkOk_by (own := [("_law_shut_here", 13)]) (N := ["_law_row", "_law_size", "_law_doors", "_law_high", "_law_wide", "_law_left", "_law_r", "_law_shuts", "_law_hung", "_law_stand", "_law_k", "_law_door", "_law_pair_here", "_law_shut_here", "_law_c"]) (sc := defScope s_L_hall) (by decide +kernel)) (fun _ _ _ _ _ => (pg_name (i := 13) nd rfl (Or.inl rfl))) (fun _ _ _ _ _ => pts_nil) (fun _ _ _ _ _ => (pe_dcall G_L_shut (hr.mono (by first | decide | omega)) (pa_cons (pv 13) pa_nil)))) (pss_cons (ps_for PassesOwn.never rfl (pi_range1 (by rfl) T.b_range (pa_cons (pe_dcall G_L_taken (hr.mono (by first | decide | omega)) (pa_cons (pv 0) (pa_cons (pe_op op_addX (pv 2) pe_int) pa_nil))) pa_nil)) (pg_name (i := 10) nd rfl (Or.inl rfl)) (pss_cons (ps_set (i := 11) nd rfl (Or.inl rfl) (pe_tup (pa_cons (pe_dcall G_L_taken (hr.mono (by first | decide | omega)) (pa_cons (pv 0) (pa_cons (pe_op op_addX (pv 3) pe_int) pa_nil))) (pa_cons (pe_dcall G_L_taken (hr.mono (by first | decide | omega)) (pa_cons (pv 0) (pa_cons (pe_op op_addX (pv 4) pe_int) pa_nil))) (pa_cons (pe_ix ix_seq pe_str (pe_dcall G_L_taken (hr.mono (by first | decide | omega)) (pa_cons (pv 0) (pa_cons pe_int pa_nil))) (fun _ _ => rfl)) pa_nil))))) (pss_cons (ps_set (i := 12) nd rfl (Or.inl rfl) (pe_dcall G_L_pair (hr.mono (by first | decide | omega)) (pa_cons (pe_slice sl_X (pv 11) po_none (po_some pe_int)) (pa_cons (pe_ix ix_seq (pv 11) pe_int (fun _ _ => rfl)) pa_nil)))) (pss_one (ps_if (PW.pt (pw_and (pt_val (pe_dcall G_L_within (hr.mono (by first | decide | omega)) (pa_cons (pe_tup (pa_cons (pv 3) (pa_cons (pv 4) pa_nil))) (pa_cons (pv 12) pa_nil)))) (pw_and1 (pt_cmpR (op_notInX (hu65 hr)) (pv 12) (pv 9) (by rfl))))) (pss_cons (ps_expr (pe_bm PySem.F.plainAttrs_list PySem.F.slot_list_append PySem.F.type_list_append mt_append (pv 8) (pa_cons (pv 11) pa_nil))) (pss_one (ps_expr (pe_bm PySem.F.plainAttrs_list PySem.F.slot_list_append PySem.F.type_list_append mt_append (pv 9) (pa_cons (pv 12) pa_nil))))) pss_nil))))) (pss_one (ps_ret (pe_tup (pa_cons (pv 3) (pa_cons (pv 4) (pa_cons (pe_callTy call_tuple_of (by rfl) T.b_tuple (by decide +kernel) (pa_cons (pv 7) pa_nil)) (pa_cons (pe_callTy call_tuple_of (by rfl) T.b_tuple (by decide +kernel) (pa_cons (pv 8) pa_nil)) pa_nil))))))))))))))
abbrev s_L_cells : Stmt := topS 61
abbrev n_L_cells : List Str := ["_law_row", "_law_hall_here", "_law_size", "_law_found", "_law_k", "_law_cell"]
abbrev p_L_cells : List Str := ["_law_row", "_law_hall_here", "_law_size"]
theorem sc_L_cells : FnScope n_L_cells p_L_cells (defScope s_L_cells) := ⟨rfl, rfl, rfl, by decide +kernel, rfl, by decide +kernel, by decide +kernel⟩
theorem bd_L_cells {P : Program} {w : World} {K : PySem.W.Frag} {mg : Str → Option Value} {base : Heap} {f : Addr} {cdv : Value} {A : Around} {outer : List Env} {s : Shared} {H : Hp} {E : XK} {aWAYS aKINDS aSIGNS : Addr} {sp_L_taken : Sp} (T : Txt K mg w aWAYS aKINDS aSIGNS) (hr : Room 1 (A.deeper (envOfC "_law_cells" (defScope s_L_cells) s.heap.objs.size f cdv))) (G_L_taken : DefS P w K mg base CX0 1 "_law_taken" p_L_taken sp_L_taken) :
    PSs (cxOf CX0 P w K mg base n_L_cells "_law_cells" (defScope s_L_cells) f cdv A outer s H E).nox (defBody s_L_cells) (rd_L_cells K sp_L_taken) := by
  have nd : n_L_cells.Nodup := sc_L_cells.nd
  exact (pss_cons (ps_set (i := 3) nd rfl (Or.inl rfl) (pe_lst pa_nil)) (pss_cons (ps_for PassesOwn.never rfl (pi_range1 (by rfl) T.b_range (pa_cons (pe_op op_addX pe_int (pe_dcall G_L_taken (hr.mono (by first | decide | omega)) (pa_cons (pv 0) (pa_cons (pv 2) pa_nil)))) pa_nil)) (pg_name (i := 4) nd rfl (Or.inl rfl)) (pss_cons (ps_set (i := 5) nd rfl (Or.inl rfl) (pe_tup (pa_cons (pe_dcall G_L_taken (hr.mono (by first | decide | omega)) (pa_cons (pv 0) (pa_cons (pe_ix ix_seq (pv 1) pe_int (fun _ _ => rfl)) pa_nil))) (pa_cons (pe_dcall G_L_taken (hr.mono (by first | decide | omega)) (pa_cons (pv 0) (pa_cons (pe_ix ix_seq (pv 1) pe_int (fun _ _ => rfl)) pa_nil))) pa_nil)))) (pss_one (ps_set (i := 3) nd rfl (Or.inl rfl) (pe_op op_addX (pv 3) (pe_op op_mulX' (pe_lst (pa_cons (pv 5) pa_nil)) (pe_callTy call_int1 (by rfl) T.b_int (by decide +kernel) (pa_cons (pe_cmpR (op_notInX (hu65 hr)) (pv 5) (pv 3) (by rfl)) pa_nil)))))))) (pss_one (ps_ret (pe_callTy call_tuple_of (by rfl) T.b_tuple (by decide +kernel) (pa_cons (pv 3) pa_nil))))))
abbrev s_L_alike : Stmt := topS 52
abbrev n_L_alike : List Str := ["_law_one", "_law_due_here", "_law_k"]
abbrev p_L_alike : List Str := ["_law_one", "_law_due_here"]
theorem sc_L_alike : FnScope n_L_alike p_L_alike (defScope s_L_alike) := ⟨rfl, rfl, rfl, by decide +kernel, rfl, by decide +kernel, by decide +kernel⟩
theorem bd_L_alike {P : Program} {w : World} {K : PySem.W.Frag} {mg : Str → Option Value} {base : Heap} {f : Addr} {cdv : Value} {A : Around} {outer : List Env} {s : Shared} {H : Hp} {E : XK} {aWAYS aKINDS aSIGNS : Addr} {kk : Nat} {sp_L_alike : Sp} (T : Txt K mg w aWAYS aKINDS aSIGNS) (hr : Room kk (A.deeper (envOfC "_law_alike" (defScope s_L_alike) s.heap.objs.size f cdv))) (G_L_alike : DefS P w K mg base CX0 kk "_law_alike" p_L_alike sp_L_alike) :
    PSs (cxOf CX0 P w K mg base n_L_alike "_law_alike" (defScope s_L_alike) f cdv A outer s H E).nox (defBody s_L_alike) (rd_L_alike K sp_L_alike) := by
  have nd : n_L_alike.Nodup := sc_L_alike.nd
  exact (pss_cons (ps_if (PW.pt (pw_and (pt_val (pe_callB call_isiT (by rfl) T.b_isinstance (by decide +kernel) (pa_cons (pv 0) (pa_cons (pe_tup (pa_cons (pe_bltn (v := .ty "tuple") (by rfl) T.b_tuple (by decide +kernel) rfl) (pa_cons (pe_bltn (v := .ty "list") (by rfl) T.b_list (by decide +kernel) rfl) pa_nil))) pa_nil)))) (pw_and1 (pt_val (pe_callB call_isiT (by rfl) T.b_isinstance (by decide +kernel) (pa_cons (pv 1) (pa_cons (pe_tup (pa_cons (pe_bltn (v := .ty "tuple") (by rfl) T.b_tuple (by decide +kernel) rfl) (pa_cons (pe_bltn (v := .ty "list") (by rfl) T.b_list (by decide +kernel) rfl) pa_nil))) pa_nil))))))) (pss_cons (ps_if (PW.pt (pw_or (pt_cmpR (op_neD hr.units) (pe_callB call_isi (by rfl) T.b_isinstance (by decide +kernel) (pa_cons (pv 0) (pa_cons (pe_bltn (v := .ty "tuple") (by rfl) T.b_tuple (by decide +kernel) rfl) pa_nil))) (pe_callB call_isi (by rfl) T.b_isinstance (by decide +kernel) (pa_cons (pv 1) (pa_cons (pe_bltn (v := .ty "tuple") (by rfl) T.b_tuple (by decide +kernel) rfl) pa_nil))) (nomark _)) (pw_or1 (pt_cmpR (op_neD hr.units) (pe_callB call_len (by rfl) T.b_len PySem.boot_len (pa_cons (pv 0) pa_nil)) (pe_callB call_len (by rfl) T.b_len PySem.boot_len (pa_cons (pv 1) pa_nil)) (nomark _))))) (pss_one (ps_ret pe_bl)) pss_nil) (pss_one (ps_ret (pe_cmpR (op_eqD hr.units) (pe_lc (own := [("_law_k", 2)]) (g := (gName 2)) (tt := (tNot (tB (tCallD sp_L_alike (tCons (tOp (rIx K) (tVar 0) (tVar 2)) (tCons (tOp (rIx K) (tVar 1) (tVar 2)) tNil)))))) (te := (tVar 2)) rfl nd (pi_range1 (by rfl) T.b_range (pa_cons (pe_callB call_len (by rfl) T.b_len PySem.boot_len (pa_cons (pv 0) pa_nil)) pa_nil)) (blkOk_by (own := [("_law_k", 2)]) (N := ["_law_one", "_law_due_here", "_law_k"]) (sc := defScope s_L_alike) (by decide +kernel)) (fun _ _ _ _ _ => (pg_name (i := 2) nd rfl (Or.inl rfl))) (fun _ _ _ _ _ => (pts_one (pt_not (pt_val (pe_dcall G_L_alike (hr.mono (by first | decide | omega)) (pa_cons (pe_ix ix_seq (pv 0) (pv 2) (fun _ _ => rfl)) (pa_cons (pe_ix ix_seq (pv 1) (pv 2) (fun _ _ => rfl)) pa_nil))))))) (fun _ _ _ _ _ => (pv 2))) (pe_lst pa_nil) (nomark _))))) pss_nil) (pss_one (ps_ret (pe_and (pe_cmpR (op_eqD hr.units) (pv 0) (pv 1) (nomark _)) (pe_one (pe_cmpR (op_eqD hr.units) (pe_callB call_isi (by rfl) T.b_isinstance (by decide +kernel) (pa_cons (pv 0) (pa_cons (pe_bltn (v := .ty "bool") (by rfl) T.b_bool (by decide +kernel) rfl) pa_nil))) (pe_callB call_isi (by rfl) T.b_isinstance (by decide +kernel) (pa_cons (pv 1) (pa_cons (pe_bltn (v := .ty "bool") (by rfl) T.b_bool (by decide +kernel) rfl) pa_nil))) (nomark _)))))))
abbrev s_L_due : Stmt := topS 62
abbrev n_L_due : List Str := ["_law_text", "_law_lines", "_law_kinds", "_law_last", "_law_found", "_law_k", "_law_words", "_law_kind", "_law_word_here"]
abbrev p_L_due : List Str := ["_law_text"]
theorem sc_L_due : FnScope n_L_due p_L_due (defScope s_L_due) := ⟨rfl, rfl, rfl, by decide +kernel, rfl, by decide +kernel, by decide +kernel⟩
theorem bd_L_due {P : Program} {w : World} {K : PySem.W.Frag} {mg : Str → Option Value} {base : Heap} {f : Addr} {cdv : Value} {A : Around} {outer : List Env} {s : Shared} {H : Hp} {E : XK} {aWAYS aKINDS aSIGNS : Addr} (T : Txt K mg w aWAYS aKINDS aSIGNS) (hr : Room 0 (A.deeper (envOfC "_law_due" (defScope s_L_due) s.heap.objs.size f cdv))) :
    PSs (cxOf CX0 P w K mg base n_L_due "_law_due" (defScope s_L_due) f cdv A outer s H E).nox (defBody s_L_due) (rd_L_due K) := by
  have nd : n_L_due.Nodup := sc_L_due.nd
  exact (pss_cons (ps_par3 (i := 1) (j := 2) (l := 3) rfl nd rfl rfl rfl (by decide) (by decide) (by decide) rfl rfl rfl (pa_cons (pe_split (pv 0) pe_str) (pa_cons (pe_lst (pa_cons pe_str (pa_cons pe_str (pa_cons pe_str (pa_cons pe_str pa_nil))))) (pa_cons pe_int pa_nil))) (by rfl)) (pss_cons (ps_set (i := 4) nd rfl (Or.inl rfl) (pe_lst (pa_cons (pe_lst pa_nil) (pa_cons (pe_lst pa_nil) (pa_cons (pe_lst pa_nil) (pa_cons (pe_lst pa_nil) pa_nil)))))) (pss_cons (ps_for PassesOwn.never rfl (pi_range1 (by rfl) T.b_range (pa_cons (pe_callB call_len (by rfl) T.b_len PySem.boot_len (pa_cons (pv 1) pa_nil)) pa_nil)) (pg_name (i := 5) nd rfl (Or.inl rfl)) (pss_cons (ps_set (i := 6) nd rfl (Or.inl rfl) (pe_split (pe_ix ix_seq (pv 1) (pv 5) (fun _ _ => rfl)) pe_str)) (pss_cons (ps_if (pt_cmpR (op_notInX (hu65 hr)) (pe_ix ix_seq (pv 6) pe_int (fun _ _ => rfl)) (pv 2) (by rfl)) (pss_one (ps_ret (pe_tup (pa_cons pe_str (pa_cons (pv 5) pa_nil))))) pss_nil) (pss_cons (ps_set (i := 7) nd rfl (Or.inl rfl) (pe_bm PySem.F.plainAttrs_list PySem.F.slot_list_index PySem.F.type_list_index (mt_indexD (hu65 hr)) (pv 2) (pa_cons (pe_ix ix_seq (pv 6) pe_int (fun _ _ => rfl)) pa_nil))) (pss_cons (ps_if (PW.pt (pw_or (pt_cmpR (op_neD hr.units) (pe_cmpR (op_eqD hr.units) (pv 7) pe_int (nomark _)) (pe_cmpR (op_eqD hr.units) (pv 5) pe_int (nomark _)) (nomark _)) (pw_or (pt_cmpR op_lt (pv 7) (pv 3) (nomark _)) (pw_or1 (pt_cmpR (op_neD hr.units) (pe_callB call_len (by rfl) T.b_len PySem.boot_len (pa_cons (pv 6) pa_nil)) (pe_ix ix_seq (pe_lst (pa_cons pe_int (pa_cons pe_int (pa_cons pe_int (pa_cons pe_int pa_nil))))) (pv 7) (fun _ _ => rfl)) (nomark _)))))) (pss_one (ps_ret (pe_tup (pa_cons pe_str (pa_cons (pv 5) pa_nil))))) pss_nil) (pss_cons (ps_if (pt_cmpR (op_neD hr.units) (pe_lc (own := [("_law_word_here", 8)]) (g := (gName 8)) (tt := (tTest (tOp (rInX K true) (tVar 8) (tCB rListS (tCons (tC (.str "0123456789")) tNil))))) (te := (tVar 8)) rfl nd (pi_list (pe_slice sl_X (pv 6) (po_some pe_int) (po_some pe_int))) (blkOk_by (own := [("_law_word_here", 8)]) (N := ["_law_text", "_law_lines", "_law_kinds", "_law_last", "_law_found", "_law_k", "_law_words", "_law_kind", "_law_word_here"]) (sc := defScope s_L_due) (by decide +kernel)) (fun _ _ _ _ _ => (pg_name (i := 8) nd rfl (Or.inl rfl))) (fun _ _ _ _ _ => (pts_one (pt_cmpR (op_notInX (hu65 hr)) (pv 8) (pe_callTy (call_listS rfl) (by rfl) T.b_list (by decide +kernel) (pa_cons pe_str pa_nil)) (by rfl)))) (fun _ _ _ _ _ => (pv 8))) (pe_lst pa_nil) (nomark _)) (pss_one (ps_ret (pe_tup (pa_cons pe_str (pa_cons (pv 5) pa_nil))))) pss_nil) (pss_cons (ps_if (PW.pt (pw_and (pt_cmpR (op_inX (hu65 hr)) (pv 7) (pe_tup (pa_cons pe_int (pa_cons pe_int pa_nil))) (by rfl)) (pw_and1 (pt_cmpR (op_notInX (hu65 hr)) (pe_ix ix_seq (pv 6) pe_int (fun _ _ => rfl)) (pe_ix ix_seq (pe_lst (pa_cons (pe_lst (pa_cons pe_str (pa_cons pe_str pa_nil))) (pa_cons (pe_lst (pa_cons pe_str (pa_cons pe_str (pa_cons pe_str (pa_cons pe_str pa_nil))))) pa_nil))) (pe_op op_sub (pv 7) pe_int) (fun _ _ => rfl)) (by rfl))))) (pss_one (ps_ret (pe_tup (pa_cons pe_str (pa_cons (pv 5) pa_nil))))) pss_nil) (pss_cons (ps_set (i := 3) nd rfl (Or.inl rfl) (pv 7)) (pss_one (ps_expr (pe_bm PySem.F.plainAttrs_list PySem.F.slot_list_append PySem.F.type_list_append mt_append (pe_ix ix_seq (pv 4) (pv 7) (fun _ _ => rfl)) (pa_cons (pe_op op_addX (pe_tup (pa_cons (pe_callTy call_int_str (by rfl) T.b_int (by decide +kernel) (pa_cons (pe_ix ix_seq (pv 6) pe_int (fun _ _ => rfl)) pa_nil)) (pa_cons (pe_callTy call_int_str (by rfl) T.b_int (by decide +kernel) (pa_cons (pe_ix ix_seq (pv 6) pe_int (fun _ _ => rfl)) pa_nil)) pa_nil))) (pe_callTy call_tuple_of (by rfl) T.b_tuple (by decide +kernel) (pa_cons (pe_slice sl_X (pv 6) (po_some pe_int) po_none) pa_nil))) pa_nil)))))))))))) (pss_one (ps_ret (pe_tup (pa_cons (pe_op op_addX (pe_ix ix_seq (pe_ix ix_seq (pv 4) pe_int (fun _ _ => rfl)) pe_int (fun _ _ => rfl)) (pe_tup (pa_cons (pe_callTy call_tuple_of (by rfl) T.b_tuple (by decide +kernel) (pa_cons (pe_ix ix_seq (pv 4) pe_int (fun _ _ => rfl)) pa_nil)) (pa_cons (pe_callTy call_tuple_of (by rfl) T.b_tuple (by decide +kernel) (pa_cons (pe_ix ix_seq (pv 4) pe_int (fun _ _ => rfl)) pa_nil)) pa_nil)))) (pa_cons (pe_callTy call_tuple_of (by rfl) T.b_tuple (by decide +kernel) (pa_cons (pe_ix ix_seq (pv 4) pe_int (fun _ _ => rfl)) pa_nil)) pa_nil))))))))
abbrev s_L_changed : Stmt := topS 63
abbrev n_L_changed : List Str := ["_law_row", "_law_text", "_law_at", "_law_way", "_law_sign", "_law_lines", "_law_k", "_law_odd"]
abbrev p_L_changed : List Str := ["_law_row", "_law_text"]
theorem sc_L_changed : FnScope n_L_changed p_L_changed (defScope s_L_changed) := ⟨rfl, rfl, rfl, by decide +kernel, rfl, by decide +kernel, by decide +kernel⟩
theorem bd_L_changed {P : Program} {w : World} {K : PySem.W.Frag} {mg : Str → Option Value} {base : Heap} {f : Addr} {cdv : Value} {A : Around} {outer : List Env} {s : Shared} {H : Hp} {E : XK} {aWAYS aKINDS aSIGNS : Addr} {sp_L_taken : Sp} (T : Txt K mg w aWAYS aKINDS aSIGNS) (hr : Room 1 (A.deeper (envOfC "_law_changed" (defScope s_L_changed) s.heap.objs.size f cdv))) (G_L_taken : DefS P w K mg base CX0 1 "_law_taken" p_L_taken sp_L_taken) :
    PSs (cxOf CX0 P w K mg base n_L_changed "_law_changed" (defScope s_L_changed) f cdv A outer s H E).nox (defBody s_L_changed) (rd_L_changed K sp_L_taken) := by
  have nd : n_L_changed.Nodup := sc_L_changed.nd
  exact (pss_cons (ps_par (i := 2) (j := 3) rfl nd rfl rfl (by decide) rfl rfl (pa_cons (pe_dcall G_L_taken (hr.mono (by first | decide | omega)) (pa_cons (pv 0) (pa_cons (pe_op op_addX (pe_callB call_len (by rfl) T.b_len PySem.boot_len (pa_cons (pv 1) pa_nil)) pe_int) pa_nil))) (pa_cons (pe_dcall G_L_taken (hr.mono (by first | decide | omega)) (pa_cons (pv 0) (pa_cons pe_int pa_nil))) pa_nil)) (by rfl)) (pss_cons (ps_if (pt_cmpR op_lt (pv 3) pe_int (nomark _)) (pss_cons (ps_set (i := 4) nd rfl (Or.inl rfl) (pe_op op_mulS (pe_ix ix_seq pe_str (pe_dcall G_L_taken (hr.mono (by first | decide | omega)) (pa_cons (pv 0) (pa_cons pe_int pa_nil))) (fun _ _ => rfl)) (pe_callTy call_int1 (by rfl) T.b_int (by decide +kernel) (pa_cons (pe_cmpR op_lt (pv 3) pe_int (nomark _)) pa_nil)))) (pss_one (ps_ret (pe_op op_addX (pe_op op_addX (pe_slice sl_X (pv 1) po_none (po_some (pv 2))) (pv 4)) (pe_slice sl_X (pv 1) (po_some (pe_op op_addX (pv 2) (pe_callTy call_int1 (by rfl) T.b_int (by decide +kernel) (pa_cons (pe_cmpR op_gt (pv 3) pe_int (nomark _)) pa_nil)))) po_none))))) pss_nil) (pss_cons (ps_set (i := 5) nd rfl (Or.inl rfl) (pe_split (pv 1) pe_str)) (pss_cons (ps_set (i := 6) nd rfl (Or.inl rfl) (pe_dcall G_L_taken (hr.mono (by first | decide | omega)) (pa_cons (pv 0) (pa_cons (pe_callB call_len (by rfl) T.b_len PySem.boot_len (pa_cons (pv 5) pa_nil)) pa_nil)))) (pss_cons (ps_if (pt_cmpR (op_eqD hr.units) (pv 3) pe_int (nomark _)) (pss_cons (ps_set (i := 7) nd rfl (Or.inl rfl) (pe_lst (pa_cons pe_str (pa_cons pe_str (pa_cons pe_str (pa_cons pe_str (pa_cons pe_str (pa_cons pe_str (pa_cons pe_str pa_nil))))))))) (pss_cons (ps_set (i := 7) nd rfl (Or.inl rfl) (pe_op op_addX (pv 7) (pe_lst (pa_cons pe_str (pa_cons pe_str (pa_cons pe_str pa_nil)))))) (pss_one (ps_ret (pe_join pe_str (pe_op op_addX (pe_op op_addX (pe_slice sl_X (pv 5) po_none (po_some (pv 6))) (pe_lst (pa_cons (pe_ix ix_seq (pv 7) (pe_dcall G_L_taken (hr.mono (by first | decide | omega)) (pa_cons (pv 0) (pa_cons pe_int pa_nil))) (fun _ _ => rfl)) pa_nil))) (pe_slice sl_X (pv 5) (po_some (pv 6)) po_none))))))) pss_nil) (pss_one (ps_ret (pe_join pe_str (pe_op op_addX (pe_op op_addX (pe_slice sl_X (pv 5) po_none (po_some (pv 6))) (pe_op op_mulX' (pe_slice sl_X (pv 5) (po_some (pv 6)) (po_some (pe_op op_addX (pv 6) pe_int))) (pe_op op_mulX' pe_int (pe_dcall G_L_taken (hr.mono (by first | decide | omega)) (pa_cons (pv 0) (pa_cons pe_int pa_nil)))))) (pe_slice sl_X (pv 5) (po_some (pe_op op_addX (pe_op op_addX (pv 6) pe_int) (pe_op op_mod (pv 3) pe_int))) po_none))))))))))
abbrev s_law : Stmt := topS 64
abbrev n_law : List Str := ["_law_script", "_law_row", "_law_turn", "_law_hall_here", "_law_text", "_law_change", "_law_word_here", "_law_due_here", "_law_one"]
abbrev p_law : List Str := ["_law_script"]
theorem sc_law : FnScope n_law p_law (defScope s_law) := ⟨rfl, rfl, rfl, by decide +kernel, rfl, by decide +kernel, by decide +kernel⟩
theorem bd_law {P : Program} {w : World} {K : PySem.W.Frag} {mg : Str → Option Value} {base : Heap} {f : Addr} {cdv : Value} {A : Around} {outer : List Env} {s : Shared} {H : Hp} {E : XK} {aWAYS aKINDS aSIGNS : Addr} {sp_L_alike : Sp} {sp_L_cells : Sp} {sp_L_changed : Sp} {sp_L_due : Sp} {sp_L_hall : Sp} {sp_L_taken : Sp} {sp_read : Sp} {sp_written : Sp} (T : Txt K mg w aWAYS aKINDS aSIGNS) {tLW1 tLW2 tLW3 : TE} (hLW1 : ∀ p lp pos : Pos, PE (cxOf CX0 P w K mg base n_law "law" (defScope s_law) f cdv A outer s H E).nox (.Call (.Name "_law_word" p) [.Lambda lamArgs lam1B lamScope1 lp] [] pos) tLW1) (hLW2 : ∀ p lp pos : Pos, PE (cxOf CX0 P w K mg base n_law "law" (defScope s_law) f cdv A outer s H E).nox (.Call (.Name "_law_word" p) [.Lambda lamArgs lam2B lamScope1 lp] [] pos) tLW2) (hLW3 : ∀ p lp pos : Pos, PE (cxOf CX0 P w K mg base n_law "law" (defScope s_law) f cdv A outer s H E).nox (.Call (.Name "_law_word" p) [.Lambda lamArgs lam3B lamScope2 lp] [] pos) tLW3) (hr : Room 8 (A.deeper (envOfC "law" (defScope s_law) s.heap.objs.size f cdv))) (G_L_alike : DefS P w K mg base CX0 8 "_law_alike" p_L_alike sp_L_alike) (G_L_cells : DefS P w K mg base CX0 2 "_law_cells" p_L_cells sp_L_cells) (G_L_changed : DefS P w K mg base CX0 2 "_law_changed" p_L_changed sp_L_changed) (G_L_due : DefS P w K mg base CX0 1 "_law_due" p_L_due sp_L_due) (G_L_hall : DefS P w K mg base CX0 2 "_law_hall" p_L_hall sp_L_hall) (G_L_taken : DefS P w K mg base CX0 1 "_law_taken" p_L_taken sp_L_taken) (G_read : DefS P w K mg base CX0 7 "read" p_read sp_read) (G_written : DefS P w K mg base CX0 7 "written" p_written sp_written) :
    PSs (cxOf CX0 P w K mg base n_law "law" (defScope s_law) f cdv A outer s H E).nox (defBody s_law) (rd_law17 K tLW1 tLW2 tLW3 sp_L_alike sp_L_cells sp_L_changed sp_L_due sp_L_hall sp_L_taken sp_read sp_written) := by
  have nd : n_law.Nodup := sc_law.nd
  exact (pss_cons (ps_set (i := 1) nd rfl (Or.inl rfl) (pe_lst (pa_cons (pv 0) (pa_cons pe_int (pa_cons pe_int (pa_cons pe_int pa_nil)))))) (pss_cons (ps_for PassesOwn.never rfl (pi_range1 (by rfl) T.b_range (pa_cons pe_int pa_nil)) (pg_name (i := 2) nd rfl (Or.inl rfl)) (pss_cons (ps_set (i := 3) nd rfl (Or.inl rfl) (pe_dcall G_L_hall (hr.mono (by first | decide | omega)) (pa_cons (pv 1) (pa_cons pe_int (pa_cons pe_int pa_nil))))) (pss_cons (ps_set (i := 4) nd rfl (Or.inl rfl) (pe_dcall G_written (hr.mono (by first | decide | omega)) (pa_cons (pv 3) (pa_cons (pe_dcall G_L_cells (hr.mono (by first | decide | omega)) (pa_cons (pv 1) (pa_cons (pv 3) (pa_cons pe_int pa_nil)))) pa_nil)))) (pss_cons (ps_for PassesOwn.never rfl (pi_range1 (by rfl) T.b_range (pa_cons (pe_dcall G_L_taken (hr.mono (by first | decide | omega)) (pa_cons (pv 1) (pa_cons pe_int pa_nil))) pa_nil)) (pg_name (i := 5) nd rfl (Or.inl rfl)) (pss_one (ps_set (i := 4) nd rfl (Or.inl rfl) (pe_dcall G_L_changed (hr.mono (by first | decide | omega)) (pa_cons (pv 1) (pa_cons (pv 4) pa_nil)))))) (pss_one (ps_for PassesOwn.never rfl (pi_list (pe_lst (pa_cons (pv 4) (pa_cons (pe_ix ix_seq (pe_lst (pa_cons pe_str (pa_cons pe_str (pa_cons pe_str (pa_cons pe_str pa_nil))))) (pe_dcall G_L_taken (hr.mono (by first | decide | omega)) (pa_cons (pv 1) (pa_cons pe_int pa_nil))) (fun _ _ => rfl)) pa_nil)))) (pg_name (i := 8) nd rfl (Or.inr rfl)) (pss_cons (ps_set (i := 7) nd rfl (Or.inr rfl) (pe_dcall G_L_due (hr.mono (by first | decide | omega)) (pa_cons (pv 8) pa_nil))) (pss_one (ps_if (pt_cmpR (op_eqD hr.units) (pe_ix ix_seq (pv 7) pe_int (fun _ _ => rfl)) pe_str (nomark _)) (pss_one (ps_if (pt_cmpR (op_neD hr.units) (hLW1 _ _ _) (pv 7) (nomark _)) (pss_one (ps_ret pe_bl)) pss_nil)) (pss_cons (ps_set (i := 6) nd rfl (Or.inl rfl) (hLW3 _ _ _)) (pss_cons (ps_if (pt_cmpR (op_neD hr.units) (hLW2 _ _ _) (pv 6) (nomark _)) (pss_one (ps_ret pe_bl)) pss_nil) (pss_one (ps_if (PW.pt (pw_and (pt_cmpR op_isN (pv 6) pe_non (nomark _)) (pw_and1 (pt_not (pt_val (pe_dcall G_L_alike (hr.mono (by first | decide | omega)) (pa_cons (pe_dcall G_read (hr.mono (by first | decide | omega)) (pa_cons (pv 8) pa_nil)) (pa_cons (pv 7) pa_nil)))))))) (pss_one (ps_ret pe_bl)) pss_nil))))))))))))) (pss_one (ps_ret pe_bl))))
end Pd

/-! InitP17 -/
set_option Elab.async false
set_option linter.all false
set_option maxRecDepth 100000
set_option maxHeartbeats 4000000
namespace Pd
open PySem PySem.Spec PyProof.Rows L2 NdefX
abbrev s_initH : Stmt := (clsB (topS 2)).getD 0 (.Pass ⟨0, 0, 0, 0⟩)
abbrev s_initC : Stmt := (clsB (topS 3)).getD 0 (.Pass ⟨0, 0, 0, 0⟩)
abbrev s_initR : Stmt := (clsB (topS 13)).getD 0 (.Pass ⟨0, 0, 0, 0⟩)
theorem ok_initC {P : Program} {w : World} {K : PySem.W.Frag} {mg : Str → Option Value} {base : Heap} {C fI cc cda : Addr} {fd : FuncData}
    (U : SupF P K C fI cc cda "__init__" "BadCells.__init__" (defArgs s_initC) (defBody s_initC) (defScope s_initC) fd) (hno : PySem.W.findIn K (.ref C) "number" = some none) (hms : mg "super" = none) : FnOk P w K mg base CX0 1 fI fd ["self", "number"] (sp_initC C) := by
  refine fn_sup (N := ["self", "number", "__class__"]) U (nscope_by (by decide +kernel)) rfl hms _ (fun L => by rfl) (fun L => by rfl) (fun vs H Q E h => ?_) (fun A outer s H vs Q E hr h => ?_)
  · obtain ⟨a, i, rfl, _⟩ := h
    rfl
  · obtain ⟨a, i, rfl, hi, ha, q⟩ := h
    unfold initOkC at hi
    simp only [Bool.and_eq_true, decide_eq_true_eq] at hi
    obtain ⟨⟨⟨hi, l1⟩, l2⟩, l3⟩ := hi
    refine ⟨a, [.int i], _, _, rfl, ha, pe_joined (.cons pe_str (.cons (pe_fmt (pe_var (i := 1) rfl (.inl rfl))) (.cons pe_str .nil))), pss_one (ps_ost (pe_var (i := 0) rfl (.inl rfl)) (pe_var (i := 1) rfl (.inl rfl))), ?_⟩
    refine ⟨_, rfl, ?_, ?_⟩
    · exact l1
    refine ⟨.int i, rfl, .inr ⟨i, rfl, hi, ?_⟩⟩
    refine ⟨_, rfl, ?_, ?_⟩
    · exact l2
    refine ⟨_, rfl, ?_, ?_⟩
    · exact l3
    refine ⟨Nat.le_trans (Nat.le_refl 1) (by decide : 1 ≤ sizeLine), ha, ?_⟩
    refine ⟨.int i, rfl, .ref a, rfl, a, C, rfl, U.T, hno, .inl ⟨ha, fun dx hn hne => q dx hn hne⟩⟩
theorem ok_initR {P : Program} {w : World} {K : PySem.W.Frag} {mg : Str → Option Value} {base : Heap} {C fI cc cda : Addr} {fd : FuncData}
    (U : SupF P K C fI cc cda "__init__" "BadText.__init__" (defArgs s_initR) (defBody s_initR) (defScope s_initR) fd) (hno : PySem.W.findIn K (.ref C) "row" = some none) (hms : mg "super" = none) : FnOk P w K mg base CX0 1 fI fd ["self", "row"] (sp_initR C) := by
  refine fn_sup (N := ["self", "row", "__class__"]) U (nscope_by (by decide +kernel)) rfl hms _ (fun L => by rfl) (fun L => by rfl) (fun vs H Q E h => ?_) (fun A outer s H vs Q E hr h => ?_)
  · obtain ⟨a, i, rfl, _⟩ := h
    rfl
  · obtain ⟨a, i, rfl, hi, ha, q⟩ := h
    unfold initOkR at hi
    simp only [Bool.and_eq_true, decide_eq_true_eq] at hi
    obtain ⟨⟨⟨hi, l1⟩, l2⟩, l3⟩ := hi
    refine ⟨a, [.int i], _, _, rfl, ha, pe_joined (.cons pe_str (.cons (pe_fmt (pe_var (i := 1) rfl (.inl rfl))) (.cons pe_str .nil))), pss_one (ps_ost (pe_var (i := 0) rfl (.inl rfl)) (pe_var (i := 1) rfl (.inl rfl))), ?_⟩
    refine ⟨_, rfl, ?_, ?_⟩
    · exact l1
    refine ⟨.int i, rfl, .inr ⟨i, rfl, hi, ?_⟩⟩
    refine ⟨_, rfl, ?_, ?_⟩
    · exact l2
    refine ⟨_, rfl, ?_, ?_⟩
    · exact l3
    refine ⟨Nat.le_trans (Nat.le_refl 1) (by decide : 1 ≤ sizeLine), ha, ?_⟩
    refine ⟨.int i, rfl, .ref a, rfl, a, C, rfl, U.T, hno, .inl ⟨ha, fun dx hn hne => q dx hn hne⟩⟩
theorem ok_initH {P : Program} {w : World} {K : PySem.W.Frag} {mg : Str → Option Value} {base : Heap} {C fI cc cda : Addr} {fd : FuncData}
    (U : SupF P K C fI cc cda "__init__" "BadHall.__init__" (defArgs s_initH) (defBody s_initH) (defScope s_initH) fd) (hno : PySem.W.findIn K (.ref C) "part" = some none) (hno2 : PySem.W.findIn K (.ref C) "number" = some none) (hms : mg "super" = none) : FnOk P w K mg base CX0 1 fI fd ["self", "part", "number"] (sp_initH C) := by
  refine fn_sup (N := ["self", "part", "number", "__class__"]) U (nscope_by (by decide +kernel)) rfl hms _ (fun L => by rfl) (fun L => by rfl) (fun vs H Q E h => ?_) (fun A outer s H vs Q E hr h => ?_)
  · obtain ⟨a, i, j, rfl, _⟩ := h
    rfl
  · obtain ⟨a, i, j, rfl, hi, ha, q⟩ := h
    unfold initOkH at hi
    simp only [Bool.and_eq_true, decide_eq_true_eq] at hi
    obtain ⟨⟨⟨⟨⟨⟨hi, hj⟩, l1⟩, l2⟩, l3⟩, l4⟩, l5⟩ := hi
    refine ⟨a, [.int i, .int j], _, _, rfl, ha, pe_joined (.cons pe_str (.cons (pe_fmt (pe_var (i := 1) rfl (.inl rfl))) (.cons pe_str (.cons (pe_fmt (pe_var (i := 2) rfl (.inl rfl))) (.cons pe_str .nil))))), pss_cons (ps_ost (pe_var (i := 0) rfl (.inl rfl)) (pe_var (i := 1) rfl (.inl rfl))) (pss_one (ps_ost (pe_var (i := 0) rfl (.inl rfl)) (pe_var (i := 2) rfl (.inl rfl)))), ?_⟩
    refine ⟨_, rfl, ?_, ?_⟩
    · exact l1
    refine ⟨.int i, rfl, .inr ⟨i, rfl, hi, ?_⟩⟩
    refine ⟨_, rfl, ?_, ?_⟩
    · exact l2
    refine ⟨_, rfl, ?_, ?_⟩
    · exact l3
    refine ⟨.int j, rfl, .inr ⟨j, rfl, hj, ?_⟩⟩
    refine ⟨_, rfl, ?_, ?_⟩
    · exact l4
    refine ⟨_, rfl, ?_, ?_⟩
    · exact l5
    refine ⟨Nat.le_trans (Nat.le_refl 1) (by decide : 1 ≤ sizeLine), ha, ?_⟩
    refine ⟨.int i, rfl, .ref a, rfl, a, C, rfl, U.T, hno, .inl ⟨ha, fun dx hn hne => ?_⟩⟩
    refine ⟨.int j, rfl, .ref a, rfl, a, C, rfl, U.T, hno2, .inr ⟨dx, _, upd_same, by rw [upd_ne hne, upd_same], by simp, q dx hn hne⟩⟩
end Pd

/-! Tx0 -/
set_option Elab.async false
set_option linter.all false
set_option maxRecDepth 100000
set_option maxHeartbeats 4000000
/-! texts of halls: pure -/
namespace Pd
open PySem PySem.Spec PyProof.Rows L2
/-- pieces, with c between -/
def gl (c : Nat) : List (List Nat) → List Nat
  | [] => []
  | [x] => x
  | x :: y :: r => x ++ c :: gl c (y :: r)
theorem gl_cons (c : Nat) (x : List Nat) {r : List (List Nat)} (h : r ≠ []) : gl c (x :: r) = x ++ c :: gl c r := by
  cases r with
  | nil => exact absurd rfl h
  | cons y r => rfl
theorem cut_eq {c : Nat} {a b s t : List Nat} (ha : c ∉ a) (hb : c ∉ b) (h : a ++ c :: s = b ++ c :: t) : a = b ∧ s = t := by
  induction a generalizing b with
  | nil =>
    cases b with
    | nil => exact ⟨rfl, by simpa using h⟩
    | cons y b =>
      simp at h
      exact absurd (h.1 ▸ List.mem_cons_self) hb
  | cons x a ih =>
    cases b with
    | nil =>
      simp at h
      exact absurd (h.1 ▸ List.mem_cons_self) ha
    | cons y b =>
      simp at h
      obtain ⟨h1, h2⟩ := ih (fun z => ha (.tail _ z)) (fun z => hb (.tail _ z)) h.2
      exact ⟨by rw [h.1, h1], h2⟩
theorem gl_inj {c : Nat} : ∀ {A B : List (List Nat)}, A ≠ [] → B ≠ [] → (∀ x ∈ A, c ∉ x) → (∀ x ∈ B, c ∉ x) → gl c A = gl c B → A = B
  | [], _, h, _, _, _, _ => absurd rfl h
  | _, [], _, h, _, _, _ => absurd rfl h
  | [x], [y], _, _, _, _, h => by
    have h : x = y := h
    rw [h]
  | [x], y :: z :: r, _, _, hA, _, h => by
    have h : x = y ++ c :: gl c (z :: r) := h
    refine absurd ?_ (hA x (.head _))
    rw [h]
    simp
  | x :: z :: r, [y], _, _, _, hB, h => by
    have h : x ++ c :: gl c (z :: r) = y := h
    refine absurd ?_ (hB y (.head _))
    rw [← h]
    simp
  | x :: x2 :: r, y :: y2 :: t, _, _, hA, hB, h => by
    have h : x ++ c :: gl c (x2 :: r) = y ++ c :: gl c (y2 :: t) := h
    obtain ⟨h1, h2⟩ := cut_eq (hA x (.head _)) (hB y (.head _)) h
    have h3 := gl_inj (by simp) (by simp) (fun z hz => hA z (.tail _ hz)) (fun z hz => hB z (.tail _ hz)) h2
    rw [h1, h3]
def St' (l : List Nat) : Str := ⟨l.toArray⟩
theorem join_cps (c : Nat) : ∀ L : List Str, (Str.join ⟨#[c]⟩ L).cps.toList = gl c (L.map fun x => x.cps.toList)
  | [] => rfl
  | [x] => rfl
  | x :: y :: r => by
    have ih := join_cps c (y :: r)
    show ((x ++ (⟨#[c]⟩ : Str) ++ Str.join ⟨#[c]⟩ (y :: r)) : Str).cps.toList = _
    have e : ∀ a b : Str, (a ++ b).cps.toList = a.cps.toList ++ b.cps.toList := fun a b => by
      show (a.cps ++ b.cps).toList = _
      simp
    rw [e, e, ih]
    show _ = x.cps.toList ++ c :: gl c (y.cps.toList :: r.map fun x => x.cps.toList)
    simp
theorem split_ne (x : Str) (c : Nat) : Txt.split x ⟨#[c]⟩ ≠ [] := by
  unfold Txt.split
  split
  · simp
  · split
    · simp
    · rw [StrLaws.partsBetween_eq]
      obtain ⟨p, r, h⟩ := StrLaws.partsFrom_ne x (⟨#[c]⟩ : Str).length 0 (Builtin.Str.occurrences x ⟨#[c]⟩ 0 x.length (x.length + 1))
      rw [h]
      simp
theorem str_ext {a b : Str} (h : a.cps.toList = b.cps.toList) : a = b := by
  obtain ⟨a⟩ := a
  obtain ⟨b⟩ := b
  simp only [Str.mk.injEq]
  exact Array.toList_inj.mp h
theorem split_join (c : Nat) (L : List (List Nat)) (h0 : L ≠ []) (hf : ∀ l ∈ L, c ∉ l) : Txt.split (St' (gl c L)) ⟨#[c]⟩ = L.map St' := by
  have h1 : Str.join ⟨#[c]⟩ (Txt.split (St' (gl c L)) ⟨#[c]⟩) = St' (gl c L) := StrLaws.join_split _ _
  have h2 := StrLaws.split_free (St' (gl c L)) c
  have h3 := split_ne (St' (gl c L)) c
  generalize Txt.split (St' (gl c L)) ⟨#[c]⟩ = P at h1 h2 h3 ⊢
  have h4 := join_cps c P
  rw [h1] at h4
  have h4 : gl c L = gl c (P.map fun x => x.cps.toList) := by simpa [St'] using h4
  have h5 := gl_inj h0 (by simpa using h3) hf (fun x hx => by
    obtain ⟨p, hp, rfl⟩ := List.mem_map.mp hx
    exact h2 p hp) h4
  rw [h5, List.map_map]
  refine Eq.symm ?_
  have : ∀ p ∈ P, (St' ∘ fun x : Str => x.cps.toList) p = p := fun p _ => str_ext (by simp [St'])
  rw [List.map_congr_left this, List.map_id']
end Pd

/-! Tx1 -/
set_option Elab.async false
set_option linter.all false
set_option maxRecDepth 100000
set_option maxHeartbeats 4000000
/-! the rows of a text -/
namespace Pd
open PySem PySem.Spec PyProof.Rows L2
/-- a row: its kind, two numbers, a sign -/
structure Rw where
  k : Nat
  a : Nat
  b : Nat
  s : Option Sg
def kindC : Nat → List Nat
  | 0 => [104, 97, 108, 108]
  | 1 => [119, 97, 108, 108]
  | 2 => [100, 111, 111, 114]
  | _ => [97, 116]
structure Rw.Ok (r : Rw) : Prop where
  a : r.a < 10
  b : r.b < 10
  s : (r.k = 0 ∧ r.s = none) ∨ (r.k = 1 ∧ (r.s = some .h ∨ r.s = some .v)) ∨ (r.k = 2 ∧ ∃ g, Way g ∧ r.s = some g) ∨ (r.k = 3 ∧ r.s = none)
def sgC : Option Sg → List (List Nat)
  | none => []
  | some g => [[g.code]]
def Rw.words (r : Rw) : List (List Nat) := kindC r.k :: [48 + r.a] :: [48 + r.b] :: sgC r.s
def Rw.line (r : Rw) : List Nat := gl 32 r.words
def Rw.thing (r : Rw) : PyData := .tuple ([.int r.a, .int r.b] ++ (match r.s with
  | none => []
  | some g => [sg g]))
theorem Rw.Ok.k4 {r : Rw} (o : r.Ok) : r.k < 4 := by
  rcases o.s with h | h | h | h <;> omega
theorem Rw.Ok.words32 {r : Rw} (o : r.Ok) : ∀ l ∈ r.words, 32 ∉ l := fun l hl => by
  have ha := o.a
  have hb := o.b
  have hk := o.k4
  obtain ⟨k, a, b, s⟩ := r
  simp only [Rw.words, List.mem_cons] at hl
  rcases hl with rfl | rfl | rfl | hl
  · match k, hk with
    | 0, _ => simp [kindC]
    | 1, _ => simp [kindC]
    | 2, _ => simp [kindC]
    | 3, _ => simp [kindC]
  · simp
    simp at ha
    omega
  · simp
    simp at hb
    omega
  · cases s with
    | none => cases hl
    | some g =>
      simp only [sgC, List.mem_singleton] at hl
      subst hl
      cases g <;> simp [Sg.code]
theorem Rw.line_eq (r : Rw) : r.line = kindC r.k ++ 32 :: (48 + r.a) :: 32 :: (48 + r.b) :: (match r.s with
  | none => []
  | some g => [32, g.code]) := by
  obtain ⟨k, a, b, s⟩ := r
  cases s <;> simp [Rw.line, Rw.words, sgC, gl]
theorem Rw.Ok.line10 {r : Rw} (o : r.Ok) : 10 ∉ r.line := by
  have ha := o.a
  have hb := o.b
  have hk := o.k4
  rw [Rw.line_eq]
  obtain ⟨k, a, b, s⟩ := r
  simp only at ha hb hk
  have h1 : 10 ∉ kindC k := by
    match k, hk with
    | 0, _ => simp [kindC]
    | 1, _ => simp [kindC]
    | 2, _ => simp [kindC]
    | 3, _ => simp [kindC]
  have h2 : 10 ∉ (match s with
    | none => []
    | some g => [32, g.code]) := by
    cases s with
    | none => simp
    | some g => cases g <;> simp [Sg.code]
  simp only [List.mem_append, List.mem_cons, not_or]
  exact ⟨h1, by omega, by omega, by omega, by omega, h2⟩
def textC (rs : List Rw) : List Nat := gl 10 (rs.map Rw.line)
def textOf (rs : List Rw) : Str := St' (textC rs)
theorem split_text {rs : List Rw} (h0 : rs ≠ []) (h : ∀ r ∈ rs, r.Ok) : Txt.split (textOf rs) ⟨#[10]⟩ = rs.map fun r => St' r.line := by
  have e := split_join 10 (rs.map Rw.line) (by simpa using h0) (fun l hl => by
    obtain ⟨r, hr, rfl⟩ := List.mem_map.mp hl
    exact (h r hr).line10)
  rw [List.map_map] at e
  exact e
theorem split_line {r : Rw} (h : r.Ok) : Txt.split (St' r.line) ⟨#[32]⟩ = r.words.map St' := split_join 32 r.words (by simp [Rw.words]) h.words32
/-- the rows of a hall and its walkers -/
def rowsOf (h : Hall) (cs : List Cell) : List Rw :=
  ⟨0, h.rows.toNat, h.cols.toNat, none⟩ :: (h.walls.map (fun e => ⟨1, e.1.toNat, e.2.1.toNat, some e.2.2⟩) ++ (h.doors.map (fun e => ⟨2, e.1.toNat, e.2.1.toNat, some e.2.2⟩) ++ cs.map (fun c => ⟨3, c.1.toNat, c.2.toNat, none⟩)))
theorem isEdge_rng {h : Hall} (o : HallOk h) {e : Edge} (he : isEdge h e = true) : 0 ≤ e.1 ∧ e.1 < 5 ∧ 0 ≤ e.2.1 ∧ e.2.1 < 5 := by
  have h1 := o.rows
  have h2 := o.cols
  unfold isEdge inH at he
  simp only [Bool.and_eq_true, decide_eq_true_eq] at he
  omega
theorem door_rng {h : Hall} (o : HallOk h) {e : Edge} (he : e ∈ h.doors) : 0 ≤ e.1 ∧ e.1 < 10 ∧ 0 ≤ e.2.1 ∧ e.2.1 < 10 := by
  have h1 := isEdge_rng o (o.doors e he)
  have hw := o.ways e he
  obtain ⟨r, c, w⟩ := e
  simp only at hw h1 ⊢
  rcases hw with rfl | rfl | rfl | rfl <;> simp [edgeFrom] at h1 <;> omega
theorem cell_rng {h : Hall} (o : HallOk h) {cs : List Cell} (oc : CellsOk h cs) {c : Cell} (hc : c ∈ cs) : 0 ≤ c.1 ∧ c.1 < 5 ∧ 0 ≤ c.2 ∧ c.2 < 5 := by
  have h1 := o.rows
  have h2 := o.cols
  have := oc.cells c hc
  unfold inH at this
  simp only [Bool.and_eq_true, decide_eq_true_eq] at this
  omega
theorem rows_ok {h : Hall} {cs : List Cell} (o : HallOk h) (oc : CellsOk h cs) : ∀ r ∈ rowsOf h cs, r.Ok := fun r hr => by
  have h1 := o.rows
  have h2 := o.cols
  simp only [rowsOf, List.mem_cons, List.mem_append, List.mem_map] at hr
  rcases hr with rfl | ⟨e, he, rfl⟩ | ⟨e, he, rfl⟩ | ⟨c, hc, rfl⟩
  · exact ⟨by simp only; omega, by simp only; omega, .inl ⟨rfl, rfl⟩⟩
  · have h3 := isEdge_rng o (o.walls e he)
    refine ⟨by simp only; omega, by simp only; omega, .inr (.inl ⟨rfl, ?_⟩)⟩
    rcases isEdge_hv (o.walls e he) with q | q
    · exact .inl (congrArg some q)
    · exact .inr (congrArg some q)
  · have h3 := door_rng o he
    exact ⟨by simp only; omega, by simp only; omega, .inr (.inr (.inl ⟨rfl, e.2.2, o.ways e he, rfl⟩))⟩
  · have h3 := cell_rng o oc hc
    exact ⟨by simp only; omega, by simp only; omega, .inr (.inr (.inr ⟨rfl, rfl⟩))⟩
/-- what the rows of one kind tell -/
def thingsK (rs : List Rw) (k : Nat) : List PyData := (rs.filter fun r => r.k == k).map Rw.thing
theorem filtT {α : Type} (l : List α) : List.filter (fun _ => true) l = l := List.filter_eq_self.mpr fun _ _ => rfl
theorem filtF {α : Type} (l : List α) : List.filter (fun _ => false) l = [] := List.filter_eq_nil_iff.mpr fun _ _ z => Bool.noConfusion z
theorem things_hall (h : Hall) (cs : List Cell) : thingsK (rowsOf h cs) 0 = [Rw.thing ⟨0, h.rows.toNat, h.cols.toNat, none⟩] := by
  simp [thingsK, rowsOf, List.filter_map, List.filter_append, Function.comp_def]
theorem things_wall {h : Hall} {cs : List Cell} (o : HallOk h) : thingsK (rowsOf h cs) 1 = h.walls.map edgeD := by
  simp only [thingsK, rowsOf, List.filter_cons, List.filter_append, List.filter_map, Function.comp_def]
  simp
  simp only [filtT, filtF, List.map_nil, List.append_nil, List.nil_append]
  refine List.map_congr_left fun e he => ?_
  have h3 := isEdge_rng o (o.walls e he)
  simp only [Function.comp_apply, Rw.thing, edgeD, List.cons_append, List.nil_append]
  rw [Int.toNat_of_nonneg h3.1, Int.toNat_of_nonneg h3.2.2.1]
theorem things_door {h : Hall} {cs : List Cell} (o : HallOk h) : thingsK (rowsOf h cs) 2 = h.doors.map edgeD := by
  simp only [thingsK, rowsOf, List.filter_cons, List.filter_append, List.filter_map, Function.comp_def]
  simp
  simp only [filtT, filtF, List.map_nil, List.append_nil, List.nil_append]
  refine List.map_congr_left fun e he => ?_
  have h3 := door_rng o he
  simp only [Function.comp_apply, Rw.thing, edgeD, List.cons_append, List.nil_append]
  rw [Int.toNat_of_nonneg h3.1, Int.toNat_of_nonneg h3.2.2.1]
theorem things_at {h : Hall} {cs : List Cell} (o : HallOk h) (oc : CellsOk h cs) : thingsK (rowsOf h cs) 3 = cs.map cellD := by
  simp only [thingsK, rowsOf, List.filter_cons, List.filter_append, List.filter_map, Function.comp_def]
  simp
  simp only [filtT, filtF, List.map_nil, List.append_nil, List.nil_append]
  refine List.map_congr_left fun c hc => ?_
  have h3 := cell_rng o oc hc
  simp only [Function.comp_apply, Rw.thing, cellD, List.append_nil]
  rw [Int.toNat_of_nonneg h3.1, Int.toNat_of_nonneg h3.2.2.1]
/-- the kinds come in turn, the hall's row alone stands first -/
structure RowsOk (rs : List Rw) : Prop where
  ne : rs ≠ []
  ok : ∀ r ∈ rs, r.Ok
  first : ∀ (n : Nat) (r : Rw), rs[n]? = some r → (r.k = 0 ↔ n = 0)
  turn : ∀ (m n : Nat) (r s : Rw), m ≤ n → rs[m]? = some r → rs[n]? = some s → r.k ≤ s.k
  len : rs.length ≤ 40
theorem rows_all {h : Hall} {cs : List Cell} (o : HallOk h) (oc : CellsOk h cs) : RowsOk (rowsOf h cs) := by
  have nw := o.nwalls
  have nd := o.ndoors
  have nc := oc.most
  refine ⟨by simp [rowsOf], rows_ok o oc, fun n r e => ?_, ?_, by simp [rowsOf]; omega⟩
  · cases n with
    | zero =>
      simp [rowsOf] at e
      subst e
      simp
    | succ n =>
      have hm := List.mem_of_getElem? (show (h.walls.map (fun e => (⟨1, e.1.toNat, e.2.1.toNat, some e.2.2⟩ : Rw)) ++ (h.doors.map (fun e => (⟨2, e.1.toNat, e.2.1.toNat, some e.2.2⟩ : Rw)) ++ cs.map (fun c => (⟨3, c.1.toNat, c.2.toNat, none⟩ : Rw))))[n]? = some r by simpa [rowsOf] using e)
      simp only [List.mem_append, List.mem_map] at hm
      rcases hm with ⟨e, _, rfl⟩ | ⟨e, _, rfl⟩ | ⟨c, _, rfl⟩ <;> simp
  · have hp : (rowsOf h cs).Pairwise fun a b => a.k ≤ b.k := by
      unfold rowsOf
      refine List.pairwise_cons.mpr ⟨fun _ _ => Nat.zero_le _, List.pairwise_append.mpr ⟨?_, List.pairwise_append.mpr ⟨?_, ?_, ?_⟩, ?_⟩⟩
      · exact List.pairwise_map.mpr (List.pairwise_of_forall fun _ _ => Nat.le_refl _)
      · exact List.pairwise_map.mpr (List.pairwise_of_forall fun _ _ => Nat.le_refl _)
      · exact List.pairwise_map.mpr (List.pairwise_of_forall fun _ _ => Nat.le_refl _)
      · intro a ha b hb
        obtain ⟨_, _, rfl⟩ := List.mem_map.mp ha
        obtain ⟨_, _, rfl⟩ := List.mem_map.mp hb
        simp
      · intro a ha b hb
        obtain ⟨_, _, rfl⟩ := List.mem_map.mp ha
        rcases List.mem_append.mp hb with hb | hb <;> obtain ⟨_, _, rfl⟩ := List.mem_map.mp hb <;> simp
    intro m n r s hmn hr hs
    rcases Nat.lt_or_eq_of_le hmn with hlt | rfl
    · obtain ⟨h1, rfl⟩ := List.getElem?_eq_some_iff.mp hr
      obtain ⟨h2, rfl⟩ := List.getElem?_eq_some_iff.mp hs
      exact List.pairwise_iff_getElem.mp hp m n h1 h2 hlt
    · rw [hr] at hs
      cases hs
      exact Nat.le_refl _
end Pd

/-! SemP -/
set_option Elab.async false
set_option linter.all false
set_option maxRecDepth 100000
set_option maxHeartbeats 4000000
namespace Pd
open PySem PySem.Spec PyProof.Rows L2 PySem.W
local macro_rules | `(tactic| walk_at "ed") => `(tactic| repeat' (first
  | with_reducible (first
    | exact ed_int | exact ed_str | exact ed_bl | exact ed_non
    | exact ea_nil | refine' ea_cons ?_ ?_
    | refine' ed_isi ?_ ?_ | refine' ed_isi2 ?_ ?_ ?_
    | refine' ed_andV ?_ (fun _ => ?_) | refine' ed_orV ?_ (fun _ => ?_) | refine' ed_notV ?_
    | refine' ed_chain ?_ ?_ ?_ (fun _ => ⟨?_, ?_⟩)
    | refine' ed_tup ?_ ?_ | refine' ed_lst ?_ ?_
    | refine' et_not ?_ | refine' et_and ?_ (fun _ => ?_) | refine' et_or ?_ (fun _ => ?_) | exact et_yes
    | refine' et_test ?_ | refine' et_B ?_
    | refine' ed_op ?_ ?_ ?_
    | refine' ed_cb ?_ ?_)
  | exact ed_var rfl
  | exact kit_tt | exact kit_ii | exact kit_ib | exact kit_ll | exact kit_lt | exact kit_tl
  | exact r2_addI | exact r2_subI | exact r2_lt | exact r2_le | exact r2_gt | exact r2_ge | exact r2_isN | exact r2_notN
  | exact rc_lenT | exact rc_lenL | exact rc_intB | exact rc_tupL
  | with_reducible (first | refine' r2_eq ?_ ?_ | refine' r2_ne ?_ ?_)
  | exact sh_int _ | exact sh_sg _ | exact sh_cell _ | exact sh_edge _ | exact sh_pair _ | exact sh_str _ (by decide +kernel)
  | exact r2_ixT rfl | exact r2_ixL rfl
  | refine' ed_tup ?_ ?_
  | (show List.length _ ≤ 100000; simp; done)))
/-! ### figures, rows, what they tell -/
theorem kC0 : ("hall" : Str) = St' (kindC 0) := by decide +kernel
theorem kC1 : ("wall" : Str) = St' (kindC 1) := by decide +kernel
theorem kC2 : ("door" : Str) = St' (kindC 2) := by decide +kernel
theorem kC3 : ("at" : Str) = St' (kindC 3) := by decide +kernel
theorem pC0 : ("hall " : Str) = St' (kindC 0 ++ [32]) := by decide +kernel
theorem pC1 : ("wall " : Str) = St' (kindC 1 ++ [32]) := by decide +kernel
theorem pC2 : ("door " : Str) = St' (kindC 2 ++ [32]) := by decide +kernel
theorem pC3 : ("at " : Str) = St' (kindC 3 ++ [32]) := by decide +kernel
theorem sp32 : (" " : Str) = St' [32] := by decide +kernel
theorem nl10 : ("\n" : Str) = ⟨#[10]⟩ := by decide +kernel
theorem st_app (x y : List Nat) : St' x ++ St' y = St' (x ++ y) := str_ext (by
  show (x.toArray ++ y.toArray).toList = (x ++ y).toArray.toList
  simp)
theorem st_len (x : List Nat) : (St' x).length = x.length := by
  show x.toArray.size = _
  simp
theorem int_fig : ∀ d : Nat, d < 10 → PySem.intText? (St' [48 + d]) = some (d : Int) := by
  intro d h
  match d, h with
  | 0, _ => decide +kernel
  | 1, _ => decide +kernel
  | 2, _ => decide +kernel
  | 3, _ => decide +kernel
  | 4, _ => decide +kernel
  | 5, _ => decide +kernel
  | 6, _ => decide +kernel
  | 7, _ => decide +kernel
  | 8, _ => decide +kernel
  | 9, _ => decide +kernel
theorem fig_int : ∀ d : Nat, d < 10 → (Str.ofString (toString ((d : Nat) : Int))) = St' [48 + d] := by
  intro d h
  match d, h with
  | 0, _ => decide +kernel
  | 1, _ => decide +kernel
  | 2, _ => decide +kernel
  | 3, _ => decide +kernel
  | 4, _ => decide +kernel
  | 5, _ => decide +kernel
  | 6, _ => decide +kernel
  | 7, _ => decide +kernel
  | 8, _ => decide +kernel
  | 9, _ => decide +kernel
def wordD (l : List Nat) : PyData := .str (St' l)
def Rw.wordsD (r : Rw) : PyData := .list (r.words.map wordD)
theorem Rw.ix0 (r : Rw) : atI (r.words.map wordD) 0 = some (wordD (kindC r.k)) := by obtain ⟨k, a, b, s⟩ := r; cases s <;> rfl
theorem Rw.ix1 (r : Rw) : atI (r.words.map wordD) 1 = some (wordD [48 + r.a]) := by obtain ⟨k, a, b, s⟩ := r; cases s <;> rfl
theorem Rw.ix2 (r : Rw) : atI (r.words.map wordD) 2 = some (wordD [48 + r.b]) := by obtain ⟨k, a, b, s⟩ := r; cases s <;> rfl
theorem Rw.ix3 {r : Rw} {g : Sg} (h : r.s = some g) : atI (r.words.map wordD) 3 = some (sg g) := by obtain ⟨k, a, b, s⟩ := r; cases h; rfl
theorem Rw.len (r : Rw) : (r.words.map wordD).length = match r.s with | none => 3 | some _ => 4 := by obtain ⟨k, a, b, s⟩ := r; cases s <;> rfl
section
variable {K : PySem.W.Frag} {w : World} {ρ : Rho} {ta tb tc te tk : TE}
/-- x in D, D a dict of the module -/
theorem ed_inKD {a : Addr} {x : Str} {r : Option Value} (h : ED te ρ (.str x)) (hd : ∃ es n, KDict K w a es n) (hn : PySem.W.nsIn K a x = some r) : ED (tOp (rInKD K w) te (tC (.ref a))) ρ (.bool r.isSome) := fun σ B H ex ev Q q => by
  refine h σ B H ex ev _ fun v B1 H1 g1 d1 => ?_
  cases d1
  exact ⟨x, a, r, rfl, rfl, hd, hn, q _ B1 H1 g1 (.bl _)⟩
/-- x in D[z], D a dict of the module, of tuples -/
theorem ed_inKD2 {a t : Addr} {x z : Str} {xs : List V} (h : ED te ρ (.str x)) (hk : ED tk ρ (.str z)) (hd : KDct K w a z (.ref t)) (hT : ∀ H, SqT K H t xs) (hf : xs.all flatV = true) : ED (tOp (rInX K false) te (tOp (rIxD K w) (tC (.ref a)) tk)) ρ (.bool (inV (.str x) xs)) := fun σ B H ex ev Q q => by
  refine h σ B H ex ev _ fun v B1 H1 g1 d1 => ?_
  cases d1
  refine hk σ B1 H1 g1.t (ev.mono g1.b) _ fun v B2 H2 g2 d2 => ?_
  cases d2
  refine ⟨a, z, _, rfl, rfl, hd, ?_⟩
  exact .inr (.inr (.inl ⟨t, xs, rfl, .inr (hT H2), rfl, hf, q _ B2 H2 (g1.trans g2) (.bl _)⟩))
theorem KDct.kdict {a : Addr} {z : Str} {v : V} (h : KDct K w a z v) (hl : (a == sysModules) = false) : ∃ es n, KDict K w a es n := by
  obtain ⟨es, n, u, h1, h2, _, _⟩ := h
  exact ⟨es, n, h1, h2, hl⟩
theorem KDct.ns {a : Addr} {z : Str} {v : V} (h : KDct K w a z v) : ∃ u, PySem.W.nsIn K a z = some (some u) := by
  obtain ⟨es, n, u, h1, h2, h3, _⟩ := h
  exact ⟨u, h3⟩
inductive R_is_figure : List PyData → PyData → Prop | mk (d : Nat) (h : d < 10) : R_is_figure [wordD [48 + d]] (.bool true)
theorem rp_is_figure {ds : List PyData} {d : PyData} (h : R_is_figure ds d) : RD (rd_is_figure K) (ds.map some ++ List.replicate (1 - ds.length) none) d := by
  obtain ⟨n, h⟩ := h
  refine rd_ret (ED.is (ed_andV (a := true) (b := true) (ED.is (ed_op (ed_cb (ea_cons (ed_var rfl) ea_nil) (rc_lenS (by rw [st_len]; show 1 ≤ 100000; decide))) ed_int (r2_eq (sh_int _) (sh_int _))) ?_) fun _ => ED.is (ed_op (ed_var rfl) ed_str (r2_inS (c := 48 + n))) ?_) rfl)
  · rw [st_len]
    simp [eqv_int]
  · rw [if_neg (by decide)]
    have : ∀ n < 10, decide (48 + n ∈ ("0123456789" : Str).cps.toList) = true := by decide +kernel
    rw [this n h]
/-- the facts of the module's tables -/
structure Tabs (K : PySem.W.Frag) (w : World) (aKINDS aSIGNS : Addr) : Prop where
  kinds : ∀ H : Hp, SqT K H aKINDS [.str "hall", .str "wall", .str "door", .str "at"]
  tk : ∃ o, K.lookup aKINDS = some o ∧ o.cls = .type "tuple" ∧ o.dict = none
  signs : ∃ es n, KDict K w aSIGNS es n
  n0 : PySem.W.nsIn K aSIGNS "hall" = some none
  n3 : PySem.W.nsIn K aSIGNS "at" = some none
  d1 : ∃ t, KDct K w aSIGNS "wall" (.ref t) ∧ ∀ H : Hp, SqT K H t [.str "-", .str "|"]
  d2 : ∃ t, KDct K w aSIGNS "door" (.ref t) ∧ ∀ H : Hp, SqT K H t [.str "e", .str "n", .str "s", .str "w"]
inductive R_is_row : List PyData → PyData → Prop | mk (r : Rw) (o : r.Ok) : R_is_row [r.wordsD] (.bool true)
theorem in_kinds {k : Nat} (h : k < 4) : inV (.str (St' (kindC k))) [.str "hall", .str "wall", .str "door", .str "at"] = true := by
  match k, h with
  | 0, _ => decide +kernel
  | 1, _ => decide +kernel
  | 2, _ => decide +kernel
  | 3, _ => decide +kernel
theorem rp_is_row {aKINDS aSIGNS : Addr} (T : Tabs K w aKINDS aSIGNS) {ds : List PyData} {d : PyData} (h : R_is_row ds d) : RD (rd_is_row K w aKINDS aSIGNS (spR R_is_figure)) (ds.map some ++ List.replicate (1 - ds.length) none) d := by
  obtain ⟨r, o⟩ := h
  have h0 : ED (tOp (rIx K) (tVar 0) (tC (.int 0))) [some r.wordsD] (.str (St' (kindC r.k))) := ed_op (ed_var rfl) ed_int (r2_ixL r.ix0)
  refine rd_ifS (b := false) (ET.is (et_or (a := false) (et_test (ED.is (ed_inK h0 T.kinds (by decide)) ?_)) fun _ => et_test (ed_op (ed_cb (ea_cons (ed_var (d := .list (r.words.map wordD)) rfl) ea_nil) rc_lenL) ed_int r2_lt)) ?_) (fun z => nomatch z) (fun _ => ?_)
  · rw [if_pos rfl, in_kinds o.k4]
    rfl
  · rw [r.len]
    cases r.s <;> rfl
  refine rd_ifS (b := false) (ET.is (et_or (et_not (et_B (ed_call (ea_cons (ed_op (ed_var rfl) ed_int (r2_ixL r.ix1)) ea_nil) (.mk r.a o.a)))) fun _ => et_not (et_B (ed_call (ea_cons (ed_op (ed_var rfl) ed_int (r2_ixL r.ix2)) ea_nil) (.mk r.b o.b)))) rfl) (fun z => nomatch z) (fun _ => ?_)
  have hlen : ED (tCB (rLenX K) (tCons (tVar 0) tNil)) [some r.wordsD] (.int ((r.words.map wordD).length : Nat)) := ed_cb (ea_cons (ed_var (d := .list (r.words.map wordD)) rfl) ea_nil) rc_lenL
  have sgn : ∀ {z : Str} {v : Str} {t : Addr} {xs : List V} {g : Sg}, r.s = some g → z = St' (kindC r.k) → KDct K w aSIGNS z (.ref t) → (∀ H : Hp, SqT K H t xs) → xs.all flatV = true → inV (.str ⟨#[g.code]⟩) xs = true →
      RD (tSeq (tIfS (tTest (tOp (rInKD K w) (tOp (rIx K) (tVar 0) (tC (.int 0))) (tC (.ref aSIGNS)))) (tRet (tAndV (tOp (rEqD K) (tCB (rLenX K) (tCons (tVar 0) tNil)) (tC (.int 4))) (tOp (rInX K false) (tOp (rIx K) (tVar 0) (tC (.int 3))) (tOp (rIxD K w) (tC (.ref aSIGNS)) (tOp (rIx K) (tVar 0) (tC (.int 0))))))) tNext) (tRet (tOp (rEqD K) (tCB (rLenX K) (tCons (tVar 0) tNil)) (tC (.int 3))))) [some r.wordsD] (.bool true) := by
    intro z v t xs g hs hz hd hT hf hin
    subst hz
    obtain ⟨u, hu⟩ := KDct.ns hd
    refine rd_ifS (b := true) (ET.is (et_test (ed_inKD h0 T.signs hu)) rfl) (fun _ => ?_) (fun z => nomatch z)
    refine rd_ret (ED.is (ed_andV (a := true) (b := true) (ED.is (ed_op hlen ed_int (r2_eq (sh_int _) (sh_int _))) ?_) fun _ => ED.is (ed_inKD2 (ed_op (ed_var rfl) ed_int (r2_ixL (r.ix3 hs))) h0 hd hT hf) (congrArg PyData.bool hin)) rfl)
    rw [r.len, hs]
    rfl
  have no : ∀ {z : Str}, r.s = none → z = St' (kindC r.k) → PySem.W.nsIn K aSIGNS z = some none →
      RD (tSeq (tIfS (tTest (tOp (rInKD K w) (tOp (rIx K) (tVar 0) (tC (.int 0))) (tC (.ref aSIGNS)))) (tRet (tAndV (tOp (rEqD K) (tCB (rLenX K) (tCons (tVar 0) tNil)) (tC (.int 4))) (tOp (rInX K false) (tOp (rIx K) (tVar 0) (tC (.int 3))) (tOp (rIxD K w) (tC (.ref aSIGNS)) (tOp (rIx K) (tVar 0) (tC (.int 0))))))) tNext) (tRet (tOp (rEqD K) (tCB (rLenX K) (tCons (tVar 0) tNil)) (tC (.int 3))))) [some r.wordsD] (.bool true) := by
    intro z hs hz hn
    subst hz
    refine rd_ifS (b := false) (ET.is (et_test (ed_inKD h0 T.signs hn)) rfl) (fun z => nomatch z) (fun _ => ?_)
    refine rd_ret (ED.is (ed_op hlen ed_int (r2_eq (sh_int _) (sh_int _))) ?_)
    rw [r.len, hs]
    rfl
  rcases o.s with ⟨hk, hs⟩ | ⟨hk, hs⟩ | ⟨hk, g, hw, hs⟩ | ⟨hk, hs⟩
  · exact no hs (by rw [hk]; exact kC0) T.n0
  · obtain ⟨t, hd, hT⟩ := T.d1
    rcases hs with hs | hs
    · exact sgn (v := "") hs (by rw [hk]; exact kC1) hd hT (by decide) (by decide +kernel)
    · exact sgn (v := "") hs (by rw [hk]; exact kC1) hd hT (by decide) (by decide +kernel)
  · obtain ⟨t, hd, hT⟩ := T.d2
    refine sgn (v := "") hs (by rw [hk]; exact kC2) hd hT (by decide) ?_
    rcases hw with rfl | rfl | rfl | rfl <;> decide +kernel
  · exact no hs (by rw [hk]; exact kC3) T.n3
inductive R_thing_of : List PyData → PyData → Prop | mk (r : Rw) (o : r.Ok) : R_thing_of [r.wordsD] r.thing
theorem rc_intS {n : Nat} (h : n < 10) : RC rIntS [wordD [48 + n]] (.int (n : Nat)) := fun B H vs ex dv Q q => by
  cases dv with
  | cons a r =>
    cases r
    cases a
    exact ⟨_, _, rfl, int_fig n h, by rw [st_len]; show 1 ≤ 640; decide, q _ B H (Gr.refl ex) (.int _)⟩
theorem rp_thing_of {ds : List PyData} {d : PyData} (h : R_thing_of ds d) : RD (rd_thing_of K) (ds.map some ++ List.replicate (1 - ds.length) none) d := by
  obtain ⟨r, o⟩ := h
  refine rd_ret (ED.is (ed_op (ed_tup (ea_cons (ed_cb (ea_cons (ed_op (ed_var rfl) ed_int (r2_ixL r.ix1)) ea_nil) (rc_intS o.a)) (ea_cons (ed_cb (ea_cons (ed_op (ed_var rfl) ed_int (r2_ixL r.ix2)) ea_nil) (rc_intS o.b)) ea_nil)) (by simp)) (ed_cb (ea_cons (ed_slL (ds := r.words.map wordD) (ed_var rfl) (eo_some ed_int) eo_none) ea_nil) rc_tupL) (r2_catT ?_)) ?_)
  · obtain ⟨k, a, b, s⟩ := r
    cases s
    · show 2 + 0 ≤ 100000
      decide
    · show 2 + 1 ≤ 100000
      decide
  · obtain ⟨k, a, b, s⟩ := r
    cases s <;> rfl
end
end Pd

/-! SemO -/
set_option Elab.async false
set_option linter.all false
set_option maxRecDepth 100000
set_option maxHeartbeats 4000000
namespace Pd
open PySem PySem.Spec PyProof.Rows L2 PySem.W
local macro_rules | `(tactic| walk_at "ed") => `(tactic| repeat' (first
  | with_reducible (first
    | exact ed_int | exact ed_str | exact ed_bl | exact ed_non
    | exact ea_nil | refine' ea_cons ?_ ?_
    | refine' ed_isi ?_ ?_ | refine' ed_isi2 ?_ ?_ ?_
    | refine' ed_andV ?_ (fun _ => ?_) | refine' ed_orV ?_ (fun _ => ?_) | refine' ed_notV ?_
    | refine' ed_chain ?_ ?_ ?_ (fun _ => ⟨?_, ?_⟩)
    | refine' ed_tup ?_ ?_ | refine' ed_lst ?_ ?_
    | refine' et_not ?_ | refine' et_and ?_ (fun _ => ?_) | refine' et_or ?_ (fun _ => ?_) | exact et_yes
    | refine' et_test ?_ | refine' et_B ?_
    | refine' ed_op ?_ ?_ ?_
    | refine' ed_cb ?_ ?_)
  | exact ed_var rfl
  | exact kit_tt | exact kit_ii | exact kit_ib | exact kit_ll | exact kit_lt | exact kit_tl
  | exact r2_addI | exact r2_subI | exact r2_lt | exact r2_le | exact r2_gt | exact r2_ge | exact r2_isN | exact r2_notN
  | exact rc_lenT | exact rc_lenL | exact rc_intB | exact rc_tupL
  | with_reducible (first | refine' r2_eq ?_ ?_ | refine' r2_ne ?_ ?_)
  | exact sh_int _ | exact sh_sg _ | exact sh_cell _ | exact sh_edge _ | exact sh_pair _ | exact sh_str _ (by decide +kernel)
  | exact r2_ixT rfl | exact r2_ixL rfl
  | refine' ed_tup ?_ ?_
  | (show List.length _ ≤ 100000; simp; done)))
/-! ### one list of one's own, statement by statement -/
section
variable {K : PySem.W.Frag} {B0 B1 H1 B H : Hp} {l : Addr} {j : Nat} {σ : L2.St} {ρ ρ1 ρ0 : Rho} {ds : List PyData} {te : TE} {tt : TT} {d : PyData} {vs : List Nat}
theorem Own1.env {σ' : L2.St} (o : Own1 B0 B1 H1 l j σ B H ρ ds) (e : EnvD σ' B ρ1) (w : L2.wipe σ' vs = L2.wipe σ vs) (hj : j ∉ vs) : Own1 B0 B1 H1 l j σ' B H ρ1 ds := by
  refine ⟨o.b0, o.g, o.f, ?_, o.n, o.h, e⟩
  have h1 := wipe_get σ' vs j
  have h2 := wipe_get σ vs j
  rw [if_neg (fun z => hj z.1)] at h1 h2
  rw [← h1, w, h2]
  exact o.s
theorem oo_asg {g : TG} {D : Ends} (o : Own1 B0 B1 H1 l j σ B H ρ ds) (h : ED te ρ d) (hg : GD g ρ d ρ1 vs) (hj : j ∉ vs) (k : ∀ σ' B' H', Own1 B0 B1 H1 l j σ' B' H' ρ1 ds → D.nx σ' H') : tAsg te g D σ H := by
  refine h σ B H o.g.t o.e _ fun v B2 H2 g2 dv => ?_
  have o2 := o.mono g2
  exact hg σ B2 H2 v o2.g.t o2.e dv _ fun σ' ev w => k σ' B2 H2 (o2.env ev w hj)
theorem oo_if {b : Bool} {t u : TS} {D : Ends} (o : Own1 B0 B1 H1 l j σ B H ρ ds) (h : ET tt ρ b) (h1 : b = true → ∀ B H, Own1 B0 B1 H1 l j σ B H ρ ds → t D σ H) (h2 : b = false → ∀ B H, Own1 B0 B1 H1 l j σ B H ρ ds → u D σ H) : tIfS tt t u D σ H := by
  refine h σ B H o.g.t o.e _ fun B2 H2 g2 => ?_
  cases b with
  | true => exact h1 rfl B2 H2 (o.mono g2)
  | false => exact h2 rfl B2 H2 (o.mono g2)
theorem oo_app {D : Ends} (o : Own1 B0 B1 H1 l j σ B H ρ ds) (h : ED te ρ d) (hz : ds.length < 100000) (k : ∀ B' H', Own1 B0 B1 H1 l j σ B' H' ρ (ds ++ [d]) → D.nx σ H') : tDrop (tBM K "list" rAppend (tVar j) (tCons te tNil)) D σ H := by
  refine ⟨.ref l, o.s, ?_⟩
  obtain ⟨xs0, hl0, _⟩ := o.h
  refine ⟨.inl ⟨rfl, _, SqL.of hl0⟩, ?_⟩
  refine h σ B H o.g.t o.e _ fun v B2 H2 g2 dv => ?_
  have o2 := o.mono g2
  obtain ⟨xs, hl, hx⟩ := o2.h
  refine ⟨l, xs, v, rfl, rfl, hl, ?_, k B2 _ ⟨o2.b0, ⟨o2.g.b, o2.g.t.mut o2.n, o2.g.h.mut o2.f, o2.g.n⟩, o2.f, o2.s, o2.n, ⟨_, upd_same, hx.append (.one dv)⟩, o2.e⟩⟩
  rw [hx.length]
  exact Nat.lt_trans hz (by decide)
theorem oo_for {α : Type} {wi : TI} {g : TG} {tb : TS} {D : Ends} {items : List α} (enc : α → PyData) (o : Own1 B0 B1 H1 l j σ B H ρ ds) (hi : IE wi ρ (items.map enc)) (P : Nat → Rho → List PyData → Prop) (p0 : P 0 ρ ds)
    (turn : ∀ n x, items[n]? = some x → ∀ ρ ds, P n ρ ds → ∀ B0 σ B H N v, Own1 B0 B1 H1 l j σ B H ρ ds → DH B v (enc x) → (∀ σ' B' H' ρ' ds', P (n + 1) ρ' ds' → Own1 B0 B1 H1 l j σ' B' H' ρ' ds' → N σ' H') → g v σ H fun σ2 H2 => tb { D with nx := N, ct := N, bk := D.nx } σ2 H2)
    (k : ∀ ρ' ds' σ' B' H', P items.length ρ' ds' → Own1 B0 B1 H1 l j σ' B' H' ρ' ds' → D.nx σ' H') : tFor wi g tb D σ H := by
  refine hi σ B H o.g.t o.e _ fun J B2 H2 g2 hJ => ?_
  have oB := (o.mono g2).base (Ex.refl B2)
  refine ⟨fun n m σ' H' => m = items.length - n ∧ n ≤ items.length ∧ ∃ B' ρ' ds', P n ρ' ds' ∧ Own1 B2 B1 H1 l j σ' B' H' ρ' ds', ⟨items.length, by omega, Nat.zero_le _, B2, ρ, ds, p0, oB⟩, ?_⟩
  rintro n m σ' H' ⟨rfl, hle, B', ρ', ds', hP, o'⟩
  obtain ⟨hstop, hgo⟩ := hJ B' H' o'.b0 o'.g.t n
  by_cases hlt : n < items.length
  · right
    have hd : items[n]? = some items[n] := List.getElem?_eq_getElem hlt
    obtain ⟨go, hy⟩ := hgo (enc items[n]) (by rw [List.getElem?_map, hd]; rfl)
    refine ⟨go, fun σ2 H2 => n + 1 ≤ items.length ∧ ∃ B' ρ' ds', P (n + 1) ρ' ds' ∧ Own1 B2 B1 H1 l j σ2 B' H2 ρ' ds', fun σ2 H2 ⟨p1, p2⟩ => ⟨items.length - (n + 1), by omega, rfl, p1, p2⟩, fun x H3 hyl => ?_⟩
    obtain ⟨B3, g3, dx⟩ := hy x H3 hyl
    exact turn n _ hd ρ' ds' hP B2 _ B3 H3 _ x (o'.mono g3) dx fun σ4 B4 H4 ρ4 ds4 hP4 o4 => ⟨hlt, B4, ρ4, ds4, hP4, o4⟩
  · left
    have hie : n = items.length := by omega
    subst hie
    exact ⟨hstop (by rw [List.length_map]), k ρ' ds' σ' B' H' hP (o'.base ((o.b0.trans g2.b).trans o'.b0))⟩
theorem oo_ext {es : List PyData} {D : Ends} (o : Own1 B0 B1 H1 l j σ B H ρ ds) (h : ED te ρ (.list es)) (hz : ds.length + es.length ≤ 100000) (k : ∀ B' H', Own1 B0 B1 H1 l j σ B' H' ρ (ds ++ es) → D.nx σ H') : tDrop (tBM K "list" rExtend (tVar j) (tCons te tNil)) D σ H := by
  refine ⟨.ref l, o.s, ?_⟩
  obtain ⟨xs0, hl0, _⟩ := o.h
  refine ⟨.inl ⟨rfl, _, SqL.of hl0⟩, ?_⟩
  refine h σ B H o.g.t o.e _ fun v B2 H2 g2 dv => ?_
  have o2 := o.mono g2
  obtain ⟨xs, hl, hx⟩ := o2.h
  cases dv with
  | @lst b zs _ hb hzs =>
    refine ⟨l, b, xs, zs, rfl, rfl, hl, g2.t _ _ hb, ?_, k B2 _ ⟨o2.b0, ⟨o2.g.b, o2.g.t.mut o2.n, o2.g.h.mut o2.f, o2.g.n⟩, o2.f, o2.s, o2.n, ⟨_, upd_same, hx.append hzs⟩, o2.e⟩⟩
    rw [hx.length, hzs.length]
    exact Nat.le_trans hz (by decide)
theorem oo_start {D : Ends} (g : Gr B1 H1 B H) (ev : EnvD σ B ρ) (hj : j < ρ.length) (h : ED te ρ d) (k : ∀ l B' H', Gr B H B' H' → Own1 B' B1 H1 l j (σ.set j (some (.ref l))) B' H' (ρ.set j none) [d] → D.nx (σ.set j (some (.ref l))) H') : tAsg (tLst (tCons te tNil)) (gName j) D σ H := by
  refine h σ B H g.t ev _ fun v B2 H2 g2 dv => ?_
  refine ⟨by show 1 ≤ _; decide, fun l hl0 => ?_⟩
  have gg := g.trans g2
  exact k l B2 _ (g2.trans (Gr.own g2.t hl0)) ⟨Ex.refl B2, gg.trans (Gr.own gg.t hl0), gg.h.nil hl0, List.getElem?_set_self (by rw [ev.len]; exact hj), gg.t.nil hl0, ⟨[v], upd_same, .one dv⟩, (ev.mono g2.b).forget j _⟩
theorem oo_call {D : Ends} (o : Own1 B0 B1 H1 l j σ B H ρ ds) (h : ED te ρ d) (k : ∀ B' H', Own1 B0 B1 H1 l j σ B' H' ρ ds → D.nx σ H') : tDrop te D σ H :=
  h σ B H o.g.t o.e _ fun v B2 H2 g2 dv => k B2 H2 (o.mono g2)
end
end Pd

/-! SemQ -/
set_option Elab.async false
set_option linter.all false
set_option maxRecDepth 100000
set_option maxHeartbeats 4000000
namespace Pd
open PySem PySem.Spec PyProof.Rows L2 PySem.W
local macro_rules | `(tactic| walk_at "ed") => `(tactic| repeat' (first
  | with_reducible (first
    | exact ed_int | exact ed_str | exact ed_bl | exact ed_non
    | exact ea_nil | refine' ea_cons ?_ ?_
    | refine' ed_isi ?_ ?_ | refine' ed_isi2 ?_ ?_ ?_
    | refine' ed_andV ?_ (fun _ => ?_) | refine' ed_orV ?_ (fun _ => ?_) | refine' ed_notV ?_
    | refine' ed_chain ?_ ?_ ?_ (fun _ => ⟨?_, ?_⟩)
    | refine' ed_tup ?_ ?_ | refine' ed_lst ?_ ?_
    | refine' et_not ?_ | refine' et_and ?_ (fun _ => ?_) | refine' et_or ?_ (fun _ => ?_) | exact et_yes
    | refine' et_test ?_ | refine' et_B ?_
    | refine' ed_op ?_ ?_ ?_
    | refine' ed_cb ?_ ?_)
  | exact ed_var rfl
  | exact kit_tt | exact kit_ii | exact kit_ib | exact kit_ll | exact kit_lt | exact kit_tl
  | exact r2_addI | exact r2_subI | exact r2_lt | exact r2_le | exact r2_gt | exact r2_ge | exact r2_isN | exact r2_notN
  | exact rc_lenT | exact rc_lenL | exact rc_intB | exact rc_tupL
  | with_reducible (first | refine' r2_eq ?_ ?_ | refine' r2_ne ?_ ?_)
  | exact sh_int _ | exact sh_sg _ | exact sh_cell _ | exact sh_edge _ | exact sh_pair _ | exact sh_str _ (by decide +kernel)
  | exact r2_ixT rfl | exact r2_ixL rfl
  | refine' ed_tup ?_ ?_
  | (show List.length _ ≤ 100000; simp; done)))
/-! ### the text of a hall -/
def JD (ts : List TE) (ρ : Rho) (acc out : List Nat) : Prop := ∀ σ B H, Ex B H → EnvD σ B ρ → ∀ Q : Str → Hp → Prop, (∀ B' H', Gr B H B' H' → Q (St' out) H') → tJs ts (St' acc) σ H Q
section
variable {K : PySem.W.Frag} {w : World} {ρ : Rho} {ta tb tc te tk : TE}
theorem jd_nil {acc : List Nat} : JD [] ρ acc acc := fun σ B H ex ev Q q => q B H (Gr.refl ex)
theorem jd_cons {ts : List TE} {acc y out : List Nat} (h : ED te ρ (.str (St' y))) (hl : acc.length + y.length ≤ 100000) (k : JD ts ρ (acc ++ y) out) : JD (te :: ts) ρ acc out := fun σ B H ex ev Q q => by
  refine h σ B H ex ev _ fun v B1 H1 g1 d1 => ?_
  cases d1
  refine ⟨_, rfl, ?_, ?_⟩
  · rw [st_app, st_len, List.length_append]
    exact Nat.le_trans hl (by decide)
  · rw [st_app]
    exact k σ B1 H1 g1.t (ev.mono g1.b) Q fun B' H' g => q B' H' (g1.trans g)
theorem ed_joinF {ts : List TE} {out : List Nat} (h : JD ts ρ [] out) : ED (tJoin ts) ρ (.str (St' out)) := fun σ B H ex ev Q q => h σ B H ex ev _ fun B' H' g => q _ B' H' g (.str _)
theorem ed_strS {x : Str} {l : List Nat} (h : x = St' l) : ED (tC (.str x)) ρ (.str (St' l)) := h ▸ ed_str
theorem ed_fmtN {n : Nat} (h : ED te ρ (.int (n : Nat))) (hn : n < 10) : ED (tFmt te) ρ (.str (St' [48 + n])) := fun σ B H ex ev Q q => by
  refine h σ B H ex ev _ fun v B1 H1 g1 d1 => ?_
  cases d1
  refine .inr ⟨_, rfl, ?_, ?_⟩
  · exact Nat.lt_of_le_of_lt (Nat.log2_le_self _) (by show n < 1920; omega)
  · have e : ((toString ((n : Nat) : Int) : String) : Str) = St' [48 + n] := fig_int n hn
    rw [e]
    exact q _ B1 H1 g1 (.str _)
theorem ed_fmtS {l : List Nat} (h : ED te ρ (.str (St' l))) (hl : l.length ≤ 1000) : ED (tFmt te) ρ (.str (St' l)) := fun σ B H ex ev Q q => by
  refine h σ B H ex ev _ fun v B1 H1 g1 d1 => ?_
  cases d1
  exact .inl ⟨_, rfl, by rw [st_len]; exact Nat.le_trans hl (by decide), q _ B1 H1 g1 (.str _)⟩
theorem ed_strN {n : Nat} (h : ED te ρ (.int (n : Nat))) (hn : n < 10) : ED (tCB rStrI (tCons te tNil)) ρ (.str (St' [48 + n])) := fun σ B H ex ev Q q => by
  refine h σ B H ex ev _ fun v B1 H1 g1 d1 => ?_
  cases d1
  refine ⟨_, rfl, ?_, ?_⟩
  · exact Nat.lt_of_le_of_lt (Nat.log2_le_self _) (by show n < 1920; omega)
  · have e : ((toString ((n : Nat) : Int) : String) : Str) = St' [48 + n] := fig_int n hn
    rw [e]
    exact q _ B1 H1 g1 (.str _)
theorem ed_addS {x y : List Nat} (ha : ED ta ρ (.str (St' x))) (hb : ED tb ρ (.str (St' y))) (hl : x.length + y.length ≤ 100000) : ED (tOp (rAddX K) ta tb) ρ (.str (St' (x ++ y))) :=
  ED.is (ed_op ha hb (r2_addS (by rw [st_len, st_len]; exact hl))) (by rw [st_app])
theorem kC_len (k : Nat) : (kindC k).length ≤ 4 := by
  match k with
  | 0 => decide
  | 1 => decide
  | 2 => decide
  | n + 3 => exact (by decide : 2 ≤ 4)
def lineD (r : Rw) : PyData := .str (St' r.line)
/-- f'kind a b' -/
theorem ed_lineF0 {pre : Str} {r : Rw} (o : r.Ok) (hs : r.s = none) (hp : pre = St' (kindC r.k ++ [32])) (ha : ED ta ρ (.int (r.a : Nat))) (hb : ED tb ρ (.int (r.b : Nat))) : ED (tJoin [tC (.str pre), tFmt ta, tC (.str " "), tFmt tb]) ρ (lineD r) := by
  have h := kC_len r.k
  refine ED.is (ed_joinF (jd_cons (ed_strS hp) (by simp; omega) (jd_cons (ed_fmtN ha o.a) (by simp; omega) (jd_cons (ed_strS sp32) (by simp; omega) (jd_cons (ed_fmtN hb o.b) (by simp; omega) jd_nil))))) ?_
  refine congrArg (fun l => PyData.str (St' l)) ?_
  rw [Rw.line_eq, hs]
  simp
theorem ed_lineF1 {pre : Str} {r : Rw} {g : Sg} (o : r.Ok) (hs : r.s = some g) (hp : pre = St' (kindC r.k ++ [32])) (ha : ED ta ρ (.int (r.a : Nat))) (hb : ED tb ρ (.int (r.b : Nat))) (hc : ED tc ρ (sg g)) : ED (tJoin [tC (.str pre), tFmt ta, tC (.str " "), tFmt tb, tC (.str " "), tFmt tc]) ρ (lineD r) := by
  have h := kC_len r.k
  refine ED.is (ed_joinF (jd_cons (ed_strS hp) (by simp; omega) (jd_cons (ed_fmtN ha o.a) (by simp; omega) (jd_cons (ed_strS sp32) (by simp; omega) (jd_cons (ed_fmtN hb o.b) (by simp; omega) (jd_cons (ed_strS sp32) (by simp; omega) (jd_cons (ed_fmtS (l := [g.code]) hc (by simp)) (by simp; omega) jd_nil))))))) ?_
  refine congrArg (fun l => PyData.str (St' l)) ?_
  rw [Rw.line_eq, hs]
  simp
/-- 'kind ' + str(a) + ' ' + str(b) -/
theorem ed_lineS0 {pre : Str} {r : Rw} (o : r.Ok) (hs : r.s = none) (hp : pre = St' (kindC r.k ++ [32])) (ha : ED ta ρ (.int (r.a : Nat))) (hb : ED tb ρ (.int (r.b : Nat))) :
    ED (tOp (rAddX K) (tOp (rAddX K) (tOp (rAddX K) (tC (.str pre)) (tCB rStrI (tCons ta tNil))) (tC (.str " "))) (tCB rStrI (tCons tb tNil))) ρ (lineD r) := by
  have h := kC_len r.k
  refine ED.is (ed_addS (ed_addS (ed_addS (ed_strS hp) (ed_strN ha o.a) (by simp; omega)) (ed_strS sp32) (by simp; omega)) (ed_strN hb o.b) (by simp; omega)) ?_
  refine congrArg (fun l => PyData.str (St' l)) ?_
  rw [Rw.line_eq, hs]
  simp
theorem ed_lineS1 {pre : Str} {r : Rw} {g : Sg} (o : r.Ok) (hs : r.s = some g) (hp : pre = St' (kindC r.k ++ [32])) (ha : ED ta ρ (.int (r.a : Nat))) (hb : ED tb ρ (.int (r.b : Nat))) (hc : ED tc ρ (sg g)) :
    ED (tOp (rAddX K) (tOp (rAddX K) (tOp (rAddX K) (tOp (rAddX K) (tOp (rAddX K) (tC (.str pre)) (tCB rStrI (tCons ta tNil))) (tC (.str " "))) (tCB rStrI (tCons tb tNil))) (tC (.str " "))) tc) ρ (lineD r) := by
  have h := kC_len r.k
  have hc : ED tc ρ (.str (St' [g.code])) := hc
  refine ED.is (ed_addS (ed_addS (ed_addS (ed_addS (ed_addS (ed_strS hp) (ed_strN ha o.a) (by simp; omega)) (ed_strS sp32) (by simp; omega)) (ed_strN hb o.b) (by simp; omega)) (ed_strS sp32) (by simp; omega)) hc (by simp; omega)) ?_
  refine congrArg (fun l => PyData.str (St' l)) ?_
  rw [Rw.line_eq, hs]
  simp
theorem line_len {r : Rw} : r.line.length ≤ 10 := by
  have h := kC_len r.k
  rw [Rw.line_eq]
  cases r.s <;> simp <;> omega
theorem text_join (rs : List Rw) : Txt.join "\n" (rs.map fun r => St' r.line) = textOf rs := by
  have e : ∀ y parts, Txt.join y parts = Str.join y parts := fun y parts => StrLaws.glued_eq_join y parts
  rw [nl10, e]
  refine str_ext ?_
  rw [join_cps, List.map_map]
  show gl 10 _ = gl 10 _
  refine congrArg (gl 10) (List.map_congr_left fun r _ => ?_)
  simp [St']
theorem lines_len : ∀ rs : List Rw, ((rs.map fun r => St' r.line).map (·.length)).sum ≤ rs.length * 10
  | [] => by simp
  | r :: rs => by
    have := lines_len rs
    have h1 := line_len (r := r)
    simp only [List.map_cons, List.sum_cons, List.length_cons, st_len] at this ⊢
    omega
theorem ed_text {rs : List Rw} (h : ED te ρ (.list (rs.map lineD))) (hl : rs.length ≤ 40) : ED (tM1 (rJoin K) (tC (.str "\n")) te) ρ (.str (textOf rs)) := by
  have h : ED te ρ (.list ((rs.map fun r => St' r.line).map PyData.str)) := h.is (by rw [List.map_map]; rfl)
  refine ED.is (ed_join h ?_) (by rw [text_join])
  have h1 := lines_len rs
  have h2 : ("\n" : Str).length = 1 := by decide +kernel
  rw [h2, List.length_map]
  omega
def wallR (e : Edge) : Rw := ⟨1, e.1.toNat, e.2.1.toNat, some e.2.2⟩
def doorR (e : Edge) : Rw := ⟨2, e.1.toNat, e.2.1.toNat, some e.2.2⟩
def cellR (c : Cell) : Rw := ⟨3, c.1.toNat, c.2.toNat, none⟩
def hallR (h : Hall) : Rw := ⟨0, h.rows.toNat, h.cols.toNat, none⟩
theorem rowsOf_eq (h : Hall) (cs : List Cell) : rowsOf h cs = hallR h :: (h.walls.map wallR ++ (h.doors.map doorR ++ cs.map cellR)) := rfl
theorem row_mem0 (h : Hall) (cs : List Cell) : hallR h ∈ rowsOf h cs := by rw [rowsOf_eq]; exact .head _
theorem row_mem1 {h : Hall} (cs : List Cell) {e : Edge} (he : e ∈ h.walls) : wallR e ∈ rowsOf h cs := by
  rw [rowsOf_eq]
  exact .tail _ (List.mem_append_left _ (List.mem_map_of_mem he))
theorem row_mem2 {h : Hall} (cs : List Cell) {e : Edge} (he : e ∈ h.doors) : doorR e ∈ rowsOf h cs := by
  rw [rowsOf_eq]
  exact .tail _ (List.mem_append_right _ (List.mem_append_left _ (List.mem_map_of_mem he)))
theorem row_mem3 (h : Hall) {cs : List Cell} {c : Cell} (he : c ∈ cs) : cellR c ∈ rowsOf h cs := by
  rw [rowsOf_eq]
  exact .tail _ (List.mem_append_right _ (List.mem_append_right _ (List.mem_map_of_mem he)))
theorem intD {i : Int} (h : 0 ≤ i) : PyData.int i = .int (i.toNat : Nat) := by rw [Int.toNat_of_nonneg h]
theorem ED.int {i : Int} (h : ED te ρ (.int i)) (h0 : 0 ≤ i) : ED te ρ (.int (i.toNat : Nat)) := h.is (intD h0)
inductive R_written : List PyData → PyData → Prop | mk (h : Hall) (cs : List Cell) (o : HallOk h) (oc : CellsOk h cs) : R_written [hallD h, cellsD cs] (.str (textOf (rowsOf h cs)))
theorem rp_written {ds : List PyData} {d : PyData} (h : R_written ds d) : RD (rd_written K (spR (RN R_check_start))) (ds.map some ++ List.replicate (11 - ds.length) none) d := by
  obtain ⟨h, cs, ho, hc⟩ := h
  have rok := rows_ok ho hc
  intro σ B H D ex ev q
  have nw := ho.nwalls
  have nd := ho.ndoors
  have nc := hc.most
  have hr := ho.rows
  have hl := ho.cols
  unfold rd_written
  refine go_seq ?_
  refine sd_drop (ed_call (R := RN R_check_start) (ea_cons (ed_var rfl) (ea_cons (ed_var rfl) ea_nil)) ⟨⟨h, cs, rfl, ho, hc⟩, rfl⟩) σ B H _ ex ev fun σ B2 H2 g1 ev => ?_
  refine go_seq ?_
  refine sd_asg (d := hallD h) (ed_var rfl) (gd_tup (vs := [2, 3, 4, 5]) (gds_cons (gd_name (by simp)) (gds_cons (gd_name (by simp)) (gds_cons (gd_name (by simp)) (gds_cons (gd_name (by simp)) gds_nil)))) rfl) σ B2 H2 _ g1.t ev fun σ B2 H2 g2 ev => ?_
  have g1 := g1.trans g2
  have ev : EnvD σ B2 [some (hallD h), some (cellsD cs), some (.int h.rows), some (.int h.cols), some (.tuple (h.walls.map edgeD)), some (.tuple (h.doors.map edgeD)), none, none, none, none, none] := ev
  refine go_seq ?_
  refine oo_start (j := 6) g1 ev (by simp) (ed_lineF0 (r := hallR h) (rok _ (row_mem0 h cs)) rfl pC0 (ED.int (ed_var rfl) (by omega)) (ED.int (ed_var rfl) (by omega))) fun l B3 H3 g3 o => ?_
  generalize σ.set 6 (some (.ref l)) = σ at o ⊢
  have o : Own1 B3 B H l 6 σ B3 H3 [some (hallD h), some (cellsD cs), some (.int h.rows), some (.int h.cols), some (.tuple (h.walls.map edgeD)), some (.tuple (h.doors.map edgeD)), none, none, none, none, none] [lineD (hallR h)] := o
  refine go_seq ?_
  refine oo_ext (es := h.walls.map fun e => lineD (wallR e)) o (ed_lcM (vs := [7, 8, 9]) h.walls edgeD (fun e => lineD (wallR e)) (ie_tup (ed_var rfl)) (by omega) fun e he => ?_) (by simp; omega) fun B4 H4 o => ?_
  · have z := isEdge_rng ho (ho.walls e he)
    exact ⟨_, gd_tup (ds := [.int e.1, .int e.2.1, sg e.2.2]) (gds_cons (gd_name (by simp)) (gds_cons (gd_name (by simp)) (gds_cons (gd_name (by simp)) gds_nil))) rfl,
      ed_lineF1 (rok _ (row_mem1 cs he)) rfl pC1 (ED.int (ed_var rfl) z.1) (ED.int (ed_var rfl) z.2.2.1) (ed_var rfl)⟩
  refine go_seq ?_
  refine oo_ext (es := h.doors.map fun e => lineD (doorR e)) o (ed_lcM (vs := [7, 8, 10]) h.doors edgeD (fun e => lineD (doorR e)) (ie_tup (ed_var rfl)) (by omega) fun e he => ?_) (by simp; omega) fun B4 H4 o => ?_
  · have z := door_rng ho he
    exact ⟨_, gd_tup (ds := [.int e.1, .int e.2.1, sg e.2.2]) (gds_cons (gd_name (by simp)) (gds_cons (gd_name (by simp)) (gds_cons (gd_name (by simp)) gds_nil))) rfl,
      ed_lineF1 (rok _ (row_mem2 cs he)) rfl pC2 (ED.int (ed_var rfl) z.1) (ED.int (ed_var rfl) z.2.2.1) (ed_var rfl)⟩
  refine go_seq ?_
  refine oo_ext (es := cs.map fun e => lineD (cellR e)) o (ed_lcM (vs := [7, 8]) cs cellD (fun e => lineD (cellR e)) (ie_tup (ed_var rfl)) (by omega) fun e he => ?_) (by simp; omega) fun B4 H4 o => ?_
  · have z := cell_rng ho hc he
    exact ⟨_, gd_tup (ds := [.int e.1, .int e.2]) (gds_cons (gd_name (by simp)) (gds_cons (gd_name (by simp)) gds_nil)) rfl,
      ed_lineF0 (rok _ (row_mem3 h he)) rfl pC3 (ED.int (ed_var rfl) z.1) (ED.int (ed_var rfl) z.2.2.1)⟩
  obtain ⟨B5, e5, g5, d5⟩ := o.done
  have ev5 := (o.e.mono e5).tell 6 o.s d5
  refine ed_text (rs := rowsOf h cs) (ED.is (ed_var rfl) ?_) (rows_all ho hc).len σ B5 H4 g5.t ev5 _ fun v B6 H6 g6 d6 => q v B6 H6 (g5.trans g6) d6
  rw [rowsOf_eq]
  simp [List.map_append, List.map_map, Function.comp_def]
end
end Pd

/-! SemR -/
set_option Elab.async false
set_option linter.all false
set_option maxRecDepth 100000
set_option maxHeartbeats 4000000
namespace Pd
open PySem PySem.Spec PyProof.Rows L2 PySem.W
local macro_rules | `(tactic| walk_at "ed") => `(tactic| repeat' (first
  | with_reducible (first
    | exact ed_int | exact ed_str | exact ed_bl | exact ed_non
    | exact ea_nil | refine' ea_cons ?_ ?_
    | refine' ed_isi ?_ ?_ | refine' ed_isi2 ?_ ?_ ?_
    | refine' ed_andV ?_ (fun _ => ?_) | refine' ed_orV ?_ (fun _ => ?_) | refine' ed_notV ?_
    | refine' ed_chain ?_ ?_ ?_ (fun _ => ⟨?_, ?_⟩)
    | refine' ed_tup ?_ ?_ | refine' ed_lst ?_ ?_
    | refine' et_not ?_ | refine' et_and ?_ (fun _ => ?_) | refine' et_or ?_ (fun _ => ?_) | exact et_yes
    | refine' et_test ?_ | refine' et_B ?_
    | refine' ed_op ?_ ?_ ?_
    | refine' ed_cb ?_ ?_)
  | exact ed_var rfl
  | exact kit_tt | exact kit_ii | exact kit_ib | exact kit_ll | exact kit_lt | exact kit_tl
  | exact r2_addI | exact r2_subI | exact r2_lt | exact r2_le | exact r2_gt | exact r2_ge | exact r2_isN | exact r2_notN
  | exact rc_lenT | exact rc_lenL | exact rc_intB | exact rc_tupL
  | with_reducible (first | refine' r2_eq ?_ ?_ | refine' r2_ne ?_ ?_)
  | exact sh_int _ | exact sh_sg _ | exact sh_cell _ | exact sh_edge _ | exact sh_pair _ | exact sh_str _ (by decide +kernel)
  | exact r2_ixT rfl | exact r2_ixL rfl
  | refine' ed_tup ?_ ?_
  | (show List.length _ ≤ 100000; simp; done)))
/-! ### what the rows of a text tell -/
def kK (k : Nat) : Key := .inr (St' (kindC k))
theorem kindC_inj {j k : Nat} (hj : j < 4) (hk : k < 4) (h : kindC j = kindC k) : j = k := by
  have h1 : j = 0 ∨ j = 1 ∨ j = 2 ∨ j = 3 := by omega
  have h2 : k = 0 ∨ k = 1 ∨ k = 2 ∨ k = 3 := by omega
  rcases h1 with rfl | rfl | rfl | rfl <;> rcases h2 with rfl | rfl | rfl | rfl <;> first | rfl | exact absurd h (by decide)
theorem st_inj {x y : List Nat} (h : St' x = St' y) : x = y := by
  have := congrArg (fun s : Str => s.cps.toList) h
  simpa [St'] using this
theorem kK_inj {j k : Nat} (hj : j < 4) (hk : k < 4) (h : kK j = kK k) : j = k := kindC_inj hj hk (st_inj (Sum.inr.inj h))
def pairsK (L : Nat → V) (n : Nat) : List (Key × V) := (List.range n).map fun k => (kK k, L k)
theorem valV_out {L : Nat → V} {n j : Nat} (hj : j < 4) (h : n ≤ j) : valV (pairsK L n) (kK j) = none := by
  unfold valV
  have : (pairsK L n).find? (fun kv => decide (kv.1 = kK j)) = none := by
    rw [List.find?_eq_none]
    intro p hp
    obtain ⟨k, hk, rfl⟩ := List.mem_map.mp hp
    have hk := List.mem_range.mp hk
    have : kK k ≠ kK j := fun z => by have := kK_inj (by omega) hj z; omega
    simp [this]
  rw [this]
  rfl
theorem valV_4 {L : Nat → V} {j : Nat} (hj : j < 4) : valV (pairsK L 4) (kK j) = some (L j) := by
  have e : pairsK L 4 = [(kK 0, L 0), (kK 1, L 1), (kK 2, L 2), (kK 3, L 3)] := rfl
  rw [e]
  have n : ∀ {i k : Nat}, i < 4 → k < 4 → i ≠ k → ¬ (kK i = kK k) := fun hi hk h z => h (kK_inj hi hk z)
  match j, hj with
  | 0, _ => exact valV_pos rfl
  | 1, _ => rw [valV_neg (n (by decide) (by decide) (by decide))]; exact valV_pos rfl
  | 2, _ => rw [valV_neg (n (by decide) (by decide) (by decide)), valV_neg (n (by decide) (by decide) (by decide))]; exact valV_pos rfl
  | 3, _ => rw [valV_neg (n (by decide) (by decide) (by decide)), valV_neg (n (by decide) (by decide) (by decide)), valV_neg (n (by decide) (by decide) (by decide))]; exact valV_pos rfl
theorem pairsK_succ (L : Nat → V) (n : Nat) : pairsK L (n + 1) = pairsK L n ++ [(kK n, L n)] := by
  unfold pairsK
  rw [List.range_succ, List.map_append]
  rfl
theorem pairsK_congr {L L' : Nat → V} {n : Nat} (h : ∀ k, k < n → L k = L' k) : pairsK L n = pairsK L' n :=
  List.map_congr_left fun k hk => by rw [h k (List.mem_range.mp hk)]
def putL (L : Nat → Addr) (n : Nat) (q : Addr) : Nat → Addr := fun k => if k = n then q else L k
theorem putL_at {L : Nat → Addr} {n : Nat} {q : Addr} : putL L n q n = q := if_pos rfl
theorem putL_ne {L : Nat → Addr} {n k : Nat} {q : Addr} (h : k ≠ n) : putL L n q k = L k := if_neg h
/-- the dict of four lists, under way -/
structure Th (B0 B1 H1 : Hp) (p : Addr) (L : Nat → Addr) (σ : L2.St) (B H : Hp) (ρ : Rho) (os : Nat → List PyData) : Prop where
  b0 : Ex B0 B
  g : Gr B1 H1 B H
  e : EnvD σ B ρ
  s : σ[1]? = some (some (.ref p))
  np : B p = none
  fp : H1 p = none
  hp : H p = some (.dK (pairsK (fun k => .ref (L k)) 4))
  nl : ∀ k, k < 4 → B (L k) = none ∧ H1 (L k) = none ∧ L k ≠ p
  hl : ∀ k, k < 4 → ∃ xs, H (L k) = some (.lst xs) ∧ DHs B xs (os k)
  inj : ∀ j k, j < 4 → k < 4 → L j = L k → j = k
section
variable {K : PySem.W.Frag} {w : World} {B0 B1 H1 B H B' H' : Hp} {p : Addr} {L : Nat → Addr} {σ : L2.St} {ρ ρ1 ρ0 : Rho} {os : Nat → List PyData} {te : TE} {tt : TT} {d : PyData} {i : Nat}
theorem Th.mono (o : Th B0 B1 H1 p L σ B H ρ os) (k : Gr B H B' H') : Th B0 B1 H1 p L σ B' H' ρ os := by
  refine ⟨o.b0.trans k.b, o.g.trans k, o.e.mono k.b, o.s, k.n p o.np (by rw [o.hp]; exact fun z => nomatch z), o.fp, k.h _ _ o.hp, fun j hj => ?_, fun j hj => ?_, o.inj⟩
  · obtain ⟨h1, h2, h3⟩ := o.nl j hj
    obtain ⟨xs, h4, _⟩ := o.hl j hj
    exact ⟨k.n _ h1 (by rw [h4]; exact fun z => nomatch z), h2, h3⟩
  · obtain ⟨xs, h4, h5⟩ := o.hl j hj
    exact ⟨xs, k.h _ _ h4, h5.mono k.b⟩
theorem Th.set {v : V} (o : Th B0 B1 H1 p L σ B H ρ os) (hi : i ≠ 1) (dv : DH B v d) : Th B0 B1 H1 p L (σ.set i (some v)) B H (ρ.set i (some d)) os :=
  ⟨o.b0, o.g, o.e.set i dv, by rw [List.getElem?_set_ne hi]; exact o.s, o.np, o.fp, o.hp, o.nl, o.hl, o.inj⟩
theorem Th.less (o : Th B0 B1 H1 p L σ B H ρ os) (k : Rle ρ0 ρ) : Th B0 B1 H1 p L σ B H ρ0 os :=
  ⟨o.b0, o.g, o.e.less k, o.s, o.np, o.fp, o.hp, o.nl, o.hl, o.inj⟩
theorem Th.base {B0' : Hp} (o : Th B0 B1 H1 p L σ B H ρ os) (k : Ex B0' B) : Th B0' B1 H1 p L σ B H ρ os := ⟨k, o.g, o.e, o.s, o.np, o.fp, o.hp, o.nl, o.hl, o.inj⟩
theorem Th.oss {os' : Nat → List PyData} (o : Th B0 B1 H1 p L σ B H ρ os) (h : ∀ k, k < 4 → os k = os' k) : Th B0 B1 H1 p L σ B H ρ os' :=
  ⟨o.b0, o.g, o.e, o.s, o.np, o.fp, o.hp, o.nl, fun k hk => h k hk ▸ o.hl k hk, o.inj⟩
theorem th_set {D : Ends} (o : Th B0 B1 H1 p L σ B H ρ os) (hi : i ≠ 1) (h : ED te ρ d) (k : ∀ σ' B' H', Th B0 B1 H1 p L σ' B' H' (ρ.set i (some d)) os → D.nx σ' H') : tAsg te (gName i) D σ H :=
  h σ B H o.g.t o.e _ fun v B2 H2 g2 dv => k _ B2 H2 ((o.mono g2).set hi dv)
theorem th_no {t : TS} {D : Ends} (o : Th B0 B1 H1 p L σ B H ρ os) (h : ET tt ρ false) (k : ∀ B' H', Th B0 B1 H1 p L σ B' H' ρ os → D.nx σ H') : tIfS tt t tNext D σ H :=
  h σ B H o.g.t o.e _ fun B2 H2 g2 => k B2 H2 (o.mono g2)
/-- things[kind].append(e) -/
theorem th_app {D : Ends} {tk : TE} {k : Nat} (o : Th B0 B1 H1 p L σ B H ρ os) (hk : k < 4) (hx : ED tk ρ (.str (St' (kindC k)))) (h : ED te ρ d) (hz : (os k).length < 100000)
    (nx : ∀ B' H', Th B0 B1 H1 p L σ B' H' ρ (fun j => if j = k then os j ++ [d] else os j) → D.nx σ H') : tDrop (tBM K "list" rAppend (tDGet (tVar 1) tk) (tCons te tNil)) D σ H := by
  refine ⟨.ref p, o.s, ?_⟩
  refine hx σ B H o.g.t o.e _ fun y B2 H2 g2 dy => ?_
  cases dy
  have o := o.mono g2
  refine ⟨p, .ref (L k), rfl, ?_, ?_⟩
  · have := DGet.k (k := kK k) o.hp
    rw [valV_4 hk] at this
    exact this
  obtain ⟨xs0, hl0, _⟩ := o.hl k hk
  refine ⟨.inl ⟨rfl, _, SqL.of hl0⟩, ?_⟩
  refine h σ B2 H2 o.g.t o.e _ fun v B3 H3 g3 dv => ?_
  have o := o.mono g3
  obtain ⟨xs, hl, hx⟩ := o.hl k hk
  obtain ⟨n1, n2, n3⟩ := o.nl k hk
  refine ⟨L k, xs, v, rfl, rfl, hl, by rw [hx.length]; exact Nat.lt_trans hz (by decide), nx B3 _ ⟨o.b0, ⟨o.g.b, o.g.t.mut n1, o.g.h.mut n2, o.g.n⟩, o.e, o.s, o.np, o.fp, ?_, o.nl, fun j hj => ?_, o.inj⟩⟩
  · rw [upd_ne (fun z => n3 z.symm)]
    exact o.hp
  · by_cases e : j = k
    · subst e
      rw [if_pos rfl]
      exact ⟨_, upd_same, hx.append (.one dv)⟩
    · rw [if_neg e]
      obtain ⟨ys, h4, h5⟩ := o.hl j hj
      exact ⟨ys, by rw [upd_ne (fun z => e (o.inj j k hj hk z))]; exact h4, h5⟩
theorem th_for {α : Type} {wi : TI} {g : TG} {tb : TS} {D : Ends} {items : List α} (enc : α → PyData) (o : Th B0 B1 H1 p L σ B H ρ os) (hi : IE wi ρ (items.map enc)) (P : Nat → Rho → (Nat → List PyData) → Prop) (p0 : P 0 ρ os)
    (turn : ∀ n x, items[n]? = some x → ∀ ρ os, P n ρ os → ∀ B0 σ B H N v, Th B0 B1 H1 p L σ B H ρ os → DH B v (enc x) → (∀ σ' B' H' ρ' os', P (n + 1) ρ' os' → Th B0 B1 H1 p L σ' B' H' ρ' os' → N σ' H') → g v σ H fun σ2 H2 => tb { D with nx := N, ct := N, bk := D.nx } σ2 H2)
    (k : ∀ ρ' os' σ' B' H', P items.length ρ' os' → Th B0 B1 H1 p L σ' B' H' ρ' os' → D.nx σ' H') : tFor wi g tb D σ H := by
  refine hi σ B H o.g.t o.e _ fun J B2 H2 g2 hJ => ?_
  have oB := (o.mono g2).base (Ex.refl B2)
  refine ⟨fun n m σ' H' => m = items.length - n ∧ n ≤ items.length ∧ ∃ B' ρ' ds', P n ρ' ds' ∧ Th B2 B1 H1 p L σ' B' H' ρ' ds', ⟨items.length, by omega, Nat.zero_le _, B2, ρ, os, p0, oB⟩, ?_⟩
  rintro n m σ' H' ⟨rfl, hle, B', ρ', ds', hP, o'⟩
  obtain ⟨hstop, hgo⟩ := hJ B' H' o'.b0 o'.g.t n
  by_cases hlt : n < items.length
  · right
    have hd : items[n]? = some items[n] := List.getElem?_eq_getElem hlt
    obtain ⟨go, hy⟩ := hgo (enc items[n]) (by rw [List.getElem?_map, hd]; rfl)
    refine ⟨go, fun σ2 H2 => n + 1 ≤ items.length ∧ ∃ B' ρ' ds', P (n + 1) ρ' ds' ∧ Th B2 B1 H1 p L σ2 B' H2 ρ' ds', fun σ2 H2 ⟨p1, p2⟩ => ⟨items.length - (n + 1), by omega, rfl, p1, p2⟩, fun x H3 hyl => ?_⟩
    obtain ⟨B3, g3, dx⟩ := hy x H3 hyl
    exact turn n _ hd ρ' ds' hP B2 _ B3 H3 _ x (o'.mono g3) dx fun σ4 B4 H4 ρ4 ds4 hP4 o4 => ⟨hlt, B4, ρ4, ds4, hP4, o4⟩
  · left
    have hie : n = items.length := by omega
    subst hie
    exact ⟨hstop (by rw [List.length_map]), k ρ' ds' σ' B' H' hP (o'.base ((o.b0.trans g2.b).trans o'.b0))⟩
/-- {word: [] for word in KINDS} -/
theorem th_start {aKINDS aSIGNS : Addr} {D : Ends} (T : Tabs K w aKINDS aSIGNS) (ex : Ex B H) (ev : EnvD σ B ρ) (h1 : 1 < ρ.length) (h7 : 7 < ρ.length)
    (k : ∀ p L B' H', Th B' B H p L (σ.set 1 (some (.ref p))) B' H' (ρ.set 1 none) (fun _ => []) → D.nx (σ.set 1 (some (.ref p))) H') : tAsg (tDc (iTup K (tC (.ref aKINDS))) (gName 7) tYes (tVar 7) (tLst tNil) [7]) (gName 1) D σ H := by
  have hx : [V.str "hall", V.str "wall", V.str "door", V.str "at"] = (List.range 4).map fun k => V.str (St' (kindC k)) := by
    rw [kC0, kC1, kC2, kC3]
    rfl
  refine ⟨aKINDS, rfl, ⟨_, T.kinds H⟩, fun p hp => ?_⟩
  refine dc_tup (xs := [V.str "hall", V.str "wall", V.str "door", V.str "at"]) (fun n H' => Ex H H' ∧ ∃ L : Nat → Addr, H' p = some (.dK (pairsK (fun k => .ref (L k)) n)) ∧ (∀ k, k < n → H' (L k) = some (.lst []) ∧ H (L k) = none ∧ L k ≠ p) ∧ ∀ j k, j < n → k < n → L j = L k → j = k) ?_ (fun _ H' _ _ => T.kinds H') ?_ ?_
  · exact ⟨Ex.new hp, fun _ => 0, upd_same, fun k hk => absurd hk (by omega), fun j k hj => absurd hj (by omega)⟩
  · rintro n x H2 hxn ⟨eH, L, hD, hL, hinj⟩
    rw [hx, List.getElem?_map] at hxn
    have hn : n < 4 := by
      cases hr : (List.range 4)[n]? with
      | none => rw [hr] at hxn; cases hxn
      | some m =>
        have := (List.getElem?_eq_some_iff.mp hr).1
        simpa using this
    rw [List.getElem?_range hn] at hxn
    cases hxn
    refine ⟨wipe_set (by simp) |>.trans (wipe_idem σ [7]), ?_⟩
    unfold tYes
    dsimp only
    rw [if_pos rfl]
    refine ⟨.str (St' (kindC n)), List.getElem?_set_self (by rw [wipe_length, ev.len]; exact h7), Nat.zero_le _, fun q hq => ?_⟩
    have hqp : p ≠ q := fun z => by rw [← z, hD] at hq; cases hq
    refine ⟨_, kK n, rfl, by rw [upd_ne hqp]; exact hD, by unfold pairsK; rw [List.length_map, List.length_range]; exact Nat.lt_trans hn (by decide), ?_⟩
    have hnp : H q = none := eH.nil hq
    refine ⟨((eH.mut hnp).mut hp : Ex H _), putL L n q, ?_, fun k hk => ?_, fun j k hj hk hjk => ?_⟩
    · have e : pairsK (fun k => V.ref (putL L n q k)) n = pairsK (fun k => V.ref (L k)) n := pairsK_congr fun k hk => by rw [putL_ne (by omega)]
      rw [upd_same, putK_new _ (valV_out hn (Nat.le_refl n)), pairsK_succ, putL_at, e]
    · by_cases e : k = n
      · subst e
        rw [putL_at]
        exact ⟨by rw [upd_ne hqp.symm, upd_same], hnp, hqp.symm⟩
      · rw [putL_ne e]
        obtain ⟨a, b, c⟩ := hL k (by omega)
        refine ⟨?_, b, c⟩
        rw [upd_ne c, upd_ne (fun z => by rw [z, hq] at a; cases a)]
        exact a
    · by_cases ej : j = n
      · by_cases ek : k = n
        · omega
        · rw [ej, putL_at, putL_ne ek] at hjk
          obtain ⟨a, _⟩ := hL k (by omega)
          rw [← hjk, hq] at a
          cases a
      · by_cases ek : k = n
        · rw [ek, putL_at, putL_ne ej] at hjk
          obtain ⟨a, _⟩ := hL j (by omega)
          rw [hjk, hq] at a
          cases a
        · rw [putL_ne ej, putL_ne ek] at hjk
          exact hinj j k (by omega) (by omega) hjk
  · rintro H2 ⟨eH, L, hD, hL, hinj⟩
    refine k p L B H2 ⟨Ex.refl B, ⟨Ex.refl B, ex.trans eH, eH, fun a h1 _ => h1⟩, ev.forget 1 _, List.getElem?_set_self (by rw [ev.len]; exact h1), ex.nil hp, hp, hD, fun j hj => ?_, fun j hj => ?_, hinj⟩
    · obtain ⟨a, b, c⟩ := hL j hj
      exact ⟨ex.nil b, b, c⟩
    · exact ⟨[], (hL j hj).1, .nil⟩
end
end Pd

/-! SemS -/
set_option Elab.async false
set_option linter.all false
set_option maxRecDepth 100000
set_option maxHeartbeats 4000000
namespace Pd
open PySem PySem.Spec PyProof.Rows L2 PySem.W
local macro_rules | `(tactic| walk_at "ed") => `(tactic| repeat' (first
  | with_reducible (first
    | exact ed_int | exact ed_str | exact ed_bl | exact ed_non
    | exact ea_nil | refine' ea_cons ?_ ?_
    | refine' ed_isi ?_ ?_ | refine' ed_isi2 ?_ ?_ ?_
    | refine' ed_andV ?_ (fun _ => ?_) | refine' ed_orV ?_ (fun _ => ?_) | refine' ed_notV ?_
    | refine' ed_chain ?_ ?_ ?_ (fun _ => ⟨?_, ?_⟩)
    | refine' ed_tup ?_ ?_ | refine' ed_lst ?_ ?_
    | refine' et_not ?_ | refine' et_and ?_ (fun _ => ?_) | refine' et_or ?_ (fun _ => ?_) | exact et_yes
    | refine' et_test ?_ | refine' et_B ?_
    | refine' ed_op ?_ ?_ ?_
    | refine' ed_cb ?_ ?_)
  | exact ed_var rfl
  | exact kit_tt | exact kit_ii | exact kit_ib | exact kit_ll | exact kit_lt | exact kit_tl
  | exact r2_addI | exact r2_subI | exact r2_lt | exact r2_le | exact r2_gt | exact r2_ge | exact r2_isN | exact r2_notN
  | exact rc_lenT | exact rc_lenL | exact rc_intB | exact rc_tupL
  | with_reducible (first | refine' r2_eq ?_ ?_ | refine' r2_ne ?_ ?_)
  | exact sh_int _ | exact sh_sg _ | exact sh_cell _ | exact sh_edge _ | exact sh_pair _ | exact sh_str _ (by decide +kernel)
  | exact r2_ixT rfl | exact r2_ixL rfl
  | refine' ed_tup ?_ ?_
  | (show List.length _ ≤ 100000; simp; done)))
/-! ### things_of -/
theorem sp32' : (" " : Str) = ⟨#[32]⟩ := by decide +kernel
theorem DHs.ofStrs {B : Hp} : ∀ ys : List Str, DHs B (ys.map V.str) (ys.map PyData.str)
  | [] => .nil
  | y :: ys => .cons (.str y) (DHs.ofStrs ys)
theorem gl_len (c : Nat) : ∀ L : List (List Nat), (gl c L).length ≤ (L.map (·.length)).sum + L.length
  | [] => by simp [gl]
  | [x] => by simp [gl]
  | x :: y :: r => by
    have := gl_len c (y :: r)
    show (x ++ c :: gl c (y :: r)).length ≤ _
    simp only [List.length_append, List.length_cons, List.map_cons, List.sum_cons] at this ⊢
    omega
theorem text_len {rs : List Rw} (h : rs.length ≤ 40) : (textOf rs).length ≤ 440 := by
  unfold textOf textC
  rw [st_len]
  have h1 := gl_len 10 (rs.map Rw.line)
  have h2 := lines_len rs
  have e : (rs.map fun r => St' r.line).map (·.length) = (rs.map Rw.line).map (·.length) := by
    rw [List.map_map, List.map_map]
    exact List.map_congr_left fun r _ => st_len _
  rw [e] at h2
  rw [List.length_map] at h1
  omega
/-- four lists, handed back in a dict -/
def sp_things : Sp := fun vs H Q _ => ∃ B rs, Ex B H ∧ DHs B vs [.str (textOf rs)] ∧ RowsOk rs ∧ ∀ p (v : Nat → V) B' H', Gr B H B' H' → B' p = none → H' p = some (.dK (pairsK v 4)) → (∀ k, k < 4 → DH B' (v k) (.list (thingsK rs k))) → Q (.ref p) H'
section
variable {K : PySem.W.Frag} {w : World} {B0 B1 H1 B H B' H' : Hp} {p : Addr} {L : Nat → Addr} {σ : L2.St} {ρ ρ1 ρ0 : Rho} {os : Nat → List PyData} {te : TE} {tt : TT} {d : PyData} {i : Nat}
theorem ed_split {x : Str} {s : Str} {c : Nat} (hs : s = ⟨#[c]⟩) (h : ED te ρ (.str x)) (hl : x.length ≤ 100000) : ED (tM1 rSplit te (tC (.str s))) ρ (.list ((Txt.split x ⟨#[c]⟩).map PyData.str)) := fun σ B H ex ev Q q => by
  subst hs
  refine h σ B H ex ev _ fun v B1 H1 g1 d1 => ?_
  cases d1
  refine ⟨⟨x, rfl⟩, x, _, rfl, rfl, rfl, by show x.length + 2 ≤ 16777216; omega, fun p hp => ?_⟩
  have g2 := Gr.new (o := .lst ((Txt.split x ⟨#[c]⟩).map V.str)) g1.t hp
  exact q _ _ _ (g1.trans g2) (.lst upd_same (DHs.ofStrs _))
theorem ed_kix {aKINDS aSIGNS : Addr} (T : Tabs K w aKINDS aSIGNS) {k : Nat} (hk : k < 4) (h : ED te ρ (.str (St' (kindC k)))) : ED (tBM K "tuple" (rTupIx K) (tC (.ref aKINDS)) (tCons te tNil)) ρ (.int (k : Nat)) := fun σ B H ex ev Q q => by
  have hx : [V.str "hall", V.str "wall", V.str "door", V.str "at"] = ((List.range 4).map fun k => St' (kindC k)).map V.str := by
    rw [kC0, kC1, kC2, kC3]
    rfl
  refine ⟨.inr (.inl ⟨rfl, T.tk⟩), ?_⟩
  refine h σ B H ex ev _ fun v B1 H1 g1 d1 => ?_
  cases d1
  have ht := T.kinds H1
  rw [hx] at ht
  refine ⟨aKINDS, _, _, k, rfl, rfl, ht, ?_, fun m hm => ?_, q _ B1 H1 g1 (.int _)⟩
  · rw [List.getElem?_map, List.getElem?_range hk]
    rfl
  · rw [List.getElem?_map, List.getElem?_range (Nat.lt_trans hm hk)]
    intro z
    have := kindC_inj (Nat.lt_trans hm hk) hk (st_inj (Option.some.inj z))
    omega
theorem Th.env {σ' : L2.St} {vs : List Nat} (o : Th B0 B1 H1 p L σ B H ρ os) (e : EnvD σ' B ρ1) (w : L2.wipe σ' vs = L2.wipe σ vs) (hj : 1 ∉ vs) : Th B0 B1 H1 p L σ' B H ρ1 os := by
  refine ⟨o.b0, o.g, e, ?_, o.np, o.fp, o.hp, o.nl, o.hl, o.inj⟩
  have h1 := wipe_get σ' vs 1
  have h2 := wipe_get σ vs 1
  rw [if_neg (fun z => hj z.1)] at h1 h2
  rw [← h1, w, h2]
  exact o.s
/-- a list beside the base, taken into it -/
theorem Gr.take {l : Addr} {xs : List V} {ds : List PyData} (g : Gr B1 H1 B H) (n : B l = none) (f : H1 l = none) (h : H l = some (.lst xs)) (hx : DHs B xs ds) : ∃ B', Ex B B' ∧ Gr B1 H1 B' H ∧ DH B' (.ref l) (.list ds) ∧ ∀ a, a ≠ l → B' a = B a := by
  have nB1 : B1 l = none := g.b.nil n
  refine ⟨upd B l (.lst xs), Ex.new n, ⟨g.b.mut nB1, fun a u ha => ?_, g.h, fun a p1 p2 => ?_⟩, .lst upd_same (hx.mono (Ex.new n)), fun a ha => upd_ne ha⟩
  · by_cases e : a = l
    · subst e
      rw [upd_same] at ha
      cases ha
      exact h
    · rw [upd_ne e] at ha
      exact g.t a u ha
  · have e : a ≠ l := fun z => p2 (by rw [z]; exact f)
    rw [upd_ne e]
    exact g.n a p1 p2
theorem Th.done (o : Th B0 B1 H1 p L σ B H ρ os) : ∃ B', Ex B B' ∧ Gr B1 H1 B' H ∧ B' p = none ∧ ∀ k, k < 4 → DH B' (.ref (L k)) (.list (os k)) := by
  have key : ∀ n, n ≤ 4 → ∃ B', Ex B B' ∧ Gr B1 H1 B' H ∧ B' p = none ∧ (∀ k, k < n → DH B' (.ref (L k)) (.list (os k))) ∧ ∀ k, n ≤ k → k < 4 → B' (L k) = none := by
    intro n
    induction n with
    | zero => exact fun _ => ⟨B, Ex.refl B, o.g, o.np, fun k hk => absurd hk (by omega), fun k _ hk => (o.nl k hk).1⟩
    | succ n ih =>
      intro hn
      obtain ⟨B2, e2, g2, p2, d2, n2⟩ := ih (by omega)
      obtain ⟨_, f, ne⟩ := o.nl n (by omega)
      obtain ⟨xs, hl, hx⟩ := o.hl n (by omega)
      obtain ⟨B3, e3, g3, d3, k3⟩ := g2.take (n2 n (Nat.le_refl n) (by omega)) f hl (hx.mono e2)
      refine ⟨B3, e2.trans e3, g3, by rw [k3 p (fun z => ne z.symm)]; exact p2, fun k hk => ?_, fun k hk hk4 => ?_⟩
      · by_cases e : k = n
        · rw [e]
          exact d3
        · exact (d2 k (by omega)).mono e3
      · rw [k3 _ (fun z => by have := o.inj k n hk4 (by omega) z; omega)]
        exact n2 k (by omega) hk4
  obtain ⟨B', a, b, c, d, _⟩ := key 4 (Nat.le_refl 4)
  exact ⟨B', a, b, c, d⟩
theorem eqv_str (a b : Str) : PyData.eqv (.str a) (.str b) = decide (a = b) := by
  simp only [PyData.eqv]
  by_cases h : a = b
  · subst h; simp
  · rw [decide_eq_false h]
    simpa using h
theorem ok_kind {k : Nat} (hk : k < 4) : PyData.strOk (St' (kindC k)) = true := by
  match k, hk with
  | 0, _ => decide +kernel
  | 1, _ => decide +kernel
  | 2, _ => decide +kernel
  | 3, _ => decide +kernel
theorem hall_eq {k : Nat} (hk : k < 4) : PyData.eqv (.str (St' (kindC k))) (.str "hall") = decide (k = 0) := by
  rw [kC0, eqv_str]
  by_cases h : k = 0
  · subst h
    simp
  · rw [decide_eq_false h, decide_eq_false]
    exact fun z => h (kindC_inj hk (by decide) (st_inj z))
theorem rp_things_of {aKINDS aSIGNS : Addr} (T : Tabs K w aKINDS aSIGNS) {vs : List V} {H : Hp} {Q : VK} {E : XK} (hsp : sp_things vs H Q E) : rd_things_of K aKINDS (spR R_is_row) (spR R_thing_of) { nx := fun _ H' => Q .non H', rt := Q }
    (L2.start ["text", "things", "latest", "number", "row", "words", "kind", "word"] vs) H := by
  obtain ⟨B, rs, ex, hv, ok, q⟩ := hsp
  have ev := env_start (N := ["text", "things", "latest", "number", "row", "words", "kind", "word"]) hv (by rw [hv.length]; exact (by decide : 1 ≤ 8))
  generalize L2.start ["text", "things", "latest", "number", "row", "words", "kind", "word"] vs = σ at ev ⊢
  have ev : EnvD σ B [some (.str (textOf rs)), none, none, none, none, none, none, none] := ev
  unfold rd_things_of
  refine go_seq ?_
  refine th_start T ex ev (by simp) (by simp) fun p L B2 H2 o => ?_
  generalize σ.set 1 (some (.ref p)) = σ at o ⊢
  dsimp only
  refine go_seq ?_
  refine th_set (i := 2) o (by decide) ed_int fun σ B2 H2 o => ?_
  have o : Th _ B H p L σ B2 H2 [some (.str (textOf rs)), none, some (.int 0), none, none, none, none, none] (fun _ => []) := o
  have hsp : ED (tM1 rSplit (tVar 0) (tC (.str "\n"))) [some (.str (textOf rs)), none, some (.int 0), none, none, none, none, none] (.list (rs.map lineD)) := by
    refine ED.is (ed_split nl10 (ed_var rfl) (Nat.le_trans (text_len ok.len) (by decide))) ?_
    rw [split_text ok.ne ok.ok, List.map_map]
    rfl
  have hi : IE (iEnumX K (tCons (tM1 rSplit (tVar 0) (tC (.str "\n"))) tNil)) [some (.str (textOf rs)), none, some (.int 0), none, none, none, none, none] (rs.zipIdx.map fun p => .tuple [.int (p.2 : Nat), lineD p.1]) := by
    have e : (rs.map lineD).zipIdx.map (fun p => PyData.tuple [.int (p.2 : Nat), p.1]) = rs.zipIdx.map fun p => .tuple [.int (p.2 : Nat), lineD p.1] := by
      rw [List.zipIdx_map, List.map_map]
      rfl
    rw [← e]
    exact ie_enumL (ea_cons hsp ea_nil)
  refine go_seq ?_
  refine th_for (fun p : Rw × Nat => .tuple [.int (p.2 : Nat), lineD p.1]) o hi (fun n ρ os => ∃ m : Nat, ρ = [some (.str (textOf rs)), none, some (.int (m : Nat)), none, none, none, none, none] ∧ (∀ k, k < 4 → os k = thingsK (rs.take n) k) ∧ ∀ j r, n ≤ j → rs[j]? = some r → m ≤ r.k)
    ⟨0, rfl, fun k _ => rfl, fun _ _ _ _ => Nat.zero_le _⟩ ?_ ?_
  · rintro n ⟨r, n'⟩ hx ρ os ⟨m, rfl, hos, hm⟩ B0 σ B' H' N v o dv next
    obtain ⟨hx2, rfl⟩ : rs[n]? = some r ∧ n' = n := by
      rw [List.getElem?_zipIdx] at hx
      cases hr : rs[n]? with
      | none => rw [hr] at hx; cases hx
      | some y =>
        rw [hr] at hx
        cases hx
        exact ⟨rfl, by simp⟩
    have hr := ok.ok r (List.mem_of_getElem? hx2)
    have hk := hr.k4
    have hn := (List.getElem?_eq_some_iff.mp hx2).1
    have hlen := ok.len
    refine gd_tup (ds := [.int (n' : Nat), lineD r]) (vs := [3, 4]) (gds_cons (gd_name (by simp)) (gds_cons (gd_name (by simp)) gds_nil)) rfl σ B' H' v o.g.t o.e dv _ fun σ ev w => ?_
    have o := o.env ev w (by decide)
    have o : Th B0 B H p L σ B' H' [some (.str (textOf rs)), none, some (.int (m : Nat)), some (.int (n' : Nat)), some (lineD r), none, none, none] os := o
    dsimp only
    refine go_seq ?_
    refine th_set (i := 5) (d := r.wordsD) o (by decide) (ED.is (ed_split sp32' (ed_var rfl) (by rw [st_len]; exact Nat.le_trans line_len (by decide))) ?_) fun σ B' H' o => ?_
    · rw [split_line hr, List.map_map]
      rfl
    have o : Th B0 B H p L σ B' H' [some (.str (textOf rs)), none, some (.int (m : Nat)), some (.int (n' : Nat)), some (lineD r), some r.wordsD, none, none] os := o
    have h0 : ∀ {a b c d e f g : Option PyData}, ED (tOp (rIx K) (tVar 5) (tC (.int 0))) [a, b, c, d, e, some r.wordsD, f, g] (.str (St' (kindC r.k))) := ed_op (ed_var rfl) ed_int (r2_ixL r.ix0)
    refine go_seq ?_
    refine th_no o (ET.is (et_or (et_not (et_B (ed_call (ea_cons (ed_var rfl) ea_nil) (.mk r hr)))) fun _ => et_test (ed_op (ed_op h0 ed_str (r2_eq (sh_str _ (ok_kind hk)) (sh_str _ (by decide +kernel)))) (ed_op (ed_var rfl) ed_int (r2_eq (sh_int _) (sh_int _))) (r2_ne (sh_bool _) (sh_bool _)))) ?_) fun B' H' o => ?_
    · rw [hall_eq hk, eqv_int, eqv_bool]
      have := ok.first n' r hx2
      by_cases z : n' = 0
      · have := this.mpr z
        simp [z, this]
      · have h2 : ¬ r.k = 0 := fun y => z (this.mp y)
        have h3 : ¬ ((n' : Int) = 0) := by omega
        simp [h3, h2, z]
    refine go_seq ?_
    refine th_set (i := 6) o (by decide) (ed_kix T hk h0) fun σ B' H' o => ?_
    have o : Th B0 B H p L σ B' H' [some (.str (textOf rs)), none, some (.int (m : Nat)), some (.int (n' : Nat)), some (lineD r), some r.wordsD, some (.int (r.k : Nat)), none] os := o
    refine go_seq ?_
    refine th_no o (ET.is (et_test (ed_op (ed_var rfl) (ed_var rfl) r2_lt)) ?_) fun B' H' o => ?_
    · have := hm n' r (Nat.le_refl _) hx2
      exact decide_eq_false (by omega)
    refine go_seq ?_
    refine th_set (i := 2) o (by decide) (ed_var (d := .int (r.k : Nat)) rfl) fun σ B' H' o => ?_
    have o : Th B0 B H p L σ B' H' [some (.str (textOf rs)), none, some (.int (r.k : Nat)), some (.int (n' : Nat)), some (lineD r), some r.wordsD, some (.int (r.k : Nat)), none] os := o
    refine th_app o hk h0 (ed_call (ea_cons (ed_var rfl) ea_nil) (.mk r hr)) ?_ fun B' H' o => ?_
    · rw [hos _ hk]
      unfold thingsK
      rw [List.length_map]
      have h1 := List.length_filter_le (fun s : Rw => s.k == r.k) (rs.take n')
      rw [List.length_take] at h1
      omega
    refine next σ B' H' _ _ ⟨r.k, rfl, fun k hk4 => ?_, fun j s hj hs => ok.turn n' j r s (by omega) hx2 hs⟩ (o.less ?_)
    · have e : rs.take (n' + 1) = rs.take n' ++ [r] := by rw [List.take_add_one, hx2]; rfl
      show _ = thingsK (rs.take (n' + 1)) k
      rw [e]
      unfold thingsK
      rw [List.filter_append, List.map_append]
      by_cases z : k = r.k
      · subst z
        simp [hos _ hk4, thingsK]
      · have z2 : ¬ (r.k = k) := fun y => z y.symm
        simp [z, z2, hos _ hk4, thingsK]
    · exact ((((Rle.refl [some (.str (textOf rs)), none, some (.int (r.k : Nat)), none, none, none, none, none]).set (i := 3) (o := some (.int (n' : Nat))) rfl).set (i := 4) (o := some (lineD r)) rfl).set (i := 5) (o := some r.wordsD) rfl).set (i := 6) (o := some (.int (r.k : Nat))) rfl
  · rintro ρ os σ B' H' ⟨m, rfl, hos, _⟩ o
    rw [List.length_zipIdx, List.take_length] at hos
    obtain ⟨B3, e3, g3, p3, d3⟩ := o.done
    show tRet (tVar 1) _ _ _
    exact ⟨.ref p, o.s, q p (fun k => .ref (L k)) B3 H' g3 p3 o.hp fun k hk => hos k hk ▸ d3 k hk⟩
end
end Pd

/-! SemZ -/
set_option Elab.async false
set_option linter.all false
set_option maxRecDepth 100000
set_option maxHeartbeats 4000000
namespace Pd
open PySem PySem.Spec PyProof.Rows L2 PySem.W
local macro_rules | `(tactic| walk_at "ed") => `(tactic| repeat' (first
  | with_reducible (first
    | exact ed_int | exact ed_str | exact ed_bl | exact ed_non
    | exact ea_nil | refine' ea_cons ?_ ?_
    | refine' ed_isi ?_ ?_ | refine' ed_isi2 ?_ ?_ ?_
    | refine' ed_andV ?_ (fun _ => ?_) | refine' ed_orV ?_ (fun _ => ?_) | refine' ed_notV ?_
    | refine' ed_chain ?_ ?_ ?_ (fun _ => ⟨?_, ?_⟩)
    | refine' ed_tup ?_ ?_ | refine' ed_lst ?_ ?_
    | refine' et_not ?_ | refine' et_and ?_ (fun _ => ?_) | refine' et_or ?_ (fun _ => ?_) | exact et_yes
    | refine' et_test ?_ | refine' et_B ?_
    | refine' ed_op ?_ ?_ ?_
    | refine' ed_cb ?_ ?_)
  | exact ed_var rfl
  | exact kit_tt | exact kit_ii | exact kit_ib | exact kit_ll | exact kit_lt | exact kit_tl
  | exact r2_addI | exact r2_subI | exact r2_lt | exact r2_le | exact r2_gt | exact r2_ge | exact r2_isN | exact r2_notN
  | exact rc_lenT | exact rc_lenL | exact rc_intB | exact rc_tupL
  | with_reducible (first | refine' r2_eq ?_ ?_ | refine' r2_ne ?_ ?_)
  | exact sh_int _ | exact sh_sg _ | exact sh_cell _ | exact sh_edge _ | exact sh_pair _ | exact sh_str _ (by decide +kernel)
  | exact r2_ixT rfl | exact r2_ixL rfl
  | refine' ed_tup ?_ ?_
  | (show List.length _ ≤ 100000; simp; done)))
/-! ### read -/
/-- the dict of the rows' things, at slot 1 -/
structure Kp (p : Addr) (v : Nat → V) (rs : List Rw) (σ : L2.St) (B H : Hp) : Prop where
  s : σ[1]? = some (some (.ref p))
  n : B p = none
  h : H p = some (.dK (pairsK v 4))
  d : ∀ k, k < 4 → DH B (v k) (.list (thingsK rs k))
theorem Kp.mono {p : Addr} {v : Nat → V} {rs : List Rw} {σ : L2.St} {B H B' H' : Hp} (o : Kp p v rs σ B H) (g : Gr B H B' H') : Kp p v rs σ B' H' :=
  ⟨o.s, g.n p o.n (by rw [o.h]; exact fun z => nomatch z), g.h _ _ o.h, fun k hk => (o.d k hk).mono g.b⟩
theorem Kp.env {p : Addr} {v : Nat → V} {rs : List Rw} {σ σ' : L2.St} {B H : Hp} {vs : List Nat} (o : Kp p v rs σ B H) (w : L2.wipe σ' vs = L2.wipe σ vs) (hj : 1 ∉ vs) : Kp p v rs σ' B H := by
  refine ⟨?_, o.n, o.h, o.d⟩
  have h1 := wipe_get σ' vs 1
  have h2 := wipe_get σ vs 1
  rw [if_neg (fun z => hj z.1)] at h1 h2
  rw [← h1, w, h2]
  exact o.s
def EK (p : Addr) (v : Nat → V) (rs : List Rw) (te : TE) (ρ : Rho) (d : PyData) : Prop := ∀ σ B H, Ex B H → EnvD σ B ρ → Kp p v rs σ B H → ∀ Q : VK, (∀ x B' H', Gr B H B' H' → DH B' x d → Q x H') → te σ H Q
def AK (p : Addr) (v : Nat → V) (rs : List Rw) (ta : TA) (ρ : Rho) (ds : List PyData) : Prop := ∀ σ B H, Ex B H → EnvD σ B ρ → Kp p v rs σ B H → ∀ Q : List V → Hp → Prop, (∀ x B' H', Gr B H B' H' → DHs B' x ds → Q x H') → ta σ H Q
section
variable {K : PySem.W.Frag} {w : World} {p : Addr} {v : Nat → V} {rs : List Rw} {ρ : Rho} {ta tb te : TE} {tr : TA} {d e z : PyData} {ds es : List PyData}
theorem EK.is {d' : PyData} (h : EK p v rs te ρ d) (e : d = d') : EK p v rs te ρ d' := e ▸ h
theorem ek_ed (h : ED te ρ d) : EK p v rs te ρ d := fun σ B H ex ev _ => h σ B H ex ev
theorem ek_get {k : Nat} {x : Str} (hk : k < 4) (hx : x = St' (kindC k)) : EK p v rs (tDGet (tVar 1) (tC (.str x))) ρ (.list (thingsK rs k)) := fun σ B H ex ev o Q q => by
  subst hx
  refine ⟨.ref p, o.s, p, v k, rfl, ?_, q _ B H (Gr.refl ex) (o.d k hk)⟩
  have := DGet.k (k := kK k) o.h
  rw [valV_4 hk] at this
  exact this
theorem ak_nil : AK p v rs tNil ρ [] := fun σ B H ex ev _ Q q => q [] B H (Gr.refl ex) .nil
theorem ak_cons (h : EK p v rs ta ρ d) (hr : AK p v rs tr ρ ds) : AK p v rs (tCons ta tr) ρ (d :: ds) := fun σ B H ex ev o Q q => by
  refine h σ B H ex ev o _ fun x B1 H1 g1 d1 => ?_
  refine hr σ B1 H1 g1.t (ev.mono g1.b) (o.mono g1) _ fun xs B2 H2 g2 d2 => ?_
  exact q (x :: xs) B2 H2 (g1.trans g2) (.cons (d1.mono g2.b) d2)
theorem ek_tup {ta : TA} (h : AK p v rs ta ρ ds) (hl : ds.length ≤ 100000) : EK p v rs (tTup ta) ρ (.tuple ds) := fun σ B H ex ev o Q q => by
  refine h σ B H ex ev o _ fun xs B1 H1 g1 d1 => ⟨?_, fun a ha => ?_⟩
  · rw [d1.length]
    exact Nat.le_trans hl (by decide)
  · have g2 := Gr.new (o := .tup xs) g1.t ha
    exact q _ _ _ (g1.trans g2) (.tup upd_same (d1.mono g2.b))
theorem ek_cb {r : List V → Hp → VK → Prop} {ta : TA} (h : AK p v rs ta ρ ds) (hr : RC r ds z) : EK p v rs (tCB r ta) ρ z := fun σ B H ex ev o Q q => by
  refine h σ B H ex ev o _ fun xs B1 H1 g1 d1 => ?_
  exact hr B1 H1 xs g1.t d1 Q fun v B' H' g3 d3 => q v B' H' (g1.trans g3) d3
theorem ek_op {r : R2} (ha : EK p v rs ta ρ d) (hb : EK p v rs tb ρ e) (hr : RD2 r d e z) : EK p v rs (tOp r ta tb) ρ z := fun σ B H ex ev o Q q => by
  refine ha σ B H ex ev o _ fun x B1 H1 g1 d1 => ?_
  refine hb σ B1 H1 g1.t (ev.mono g1.b) (o.mono g1) _ fun y B2 H2 g2 d2 => ?_
  exact hr B2 H2 x y g2.t (d1.mono g2.b) d2 Q fun v B' H' g3 d3 => q v B' H' ((g1.trans g2).trans g3) d3
theorem kp_asg {g : TG} {ρ' : Rho} {vs : List Nat} {D : Ends} {σ : L2.St} {B H : Hp} (ex : Ex B H) (ev : EnvD σ B ρ) (o : Kp p v rs σ B H) (h : EK p v rs te ρ d) (hg : GD g ρ d ρ' vs) (hj : 1 ∉ vs)
    (k : ∀ σ' B' H', Gr B H B' H' → EnvD σ' B' ρ' → Kp p v rs σ' B' H' → D.nx σ' H') : tAsg te g D σ H :=
  h σ B H ex ev o _ fun x B' H' gr dv => hg σ B' H' x gr.t (ev.mono gr.b) dv _ fun σ' ev' w => k σ' B' H' gr ev' ((o.mono gr).env w hj)
inductive R_read : List PyData → PyData → Prop | mk (h : Hall) (cs : List Cell) (o : HallOk h) (oc : CellsOk h cs) : R_read [.str (textOf (rowsOf h cs))] (.tuple [hallD h, cellsD cs])
theorem kit_ss : kitB "str" "str" = some true := by decide +kernel
theorem rp_read {ds : List PyData} {d : PyData} (h : R_read ds d) : RD (rd_read K (spR (RN R_check_start)) sp_things) (ds.map some ++ List.replicate (6 - ds.length) none) d := by
  obtain ⟨h, cs, ho, hc⟩ := h
  intro σ B H D ex ev q
  have ev : EnvD σ B [some (.str (textOf (rowsOf h cs))), none, none, none, none, none] := ev
  have hr := ho.rows
  have hl := ho.cols
  have oks := rows_all ho hc
  generalize hrs : rowsOf h cs = rs at oks ev
  unfold rd_read
  refine go_seq ?_
  refine sd_ifNo (ET.is (et_not (et_B (ed_isi (ed_var (d := .str (textOf rs)) rfl) kit_ss))) rfl) σ B H _ ex ev fun σ B2 H2 g1 ev => ?_
  refine go_seq ?_
  -- things = things_of(text)
  refine ed_var (d := .str (textOf rs)) rfl σ B2 H2 g1.t ev _ fun x B3 H3 g3 dx => ?_
  have g1 := g1.trans g3
  have ev := ev.mono g3.b
  refine ⟨B3, rs, g1.t, .cons dx .nil, oks, fun p v B4 H4 g4 p4 h4 d4 => ?_⟩
  have g1 := g1.trans g4
  have ev : EnvD (σ.set 1 (some (.ref p))) B4 [some (.str (textOf rs)), none, none, none, none, none] := (ev.mono g4.b).forget 1 _
  have o : Kp p v rs (σ.set 1 (some (.ref p))) B4 H4 := ⟨List.getElem?_set_self (by have := ev.len; rw [List.length_set] at this; rw [this]; exact (by decide : 1 < 6)), p4, h4, d4⟩
  show tSeq _ _ _ (σ.set 1 (some (.ref p))) H4
  generalize σ.set 1 (some (.ref p)) = σ at ev o ⊢
  have t0 : thingsK rs 0 = [cellD (h.rows, h.cols)] := by
    rw [← hrs, things_hall]
    show [PyData.tuple [.int ((h.rows.toNat : Nat) : Int), .int ((h.cols.toNat : Nat) : Int)]] = _
    rw [Int.toNat_of_nonneg (by omega), Int.toNat_of_nonneg (by omega)]
    rfl
  have t1 : thingsK rs 1 = h.walls.map edgeD := hrs ▸ things_wall ho
  have t2 : thingsK rs 2 = h.doors.map edgeD := hrs ▸ things_door ho
  have t3 : thingsK rs 3 = cs.map cellD := hrs ▸ things_at ho hc
  refine go_seq ?_
  refine kp_asg (ρ' := [some (.str (textOf rs)), none, some (.int h.rows), some (.int h.cols), none, none]) g1.t ev o (ek_op (ek_get (k := 0) (by decide) kC0) (ek_ed ed_int) (r2_ixL (d := cellD (h.rows, h.cols)) (by rw [t0]; rfl))) (gd_tup (vs := [2, 3]) (gds_cons (gd_name (by simp)) (gds_cons (gd_name (by simp)) gds_nil)) rfl) (by decide) fun σ B5 H5 g5 ev o => ?_
  have g1 := g1.trans g5
  refine go_seq ?_
  refine kp_asg (ρ' := [some (.str (textOf rs)), none, some (.int h.rows), some (.int h.cols), some (hallD h), none]) g1.t ev o (EK.is (ek_tup (ak_cons (ek_ed (ed_var (d := .int h.rows) rfl)) (ak_cons (ek_ed (ed_var (d := .int h.cols) rfl)) (ak_cons (ek_cb (ak_cons (ek_get (k := 1) (by decide) kC1) ak_nil) rc_tupL) (ak_cons (ek_cb (ak_cons (ek_get (k := 2) (by decide) kC2) ak_nil) rc_tupL) ak_nil)))) (by simp)) (by rw [t1, t2]; rfl)) (gd_name (vs := [4]) (by simp)) (by decide) fun σ B6 H6 g6 ev o => ?_
  have g1 := g1.trans g6
  refine go_seq ?_
  refine kp_asg (ρ' := [some (.str (textOf rs)), none, some (.int h.rows), some (.int h.cols), some (hallD h), some (cellsD cs)]) g1.t ev o (EK.is (ek_cb (ak_cons (ek_get (k := 3) (by decide) kC3) ak_nil) rc_tupL) (by rw [t3]; rfl)) (gd_name (vs := [5]) (by simp)) (by decide) fun σ B7 H7 g7 ev o => ?_
  have g1 := g1.trans g7
  refine go_seq ?_
  refine sd_drop (ed_call (R := RN R_check_start) (ea_cons (ed_var rfl) (ea_cons (ed_var rfl) ea_nil)) ⟨⟨h, cs, rfl, ho, hc⟩, rfl⟩) σ B7 H7 _ g1.t ev fun σ B8 H8 g8 ev => ?_
  have g1 := g1.trans g8
  exact ed_tup (ea_cons (ed_var rfl) (ea_cons (ed_var rfl) ea_nil)) (by simp) σ B8 H8 g1.t ev _ fun v B9 H9 g9 d9 => q v B9 H9 (g1.trans g9) d9
end
end Pd

/-! SemH0 -/
set_option Elab.async false
set_option linter.all false
set_option maxRecDepth 100000
set_option maxHeartbeats 4000000
namespace Pd
open PySem PySem.Spec PyProof.Rows L2 PySem.W
local macro_rules | `(tactic| walk_at "ed") => `(tactic| repeat' (first
  | with_reducible (first
    | exact ed_int | exact ed_str | exact ed_bl | exact ed_non
    | exact ea_nil | refine' ea_cons ?_ ?_
    | refine' ed_isi ?_ ?_ | refine' ed_isi2 ?_ ?_ ?_
    | refine' ed_andV ?_ (fun _ => ?_) | refine' ed_orV ?_ (fun _ => ?_) | refine' ed_notV ?_
    | refine' ed_chain ?_ ?_ ?_ (fun _ => ⟨?_, ?_⟩)
    | refine' ed_tup ?_ ?_ | refine' ed_lst ?_ ?_
    | refine' et_not ?_ | refine' et_and ?_ (fun _ => ?_) | refine' et_or ?_ (fun _ => ?_) | exact et_yes
    | refine' et_test ?_ | refine' et_B ?_
    | refine' ed_op ?_ ?_ ?_
    | refine' ed_cb ?_ ?_)
  | exact ed_var rfl
  | exact kit_tt | exact kit_ii | exact kit_ib | exact kit_ll | exact kit_lt | exact kit_tl
  | exact r2_addI | exact r2_subI | exact r2_lt | exact r2_le | exact r2_gt | exact r2_ge | exact r2_isN | exact r2_notN
  | exact rc_lenT | exact rc_lenL | exact rc_intB | exact rc_tupL
  | with_reducible (first | refine' r2_eq ?_ ?_ | refine' r2_ne ?_ ?_)
  | exact sh_int _ | exact sh_sg _ | exact sh_cell _ | exact sh_edge _ | exact sh_pair _ | exact sh_str _ (by decide +kernel)
  | exact r2_ixT rfl | exact r2_ixL rfl
  | refine' ed_tup ?_ ?_
  | (show List.length _ ≤ 100000; simp; done)))
/-! ### what a def comes to: a value, or an exception of a class with its fields -/
abbrev Exn := Addr × List (Str × V)
inductive Out where
  | ok (d : PyData)
  | ex (e : Exn)
def Rais (B H : Hp) (E : XK) (e : Exn) : Prop := ∀ B' H' dx, Gr B H B' H' → H' dx = none → E (.ref e.1) (some dx) (upd H' dx (.xd e.2))
def Fit (B H : Hp) (Q : VK) (E : XK) : Out → Prop
  | .ok d => ∀ v B' H', Gr B H B' H' → DH B' v d → Q v H'
  | .ex e => Rais B H E e
theorem Rais.gr {B H B' H' : Hp} {E : XK} {e : Exn} (h : Rais B H E e) (g : Gr B H B' H') : Rais B' H' E e := fun B2 H2 dx g2 hd => h B2 H2 dx (g.trans g2) hd
theorem Fit.gr {B H B' H' : Hp} {Q : VK} {E : XK} {o : Out} (h : Fit B H Q E o) (g : Gr B H B' H') : Fit B' H' Q E o := by
  cases o with
  | ok d => exact fun v B2 H2 g2 dv => h v B2 H2 (g.trans g2) dv
  | ex e => exact Rais.gr h g
/-- a def over data that may raise -/
def spO (R : List PyData → Out → Prop) : Sp := fun vs H Q E => ∃ B ds o, Ex B H ∧ DHs B vs ds ∧ R ds o ∧ Fit B H Q E o
/-- a suite that goes on, or raises -/
def XD (t : TS) (E : XK) (ρ ρ' : Rho) (x : Option Exn) : Prop := ∀ σ B H (D : Ends), Ex B H → EnvD σ B ρ → (x = none → ∀ σ' B' H', Gr B H B' H' → EnvD σ' B' ρ' → D.nx σ' H') → (∀ e, x = some e → Rais B H E e) → t D σ H
/-- a suite that gives a value, or raises -/
def OD (t : TS) (E : XK) (ρ : Rho) (o : Out) : Prop := ∀ σ B H (D : Ends), Ex B H → EnvD σ B ρ → Fit B H D.rt E o → t D σ H
def outX : Option Exn → Out
  | none => .ok .none
  | some e => .ex e
def thenO : Option Exn → Out → Out
  | none, o => o
  | some e, _ => .ex e
section
variable {K : PySem.W.Frag} {ρ ρ' ρ1 ρ0 : Rho} {t u : TS} {tt : TT} {te : TE} {ta : TA} {E : XK} {x y : Option Exn} {o : Out} {d : PyData} {ds : List PyData} {e : Exn}
theorem xd_sd (h : SD t ρ ρ') : XD t E ρ ρ' none := fun σ B H D ex ev q _ => h σ B H D ex ev (q rfl)
theorem xd_less (h : XD t E ρ ρ' x) (k : Rle ρ0 ρ') : XD t E ρ ρ0 x := fun σ B H D ex ev q r => h σ B H D ex ev (fun e σ' B' H' g ev' => q e σ' B' H' g (ev'.less k)) r
theorem xd_is (h : XD t E ρ ρ' x) (e : x = y) : XD t E ρ ρ' y := e ▸ h
theorem xd_seq (h : XD t E ρ ρ1 x) (k : XD u E ρ1 ρ' y) : XD (tSeq t u) E ρ ρ' (x.or y) := fun σ B H D ex ev q r => by
  refine h σ B H { D with nx := u D } ex ev (fun hx σ' B' H' g ev' => ?_) fun e he => r e (by rw [he]; rfl)
  subst hx
  exact k σ' B' H' D g.t ev' (fun hy σ2 B2 H2 g2 ev2 => q (by rw [hy]; rfl) σ2 B2 H2 (g.trans g2) ev2) fun e he => (r e (by rw [he]; rfl)).gr g
theorem xd_seq2 (h : SD t ρ ρ1) (k : XD u E ρ1 ρ' y) : XD (tSeq t u) E ρ ρ' y := by
  have := xd_seq (xd_sd (E := E) h) k
  exact this
theorem xd_ifR {b : Bool} (h : ET tt ρ b) (hr : b = true → XD t E ρ ρ (some e)) : XD (tIfS tt t tNext) E ρ ρ (if b then some e else none) := fun σ B H D ex ev q r => by
  refine h σ B H ex ev _ fun B1 H1 g1 => ?_
  cases b with
  | true => exact hr rfl σ B1 H1 D g1.t (ev.mono g1.b) (fun z => nomatch z) fun e' he => (r e' he).gr g1
  | false => exact q rfl σ B1 H1 g1 (ev.mono g1.b)
theorem od_seq (h : XD t E ρ ρ1 x) (k : x = none → OD u E ρ1 o) : OD (tSeq t u) E ρ (thenO x o) := fun σ B H D ex ev q => by
  cases x with
  | none => exact h σ B H { D with nx := u D } ex ev (fun _ σ' B' H' g ev' => k rfl σ' B' H' D g.t ev' (Fit.gr q g)) fun e he => nomatch he
  | some e => exact h σ B H { D with nx := u D } ex ev (fun z => nomatch z) fun e' he => by cases he; exact q
theorem od_seq2 (h : SD t ρ ρ1) (k : OD u E ρ1 o) : OD (tSeq t u) E ρ o := od_seq (x := none) (xd_sd h) fun _ => k
theorem od_ret (h : ED te ρ d) : OD (tRet te) E ρ (.ok d) := fun σ B H D ex ev q => h σ B H ex ev D.rt q
theorem od_is {o' : Out} (h : OD t E ρ o) (e : o = o') : OD t E ρ o' := e ▸ h
/-- a call that may raise, as a statement -/
theorem xd_call {R : List PyData → Out → Prop} (h : EA ta ρ ds) (hR : R ds (outX x)) : XD (tDrop (tCall (spO R) [] E ta)) E ρ ρ x := fun σ B H D ex ev q r => by
  refine h σ B H ex ev _ fun vs B1 H1 g1 d1 => ?_
  refine ⟨B1, ds, outX x, g1.t, by rw [List.append_nil]; exact d1, hR, ?_⟩
  cases x with
  | none => exact fun v B' H' g2 _ => q rfl σ B' H' (g1.trans g2) (ev.mono (g1.trans g2).b)
  | some e => exact (r e rfl).gr g1
def exC (C : Addr) (i : Int) : Exn := (C, [("number", .int i)])
def exR (C : Addr) (i : Int) : Exn := (C, [("row", .int i)])
def exH (C : Addr) (i j : Int) : Exn := (C, [("number", .int j), ("part", .int i)])
theorem xd_raiseC {C : Addr} {i : Int} (h : ED te ρ (.int i)) (hi : initOkC i = true) : XD (tRaiseX C (sp_initC C) E (tCons te tNil)) E ρ ρ' (some (exC C i)) := fun σ B H D ex ev q r => by
  refine h σ B H ex ev _ fun v B2 H2 g2 dv => ?_
  cases dv
  exact ⟨by show 1 ≤ 1000; decide, raise_C hi fun dx hd => r _ rfl B2 H2 dx g2 hd⟩
theorem xd_raiseR {C : Addr} {i : Int} (h : ED te ρ (.int i)) (hi : initOkR i = true) : XD (tRaiseX C (sp_initR C) E (tCons te tNil)) E ρ ρ' (some (exR C i)) := fun σ B H D ex ev q r => by
  refine h σ B H ex ev _ fun v B2 H2 g2 dv => ?_
  cases dv
  exact ⟨by show 1 ≤ 1000; decide, raise_R hi fun dx hd => r _ rfl B2 H2 dx g2 hd⟩
theorem xd_raiseH {C : Addr} {i j : Int} {tf : TE} (h : ED te ρ (.int i)) (k : ED tf ρ (.int j)) (hi : initOkH i j = true) : XD (tRaiseX C (sp_initH C) E (tCons te (tCons tf tNil))) E ρ ρ' (some (exH C i j)) := fun σ B H D ex ev q r => by
  refine h σ B H ex ev _ fun v B2 H2 g2 dv => ?_
  cases dv
  refine k σ B2 H2 g2.t (ev.mono g2.b) _ fun v B3 H3 g3 dv => ?_
  cases dv
  exact ⟨by show 2 ≤ 1000; decide, raise_H hi fun dx hd => r _ rfl B3 H3 dx (g2.trans g3) hd⟩
/-- the first that is told -/
def firstX {α : Type} (f : Nat → α → Option Exn) : Nat → List α → Option Exn
  | _, [] => none
  | n, x :: xs => (f n x).or (firstX f (n + 1) xs)
theorem xd_for {α : Type} {wi : TI} {g : TG} {tb : TS} {items : List α} (enc : α → PyData) (f : Nat → α → Option Exn) (hi : IE wi ρ0 (items.map enc))
    (turn : ∀ (n : Nat) (x : α), items[n]? = some x → (∀ m y, m < n → items[m]? = some y → f m y = none) → ∃ ρ1 vs, GD g ρ0 (enc x) ρ1 vs ∧ XD tb E ρ1 ρ0 (f n x)) : XD (tFor wi g tb) E ρ0 ρ0 (firstX f 0 items) := fun σ B H D ex ev q r => by
  refine hi σ B H ex ev _ fun J B2 H2 g2 hJ => ?_
  refine ⟨fun n m σ' H' => m = items.length - n ∧ n ≤ items.length ∧ (firstX f 0 items = firstX f n (items.drop n) ∧ ∀ m y, m < n → items[m]? = some y → f m y = none) ∧ ∃ B', Gr B2 H2 B' H' ∧ EnvD σ' B' ρ0, ⟨items.length, by omega, Nat.zero_le _, ⟨rfl, fun _ _ z => absurd z (Nat.not_lt_zero _)⟩, B2, Gr.refl g2.t, ev.mono g2.b⟩, ?_⟩
  rintro n m σ' H' ⟨rfl, hle, ⟨hf, hp⟩, B', g3, ev3⟩
  obtain ⟨hstop, hgo⟩ := hJ B' H' g3.b g3.t n
  by_cases hlt : n < items.length
  · right
    have hd : items[n]? = some items[n] := List.getElem?_eq_getElem hlt
    obtain ⟨go, hy⟩ := hgo (enc items[n]) (by rw [List.getElem?_map, hd]; rfl)
    have hf2 : firstX f 0 items = (f n items[n]).or (firstX f (n + 1) (items.drop (n + 1))) := by
      rw [hf, List.drop_eq_getElem_cons hlt]
      rfl
    refine ⟨go, fun σ2 H2' => n + 1 ≤ items.length ∧ (firstX f 0 items = firstX f (n + 1) (items.drop (n + 1)) ∧ ∀ m y, m < n + 1 → items[m]? = some y → f m y = none) ∧ ∃ B', Gr B2 H2 B' H2' ∧ EnvD σ2 B' ρ0, fun σ2 H2 ⟨p1, p0, p2⟩ => ⟨items.length - (n + 1), by omega, rfl, p1, p0, p2⟩, fun x H3 hyl => ?_⟩
    obtain ⟨B3, g4, dx⟩ := hy x H3 hyl
    obtain ⟨ρ1, vs, hg, hs⟩ := turn n _ hd hp
    refine hg σ' B3 H3 x g4.t (ev3.mono g4.b) dx _ fun σ4 ev4 _ => ?_
    refine hs σ4 B3 H3 _ g4.t ev4 (fun hn σ5 B5 H5 g5 ev5 => ?_) fun e he => ?_
    · refine ⟨hlt, ⟨by rw [hf2, hn]; rfl, fun m y hm hyy => ?_⟩, B5, (g3.trans g4).trans g5, ev5⟩
      by_cases z : m < n
      · exact hp m y z hyy
      · have z : m = n := by omega
        subst z
        rw [hd] at hyy
        cases hyy
        exact hn
    · exact (r e (by rw [hf2, he]; rfl)).gr (g2.trans (g3.trans g4))
  · left
    have hie : n = items.length := by omega
    subst hie
    refine ⟨hstop (by rw [List.length_map]), q ?_ σ' B' H' (g2.trans g3) ev3⟩
    rw [hf, List.drop_length]
    rfl
end
/-- a def over data that may raise keeps its promise -/
theorem def_okO {P : Program} {w : World} {K : PySem.W.Frag} {mg : Str → Option Value} {base : Heap} {x : Str} {st : Stmt} {ps N : List Str} {k : Nat} {R : List PyData → Out → Prop}
    (F : At K mg x st ps) (S : FnScope N ps (defScope st)) (len : ∀ ds o, R ds o → ds.length = ps.length)
    (hbody : ∀ (f : Addr) (cdv : Value) (A : Around) (outer : List Env) (s : Shared) (H : Hp) (E : XK), Room k (A.deeper (envOfC x (defScope st) s.heap.objs.size f cdv)) →
      ∃ t, PSs (cxOf (L2.CX P w) P w K mg base N x (defScope st) f cdv A outer s H E) (defBody st) t ∧ ∀ ds o, R ds o → ∀ σ B H Q, Ex B H → EnvD σ B (ds.map some ++ List.replicate (N.length - ds.length) none) → Fit B H Q E o → t { nx := fun _ H' => Q .non H', rt := Q } σ H) (hN : ps.length ≤ N.length := by decide) :
    DefS P w K mg base (L2.CX P w) (k + 1) x ps (spO R) := by
  obtain ⟨f, fd, h1, h2, h3⟩ := F
  refine ⟨f, fd, h1, h2.kp, h3, h2.okX S (fun vs H Q E ⟨B, ds, o, _, hd, hR, _⟩ => by rw [hd.length]; exact len ds o hR) fun cdv A outer s H vs Q E hr ⟨B, ds, o, ex, hd, hR, ft⟩ => ?_⟩
  obtain ⟨t, ht, hq⟩ := hbody f cdv A outer s H E hr
  refine ⟨t, ht, hq ds o hR _ B H Q ex (env_start hd ?_) ft⟩
  rw [hd.length, len ds o hR]
  exact hN
theorem xd_end {t : TS} {E : XK} {ρ ρ' : Rho} {x : Option Exn} (h : XD t E ρ ρ' x) {σ : L2.St} {B H : Hp} {Q : VK} (ex : Ex B H) (ev : EnvD σ B ρ) (ft : Fit B H Q E (outX x)) : t { nx := fun _ H' => Q .non H', rt := Q } σ H := by
  refine h σ B H _ ex ev (fun hx σ' B' H' g _ => ?_) fun e he => ?_
  · subst hx
    exact ft .non B' H' g .non
  · subst he
    exact ft
end Pd

/-! SemH1 -/
set_option Elab.async false
set_option linter.all false
set_option maxRecDepth 100000
set_option maxHeartbeats 4000000
namespace Pd
open PySem PySem.Spec PyProof.Rows L2 PySem.W
local macro_rules | `(tactic| walk_at "ed") => `(tactic| repeat' (first
  | with_reducible (first
    | exact ed_int | exact ed_str | exact ed_bl | exact ed_non
    | exact ea_nil | refine' ea_cons ?_ ?_
    | refine' ed_isi ?_ ?_ | refine' ed_isi2 ?_ ?_ ?_
    | refine' ed_andV ?_ (fun _ => ?_) | refine' ed_orV ?_ (fun _ => ?_) | refine' ed_notV ?_
    | refine' ed_chain ?_ ?_ ?_ (fun _ => ⟨?_, ?_⟩)
    | refine' ed_tup ?_ ?_ | refine' ed_lst ?_ ?_
    | refine' et_not ?_ | refine' et_and ?_ (fun _ => ?_) | refine' et_or ?_ (fun _ => ?_) | exact et_yes
    | refine' et_test ?_ | refine' et_B ?_
    | refine' ed_op ?_ ?_ ?_
    | refine' ed_cb ?_ ?_)
  | exact ed_var rfl
  | exact kit_tt | exact kit_ii | exact kit_ib | exact kit_ll | exact kit_lt | exact kit_tl
  | exact r2_addI | exact r2_subI | exact r2_lt | exact r2_le | exact r2_gt | exact r2_ge | exact r2_isN | exact r2_notN
  | exact rc_lenT | exact rc_lenL | exact rc_intB | exact rc_tupL
  | with_reducible (first | refine' r2_eq ?_ ?_ | refine' r2_ne ?_ ?_)
  | exact sh_int _ | exact sh_sg _ | exact sh_cell _ | exact sh_edge _ | exact sh_pair _ | exact sh_str _ (by decide +kernel)
  | exact r2_ixT rfl | exact r2_ixL rfl
  | refine' ed_tup ?_ ?_
  | (show List.length _ ≤ 100000; simp; done)))
/-! ### halls and walkers that are looked at -/
def edgeX (CH : Addr) (h : Hall) (part : Nat) (es : List Edge) (most : Nat) (taken : List Edge) (n : Nat) (e : Edge) : Option Exn :=
  (if decide (n = most) || !isEdge h e then some (exH CH part n) else none).or (if decide (e ∈ taken) || decide (e ∈ es.take n) then some (exH CH part n) else none)
def chkEdges (CH : Addr) (h : Hall) (part : Nat) (es : List Edge) (most : Nat) (taken : List Edge) : Option Exn := firstX (edgeX CH h part es most taken) 0 es
def doorsE (h : Hall) : List Edge := h.doors.map fun e => edgeFrom e.1 e.2.1 e.2.2
def chkHall (CH : Addr) (h : Hall) : Option Exn :=
  (if !decide (1 ≤ h.rows ∧ h.rows ≤ 5) then some (exH CH (0 : Nat) (0 : Nat)) else none).or ((if !decide (1 ≤ h.cols ∧ h.cols ≤ 5) then some (exH CH (1 : Nat) (0 : Nat)) else none).or ((chkEdges CH h 2 h.walls 24 []).or (chkEdges CH h 3 (doorsE h) 6 h.walls)))
def cellX (CC : Addr) (h : Hall) (cs : List Cell) (n : Nat) (c : Cell) : Option Exn := if decide (n = 3) || (!inH h c || decide (c ∈ cs.take n)) then some (exC CC (n : Nat)) else none
def chkCells (CC : Addr) (h : Hall) (cs : List Cell) : Option Exn := (if decide (cs.length = 0) then some (exC CC (0 : Nat)) else none).or (firstX (cellX CC h cs) 0 cs)
def chkStart (CH CC : Addr) (h : Hall) (cs : List Cell) : Option Exn := (chkHall CH h).or (chkCells CC h cs)
def RX_edges (CH : Addr) (ds : List PyData) (o : Out) : Prop := ∃ (h : Hall) (part : Nat) (es taken : List Edge) (most : Nat) (c : PyData),
  ds = [hallD h, .int (part : Nat), c, .int (most : Nat), .tuple (taken.map edgeD)] ∧ (c = .tuple (es.map edgeD) ∨ c = .list (es.map edgeD)) ∧ part < 4 ∧ most < 30 ∧ es.length ≤ 100000 ∧ o = outX (chkEdges CH h part es most taken)
section
variable {K : PySem.W.Frag} {CH CC : Addr} {E : XK}
theorem rx_edges {ds : List PyData} {o : Out} (hR : RX_edges CH ds o) : ∃ x ρ', o = outX x ∧ XD (rx_check_edges K CH E (spR R_is_edge)) E (ds.map some ++ List.replicate (7 - ds.length) none) ρ' x := by
  obtain ⟨h, part, es, taken, most, c, rfl, hc, hp, hm, hl, rfl⟩ := hR
  refine ⟨_, [some (hallD h), some (.int (part : Nat)), some c, some (.int (most : Nat)), some (.tuple (taken.map edgeD)), none, none], rfl, ?_⟩
  show XD _ E [some (hallD h), some (.int (part : Nat)), some c, some (.int (most : Nat)), some (.tuple (taken.map edgeD)), none, none] _ _
  have hi : IE (iEnumX K (tCons (tVar 2) tNil)) [some (hallD h), some (.int (part : Nat)), some c, some (.int (most : Nat)), some (.tuple (taken.map edgeD)), none, none] (es.zipIdx.map fun p => .tuple [.int p.2, edgeD p.1]) := by
    have e : (es.map edgeD).zipIdx.map (fun p => PyData.tuple [.int (p.2 : Nat), p.1]) = es.zipIdx.map fun p => .tuple [.int p.2, edgeD p.1] := by
      rw [List.zipIdx_map, List.map_map]
      rfl
    rw [← e]
    rcases hc with rfl | rfl
    · exact ie_enumT (ea_cons (ed_var rfl) ea_nil)
    · exact ie_enumL (ea_cons (ed_var rfl) ea_nil)
  have hz : ∀ (n : Nat) (l : List Edge), firstX (fun n (p : Edge × Nat) => edgeX CH h part es most taken n p.1) n (l.zipIdx n) = firstX (edgeX CH h part es most taken) n l := by
    intro n l
    induction l generalizing n with
    | nil => rfl
    | cons e l ih =>
      rw [List.zipIdx_cons]
      show Option.or _ _ = Option.or _ _
      rw [ih]
  refine xd_is (xd_for (fun p : Edge × Nat => .tuple [.int p.2, edgeD p.1]) (fun n p => edgeX CH h part es most taken n p.1) hi fun n x hx hprev => ?_) (hz 0 es)
  rw [List.getElem?_zipIdx] at hx
  cases hxe : es[n]? with
  | none => rw [hxe] at hx; simp at hx
  | some e =>
    rw [hxe] at hx
    simp at hx
    subst hx
    have hnl : n < es.length := (List.getElem?_eq_some_iff.mp hxe).1
    have hnm : n ≤ most := by
      refine Nat.le_of_not_lt fun hlt => ?_
      have hme : es[most]? = some es[most] := List.getElem?_eq_getElem (by omega)
      have := hprev most (es[most], most) hlt (by rw [List.getElem?_zipIdx, hme]; simp)
      simp [edgeX] at this
    have hok : initOkH (part : Nat) (n : Nat) = true := initOkH_lt part hp n (by omega)
    refine ⟨[some (hallD h), some (.int (part : Nat)), some c, some (.int (most : Nat)), some (.tuple (taken.map edgeD)), some (.int (n : Nat)), some (edgeD e)], [5, 6], gd_tup (gds_cons (gd_name (by simp)) (gds_cons (gd_name (by simp)) gds_nil)) rfl, ?_⟩
    refine xd_less (ρ' := [some (hallD h), some (.int (part : Nat)), some c, some (.int (most : Nat)), some (.tuple (taken.map edgeD)), some (.int (n : Nat)), some (edgeD e)]) ?_ (((Rle.refl [some (hallD h), some (.int (part : Nat)), some c, some (.int (most : Nat)), some (.tuple (taken.map edgeD)), none, none]).set (i := 5) (o := some (.int (n : Nat))) rfl).set (i := 6) rfl)
    have t1 : ET (tOr (tTest (tOp (rEqD K) (tVar 5) (tVar 3))) (tNot (tB (tCallD (spR R_is_edge) (tCons (tVar 0) (tCons (tVar 6) tNil))))))
        [some (hallD h), some (.int (part : Nat)), some c, some (.int (most : Nat)), some (.tuple (taken.map edgeD)), some (.int (n : Nat)), some (edgeD e)] (decide (n = most) || !isEdge h e) := by
      refine ET.is (et_or (et_test (ed_op (ed_var rfl) (ed_var rfl) (r2_eq (sh_int _) (sh_int _)))) fun _ => et_not (et_B (ed_call (ea_cons (ed_var rfl) (ea_cons (ed_var rfl) ea_nil)) (.mk h e)))) ?_
      rw [eqv_int]
      congr 1
      exact decide_eq_decide.mpr (by omega)
    refine xd_seq (xd_ifR t1 fun _ => xd_raiseH (ed_var rfl) (ed_var rfl) hok) (xd_ifR (et_or (a := decide (e ∈ taken)) (b := decide (e ∈ es.take n)) (et_test (ED.is (ed_op (ed_var rfl) (ed_var rfl) (r2_inT (neg := false) (sh_edge _) (sh_edges _))) (congrArg PyData.bool (any_edge _ _)))) fun _ => et_test ?_) fun _ => xd_raiseH (ed_var rfl) (ed_var rfl) hok)
    have hz : ((es.take n).map edgeD) = cutD (es.map edgeD) none (some (n : Int)) := by
      rw [cut_take _ _ (by rw [List.length_map]; omega), List.map_take]
    rcases hc with rfl | rfl
    · refine ED.is (ed_op (ed_var rfl) (ED.is (d' := .tuple ((es.take n).map edgeD)) (ed_slT (ed_var rfl) eo_none (eo_some (ed_var rfl))) (by rw [hz])) (r2_inT (neg := false) (sh_edge _) (sh_edges _))) (congrArg PyData.bool (any_edge _ _))
    · refine ED.is (ed_op (ed_var rfl) (ED.is (d' := .list ((es.take n).map edgeD)) (ed_slL (ed_var rfl) eo_none (eo_some (ed_var rfl))) (by rw [hz])) (r2_inL (neg := false) (sh_edge _) (sh_edgesL _))) (congrArg PyData.bool (any_edge _ _))
def WaysOk (h : Hall) : Prop := ∀ e ∈ h.doors, Way e.2.2
def RX_hall (CH : Addr) (ds : List PyData) (o : Out) : Prop := ∃ h : Hall, ds = [hallD h] ∧ WaysOk h ∧ h.walls.length ≤ 10000 ∧ h.doors.length ≤ 10000 ∧ o = outX (chkHall CH h)
theorem rx_hall {ds : List PyData} {o : Out} (hR : RX_hall CH ds o) : ∃ x ρ', o = outX x ∧ XD (rx_check_hall K CH E (spR R_door_edge) (spR R_is_side) (spO (RX_edges CH))) E (ds.map some ++ List.replicate (6 - ds.length) none) ρ' x := by
  obtain ⟨h, rfl, hw, lw, ld, rfl⟩ := hR
  refine ⟨_, [some (hallD h), some (.int h.rows), some (.int h.cols), some (.tuple (h.walls.map edgeD)), some (.tuple (h.doors.map edgeD)), none], rfl, ?_⟩
  show XD _ E [some (hallD h), none, none, none, none, none] _ _
  refine xd_seq2 (sd_ifNo (ET.is (by walk_at "ed") (by simp [eqv_int]))) ?_
  refine xd_seq2 (sd_asg (d := hallD h) (by walk_at "ed") (gd_tup (vs := [1, 2, 3, 4]) (gds_cons (gd_name (by simp)) (gds_cons (gd_name (by simp)) (gds_cons (gd_name (by simp)) (gds_cons (gd_name (by simp)) gds_nil)))) rfl)) ?_
  refine xd_seq (xd_ifR (et_not (et_B (ed_call (by walk_at "ed") (.mk h.rows)))) fun _ => xd_raiseH ed_int ed_int (initOkH_lt 0 (by decide) 0 (by decide))) ?_
  refine xd_seq (xd_ifR (et_not (et_B (ed_call (by walk_at "ed") (.mk h.cols)))) fun _ => xd_raiseH ed_int ed_int (initOkH_lt 1 (by decide) 0 (by decide))) ?_
  refine xd_seq2 (sd_ifNo (ET.is (by walk_at "ed") (by rfl))) ?_
  refine xd_seq (xd_call (ea_cons (ed_var rfl) (ea_cons ed_int (ea_cons (ed_var rfl) (ea_cons ed_int (ea_cons (ed_tup ea_nil (by simp)) ea_nil))))) ⟨h, 2, h.walls, [], 24, _, rfl, .inl rfl, by decide, by decide, by omega, rfl⟩) ?_
  refine xd_seq2 (sd_ifNo (ET.is (by walk_at "ed") (by rfl))) ?_
  refine xd_call (x := chkEdges CH h 3 (doorsE h) 6 h.walls) (ea_cons (ed_var rfl) (ea_cons ed_int (ea_cons (d := .list ((doorsE h).map edgeD)) ?_ (ea_cons ed_int (ea_cons (ed_var rfl) ea_nil))))) ⟨h, 3, doorsE h, h.walls, 6, _, rfl, .inr rfl, by decide, by decide, by unfold doorsE; rw [List.length_map]; omega, rfl⟩
  refine ED.is (ed_lcM h.doors edgeD (fun e => edgeD (edgeFrom e.1 e.2.1 e.2.2)) (ie_tup (ed_var rfl)) (by omega) fun e he => ⟨_, gd_name (by simp), ed_call (ea_cons (ed_var rfl) ea_nil) (.mk e (hw e he))⟩) ?_
  unfold doorsE
  rw [List.map_map]
  rfl
def RX_cells (CC : Addr) (ds : List PyData) (o : Out) : Prop := ∃ (h : Hall) (cs : List Cell), ds = [hallD h, cellsD cs] ∧ cs.length ≤ 10000 ∧ o = outX (chkCells CC h cs)
theorem rx_cells {ds : List PyData} {o : Out} (hR : RX_cells CC ds o) : ∃ x ρ', o = outX x ∧ XD (rx_check_cells K CC E (spR R_is_cell)) E (ds.map some ++ List.replicate (4 - ds.length) none) ρ' x := by
  obtain ⟨h, cs, rfl, lc, rfl⟩ := hR
  refine ⟨_, [some (hallD h), some (cellsD cs), none, none], rfl, ?_⟩
  show XD _ E [some (hallD h), some (cellsD cs), none, none] _ _
  refine xd_seq (xd_ifR (ET.is (by walk_at "ed") (by rw [eqv_int]; simp)) fun _ => xd_raiseC ed_int (initOkC_lt 0 (by decide))) ?_
  have hi : IE (iEnumX K (tCons (tVar 1) tNil)) [some (hallD h), some (cellsD cs), none, none] (cs.zipIdx.map fun p => .tuple [.int p.2, cellD p.1]) := by
    have e : (cs.map cellD).zipIdx.map (fun p => PyData.tuple [.int (p.2 : Nat), p.1]) = cs.zipIdx.map fun p => .tuple [.int p.2, cellD p.1] := by
      rw [List.zipIdx_map, List.map_map]
      rfl
    rw [← e]
    exact ie_enumT (ea_cons (ed_var rfl) ea_nil)
  have hz : ∀ (n : Nat) (l : List Cell), firstX (fun n (p : Cell × Nat) => cellX CC h cs n p.1) n (l.zipIdx n) = firstX (cellX CC h cs) n l := by
    intro n l
    induction l generalizing n with
    | nil => rfl
    | cons e l ih =>
      rw [List.zipIdx_cons]
      show Option.or _ _ = Option.or _ _
      rw [ih]
  refine xd_is (xd_for (fun p : Cell × Nat => .tuple [.int p.2, cellD p.1]) (fun n p => cellX CC h cs n p.1) hi fun n x hx hprev => ?_) (hz 0 cs)
  rw [List.getElem?_zipIdx] at hx
  cases hxe : cs[n]? with
  | none => rw [hxe] at hx; simp at hx
  | some e =>
    rw [hxe] at hx
    simp at hx
    subst hx
    have hnl : n < cs.length := (List.getElem?_eq_some_iff.mp hxe).1
    have hnm : n ≤ 3 := by
      refine Nat.le_of_not_lt fun hlt => ?_
      have hme : cs[3]? = some cs[3] := List.getElem?_eq_getElem (by omega)
      have := hprev 3 (cs[3], 3) hlt (by rw [List.getElem?_zipIdx, hme]; simp)
      simp [cellX] at this
    refine ⟨[some (hallD h), some (cellsD cs), some (.int (n : Nat)), some (cellD e)], [2, 3], gd_tup (gds_cons (gd_name (by simp)) (gds_cons (gd_name (by simp)) gds_nil)) rfl, ?_⟩
    refine xd_less (ρ' := [some (hallD h), some (cellsD cs), some (.int (n : Nat)), some (cellD e)]) ?_ (((Rle.refl [some (hallD h), some (cellsD cs), none, none]).set (i := 2) (o := some (.int (n : Nat))) rfl).set (i := 3) rfl)
    refine xd_ifR (et_or (a := decide (n = 3)) (et_test (ED.is (ed_op (ed_var rfl) ed_int (r2_eq (sh_int _) (sh_int _))) ?_)) fun _ => et_or (a := !inH h e) (b := decide (e ∈ cs.take n)) (et_not (et_B (ed_call (ea_cons (ed_var rfl) (ea_cons (ed_var rfl) ea_nil)) (.mk h e)))) fun _ => et_test (ED.is (ed_op (ed_var rfl) (ED.is (d' := .tuple ((cs.take n).map cellD)) (ed_slT (ed_var rfl) eo_none (eo_some (ed_var rfl))) ?_) (r2_inT (neg := false) (sh_cell _) (sh_cells _))) (congrArg PyData.bool (any_cell _ _)))) fun _ => xd_raiseC (ed_var rfl) (initOkC_lt n (by omega))
    · rw [eqv_int]
      exact congrArg PyData.bool (decide_eq_decide.mpr (by omega))
    · rw [cut_take _ _ (by rw [List.length_map]; omega), List.map_take]
def RX_start (CH CC : Addr) (ds : List PyData) (o : Out) : Prop := ∃ (h : Hall) (cs : List Cell), ds = [hallD h, cellsD cs] ∧ WaysOk h ∧ h.walls.length ≤ 10000 ∧ h.doors.length ≤ 10000 ∧ cs.length ≤ 10000 ∧ o = outX (chkStart CH CC h cs)
theorem rx_start {ds : List PyData} {o : Out} (hR : RX_start CH CC ds o) : ∃ x ρ', o = outX x ∧ XD (rx_check_start K E (spO (RX_cells CC)) (spO (RX_hall CH))) E (ds.map some ++ List.replicate (2 - ds.length) none) ρ' x := by
  obtain ⟨h, cs, rfl, hw, lw, ld, lc, rfl⟩ := hR
  refine ⟨_, [some (hallD h), some (cellsD cs)], rfl, ?_⟩
  exact xd_seq (xd_call (ea_cons (ed_var rfl) ea_nil) ⟨h, rfl, hw, lw, ld, rfl⟩) (xd_call (ea_cons (ed_var rfl) (ea_cons (ed_var rfl) ea_nil)) ⟨h, cs, rfl, lc, rfl⟩)
/-! what passes -/
theorem firstX_none {α : Type} {f : Nat → α → Option Exn} : ∀ {xs : List α} {n : Nat}, firstX f n xs = none → ∀ m x, xs[m]? = some x → f (n + m) x = none
  | [], _, _, m, x, hx => by simp at hx
  | y :: xs, n, h, m, x, hx => by
    have h : (f n y).or (firstX f (n + 1) xs) = none := h
    rw [Option.or_eq_none_iff] at h
    cases m with
    | zero =>
      simp at hx
      subst hx
      exact h.1
    | succ m =>
      have := firstX_none h.2 m x (by simpa using hx)
      rw [show n + 1 + m = n + (m + 1) by omega] at this
      exact this
theorem nodup_take {α : Type} {xs : List α} (h : ∀ n x, xs[n]? = some x → x ∉ xs.take n) : xs.Nodup := by
  rw [List.nodup_iff_pairwise_ne, List.pairwise_iff_getElem]
  intro i j hi hj hij e
  refine h j xs[j] (List.getElem?_eq_getElem hj) ?_
  rw [← e]
  refine List.mem_iff_getElem.mpr ⟨i, by rw [List.length_take]; omega, ?_⟩
  rw [List.getElem_take]
theorem chkEdges_none {h : Hall} {part : Nat} {es taken : List Edge} {most : Nat} (e : chkEdges CH h part es most taken = none) : es.length ≤ most ∧ (∀ x ∈ es, isEdge h x = true) ∧ (∀ x ∈ es, x ∉ taken) ∧ es.Nodup := by
  have k : ∀ n x, es[n]? = some x → n ≠ most ∧ isEdge h x = true ∧ x ∉ taken ∧ x ∉ es.take n := fun n x hx => by
    have := firstX_none e n x hx
    rw [Nat.zero_add] at this
    unfold edgeX at this
    rw [Option.or_eq_none_iff] at this
    obtain ⟨h1, h2⟩ := this
    split at h1
    · cases h1
    · rename_i q1
      split at h2
      · cases h2
      · rename_i q2
        simp at q1 q2
        exact ⟨q1.1, q1.2, q2.1, q2.2⟩
  have m : ∀ x ∈ es, ∃ n : Nat, es[n]? = some x := fun x hx => List.mem_iff_getElem?.mp hx
  refine ⟨Nat.le_of_not_lt fun hlt => ?_, fun x hx => ?_, fun x hx => ?_, nodup_take fun n x hx => (k n x hx).2.2.2⟩
  · exact (k most es[most] (List.getElem?_eq_getElem hlt)).1 rfl
  · obtain ⟨n, hn⟩ := m x hx
    exact (k n x hn).2.1
  · obtain ⟨n, hn⟩ := m x hx
    exact (k n x hn).2.2.1
theorem chk_ok {h : Hall} {cs : List Cell} (hw : WaysOk h) (e : chkStart CH CC h cs = none) : HallOk h ∧ CellsOk h cs := by
  unfold chkStart chkHall chkCells at e
  simp only [Option.or_eq_none_iff] at e
  obtain ⟨⟨e1, e2, e3, e4⟩, e5, e6⟩ := e
  obtain ⟨a1, a2, _, a4⟩ := chkEdges_none e3
  obtain ⟨b1, b2, b3, b4⟩ := chkEdges_none e4
  have r1 : 1 ≤ h.rows ∧ h.rows ≤ 5 := by
    split at e1
    · cases e1
    · rename_i q
      simpa using q
  have r2 : 1 ≤ h.cols ∧ h.cols ≤ 5 := by
    split at e2
    · cases e2
    · rename_i q
      simpa using q
  have mm : ∀ x ∈ h.doors, edgeFrom x.1 x.2.1 x.2.2 ∈ doorsE h := fun x hx => List.mem_map_of_mem hx
  refine ⟨⟨r1, r2, a1, by unfold doorsE at b1; rw [List.length_map] at b1; exact b1, a2, a4, hw, fun x hx => b2 _ (mm x hx), fun x hx => b3 _ (mm x hx), b4⟩, ?_⟩
  have k : ∀ n x, cs[n]? = some x → n ≠ 3 ∧ inH h x = true ∧ x ∉ cs.take n := fun n x hx => by
    have := firstX_none e6 n x hx
    rw [Nat.zero_add] at this
    unfold cellX at this
    split at this
    · cases this
    · rename_i q
      simp at q
      exact q
  refine ⟨fun z => ?_, Nat.le_of_not_lt fun hlt => (k 3 cs[3] (List.getElem?_eq_getElem hlt)).1 rfl, fun x hx => ?_, nodup_take fun n x hx => (k n x hx).2.2⟩
  · subst z
    simp at e5
  · obtain ⟨n, hn⟩ := List.mem_iff_getElem?.mp hx
    exact (k n x hn).2.1
/-! may -/
def RX_may (CH CC : Addr) (ds : List PyData) (o : Out) : Prop := ∃ (h : Hall) (cs : List Cell), ds = [hallD h, cellsD cs] ∧ WaysOk h ∧ h.walls.length ≤ 10000 ∧ h.doors.length ≤ 10000 ∧ cs.length ≤ 10000 ∧ o = thenO (chkStart CH CC h cs) (.ok (.list ((movesD h (firstS h cs)).map fstD)))
theorem rx_may_ok {ds : List PyData} {o : Out} (hR : RX_may CH CC ds o) : OD (rx_may K E (spR R_first_standing) (spR R_moves) (spO (RX_start CH CC))) E (ds.map some ++ List.replicate (3 - ds.length) none) o := by
  obtain ⟨h, cs, rfl, hw, lw, ld, lc, rfl⟩ := hR
  refine od_seq (xd_call (ea_cons (ed_var rfl) (ea_cons (ed_var rfl) ea_nil)) ⟨h, cs, rfl, hw, lw, ld, lc, rfl⟩) fun hn => ?_
  obtain ⟨o, oc⟩ := chk_ok hw hn
  have so := sok_first o oc
  have nd := o.ndoors
  refine od_ret (ed_lcM (movesD h (firstS h cs)) (fun d => d) fstD ?_ (Nat.le_trans (movesD_len _ _ so.ncells) (by omega)) fun d hd => ⟨_, gd_name (by simp), ?_⟩)
  · rw [List.map_id']
    exact ie_list (ed_call (ea_cons (ed_var rfl) (ea_cons (ed_call (ea_cons (ed_var rfl) (ea_cons (ed_var rfl) ea_nil)) (.mk h cs (by omega))) ea_nil)) (.mk h (firstS h cs) so))
  · obtain ⟨m, rfl⟩ := movesD_shape _ _ d hd
    exact ed_op (ed_var rfl) ed_int (r2_ixT rfl)
end
end Pd

/-! SemH2 -/
set_option Elab.async false
set_option linter.all false
set_option maxRecDepth 100000
set_option maxHeartbeats 4000000
namespace Pd
open PySem PySem.Spec PyProof.Rows L2 PySem.W
local macro_rules | `(tactic| walk_at "ed") => `(tactic| repeat' (first
  | with_reducible (first
    | exact ed_int | exact ed_str | exact ed_bl | exact ed_non
    | exact ea_nil | refine' ea_cons ?_ ?_
    | refine' ed_isi ?_ ?_ | refine' ed_isi2 ?_ ?_ ?_
    | refine' ed_andV ?_ (fun _ => ?_) | refine' ed_orV ?_ (fun _ => ?_) | refine' ed_notV ?_
    | refine' ed_chain ?_ ?_ ?_ (fun _ => ⟨?_, ?_⟩)
    | refine' ed_tup ?_ ?_ | refine' ed_lst ?_ ?_
    | refine' et_not ?_ | refine' et_and ?_ (fun _ => ?_) | refine' et_or ?_ (fun _ => ?_) | exact et_yes
    | refine' et_test ?_ | refine' et_B ?_
    | refine' ed_op ?_ ?_ ?_
    | refine' ed_cb ?_ ?_)
  | exact ed_var rfl
  | exact kit_tt | exact kit_ii | exact kit_ib | exact kit_ll | exact kit_lt | exact kit_tl
  | exact r2_addI | exact r2_subI | exact r2_lt | exact r2_le | exact r2_gt | exact r2_ge | exact r2_isN | exact r2_notN
  | exact rc_lenT | exact rc_lenL | exact rc_intB | exact rc_tupL
  | with_reducible (first | refine' r2_eq ?_ ?_ | refine' r2_ne ?_ ?_)
  | exact sh_int _ | exact sh_sg _ | exact sh_cell _ | exact sh_edge _ | exact sh_pair _ | exact sh_str _ (by decide +kernel)
  | exact r2_ixT rfl | exact r2_ixL rfl
  | refine' ed_tup ?_ ?_
  | (show List.length _ ≤ 100000; simp; done)))
/-! ### any text, cut in pieces -/
def cut (c : Nat) (t : List Nat) : List (List Nat) := (Txt.split (St' t) ⟨#[c]⟩).map fun x => x.cps.toList
theorem st_eta (x : Str) : St' x.cps.toList = x := str_ext (by simp [St'])
theorem cut_split (c : Nat) (t : List Nat) : Txt.split (St' t) ⟨#[c]⟩ = (cut c t).map St' := by
  unfold cut
  rw [List.map_map]
  have : ∀ p ∈ Txt.split (St' t) ⟨#[c]⟩, (St' ∘ fun x : Str => x.cps.toList) p = p := fun p _ => st_eta p
  rw [List.map_congr_left this, List.map_id']
theorem cut_ne (c : Nat) (t : List Nat) : cut c t ≠ [] := by
  unfold cut
  simpa using split_ne (St' t) c
theorem gl_cut (c : Nat) (t : List Nat) : gl c (cut c t) = t := by
  have h1 : Str.join ⟨#[c]⟩ (Txt.split (St' t) ⟨#[c]⟩) = St' t := StrLaws.join_split _ _
  have h4 := join_cps c (Txt.split (St' t) ⟨#[c]⟩)
  rw [h1] at h4
  simpa [St', cut] using h4.symm
theorem gl_len1 (c : Nat) : ∀ L : List (List Nat), L ≠ [] → (gl c L).length + 1 = (L.map List.length).sum + L.length
  | [], h => absurd rfl h
  | [x], _ => by simp [gl]
  | x :: y :: r, _ => by
    have ih := gl_len1 c (y :: r) (by simp)
    show (x ++ c :: gl c (y :: r)).length + 1 = _
    simp only [List.length_append, List.length_cons, List.map_cons, List.sum_cons] at ih ⊢
    omega
theorem mem_gl {c : Nat} : ∀ {L : List (List Nat)} {l : List Nat} {a : Nat}, l ∈ L → a ∈ l → a ∈ gl c L
  | [], _, _, h, _ => nomatch h
  | [x], l, a, h, ha => by
    rw [List.mem_singleton] at h
    subst h
    exact ha
  | x :: y :: r, l, a, h, ha => by
    show a ∈ x ++ c :: gl c (y :: r)
    rcases List.mem_cons.mp h with rfl | h
    · exact List.mem_append_left _ ha
    · exact List.mem_append_right _ (List.mem_cons_of_mem _ (mem_gl h ha))
theorem len_le_sum : ∀ {L : List (List Nat)} {l : List Nat}, l ∈ L → l.length ≤ (L.map List.length).sum
  | x :: r, l, h => by
    rw [List.map_cons, List.sum_cons]
    rcases List.mem_cons.mp h with rfl | h
    · omega
    · have := len_le_sum h
      omega
theorem cut_count (c : Nat) (t : List Nat) : (cut c t).length ≤ t.length + 1 := by
  have := gl_len1 c (cut c t) (cut_ne c t)
  rw [gl_cut] at this
  omega
theorem cut_len {c : Nat} {t l : List Nat} (h : l ∈ cut c t) : l.length ≤ t.length := by
  have h1 := gl_len1 c (cut c t) (cut_ne c t)
  rw [gl_cut] at h1
  have h2 := len_le_sum h
  have h3 : 0 < (cut c t).length := List.length_pos_iff.mpr (cut_ne c t)
  omega
theorem cut_mem {c a : Nat} {t l : List Nat} (h : l ∈ cut c t) (ha : a ∈ l) : a ∈ t := by
  have := mem_gl (c := c) h ha
  rw [gl_cut] at this
  exact this
/-- signs that are signs -/
def Chs (t : List Nat) : Prop := ∀ a ∈ t, a < 1114112
theorem chs_ok {t : List Nat} (h : Chs t) : PyData.strOk (St' t) = true := by
  show t.toArray.all (fun c => decide (c < 1114112)) = true
  rw [List.all_toArray, List.all_eq_true]
  exact fun a ha => decide_eq_true (h a ha)
theorem chs_cut {c : Nat} {t l : List Nat} (h : Chs t) (hl : l ∈ cut c t) : Chs l := fun a ha => h a (cut_mem hl ha)
/-! ### rows that are rows -/
def figB : List Nat → Bool
  | [c] => decide (48 ≤ c ∧ c < 58)
  | _ => false
theorem figB_iff {l : List Nat} : figB l = true ↔ ∃ d < 10, l = [48 + d] := by
  constructor
  · intro h
    match l, h with
    | [c], h =>
      simp only [figB, decide_eq_true_eq] at h
      exact ⟨c - 48, by omega, by rw [show 48 + (c - 48) = c by omega]⟩
  · rintro ⟨d, hd, rfl⟩
    simp only [figB, decide_eq_true_eq]
    omega
def kindOf (l : List Nat) : Option Nat := if l = kindC 0 then some 0 else if l = kindC 1 then some 1 else if l = kindC 2 then some 2 else if l = kindC 3 then some 3 else none
theorem kindOf_k {k : Nat} (hk : k < 4) : kindOf (kindC k) = some k := by
  match k, hk with
  | 0, _ => decide
  | 1, _ => decide
  | 2, _ => decide
  | 3, _ => decide
theorem kindOf_some {l : List Nat} {k : Nat} (h : kindOf l = some k) : k < 4 ∧ l = kindC k := by
  unfold kindOf at h
  repeat' split at h
  all_goals first | (cases h; rename_i q; exact ⟨by decide, q⟩) | cases h
theorem kindOf_none {l : List Nat} (h : kindOf l = none) : ∀ k < 4, l ≠ kindC k := fun k hk e => by
  rw [e, kindOf_k hk] at h
  cases h
def signB (k : Nat) (more : List (List Nat)) : Bool :=
  if k = 1 then decide (more = [[45]] ∨ more = [[124]]) else if k = 2 then decide (more = [[101]] ∨ more = [[110]] ∨ more = [[115]] ∨ more = [[119]]) else decide (more = [])
def isRowB : List (List Nat) → Bool
  | w :: a :: b :: more => match kindOf w with
    | some k => figB a && figB b && signB k more
    | none => false
  | _ => false
theorem isRowB_cons (w a b : List Nat) (more : List (List Nat)) : isRowB (w :: a :: b :: more) = match kindOf w with
    | some k => figB a && figB b && signB k more
    | none => false := rfl
theorem row_of {ws : List (List Nat)} (h : isRowB ws = true) : ∃ r : Rw, r.Ok ∧ ws = r.words := by
  match ws, h with
  | w :: a :: b :: more, h =>
    rw [isRowB_cons] at h
    cases hk : kindOf w with
    | none => rw [hk] at h; cases h
    | some k =>
      rw [hk] at h
      simp only [Bool.and_eq_true] at h
      obtain ⟨⟨ha, hb⟩, hs⟩ := h
      obtain ⟨x, hx, rfl⟩ := figB_iff.mp ha
      obtain ⟨y, hy, rfl⟩ := figB_iff.mp hb
      obtain ⟨hk4, rfl⟩ := kindOf_some hk
      have k4 : k = 0 ∨ k = 1 ∨ k = 2 ∨ k = 3 := by omega
      rcases k4 with rfl | rfl | rfl | rfl
      · simp [signB] at hs
        subst hs
        exact ⟨⟨0, x, y, none⟩, ⟨hx, hy, .inl ⟨rfl, rfl⟩⟩, rfl⟩
      · simp [signB] at hs
        rcases hs with rfl | rfl
        · exact ⟨⟨1, x, y, some .h⟩, ⟨hx, hy, .inr (.inl ⟨rfl, .inl rfl⟩)⟩, rfl⟩
        · exact ⟨⟨1, x, y, some .v⟩, ⟨hx, hy, .inr (.inl ⟨rfl, .inr rfl⟩)⟩, rfl⟩
      · simp [signB] at hs
        rcases hs with rfl | rfl | rfl | rfl
        · exact ⟨⟨2, x, y, some .e⟩, ⟨hx, hy, .inr (.inr (.inl ⟨rfl, .e, .inl rfl, rfl⟩))⟩, rfl⟩
        · exact ⟨⟨2, x, y, some .n⟩, ⟨hx, hy, .inr (.inr (.inl ⟨rfl, .n, .inr (.inl rfl), rfl⟩))⟩, rfl⟩
        · exact ⟨⟨2, x, y, some .s⟩, ⟨hx, hy, .inr (.inr (.inl ⟨rfl, .s, .inr (.inr (.inl rfl)), rfl⟩))⟩, rfl⟩
        · exact ⟨⟨2, x, y, some .w⟩, ⟨hx, hy, .inr (.inr (.inl ⟨rfl, .w, .inr (.inr (.inr rfl)), rfl⟩))⟩, rfl⟩
      · simp [signB] at hs
        subst hs
        exact ⟨⟨3, x, y, none⟩, ⟨hx, hy, .inr (.inr (.inr ⟨rfl, rfl⟩))⟩, rfl⟩
theorem row_is {r : Rw} (o : r.Ok) : isRowB r.words = true := by
  have hk := o.k4
  have ha := figB_iff.mpr ⟨r.a, o.a, rfl⟩
  have hb := figB_iff.mpr ⟨r.b, o.b, rfl⟩
  have h : isRowB (kindC r.k :: [48 + r.a] :: [48 + r.b] :: sgC r.s) = (figB [48 + r.a] && figB [48 + r.b] && signB r.k (sgC r.s)) := by
    rw [isRowB_cons, kindOf_k hk]
  show isRowB (kindC r.k :: [48 + r.a] :: [48 + r.b] :: sgC r.s) = true
  rw [h, ha, hb]
  rcases o.s with ⟨h1, h2⟩ | ⟨h1, h2 | h2⟩ | ⟨h1, g, hg, h2⟩ | ⟨h1, h2⟩ <;> rw [h1, h2]
  · rfl
  · rfl
  · rfl
  · rcases hg with rfl | rfl | rfl | rfl <;> rfl
  · rfl
/-- the row that words are -/
noncomputable def rowOf (ws : List (List Nat)) : Option Rw := if h : isRowB ws = true then some (Classical.choose (row_of h)) else none
theorem rowOf_some {ws : List (List Nat)} {r : Rw} (h : rowOf ws = some r) : r.Ok ∧ ws = r.words := by
  unfold rowOf at h
  split at h
  · rename_i q
    cases h
    exact Classical.choose_spec (row_of q)
  · cases h
theorem rowOf_none {ws : List (List Nat)} (h : rowOf ws = none) : isRowB ws = false := by
  unfold rowOf at h
  split at h
  · cases h
  · rename_i q
    simpa using q
/-- row by row: the first that is refused, or all -/
noncomputable def scanR : Nat → Nat → List (List (List Nat)) → Sum Nat (List Rw)
  | _, _, [] => .inr []
  | m, n, ws :: r => match rowOf ws with
    | none => .inl n
    | some x => if (decide (x.k = 0) != decide (n = 0)) || decide (x.k < m) then .inl n else match scanR x.k (n + 1) r with
      | .inl i => .inl i
      | .inr rs => .inr (x :: rs)
noncomputable def scanT (t : List Nat) : Sum Nat (List Rw) := scanR 0 0 ((cut 10 t).map (cut 32))
theorem scanR_len : ∀ {L : List (List (List Nat))} {m n : Nat} {rs : List Rw}, scanR m n L = .inr rs → rs.length = L.length
  | [], _, _, _, h => by cases h; rfl
  | ws :: r, m, n, rs, h => by
    unfold scanR at h
    split at h
    · cases h
    · split at h
      · cases h
      · split at h
        · cases h
        · rename_i rs' q
          cases h
          simp [scanR_len q]
theorem scanR_ok : ∀ {L : List (List (List Nat))} {m n : Nat} {rs : List Rw}, scanR m n L = .inr rs → (∀ r ∈ rs, r.Ok ∧ m ≤ r.k) ∧ (∀ (i : Nat) (r : Rw), rs[i]? = some r → (r.k = 0 ↔ n + i = 0)) ∧ L = rs.map Rw.words
  | [], _, _, _, h => by
    cases h
    exact ⟨(fun _ h => nomatch h), (fun i r h => by simp at h), rfl⟩
  | ws :: r, m, n, rs, h => by
    unfold scanR at h
    split at h
    · cases h
    · rename_i x hx
      split at h
      · cases h
      · rename_i hc
        split at h
        · cases h
        · rename_i rs' q
          cases h
          obtain ⟨h1, h2, h3⟩ := scanR_ok q
          obtain ⟨ho, hw⟩ := rowOf_some hx
          simp only [Bool.or_eq_true, decide_eq_true_eq, not_or, bne_iff_ne, ne_eq, Decidable.not_not] at hc
          obtain ⟨c1, c2⟩ := hc
          have c1 : x.k = 0 ↔ n = 0 := by simpa using c1
          refine ⟨fun y hy => ?_, fun i y hy => ?_, by rw [h3, hw]; rfl⟩
          · rcases List.mem_cons.mp hy with rfl | hy
            · exact ⟨ho, by omega⟩
            · exact ⟨(h1 y hy).1, by have := (h1 y hy).2; omega⟩
          · cases i with
            | zero =>
              simp at hy
              subst hy
              simpa using c1
            | succ i =>
              have := h2 i y (by simpa using hy)
              rw [this]
              omega
theorem scanR_bad : ∀ {L : List (List (List Nat))} {m n i : Nat}, scanR m n L = .inl i → n ≤ i ∧ i < n + L.length
  | [], _, _, _, h => by cases h
  | ws :: r, m, n, i, h => by
    unfold scanR at h
    rw [List.length_cons]
    split at h
    · cases h
      omega
    · split at h
      · cases h
        omega
      · split at h
        · rename_i j q
          cases h
          have := scanR_bad q
          omega
        · cases h
/-! ### the hall and the cells that rows tell -/
def Rw.edge (r : Rw) : Edge := (r.a, r.b, r.s.getD .h)
def Rw.cell (r : Rw) : Cell := (r.a, r.b)
def hallOf (rs : List Rw) : Hall := ⟨((rs.head?.map (·.a)).getD 0 : Nat), ((rs.head?.map (·.b)).getD 0 : Nat), (rs.filter fun r => r.k == 1).map Rw.edge, (rs.filter fun r => r.k == 2).map Rw.edge⟩
def cellsOf (rs : List Rw) : List Cell := (rs.filter fun r => r.k == 3).map Rw.cell
section
variable {t : List Nat} {rs : List Rw}
theorem scanT_ok (h : scanT t = .inr rs) : (∀ r ∈ rs, r.Ok) ∧ (∀ (i : Nat) (r : Rw), rs[i]? = some r → (r.k = 0 ↔ i = 0)) ∧ (cut 10 t).map (cut 32) = rs.map Rw.words := by
  obtain ⟨h1, h2, h3⟩ := scanR_ok h
  exact ⟨fun r hr => (h1 r hr).1, fun i r hr => by have := h2 i r hr; simpa using this, h3⟩
theorem scanT_cons (h : scanT t = .inr rs) : ∃ r rest, rs = r :: rest ∧ r.k = 0 ∧ ∀ x ∈ rest, x.k ≠ 0 := by
  obtain ⟨h1, h2, h3⟩ := scanT_ok h
  cases rs with
  | nil =>
    have := cut_ne 10 t
    simp at h3
    exact absurd h3 this
  | cons r rest =>
    refine ⟨r, rest, rfl, (h2 0 r rfl).mpr rfl, fun x hx e => ?_⟩
    obtain ⟨i, hi⟩ := List.mem_iff_getElem?.mp hx
    have := (h2 (i + 1) x (by simpa using hi)).mp e
    omega
theorem things0 (h : scanT t = .inr rs) : thingsK rs 0 = [cellD ((hallOf rs).rows, (hallOf rs).cols)] := by
  have ok := (scanT_ok h).1
  obtain ⟨r, rest, rfl, h0, hr⟩ := scanT_cons h
  have e : List.filter (fun r : Rw => r.k == 0) (r :: rest) = [r] := by
    rw [List.filter_cons, if_pos (by simpa using h0), List.filter_eq_nil_iff.mpr fun x hx => by simpa using hr x hx]
  unfold thingsK
  rw [e]
  have hs : r.s = none := by
    rcases (ok r (.head _)).s with ⟨_, q⟩ | ⟨q, _⟩ | ⟨q, _⟩ | ⟨q, _⟩
    · exact q
    all_goals omega
  show [Rw.thing r] = _
  unfold Rw.thing
  rw [hs]
  rfl
theorem things12 (h : scanT t = .inr rs) {k : Nat} (hk : k = 1 ∨ k = 2) : thingsK rs k = ((rs.filter fun r => r.k == k).map Rw.edge).map edgeD := by
  have ok := (scanT_ok h).1
  unfold thingsK
  rw [List.map_map]
  refine List.map_congr_left fun r hr => ?_
  obtain ⟨hm, hk2⟩ := List.mem_filter.mp hr
  have hk2 : r.k = k := by simpa using hk2
  have hs : ∃ g, r.s = some g := by
    rcases (ok r hm).s with ⟨q, _⟩ | ⟨_, q | q⟩ | ⟨_, g, _, q⟩ | ⟨q, _⟩
    · omega
    · exact ⟨_, q⟩
    · exact ⟨_, q⟩
    · exact ⟨_, q⟩
    · omega
  obtain ⟨g, hs⟩ := hs
  show Rw.thing r = edgeD (Rw.edge r)
  unfold Rw.thing Rw.edge
  rw [hs]
  rfl
theorem things3 (h : scanT t = .inr rs) : thingsK rs 3 = (cellsOf rs).map cellD := by
  have ok := (scanT_ok h).1
  unfold thingsK cellsOf
  rw [List.map_map]
  refine List.map_congr_left fun r hr => ?_
  obtain ⟨hm, hk2⟩ := List.mem_filter.mp hr
  have hk2 : r.k = 3 := by simpa using hk2
  have hs : r.s = none := by
    rcases (ok r hm).s with ⟨q, _⟩ | ⟨q, _⟩ | ⟨q, _⟩ | ⟨_, q⟩
    · omega
    · omega
    · omega
    · exact q
  show Rw.thing r = cellD (Rw.cell r)
  unfold Rw.thing Rw.cell
  rw [hs]
  rfl
theorem scan_ways (h : scanT t = .inr rs) : WaysOk (hallOf rs) := fun e he => by
  obtain ⟨r, hr, rfl⟩ := List.mem_map.mp he
  obtain ⟨hm, hk2⟩ := List.mem_filter.mp hr
  have hk2 : r.k = 2 := by simpa using hk2
  rcases ((scanT_ok h).1 r hm).s with ⟨q, _⟩ | ⟨q, _⟩ | ⟨_, g, hg, q⟩ | ⟨q, _⟩
  · omega
  · omega
  · show Way (r.s.getD .h)
    rw [q]
    exact hg
  · omega
theorem scan_count (h : scanT t = .inr rs) : rs.length ≤ t.length + 1 := by
  have := scanR_len h
  rw [List.length_map] at this
  rw [this]
  exact cut_count 10 t
theorem scan_lens (h : scanT t = .inr rs) (ht : t.length < 9999) : (hallOf rs).walls.length ≤ 10000 ∧ (hallOf rs).doors.length ≤ 10000 ∧ (cellsOf rs).length ≤ 10000 := by
  have h1 := scan_count h
  have f : ∀ p : Rw → Bool, (rs.filter p).length ≤ rs.length := fun p => List.length_filter_le p rs
  have a := f fun r => r.k == 1
  have b := f fun r => r.k == 2
  have c := f fun r => r.k == 3
  unfold hallOf cellsOf
  simp only [List.length_map]
  omega
end
end Pd

/-! SemH3 -/
set_option Elab.async false
set_option linter.all false
set_option maxRecDepth 100000
set_option maxHeartbeats 4000000
namespace Pd
open PySem PySem.Spec PyProof.Rows L2 PySem.W
local macro_rules | `(tactic| walk_at "ed") => `(tactic| repeat' (first
  | with_reducible (first
    | exact ed_int | exact ed_str | exact ed_bl | exact ed_non
    | exact ea_nil | refine' ea_cons ?_ ?_
    | refine' ed_isi ?_ ?_ | refine' ed_isi2 ?_ ?_ ?_
    | refine' ed_andV ?_ (fun _ => ?_) | refine' ed_orV ?_ (fun _ => ?_) | refine' ed_notV ?_
    | refine' ed_chain ?_ ?_ ?_ (fun _ => ⟨?_, ?_⟩)
    | refine' ed_tup ?_ ?_ | refine' ed_lst ?_ ?_
    | refine' et_not ?_ | refine' et_and ?_ (fun _ => ?_) | refine' et_or ?_ (fun _ => ?_) | exact et_yes
    | refine' et_test ?_ | refine' et_B ?_
    | refine' ed_op ?_ ?_ ?_
    | refine' ed_cb ?_ ?_)
  | exact ed_var rfl
  | exact kit_tt | exact kit_ii | exact kit_ib | exact kit_ll | exact kit_lt | exact kit_tl
  | exact r2_addI | exact r2_subI | exact r2_lt | exact r2_le | exact r2_gt | exact r2_ge | exact r2_isN | exact r2_notN
  | exact rc_lenT | exact rc_lenL | exact rc_intB | exact rc_tupL
  | with_reducible (first | refine' r2_eq ?_ ?_ | refine' r2_ne ?_ ?_)
  | exact sh_int _ | exact sh_sg _ | exact sh_cell _ | exact sh_edge _ | exact sh_pair _ | exact sh_str _ (by decide +kernel)
  | exact r2_ixT rfl | exact r2_ixL rfl
  | refine' ed_tup ?_ ?_
  | (show List.length _ ≤ 100000; simp; done)))
/-! ### rows in general -/
theorem figs_lit : ("0123456789" : Str).cps.toList = [48, 49, 50, 51, 52, 53, 54, 55, 56, 57] := by decide +kernel
theorem sgl (c : Nat) : St' [c] = ⟨#[c]⟩ := rfl
theorem fig_mem (c : Nat) : decide (c ∈ ("0123456789" : Str).cps.toList) = decide (48 ≤ c ∧ c < 58) := by
  rw [figs_lit]
  refine decide_eq_decide.mpr ?_
  simp only [List.mem_cons, List.not_mem_nil, or_false]
  omega
inductive R_figG : List PyData → PyData → Prop | mk (l : List Nat) (h : l.length ≤ 100000) : R_figG [wordD l] (.bool (figB l))
theorem inV_words (l : List Nat) : ∀ L : List (List Nat), inV (.str (St' l)) (L.map fun p => V.str (St' p)) = decide (l ∈ L)
  | [] => by simp [inV]
  | p :: L => by
    have ih := inV_words l L
    unfold inV at ih ⊢
    rw [List.map_cons, List.any_cons, ih]
    have e : eqV (.str (St' p)) (.str (St' l)) = decide (l = p) := by
      show (St' p == St' l) = _
      by_cases h : l = p
      · subst h
        simp
      · rw [decide_eq_false h]
        simp only [beq_eq_false_iff_ne, ne_eq]
        exact fun z => h (st_inj z).symm
    rw [e]
    by_cases h : l = p
    · simp [h]
    · simp [h]
theorem in_kindsG (l : List Nat) : inV (.str (St' l)) [.str "hall", .str "wall", .str "door", .str "at"] = (kindOf l).isSome := by
  have e : [V.str "hall", V.str "wall", V.str "door", V.str "at"] = [kindC 0, kindC 1, kindC 2, kindC 3].map fun p => V.str (St' p) := by
    rw [kC0, kC1, kC2, kC3]
    rfl
  rw [e, inV_words]
  cases h : kindOf l with
  | none =>
    have := kindOf_none h
    refine decide_eq_false fun z => ?_
    simp only [List.mem_cons, List.not_mem_nil, or_false] at z
    rcases z with z | z | z | z
    · exact this 0 (by decide) z
    · exact this 1 (by decide) z
    · exact this 2 (by decide) z
    · exact this 3 (by decide) z
  | some k =>
    obtain ⟨hk, rfl⟩ := kindOf_some h
    refine decide_eq_true ?_
    match k, hk with
    | 0, _ => simp
    | 1, _ => simp
    | 2, _ => simp
    | 3, _ => simp
theorem s45 : ("-" : Str) = St' [45] := by decide +kernel
theorem s124 : ("|" : Str) = St' [124] := by decide +kernel
theorem s101 : ("e" : Str) = St' [101] := by decide +kernel
theorem s110 : ("n" : Str) = St' [110] := by decide +kernel
theorem s115 : ("s" : Str) = St' [115] := by decide +kernel
theorem s119 : ("w" : Str) = St' [119] := by decide +kernel
def wordsDG (ws : List (List Nat)) : PyData := .list (ws.map wordD)
theorem atc0 {xs : List PyData} {x : PyData} : atI (x :: xs) 0 = some x := atI_nat (xs := x :: xs) (j := 0) rfl
theorem atc1 {xs : List PyData} {x y : PyData} : atI (x :: y :: xs) 1 = some y := atI_nat (xs := x :: y :: xs) (j := 1) rfl
theorem atc2 {xs : List PyData} {x y z : PyData} : atI (x :: y :: z :: xs) 2 = some z := atI_nat (xs := x :: y :: z :: xs) (j := 2) rfl
inductive R_rowG : List PyData → PyData → Prop | mk (ws : List (List Nat)) (h0 : ws ≠ []) (h : ∀ l ∈ ws, l.length ≤ 100000) (hl : ws.length ≤ 100000) : R_rowG [wordsDG ws] (.bool (isRowB ws))
section
variable {K : PySem.W.Frag} {w : World} {ρ : Rho}
theorem rp_figG {ds : List PyData} {d : PyData} (h : R_figG ds d) : RD (rd_is_figure K) (ds.map some ++ List.replicate (1 - ds.length) none) d := by
  obtain ⟨l, h⟩ := h
  have h1 : ED (tOp (rEqD K) (tCB (rLenX K) (tCons (tVar 0) tNil)) (tC (.int 1))) [some (wordD l)] (.bool (decide (l.length = 1))) := by
    refine ED.is (ed_op (ed_cb (ea_cons (ed_var rfl) ea_nil) (rc_lenS (by rw [st_len]; exact h))) ed_int (r2_eq (sh_int _) (sh_int _))) ?_
    rw [st_len, eqv_int]
    exact congrArg PyData.bool (decide_eq_decide.mpr (by omega))
  by_cases hl : l.length = 1
  · obtain ⟨c, rfl⟩ := List.length_eq_one_iff.mp hl
    refine rd_ret (ED.is (ed_andV (a := true) (b := decide (48 ≤ c ∧ c < 58)) (h1.is rfl) fun _ => ED.is (ed_op (d := .str ⟨#[c]⟩) (ed_var rfl) ed_str (r2_inS (neg := false))) (congrArg PyData.bool (fig_mem c))) rfl)
  · refine rd_ret (ED.is (ed_andV (a := false) (b := false) (h1.is (congrArg PyData.bool (decide_eq_false hl))) fun z => nomatch z) ?_)
    match l, hl with
    | [], _ => rfl
    | [c], hl => exact absurd rfl hl
    | a :: b :: r, _ => rfl
theorem rp_rowG {aKINDS aSIGNS : Addr} (T : Tabs K w aKINDS aSIGNS) {ds : List PyData} {d : PyData} (h : R_rowG ds d) : RD (rd_is_row K w aKINDS aSIGNS (spR R_figG)) (ds.map some ++ List.replicate (1 - ds.length) none) d := by
  obtain ⟨ws, h0, h, hl⟩ := h
  obtain ⟨x, rest, rfl⟩ := List.exists_cons_of_ne_nil h0
  have hx : ED (tOp (rIx K) (tVar 0) (tC (.int 0))) [some (wordsDG (x :: rest))] (.str (St' x)) := ed_op (d := .list (wordD x :: rest.map wordD)) (ed_var rfl) ed_int (r2_ixL atc0)
  have hlen : ED (tCB (rLenX K) (tCons (tVar 0) tNil)) [some (wordsDG (x :: rest))] (.int ((x :: rest).length : Nat)) := by
    refine ED.is (ed_cb (ea_cons (ed_var (d := .list ((x :: rest).map wordD)) rfl) ea_nil) rc_lenL) ?_
    rw [List.length_map]
  have t1 : ET (tOr (tTest (tOp (rInX K true) (tOp (rIx K) (tVar 0) (tC (.int 0))) (tC (.ref aKINDS)))) (tTest (tOp rLtI (tCB (rLenX K) (tCons (tVar 0) tNil)) (tC (.int 3))))) [some (wordsDG (x :: rest))] (!(kindOf x).isSome || decide ((x :: rest).length < 3)) := by
    refine et_or (et_test (ED.is (ed_inK (neg := true) hx T.kinds (by decide)) ?_)) fun _ => et_test (ED.is (ed_op hlen ed_int r2_lt) ?_)
    · rw [if_pos rfl, in_kindsG]
    · exact congrArg PyData.bool (decide_eq_decide.mpr (by omega))
  refine rd_ifS t1 (fun hb => rd_ret (ED.is ed_bl ?_)) fun hb => ?_
  · refine congrArg PyData.bool ?_
    match rest with
    | [] => rfl
    | [a] => rfl
    | a :: b :: more =>
      rw [isRowB_cons]
      cases hk : kindOf x with
      | none => rfl
      | some k =>
        rw [hk] at hb
        simp at hb
        omega
  obtain ⟨hb1, hb2⟩ : (kindOf x).isSome = true ∧ 3 ≤ (x :: rest).length := by
    rw [Bool.or_eq_false_iff] at hb
    refine ⟨by simpa using hb.1, ?_⟩
    have := hb.2
    simp only [decide_eq_false_iff_not] at this
    omega
  match rest, hb2 with
  | a :: b :: more, _ =>
  obtain ⟨k, hk⟩ := Option.isSome_iff_exists.mp hb1
  obtain ⟨hk4, rfl⟩ := kindOf_some hk
  have row : isRowB (kindC k :: a :: b :: more) = (figB a && figB b && signB k more) := by
    rw [isRowB_cons, hk]
  have ha : ED (tOp (rIx K) (tVar 0) (tC (.int 1))) [some (wordsDG (kindC k :: a :: b :: more))] (wordD a) := ed_op (d := .list (wordD (kindC k) :: wordD a :: (b :: more).map wordD)) (ed_var rfl) ed_int (r2_ixL atc1)
  have hb' : ED (tOp (rIx K) (tVar 0) (tC (.int 2))) [some (wordsDG (kindC k :: a :: b :: more))] (wordD b) := ed_op (d := .list (wordD (kindC k) :: wordD a :: wordD b :: more.map wordD)) (ed_var rfl) ed_int (r2_ixL atc2)
  refine rd_ifS (b := !figB a || !figB b) (et_or (et_not (et_B (ed_call (ea_cons ha ea_nil) (.mk a (h a (by simp)))))) fun _ => et_not (et_B (ed_call (ea_cons hb' ea_nil) (.mk b (h b (by simp)))))) (fun hf => rd_ret (ED.is ed_bl ?_)) fun hf => ?_
  · rw [row]
    refine congrArg PyData.bool ?_
    cases hfa : figB a with
    | false => rfl
    | true =>
      rw [hfa] at hf
      cases hfb : figB b with
      | false => rfl
      | true =>
        rw [hfb] at hf
        cases hf
  have row2 : isRowB (kindC k :: a :: b :: more) = signB k more := by
    rw [row]
    rw [Bool.or_eq_false_iff] at hf
    have h1 : figB a = true := by simpa using hf.1
    have h2 : figB b = true := by simpa using hf.2
    rw [h1, h2]
    rfl
  rw [row2]
  have l3 : ED (tOp (rEqD K) (tCB (rLenX K) (tCons (tVar 0) tNil)) (tC (.int 3))) [some (wordsDG (kindC k :: a :: b :: more))] (.bool (decide (more = []))) := by
    refine ED.is (ed_op hlen ed_int (r2_eq (sh_int _) (sh_int _))) ?_
    rw [eqv_int]
    refine congrArg PyData.bool (decide_eq_decide.mpr ?_)
    rw [← List.length_eq_zero_iff]
    simp only [List.length_cons]
    omega
  have l4 : ED (tOp (rEqD K) (tCB (rLenX K) (tCons (tVar 0) tNil)) (tC (.int 4))) [some (wordsDG (kindC k :: a :: b :: more))] (.bool (decide (more.length = 1))) := by
    refine ED.is (ed_op hlen ed_int (r2_eq (sh_int _) (sh_int _))) ?_
    rw [eqv_int]
    refine congrArg PyData.bool (decide_eq_decide.mpr ?_)
    simp only [List.length_cons]
    omega
  have no : ∀ {z : Str}, z = St' (kindC k) → PySem.W.nsIn K aSIGNS z = some none → signB k more = decide (more = []) →
      RD (tSeq (tIfS (tTest (tOp (rInKD K w) (tOp (rIx K) (tVar 0) (tC (.int 0))) (tC (.ref aSIGNS)))) (tRet (tAndV (tOp (rEqD K) (tCB (rLenX K) (tCons (tVar 0) tNil)) (tC (.int 4))) (tOp (rInX K false) (tOp (rIx K) (tVar 0) (tC (.int 3))) (tOp (rIxD K w) (tC (.ref aSIGNS)) (tOp (rIx K) (tVar 0) (tC (.int 0))))))) tNext) (tRet (tOp (rEqD K) (tCB (rLenX K) (tCons (tVar 0) tNil)) (tC (.int 3))))) [some (wordsDG (kindC k :: a :: b :: more))] (.bool (signB k more)) := by
    intro z hz hn hs
    subst hz
    rw [hs]
    exact rd_ifS (b := false) (ET.is (et_test (ed_inKD hx T.signs hn)) rfl) (fun z => nomatch z) (fun _ => rd_ret l3)
  have sgn : ∀ {z : Str} {t : Addr} {xs : List V} {L : List (List Nat)}, z = St' (kindC k) → KDct K w aSIGNS z (.ref t) → (∀ H : Hp, SqT K H t xs) → xs.all flatV = true → xs = L.map (fun p => V.str (St' p)) → (∀ s, signB k [s] = decide (s ∈ L)) → (∀ m, m.length ≠ 1 → signB k m = false) →
      RD (tSeq (tIfS (tTest (tOp (rInKD K w) (tOp (rIx K) (tVar 0) (tC (.int 0))) (tC (.ref aSIGNS)))) (tRet (tAndV (tOp (rEqD K) (tCB (rLenX K) (tCons (tVar 0) tNil)) (tC (.int 4))) (tOp (rInX K false) (tOp (rIx K) (tVar 0) (tC (.int 3))) (tOp (rIxD K w) (tC (.ref aSIGNS)) (tOp (rIx K) (tVar 0) (tC (.int 0))))))) tNext) (tRet (tOp (rEqD K) (tCB (rLenX K) (tCons (tVar 0) tNil)) (tC (.int 3))))) [some (wordsDG (kindC k :: a :: b :: more))] (.bool (signB k more)) := by
    intro z t xs L hz hd hT hf hxs hs1 hs2
    subst hz
    obtain ⟨u, hu⟩ := KDct.ns hd
    refine rd_ifS (b := true) (ET.is (et_test (ed_inKD hx T.signs hu)) rfl) (fun _ => ?_) (fun z => nomatch z)
    by_cases hm : more.length = 1
    · obtain ⟨s, rfl⟩ := List.length_eq_one_iff.mp hm
      have h3 : ED (tOp (rIx K) (tVar 0) (tC (.int 3))) [some (wordsDG (kindC k :: a :: b :: [s]))] (.str (St' s)) := ed_op (d := .list ((kindC k :: a :: b :: [s]).map wordD)) (ed_var rfl) ed_int (r2_ixL rfl)
      refine rd_ret (ED.is (ed_andV (a := true) (b := signB k [s]) (l4.is rfl) fun _ => ED.is (ed_inKD2 h3 hx hd hT hf) ?_) rfl)
      rw [hxs, inV_words, hs1]
    · refine rd_ret (ED.is (ed_andV (a := false) (b := false) (l4.is (congrArg PyData.bool (decide_eq_false hm))) fun z => nomatch z) ?_)
      rw [hs2 more hm]
      rfl
  have k4 : k = 0 ∨ k = 1 ∨ k = 2 ∨ k = 3 := by omega
  rcases k4 with rfl | rfl | rfl | rfl
  · exact no kC0 T.n0 rfl
  · obtain ⟨t, hd, hT⟩ := T.d1
    refine sgn (L := [[45], [124]]) kC1 hd hT (by decide) (by rw [s45, s124]; rfl) (fun s => ?_) fun m hm => ?_
    · simp [signB]
    · simp only [signB, if_true]
      refine decide_eq_false fun z => hm ?_
      rcases z with rfl | rfl <;> rfl
  · obtain ⟨t, hd, hT⟩ := T.d2
    refine sgn (L := [[101], [110], [115], [119]]) kC2 hd hT (by decide) (by rw [s101, s110, s115, s119]; rfl) (fun s => ?_) fun m hm => ?_
    · simp [signB]
    · unfold signB
      rw [if_neg (by decide), if_pos rfl]
      refine decide_eq_false fun z => hm ?_
      rcases z with rfl | rfl | rfl | rfl <;> rfl
  · exact no kC3 T.n3 rfl
end
end Pd

/-! SemH4 -/
set_option Elab.async false
set_option linter.all false
set_option maxRecDepth 100000
set_option maxHeartbeats 4000000
namespace Pd
open PySem PySem.Spec PyProof.Rows L2 PySem.W
local macro_rules | `(tactic| walk_at "ed") => `(tactic| repeat' (first
  | with_reducible (first
    | exact ed_int | exact ed_str | exact ed_bl | exact ed_non
    | exact ea_nil | refine' ea_cons ?_ ?_
    | refine' ed_isi ?_ ?_ | refine' ed_isi2 ?_ ?_ ?_
    | refine' ed_andV ?_ (fun _ => ?_) | refine' ed_orV ?_ (fun _ => ?_) | refine' ed_notV ?_
    | refine' ed_chain ?_ ?_ ?_ (fun _ => ⟨?_, ?_⟩)
    | refine' ed_tup ?_ ?_ | refine' ed_lst ?_ ?_
    | refine' et_not ?_ | refine' et_and ?_ (fun _ => ?_) | refine' et_or ?_ (fun _ => ?_) | exact et_yes
    | refine' et_test ?_ | refine' et_B ?_
    | refine' ed_op ?_ ?_ ?_
    | refine' ed_cb ?_ ?_)
  | exact ed_var rfl
  | exact kit_tt | exact kit_ii | exact kit_ib | exact kit_ll | exact kit_lt | exact kit_tl
  | exact r2_addI | exact r2_subI | exact r2_lt | exact r2_le | exact r2_gt | exact r2_ge | exact r2_isN | exact r2_notN
  | exact rc_lenT | exact rc_lenL | exact rc_intB | exact rc_tupL
  | with_reducible (first | refine' r2_eq ?_ ?_ | refine' r2_ne ?_ ?_)
  | exact sh_int _ | exact sh_sg _ | exact sh_cell _ | exact sh_edge _ | exact sh_pair _ | exact sh_str _ (by decide +kernel)
  | exact r2_ixT rfl | exact r2_ixL rfl
  | refine' ed_tup ?_ ?_
  | (show List.length _ ≤ 100000; simp; done)))
/-! ### things_of: any text -/
def sx_things (CR : Addr) : Sp := fun vs H Q E => ∃ B t, Ex B H ∧ DHs B vs [.str (St' t)] ∧ Chs t ∧ t.length < 9999 ∧
  (∀ n, scanT t = .inl n → Rais B H E (exR CR (n : Nat))) ∧
  ∀ rs, scanT t = .inr rs → ∀ p (v : Nat → V) B' H', Gr B H B' H' → B' p = none → H' p = some (.dK (pairsK v 4)) → (∀ k, k < 4 → DH B' (v k) (.list (thingsK rs k))) → Q (.ref p) H'
section
variable {K : PySem.W.Frag} {w : World} {B0 B1 H1 B H B' H' : Hp} {p : Addr} {L : Nat → Addr} {σ : L2.St} {ρ ρ1 ρ0 : Rho} {os : Nat → List PyData} {te : TE} {tt : TT} {d : PyData} {i : Nat} {E : XK} {e : Exn}
/-- if t: raise .. -/
theorem th_if {t : TS} {D : Ends} {b : Bool} (o : Th B0 B1 H1 p L σ B H ρ os) (h : ET tt ρ b) (hr : b = true → XD t E ρ ρ (some e)) (r : b = true → Rais B1 H1 E e) (k : b = false → ∀ B' H', Th B0 B1 H1 p L σ B' H' ρ os → D.nx σ H') : tIfS tt t tNext D σ H :=
  h σ B H o.g.t o.e _ fun B2 H2 g2 => by
    have o2 := o.mono g2
    cases b with
    | true => exact hr rfl σ B2 H2 D o2.g.t o2.e (fun z => nomatch z) fun e' he => by cases he; exact (r rfl).gr o2.g
    | false => exact k rfl B2 H2 o2
theorem scanR_cons_none {m n : Nat} {ws : List (List Nat)} {r : List (List (List Nat))} (h : rowOf ws = none) : scanR m n (ws :: r) = .inl n := by
  unfold scanR
  rw [h]
theorem scanR_cons_bad {m n : Nat} {ws : List (List Nat)} {r : List (List (List Nat))} {x : Rw} (h : rowOf ws = some x) (c : ((decide (x.k = 0) != decide (n = 0)) || decide (x.k < m)) = true) : scanR m n (ws :: r) = .inl n := by
  unfold scanR
  rw [h]
  simp only [c, if_true]
theorem scanR_cons_ok {m n : Nat} {ws : List (List Nat)} {r : List (List (List Nat))} {x : Rw} (h : rowOf ws = some x) (c : ((decide (x.k = 0) != decide (n = 0)) || decide (x.k < m)) = false) : scanR m n (ws :: r) = match scanR x.k (n + 1) r with
      | .inl i => .inl i
      | .inr rs => .inr (x :: rs) := by
  show ((match rowOf ws with
    | none => Sum.inl n
    | some x => if (decide (x.k = 0) != decide (n = 0)) || decide (x.k < m) then Sum.inl n else match scanR x.k (n + 1) r with
      | .inl i => Sum.inl i
      | .inr rs => Sum.inr (x :: rs)) : Sum Nat (List Rw)) = _
  rw [h]
  simp only [c]
  rfl
/-- behind n rows -/
def ScI (t : List Nat) (n m : Nat) (rs0 : List Rw) : Prop := rs0.length = n ∧ scanT t = match scanR m n (((cut 10 t).map (cut 32)).drop n) with
  | .inl i => .inl i
  | .inr rs => .inr (rs0 ++ rs)
theorem ScI.start (t : List Nat) : ScI t 0 0 [] := by
  refine ⟨rfl, ?_⟩
  unfold scanT
  rw [List.drop_zero]
  cases scanR 0 0 ((cut 10 t).map (cut 32)) <;> rfl
theorem rows_drop {t : List Nat} {n : Nat} {l : List Nat} (h : (cut 10 t)[n]? = some l) : ((cut 10 t).map (cut 32)).drop n = cut 32 l :: ((cut 10 t).map (cut 32)).drop (n + 1) := by
  obtain ⟨hn, rfl⟩ := List.getElem?_eq_some_iff.mp h
  rw [List.drop_eq_getElem_cons (by rw [List.length_map]; exact hn), List.getElem_map]
theorem ScI.none {t : List Nat} {n m : Nat} {rs0 : List Rw} {l : List Nat} (s : ScI t n m rs0) (h : (cut 10 t)[n]? = some l) (hr : rowOf (cut 32 l) = none) : scanT t = .inl n := by
  rw [s.2, rows_drop h, scanR_cons_none hr]
theorem ScI.bad {t : List Nat} {n m : Nat} {rs0 : List Rw} {l : List Nat} {x : Rw} (s : ScI t n m rs0) (h : (cut 10 t)[n]? = some l) (hr : rowOf (cut 32 l) = some x) (c : ((decide (x.k = 0) != decide (n = 0)) || decide (x.k < m)) = true) : scanT t = .inl n := by
  rw [s.2, rows_drop h, scanR_cons_bad hr c]
theorem ScI.ok {t : List Nat} {n m : Nat} {rs0 : List Rw} {l : List Nat} {x : Rw} (s : ScI t n m rs0) (h : (cut 10 t)[n]? = some l) (hr : rowOf (cut 32 l) = some x) (c : ((decide (x.k = 0) != decide (n = 0)) || decide (x.k < m)) = false) : ScI t (n + 1) x.k (rs0 ++ [x]) := by
  refine ⟨by rw [List.length_append, s.1]; rfl, ?_⟩
  rw [s.2, rows_drop h, scanR_cons_ok hr c]
  cases scanR x.k (n + 1) (((cut 10 t).map (cut 32)).drop (n + 1)) with
  | inl i => rfl
  | inr rs => simp
theorem ScI.end {t : List Nat} {m : Nat} {rs0 : List Rw} (s : ScI t (cut 10 t).length m rs0) : scanT t = .inr rs0 := by
  rw [s.2, List.drop_of_length_le (by rw [List.length_map]; exact Nat.le_refl _)]
  show Sum.inr (rs0 ++ []) = _
  rw [List.append_nil]
theorem cut_split' {c : Nat} {t : List Nat} {s : Str} (hs : s = ⟨#[c]⟩) (h : ED te ρ (.str (St' t))) (hl : t.length ≤ 100000) : ED (tM1 rSplit te (tC (.str s))) ρ (.list ((cut c t).map wordD)) := by
  refine ED.is (ed_split hs h (by rw [st_len]; exact hl)) ?_
  rw [cut_split, List.map_map]
  rfl
theorem hall_eqG {l : List Nat} : PyData.eqv (.str (St' l)) (.str "hall") = decide (l = kindC 0) := by
  rw [kC0, eqv_str]
  by_cases h : l = kindC 0
  · subst h
    simp
  · rw [decide_eq_false h, decide_eq_false]
    exact fun z => h (st_inj z)
theorem rx_things {aKINDS aSIGNS CR : Addr} (T : Tabs K w aKINDS aSIGNS) {vs : List V} {H : Hp} {Q : VK} {E : XK} (hsp : sx_things CR vs H Q E) : rx_things_of K aKINDS CR E (spR R_rowG) (spR R_thing_of) { nx := fun _ H' => Q .non H', rt := Q }
    (L2.start ["text", "things", "latest", "number", "row", "words", "kind", "word"] vs) H := by
  obtain ⟨B, t, ex, hv, hc, ht, hbad, hok⟩ := hsp
  have ev := env_start (N := ["text", "things", "latest", "number", "row", "words", "kind", "word"]) hv (by rw [hv.length]; exact (by decide : 1 ≤ 8))
  generalize L2.start ["text", "things", "latest", "number", "row", "words", "kind", "word"] vs = σ at ev ⊢
  have ev : EnvD σ B [some (.str (St' t)), none, none, none, none, none, none, none] := ev
  unfold rx_things_of
  refine go_seq ?_
  refine th_start T ex ev (by simp) (by simp) fun p L B2 H2 o => ?_
  generalize σ.set 1 (some (.ref p)) = σ at o ⊢
  dsimp only
  refine go_seq ?_
  refine th_set (i := 2) o (by decide) ed_int fun σ B2 H2 o => ?_
  have o : Th _ B H p L σ B2 H2 [some (.str (St' t)), none, some (.int 0), none, none, none, none, none] (fun _ => []) := o
  have hcnt := cut_count 10 t
  have hi : IE (iEnumX K (tCons (tM1 rSplit (tVar 0) (tC (.str "\n"))) tNil)) [some (.str (St' t)), none, some (.int 0), none, none, none, none, none] ((cut 10 t).zipIdx.map fun p => .tuple [.int (p.2 : Nat), wordD p.1]) := by
    have e : ((cut 10 t).map wordD).zipIdx.map (fun p => PyData.tuple [.int (p.2 : Nat), p.1]) = (cut 10 t).zipIdx.map fun p => .tuple [.int (p.2 : Nat), wordD p.1] := by
      rw [List.zipIdx_map, List.map_map]
      rfl
    rw [← e]
    exact ie_enumL (ea_cons (cut_split' nl10 (ed_var rfl) (by omega)) ea_nil)
  refine go_seq ?_
  refine th_for (fun p : List Nat × Nat => .tuple [.int (p.2 : Nat), wordD p.1]) o hi (fun n ρ os => ∃ (m : Nat) (rs0 : List Rw), ρ = [some (.str (St' t)), none, some (.int (m : Nat)), none, none, none, none, none] ∧ (∀ k, k < 4 → os k = thingsK rs0 k) ∧ ScI t n m rs0)
    ⟨0, [], rfl, fun k _ => rfl, ScI.start t⟩ ?_ ?_
  · rintro n ⟨l, n'⟩ hx ρ os ⟨m, rs0, rfl, hos, sc⟩ B0 σ B' H' N v o dv next
    obtain ⟨hx2, rfl⟩ : (cut 10 t)[n]? = some l ∧ n' = n := by
      rw [List.getElem?_zipIdx] at hx
      cases hr : (cut 10 t)[n]? with
      | none => rw [hr] at hx; cases hx
      | some y =>
        rw [hr] at hx
        cases hx
        exact ⟨rfl, by simp⟩
    have hl := List.mem_of_getElem? hx2
    have hn := (List.getElem?_eq_some_iff.mp hx2).1
    have hll := cut_len hl
    have hcl := chs_cut hc hl
    have hwl : ∀ q ∈ cut 32 l, q.length ≤ 100000 := fun q hq => by have := cut_len hq; omega
    have hwc := cut_count 32 l
    have okR : initOkR (n' : Nat) = true := initOkR_lt n' (by omega)
    refine gd_tup (ds := [.int (n' : Nat), wordD l]) (vs := [3, 4]) (gds_cons (gd_name (by simp)) (gds_cons (gd_name (by simp)) gds_nil)) rfl σ B' H' v o.g.t o.e dv _ fun σ ev w => ?_
    have o := o.env ev w (by decide)
    have o : Th B0 B H p L σ B' H' [some (.str (St' t)), none, some (.int (m : Nat)), some (.int (n' : Nat)), some (wordD l), none, none, none] os := o
    dsimp only
    refine go_seq ?_
    refine th_set (i := 5) (d := wordsDG (cut 32 l)) o (by decide) (cut_split' sp32' (ed_var rfl) (by omega)) fun σ B' H' o => ?_
    have o : Th B0 B H p L σ B' H' [some (.str (St' t)), none, some (.int (m : Nat)), some (.int (n' : Nat)), some (wordD l), some (wordsDG (cut 32 l)), none, none] os := o
    have hrow : ET (tNot (tB (tCallD (spR R_rowG) (tCons (tVar 5) tNil)))) [some (.str (St' t)), none, some (.int (m : Nat)), some (.int (n' : Nat)), some (wordD l), some (wordsDG (cut 32 l)), none, none] (!isRowB (cut 32 l)) :=
      et_not (et_B (ed_call (ea_cons (ed_var rfl) ea_nil) (.mk _ (cut_ne 32 l) hwl (by omega))))
    refine go_seq ?_
    cases hro : rowOf (cut 32 l) with
    | none =>
      have hb := rowOf_none hro
      exact th_if (b := true) o (ET.is (et_or (a := true) (b := false) (ET.is hrow (by rw [hb]; rfl)) fun z => nomatch z) rfl) (fun _ => xd_raiseR (ed_var rfl) okR) (fun _ => hbad n' (sc.none hx2 hro)) fun z => nomatch z
    | some r =>
      obtain ⟨hr, hwr⟩ := rowOf_some hro
      have hb : isRowB (cut 32 l) = true := by rw [hwr]; exact row_is hr
      have hk := hr.k4
      rw [hwr] at o hrow
      have hb' : isRowB r.words = true := row_is hr
      have h0 : ∀ {a b c d e f g : Option PyData}, ED (tOp (rIx K) (tVar 5) (tC (.int 0))) [a, b, c, d, e, some (wordsDG r.words), f, g] (.str (St' (kindC r.k))) := ed_op (d := .list (r.words.map wordD)) (ed_var rfl) ed_int (r2_ixL r.ix0)
      refine th_if (b := decide (r.k = 0) != decide (n' = 0)) (e := exR CR (n' : Nat)) o (ET.is (et_or (a := false) (b := decide (r.k = 0) != decide (n' = 0)) (ET.is hrow (by rw [hb']; rfl)) fun _ => et_test (ED.is (ed_op (ed_op h0 ed_str (r2_eq (sh_str _ (ok_kind hk)) (sh_str _ (by decide +kernel)))) (ed_op (ed_var rfl) ed_int (r2_eq (sh_int _) (sh_int _))) (r2_ne (sh_bool _) (sh_bool _))) ?_)) rfl) (fun _ => xd_raiseR (ed_var rfl) okR) (fun hb1 => hbad n' (sc.bad hx2 hro (by rw [hb1]; rfl))) fun hb1 B' H' o => ?_
      · rw [hall_eq hk, eqv_int, eqv_bool]
        have e : decide ((n' : Int) = 0) = decide (n' = 0) := decide_eq_decide.mpr (by omega)
        rw [e]
        refine congrArg PyData.bool ?_
        cases decide (r.k = 0) <;> cases decide (n' = 0) <;> rfl
      refine go_seq ?_
      refine th_set (i := 6) o (by decide) (ed_kix T hk h0) fun σ B' H' o => ?_
      have o : Th B0 B H p L σ B' H' [some (.str (St' t)), none, some (.int (m : Nat)), some (.int (n' : Nat)), some (wordD l), some (wordsDG r.words), some (.int (r.k : Nat)), none] os := o
      refine go_seq ?_
      refine th_if (b := decide (r.k < m)) (e := exR CR (n' : Nat)) o (ET.is (et_test (ed_op (ed_var rfl) (ed_var rfl) r2_lt)) (decide_eq_decide.mpr (by omega))) (fun _ => xd_raiseR (ed_var rfl) okR) (fun hb2 => hbad n' (sc.bad hx2 hro (by rw [hb2, Bool.or_true]))) fun hb2 B' H' o => ?_
      have sc2 := sc.ok hx2 hro (by rw [hb1, hb2]; rfl)
      refine go_seq ?_
      refine th_set (i := 2) o (by decide) (ed_var (d := .int (r.k : Nat)) rfl) fun σ B' H' o => ?_
      have o : Th B0 B H p L σ B' H' [some (.str (St' t)), none, some (.int (r.k : Nat)), some (.int (n' : Nat)), some (wordD l), some (wordsDG r.words), some (.int (r.k : Nat)), none] os := o
      refine th_app o hk h0 (ed_call (ea_cons (ed_var (d := r.wordsD) rfl) ea_nil) (.mk r hr)) ?_ fun B' H' o => ?_
      · rw [hos _ hk]
        unfold thingsK
        rw [List.length_map]
        have h1 := List.length_filter_le (fun s : Rw => s.k == r.k) rs0
        have h2 := sc.1
        omega
      refine next σ B' H' _ _ ⟨r.k, rs0 ++ [r], rfl, fun k hk4 => ?_, sc2⟩ (o.less ?_)
      · show _ = thingsK (rs0 ++ [r]) k
        unfold thingsK
        rw [List.filter_append, List.map_append]
        by_cases z : k = r.k
        · subst z
          simp [hos _ hk4, thingsK]
        · have z2 : ¬ (r.k = k) := fun y => z y.symm
          simp [z, z2, hos _ hk4, thingsK]
      · exact ((((Rle.refl [some (.str (St' t)), none, some (.int (r.k : Nat)), none, none, none, none, none]).set (i := 3) (o := some (.int (n' : Nat))) rfl).set (i := 4) (o := some (wordD l)) rfl).set (i := 5) (o := some (wordsDG r.words)) rfl).set (i := 6) (o := some (.int (r.k : Nat))) rfl
  · rintro ρ os σ B' H' ⟨m, rs0, rfl, hos, sc⟩ o
    rw [List.length_zipIdx] at sc
    have hs := sc.end
    obtain ⟨B3, e3, g3, p3, d3⟩ := o.done
    show tRet (tVar 1) _ _ _
    exact ⟨.ref p, o.s, hok rs0 hs p (fun k => .ref (L k)) B3 H' g3 p3 o.hp fun k hk => hos k hk ▸ d3 k hk⟩
end
end Pd

/-! SemH5 -/
set_option Elab.async false
set_option linter.all false
set_option maxRecDepth 100000
set_option maxHeartbeats 4000000
namespace Pd
open PySem PySem.Spec PyProof.Rows L2 PySem.W
local macro_rules | `(tactic| walk_at "ed") => `(tactic| repeat' (first
  | with_reducible (first
    | exact ed_int | exact ed_str | exact ed_bl | exact ed_non
    | exact ea_nil | refine' ea_cons ?_ ?_
    | refine' ed_isi ?_ ?_ | refine' ed_isi2 ?_ ?_ ?_
    | refine' ed_andV ?_ (fun _ => ?_) | refine' ed_orV ?_ (fun _ => ?_) | refine' ed_notV ?_
    | refine' ed_chain ?_ ?_ ?_ (fun _ => ⟨?_, ?_⟩)
    | refine' ed_tup ?_ ?_ | refine' ed_lst ?_ ?_
    | refine' et_not ?_ | refine' et_and ?_ (fun _ => ?_) | refine' et_or ?_ (fun _ => ?_) | exact et_yes
    | refine' et_test ?_ | refine' et_B ?_
    | refine' ed_op ?_ ?_ ?_
    | refine' ed_cb ?_ ?_)
  | exact ed_var rfl
  | exact kit_tt | exact kit_ii | exact kit_ib | exact kit_ll | exact kit_lt | exact kit_tl
  | exact r2_addI | exact r2_subI | exact r2_lt | exact r2_le | exact r2_gt | exact r2_ge | exact r2_isN | exact r2_notN
  | exact rc_lenT | exact rc_lenL | exact rc_intB | exact rc_tupL
  | with_reducible (first | refine' r2_eq ?_ ?_ | refine' r2_ne ?_ ?_)
  | exact sh_int _ | exact sh_sg _ | exact sh_cell _ | exact sh_edge _ | exact sh_pair _ | exact sh_str _ (by decide +kernel)
  | exact r2_ixT rfl | exact r2_ixL rfl
  | refine' ed_tup ?_ ?_
  | (show List.length _ ≤ 100000; simp; done)))
/-! ### read: any text -/
noncomputable def readO (CH CC CR : Addr) (t : List Nat) : Out := match scanT t with
  | .inl n => .ex (exR CR (n : Nat))
  | .inr rs => thenO (chkStart CH CC (hallOf rs) (cellsOf rs)) (.ok (.tuple [hallD (hallOf rs), cellsD (cellsOf rs)]))
def RX_read (CH CC CR : Addr) (ds : List PyData) (o : Out) : Prop := ∃ t : List Nat, ds = [.str (St' t)] ∧ Chs t ∧ t.length < 9999 ∧ o = readO CH CC CR t
theorem rx_read_ok {K : PySem.W.Frag} {CH CC CR : Addr} {E : XK} {ds : List PyData} {o : Out} (hR : RX_read CH CC CR ds o) : OD (rx_read K CR E (spO (RX_start CH CC)) (sx_things CR)) E (ds.map some ++ List.replicate (6 - ds.length) none) o := by
  obtain ⟨t, rfl, hc, ht, rfl⟩ := hR
  intro σ B H D ex ev q
  have ev : EnvD σ B [some (.str (St' t)), none, none, none, none, none] := ev
  unfold rx_read
  refine go_seq ?_
  refine sd_ifNo (ET.is (et_not (et_B (ed_isi (ed_var (d := .str (St' t)) rfl) kit_ss))) rfl) σ B H _ ex ev fun σ B2 H2 g1 ev => ?_
  refine go_seq ?_
  -- things = things_of(text)
  refine ed_var (d := .str (St' t)) rfl σ B2 H2 g1.t ev _ fun x B3 H3 g3 dx => ?_
  have g1 := g1.trans g3
  have ev := ev.mono g3.b
  refine ⟨B3, t, g1.t, .cons dx .nil, hc, ht, fun n hn => ?_, fun rs hs p v B4 H4 g4 p4 h4 d4 => ?_⟩
  · unfold readO at q
    rw [hn] at q
    exact Rais.gr q g1
  unfold readO at q
  rw [hs] at q
  have q : Fit B H D.rt E (thenO (chkStart CH CC (hallOf rs) (cellsOf rs)) (.ok (.tuple [hallD (hallOf rs), cellsD (cellsOf rs)]))) := q
  have g1 := g1.trans g4
  have ev : EnvD (σ.set 1 (some (.ref p))) B4 [some (.str (St' t)), none, none, none, none, none] := (ev.mono g4.b).forget 1 _
  have o : Kp p v rs (σ.set 1 (some (.ref p))) B4 H4 := ⟨List.getElem?_set_self (by have := ev.len; rw [List.length_set] at this; rw [this]; exact (by decide : 1 < 6)), p4, h4, d4⟩
  show tSeq _ _ _ (σ.set 1 (some (.ref p))) H4
  generalize σ.set 1 (some (.ref p)) = σ at ev o ⊢
  have t0 := things0 hs
  have t1 : thingsK rs 1 = (hallOf rs).walls.map edgeD := things12 hs (.inl rfl)
  have t2 : thingsK rs 2 = (hallOf rs).doors.map edgeD := things12 hs (.inr rfl)
  have t3 : thingsK rs 3 = (cellsOf rs).map cellD := things3 hs
  have hw := scan_ways hs
  obtain ⟨l1, l2, l3⟩ := scan_lens hs ht
  generalize hallOf rs = h at t0 t1 t2 hw l1 l2 q
  generalize cellsOf rs = cs at t3 l3 q
  refine go_seq ?_
  refine kp_asg (ρ' := [some (.str (St' t)), none, some (.int h.rows), some (.int h.cols), none, none]) g1.t ev o (ek_op (ek_get (k := 0) (by decide) kC0) (ek_ed ed_int) (r2_ixL (d := cellD (h.rows, h.cols)) (by rw [t0]; rfl))) (gd_tup (vs := [2, 3]) (gds_cons (gd_name (by simp)) (gds_cons (gd_name (by simp)) gds_nil)) rfl) (by decide) fun σ B5 H5 g5 ev o => ?_
  have g1 := g1.trans g5
  refine go_seq ?_
  refine kp_asg (ρ' := [some (.str (St' t)), none, some (.int h.rows), some (.int h.cols), some (hallD h), none]) g1.t ev o (EK.is (ek_tup (ak_cons (ek_ed (ed_var (d := .int h.rows) rfl)) (ak_cons (ek_ed (ed_var (d := .int h.cols) rfl)) (ak_cons (ek_cb (ak_cons (ek_get (k := 1) (by decide) kC1) ak_nil) rc_tupL) (ak_cons (ek_cb (ak_cons (ek_get (k := 2) (by decide) kC2) ak_nil) rc_tupL) ak_nil)))) (by simp)) (by rw [t1, t2]; rfl)) (gd_name (vs := [4]) (by simp)) (by decide) fun σ B6 H6 g6 ev o => ?_
  have g1 := g1.trans g6
  refine go_seq ?_
  refine kp_asg (ρ' := [some (.str (St' t)), none, some (.int h.rows), some (.int h.cols), some (hallD h), some (cellsD cs)]) g1.t ev o (EK.is (ek_cb (ak_cons (ek_get (k := 3) (by decide) kC3) ak_nil) rc_tupL) (by rw [t3]; rfl)) (gd_name (vs := [5]) (by simp)) (by decide) fun σ B7 H7 g7 ev o => ?_
  have g1 := g1.trans g7
  exact od_seq (x := chkStart CH CC h cs) (xd_call (ea_cons (ed_var rfl) (ea_cons (ed_var rfl) ea_nil)) ⟨h, cs, rfl, hw, l1, l2, l3, rfl⟩) (fun _ => od_ret (ed_tup (ea_cons (ed_var rfl) (ea_cons (ed_var rfl) ea_nil)) (by simp))) σ B7 H7 D g1.t ev (Fit.gr q g1)
end Pd

/-! SemH6 -/
set_option Elab.async false
set_option linter.all false
set_option maxRecDepth 100000
set_option maxHeartbeats 4000000
namespace Pd
open PySem PySem.Spec PyProof.Rows L2 PySem.W
local macro_rules | `(tactic| walk_at "ed") => `(tactic| repeat' (first
  | with_reducible (first
    | exact ed_int | exact ed_str | exact ed_bl | exact ed_non
    | exact ea_nil | refine' ea_cons ?_ ?_
    | refine' ed_isi ?_ ?_ | refine' ed_isi2 ?_ ?_ ?_
    | refine' ed_andV ?_ (fun _ => ?_) | refine' ed_orV ?_ (fun _ => ?_) | refine' ed_notV ?_
    | refine' ed_chain ?_ ?_ ?_ (fun _ => ⟨?_, ?_⟩)
    | refine' ed_tup ?_ ?_ | refine' ed_lst ?_ ?_
    | refine' et_not ?_ | refine' et_and ?_ (fun _ => ?_) | refine' et_or ?_ (fun _ => ?_) | exact et_yes
    | refine' et_test ?_ | refine' et_B ?_
    | refine' ed_op ?_ ?_ ?_
    | refine' ed_cb ?_ ?_)
  | exact ed_var rfl
  | exact kit_tt | exact kit_ii | exact kit_ib | exact kit_ll | exact kit_lt | exact kit_tl
  | exact r2_addI | exact r2_subI | exact r2_lt | exact r2_le | exact r2_gt | exact r2_ge | exact r2_isN | exact r2_notN
  | exact rc_lenT | exact rc_lenL | exact rc_intB | exact rc_tupL
  | with_reducible (first | refine' r2_eq ?_ ?_ | refine' r2_ne ?_ ?_)
  | exact sh_int _ | exact sh_sg _ | exact sh_cell _ | exact sh_edge _ | exact sh_pair _ | exact sh_str _ (by decide +kernel)
  | exact r2_ixT rfl | exact r2_ixL rfl
  | refine' ed_tup ?_ ?_
  | (show List.length _ ≤ 100000; simp; done)))
/-! ### what is due of a text -/
/-- a list of four lists, under way -/
structure Td (B0 B1 H1 : Hp) (p : Addr) (L : Nat → Addr) (σ : L2.St) (B H : Hp) (ρ : Rho) (os : Nat → List PyData) : Prop where
  b0 : Ex B0 B
  g : Gr B1 H1 B H
  e : EnvD σ B ρ
  s : σ[4]? = some (some (.ref p))
  np : B p = none
  fp : H1 p = none
  hp : H p = some (.lst ((List.range 4).map fun k => V.ref (L k)))
  nl : ∀ k, k < 4 → B (L k) = none ∧ H1 (L k) = none ∧ L k ≠ p
  hl : ∀ k, k < 4 → ∃ xs, H (L k) = some (.lst xs) ∧ DHs B xs (os k)
  inj : ∀ j k, j < 4 → k < 4 → L j = L k → j = k
section
variable {K : PySem.W.Frag} {w : World} {B0 B1 H1 B H B' H' : Hp} {p : Addr} {L : Nat → Addr} {σ : L2.St} {ρ ρ1 ρ0 : Rho} {os : Nat → List PyData} {te : TE} {tt : TT} {d : PyData} {i : Nat}
theorem Td.mono (o : Td B0 B1 H1 p L σ B H ρ os) (k : Gr B H B' H') : Td B0 B1 H1 p L σ B' H' ρ os := by
  refine ⟨o.b0.trans k.b, o.g.trans k, o.e.mono k.b, o.s, k.n p o.np (by rw [o.hp]; exact fun z => nomatch z), o.fp, k.h _ _ o.hp, fun j hj => ?_, fun j hj => ?_, o.inj⟩
  · obtain ⟨h1, h2, h3⟩ := o.nl j hj
    obtain ⟨xs, h4, _⟩ := o.hl j hj
    exact ⟨k.n _ h1 (by rw [h4]; exact fun z => nomatch z), h2, h3⟩
  · obtain ⟨xs, h4, h5⟩ := o.hl j hj
    exact ⟨xs, k.h _ _ h4, h5.mono k.b⟩
theorem Td.set {v : V} (o : Td B0 B1 H1 p L σ B H ρ os) (hi : i ≠ 4) (dv : DH B v d) : Td B0 B1 H1 p L (σ.set i (some v)) B H (ρ.set i (some d)) os :=
  ⟨o.b0, o.g, o.e.set i dv, by rw [List.getElem?_set_ne hi]; exact o.s, o.np, o.fp, o.hp, o.nl, o.hl, o.inj⟩
theorem Td.less (o : Td B0 B1 H1 p L σ B H ρ os) (k : Rle ρ0 ρ) : Td B0 B1 H1 p L σ B H ρ0 os :=
  ⟨o.b0, o.g, o.e.less k, o.s, o.np, o.fp, o.hp, o.nl, o.hl, o.inj⟩
theorem Td.base {B0' : Hp} (o : Td B0 B1 H1 p L σ B H ρ os) (k : Ex B0' B) : Td B0' B1 H1 p L σ B H ρ os := ⟨k, o.g, o.e, o.s, o.np, o.fp, o.hp, o.nl, o.hl, o.inj⟩
theorem Td.oss {os' : Nat → List PyData} (o : Td B0 B1 H1 p L σ B H ρ os) (h : ∀ k, k < 4 → os k = os' k) : Td B0 B1 H1 p L σ B H ρ os' :=
  ⟨o.b0, o.g, o.e, o.s, o.np, o.fp, o.hp, o.nl, fun k hk => h k hk ▸ o.hl k hk, o.inj⟩
theorem td_set {D : Ends} (o : Td B0 B1 H1 p L σ B H ρ os) (hi : i ≠ 4) (h : ED te ρ d) (k : ∀ σ' B' H', Td B0 B1 H1 p L σ' B' H' (ρ.set i (some d)) os → D.nx σ' H') : tAsg te (gName i) D σ H :=
  h σ B H o.g.t o.e _ fun v B2 H2 g2 dv => k _ B2 H2 ((o.mono g2).set hi dv)
theorem td_no {t : TS} {D : Ends} (o : Td B0 B1 H1 p L σ B H ρ os) (h : ET tt ρ false) (k : ∀ B' H', Td B0 B1 H1 p L σ B' H' ρ os → D.nx σ H') : tIfS tt t tNext D σ H :=
  h σ B H o.g.t o.e _ fun B2 H2 g2 => k B2 H2 (o.mono g2)
theorem td_for {α : Type} {wi : TI} {g : TG} {tb : TS} {D : Ends} {items : List α} (enc : α → PyData) (o : Td B0 B1 H1 p L σ B H ρ os) (hi : IE wi ρ (items.map enc)) (P : Nat → Rho → (Nat → List PyData) → Prop) (p0 : P 0 ρ os)
    (turn : ∀ n x, items[n]? = some x → ∀ ρ os, P n ρ os → ∀ B0 σ B H N v, Td B0 B1 H1 p L σ B H ρ os → DH B v (enc x) → (∀ σ' B' H' ρ' os', P (n + 1) ρ' os' → Td B0 B1 H1 p L σ' B' H' ρ' os' → N σ' H') → g v σ H fun σ2 H2 => tb { D with nx := N, ct := N, bk := D.nx } σ2 H2)
    (k : ∀ ρ' os' σ' B' H', P items.length ρ' os' → Td B0 B1 H1 p L σ' B' H' ρ' os' → D.nx σ' H') : tFor wi g tb D σ H := by
  refine hi σ B H o.g.t o.e _ fun J B2 H2 g2 hJ => ?_
  have oB := (o.mono g2).base (Ex.refl B2)
  refine ⟨fun n m σ' H' => m = items.length - n ∧ n ≤ items.length ∧ ∃ B' ρ' ds', P n ρ' ds' ∧ Td B2 B1 H1 p L σ' B' H' ρ' ds', ⟨items.length, by omega, Nat.zero_le _, B2, ρ, os, p0, oB⟩, ?_⟩
  rintro n m σ' H' ⟨rfl, hle, B', ρ', ds', hP, o'⟩
  obtain ⟨hstop, hgo⟩ := hJ B' H' o'.b0 o'.g.t n
  by_cases hlt : n < items.length
  · right
    have hd : items[n]? = some items[n] := List.getElem?_eq_getElem hlt
    obtain ⟨go, hy⟩ := hgo (enc items[n]) (by rw [List.getElem?_map, hd]; rfl)
    refine ⟨go, fun σ2 H2 => n + 1 ≤ items.length ∧ ∃ B' ρ' ds', P (n + 1) ρ' ds' ∧ Td B2 B1 H1 p L σ2 B' H2 ρ' ds', fun σ2 H2 ⟨p1, p2⟩ => ⟨items.length - (n + 1), by omega, rfl, p1, p2⟩, fun x H3 hyl => ?_⟩
    obtain ⟨B3, g3, dx⟩ := hy x H3 hyl
    exact turn n _ hd ρ' ds' hP B2 _ B3 H3 _ x (o'.mono g3) dx fun σ4 B4 H4 ρ4 ds4 hP4 o4 => ⟨hlt, B4, ρ4, ds4, hP4, o4⟩
  · left
    have hie : n = items.length := by omega
    subst hie
    exact ⟨hstop (by rw [List.length_map]), k ρ' ds' σ' B' H' hP (o'.base ((o.b0.trans g2.b).trans o'.b0))⟩
theorem Td.env {σ' : L2.St} {vs : List Nat} (o : Td B0 B1 H1 p L σ B H ρ os) (e : EnvD σ' B ρ1) (w : L2.wipe σ' vs = L2.wipe σ vs) (hj : 4 ∉ vs) : Td B0 B1 H1 p L σ' B H ρ1 os := by
  refine ⟨o.b0, o.g, e, ?_, o.np, o.fp, o.hp, o.nl, o.hl, o.inj⟩
  have h1 := wipe_get σ' vs 4
  have h2 := wipe_get σ vs 4
  rw [if_neg (fun z => hj z.1)] at h1 h2
  rw [← h1, w, h2]
  exact o.s
theorem Td.done (o : Td B0 B1 H1 p L σ B H ρ os) : ∃ B', Ex B B' ∧ Gr B1 H1 B' H ∧ B' p = none ∧ ∀ k, k < 4 → DH B' (.ref (L k)) (.list (os k)) := by
  have key : ∀ n, n ≤ 4 → ∃ B', Ex B B' ∧ Gr B1 H1 B' H ∧ B' p = none ∧ (∀ k, k < n → DH B' (.ref (L k)) (.list (os k))) ∧ ∀ k, n ≤ k → k < 4 → B' (L k) = none := by
    intro n
    induction n with
    | zero => exact fun _ => ⟨B, Ex.refl B, o.g, o.np, fun k hk => absurd hk (by omega), fun k _ hk => (o.nl k hk).1⟩
    | succ n ih =>
      intro hn
      obtain ⟨B2, e2, g2, p2, d2, n2⟩ := ih (by omega)
      obtain ⟨_, f, ne⟩ := o.nl n (by omega)
      obtain ⟨xs, hl, hx⟩ := o.hl n (by omega)
      obtain ⟨B3, e3, g3, d3, k3⟩ := g2.take (n2 n (Nat.le_refl n) (by omega)) f hl (hx.mono e2)
      refine ⟨B3, e2.trans e3, g3, by rw [k3 p (fun z => ne z.symm)]; exact p2, fun k hk => ?_, fun k hk hk4 => ?_⟩
      · by_cases e : k = n
        · rw [e]
          exact d3
        · exact (d2 k (by omega)).mono e3
      · rw [k3 _ (fun z => by have := o.inj k n hk4 (by omega) z; omega)]
        exact n2 k (by omega) hk4
  obtain ⟨B', a, b, c, d, _⟩ := key 4 (Nat.le_refl 4)
  exact ⟨B', a, b, c, d⟩

/-- found[kind].append(e) -/
theorem td_app {D : Ends} {tk : TE} {k : Nat} (o : Td B0 B1 H1 p L σ B H ρ os) (hk : k < 4) (hx : ED tk ρ (.int (k : Nat))) (h : ED te ρ d) (hz : (os k).length < 100000)
    (nx : ∀ B' H', Td B0 B1 H1 p L σ B' H' ρ (fun j => if j = k then os j ++ [d] else os j) → D.nx σ H') : tDrop (tBM K "list" rAppend (tOp (rIx K) (tVar 4) tk) (tCons te tNil)) D σ H := by
  refine ⟨.ref p, o.s, ?_⟩
  refine hx σ B H o.g.t o.e _ fun y B2 H2 g2 dy => ?_
  cases dy
  have o := o.mono g2
  refine .inl ⟨p, _, (k : Nat), .ref (L k), rfl, rfl, SqL.of o.hp, ?_, ?_⟩
  · refine atI_nat ?_
    rw [List.getElem?_map, List.getElem?_range hk]
    rfl
  obtain ⟨xs0, hl0, _⟩ := o.hl k hk
  refine ⟨.inl ⟨rfl, _, SqL.of hl0⟩, ?_⟩
  refine h σ B2 H2 o.g.t o.e _ fun v B3 H3 g3 dv => ?_
  have o := o.mono g3
  obtain ⟨xs, hl, hx⟩ := o.hl k hk
  obtain ⟨n1, n2, n3⟩ := o.nl k hk
  refine ⟨L k, xs, v, rfl, rfl, hl, by rw [hx.length]; exact Nat.lt_trans hz (by decide), nx B3 _ ⟨o.b0, ⟨o.g.b, o.g.t.mut n1, o.g.h.mut n2, o.g.n⟩, o.e, o.s, o.np, o.fp, ?_, o.nl, fun j hj => ?_, o.inj⟩⟩
  · rw [upd_ne (fun z => n3 z.symm)]
    exact o.hp
  · by_cases e : j = k
    · subst e
      rw [if_pos rfl]
      exact ⟨_, upd_same, hx.append (.one dv)⟩
    · rw [if_neg e]
      obtain ⟨ys, h4, h5⟩ := o.hl j hj
      exact ⟨ys, by rw [upd_ne (fun z => e (o.inj j k hj hk z))]; exact h4, h5⟩
/-- if t: return e -/
theorem td_ret {D : Ends} {b : Bool} {tr : TS} (o : Td B0 B1 H1 p L σ B H ρ os) (h : ET tt ρ b) (hr : RD tr ρ d) (q : b = true → ∀ v B' H', Gr B1 H1 B' H' → DH B' v d → D.rt v H') (k : b = false → ∀ B' H', Td B0 B1 H1 p L σ B' H' ρ os → D.nx σ H') : tIfS tt tr tNext D σ H :=
  h σ B H o.g.t o.e _ fun B2 H2 g2 => by
    have o2 := o.mono g2
    cases b with
    | true => exact hr σ B2 H2 D o2.g.t o2.e fun v B' H' g dv => q rfl v B' H' (o2.g.trans g) dv
    | false => exact k rfl B2 H2 o2
/-- found = [[], [], [], []] -/
theorem td_start {D : Ends} (g : Gr B1 H1 B H) (ev : EnvD σ B ρ) (h4 : 4 < ρ.length)
    (k : ∀ p L B' H', Td B' B1 H1 p L (σ.set 4 (some (.ref p))) B' H' (ρ.set 4 none) (fun _ => []) → D.nx (σ.set 4 (some (.ref p))) H') : tAsg (tLst (tCons (tLst tNil) (tCons (tLst tNil) (tCons (tLst tNil) (tCons (tLst tNil) tNil))))) (gName 4) D σ H := by
  refine ⟨Nat.zero_le _, fun l0 h0 => ?_⟩
  refine ⟨Nat.zero_le _, fun l1 h1 => ?_⟩
  refine ⟨Nat.zero_le _, fun l2 h2 => ?_⟩
  refine ⟨Nat.zero_le _, fun l3 h3 => ?_⟩
  refine ⟨by show 4 ≤ _; decide, fun p hp => ?_⟩
  have n10 : l1 ≠ l0 := fun z => by rw [z, upd_same] at h1; cases h1
  have n20 : l2 ≠ l0 := fun z => by rw [z, upd_ne n10.symm, upd_same] at h2; cases h2
  have n21 : l2 ≠ l1 := fun z => by rw [z, upd_same] at h2; cases h2
  have n30 : l3 ≠ l0 := fun z => by rw [z, upd_ne n20.symm, upd_ne n10.symm, upd_same] at h3; cases h3
  have n31 : l3 ≠ l1 := fun z => by rw [z, upd_ne n21.symm, upd_same] at h3; cases h3
  have n32 : l3 ≠ l2 := fun z => by rw [z, upd_same] at h3; cases h3
  have np0 : p ≠ l0 := fun z => by rw [z, upd_ne n30.symm, upd_ne n20.symm, upd_ne n10.symm, upd_same] at hp; cases hp
  have np1 : p ≠ l1 := fun z => by rw [z, upd_ne n31.symm, upd_ne n21.symm, upd_same] at hp; cases hp
  have np2 : p ≠ l2 := fun z => by rw [z, upd_ne n32.symm, upd_same] at hp; cases hp
  have np3 : p ≠ l3 := fun z => by rw [z, upd_same] at hp; cases hp
  rw [upd_ne n10] at h1
  rw [upd_ne n21, upd_ne n20] at h2
  rw [upd_ne n32, upd_ne n31, upd_ne n30] at h3
  rw [upd_ne np3, upd_ne np2, upd_ne np1, upd_ne np0] at hp
  have g0 := g.trans (Gr.own (o := .lst []) g.t h0)
  have g1 := g0.trans (Gr.own (o := .lst []) g0.t (by rw [upd_ne n10]; exact h1))
  have g2 := g1.trans (Gr.own (o := .lst []) g1.t (by rw [upd_ne n21, upd_ne n20]; exact h2))
  have g3 := g2.trans (Gr.own (o := .lst []) g2.t (by rw [upd_ne n32, upd_ne n31, upd_ne n30]; exact h3))
  have g4 := g3.trans (Gr.own (o := .lst [V.ref l0, V.ref l1, V.ref l2, V.ref l3]) g3.t (by rw [upd_ne np3, upd_ne np2, upd_ne np1, upd_ne np0]; exact hp))
  refine k p (fun i => match i with | 0 => l0 | 1 => l1 | 2 => l2 | _ => l3) B _ ⟨Ex.refl B, g4, ev.forget 4 _, List.getElem?_set_self (by rw [ev.len]; exact h4), g.t.nil hp, g.h.nil hp, upd_same, fun j hj => ?_, fun j hj => ?_, fun i j hi hj e => ?_⟩
  · match j, hj with
    | 0, _ => exact ⟨g.t.nil h0, g.h.nil h0, np0.symm⟩
    | 1, _ => exact ⟨g.t.nil h1, g.h.nil h1, np1.symm⟩
    | 2, _ => exact ⟨g.t.nil h2, g.h.nil h2, np2.symm⟩
    | 3, _ => exact ⟨g.t.nil h3, g.h.nil h3, np3.symm⟩
  · refine ⟨[], ?_, .nil⟩
    match j, hj with
    | 0, _ => show upd _ p _ l0 = _; rw [upd_ne np0.symm, upd_ne n30.symm, upd_ne n20.symm, upd_ne n10.symm, upd_same]
    | 1, _ => show upd _ p _ l1 = _; rw [upd_ne np1.symm, upd_ne n31.symm, upd_ne n21.symm, upd_same]
    | 2, _ => show upd _ p _ l2 = _; rw [upd_ne np2.symm, upd_ne n32.symm, upd_same]
    | 3, _ => show upd _ p _ l3 = _; rw [upd_ne np3.symm, upd_same]
  · have e1 : i = 0 ∨ i = 1 ∨ i = 2 ∨ i = 3 := by omega
    have e2 : j = 0 ∨ j = 1 ∨ j = 2 ∨ j = 3 := by omega
    rcases e1 with rfl | rfl | rfl | rfl <;> rcases e2 with rfl | rfl | rfl | rfl <;> first | rfl | exact absurd e (by first | exact n10 | exact n20 | exact n21 | exact n30 | exact n31 | exact n32 | exact n10.symm | exact n20.symm | exact n21.symm | exact n30.symm | exact n31.symm | exact n32.symm)
end
end Pd

/-! SemH7 -/
set_option Elab.async false
set_option linter.all false
set_option maxRecDepth 100000
set_option maxHeartbeats 4000000
namespace Pd
open PySem PySem.Spec PyProof.Rows L2 PySem.W
local macro_rules | `(tactic| walk_at "ed") => `(tactic| repeat' (first
  | with_reducible (first
    | exact ed_int | exact ed_str | exact ed_bl | exact ed_non
    | exact ea_nil | refine' ea_cons ?_ ?_
    | refine' ed_isi ?_ ?_ | refine' ed_isi2 ?_ ?_ ?_
    | refine' ed_andV ?_ (fun _ => ?_) | refine' ed_orV ?_ (fun _ => ?_) | refine' ed_notV ?_
    | refine' ed_chain ?_ ?_ ?_ (fun _ => ⟨?_, ?_⟩)
    | refine' ed_tup ?_ ?_ | refine' ed_lst ?_ ?_
    | refine' et_not ?_ | refine' et_and ?_ (fun _ => ?_) | refine' et_or ?_ (fun _ => ?_) | exact et_yes
    | refine' et_test ?_ | refine' et_B ?_
    | refine' ed_op ?_ ?_ ?_
    | refine' ed_cb ?_ ?_)
  | exact ed_var rfl
  | exact kit_tt | exact kit_ii | exact kit_ib | exact kit_ll | exact kit_lt | exact kit_tl
  | exact r2_addI | exact r2_subI | exact r2_lt | exact r2_le | exact r2_gt | exact r2_ge | exact r2_isN | exact r2_notN
  | exact rc_lenT | exact rc_lenL | exact rc_intB | exact rc_tupL
  | with_reducible (first | refine' r2_eq ?_ ?_ | refine' r2_ne ?_ ?_)
  | exact sh_int _ | exact sh_sg _ | exact sh_cell _ | exact sh_edge _ | exact sh_pair _ | exact sh_str _ (by decide +kernel)
  | exact r2_ixT rfl | exact r2_ixL rfl
  | refine' ed_tup ?_ ?_
  | (show List.length _ ≤ 100000; simp; done)))
/-! ### what the law holds for due of a text -/
theorem eqv_word (a b : List Nat) : PyData.eqv (wordD a) (wordD b) = decide (a = b) := by
  unfold wordD
  rw [eqv_str]
  exact decide_eq_decide.mpr ⟨st_inj, fun h => by rw [h]⟩
theorem any_word (xs : List (List Nat)) (x : List Nat) : ((xs.map wordD).any fun z => PyData.eqv z (wordD x)) = decide (x ∈ xs) := (any_enc wordD eqv_word xs x).trans (decide_eq_decide.mpr Iff.rfl)
theorem sh_word {l : List Nat} (h : Chs l) : SeqAt.shaped (wordD l) = true := sh_str _ (chs_ok h)
theorem sh_words {L : List (List Nat)} (h : ∀ l ∈ L, Chs l) : SeqAt.shaped (.list (L.map wordD)) = true := by
  refine shaped_of ?_ ?_
  · simp only [PyData.canLay0]
    induction L with
    | nil => simp [PyData.canLayAll0]
    | cons x L ih =>
      simp only [List.map_cons, PyData.canLayAll0, Bool.and_eq_true]
      exact ⟨by simpa [wordD, PyData.canLay0] using chs_ok (h x (.head _)), ih fun l hl => h l (.tail _ hl)⟩
  · have := dep_map wordD 0 (fun a => by simp [wordD, PyData.depth]) L
    simp only [PyData.depth]
    omega
noncomputable def dueD (t : List Nat) : PyData := match scanT t with
  | .inl n => .tuple [.str "text", .int (n : Nat)]
  | .inr rs => .tuple [hallD (hallOf rs), cellsD (cellsOf rs)]
inductive R_due : List PyData → PyData → Prop | mk (t : List Nat) (hc : Chs t) (ht : t.length < 9999) : R_due [.str (St' t)] (dueD t)
def lenK (k : Nat) : Nat := if k = 1 ∨ k = 2 then 4 else 3
theorem row_len {r : Rw} (o : r.Ok) : r.words.length = lenK r.k := by
  obtain ⟨k, a, b, s⟩ := r
  rcases o.s with ⟨h1, h2⟩ | ⟨h1, h2 | h2⟩ | ⟨h1, g, hg, h2⟩ | ⟨h1, h2⟩ <;> simp only at h1 h2 <;> subst h1 h2 <;> rfl
def kindsL : List (List Nat) := [kindC 0, kindC 1, kindC 2, kindC 3]
theorem kinds_mem (l : List Nat) : decide (l ∈ kindsL) = (kindOf l).isSome := by
  have := in_kindsG l
  have e : [V.str "hall", V.str "wall", V.str "door", V.str "at"] = kindsL.map fun p => V.str (St' p) := by
    rw [kC0, kC1, kC2, kC3]
    rfl
  rw [e, inV_words] at this
  exact this
theorem kinds_chs : ∀ l ∈ kindsL, Chs l := by
  have : ∀ l ∈ kindsL, ∀ a ∈ l, a < 1114112 := by decide
  exact this
def figsL : List (List Nat) := [[48], [49], [50], [51], [52], [53], [54], [55], [56], [57]]
theorem figs_mem (l : List Nat) : decide (l ∈ figsL) = figB l := by
  match l with
  | [] => rfl
  | [c] =>
    show decide ([c] ∈ figsL) = decide (48 ≤ c ∧ c < 58)
    refine decide_eq_decide.mpr ?_
    simp only [figsL, List.mem_cons, List.not_mem_nil, or_false, List.cons.injEq, and_true]
    omega
  | a :: b :: r =>
    show decide (a :: b :: r ∈ figsL) = false
    refine decide_eq_false ?_
    simp [figsL]
theorem figs_chs : ∀ l ∈ figsL, Chs l := by
  have : ∀ l ∈ figsL, ∀ a ∈ l, a < 1114112 := by decide
  exact this
def signsL (k : Nat) : List (List Nat) := if k = 1 then [[45], [124]] else [[101], [110], [115], [119]]
theorem signB_s {k : Nat} (hk : k = 1 ∨ k = 2) (s : List Nat) : signB k [s] = decide (s ∈ signsL k) := by
  rcases hk with rfl | rfl <;> simp [signB, signsL]
theorem signs_chs (k : Nat) : ∀ l ∈ signsL k, Chs l := by
  have h1 : ∀ l ∈ signsL 1, ∀ a ∈ l, a < 1114112 := by decide
  have h2 : ∀ l ∈ signsL 2, ∀ a ∈ l, a < 1114112 := by decide
  unfold signsL at *
  by_cases h : k = 1
  · rw [if_pos h]; exact h1
  · rw [if_neg h]; exact h2
section
variable {K : PySem.W.Frag} {ρ : Rho} {ta te : TE}
theorem ed_figs : ED (tCB rListS (tCons (tC (.str "0123456789")) tNil)) ρ (.list (figsL.map wordD)) := fun σ B H ex ev Q q => by
  refine ⟨_, rfl, by decide +kernel, fun l hl => ?_⟩
  have g := Gr.new (o := .lst ((("0123456789" : Str).cps.toList).map fun c => V.str ⟨#[c]⟩)) ex hl
  refine q _ _ _ g (.lst upd_same ?_)
  rw [figs_lit]
  exact (DHs.ofStrs (figsL.map St'))
theorem ed_kinds : ED (tLst (tCons (tC (.str "hall")) (tCons (tC (.str "wall")) (tCons (tC (.str "door")) (tCons (tC (.str "at")) tNil))))) ρ (.list (kindsL.map wordD)) := by
  refine ED.is (ed_lst (ea_cons ed_str (ea_cons ed_str (ea_cons ed_str (ea_cons ed_str ea_nil)))) (by simp)) ?_
  rw [kC0, kC1, kC2, kC3]
  rfl
theorem ed_signs {k : Nat} (hk : k = 1 ∨ k = 2) (h : ED te ρ (.int (k : Nat))) : ED (tOp (rIx K) (tLst (tCons (tLst (tCons (tC (.str "-")) (tCons (tC (.str "|")) tNil))) (tCons (tLst (tCons (tC (.str "e")) (tCons (tC (.str "n")) (tCons (tC (.str "s")) (tCons (tC (.str "w")) tNil))))) tNil))) (tOp rSubI te (tC (.int 1)))) ρ (.list ((signsL k).map wordD)) := by
  refine ed_op (e := .int (((k - 1 : Nat)) : Int)) (ed_lst (ea_cons (ed_lst (ea_cons ed_str (ea_cons ed_str ea_nil)) (by simp)) (ea_cons (ed_lst (ea_cons ed_str (ea_cons ed_str (ea_cons ed_str (ea_cons ed_str ea_nil)))) (by simp)) ea_nil)) (by simp)) (ED.is (ed_op h ed_int r2_subI) (congrArg PyData.int (by omega))) (r2_ixL (atI_nat ?_))
  rw [s45, s124, s101, s110, s115, s119]
  rcases hk with rfl | rfl <;> rfl
theorem ed_lens {k : Nat} (hk : k < 4) (h : ED te ρ (.int (k : Nat))) : ED (tOp (rIx K) (tLst (tCons (tC (.int 3)) (tCons (tC (.int 4)) (tCons (tC (.int 4)) (tCons (tC (.int 3)) tNil))))) te) ρ (.int (lenK k : Nat)) := by
  refine ed_op (ed_lst (ea_cons ed_int (ea_cons ed_int (ea_cons ed_int (ea_cons ed_int ea_nil)))) (by simp)) h (r2_ixL (atI_nat ?_))
  match k, hk with
  | 0, _ => rfl
  | 1, _ => rfl
  | 2, _ => rfl
  | 3, _ => rfl
theorem ed_kindex {k : Nat} (hk : k < 4) (h2 : ED ta ρ (.list (kindsL.map wordD))) (h : ED te ρ (wordD (kindC k))) : ED (tBM K "list" (rIndexD K) ta (tCons te tNil)) ρ (.int (k : Nat)) := by
  have hm : kindC k ∈ kindsL := by
    match k, hk with
    | 0, _ => simp [kindsL]
    | 1, _ => simp [kindsL]
    | 2, _ => simp [kindsL]
    | 3, _ => simp [kindsL]
  refine ed_index (z := wordD (kindC k)) h2 h (sh_words kinds_chs) (sh_word (kinds_chs _ hm)) ?_ (by rw [eqv_word]; simp) fun m z' hmk hz => ?_
  · match k, hk with
    | 0, _ => rfl
    | 1, _ => rfl
    | 2, _ => rfl
    | 3, _ => rfl
  · have hz2 : z' = wordD (kindC m) := by
      match m, (show m < 4 by omega) with
      | 0, _ => cases hz; rfl
      | 1, _ => cases hz; rfl
      | 2, _ => cases hz; rfl
      | 3, _ => cases hz; rfl
    rw [hz2, eqv_word]
    exact decide_eq_false fun e => by have := kindC_inj (by omega) hk e; omega
end
end Pd

/-! SemH8 -/
set_option Elab.async false
set_option linter.all false
set_option maxRecDepth 100000
set_option maxHeartbeats 4000000
namespace Pd
open PySem PySem.Spec PyProof.Rows L2 PySem.W
local macro_rules | `(tactic| walk_at "ed") => `(tactic| repeat' (first
  | with_reducible (first
    | exact ed_int | exact ed_str | exact ed_bl | exact ed_non
    | exact ea_nil | refine' ea_cons ?_ ?_
    | refine' ed_isi ?_ ?_ | refine' ed_isi2 ?_ ?_ ?_
    | refine' ed_andV ?_ (fun _ => ?_) | refine' ed_orV ?_ (fun _ => ?_) | refine' ed_notV ?_
    | refine' ed_chain ?_ ?_ ?_ (fun _ => ⟨?_, ?_⟩)
    | refine' ed_tup ?_ ?_ | refine' ed_lst ?_ ?_
    | refine' et_not ?_ | refine' et_and ?_ (fun _ => ?_) | refine' et_or ?_ (fun _ => ?_) | exact et_yes
    | refine' et_test ?_ | refine' et_B ?_
    | refine' ed_op ?_ ?_ ?_
    | refine' ed_cb ?_ ?_)
  | exact ed_var rfl
  | exact kit_tt | exact kit_ii | exact kit_ib | exact kit_ll | exact kit_lt | exact kit_tl
  | exact r2_addI | exact r2_subI | exact r2_lt | exact r2_le | exact r2_gt | exact r2_ge | exact r2_isN | exact r2_notN
  | exact rc_lenT | exact rc_lenL | exact rc_intB | exact rc_tupL
  | with_reducible (first | refine' r2_eq ?_ ?_ | refine' r2_ne ?_ ?_)
  | exact sh_int _ | exact sh_sg _ | exact sh_cell _ | exact sh_edge _ | exact sh_pair _ | exact sh_str _ (by decide +kernel)
  | exact r2_ixT rfl | exact r2_ixL rfl
  | refine' ed_tup ?_ ?_
  | (show List.length _ ≤ 100000; simp; done)))
/-! ### what the law holds for due of a text: its run -/
section
variable {K : PySem.W.Frag}
theorem eqv_nil_l (L : List PyData) : PyData.eqv (.list L) (.list []) = L.isEmpty := by
  cases L <;> simp [PyData.eqv, PyData.eqvAll]
theorem ed_filt {a b : List Nat} {more : List (List Nat)} {x : List Nat} {ρ0 : Rho} (h8 : 8 < ρ0.length) {te : TE} (h : ED te ρ0 (.list ((x :: a :: b :: more).map wordD))) (hca : Chs a) (hcb : Chs b) :
    ET (tTest (tOp (rNeD K) (tLc (iList K (tSl (rSlX K) te (tPart (tC (.int 1))) (tPart (tC (.int 3))))) (gName 8) (tTest (tOp (rInX K true) (tVar 8) (tCB rListS (tCons (tC (.str "0123456789")) tNil)))) (tVar 8) [8]) (tLst tNil))) ρ0 (!(figB a && figB b)) := by
  have hcut : cutD ((x :: a :: b :: more).map wordD) (some 1) (some 3) = [a, b].map wordD := by
    have e1 : HT.sIx ((x :: a :: b :: more).map wordD).length 0 (some 1) = 1 := by
      rw [show (1 : Int) = ((1 : Nat) : Int) from rfl, HT.sIx_nat, List.length_map]
      simp
    have e3 : HT.sIx ((x :: a :: b :: more).map wordD).length ((x :: a :: b :: more).map wordD).length (some 3) = 3 := by
      rw [show (3 : Int) = ((3 : Nat) : Int) from rfl, HT.sIx_nat, List.length_map]
      simp
    unfold cutD
    rw [e1, e3]
    rfl
  have hi : IE (iList K (tSl (rSlX K) te (tPart (tC (.int 1))) (tPart (tC (.int 3))))) ρ0 ([a, b].map wordD) := by
    rw [← hcut]
    exact ie_list (ed_slL h (eo_some ed_int) (eo_some ed_int))
  have hl : ED (tLc (iList K (tSl (rSlX K) te (tPart (tC (.int 1))) (tPart (tC (.int 3))))) (gName 8) (tTest (tOp (rInX K true) (tVar 8) (tCB rListS (tCons (tC (.str "0123456789")) tNil)))) (tVar 8) [8]) ρ0 (.list (([a, b].filter fun l => !figB l).map wordD)) := by
    refine ed_lcT [a, b] wordD (fun l => !figB l) wordD hi (by simp) fun l hl => ?_
    have hcl : Chs l := by
      simp only [List.mem_cons, List.not_mem_nil, or_false] at hl
      rcases hl with rfl | rfl
      · exact hca
      · exact hcb
    have hv : ∀ ρ : Rho, 8 < ρ.length → (ρ.set 8 (some (wordD l)))[8]? = some (some (wordD l)) := fun ρ h => List.getElem?_set_self h
    have h8' : 8 < (wipeR ρ0 [8]).length := by
      show 8 < (List.set _ _ _).length
      rw [List.length_set]
      exact h8
    refine ⟨_, gd_name (by simp), et_test (ED.is (ed_op (ed_var (hv _ h8')) ed_figs (r2_inL (neg := true) (sh_word hcl) (sh_words figs_chs))) ?_), fun _ => ed_var (hv _ h8')⟩
    rw [if_pos rfl, any_word, figs_mem]
  refine et_test (ED.is (ed_op hl (ed_lst ea_nil (by simp)) (r2_ne (sh_words fun l hl => ?_) (sh_words (L := []) fun l hl => nomatch hl))) ?_)
  · have := (List.mem_filter.mp hl).1
    simp only [List.mem_cons, List.not_mem_nil, or_false] at this
    rcases this with rfl | rfl
    · exact hca
    · exact hcb
  · rw [eqv_nil_l]
    refine congrArg PyData.bool ?_
    cases ha : figB a <;> cases hb : figB b <;> simp [List.filter, ha, hb]
theorem rp_L_due {ds : List PyData} {d : PyData} (hR : R_due ds d) : RD (rd_L_due K) (ds.map some ++ List.replicate (9 - ds.length) none) d := by
  obtain ⟨t, hc, ht⟩ := hR
  intro σ B H D ex ev q
  have ev : EnvD σ B [some (.str (St' t)), none, none, none, none, none, none, none, none] := ev
  have hcnt := cut_count 10 t
  have qbad : ∀ n, scanT t = .inl n → ∀ v B' H', Gr B H B' H' → DH B' v (.tuple [.str "text", .int (n : Nat)]) → D.rt v H' := fun n hn v B' H' g dv => by
    refine q v B' H' g ?_
    unfold dueD
    rw [hn]
    exact dv
  have qok : ∀ rs, scanT t = .inr rs → ∀ v B' H', Gr B H B' H' → DH B' v (.tuple [hallD (hallOf rs), cellsD (cellsOf rs)]) → D.rt v H' := fun rs hn v B' H' g dv => by
    refine q v B' H' g ?_
    unfold dueD
    rw [hn]
    exact dv
  unfold rd_L_due
  refine go_seq ?_
  refine (cut_split' nl10 (ed_var (d := .str (St' t)) rfl) (by omega)) σ B H ex ev _ fun v1 B1 H1 g1 d1 => ?_
  refine ed_kinds σ B1 H1 g1.t (ev.mono g1.b) _ fun v2 B2 H2 g2 d2 => ?_
  refine ⟨v1, v2, .int 0, rfl, ?_⟩
  have g := g1.trans g2
  have ev := (((ev.mono g.b).set 1 (d1.mono g2.b)).set 2 d2).set 3 (DH.int (H := B2) 0)
  generalize ((σ.set 1 (some v1)).set 2 (some v2)).set 3 (some (V.int 0)) = σ at ev ⊢
  have ev : EnvD σ B2 [some (.str (St' t)), some (.list ((cut 10 t).map wordD)), some (.list (kindsL.map wordD)), some (.int ((0 : Nat) : Int)), none, none, none, none, none] := ev
  show tSeq _ _ _ _ _
  refine go_seq ?_
  refine td_start g ev (by simp) fun p L B2 H2 o => ?_
  generalize σ.set 4 (some (.ref p)) = σ at o ⊢
  have o : Td B2 B H p L σ B2 H2 [some (.str (St' t)), some (.list ((cut 10 t).map wordD)), some (.list (kindsL.map wordD)), some (.int ((0 : Nat) : Int)), none, none, none, none, none] (fun _ => []) := o
  dsimp only
  refine go_seq ?_
  have hi : IE (iRng1 (tCons (tCB (rLenX K) (tCons (tVar 1) tNil)) tNil)) [some (.str (St' t)), some (.list ((cut 10 t).map wordD)), some (.list (kindsL.map wordD)), some (.int ((0 : Nat) : Int)), none, none, none, none, none] ((List.range (cut 10 t).length).map fun k => .int (k : Nat)) := by
    have hlen1 : ED (tCB (rLenX K) (tCons (tVar 1) tNil)) [some (.str (St' t)), some (.list ((cut 10 t).map wordD)), some (.list (kindsL.map wordD)), some (.int ((0 : Nat) : Int)), none, none, none, none, none] (.int ((cut 10 t).length : Nat)) := by
      refine ED.is (ed_cb (ea_cons (ed_var (i := 1) (d := .list ((cut 10 t).map wordD)) rfl) ea_nil) rc_lenL) ?_
      rw [List.length_map]
    have := ie_rng1 (n := (((cut 10 t).length : Nat) : Int)) (ea_cons hlen1 ea_nil) (by omega) (by omega)
    exact this
  refine td_for (fun k : Nat => .int (k : Nat)) o hi (fun n ρ os => ∃ (m : Nat) (rs0 : List Rw), ρ = [some (.str (St' t)), some (.list ((cut 10 t).map wordD)), some (.list (kindsL.map wordD)), some (.int (m : Nat)), none, none, none, none, none] ∧ (∀ k, k < 4 → os k = thingsK rs0 k) ∧ ScI t n m rs0)
    ⟨0, [], rfl, fun k _ => rfl, ScI.start t⟩ ?_ ?_
  · rintro n n' hx ρ os ⟨m, rs0, rfl, hos, sc⟩ B0 σ B' H' N v o dv next
    have hn : n < (cut 10 t).length := by
      have := (List.getElem?_eq_some_iff.mp hx).1
      simpa using this
    rw [List.getElem?_range hn] at hx
    cases hx
    have hx2 : (cut 10 t)[n]? = some (cut 10 t)[n] := List.getElem?_eq_getElem hn
    generalize (cut 10 t)[n] = l at hx2
    have hl := List.mem_of_getElem? hx2
    have hll := cut_len hl
    have hcl := chs_cut hc hl
    have hwc := cut_count 32 l
    have hwch : ∀ q ∈ cut 32 l, Chs q := fun q hq => chs_cut hcl hq
    have hwne := cut_ne 32 l
    refine gd_name (i := 5) (vs := [5]) (by simp) σ B' H' v o.g.t o.e dv _ fun σ ev w => ?_
    have o := o.env ev w (by decide)
    have o : Td B0 B H p L σ B' H' [some (.str (St' t)), some (.list ((cut 10 t).map wordD)), some (.list (kindsL.map wordD)), some (.int (m : Nat)), none, some (.int (n : Nat)), none, none, none] os := o
    dsimp only
    refine go_seq ?_
    refine td_set (i := 6) (d := .list ((cut 32 l).map wordD)) o (by decide) (cut_split' sp32' (ed_op (d := .list ((cut 10 t).map wordD)) (ed_var rfl) (ed_var rfl) (r2_ixL (atI_nat (by rw [List.getElem?_map, hx2]; rfl)))) (by omega)) fun σ B' H' o => ?_
    generalize hws : cut 32 l = ws at hwc hwch hwne o
    have o : Td B0 B H p L σ B' H' [some (.str (St' t)), some (.list ((cut 10 t).map wordD)), some (.list (kindsL.map wordD)), some (.int (m : Nat)), none, some (.int (n : Nat)), some (.list (ws.map wordD)), none, none] os := o
    have hret : ∀ {a : Option PyData}, RD (tRet (tTup (tCons (tC (.str "text")) (tCons (tVar 5) tNil)))) [some (.str (St' t)), some (.list ((cut 10 t).map wordD)), some (.list (kindsL.map wordD)), some (.int (m : Nat)), none, some (.int (n : Nat)), some (.list (ws.map wordD)), a, none] (.tuple [.str "text", .int (n : Nat)]) := rd_ret (ed_tup (ea_cons ed_str (ea_cons (ed_var rfl) ea_nil)) (by simp))
    have notrow : isRowB ws = false → scanT t = .inl n := fun hb => by
      cases hro : rowOf ws with
      | none => exact sc.none hx2 (by rw [hws]; exact hro)
      | some r =>
        obtain ⟨ho, hw⟩ := rowOf_some hro
        rw [hw, row_is ho] at hb
        cases hb
    match ws, hwne with
    | x :: rest, _ =>
    have h0 : ∀ {a : Option PyData}, ED (tOp (rIx K) (tVar 6) (tC (.int 0))) [some (.str (St' t)), some (.list ((cut 10 t).map wordD)), some (.list (kindsL.map wordD)), some (.int (m : Nat)), none, some (.int (n : Nat)), some (.list ((x :: rest).map wordD)), a, none] (wordD x) := ed_op (d := .list (wordD x :: rest.map wordD)) (ed_var rfl) ed_int (r2_ixL atc0)
    refine go_seq ?_
    refine td_ret (b := !(kindOf x).isSome) o (et_test (ED.is (ed_op h0 (ed_var rfl) (r2_inL (neg := true) (sh_word (hwch x (.head _))) (sh_words kinds_chs))) (by rw [if_pos rfl, any_word, kinds_mem]))) hret (fun hb => qbad n (notrow ?_)) fun hb B' H' o => ?_
    · match rest with
      | [] => rfl
      | [a] => rfl
      | a :: b :: more =>
        rw [isRowB_cons]
        cases hk : kindOf x with
        | none => rfl
        | some k => rw [hk] at hb; cases hb
    obtain ⟨k, hk⟩ := Option.isSome_iff_exists.mp (show (kindOf x).isSome = true by simpa using hb)
    obtain ⟨hk4, rfl⟩ := kindOf_some hk
    refine go_seq ?_
    refine td_set (i := 7) (d := .int (k : Nat)) o (by decide) (ed_kindex hk4 (ed_var rfl) h0) fun σ B' H' o => ?_
    have o : Td B0 B H p L σ B' H' [some (.str (St' t)), some (.list ((cut 10 t).map wordD)), some (.list (kindsL.map wordD)), some (.int (m : Nat)), none, some (.int (n : Nat)), some (.list ((kindC k :: rest).map wordD)), some (.int (k : Nat)), none] os := o
    have hlen : ED (tCB (rLenX K) (tCons (tVar 6) tNil)) [some (.str (St' t)), some (.list ((cut 10 t).map wordD)), some (.list (kindsL.map wordD)), some (.int (m : Nat)), none, some (.int (n : Nat)), some (.list ((kindC k :: rest).map wordD)), some (.int (k : Nat)), none] (.int ((kindC k :: rest).length : Nat)) := by
      refine ED.is (ed_cb (ea_cons (ed_var (d := .list ((kindC k :: rest).map wordD)) rfl) ea_nil) rc_lenL) ?_
      rw [List.length_map]
    refine go_seq ?_
    refine td_ret (b := (decide (k = 0) != decide (n = 0)) || (decide (k < m) || decide ((kindC k :: rest).length ≠ lenK k))) o (et_or (a := decide (k = 0) != decide (n = 0)) (et_test (ED.is (ed_op (ed_op (ed_var rfl) ed_int (r2_eq (sh_int _) (sh_int _))) (ed_op (ed_var rfl) ed_int (r2_eq (sh_int _) (sh_int _))) (r2_ne (sh_bool _) (sh_bool _))) ?_)) fun _ => et_or (a := decide (k < m)) (ET.is (et_test (ed_op (ed_var rfl) (ed_var rfl) r2_lt)) (decide_eq_decide.mpr (by omega))) fun _ => et_test (ED.is (ed_op hlen (ed_lens hk4 (ed_var rfl)) (r2_ne (sh_int _) (sh_int _))) ?_)) hret (fun hb => qbad n ?_) fun hb B' H' o => ?_
    · rw [eqv_int, eqv_int, eqv_bool]
      have e1 : decide ((n : Int) = 0) = decide (n = 0) := decide_eq_decide.mpr (by omega)
      have e2 : decide ((k : Int) = 0) = decide (k = 0) := decide_eq_decide.mpr (by omega)
      rw [e1, e2]
      refine congrArg PyData.bool ?_
      cases decide (k = 0) <;> cases decide (n = 0) <;> rfl
    · rw [eqv_int]
      refine congrArg PyData.bool ?_
      rw [← decide_not]
      exact decide_eq_decide.mpr (by omega)
    · cases hro : rowOf (kindC k :: rest) with
      | none => exact sc.none hx2 (by rw [hws]; exact hro)
      | some r =>
        obtain ⟨ho, hw⟩ := rowOf_some hro
        have hkr : k = r.k := by
          have : kindC k = kindC r.k := (List.cons.inj hw).1
          exact kindC_inj hk4 ho.k4 this
        have hlr := row_len ho
        rw [← hw, ← hkr] at hlr
        refine sc.bad hx2 (by rw [hws]; exact hro) ?_
        rw [← hkr]
        rw [hlr] at hb
        simpa using hb
    obtain ⟨c0, hlk⟩ : ((decide (k = 0) != decide (n = 0)) || decide (k < m)) = false ∧ (kindC k :: rest).length = lenK k := by
      rw [Bool.or_eq_false_iff, Bool.or_eq_false_iff] at hb
      refine ⟨by rw [hb.1, hb.2.1]; rfl, ?_⟩
      have := hb.2.2
      simpa using this
    have hl3 : 3 ≤ (kindC k :: rest).length := by
      rw [hlk]
      unfold lenK
      split <;> omega
    match rest, hl3 with
    | a :: b :: more, _ =>
    have row : isRowB (kindC k :: a :: b :: more) = (figB a && figB b && signB k more) := by rw [isRowB_cons, hk]
    refine go_seq ?_
    refine td_ret (b := !(figB a && figB b)) o (ed_filt (by simp) (ed_var rfl) (hwch a (by simp)) (hwch b (by simp))) hret (fun hb => qbad n (notrow ?_)) fun hb B' H' o => ?_
    · rw [row]
      have : (figB a && figB b) = false := by cases h : (figB a && figB b) with | false => rfl | true => rw [h] at hb; cases hb
      rw [this]
      rfl
    have hab : (figB a && figB b) = true := by cases h : (figB a && figB b) with | true => rfl | false => rw [h] at hb; cases hb
    rw [hab, Bool.true_and] at row
    have hin : ET (tTest (tOp (rInX K false) (tVar 7) (tTup (tCons (tC (.int 1)) (tCons (tC (.int 2)) tNil))))) [some (.str (St' t)), some (.list ((cut 10 t).map wordD)), some (.list (kindsL.map wordD)), some (.int (m : Nat)), none, some (.int (n : Nat)), some (.list ((kindC k :: a :: b :: more).map wordD)), some (.int (k : Nat)), none] (decide (k = 1 ∨ k = 2)) := by
      refine et_test (ED.is (ed_op (ed_var rfl) (ed_tup (ea_cons ed_int (ea_cons ed_int ea_nil)) (by simp)) (r2_inT (neg := false) (sh_int _) (shaped_of (by simp [PyData.canLay0, PyData.canLayAll0]) (by simp [PyData.depth, PyData.depthAll])))) ?_)
      rw [if_neg (by decide)]
      simp only [List.any_cons, List.any_nil, Bool.or_false, eqv_int]
      refine congrArg PyData.bool ?_
      rw [← Bool.decide_or]
      exact decide_eq_decide.mpr (by omega)
    refine go_seq ?_
    refine td_ret (b := decide (k = 1 ∨ k = 2) && !signB k more) o (et_and hin fun h12 => et_test ?_) hret (fun hb => qbad n (notrow ?_)) fun hb B' H' o => ?_
    · have h12 : k = 1 ∨ k = 2 := by simpa using h12
      have hm1 : more.length = 1 := by
        simp only [List.length_cons] at hlk
        unfold lenK at hlk
        rw [if_pos h12] at hlk
        omega
      obtain ⟨s, rfl⟩ := List.length_eq_one_iff.mp hm1
      refine ED.is (ed_op (ed_op (d := .list (wordD (kindC k) :: wordD a :: wordD b :: wordD s :: [])) (ed_var rfl) ed_int (r2_ixL (d := wordD s) rfl)) (ed_signs h12 (ed_var rfl)) (r2_inL (neg := true) (sh_word (hwch s (by simp))) (sh_words (signs_chs k)))) ?_
      rw [if_pos rfl, any_word, signB_s h12]
    · rw [row]
      rw [Bool.and_eq_true] at hb
      simpa using hb.2
    have hrow : isRowB (kindC k :: a :: b :: more) = true := by
      rw [row]
      by_cases h12 : k = 1 ∨ k = 2
      · rw [decide_eq_true h12, Bool.true_and] at hb
        simpa using hb
      · have hm0 : more = [] := by
          simp only [List.length_cons] at hlk
          unfold lenK at hlk
          rw [if_neg h12] at hlk
          exact List.length_eq_zero_iff.mp (by omega)
        subst hm0
        unfold signB
        rw [if_neg (fun z => h12 (.inl z)), if_neg (fun z => h12 (.inr z))]
        rfl
    obtain ⟨r, hro⟩ : ∃ r, rowOf (kindC k :: a :: b :: more) = some r := by
      cases hro : rowOf (kindC k :: a :: b :: more) with
      | none => rw [rowOf_none hro] at hrow; cases hrow
      | some r => exact ⟨r, rfl⟩
    obtain ⟨ho, hw⟩ := rowOf_some hro
    have hkr : k = r.k := kindC_inj hk4 ho.k4 (List.cons.inj hw).1
    have sc2 := sc.ok hx2 (by rw [hws]; exact hro) (by rw [← hkr]; exact c0)
    subst hkr
    rw [hw] at o
    refine go_seq ?_
    refine td_set (i := 3) o (by decide) (ed_var (d := .int (r.k : Nat)) rfl) fun σ B' H' o => ?_
    have o : Td B0 B H p L σ B' H' [some (.str (St' t)), some (.list ((cut 10 t).map wordD)), some (.list (kindsL.map wordD)), some (.int (r.k : Nat)), none, some (.int (n : Nat)), some (.list (r.words.map wordD)), some (.int (r.k : Nat)), none] os := o
    refine td_app (d := r.thing) o hk4 (ed_var rfl) ?_ ?_ fun B' H' o => ?_
    · refine ED.is (ed_op (ed_tup (ea_cons (ed_cb (ea_cons (ed_op (ed_var rfl) ed_int (r2_ixL r.ix1)) ea_nil) (rc_intS ho.a)) (ea_cons (ed_cb (ea_cons (ed_op (ed_var rfl) ed_int (r2_ixL r.ix2)) ea_nil) (rc_intS ho.b)) ea_nil)) (by simp)) (ed_cb (ea_cons (ed_slL (ds := r.words.map wordD) (ed_var rfl) (eo_some ed_int) eo_none) ea_nil) rc_tupL) (r2_catT ?_)) ?_
      · obtain ⟨k, a, b, s⟩ := r
        cases s
        · show 2 + 0 ≤ 100000
          decide
        · show 2 + 1 ≤ 100000
          decide
      · obtain ⟨k, a, b, s⟩ := r
        cases s <;> rfl
    · rw [hos _ hk4]
      unfold thingsK
      rw [List.length_map]
      have h1 := List.length_filter_le (fun s : Rw => s.k == r.k) rs0
      have h2 := sc.1
      omega
    refine next σ B' H' _ _ ⟨r.k, rs0 ++ [r], rfl, fun k hk4 => ?_, sc2⟩ (o.less ?_)
    · show _ = thingsK (rs0 ++ [r]) k
      unfold thingsK
      rw [List.filter_append, List.map_append]
      by_cases z : k = r.k
      · subst z
        simp [hos _ hk4, thingsK]
      · have z2 : ¬ (r.k = k) := fun y => z y.symm
        simp [z, z2, hos _ hk4, thingsK]
    · exact (((Rle.refl [some (.str (St' t)), some (.list ((cut 10 t).map wordD)), some (.list (kindsL.map wordD)), some (.int (r.k : Nat)), none, none, none, none, none]).set (i := 5) (o := some (.int (n : Nat))) rfl).set (i := 6) (o := some (.list (r.words.map wordD))) rfl).set (i := 7) (o := some (.int (r.k : Nat))) rfl
  · rintro ρ os σ B' H' ⟨m, rs0, rfl, hos, sc⟩ o
    rw [List.length_range] at sc
    have hs := sc.end
    obtain ⟨B3, e3, g3, p3, d3⟩ := o.done
    obtain ⟨B4, e4, g4, d4, _⟩ := g3.take p3 o.fp o.hp (ds := (List.range 4).map fun k => .list (os k)) (.cons (d3 0 (by decide)) (.cons (d3 1 (by decide)) (.cons (d3 2 (by decide)) (.cons (d3 3 (by decide)) .nil))))
    have ev4 := (o.e.mono (e3.trans e4)).tell 4 o.s d4
    have ev4 : EnvD σ B4 [some (.str (St' t)), some (.list ((cut 10 t).map wordD)), some (.list (kindsL.map wordD)), some (.int (m : Nat)), some (.list [.list (os 0), .list (os 1), .list (os 2), .list (os 3)]), none, none, none, none] := ev4
    rw [hos 0 (by decide), hos 1 (by decide), hos 2 (by decide), hos 3 (by decide), things0 hs, things12 hs (.inl rfl), things12 hs (.inr rfl), things3 hs] at ev4
    obtain ⟨l1, l2, l3⟩ := scan_lens hs ht
    have qq := qok rs0 hs
    refine rd_ret (ed_tup (ea_cons (ED.is (ed_op (ed_op (ed_op (ed_var rfl) ed_int (r2_ixL rfl)) ed_int (r2_ixL (d := cellD ((hallOf rs0).rows, (hallOf rs0).cols)) rfl)) (ed_tup (ea_cons (ed_cb (ea_cons (ed_op (ed_var rfl) ed_int (r2_ixL rfl)) ea_nil) rc_tupL) (ea_cons (ed_cb (ea_cons (ed_op (ed_var rfl) ed_int (r2_ixL rfl)) ea_nil) rc_tupL) ea_nil)) (by simp)) (r2_catT (by simp))) (d' := hallD (hallOf rs0)) rfl) (ea_cons (ED.is (ed_cb (ea_cons (ed_op (ed_var rfl) ed_int (r2_ixL rfl)) ea_nil) rc_tupL) (d' := cellsD (cellsOf rs0)) rfl) ea_nil)) (by simp)) σ B4 H' D g4.t ev4 fun v B5 H5 g5 d5 => qq v B5 H5 (g4.trans g5) d5
end
end Pd

/-! SemH9 -/
set_option Elab.async false
set_option linter.all false
set_option maxRecDepth 100000
set_option maxHeartbeats 4000000
namespace Pd
open PySem PySem.Spec PyProof.Rows L2 PySem.W
local macro_rules | `(tactic| walk_at "ed") => `(tactic| repeat' (first
  | with_reducible (first
    | exact ed_int | exact ed_str | exact ed_bl | exact ed_non
    | exact ea_nil | refine' ea_cons ?_ ?_
    | refine' ed_isi ?_ ?_ | refine' ed_isi2 ?_ ?_ ?_
    | refine' ed_andV ?_ (fun _ => ?_) | refine' ed_orV ?_ (fun _ => ?_) | refine' ed_notV ?_
    | refine' ed_chain ?_ ?_ ?_ (fun _ => ⟨?_, ?_⟩)
    | refine' ed_tup ?_ ?_ | refine' ed_lst ?_ ?_
    | refine' et_not ?_ | refine' et_and ?_ (fun _ => ?_) | refine' et_or ?_ (fun _ => ?_) | exact et_yes
    | refine' et_test ?_ | refine' et_B ?_
    | refine' ed_op ?_ ?_ ?_
    | refine' ed_cb ?_ ?_)
  | exact ed_var rfl
  | exact kit_tt | exact kit_ii | exact kit_ib | exact kit_ll | exact kit_lt | exact kit_tl
  | exact r2_addI | exact r2_subI | exact r2_lt | exact r2_le | exact r2_gt | exact r2_ge | exact r2_isN | exact r2_notN
  | exact rc_lenT | exact rc_lenL | exact rc_intB | exact rc_tupL
  | with_reducible (first | refine' r2_eq ?_ ?_ | refine' r2_ne ?_ ?_)
  | exact sh_int _ | exact sh_sg _ | exact sh_cell _ | exact sh_edge _ | exact sh_pair _ | exact sh_str _ (by decide +kernel)
  | exact r2_ixT rfl | exact r2_ixL rfl
  | refine' ed_tup ?_ ?_
  | (show List.length _ ≤ 100000; simp; done)))
/-! ### a text that is changed -/
def wgt (L : List (List Nat)) : Nat := (L.map fun l => l.length + 1).sum
theorem wgt_app (L M : List (List Nat)) : wgt (L ++ M) = wgt L + wgt M := by simp [wgt]
theorem wgt_one (l : List Nat) : wgt [l] = l.length + 1 := by simp [wgt]
theorem wgt_sum : ∀ L : List (List Nat), wgt L = (L.map List.length).sum + L.length
  | [] => rfl
  | x :: r => by
    have := wgt_sum r
    unfold wgt at this ⊢
    simp only [List.map_cons, List.sum_cons, List.length_cons]
    omega
theorem wgt_cut (c : Nat) (t : List Nat) : wgt (cut c t) = t.length + 1 := by
  have := gl_len1 c (cut c t) (cut_ne c t)
  rw [gl_cut] at this
  rw [wgt_sum, this]
theorem gl_wgt (c : Nat) (L : List (List Nat)) : (gl c L).length ≤ wgt L := by
  have := gl_len c L
  rw [wgt_sum]
  exact this
theorem wgt_split (L : List (List Nat)) (n : Nat) : wgt (L.take n) + wgt (L.drop n) = wgt L := by rw [← wgt_app, List.take_append_drop]
theorem wgt_drop (L : List (List Nat)) (n m : Nat) : wgt (L.drop (n + m)) ≤ wgt (L.drop n) := by
  have := wgt_split (L.drop n) m
  rw [List.drop_drop] at this
  omega
theorem wgt_len (L : List (List Nat)) : L.length ≤ wgt L := by rw [wgt_sum]; omega
theorem gl_mem {c s : Nat} : ∀ {L : List (List Nat)}, c ∈ gl s L → c = s ∨ ∃ l ∈ L, c ∈ l
  | [], h => nomatch h
  | [x], h => .inr ⟨x, .head _, h⟩
  | x :: y :: r, h => by
    have h : c ∈ x ++ s :: gl s (y :: r) := h
    rcases List.mem_append.mp h with h | h
    · exact .inr ⟨x, .head _, h⟩
    · rcases List.mem_cons.mp h with h | h
      · exact .inl h
      · rcases gl_mem h with h | ⟨l, hl, h⟩
        · exact .inl h
        · exact .inr ⟨l, .tail _ hl, h⟩
theorem gl_chs {L : List (List Nat)} (h : ∀ l ∈ L, Chs l) : Chs (gl 10 L) := fun a ha => by
  rcases gl_mem ha with e | ⟨l, hl, h2⟩
  · rw [e]; decide
  · exact h l hl a h2
theorem join_words (L : List (List Nat)) : Txt.join "\n" (L.map St') = St' (gl 10 L) := by
  have e : ∀ y parts, Txt.join y parts = Str.join y parts := fun y parts => StrLaws.glued_eq_join y parts
  rw [nl10, e]
  refine str_ext ?_
  rw [join_cps, List.map_map]
  show gl 10 _ = gl 10 _
  refine congrArg (gl 10) ?_
  have : ∀ p ∈ L, ((fun x : Str => x.cps.toList) ∘ St') p = p := fun p _ => by simp [St']
  rw [List.map_congr_left this, List.map_id']
theorem cut_dropG (ds : List PyData) (n : Nat) : cutD ds (some (n : Int)) none = ds.drop n := by
  unfold cutD
  rw [HT.sIx_nat, HT.sIx_none]
  by_cases h : n ≤ ds.length
  · rw [Nat.min_eq_left h, List.take_of_length_le (by rw [List.length_drop]; omega)]
  · rw [Nat.min_eq_right (by omega), List.drop_of_length_le (Nat.le_refl _), List.drop_of_length_le (by omega)]
    simp
theorem cut_one (ds : List PyData) (n : Nat) (h : n + 1 ≤ ds.length) : cutD ds (some (n : Int)) (some ((n + 1 : Nat) : Int)) = (ds.drop n).take 1 := by
  unfold cutD
  rw [HT.sIx_nat, HT.sIx_nat, Nat.min_eq_left h, Nat.min_eq_left (show n ≤ ds.length by omega), Nat.add_sub_cancel_left]
theorem cutS_take (t : List Nat) (n : Nat) (h : n ≤ t.length) : cutS (St' t) none (some (n : Int)) = St' (t.take n) := by
  unfold cutS
  rw [st_len, HT.sIx_none, HT.sIx_nat]
  refine str_ext ?_
  show ((t.toArray.toList.drop 0).take (min n t.length - 0)).toArray.toList = (t.take n).toArray.toList
  simp [Nat.min_eq_left h]
theorem cutS_drop (t : List Nat) (n : Nat) : cutS (St' t) (some (n : Int)) none = St' (t.drop n) := by
  unfold cutS
  rw [st_len, HT.sIx_nat, HT.sIx_none]
  refine str_ext ?_
  show ((t.toArray.toList.drop (min n t.length)).take (t.length - min n t.length)).toArray.toList = (t.drop n).toArray.toList
  rw [List.toList_toArray, List.toList_toArray, List.toList_toArray]
  by_cases h : n ≤ t.length
  · rw [Nat.min_eq_left h, List.take_of_length_le (by rw [List.length_drop]; omega)]
  · rw [Nat.min_eq_right (by omega), List.drop_of_length_le (Nat.le_refl _), List.drop_of_length_le (by omega)]
    simp
def P_changed (ds : List PyData) : Prop := ∃ t : List Nat, ds = [.str (St' t)] ∧ Chs t ∧ t.length ≤ 4000
def R_changed (ds : List PyData) (d : PyData) : Prop := ∃ t t' : List Nat, ds = [.str (St' t)] ∧ d = .str (St' t') ∧ Chs t' ∧ t'.length ≤ 2 * t.length + 20
def oddL : List (List Nat) := [[], [104, 97, 108, 108, 32, 50, 32, 50], [119, 97, 108, 108, 32, 49, 32, 48, 32, 45], [100, 111, 111, 114, 32, 49, 32, 49, 32, 110], [97, 116, 32, 48, 32, 48], [97, 116, 32, 48, 32, 48, 32], [119, 97, 108, 108, 32, 49, 32, 48]]
def oddM : List (List Nat) := [[100, 111, 111, 114, 32, 49, 32, 49, 32, 45], [97, 116, 32, 49, 48, 32, 48], [119, 97, 108, 108, 32, 49, 32, 48, 32, 110]]
section
variable {K : PySem.W.Frag} {c : Cfg} {ρ : Rho} {os : OS} {te tb ta : TE} {P : PyData → Prop}
theorem ei_drawG {m : Int} (hr : CK c K) (h : ED te ρ (.int m)) (h1 : 1 ≤ m) (h2 : m ≤ 100000) : EI c (tCallD (spW K P_taken R_taken) (tCons (tVar 0) (tCons te tNil))) ρ os (fun d => ∃ n : Nat, d = .int n ∧ (n : Int) < m) := by
  obtain ⟨h0, rfl⟩ := hr
  rw [← h0]
  refine (ei_callW (ai_cons (ei_pure h) fun d _ => ai_nil) ?_).imp ?_
  · rintro ds ⟨d, es, rfl, rfl, rfl⟩
    exact ⟨m, rfl, h1, h2⟩
  · rintro d ⟨ds, ⟨d', es, rfl, rfl, rfl⟩, m', n, e, rfl, h3, h4⟩
    simp only [List.cons.injEq, PyData.int.injEq, and_true] at e
    subst e
    exact ⟨n.toNat, by rw [Int.toNat_of_nonneg h3], by omega⟩
theorem ei_lst1 (h : EI c te ρ os P) : EI c (tLst (tCons te tNil)) ρ os (fun d => ∃ x, d = .list [x] ∧ P x) := fun A σ B H o Q q => by
  refine h A σ B H o _ fun x d B1 H1 o1 ex1 d1 p1 => ⟨by show 1 ≤ _; decide, fun p hp => ?_⟩
  have g := Gr.new (o := .lst [x]) o1.d.t hp
  exact q _ _ _ _ (o1.gr g) (ex1.trans g.b) (.lst upd_same (.cons (d1.mono g.b) .nil)) ⟨d, rfl, p1⟩
theorem ei_joinW {PL : List (List Nat) → Prop} (h : EI c te ρ os (fun d => ∃ L, d = .list (L.map wordD) ∧ PL L)) (hb : ∀ L, PL L → wgt L ≤ 100000) : EI c (tM1 (rJoin K) (tC (.str "\n")) te) ρ os (fun d => ∃ L, d = .str (St' (gl 10 L)) ∧ PL L) := fun A σ B H o Q q => by
  refine ⟨⟨_, rfl⟩, ?_⟩
  refine h A σ B H o _ fun v d B1 H1 o1 ex1 d1 ⟨L, e, pl⟩ => ?_
  subst e
  cases d1 with
  | @lst p xs _ ha hs =>
    have hs2 : DHs B1 xs ((L.map St').map PyData.str) := by rw [List.map_map]; exact hs
    have e := hs2.strs
    subst e
    refine ⟨_, p, L.map St', rfl, rfl, .inl (SqL.of (o1.d.t _ _ ha)), ?_, ?_⟩
    · have h1 := hb L pl
      rw [wgt_sum] at h1
      have h2 : ("\n" : Str).length = 1 := by decide +kernel
      have e2 : (L.map St').map (·.length) = L.map List.length := by
        rw [List.map_map]
        exact List.map_congr_left fun l _ => st_len l
      rw [e2, h2, List.length_map]
      omega
    · rw [join_words]
      exact q _ _ B1 H1 o1 ex1 (.str _) ⟨L, rfl, pl⟩
theorem r2_mulS {z : Str} {b : Bool} : RD2 rMulS (.str z) (.int (if b then 1 else 0)) (.str (if b then z else Str.empty)) := fun B H x y ex dx dy Q q => by
  cases dx
  cases dy
  exact ⟨z, b, rfl, rfl, q _ B H (Gr.refl ex) (.str _)⟩
theorem ed_odds : ED (tLst (tCons (tC (.str "")) (tCons (tC (.str "hall 2 2")) (tCons (tC (.str "wall 1 0 -")) (tCons (tC (.str "door 1 1 n")) (tCons (tC (.str "at 0 0")) (tCons (tC (.str "at 0 0 ")) (tCons (tC (.str "wall 1 0")) tNil)))))))) ρ (.list (oddL.map wordD)) := by
  refine ED.is (ed_lst (ea_cons ed_str (ea_cons ed_str (ea_cons ed_str (ea_cons ed_str (ea_cons ed_str (ea_cons ed_str (ea_cons ed_str ea_nil))))))) (by simp)) ?_
  have e : ([("" : Str), "hall 2 2", "wall 1 0 -", "door 1 1 n", "at 0 0", "at 0 0 ", "wall 1 0"] : List Str) = oddL.map St' := by decide +kernel
  show PyData.list (([("" : Str), "hall 2 2", "wall 1 0 -", "door 1 1 n", "at 0 0", "at 0 0 ", "wall 1 0"] : List Str).map PyData.str) = _
  rw [e, List.map_map]
  rfl
theorem ed_oddm : ED (tLst (tCons (tC (.str "door 1 1 -")) (tCons (tC (.str "at 10 0")) (tCons (tC (.str "wall 1 0 n")) tNil)))) ρ (.list (oddM.map wordD)) := by
  refine ED.is (ed_lst (ea_cons ed_str (ea_cons ed_str (ea_cons ed_str ea_nil))) (by simp)) ?_
  have e : ([("door 1 1 -" : Str), "at 10 0", "wall 1 0 n"] : List Str) = oddM.map St' := by decide +kernel
  show PyData.list (([("door 1 1 -" : Str), "at 10 0", "wall 1 0 n"] : List Str).map PyData.str) = _
  rw [e, List.map_map]
  rfl
theorem odd_ok : ∀ l ∈ oddL ++ oddM, Chs l ∧ l.length ≤ 10 := by
  have : ∀ l ∈ oddL ++ oddM, (∀ a ∈ l, a < 1114112) ∧ l.length ≤ 10 := by decide
  exact this
theorem sgn13 : (" 059-|ensw\nhx" : Str).cps.toList = [32, 48, 53, 57, 45, 124, 101, 110, 115, 119, 10, 104, 120] := by decide +kernel
end
end Pd

/-! SemHA -/
set_option Elab.async false
set_option linter.all false
set_option maxRecDepth 100000
set_option maxHeartbeats 4000000
namespace Pd
open PySem PySem.Spec PyProof.Rows L2 PySem.W
local macro_rules | `(tactic| walk_at "ed") => `(tactic| repeat' (first
  | with_reducible (first
    | exact ed_int | exact ed_str | exact ed_bl | exact ed_non
    | exact ea_nil | refine' ea_cons ?_ ?_
    | refine' ed_isi ?_ ?_ | refine' ed_isi2 ?_ ?_ ?_
    | refine' ed_andV ?_ (fun _ => ?_) | refine' ed_orV ?_ (fun _ => ?_) | refine' ed_notV ?_
    | refine' ed_chain ?_ ?_ ?_ (fun _ => ⟨?_, ?_⟩)
    | refine' ed_tup ?_ ?_ | refine' ed_lst ?_ ?_
    | refine' et_not ?_ | refine' et_and ?_ (fun _ => ?_) | refine' et_or ?_ (fun _ => ?_) | exact et_yes
    | refine' et_test ?_ | refine' et_B ?_
    | refine' ed_op ?_ ?_ ?_
    | refine' ed_cb ?_ ?_)
  | exact ed_var rfl
  | exact kit_tt | exact kit_ii | exact kit_ib | exact kit_ll | exact kit_lt | exact kit_tl
  | exact r2_addI | exact r2_subI | exact r2_lt | exact r2_le | exact r2_gt | exact r2_ge | exact r2_isN | exact r2_notN
  | exact rc_lenT | exact rc_lenL | exact rc_intB | exact rc_tupL
  | with_reducible (first | refine' r2_eq ?_ ?_ | refine' r2_ne ?_ ?_)
  | exact sh_int _ | exact sh_sg _ | exact sh_cell _ | exact sh_edge _ | exact sh_pair _ | exact sh_str _ (by decide +kernel)
  | exact r2_ixT rfl | exact r2_ixL rfl
  | refine' ed_tup ?_ ?_
  | (show List.length _ ≤ 100000; simp; done)))
section
variable {K : PySem.W.Frag}
theorem rp_L_changed {vs : List V} {H : Hp} {Q : VK} {E : XK} (h : spW K P_changed R_changed vs H Q E) : rd_L_changed K (spW K P_taken R_taken) { nx := fun _ H' => Q .non H', rt := Q } (L2.start ["_law_row", "_law_text", "_law_at", "_law_way", "_law_sign", "_law_lines", "_law_k", "_law_odd"] vs) H := by
  obtain ⟨c, ds, hr, ⟨t, rfl, hc, ht⟩, o, q⟩ := iv_start h "_law_row" ["_law_text", "_law_at", "_law_way", "_law_sign", "_law_lines", "_law_k", "_law_odd"] (fun ds ⟨t, e, _⟩ => by rw [e]; simp)
  generalize L2.start ["_law_row", "_law_text", "_law_at", "_law_way", "_law_sign", "_law_lines", "_law_k", "_law_odd"] vs = σ at o ⊢
  have o : Iv c (fun _ => 0) σ c.B1 H [none, some (.str (St' t)), none, none, none, none, none, none] [] := o _
  have hrn : ∀ i : Nat, 0 < i → i ≠ c.r := fun i hi => by rw [hr.1]; omega
  have qq : ∀ t' : List Nat, Chs t' → t'.length ≤ 2 * t.length + 20 → ∀ A σ v B' H' ρ' os', Iv c A σ B' H' ρ' os' → DH B' v (.str (St' t')) → Q v H' := fun t' h1 h2 A σ v B' H' ρ' os' o dv => q A σ v _ B' H' ρ' os' ⟨t, t', rfl, rfl, h1, h2⟩ o dv
  unfold rd_L_changed
  refine go_seq ?_
  have hat : EI c (tCallD (spW K P_taken R_taken) (tCons (tVar 0) (tCons (tOp (rAddX K) (tCB (rLenX K) (tCons (tVar 1) tNil)) (tC (.int 1))) tNil))) [none, some (.str (St' t)), none, none, none, none, none, none] [] (fun d => ∃ n : Nat, d = .int n ∧ (n : Int) < (t.length : Int) + 1) := by
    refine ei_drawG hr (ED.is (ed_op (ed_cb (ea_cons (ed_var (d := .str (St' t)) rfl) ea_nil) (rc_lenS (by rw [st_len]; omega))) ed_int r2_addI) ?_) (by omega) (by omega)
    rw [st_len]
  refine go_par (i := 2) (j := 3) o (ai_cons hat fun _ _ => ai_cons (ei_drawG hr (m := 6) ed_int (by decide) (by decide)) fun _ _ => ai_nil) ?_ (hrn _ (by decide)) (hrn _ (by decide)) (by simp) (by simp) ?_
  · rintro ds ⟨d, es, rfl, _, e, es2, rfl, _, rfl⟩
    exact ⟨_, _, rfl⟩
  rintro d e ⟨d', es, e1, ⟨a, rfl, ha⟩, e', es2, e2, ⟨w, rfl, hw⟩, e3⟩ σ B H o
  subst e2 e3
  simp only [List.cons.injEq, and_true] at e1
  obtain ⟨rfl, rfl⟩ := e1
  have o : Iv c _ σ B H [none, some (.str (St' t)), some (.int (a : Nat)), some (.int (w : Nat)), none, none, none, none] [] := o
  try dsimp only
  refine go_seq ?_
  refine go_if (P := (· = decide (w < 3))) o (ti_pure (ET.is (et_test (ed_op (ed_var rfl) ed_int r2_lt)) (decide_eq_decide.mpr (by omega)))) (fun hb B H o => ?_) (fun hb B H o => ?_)
  · -- a sign put in, put for another, left out
    refine go_seq ?_
    refine go_asg (P := fun d => ∃ s : List Nat, d = .str (St' s) ∧ Chs s ∧ s.length ≤ 1) o (ei_op (Pa := fun d => ∃ x : Nat, d = .str ⟨#[x]⟩ ∧ x < 1114112) (Pb := fun _ d => d = .int (if decide (w < 2) then 1 else 0)) (ei_op (Pa := (· = .str " 059-|ensw\nhx")) (ei_pure ed_str) (fun _ _ => ei_drawG hr (m := 13) ed_int (by decide) (by decide)) ?_) (fun _ _ => ei_pure (ED.is (ed_cb (ea_cons (ed_op (ed_var rfl) ed_int r2_lt) ea_nil) rc_intB) ?_)) ?_) (hrn _ (by decide)) (by simp) ?_
    · rintro a' b rfl ⟨n, rfl, hn⟩
      have hn : n < 13 := by omega
      have hg : ∃ x, (" 059-|ensw\nhx" : Str).cps.toList[n]? = some x ∧ x < 1114112 := by
        rw [sgn13]
        have hl : n < ([32, 48, 53, 57, 45, 124, 101, 110, 115, 119, 10, 104, 120] : List Nat).length := hn
        refine ⟨_, List.getElem?_eq_getElem hl, ?_⟩
        have : ∀ x ∈ ([32, 48, 53, 57, 45, 124, 101, 110, 115, 119, 10, 104, 120] : List Nat), x < 1114112 := by decide
        exact this _ (List.getElem_mem _)
      obtain ⟨x, hx, hx2⟩ := hg
      exact ⟨_, r2_ixS (by decide +kernel) (atI_nat hx), x, rfl, hx2⟩
    · have e : decide ((w : Int) < 2) = decide (w < 2) := decide_eq_decide.mpr (by omega)
      rw [e]
    · rintro a' b ⟨x, rfl, hx⟩ rfl
      refine ⟨_, r2_mulS, ?_⟩
      cases decide (w < 2) with
      | true => exact ⟨[x], rfl, fun y hy => by rw [List.mem_singleton.mp hy]; exact hx, Nat.le_refl 1⟩
      | false => exact ⟨[], rfl, (fun y hy => nomatch hy), Nat.zero_le _⟩
    rintro d ⟨s, rfl, hs, hs1⟩ σ B H o
    have o : Iv c _ σ B H [none, some (.str (St' t)), some (.int (a : Nat)), some (.int (w : Nat)), some (.str (St' s)), none, none, none] [] := o
    try dsimp only
    refine go_ret (P := (· = .str (St' (t.take a ++ s ++ t.drop (a + (if decide (w > 0) then 1 else 0)))))) o (ei_pure ?_) fun v d B' H' o' dv e => ?_
    · have h1 : ED (tSl (rSlX K) (tVar 1) tNoPart (tPart (tVar 2))) [none, some (.str (St' t)), some (.int (a : Nat)), some (.int (w : Nat)), some (.str (St' s)), none, none, none] (.str (St' (t.take a))) := by
        refine ED.is (ed_slS (ed_var rfl) eo_none (eo_some (ed_var rfl)) (by rw [st_len]; omega)) ?_
        rw [cutS_take _ _ (by omega)]
      have h2 : ED (tSl (rSlX K) (tVar 1) (tPart (tOp (rAddX K) (tVar 2) (tCB rIntX (tCons (tOp rGtI (tVar 3) (tC (.int 0))) tNil)))) tNoPart) [none, some (.str (St' t)), some (.int (a : Nat)), some (.int (w : Nat)), some (.str (St' s)), none, none, none] (.str (St' (t.drop (a + (if decide (w > 0) then 1 else 0))))) := by
        refine ED.is (ed_slS (ed_var rfl) (eo_some (i := ((a + (if decide (w > 0) then 1 else 0) : Nat) : Int)) (ED.is (ed_op (ed_var rfl) (ed_cb (ea_cons (ed_op (ed_var rfl) ed_int r2_gt) ea_nil) rc_intB) r2_addI) ?_)) eo_none (by rw [st_len]; omega)) ?_
        · have e : decide ((w : Int) > 0) = decide (w > 0) := decide_eq_decide.mpr (by omega)
          rw [e]
          cases decide (w > 0) <;> simp
        · rw [cutS_drop]
      exact ed_addS (ed_addS h1 (ed_var rfl) (by rw [List.length_take]; omega)) h2 (by simp only [List.length_append, List.length_take, List.length_drop]; omega)
    · subst e
      refine qq _ (fun x hx => ?_) ?_ _ _ v B' H' _ _ o' dv
      · rcases List.mem_append.mp hx with hx | hx
        · rcases List.mem_append.mp hx with hx | hx
          · exact hc x (List.mem_of_mem_take hx)
          · exact hs x hx
        · exact hc x (List.mem_of_mem_drop hx)
      · simp only [List.length_append, List.length_take, List.length_drop]
        omega
  · -- lines
    show tSeq _ _ _ _ _
    refine go_seq ?_
    refine go_asg (P := (· = .list ((cut 10 t).map wordD))) o (ei_pure (cut_split' nl10 (ed_var rfl) (by omega))) (hrn _ (by decide)) (by simp) ?_
    rintro d rfl σ B H o
    have o : Iv c _ σ B H [none, some (.str (St' t)), some (.int (a : Nat)), some (.int (w : Nat)), none, some (.list ((cut 10 t).map wordD)), none, none] [] := o
    try dsimp only
    have hcnt := cut_count 10 t
    have hpos : 0 < (cut 10 t).length := List.length_pos_iff.mpr (cut_ne 10 t)
    have hw0 := wgt_cut 10 t
    have hch : ∀ l ∈ cut 10 t, Chs l := fun l hl => chs_cut hc hl
    refine go_seq ?_
    have hlen : ED (tCB (rLenX K) (tCons (tVar 5) tNil)) [none, some (.str (St' t)), some (.int (a : Nat)), some (.int (w : Nat)), none, some (.list ((cut 10 t).map wordD)), none, none] (.int ((cut 10 t).length : Nat)) := by
      refine ED.is (ed_cb (ea_cons (ed_var (d := .list ((cut 10 t).map wordD)) rfl) ea_nil) rc_lenL) ?_
      rw [List.length_map]
    refine go_asg o (ei_drawG hr hlen (by omega) (by omega)) (hrn _ (by decide)) (by simp) ?_
    rintro d ⟨k, rfl, hk⟩ σ B H o
    have hk : k < (cut 10 t).length := by omega
    have o : Iv c _ σ B H [none, some (.str (St' t)), some (.int (a : Nat)), some (.int (w : Nat)), none, some (.list ((cut 10 t).map wordD)), some (.int (k : Nat)), none] [] := o
    try dsimp only
    generalize cut 10 t = L at hcnt hpos hw0 hch hk o
    have hsplit := wgt_split L k
    have slT : ∀ {x : Option PyData}, ED (tSl (rSlX K) (tVar 5) tNoPart (tPart (tVar 6))) [none, some (.str (St' t)), some (.int (a : Nat)), some (.int (w : Nat)), none, some (.list (L.map wordD)), some (.int (k : Nat)), x] (.list ((L.take k).map wordD)) := by
      intro x
      refine ED.is (ed_slL (ds := L.map wordD) (ed_var rfl) eo_none (eo_some (ed_var rfl))) ?_
      rw [cut_take _ _ (by rw [List.length_map]; omega), List.map_take]
    have slD : ∀ {x : Option PyData}, ED (tSl (rSlX K) (tVar 5) (tPart (tVar 6)) tNoPart) [none, some (.str (St' t)), some (.int (a : Nat)), some (.int (w : Nat)), none, some (.list (L.map wordD)), some (.int (k : Nat)), x] (.list ((L.drop k).map wordD)) := by
      intro x
      refine ED.is (ed_slL (ds := L.map wordD) (ed_var rfl) (eo_some (ed_var rfl)) eo_none) ?_
      rw [cut_dropG, List.map_drop]
    have lenL := wgt_len L
    refine go_seq ?_
    refine go_if (P := (· = decide (w = 5))) o (ti_pure (ET.is (et_test (ed_op (ed_var rfl) ed_int (r2_eq (sh_int _) (sh_int _)))) (by rw [eqv_int]; exact decide_eq_decide.mpr (by omega)))) (fun hb B H o => ?_) (fun hb B H o => ?_)
    · -- an odd row put in
      refine go_seq ?_
      refine go_asg (P := (· = .list (oddL.map wordD))) o (ei_pure ed_odds) (hrn _ (by decide)) (by simp) ?_
      rintro d rfl σ B H o
      have o : Iv c _ σ B H [none, some (.str (St' t)), some (.int (a : Nat)), some (.int (w : Nat)), none, some (.list (L.map wordD)), some (.int (k : Nat)), some (.list (oddL.map wordD))] [] := o
      try dsimp only
      refine go_seq ?_
      refine go_asg (P := (· = .list ((oddL ++ oddM).map wordD))) o (ei_pure (ED.is (ed_op (ed_var rfl) ed_oddm (r2_catL (by simp [oddL, oddM]))) (by rw [List.map_append]))) (hrn _ (by decide)) (by simp) ?_
      rintro d rfl σ B H o
      have o : Iv c _ σ B H [none, some (.str (St' t)), some (.int (a : Nat)), some (.int (w : Nat)), none, some (.list (L.map wordD)), some (.int (k : Nat)), some (.list ((oddL ++ oddM).map wordD))] [] := o
      try dsimp only
      refine go_ret o (ei_joinW (PL := fun M => ∃ x ∈ oddL ++ oddM, M = L.take k ++ [x] ++ L.drop k) (ei_op (Pa := fun d => ∃ x ∈ oddL ++ oddM, d = .list ((L.take k ++ [x]).map wordD)) (Pb := fun _ d => d = .list ((L.drop k).map wordD)) (ei_op (Pa := (· = .list ((L.take k).map wordD))) (Pb := fun _ d => ∃ x, d = .list [x] ∧ ∃ y ∈ oddL ++ oddM, x = wordD y) (ei_pure slT) (fun _ _ => ei_lst1 (ei_op (Pa := (· = .list ((oddL ++ oddM).map wordD))) (ei_pure (ed_var rfl)) (fun _ _ => ei_drawG hr (m := 10) ed_int (by decide) (by decide)) ?_)) ?_) (fun _ _ => ei_pure slD) ?_) ?_) ?_
      · rintro a' b rfl ⟨n, rfl, hn⟩
        have hn : n < (oddL ++ oddM).length := by
          have : (oddL ++ oddM).length = 10 := rfl
          omega
        exact ⟨_, r2_ixL (atI_nat (by rw [List.getElem?_map, List.getElem?_eq_getElem hn]; rfl)), _, List.getElem_mem hn, rfl⟩
      · rintro a' b rfl ⟨x, rfl, y, hy, rfl⟩
        refine ⟨_, r2_catL (by rw [List.length_map, List.length_take]; show min k L.length + 1 ≤ _; omega), y, hy, ?_⟩
        rw [List.map_append]
        rfl
      · rintro a' b ⟨x, hx, rfl⟩ rfl
        refine ⟨_, r2_catL (by simp only [List.length_map, List.length_append, List.length_take, List.length_drop, List.length_cons, List.length_nil]; omega), L.take k ++ [x] ++ L.drop k, ?_, x, hx, rfl⟩
        rw [← List.map_append]
      · rintro M ⟨x, hx, rfl⟩
        have := (odd_ok x hx).2
        rw [wgt_app, wgt_app, wgt_one]
        omega
      · rintro v d B' H' o' dv ⟨M, rfl, x, hx, rfl⟩
        have hx2 := odd_ok x hx
        refine qq _ (gl_chs fun l hl => ?_) ?_ _ _ v B' H' _ _ o' dv
        · rcases List.mem_append.mp hl with hl | hl
          · rcases List.mem_append.mp hl with hl | hl
            · exact hch l (List.mem_of_mem_take hl)
            · rw [List.mem_singleton.mp hl]
              exact hx2.1
          · exact hch l (List.mem_of_mem_drop hl)
        · have := gl_wgt 10 (L.take k ++ [x] ++ L.drop k)
          rw [wgt_app, wgt_app, wgt_one] at this
          omega
    · -- a row left out, or told twice
      have sl1 : ED (tSl (rSlX K) (tVar 5) (tPart (tVar 6)) (tPart (tOp (rAddX K) (tVar 6) (tC (.int 1))))) [none, some (.str (St' t)), some (.int (a : Nat)), some (.int (w : Nat)), none, some (.list (L.map wordD)), some (.int (k : Nat)), none] (.list (((L.drop k).take 1).map wordD)) := by
        refine ED.is (ed_slL (ds := L.map wordD) (ed_var rfl) (eo_some (ed_var rfl)) (eo_some (i := ((k + 1 : Nat) : Int)) (ED.is (ed_op (ed_var rfl) ed_int r2_addI) rfl))) ?_
        rw [cut_one _ _ (by rw [List.length_map]; omega), List.map_take, List.map_drop]
      have slR : ED (tSl (rSlX K) (tVar 5) (tPart (tOp (rAddX K) (tOp (rAddX K) (tVar 6) (tC (.int 1))) (tOp rModI (tVar 3) (tC (.int 2))))) tNoPart) [none, some (.str (St' t)), some (.int (a : Nat)), some (.int (w : Nat)), none, some (.list (L.map wordD)), some (.int (k : Nat)), none] (.list ((L.drop (k + (1 + w % 2))).map wordD)) := by
        refine ED.is (ed_slL (ds := L.map wordD) (ed_var rfl) (eo_some (i := ((k + (1 + w % 2) : Nat) : Int)) (ED.is (ed_op (ed_op (ed_var rfl) ed_int r2_addI) (ed_op (ed_var rfl) ed_int (r2_mod (by decide))) r2_addI) ?_)) eo_none) ?_
        · refine congrArg PyData.int ?_
          omega
        · rw [cut_dropG, List.map_drop]
      refine go_ret o (ei_joinW (PL := fun M => ∃ b : Nat, b ≤ 2 ∧ M = L.take k ++ (List.replicate b ((L.drop k).take 1)).flatten ++ L.drop (k + (1 + w % 2))) (ei_op (Pa := fun d => ∃ b : Nat, b ≤ 2 ∧ d = .list ((L.take k ++ (List.replicate b ((L.drop k).take 1)).flatten).map wordD)) (Pb := fun _ d => d = .list ((L.drop (k + (1 + w % 2))).map wordD)) (ei_op (Pa := (· = .list ((L.take k).map wordD))) (Pb := fun _ d => ∃ b : Nat, b ≤ 2 ∧ d = .list ((List.replicate b ((L.drop k).take 1)).flatten.map wordD)) (ei_pure slT) (fun _ _ => ei_op (Pa := (· = .list (((L.drop k).take 1).map wordD))) (Pb := fun _ d => ∃ b : Nat, b ≤ 2 ∧ d = .int (b : Nat)) (ei_pure sl1) (fun _ _ => ei_op (Pa := (· = .int 2)) (ei_pure ed_int) (fun _ _ => ei_drawG hr (m := 2) ed_int (by decide) (by decide)) ?_) ?_) ?_) (fun _ _ => ei_pure slR) ?_) ?_) ?_
      · rintro a' b rfl ⟨n, rfl, hn⟩
        exact ⟨_, r2_mulI (.inl (by decide)), 2 * n, by omega, congrArg PyData.int (by omega)⟩
      · rintro a' b rfl ⟨n, hn, rfl⟩
        refine ⟨_, r2_rep (by omega) (by omega) (by rw [List.length_map, List.length_take]; omega), n, hn, ?_⟩
        rw [Int.toNat_natCast, List.map_flatten, List.map_replicate]
      · rintro a' b rfl ⟨n, hn, rfl⟩
        refine ⟨_, r2_catL ?_, n, hn, by rw [List.map_append]⟩
        have h1 : (List.replicate n ((L.drop k).take 1)).flatten.length ≤ n * 1 := by
          rw [List.length_flatten, List.map_replicate, List.sum_replicate_nat]
          exact Nat.mul_le_mul_left _ (by rw [List.length_take]; omega)
        simp only [List.length_map, List.length_take]
        omega
      · rintro a' b ⟨n, hn, rfl⟩ rfl
        have h1 : (List.replicate n ((L.drop k).take 1)).flatten.length ≤ n * 1 := by
          rw [List.length_flatten, List.map_replicate, List.sum_replicate_nat]
          exact Nat.mul_le_mul_left _ (by rw [List.length_take]; omega)
        refine ⟨_, r2_catL (by simp only [List.length_map, List.length_append, List.length_take, List.length_drop]; omega), _, ?_, n, hn, rfl⟩
        rw [← List.map_append]
      all_goals
        have wrep : ∀ n : Nat, wgt (List.replicate n ((L.drop k).take 1)).flatten = n * wgt ((L.drop k).take 1) := fun n => by
          induction n with
          | zero => simp [wgt]
          | succ n ih => rw [List.replicate_succ, List.flatten_cons, wgt_app, ih, Nat.succ_mul, Nat.add_comm]
        have h1 := wgt_split (L.drop k) 1
        rw [List.drop_drop] at h1
        have h2 := wgt_drop L (k + 1) (w % 2)
        rw [show k + 1 + w % 2 = k + (1 + w % 2) by omega] at h2
      · rintro M ⟨n, hn, rfl⟩
        have h3 := wrep n
        have h4 : n * wgt ((L.drop k).take 1) ≤ 2 * wgt ((L.drop k).take 1) := Nat.mul_le_mul_right _ hn
        rw [wgt_app, wgt_app, h3]
        omega
      · rintro v d B' H' o' dv ⟨M, rfl, n, hn, rfl⟩
        refine qq _ (gl_chs fun l hl => ?_) ?_ _ _ v B' H' _ _ o' dv
        · rcases List.mem_append.mp hl with hl | hl
          · rcases List.mem_append.mp hl with hl | hl
            · exact hch l (List.mem_of_mem_take hl)
            · obtain ⟨X, hX, hl⟩ := List.mem_flatten.mp hl
              rw [List.eq_of_mem_replicate hX] at hl
              exact hch l (List.mem_of_mem_drop (List.mem_of_mem_take hl))
          · exact hch l (List.mem_of_mem_drop hl)
        · have h0 := gl_wgt 10 (L.take k ++ (List.replicate n ((L.drop k).take 1)).flatten ++ L.drop (k + (1 + w % 2)))
          have h3 := wrep n
          have h4 : n * wgt ((L.drop k).take 1) ≤ 2 * wgt ((L.drop k).take 1) := Nat.mul_le_mul_right _ hn
          rw [wgt_app, wgt_app, h3] at h0
          omega
end
end Pd

/-! WordE -/
set_option Elab.async false
set_option linter.all false
set_option maxRecDepth 100000
set_option maxHeartbeats 4000000
/-! what a suite asks of a caught exception of an own class that has fields; list.count of data -/
namespace Pd
open PySem PySem.Spec PyProof.Rows L2
def rCountD (K : PySem.W.Frag) : V → List V → Hp → VK → Prop := fun x xs H Q => ∃ (a : Addr) (y : V) (d : PyData) (ds : List PyData), x = V.ref a ∧ xs = [y] ∧ Dp K H (V.ref a) (.list ds) ∧ Dp K H y d ∧
  SeqAt.shaped (.list ds) = true ∧ SeqAt.shaped d = true ∧ Q (.int (ds.countP fun z => PyData.eqv z d : Nat)) H
theorem mt_countD {X : Cx} (hu : X.A.units + 65 < cLine) : MtR X "list.count" (rCountD X.K) := by
  intro pins s σ H x xs v us Q I rx rxs h
  obtain ⟨a, y, d, ds, rfl, rfl, hl, hy, sl, sd, q⟩ := h
  cases rx
  cases rxs with
  | cons ry rt =>
    rename_i uy ut
    cases rt
    obtain ⟨bs, r1⟩ := Dp.reads I d y uy hy ry
    have hxs : PyData.canLayAll0 ds = true := SeqAt.canLay_of_shaped sl
    have hroom : X.A.units + 1 + min (PyData.depthAll ds) d.depth < cLine := room_in_shaped sd hu
    cases hl with
    | lst hs ha =>
      obtain ⟨its, rv, ⟨⟨cls, dd, data, sls⟩, n, ho, hc, hdn, hdt⟩, hlen⟩ := I.list hs
      simp only at hc hdt
      subst hc hdt
      obtain ⟨as, h4⟩ := Dp.readsAll I ds _ its ha rv
      have hmap : its.map (SeqAt.readOf s.heap) = ds := SeqAt.readsAll_map ds its as hxs h4
      refine call_meets PySem.F.slot_list_count ⟨_, ho, rfl⟩ PySem.F.entry_list_count (PySem.F.args_list_count_2 _ _)
        (SeqAt.list_countAt a its.toArray n dd sls uy (fun u => PyData.eqv (SeqAt.readOf s.heap u) d)) ⟨ho, SeqAt.items_eqAt (vs := its.toArray) (show ReadsAll s.heap its.toArray.toList ds as from h4) r1 hxs (SeqAt.canLay_of_shaped sd) hroom, ?_⟩
      have e : its.toArray.toList.countP (fun u => PyData.eqv (SeqAt.readOf s.heap u) d) = ds.countP fun z => PyData.eqv z d := by
        rw [← hmap, List.countP_map]
        rfl
      refine ⟨.int (ds.countP fun z => PyData.eqv z d : Nat), H, I.tok _, ⟨s.toks, ?_⟩, q⟩
      show Value.int ((its.toArray.toList.countP (fun u => PyData.eqv (SeqAt.readOf s.heap u) d) : Nat) : Int) s.toks = _
      rw [e]
/-- isinstance(e, c), e the exception that the suite holds, of the class at D, its dict at dd -/
def rIsED (K : PySem.W.Frag) (D a dd : Addr) : List V → Hp → VK → Prop := fun xs H Q => ∃ (c : V) (cv : Value) (b : Bool) (fs : List (Str × V)), xs = [.ref a, c] ∧ (∀ u, RelV c u → u = cv) ∧ PySem.W.kitOne K (.ref D) cv = some b ∧ H dd = some (.xd fs) ∧ Q (.bl b) H
theorem call_isED {X : Cx} {a D dd : Addr} {oe : Obj} {cls : Value} {d : Option Addr} {pn : List (Addr × Obj)} (C : ExcC X.K D) (hz : Zc cls d oe) (hcls : cls = .ref D) (hdd : d = some dd) (hf : ∃ vs, oe.data = .fields vs) : CallR (X.suite a ((a, oe) :: pn)) (.builtin "isinstance") (rIsED X.K D a dd) := by
  intro pins s σ H xs us Q I r h
  obtain ⟨c, cv, b, fs, rfl, hcv, e, hd, q⟩ := h
  subst hcls
  subst hdd
  cases r with
  | cons rx rr =>
    cases rr with
    | cons rt rr =>
      cases rr
      cases rx
      have ec := hcv _ rt
      subst ec
      obtain ⟨hget, _⟩ := I.pin (a, oe) (List.mem_append.mpr (.inl List.mem_cons_self))
      obtain ⟨vs, hv⟩ := hf
      have hx : ObjOk X.prog X.w H s.heap dd (.xd fs) := I.hok dd _ hd
      obtain ⟨mA, hns, hr⟩ := hx
      obtain ⟨od, ho, hl⟩ := lookIn_ns hns
      have J : PySem.W.InstAt s.heap a oe D (some od) := ⟨hget, hz.1, by unfold PySem.W.notCls; rw [hv] <;> rfl, by rw [hz.2]; exact ho⟩
      have hcl : (PySem.W.clsIn X.K D).isSome = true := by
        obtain ⟨cd, hc, _⟩ := PySem.W.any_some C.hd
        rw [hc]
        rfl
      exact PySem.W.kia_one (PySem.W.kitx_exc hcl C.hg C.hk C.hs C.ha C.hn C.ht C.hm) I.kIn J e (fun z => nomatch z) fun tk => ⟨.bl b, H, I.kept (t' := tk) fun _ _ z => z, rfl, q⟩
def rIsEx (K : PySem.W.Frag) (D a : Addr) (cls : Value) (d : Option Addr) : List V → Hp → VK → Prop := fun xs H Q => cls = .ref D ∧ ∃ dd, d = some dd ∧ rIsED K D a dd xs H Q
theorem call_isEx {X : Cx} {a D : Addr} {oe : Obj} {cls : Value} {d : Option Addr} {pn : List (Addr × Obj)} (C : ExcC X.K D) (hz : Zc cls d oe) (hf : ∃ vs, oe.data = .fields vs) : CallR (X.suite a ((a, oe) :: pn)) (.builtin "isinstance") (rIsEx X.K D a cls d) := by
  intro pins s σ H xs us Q I r h
  obtain ⟨hc, dd, hd, h⟩ := h
  exact call_isED C hz hc hd hf pins s σ H xs us Q I r h
end Pd

/-! RdW -/
set_option Elab.async false
set_option linter.all false
set_option maxRecDepth 100000
set_option maxHeartbeats 4000000
namespace Pd
open PySem PySem.Spec PyProof.Rows L2
structure WordS (K : PySem.W.Frag) (mg : Str → Option Value) (C CH : Addr) (cA : Str → Addr) : Prop where
  xc : ExcC K C
  xf : XfC K C
  hall : mg "HallError" = some (.ref CH)
  b_ValueError : mg "ValueError" = none
  n_done : PySem.W.findIn K (.ref C) "done" = some none
  n_number : PySem.W.findIn K (.ref C) "number" = some none
  n_part : PySem.W.findIn K (.ref C) "part" = some none
  n_row : PySem.W.findIn K (.ref C) "row" = some none
  c_BadCells : mg "BadCells" = some (.ref (cA "BadCells"))
  c_BadCount : mg "BadCount" = some (.ref (cA "BadCount"))
  c_BadGoal : mg "BadGoal" = some (.ref (cA "BadGoal"))
  c_BadHall : mg "BadHall" = some (.ref (cA "BadHall"))
  c_BadName : mg "BadName" = some (.ref (cA "BadName"))
  c_BadPaper : mg "BadPaper" = some (.ref (cA "BadPaper"))
  c_BadStep : mg "BadStep" = some (.ref (cA "BadStep"))
  c_BadText : mg "BadText" = some (.ref (cA "BadText"))
  c_Halted : mg "Halted" = some (.ref (cA "Halted"))
  c_Meets : mg "Meets" = some (.ref (cA "Meets"))
  c_NoPoint : mg "NoPoint" = some (.ref (cA "NoPoint"))
  c_TooMany : mg "TooMany" = some (.ref (cA "TooMany"))
def rd_L_word_suite (K : PySem.W.Frag) (C : Addr) (cA : Str → Addr) (a : Addr) (cls : Value) (d : Option Addr) : TS := (tSeq (tAsg (tLst (tCons (tCB (rIsEx K C a cls d) (tCons (tVar 1) (tCons (tC (.ref (cA "BadCells"))) tNil))) (tCons (tCB (rIsEx K C a cls d) (tCons (tVar 1) (tCons (tC (.ref (cA "BadGoal"))) tNil))) (tCons (tCB (rIsEx K C a cls d) (tCons (tVar 1) (tCons (tC (.ref (cA "BadStep"))) tNil))) (tCons (tCB (rIsEx K C a cls d) (tCons (tVar 1) (tCons (tC (.ref (cA "BadPaper"))) tNil))) tNil))))) (gName 2)) (tSeq (tAsg (tOp (rAddX K) (tVar 2) (tLst (tCons (tCB (rIsEx K C a cls d) (tCons (tVar 1) (tCons (tC (.ref (cA "BadHall"))) tNil))) (tCons (tCB (rIsEx K C a cls d) (tCons (tVar 1) (tCons (tC (.ref (cA "Halted"))) tNil))) (tCons (tCB (rIsEx K C a cls d) (tCons (tVar 1) (tCons (tC (.ref (cA "BadText"))) tNil))) tNil))))) (gName 2)) (tSeq (tAsg (tOp (rAddX K) (tVar 2) (tLst (tCons (tCB (rIsEx K C a cls d) (tCons (tVar 1) (tCons (tC (.ref (cA "BadCount"))) tNil))) (tCons (tCB (rIsEx K C a cls d) (tCons (tVar 1) (tCons (tC (.ref (cA "TooMany"))) tNil))) (tCons (tCB (rIsEx K C a cls d) (tCons (tVar 1) (tCons (tC (.ref (cA "Meets"))) tNil))) tNil))))) (gName 2)) (tSeq (tAsg (tOp (rAddX K) (tVar 2) (tLst (tCons (tCB (rIsEx K C a cls d) (tCons (tVar 1) (tCons (tC (.ref (cA "BadName"))) tNil))) (tCons (tCB (rIsEx K C a cls d) (tCons (tVar 1) (tCons (tC (.ref (cA "NoPoint"))) tNil))) tNil)))) (gName 2)) (tSeq (tIfS (tOr (tTest (tOp (rNeD K) (tBM K "list" (rCountD K) (tVar 2) (tCons (tC (.bl true)) tNil)) (tC (.int 1)))) (tNot (tB (tCB (rIsEx K C a cls d) (tCons (tVar 1) (tCons (tC (.ty "ValueError")) tNil)))))) (tRet (tTup (tCons (tC (.str "other")) tNil))) tNext) (tSeq (tAsg (tBM K "list" (rIndexD K) (tVar 2) (tCons (tC (.bl true)) tNil)) (gName 3)) (tSeq (tIfS (tTest (tOp rLtI (tVar 3) (tC (.int 4)))) (tRet (tTup (tCons (tOp (rIx K) (tLst (tCons (tC (.str "cells")) (tCons (tC (.str "goal")) (tCons (tC (.str "step")) (tCons (tC (.str "paper")) tNil))))) (tVar 3)) (tCons (tXf a cls d C "number" (tVar 1)) tNil)))) tNext) (tSeq (tIfS (tTest (tOp (rEqD K) (tVar 3) (tC (.int 4)))) (tRet (tTup (tCons (tC (.str "hall")) (tCons (tXf a cls d C "part" (tVar 1)) (tCons (tXf a cls d C "number" (tVar 1)) tNil))))) tNext) (tSeq (tIfS (tTest (tOp rLtI (tVar 3) (tC (.int 7)))) (tRet (tIf (tTest (tOp (rEqD K) (tVar 3) (tC (.int 5)))) (tTup (tCons (tC (.str "halted")) (tCons (tXf a cls d C "number" (tVar 1)) (tCons (tXf a cls d C "done" (tVar 1)) tNil)))) (tTup (tCons (tC (.str "text")) (tCons (tXf a cls d C "row" (tVar 1)) tNil))))) tNext) (tRet (tTup (tCons (tOp (rIx K) (tLst (tCons (tC (.str "count")) (tCons (tC (.str "many")) (tCons (tC (.str "meets")) (tCons (tC (.str "name")) (tCons (tC (.str "point")) tNil)))))) (tOp rSubI (tVar 3) (tC (.int 7)))) tNil))))))))))))
end Pd

/-! BW17 -/
set_option Elab.async false
set_option linter.all false
set_option maxRecDepth 100000
set_option maxHeartbeats 4000000
namespace Pd
open PySem PySem.Spec PyProof.Rows L2
abbrev s_L_word : Stmt := topS 53
abbrev n_L_word : List Str := ["_law_work", "e", "_law_kinds", "_law_at"]
abbrev p_L_word : List Str := ["_law_work"]
theorem sc_L_word : FnScope n_L_word p_L_word (defScope s_L_word) := ⟨rfl, rfl, rfl, by decide +kernel, rfl, by decide +kernel, by decide +kernel⟩
def suiteB : List Stmt → List Stmt
  | .Try _ [.ExceptHandler _ _ b _] _ _ _ :: _ => b
  | _ => []
theorem bd_L_word_suite {P : Program} {w : World} {K : PySem.W.Frag} {mg : Str → Option Value} {base : Heap} {f : Addr} {cdv : Value} {A : Around} {outer : List Env} {s : Shared} {H : Hp} {E : XK} {aWAYS aKINDS aSIGNS C CH a : Addr} {cA : Str → Addr} {oe : Obj} {cls : Value} {d : Option Addr} {pn : List (Addr × Obj)} (T : Txt K mg w aWAYS aKINDS aSIGNS) (W : WordS K mg C CH cA) (hr : Room 0 (A.deeper (envOfC "_law_word" (defScope s_L_word) s.heap.objs.size f cdv))) (hz : Zc cls d oe) (hf : ∃ vs, oe.data = .fields vs) :
    PSs ((cxOf CX0 P w K mg base n_L_word "_law_word" (defScope s_L_word) f cdv A outer s H E).nox.suite a ((a, oe) :: pn)) (suiteB (defBody s_L_word)) (rd_L_word_suite K C cA a cls d) := by
  have nd : n_L_word.Nodup := sc_L_word.nd
  have hu := hu65 hr
  exact (pss_cons (ps_set (i := 2) nd rfl (Or.inl rfl) (pe_lst (pa_cons (pe_callB (call_isEx W.xc hz hf) (by rfl) T.b_isinstance (by decide +kernel) (pa_cons (pv 1) (pa_cons (pe_glob (by rfl) W.c_BadCells rfl) pa_nil))) (pa_cons (pe_callB (call_isEx W.xc hz hf) (by rfl) T.b_isinstance (by decide +kernel) (pa_cons (pv 1) (pa_cons (pe_glob (by rfl) W.c_BadGoal rfl) pa_nil))) (pa_cons (pe_callB (call_isEx W.xc hz hf) (by rfl) T.b_isinstance (by decide +kernel) (pa_cons (pv 1) (pa_cons (pe_glob (by rfl) W.c_BadStep rfl) pa_nil))) (pa_cons (pe_callB (call_isEx W.xc hz hf) (by rfl) T.b_isinstance (by decide +kernel) (pa_cons (pv 1) (pa_cons (pe_glob (by rfl) W.c_BadPaper rfl) pa_nil))) pa_nil)))))) (pss_cons (ps_set (i := 2) nd rfl (Or.inl rfl) (pe_op op_addX (pv 2) (pe_lst (pa_cons (pe_callB (call_isEx W.xc hz hf) (by rfl) T.b_isinstance (by decide +kernel) (pa_cons (pv 1) (pa_cons (pe_glob (by rfl) W.c_BadHall rfl) pa_nil))) (pa_cons (pe_callB (call_isEx W.xc hz hf) (by rfl) T.b_isinstance (by decide +kernel) (pa_cons (pv 1) (pa_cons (pe_glob (by rfl) W.c_Halted rfl) pa_nil))) (pa_cons (pe_callB (call_isEx W.xc hz hf) (by rfl) T.b_isinstance (by decide +kernel) (pa_cons (pv 1) (pa_cons (pe_glob (by rfl) W.c_BadText rfl) pa_nil))) pa_nil)))))) (pss_cons (ps_set (i := 2) nd rfl (Or.inl rfl) (pe_op op_addX (pv 2) (pe_lst (pa_cons (pe_callB (call_isEx W.xc hz hf) (by rfl) T.b_isinstance (by decide +kernel) (pa_cons (pv 1) (pa_cons (pe_glob (by rfl) W.c_BadCount rfl) pa_nil))) (pa_cons (pe_callB (call_isEx W.xc hz hf) (by rfl) T.b_isinstance (by decide +kernel) (pa_cons (pv 1) (pa_cons (pe_glob (by rfl) W.c_TooMany rfl) pa_nil))) (pa_cons (pe_callB (call_isEx W.xc hz hf) (by rfl) T.b_isinstance (by decide +kernel) (pa_cons (pv 1) (pa_cons (pe_glob (by rfl) W.c_Meets rfl) pa_nil))) pa_nil)))))) (pss_cons (ps_set (i := 2) nd rfl (Or.inl rfl) (pe_op op_addX (pv 2) (pe_lst (pa_cons (pe_callB (call_isEx W.xc hz hf) (by rfl) T.b_isinstance (by decide +kernel) (pa_cons (pv 1) (pa_cons (pe_glob (by rfl) W.c_BadName rfl) pa_nil))) (pa_cons (pe_callB (call_isEx W.xc hz hf) (by rfl) T.b_isinstance (by decide +kernel) (pa_cons (pv 1) (pa_cons (pe_glob (by rfl) W.c_NoPoint rfl) pa_nil))) pa_nil))))) (pss_cons (ps_if (PW.pt (pw_or (pt_cmpR (op_neD hr.units) (pe_bm PySem.F.plainAttrs_list PySem.F.slot_list_count PySem.F.type_list_count (mt_countD hu) (pv 2) (pa_cons pe_bl pa_nil)) pe_int (nomark _)) (pw_or1 (pt_not (pt_val (pe_callB (call_isEx W.xc hz hf) (by rfl) T.b_isinstance (by decide +kernel) (pa_cons (pv 1) (pa_cons (pe_bltn (v := .ty "ValueError") (by rfl) W.b_ValueError (by decide +kernel) rfl) pa_nil)))))))) (pss_one (ps_ret (pe_tup (pa_cons pe_str pa_nil)))) pss_nil) (pss_cons (ps_set (i := 3) nd rfl (Or.inl rfl) (pe_bm PySem.F.plainAttrs_list PySem.F.slot_list_index PySem.F.type_list_index (mt_indexD hu) (pv 2) (pa_cons pe_bl pa_nil))) (pss_cons (ps_if (pt_cmpR op_lt (pv 3) pe_int (nomark _)) (pss_one (ps_ret (pe_tup (pa_cons (pe_ix ix_seq (pe_lst (pa_cons pe_str (pa_cons pe_str (pa_cons pe_str (pa_cons pe_str pa_nil))))) (pv 3) (fun _ _ => rfl)) (pa_cons (pe_xf W.xf W.n_number hz hf (pv 1)) pa_nil))))) pss_nil) (pss_cons (ps_if (pt_cmpR (op_eqD hr.units) (pv 3) pe_int (nomark _)) (pss_one (ps_ret (pe_tup (pa_cons pe_str (pa_cons (pe_xf W.xf W.n_part hz hf (pv 1)) (pa_cons (pe_xf W.xf W.n_number hz hf (pv 1)) pa_nil)))))) pss_nil) (pss_cons (ps_if (pt_cmpR op_lt (pv 3) pe_int (nomark _)) (pss_one (ps_ret (pe_ifExp (pt_cmpR (op_eqD hr.units) (pv 3) pe_int (nomark _)) (pe_tup (pa_cons pe_str (pa_cons (pe_xf W.xf W.n_number hz hf (pv 1)) (pa_cons (pe_xf W.xf W.n_done hz hf (pv 1)) pa_nil)))) (pe_tup (pa_cons pe_str (pa_cons (pe_xf W.xf W.n_row hz hf (pv 1)) pa_nil)))))) pss_nil) (pss_one (ps_ret (pe_tup (pa_cons (pe_ix ix_seq (pe_lst (pa_cons pe_str (pa_cons pe_str (pa_cons pe_str (pa_cons pe_str (pa_cons pe_str pa_nil)))))) (pe_op op_sub (pv 3) pe_int) (fun _ _ => rfl)) pa_nil)))))))))))))

end Pd

/-! WordX -/
set_option Elab.async false
set_option linter.all false
set_option maxRecDepth 100000
set_option maxHeartbeats 4000000
/-! what the law's word tells of any kind of exception with fields -/
namespace Pd
open PySem PySem.Spec PyProof.Rows L2
structure Sx (ie : Nat) (a dd : Addr) (n : List (Str × V)) (σ : L2.St) (B H : Hp) (ρ : Rho) : Prop where
  t : Ex B H
  e : EnvD σ B ρ
  s : σ[ie]? = some (some (.ref a))
  d : H dd = some (.xd n)
section
variable {K : PySem.W.Frag} {ie : Nat} {a dd C : Addr} {n : List (Str × V)} {cls : Value} {dc : Option Addr} {σ : L2.St} {B H : Hp} {ρ : Rho} {te tb : TE} {tt tu : TT} {ta : TA} {z d e : PyData} {ds : List PyData}
theorem Sx.gr {B' H' : Hp} (x : Sx ie a dd n σ B H ρ) (g : Gr B H B' H') : Sx ie a dd n σ B' H' ρ := ⟨g.t, x.e.mono g.b, x.s, g.h _ _ x.d⟩
def EX (ie : Nat) (a dd : Addr) (n : List (Str × V)) (te : TE) (ρ : Rho) (z : PyData) : Prop := ∀ σ B H, Sx ie a dd n σ B H ρ → ∀ Q : VK, (∀ v B' H', Gr B H B' H' → DH B' v z → Q v H') → te σ H Q
def EXA (ie : Nat) (a dd : Addr) (n : List (Str × V)) (ta : TA) (ρ : Rho) (ds : List PyData) : Prop := ∀ σ B H, Sx ie a dd n σ B H ρ → ∀ Q : List V → Hp → Prop, (∀ vs B' H', Gr B H B' H' → DHs B' vs ds → Q vs H') → ta σ H Q
def XT (ie : Nat) (a dd : Addr) (n : List (Str × V)) (tt : TT) (ρ : Rho) (b : Bool) : Prop := ∀ σ B H, Sx ie a dd n σ B H ρ → ∀ Q : Bool → Hp → Prop, (∀ B' H', Gr B H B' H' → Q b H') → tt σ H Q
theorem ex_ed (h : ED te ρ z) : EX ie a dd n te ρ z := fun σ B H x Q q => h σ B H x.t x.e Q q
theorem ex_is {c : V} {cv : Value} {b : Bool} (h1 : cls = .ref C) (h2 : dc = some dd) (hcv : ∀ u, RelV c u → u = cv) (hk : PySem.W.kitOne K (.ref C) cv = some b) : EX ie a dd n (tCB (rIsEx K C a cls dc) (tCons (tVar ie) (tCons (tC c) tNil))) ρ (.bool b) := fun σ B H x Q q =>
  ⟨.ref a, x.s, h1, dd, h2, c, cv, b, _, rfl, hcv, hk, x.d, q _ B H (Gr.refl x.t) (.bl b)⟩
theorem ex_xf {f : Str} {i : Int} (h1 : cls = .ref C) (h2 : dc = some dd) (hf : n.lookup f = some (.int i)) : EX ie a dd n (tXf a cls dc C f (tVar ie)) ρ (.int i) := fun σ B H x Q q =>
  ⟨.ref a, x.s, rfl, h1, dd, _, .int i, h2, x.d, hf, q _ B H (Gr.refl x.t) (.int i)⟩
theorem exa_nil : EXA ie a dd n tNil ρ [] := fun σ B H x Q q => q [] B H (Gr.refl x.t) .nil
theorem exa_cons (h : EX ie a dd n te ρ z) (k : EXA ie a dd n ta ρ ds) : EXA ie a dd n (tCons te ta) ρ (z :: ds) := fun σ B H x Q q => by
  refine h σ B H x _ fun v B1 H1 g1 d1 => ?_
  refine k σ B1 H1 (x.gr g1) _ fun vs B2 H2 g2 d2 => ?_
  exact q _ B2 H2 (g1.trans g2) (.cons (d1.mono g2.b) d2)
theorem ex_lst (h : EXA ie a dd n ta ρ ds) (hl : ds.length ≤ 1000) : EX ie a dd n (tLst ta) ρ (.list ds) := fun σ B H x Q q => by
  refine h σ B H x _ fun xs B1 H1 g1 d1 => ⟨?_, fun p hp => ?_⟩
  · rw [d1.length]
    exact Nat.le_trans hl (by decide)
  · have g2 := Gr.new (o := .lst xs) g1.t hp
    exact q _ _ _ (g1.trans g2) (.lst upd_same (d1.mono g2.b))
theorem ex_tup (h : EXA ie a dd n ta ρ ds) (hl : ds.length ≤ 1000) : EX ie a dd n (tTup ta) ρ (.tuple ds) := fun σ B H x Q q => by
  refine h σ B H x _ fun xs B1 H1 g1 d1 => ⟨?_, fun p hp => ?_⟩
  · rw [d1.length]
    exact Nat.le_trans hl (by decide)
  · have g2 := Gr.new (o := .tup xs) g1.t hp
    exact q _ _ _ (g1.trans g2) (.tup upd_same (d1.mono g2.b))
theorem ex_op {rr : R2} (ha : EX ie a dd n te ρ d) (hb : EX ie a dd n tb ρ e) (hr : RD2 rr d e z) : EX ie a dd n (tOp rr te tb) ρ z := fun σ B H x Q q => by
  refine ha σ B H x _ fun v B1 H1 g1 d1 => ?_
  refine hb σ B1 H1 (x.gr g1) _ fun w B2 H2 g2 d2 => ?_
  exact hr B2 H2 v w g2.t (d1.mono g2.b) d2 Q fun u B' H' g3 d3 => q u B' H' ((g1.trans g2).trans g3) d3
theorem xt_test {b : Bool} (h : EX ie a dd n te ρ (.bool b)) : XT ie a dd n (tTest te) ρ b := fun σ B H x Q q => by
  refine h σ B H x _ fun v B1 H1 g1 d1 => ?_
  cases d1
  exact ⟨b, rfl, q B1 H1 g1⟩
theorem xt_not {b : Bool} (h : XT ie a dd n tt ρ b) : XT ie a dd n (tNot tt) ρ (!b) := fun σ B H x Q q => h σ B H x _ fun B1 H1 g1 => q B1 H1 g1
theorem xt_or {b c : Bool} (h : XT ie a dd n tt ρ b) (k : b = false → XT ie a dd n tu ρ c) : XT ie a dd n (tOr tt tu) ρ (b || c) := fun σ B H x Q q => by
  refine h σ B H x _ fun B1 H1 g1 => ?_
  cases b with
  | true => exact q B1 H1 g1
  | false => exact k rfl σ B1 H1 (x.gr g1) Q fun B' H' g3 => q B' H' (g1.trans g3)
/-- behind an assignment; B1 H1: where the suite began -/
theorem sx_asg {i : Nat} {D : Ends} {B1 H1 : Hp} (x : Sx ie a dd n σ B H ρ) (g : Gr B1 H1 B H) (h : EX ie a dd n te ρ z) (hi : i ≠ ie) (k : ∀ σ B H, Sx ie a dd n σ B H (ρ.set i (some z)) → Gr B1 H1 B H → D.nx σ H) : tAsg te (gName i) D σ H :=
  h σ B H x _ fun v B' H' g' dv => k _ B' H' ⟨g'.t, (x.e.mono g'.b).set i dv, by rw [List.getElem?_set_ne hi]; exact x.s, g'.h _ _ x.d⟩ (g.trans g')
theorem sx_if {b : Bool} {t u : TS} {D : Ends} {B1 H1 : Hp} (x : Sx ie a dd n σ B H ρ) (g : Gr B1 H1 B H) (h : XT ie a dd n tt ρ b) (h1 : b = true → ∀ B H, Sx ie a dd n σ B H ρ → Gr B1 H1 B H → t D σ H) (h2 : b = false → ∀ B H, Sx ie a dd n σ B H ρ → Gr B1 H1 B H → u D σ H) : tIfS tt t u D σ H := by
  refine h σ B H x _ fun B' H' g' => ?_
  cases b with
  | true => exact h1 rfl B' H' (x.gr g') (g.trans g')
  | false => exact h2 rfl B' H' (x.gr g') (g.trans g')
theorem ed_count {to : TE} (h : ED to ρ (.list ds)) (hd : ED te ρ d) (sl : SeqAt.shaped (.list ds) = true) (sd : SeqAt.shaped d = true) : ED (tBM K "list" (rCountD K) to (tCons te tNil)) ρ (.int (ds.countP fun z => PyData.eqv z d : Nat)) := fun σ B H ex ev Q q => by
  refine h σ B H ex ev _ fun v B1 H1 g1 d1 => ?_
  cases d1 with
  | @lst p xs _ ha hs =>
    refine ⟨.inl ⟨rfl, _, SqL.of (g1.t _ _ ha)⟩, ?_⟩
    refine hd σ B1 H1 g1.t (ev.mono g1.b) _ fun w B2 H2 g2 d2 => ?_
    exact ⟨p, w, d, ds, rfl, rfl, ((DH.lst ha hs).mono (g2.b.trans g2.t)).dp, (d2.mono g2.t).dp, sl, sd, q _ B2 H2 (g1.trans g2) (.int _)⟩
end
/-- the kinds in the law's turn -/
def KN : List Str := ["BadCells", "BadGoal", "BadStep", "BadPaper", "BadHall", "Halted", "BadText", "BadCount", "TooMany", "Meets", "BadName", "NoPoint"]
structure KindX (K : PySem.W.Frag) (C CH : Addr) (cA : Str → Addr) (i : Nat) : Prop where
  lt : i < 12
  k : ∀ (j : Nat) (x : Str), KN[j]? = some x → PySem.W.kitOne K (.ref C) (.ref (cA x)) = some (decide (j = i))
  kv : PySem.W.kitOne K (.ref C) (.type "ValueError") = some true
  ex : PySem.W.exmOne K (.ref C) (.ref CH) = some true
/-- what is told of an exception of kind i with these fields -/
inductive ToldW : Nat → List (Str × V) → PyData → Prop
  | num (i : Nat) (x : Str) (fs : List (Str × V)) (n : Int) (hi : i < 4) (hx : (["cells", "goal", "step", "paper"] : List Str)[i]? = some x) (h : fs.lookup ("number" : Str) = some (V.int n)) : ToldW i fs (.tuple [.str x, .int n])
  | hall (fs : List (Str × V)) (p n : Int) (h1 : fs.lookup ("part" : Str) = some (V.int p)) (h2 : fs.lookup ("number" : Str) = some (V.int n)) : ToldW 4 fs (.tuple [.str "hall", .int p, .int n])
  | halt (fs : List (Str × V)) (n m : Int) (h1 : fs.lookup ("number" : Str) = some (V.int n)) (h2 : fs.lookup ("done" : Str) = some (V.int m)) : ToldW 5 fs (.tuple [.str "halted", .int n, .int m])
  | text (fs : List (Str × V)) (n : Int) (h : fs.lookup ("row" : Str) = some (V.int n)) : ToldW 6 fs (.tuple [.str "text", .int n])
def bI (j i : Nat) : PyData := .bool (decide (j = i))
def kn1 (i : Nat) : List PyData := [bI 0 i, bI 1 i, bI 2 i, bI 3 i]
def kn2 (i : Nat) : List PyData := kn1 i ++ [bI 4 i, bI 5 i, bI 6 i]
def kn3 (i : Nat) : List PyData := kn2 i ++ [bI 7 i, bI 8 i, bI 9 i]
def kn4 (i : Nat) : List PyData := kn3 i ++ [bI 10 i, bI 11 i]
theorem kn4_get (i m : Nat) (hm : m < 12) : (kn4 i)[m]? = some (bI m i) := by
  have : m = 0 ∨ m = 1 ∨ m = 2 ∨ m = 3 ∨ m = 4 ∨ m = 5 ∨ m = 6 ∨ m = 7 ∨ m = 8 ∨ m = 9 ∨ m = 10 ∨ m = 11 := by omega
  rcases this with rfl | rfl | rfl | rfl | rfl | rfl | rfl | rfl | rfl | rfl | rfl | rfl <;> rfl
theorem sh_kn (i : Nat) : SeqAt.shaped (.list (kn4 i)) = true := by
  refine shaped_of ?_ ?_
  · simp [kn4, kn3, kn2, kn1, bI, PyData.canLay0, PyData.canLayAll0]
  · simp [kn4, kn3, kn2, kn1, bI, PyData.depth, PyData.depthAll]
theorem cnt_kn (i : Nat) (hi : i < 12) : List.countP (fun z => PyData.eqv z (.bool true)) (kn4 i) = 1 := by
  have : i = 0 ∨ i = 1 ∨ i = 2 ∨ i = 3 ∨ i = 4 ∨ i = 5 ∨ i = 6 ∨ i = 7 ∨ i = 8 ∨ i = 9 ∨ i = 10 ∨ i = 11 := by omega
  rcases this with rfl | rfl | rfl | rfl | rfl | rfl | rfl | rfl | rfl | rfl | rfl | rfl <;> simp [kn4, kn3, kn2, kn1, bI, List.countP_cons, eqv_bool]
theorem word_suiteX {K : PySem.W.Frag} {a dd C CH : Addr} {cA : Str → Addr} {i : Nat} {n : List (Str × V)} {z : PyData} {cls : Value} {dc : Option Addr} {σ : L2.St} {B H : Hp} {D : Ends} (O : KindX K C CH cA i) (hz : ToldW i n z) (h1 : cls = .ref C) (h2 : dc = some dd) (x : Sx 1 a dd n σ B H [none, none, none, none])
    (q : ∀ v B' H', Gr B H B' H' → DH B' v z → D.rt v H') : rd_L_word_suite K C cA a cls dc D σ H := by
  have ki : ∀ (j : Nat) {y : Str} {ρ : Rho}, KN[j]? = some y → EX 1 a dd n (tCB (rIsEx K C a cls dc) (tCons (tVar 1) (tCons (tC (.ref (cA y))) tNil))) ρ (bI j i) :=
    fun j {y ρ} hy => ex_is h1 h2 (fun u r => r) (O.k j y hy)
  have kv : ∀ {ρ : Rho}, EX 1 a dd n (tCB (rIsEx K C a cls dc) (tCons (tVar 1) (tCons (tC (.ty "ValueError")) tNil))) ρ (.bool true) := fun {ρ} => ex_is h1 h2 (fun u r => r) O.kv
  have hi := O.lt
  have g : Gr B H B H := Gr.refl x.t
  unfold rd_L_word_suite
  refine go_seq ?_
  refine sx_asg x g (ex_lst (ds := kn1 i) (exa_cons (ki 0 rfl) (exa_cons (ki 1 rfl) (exa_cons (ki 2 rfl) (exa_cons (ki 3 rfl) exa_nil)))) (by simp [kn1])) (by decide) fun σ B2 H2 x g => ?_
  have x : Sx 1 a dd n σ B2 H2 [none, none, some (.list (kn1 i)), none] := x
  try dsimp only
  refine go_seq ?_
  refine sx_asg x g (ex_op (ex_ed (ed_var (d := .list (kn1 i)) rfl)) (ex_lst (ds := [bI 4 i, bI 5 i, bI 6 i]) (exa_cons (ki 4 rfl) (exa_cons (ki 5 rfl) (exa_cons (ki 6 rfl) exa_nil))) (by simp)) (r2_catL (by simp [kn1]))) (by decide) fun σ B2 H2 x g => ?_
  have x : Sx 1 a dd n σ B2 H2 [none, none, some (.list (kn2 i)), none] := x
  try dsimp only
  refine go_seq ?_
  refine sx_asg x g (ex_op (ex_ed (ed_var (d := .list (kn2 i)) rfl)) (ex_lst (ds := [bI 7 i, bI 8 i, bI 9 i]) (exa_cons (ki 7 rfl) (exa_cons (ki 8 rfl) (exa_cons (ki 9 rfl) exa_nil))) (by simp)) (r2_catL (by simp [kn1, kn2]))) (by decide) fun σ B2 H2 x g => ?_
  have x : Sx 1 a dd n σ B2 H2 [none, none, some (.list (kn3 i)), none] := x
  try dsimp only
  refine go_seq ?_
  refine sx_asg x g (ex_op (ex_ed (ed_var (d := .list (kn3 i)) rfl)) (ex_lst (ds := [bI 10 i, bI 11 i]) (exa_cons (ki 10 rfl) (exa_cons (ki 11 rfl) exa_nil)) (by simp)) (r2_catL (by simp [kn1, kn2, kn3]))) (by decide) fun σ B2 H2 x g => ?_
  have x : Sx 1 a dd n σ B2 H2 [none, none, some (.list (kn4 i)), none] := x
  try dsimp only
  refine go_seq ?_
  have hcnt : ED (tBM K "list" (rCountD K) (tVar 2) (tCons (tC (.bl true)) tNil)) [none, none, some (.list (kn4 i)), none] (.int 1) := ED.is (ed_count (ed_var (d := .list (kn4 i)) rfl) ed_bl (sh_kn i) (sh_bool true)) (congrArg (fun k : Nat => PyData.int (k : Int)) (cnt_kn i hi))
  have hne : ED (tOp (rNeD K) (tBM K "list" (rCountD K) (tVar 2) (tCons (tC (.bl true)) tNil)) (tC (.int 1))) [none, none, some (.list (kn4 i)), none] (.bool (!PyData.eqv (.int 1) (.int 1))) := ed_op hcnt ed_int (r2_ne (sh_int 1) (sh_int 1))
  have e0 : (!PyData.eqv (.int 1) (.int 1) || !true) = false := by
    rw [eqv_int]
    decide
  have ht : XT 1 a dd n (tOr (tTest (tOp (rNeD K) (tBM K "list" (rCountD K) (tVar 2) (tCons (tC (.bl true)) tNil)) (tC (.int 1)))) (tNot (tB (tCB (rIsEx K C a cls dc) (tCons (tVar 1) (tCons (tC (.ty "ValueError")) tNil)))))) [none, none, some (.list (kn4 i)), none] false := by
    rw [← e0]
    exact xt_or (xt_test (ex_ed hne)) (fun _ => xt_not (xt_test kv))
  refine sx_if (b := false) x g ht (fun z => nomatch z) (fun _ B2 H2 x g => ?_)
  try dsimp only
  refine go_seq ?_
  refine sx_asg x g (ex_ed (ed_index (j := i) (z := bI i i) (ed_var (d := .list (kn4 i)) rfl) ed_bl (sh_kn i) (sh_bool true) (kn4_get i i hi) (by unfold bI; rw [eqv_bool]; simp) (fun m z hm hz => ?_))) (by decide) fun σ B2 H2 x g => ?_
  · rw [kn4_get i m (by omega)] at hz
    cases hz
    unfold bI
    rw [eqv_bool]
    have : m ≠ i := by omega
    simp [this]
  have x : Sx 1 a dd n σ B2 H2 [none, none, some (.list (kn4 i)), some (.int (i : Nat))] := x
  try dsimp only
  refine go_seq ?_
  have vi : ∀ {ρ : Rho}, ρ[3]? = some (some (.int (i : Nat))) → ED (tVar 3) ρ (.int (i : Nat)) := fun h => ed_var h
  have lt4 : ∀ k : Int, XT 1 a dd n (tTest (tOp rLtI (tVar 3) (tC (.int k)))) [none, none, some (.list (kn4 i)), some (.int (i : Nat))] (decide (((i : Nat) : Int) < k)) := fun k => xt_test (ex_ed (ed_op (vi rfl) ed_int r2_lt))
  have eqk : ∀ k : Int, XT 1 a dd n (tTest (tOp (rEqD K) (tVar 3) (tC (.int k)))) [none, none, some (.list (kn4 i)), some (.int (i : Nat))] (decide (((i : Nat) : Int) = k)) := fun k => xt_test (ex_ed (ED.is (ed_op (vi rfl) ed_int (r2_eq (sh_int _) (sh_int _))) (by rw [eqv_int])))
  refine sx_if x g (lt4 4) (fun hb B2 H2 x g => ?_) (fun hb B2 H2 x g => ?_)
  · cases hz with
    | num i y fs m hi4 hy hl =>
      refine ex_tup (exa_cons (ex_ed (ED.is (ed_op (ed_lst (ds := [.str "cells", .str "goal", .str "step", .str "paper"]) (ea_cons ed_str (ea_cons ed_str (ea_cons ed_str (ea_cons ed_str ea_nil)))) (by simp)) (vi rfl) (r2_ixL (d := .str y) (atI_nat (by have e := congrArg (Option.map PyData.str) hy; rw [← List.getElem?_map] at e; exact e)))) rfl)) (exa_cons (ex_xf h1 h2 hl) exa_nil)) (by simp) σ B2 H2 x _ fun v B' H' g' dv => q v B' H' (g.trans g') dv
    | hall fs p m a1 a2 => simp at hb
    | halt fs p m a1 a2 => simp at hb
    | text fs m a1 => simp at hb
  · unfold tNext
    dsimp only
    refine go_seq ?_
    cases hz with
    | num i y fs m hi4 hy hl => simp at hb; omega
    | hall fs p m a1 a2 =>
      refine sx_if (b := true) x g (eqk 4) (fun hb B2 H2 x g => ?_) (fun z => nomatch z)
      exact ex_tup (exa_cons (ex_ed ed_str) (exa_cons (ex_xf h1 h2 a1) (exa_cons (ex_xf h1 h2 a2) exa_nil))) (by simp) σ B2 H2 x _ fun v B' H' g' dv => q v B' H' (g.trans g') dv
    | halt fs p m a1 a2 =>
      refine sx_if (b := false) x g (eqk 4) (fun z => nomatch z) (fun _ B2 H2 x g => ?_)
      dsimp only
      refine go_seq ?_
      refine sx_if (b := true) x g (lt4 7) (fun _ B2 H2 x g => ?_) (fun z => nomatch z)
      refine (eqk 5) σ B2 H2 x _ fun B3 H3 g3 => ?_
      rw [if_pos (by decide)]
      exact ex_tup (exa_cons (ex_ed ed_str) (exa_cons (ex_xf h1 h2 a1) (exa_cons (ex_xf h1 h2 a2) exa_nil))) (by simp) σ B3 H3 (x.gr g3) _ fun v B' H' g' dv => q v B' H' ((g.trans g3).trans g') dv
    | text fs m a1 =>
      refine sx_if (b := false) x g (eqk 4) (fun z => nomatch z) (fun _ B2 H2 x g => ?_)
      dsimp only
      refine go_seq ?_
      refine sx_if (b := true) x g (lt4 7) (fun _ B2 H2 x g => ?_) (fun z => nomatch z)
      refine (eqk 5) σ B2 H2 x _ fun B3 H3 g3 => ?_
      rw [if_neg (by decide)]
      exact ex_tup (exa_cons (ex_ed ed_str) (exa_cons (ex_xf h1 h2 a1) exa_nil)) (by simp) σ B3 H3 (x.gr g3) _ fun v B' H' g' dv => q v B' H' ((g.trans g3).trans g') dv
end Pd

/-! WordGT -/
set_option Elab.async false
set_option linter.all false
set_option maxRecDepth 100000
set_option maxHeartbeats 4000000
namespace Pd
open PySem PySem.Spec PyProof.Rows L2 LamX
/-- what the law's word makes of what it calls -/
def TTX (K : PySem.W.Frag) (mg : Str → Option Value) (CH : Addr) (cA : Str → Addr) : (XK → Hp → VK → Prop) → Hp → VK → Prop := fun tl H Q =>
  tl (fun cls d H' => ∃ (C : Addr) (i : Nat) (dd : Addr) (fs : List (Str × V)) (z : PyData) (B' : Hp), cls = .ref C ∧ WordS K mg C CH cA ∧ KindX K C CH cA i ∧ d = some dd ∧ H' dd = some (.xd fs) ∧ ToldW i fs z ∧ Ex B' H' ∧ ∀ v B'' H'', Gr B' H' B'' H'' → DH B'' v z → Q v H'') H (fun _ H1 => Q .non H1)
theorem takes_lenX {X : Cx} {W : WX} (tk : Takes X W) : Takes X (fun c d σ H => σ.length = X.N.length → W c d σ H) := fun u s' ⟨a, B, sI, pins, σ, H, cls, d, e, I, nb, up, sky, na, os, ag, w⟩ => tk u s' ⟨a, B, sI, pins, σ, H, cls, d, e, I, nb, up, sky, na, os, ag, w I.len⟩
theorem word_givesX {X : Cx} {aWAYS aKINDS aSIGNS CH g : Addr} {cA : Str → Addr} {cdg : Value} {q : Str} (T : Txt X.K X.mg X.w aWAYS aKINDS aSIGNS) (hall : X.mg "HallError" = some (.ref CH))
    (hr : ∀ s : Shared, Room 0 (X.A.deeper (envOfC "_law_word" (defScope s_L_word) s.heap.objs.size g cdg))) : GivesTo X n_L_word "_law_word" (defScope s_L_word) g cdg (defBody s_L_word) "_law_work" q (TTX X.K X.mg CH cA) := by
  intro f c' s H Q tl act hc h
  have nd : n_L_word.Nodup := sc_L_word.nd
  refine ⟨_, pss_cons (ps_try_as (X := (cxOf C8.CX0 X.prog X.w X.K X.mg X.base n_L_word "_law_word" (defScope s_L_word) g cdg X.A X.stack s H C8.E0).nox) (i := 1) (c := .ref CH)
      (tb := fun W D σ H => ∃ Ech : XK, (∀ cls d σ' H', σ'.length = 4 → Ech cls d H' → W cls d σ' H') ∧ σ[0]? = some (some (.ref f)) ∧ H c' = some (CodeO c' q) ∧ tl Ech H fun _ H1 => D.nx σ H1)
      (ts := fun a cls d D σ H => ∃ C, WordS X.K X.mg C CH cA ∧ rd_L_word_suite X.K C cA a cls d D σ H)
      rfl rfl nd rfl rfl ⟨rfl, by decide, .inl hall⟩ LamX.takes0 (fun W pn xe tk _ => ?_) (fun a oe cls d pn hz hf => ?_)) (pss_one (ps_ret pe_non)), ?_⟩
  · refine ⟨fun pins s' σ H' D I h' => ?_⟩
    obtain ⟨Ech, hW, h1, h2, h3⟩ := h'
    exact (pss_one (ps_expr (act _ pn xe Ech _ _ (takes_lenX tk) (fun cls d σ' H' e hl => hW cls d σ' H' hl e)))).run pins s' σ H' D I ⟨h1, h2, h3⟩
  · refine ⟨fun pins s' σ H' D I h' => ?_⟩
    obtain ⟨C, hW, h'⟩ := h'
    exact (bd_L_word_suite T hW (hr s) hz hf).run pins s' σ H' D I h'
  · refine ⟨fun cls d H' => ∃ (C : Addr) (i : Nat) (dd : Addr) (fs : List (Str × V)) (z : PyData) (B' : Hp), cls = .ref C ∧ WordS X.K X.mg C CH cA ∧ KindX X.K C CH cA i ∧ d = some dd ∧ H' dd = some (.xd fs) ∧ ToldW i fs z ∧ Ex B' H' ∧ ∀ v B'' H'', Gr B' H' B'' H'' → DH B'' v z → Q v H'', fun cls d σ' H' hl ⟨C, i, dd, fs, z, B', e1, hW, O, e2, e3, hz, ex, k⟩ => ?_, rfl, hc, ?_⟩
    · refine ⟨true, by rw [e1]; exact O.ex, fun _ a ha => ?_, fun z => nomatch z⟩
      refine ⟨C, hW, word_suiteX O hz e1 e2 ⟨ex, ⟨by rw [List.length_set]; exact hl, fun i d hd => ?_⟩, List.getElem?_set_self (by rw [hl]; decide), e3⟩ k⟩
      have : i = 0 ∨ i = 1 ∨ i = 2 ∨ i = 3 ∨ 4 ≤ i := by omega
      rcases this with rfl | rfl | rfl | rfl | h4
      · simp at hd
      · simp at hd
      · simp at hd
      · simp at hd
      · rw [List.getElem?_eq_none (by simpa using h4)] at hd
        cases hd
    · exact h
/-- the def of the law's word -/
structure WordD (K : PySem.W.Frag) (mg : Str → Option Value) : Prop where
  ex : ∃ (g : Addr) (oc : Value) (od : Option Addr) (dV kV doc pm ct : Value) (an : Option Addr) (cdv : Value) (osl : Array (Option Value)), mg "_law_word" = some (.ref g) ∧ PySem.W.keepIn K (.ref g) = true ∧
    K.lookup g = some ⟨oc, od, .func (PySem.W.fnOf "_law_word" "_law_word" (defArgs s_L_word) (defBody s_L_word) (defScope s_L_word) dV kV doc pm an cdv ct), osl⟩ ∧ PySem.W.codeIn K cdv "_law_word" = true ∧
    L2.Binds K (PySem.W.fnOf "_law_word" "_law_word" (defArgs s_L_word) (defBody s_L_word) (defScope s_L_word) dV kV doc pm an cdv ct) ["_law_work"] []
abbrev lawT (PT : Addr) : List (Addr × Str) := [(PT, (("law" : Str) ++ (".<locals>." : Str)) ++ ("<lambda>" : Str))]
section
variable {P : Program} {w : World} {K : PySem.W.Frag} {mg : Str → Option Value} {base : Heap} {f c PT : Addr} {A : Around} {outer : List Env} {s : Shared} {H : Hp} {E : XK} {aWAYS aKINDS aSIGNS CH : Addr} {cA : Str → Addr} {k : Nat} {sx : Sp}
theorem pe_lam1 (T : Txt K mg w aWAYS aKINDS aSIGNS) (hall : mg "HallError" = some (.ref CH)) (V : DefS P w K mg base (L2.CX P w) k "read" p_read sx) (G : WordD K mg)
    (TB : TabB base mg c PT) (hr : Room (k + 2) (A.deeper (envOfC "law" (defScope s_law) s.heap.objs.size f (.ref c)))) (p lp pos : Pos) :
    PE (cxOf CX0 P w K mg base n_law "law" (defScope s_law) f (.ref c) A outer s H E).nox (.Call (.Name "_law_word" p) [.Lambda lamArgs lam1B lamScope1 lp] [] pos)
      (tLam (lawT PT) (TTX K mg CH cA) (fun E => tCall sx [] E (tCons (tVar 8) tNil))) := by
  obtain ⟨g, oc, od, dV, kV, doc, pm, ct, an, cdv, osl, hm, hk, lk, hcg, hb⟩ := G.ex
  refine pe_lamcall (a := "_law_work") (k := k) (by rfl) hm hk lk hcg hb sc_L_word rfl (.inl rfl) (word_givesX T hall (fun s' => ?_)) TB rfl (.head _) (fun p hp _ => by rw [List.mem_singleton.mp hp]; rfl) hr (lamS_by (show lamSB (defScope s_law) lamScope1 = true by decide +kernel)) (by rfl) (fun q cl pm cv ctv => by rfl) (fun A' outer' s' H' E' f' c' hr' => ?_)
  · exact (hr.mono (by omega : 1 ≤ k + 2)).deeper _
  · have tk : Takes (lamCx (cxOf CX0 P w K mg base n_law "law" (defScope s_law) f (.ref c) A outer s H E).nox A' outer' s' H' E' lamScope1 f' c') (fun cls d _ H => E' cls d H) := takes_of rfl rfl rfl rfl
    exact pe_dcallX V hr' (passes_call tk (fun _ _ _ _ h => h)) (pa_cons (pe_var rfl (.inr (.inr rfl))) pa_nil)
theorem pe_lam2 (T : Txt K mg w aWAYS aKINDS aSIGNS) (hall : mg "HallError" = some (.ref CH)) (V : DefS P w K mg base (L2.CX P w) k "read" p_read sx) (G : WordD K mg)
    (TB : TabB base mg c PT) (hr : Room (k + 2) (A.deeper (envOfC "law" (defScope s_law) s.heap.objs.size f (.ref c)))) (p lp pos : Pos) :
    PE (cxOf CX0 P w K mg base n_law "law" (defScope s_law) f (.ref c) A outer s H E).nox (.Call (.Name "_law_word" p) [.Lambda lamArgs lam2B lamScope1 lp] [] pos)
      (tLam (lawT PT) (TTX K mg CH cA) (fun E => tCall sx [] E (tCons (tVar 8) tNil))) := by
  obtain ⟨g, oc, od, dV, kV, doc, pm, ct, an, cdv, osl, hm, hk, lk, hcg, hb⟩ := G.ex
  refine pe_lamcall (a := "_law_work") (k := k) (by rfl) hm hk lk hcg hb sc_L_word rfl (.inl rfl) (word_givesX T hall (fun s' => ?_)) TB rfl (.head _) (fun p hp _ => by rw [List.mem_singleton.mp hp]; rfl) hr (lamS_by (show lamSB (defScope s_law) lamScope1 = true by decide +kernel)) (by rfl) (fun q cl pm cv ctv => by rfl) (fun A' outer' s' H' E' f' c' hr' => ?_)
  · exact (hr.mono (by omega : 1 ≤ k + 2)).deeper _
  · have tk : Takes (lamCx (cxOf CX0 P w K mg base n_law "law" (defScope s_law) f (.ref c) A outer s H E).nox A' outer' s' H' E' lamScope1 f' c') (fun cls d _ H => E' cls d H) := takes_of rfl rfl rfl rfl
    exact pe_dcallX V hr' (passes_call tk (fun _ _ _ _ h => h)) (pa_cons (pe_var rfl (.inr (.inr rfl))) pa_nil)
theorem pe_lam3 (T : Txt K mg w aWAYS aKINDS aSIGNS) (hall : mg "HallError" = some (.ref CH)) (V : DefS P w K mg base (L2.CX P w) k "may" p_may sx) (G : WordD K mg)
    (TB : TabB base mg c PT) (hr : Room (k + 2) (A.deeper (envOfC "law" (defScope s_law) s.heap.objs.size f (.ref c)))) (p lp pos : Pos) :
    PE (cxOf CX0 P w K mg base n_law "law" (defScope s_law) f (.ref c) A outer s H E).nox (.Call (.Name "_law_word" p) [.Lambda lamArgs lam3B lamScope2 lp] [] pos)
      (tLam (lawT PT) (TTX K mg CH cA) (fun E => tCall sx [] E (tCons (tOp (rIx K) (tVar 7) (tC (.int 0))) (tCons (tOp (rIx K) (tVar 7) (tC (.int 1))) tNil)))) := by
  obtain ⟨g, oc, od, dV, kV, doc, pm, ct, an, cdv, osl, hm, hk, lk, hcg, hb⟩ := G.ex
  refine pe_lamcall (a := "_law_work") (k := k) (by rfl) hm hk lk hcg hb sc_L_word rfl (.inl rfl) (word_givesX T hall (fun s' => ?_)) TB rfl (.head _) (fun p hp _ => by rw [List.mem_singleton.mp hp]; rfl) hr (lamS_by (show lamSB (defScope s_law) lamScope2 = true by decide +kernel)) (by rfl) (fun q cl pm cv ctv => by rfl) (fun A' outer' s' H' E' f' c' hr' => ?_)
  · exact (hr.mono (by omega : 1 ≤ k + 2)).deeper _
  · have tk : Takes (lamCx (cxOf CX0 P w K mg base n_law "law" (defScope s_law) f (.ref c) A outer s H E).nox A' outer' s' H' E' lamScope2 f' c') (fun cls d _ H => E' cls d H) := takes_of rfl rfl rfl rfl
    exact pe_dcallX V hr' (passes_call tk (fun _ _ _ _ h => h)) (pa_cons (pe_ix ix_seq (pe_var rfl (.inr (.inr rfl))) pe_int (fun _ _ => rfl)) (pa_cons (pe_ix ix_seq (pe_var rfl (.inr (.inr rfl))) pe_int (fun _ _ => rfl)) pa_nil))
end
end Pd

/-! SemHB -/
set_option Elab.async false
set_option linter.all false
set_option maxRecDepth 100000
set_option maxHeartbeats 4000000
namespace Pd
open PySem PySem.Spec PyProof.Rows L2 PySem.W
local macro_rules | `(tactic| walk_at "ed") => `(tactic| repeat' (first
  | with_reducible (first
    | exact ed_int | exact ed_str | exact ed_bl | exact ed_non
    | exact ea_nil | refine' ea_cons ?_ ?_
    | refine' ed_isi ?_ ?_ | refine' ed_isi2 ?_ ?_ ?_
    | refine' ed_andV ?_ (fun _ => ?_) | refine' ed_orV ?_ (fun _ => ?_) | refine' ed_notV ?_
    | refine' ed_chain ?_ ?_ ?_ (fun _ => ⟨?_, ?_⟩)
    | refine' ed_tup ?_ ?_ | refine' ed_lst ?_ ?_
    | refine' et_not ?_ | refine' et_and ?_ (fun _ => ?_) | refine' et_or ?_ (fun _ => ?_) | exact et_yes
    | refine' et_test ?_ | refine' et_B ?_
    | refine' ed_op ?_ ?_ ?_
    | refine' ed_cb ?_ ?_)
  | exact ed_var rfl
  | exact kit_tt | exact kit_ii | exact kit_ib | exact kit_ll | exact kit_lt | exact kit_tl
  | exact r2_addI | exact r2_subI | exact r2_lt | exact r2_le | exact r2_gt | exact r2_ge | exact r2_isN | exact r2_notN
  | exact rc_lenT | exact rc_lenL | exact rc_intB | exact rc_tupL
  | with_reducible (first | refine' r2_eq ?_ ?_ | refine' r2_ne ?_ ?_)
  | exact sh_int _ | exact sh_sg _ | exact sh_cell _ | exact sh_edge _ | exact sh_pair _ | exact sh_str _ (by decide +kernel)
  | exact r2_ixT rfl | exact r2_ixL rfl
  | refine' ed_tup ?_ ?_
  | (show List.length _ ≤ 100000; simp; done)))
/-- the base without the tables -/
def noTbl (B : Hp) : Hp := fun a => match B a with
  | some (.tbl _) => none
  | o => o
theorem noTbl_ex (B : Hp) : Ex (noTbl B) B := fun a o h => by
  unfold noTbl at h
  split at h
  · cases h
  · exact h
theorem noTbl_of {B : Hp} {a : Addr} {o : HO} (h : B a = some o) (hn : ∀ ps, o ≠ .tbl ps) : noTbl B a = some o := by
  unfold noTbl
  rw [h]
  split
  · rename_i ps e
    exact absurd (Option.some.inj e) (hn ps)
  · rfl
mutual
theorem DH.noTbl {B : Hp} : ∀ {v : V} {d : PyData}, DH B v d → DH (Pd.noTbl B) v d
  | _, _, .non => .non
  | _, _, .bl b => .bl b
  | _, _, .int i => .int i
  | _, _, .str x => .str x
  | _, _, .lst h r => .lst (noTbl_of h (fun _ z => nomatch z)) (DHs.noTbl r)
  | _, _, .tup h r => .tup (noTbl_of h (fun _ z => nomatch z)) (DHs.noTbl r)
theorem DHs.noTbl {B : Hp} : ∀ {vs : List V} {ds : List PyData}, DHs B vs ds → DHs (Pd.noTbl B) vs ds
  | _, _, .nil => .nil
  | _, _, .cons h r => .cons (DH.noTbl h) (DHs.noTbl r)
end
theorem noTbl_extN {B H H1 : Hp} (e : Ex B H) (x : LamX.ExtN H H1) : Ex (noTbl B) H1 := fun a o h => by
  have h1 := noTbl_ex B a o h
  refine x a o (e a o h1) (fun ps z => ?_)
  subst z
  unfold noTbl at h
  rw [h1] at h
  cases h

theorem noTbl_none {B : Hp} {z : Addr} (h : B z = none) : noTbl B z = none := by
  cases q : noTbl B z with
  | none => rfl
  | some u =>
    have := noTbl_ex B z u q
    rw [h] at this
    cases this
structure CKr (r : Nat) (l sc : Addr) (ns : List Int) (c : Cfg) (K : PySem.W.Frag) : Prop where
  r : c.r = r
  K : c.K = K
  l : c.l = l
  sc : c.sc = sc
  ns : c.ns = ns
theorem CKr.dr {r : Nat} {l sc : Addr} {ns : List Int} {c : Cfg} {K : PySem.W.Frag} {B H : Hp} (h : CKr r l sc ns c K) (d : Dr c.K c.l c.sc c.ns B H) : Dr K l sc ns B H := by
  obtain ⟨r, K, l, sc, ns, B1, H1⟩ := c
  obtain ⟨h1, h2, h3, h4, h5⟩ := h
  subst h2 h3 h4 h5
  exact d
theorem tabs_wR {T : List (Addr × Str)} {l sc : Addr} {x y z : Int} {B H B' H' : Hp} (t : LamX.Tabs T H) (hrow : H l = some (rowL sc x y z)) (g : GrW l B H B' H') : LamX.Tabs T H' := fun p hp => by
  obtain ⟨ps, h1, h2, h3⟩ := t p hp
  have ne : ∀ {u : Addr} {o : HO}, H u = some o → o ≠ rowL sc x y z → u ≠ l := fun {u o} hx hn e => by
    subst e
    rw [hrow] at hx
    exact hn (Option.some.inj hx).symm
  refine ⟨ps, g.h _ _ (ne h1 (fun z => nomatch z)) h1, h2, fun pos cv hc => ?_⟩
  obtain ⟨u, e1, e2⟩ := h3 pos cv hc
  exact ⟨u, e1, g.h _ _ (ne e2 (fun z => by unfold LamX.CodeO rowL at z; cases z)) e2⟩
theorem nice_int (n : Nat) (i : Int) : Nice (n + 1) (.int i) := .inl (.inl ⟨i, rfl⟩)
theorem nice_sg (n : Nat) (w : Sg) : Nice (n + 1) (sg w) := .inl (.inr (.inl ⟨_, rfl, by cases w <;> decide +kernel⟩))
theorem nice_tup {n : Nat} {ds : List PyData} (hl : ds.length ≤ 100000) (h : ∀ x ∈ ds, Nice n x) : Nice (n + 1) (.tuple ds) := .inr ⟨ds, .inl rfl, hl, h⟩
theorem nice_lst {n : Nat} {ds : List PyData} (hl : ds.length ≤ 100000) (h : ∀ x ∈ ds, Nice n x) : Nice (n + 1) (.list ds) := .inr ⟨ds, .inr rfl, hl, h⟩
theorem nice_cell (n : Nat) (c : Cell) : Nice (n + 2) (cellD c) := nice_tup (by simp) fun x hx => by
  simp only [List.mem_cons, List.not_mem_nil, or_false] at hx
  rcases hx with rfl | rfl
  · exact nice_int n _
  · exact nice_int n _
theorem nice_hall (n : Nat) {h : Hall} (o : HallOk h) : Nice (n + 4) (hallD h) := nice_tup (by simp) fun x hx => by
  have nw := o.nwalls
  have nd := o.ndoors
  have ne : ∀ (m : Nat) (e : Edge), Nice (m + 2) (edgeD e) := fun m e => nice_tup (by simp) fun x hx => by
    simp only [List.mem_cons, List.not_mem_nil, or_false] at hx
    rcases hx with rfl | rfl | rfl
    · exact nice_int m _
    · exact nice_int m _
    · exact nice_sg m _
  simp only [List.mem_cons, List.not_mem_nil, or_false] at hx
  rcases hx with rfl | rfl | rfl | rfl
  · exact nice_int (n + 2) _
  · exact nice_int (n + 2) _
  · exact nice_tup (by rw [List.length_map]; omega) fun y hy => by
      obtain ⟨e, _, rfl⟩ := List.mem_map.mp hy
      exact ne n e
  · exact nice_tup (by rw [List.length_map]; omega) fun y hy => by
      obtain ⟨e, _, rfl⟩ := List.mem_map.mp hy
      exact ne n e
theorem nice_cells (n : Nat) {h : Hall} {cs : List Cell} (o : CellsOk h cs) : Nice (n + 3) (cellsD cs) := nice_tup (by have := o.most; rw [List.length_map]; omega) fun y hy => by
  obtain ⟨c, _, rfl⟩ := List.mem_map.mp hy
  exact nice_cell n c
def CK1 (c : Cfg) (K : PySem.W.Frag) : Prop := c.r = 1 ∧ c.K = K
section
variable {K : PySem.W.Frag} {c : Cfg} {A : Nat → Addr} {σ : L2.St} {B H : Hp} {ρ ρ' : Rho} {os os' : OS} {te tb : TE} {ta : TA} {d : PyData}
theorem ei_callW1 {Pre : List PyData → Prop} {R : List PyData → PyData → Prop} {P' : List PyData → Prop} (hr : CK1 c K) (h : AI c ta ρ os P') (hp : ∀ ds, P' ds → Pre ds) : EI c (tCallD (spW K Pre R) (tCons (tVar 1) ta)) ρ os (fun d => ∃ ds, P' ds ∧ R ds d) := by
  obtain ⟨h0, rfl⟩ := hr
  have := ei_callW (R := R) h hp
  rw [h0] at this
  exact this
end
theorem Rw.Ok.chars {r : Rw} (o : r.Ok) : ∀ c ∈ r.line, c < 1000 := fun c hc => by
  have ha := o.a
  have hb := o.b
  have hk := o.k4
  rw [Rw.line_eq] at hc
  obtain ⟨k, a, b, s⟩ := r
  simp only at ha hb hk hc
  simp only [List.mem_append, List.mem_cons] at hc
  rcases hc with hc | rfl | rfl | rfl | rfl | hc
  · have : ∀ k < 4, ∀ c ∈ kindC k, c < 1000 := by decide
    exact this k hk c hc
  · decide
  · omega
  · decide
  · omega
  · cases s with
    | none => cases hc
    | some g =>
      simp only [List.mem_cons, List.not_mem_nil, or_false] at hc
      rcases hc with rfl | rfl
      · decide
      · cases g <;> decide
/-- what the law's word wants of an exception class -/
structure XcOk (K : PySem.W.Frag) (mg : Str → Option Value) (C CH : Addr) (cA : Str → Addr) (i : Nat) : Prop where
  w : WordS K mg C CH cA
  k : KindX K C CH cA i
structure Wt (T : List (Addr × Str)) (c : Cfg) (σ : L2.St) (B H : Hp) (ρ : Rho) : Prop where
  iv : Iv c (fun _ => 0) σ B H ρ []
  tb : LamX.Tabs T c.H1
  rl : ∃ x y z, c.H1 c.l = some (rowL c.sc x y z)
section
variable {T : List (Addr × Str)} {K : PySem.W.Frag} {r : Nat} {l sc : Addr} {ns : List Int} {c : Cfg} {σ σ' : L2.St} {B H B' H' : Hp} {ρ ρ' ρ1 : Rho} {te tb : TE} {tt : TT} {ta : TA} {d : PyData} {ds : List PyData} {Q : VK} {D : Ends} {i j : Nat} {vs : List Nat} {os : OS}
theorem Iv.no {A : Nat → Addr} (o : Iv c A σ B H ρ []) : Iv c (fun _ => 0) σ B H ρ [] := ⟨o.d, o.g, o.e, o.s0, (fun p hp => nomatch hp), (fun p hp => nomatch hp)⟩
theorem Wt.gr (o : Wt T c σ B H ρ) (g : Gr B H B' H') : Wt T c σ B' H' ρ := ⟨o.iv.gr g, o.tb, o.rl⟩
theorem Wt.less (o : Wt T c σ B H ρ) (k : Rle ρ' ρ) : Wt T c σ B H ρ' := ⟨o.iv.less k, o.tb, o.rl⟩
theorem Wt.set {v : V} (o : Wt T c σ B H ρ) (dv : DH B v d) (hr : i ≠ c.r) : Wt T c (σ.set i (some v)) B H (ρ.set i (some d)) := ⟨o.iv.set dv hr (fun p hp => nomatch hp), o.tb, o.rl⟩
theorem Wt.tabs (o : Wt T c σ B H ρ) : LamX.Tabs T H := by
  obtain ⟨x, y, z, h⟩ := o.rl
  exact tabs_wR o.tb h o.iv.g
theorem Wt.anew (hr : CKr r l sc ns c K) (o : Wt T c σ B H ρ) (d' : Dr c.K c.l c.sc c.ns B' H') (e : EnvD σ B' ρ') (tb : LamX.Tabs T H') : ∃ c', CKr r l sc ns c' K ∧ Wt T c' σ B' H' ρ' := by
  obtain ⟨x, y, z, h1, h2⟩ := d'.row
  exact ⟨⟨c.K, c.r, c.l, c.sc, c.ns, B', H'⟩, ⟨hr.r, hr.K, hr.l, hr.sc, hr.ns⟩, ⟨d', ⟨Ex.refl B', fun z u _ e => e, fun z e _ => e⟩, e, o.iv.s0, (fun p hp => nomatch hp), (fun p hp => nomatch hp)⟩, tb, x, y, z, h1⟩
theorem Wt.lam {H1 : Hp} (hr : CKr r l sc ns c K) (o : Wt T c σ B H ρ) (x : LamX.ExtN H H1) (tb : LamX.Tabs T H1) : ∃ c', CKr r l sc ns c' K ∧ Wt T c' σ (noTbl B) H1 ρ := by
  have ev1 : EnvD σ (noTbl B) ρ := ⟨o.iv.e.len, fun i z q => let ⟨v, a, b⟩ := o.iv.e.get i z q; ⟨v, a, b.noTbl⟩⟩
  refine o.anew hr ?_ ev1 tb
  obtain ⟨x1, y1, z1, h1, h2⟩ := o.iv.d.row
  refine ⟨noTbl_extN o.iv.d.t x, ⟨x1, y1, z1, x _ _ h1 (fun _ z => nomatch z), h2⟩, ?_, noTbl_none o.iv.d.nl⟩
  rcases o.iv.d.scr with (e | ⟨u, e⟩) | e
  · exact .inl (.inl (noTbl_of e (fun _ z => nomatch z)))
  · exact .inl (.inr ⟨u, noTbl_of e (fun _ z => nomatch z)⟩)
  · exact .inr e
theorem ei_callD {R : List PyData → PyData → Prop} {P' : List PyData → Prop} {P : PyData → Prop} (h : AI c ta ρ os P') (hp : ∀ ds, P' ds → ∃ d, R ds d ∧ P d) : EI c (tCallD (spR R) ta) ρ os P := fun A σ B H o Q q => by
  refine h A σ B H o _ fun vs ds B1 H1 o1 ex1 d1 p1 => ?_
  obtain ⟨d, r, p⟩ := hp ds p1
  refine ⟨B1, ds, d, o1.d.t, by rw [List.append_nil]; exact d1, r, fun v B' H' g dv => q v d B' H' (o1.gr g) (ex1.trans g.b) dv p⟩
theorem ei_lst {P' : List PyData → Prop} (h : AI c ta ρ os P') (hl : ∀ ds, P' ds → ds.length ≤ 100000) : EI c (tLst ta) ρ os (fun d => ∃ ds, d = .list ds ∧ P' ds) := fun A σ B H o Q q => by
  refine h A σ B H o _ fun vs ds B1 H1 o1 ex1 d1 p1 => ⟨?_, fun p hp => ?_⟩
  · rw [d1.length]
    exact Nat.le_trans (hl ds p1) (by decide)
  · have g := Gr.new (o := .lst vs) o1.d.t hp
    exact q _ _ _ _ (o1.gr g) (ex1.trans g.b) (.lst upd_same (d1.mono g.b)) ⟨ds, rfl, p1⟩
end
/-! ### where the law stands -/
structure LX where
  K : PySem.W.Frag
  PT : Addr
  l : Addr
  sc : Addr
  ns : List Int
def NoT (B : Hp) : Prop := ∀ a ps, B a ≠ some (.tbl ps)
theorem noT_noTbl (B : Hp) : NoT (noTbl B) := fun a ps h => by
  unfold noTbl at h
  split at h
  · cases h
  · rename_i q
    exact q ps h
theorem NoT.ex {b0 B : Hp} (n : NoT b0) (e : Ex b0 B) : Ex b0 (noTbl B) := fun a o h => noTbl_of (e a o h) fun ps z => by subst z; exact n a ps h
structure LT (X : LX) (b0 : Hp) (σ : L2.St) (B H : Hp) (ρ : Rho) : Prop where
  n : NoT b0
  b : Ex b0 B
  w : ∃ c, CKr 1 X.l X.sc X.ns c X.K ∧ Wt (lawT X.PT) c σ B H ρ
section
variable {X : LX} {b0 : Hp} {σ σ' : L2.St} {B H B' H' : Hp} {ρ ρ' : Rho} {te tb : TE} {tt : TT} {ta : TA} {d e z : PyData} {ds : List PyData} {Q : VK} {D : Ends} {i j : Nat} {vs : List Nat} {mg : Str → Option Value} {CHx : Addr} {cA : Str → Addr}
theorem LT.gr (o : LT X b0 σ B H ρ) (g : Gr B H B' H') : LT X b0 σ B' H' ρ := ⟨o.n, o.b.trans g.b, let ⟨c, h, w⟩ := o.w; ⟨c, h, w.gr g⟩⟩
theorem LT.less (o : LT X b0 σ B H ρ) (k : Rle ρ' ρ) : LT X b0 σ B H ρ' := ⟨o.n, o.b, let ⟨c, h, w⟩ := o.w; ⟨c, h, w.less k⟩⟩
theorem LT.t (o : LT X b0 σ B H ρ) : Ex B H := let ⟨_, _, w⟩ := o.w; w.iv.d.t
theorem LT.ev (o : LT X b0 σ B H ρ) : EnvD σ B ρ := let ⟨_, _, w⟩ := o.w; w.iv.e
theorem LT.set {v : V} (o : LT X b0 σ B H ρ) (dv : DH B v d) (h : i ≠ 1) : LT X b0 (σ.set i (some v)) B H (ρ.set i (some d)) := ⟨o.n, o.b, let ⟨c, hr, w⟩ := o.w; ⟨c, hr, w.set dv (by rw [hr.r]; exact h)⟩⟩
theorem LT.base (o : LT X b0 σ B H ρ) : LT X (noTbl B) σ B H ρ := ⟨noT_noTbl B, noTbl_ex B, o.w⟩
theorem LT.rebase {b1 : Hp} (o : LT X b0 σ B H ρ) (n : NoT b1) (e : Ex b1 b0) : LT X b1 σ B H ρ := ⟨n, e.trans o.b, o.w⟩
theorem lt_set (o : LT X b0 σ B H ρ) (h : ED te ρ d) (hi : i ≠ 1) (k : ∀ σ' B' H', LT X b0 σ' B' H' (ρ.set i (some d)) → D.nx σ' H') : tAsg te (gName i) D σ H :=
  h σ B H o.t o.ev _ fun v B1 H1 g dv => k _ B1 H1 ((o.gr g).set dv hi)
theorem lt_if {r : Bool} {t u : TS} (o : LT X b0 σ B H ρ) (h : ET tt ρ r) (h1 : r = true → ∀ B H, LT X b0 σ B H ρ → t D σ H) (h2 : r = false → ∀ B H, LT X b0 σ B H ρ → u D σ H) : tIfS tt t u D σ H := by
  refine h σ B H o.t o.ev _ fun B1 H1 g => ?_
  cases r with
  | true => exact h1 rfl B1 H1 (o.gr g)
  | false => exact h2 rfl B1 H1 (o.gr g)
/-- what the word tells of an outcome -/
def WordOf (K : PySem.W.Frag) (mg : Str → Option Value) (CHx : Addr) (cA : Str → Addr) : Out → PyData → Prop
  | .ok _, z => z = .none
  | .ex e, z => ∃ i, XcOk K mg e.1 CHx cA i ∧ ToldW i e.2 z
theorem lt_word {R : List PyData → Out → Prop} {ou : Out} (x : LT X b0 σ B H ρ) (h : EA ta ρ ds) (hR : R ds ou) (hz : WordOf X.K mg CHx cA ou z) (k : ∀ v B' H', LT X b0 σ B' H' ρ → DH B' v z → Q v H') :
    LamX.tLam (lawT X.PT) (TTX X.K mg CHx cA) (fun E => tCall (spO R) [] E ta) σ H Q := by
  obtain ⟨c, hr, w⟩ := x.w
  refine ⟨w.tabs, fun H1 x1 tb1 => ?_⟩
  obtain ⟨c1, hr1, w1⟩ := w.lam hr x1 tb1
  have x1 : LT X b0 σ (noTbl B) H1 ρ := ⟨x.n, x.n.ex x.b, c1, hr1, w1⟩
  refine h σ (noTbl B) H1 x1.t x1.ev _ fun vs B2 H2 g2 d2 => ⟨B2, ds, ou, g2.t, by rw [List.append_nil]; exact d2, hR, ?_⟩
  cases ou with
  | ok d =>
    have hz : z = .none := hz
    subst hz
    exact fun v B' H' g' _ => k .non B' H' (x1.gr (g2.trans g')) .non
  | ex e =>
    obtain ⟨i, hx, ht⟩ := hz
    intro B' H' dx g' hdx
    have g3 := Gr.own (o := .xd e.2) g'.t hdx
    exact ⟨e.1, i, dx, e.2, z, B', rfl, hx.w, hx.k, rfl, upd_same, ht, g3.t, fun v B'' H'' g4 dv => k v B'' H'' (x1.gr (((g2.trans g').trans g3).trans g4)) dv⟩
/-- if word(..) != x: return False, both being alike -/
theorem lt_ifW {tLW : TE} {t : TS} (hW : ∀ Q : VK, (∀ v B' H', LT X b0 σ B' H' ρ → DH B' v z → Q v H') → tLW σ H Q) (hj : ρ[j]? = some (some z)) (sz : SeqAt.shaped z = true) (hq : PyData.eqv z z = true) (k : ∀ B' H', LT X b0 σ B' H' ρ → D.nx σ H') : tIfS (tTest (tOp (rNeD X.K) tLW (tVar j))) t tNext D σ H := by
  refine hW _ fun v B1 H1 x1 dv => ?_
  obtain ⟨u, hu, du⟩ := x1.ev.get j z hj
  refine ⟨u, hu, ?_⟩
  refine r2_ne sz sz B1 H1 v u x1.t dv du _ fun y B2 H2 g2 dy => ?_
  cases dy
  refine ⟨_, rfl, ?_⟩
  rw [hq]
  exact k B2 H2 (x1.gr g2)
theorem lt_asgW {tLW : TE} (hW : ∀ Q : VK, (∀ v B' H', LT X b0 σ B' H' ρ → DH B' v z → Q v H') → tLW σ H Q) (hi : i ≠ 1) (k : ∀ σ' B' H', LT X b0 σ' B' H' (ρ.set i (some z)) → D.nx σ' H') : tAsg tLW (gName i) D σ H :=
  hW _ fun v B1 H1 x1 dv => k _ B1 H1 (x1.set dv hi)
theorem iList_of {v : V} {R : It → Hp → Prop} (t : Ex B H) (dv : DH B v (.list ds)) (q : ∀ J, ItD J B ds → R J H) : iList X.K (tC v) σ H R := by
  cases dv with
  | @lst a xs _ ha hs =>
    refine ⟨a, rfl, ⟨xs, SqL.of (t _ _ ha)⟩, q _ fun B2 H2 e1 e2 i => ⟨fun hi => ⟨xs, SqL.of (e2 _ _ (e1 _ _ ha)), by rw [hs.length]; omega⟩, fun d hd => ?_⟩⟩
    obtain ⟨x, hx, dx⟩ := hs.get hd
    refine ⟨⟨xs, x, SqL.of (e2 _ _ (e1 _ _ ha)), hx⟩, fun y H' ⟨eh, hy⟩ => ⟨B2, ?_, ?_⟩⟩
    · subst eh
      exact Gr.refl e2
    · have := hy xs (SqL.of (e2 _ _ (e1 _ _ ha)))
      rw [hx] at this
      cases this
      exact dx.mono e1
theorem lt_for {α : Type} {g : TG} {tb : TS} {items : List α} (enc : α → PyData) {v : V} (x : LT X b0 σ B H ρ) (dv : DH B v (.list (items.map enc)))
    (turn : ∀ y ∈ items, ∀ b0 σ B H (N : L2.St → Hp → Prop) v', LT X b0 σ B H ρ → DH B v' (enc y) → (∀ σ' B' H', LT X b0 σ' B' H' ρ → N σ' H') → g v' σ H fun σ2 H2 => tb { D with nx := N, ct := N, bk := D.nx } σ2 H2)
    (k : ∀ σ' B' H', LT X b0 σ' B' H' ρ → D.nx σ' H') : tFor (iList X.K (tC v)) g tb D σ H := by
  have x0 := x.base
  refine iList_of (B := noTbl B) (x0.b.trans x0.t) dv.noTbl fun J hJ => ?_
  refine ⟨fun n m σ' H' => m = items.length - n ∧ n ≤ items.length ∧ ∃ B', LT X (noTbl B) σ' B' H' ρ, ⟨items.length, by omega, Nat.zero_le _, B, x0⟩, ?_⟩
  rintro n m σ' H' ⟨rfl, hle, B', o'⟩
  obtain ⟨hstop, hgo⟩ := hJ B' H' o'.b o'.t n
  by_cases hlt : n < items.length
  · right
    have hd : items[n]? = some items[n] := List.getElem?_eq_getElem hlt
    obtain ⟨go, hy⟩ := hgo (enc items[n]) (by rw [List.getElem?_map, hd]; rfl)
    refine ⟨go, fun σ2 H2 => n + 1 ≤ items.length ∧ ∃ B', LT X (noTbl B) σ2 B' H2 ρ, fun σ2 H2 ⟨p1, p2⟩ => ⟨items.length - (n + 1), by omega, rfl, p1, p2⟩, fun y H3 hyl => ?_⟩
    obtain ⟨B3, g3, dx⟩ := hy y H3 hyl
    exact turn items[n] (List.getElem_mem _) _ σ' B3 H3 _ y (o'.gr g3) dx fun σ4 B4 H4 o4 => ⟨hlt, B4, o4⟩
  · left
    have hie : n = items.length := by omega
    subst hie
    exact ⟨hstop (by rw [List.length_map]), k σ' B' H' (o'.rebase x.n (x.n.ex x.b))⟩
end
end Pd

/-! SemHC -/
set_option Elab.async false
set_option linter.all false
set_option maxRecDepth 100000
set_option maxHeartbeats 4000000
namespace Pd
open PySem PySem.Spec PyProof.Rows L2 PySem.W
local macro_rules | `(tactic| walk_at "ed") => `(tactic| repeat' (first
  | with_reducible (first
    | exact ed_int | exact ed_str | exact ed_bl | exact ed_non
    | exact ea_nil | refine' ea_cons ?_ ?_
    | refine' ed_isi ?_ ?_ | refine' ed_isi2 ?_ ?_ ?_
    | refine' ed_andV ?_ (fun _ => ?_) | refine' ed_orV ?_ (fun _ => ?_) | refine' ed_notV ?_
    | refine' ed_chain ?_ ?_ ?_ (fun _ => ⟨?_, ?_⟩)
    | refine' ed_tup ?_ ?_ | refine' ed_lst ?_ ?_
    | refine' et_not ?_ | refine' et_and ?_ (fun _ => ?_) | refine' et_or ?_ (fun _ => ?_) | exact et_yes
    | refine' et_test ?_ | refine' et_B ?_
    | refine' ed_op ?_ ?_ ?_
    | refine' ed_cb ?_ ?_)
  | exact ed_var rfl
  | exact kit_tt | exact kit_ii | exact kit_ib | exact kit_ll | exact kit_lt | exact kit_tl
  | exact r2_addI | exact r2_subI | exact r2_lt | exact r2_le | exact r2_gt | exact r2_ge | exact r2_isN | exact r2_notN
  | exact rc_lenT | exact rc_lenL | exact rc_intB | exact rc_tupL
  | with_reducible (first | refine' r2_eq ?_ ?_ | refine' r2_ne ?_ ?_)
  | exact sh_int _ | exact sh_sg _ | exact sh_cell _ | exact sh_edge _ | exact sh_pair _ | exact sh_str _ (by decide +kernel)
  | exact r2_ixT rfl | exact r2_ixL rfl
  | refine' ed_tup ?_ ?_
  | (show List.length _ ≤ 100000; simp; done)))
/-! ### the law -/
theorem firstX_some {α : Type} {f : Nat → α → Option Exn} {e : Exn} : ∀ {xs : List α} {n : Nat}, firstX f n xs = some e → ∃ m x, f m x = some e
  | [], _, h => nomatch h
  | y :: xs, n, h => by
    have h : (f n y).or (firstX f (n + 1) xs) = some e := h
    cases hf : f n y with
    | some e' =>
      rw [hf] at h
      cases h
      exact ⟨n, y, hf⟩
    | none =>
      rw [hf] at h
      exact firstX_some h
theorem or_some {a b : Option Exn} {e : Exn} (h : a.or b = some e) : a = some e ∨ b = some e := by
  cases a with
  | none => exact .inr h
  | some e' => cases h; exact .inl rfl
theorem if_some {b : Bool} {e e' : Exn} (h : (if b then some e' else none) = some e) : e = e' := by
  cases b with
  | true => cases h; rfl
  | false => cases h
theorem chk_form {CH CC : Addr} {h : Hall} {cs : List Cell} {e : Exn} (he : chkStart CH CC h cs = some e) : (∃ i j : Int, e = exH CH i j) ∨ ∃ i : Int, e = exC CC i := by
  have edges : ∀ {part : Nat} {es : List Edge} {most : Nat} {tk : List Edge}, chkEdges CH h part es most tk = some e → ∃ i j : Int, e = exH CH i j := fun q => by
    obtain ⟨m, x, q⟩ := firstX_some q
    rcases or_some q with q | q
    · exact ⟨_, _, if_some q⟩
    · exact ⟨_, _, if_some q⟩
  rcases or_some he with q | q
  · left
    rcases or_some q with q | q
    · exact ⟨_, _, if_some q⟩
    rcases or_some q with q | q
    · exact ⟨_, _, if_some q⟩
    rcases or_some q with q | q
    · exact edges q
    · exact edges q
  · right
    rcases or_some q with q | q
    · exact ⟨_, if_some q⟩
    · obtain ⟨m, x, q⟩ := firstX_some q
      exact ⟨_, if_some q⟩
theorem lay_hallG (h : Hall) : (hallD h).canLay0 = true := by
  have h1 := lay_map edgeD lay_edge h.walls
  have h2 := lay_map edgeD lay_edge h.doors
  simp [hallD, PyData.canLay0, PyData.canLayAll0, h1, h2]
theorem sh_hallG (h : Hall) : SeqAt.shaped (hallD h) = true := by
  refine shaped_of (lay_hallG h) ?_
  have h1 := dep_map edgeD 1 (fun a => Nat.le_of_eq (dep_edge a)) h.walls
  have h2 := dep_map edgeD 1 (fun a => Nat.le_of_eq (dep_edge a)) h.doors
  simp only [hallD, PyData.depth, PyData.depthAll]
  omega
theorem sh_told2 (x : Str) (hx : PyData.strOk x = true) (i : Int) : SeqAt.shaped (.tuple [.str x, .int i]) = true := shaped_of (by simpa [PyData.canLay0, PyData.canLayAll0] using hx) (by simp [PyData.depth, PyData.depthAll])
theorem sh_told3 (x : Str) (hx : PyData.strOk x = true) (i j : Int) : SeqAt.shaped (.tuple [.str x, .int i, .int j]) = true := shaped_of (by simpa [PyData.canLay0, PyData.canLayAll0] using hx) (by simp [PyData.depth, PyData.depthAll])
theorem eqv_told2 (x : Str) (i : Int) : PyData.eqv (.tuple [.str x, .int i]) (.tuple [.str x, .int i]) = true := by simp [PyData.eqv, PyData.eqvAll]
theorem eqv_told3 (x : Str) (i j : Int) : PyData.eqv (.tuple [.str x, .int i, .int j]) (.tuple [.str x, .int i, .int j]) = true := by simp [PyData.eqv, PyData.eqvAll]
abbrev nine : Rho := [none, none, none, none, none, none, none, none, none]
/-- the exceptions of this law, as its word tells them -/
structure Xs (K : PySem.W.Frag) (mg : Str → Option Value) (CH CC CR CHx : Addr) (cA : Str → Addr) : Prop where
  h : XcOk K mg CH CHx cA 4
  c : XcOk K mg CC CHx cA 0
  r : XcOk K mg CR CHx cA 6
theorem word_chk {K : PySem.W.Frag} {mg : Str → Option Value} {CH CC CR CHx : Addr} {cA : Str → Addr} (xs : Xs K mg CH CC CR CHx cA) (h : Hall) (cs : List Cell) :
    ∃ z, (∀ d, WordOf K mg CHx cA (thenO (chkStart CH CC h cs) (.ok d)) z) ∧ SeqAt.shaped z = true ∧ PyData.eqv z z = true ∧ ((z = .none ∧ chkStart CH CC h cs = none) ∨ ∃ ds, z = .tuple ds) := by
  cases hq : chkStart CH CC h cs with
  | none => exact ⟨.none, fun d => rfl, sh_non, by simp [PyData.eqv], .inl ⟨rfl, rfl⟩⟩
  | some e =>
    rcases chk_form hq with ⟨i, j, rfl⟩ | ⟨i, rfl⟩
    · exact ⟨.tuple [.str "hall", .int i, .int j], fun d => ⟨4, xs.h, .hall _ i j rfl rfl⟩, sh_told3 _ (by decide +kernel) i j, eqv_told3 _ i j, .inr ⟨_, rfl⟩⟩
    · exact ⟨.tuple [.str "cells", .int i], fun d => ⟨0, xs.c, .num 0 "cells" _ i (by decide) rfl rfl⟩, sh_told2 _ (by decide +kernel) i, eqv_told2 _ i, .inr ⟨_, rfl⟩⟩
section
variable {X : LX} {b0 : Hp} {σ : L2.St} {B H : Hp} {mg : Str → Option Value} {CH CC CR CHx : Addr} {cA : Str → Addr} {D : Ends} {v : V} {t : List Nat}
abbrev lwR (K : PySem.W.Frag) (PT : Addr) (mg : Str → Option Value) (CHx : Addr) (cA : Str → Addr) (CH CC CR : Addr) : TE := LamX.tLam (lawT PT) (TTX K mg CHx cA) (fun E => tCall (spO (RX_read CH CC CR)) [] E (tCons (tVar 8) tNil))
abbrev lwM (K : PySem.W.Frag) (PT : Addr) (mg : Str → Option Value) (CHx : Addr) (cA : Str → Addr) (CH CC : Addr) : TE := LamX.tLam (lawT PT) (TTX K mg CHx cA) (fun E => tCall (spO (RX_may CH CC)) [] E (tCons (tOp (rIx K) (tVar 7) (tC (.int 0))) (tCons (tOp (rIx K) (tVar 7) (tC (.int 1))) tNil)))
theorem law_item (xs : Xs X.K mg CH CC CR CHx cA) (hc : Chs t) (ht : t.length ≤ 4000) (x : LT X b0 σ B H nine) (dv : DH B v (wordD t)) (next : ∀ σ' B' H', LT X b0 σ' B' H' nine → D.nx σ' H') :
    (tSeq (tAsg (tCallD (spR R_due) (tCons (tVar 8) tNil)) (gName 7)) (tIfS (tTest (tOp (rEqD X.K) (tOp (rIx X.K) (tVar 7) (tC (.int 0))) (tC (.str "text")))) (tIfS (tTest (tOp (rNeD X.K) (lwR X.K X.PT mg CHx cA CH CC CR) (tVar 7))) (tRet (tC (.bl false))) tNext) (tSeq (tAsg (lwM X.K X.PT mg CHx cA CH CC) (gName 6)) (tSeq (tIfS (tTest (tOp (rNeD X.K) (lwR X.K X.PT mg CHx cA CH CC CR) (tVar 6))) (tRet (tC (.bl false))) tNext) (tIfS (tAnd (tTest (tOp rIsN (tVar 6) (tC .non))) (tNot (tB (tCallD (spR (R_alike 7)) (tCons (tCallD (spR fun ds d => RX_read CH CC CR ds (.ok d)) (tCons (tVar 8) tNil)) (tCons (tVar 7) tNil)))))) (tRet (tC (.bl false))) tNext))))) D (σ.set 8 (some v)) H := by
  have x : LT X b0 (σ.set 8 (some v)) B H [none, none, none, none, none, none, none, none, some (wordD t)] := x.set dv (by decide)
  generalize σ.set 8 (some v) = σ at x ⊢
  have fin : ∀ {a b : Option PyData} {σ B H}, LT X b0 σ B H [none, none, none, none, none, none, a, b, some (wordD t)] → D.nx σ H := fun {a b σ B H} x => next σ B H (x.less ((((Rle.refl nine).set (i := 6) (o := a) rfl).set (i := 7) (o := b) rfl).set (i := 8) (o := some (wordD t)) rfl))
  refine go_seq ?_
  refine lt_set x (ed_call (ea_cons (ed_var rfl) ea_nil) (R_due.mk t hc (by omega))) (by decide) fun σ B H x => ?_
  have x : LT X b0 σ B H [none, none, none, none, none, none, none, some (dueD t), some (wordD t)] := x
  dsimp only
  have hR : ∀ {o : Out}, o = readO CH CC CR t → RX_read CH CC CR [wordD t] o := fun e => ⟨t, rfl, hc, by omega, e⟩
  cases hs : scanT t with
  | inl n =>
    have hd : dueD t = .tuple [.str "text", .int (n : Nat)] := by unfold dueD; rw [hs]
    have hr : readO CH CC CR t = .ex (exR CR (n : Nat)) := by unfold readO; rw [hs]
    rw [hd] at x
    refine lt_if (r := true) x (ET.is (et_test (ed_op (ed_op (ed_var (d := .tuple [.str "text", .int (n : Nat)]) rfl) ed_int (r2_ixT rfl)) ed_str (r2_eq (sh_str _ (by decide +kernel)) (sh_str _ (by decide +kernel))))) (by rw [eqv_str]; simp)) (fun _ B H x => ?_) fun z => nomatch z
    refine lt_ifW (z := .tuple [.str "text", .int (n : Nat)]) (fun Q q => lt_word x (ea_cons (ed_var rfl) ea_nil) (hR hr.symm) ⟨6, xs.r, .text _ _ rfl⟩ q) rfl (sh_told2 _ (by decide +kernel) _) (eqv_told2 _ _) fun B H x => fin x
  | inr rs =>
    have hd : dueD t = .tuple [hallD (hallOf rs), cellsD (cellsOf rs)] := by unfold dueD; rw [hs]
    have hr : readO CH CC CR t = thenO (chkStart CH CC (hallOf rs) (cellsOf rs)) (.ok (.tuple [hallD (hallOf rs), cellsD (cellsOf rs)])) := by unfold readO; rw [hs]
    have hw := scan_ways hs
    obtain ⟨l1, l2, l3⟩ := scan_lens hs (by omega)
    rw [hd] at x
    generalize hallOf rs = h at *
    generalize cellsOf rs = cs at *
    obtain ⟨z, hz, sz, qz, hz2⟩ := word_chk xs h cs
    have h0 : ∀ {a : Option PyData}, ED (tOp (rIx X.K) (tVar 7) (tC (.int 0))) [none, none, none, none, none, none, a, some (.tuple [hallD h, cellsD cs]), some (wordD t)] (hallD h) := ed_op (ed_var (d := .tuple [hallD h, cellsD cs]) rfl) ed_int (r2_ixT rfl)
    have h1 : ∀ {a : Option PyData}, ED (tOp (rIx X.K) (tVar 7) (tC (.int 1))) [none, none, none, none, none, none, a, some (.tuple [hallD h, cellsD cs]), some (wordD t)] (cellsD cs) := ed_op (ed_var (d := .tuple [hallD h, cellsD cs]) rfl) ed_int (r2_ixT rfl)
    refine lt_if (r := false) x (ET.is (et_test (ed_op h0 ed_str (r2_eq (sh_hallG h) (sh_str _ (by decide +kernel))))) (by simp [hallD, PyData.eqv])) (fun z => nomatch z) fun _ B H x => ?_
    refine go_seq ?_
    refine lt_asgW (z := z) (fun Q q => lt_word x (ea_cons h0 (ea_cons h1 ea_nil)) ⟨h, cs, rfl, hw, l1, l2, l3, rfl⟩ (hz _) q) (by decide) fun σ B H x => ?_
    have x : LT X b0 σ B H [none, none, none, none, none, none, some z, some (.tuple [hallD h, cellsD cs]), some (wordD t)] := x
    dsimp only
    refine go_seq ?_
    refine lt_ifW (z := z) (fun Q q => lt_word x (ea_cons (ed_var rfl) ea_nil) (hR hr.symm) (hz _) q) rfl sz qz fun B H x => ?_
    rcases hz2 with ⟨rfl, hn⟩ | ⟨ds, rfl⟩
    · obtain ⟨ho, oc⟩ := chk_ok hw hn
      refine lt_if (r := false) x (ET.is (et_and (a := true) (b := false) (ET.is (et_test (ed_op (ed_var (d := .none) rfl) ed_non r2_isN)) rfl) fun _ => ET.is (et_not (et_B (ed_call (ea_cons (ed_call (R := fun ds d => RX_read CH CC CR ds (.ok d)) (d := .tuple [hallD h, cellsD cs]) (ea_cons (ed_var rfl) ea_nil) (hR (by rw [hr, hn]; rfl))) (ea_cons (ed_var rfl) ea_nil)) ⟨_, nice_tup (n := 6) (by simp) (fun y hy => ?_), rfl, rfl⟩))) rfl) rfl) (fun z => nomatch z) fun _ B H x => fin x
      simp only [List.mem_cons, List.not_mem_nil, or_false] at hy
      rcases hy with rfl | rfl
      · exact nice_hall 2 ho
      · exact nice_cells 3 oc
    · exact lt_if (r := false) x (ET.is (et_and (a := false) (b := false) (ET.is (et_test (ed_op (ed_var (d := .tuple ds) rfl) ed_non r2_isN)) rfl) fun z => nomatch z) rfl) (fun z => nomatch z) fun _ B H x => fin x
end
end Pd

/-! SemHD -/
set_option Elab.async false
set_option linter.all false
set_option maxRecDepth 100000
set_option maxHeartbeats 4000000
namespace Pd
open PySem PySem.Spec PyProof.Rows L2 PySem.W
local macro_rules | `(tactic| walk_at "ed") => `(tactic| repeat' (first
  | with_reducible (first
    | exact ed_int | exact ed_str | exact ed_bl | exact ed_non
    | exact ea_nil | refine' ea_cons ?_ ?_
    | refine' ed_isi ?_ ?_ | refine' ed_isi2 ?_ ?_ ?_
    | refine' ed_andV ?_ (fun _ => ?_) | refine' ed_orV ?_ (fun _ => ?_) | refine' ed_notV ?_
    | refine' ed_chain ?_ ?_ ?_ (fun _ => ⟨?_, ?_⟩)
    | refine' ed_tup ?_ ?_ | refine' ed_lst ?_ ?_
    | refine' et_not ?_ | refine' et_and ?_ (fun _ => ?_) | refine' et_or ?_ (fun _ => ?_) | exact et_yes
    | refine' et_test ?_ | refine' et_B ?_
    | refine' ed_op ?_ ?_ ?_
    | refine' ed_cb ?_ ?_)
  | exact ed_var rfl
  | exact kit_tt | exact kit_ii | exact kit_ib | exact kit_ll | exact kit_lt | exact kit_tl
  | exact r2_addI | exact r2_subI | exact r2_lt | exact r2_le | exact r2_gt | exact r2_ge | exact r2_isN | exact r2_notN
  | exact rc_lenT | exact rc_lenL | exact rc_intB | exact rc_tupL
  | with_reducible (first | refine' r2_eq ?_ ?_ | refine' r2_ne ?_ ?_)
  | exact sh_int _ | exact sh_sg _ | exact sh_cell _ | exact sh_edge _ | exact sh_pair _ | exact sh_str _ (by decide +kernel)
  | exact r2_ixT rfl | exact r2_ixL rfl
  | refine' ed_tup ?_ ?_
  | (show List.length _ ≤ 100000; simp; done)))
/-! ### a turn of the law, and all of it -/
theorem ok_rows {rs : List Rw} (h : ∀ r ∈ rs, r.Ok) : Chs (textC rs) := fun a ha => by
  rcases gl_mem ha with e | ⟨l, hl, h2⟩
  · omega
  · obtain ⟨r, hr, rfl⟩ := List.mem_map.mp hl
    have := (h r hr).chars a h2
    omega
def bnd : Nat → Nat
  | 0 => 440
  | 1 => 900
  | 2 => 1820
  | _ => 3660
theorem bnd_next {n : Nat} (h : n < 3) : 2 * bnd n + 20 ≤ bnd (n + 1) ∧ bnd n ≤ 4000 := by
  match n, h with
  | 0, _ => decide
  | 1, _ => decide
  | 2, _ => decide
theorem bnd_le (n : Nat) : bnd n ≤ 4000 := by
  match n with
  | 0 => decide
  | 1 => decide
  | 2 => decide
  | n + 3 => exact (by decide : 3660 ≤ 4000)
def TxtP (d : PyData) : Prop := ∃ t : List Nat, d = wordD t ∧ Chs t ∧ t.length ≤ 4000
def lastL : List (List Nat) := [[], [104, 97, 108, 108], [104, 97, 108, 108, 32, 49, 32, 49], [104, 97, 108, 108, 32, 50, 32, 50, 10, 97, 116, 32, 48, 32, 48, 10, 119, 97, 108, 108, 32, 49, 32, 48, 32, 45]]
theorem last_ok : ∀ l ∈ lastL, Chs l ∧ l.length ≤ 4000 := by
  have : ∀ l ∈ lastL, (∀ a ∈ l, a < 1114112) ∧ l.length ≤ 4000 := by decide
  exact this
section
variable {X : LX} {σ : L2.St} {H : Hp} {mg : Str → Option Value} {CH CC CR CHx : Addr} {cA : Str → Addr} {D : Ends} {c : Cfg} {ρ : Rho} {os : OS}
theorem lx_draw {m : Int} (hr : CK1 c X.K) (h1 : 1 ≤ m) (h2 : m ≤ 1000) : EI c (tCallD (spW X.K P_taken R_taken) (tCons (tVar 1) (tCons (tC (.int m)) tNil))) ρ os (fun d => ∃ n : Nat, d = .int n ∧ (n : Int) < m) :=
  (ei_callW1 (R := R_taken) (P' := (· = [.int m])) hr (ai_pure (ea_cons ed_int ea_nil)) (fun ds e => ⟨m, e, h1, by omega⟩)).imp fun d ⟨ds, e1, m', j, e2, e3, h3, h4⟩ => by
    rw [e1] at e2
    injection e2 with e2 _
    injection e2 with e2
    subst e2
    exact ⟨j.toNat, by rw [e3]; congr 1; omega, by omega⟩
theorem ed_last : ED (tLst (tCons (tC (.str "")) (tCons (tC (.str "hall")) (tCons (tC (.str "hall 1 1")) (tCons (tC (.str "hall 2 2\nat 0 0\nwall 1 0 -")) tNil))))) ρ (.list (lastL.map wordD)) := by
  refine ED.is (ed_lst (ea_cons ed_str (ea_cons ed_str (ea_cons ed_str (ea_cons ed_str ea_nil)))) (by simp)) ?_
  have e : ([("" : Str), "hall", "hall 1 1", "hall 2 2\nat 0 0\nwall 1 0 -"] : List Str) = lastL.map St' := by decide +kernel
  show PyData.list (([("" : Str), "hall", "hall 1 1", "hall 2 2\nat 0 0\nwall 1 0 -"] : List Str).map PyData.str) = _
  rw [e, List.map_map]
  rfl
/-- where a turn begins -/
def LS (X : LX) (σ : L2.St) (H : Hp) : Prop := ∃ b0 B, LT X b0 σ B H nine
theorem law_turn17 (xs : Xs X.K mg CH CC CR CHx cA) (x : LS X σ H) (next : ∀ σ H, LS X σ H → D.nx σ H) :
    (tSeq (tAsg (tCallD (spW X.K P_hall R_hall) (tCons (tVar 1) (tCons (tC (.int 5)) (tCons (tC (.int 6)) tNil)))) (gName 3)) (tSeq (tAsg (tCallD (spR R_written) (tCons (tVar 3) (tCons (tCallD (spW X.K P_cells R_cells) (tCons (tVar 1) (tCons (tVar 3) (tCons (tC (.int 3)) tNil)))) tNil))) (gName 4)) (tSeq (tFor (iRng1 (tCons (tCallD (spW X.K P_taken R_taken) (tCons (tVar 1) (tCons (tC (.int 4)) tNil))) tNil)) (gName 5) (tAsg (tCallD (spW X.K P_changed R_changed) (tCons (tVar 1) (tCons (tVar 4) tNil))) (gName 4))) (tFor (iList X.K (tLst (tCons (tVar 4) (tCons (tOp (rIx X.K) (tLst (tCons (tC (.str "")) (tCons (tC (.str "hall")) (tCons (tC (.str "hall 1 1")) (tCons (tC (.str "hall 2 2\nat 0 0\nwall 1 0 -")) tNil))))) (tCallD (spW X.K P_taken R_taken) (tCons (tVar 1) (tCons (tC (.int 4)) tNil)))) tNil)))) (gName 8) (tSeq (tAsg (tCallD (spR R_due) (tCons (tVar 8) tNil)) (gName 7)) (tIfS (tTest (tOp (rEqD X.K) (tOp (rIx X.K) (tVar 7) (tC (.int 0))) (tC (.str "text")))) (tIfS (tTest (tOp (rNeD X.K) (lwR X.K X.PT mg CHx cA CH CC CR) (tVar 7))) (tRet (tC (.bl false))) tNext) (tSeq (tAsg (lwM X.K X.PT mg CHx cA CH CC) (gName 6)) (tSeq (tIfS (tTest (tOp (rNeD X.K) (lwR X.K X.PT mg CHx cA CH CC CR) (tVar 6))) (tRet (tC (.bl false))) tNext) (tIfS (tAnd (tTest (tOp rIsN (tVar 6) (tC .non))) (tNot (tB (tCallD (spR (R_alike 7)) (tCons (tCallD (spR fun ds d => RX_read CH CC CR ds (.ok d)) (tCons (tVar 8) tNil)) (tCons (tVar 7) tNil)))))) (tRet (tC (.bl false))) tNext))))))))) D σ H := by
  obtain ⟨b0, B, x⟩ := x
  obtain ⟨c, hc0, w⟩ := x.w
  have hr : CK1 c X.K := ⟨hc0.r, hc0.K⟩
  have hrn : ∀ i : Nat, 1 < i → i ≠ c.r := fun i hi => by rw [hr.1]; omega
  have o : Iv c (fun _ => 0) σ B H nine [] := w.iv
  refine go_seq ?_
  refine go_asg (P := fun z => ∃ h, HallOk h ∧ z = hallD h) o ((ei_callW1 (R := R_hall) (P' := (· = [.int 5, .int 6])) hr (ai_pure (ea_cons ed_int (ea_cons ed_int ea_nil))) (fun ds e => e)).imp (fun z ⟨ds, _, r⟩ => r)) (hrn _ (by decide)) (by simp) ?_
  rintro z ⟨h, ho, rfl⟩ σ B2 H2 o
  have o : Iv c (fun _ => 0) σ B2 H2 [none, none, none, some (hallD h), none, none, none, none, none] [] := o
  dsimp only
  refine go_seq ?_
  have hcells : EI c (tCallD (spW X.K P_cells R_cells) (tCons (tVar 1) (tCons (tVar 3) (tCons (tC (.int 3)) tNil)))) [none, none, none, some (hallD h), none, none, none, none, none] [] (fun z => ∃ cs, CellsOk h cs ∧ z = cellsD cs) := by
    refine (ei_callW1 (R := R_cells) (P' := (· = [hallD h, .int 3])) hr (ai_pure (ea_cons (ed_var rfl) (ea_cons ed_int ea_nil))) (fun ds e => ⟨h, ho, e⟩)).imp ?_
    rintro z ⟨ds, rfl, h', cs, e, hc, rfl⟩
    simp only [hallD, List.cons.injEq, PyData.tuple.injEq, PyData.int.injEq] at e
    obtain ⟨⟨e1, e2, _⟩, _⟩ := e
    refine ⟨cs, ⟨hc.pos, hc.most, fun x hx => ?_, hc.nodup⟩, rfl⟩
    have := hc.cells x hx
    unfold inH at this ⊢
    rw [e1, e2]
    exact this
  refine go_asg (P := fun d => ∃ t : List Nat, d = wordD t ∧ Chs t ∧ t.length ≤ bnd 0) o (ei_callD (R := R_written) (ai_cons (ei_pure (ed_var (d := hallD h) rfl)) fun _ _ => ai_cons hcells fun _ _ => ai_nil) ?_) (hrn _ (by decide)) (by simp) ?_
  · rintro ds ⟨d, es, rfl, rfl, d2, es2, rfl, ⟨cs, hc, rfl⟩, rfl⟩
    refine ⟨_, .mk h cs ho hc, textC (rowsOf h cs), rfl, ok_rows (rows_ok ho hc), ?_⟩
    have := text_len (rows_all ho hc).len
    unfold textOf at this
    rw [st_len] at this
    exact this
  rintro d ⟨t, rfl, ht, hl⟩ σ B H o
  have o : Iv c (fun _ => 0) σ B H [none, none, none, some (hallD h), some (wordD t), none, none, none, none] [] := o
  dsimp only
  refine go_seq ?_
  refine go_rng (i := 5) (Pm := fun m => m ≤ 3) o ((lx_draw (X := X) (m := 4) hr (by decide) (by decide)).imp ?_) (hrn _ (by decide))
    (fun _ n ρ os => os = [] ∧ ∃ t : List Nat, ρ = [none, none, none, some (hallD h), some (wordD t), none, none, none, none] ∧ Chs t ∧ t.length ≤ bnd n) ?_ ?_ ?_ ?_
  · rintro d ⟨n, rfl, hn⟩
    exact ⟨n, rfl, by omega, by omega, by omega⟩
  · rintro m n ρ os ⟨rfl, _⟩
    simp
  · intro m _ _
    exact ⟨rfl, t, rfl, ht, hl⟩
  · rintro m hm n hn ρ os ⟨rfl, t, rfl, ht, hl⟩ A σ B H N o k
    have o : Iv c A σ B H [none, none, none, some (hallD h), some (wordD t), some (.int (n : Nat)), none, none, none] [] := o
    have hb := bnd_next (n := n) (by omega)
    refine go_asg (P := fun d => ∃ t' : List Nat, d = wordD t' ∧ Chs t' ∧ t'.length ≤ bnd (n + 1)) o ((ei_callW1 (R := R_changed) (P' := (· = [wordD t])) hr (ai_pure (ea_cons (ed_var rfl) ea_nil)) (fun ds e => ⟨t, e, ht, by omega⟩)).imp ?_) (hrn _ (by decide)) (by simp) ?_
    · rintro d ⟨ds, rfl, t1, t', e1, rfl, h3, h4⟩
      have : t = t1 := by
        injection e1 with e1 _
        injection e1 with e1
        exact st_inj e1
      subst this
      exact ⟨t', rfl, h3, by omega⟩
    rintro d ⟨t', rfl, h3, h4⟩ σ B H o
    have o : Iv c A σ B H [none, none, none, some (hallD h), some (wordD t'), some (.int (n : Nat)), none, none, none] [] := o
    exact k A σ B H _ _ ⟨rfl, t', rfl, h3, h4⟩ (o.less ((Rle.refl [none, none, none, some (hallD h), some (wordD t'), none, none, none, none]).set (i := 5) (o := some (.int (n : Nat))) rfl))
  rintro m _ hm ρ os ⟨rfl, t, rfl, ht, hl⟩ A σ B H o
  have hl := Nat.le_trans hl (bnd_le _)
  dsimp only
  have hlist : EI c (tLst (tCons (tVar 4) (tCons (tOp (rIx X.K) (tLst (tCons (tC (.str "")) (tCons (tC (.str "hall")) (tCons (tC (.str "hall 1 1")) (tCons (tC (.str "hall 2 2\nat 0 0\nwall 1 0 -")) tNil))))) (tCallD (spW X.K P_taken R_taken) (tCons (tVar 1) (tCons (tC (.int 4)) tNil)))) tNil))) [none, none, none, some (hallD h), some (wordD t), none, none, none, none] [] (fun d => ∃ ts : List (List Nat), d = .list (ts.map wordD) ∧ ∀ t ∈ ts, Chs t ∧ t.length ≤ 4000) := by
    refine (ei_lst (ai_cons (ei_pure (ed_var (d := wordD t) rfl)) fun _ _ => ai_cons (ei_op (Pa := (· = .list (lastL.map wordD))) (P := fun d => ∃ l ∈ lastL, d = wordD l) (ei_pure ed_last) (fun _ _ => lx_draw (X := X) (m := 4) hr (by decide) (by decide)) ?_) fun _ _ => ai_nil) ?_).imp ?_
    · rintro a b rfl ⟨i, rfl, hi⟩
      have hi5 : i < lastL.length := by show i < 4; omega
      exact ⟨_, r2_ixL (atI_nat (by rw [List.getElem?_map, List.getElem?_eq_getElem hi5]; rfl)), _, List.getElem_mem hi5, rfl⟩
    · rintro ds ⟨d, es, rfl, _, e, es2, rfl, _, rfl⟩
      simp
    · rintro d ⟨ds, rfl, d1, es, rfl, rfl, d2, es2, rfl, ⟨l, hl2, rfl⟩, rfl⟩
      refine ⟨[t, l], rfl, fun t' ht' => ?_⟩
      simp only [List.mem_cons, List.not_mem_nil, or_false] at ht'
      rcases ht' with rfl | rfl
      · exact ⟨ht, hl⟩
      · exact last_ok _ hl2
  change tLst _ σ H (fun v H1 => tFor (iList X.K (tC v)) (gName 8) _ D σ H1)
  refine hlist _ σ B H o _ fun v d B1 H1 o1 ex1 dv ⟨ts, e, hts⟩ => ?_
  subst e
  have x1 : LT X (noTbl B1) σ B1 H1 nine := ⟨noT_noTbl B1, noTbl_ex B1, c, hc0, ⟨o1.no, w.tb, w.rl⟩⟩ |> fun (z : LT X (noTbl B1) σ B1 H1 [none, none, none, some (hallD h), some (wordD t), none, none, none, none]) => z.less (((Rle.refl nine).set (i := 3) (o := some (hallD h)) rfl).set (i := 4) (o := some (wordD t)) rfl)
  exact lt_for wordD x1 dv (fun y hy b0 σ B H N v' x dv' nx => law_item xs (hts y hy).1 (hts y hy).2 x dv' nx) fun σ B H x => next σ H ⟨_, B, x⟩
end
def sp_law (K : PySem.W.Frag) (T : List (Addr × Str)) : Sp := fun vs H Q _ => ∃ (sc : Addr) (ns : List Int), vs = [.ref sc] ∧ SqL K H sc (ns.map V.int) ∧ LamX.Tabs T H ∧ ∀ H', Q (.bl true) H'
abbrev N17 : List Str := ["_law_script", "_law_row", "_law_turn", "_law_hall_here", "_law_text", "_law_change", "_law_word_here", "_law_due_here", "_law_one"]
theorem rp_law {K : PySem.W.Frag} {mg : Str → Option Value} {PT CH CC CR CHx : Addr} {cA : Str → Addr} {vs : List V} {H : Hp} {Q : VK} {E : XK} (xs : Xs K mg CH CC CR CHx cA) (hsp : sp_law K (lawT PT) vs H Q E) :
    rd_law17 K (lwR K PT mg CHx cA CH CC CR) (lwR K PT mg CHx cA CH CC CR) (lwM K PT mg CHx cA CH CC) (spR (R_alike 7)) (spW K P_cells R_cells) (spW K P_changed R_changed) (spR R_due) (spW K P_hall R_hall) (spW K P_taken R_taken) (spR fun ds d => RX_read CH CC CR ds (.ok d)) (spR R_written) { nx := fun _ H' => Q .non H', rt := Q } (L2.start N17 vs) H := by
  obtain ⟨sc, ns, rfl, hs, tb, q⟩ := hsp
  have h0 : (L2.start N17 [V.ref sc])[0]? = some (some (.ref sc)) := rfl
  have hlen : (L2.start N17 [V.ref sc]).length = 9 := rfl
  generalize L2.start N17 [V.ref sc] = σ at h0 hlen ⊢
  unfold rd_law17
  refine go_seq ?_
  refine ⟨.ref sc, h0, ⟨by show 4 ≤ sizeLine; decide, fun l hl => ?_⟩⟩
  have hnB : noTbl H l = none := by
    cases z : noTbl H l with
    | none => rfl
    | some u =>
      have := noTbl_ex H l u z
      rw [hl] at this
      cases this
  have scr : SqL K (noTbl H) sc (ns.map V.int) := by
    rcases hs with (e | ⟨u, e⟩) | e
    · exact .inl (.inl (noTbl_of e (fun _ z => nomatch z)))
    · exact .inl (.inr ⟨u, noTbl_of e (fun _ z => nomatch z)⟩)
    · exact .inr e
  let c : Cfg := ⟨K, 1, l, sc, ns, noTbl H, upd H l (.lst [.ref sc, .int 0, .int 0, .int 0])⟩
  have tb0 : LamX.Tabs (lawT PT) (upd H l (.lst [.ref sc, .int 0, .int 0, .int 0])) := tb.ext fun b o e => Ex.new hl _ _ e
  have o : Iv c (fun _ => 0) (σ.set 1 (some (.ref l))) (noTbl H) (upd H l (.lst [.ref sc, .int 0, .int 0, .int 0])) nine [] := by
    refine ⟨⟨(noTbl_ex H).mut hnB, ⟨0, 0, 0, upd_same, by omega, by omega, by omega⟩, scr, hnB⟩, ⟨Ex.refl _, fun _ _ _ e => e, fun _ e _ => e⟩, ⟨by rw [List.length_set, hlen]; rfl, fun i z e => ?_⟩, List.getElem?_set_self (by rw [hlen]; decide), (fun p hp => nomatch hp), (fun p hp => nomatch hp)⟩
    have e : (List.replicate 9 (none : Option PyData))[i]? = some (some z) := e
    rw [List.getElem?_replicate] at e
    split at e
    · cases e
    · cases e
  dsimp only
  refine go_seq ?_
  show tFor _ (gName 2) _ _ (σ.set 1 (some (.ref l))) _
  generalize σ.set 1 (some (.ref l)) = σ at o ⊢
  have x : LS ⟨K, PT, l, sc, ns⟩ σ (upd H l (.lst [.ref sc, .int 0, .int 0, .int 0])) := ⟨noTbl H, noTbl H, noT_noTbl H, Ex.refl _, c, ⟨rfl, rfl, rfl, rfl, rfl⟩, ⟨o, tb0, 0, 0, 0, upd_same⟩⟩
  generalize upd H l (.lst [.ref sc, .int 0, .int 0, .int 0]) = H1 at x
  refine ⟨4, rfl, by decide, by decide, ?_⟩
  refine ⟨fun n m σ H => m = 4 - n ∧ n ≤ 4 ∧ LS ⟨K, PT, l, sc, ns⟩ σ H, ⟨4, rfl, by decide, x⟩, ?_⟩
  rintro n m σ H ⟨rfl, hle, x⟩
  by_cases hlt : n < 4
  · right
    refine ⟨hlt, fun σ H => n + 1 ≤ 4 ∧ LS ⟨K, PT, l, sc, ns⟩ σ H, fun σ2 H2 ⟨q1, q2⟩ => ⟨4 - (n + 1), by omega, rfl, q1, q2⟩, fun y H2 hy => ?_⟩
    obtain ⟨rfl, e⟩ := hy
    have e0 : (0 : Int) + ((n : Nat) : Int) = (n : Int) := Int.zero_add _
    rw [e0] at e
    subst e
    obtain ⟨b0, B, x⟩ := x
    exact law_turn17 (X := ⟨K, PT, l, sc, ns⟩) xs ⟨b0, B, (x.set (i := 2) (.int _) (by decide)).less ((Rle.refl nine).set (i := 2) rfl)⟩ fun σ H x => ⟨hlt, x⟩
  · left
    have : n = 4 := by omega
    subst this
    exact ⟨Nat.le_refl 4, q _⟩
end Pd

/-! D17 -/
set_option Elab.async false
set_option linter.all false
set_option maxRecDepth 100000
set_option maxHeartbeats 4000000
/-! each def keeps its promise -/
namespace Pd
open PySem PySem.Spec PyProof.Rows L2 LamX
structure Ats (K : PySem.W.Frag) (mg : Str → Option Value) : Prop where
  is_number : At K mg "is_number" s_is_number p_is_number
  is_side : At K mg "is_side" s_is_side p_is_side
  is_cell : At K mg "is_cell" s_is_cell p_is_cell
  is_edge : At K mg "is_edge" s_is_edge p_is_edge
  edge_from : At K mg "edge_from" s_edge_from p_edge_from
  edge_crossed : At K mg "edge_crossed" s_edge_crossed p_edge_crossed
  next_cell : At K mg "next_cell" s_next_cell p_next_cell
  door_edge : At K mg "door_edge" s_door_edge p_door_edge
  check_edges : At K mg "check_edges" s_check_edges p_check_edges
  check_hall : At K mg "check_hall" s_check_hall p_check_hall
  check_cells : At K mg "check_cells" s_check_cells p_check_cells
  check_start : At K mg "check_start" s_check_start p_check_start
  first_standing : At K mg "first_standing" s_first_standing p_first_standing
  door_edges : At K mg "door_edges" s_door_edges p_door_edges
  swung_ways : At K mg "swung_ways" s_swung_ways p_swung_ways
  step_done : At K mg "step_done" s_step_done p_step_done
  moves_from : At K mg "moves_from" s_moves_from p_moves_from
  may : At K mg "may" s_may p_may
  written : At K mg "written" s_written p_written
  is_figure : At K mg "is_figure" s_is_figure p_is_figure
  is_row : At K mg "is_row" s_is_row p_is_row
  thing_of : At K mg "thing_of" s_thing_of p_thing_of
  things_of : At K mg "things_of" s_things_of p_things_of
  read : At K mg "read" s_read p_read
  L_taken : At K mg "_law_taken" s_L_taken p_L_taken
  L_pair : At K mg "_law_pair" s_L_pair p_L_pair
  L_shut : At K mg "_law_shut" s_L_shut p_L_shut
  L_within : At K mg "_law_within" s_L_within p_L_within
  L_hall : At K mg "_law_hall" s_L_hall p_L_hall
  L_cells : At K mg "_law_cells" s_L_cells p_L_cells
  L_alike : At K mg "_law_alike" s_L_alike p_L_alike
  L_due : At K mg "_law_due" s_L_due p_L_due
  L_changed : At K mg "_law_changed" s_L_changed p_L_changed
  law : At K mg "law" s_law p_law
/-- a promise whose exceptions are never wanted -/
theorem fn_noexc {P : Program} {w : World} {K : PySem.W.Frag} {mg : Str → Option Value} {base : Heap} {k : Nat} {f : Addr} {fd : FuncData} {ps : List Str} {sp : Sp} (F : FnOk P w K mg base (L2.CX P w) k f fd ps sp) : FnOk P w K mg base CX0 k f fd ps (fun vs H Q _ => sp vs H Q (fun _ _ _ => False)) :=
  ⟨fun vs H Q E h => F.len vs H Q _ h, fun A outer s H args us vs Q E hr e0 hb hv hs => codeAny_mono (F.run A outer s H args us vs Q (fun _ _ _ => False) hr e0 hb hv hs) fun r s' hq => by
    cases r with
    | error e =>
      obtain ⟨_, _, _, _, _, _, _, _, _, _, _, _, z⟩ := hq
      exact z.elim
    | ok fl => cases fl <;> exact hq⟩
theorem def_okX {P : Program} {w : World} {K : PySem.W.Frag} {mg : Str → Option Value} {base : Heap} {x : Str} {st : Stmt} {ps N : List Str} {k : Nat} {sp : Sp} (F : At K mg x st ps) (S : FnScope N ps (defScope st)) (len : ∀ vs H Q E, sp vs H Q E → vs.length = ps.length)
    (hbody : ∀ (f : Addr) (cdv : Value) (A : Around) (outer : List Env) (s : Shared) (H : Hp) (vs : List V) (Q : VK) (E : XK), Room k (A.deeper (envOfC x (defScope st) s.heap.objs.size f cdv)) → sp vs H Q E →
      ∃ t, PSs (cxOf (L2.CX P w) P w K mg base N x (defScope st) f cdv A outer s H E) (defBody st) t ∧ t { nx := fun _ H' => Q .non H', rt := Q } (L2.start N vs) H) : DefS P w K mg base (L2.CX P w) (k + 1) x ps sp := by
  obtain ⟨f, fd, h1, h2, h3⟩ := F
  exact ⟨f, fd, h1, h2.kp, h3, h2.okX S len (hbody f)⟩
theorem DefS.noexc {P : Program} {w : World} {K : PySem.W.Frag} {mg : Str → Option Value} {base : Heap} {x : Str} {ps : List Str} {k : Nat} {R : List PyData → Out → Prop} (G : DefS P w K mg base (L2.CX P w) k x ps (spO R)) : DefS P w K mg base CX0 k x ps (spR fun ds d => R ds (.ok d)) := by
  obtain ⟨f, fd, h1, h2, h3, h4⟩ := G
  have h5 := fn_noexc h4
  refine ⟨f, fd, h1, h2, h3, ⟨fun vs H Q E ⟨B, ds, d, ex, hd, hR, q⟩ => h5.len vs H Q E ⟨B, ds, .ok d, ex, hd, hR, q⟩, fun A outer s H args us vs Q E hr e0 hb hv ⟨B, ds, d, ex, hd, hR, q⟩ => h5.run A outer s H args us vs Q E hr e0 hb hv ⟨B, ds, .ok d, ex, hd, hR, q⟩⟩⟩
theorem G_is_number {P : Program} {w : World} {K : PySem.W.Frag} {mg : Str → Option Value} {base : Heap} {aWAYS aKINDS aSIGNS : Addr} (T : Txt K mg w aWAYS aKINDS aSIGNS) (F : Ats K mg) : DefS P w K mg base CX0 1 "is_number" p_is_number (spR R_is_number) :=
  def_okD F.is_number sc_is_number (fun ds d h => by cases h; rfl) fun f cdv A outer s H E hr => ⟨_, bd_is_number T hr, fun ds d h => rp_is_number h⟩
theorem G_is_side {P : Program} {w : World} {K : PySem.W.Frag} {mg : Str → Option Value} {base : Heap} {aWAYS aKINDS aSIGNS : Addr} (T : Txt K mg w aWAYS aKINDS aSIGNS) (F : Ats K mg) : DefS P w K mg base CX0 2 "is_side" p_is_side (spR R_is_side) :=
  def_okD F.is_side sc_is_side (fun ds d h => by cases h; rfl) fun f cdv A outer s H E hr => ⟨_, bd_is_side T hr (G_is_number T F), fun ds d h => rp_is_side h⟩
theorem G_is_cell {P : Program} {w : World} {K : PySem.W.Frag} {mg : Str → Option Value} {base : Heap} {aWAYS aKINDS aSIGNS : Addr} (T : Txt K mg w aWAYS aKINDS aSIGNS) (F : Ats K mg) : DefS P w K mg base CX0 2 "is_cell" p_is_cell (spR R_is_cell) :=
  def_okD F.is_cell sc_is_cell (fun ds d h => by cases h; rfl) fun f cdv A outer s H E hr => ⟨_, bd_is_cell T hr (G_is_number T F), fun ds d h => rp_is_cell h⟩
theorem G_is_edge {P : Program} {w : World} {K : PySem.W.Frag} {mg : Str → Option Value} {base : Heap} {aWAYS aKINDS aSIGNS : Addr} (T : Txt K mg w aWAYS aKINDS aSIGNS) (F : Ats K mg) : DefS P w K mg base CX0 3 "is_edge" p_is_edge (spR R_is_edge) :=
  def_okD F.is_edge sc_is_edge (fun ds d h => by cases h; rfl) fun f cdv A outer s H E hr => ⟨_, bd_is_edge T hr (G_is_cell T F), fun ds d h => rp_is_edge h⟩
theorem G_edge_from {P : Program} {w : World} {K : PySem.W.Frag} {mg : Str → Option Value} {base : Heap} {aWAYS aKINDS aSIGNS : Addr} (T : Txt K mg w aWAYS aKINDS aSIGNS) (F : Ats K mg) : DefS P w K mg base CX0 1 "edge_from" p_edge_from (spR R_edge_from) :=
  def_okD F.edge_from sc_edge_from (fun ds d h => by cases h; rfl) fun f cdv A outer s H E hr => ⟨_, bd_edge_from T hr, fun ds d h => rp_edge_from h⟩
theorem G_edge_crossed {P : Program} {w : World} {K : PySem.W.Frag} {mg : Str → Option Value} {base : Heap} {aWAYS aKINDS aSIGNS : Addr} (T : Txt K mg w aWAYS aKINDS aSIGNS) (F : Ats K mg) : DefS P w K mg base CX0 1 "edge_crossed" p_edge_crossed (spR R_edge_crossed) :=
  def_okD F.edge_crossed sc_edge_crossed (fun ds d h => by cases h; rfl) fun f cdv A outer s H E hr => ⟨_, bd_edge_crossed T hr, fun ds d h => rp_edge_crossed h⟩
theorem G_next_cell {P : Program} {w : World} {K : PySem.W.Frag} {mg : Str → Option Value} {base : Heap} {aWAYS aKINDS aSIGNS : Addr} (T : Txt K mg w aWAYS aKINDS aSIGNS) (F : Ats K mg) : DefS P w K mg base CX0 1 "next_cell" p_next_cell (spR R_next_cell) :=
  def_okD F.next_cell sc_next_cell (fun ds d h => by cases h; rfl) fun f cdv A outer s H E hr => ⟨_, bd_next_cell T hr, fun ds d h => rp_next_cell h⟩
theorem G_door_edge {P : Program} {w : World} {K : PySem.W.Frag} {mg : Str → Option Value} {base : Heap} {aWAYS aKINDS aSIGNS : Addr} (T : Txt K mg w aWAYS aKINDS aSIGNS) (F : Ats K mg) : DefS P w K mg base CX0 2 "door_edge" p_door_edge (spR R_door_edge) :=
  def_okD F.door_edge sc_door_edge (fun ds d h => by cases h; rfl) fun f cdv A outer s H E hr => ⟨_, bd_door_edge T hr (G_edge_from T F) (G_is_number T F), fun ds d h => rp_door_edge T.s_WAYS h⟩
theorem G_check_edges {P : Program} {w : World} {K : PySem.W.Frag} {mg : Str → Option Value} {base : Heap} {aWAYS aKINDS aSIGNS : Addr} (T : Txt K mg w aWAYS aKINDS aSIGNS) (F : Ats K mg) : DefS P w K mg base CX0 4 "check_edges" p_check_edges (spR (RN R_check_edges)) :=
  def_okN F.check_edges sc_check_edges (fun ds h => by
    unfold R_check_edges at h
    obtain ⟨_, _, _, _, _, _, rfl, _⟩ := h
    rfl) fun f cdv A outer s H E hr => ⟨_, bd_check_edges T hr (G_is_edge T F), fun ds h => rp_check_edges h⟩
theorem G_check_hall {P : Program} {w : World} {K : PySem.W.Frag} {mg : Str → Option Value} {base : Heap} {aWAYS aKINDS aSIGNS : Addr} (T : Txt K mg w aWAYS aKINDS aSIGNS) (F : Ats K mg) : DefS P w K mg base CX0 5 "check_hall" p_check_hall (spR (RN R_check_hall)) :=
  def_okN F.check_hall sc_check_hall (fun ds h => by
    unfold R_check_hall at h
    obtain ⟨_, rfl, _⟩ := h
    rfl) fun f cdv A outer s H E hr => ⟨_, bd_check_hall T hr (G_check_edges T F) (G_door_edge T F) (G_is_side T F), fun ds h => rp_check_hall h⟩
theorem G_check_cells {P : Program} {w : World} {K : PySem.W.Frag} {mg : Str → Option Value} {base : Heap} {aWAYS aKINDS aSIGNS : Addr} (T : Txt K mg w aWAYS aKINDS aSIGNS) (F : Ats K mg) : DefS P w K mg base CX0 3 "check_cells" p_check_cells (spR (RN R_check_cells)) :=
  def_okN F.check_cells sc_check_cells (fun ds h => by
    unfold R_check_cells at h
    obtain ⟨_, _, rfl, _⟩ := h
    rfl) fun f cdv A outer s H E hr => ⟨_, bd_check_cells T hr (G_is_cell T F), fun ds h => rp_check_cells h⟩
theorem G_check_start {P : Program} {w : World} {K : PySem.W.Frag} {mg : Str → Option Value} {base : Heap} {aWAYS aKINDS aSIGNS : Addr} (T : Txt K mg w aWAYS aKINDS aSIGNS) (F : Ats K mg) : DefS P w K mg base CX0 6 "check_start" p_check_start (spR (RN R_check_start)) :=
  def_okN F.check_start sc_check_start (fun ds h => by
    unfold R_check_start at h
    obtain ⟨_, _, rfl, _⟩ := h
    rfl) fun f cdv A outer s H E hr => ⟨_, bd_check_start T hr (G_check_cells T F) (G_check_hall T F), fun ds h => rp_check_start h⟩
theorem G_first_standing {P : Program} {w : World} {K : PySem.W.Frag} {mg : Str → Option Value} {base : Heap} {aWAYS aKINDS aSIGNS : Addr} (T : Txt K mg w aWAYS aKINDS aSIGNS) (F : Ats K mg) : DefS P w K mg base CX0 1 "first_standing" p_first_standing (spR R_first_standing) :=
  def_okD F.first_standing sc_first_standing (fun ds d h => by cases h; rfl) fun f cdv A outer s H E hr => ⟨_, bd_first_standing T hr, fun ds d h => rp_first_standing h⟩
theorem G_door_edges {P : Program} {w : World} {K : PySem.W.Frag} {mg : Str → Option Value} {base : Heap} {aWAYS aKINDS aSIGNS : Addr} (T : Txt K mg w aWAYS aKINDS aSIGNS) (F : Ats K mg) : DefS P w K mg base CX0 2 "door_edges" p_door_edges (spR R_door_edges) :=
  def_okD F.door_edges sc_door_edges (fun ds d h => by cases h; rfl) fun f cdv A outer s H E hr => ⟨_, bd_door_edges T hr (G_edge_from T F), fun ds d h => rp_door_edges h⟩
theorem G_swung_ways {P : Program} {w : World} {K : PySem.W.Frag} {mg : Str → Option Value} {base : Heap} {aWAYS aKINDS aSIGNS : Addr} (T : Txt K mg w aWAYS aKINDS aSIGNS) (F : Ats K mg) : DefS P w K mg base CX0 4 "swung_ways" p_swung_ways (spR R_swung_ways) :=
  def_okD F.swung_ways sc_swung_ways (fun ds d h => by cases h; rfl) fun f cdv A outer s H E hr => ⟨_, bd_swung_ways T hr (G_door_edges T F) (G_edge_from T F) (G_is_edge T F), fun ds d h => rp_swung_ways h⟩
theorem G_step_done {P : Program} {w : World} {K : PySem.W.Frag} {mg : Str → Option Value} {base : Heap} {aWAYS aKINDS aSIGNS : Addr} (T : Txt K mg w aWAYS aKINDS aSIGNS) (F : Ats K mg) : DefS P w K mg base CX0 5 "step_done" p_step_done (spR R_step_done) :=
  def_okD F.step_done sc_step_done (fun ds d h => by cases h; rfl) fun f cdv A outer s H E hr => ⟨_, bd_step_done T hr (G_door_edges T F) (G_edge_crossed T F) (G_is_cell T F) (G_next_cell T F) (G_swung_ways T F), fun ds d h => rp_step_done h⟩
theorem G_moves_from {P : Program} {w : World} {K : PySem.W.Frag} {mg : Str → Option Value} {base : Heap} {aWAYS aKINDS aSIGNS : Addr} (T : Txt K mg w aWAYS aKINDS aSIGNS) (F : Ats K mg) : DefS P w K mg base CX0 6 "moves_from" p_moves_from (spR R_moves) :=
  def_okD F.moves_from sc_moves_from (fun ds d h => by cases h; rfl) fun f cdv A outer s H E hr => ⟨_, bd_moves_from T hr (G_step_done T F), fun ds d h => rp_moves_from T.s_WAYS h⟩
theorem tabs_of {K : PySem.W.Frag} {mg : Str → Option Value} {w : World} {aWAYS aKINDS aSIGNS : Addr} (T : Txt K mg w aWAYS aKINDS aSIGNS) : Tabs K w aKINDS aSIGNS := ⟨T.s_KINDS, T.t_KINDS, T.k_SIGNS, T.n_hall, T.n_at, T.d_wall, T.d_door⟩
theorem G_written {P : Program} {w : World} {K : PySem.W.Frag} {mg : Str → Option Value} {base : Heap} {aWAYS aKINDS aSIGNS : Addr} (T : Txt K mg w aWAYS aKINDS aSIGNS) (F : Ats K mg) : DefS P w K mg base CX0 7 "written" p_written (spR R_written) :=
  def_okD F.written sc_written (fun ds d h => by cases h; rfl) fun f cdv A outer s H E hr => ⟨_, bd_written T hr (G_check_start T F), fun ds d h => rp_written h⟩
theorem G_is_figure {P : Program} {w : World} {K : PySem.W.Frag} {mg : Str → Option Value} {base : Heap} {aWAYS aKINDS aSIGNS : Addr} (T : Txt K mg w aWAYS aKINDS aSIGNS) (F : Ats K mg) : DefS P w K mg base CX0 1 "is_figure" p_is_figure (spR R_figG) :=
  def_okD F.is_figure sc_is_figure (fun ds d h => by cases h; rfl) fun f cdv A outer s H E hr => ⟨_, bd_is_figure T hr, fun ds d h => rp_figG h⟩
theorem G_is_row {P : Program} {w : World} {K : PySem.W.Frag} {mg : Str → Option Value} {base : Heap} {aWAYS aKINDS aSIGNS : Addr} (T : Txt K mg w aWAYS aKINDS aSIGNS) (F : Ats K mg) : DefS P w K mg base CX0 2 "is_row" p_is_row (spR R_rowG) :=
  def_okD F.is_row sc_is_row (fun ds d h => by cases h; rfl) fun f cdv A outer s H E hr => ⟨_, bd_is_row T hr (G_is_figure T F), fun ds d h => rp_rowG (tabs_of T) h⟩
theorem G_thing_of {P : Program} {w : World} {K : PySem.W.Frag} {mg : Str → Option Value} {base : Heap} {aWAYS aKINDS aSIGNS : Addr} (T : Txt K mg w aWAYS aKINDS aSIGNS) (F : Ats K mg) : DefS P w K mg base CX0 1 "thing_of" p_thing_of (spR R_thing_of) :=
  def_okD F.thing_of sc_thing_of (fun ds d h => by cases h; rfl) fun f cdv A outer s H E hr => ⟨_, bd_thing_of T hr, fun ds d h => rp_thing_of h⟩
theorem G_L_taken {P : Program} {w : World} {K : PySem.W.Frag} {mg : Str → Option Value} {base : Heap} {aWAYS aKINDS aSIGNS : Addr} (T : Txt K mg w aWAYS aKINDS aSIGNS) (F : Ats K mg) : DefS P w K mg base CX0 1 "_law_taken" p_L_taken (spW K P_taken R_taken) :=
  def_ok F.L_taken sc_L_taken (fun vs H Q E h => by
    obtain ⟨l, sc, ns, B, ws, ds, rfl, hd, _, ⟨m, rfl, _⟩, _⟩ := h
    rw [List.length_cons, hd.length]
    rfl) fun f cdv A outer s H vs Q E hr h => ⟨_, bd_L_taken T hr, rp_L_taken (sp_taken h)⟩
theorem G_L_pair {P : Program} {w : World} {K : PySem.W.Frag} {mg : Str → Option Value} {base : Heap} {aWAYS aKINDS aSIGNS : Addr} (T : Txt K mg w aWAYS aKINDS aSIGNS) (F : Ats K mg) : DefS P w K mg base CX0 1 "_law_pair" p_L_pair (spR R_L_pair) :=
  def_okD F.L_pair sc_L_pair (fun ds d h => by cases h; rfl) fun f cdv A outer s H E hr => ⟨_, bd_L_pair T hr, fun ds d h => rp_L_pair h⟩
theorem G_L_shut {P : Program} {w : World} {K : PySem.W.Frag} {mg : Str → Option Value} {base : Heap} {aWAYS aKINDS aSIGNS : Addr} (T : Txt K mg w aWAYS aKINDS aSIGNS) (F : Ats K mg) : DefS P w K mg base CX0 1 "_law_shut" p_L_shut (spR R_L_shut) :=
  def_okD F.L_shut sc_L_shut (fun ds d h => by cases h; rfl) fun f cdv A outer s H E hr => ⟨_, bd_L_shut T hr, fun ds d h => rp_L_shut h⟩
theorem G_L_within {P : Program} {w : World} {K : PySem.W.Frag} {mg : Str → Option Value} {base : Heap} {aWAYS aKINDS aSIGNS : Addr} (T : Txt K mg w aWAYS aKINDS aSIGNS) (F : Ats K mg) : DefS P w K mg base CX0 1 "_law_within" p_L_within (spR R_L_within) :=
  def_okD F.L_within sc_L_within (fun ds d h => by cases h; rfl) fun f cdv A outer s H E hr => ⟨_, bd_L_within T hr, fun ds d h => rp_L_within h⟩
theorem G_L_hall {P : Program} {w : World} {K : PySem.W.Frag} {mg : Str → Option Value} {base : Heap} {aWAYS aKINDS aSIGNS : Addr} (T : Txt K mg w aWAYS aKINDS aSIGNS) (F : Ats K mg) : DefS P w K mg base CX0 2 "_law_hall" p_L_hall (spW K P_hall R_hall) :=
  def_ok F.L_hall sc_L_hall (fun vs H Q E h => by
    obtain ⟨l, sc, ns, B, ws, ds, rfl, hd, _, hp, _⟩ := h
    rw [List.length_cons, hd.length, show ds = _ from hp]
    rfl) fun f cdv A outer s H vs Q E hr h => ⟨_, bd_L_hall T hr (G_L_pair T F) (G_L_shut T F) (G_L_taken T F) (G_L_within T F), rp_L_hall h⟩
theorem G_L_cells {P : Program} {w : World} {K : PySem.W.Frag} {mg : Str → Option Value} {base : Heap} {aWAYS aKINDS aSIGNS : Addr} (T : Txt K mg w aWAYS aKINDS aSIGNS) (F : Ats K mg) : DefS P w K mg base CX0 2 "_law_cells" p_L_cells (spW K P_cells R_cells) :=
  def_ok F.L_cells sc_L_cells (fun vs H Q E h => by
    obtain ⟨l, sc, ns, B, ws, ds, rfl, hd, _, ⟨h0, _, hp⟩, _⟩ := h
    rw [List.length_cons, hd.length, show ds = _ from hp]
    rfl) fun f cdv A outer s H vs Q E hr h => ⟨_, bd_L_cells T hr (G_L_taken T F), rp_L_cells h⟩
theorem G_L_alike {P : Program} {w : World} {K : PySem.W.Frag} {mg : Str → Option Value} {base : Heap} {aWAYS aKINDS aSIGNS : Addr} (T : Txt K mg w aWAYS aKINDS aSIGNS) (F : Ats K mg) : ∀ n : Nat, DefS P w K mg base CX0 (n + 1) "_law_alike" p_L_alike (spR (R_alike n))
  | 0 => def_ok F.L_alike sc_L_alike (fun vs H Q E h => by
      obtain ⟨B, ds, d, _, _, ⟨x, hx, _⟩, _⟩ := h
      exact hx.elim) fun f cdv A outer s H vs Q E hr h => by
      obtain ⟨B, ds, d, _, _, ⟨x, hx, _⟩, _⟩ := h
      exact hx.elim
  | n + 1 => def_okD F.L_alike sc_L_alike (fun ds d h => by
      obtain ⟨x, _, rfl, _⟩ := h
      rfl) fun f cdv A outer s H E hr => ⟨_, bd_L_alike T hr (G_L_alike T F n), fun ds d h => rp_L_alike h⟩
theorem G_L_due {P : Program} {w : World} {K : PySem.W.Frag} {mg : Str → Option Value} {base : Heap} {aWAYS aKINDS aSIGNS : Addr} (T : Txt K mg w aWAYS aKINDS aSIGNS) (F : Ats K mg) : DefS P w K mg base CX0 1 "_law_due" p_L_due (spR R_due) :=
  def_okD F.L_due sc_L_due (fun ds d h => by cases h; rfl) fun f cdv A outer s H E hr => ⟨_, bd_L_due T hr, fun ds d h => rp_L_due h⟩
theorem G_L_changed {P : Program} {w : World} {K : PySem.W.Frag} {mg : Str → Option Value} {base : Heap} {aWAYS aKINDS aSIGNS : Addr} (T : Txt K mg w aWAYS aKINDS aSIGNS) (F : Ats K mg) : DefS P w K mg base CX0 2 "_law_changed" p_L_changed (spW K P_changed R_changed) :=
  def_ok F.L_changed sc_L_changed (fun vs H Q E h => by
    obtain ⟨l, sc, ns, B, ws, ds, rfl, hd, _, ⟨t, rfl, _⟩, _⟩ := h
    rw [List.length_cons, hd.length]
    rfl) fun f cdv A outer s H vs Q E hr h => ⟨_, bd_L_changed T hr (G_L_taken T F), rp_L_changed h⟩
theorem X_check_edges {P : Program} {w : World} {K : PySem.W.Frag} {mg : Str → Option Value} {base : Heap} {aWAYS aKINDS aSIGNS : Addr} (T : Txt K mg w aWAYS aKINDS aSIGNS) (F : Ats K mg) {CH : Addr} (XH : ExS P w K mg base "BadHall" CH ["self", "part", "number"] (sp_initH CH)) : DefS P w K mg base (L2.CX P w) 4 "check_edges" p_check_edges (spO (RX_edges CH)) :=
  def_okO F.check_edges sc_check_edges (fun ds o h => by
    obtain ⟨_, _, _, _, _, _, rfl, _⟩ := h
    rfl) fun f cdv A outer s H E hr => ⟨_, bx_check_edges T XH hr (G_is_edge T F), fun ds o hR σ B H Q ex ev ft => (by obtain ⟨x, ρ', rfl, hx⟩ := rx_edges hR; exact xd_end hx ex ev ft)⟩
theorem X_check_hall {P : Program} {w : World} {K : PySem.W.Frag} {mg : Str → Option Value} {base : Heap} {aWAYS aKINDS aSIGNS : Addr} (T : Txt K mg w aWAYS aKINDS aSIGNS) (F : Ats K mg) {CH : Addr} (XH : ExS P w K mg base "BadHall" CH ["self", "part", "number"] (sp_initH CH)) : DefS P w K mg base (L2.CX P w) 5 "check_hall" p_check_hall (spO (RX_hall CH)) :=
  def_okO F.check_hall sc_check_hall (fun ds o h => by
    obtain ⟨_, rfl, _⟩ := h
    rfl) fun f cdv A outer s H E hr => ⟨_, bx_check_hall T XH hr (G_door_edge T F) (G_is_side T F) (X_check_edges T F XH), fun ds o hR σ B H Q ex ev ft => (by obtain ⟨x, ρ', rfl, hx⟩ := rx_hall hR; exact xd_end hx ex ev ft)⟩
theorem X_check_cells {P : Program} {w : World} {K : PySem.W.Frag} {mg : Str → Option Value} {base : Heap} {aWAYS aKINDS aSIGNS : Addr} (T : Txt K mg w aWAYS aKINDS aSIGNS) (F : Ats K mg) {CC : Addr} (XC : ExS P w K mg base "BadCells" CC ["self", "number"] (sp_initC CC)) : DefS P w K mg base (L2.CX P w) 3 "check_cells" p_check_cells (spO (RX_cells CC)) :=
  def_okO F.check_cells sc_check_cells (fun ds o h => by
    obtain ⟨_, _, rfl, _⟩ := h
    rfl) fun f cdv A outer s H E hr => ⟨_, bx_check_cells T XC hr (G_is_cell T F), fun ds o hR σ B H Q ex ev ft => (by obtain ⟨x, ρ', rfl, hx⟩ := rx_cells hR; exact xd_end hx ex ev ft)⟩
theorem X_check_start {P : Program} {w : World} {K : PySem.W.Frag} {mg : Str → Option Value} {base : Heap} {aWAYS aKINDS aSIGNS : Addr} (T : Txt K mg w aWAYS aKINDS aSIGNS) (F : Ats K mg) {CH CC : Addr} (XH : ExS P w K mg base "BadHall" CH ["self", "part", "number"] (sp_initH CH)) (XC : ExS P w K mg base "BadCells" CC ["self", "number"] (sp_initC CC)) : DefS P w K mg base (L2.CX P w) 6 "check_start" p_check_start (spO (RX_start CH CC)) :=
  def_okO F.check_start sc_check_start (fun ds o h => by
    obtain ⟨_, _, rfl, _⟩ := h
    rfl) fun f cdv A outer s H E hr => ⟨_, bx_check_start T hr (X_check_cells T F XC) (X_check_hall T F XH), fun ds o hR σ B H Q ex ev ft => (by obtain ⟨x, ρ', rfl, hx⟩ := rx_start hR; exact xd_end hx ex ev ft)⟩
theorem X_may {P : Program} {w : World} {K : PySem.W.Frag} {mg : Str → Option Value} {base : Heap} {aWAYS aKINDS aSIGNS : Addr} (T : Txt K mg w aWAYS aKINDS aSIGNS) (F : Ats K mg) {CH CC : Addr} (XH : ExS P w K mg base "BadHall" CH ["self", "part", "number"] (sp_initH CH)) (XC : ExS P w K mg base "BadCells" CC ["self", "number"] (sp_initC CC)) : DefS P w K mg base (L2.CX P w) 7 "may" p_may (spO (RX_may CH CC)) :=
  def_okO F.may sc_may (fun ds o h => by
    obtain ⟨_, _, rfl, _⟩ := h
    rfl) fun f cdv A outer s H E hr => ⟨_, bx_may T hr (G_first_standing T F) (G_moves_from T F) (X_check_start T F XH XC), fun ds o hR σ B H Q ex ev ft => rx_may_ok hR σ B H _ ex ev ft⟩
theorem X_things_of {P : Program} {w : World} {K : PySem.W.Frag} {mg : Str → Option Value} {base : Heap} {aWAYS aKINDS aSIGNS : Addr} (T : Txt K mg w aWAYS aKINDS aSIGNS) (F : Ats K mg) {CR : Addr} (XR : ExS P w K mg base "BadText" CR ["self", "row"] (sp_initR CR)) : DefS P w K mg base (L2.CX P w) 3 "things_of" p_things_of (sx_things CR) :=
  def_okX F.things_of sc_things_of (fun vs H Q E h => by
    obtain ⟨B, t, _, hd, _⟩ := h
    exact hd.length) fun f cdv A outer s H vs Q E hr h => ⟨_, bx_things_of T XR hr (G_is_row T F) (G_thing_of T F), rx_things (tabs_of T) h⟩
theorem X_read {P : Program} {w : World} {K : PySem.W.Frag} {mg : Str → Option Value} {base : Heap} {aWAYS aKINDS aSIGNS : Addr} (T : Txt K mg w aWAYS aKINDS aSIGNS) (F : Ats K mg) {CH CC CR : Addr} (XH : ExS P w K mg base "BadHall" CH ["self", "part", "number"] (sp_initH CH)) (XC : ExS P w K mg base "BadCells" CC ["self", "number"] (sp_initC CC)) (XR : ExS P w K mg base "BadText" CR ["self", "row"] (sp_initR CR)) : DefS P w K mg base (L2.CX P w) 7 "read" p_read (spO (RX_read CH CC CR)) :=
  def_okO F.read sc_read (fun ds o h => by
    obtain ⟨_, rfl, _⟩ := h
    rfl) fun f cdv A outer s H E hr => ⟨_, bx_read T XR hr (X_check_start T F XH XC) (X_things_of T F XR), fun ds o hR σ B H Q ex ev ft => rx_read_ok hR σ B H _ ex ev ft⟩
/-! the law -/
theorem ok_law {P : Program} {w : World} {K : PySem.W.Frag} {mg : Str → Option Value} {base : Heap} {aWAYS aKINDS aSIGNS CH CC CR CHx f c PT : Addr} {cA : Str → Addr} {oc kV doc pm ct : Value} {od an : Option Addr} {osl : Array (Option Value)} (T : Txt K mg w aWAYS aKINDS aSIGNS) (F : Ats K mg)
    (XH : ExS P w K mg base "BadHall" CH ["self", "part", "number"] (sp_initH CH)) (XC : ExS P w K mg base "BadCells" CC ["self", "number"] (sp_initC CC)) (XR : ExS P w K mg base "BadText" CR ["self", "row"] (sp_initR CR)) (hall : mg "HallError" = some (.ref CHx)) (xs : Xs K mg CH CC CR CHx cA) (G : WordD K mg) (TB : TabB base mg c PT)
    (lk : K.lookup f = some ⟨oc, od, .func (PySem.W.fnOf "law" "law" (defArgs s_law) (defBody s_law) (defScope s_law) .none kV doc pm an (.ref c) ct), osl⟩) (hcd : PySem.W.codeIn K (.ref c) "law" = true) :
    FnOk P w K mg base CX0 12 f (PySem.W.fnOf "law" "law" (defArgs s_law) (defBody s_law) (defScope s_law) .none kV doc pm an (.ref c) ct) p_law (sp_law K (lawT PT)) := by
  refine fn_of lk hcd sc_law (fun vs H Q E h => ?_) fun A outer s H vs Q E hr h => ⟨_, (bd_law T (fun p lp pos => pe_lam1 (CH := CHx) (cA := cA) T hall ((X_read T F XH XC XR).mono (by decide : 7 ≤ 9)) G TB (k := 9) hr p lp pos) (fun p lp pos => pe_lam2 (CH := CHx) (cA := cA) T hall ((X_read T F XH XC XR).mono (by decide : 7 ≤ 9)) G TB (k := 9) hr p lp pos) (fun p lp pos => pe_lam3 (CH := CHx) (cA := cA) T hall ((X_may T F XH XC).mono (by decide : 7 ≤ 9)) G TB (k := 9) hr p lp pos) (hr.mono (by omega)) (G_L_alike T F 7) (G_L_cells T F) (G_L_changed T F) (G_L_due T F) (G_L_hall T F) (G_L_taken T F) (DefS.noexc (X_read T F XH XC XR)) (G_written T F)).nox, rp_law xs h⟩
  obtain ⟨sc, ns, rfl, _⟩ := h
  rfl
end Pd

/-! Top17 -/
set_option Elab.async false
set_option linter.all false
set_option maxRecDepth 100000
set_option maxHeartbeats 4000000
/-! the facts of the program's top, and the law's promise from them -/
namespace Pd
open PySem PySem.Spec PyProof.Rows L2 LamX
theorem at_of {K : PySem.W.Frag} {h : Heap} {mg : Str → Option Value} (X : K.In h) (G : h.Ns mainGlobals mg) {fa : List He.Fa} {fn : List He.DefD} (c : He.SaysD fa fn K) {x : Str} {st : Stmt} {ps : List Str} (i : Nat) (h1 : fn[i]? = some ⟨(x, none), x, x, defArgs st, defBody st, defScope st, [], []⟩) (h2 : fa[i]? = some (.glo x))
    (hb : ∀ (kV doc pm : Value) (an : Option Addr) (cdv ct : Value) (us : List Value), us.length = ps.length → bindArgs (PySem.W.fnOf x x (defArgs st) (defBody st) (defScope st) .none kV doc pm an cdv ct) ⟨us, []⟩ = pure (ps.zip us)) : At K mg x st ps := by
  obtain ⟨fd, F⟩ := c.def_ i h1
  obtain ⟨oc, od, dV, kV, doc, pm, an, cdv, ct, osl, e, lk, hc, hD, _⟩ := F.ex
  have g := He.glo_ok X G (c.fact i h2)
  have hV : dV = .none := by
    rcases hD with ⟨_, q⟩ | ⟨q, _⟩
    · exact q
    · exact absurd rfl q
  subst hV
  subst e
  have F2 : Fun K x x st (He.ga K x) _ := fun_mk lk hc F.kp
  exact ⟨He.ga K x, _, g, F2, F2.binds hb⟩
def dOf (x : Str) (st : Stmt) : He.DefD := ⟨(x, none), x, x, defArgs st, defBody st, defScope st, [], []⟩
def topFn : List He.DefD := [dOf "is_number" s_is_number, dOf "is_side" s_is_side, dOf "is_cell" s_is_cell, dOf "is_edge" s_is_edge, dOf "edge_from" s_edge_from, dOf "edge_crossed" s_edge_crossed, dOf "next_cell" s_next_cell, dOf "door_edge" s_door_edge, dOf "check_edges" s_check_edges, dOf "check_hall" s_check_hall, dOf "check_cells" s_check_cells, dOf "check_start" s_check_start, dOf "first_standing" s_first_standing, dOf "door_edges" s_door_edges, dOf "swung_ways" s_swung_ways, dOf "step_done" s_step_done, dOf "moves_from" s_moves_from, dOf "may" s_may, dOf "written" s_written, dOf "is_figure" s_is_figure, dOf "is_row" s_is_row, dOf "thing_of" s_thing_of, dOf "things_of" s_things_of, dOf "read" s_read, dOf "_law_taken" s_L_taken, dOf "_law_pair" s_L_pair, dOf "_law_shut" s_L_shut, dOf "_law_within" s_L_within, dOf "_law_hall" s_L_hall, dOf "_law_cells" s_L_cells, dOf "_law_alike" s_L_alike, dOf "_law_due" s_L_due, dOf "_law_changed" s_L_changed, dOf "law" s_law, dOf "_law_word" s_L_word]
def topFa : List He.Fa := [.glo "is_number", .glo "is_side", .glo "is_cell", .glo "is_edge", .glo "edge_from", .glo "edge_crossed", .glo "next_cell", .glo "door_edge", .glo "check_edges", .glo "check_hall", .glo "check_cells", .glo "check_start", .glo "first_standing", .glo "door_edges", .glo "swung_ways", .glo "step_done", .glo "moves_from", .glo "may", .glo "written", .glo "is_figure", .glo "is_row", .glo "thing_of", .glo "things_of", .glo "read", .glo "_law_taken", .glo "_law_pair", .glo "_law_shut", .glo "_law_within", .glo "_law_hall", .glo "_law_cells", .glo "_law_alike", .glo "_law_due", .glo "_law_changed", .glo "law", .glo "_law_word", .free "bool", .free "enumerate", .free "int", .free "isinstance", .free "len", .free "list", .free "max", .free "min", .free "range", .free "sorted", .free "str", .free "tuple", .free "zip", .free "ValueError", .free "super", .int "MOST_SIDE" 5, .int "MOST_WALLS" 24, .int "MOST_DOORS" 6, .int "MOST_WALKERS" 3, .glo "WAYS", .glo "KINDS", .glo "SIGNS", .glo "HallError", .glo "BadCells", .glo "BadCount", .glo "BadGoal", .glo "BadHall", .glo "BadName", .glo "BadPaper", .glo "BadStep", .glo "BadText", .glo "Halted", .glo "Meets", .glo "NoPoint", .glo "TooMany", .noat "BadHall" "done", .noat "BadHall" "number", .noat "BadHall" "part", .noat "BadHall" "row", .noat "BadCells" "done", .noat "BadCells" "number", .noat "BadCells" "part", .noat "BadCells" "row", .noat "BadText" "done", .noat "BadText" "number", .noat "BadText" "part", .noat "BadText" "row", .str "FIGURES" "0123456789"]
theorem at_is_number {K : PySem.W.Frag} {h : Heap} {mg : Str → Option Value} (X : K.In h) (G : h.Ns mainGlobals mg) (c : He.SaysD topFa topFn K) : At K mg "is_number" s_is_number p_is_number := at_of X G c 0 rfl rfl fun _ _ _ _ _ _ us hl => match us, hl with | [_], _ => rfl
theorem at_is_side {K : PySem.W.Frag} {h : Heap} {mg : Str → Option Value} (X : K.In h) (G : h.Ns mainGlobals mg) (c : He.SaysD topFa topFn K) : At K mg "is_side" s_is_side p_is_side := at_of X G c 1 rfl rfl fun _ _ _ _ _ _ us hl => match us, hl with | [_], _ => rfl
theorem at_is_cell {K : PySem.W.Frag} {h : Heap} {mg : Str → Option Value} (X : K.In h) (G : h.Ns mainGlobals mg) (c : He.SaysD topFa topFn K) : At K mg "is_cell" s_is_cell p_is_cell := at_of X G c 2 rfl rfl fun _ _ _ _ _ _ us hl => match us, hl with | [_, _], _ => rfl
theorem at_is_edge {K : PySem.W.Frag} {h : Heap} {mg : Str → Option Value} (X : K.In h) (G : h.Ns mainGlobals mg) (c : He.SaysD topFa topFn K) : At K mg "is_edge" s_is_edge p_is_edge := at_of X G c 3 rfl rfl fun _ _ _ _ _ _ us hl => match us, hl with | [_, _], _ => rfl
theorem at_edge_from {K : PySem.W.Frag} {h : Heap} {mg : Str → Option Value} (X : K.In h) (G : h.Ns mainGlobals mg) (c : He.SaysD topFa topFn K) : At K mg "edge_from" s_edge_from p_edge_from := at_of X G c 4 rfl rfl fun _ _ _ _ _ _ us hl => match us, hl with | [_, _, _], _ => rfl
theorem at_edge_crossed {K : PySem.W.Frag} {h : Heap} {mg : Str → Option Value} (X : K.In h) (G : h.Ns mainGlobals mg) (c : He.SaysD topFa topFn K) : At K mg "edge_crossed" s_edge_crossed p_edge_crossed := at_of X G c 5 rfl rfl fun _ _ _ _ _ _ us hl => match us, hl with | [_, _], _ => rfl
theorem at_next_cell {K : PySem.W.Frag} {h : Heap} {mg : Str → Option Value} (X : K.In h) (G : h.Ns mainGlobals mg) (c : He.SaysD topFa topFn K) : At K mg "next_cell" s_next_cell p_next_cell := at_of X G c 6 rfl rfl fun _ _ _ _ _ _ us hl => match us, hl with | [_, _], _ => rfl
theorem at_door_edge {K : PySem.W.Frag} {h : Heap} {mg : Str → Option Value} (X : K.In h) (G : h.Ns mainGlobals mg) (c : He.SaysD topFa topFn K) : At K mg "door_edge" s_door_edge p_door_edge := at_of X G c 7 rfl rfl fun _ _ _ _ _ _ us hl => match us, hl with | [_], _ => rfl
theorem at_check_edges {K : PySem.W.Frag} {h : Heap} {mg : Str → Option Value} (X : K.In h) (G : h.Ns mainGlobals mg) (c : He.SaysD topFa topFn K) : At K mg "check_edges" s_check_edges p_check_edges := at_of X G c 8 rfl rfl fun _ _ _ _ _ _ us hl => match us, hl with | [_, _, _, _, _], _ => rfl
theorem at_check_hall {K : PySem.W.Frag} {h : Heap} {mg : Str → Option Value} (X : K.In h) (G : h.Ns mainGlobals mg) (c : He.SaysD topFa topFn K) : At K mg "check_hall" s_check_hall p_check_hall := at_of X G c 9 rfl rfl fun _ _ _ _ _ _ us hl => match us, hl with | [_], _ => rfl
theorem at_check_cells {K : PySem.W.Frag} {h : Heap} {mg : Str → Option Value} (X : K.In h) (G : h.Ns mainGlobals mg) (c : He.SaysD topFa topFn K) : At K mg "check_cells" s_check_cells p_check_cells := at_of X G c 10 rfl rfl fun _ _ _ _ _ _ us hl => match us, hl with | [_, _], _ => rfl
theorem at_check_start {K : PySem.W.Frag} {h : Heap} {mg : Str → Option Value} (X : K.In h) (G : h.Ns mainGlobals mg) (c : He.SaysD topFa topFn K) : At K mg "check_start" s_check_start p_check_start := at_of X G c 11 rfl rfl fun _ _ _ _ _ _ us hl => match us, hl with | [_, _], _ => rfl
theorem at_first_standing {K : PySem.W.Frag} {h : Heap} {mg : Str → Option Value} (X : K.In h) (G : h.Ns mainGlobals mg) (c : He.SaysD topFa topFn K) : At K mg "first_standing" s_first_standing p_first_standing := at_of X G c 12 rfl rfl fun _ _ _ _ _ _ us hl => match us, hl with | [_, _], _ => rfl
theorem at_door_edges {K : PySem.W.Frag} {h : Heap} {mg : Str → Option Value} (X : K.In h) (G : h.Ns mainGlobals mg) (c : He.SaysD topFa topFn K) : At K mg "door_edges" s_door_edges p_door_edges := at_of X G c 13 rfl rfl fun _ _ _ _ _ _ us hl => match us, hl with | [_, _], _ => rfl
theorem at_swung_ways {K : PySem.W.Frag} {h : Heap} {mg : Str → Option Value} (X : K.In h) (G : h.Ns mainGlobals mg) (c : He.SaysD topFa topFn K) : At K mg "swung_ways" s_swung_ways p_swung_ways := at_of X G c 14 rfl rfl fun _ _ _ _ _ _ us hl => match us, hl with | [_, _, _, _], _ => rfl
theorem at_step_done {K : PySem.W.Frag} {h : Heap} {mg : Str → Option Value} (X : K.In h) (G : h.Ns mainGlobals mg) (c : He.SaysD topFa topFn K) : At K mg "step_done" s_step_done p_step_done := at_of X G c 15 rfl rfl fun _ _ _ _ _ _ us hl => match us, hl with | [_, _, _], _ => rfl
theorem at_moves_from {K : PySem.W.Frag} {h : Heap} {mg : Str → Option Value} (X : K.In h) (G : h.Ns mainGlobals mg) (c : He.SaysD topFa topFn K) : At K mg "moves_from" s_moves_from p_moves_from := at_of X G c 16 rfl rfl fun _ _ _ _ _ _ us hl => match us, hl with | [_, _], _ => rfl
theorem at_may {K : PySem.W.Frag} {h : Heap} {mg : Str → Option Value} (X : K.In h) (G : h.Ns mainGlobals mg) (c : He.SaysD topFa topFn K) : At K mg "may" s_may p_may := at_of X G c 17 rfl rfl fun _ _ _ _ _ _ us hl => match us, hl with | [_, _], _ => rfl
theorem at_written {K : PySem.W.Frag} {h : Heap} {mg : Str → Option Value} (X : K.In h) (G : h.Ns mainGlobals mg) (c : He.SaysD topFa topFn K) : At K mg "written" s_written p_written := at_of X G c 18 rfl rfl fun _ _ _ _ _ _ us hl => match us, hl with | [_, _], _ => rfl
theorem at_is_figure {K : PySem.W.Frag} {h : Heap} {mg : Str → Option Value} (X : K.In h) (G : h.Ns mainGlobals mg) (c : He.SaysD topFa topFn K) : At K mg "is_figure" s_is_figure p_is_figure := at_of X G c 19 rfl rfl fun _ _ _ _ _ _ us hl => match us, hl with | [_], _ => rfl
theorem at_is_row {K : PySem.W.Frag} {h : Heap} {mg : Str → Option Value} (X : K.In h) (G : h.Ns mainGlobals mg) (c : He.SaysD topFa topFn K) : At K mg "is_row" s_is_row p_is_row := at_of X G c 20 rfl rfl fun _ _ _ _ _ _ us hl => match us, hl with | [_], _ => rfl
theorem at_thing_of {K : PySem.W.Frag} {h : Heap} {mg : Str → Option Value} (X : K.In h) (G : h.Ns mainGlobals mg) (c : He.SaysD topFa topFn K) : At K mg "thing_of" s_thing_of p_thing_of := at_of X G c 21 rfl rfl fun _ _ _ _ _ _ us hl => match us, hl with | [_], _ => rfl
theorem at_things_of {K : PySem.W.Frag} {h : Heap} {mg : Str → Option Value} (X : K.In h) (G : h.Ns mainGlobals mg) (c : He.SaysD topFa topFn K) : At K mg "things_of" s_things_of p_things_of := at_of X G c 22 rfl rfl fun _ _ _ _ _ _ us hl => match us, hl with | [_], _ => rfl
theorem at_read {K : PySem.W.Frag} {h : Heap} {mg : Str → Option Value} (X : K.In h) (G : h.Ns mainGlobals mg) (c : He.SaysD topFa topFn K) : At K mg "read" s_read p_read := at_of X G c 23 rfl rfl fun _ _ _ _ _ _ us hl => match us, hl with | [_], _ => rfl
theorem at_L_taken {K : PySem.W.Frag} {h : Heap} {mg : Str → Option Value} (X : K.In h) (G : h.Ns mainGlobals mg) (c : He.SaysD topFa topFn K) : At K mg "_law_taken" s_L_taken p_L_taken := at_of X G c 24 rfl rfl fun _ _ _ _ _ _ us hl => match us, hl with | [_, _], _ => rfl
theorem at_L_pair {K : PySem.W.Frag} {h : Heap} {mg : Str → Option Value} (X : K.In h) (G : h.Ns mainGlobals mg) (c : He.SaysD topFa topFn K) : At K mg "_law_pair" s_L_pair p_L_pair := at_of X G c 25 rfl rfl fun _ _ _ _ _ _ us hl => match us, hl with | [_, _], _ => rfl
theorem at_L_shut {K : PySem.W.Frag} {h : Heap} {mg : Str → Option Value} (X : K.In h) (G : h.Ns mainGlobals mg) (c : He.SaysD topFa topFn K) : At K mg "_law_shut" s_L_shut p_L_shut := at_of X G c 26 rfl rfl fun _ _ _ _ _ _ us hl => match us, hl with | [_], _ => rfl
theorem at_L_within {K : PySem.W.Frag} {h : Heap} {mg : Str → Option Value} (X : K.In h) (G : h.Ns mainGlobals mg) (c : He.SaysD topFa topFn K) : At K mg "_law_within" s_L_within p_L_within := at_of X G c 27 rfl rfl fun _ _ _ _ _ _ us hl => match us, hl with | [_, _], _ => rfl
theorem at_L_hall {K : PySem.W.Frag} {h : Heap} {mg : Str → Option Value} (X : K.In h) (G : h.Ns mainGlobals mg) (c : He.SaysD topFa topFn K) : At K mg "_law_hall" s_L_hall p_L_hall := at_of X G c 28 rfl rfl fun _ _ _ _ _ _ us hl => match us, hl with | [_, _, _], _ => rfl
theorem at_L_cells {K : PySem.W.Frag} {h : Heap} {mg : Str → Option Value} (X : K.In h) (G : h.Ns mainGlobals mg) (c : He.SaysD topFa topFn K) : At K mg "_law_cells" s_L_cells p_L_cells := at_of X G c 29 rfl rfl fun _ _ _ _ _ _ us hl => match us, hl with | [_, _, _], _ => rfl
theorem at_L_alike {K : PySem.W.Frag} {h : Heap} {mg : Str → Option Value} (X : K.In h) (G : h.Ns mainGlobals mg) (c : He.SaysD topFa topFn K) : At K mg "_law_alike" s_L_alike p_L_alike := at_of X G c 30 rfl rfl fun _ _ _ _ _ _ us hl => match us, hl with | [_, _], _ => rfl
theorem at_L_due {K : PySem.W.Frag} {h : Heap} {mg : Str → Option Value} (X : K.In h) (G : h.Ns mainGlobals mg) (c : He.SaysD topFa topFn K) : At K mg "_law_due" s_L_due p_L_due := at_of X G c 31 rfl rfl fun _ _ _ _ _ _ us hl => match us, hl with | [_], _ => rfl
theorem at_L_changed {K : PySem.W.Frag} {h : Heap} {mg : Str → Option Value} (X : K.In h) (G : h.Ns mainGlobals mg) (c : He.SaysD topFa topFn K) : At K mg "_law_changed" s_L_changed p_L_changed := at_of X G c 32 rfl rfl fun _ _ _ _ _ _ us hl => match us, hl with | [_, _], _ => rfl
theorem at_law {K : PySem.W.Frag} {h : Heap} {mg : Str → Option Value} (X : K.In h) (G : h.Ns mainGlobals mg) (c : He.SaysD topFa topFn K) : At K mg "law" s_law p_law := at_of X G c 33 rfl rfl fun _ _ _ _ _ _ us hl => match us, hl with | [_], _ => rfl
theorem ats_of {K : PySem.W.Frag} {h : Heap} {mg : Str → Option Value} (X : K.In h) (G : h.Ns mainGlobals mg) (c : He.SaysD topFa topFn K) : Ats K mg := ⟨at_is_number X G c, at_is_side X G c, at_is_cell X G c, at_is_edge X G c, at_edge_from X G c, at_edge_crossed X G c, at_next_cell X G c, at_door_edge X G c, at_check_edges X G c, at_check_hall X G c, at_check_cells X G c, at_check_start X G c, at_first_standing X G c, at_door_edges X G c, at_swung_ways X G c, at_step_done X G c, at_moves_from X G c, at_may X G c, at_written X G c, at_is_figure X G c, at_is_row X G c, at_thing_of X G c, at_things_of X G c, at_read X G c, at_L_taken X G c, at_L_pair X G c, at_L_shut X G c, at_L_within X G c, at_L_hall X G c, at_L_cells X G c, at_L_alike X G c, at_L_due X G c, at_L_changed X G c, at_law X G c⟩
theorem word_of {K : PySem.W.Frag} {h : Heap} {mg : Str → Option Value} (X : K.In h) (G : h.Ns mainGlobals mg) (c : He.SaysD topFa topFn K) : WordD K mg := by
  obtain ⟨fd, F⟩ := c.def_ 34 (d := dOf "_law_word" s_L_word) rfl
  obtain ⟨oc, od, dV, kV, doc, pm, an, cdv, ct, osl, e, lk, hc, hD, _⟩ := F.ex
  have g := He.glo_ok X G (c.fact 34 (f := .glo "_law_word") rfl)
  have hV : dV = .none := by
    rcases hD with ⟨_, q⟩ | ⟨q, _⟩
    · exact q
    · exact absurd rfl q
  subst hV
  subst e
  exact ⟨⟨_, oc, od, .none, kV, doc, pm, ct, an, cdv, osl, g, F.kp, lk, hc, .all fun us hl => match us, hl with | [_], _ => rfl⟩⟩
/-- a tuple of the module at a -/
def tupAt (K : PySem.W.Frag) (a : Addr) (vs : List V) : Bool := match K.lookup a with
  | some ⟨.type c, none, .seq its _, _⟩ => decide (c = "tuple") && (decide (its.size ≤ sizeLine) && He.relAll vs its.toList)
  | _ => false
theorem tupAt_sp {K : PySem.W.Frag} {a : Addr} {vs : List V} (h : tupAt K a vs = true) : ∃ its n sl, K.lookup a = some ⟨.type "tuple", none, .seq its n, sl⟩ ∧ its.size ≤ sizeLine ∧ Vals vs its.toList := by
  unfold tupAt at h
  split at h
  · rename_i c its n sl q
    obtain ⟨h1, h2⟩ := He.ba h
    obtain ⟨h3, h4⟩ := He.ba h2
    have e : c = "tuple" := of_decide_eq_true h1
    subst e
    exact ⟨its, n, sl, q, of_decide_eq_true h3, He.relAll_ok h4⟩
  · cases h
theorem tupAt_ok {K : PySem.W.Frag} {a : Addr} {vs : List V} (h : tupAt K a vs = true) (H : Hp) : SqT K H a vs := by
  obtain ⟨its, n, sl, q, h1, h2⟩ := tupAt_sp h
  exact .inr ⟨_, its, n, q, rfl, rfl, h1, h2⟩
theorem tupAt_lk {K : PySem.W.Frag} {a : Addr} {vs : List V} (h : tupAt K a vs = true) : ∃ o, K.lookup a = some o ∧ o.cls = .type "tuple" ∧ o.dict = none := by
  obtain ⟨its, n, sl, q, h1, h2⟩ := tupAt_sp h
  exact ⟨_, q, rfl, rfl⟩
def noB (K : PySem.W.Frag) (a : Addr) (k : Str) : Bool := match PySem.W.nsIn K a k with
  | some none => true
  | _ => false
theorem noB_ok {K : PySem.W.Frag} {a : Addr} {k : Str} (h : noB K a k = true) : PySem.W.nsIn K a k = some none := by
  unfold noB at h
  split at h
  · assumption
  · cases h
def sgB (K : PySem.W.Frag) (a : Addr) (k : Str) (vs : List V) : Bool := match PySem.W.nsIn K a k with
  | some (some (.ref t)) => tupAt K t vs
  | _ => false
theorem sgB_ok {K : PySem.W.Frag} {w : World} {a : Addr} {k : Str} {vs : List V} {ks : List Str} (d : He.dicW K a = some (He.keysIn w.params ks)) (h : sgB K a k vs = true) : ∃ t, KDct K w a k (.ref t) ∧ ∀ H : Hp, SqT K H t vs := by
  obtain ⟨es, n, D⟩ := He.dicW_ok d
  unfold sgB at h
  split at h
  · rename_i t q
    exact ⟨t, ⟨es, n, .ref t, D.at_, D.lit, q, rfl⟩, tupAt_ok h⟩
  · cases h
theorem txt_of {w : World} {K : PySem.W.Frag} {h : Heap} {mg : Str → Option Value} (X : K.In h) (G : h.Ns mainGlobals mg) (c : He.SaysD topFa topFn K) (hw : He.tupB K "WAYS" [.str "e", .str "n", .str "s", .str "w"] = true) (t1 : tupAt K (He.ga K "KINDS") [.str "hall", .str "wall", .str "door", .str "at"] = true) (d1 : He.dicW K (He.ga K "SIGNS") = some (He.keysIn w.params ["wall", "door"]))
    (t2 : noB K (He.ga K "SIGNS") "hall" = true) (t3 : noB K (He.ga K "SIGNS") "at" = true) (t4 : sgB K (He.ga K "SIGNS") "wall" [.str "-", .str "|"] = true) (t5 : sgB K (He.ga K "SIGNS") "door" [.str "e", .str "n", .str "s", .str "w"] = true) : Txt K mg w (He.ga K "WAYS") (He.ga K "KINDS") (He.ga K "SIGNS") :=
  { b_bool := He.free_ok X G (c.fact 35 rfl),
    b_enumerate := He.free_ok X G (c.fact 36 rfl),
    b_int := He.free_ok X G (c.fact 37 rfl),
    b_isinstance := He.free_ok X G (c.fact 38 rfl),
    b_len := He.free_ok X G (c.fact 39 rfl),
    b_list := He.free_ok X G (c.fact 40 rfl),
    b_max := He.free_ok X G (c.fact 41 rfl),
    b_min := He.free_ok X G (c.fact 42 rfl),
    b_range := He.free_ok X G (c.fact 43 rfl),
    b_sorted := He.free_ok X G (c.fact 44 rfl),
    b_str := He.free_ok X G (c.fact 45 rfl),
    b_tuple := He.free_ok X G (c.fact 46 rfl),
    b_zip := He.free_ok X G (c.fact 47 rfl),
    c_MOST_SIDE := He.int_ok X G (c.fact 50 rfl),
    c_MOST_WALLS := He.int_ok X G (c.fact 51 rfl),
    c_MOST_DOORS := He.int_ok X G (c.fact 52 rfl),
    c_MOST_WALKERS := He.int_ok X G (c.fact 53 rfl),
    c_FIGURES := He.str_ok X G (c.fact 82 rfl),
    c_WAYS := He.glo_ok X G (c.fact 54 rfl),
    c_KINDS := He.glo_ok X G (c.fact 55 rfl),
    c_SIGNS := He.glo_ok X G (c.fact 56 rfl),
    s_WAYS := fun H => He.tupB_ok hw H,
    s_KINDS := fun H => tupAt_ok t1 H,
    t_KINDS := tupAt_lk t1,
    k_SIGNS := He.dicW_ok (ks := ["wall", "door"]) d1,
    n_hall := noB_ok t2,
    n_at := noB_ok t3,
    d_wall := sgB_ok d1 t4,
    d_door := sgB_ok d1 t5 }
def eqB (a b : Option Bool) : Bool := decide (a = b)
/-- what the error's class is, of the written part -/
def excB (K : PySem.W.Frag) (C CH : Addr) : Bool :=
  (match K.lookup C with
    | some ⟨.type t, _, .cls cd, sl⟩ => decide (t = "type") && (match cd.mro, sl.toList with
      | .ref C' :: bm, [_, _, _, _, some (.builtin n), _] => decide (C' = C) && (decide (n = "ValueError.__new__") && (!cd.hasDel && (cd.hasDict && PySem.HandSPX.refsVE bm)))
      | _, _ => false)
    | _ => false) && (He.eqO (PySem.W.findIn K (.ref C) "__setattr__") (some (some (.builtin "object.__setattr__"))) && (eqB (PySem.W.subIn K (.ref C) (.type "BaseException")) (some true) &&
  (decide (PySem.W.typeIn K (.ref C) = some (.type "type")) && (PySem.W.keepIn K (.ref C) && (xfB K C && (He.eqO (PySem.W.findIn K (.ref C) "__class__") (some (some (.builtin "object.__class__"))) &&
  (He.eqO (PySem.W.specialIn K (.builtin "object.__class__") "__get__") (some (some (.builtin "getset_descriptor.__get__"))) && (eqB (PySem.W.takesIn K (.builtin "object.__class__")) (some true) && (eqB (PySem.W.mroIn K C (.type "object")) (some true) &&
  (eqB (PySem.W.exmOne K (.ref C) (.ref CH)) (some true) && eqB (PySem.W.kitOne K (.ref C) (.type "ValueError")) (some true)))))))))))
theorem exc_lk {K : PySem.W.Frag} {C CH : Addr} (h : excB K C CH = true) : ∃ nm q N bs bm sn sub ab col dd k0 k1 k2 k3 k5, K.lookup C = some (excClassObj nm q C N bs bm true sn sub ab col dd k0 k1 k2 k3 k5 "ValueError.__new__") ∧ PySem.HandSPX.refsVE bm = true := by
  unfold excB at h
  have q := (He.ba h).1
  clear h
  split at q
  · rename_i t dd cd sl ho
    obtain ⟨q0, qq⟩ := He.ba q
    clear q
    have q0 := of_decide_eq_true q0
    subst q0
    split at qq
    · rename_i C' bm k0 k1 k2 k3 n k5 hm hs
      obtain ⟨q1, q⟩ := He.ba qq
      obtain ⟨q2, q⟩ := He.ba q
      obtain ⟨q3, q⟩ := He.ba q
      obtain ⟨q4, q5⟩ := He.ba q
      have q1 := of_decide_eq_true q1
      have q2 := of_decide_eq_true q2
      subst q1 q2
      obtain ⟨nm, bs, mro, ns, qn, hd, sn, sub, ab, col, del⟩ := cd
      dsimp only at hm q3 q4
      have q3 : del = false := by cases del <;> first | rfl | cases q3
      subst hm q3 q4
      have hsl : sl = #[k0, k1, k2, k3, some (.builtin "ValueError.__new__"), k5] := by
        obtain ⟨l⟩ := sl
        simp only at hs
        rw [hs]
      subst hsl
      exact ⟨nm, qn, ns, bs, bm, sn, sub, ab, col, dd, k0, k1, k2, k3, k5, ho, q5⟩
    · cases qq
  · cases q
theorem eqB_ok {a b : Option Bool} (h : eqB a b = true) : a = b := of_decide_eq_true h
theorem oex_of {K : PySem.W.Frag} {C CH : Addr} (h : excB K C CH = true) : OexC K C := by
  have e := exc_lk h
  unfold excB at h
  obtain ⟨_, h⟩ := He.ba h
  obtain ⟨h1, h⟩ := He.ba h
  obtain ⟨h2, h⟩ := He.ba h
  obtain ⟨h3, h⟩ := He.ba h
  obtain ⟨h4, h⟩ := He.ba h
  exact ⟨e, He.eqO_ok h1, eqB_ok h2, of_decide_eq_true h3, h4⟩
theorem xf_of {K : PySem.W.Frag} {C CH : Addr} (h : excB K C CH = true) : XfC K C := by
  unfold excB at h
  obtain ⟨_, h⟩ := He.ba h
  obtain ⟨h1, h⟩ := He.ba h
  obtain ⟨h2, h⟩ := He.ba h
  obtain ⟨h3, h⟩ := He.ba h
  obtain ⟨h4, h⟩ := He.ba h
  exact xfB_ok (He.ba h).1
theorem exc_of {K : PySem.W.Frag} {C CH : Addr} (h : excB K C CH = true) : ExcC K C := by
  have x := xf_of h
  unfold excB at h
  obtain ⟨_, h⟩ := He.ba h
  obtain ⟨h1, h⟩ := He.ba h
  obtain ⟨h2, h⟩ := He.ba h
  obtain ⟨h3, h⟩ := He.ba h
  obtain ⟨h4, h⟩ := He.ba h
  obtain ⟨h5, h⟩ := He.ba h
  obtain ⟨h6, h⟩ := He.ba h
  obtain ⟨h7, h⟩ := He.ba h
  obtain ⟨h8, h⟩ := He.ba h
  obtain ⟨h9, h⟩ := He.ba h
  exact ⟨x.ga, x.gg, x.exC, x.hdC, He.eqO_ok h6, He.eqO_ok h7, eqB_ok h8, eqB_ok h9⟩
def kindB (K : PySem.W.Frag) (C : Addr) (i : Nat) : Bool := KN.zipIdx.all fun p => eqB (PySem.W.kitOne K (.ref C) (.ref (He.ga K p.1))) (some (decide (p.2 = i)))
theorem kind_of {K : PySem.W.Frag} {C CH : Addr} {i : Nat} (hi : i < 12) (h : excB K C CH = true) (h2 : kindB K C i = true) : KindX K C CH (He.ga K) i := by
  unfold excB at h
  obtain ⟨_, h⟩ := He.ba h
  obtain ⟨_, h⟩ := He.ba h
  obtain ⟨_, h⟩ := He.ba h
  obtain ⟨_, h⟩ := He.ba h
  obtain ⟨_, h⟩ := He.ba h
  obtain ⟨_, h⟩ := He.ba h
  obtain ⟨_, h⟩ := He.ba h
  obtain ⟨_, h⟩ := He.ba h
  obtain ⟨_, h⟩ := He.ba h
  obtain ⟨_, h⟩ := He.ba h
  obtain ⟨ha, hb⟩ := He.ba h
  refine ⟨hi, fun j x hx => ?_, eqB_ok hb, eqB_ok ha⟩
  unfold kindB at h2
  exact eqB_ok (List.all_eq_true.mp h2 (x, j) (List.mem_zipIdx_iff_getElem?.mpr hx))
theorem words_BadHall {K : PySem.W.Frag} {h : Heap} {mg : Str → Option Value} (X : K.In h) (G : h.Ns mainGlobals mg) (c : He.SaysD topFa topFn K) (e : excB K (He.ga K "BadHall") (He.ga K "HallError") = true) : WordS K mg (He.ga K "BadHall") (He.ga K "HallError") (He.ga K) :=
  { xc := exc_of e,
    xf := xf_of e,
    hall := He.glo_ok X G (c.fact 57 rfl),
    b_ValueError := He.free_ok X G (c.fact 48 rfl),
    n_done := He.eqO_ok (c.fact 70 (f := .noat "BadHall" "done") rfl),
    n_number := He.eqO_ok (c.fact 71 (f := .noat "BadHall" "number") rfl),
    n_part := He.eqO_ok (c.fact 72 (f := .noat "BadHall" "part") rfl),
    n_row := He.eqO_ok (c.fact 73 (f := .noat "BadHall" "row") rfl),
    c_BadCells := He.glo_ok X G (c.fact 58 rfl),
    c_BadCount := He.glo_ok X G (c.fact 59 rfl),
    c_BadGoal := He.glo_ok X G (c.fact 60 rfl),
    c_BadHall := He.glo_ok X G (c.fact 61 rfl),
    c_BadName := He.glo_ok X G (c.fact 62 rfl),
    c_BadPaper := He.glo_ok X G (c.fact 63 rfl),
    c_BadStep := He.glo_ok X G (c.fact 64 rfl),
    c_BadText := He.glo_ok X G (c.fact 65 rfl),
    c_Halted := He.glo_ok X G (c.fact 66 rfl),
    c_Meets := He.glo_ok X G (c.fact 67 rfl),
    c_NoPoint := He.glo_ok X G (c.fact 68 rfl),
    c_TooMany := He.glo_ok X G (c.fact 69 rfl) }
theorem words_BadCells {K : PySem.W.Frag} {h : Heap} {mg : Str → Option Value} (X : K.In h) (G : h.Ns mainGlobals mg) (c : He.SaysD topFa topFn K) (e : excB K (He.ga K "BadCells") (He.ga K "HallError") = true) : WordS K mg (He.ga K "BadCells") (He.ga K "HallError") (He.ga K) :=
  { xc := exc_of e,
    xf := xf_of e,
    hall := He.glo_ok X G (c.fact 57 rfl),
    b_ValueError := He.free_ok X G (c.fact 48 rfl),
    n_done := He.eqO_ok (c.fact 74 (f := .noat "BadCells" "done") rfl),
    n_number := He.eqO_ok (c.fact 75 (f := .noat "BadCells" "number") rfl),
    n_part := He.eqO_ok (c.fact 76 (f := .noat "BadCells" "part") rfl),
    n_row := He.eqO_ok (c.fact 77 (f := .noat "BadCells" "row") rfl),
    c_BadCells := He.glo_ok X G (c.fact 58 rfl),
    c_BadCount := He.glo_ok X G (c.fact 59 rfl),
    c_BadGoal := He.glo_ok X G (c.fact 60 rfl),
    c_BadHall := He.glo_ok X G (c.fact 61 rfl),
    c_BadName := He.glo_ok X G (c.fact 62 rfl),
    c_BadPaper := He.glo_ok X G (c.fact 63 rfl),
    c_BadStep := He.glo_ok X G (c.fact 64 rfl),
    c_BadText := He.glo_ok X G (c.fact 65 rfl),
    c_Halted := He.glo_ok X G (c.fact 66 rfl),
    c_Meets := He.glo_ok X G (c.fact 67 rfl),
    c_NoPoint := He.glo_ok X G (c.fact 68 rfl),
    c_TooMany := He.glo_ok X G (c.fact 69 rfl) }
theorem words_BadText {K : PySem.W.Frag} {h : Heap} {mg : Str → Option Value} (X : K.In h) (G : h.Ns mainGlobals mg) (c : He.SaysD topFa topFn K) (e : excB K (He.ga K "BadText") (He.ga K "HallError") = true) : WordS K mg (He.ga K "BadText") (He.ga K "HallError") (He.ga K) :=
  { xc := exc_of e,
    xf := xf_of e,
    hall := He.glo_ok X G (c.fact 57 rfl),
    b_ValueError := He.free_ok X G (c.fact 48 rfl),
    n_done := He.eqO_ok (c.fact 78 (f := .noat "BadText" "done") rfl),
    n_number := He.eqO_ok (c.fact 79 (f := .noat "BadText" "number") rfl),
    n_part := He.eqO_ok (c.fact 80 (f := .noat "BadText" "part") rfl),
    n_row := He.eqO_ok (c.fact 81 (f := .noat "BadText" "row") rfl),
    c_BadCells := He.glo_ok X G (c.fact 58 rfl),
    c_BadCount := He.glo_ok X G (c.fact 59 rfl),
    c_BadGoal := He.glo_ok X G (c.fact 60 rfl),
    c_BadHall := He.glo_ok X G (c.fact 61 rfl),
    c_BadName := He.glo_ok X G (c.fact 62 rfl),
    c_BadPaper := He.glo_ok X G (c.fact 63 rfl),
    c_BadStep := He.glo_ok X G (c.fact 64 rfl),
    c_BadText := He.glo_ok X G (c.fact 65 rfl),
    c_Halted := He.glo_ok X G (c.fact 66 rfl),
    c_Meets := He.glo_ok X G (c.fact 67 rfl),
    c_NoPoint := He.glo_ok X G (c.fact 68 rfl),
    c_TooMany := He.glo_ok X G (c.fact 69 rfl) }
/-! the error's __init__ -/
def iAt (K : PySem.W.Frag) (nm : Str) : Addr := He.ma K (He.ga K nm) "__init__"
def fdIn (K : PySem.W.Frag) (f : Addr) : Option FuncData := match K.lookup f with
  | some ⟨_, _, .func fd, _⟩ => some fd
  | _ => none
theorem fdIn_ok {K : PySem.W.Frag} {f : Addr} {fd : FuncData} (h : fdIn K f = some fd) : ∃ oc od osl, K.lookup f = some ⟨oc, od, .func fd, osl⟩ := by
  unfold fdIn at h
  split at h
  · rename_i oc od fd' osl q
    cases h
    exact ⟨oc, od, osl, q⟩
  · cases h
def cellAt (K : PySem.W.Frag) (nm : Str) : Addr := match fdIn K (iAt K nm) with
  | some fd => (match fd.closure with
    | [(_, a)] => a
    | _ => 0)
  | _ => 0
def codeAt (K : PySem.W.Frag) (f : Addr) : Addr := match fdIn K f with
  | some fd => (match fd.code with
    | .ref a => a
    | _ => 0)
  | _ => 0
def initW (K : PySem.W.Frag) (nm : Str) : Option (Str × Str × Arguments × FuncBody × Scope × Addr × List (Str × Addr) × Addr × Value × Value) := (fdIn K (iAt K nm)).map fun fd => (fd.name, fd.qualname, fd.params, fd.body, fd.scope, fd.globals, fd.closure, fd.builtins, fd.defaults, fd.code)
def initV (K : PySem.W.Frag) (nm q : Str) (st : Stmt) : Option (Str × Str × Arguments × FuncBody × Scope × Addr × List (Str × Addr) × Addr × Value × Value) := some ("__init__", q, defArgs st, .stmts (defBody st), defScope st, mainGlobals, [("__class__", cellAt K nm)], builtinsNs, .none, .ref (codeAt K (iAt K nm)))
def initB (file : Str) (K : PySem.W.Frag) (nm q : Str) (C : Addr) : Bool :=
  He.eqO (PySem.W.findIn K (.ref C) "__init__") (some (some (.ref (iAt K nm)))) && (decide (PySem.W.typeIn K (.ref (iAt K nm)) = some (.type "function")) && (PySem.W.codeIn K (.ref (codeAt K (iAt K nm))) q &&
  ((match K.lookup (codeAt K (iAt K nm)) with
    | some ⟨_, _, .fields vs, _⟩ => (match (vs[2]? : Option Value) with
      | some (.str f _) => file == f
      | _ => false)
    | _ => false) && ((match K.lookup (cellAt K nm) with
    | some ⟨_, _, .cell (some (.ref C')), _⟩ => decide (C' = C)
    | _ => false) && ((PySem.W.clsIn K C).isSome && (eqB (PySem.W.mroIn K C (.ref C)) (some true) && (He.eqO (PySem.W.ks_superIn K C C "__init__") (some (some (.builtin "ValueError.__init__"))) &&
  (He.eqO (PySem.W.nsIn K cStatics "thirdparty.any") (some none) && eqB (PySem.W.subIn K (.ref C) (.type "ValueError")) (some true)))))))))
theorem sup_BadHall {P : Program} {K : PySem.W.Frag} {C CH : Addr} (e : excB K C CH = true) (i : initB P.main.file K "BadHall" "BadHall.__init__" C = true) (v : initW K "BadHall" = initV K "BadHall" "BadHall.__init__" s_initH) (ht : (P.main.scope.names.lookup ("super" : Str)).isSome = false) :
    ∃ fd, SupF P K C (iAt K "BadHall") (cellAt K "BadHall") (codeAt K (iAt K "BadHall")) "__init__" "BadHall.__init__" (defArgs s_initH) (defBody s_initH) (defScope s_initH) fd ∧ Binds K fd ["self", "part", "number"] [] ∧ PySem.W.findIn K (.ref C) "__init__" = some (some (.ref (iAt K "BadHall"))) ∧ PySem.W.typeIn K (.ref (iAt K "BadHall")) = some (.type "function") := by
  unfold initW initV at v
  obtain ⟨fd, hf, hv⟩ := Option.map_eq_some_iff.mp v
  obtain ⟨oc, od, osl, lk⟩ := fdIn_ok hf
  obtain ⟨n1, n2, n3, n4, n5, n6, n7, n8, n9, n10, n11, n12, n13, n14, n15⟩ := fd
  simp only [Prod.mk.injEq] at hv
  obtain ⟨h1, h2, h3, h4, h5, h6, h7, h8, h9, h10⟩ := hv
  unfold initB at i
  obtain ⟨i1, i⟩ := He.ba i
  obtain ⟨i2, i⟩ := He.ba i
  obtain ⟨i3, i⟩ := He.ba i
  obtain ⟨i4, i⟩ := He.ba i
  obtain ⟨i5, i⟩ := He.ba i
  obtain ⟨i6, i⟩ := He.ba i
  obtain ⟨i7, i⟩ := He.ba i
  obtain ⟨i8, i⟩ := He.ba i
  obtain ⟨i9, i10⟩ := He.ba i
  clear v hf
  generalize hcc : cellAt K "BadHall" = cc at *
  generalize hcd : codeAt K (iAt K "BadHall") = cda at *
  generalize iAt K "BadHall" = fI at *
  subst h1 h2 h3 h4 h5 h6 h7 h8 h9 h10
  refine ⟨_, ⟨oex_of e, ⟨oc, od, osl, .none, _, _, _, _, _, rfl, lk⟩, i3, ?_, ?_, Option.isSome_iff_exists.mp i6, ht, eqB_ok i7, He.eqO_ok i8, He.eqO_ok i9, eqB_ok i10, by rfl, by rfl, ⟨_, rfl, rfl⟩⟩, .all fun us hl => match us, hl with | [_, _, _], _ => rfl, He.eqO_ok i1, of_decide_eq_true i2⟩
  · split at i4
    · rename_i a b vs d q
      split at i4
      · rename_i f t q2
        exact ⟨a, b, d, vs, f, t, q, q2, i4⟩
      · cases i4
    · cases i4
  · split at i5
    · rename_i a b C' d q
      have z := of_decide_eq_true i5
      rw [z] at q
      exact ⟨a, b, d, q⟩
    · cases i5
theorem sup_BadCells {P : Program} {K : PySem.W.Frag} {C CH : Addr} (e : excB K C CH = true) (i : initB P.main.file K "BadCells" "BadCells.__init__" C = true) (v : initW K "BadCells" = initV K "BadCells" "BadCells.__init__" s_initC) (ht : (P.main.scope.names.lookup ("super" : Str)).isSome = false) :
    ∃ fd, SupF P K C (iAt K "BadCells") (cellAt K "BadCells") (codeAt K (iAt K "BadCells")) "__init__" "BadCells.__init__" (defArgs s_initC) (defBody s_initC) (defScope s_initC) fd ∧ Binds K fd ["self", "number"] [] ∧ PySem.W.findIn K (.ref C) "__init__" = some (some (.ref (iAt K "BadCells"))) ∧ PySem.W.typeIn K (.ref (iAt K "BadCells")) = some (.type "function") := by
  unfold initW initV at v
  obtain ⟨fd, hf, hv⟩ := Option.map_eq_some_iff.mp v
  obtain ⟨oc, od, osl, lk⟩ := fdIn_ok hf
  obtain ⟨n1, n2, n3, n4, n5, n6, n7, n8, n9, n10, n11, n12, n13, n14, n15⟩ := fd
  simp only [Prod.mk.injEq] at hv
  obtain ⟨h1, h2, h3, h4, h5, h6, h7, h8, h9, h10⟩ := hv
  unfold initB at i
  obtain ⟨i1, i⟩ := He.ba i
  obtain ⟨i2, i⟩ := He.ba i
  obtain ⟨i3, i⟩ := He.ba i
  obtain ⟨i4, i⟩ := He.ba i
  obtain ⟨i5, i⟩ := He.ba i
  obtain ⟨i6, i⟩ := He.ba i
  obtain ⟨i7, i⟩ := He.ba i
  obtain ⟨i8, i⟩ := He.ba i
  obtain ⟨i9, i10⟩ := He.ba i
  clear v hf
  generalize hcc : cellAt K "BadCells" = cc at *
  generalize hcd : codeAt K (iAt K "BadCells") = cda at *
  generalize iAt K "BadCells" = fI at *
  subst h1 h2 h3 h4 h5 h6 h7 h8 h9 h10
  refine ⟨_, ⟨oex_of e, ⟨oc, od, osl, .none, _, _, _, _, _, rfl, lk⟩, i3, ?_, ?_, Option.isSome_iff_exists.mp i6, ht, eqB_ok i7, He.eqO_ok i8, He.eqO_ok i9, eqB_ok i10, by rfl, by rfl, ⟨_, rfl, rfl⟩⟩, .all fun us hl => match us, hl with | [_, _], _ => rfl, He.eqO_ok i1, of_decide_eq_true i2⟩
  · split at i4
    · rename_i a b vs d q
      split at i4
      · rename_i f t q2
        exact ⟨a, b, d, vs, f, t, q, q2, i4⟩
      · cases i4
    · cases i4
  · split at i5
    · rename_i a b C' d q
      have z := of_decide_eq_true i5
      rw [z] at q
      exact ⟨a, b, d, q⟩
    · cases i5
theorem sup_BadText {P : Program} {K : PySem.W.Frag} {C CH : Addr} (e : excB K C CH = true) (i : initB P.main.file K "BadText" "BadText.__init__" C = true) (v : initW K "BadText" = initV K "BadText" "BadText.__init__" s_initR) (ht : (P.main.scope.names.lookup ("super" : Str)).isSome = false) :
    ∃ fd, SupF P K C (iAt K "BadText") (cellAt K "BadText") (codeAt K (iAt K "BadText")) "__init__" "BadText.__init__" (defArgs s_initR) (defBody s_initR) (defScope s_initR) fd ∧ Binds K fd ["self", "row"] [] ∧ PySem.W.findIn K (.ref C) "__init__" = some (some (.ref (iAt K "BadText"))) ∧ PySem.W.typeIn K (.ref (iAt K "BadText")) = some (.type "function") := by
  unfold initW initV at v
  obtain ⟨fd, hf, hv⟩ := Option.map_eq_some_iff.mp v
  obtain ⟨oc, od, osl, lk⟩ := fdIn_ok hf
  obtain ⟨n1, n2, n3, n4, n5, n6, n7, n8, n9, n10, n11, n12, n13, n14, n15⟩ := fd
  simp only [Prod.mk.injEq] at hv
  obtain ⟨h1, h2, h3, h4, h5, h6, h7, h8, h9, h10⟩ := hv
  unfold initB at i
  obtain ⟨i1, i⟩ := He.ba i
  obtain ⟨i2, i⟩ := He.ba i
  obtain ⟨i3, i⟩ := He.ba i
  obtain ⟨i4, i⟩ := He.ba i
  obtain ⟨i5, i⟩ := He.ba i
  obtain ⟨i6, i⟩ := He.ba i
  obtain ⟨i7, i⟩ := He.ba i
  obtain ⟨i8, i⟩ := He.ba i
  obtain ⟨i9, i10⟩ := He.ba i
  clear v hf
  generalize hcc : cellAt K "BadText" = cc at *
  generalize hcd : codeAt K (iAt K "BadText") = cda at *
  generalize iAt K "BadText" = fI at *
  subst h1 h2 h3 h4 h5 h6 h7 h8 h9 h10
  refine ⟨_, ⟨oex_of e, ⟨oc, od, osl, .none, _, _, _, _, _, rfl, lk⟩, i3, ?_, ?_, Option.isSome_iff_exists.mp i6, ht, eqB_ok i7, He.eqO_ok i8, He.eqO_ok i9, eqB_ok i10, by rfl, by rfl, ⟨_, rfl, rfl⟩⟩, .all fun us hl => match us, hl with | [_, _], _ => rfl, He.eqO_ok i1, of_decide_eq_true i2⟩
  · split at i4
    · rename_i a b vs d q
      split at i4
      · rename_i f t q2
        exact ⟨a, b, d, vs, f, t, q, q2, i4⟩
      · cases i4
    · cases i4
  · split at i5
    · rename_i a b C' d q
      have z := of_decide_eq_true i5
      rw [z] at q
      exact ⟨a, b, d, q⟩
    · cases i5
theorem exs_BadHall {P : Program} {w : World} {base : Heap} {K : PySem.W.Frag} {h : Heap} {mg : Str → Option Value} (X : K.In h) (G : h.Ns mainGlobals mg) (c : He.SaysD topFa topFn K) (e : excB K (He.ga K "BadHall") (He.ga K "HallError") = true) (i : initB P.main.file K "BadHall" "BadHall.__init__" (He.ga K "BadHall") = true) (v : initW K "BadHall" = initV K "BadHall" "BadHall.__init__" s_initH) (ht : (P.main.scope.names.lookup ("super" : Str)).isSome = false) :
    ExS P w K mg base "BadHall" (He.ga K "BadHall") ["self", "part", "number"] (sp_initH (He.ga K "BadHall")) := by
  obtain ⟨fd, S, b, i1, i2⟩ := sup_BadHall e i v ht
  exact ⟨oex_of e, ⟨_, fd, i1, i2, ok_initH S (He.eqO_ok (c.fact 72 (f := .noat "BadHall" "part") rfl)) (He.eqO_ok (c.fact 71 (f := .noat "BadHall" "number") rfl)) (He.free_ok X G (c.fact 49 (f := .free "super") rfl)), b⟩, He.glo_ok X G (c.fact 61 (f := .glo "BadHall") rfl)⟩
theorem exs_BadCells {P : Program} {w : World} {base : Heap} {K : PySem.W.Frag} {h : Heap} {mg : Str → Option Value} (X : K.In h) (G : h.Ns mainGlobals mg) (c : He.SaysD topFa topFn K) (e : excB K (He.ga K "BadCells") (He.ga K "HallError") = true) (i : initB P.main.file K "BadCells" "BadCells.__init__" (He.ga K "BadCells") = true) (v : initW K "BadCells" = initV K "BadCells" "BadCells.__init__" s_initC) (ht : (P.main.scope.names.lookup ("super" : Str)).isSome = false) :
    ExS P w K mg base "BadCells" (He.ga K "BadCells") ["self", "number"] (sp_initC (He.ga K "BadCells")) := by
  obtain ⟨fd, S, b, i1, i2⟩ := sup_BadCells e i v ht
  exact ⟨oex_of e, ⟨_, fd, i1, i2, ok_initC S (He.eqO_ok (c.fact 75 (f := .noat "BadCells" "number") rfl)) (He.free_ok X G (c.fact 49 (f := .free "super") rfl)), b⟩, He.glo_ok X G (c.fact 58 (f := .glo "BadCells") rfl)⟩
theorem exs_BadText {P : Program} {w : World} {base : Heap} {K : PySem.W.Frag} {h : Heap} {mg : Str → Option Value} (X : K.In h) (G : h.Ns mainGlobals mg) (c : He.SaysD topFa topFn K) (e : excB K (He.ga K "BadText") (He.ga K "HallError") = true) (i : initB P.main.file K "BadText" "BadText.__init__" (He.ga K "BadText") = true) (v : initW K "BadText" = initV K "BadText" "BadText.__init__" s_initR) (ht : (P.main.scope.names.lookup ("super" : Str)).isSome = false) :
    ExS P w K mg base "BadText" (He.ga K "BadText") ["self", "row"] (sp_initR (He.ga K "BadText")) := by
  obtain ⟨fd, S, b, i1, i2⟩ := sup_BadText e i v ht
  exact ⟨oex_of e, ⟨_, fd, i1, i2, ok_initR S (He.eqO_ok (c.fact 81 (f := .noat "BadText" "row") rfl)) (He.free_ok X G (c.fact 49 (f := .free "super") rfl)), b⟩, He.glo_ok X G (c.fact 65 (f := .glo "BadText") rfl)⟩
/-! the law's own code object and its table -/
def lawCP (K : PySem.W.Frag) : Addr × Addr := match PySem.W.tabIn K "law" with
  | some p => p
  | none => (0, 0)
def lawB (K : PySem.W.Frag) : Bool := (PySem.W.tabIn K "law").isSome && (PySem.W.codeHdIn K (lawCP K).1 (lawCP K).2 && (K.lookup (lawCP K).2).isNone)
theorem tab_parts {K : PySem.W.Frag} {x : Str} {c PT : Addr} (h : PySem.W.tabIn K x = some (c, PT)) : ∃ f oc od fd osl e dd vs sl, PySem.W.nsIn K mainGlobals x = some (some (.ref f)) ∧ K.lookup f = some ⟨oc, od, .func fd, osl⟩ ∧ fd.code = .ref c ∧ K.lookup c = some ⟨e, dd, .fields vs, sl⟩ ∧ vs[11]? = some (.ref PT) := by
  unfold PySem.W.tabIn at h
  split at h
  · rename_i f hf
    split at h
    · rename_i oc od fd osl hfo
      split at h
      · rename_i c₂ hc
        split at h
        · rename_i e dd vs sl hco
          split at h
          · rename_i P₂ hv
            cases h
            exact ⟨f, oc, od, fd, osl, e, dd, vs, sl, hf, hfo, hc, hco, hv⟩
          · cases h
        · cases h
      · cases h
    · cases h
  · cases h
theorem law_at {l : PySem.W.OpenLaw} {w : World} {K : PySem.W.Frag} {h : Heap} {mg : Str → Option Value} {fa : Addr} (X : K.In h) (G : h.Ns mainGlobals mg) (hmg : mg "law" = some (.ref fa)) (own : OwnTab K fa h)
    (c : He.SaysD topFa topFn K) (hw : He.tupB K "WAYS" [.str "e", .str "n", .str "s", .str "w"] = true) (t1 : tupAt K (He.ga K "KINDS") [.str "hall", .str "wall", .str "door", .str "at"] = true) (d1 : He.dicW K (He.ga K "SIGNS") = some (He.keysIn w.params ["wall", "door"]))
    (t2 : noB K (He.ga K "SIGNS") "hall" = true) (t3 : noB K (He.ga K "SIGNS") "at" = true) (t4 : sgB K (He.ga K "SIGNS") "wall" [.str "-", .str "|"] = true) (t5 : sgB K (He.ga K "SIGNS") "door" [.str "e", .str "n", .str "s", .str "w"] = true) (eBadHall : excB K (He.ga K "BadHall") (He.ga K "HallError") = true) (kBadHall : kindB K (He.ga K "BadHall") 4 = true) (iBadHall : initB l.prog.main.file K "BadHall" "BadHall.__init__" (He.ga K "BadHall") = true) (vBadHall : initW K "BadHall" = initV K "BadHall" "BadHall.__init__" s_initH) (eBadCells : excB K (He.ga K "BadCells") (He.ga K "HallError") = true) (kBadCells : kindB K (He.ga K "BadCells") 0 = true) (iBadCells : initB l.prog.main.file K "BadCells" "BadCells.__init__" (He.ga K "BadCells") = true) (vBadCells : initW K "BadCells" = initV K "BadCells" "BadCells.__init__" s_initC) (eBadText : excB K (He.ga K "BadText") (He.ga K "HallError") = true) (kBadText : kindB K (He.ga K "BadText") 6 = true) (iBadText : initB l.prog.main.file K "BadText" "BadText.__init__" (He.ga K "BadText") = true) (vBadText : initW K "BadText" = initV K "BadText" "BadText.__init__" s_initR) (ht : (l.prog.main.scope.names.lookup ("super" : Str)).isSome = false) (hl : lawB K = true) :
    LawAtS l w K CX0 12 63 "_law_script" mg fa h := by
  obtain ⟨fd, F⟩ := c.def_ 33 (d := dOf "law" s_law) rfl
  obtain ⟨oc, od, dV, kV, doc, pm, an, cdv, ct, osl, ef, lk, hc, hD, _⟩ := F.ex
  have g := He.glo_ok X G (c.fact 33 (f := .glo "law") rfl)
  have hV : dV = .none := by
    rcases hD with ⟨_, q⟩ | ⟨q, _⟩
    · exact q
    · exact absurd rfl q
  subst hV
  subst ef
  rw [hmg] at g
  cases g
  unfold lawB at hl
  obtain ⟨l1, hl⟩ := He.ba hl
  obtain ⟨l2, l3⟩ := He.ba hl
  obtain ⟨⟨cL, PT⟩, ht2⟩ := Option.isSome_iff_exists.mp l1
  have hcp : lawCP K = (cL, PT) := by
    unfold lawCP
    rw [ht2]
  rw [hcp] at l2 l3
  obtain ⟨f, oc2, od2, fd2, osl2, e2, dd2, vs2, sl2, q1, q2, q3, q4, q5⟩ := tab_parts ht2
  have q6 := PySem.W.mg_of X G q1
  rw [hmg] at q6
  cases q6
  have q7 := lk
  rw [show (He.fAd K (dOf "law" s_law).at_) = He.ga K "law" from rfl] at q7
  rw [q2] at q7
  cases q7
  cases q3
  have hT := own cL PT _ _ _ _ _ _ q2 rfl rfl q4 q5
  refine ⟨PySem.W.fnOf "law" "law" (defArgs s_law) (defBody s_law) (defScope s_law) .none kV doc pm an (.ref cL) ct, [(cL, PT)], sp_law K (lawT PT), fun p hp => ?_, fun p hp => ?_, fun p hp => ?_, fun s u => .of_eq rfl, ?_, fun base KB GB TB => ?_⟩
  · rw [List.mem_singleton.mp hp]
    exact hT
  · rw [List.mem_singleton.mp hp]
    exact Option.isNone_iff_eq_none.mp l3
  · rw [List.mem_singleton.mp hp]
    exact PySem.W.codeHd_of_K X l2
  · intro H a ns hn hz hp hS
    refine ⟨a, ns, rfl, hS, fun p hq => ?_, fun _ => rfl⟩
    rw [List.mem_singleton.mp hq]
    exact TabS.nil (hp (cL, PT) (.head _))
  · have T := txt_of (w := w) KB GB c hw t1 d1 t2 t3 t4 t5
    have XH := exs_BadHall (P := l.prog) (w := w) (base := base) KB GB c eBadHall iBadHall vBadHall ht
    have XC := exs_BadCells (P := l.prog) (w := w) (base := base) KB GB c eBadCells iBadCells vBadCells ht
    have XR := exs_BadText (P := l.prog) (w := w) (base := base) KB GB c eBadText iBadText vBadText ht
    exact ok_law T (ats_of KB GB c) XH XC XR (words_BadHall KB GB c eBadHall).hall ⟨⟨words_BadHall KB GB c eBadHall, kind_of (by decide) eBadHall kBadHall⟩, ⟨words_BadCells KB GB c eBadCells, kind_of (by decide) eBadCells kBadCells⟩, ⟨words_BadText KB GB c eBadText, kind_of (by decide) eBadText kBadText⟩⟩ (word_of KB GB c) (TB _ (.head _)) q2 hc
end Pd

/-! Last17 -/
set_option Elab.async false
set_option linter.all false
open PySem PySem.W PyProof.Rows
set_option maxRecDepth 100000 in
set_option maxHeartbeats 0 in
theorem PySem.Challenge.cw_hingehall_k17_texts_refused_holds : PySem.Challenge.rw_hingehall_k17_texts_refused.Holds := by
  w_on; o_law; k_head; (case hw => w_witness2)
  k_fill
  refine LamX.walk_ofOwn (l := PySem.Challenge.rw_hingehall_k17_texts_refused) (n := 63) (k := 12) (x := "_law_script") (CX := fun _ => L2.CX0) rfl (by decide) rfl ⟨rfl, by decide, by decide⟩ (by decide +kernel) (fun w h Y => PySem.W.km_in_of Y) ?F (fun _ _ _ _ _ z => z)
  case F =>
    intro w mg fa h Y KX G hmg own
    refine Pd.law_at KX G hmg own ?pd1 ?pe0 ?pe1 ?pe2 ?pe3 ?pe4 ?pe5 ?pe6 ?pf0 ?pf1 ?pf2 ?pf3 ?pf4 ?pf5 ?pf6 ?pf7 ?pf8 ?pf9 ?pf10 ?pf11 rfl ?pdB
    case pd1 =>
      show He.obsD Pd.topFa Pd.topFn _ = He.valD Pd.topFn
      kernel_rfl
    case pe0 => kernel_rfl
    case pe1 => kernel_rfl
    case pe2 => kernel_rfl
    case pe3 => kernel_rfl
    case pe4 => kernel_rfl
    case pe5 => kernel_rfl
    case pe6 => kernel_rfl
    case pf0 => kernel_rfl
    case pf1 => kernel_rfl
    case pf2 => kernel_rfl
    case pf3 => kernel_rfl
    case pf4 => kernel_rfl
    case pf5 => kernel_rfl
    case pf6 => kernel_rfl
    case pf7 => kernel_rfl
    case pf8 => kernel_rfl
    case pf9 => kernel_rfl
    case pf10 => kernel_rfl
    case pf11 => kernel_rfl
    case pdB => kernel_rfl
