import PyProof.Rows.All
import Wide.All
import OpenK.AllK
import Wide.FinOn
import HandS.Base
import HandS.Call
import HandS.List
import HandS.Comp
import HandS.Ends
import HandS.Dict
import HandS.Iter
import HandS.Text
import HandS.Deep
import HandS.TupAny
import HandS.IsInst
import HandS.Words
import HandS.WordsList
import KE.GoesEnum
import KE.GoesMore
import KE.GoesZip
import HandS.Zip
import HandS.Style
import KE.DataMinMax
import KE.KDictZip
import HandS.Conv
import HandS.Finally
import HandS.Exc
import HandS.ExcInit
import HandS.Nested
import KE.KExcSuper
import HandS.ExcIs
import HandS.ExcField
import KE.KExcIs
import HandS.MakeKwOnly
import HandS.CallSlots
import HandS.ExcOwn
import PyProof.ExcBaseAll.ValueError
import HandS.RaiseMore
import HandS.More
import HandS.Evl
import HandS.FStr
import HandS.Lambda
import KE.KDflt
import HandS.Defaults
import HandS.WordsExc
import HandS.HeadHook3
import HandS.EndOwn
import KE.KNestM
import HandS.ForMost
import PySem.Challenge.RW_hingehall_k14_a_bench_there_and_back
/-! PdA -/
set_option Elab.async false
set_option linter.all false
set_option maxRecDepth 100000
set_option maxHeartbeats 4000000
/-! Pure data: what expressions evaluate to, told over PyData, the heap only growing (a base heap of pure data, owned lists beside it). -/
namespace Pd
open PySem PySem.Spec PyProof.Rows L2

def Ex (H H' : Hp) : Prop := ∀ a o, H a = some o → H' a = some o
theorem Ex.refl (H : Hp) : Ex H H := fun _ _ h => h
theorem Ex.trans {H H1 H2 : Hp} (a : Ex H H1) (b : Ex H1 H2) : Ex H H2 := fun x o h => b x o (a x o h)
theorem Ex.new {H : Hp} {p : Addr} {o : HO} (h : H p = none) : Ex H (upd H p o) := fun a u e => by
  rw [upd_ne (ne_of_none e h)]
  exact e
theorem Ex.mut {H H' : Hp} {p : Addr} {o : HO} (e : Ex H H') (h : H p = none) : Ex H (upd H' p o) := fun a u ha => by
  rw [upd_ne (ne_of_none ha h)]
  exact e a u ha
theorem Ex.nil {H H' : Hp} {p : Addr} (e : Ex H H') (h : H' p = none) : H p = none := by
  cases h1 : H p with
  | none => rfl
  | some o =>
    rw [e p o h1] at h
    cases h
theorem Ex.nn {H H' : Hp} {p : Addr} (e : Ex H H') (h : H p ≠ none) : H' p ≠ none := fun z => h (Ex.nil e z)
theorem Ex.upd2 {H H' : Hp} {p : Addr} {o : HO} (e : Ex H H') : Ex (upd H p o) (upd H' p o) := fun a u ha => by
  by_cases h : a = p
  · subst h
    rw [upd_same] at ha ⊢
    exact ha
  · rw [upd_ne h] at ha ⊢
    exact e a u ha
theorem Ex.seqL {K : PySem.W.Frag} {H H' : Hp} {a : Addr} {xs : List V} (e : Ex H H') (h : SqL K H a xs) : SqL K H' a xs := by
  rcases h with (h | ⟨o, h⟩) | h
  · exact .inl (.inl (e _ _ h))
  · exact .inl (.inr ⟨o, e _ _ h⟩)
  · exact .inr h

mutual
inductive DH (H : Hp) : V → PyData → Prop
  | non : DH H .non .none
  | bl (b : Bool) : DH H (.bl b) (.bool b)
  | int (i : Int) : DH H (.int i) (.int i)
  | str (x : Str) : DH H (.str x) (.str x)
  | lst {a : Addr} {xs : List V} {ds : List PyData} : H a = some (.lst xs) → DHs H xs ds → DH H (.ref a) (.list ds)
  | tup {a : Addr} {xs : List V} {ds : List PyData} : H a = some (.tup xs) → DHs H xs ds → DH H (.ref a) (.tuple ds)
inductive DHs (H : Hp) : List V → List PyData → Prop
  | nil : DHs H [] []
  | cons {v : V} {vs : List V} {d : PyData} {ds : List PyData} : DH H v d → DHs H vs ds → DHs H (v :: vs) (d :: ds)
end
mutual
theorem DH.mono {H H' : Hp} (e : Ex H H') : ∀ {v : V} {d : PyData}, DH H v d → DH H' v d
  | _, _, .non => .non
  | _, _, .bl b => .bl b
  | _, _, .int i => .int i
  | _, _, .str x => .str x
  | _, _, .lst h r => .lst (e _ _ h) (DHs.mono e r)
  | _, _, .tup h r => .tup (e _ _ h) (DHs.mono e r)
theorem DHs.mono {H H' : Hp} (e : Ex H H') : ∀ {vs : List V} {ds : List PyData}, DHs H vs ds → DHs H' vs ds
  | _, _, .nil => .nil
  | _, _, .cons h r => .cons (DH.mono e h) (DHs.mono e r)
end
mutual
theorem DH.dp {K : PySem.W.Frag} {H : Hp} : ∀ {v : V} {d : PyData}, DH H v d → Dp K H v d
  | _, _, .non => .non
  | _, _, .bl b => .bl b
  | _, _, .int i => .int i
  | _, _, .str x => .str x
  | _, _, .lst h r => .lst (SqL.of h) (DHs.dp r)
  | _, _, .tup h r => .tup (SqT.of h) (DHs.dp r)
theorem DHs.dp {K : PySem.W.Frag} {H : Hp} : ∀ {vs : List V} {ds : List PyData}, DHs H vs ds → DpAll K H vs ds
  | _, _, .nil => .nil
  | _, _, .cons h r => .cons (DH.dp h) (DHs.dp r)
end
theorem DHs.length {H : Hp} : ∀ {vs : List V} {ds : List PyData}, DHs H vs ds → vs.length = ds.length
  | _, _, .nil => rfl
  | _, _, .cons _ r => by rw [List.length_cons, List.length_cons, DHs.length r]
theorem DHs.get {H : Hp} : ∀ {vs : List V} {ds : List PyData} {i : Nat} {d : PyData}, DHs H vs ds → ds[i]? = some d → ∃ v, vs[i]? = some v ∧ DH H v d
  | _, _, _, _, .nil, e => by simp at e
  | _, _, 0, _, .cons h _, e => by
    simp at e
    subst e
    exact ⟨_, rfl, h⟩
  | _, _, i + 1, _, .cons _ r, e => by
    obtain ⟨v, h1, h2⟩ := DHs.get (i := i) r (by simpa using e)
    exact ⟨v, by simpa using h1, h2⟩
theorem DHs.get' {H : Hp} : ∀ {vs : List V} {ds : List PyData} {i : Nat} {v : V}, DHs H vs ds → vs[i]? = some v → ∃ d, ds[i]? = some d ∧ DH H v d
  | _, _, _, _, .nil, e => by simp at e
  | _, _, 0, _, .cons h _, e => by
    simp at e
    subst e
    exact ⟨_, rfl, h⟩
  | _, _, i + 1, _, .cons _ r, e => by
    obtain ⟨v, h1, h2⟩ := DHs.get' (i := i) r (by simpa using e)
    exact ⟨v, by simpa using h1, h2⟩
theorem DHs.append {H : Hp} : ∀ {vs ws : List V} {ds es : List PyData}, DHs H vs ds → DHs H ws es → DHs H (vs ++ ws) (ds ++ es)
  | _, _, _, _, .nil, s => s
  | _, _, _, _, .cons h r, s => .cons h (DHs.append r s)
theorem DHs.take {H : Hp} : ∀ {vs : List V} {ds : List PyData} (n : Nat), DHs H vs ds → DHs H (vs.take n) (ds.take n)
  | _, _, 0, _ => .nil
  | _, _, _ + 1, .nil => .nil
  | _, _, n + 1, .cons h r => .cons h (DHs.take n r)
theorem DHs.drop {H : Hp} : ∀ {vs : List V} {ds : List PyData} (n : Nat), DHs H vs ds → DHs H (vs.drop n) (ds.drop n)
  | _, _, 0, r => r
  | _, _, _ + 1, .nil => .nil
  | _, _, n + 1, .cons _ r => DHs.drop n r
theorem DHs.one {H : Hp} {v : V} {d : PyData} (h : DH H v d) : DHs H [v] [d] := .cons h .nil
theorem DHs.erase {H : Hp} : ∀ {vs : List V} {ds : List PyData} (n : Nat), DHs H vs ds → DHs H (vs.eraseIdx n) (ds.eraseIdx n)
  | _, _, _, .nil => by simpa using DHs.nil
  | _, _, 0, .cons h r => r
  | _, _, n + 1, .cons h r => .cons h (DHs.erase n r)
theorem DHs.strs {H : Hp} : ∀ {vs : List V} {zs : List Str}, DHs H vs (zs.map PyData.str) → vs = zs.map V.str
  | _, [], h => by cases h; rfl
  | _, z :: zs, h => by
    cases h with
    | cons a r =>
      cases a
      rw [DHs.strs r]
      rfl

/-- the base grows, the heap grows, what was beside the base stays beside it -/
structure Gr (B H B' H' : Hp) : Prop where
  b : Ex B B'
  t : Ex B' H'
  h : Ex H H'
  n : ∀ a, B a = none → H a ≠ none → B' a = none
theorem Gr.refl {B H : Hp} (e : Ex B H) : Gr B H B H := ⟨Ex.refl B, e, Ex.refl H, fun _ h _ => h⟩
theorem Gr.trans {B H B1 H1 B2 H2 : Hp} (a : Gr B H B1 H1) (b : Gr B1 H1 B2 H2) : Gr B H B2 H2 :=
  ⟨a.b.trans b.b, b.t, a.h.trans b.h, fun x h1 h2 => b.n x (a.n x h1 h2) (Ex.nn a.h h2)⟩
/-- a new object, into the base -/
theorem Gr.new {B H : Hp} {p : Addr} {o : HO} (e : Ex B H) (h : H p = none) : Gr B H (upd B p o) (upd H p o) :=
  ⟨Ex.new (e.nil h), e.upd2, Ex.new h, fun a h1 h2 => by
    have q : a ≠ p := fun z => h2 (by rw [z]; exact h)
    rw [upd_ne q]
    exact h1⟩
/-- a new object, beside the base -/
theorem Gr.own {B H : Hp} {p : Addr} {o : HO} (e : Ex B H) (h : H p = none) : Gr B H B (upd H p o) :=
  ⟨Ex.refl B, e.mut (e.nil h), Ex.new h, fun a h1 _ => h1⟩

abbrev Rho := List (Option PyData)
/-- the slots hold the data told -/
structure EnvD (σ : L2.St) (B : Hp) (ρ : Rho) : Prop where
  len : σ.length = ρ.length
  get : ∀ (i : Nat) (d : PyData), ρ[i]? = some (some d) → ∃ v, σ[i]? = some (some v) ∧ DH B v d
theorem EnvD.mono {σ : L2.St} {B B' : Hp} {ρ : Rho} (e : Ex B B') (h : EnvD σ B ρ) : EnvD σ B' ρ :=
  ⟨h.len, fun i d q => let ⟨v, a, b⟩ := h.get i d q; ⟨v, a, b.mono e⟩⟩
theorem EnvD.set {σ : L2.St} {B : Hp} {ρ : Rho} {v : V} {d : PyData} (i : Nat) (h : EnvD σ B ρ) (hd : DH B v d) : EnvD (σ.set i (some v)) B (ρ.set i (some d)) := by
  refine ⟨by rw [List.length_set, List.length_set]; exact h.len, fun j e q => ?_⟩
  by_cases hj : i = j
  · subst hj
    by_cases hl : i < ρ.length
    · rw [List.getElem?_set_self hl] at q
      cases q
      exact ⟨v, List.getElem?_set_self (by rw [h.len]; exact hl), hd⟩
    · rw [List.getElem?_eq_none (by rw [List.length_set]; omega)] at q
      cases q
  · rw [List.getElem?_set_ne hj] at q ⊢
    exact h.get j e q
/-- a slot's data forgotten -/
theorem EnvD.forget {σ : L2.St} {B : Hp} {ρ : Rho} (i : Nat) (o : Option V) (h : EnvD σ B ρ) : EnvD (σ.set i o) B (ρ.set i none) := by
  refine ⟨by rw [List.length_set, List.length_set]; exact h.len, fun j e q => ?_⟩
  by_cases hj : i = j
  · subst hj
    by_cases hl : i < ρ.length
    · rw [List.getElem?_set_self hl] at q
      cases q
    · rw [List.getElem?_eq_none (by rw [List.length_set]; omega)] at q
      cases q
  · rw [List.getElem?_set_ne hj] at q ⊢
    exact h.get j e q
theorem EnvD.drop {σ : L2.St} {B : Hp} {ρ : Rho} (i : Nat) (h : EnvD σ B ρ) : EnvD σ B (ρ.set i none) := by
  refine ⟨by rw [List.length_set]; exact h.len, fun j e q => ?_⟩
  by_cases hj : i = j
  · subst hj
    by_cases hl : i < ρ.length
    · rw [List.getElem?_set_self hl] at q
      cases q
    · rw [List.getElem?_eq_none (by rw [List.length_set]; omega)] at q
      cases q
  · rw [List.getElem?_set_ne hj] at q
    exact h.get j e q
/-- told anew -/
theorem EnvD.tell {σ : L2.St} {B : Hp} {ρ : Rho} {v : V} {d : PyData} (i : Nat) (h : EnvD σ B ρ) (hv : σ[i]? = some (some v)) (hd : DH B v d) : EnvD σ B (ρ.set i (some d)) := by
  refine ⟨by rw [List.length_set]; exact h.len, fun j e q => ?_⟩
  by_cases hj : i = j
  · subst hj
    by_cases hl : i < ρ.length
    · rw [List.getElem?_set_self hl] at q
      cases q
      exact ⟨v, hv, hd⟩
    · rw [List.getElem?_eq_none (by rw [List.length_set]; omega)] at q
      cases q
  · rw [List.getElem?_set_ne hj] at q
    exact h.get j e q
def wipeR (ρ : Rho) : List Nat → Rho
  | [] => ρ
  | v :: vs => (wipeR ρ vs).set v none
theorem EnvD.wipe {σ : L2.St} {B : Hp} {ρ : Rho} (h : EnvD σ B ρ) : ∀ vs : List Nat, EnvD (L2.wipe σ vs) B (wipeR ρ vs)
  | [] => h
  | v :: vs => (EnvD.wipe h vs).forget v none
theorem env_start {N : List Str} {vs : List V} {B : Hp} {ds : List PyData} (h : DHs B vs ds) (hl : vs.length ≤ N.length) : EnvD (L2.start N vs) B (ds.map some ++ List.replicate (N.length - ds.length) none) := by
  have e := h.length
  refine ⟨by simp [L2.start, e], fun i d q => ?_⟩
  unfold L2.start
  by_cases hi : i < ds.length
  · rw [List.getElem?_append_left (by rw [List.length_map]; exact hi), List.getElem?_map] at q
    cases hd : ds[i]? with
    | none => rw [hd] at q; simp at q
    | some u =>
      rw [hd] at q
      simp at q
      subst q
      obtain ⟨v, h1, h2⟩ := h.get hd
      refine ⟨v, ?_, h2⟩
      rw [List.getElem?_append_left (by rw [List.length_map]; omega), List.getElem?_map, h1]
      rfl
  · rw [List.getElem?_append_right (by rw [List.length_map]; omega)] at q
    rw [List.getElem?_replicate] at q
    split at q
    · cases q
    · cases q

/-! ### the judgements -/
def ED (te : TE) (ρ : Rho) (d : PyData) : Prop := ∀ σ B H, Ex B H → EnvD σ B ρ → ∀ Q : VK, (∀ v B' H', Gr B H B' H' → DH B' v d → Q v H') → te σ H Q
def ET (tt : TT) (ρ : Rho) (b : Bool) : Prop := ∀ σ B H, Ex B H → EnvD σ B ρ → ∀ Q : Bool → Hp → Prop, (∀ B' H', Gr B H B' H' → Q b H') → tt σ H Q
def EA (ta : TA) (ρ : Rho) (ds : List PyData) : Prop := ∀ σ B H, Ex B H → EnvD σ B ρ → ∀ Q : List V → Hp → Prop, (∀ vs B' H', Gr B H B' H' → DHs B' vs ds → Q vs H') → ta σ H Q
def EO (to : TO) (ρ : Rho) (o : Option Int) : Prop := ∀ σ B H, Ex B H → EnvD σ B ρ → ∀ Q : Option Int → Hp → Prop, (∀ B' H', Gr B H B' H' → Q o H') → to σ H Q
def RD2 (r : R2) (d e z : PyData) : Prop := ∀ B H x y, Ex B H → DH B x d → DH B y e → ∀ Q : VK, (∀ v B' H', Gr B H B' H' → DH B' v z → Q v H') → r x y H Q
def RC (r : List V → Hp → VK → Prop) (ds : List PyData) (z : PyData) : Prop := ∀ B H vs, Ex B H → DHs B vs ds → ∀ Q : VK, (∀ v B' H', Gr B H B' H' → DH B' v z → Q v H') → r vs H Q

section
variable {K : PySem.W.Frag} {ρ : Rho} {ta tb tc te : TE} {t u : TT} {d e z : PyData} {r : R2}
theorem ed_var {i : Nat} (h : ρ[i]? = some (some d)) : ED (tVar i) ρ d := fun σ B H e ev Q q => by
  obtain ⟨v, h1, h2⟩ := ev.get i d h
  exact ⟨v, h1, q v B H (Gr.refl e) h2⟩
theorem ed_int {i : Int} : ED (tC (.int i)) ρ (.int i) := fun σ B H e ev Q q => q _ B H (Gr.refl e) (.int i)
theorem ed_str {x : Str} : ED (tC (.str x)) ρ (.str x) := fun σ B H e ev Q q => q _ B H (Gr.refl e) (.str x)
theorem ed_bl {b : Bool} : ED (tC (.bl b)) ρ (.bool b) := fun σ B H e ev Q q => q _ B H (Gr.refl e) (.bl b)
theorem ed_non : ED (tC .non) ρ .none := fun σ B H e ev Q q => q _ B H (Gr.refl e) .non
theorem ED.is {d' : PyData} (h : ED te ρ d) (e : d = d') : ED te ρ d' := e ▸ h
theorem ET.is {b b' : Bool} (h : ET t ρ b) (e : b = b') : ET t ρ b' := e ▸ h
theorem ed_op (ha : ED ta ρ d) (hb : ED tb ρ e) (hr : RD2 r d e z) : ED (tOp r ta tb) ρ z := fun σ B H ex ev Q q => by
  refine ha σ B H ex ev _ fun x B1 H1 g1 d1 => ?_
  refine hb σ B1 H1 g1.t (ev.mono g1.b) _ fun y B2 H2 g2 d2 => ?_
  exact hr B2 H2 x y g2.t (d1.mono g2.b) d2 Q fun v B' H' g3 d3 => q v B' H' ((g1.trans g2).trans g3) d3
theorem ea_nil : EA tNil ρ [] := fun σ B H ex ev Q q => q [] B H (Gr.refl ex) .nil
theorem ea_cons {tr : TA} {ds : List PyData} (h : ED ta ρ d) (hr : EA tr ρ ds) : EA (tCons ta tr) ρ (d :: ds) := fun σ B H ex ev Q q => by
  refine h σ B H ex ev _ fun x B1 H1 g1 d1 => ?_
  refine hr σ B1 H1 g1.t (ev.mono g1.b) _ fun xs B2 H2 g2 d2 => ?_
  exact q (x :: xs) B2 H2 (g1.trans g2) (.cons (d1.mono g2.b) d2)
theorem ed_tup {ta : TA} {ds : List PyData} (h : EA ta ρ ds) (hl : ds.length ≤ 100000) : ED (tTup ta) ρ (.tuple ds) := fun σ B H ex ev Q q => by
  refine h σ B H ex ev _ fun xs B1 H1 g1 d1 => ⟨?_, fun p hp => ?_⟩
  · rw [d1.length]
    exact Nat.le_trans hl (by decide)
  · have g2 := Gr.new (o := .tup xs) g1.t hp
    exact q _ _ _ (g1.trans g2) (.tup upd_same (d1.mono g2.b))
theorem ed_lst {ta : TA} {ds : List PyData} (h : EA ta ρ ds) (hl : ds.length ≤ 100000) : ED (tLst ta) ρ (.list ds) := fun σ B H ex ev Q q => by
  refine h σ B H ex ev _ fun xs B1 H1 g1 d1 => ⟨?_, fun p hp => ?_⟩
  · rw [d1.length]
    exact Nat.le_trans hl (by decide)
  · have g2 := Gr.new (o := .lst xs) g1.t hp
    exact q _ _ _ (g1.trans g2) (.lst upd_same (d1.mono g2.b))
theorem ed_cb {r : List V → Hp → VK → Prop} {ta : TA} {ds : List PyData} (h : EA ta ρ ds) (hr : RC r ds z) : ED (tCB r ta) ρ z := fun σ B H ex ev Q q => by
  refine h σ B H ex ev _ fun xs B1 H1 g1 d1 => ?_
  exact hr B1 H1 xs g1.t d1 Q fun v B' H' g3 d3 => q v B' H' (g1.trans g3) d3
theorem ed_if {b : Bool} (h : ET t ρ b) (h1 : b = true → ED ta ρ d) (h2 : b = false → ED tb ρ d) : ED (tIf t ta tb) ρ d := fun σ B H ex ev Q q => by
  refine h σ B H ex ev _ fun B1 H1 g1 => ?_
  cases b with
  | true => exact h1 rfl σ B1 H1 g1.t (ev.mono g1.b) Q fun v B' H' g3 d3 => q v B' H' (g1.trans g3) d3
  | false => exact h2 rfl σ B1 H1 g1.t (ev.mono g1.b) Q fun v B' H' g3 d3 => q v B' H' (g1.trans g3) d3
theorem et_test {b : Bool} (h : ED te ρ (.bool b)) : ET (tTest te) ρ b := fun σ B H ex ev Q q => by
  refine h σ B H ex ev _ fun v B1 H1 g1 d1 => ?_
  cases d1
  exact ⟨b, rfl, q B1 H1 g1⟩
theorem et_B {b : Bool} (h : ED te ρ (.bool b)) : ET (tB te) ρ b := et_test h
theorem et_and {a b : Bool} (h1 : ET t ρ a) (h2 : a = true → ET u ρ b) : ET (tAnd t u) ρ (a && b) := fun σ B H ex ev Q q => by
  refine h1 σ B H ex ev _ fun B1 H1 g1 => ?_
  cases a with
  | true => exact h2 rfl σ B1 H1 g1.t (ev.mono g1.b) Q fun B' H' g3 => q B' H' (g1.trans g3)
  | false => exact q B1 H1 g1
theorem et_or {a b : Bool} (h1 : ET t ρ a) (h2 : a = false → ET u ρ b) : ET (tOr t u) ρ (a || b) := fun σ B H ex ev Q q => by
  refine h1 σ B H ex ev _ fun B1 H1 g1 => ?_
  cases a with
  | true => exact q B1 H1 g1
  | false => exact h2 rfl σ B1 H1 g1.t (ev.mono g1.b) Q fun B' H' g3 => q B' H' (g1.trans g3)
theorem et_not {a : Bool} (h : ET t ρ a) : ET (tNot t) ρ (!a) := fun σ B H ex ev Q q => h σ B H ex ev _ fun B1 H1 g1 => q B1 H1 g1
theorem et_yes : ET tYes ρ true := fun σ B H ex ev Q q => q B H (Gr.refl ex)
theorem ed_andV {a b : Bool} (h1 : ED ta ρ (.bool a)) (h2 : a = true → ED tb ρ (.bool b)) : ED (tAndV ta tb) ρ (.bool (a && b)) := fun σ B H ex ev Q q => by
  refine h1 σ B H ex ev _ fun v B1 H1 g1 d1 => ?_
  cases d1
  refine ⟨a, rfl, ?_⟩
  cases a with
  | true => exact h2 rfl σ B1 H1 g1.t (ev.mono g1.b) Q fun v B' H' g3 d3 => q v B' H' (g1.trans g3) d3
  | false => exact q _ B1 H1 g1 (.bl false)
theorem ed_orV {a b : Bool} (h1 : ED ta ρ (.bool a)) (h2 : a = false → ED tb ρ (.bool b)) : ED (tOrV ta tb) ρ (.bool (a || b)) := fun σ B H ex ev Q q => by
  refine h1 σ B H ex ev _ fun v B1 H1 g1 d1 => ?_
  cases d1
  refine ⟨a, rfl, ?_⟩
  cases a with
  | true => exact q _ B1 H1 g1 (.bl true)
  | false => exact h2 rfl σ B1 H1 g1.t (ev.mono g1.b) Q fun v B' H' g3 d3 => q v B' H' (g1.trans g3) d3
theorem ed_notV {a : Bool} (h1 : ED ta ρ (.bool a)) : ED (tNotV ta) ρ (.bool (!a)) := fun σ B H ex ev Q q => by
  refine h1 σ B H ex ev _ fun v B1 H1 g1 d1 => ?_
  cases d1
  exact ⟨a, rfl, q _ B1 H1 g1 (.bl _)⟩
/-- a < b < c -/
theorem ed_chain {r' : R2} {f : PyData} {k k2 : Bool} (ha : ED ta ρ d) (hb : ED tb ρ e) (hr : RD2 r d e (.bool k)) (hc : k = true → ED tc ρ f ∧ RD2 r' e f (.bool k2)) : ED (tChain r r' ta tb tc) ρ (.bool (k && k2)) := fun σ B H ex ev Q q => by
  refine ha σ B H ex ev _ fun x B1 H1 g1 d1 => ?_
  refine hb σ B1 H1 g1.t (ev.mono g1.b) _ fun y B2 H2 g2 d2 => ?_
  refine hr B2 H2 x y g2.t (d1.mono g2.b) d2 _ fun v B3 H3 g3 d3 => ?_
  cases d3
  refine ⟨k, rfl, ?_⟩
  have gg := (g1.trans g2).trans g3
  cases k with
  | true =>
    obtain ⟨hc, hr'⟩ := hc rfl
    show tc σ H3 fun w' H4 => r' y w' H4 Q
    refine hc σ B3 H3 g3.t (ev.mono gg.b) _ fun w B4 H4 g4 d4 => ?_
    exact hr' B4 H4 y w g4.t ((d2.mono g3.b).mono g4.b) d4 Q fun v B' H' g5 d5 => q v B' H' ((gg.trans g4).trans g5) d5
  | false => exact q _ B3 H3 gg (.bl false)
theorem eo_none : EO tNoPart ρ none := fun σ B H ex ev Q q => q B H (Gr.refl ex)
theorem eo_some {i : Int} (h : ED te ρ (.int i)) : EO (tPart te) ρ (some i) := fun σ B H ex ev Q q => by
  refine h σ B H ex ev _ fun v B1 H1 g1 d1 => ?_
  cases d1
  exact ⟨i, rfl, q B1 H1 g1⟩
end
end Pd

/-! PdB -/
set_option Elab.async false
set_option linter.all false
set_option maxRecDepth 100000
set_option maxHeartbeats 4000000
namespace Pd
open PySem PySem.Spec PyProof.Rows L2

/-! ### operators of several kinds of operands -/
def rAddS : R2 := fun x y H Q => ∃ i j, x = .str i ∧ y = .str j ∧ i.length + j.length ≤ sizeLine ∧ Q (.str (i ++ j)) H
def rAddX (K : PySem.W.Frag) : R2 := fun x y H Q => rI0 (fun i j => .int (i + j)) x y H Q ∨ rAddS x y H Q ∨ rCatA K x y H Q ∨ rCat x y H Q
theorem op_addX {X : Cx} : OpR X (binaryOp .Add) (rAddX X.K) := OpR.or op_add (OpR.or op_add_str (OpR.or op_catA op_cat))
def rMulX : R2 := fun x y H Q => rI CMul (fun i j => .int (i * j)) x y H Q ∨ rRep x y H Q
theorem op_mulX' {X : Cx} : OpR X (binaryOp .Mult) rMulX := OpR.or op_mul op_rep
/-- x in t, t a tuple of data -/
def rInDT (K : PySem.W.Frag) (neg : Bool) : R2 := fun x y H Q => ∃ d ds, Dp K H x d ∧ Dp K H y (.tuple ds) ∧ SeqAt.shaped d = true ∧ SeqAt.shaped (.tuple ds) = true ∧ Q (.bl (if neg then !ds.any fun z => PyData.eqv z d else ds.any fun z => PyData.eqv z d)) H
theorem op_inDT {X : Cx} (hu : X.A.units + 65 < cLine) : OpR X (compareOp .In) (rInDT X.K false) := by
  intro pins s σ H x y v u Q I rx ry h
  obtain ⟨d, ds, hd, he, sd, se, q⟩ := h
  obtain ⟨as, r1⟩ := Dp.reads I d x v hd rx
  obtain ⟨bs, r2⟩ := Dp.reads I (.tuple ds) y u he ry
  exact SeqAt.in_tuple_reads r2 r1 (SeqAt.canLay_of_shaped se) (SeqAt.canLay_of_shaped sd) (room_in_shaped sd hu) ⟨.bl _, H, I, rfl, q⟩
theorem op_notInDT {X : Cx} (hu : X.A.units + 65 < cLine) : OpR X (compareOp .NotIn) (rInDT X.K true) := by
  intro pins s σ H x y v u Q I rx ry h
  obtain ⟨d, ds, hd, he, sd, se, q⟩ := h
  obtain ⟨as, r1⟩ := Dp.reads I d x v hd rx
  obtain ⟨bs, r2⟩ := Dp.reads I (.tuple ds) y u he ry
  exact SeqAt.notIn_tuple_reads r2 r1 (SeqAt.canLay_of_shaped se) (SeqAt.canLay_of_shaped sd) (room_in_shaped sd hu) ⟨.bl _, H, I, rfl, q⟩
def rInSg (neg : Bool) : R2 := fun x y H Q => ∃ (c : Nat) (z : Str), x = .str ⟨#[c]⟩ ∧ y = .str z ∧ Q (.bl (if neg then !decide (c ∈ z.cps.toList) else decide (c ∈ z.cps.toList))) H
def rInLs (K : PySem.W.Frag) (neg : Bool) : R2 := fun x y H Q => ∃ d ds, Dp K H x d ∧ Dp K H y (.list ds) ∧ SeqAt.shaped d = true ∧ SeqAt.shaped (.list ds) = true ∧ Q (.bl (if neg then !ds.any fun z => PyData.eqv z d else ds.any fun z => PyData.eqv z d)) H
def rInX (K : PySem.W.Frag) (neg : Bool) : R2 := fun x y H Q => rInDT K neg x y H Q ∨ rInLs K neg x y H Q ∨ rIn K neg x y H Q ∨ rInSg neg x y H Q
theorem op_inX {X : Cx} (hu : X.A.units + 65 < cLine) : OpR X (compareOp .In) (rInX X.K false) := OpR.or (op_inDT hu) (OpR.or (op_inD hu) (OpR.or op_in_seq op_in_sign))
theorem op_notInX {X : Cx} (hu : X.A.units + 65 < cLine) : OpR X (compareOp .NotIn) (rInX X.K true) := OpR.or (op_notInDT hu) (OpR.or (op_notInD hu) (OpR.or op_notIn_seq op_notIn_sign))
def rSlX (K : PySem.W.Frag) : V → Option Int → Option Int → Hp → VK → Prop := fun x lo hi H Q => rSlL K x lo hi H Q ∨ rSlA K x lo hi H Q ∨ rSlS x lo hi H Q
theorem sl_X {X : Cx} : SlR X (rSlX X.K) := SlR.or sl_list (SlR.or sl_tupA sl_str)
theorem hu65 {A : Around} {k : Nat} (hr : Room k A) : A.units + 65 < cLine := by
  have := hr.un
  omega

section
variable {K : PySem.W.Frag} {ρ : Rho} {ta tb tc te : TE} {t u : TT} {d e z : PyData} {ds es : List PyData} {i j : Int}
theorem r2_i0 {g : Int → Int → V} {f : Int → Int → PyData} (hf : ∀ (H : Hp) (a b : Int), DH H (g a b) (f a b)) : RD2 (rI0 g) (.int i) (.int j) (f i j) := fun B H x y ex dx dy Q q => by
  cases dx; cases dy
  exact ⟨i, j, rfl, rfl, q _ B H (Gr.refl ex) (hf B i j)⟩
theorem r2_iC {C : Int → Int → Prop} {g : Int → Int → V} {f : Int → Int → PyData} (hf : ∀ (H : Hp) (a b : Int), DH H (g a b) (f a b)) (hc : C i j) : RD2 (rI C g) (.int i) (.int j) (f i j) := fun B H x y ex dx dy Q q => by
  cases dx; cases dy
  exact ⟨i, j, rfl, rfl, hc, q _ B H (Gr.refl ex) (hf B i j)⟩
theorem r2_addI : RD2 (rAddX K) (.int i) (.int j) (.int (i + j)) := fun B H x y ex dx dy Q q => .inl (r2_i0 (f := fun a b => .int (a + b)) (fun _ a b => .int _) B H x y ex dx dy Q q)
theorem r2_subI : RD2 (rI0 fun i j => .int (i - j)) (.int i) (.int j) (.int (i - j)) := r2_i0 (f := fun a b => .int (a - b)) (fun _ a b => .int _)
theorem r2_lt : RD2 (rI0 fun i j => .bl (decide (i < j))) (.int i) (.int j) (.bool (decide (i < j))) := r2_i0 (f := fun a b => .bool (decide (a < b))) (fun _ a b => .bl _)
theorem r2_le : RD2 (rI0 fun i j => .bl (decide (i ≤ j))) (.int i) (.int j) (.bool (decide (i ≤ j))) := r2_i0 (f := fun a b => .bool (decide (a ≤ b))) (fun _ a b => .bl _)
theorem r2_gt : RD2 (rI0 fun i j => .bl (decide (j < i))) (.int i) (.int j) (.bool (decide (j < i))) := r2_i0 (f := fun a b => .bool (decide (b < a))) (fun _ a b => .bl _)
theorem r2_ge : RD2 (rI0 fun i j => .bl (decide (j ≤ i))) (.int i) (.int j) (.bool (decide (j ≤ i))) := r2_i0 (f := fun a b => .bool (decide (b ≤ a))) (fun _ a b => .bl _)
theorem r2_mod (h : 0 < j) : RD2 (rI (fun _ j => 0 < j) fun i j => .int (i % j)) (.int i) (.int j) (.int (i % j)) := r2_iC (f := fun a b => .int (a % b)) (fun _ a b => .int _) h
theorem r2_fdiv (h : CDiv i j) : RD2 (rI CDiv fun i j => .int (i / j)) (.int i) (.int j) (.int (i / j)) := r2_iC (f := fun a b => .int (a / b)) (fun _ a b => .int _) h
theorem r2_pow (h : CPow i j) : RD2 (rI CPow fun i j => .int (i ^ j.toNat)) (.int i) (.int j) (.int (i ^ j.toNat)) := r2_iC (f := fun a b => .int (a ^ b.toNat)) (fun _ a b => .int _) h
theorem r2_mulI (h : CMul i j) : RD2 rMulX (.int i) (.int j) (.int (i * j)) := fun B H x y ex dx dy Q q => .inl (r2_iC (f := fun a b => .int (a * b)) (fun _ a b => .int _) h B H x y ex dx dy Q q)
theorem DHs.flatRep {H : Hp} {xs : List V} (h : DHs H xs ds) : ∀ n : Nat, DHs H (List.replicate n xs).flatten (List.replicate n ds).flatten
  | 0 => .nil
  | n + 1 => by
    rw [List.replicate_succ, List.replicate_succ, List.flatten_cons, List.flatten_cons]
    exact h.append (DHs.flatRep h n)
theorem r2_rep (h0 : 0 ≤ i) (h1 : i ≤ 1000) (h2 : ds.length ≤ 1000) : RD2 rMulX (.list ds) (.int i) (.list (List.replicate i.toNat ds).flatten) := fun B H x y ex dx dy Q q => by
  cases dy
  cases dx with
  | @lst a xs _ ha hs =>
    refine .inr ⟨a, i, xs, rfl, rfl, ex _ _ ha, by omega, by omega, ?_, fun p hp => ?_⟩
    · rw [hs.length]
      have : ds.length * i.toNat ≤ 1000 * 1000 := Nat.mul_le_mul h2 (by omega)
      exact Nat.le_trans this (by decide)
    · have g := Gr.new (o := .lst (List.replicate i.toNat xs).flatten) ex hp
      exact q _ _ _ g (.lst upd_same ((hs.flatRep i.toNat).mono g.b))
theorem r2_addS {x y : Str} (h : x.length + y.length ≤ 100000) : RD2 (rAddX K) (.str x) (.str y) (.str (x ++ y)) := fun B H a b ex dx dy Q q => by
  cases dx; cases dy
  exact .inr (.inl ⟨x, y, rfl, rfl, Nat.le_trans h (by decide), q _ B H (Gr.refl ex) (.str _)⟩)
theorem r2_catL (h : ds.length + es.length ≤ 100000) : RD2 (rAddX K) (.list ds) (.list es) (.list (ds ++ es)) := fun B H x y ex dx dy Q q => by
  cases dx with
  | @lst a xs _ ha hs =>
  cases dy with
  | @lst b ys _ hb hs' =>
    refine .inr (.inr (.inr ⟨a, b, xs, ys, rfl, rfl, ex _ _ ha, ex _ _ hb, ?_, fun p hp => ?_⟩))
    · rw [hs.length, hs'.length]
      exact Nat.le_trans h (by decide)
    · have g := Gr.new (o := .lst (xs ++ ys)) ex hp
      exact q _ _ _ g (.lst upd_same ((hs.append hs').mono g.b))
theorem r2_catT (h : ds.length + es.length ≤ 100000) : RD2 (rAddX K) (.tuple ds) (.tuple es) (.tuple (ds ++ es)) := fun B H x y ex dx dy Q q => by
  cases dx with
  | @tup a xs _ ha hs =>
  cases dy with
  | @tup b ys _ hb hs' =>
    refine .inr (.inr (.inl ⟨a, b, xs, ys, rfl, rfl, SqT.of (ex _ _ ha), SqT.of (ex _ _ hb), ?_, fun z => ?_, fun z1 z2 => ?_, fun z1 z2 p hp => ?_⟩))
    · rw [hs.length, hs'.length]
      exact Nat.le_trans h (by decide)
    · subst z
      cases hs
      exact q _ B H (Gr.refl ex) (.tup hb hs')
    · subst z2
      cases hs'
      rw [List.append_nil] at q
      exact q _ B H (Gr.refl ex) (.tup ha hs)
    · have g := Gr.new (o := .tup (xs ++ ys)) ex hp
      exact q _ _ _ g (.tup upd_same ((hs.append hs').mono g.b))
theorem r2_eq (hd : SeqAt.shaped d = true) (he : SeqAt.shaped e = true) : RD2 (rEqD K) d e (.bool (PyData.eqv d e)) := fun B H x y ex dx dy Q q =>
  ⟨d, e, (dx.mono ex).dp, (dy.mono ex).dp, hd, he, q _ B H (Gr.refl ex) (.bl _)⟩
theorem r2_ne (hd : SeqAt.shaped d = true) (he : SeqAt.shaped e = true) : RD2 (rNeD K) d e (.bool (!PyData.eqv d e)) := fun B H x y ex dx dy Q q =>
  ⟨d, e, (dx.mono ex).dp, (dy.mono ex).dp, hd, he, q _ B H (Gr.refl ex) (.bl _)⟩
theorem r2_inT {neg : Bool} (hd : SeqAt.shaped d = true) (he : SeqAt.shaped (.tuple ds) = true) : RD2 (rInX K neg) d (.tuple ds) (.bool (if neg then !ds.any fun z => PyData.eqv z d else ds.any fun z => PyData.eqv z d)) := fun B H x y ex dx dy Q q =>
  .inl ⟨d, ds, (dx.mono ex).dp, (dy.mono ex).dp, hd, he, q _ B H (Gr.refl ex) (.bl _)⟩
theorem r2_inL {neg : Bool} (hd : SeqAt.shaped d = true) (he : SeqAt.shaped (.list ds) = true) : RD2 (rInX K neg) d (.list ds) (.bool (if neg then !ds.any fun z => PyData.eqv z d else ds.any fun z => PyData.eqv z d)) := fun B H x y ex dx dy Q q =>
  .inr (.inl ⟨d, ds, (dx.mono ex).dp, (dy.mono ex).dp, hd, he, q _ B H (Gr.refl ex) (.bl _)⟩)
theorem r2_inS {neg : Bool} {c : Nat} {z : Str} : RD2 (rInX K neg) (.str ⟨#[c]⟩) (.str z) (.bool (if neg then !decide (c ∈ z.cps.toList) else decide (c ∈ z.cps.toList))) := fun B H x y ex dx dy Q q => by
  cases dx; cases dy
  exact .inr (.inr (.inr ⟨c, z, rfl, rfl, q _ B H (Gr.refl ex) (.bl _)⟩))
/-- x in T, T a tuple of texts of the module's own -/
theorem ed_inK {neg : Bool} {a : Addr} {xs : List V} {x : Str} (h : ED te ρ (.str x)) (hT : ∀ H, SqT K H a xs) (hf : xs.all flatV = true) : ED (tOp (rInX K neg) te (tC (.ref a))) ρ (.bool (if neg then !inV (.str x) xs else inV (.str x) xs)) := fun σ B H ex ev Q q => by
  refine h σ B H ex ev _ fun v B1 H1 g1 d1 => ?_
  cases d1
  exact .inr (.inr (.inl ⟨a, xs, rfl, .inr (hT H1), rfl, hf, q _ B1 H1 g1 (.bl _)⟩))
def isN : PyData → Bool
  | .none => true
  | _ => false
theorem r2_isN : RD2 (fun x y H Q => y = .non ∧ Q (.bl (decide (x = .non))) H) d .none (.bool (isN d)) := fun B H x y ex dx dy Q q => by
  cases dy
  refine ⟨rfl, q _ B H (Gr.refl ex) ?_⟩
  have e : decide (x = .non) = isN d := by cases dx <;> rfl
  rw [e]
  exact .bl _
theorem r2_notN : RD2 (fun x y H Q => y = .non ∧ Q (.bl (!decide (x = .non))) H) d .none (.bool (!isN d)) := fun B H x y ex dx dy Q q => by
  cases dy
  refine ⟨rfl, q _ B H (Gr.refl ex) ?_⟩
  have e : decide (x = .non) = isN d := by cases dx <;> rfl
  rw [e]
  exact .bl _
theorem atI_DHs {H : Hp} {xs : List V} (h : DHs H xs ds) (ha : atI ds i = some d) : ∃ v, atI xs i = some v ∧ DH H v d := by
  unfold atI at ha ⊢
  rw [h.length]
  cases e : ixN ds.length i with
  | none => rw [e] at ha; cases ha
  | some j =>
    rw [e] at ha
    exact h.get ha
theorem r2_ixL (ha : atI ds i = some d) : RD2 (rIx K) (.list ds) (.int i) d := fun B H x y ex dx dy Q q => by
  cases dy
  cases dx with
  | @lst a xs _ hb hs =>
    obtain ⟨v, h1, h2⟩ := atI_DHs hs ha
    exact .inl ⟨a, xs, i, v, rfl, rfl, SqL.of (ex _ _ hb), h1, q v B H (Gr.refl ex) h2⟩
theorem r2_ixT (ha : atI ds i = some d) : RD2 (rIx K) (.tuple ds) (.int i) d := fun B H x y ex dx dy Q q => by
  cases dy
  cases dx with
  | @tup a xs _ hb hs =>
    obtain ⟨v, h1, h2⟩ := atI_DHs hs ha
    exact .inr (.inl ⟨a, xs, i, v, rfl, rfl, SqT.of (ex _ _ hb), h1, q v B H (Gr.refl ex) h2⟩)
theorem r2_ixS {z : Str} {c : Nat} (hl : z.length ≤ 100000) (ha : atI z.cps.toList i = some c) : RD2 (rIx K) (.str z) (.int i) (.str ⟨#[c]⟩) := fun B H x y ex dx dy Q q => by
  cases dx; cases dy
  exact .inr (.inr ⟨z, i, c, rfl, rfl, Nat.le_trans hl (by decide), ha, q _ B H (Gr.refl ex) (.str _)⟩)
def cutD (ds : List PyData) (lo hi : Option Int) : List PyData := (ds.drop (HT.sIx ds.length 0 lo)).take (HT.sIx ds.length ds.length hi - HT.sIx ds.length 0 lo)
theorem DHs.cut {H : Hp} {xs : List V} {lo hi : Option Int} (h : DHs H xs ds) : DHs H (cutV xs lo hi) (cutD ds lo hi) := by
  unfold cutV cutD
  rw [h.length]
  exact (h.drop _).take _
theorem ed_slT {tl th : TO} {lo hi : Option Int} (h : ED te ρ (.tuple ds)) (hl : EO tl ρ lo) (hh : EO th ρ hi) : ED (tSl (rSlX K) te tl th) ρ (.tuple (cutD ds lo hi)) := fun σ B H ex ev Q q => by
  refine h σ B H ex ev _ fun v B1 H1 g1 d1 => ?_
  refine hl σ B1 H1 g1.t (ev.mono g1.b) _ fun B2 H2 g2 => ?_
  refine hh σ B2 H2 g2.t (ev.mono (g1.b.trans g2.b)) _ fun B3 H3 g3 => ?_
  have gg := (g1.trans g2).trans g3
  have d3 := (d1.mono g2.b).mono g3.b
  cases d3 with
  | @tup a xs _ ha hs =>
    refine .inr (.inl ⟨a, xs, rfl, SqT.of (g3.t _ _ ha), fun hw => ?_, fun hw p hp => ?_⟩)
    · refine q _ B3 H3 gg ?_
      have e : cutD ds lo hi = ds := by
        have hn := hs.length
        unfold cutD
        rw [hn] at hw
        rw [hw.1, hw.2]
        simp
      rw [e]
      exact .tup ha hs
    · have g := Gr.new (o := .tup (cutV xs lo hi)) g3.t hp
      exact q _ _ _ (gg.trans g) (.tup upd_same (hs.cut.mono g.b))
theorem ed_slL {tl th : TO} {lo hi : Option Int} (h : ED te ρ (.list ds)) (hl : EO tl ρ lo) (hh : EO th ρ hi) : ED (tSl (rSlX K) te tl th) ρ (.list (cutD ds lo hi)) := fun σ B H ex ev Q q => by
  refine h σ B H ex ev _ fun v B1 H1 g1 d1 => ?_
  refine hl σ B1 H1 g1.t (ev.mono g1.b) _ fun B2 H2 g2 => ?_
  refine hh σ B2 H2 g2.t (ev.mono (g1.b.trans g2.b)) _ fun B3 H3 g3 => ?_
  have gg := (g1.trans g2).trans g3
  have d3 := (d1.mono g2.b).mono g3.b
  cases d3 with
  | @lst a xs _ ha hs =>
    refine .inl ⟨a, xs, rfl, SqL.of (g3.t _ _ ha), fun p hp => ?_⟩
    have g := Gr.new (o := .lst (cutV xs lo hi)) g3.t hp
    exact q _ _ _ (gg.trans g) (.lst upd_same (hs.cut.mono g.b))
theorem ed_slS {tl th : TO} {lo hi : Option Int} {z : Str} (h : ED te ρ (.str z)) (hl : EO tl ρ lo) (hh : EO th ρ hi) (hz : z.length ≤ 100000) : ED (tSl (rSlX K) te tl th) ρ (.str (cutS z lo hi)) := fun σ B H ex ev Q q => by
  refine h σ B H ex ev _ fun v B1 H1 g1 d1 => ?_
  cases d1
  refine hl σ B1 H1 g1.t (ev.mono g1.b) _ fun B2 H2 g2 => ?_
  refine hh σ B2 H2 g2.t (ev.mono (g1.b.trans g2.b)) _ fun B3 H3 g3 => ?_
  exact .inr (.inr ⟨z, rfl, Nat.le_trans hz (by decide), q _ B3 H3 ((g1.trans g2).trans g3) (.str _)⟩)
/-! ### calls of built-ins -/
def rLenX (K : PySem.W.Frag) : List V → Hp → VK → Prop := fun xs H Q => ∃ x n, xs = [x] ∧ LenV K x H n ∧ Q (.int n) H
theorem rc_lenT : RC (rLenX K) [.tuple ds] (.int (ds.length : Nat)) := fun B H vs ex dv Q q => by
  cases dv with
  | cons dv r =>
    cases r
    cases dv with
    | @tup a xs _ ha hs =>
      rw [← hs.length] at q
      exact ⟨_, xs.length, rfl, .inr ⟨xs, SqT.of (ex _ _ ha), rfl⟩, q _ B H (Gr.refl ex) (.int _)⟩
theorem rc_lenL : RC (rLenX K) [.list ds] (.int (ds.length : Nat)) := fun B H vs ex dv Q q => by
  cases dv with
  | cons dv r =>
    cases r
    cases dv with
    | @lst a xs _ ha hs =>
      rw [← hs.length] at q
      exact ⟨_, xs.length, rfl, .inl ⟨xs, SqL.of (ex _ _ ha), rfl⟩, q _ B H (Gr.refl ex) (.int _)⟩
theorem rc_lenS {z : Str} (hz : z.length ≤ 100000) : RC (rLenX K) [.str z] (.int (z.length : Nat)) := fun B H vs ex dv Q q => by
  cases dv with
  | cons dv r =>
    cases r
    cases dv
    exact ⟨_, z.length, rfl, ⟨Nat.le_trans hz (by decide), rfl⟩, q _ B H (Gr.refl ex) (.int _)⟩
def rIntX : List V → Hp → VK → Prop := fun xs H Q => (∃ i, xs = [.int i] ∧ Q (.int i) H) ∨ ∃ k, xs = [.bl k] ∧ Q (.int (if k then 1 else 0)) H
theorem rc_intB {b : Bool} : RC rIntX [.bool b] (.int (if b then 1 else 0)) := fun B H vs ex dv Q q => by
  cases dv with
  | cons dv r =>
    cases r
    cases dv
    exact .inr ⟨b, rfl, q _ B H (Gr.refl ex) (.int _)⟩
def rTupX (K : PySem.W.Frag) : List V → Hp → VK → Prop := fun xs H Q => ∃ p ys, xs = [.ref p] ∧ ((SqL K H p ys ∧ ∀ l, H l = none → Q (.ref l) (upd H l (.tup ys))) ∨ (SqT K H p ys ∧ Q (.ref p) H))
theorem rc_tupL : RC (rTupX K) [.list ds] (.tuple ds) := fun B H vs ex dv Q q => by
  cases dv with
  | cons dv r =>
    cases r
    cases dv with
    | @lst a xs _ ha hs =>
      refine ⟨a, xs, rfl, .inl ⟨SqL.of (ex _ _ ha), fun p hp => ?_⟩⟩
      have g := Gr.new (o := .tup xs) ex hp
      exact q _ _ _ g (.tup upd_same (hs.mono g.b))
def tyN : PyData → String
  | .none => "NoneType"
  | .bool _ => "bool"
  | .int _ => "int"
  | .str _ => "str"
  | .list _ => "list"
  | .tuple _ => "tuple"
  | .dict _ => "dict"
theorem DH.ty {H H' : Hp} {v : V} (e : Ex H H') (h : DH H v d) : TyX K H' v (.type (tyN d)) := by
  cases h with
  | non => exact .base .non
  | bl b => exact .base (.bl b)
  | int i => exact .base (.int i)
  | str x => exact .base (.str x)
  | lst h _ => exact .base (.lst (e _ _ h))
  | tup h _ => exact .base (.tup (e _ _ h))
theorem ed_isi {n : String} {b : Bool} (h : ED te ρ d) (hk : kitB (tyN d) n = some b) : ED (tCB (rIsi K) (tCons te (tCons (tC (.ty n)) tNil))) ρ (.bool b) := fun σ B H ex ev Q q => by
  refine h σ B H ex ev _ fun v B1 H1 g1 d1 => ?_
  exact ⟨v, .ty n, _, _, b, rfl, .ty n, d1.ty g1.t, kit_ty hk, q _ B1 H1 g1 (.bl b)⟩
/-- isinstance(x, (tuple, list)) -/
theorem ed_isi2 {n m : String} {b c : Bool} (h : ED te ρ d) (hk : kitB (tyN d) n = some b) (hk2 : kitB (tyN d) m = some c) : ED (tCB (rIsiT K) (tCons te (tCons (tTup (tCons (tC (.ty n)) (tCons (tC (.ty m)) tNil))) tNil))) ρ (.bool (b || c)) := fun σ B H ex ev Q q => by
  refine h σ B H ex ev _ fun v B1 H1 g1 d1 => ⟨by show 2 ≤ sizeLine; decide, fun p hp => ?_⟩
  have g2 := Gr.own (o := .tup [.ty n, .ty m]) g1.t hp
  refine ⟨v, p, [.ty n, .ty m], _, [.type n, .type m], b || c, rfl, upd_same, .cons (.ty n) (.cons (.ty m) .nil), d1.ty g2.t, ?_, q _ B1 _ (g1.trans g2) (.bl _)⟩
  refine kitAny_cons (kit_ty hk) (fun hb => ?_) (fun hb => by rw [hb]; rfl)
  rw [hb]
  exact kitAny_cons (kit_ty hk2) (fun hc => by rw [hc]; exact kitAny_nil) (fun hc => by rw [hc]; rfl)
/-- ''.join(texts) -/
def rJoin (K : PySem.W.Frag) : V → List V → Hp → VK → Prop := fun x xs H Q => ∃ a p, ∃ ys : List Str, x = .str a ∧ xs = [.ref p] ∧ (SqL K H p (ys.map V.str) ∨ SqT K H p (ys.map V.str)) ∧ (ys.map (·.length)).sum + ys.length * a.length ≤ 16777216 ∧ Q (.str (Txt.join a ys)) H
theorem ed_join {a : Str} {ys : List Str} (h : ED te ρ (.list (ys.map PyData.str))) (hz : (ys.map (·.length)).sum + ys.length * a.length ≤ 16777216) : ED (tM1 (rJoin K) (tC (.str a)) te) ρ (.str (Txt.join a ys)) := fun σ B H ex ev Q q => by
  refine ⟨⟨a, rfl⟩, ?_⟩
  refine h σ B H ex ev _ fun v B1 H1 g1 d1 => ?_
  cases d1 with
  | @lst p xs _ ha hs =>
    have e := hs.strs
    subst e
    exact ⟨a, p, ys, rfl, rfl, .inl (SqL.of (g1.t _ _ ha)), hz, q _ B1 H1 g1 (.str _)⟩
/-- {'a': i, 'b': j}.get(x, k) -/
theorem ed_dget2 {a b x : Str} {k i j : Int} (hab : a ≠ b) (ha : ED ta ρ (.int i)) (hb : ED tb ρ (.int j)) (hx : ED tc ρ (.str x)) (hk : ED te ρ (.int k)) :
    ED (tDGet2 (tDisp [(tC (.str a), ta), (tC (.str b), tb)]) tc te) ρ (.int (if x = a then i else if x = b then j else k)) := fun σ B H ex ev Q q p hp => by
  have g0 := Gr.own (o := .dK []) ex hp
  have hB : B p = none := ex.nil hp
  have hH : (upd H p (.dK [])) p ≠ none := by rw [upd_same]; exact fun z => nomatch z
  refine ha σ B _ g0.t ev _ fun v1 B1 H1 g1 d1 => ?_
  cases d1
  refine hb σ B1 H1 g1.t (ev.mono g1.b) _ fun v2 B2 H2 g2 d2 => ?_
  cases d2
  have e1 := g1.h _ _ (upd_same (H := H) (a := p) (o := .dK []))
  have e2 := g2.h _ _ e1
  have nB2 : B2 p = none := g2.n p (g1.n p hB hH) (by rw [e1]; exact fun z => nomatch z)
  refine ⟨e2, [(Sum.inr a, .int i), (Sum.inr b, .int j)], rfl, by show 2 ≤ 15; decide, ?_⟩
  have hm : mergeK [] [((Sum.inr a : Key), V.int i), (Sum.inr b, .int j)] = [(Sum.inr a, .int i), (Sum.inr b, .int j)] := by
    have n1 : ¬ ((Sum.inr a : Key) = Sum.inr b) := fun z => hab (Sum.inr.inj z)
    simp [mergeK, putK, n1]
  rw [hm]
  have g12 := (g0.trans g1).trans g2
  have ex3 : Ex B2 (upd H2 p (.dK [(Sum.inr a, .int i), (Sum.inr b, .int j)])) := g12.t.mut nB2
  have exH : Ex H (upd H2 p (.dK [(Sum.inr a, .int i), (Sum.inr b, .int j)])) := g12.h.mut hp
  refine ⟨p, rfl, .inl ⟨_, .inl upd_same⟩, ?_⟩
  refine hx σ B2 _ ex3 (ev.mono g12.b) _ fun v3 B3 H3 g3 d3 => ?_
  cases d3
  refine hk σ B3 H3 g3.t (ev.mono (g12.b.trans g3.b)) _ fun v4 B4 H4 g4 d4 => ?_
  cases d4
  have e4 := g4.h _ _ (g3.h _ _ (upd_same (H := H2) (a := p) (o := .dK [(Sum.inr a, .int i), (Sum.inr b, .int j)])))
  refine ⟨_, DGet.k (k := Sum.inr x) e4, ?_⟩
  have ev4 : (valV [((Sum.inr a : Key), V.int i), (Sum.inr b, .int j)] (Sum.inr x)).getD (.int k) = .int (if x = a then i else if x = b then j else k) := by
    by_cases h1 : x = a
    · subst h1
      rw [if_pos rfl, valV_pos rfl]
      rfl
    · rw [if_neg h1, valV_neg (fun z => h1 (Sum.inr.inj z).symm)]
      by_cases h2 : x = b
      · subst h2
        rw [if_pos rfl, valV_pos rfl]
        rfl
      · rw [if_neg h2, valV_neg (fun z => h2 (Sum.inr.inj z).symm)]
        rfl
  rw [ev4]
  refine q _ B4 H4 ⟨g12.b.trans (g3.b.trans g4.b), g4.t, exH.trans (g3.h.trans g4.h), fun c h1 h2 => ?_⟩ (.int _)
  have hc : c ≠ p := fun z => h2 (by rw [z]; exact hp)
  have c2 := g12.n c h1 h2
  have c2' : (upd H2 p (.dK [(Sum.inr a, .int i), (Sum.inr b, .int j)])) c ≠ none := by
    rw [upd_ne hc]
    exact Ex.nn g12.h h2
  exact g4.n c (g3.n c c2 c2') (Ex.nn g3.h c2')
end
end Pd

/-! PdC -/
set_option Elab.async false
set_option linter.all false
set_option maxRecDepth 100000
set_option maxHeartbeats 4000000
namespace Pd
open PySem PySem.Spec PyProof.Rows L2

/-! ### targets -/
def GD (g : TG) (ρ : Rho) (d : PyData) (ρ' : Rho) (vs : List Nat) : Prop := ∀ σ B H v, Ex B H → EnvD σ B ρ → DH B v d → ∀ Q : L2.St → Hp → Prop, (∀ σ', EnvD σ' B ρ' → L2.wipe σ' vs = L2.wipe σ vs → Q σ' H) → g v σ H Q
def GDs (g : TGs) (ρ : Rho) (ds : List PyData) (ρ' : Rho) (vs : List Nat) : Prop := ∀ σ B H xs, Ex B H → EnvD σ B ρ → DHs B xs ds → ∀ Q : L2.St → Hp → Prop, (∀ σ', EnvD σ' B ρ' → L2.wipe σ' vs = L2.wipe σ vs → Q σ' H) → g xs σ H Q
theorem wipe_get (σ : L2.St) : ∀ (vs : List Nat) (i : Nat), (L2.wipe σ vs)[i]? = if i ∈ vs ∧ i < σ.length then some none else σ[i]?
  | [], i => by simp [L2.wipe]
  | v :: vs, i => by
    show ((L2.wipe σ vs).set v none)[i]? = _
    rw [List.getElem?_set, wipe_length]
    by_cases h : v = i
    · subst h
      by_cases hl : v < σ.length
      · rw [if_pos rfl, if_pos hl, if_pos ⟨List.mem_cons_self, hl⟩]
      · rw [if_pos rfl, if_neg hl, if_neg (fun z => hl z.2), List.getElem?_eq_none (by omega)]
    · rw [if_neg h, wipe_get σ vs i]
      by_cases hi : i ∈ vs
      · by_cases hl : i < σ.length
        · rw [if_pos ⟨hi, hl⟩, if_pos ⟨List.mem_cons_of_mem _ hi, hl⟩]
        · rw [if_neg (fun z => hl z.2), if_neg (fun z => hl z.2)]
      · have h2 : i ∉ v :: vs := fun z => by
          rcases List.mem_cons.mp z with z | z
          · exact h z.symm
          · exact hi z
        rw [if_neg (fun z => hi z.1), if_neg (fun z => h2 z.1)]
theorem wipe_set {σ : L2.St} {vs : List Nat} {j : Nat} {o : Option V} (h : j ∈ vs) : L2.wipe (σ.set j o) vs = L2.wipe σ vs := by
  refine List.ext_getElem? fun i => ?_
  rw [wipe_get, wipe_get, List.length_set, List.getElem?_set]
  by_cases hi : i ∈ vs ∧ i < σ.length
  · rw [if_pos hi, if_pos hi]
  · rw [if_neg hi, if_neg hi]
    by_cases hj : j = i
    · subst hj
      have hl : ¬ j < σ.length := fun z => hi ⟨h, z⟩
      rw [if_pos rfl, if_neg hl, List.getElem?_eq_none (by omega)]
    · rw [if_neg hj]
theorem wipe_idem (σ : L2.St) (vs : List Nat) : L2.wipe (L2.wipe σ vs) vs = L2.wipe σ vs := by
  refine List.ext_getElem? fun i => ?_
  rw [wipe_get, wipe_length, wipe_get]
  by_cases hi : i ∈ vs ∧ i < σ.length
  · rw [if_pos hi, if_pos hi]
  · rw [if_neg hi, if_neg hi]
section
variable {K : PySem.W.Frag} {ρ ρ' ρ1 : Rho} {ta tb tc te : TE} {tt : TT} {t u : TS} {d e z : PyData} {ds es : List PyData} {i j : Nat} {vs : List Nat}
theorem gd_name (h : i ∈ vs) : GD (gName i) ρ d (ρ.set i (some d)) vs := fun σ B H v ex ev dv Q q => q _ (ev.set i dv) (wipe_set h)
theorem gds_nil : GDs gNil ρ [] ρ vs := fun σ B H xs ex ev dv Q q => by
  cases dv
  exact ⟨rfl, q σ ev rfl⟩
theorem gds_cons {g : TG} {gs : TGs} (h : GD g ρ d ρ1 vs) (hs : GDs gs ρ1 ds ρ' vs) : GDs (gCons g gs) ρ (d :: ds) ρ' vs := fun σ B H xs ex ev dv Q q => by
  cases dv with
  | cons a r =>
    exact ⟨_, _, rfl, h σ B H _ ex ev a _ fun σ1 ev1 w1 => hs σ1 B H _ ex ev1 r _ fun σ2 ev2 w2 => q σ2 ev2 (w2.trans w1)⟩
theorem gd_tup {n : Nat} {gs : TGs} (hs : GDs gs ρ ds ρ' vs) (hn : ds.length = n) : GD (gTup K n gs) ρ (.tuple ds) ρ' vs := fun σ B H v ex ev dv Q q => by
  cases dv with
  | @tup a xs _ ha hx =>
    exact ⟨a, xs, rfl, SqT.of (ex _ _ ha), by rw [hx.length]; exact hn, hs σ B H xs ex ev hx Q q⟩

/-! ### statements -/
def RD (t : TS) (ρ : Rho) (d : PyData) : Prop := ∀ σ B H (D : Ends), Ex B H → EnvD σ B ρ → (∀ v B' H', Gr B H B' H' → DH B' v d → D.rt v H') → t D σ H
def SD (t : TS) (ρ ρ' : Rho) : Prop := ∀ σ B H (D : Ends), Ex B H → EnvD σ B ρ → (∀ σ' B' H', Gr B H B' H' → EnvD σ' B' ρ' → D.nx σ' H') → t D σ H
theorem rd_ret (h : ED te ρ d) : RD (tRet te) ρ d := fun σ B H D ex ev q => h σ B H ex ev D.rt q
theorem RD.is {d' : PyData} (h : RD t ρ d) (e : d = d') : RD t ρ d' := e ▸ h
theorem rd_seqR (h : RD t ρ d) : RD (tSeq t u) ρ d := fun σ B H D ex ev q => h σ B H { D with nx := u D } ex ev q
theorem rd_seq (h : SD t ρ ρ') (k : RD u ρ' d) : RD (tSeq t u) ρ d := fun σ B H D ex ev q => h σ B H { D with nx := u D } ex ev fun σ' B' H' g ev' => k σ' B' H' D g.t ev' fun v B2 H2 g2 d2 => q v B2 H2 (g.trans g2) d2
theorem sd_seq (h : SD t ρ ρ1) (k : SD u ρ1 ρ') : SD (tSeq t u) ρ ρ' := fun σ B H D ex ev q => h σ B H { D with nx := u D } ex ev fun σ' B' H' g ev' => k σ' B' H' D g.t ev' fun v B2 H2 g2 d2 => q v B2 H2 (g.trans g2) d2
theorem rd_if {b : Bool} (h : ET tt ρ b) (h1 : b = true → RD t ρ d) (h2 : b = false → RD u ρ d) : RD (tIfS tt t u) ρ d := fun σ B H D ex ev q => by
  refine h σ B H ex ev _ fun B1 H1 g1 => ?_
  cases b with
  | true => exact h1 rfl σ B1 H1 D g1.t (ev.mono g1.b) fun v B' H' g3 d3 => q v B' H' (g1.trans g3) d3
  | false => exact h2 rfl σ B1 H1 D g1.t (ev.mono g1.b) fun v B' H' g3 d3 => q v B' H' (g1.trans g3) d3
theorem sd_if {b : Bool} (h : ET tt ρ b) (h1 : b = true → SD t ρ ρ') (h2 : b = false → SD u ρ ρ') : SD (tIfS tt t u) ρ ρ' := fun σ B H D ex ev q => by
  refine h σ B H ex ev _ fun B1 H1 g1 => ?_
  cases b with
  | true => exact h1 rfl σ B1 H1 D g1.t (ev.mono g1.b) fun v B' H' g3 d3 => q v B' H' (g1.trans g3) d3
  | false => exact h2 rfl σ B1 H1 D g1.t (ev.mono g1.b) fun v B' H' g3 d3 => q v B' H' (g1.trans g3) d3
theorem sd_next : SD tNext ρ ρ := fun σ B H D ex ev q => q σ B H (Gr.refl ex) ev
/-- if t: return ..; the rest -/
theorem rd_ifS {b : Bool} {w : TS} (h : ET tt ρ b) (h1 : b = true → RD t ρ d) (h2 : b = false → RD w ρ d) : RD (tSeq (tIfS tt t tNext) w) ρ d := fun σ B H D ex ev q => by
  refine h σ B H ex ev _ fun B1 H1 g1 => ?_
  cases b with
  | true => exact h1 rfl σ B1 H1 { D with nx := w D } g1.t (ev.mono g1.b) fun v B' H' g3 d3 => q v B' H' (g1.trans g3) d3
  | false => exact h2 rfl σ B1 H1 D g1.t (ev.mono g1.b) fun v B' H' g3 d3 => q v B' H' (g1.trans g3) d3
theorem sd_set (h : ED te ρ d) : SD (tAsg te (gName i)) ρ (ρ.set i (some d)) := fun σ B H D ex ev q => h σ B H ex ev _ fun v B' H' g dv => q _ B' H' g ((ev.mono g.b).set i dv)
theorem sd_asg {g : TG} (h : ED te ρ d) (hg : GD g ρ d ρ' vs) : SD (tAsg te g) ρ ρ' := fun σ B H D ex ev q => h σ B H ex ev _ fun v B' H' gr dv => hg σ B' H' v gr.t (ev.mono gr.b) dv _ fun σ' ev' _ => q σ' B' H' gr ev'
theorem sd_par {ta : TA} (h : EA ta ρ [d, e]) : SD (tPar i j ta) ρ ((ρ.set i (some d)).set j (some e)) := fun σ B H D ex ev q => h σ B H ex ev _ fun xs B' H' g dv => by
  cases dv with
  | cons a r =>
    cases r with
    | cons b r =>
      cases r
      exact ⟨_, _, rfl, q _ B' H' g (((ev.mono g.b).set i a).set j b)⟩

/-! ### what a comprehension walks -/
def ItD (J : It) (B : Hp) (items : List PyData) : Prop := ∀ B1 H, Ex B B1 → Ex B1 H → ∀ i, (i = items.length → J.stop i H) ∧ ∀ d, items[i]? = some d → J.go i H ∧ ∀ x H', J.yld i H x H' → ∃ B2, Gr B1 H B2 H' ∧ DH B2 x d
def IE (wi : TI) (ρ : Rho) (items : List PyData) : Prop := ∀ σ B H, Ex B H → EnvD σ B ρ → ∀ R : It → Hp → Prop, (∀ J B' H', Gr B H B' H' → ItD J B' items → R J H') → wi σ H R
theorem ie_list (h : ED te ρ (.list ds)) : IE (iList K te) ρ ds := fun σ B H ex ev R q => by
  refine h σ B H ex ev _ fun v B1 H1 g1 d1 => ?_
  cases d1 with
  | @lst a xs _ ha hs =>
    refine ⟨a, rfl, ⟨xs, SqL.of (g1.t _ _ ha)⟩, q _ B1 H1 g1 fun B2 H2 e1 e2 i => ⟨fun hi => ⟨xs, SqL.of (e2 _ _ (e1 _ _ ha)), by rw [hs.length]; omega⟩, fun d hd => ?_⟩⟩
    obtain ⟨x, hx, dx⟩ := hs.get hd
    refine ⟨⟨xs, x, SqL.of (e2 _ _ (e1 _ _ ha)), hx⟩, fun y H' ⟨eh, hy⟩ => ⟨B2, ?_, ?_⟩⟩
    · subst eh
      exact Gr.refl e2
    · have := hy xs (SqL.of (e2 _ _ (e1 _ _ ha)))
      rw [hx] at this
      cases this
      exact dx.mono e1
theorem ie_tup (h : ED te ρ (.tuple ds)) : IE (iTup K te) ρ ds := fun σ B H ex ev R q => by
  refine h σ B H ex ev _ fun v B1 H1 g1 d1 => ?_
  cases d1 with
  | @tup a xs _ ha hs =>
    refine ⟨a, rfl, ⟨xs, SqT.of (g1.t _ _ ha)⟩, q _ B1 H1 g1 fun B2 H2 e1 e2 i => ⟨fun hi => ⟨xs, SqT.of (e2 _ _ (e1 _ _ ha)), by rw [hs.length]; omega⟩, fun d hd => ?_⟩⟩
    obtain ⟨x, hx, dx⟩ := hs.get hd
    refine ⟨⟨xs, x, SqT.of (e2 _ _ (e1 _ _ ha)), hx⟩, fun y H' ⟨eh, hy⟩ => ⟨B2, ?_, ?_⟩⟩
    · subst eh
      exact Gr.refl e2
    · have := hy xs (SqT.of (e2 _ _ (e1 _ _ ha)))
      rw [hx] at this
      cases this
      exact dx.mono e1
theorem ie_rng1 {ta : TA} {n : Int} (h : EA ta ρ [.int n]) (h0 : -100000 ≤ n) (h1 : n ≤ 100000) : IE (iRng1 ta) ρ ((List.range n.toNat).map fun k => .int (k : Nat)) := fun σ B H ex ev R q => by
  refine h σ B H ex ev _ fun v B1 H1 g1 d1 => ?_
  cases d1 with
  | cons a r =>
    cases r
    cases a
    refine ⟨n, rfl, by omega, by omega, q _ B1 H1 g1 fun B2 H2 e1 e2 i => ⟨fun hi => ?_, fun d hd => ?_⟩⟩
    · have : i = n.toNat := by simpa using hi
      exact Nat.le_of_eq this.symm
    · rw [List.getElem?_map] at hd
      cases hr : (List.range n.toNat)[i]? with
      | none => rw [hr] at hd; cases hd
      | some k =>
        rw [hr] at hd
        cases hd
        obtain ⟨hl, hk⟩ := List.getElem?_eq_some_iff.mp hr
        simp at hk hl
        subst hk
        refine ⟨by show i < n.toNat; omega, fun y H' ⟨eh, hy⟩ => ⟨B2, ?_, ?_⟩⟩
        · subst eh
          exact Gr.refl e2
        · have e0 : (0 : Int) + ((i : Nat) : Int) = (i : Int) := Int.zero_add _
          rw [hy, e0]
          exact .int _
theorem ie_rng2 {ta : TA} {m n : Int} (h : EA ta ρ [.int m, .int n]) (h0 : -100000 ≤ n) (h1 : n ≤ 100000) (h2 : -100000 ≤ m) (h3 : m ≤ 100000) : IE (iRng2 ta) ρ ((List.range (n - m).toNat).map fun k => .int (m + (k : Nat))) := fun σ B H ex ev R q => by
  refine h σ B H ex ev _ fun v B1 H1 g1 d1 => ?_
  cases d1 with
  | cons a r =>
  cases r with
  | cons b r =>
    cases r
    cases a
    cases b
    refine ⟨m, n, rfl, ⟨by omega, by omega, by omega, by omega⟩, q _ B1 H1 g1 fun B2 H2 e1 e2 i => ⟨fun hi => ?_, fun d hd => ?_⟩⟩
    · have : i = (n - m).toNat := by simpa using hi
      exact Nat.le_of_eq this.symm
    · rw [List.getElem?_map] at hd
      cases hr : (List.range (n - m).toNat)[i]? with
      | none => rw [hr] at hd; cases hd
      | some k =>
        rw [hr] at hd
        cases hd
        obtain ⟨hl, hk⟩ := List.getElem?_eq_some_iff.mp hr
        simp at hk hl
        subst hk
        refine ⟨by show i < (n - m).toNat; omega, fun y H' ⟨eh, hy⟩ => ⟨B2, ?_, ?_⟩⟩
        · subst eh
          exact Gr.refl e2
        · rw [hy]
          exact .int _
theorem ie_str {x : Str} (h : ED te ρ (.str x)) : IE (iStr te) ρ (x.cps.toList.map fun c => .str ⟨#[c]⟩) := fun σ B H ex ev R q => by
  refine h σ B H ex ev _ fun v B1 H1 g1 d1 => ?_
  cases d1
  refine ⟨x, rfl, q _ B1 H1 g1 fun B2 H2 e1 e2 i => ⟨fun hi => ?_, fun d hd => ?_⟩⟩
  · have : i = x.cps.size := by simpa using hi
    exact Nat.le_of_eq this.symm
  · rw [List.getElem?_map, Array.getElem?_toList] at hd
    cases hc : x.cps[i]? with
    | none => rw [hc] at hd; cases hd
    | some c =>
      rw [hc] at hd
      cases hd
      have hl : i < x.cps.size := by
        by_cases hl : i < x.cps.size
        · exact hl
        · rw [Array.getElem?_eq_none (by omega)] at hc
          cases hc
      refine ⟨hl, fun y H' ⟨eh, c', hc', hy⟩ => ⟨B2, ?_, ?_⟩⟩
      · subst eh
        exact Gr.refl e2
      · rw [hc] at hc'
        cases hc'
        rw [hy]
        exact .str _
theorem take_filter_succ {α : Type} {items : List α} {f : α → Bool} {i : Nat} {d : α} (h : items[i]? = some d) : (items.take (i + 1)).filter f = (items.take i).filter f ++ (if f d = true then [d] else []) := by
  rw [List.take_add_one, h, List.filter_append]
  show _ ++ List.filter f [d] = _
  cases hf : f d with
  | true => simp [hf]
  | false => simp [hf]
/-- a comprehension over data: the items told by a list of any kind -/
theorem ed_lcT {α : Type} {wi : TI} {g : TG} (items : List α) (enc : α → PyData) (f : α → Bool) (v : α → PyData) (hi : IE wi ρ (items.map enc)) (hz : items.length ≤ 100000)
    (ht : ∀ d ∈ items, ∃ ρ', GD g (wipeR ρ vs) (enc d) ρ' vs ∧ ET tt ρ' (f d) ∧ (f d = true → ED te ρ' (v d))) : ED (tLc wi g tt te vs) ρ (.list ((items.filter f).map v)) := fun σ B H ex ev Q q => by
  refine hi σ B H ex ev _ fun J B1 H1 g1 hJ Dl hD => ?_
  have nB1 : B1 Dl = none := g1.t.nil hD
  refine ⟨fun i m H' => m = items.length - i ∧ i ≤ items.length ∧ ∃ B' xs, Gr B1 H1 B' H' ∧ H' Dl = some (.lst xs) ∧ B' Dl = none ∧ DHs B' xs (((items.take i).filter f).map v), ⟨items.length, by omega, Nat.zero_le _, B1, [], Gr.own g1.t hD, upd_same, nB1, .nil⟩, ?_⟩
  rintro i m H' ⟨rfl, hle, B', xs, g2, hDl, nB', hx⟩
  obtain ⟨hstop, hgo⟩ := hJ B' H' g2.b g2.t i
  by_cases hlt : i < items.length
  · right
    have hd : items[i]? = some items[i] := List.getElem?_eq_getElem hlt
    obtain ⟨go, hy⟩ := hgo (enc items[i]) (by rw [List.getElem?_map, hd]; rfl)
    refine ⟨go, fun H2 => i + 1 ≤ items.length ∧ ∃ B' xs, Gr B1 H1 B' H2 ∧ H2 Dl = some (.lst xs) ∧ B' Dl = none ∧ DHs B' xs (((items.take (i + 1)).filter f).map v), fun H2 ⟨h1, h2⟩ => ⟨items.length - (i + 1), by omega, rfl, h1, h2⟩, fun x H2 hyl => ?_⟩
    obtain ⟨B2, g3, dx⟩ := hy x H2 hyl
    obtain ⟨ρ', hg, htt, hte⟩ := ht _ (List.mem_of_getElem? hd)
    have hDn : H' Dl ≠ none := by rw [hDl]; exact fun z => nomatch z
    have n2 : B2 Dl = none := g3.n _ nB' hDn
    have e2 := g3.h _ _ hDl
    refine hg (L2.wipe σ vs) B2 H2 x g3.t (((ev.mono g1.b).mono (g2.b.trans g3.b)).wipe vs) dx _ fun σ2 ev2 w2 => ⟨w2.trans (wipe_idem σ vs), ?_⟩
    refine htt σ2 B2 H2 g3.t ev2 _ fun B3 H3 g4 => ?_
    have n3 : B3 Dl = none := g4.n _ n2 (by rw [e2]; exact fun z => nomatch z)
    have e3 := g4.h _ _ e2
    have g234 := (g2.trans g3).trans g4
    have hfs := take_filter_succ (f := f) hd
    cases hf : f items[i] with
    | true =>
      refine hte hf σ2 B3 H3 g4.t (ev2.mono g4.b) _ fun y B4 H4 g5 d5 => ?_
      have n4 : B4 Dl = none := g5.n _ n3 (by rw [e3]; exact fun z => nomatch z)
      have e4 := g5.h _ _ e3
      have g25 := g234.trans g5
      refine ⟨xs, e4, ?_, hlt, B4, xs ++ [y], ⟨g25.b, g5.t.mut n4, g25.h.mut hD, g25.n⟩, upd_same, n4, ?_⟩
      · have hl := hx.length
        rw [hl, List.length_map]
        have h1 := List.length_filter_le f (items.take i)
        rw [List.length_take] at h1
        have : ((items.take i).filter f).length ≤ 100000 := by omega
        exact Nat.lt_of_le_of_lt this (by decide)
      · rw [hfs, hf, if_pos rfl, List.map_append]
        exact (hx.mono ((g3.b.trans g4.b).trans g5.b)).append (.one d5)
    | false =>
      refine ⟨hlt, B3, xs, g234, e3, n3, ?_⟩
      rw [hfs, hf, if_neg (by decide), List.append_nil]
      exact hx.mono (g3.b.trans g4.b)
  · left
    have hie : i = items.length := by omega
    subst hie
    refine ⟨hstop (by rw [List.length_map]), ?_⟩
    rw [List.take_length] at hx
    refine q _ (upd B' Dl (.lst xs)) H' (g1.trans ⟨g2.b.mut nB1, fun a o ha => ?_, g2.h, fun a h1 h2 => ?_⟩) (.lst upd_same (hx.mono (Ex.new nB')))
    · by_cases h : a = Dl
      · subst h
        rw [upd_same] at ha
        cases ha
        exact hDl
      · rw [upd_ne h] at ha
        exact g2.t a o ha
    · have h : a ≠ Dl := fun z => h2 (by rw [z]; exact hD)
      rw [upd_ne h]
      exact g2.n a h1 h2
/-- the same without a test -/
theorem ed_lcM {α : Type} {wi : TI} {g : TG} (items : List α) (enc : α → PyData) (v : α → PyData) (hi : IE wi ρ (items.map enc)) (hz : items.length ≤ 100000)
    (ht : ∀ d ∈ items, ∃ ρ', GD g (wipeR ρ vs) (enc d) ρ' vs ∧ ED te ρ' (v d)) : ED (tLc wi g tYes te vs) ρ (.list (items.map v)) := by
  have h := ed_lcT (tt := tYes) (g := g) (vs := vs) (te := te) items enc (fun _ => true) v hi hz fun d hd => by
    obtain ⟨ρ', a, b⟩ := ht d hd
    exact ⟨ρ', a, et_yes, fun _ => b⟩
  rw [List.filter_eq_self.mpr (fun _ _ => rfl)] at h
  exact h
end

/-! ### defs -/
def spR (R : List PyData → PyData → Prop) : Sp := fun vs H Q _ => ∃ B ds d, Ex B H ∧ DHs B vs ds ∧ R ds d ∧ ∀ v B' H', Gr B H B' H' → DH B' v d → Q v H'
/-- where a def stands -/
def At (K : PySem.W.Frag) (mg : Str → Option Value) (x : Str) (st : Stmt) (ps : List Str) : Prop := ∃ f fd, mg x = some (.ref f) ∧ Fun K x x st f fd ∧ Binds K fd ps []
/-- a def that keeps a promise -/
def DefS (P : Program) (w : World) (K : PySem.W.Frag) (mg : Str → Option Value) (base : Heap) (CX : CXT) (k : Nat) (x : Str) (ps : List Str) (sp : Sp) : Prop :=
  ∃ f fd, mg x = some (.ref f) ∧ PySem.W.keepIn K (.ref f) = true ∧ Binds K fd ps [] ∧ FnOk P w K mg base CX k f fd ps sp
abbrev DefD (P : Program) (w : World) (K : PySem.W.Frag) (mg : Str → Option Value) (base : Heap) (k : Nat) (x : Str) (ps : List Str) (R : List PyData → PyData → Prop) : Prop := DefS P w K mg base CX0 k x ps (spR R)
theorem DefS.mono {P : Program} {w : World} {K : PySem.W.Frag} {mg : Str → Option Value} {base : Heap} {CX : CXT} {k j : Nat} {x : Str} {ps : List Str} {sp : Sp} (h : DefS P w K mg base CX k x ps sp) (hj : k ≤ j) : DefS P w K mg base CX j x ps sp :=
  let ⟨f, fd, a, b, c, d⟩ := h
  ⟨f, fd, a, b, c, d.mono hj⟩
section
variable {P : Program} {w : World} {K : PySem.W.Frag} {mg : Str → Option Value} {base : Heap} {x : Str} {st : Stmt} {ps N : List Str} {k : Nat} {R : List PyData → PyData → Prop} {sp : Sp}
theorem def_ok (F : At K mg x st ps) (S : FnScope N ps (defScope st)) (len : ∀ vs H Q E, sp vs H Q E → vs.length = ps.length)
    (hbody : ∀ (f : Addr) (cdv : Value) (A : Around) (outer : List Env) (s : Shared) (H : Hp) (vs : List V) (Q : VK) (E : XK), Room k (A.deeper (envOfC x (defScope st) s.heap.objs.size f cdv)) → sp vs H Q E →
      ∃ t, PSs (cxOf CX0 P w K mg base N x (defScope st) f cdv A outer s H E).nox (defBody st) t ∧ t { nx := fun _ H' => Q .non H', rt := Q } (L2.start N vs) H) : DefS P w K mg base CX0 (k + 1) x ps sp := by
  obtain ⟨f, fd, h1, h2, h3⟩ := F
  exact ⟨f, fd, h1, h2.kp, h3, h2.ok S len (hbody f)⟩
/-- a def over data -/
theorem def_okD (F : At K mg x st ps) (S : FnScope N ps (defScope st)) (len : ∀ ds d, R ds d → ds.length = ps.length)
    (hbody : ∀ (f : Addr) (cdv : Value) (A : Around) (outer : List Env) (s : Shared) (H : Hp) (E : XK), Room k (A.deeper (envOfC x (defScope st) s.heap.objs.size f cdv)) →
      ∃ t, PSs (cxOf CX0 P w K mg base N x (defScope st) f cdv A outer s H E).nox (defBody st) t ∧ ∀ ds d, R ds d → RD t (ds.map some ++ List.replicate (N.length - ds.length) none) d) (hN : ps.length ≤ N.length := by decide) : DefD P w K mg base (k + 1) x ps R := by
  refine def_ok F S (fun vs H Q E ⟨B, ds, d, _, h1, h2, _⟩ => ?_) fun f cdv A outer s H vs Q E hr ⟨B, ds, d, ex, h1, h2, q⟩ => ?_
  · rw [h1.length]
    exact len ds d h2
  · obtain ⟨t, ht, hd⟩ := hbody f cdv A outer s H E hr
    refine ⟨t, ht, hd ds d h2 _ B H _ ex (env_start h1 ?_) q⟩
    rw [h1.length, len ds d h2]
    exact hN
end
abbrev tCallD (sp : Sp) (t : TA) : TE := tCall sp [] E0 t
theorem pe_dcall {X : Cx} {k : Nat} {x : Str} {ps : List Str} {sp : Sp} {p pos : Pos} {e : Expr} {es : List Expr} {t : TA} (G : DefS X.prog X.w X.K X.mg X.base CX0 k x ps sp) (hr : Room k X.A) (ha : PA X (e :: es) t) (hg : Gl X x := by rfl)
    (hdb : (x == ("__debug__" : Str)) = false := by decide) (he : starEach (e :: es) X.env = (false, eval e X.env) :: starEach es X.env := by rfl) (hpl : (backTo pos (starEach es X.env)).any (·.1) = false := by rfl) :
    PE X (.Call (.Name x p) (e :: es) [] pos) (tCallD sp t) := by
  obtain ⟨f, fd, h1, h2, h3, h4⟩ := G
  exact pe_call h4 hr hg h1 h2 h3 .nil pass0 ha hdb he hpl
theorem ed_call {ρ : Rho} {ta : TA} {ds : List PyData} {d : PyData} {R : List PyData → PyData → Prop} (h : EA ta ρ ds) (hR : R ds d) : ED (tCallD (spR R) ta) ρ d := fun σ B H ex ev Q q => by
  refine h σ B H ex ev _ fun vs B1 H1 g1 d1 => ⟨B1, ds, d, g1.t, ?_, hR, fun v B' H' g2 d2 => q v B' H' (g1.trans g2) d2⟩
  rw [List.append_nil]
  exact d1
end Pd

/-! PdX -/
set_option Elab.async false
set_option linter.all false
set_option maxRecDepth 100000
set_option maxHeartbeats 4000000
namespace Pd
open PySem PySem.Spec PyProof.Rows L2
abbrev rSubI : R2 := rI0 fun i j => .int (i - j)
abbrev rModI : R2 := rI (fun _ j => 0 < j) fun i j => .int (i % j)
abbrev rFdivI : R2 := rI CDiv fun i j => .int (i / j)
abbrev rPowI : R2 := rI CPow fun i j => .int (i ^ j.toNat)
abbrev rLtI : R2 := rI0 fun i j => .bl (decide (i < j))
abbrev rLeI : R2 := rI0 fun i j => .bl (decide (i ≤ j))
abbrev rGtI : R2 := rI0 fun i j => .bl (decide (j < i))
abbrev rGeI : R2 := rI0 fun i j => .bl (decide (j ≤ i))
abbrev rIsN : R2 := fun x y H Q => y = .non ∧ Q (.bl (decide (x = .non))) H
abbrev rNotN : R2 := fun x y H Q => y = .non ∧ Q (.bl (!decide (x = .non))) H
theorem pe_globI {X : Cx} {x : Str} {i : Int} {pos : Pos} (hg : Gl X x) (hm : ∃ t, X.mg x = some (.int i t)) (hd : (x == ("__debug__" : Str)) = false := by decide) : PE X (.Name x pos) (tC (.int i)) := by
  obtain ⟨t, h⟩ := hm
  exact pe_glob hg h ⟨t, rfl⟩ hd

/-! ### zip(a tuple, a text) -/
def ItzTS (K : PySem.W.Frag) (a : Addr) (x : Str) : It :=
  ⟨fun i H => (∃ (xs : List V) (v : V), SqT K H a xs ∧ xs[i]? = some v) ∧ i < x.cps.size,
    fun i H v H' => ∃ T y c, v = .ref T ∧ H T = none ∧ x.cps[i]? = some c ∧ H' = upd H T (.tup [y, .str ⟨#[c]⟩]) ∧ ∀ xs, SqT K H a xs → xs[i]? = some y,
    fun i H => ∃ xs : List V, SqT K H a xs ∧ i ≤ xs.length ∧ i ≤ x.cps.size ∧ (i = xs.length ∨ i = x.cps.size)⟩
structure ApTS (z TI TO i1 i2 a : Addr) : Prop where
  sep : ZipSep2 z TI TO i1 i2 [i1, a] [i2]
  a1 : a ≠ i1
theorem turn_zipTS {P : Program} {w : World} {K : PySem.W.Frag} {elts : List Expr} {kk : Nat} {tpos : Pos} {a z TI TO i1 i2 : Addr} {x : Str} {t : Tok} (D : ApTS z TI TO i1 i2 a) :
    Turn P w K (.Tuple elts kk tpos) (ItzTS K a x) [z, TI, TO, i1, i2] z (fun i h => IsZip h z TI TO .none ∧ IsTupOf2 h TI (.ref i1) (.ref i2) ∧ (∃ x y, IsTupOf2 h TO x y) ∧ h.IsTupleIter i1 a i ∧ h.IsStrIter i2 (strIterType x) x t i) where
  mem := by simp
  obj := fun i h st c hc => by
    obtain ⟨hz, hTI, ⟨x, y, hTO⟩, ⟨o1, e1, _, d1⟩, ⟨o2, e2, _, d2⟩⟩ := st
    have e' : c = z ∨ c = TI ∨ c = TO ∨ c = i1 ∨ c = i2 := by simpa using hc
    rcases e' with q | q | q | q | q
    · rw [q]; exact ⟨_, hz, fun v q => nomatch q⟩
    · rw [q]; exact ⟨_, hTI, fun v q => nomatch q⟩
    · rw [q]; exact ⟨_, hTO, fun v q => nomatch q⟩
    · rw [q]; exact ⟨o1, e1, fun v q => by rw [d1] at q; cases q⟩
    · rw [q]; exact ⟨o2, e2, fun v q => by rw [d2] at q; cases q⟩
  keep := fun i h h' st k => by
    obtain ⟨hz, hTI, ⟨x, y, hTO⟩, h1, ⟨o2, e2, r2⟩⟩ := st
    exact ⟨k z (by simp) _ hz, k TI (by simp) _ hTI, ⟨x, y, k TO (by simp) _ hTO⟩, h1.at fun o q => k i1 (by simp) o q, ⟨o2, k i2 (by simp) _ e2, r2⟩⟩
  item := by
    intro X hP hw hK hc i pins s σ H E I hf st hg
    subst hP hw hK
    obtain ⟨hz, hTI, ⟨x0, y0, hTO⟩, h1, h2⟩ := st
    obtain ⟨⟨xs, y, hqx, hx⟩, hlt⟩ := hg
    obtain ⟨its, rv, p, _⟩ := I.tuple hqx
    obtain ⟨u, hu, ru⟩ := rv.get hx
    have hul : i < its.toArray.size := by
      have := (List.getElem?_eq_some_iff.mp hu).1
      simpa using this
    have hzl : z < s.heap.objs.size := Heap.lt_size hz
    have hh := I.ok.hd hc
    refine wpAny_pyNext_zipD2_item D.sep (Draws.tuple (A := X.A.in1) hh i1 a D.a1 its.toArray) (Draws.text (A := X.A.in1) hh i2 x t) hz hTI hTO ⟨h1, p⟩ h2 hul hlt fun x1 x2 h' tk p1 p2 hz' hTO' st1 st2 hT hsz hk => ?_
    have e1 : x1 = u := by
      have q1 : its.toArray[i]? = some x1 := p1
      have q2 : its[i]? = some x1 := by simpa using q1
      rw [hu] at q2
      exact (Option.some.inj q2).symm
    subst e1
    obtain ⟨c, tc, hcx, e2⟩ := p2
    subst e2
    refine ⟨_, rfl, wpAny_letOwnedTupleGo_zip (s := { s with heap := h', toks := tk }) hz' fun h'' z'' sb => ?_⟩
    have hT2 : h''.get? s.heap.objs.size = some { cls := .type "tuple", data := .seq #[x1, .str ⟨#[c]⟩ tc] } := (sb.2 _ (Nat.ne_of_gt hzl)).trans hT
    have new : ObjOk X.prog X.w (upd H s.heap.objs.size (.tup [y, .str ⟨#[c]⟩])) h'' s.heap.objs.size (.tup [y, .str ⟨#[c]⟩]) :=
      ⟨by show 2 ≤ sizeLine; decide, [x1, .str ⟨#[c]⟩ tc], .cons ru (.cons ⟨tc, rfl⟩ .nil), ⟨_, hT2, rfl, _, rfl⟩⟩
    have I1 : Inv X pins σ (upd H s.heap.objs.size (.tup [y, .str ⟨#[c]⟩])) { s with heap := h'', toks := tk } :=
      I.turnedNew (t' := tk) (ch := [z, TI, TO, i1, i2]) (fun c o hb q => (sb.2 c (fun q' => hb (by simp [q']))).trans (hk c o (fun q' => hb (by simp [q'])) (fun q' => hb (by simp [q'])) (fun q' => hb (by simp [q'])) (fun q' => hb (by simp [q'])) q)) hf (Nat.le_refl _) new
    refine ⟨.ref s.heap.objs.size, _, I1, rfl, ⟨_, y, c, rfl, I.hok.fresh (Nat.le_refl _), hcx, rfl, fun l hl => by rw [I.tuple_inj hl hqx]; exact hx⟩, ⟨z'', ?_, ⟨x1, .str ⟨#[c]⟩ tc, ?_⟩, ?_, ?_⟩, fun c hcm => ?_⟩
    · exact (sb.2 _ D.sep.TIz).trans (hk _ _ D.sep.TIz D.sep.TITO D.sep.TIi1 D.sep.TIi2 hTI)
    · exact (sb.2 _ D.sep.TOz).trans hTO'
    · exact st1.1.at fun o q => (sb.2 _ D.sep.zi1.symm).trans q
    · obtain ⟨o2, e2, r2⟩ := st2
      exact ⟨o2, (sb.2 _ D.sep.zi2.symm).trans e2, r2⟩
    · have hlt : c < s.heap.objs.size := by
        have e' : c = z ∨ c = TI ∨ c = TO ∨ c = i1 ∨ c = i2 := by simpa using hcm
        rcases e' with q | q | q | q | q
        · rw [q]; exact hzl
        · rw [q]; exact Heap.lt_size hTI
        · rw [q]; exact Heap.lt_size hTO
        · rw [q]; obtain ⟨_, e1, _⟩ := h1; exact Heap.lt_size e1
        · rw [q]; obtain ⟨_, e2, _⟩ := h2; exact Heap.lt_size e2
      rw [upd_ne (Nat.ne_of_lt hlt)]
      exact (hf c hcm).1
  done := by
    intro X hP hw hK hc i pins s σ H E I hf st hg
    subst hP hw hK
    obtain ⟨hz, hTI, ⟨x0, y0, hTO⟩, h1, h2⟩ := st
    obtain ⟨xs, hqx, l1, l2, hend⟩ := hg
    obtain ⟨its, rv, p, _⟩ := I.tuple hqx
    have hl : its.toArray.size = xs.length := by
      rw [List.size_toArray]
      exact rv.length.symm
    have hh := I.ok.hd hc
    refine wpAny_pyNext_zipD2_end D.sep (Draws.tuple (A := X.A.in1) hh i1 a D.a1 its.toArray) (Draws.text (A := X.A.in1) hh i2 x t) hz hTI hTO ⟨h1, p⟩ h2 (by omega) l2 (by omega) fun h' tk hk => ⟨rfl, I.turnedL (t' := tk) (ch := [z, TI, TO, i1, i2]) (fun c o hb q =>
      hk c o (fun q' => hb (by simp [q'])) (fun q' => hb (by simp [q'])) (fun q' => hb (by simp [q'])) (fun q' => hb (by simp [q'])) q) hf⟩
  self := fun A i s Q E st h => wpAny_pyIter_zip st.1 h
def iZipTS (K : PySem.W.Frag) (ta : TA) : TI := fun σ H R => ta σ H fun vs H1 => ∃ a xs x, vs = [.ref a, .str x] ∧ SqT K H1 a xs ∧ R (ItzTS K a x) H1
theorem pi_zipTS {X : Cx} {e e2 : Expr} {ta : TA} {p pos tpos : Pos} {elts : List Expr} {kk : Nat} (hg : Gl X "zip") (hm : X.mg "zip" = none) (ha : PA X [e, e2] ta)
    (hs : starEach [e, e2] X.env = (false, eval e X.env) :: starEach [e2] X.env := by rfl) (hpl : (backTo pos (starEach [e2] X.env)).any (·.1) = false := by rfl) :
    PI X (.Tuple elts kk tpos) (.Call (.Name "zip" p) [e, e2] [] pos) (iZipTS X.K ta) := by
  refine ⟨fun pins s σ H R I h => ?_⟩
  refine Call_ (ld_blt I hg hm PyProof.Rows.boot_zip (PyProof.Rows.callWith_type1 (thn (ha.run pos pins s σ H _ I h) fun us s1 ⟨vs, H1, I1, r1, q1⟩ => ?_) hs hpl))
  obtain ⟨a, xs, x, ex, hqx, q⟩ := q1
  subst ex
  cases r1 with
  | cons r rr =>
    cases rr with
    | cons r' rr =>
      cases rr
      cases r
      obtain ⟨t, rfl⟩ := r'
      obtain ⟨its, rv, p1, _⟩ := I1.tuple hqx
      have hal : a < s1.heap.objs.size := by obtain ⟨o, ho, _⟩ := id p1; exact Heap.lt_size ho
      refine zip_begins2 (begins_tuple a its.toArray) (begins_text x t) p1 trivial fun h' hz hTI hTO h1 h2 hsz hk => wpAny_pyIter_zip hz ?_
      have I2 : Inv X pins σ H1 { s1 with heap := h' } := I1.kept (t' := s1.toks) hk
      have hsep : ApTS (s1.heap.objs.size + 4) (s1.heap.objs.size + 2) (s1.heap.objs.size + 3) s1.heap.objs.size (s1.heap.objs.size + 1) a :=
        ⟨zip_sep2 (N := s1.heap.objs.size) (fp1 := [a]) (fp2 := []) (fun b hb => by simp at hb; rw [hb]; exact hal) (fun b hb => by simp at hb), Nat.ne_of_lt hal⟩
      refine ⟨s1.heap.objs.size + 4, [s1.heap.objs.size + 4, s1.heap.objs.size + 2, s1.heap.objs.size + 3, s1.heap.objs.size, s1.heap.objs.size + 1], _, _, H1, rfl, I2, turn_zipTS (t := t) hsep, ⟨hz, hTI, ⟨_, _, hTO⟩, ⟨_, h1, rfl, rfl⟩, ⟨_, h2, rfl, rfl⟩⟩, fun c hcm => ?_, q⟩
      have e' : c = s1.heap.objs.size + 4 ∨ c = s1.heap.objs.size + 2 ∨ c = s1.heap.objs.size + 3 ∨ c = s1.heap.objs.size ∨ c = s1.heap.objs.size + 1 := by simpa using hcm
      have hle : s1.heap.objs.size ≤ c := by
        rcases e' with z | z | z | z | z
        · rw [z]; exact Nat.le_add_right _ _
        · rw [z]; exact Nat.le_add_right _ _
        · rw [z]; exact Nat.le_add_right _ _
        · rw [z]; exact Nat.le_refl _
        · rw [z]; exact Nat.le_add_right _ _
      exact I1.fpOk hle (I1.hok.fresh hle)

/-! ### enumerate(a tuple) -/
def IteT (K : PySem.W.Frag) (a : Addr) : It :=
  ⟨fun i H => ∃ (xs : List V) (x : V), SqT K H a xs ∧ xs[i]? = some x, fun i H v H' => ∃ T x, v = .ref T ∧ H T = none ∧ H' = upd H T (.tup [.int (i : Nat), x]) ∧ ∀ xs, SqT K H a xs → xs[i]? = some x, fun i H => ∃ xs : List V, SqT K H a xs ∧ xs.length = i⟩
set_option maxHeartbeats 1000000 in
theorem meets_enumerate_newT (l : Addr) (items : Array Value) (n : Nat) (dct : Option Addr) (sl : Array (Option Value)) :
    Meets (Builtin.«enumerate.__new__» ⟨[.type "enumerate", .ref l], []⟩) (fun _ R s => s.heap.IsTuple l items ∧
      R (.ok (.ret (.ref (s.heap.push { cls := .type "tuple_iterator", data := .fields #[.ref l, .int 0 0] }).objs.size)))
        { s with heap := (s.heap.push { cls := .type "tuple_iterator", data := .fields #[.ref l, .int 0 0] }).push { cls := .type "enumerate", data := .fields #[.none, .bool false, .ref s.heap.objs.size, rawInt 0, .none, .none] } }) :=
  .of_wp fun prog w A R s h => by
    obtain ⟨hp, g, d, tk, os⟩ := s; obtain ⟨h1, h⟩ := h
    have hsub := sub_enumerate
    have q1 : ∀ {A' : Around} {E : Value → Shared → Prop} {Q : Value → Shared → Prop}, Q (.ref hp.objs.size) ⟨hp.push { cls := .type "tuple_iterator", data := .fields #[.ref l, .int 0 0] }, g, d, tk, os⟩ → wpAny (model prog w) A' (pyIter (.ref l)) Q E ⟨hp, g, d, tk, os⟩ :=
      fun q => wpAny_pyIter_tuple h1 q
    wp_walk
    refine wpAny_stack_any fun st => wpAny_pure ?_
    split
    · rename_i c _ _ _ _ _
      cases (c == Value.type "enumerate")
      · wp_walk using q1
        exact ⟨_, rfl, h⟩
      · wp_walk using q1
        exact ⟨_, rfl, h⟩
    · wp_walk using q1
      exact ⟨_, rfl, h⟩
theorem call_enumerate_tup {prog : Program} {w : World} {A : Around} {E : Value → Shared → Prop} {s : Shared} {l : Addr} {items : Array Value} {Q : Value → Shared → Prop} (hL : s.heap.IsTuple l items)
    (h : ∀ h', IsEnum h' (s.heap.objs.size + 1) s.heap.objs.size 0 .none → h'.IsTupleIter s.heap.objs.size l 0 → h'.objs.size = s.heap.objs.size + 2 →
      (∀ b o, s.heap.get? b = some o → h'.get? b = some o) → Q (.ref (s.heap.objs.size + 1)) { s with heap := h' }) :
    wpAny (model prog w) A (call (.type "enumerate") [.ref l]) Q E s := by
  refine callType_new F.called_enumerate (by decide) (F.typeCall_enumerate_1 _) (F.newCall_enumerate_1 _) (fun obj => F.args_object_init_2 obj _) F.entry_enumerate_new
    (meets_enumerate_newT l items 0 none #[]) ⟨hL, ?_⟩
  have hz : (s.heap.push { cls := .type "tuple_iterator", data := .fields #[.ref l, .int 0 0] }).objs.size = s.heap.objs.size + 1 := Heap.size_push ..
  show _ ∧ _
  rw [hz]
  have he : IsEnum ((s.heap.push { cls := .type "tuple_iterator", data := .fields #[.ref l, .int 0 0] }).push
      { cls := .type "enumerate", data := .fields #[.none, .bool false, .ref s.heap.objs.size, rawInt 0, .none, .none] }) (s.heap.objs.size + 1) s.heap.objs.size 0 .none := by
    have := Heap.get?_push_size (s.heap.push { cls := .type "tuple_iterator", data := .fields #[.ref l, .int 0 0] })
      (o := { cls := .type "enumerate", data := .fields #[.none, .bool false, .ref s.heap.objs.size, rawInt 0, .none, .none] }) rfl
    rw [hz] at this; exact this
  refine ⟨⟨_, he, rfl⟩, h _ he ⟨_, Heap.get?_push_of_some _ (Heap.get?_push_size _ rfl), rfl, rfl⟩ (by rw [Heap.size_push, hz]) fun b o x => Heap.get?_push_of_some _ (Heap.get?_push_of_some _ x)⟩
theorem turn_enumT {P : Program} {w : World} {K : PySem.W.Frag} {elts : List Expr} {kk : Nat} {tpos : Pos} (a e it : Addr) (hae : a ≠ e) (hai : a ≠ it) :
    Turn P w K (.Tuple elts kk tpos) (IteT K a) [e, it] e (fun i h => (∃ old, IsEnum h e it ((i : Nat) : Int) old) ∧ h.IsTupleIter it a i ∧ e ≠ it) where
  mem := by simp
  obj := fun i h st b hb => by
    obtain ⟨⟨old, he⟩, ⟨o, ho, hc, hd⟩, _⟩ := st
    have e' : b = e ∨ b = it := by simpa using hb
    rcases e' with z | z
    · rw [z]; exact ⟨_, he, fun v q => nomatch q⟩
    · rw [z]; exact ⟨o, ho, fun v q => by rw [hd] at q; cases q⟩
  keep := fun i h h' st k => let ⟨⟨old, he⟩, hi, hne⟩ := st; ⟨⟨old, k e (by simp) _ he⟩, hi.at fun o q => k it (by simp) o q, hne⟩
  item := by
    intro X hP hw hK hc i pins s σ H E I hf st hg
    subst hP hw hK
    obtain ⟨⟨old, he⟩, hit, hne⟩ := st
    obtain ⟨xs, x, hq, hx⟩ := hg
    obtain ⟨its, rv, p, hz⟩ := I.tuple hq
    obtain ⟨u, hu, ru⟩ := rv.get hx
    have hel : e < s.heap.objs.size := Heap.lt_size he
    have hil : it < s.heap.objs.size := by obtain ⟨_, q, _⟩ := hit; exact Heap.lt_size q
    have hul : i < its.toArray.size := by
      have := (List.getElem?_eq_some_iff.mp hu).1
      simpa using this
    have hh := I.ok.hd hc
    refine wpAny_pyNext_enum_itemD (Draws.tuple (A := X.A.in1) hh it a hai its.toArray) he ⟨hit, p⟩ hul hne (by simp [hne, hae.symm]) fun x1 h' tk p1 ho st' hT hsz hk => ?_
    have e1 : x1 = u := by
      have q2 : its[i]? = some x1 := by simpa using p1
      rw [hu] at q2
      exact (Option.some.inj q2).symm
    subst e1
    refine ⟨_, rfl, wpAny_letOwnedTupleGo_enum (s := { s with heap := h', toks := tk + 1 }) ho fun h'' he' sb => ?_⟩
    have hT2 : h''.get? s.heap.objs.size = some { cls := .type "tuple", data := .seq #[.int i tk, x1] } := (sb.2 _ (Nat.ne_of_gt hel)).trans hT
    have new : ObjOk X.prog X.w (upd H s.heap.objs.size (.tup [.int (i : Nat), x])) h'' s.heap.objs.size (.tup [.int (i : Nat), x]) :=
      ⟨by show 2 ≤ sizeLine; decide, [.int i tk, x1], .cons ⟨_, rfl⟩ (.cons ru .nil), ⟨_, hT2, rfl, _, rfl⟩⟩
    have I1 : Inv X pins σ (upd H s.heap.objs.size (.tup [.int (i : Nat), x])) { s with heap := h'', toks := tk + 1 } :=
      I.turnedNew (ch := [e, it]) (fun b ob hb q => (sb.2 b (fun z => hb (by simp [z]))).trans (hk b ob (fun z => hb (by simp [z])) (fun z => hb (by simp [z])) q)) hf (Nat.le_refl _) new
    refine ⟨.ref s.heap.objs.size, _, I1, rfl, ⟨_, x, rfl, I.hok.fresh (Nat.le_refl _), rfl, fun ys hy => by rw [I.tuple_inj hy hq]; exact hx⟩, ⟨⟨x1, ?_⟩, st'.1.at fun o q => (sb.2 it (Ne.symm hne)).trans q, hne⟩, fun b hb => ?_⟩
    · have e1 : ((i + 1 : Nat) : Int) = (i : Int) + 1 := by omega
      rw [e1]; exact he'
    · have hb' : b < s.heap.objs.size := by
        have e' : b = e ∨ b = it := by simpa using hb
        rcases e' with z | z
        · rw [z]; exact hel
        · rw [z]; exact hil
      rw [upd_ne (Nat.ne_of_lt hb')]
      exact (hf b hb).1
  done := by
    intro X hP hw hK hc i pins s σ H E I hf st hg
    subst hP hw hK
    obtain ⟨⟨old, he⟩, hit, hne⟩ := st
    obtain ⟨xs, hq, hx⟩ := hg
    obtain ⟨its, rv, p, hz⟩ := I.tuple hq
    obtain ⟨f0, f1, f2, f3, f4, f5⟩ := hf it (by simp)
    have hl : its.toArray.size = i := by
      rw [List.size_toArray, ← hx]
      exact rv.length.symm
    have hh := I.ok.hd hc
    subst hl
    exact wpAny_pyNext_enum_endD (Draws.tuple (A := X.A.in1) hh it a hai its.toArray) he ⟨hit, p⟩ fun h' eb => ⟨rfl, I.turned (t' := s.toks) (fun b o hb q => eb b o hb q) f0 f1 f3 f4 f5⟩
  self := fun A i s Q E st h => let ⟨⟨_, he⟩, _⟩ := st; wpAny_pyIter_enum he h
def iEnumX (K : PySem.W.Frag) (ta : TA) : TI := fun σ H R => ta σ H fun vs H1 => ∃ a xs, vs = [.ref a] ∧ ((SqL K H1 a xs ∧ R (Ite K a) H1) ∨ (SqT K H1 a xs ∧ R (IteT K a) H1))
theorem pi_enumX {X : Cx} {e : Expr} {ta : TA} {p pos tpos : Pos} {elts : List Expr} {kk : Nat} (hg : Gl X "enumerate") (hm : X.mg "enumerate" = none) (ha : PA X [e] ta) (hs : starEach [e] X.env = [(false, eval e X.env)] := by rfl) :
    PI X (.Tuple elts kk tpos) (.Call (.Name "enumerate" p) [e] [] pos) (iEnumX X.K ta) := by
  refine ⟨fun pins s σ H R I h => ?_⟩
  refine Call_ (ld_blt I hg hm boot_enumerate (PyProof.Rows.callWith_type1 (thn (ha.run pos pins s σ H _ I h) fun us s1 ⟨vs, H1, I1, r1, q1⟩ => ?_) hs rfl))
  obtain ⟨a, xs, ex, q1⟩ := q1
  subst ex
  cases r1 with
  | cons r rr =>
    cases rr
    cases r
    have fr : ∀ b, b ∈ [s1.heap.objs.size + 1, s1.heap.objs.size] → FpOk X pins H1 b := fun b hb => by
      have e' : b = s1.heap.objs.size + 1 ∨ b = s1.heap.objs.size := by simpa using hb
      have hle : s1.heap.objs.size ≤ b := by
        rcases e' with z | z
        · rw [z]; exact Nat.le_add_right _ _
        · rw [z]; exact Nat.le_refl _
      exact I1.fpOk hle (I1.hok.fresh hle)
    rcases q1 with ⟨hq, q⟩ | ⟨hq, q⟩
    · obtain ⟨its, rv, p', hz⟩ := I1.list hq
      refine call_enumerate_list p'.isList fun h' he hit hsz hk => wpAny_pyIter_enum he ?_
      have I2 : Inv X pins σ H1 { s1 with heap := h' } := I1.kept (t' := s1.toks) hk
      exact ⟨s1.heap.objs.size + 1, [s1.heap.objs.size + 1, s1.heap.objs.size], _, _, H1, rfl, I2, turn_enum a (s1.heap.objs.size + 1) s1.heap.objs.size, ⟨⟨.none, he⟩, hit, Nat.succ_ne_self _⟩, fr, q⟩
    · obtain ⟨its, rv, p', hz⟩ := I1.tuple hq
      have hal : a < s1.heap.objs.size := by obtain ⟨o, ho, _⟩ := id p'; exact Heap.lt_size ho
      refine call_enumerate_tup (items := its.toArray) p' fun h' he hit hsz hk => wpAny_pyIter_enum he ?_
      have I2 : Inv X pins σ H1 { s1 with heap := h' } := I1.kept (t' := s1.toks) hk
      exact ⟨s1.heap.objs.size + 1, [s1.heap.objs.size + 1, s1.heap.objs.size], _, _, H1, rfl, I2, turn_enumT a (s1.heap.objs.size + 1) s1.heap.objs.size (Nat.ne_of_lt (Nat.lt_succ_of_lt hal)) (Nat.ne_of_lt hal), ⟨⟨.none, he⟩, hit, Nat.succ_ne_self _⟩, fr, q⟩
theorem ie_zipTS {K : PySem.W.Frag} {ρ : Rho} {ta : TA} {ds : List PyData} {x : Str} (h : EA ta ρ [.tuple ds, .str x]) : IE (iZipTS K ta) ρ (List.zipWith (fun d c => .tuple [d, .str ⟨#[c]⟩]) ds x.cps.toList) := fun σ B H ex ev R q => by
  refine h σ B H ex ev _ fun vs B1 H1 g1 d1 => ?_
  cases d1 with
  | cons a1 r =>
  cases r with
  | cons a2 r =>
    cases r
    cases a2
    cases a1 with
    | @tup a xs _ ha hs =>
      have hl := hs.length
      refine ⟨a, xs, x, rfl, SqT.of (g1.t _ _ ha), q _ B1 H1 g1 fun B2 H2 e1 e2 i => ⟨fun hi => ?_, fun d hd => ?_⟩⟩
      · have e0 : x.cps.toList.length = x.cps.size := Array.length_toList
        rw [List.length_zipWith] at hi
        exact ⟨xs, SqT.of (e2 _ _ (e1 _ _ ha)), by omega, by omega, by omega⟩
      · rw [List.getElem?_zipWith] at hd
        cases hd1 : ds[i]? with
        | none => rw [hd1] at hd; simp at hd
        | some d0 =>
          cases hc : x.cps.toList[i]? with
          | none => rw [hd1, hc] at hd; simp at hd
          | some c =>
            rw [hd1, hc] at hd
            simp at hd
            subst hd
            obtain ⟨v, hv, dv⟩ := hs.get hd1
            rw [Array.getElem?_toList] at hc
            have hlt : i < x.cps.size := by
              by_cases hl : i < x.cps.size
              · exact hl
              · rw [Array.getElem?_eq_none (by omega)] at hc
                cases hc
            refine ⟨⟨⟨xs, v, SqT.of (e2 _ _ (e1 _ _ ha)), hv⟩, hlt⟩, fun y H' hy => ?_⟩
            obtain ⟨T, y', c', rfl, hT, hc', rfl, hy'⟩ := hy
            have e3 := hy' xs (SqT.of (e2 _ _ (e1 _ _ ha)))
            rw [hv] at e3
            cases e3
            rw [hc] at hc'
            cases hc'
            have g := Gr.new (o := .tup [v, .str ⟨#[c]⟩]) e2 hT
            exact ⟨_, g, .tup upd_same (.cons (dv.mono (e1.trans g.b)) (.cons (.str _) .nil))⟩
end Pd

/-! PdM -/
set_option Elab.async false
set_option linter.all false
set_option maxRecDepth 100000
set_option maxHeartbeats 4000000
/-! min(a, b), max(a, b) of two tuples of ints -/
namespace PySem
open PySem.W
section
variable {prog : Program} {w : World} {A : Around} {E : Value → Shared → Prop} {s : Shared}
theorem pd_min_twoH {a b : Value} {Q : Value → Shared → Prop}
    (h : wpAny (model prog w) A.in1 (pyIter (.ref s.heap.objs.size)) (fun it s₂ => ∃ I fp wr G n P St H bt, it = .ref I ∧ WalksS prog w A.in1 I fp wr G n P St ∧ St 0 s₂ ∧ (∀ b ∈ fp, b < s₂.heap.objs.size) ∧ 0 < n ∧
      (∀ b o, H.get? b = some o → b ∉ wr) ∧ (∀ b o, H.get? b = some o → s₂.heap.get? b = some o) ∧ CmpIn prog w A.in1 .Lt H P bt ∧ ∀ v s', P (argBest bt (n - 1)) v → Moved wr G s₂ s' → Q v s') E
      { s with heap := s.heap.push { cls := .type "tuple", data := .seq #[a, b] } }) :
    wpAny (model prog w) A (call (.builtin "min") [a, b]) Q E s := by
  have hname : (toString "min" ++ toString ".loop" : String) = "min.loop" := by decide
  refine call_function_tree F.kind_min F.plain_min F.entry_min (F.args_min2 _ _) ?_
  show wpAny _ A.in1 (Builtin.Builtins.bindParams "min" ["key", "default"] 0 ⟨[], []⟩ >>= _) _ _ s
  refine wpAny_bind (wpAny_of_eq (show Builtin.Builtins.bindParams "min" ["key", "default"] 0 ⟨[], []⟩ = pure [none, none] from rfl) ?_)
  show wpAny _ A.in1 (newTuple [a, b] >>= _) _ _ s
  refine wpAny_bind (wpAny_newObj_type ?_)
  refine wpAny_bind (wpAny_mono h (fun it s₂ h₂ => ?_) fun _ _ e => e)
  obtain ⟨I, fp, wr, G, n, P, St, H, bt, rfl, W, hst, hfp, hn, hw, hkeep, hcmp, hQ⟩ := h₂
  refine wpAny_bind (wpAny_newObj_type ?_)
  have hSf : s₂.heap.objs.size ∉ fp := fun hm => Nat.lt_irrefl _ (hfp _ hm)
  rw [hname]
  refine wpAny_pure ⟨plainId_quiet F.plain_min_loop _, codeAny_min_loop_firstH W H hw bt hcmp s₂.heap.objs.size hSf (fresh_in hkeep) _ hn (fun b o e => Heap.get?_push_of_some _ (hkeep b o e)) (W.frame 0 s₂ _ s₂.toks hst (Nat.le_refl _) fun b _ o e => Heap.get?_push_of_some _ e) (Heap.get?_push_size _ rfl) fun v s' hP hm => ?_⟩
  exact hQ v s' hP (Moved.drop_new (tk := s₂.toks) hm (Nat.le_refl _))
theorem pd_max_twoH {a b : Value} {Q : Value → Shared → Prop}
    (h : wpAny (model prog w) A.in1 (pyIter (.ref s.heap.objs.size)) (fun it s₂ => ∃ I fp wr G n P St H bt, it = .ref I ∧ WalksS prog w A.in1 I fp wr G n P St ∧ St 0 s₂ ∧ (∀ b ∈ fp, b < s₂.heap.objs.size) ∧ 0 < n ∧
      (∀ b o, H.get? b = some o → b ∉ wr) ∧ (∀ b o, H.get? b = some o → s₂.heap.get? b = some o) ∧ CmpIn prog w A.in1 .Gt H P bt ∧ ∀ v s', P (argBest bt (n - 1)) v → Moved wr G s₂ s' → Q v s') E
      { s with heap := s.heap.push { cls := .type "tuple", data := .seq #[a, b] } }) :
    wpAny (model prog w) A (call (.builtin "max") [a, b]) Q E s := by
  have hname : (toString "max" ++ toString ".loop" : String) = "max.loop" := by decide
  refine call_function_tree F.kind_max F.plain_max F.entry_max (F.args_max2 _ _) ?_
  show wpAny _ A.in1 (Builtin.Builtins.bindParams "max" ["key", "default"] 0 ⟨[], []⟩ >>= _) _ _ s
  refine wpAny_bind (wpAny_of_eq (show Builtin.Builtins.bindParams "max" ["key", "default"] 0 ⟨[], []⟩ = pure [none, none] from rfl) ?_)
  show wpAny _ A.in1 (newTuple [a, b] >>= _) _ _ s
  refine wpAny_bind (wpAny_newObj_type ?_)
  refine wpAny_bind (wpAny_mono h (fun it s₂ h₂ => ?_) fun _ _ e => e)
  obtain ⟨I, fp, wr, G, n, P, St, H, bt, rfl, W, hst, hfp, hn, hw, hkeep, hcmp, hQ⟩ := h₂
  refine wpAny_bind (wpAny_newObj_type ?_)
  have hSf : s₂.heap.objs.size ∉ fp := fun hm => Nat.lt_irrefl _ (hfp _ hm)
  rw [hname]
  refine wpAny_pure ⟨plainId_quiet F.plain_max_loop _, codeAny_max_loop_firstH W H hw bt hcmp s₂.heap.objs.size hSf (fresh_in hkeep) _ hn (fun b o e => Heap.get?_push_of_some _ (hkeep b o e)) (W.frame 0 s₂ _ s₂.toks hst (Nat.le_refl _) fun b _ o e => Heap.get?_push_of_some _ e) (Heap.get?_push_size _ rfl) fun v s' hP hm => ?_⟩
  exact hQ v s' hP (Moved.drop_new (tk := s₂.toks) hm (Nat.le_refl _))
/-- the new tuple of the two goes, what stood stands -/
theorem pd_min_data {a b : Value} {x y : PyData} {as bs : List Addr} {Q : Value → Shared → Prop} (hh : A.handled = none) (ra : Reads s.heap a x as) (rb : Reads s.heap b y bs) (ha : AlikeAll [x, y]) (hu : A.units + 1 + PyData.depthAll [x, y] < cLine)
    (h : ∀ h' tk, (∀ b o, s.heap.get? b = some o → h'.get? b = some o) → Q (if dataLt y x = true then b else a) { s with heap := h', toks := tk }) : wpAny (model prog w) A (call (.builtin "min") [a, b]) Q E s := by
  have hT : (s.heap.push { cls := .type "tuple", data := .seq #[a, b] }).IsTuple s.heap.objs.size #[a, b] := ⟨_, Heap.get?_push_size _ rfl, rfl, 0, rfl⟩
  have k : ∀ b' o, s.heap.get? b' = some o → (s.heap.push { cls := .type "tuple", data := .seq #[a, b] }).get? b' = some o := fun b' o e => Heap.get?_push_of_some _ e
  have hr : ReadsAll (s.heap.push { cls := .type "tuple", data := .seq #[a, b] }) (#[a, b] : Array Value).toList [x, y] (as ++ (bs ++ [])) := .cons (reads_keeps k ra) (.cons (reads_keeps k rb) .nil)
  refine pd_min_twoH (iter_tupleW (A := A.in1) hh hT fun s₂ e W st hfp hw hk => ?_)
  refine ⟨_, _, _, _, _, _, _, _, _, rfl, W, st, hfp, by simp, hw, hk, cmpIn_lt (A := A.in1) (s := { s with heap := s.heap.push { cls := .type "tuple", data := .seq #[a, b] } }) hr ha (by show A.units + 1 + _ < _; exact hu), fun v s' hP m => ?_⟩
  obtain ⟨h', tk, e', hk'⟩ := moved_old e rfl m
  have hv : (if dataLt y x = true then b else a) = v := by
    have q : (#[a, b] : Array Value)[if dataLt y x = true then 1 else 0]? = some v := hP
    by_cases hd : dataLt y x = true
    · rw [if_pos hd] at q ⊢
      simpa using q
    · rw [if_neg hd] at q ⊢
      simpa using q
  subst e'
  rw [← hv]
  exact h h' tk fun c o ec => hk' c o (k c o ec)
theorem pd_max_data {a b : Value} {x y : PyData} {as bs : List Addr} {Q : Value → Shared → Prop} (hh : A.handled = none) (ra : Reads s.heap a x as) (rb : Reads s.heap b y bs) (ha : AlikeAll [x, y]) (hu : A.units + 1 + PyData.depthAll [x, y] < cLine)
    (h : ∀ h' tk, (∀ b o, s.heap.get? b = some o → h'.get? b = some o) → Q (if dataLt x y = true then b else a) { s with heap := h', toks := tk }) : wpAny (model prog w) A (call (.builtin "max") [a, b]) Q E s := by
  have hT : (s.heap.push { cls := .type "tuple", data := .seq #[a, b] }).IsTuple s.heap.objs.size #[a, b] := ⟨_, Heap.get?_push_size _ rfl, rfl, 0, rfl⟩
  have k : ∀ b' o, s.heap.get? b' = some o → (s.heap.push { cls := .type "tuple", data := .seq #[a, b] }).get? b' = some o := fun b' o e => Heap.get?_push_of_some _ e
  have hr : ReadsAll (s.heap.push { cls := .type "tuple", data := .seq #[a, b] }) (#[a, b] : Array Value).toList [x, y] (as ++ (bs ++ [])) := .cons (reads_keeps k ra) (.cons (reads_keeps k rb) .nil)
  refine pd_max_twoH (iter_tupleW (A := A.in1) hh hT fun s₂ e W st hfp hw hk => ?_)
  refine ⟨_, _, _, _, _, _, _, _, _, rfl, W, st, hfp, by simp, hw, hk, cmpIn_gt (A := A.in1) (s := { s with heap := s.heap.push { cls := .type "tuple", data := .seq #[a, b] } }) hr ha (by show A.units + 1 + _ < _; exact hu), fun v s' hP m => ?_⟩
  obtain ⟨h', tk, e', hk'⟩ := moved_old e rfl m
  have hv : (if dataLt x y = true then b else a) = v := by
    have q : (#[a, b] : Array Value)[if dataLt x y = true then 1 else 0]? = some v := hP
    by_cases hd : dataLt x y = true
    · rw [if_pos hd] at q ⊢
      simpa using q
    · rw [if_neg hd] at q ⊢
      simpa using q
  subst e'
  rw [← hv]
  exact h h' tk fun c o ec => hk' c o (k c o ec)
end
end PySem
namespace Pd
open PySem PySem.Spec PyProof.Rows L2 PySem.W
abbrev pr (c : Int × Int) : PyData := .tuple [.int c.1, .int c.2]
def ltP (x y : Int × Int) : Bool := decide (x.1 < y.1) || (decide (x.1 = y.1) && decide (x.2 < y.2))
theorem pr_lt (x y : Int × Int) : dataLt (pr x) (pr y) = ltP x y := by
  obtain ⟨a, b⟩ := x
  obtain ⟨c, d⟩ := y
  by_cases h1 : a < c
  · have h2 : ¬ c < a := by omega
    simp [dataLt, keyToks, keyToksAll, PyProof.Rows.lexLt, itemOrd, itemLt, ltP, h1, h2]
  · by_cases h2 : c < a
    · have h3 : ¬ a = c := by omega
      simp [dataLt, keyToks, keyToksAll, PyProof.Rows.lexLt, itemOrd, itemLt, ltP, h1, h2, h3]
    · have h3 : a = c := by omega
      subst h3
      by_cases h4 : b < d
      · simp [dataLt, keyToks, keyToksAll, PyProof.Rows.lexLt, itemOrd, itemLt, ltP, h4]
      · by_cases h5 : d < b
        · simp [dataLt, keyToks, keyToksAll, PyProof.Rows.lexLt, itemOrd, itemLt, ltP, h4, h5]
        · simp [dataLt, keyToks, keyToksAll, PyProof.Rows.lexLt, itemOrd, itemLt, ltP, h4, h5]
theorem pr_alike (x y : Int × Int) : AlikeAll [pr x, pr y] := by
  refine ⟨fun a ha b hb => ?_, fun a ha z => ?_⟩
  · simp at ha hb
    rcases ha with rfl | rfl <;> rcases hb with rfl | rfl <;> simp [alike, alikeAll]
  · simp at ha
    rcases ha with rfl | rfl <;> simp at z
theorem pr_depth (x y : Int × Int) : PyData.depthAll [pr x, pr y] ≤ 1 := by simp [PyData.depthAll, PyData.depth]
def rMinT (K : PySem.W.Frag) : List V → Hp → VK → Prop := fun xs H Q => ∃ (u v : V) (x y : Int × Int), xs = [u, v] ∧ Dp K H u (pr x) ∧ Dp K H v (pr y) ∧ Q (if ltP y x = true then v else u) H
def rMaxT (K : PySem.W.Frag) : List V → Hp → VK → Prop := fun xs H Q => ∃ (u v : V) (x y : Int × Int), xs = [u, v] ∧ Dp K H u (pr x) ∧ Dp K H v (pr y) ∧ Q (if ltP x y = true then v else u) H
theorem call_minT {X : Cx} {k : Nat} (hc : X.calm = true) (hr : Room k X.A) : CallR X (.builtin "min") (rMinT X.K) := by
  intro pins s σ H xs us Q I r h
  obtain ⟨u, v, x, y, rfl, h1, h2, q⟩ := h
  obtain ⟨a, b, rfl, r1, r2⟩ := vals2 r
  obtain ⟨as, ra⟩ := Dp.reads I (pr x) u a h1 r1
  obtain ⟨bs, rb⟩ := Dp.reads I (pr y) v b h2 r2
  have hu := hu65 hr
  have hd := pr_depth x y
  refine pd_min_data (I.ok.hd hc) ra rb (pr_alike x y) (by omega) fun h' tk k' => ⟨_, H, I.kept (t' := tk) k', ?_, q⟩
  rw [pr_lt]
  by_cases hl : ltP y x = true
  · rw [if_pos hl, if_pos hl]
    exact r2
  · rw [if_neg hl, if_neg hl]
    exact r1
theorem call_maxT {X : Cx} {k : Nat} (hc : X.calm = true) (hr : Room k X.A) : CallR X (.builtin "max") (rMaxT X.K) := by
  intro pins s σ H xs us Q I r h
  obtain ⟨u, v, x, y, rfl, h1, h2, q⟩ := h
  obtain ⟨a, b, rfl, r1, r2⟩ := vals2 r
  obtain ⟨as, ra⟩ := Dp.reads I (pr x) u a h1 r1
  obtain ⟨bs, rb⟩ := Dp.reads I (pr y) v b h2 r2
  have hu := hu65 hr
  have hd := pr_depth x y
  refine pd_max_data (I.ok.hd hc) ra rb (pr_alike x y) (by omega) fun h' tk k' => ⟨_, H, I.kept (t' := tk) k', ?_, q⟩
  rw [pr_lt]
  by_cases hl : ltP x y = true
  · rw [if_pos hl, if_pos hl]
    exact r2
  · rw [if_neg hl, if_neg hl]
    exact r1
theorem rc_minT {K : PySem.W.Frag} {x y : Int × Int} : RC (rMinT K) [pr x, pr y] (pr (if ltP y x = true then y else x)) := fun B H vs ex dv Q q => by
  cases dv with
  | cons d1 r =>
    cases r with
    | cons d2 r =>
      cases r
      refine ⟨_, _, x, y, rfl, (d1.mono ex).dp, (d2.mono ex).dp, q _ B H (Gr.refl ex) ?_⟩
      by_cases hl : ltP y x = true
      · rw [if_pos hl, if_pos hl]
        exact d2
      · rw [if_neg hl, if_neg hl]
        exact d1
theorem rc_maxT {K : PySem.W.Frag} {x y : Int × Int} : RC (rMaxT K) [pr x, pr y] (pr (if ltP x y = true then y else x)) := fun B H vs ex dv Q q => by
  cases dv with
  | cons d1 r =>
    cases r with
    | cons d2 r =>
      cases r
      refine ⟨_, _, x, y, rfl, (d1.mono ex).dp, (d2.mono ex).dp, q _ B H (Gr.refl ex) ?_⟩
      by_cases hl : ltP x y = true
      · rw [if_pos hl, if_pos hl]
        exact d2
      · rw [if_neg hl, if_neg hl]
        exact d1
end Pd

/-! Rdg -/
set_option Elab.async false
set_option linter.all false
set_option maxRecDepth 100000
set_option maxHeartbeats 4000000
namespace Pd
open PySem PySem.Spec PyProof.Rows L2
def rd_is_number (K : PySem.W.Frag) : TS := (tRet (tAndV (tCB (rIsi K) (tCons (tVar 0) (tCons (tC (.ty "int")) tNil))) (tNotV (tCB (rIsi K) (tCons (tVar 0) (tCons (tC (.ty "bool")) tNil))))))
def rd_is_side (K : PySem.W.Frag) (sp_is_number : Sp) : TS := (tRet (tAndV (tCallD sp_is_number (tCons (tVar 0) tNil)) (tChain rLeI rLeI (tC (.int 1)) (tVar 0) (tC (.int 5)))))
def rd_is_cell (K : PySem.W.Frag) (sp_is_number : Sp) : TS := (tSeq (tIfS (tOr (tNot (tB (tCB (rIsi K) (tCons (tVar 1) (tCons (tC (.ty "tuple")) tNil))))) (tTest (tOp (rNeD K) (tCB (rLenX K) (tCons (tVar 1) tNil)) (tC (.int 2))))) (tRet (tC (.bl false))) tNext) (tSeq (tAsg (tVar 1) (gTup K 2 (gCons (gName 2) (gCons (gName 3) gNil)))) (tSeq (tIfS (tOr (tNot (tB (tCallD sp_is_number (tCons (tVar 2) tNil)))) (tNot (tB (tCallD sp_is_number (tCons (tVar 3) tNil))))) (tRet (tC (.bl false))) tNext) (tRet (tAndV (tChain rLeI rLtI (tC (.int 0)) (tVar 2) (tOp (rIx K) (tVar 0) (tC (.int 0)))) (tChain rLeI rLtI (tC (.int 0)) (tVar 3) (tOp (rIx K) (tVar 0) (tC (.int 1)))))))))
def rd_is_edge (K : PySem.W.Frag) (sp_is_cell : Sp) : TS := (tSeq (tIfS (tOr (tNot (tB (tCB (rIsi K) (tCons (tVar 1) (tCons (tC (.ty "tuple")) tNil))))) (tTest (tOp (rNeD K) (tCB (rLenX K) (tCons (tVar 1) tNil)) (tC (.int 3))))) (tRet (tC (.bl false))) tNext) (tSeq (tAsg (tVar 1) (gTup K 3 (gCons (gName 2) (gCons (gName 3) (gCons (gName 4) gNil))))) (tSeq (tIfS (tNot (tB (tCallD sp_is_cell (tCons (tVar 0) (tCons (tTup (tCons (tVar 2) (tCons (tVar 3) tNil))) tNil))))) (tRet (tC (.bl false))) tNext) (tSeq (tIfS (tTest (tOp (rEqD K) (tVar 4) (tC (.str "-")))) (tRet (tOp rGtI (tVar 2) (tC (.int 0)))) tNext) (tRet (tAndV (tOp (rEqD K) (tVar 4) (tC (.str "|"))) (tOp rGtI (tVar 3) (tC (.int 0)))))))))
def rd_edge_from (K : PySem.W.Frag) : TS := (tSeq (tIfS (tTest (tOp (rEqD K) (tVar 2) (tC (.str "n")))) (tRet (tTup (tCons (tOp rSubI (tVar 0) (tC (.int 1))) (tCons (tVar 1) (tCons (tC (.str "|")) tNil))))) tNext) (tSeq (tIfS (tTest (tOp (rEqD K) (tVar 2) (tC (.str "e")))) (tRet (tTup (tCons (tVar 0) (tCons (tVar 1) (tCons (tC (.str "-")) tNil))))) tNext) (tSeq (tIfS (tTest (tOp (rEqD K) (tVar 2) (tC (.str "s")))) (tRet (tTup (tCons (tVar 0) (tCons (tVar 1) (tCons (tC (.str "|")) tNil))))) tNext) (tRet (tTup (tCons (tVar 0) (tCons (tOp rSubI (tVar 1) (tC (.int 1))) (tCons (tC (.str "-")) tNil))))))))
def rd_edge_crossed (K : PySem.W.Frag) : TS := (tSeq (tAsg (tVar 0) (gTup K 2 (gCons (gName 2) (gCons (gName 3) gNil)))) (tSeq (tIfS (tTest (tOp (rEqD K) (tVar 1) (tC (.str "n")))) (tRet (tTup (tCons (tVar 2) (tCons (tVar 3) (tCons (tC (.str "-")) tNil))))) tNext) (tSeq (tIfS (tTest (tOp (rEqD K) (tVar 1) (tC (.str "e")))) (tRet (tTup (tCons (tVar 2) (tCons (tOp (rAddX K) (tVar 3) (tC (.int 1))) (tCons (tC (.str "|")) tNil))))) tNext) (tSeq (tIfS (tTest (tOp (rEqD K) (tVar 1) (tC (.str "s")))) (tRet (tTup (tCons (tOp (rAddX K) (tVar 2) (tC (.int 1))) (tCons (tVar 3) (tCons (tC (.str "-")) tNil))))) tNext) (tRet (tTup (tCons (tVar 2) (tCons (tVar 3) (tCons (tC (.str "|")) tNil)))))))))
def rd_next_cell (K : PySem.W.Frag) : TS := (tSeq (tAsg (tVar 0) (gTup K 2 (gCons (gName 2) (gCons (gName 3) gNil)))) (tSeq (tIfS (tTest (tOp (rEqD K) (tVar 1) (tC (.str "n")))) (tRet (tTup (tCons (tOp rSubI (tVar 2) (tC (.int 1))) (tCons (tVar 3) tNil)))) tNext) (tSeq (tIfS (tTest (tOp (rEqD K) (tVar 1) (tC (.str "e")))) (tRet (tTup (tCons (tVar 2) (tCons (tOp (rAddX K) (tVar 3) (tC (.int 1))) tNil)))) tNext) (tSeq (tIfS (tTest (tOp (rEqD K) (tVar 1) (tC (.str "s")))) (tRet (tTup (tCons (tOp (rAddX K) (tVar 2) (tC (.int 1))) (tCons (tVar 3) tNil)))) tNext) (tRet (tTup (tCons (tVar 2) (tCons (tOp rSubI (tVar 3) (tC (.int 1))) tNil))))))))
def rd_door_edge (K : PySem.W.Frag) (aWAYS : Addr) (sp_edge_from : Sp) (sp_is_number : Sp) : TS := (tSeq (tIfS (tOr (tNot (tB (tCB (rIsi K) (tCons (tVar 0) (tCons (tC (.ty "tuple")) tNil))))) (tTest (tOp (rNeD K) (tCB (rLenX K) (tCons (tVar 0) tNil)) (tC (.int 3))))) (tRet (tC .non)) tNext) (tSeq (tAsg (tVar 0) (gTup K 3 (gCons (gName 1) (gCons (gName 2) (gCons (gName 3) gNil))))) (tSeq (tIfS (tOr (tNot (tB (tCallD sp_is_number (tCons (tVar 1) tNil)))) (tOr (tNot (tB (tCallD sp_is_number (tCons (tVar 2) tNil)))) (tTest (tOp (rInX K true) (tVar 3) (tC (.ref aWAYS)))))) (tRet (tC .non)) tNext) (tRet (tCallD sp_edge_from (tCons (tVar 1) (tCons (tVar 2) (tCons (tVar 3) tNil))))))))
def rd_check_edges (K : PySem.W.Frag) (sp_is_edge : Sp) : TS := (tFor (iEnumX K (tCons (tVar 2) tNil)) (gTup K 2 (gCons (gName 5) (gCons (gName 6) gNil))) (tSeq (tIfS (tOr (tTest (tOp (rEqD K) (tVar 5) (tVar 3))) (tNot (tB (tCallD sp_is_edge (tCons (tVar 0) (tCons (tVar 6) tNil)))))) tNever tNext) (tIfS (tOr (tTest (tOp (rInX K false) (tVar 6) (tVar 4))) (tTest (tOp (rInX K false) (tVar 6) (tSl (rSlX K) (tVar 2) tNoPart (tPart (tVar 5)))))) tNever tNext)))
def rd_check_hall (K : PySem.W.Frag) (sp_check_edges : Sp) (sp_door_edge : Sp) (sp_is_side : Sp) : TS := (tSeq (tIfS (tOr (tNot (tB (tCB (rIsi K) (tCons (tVar 0) (tCons (tC (.ty "tuple")) tNil))))) (tTest (tOp (rNeD K) (tCB (rLenX K) (tCons (tVar 0) tNil)) (tC (.int 4))))) tNever tNext) (tSeq (tAsg (tVar 0) (gTup K 4 (gCons (gName 1) (gCons (gName 2) (gCons (gName 3) (gCons (gName 4) gNil)))))) (tSeq (tIfS (tNot (tB (tCallD sp_is_side (tCons (tVar 1) tNil)))) tNever tNext) (tSeq (tIfS (tNot (tB (tCallD sp_is_side (tCons (tVar 2) tNil)))) tNever tNext) (tSeq (tIfS (tNot (tB (tCB (rIsi K) (tCons (tVar 3) (tCons (tC (.ty "tuple")) tNil))))) tNever tNext) (tSeq (tDrop (tCallD sp_check_edges (tCons (tVar 0) (tCons (tC (.int 2)) (tCons (tVar 3) (tCons (tC (.int 24)) (tCons (tTup tNil) tNil))))))) (tSeq (tIfS (tNot (tB (tCB (rIsi K) (tCons (tVar 4) (tCons (tC (.ty "tuple")) tNil))))) tNever tNext) (tDrop (tCallD sp_check_edges (tCons (tVar 0) (tCons (tC (.int 3)) (tCons (tLc (iTup K (tVar 4)) (gName 5) tYes (tCallD sp_door_edge (tCons (tVar 5) tNil)) [5]) (tCons (tC (.int 6)) (tCons (tVar 3) tNil))))))))))))))
def rd_check_cells (K : PySem.W.Frag) (sp_is_cell : Sp) : TS := (tSeq (tIfS (tOr (tNot (tB (tCB (rIsi K) (tCons (tVar 1) (tCons (tC (.ty "tuple")) tNil))))) (tTest (tOp (rEqD K) (tCB (rLenX K) (tCons (tVar 1) tNil)) (tC (.int 0))))) tNever tNext) (tFor (iEnumX K (tCons (tVar 1) tNil)) (gTup K 2 (gCons (gName 2) (gCons (gName 3) gNil))) (tIfS (tOr (tTest (tOp (rEqD K) (tVar 2) (tC (.int 3)))) (tOr (tNot (tB (tCallD sp_is_cell (tCons (tVar 0) (tCons (tVar 3) tNil))))) (tTest (tOp (rInX K false) (tVar 3) (tSl (rSlX K) (tVar 1) tNoPart (tPart (tVar 2))))))) tNever tNext)))
def rd_check_start (K : PySem.W.Frag) (sp_check_cells : Sp) (sp_check_hall : Sp) : TS := (tSeq (tDrop (tCallD sp_check_hall (tCons (tVar 0) tNil))) (tDrop (tCallD sp_check_cells (tCons (tVar 0) (tCons (tVar 1) tNil)))))
def rd_first_standing (K : PySem.W.Frag) : TS := (tRet (tTup (tCons (tVar 1) (tCons (tM1 (rJoin K) (tC (.str "")) (tLc (iTup K (tOp (rIx K) (tVar 0) (tC (.int 3)))) (gName 2) tYes (tOp (rIx K) (tVar 2) (tC (.int 2))) [2])) tNil))))
def rd_door_edges (K : PySem.W.Frag) (sp_edge_from : Sp) : TS := (tRet (tLc (iZipTS K (tCons (tOp (rIx K) (tVar 0) (tC (.int 3))) (tCons (tVar 1) tNil))) (gTup K 2 (gCons (gName 2) (gCons (gName 3) gNil))) tYes (tCallD sp_edge_from (tCons (tOp (rIx K) (tVar 2) (tC (.int 0))) (tCons (tOp (rIx K) (tVar 2) (tC (.int 1))) (tCons (tVar 3) tNil)))) [2, 3]))
def rd_is_step (K : PySem.W.Frag) (aWAYS : Addr) (sp_is_number : Sp) : TS := (tSeq (tIfS (tOr (tNot (tB (tCB (rIsi K) (tCons (tVar 1) (tCons (tC (.ty "tuple")) tNil))))) (tTest (tOp (rNeD K) (tCB (rLenX K) (tCons (tVar 1) tNil)) (tC (.int 2))))) (tRet (tC (.bl false))) tNext) (tSeq (tAsg (tVar 1) (gTup K 2 (gCons (gName 2) (gCons (gName 3) gNil)))) (tRet (tAndV (tCallD sp_is_number (tCons (tVar 2) tNil)) (tAndV (tChain rLeI rLtI (tC (.int 0)) (tVar 2) (tCB (rLenX K) (tCons (tVar 0) tNil))) (tOp (rInX K false) (tVar 3) (tC (.ref aWAYS))))))))
def rd_swung_ways (K : PySem.W.Frag) (sp_door_edges : Sp) (sp_edge_from : Sp) (sp_is_edge : Sp) : TS := (tSeq (tAsg (tOp (rIx K) (tOp (rIx K) (tVar 0) (tC (.int 3))) (tVar 2)) (gTup K 3 (gCons (gName 4) (gCons (gName 5) (gCons (gName 6) gNil))))) (tSeq (tAsg (tCallD sp_edge_from (tCons (tVar 4) (tCons (tVar 5) (tCons (tVar 3) tNil)))) (gName 7)) (tSeq (tIfS (tOr (tNot (tB (tCallD sp_is_edge (tCons (tVar 0) (tCons (tVar 7) tNil))))) (tOr (tTest (tOp (rInX K false) (tVar 7) (tOp (rIx K) (tVar 0) (tC (.int 2))))) (tTest (tOp (rInX K false) (tVar 7) (tCallD sp_door_edges (tCons (tVar 0) (tCons (tVar 1) tNil))))))) (tRet (tC .non)) tNext) (tRet (tOp (rAddX K) (tOp (rAddX K) (tSl (rSlX K) (tVar 1) tNoPart (tPart (tVar 2))) (tVar 3)) (tSl (rSlX K) (tVar 1) (tPart (tOp (rAddX K) (tVar 2) (tC (.int 1)))) tNoPart))))))
def rd_step_done (K : PySem.W.Frag) (sp_door_edges : Sp) (sp_edge_crossed : Sp) (sp_is_cell : Sp) (sp_next_cell : Sp) (sp_swung_ways : Sp) : TS := (tSeq (tAsg (tVar 1) (gTup K 2 (gCons (gName 3) (gCons (gName 4) gNil)))) (tSeq (tAsg (tVar 2) (gTup K 2 (gCons (gName 5) (gCons (gName 6) gNil)))) (tSeq (tAsg (tCallD sp_next_cell (tCons (tOp (rIx K) (tVar 3) (tVar 5)) (tCons (tVar 6) tNil))) (gName 7)) (tSeq (tAsg (tCallD sp_edge_crossed (tCons (tOp (rIx K) (tVar 3) (tVar 5)) (tCons (tVar 6) tNil))) (gName 8)) (tSeq (tIfS (tOr (tNot (tB (tCallD sp_is_cell (tCons (tVar 0) (tCons (tVar 7) tNil))))) (tOr (tTest (tOp (rInX K false) (tVar 7) (tVar 3))) (tTest (tOp (rInX K false) (tVar 8) (tOp (rIx K) (tVar 0) (tC (.int 2))))))) (tRet (tC .non)) tNext) (tSeq (tAsg (tOp (rAddX K) (tOp (rAddX K) (tSl (rSlX K) (tVar 3) tNoPart (tPart (tVar 5))) (tTup (tCons (tVar 7) tNil))) (tSl (rSlX K) (tVar 3) (tPart (tOp (rAddX K) (tVar 5) (tC (.int 1)))) tNoPart)) (gName 9)) (tSeq (tAsg (tCallD sp_door_edges (tCons (tVar 0) (tCons (tVar 4) tNil))) (gName 10)) (tSeq (tIfS (tTest (tOp (rInX K true) (tVar 8) (tVar 10))) (tRet (tTup (tCons (tTup (tCons (tVar 9) (tCons (tVar 4) tNil))) (tCons (tC .non) tNil)))) tNext) (tSeq (tAsg (tBM K "list" (rIndexD K) (tVar 10) (tCons (tVar 8) tNil)) (gName 11)) (tSeq (tAsg (tCallD sp_swung_ways (tCons (tVar 0) (tCons (tVar 4) (tCons (tVar 11) (tCons (tVar 6) tNil))))) (gName 12)) (tSeq (tIfS (tTest (tOp rIsN (tVar 12) (tC .non))) (tRet (tC .non)) tNext) (tRet (tTup (tCons (tTup (tCons (tVar 9) (tCons (tVar 12) tNil))) (tCons (tVar 11) tNil)))))))))))))))
def rd_moves_from (K : PySem.W.Frag) (aWAYS : Addr) (sp_step_done : Sp) : TS := (tSeq (tAsg (tLst tNil) (gName 2)) (tSeq (tFor (iRng1 (tCons (tCB (rLenX K) (tCons (tOp (rIx K) (tVar 1) (tC (.int 0))) tNil)) tNil)) (gName 3) (tFor (iTup K (tC (.ref aWAYS))) (gName 4) (tSeq (tAsg (tCallD sp_step_done (tCons (tVar 0) (tCons (tVar 1) (tCons (tTup (tCons (tVar 3) (tCons (tVar 4) tNil))) tNil)))) (gName 5)) (tIfS (tTest (tOp rNotN (tVar 5) (tC .non))) (tDrop (tBM K "list" rAppend (tVar 2) (tCons (tTup (tCons (tTup (tCons (tVar 3) (tCons (tVar 4) tNil))) (tCons (tOp (rIx K) (tVar 5) (tC (.int 0))) (tCons (tOp (rIx K) (tVar 5) (tC (.int 1))) tNil)))) tNil))) tNext)))) (tRet (tVar 2))))
def rd_may (K : PySem.W.Frag) (sp_check_start : Sp) (sp_first_standing : Sp) (sp_moves_from : Sp) : TS := (tSeq (tDrop (tCallD sp_check_start (tCons (tVar 0) (tCons (tVar 1) tNil)))) (tRet (tLc (iList K (tCallD sp_moves_from (tCons (tVar 0) (tCons (tCallD sp_first_standing (tCons (tVar 0) (tCons (tVar 1) tNil))) tNil)))) (gName 2) tYes (tOp (rIx K) (tVar 2) (tC (.int 0))) [2])))
def rd_L_taken (K : PySem.W.Frag) : TS := (tSeq (tIfS (tTest (tOp rGtI (tOp (rIx K) (tVar 0) (tC (.int 3))) (tC (.int 0)))) (tSeq (tAsg (tOp rModI (tOp (rIx K) (tVar 0) (tC (.int 3))) (tVar 1)) (gName 2)) (tSeq (tAsg (tOp rFdivI (tOp (rIx K) (tVar 0) (tC (.int 3))) (tVar 1)) (gSub (tVar 0) (tC (.int 3)) rSetL)) (tRet (tVar 2)))) tNext) (tSeq (tAsg (tOp (rAddX K) (tOp (rIx K) (tVar 0) (tC (.int 1))) (tC (.int 1))) (gSub (tVar 0) (tC (.int 1)) rSetL)) (tSeq (tIfS (tTest (tOp rGtI (tOp (rIx K) (tVar 0) (tC (.int 1))) (tCB (rLenX K) (tCons (tOp (rIx K) (tVar 0) (tC (.int 0))) tNil)))) (tSeq (tAsg (tOp rModI (tOp (rAddX K) (tOp rMulX (tOp (rIx K) (tVar 0) (tC (.int 2))) (tC (.int 48271))) (tC (.int 11))) (tC (.int 2147483647))) (gSub (tVar 0) (tC (.int 2)) rSetL)) (tRet (tOp rModI (tOp rFdivI (tOp (rIx K) (tVar 0) (tC (.int 2))) (tC (.int 7))) (tVar 1)))) tNext) (tSeq (tAsg (tOp (rIx K) (tOp (rIx K) (tVar 0) (tC (.int 0))) (tOp rSubI (tOp (rIx K) (tVar 0) (tC (.int 1))) (tC (.int 1)))) (gName 3)) (tSeq (tAsg (tOp rModI (tOp (rAddX K) (tOp (rAddX K) (tOp rMulX (tOp (rIx K) (tVar 0) (tC (.int 2))) (tC (.int 48271))) (tVar 3)) (tC (.int 11))) (tC (.int 2147483647))) (gSub (tVar 0) (tC (.int 2)) rSetL)) (tSeq (tIfS (tTest (tOp rGeI (tVar 3) (tOp rPowI (tC (.int 10)) (tC (.int 18))))) (tAsg (tOp rFdivI (tVar 3) (tVar 1)) (gSub (tVar 0) (tC (.int 3)) rSetL)) tNext) (tRet (tOp rModI (tVar 3) (tVar 1)))))))))
def rd_L_pair (K : PySem.W.Frag) : TS := (tSeq (tAsg (tVar 0) (gTup K 2 (gCons (gName 2) (gCons (gName 3) gNil)))) (tSeq (tIfS (tTest (tOp (rInX K false) (tVar 1) (tC (.str "ns")))) (tSeq (tAsg (tOp rSubI (tVar 2) (tCB rIntX (tCons (tOp (rEqD K) (tVar 1) (tC (.str "n"))) tNil))) (gName 4)) (tRet (tTup (tCons (tTup (tCons (tVar 4) (tCons (tOp rSubI (tVar 3) (tC (.int 1))) tNil))) (tCons (tTup (tCons (tVar 4) (tCons (tVar 3) tNil))) tNil))))) tNext) (tSeq (tAsg (tOp rSubI (tVar 3) (tCB rIntX (tCons (tOp (rEqD K) (tVar 1) (tC (.str "w"))) tNil))) (gName 5)) (tRet (tTup (tCons (tTup (tCons (tOp rSubI (tVar 2) (tC (.int 1))) (tCons (tVar 5) tNil))) (tCons (tTup (tCons (tVar 2) (tCons (tVar 5) tNil))) tNil)))))))
def rd_L_shut (K : PySem.W.Frag) : TS := (tSeq (tAsg (tVar 0) (gTup K 3 (gCons (gName 1) (gCons (gName 2) (gCons (gName 3) gNil))))) (tRet (tIf (tTest (tOp (rEqD K) (tVar 3) (tC (.str "-")))) (tTup (tCons (tTup (tCons (tOp rSubI (tVar 1) (tC (.int 1))) (tCons (tVar 2) tNil))) (tCons (tTup (tCons (tVar 1) (tCons (tVar 2) tNil))) tNil))) (tTup (tCons (tTup (tCons (tVar 1) (tCons (tOp rSubI (tVar 2) (tC (.int 1))) tNil))) (tCons (tTup (tCons (tVar 1) (tCons (tVar 2) tNil))) tNil))))))
def rd_L_within (K : PySem.W.Frag) : TS := (tSeq (tAsg (tLc (iTup K (tVar 1)) (gName 3) (tAnd (tTest (tChain rLeI rLtI (tC (.int 0)) (tOp (rIx K) (tVar 3) (tC (.int 0))) (tOp (rIx K) (tVar 0) (tC (.int 0))))) (tTest (tChain rLeI rLtI (tC (.int 0)) (tOp (rIx K) (tVar 3) (tC (.int 1))) (tOp (rIx K) (tVar 0) (tC (.int 1)))))) (tVar 3) [3]) (gName 2)) (tRet (tOp (rEqD K) (tCB (rLenX K) (tCons (tVar 2) tNil)) (tC (.int 2)))))
def rd_L_next (K : PySem.W.Frag) : TS := (tRet (tTup (tCons (tOp (rAddX K) (tOp (rIx K) (tVar 0) (tC (.int 0))) (tDGet2 (tDisp [((tC (.str "s")), (tC (.int 1))), ((tC (.str "n")), (tOp rSubI (tC (.int 0)) (tC (.int 1))))]) (tVar 1) (tC (.int 0)))) (tCons (tOp (rAddX K) (tOp (rIx K) (tVar 0) (tC (.int 1))) (tDGet2 (tDisp [((tC (.str "e")), (tC (.int 1))), ((tC (.str "w")), (tOp rSubI (tC (.int 0)) (tC (.int 1))))]) (tVar 1) (tC (.int 0)))) tNil))))
def rd_L_step (K : PySem.W.Frag) (sp_L_next : Sp) (sp_L_pair : Sp) (sp_L_shut : Sp) (sp_L_within : Sp) : TS := (tSeq (tAsg (tVar 1) (gTup K 2 (gCons (gName 3) (gCons (gName 4) gNil)))) (tSeq (tAsg (tVar 2) (gTup K 2 (gCons (gName 5) (gCons (gName 6) gNil)))) (tSeq (tAsg (tCallD sp_L_next (tCons (tOp (rIx K) (tVar 3) (tVar 5)) (tCons (tVar 6) tNil))) (gName 7)) (tSeq (tAsg (tLc (iTup K (tOp (rIx K) (tVar 0) (tOp rSubI (tC (.int 3)) (tC (.int 1))))) (gName 14) tYes (tCallD sp_L_shut (tCons (tVar 14) tNil)) [14]) (gName 8)) (tSeq (tAsg (tLc (iRng1 (tCons (tCB (rLenX K) (tCons (tOp (rIx K) (tVar 0) (tC (.int 3))) tNil)) tNil)) (gName 9) tYes (tCallD sp_L_pair (tCons (tSl (rSlX K) (tOp (rIx K) (tOp (rIx K) (tVar 0) (tC (.int 3))) (tVar 9)) tNoPart (tPart (tC (.int 2)))) (tCons (tOp (rIx K) (tVar 4) (tVar 9)) tNil))) [9]) (gName 10)) (tSeq (tAsg (tTup (tCons (tCB (rMinT K) (tCons (tOp (rIx K) (tVar 3) (tVar 5)) (tCons (tVar 7) tNil))) (tCons (tCB (rMaxT K) (tCons (tOp (rIx K) (tVar 3) (tVar 5)) (tCons (tVar 7) tNil))) tNil))) (gName 11)) (tSeq (tIfS (tOr (tTest (tOp (rInX K false) (tVar 7) (tVar 3))) (tOr (tNot (tB (tCallD sp_L_within (tCons (tVar 0) (tCons (tVar 11) tNil))))) (tTest (tOp (rInX K false) (tVar 11) (tVar 8))))) (tRet (tC .non)) tNext) (tSeq (tAsg (tOp (rAddX K) (tOp (rAddX K) (tSl (rSlX K) (tVar 3) tNoPart (tPart (tVar 5))) (tTup (tCons (tVar 7) tNil))) (tSl (rSlX K) (tVar 3) (tPart (tOp (rAddX K) (tVar 5) (tC (.int 1)))) tNoPart)) (gName 12)) (tSeq (tIfS (tTest (tOp (rInX K true) (tVar 11) (tVar 10))) (tRet (tTup (tCons (tTup (tCons (tVar 12) (tCons (tVar 4) tNil))) (tCons (tC .non) tNil)))) tNext) (tSeq (tAsg (tBM K "list" (rIndexD K) (tVar 10) (tCons (tVar 11) tNil)) (gName 9)) (tSeq (tAsg (tCallD sp_L_pair (tCons (tSl (rSlX K) (tOp (rIx K) (tOp (rIx K) (tVar 0) (tC (.int 3))) (tVar 9)) tNoPart (tPart (tC (.int 2)))) (tCons (tVar 6) tNil))) (gName 13)) (tSeq (tIfS (tOr (tNot (tB (tCallD sp_L_within (tCons (tVar 0) (tCons (tVar 13) tNil))))) (tTest (tOp (rInX K false) (tVar 13) (tOp (rAddX K) (tVar 8) (tVar 10))))) (tRet (tC .non)) tNext) (tRet (tTup (tCons (tTup (tCons (tVar 12) (tCons (tOp (rAddX K) (tOp (rAddX K) (tSl (rSlX K) (tVar 4) tNoPart (tPart (tVar 9))) (tVar 6)) (tSl (rSlX K) (tVar 4) (tPart (tOp (rAddX K) (tVar 9) (tC (.int 1)))) tNoPart)) tNil))) (tCons (tVar 9) tNil))))))))))))))))
def rd_L_begin (K : PySem.W.Frag) : TS := (tRet (tTup (tCons (tVar 1) (tCons (tM1 (rJoin K) (tC (.str "")) (tLc (iTup K (tOp (rIx K) (tVar 0) (tC (.int 3)))) (gName 2) tYes (tOp (rIx K) (tVar 2) (tC (.int 2))) [2])) tNil))))
def rd_L_hall (K : PySem.W.Frag) (sp_L_pair : Sp) (sp_L_shut : Sp) (sp_L_taken : Sp) (sp_L_within : Sp) : TS := (tSeq (tPar 3 4 (tCons (tOp (rAddX K) (tC (.int 1)) (tCallD sp_L_taken (tCons (tVar 0) (tCons (tVar 1) tNil)))) (tCons (tOp (rAddX K) (tC (.int 1)) (tCallD sp_L_taken (tCons (tVar 0) (tCons (tVar 1) tNil)))) tNil))) (tSeq (tAsg (tLst tNil) (gName 5)) (tSeq (tFor (iRng1 (tCons (tVar 3) tNil)) (gName 6) (tAsg (tOp (rAddX K) (tOp (rAddX K) (tVar 5) (tLc (iRng1 (tCons (tOp rMulX (tVar 4) (tCB rIntX (tCons (tOp rGtI (tVar 6) (tC (.int 0))) tNil))) tNil)) (gName 14) tYes (tTup (tCons (tVar 6) (tCons (tVar 14) (tCons (tC (.str "-")) tNil)))) [14])) (tLc (iRng2 (tCons (tC (.int 1)) (tCons (tVar 4) tNil))) (gName 14) tYes (tTup (tCons (tVar 6) (tCons (tVar 14) (tCons (tC (.str "|")) tNil)))) [14])) (gName 5))) (tSeq (tPar3 7 8 9 (tCons (tLst tNil) (tCons (tLst tNil) (tCons (tLst tNil) tNil)))) (tSeq (tFor (iRng1 (tCons (tCallD sp_L_taken (tCons (tVar 0) (tCons (tOp (rIx K) (tLst (tCons (tC (.int 1)) (tCons (tC (.int 3)) (tCons (tC (.int 5)) tNil)))) (tCallD sp_L_taken (tCons (tVar 0) (tCons (tC (.int 3)) tNil)))) tNil))) tNil)) (gName 10) (tIfS (tTest (tOp (rNeD K) (tVar 5) (tLst tNil))) (tDrop (tBM K "list" rAppend (tVar 7) (tCons (tBM K "list" rPopAt (tVar 5) (tCons (tCallD sp_L_taken (tCons (tVar 0) (tCons (tCB (rLenX K) (tCons (tVar 5) tNil)) tNil))) tNil)) tNil))) tNext)) (tSeq (tAsg (tLc (iList K (tVar 7)) (gName 13) tYes (tCallD sp_L_shut (tCons (tVar 13) tNil)) [13]) (gName 9)) (tSeq (tFor (iRng1 (tCons (tCallD sp_L_taken (tCons (tVar 0) (tCons (tOp (rAddX K) (tVar 2) (tC (.int 1))) tNil))) tNil)) (gName 10) (tSeq (tAsg (tTup (tCons (tCallD sp_L_taken (tCons (tVar 0) (tCons (tOp (rAddX K) (tVar 3) (tC (.int 1))) tNil))) (tCons (tCallD sp_L_taken (tCons (tVar 0) (tCons (tOp (rAddX K) (tVar 4) (tC (.int 1))) tNil))) (tCons (tOp (rIx K) (tC (.str "ensw")) (tCallD sp_L_taken (tCons (tVar 0) (tCons (tC (.int 4)) tNil)))) tNil)))) (gName 11)) (tSeq (tAsg (tCallD sp_L_pair (tCons (tSl (rSlX K) (tVar 11) tNoPart (tPart (tC (.int 2)))) (tCons (tOp (rIx K) (tVar 11) (tC (.int 2))) tNil))) (gName 12)) (tIfS (tAnd (tB (tCallD sp_L_within (tCons (tTup (tCons (tVar 3) (tCons (tVar 4) tNil))) (tCons (tVar 12) tNil)))) (tTest (tOp (rInX K true) (tVar 12) (tVar 9)))) (tSeq (tDrop (tBM K "list" rAppend (tVar 8) (tCons (tVar 11) tNil))) (tDrop (tBM K "list" rAppend (tVar 9) (tCons (tVar 12) tNil)))) tNext)))) (tRet (tTup (tCons (tVar 3) (tCons (tVar 4) (tCons (tCB (rTupX K) (tCons (tVar 7) tNil)) (tCons (tCB (rTupX K) (tCons (tVar 8) tNil)) tNil)))))))))))))
def rd_L_cells (K : PySem.W.Frag) (sp_L_taken : Sp) : TS := (tSeq (tAsg (tLst tNil) (gName 3)) (tSeq (tFor (iRng1 (tCons (tOp (rAddX K) (tC (.int 1)) (tCallD sp_L_taken (tCons (tVar 0) (tCons (tVar 2) tNil)))) tNil)) (gName 4) (tSeq (tAsg (tTup (tCons (tCallD sp_L_taken (tCons (tVar 0) (tCons (tOp (rIx K) (tVar 1) (tC (.int 0))) tNil))) (tCons (tCallD sp_L_taken (tCons (tVar 0) (tCons (tOp (rIx K) (tVar 1) (tC (.int 1))) tNil))) tNil))) (gName 5)) (tAsg (tOp (rAddX K) (tVar 3) (tOp rMulX (tLst (tCons (tVar 5) tNil)) (tCB rIntX (tCons (tOp (rInX K true) (tVar 5) (tVar 3)) tNil)))) (gName 3)))) (tRet (tCB (rTupX K) (tCons (tVar 3) tNil)))))
def rd_L_steps (K : PySem.W.Frag) (sp_L_step : Sp) : TS := (tSeq (tAsg (tLst tNil) (gName 2)) (tSeq (tFor (iRng1 (tCons (tCB (rLenX K) (tCons (tOp (rIx K) (tVar 1) (tC (.int 0))) tNil)) tNil)) (gName 3) (tFor (iStr (tC (.str "ensw"))) (gName 4) (tSeq (tAsg (tCallD sp_L_step (tCons (tVar 0) (tCons (tVar 1) (tCons (tTup (tCons (tVar 3) (tCons (tVar 4) tNil))) tNil)))) (gName 5)) (tIfS (tTest (tOp rNotN (tVar 5) (tC .non))) (tDrop (tBM K "list" rAppend (tVar 2) (tCons (tTup (tCons (tTup (tCons (tVar 3) (tCons (tVar 4) tNil))) (tCons (tOp (rIx K) (tVar 5) (tC (.int 0))) (tCons (tOp (rIx K) (tVar 5) (tC (.int 1))) tNil)))) tNil))) tNext)))) (tRet (tVar 2))))
def rd_L_alike (K : PySem.W.Frag) (sp_L_alike : Sp) : TS := (tSeq (tIfS (tAnd (tB (tCB (rIsiT K) (tCons (tVar 0) (tCons (tTup (tCons (tC (.ty "tuple")) (tCons (tC (.ty "list")) tNil))) tNil)))) (tB (tCB (rIsiT K) (tCons (tVar 1) (tCons (tTup (tCons (tC (.ty "tuple")) (tCons (tC (.ty "list")) tNil))) tNil))))) (tSeq (tIfS (tOr (tTest (tOp (rNeD K) (tCB (rIsi K) (tCons (tVar 0) (tCons (tC (.ty "tuple")) tNil))) (tCB (rIsi K) (tCons (tVar 1) (tCons (tC (.ty "tuple")) tNil))))) (tTest (tOp (rNeD K) (tCB (rLenX K) (tCons (tVar 0) tNil)) (tCB (rLenX K) (tCons (tVar 1) tNil))))) (tRet (tC (.bl false))) tNext) (tRet (tOp (rEqD K) (tLc (iRng1 (tCons (tCB (rLenX K) (tCons (tVar 0) tNil)) tNil)) (gName 2) (tNot (tB (tCallD sp_L_alike (tCons (tOp (rIx K) (tVar 0) (tVar 2)) (tCons (tOp (rIx K) (tVar 1) (tVar 2)) tNil))))) (tVar 2) [2]) (tLst tNil)))) tNext) (tRet (tAndV (tOp (rEqD K) (tVar 0) (tVar 1)) (tOp (rEqD K) (tCB (rIsi K) (tCons (tVar 0) (tCons (tC (.ty "bool")) tNil))) (tCB (rIsi K) (tCons (tVar 1) (tCons (tC (.ty "bool")) tNil)))))))
end Pd

/-! Sem1 -/
set_option Elab.async false
set_option linter.all false
set_option maxRecDepth 100000
set_option maxHeartbeats 4000000
namespace Pd
open PySem PySem.Spec PyProof.Rows L2 PySem.W

/-! ### data of the program's own kinds -/
abbrev Cell := Int × Int
/-- the signs: four ways, two kinds of edges -/
inductive Sg where
  | e | n | s | w | h | v
  deriving DecidableEq
def Sg.code : Sg → Nat
  | .e => 101
  | .n => 110
  | .s => 115
  | .w => 119
  | .h => 45
  | .v => 124
theorem Sg.code_inj {a b : Sg} (h : a.code = b.code) : a = b := by
  cases a <;> cases b <;> first | rfl | (exact absurd h (by decide))
/-- an edge, a door: row, column, a sign -/
abbrev Edge := Int × Int × Sg
def sg (c : Sg) : PyData := .str ⟨#[c.code]⟩
def cellD (c : Cell) : PyData := .tuple [.int c.1, .int c.2]
def edgeD (e : Edge) : PyData := .tuple [.int e.1, .int e.2.1, sg e.2.2]
structure Hall where
  rows : Int
  cols : Int
  walls : List Edge
  doors : List Edge
def hallD (h : Hall) : PyData := .tuple [.int h.rows, .int h.cols, .tuple (h.walls.map edgeD), .tuple (h.doors.map edgeD)]
def wsS (ws : List Sg) : Str := ⟨(ws.map Sg.code).toArray⟩
structure Stand where
  cells : List Cell
  ways : List Sg
def cellsD (cs : List Cell) : PyData := .tuple (cs.map cellD)
def standD (s : Stand) : PyData := .tuple [cellsD s.cells, .str (wsS s.ways)]
def stepD (k : Int) (w : Sg) : PyData := .tuple [.int k, sg w]
def Way (w : Sg) : Prop := w = .e ∨ w = .n ∨ w = .s ∨ w = .w

/-! ### equality -/
theorem eqv_sg (a b : Sg) : PyData.eqv (sg a) (sg b) = decide (a = b) := by
  cases a <;> cases b <;> (simp only [sg, PyData.eqv]; decide +kernel)
theorem lit_n : PyData.str "n" = sg .n := by simp only [sg]; exact congrArg PyData.str (by decide +kernel)
theorem lit_e : PyData.str "e" = sg .e := by simp only [sg]; exact congrArg PyData.str (by decide +kernel)
theorem lit_s : PyData.str "s" = sg .s := by simp only [sg]; exact congrArg PyData.str (by decide +kernel)
theorem lit_w : PyData.str "w" = sg .w := by simp only [sg]; exact congrArg PyData.str (by decide +kernel)
theorem lit_h : PyData.str "-" = sg .h := by simp only [sg]; exact congrArg PyData.str (by decide +kernel)
theorem lit_v : PyData.str "|" = sg .v := by simp only [sg]; exact congrArg PyData.str (by decide +kernel)
theorem lit_ns : ("ns" : Str) = ⟨#[110, 115]⟩ := by decide +kernel
theorem lit_ensw : ("ensw" : Str) = ⟨#[101, 110, 115, 119]⟩ := by decide +kernel
theorem eqv_int (a b : Int) : PyData.eqv (.int a) (.int b) = decide (a = b) := by
  simp only [PyData.eqv]
  by_cases h : a = b
  · subst h; simp
  · rw [decide_eq_false h]
    simpa using h
theorem eqv_cell (a b : Cell) : PyData.eqv (cellD a) (cellD b) = decide (a = b) := by
  obtain ⟨a1, a2⟩ := a
  obtain ⟨b1, b2⟩ := b
  simp only [cellD, PyData.eqv, PyData.eqvAll, Bool.and_true]
  by_cases h1 : a1 = b1
  · by_cases h2 : a2 = b2
    · subst h1 h2; simp
    · simp [h2]
  · simp [h1]
theorem eqv_edge (a b : Edge) : PyData.eqv (edgeD a) (edgeD b) = decide (a = b) := by
  obtain ⟨a1, a2, a3⟩ := a
  obtain ⟨b1, b2, b3⟩ := b
  have h3 := eqv_sg a3 b3
  simp only [edgeD, PyData.eqv, PyData.eqvAll, Bool.and_true, h3]
  by_cases h1 : a1 = b1
  · by_cases h2 : a2 = b2
    · by_cases h : a3 = b3
      · subst h1 h2 h; simp
      · simp [h]
    · simp [h2]
  · simp [h1]
def pairD (p : Cell × Cell) : PyData := .tuple [cellD p.1, cellD p.2]
theorem eqv_pair (a b : Cell × Cell) : PyData.eqv (pairD a) (pairD b) = decide (a = b) := by
  obtain ⟨a1, a2⟩ := a
  obtain ⟨b1, b2⟩ := b
  have h1 := eqv_cell a1 b1
  have h2 := eqv_cell a2 b2
  simp only [pairD, PyData.eqv, PyData.eqvAll, Bool.and_true, h1, h2]
  by_cases h1 : a1 = b1
  · by_cases h2 : a2 = b2
    · subst h1 h2; simp
    · simp [h2]
  · simp [h1]
theorem any_enc {α : Type} [DecidableEq α] (enc : α → PyData) (h : ∀ a b, PyData.eqv (enc a) (enc b) = decide (a = b)) (xs : List α) (x : α) : ((xs.map enc).any fun z => PyData.eqv z (enc x)) = decide (x ∈ xs) := by
  induction xs with
  | nil => simp
  | cons y ys ih =>
    rw [List.map_cons, List.any_cons, ih, h]
    by_cases e : x = y
    · subst e
      simp
    · have e' : ¬ y = x := fun z => e z.symm
      simp [e, e']
theorem any_cell (xs : List Cell) (x : Cell) : ((xs.map cellD).any fun z => PyData.eqv z (cellD x)) = decide (x ∈ xs) := (any_enc cellD eqv_cell xs x).trans (decide_eq_decide.mpr Iff.rfl)
theorem any_edge (xs : List Edge) (x : Edge) : ((xs.map edgeD).any fun z => PyData.eqv z (edgeD x)) = decide (x ∈ xs) := (any_enc edgeD eqv_edge xs x).trans (decide_eq_decide.mpr Iff.rfl)
theorem any_pair (xs : List (Cell × Cell)) (x : Cell × Cell) : ((xs.map pairD).any fun z => PyData.eqv z (pairD x)) = decide (x ∈ xs) := (any_enc pairD eqv_pair xs x).trans (decide_eq_decide.mpr Iff.rfl)
/-! ### shapes -/
theorem shaped_of {d : PyData} (h : d.canLay0 = true) (hd : d.depth ≤ 64) : SeqAt.shaped d = true := by
  show (d.canLay0 && decide (d.depth ≤ 64)) = true
  rw [h, decide_eq_true hd]
  rfl
theorem lay_int (i : Int) : (PyData.int i).canLay0 = true := by simp [PyData.canLay0]
theorem lay_sg (c : Sg) : (sg c).canLay0 = true := by cases c <;> (simp only [sg, PyData.canLay0]; decide +kernel)
theorem lay_cell (c : Cell) : (cellD c).canLay0 = true := by simp [cellD, PyData.canLay0, PyData.canLayAll0]
theorem lay_edge (c : Edge) : (edgeD c).canLay0 = true := by simp [edgeD, PyData.canLay0, PyData.canLayAll0, lay_sg]
theorem lay_pair (p : Cell × Cell) : (pairD p).canLay0 = true := by simp [pairD, PyData.canLay0, PyData.canLayAll0, lay_cell]
theorem dep_cell (c : Cell) : (cellD c).depth = 1 := by simp [cellD, PyData.depth, PyData.depthAll]
theorem dep_edge (c : Edge) : (edgeD c).depth = 1 := by simp [edgeD, sg, PyData.depth, PyData.depthAll]
theorem dep_pair (p : Cell × Cell) : (pairD p).depth = 2 := by simp [pairD, PyData.depth, PyData.depthAll, dep_cell]
theorem lay_map {α : Type} (enc : α → PyData) (h : ∀ a, (enc a).canLay0 = true) : ∀ xs : List α, PyData.canLayAll0 (xs.map enc) = true
  | [] => by simp [PyData.canLayAll0]
  | x :: xs => by simp [PyData.canLayAll0, h x, lay_map enc h xs]
theorem dep_map {α : Type} (enc : α → PyData) (n : Nat) (h : ∀ a, (enc a).depth ≤ n) : ∀ xs : List α, PyData.depthAll (xs.map enc) ≤ n
  | [] => by simp [PyData.depthAll]
  | x :: xs => by
    have h1 := h x
    have h2 := dep_map enc n h xs
    simp only [List.map_cons, PyData.depthAll]
    omega
theorem sh_int (i : Int) : SeqAt.shaped (.int i) = true := shaped_of (lay_int i) (by simp [PyData.depth])
theorem sh_sg (c : Sg) : SeqAt.shaped (sg c) = true := shaped_of (lay_sg c) (by simp [sg, PyData.depth])
theorem sh_str (x : Str) (hx : PyData.strOk x = true) : SeqAt.shaped (.str x) = true := shaped_of (by simpa [PyData.canLay0] using hx) (by simp [PyData.depth])
theorem sh_cell (c : Cell) : SeqAt.shaped (cellD c) = true := shaped_of (lay_cell c) (by rw [dep_cell]; decide)
theorem sh_edge (c : Edge) : SeqAt.shaped (edgeD c) = true := shaped_of (lay_edge c) (by rw [dep_edge]; decide)
theorem sh_pair (c : Cell × Cell) : SeqAt.shaped (pairD c) = true := shaped_of (lay_pair c) (by rw [dep_pair]; decide)
theorem sh_tup {α : Type} (enc : α → PyData) (n : Nat) (h : ∀ a, (enc a).canLay0 = true) (hd : ∀ a, (enc a).depth ≤ n) (hn : n < 64) (xs : List α) : SeqAt.shaped (.tuple (xs.map enc)) = true :=
  shaped_of (by simp only [PyData.canLay0]; exact lay_map enc h xs) (by have := dep_map enc n hd xs; simp only [PyData.depth]; omega)
theorem sh_lst {α : Type} (enc : α → PyData) (n : Nat) (h : ∀ a, (enc a).canLay0 = true) (hd : ∀ a, (enc a).depth ≤ n) (hn : n < 64) (xs : List α) : SeqAt.shaped (.list (xs.map enc)) = true :=
  shaped_of (by simp only [PyData.canLay0]; exact lay_map enc h xs) (by have := dep_map enc n hd xs; simp only [PyData.depth]; omega)
theorem sh_cells (xs : List Cell) : SeqAt.shaped (.tuple (xs.map cellD)) = true := sh_tup cellD 1 lay_cell (fun a => Nat.le_of_eq (dep_cell a)) (by decide) xs
theorem sh_cellsL (xs : List Cell) : SeqAt.shaped (.list (xs.map cellD)) = true := sh_lst cellD 1 lay_cell (fun a => Nat.le_of_eq (dep_cell a)) (by decide) xs
theorem sh_edges (xs : List Edge) : SeqAt.shaped (.tuple (xs.map edgeD)) = true := sh_tup edgeD 1 lay_edge (fun a => Nat.le_of_eq (dep_edge a)) (by decide) xs
theorem sh_edgesL (xs : List Edge) : SeqAt.shaped (.list (xs.map edgeD)) = true := sh_lst edgeD 1 lay_edge (fun a => Nat.le_of_eq (dep_edge a)) (by decide) xs
theorem sh_pairsL (xs : List (Cell × Cell)) : SeqAt.shaped (.list (xs.map pairD)) = true := sh_lst pairD 2 lay_pair (fun a => Nat.le_of_eq (dep_pair a)) (by decide) xs
/-! ### isinstance -/
theorem kit_tt : kitB "tuple" "tuple" = some true := by decide +kernel
theorem kit_ii : kitB "int" "int" = some true := by decide +kernel
theorem kit_ib : kitB "int" "bool" = some false := by decide +kernel
theorem kit_it : kitB "int" "tuple" = some false := by decide +kernel
theorem kit_il : kitB "int" "list" = some false := by decide +kernel
theorem kit_st : kitB "str" "tuple" = some false := by decide +kernel
theorem kit_sl : kitB "str" "list" = some false := by decide +kernel
theorem kit_sb : kitB "str" "bool" = some false := by decide +kernel
theorem kit_nt : kitB "NoneType" "tuple" = some false := by decide +kernel
theorem kit_nl : kitB "NoneType" "list" = some false := by decide +kernel
theorem kit_nb : kitB "NoneType" "bool" = some false := by decide +kernel
theorem kit_lt : kitB "list" "tuple" = some false := by decide +kernel
theorem kit_ll : kitB "list" "list" = some true := by decide +kernel
theorem kit_tl : kitB "tuple" "list" = some false := by decide +kernel

/-! ### what the defs tell -/
def inH (h : Hall) (c : Cell) : Bool := decide (0 ≤ c.1 ∧ c.1 < h.rows ∧ 0 ≤ c.2 ∧ c.2 < h.cols)
def isEdge (h : Hall) (e : Edge) : Bool := inH h (e.1, e.2.1) && (if e.2.2 = .h then decide (0 < e.1) else decide (e.2.2 = .v) && decide (0 < e.2.1))
def edgeFrom (r c : Int) (w : Sg) : Edge := if w = .n then (r - 1, c, .v) else if w = .e then (r, c, .h) else if w = .s then (r, c, .v) else (r, c - 1, .h)
def crossed (c : Cell) (w : Sg) : Edge := if w = .n then (c.1, c.2, .h) else if w = .e then (c.1, c.2 + 1, .v) else if w = .s then (c.1 + 1, c.2, .h) else (c.1, c.2, .v)
def nextC (c : Cell) (w : Sg) : Cell := if w = .n then (c.1 - 1, c.2) else if w = .e then (c.1, c.2 + 1) else if w = .s then (c.1 + 1, c.2) else (c.1, c.2 - 1)
inductive R_is_number : List PyData → PyData → Prop | mk (i : Int) : R_is_number [.int i] (.bool true)
inductive R_is_side : List PyData → PyData → Prop | mk (i : Int) : R_is_side [.int i] (.bool (decide (1 ≤ i ∧ i ≤ 5)))
inductive R_is_cell : List PyData → PyData → Prop | mk (h : Hall) (c : Cell) : R_is_cell [hallD h, cellD c] (.bool (inH h c))
inductive R_is_edge : List PyData → PyData → Prop | mk (h : Hall) (e : Edge) : R_is_edge [hallD h, edgeD e] (.bool (isEdge h e))
inductive R_edge_from : List PyData → PyData → Prop | mk (r c : Int) (w : Sg) : R_edge_from [.int r, .int c, sg w] (edgeD (edgeFrom r c w))
inductive R_edge_crossed : List PyData → PyData → Prop | mk (c : Cell) (w : Sg) : R_edge_crossed [cellD c, sg w] (edgeD (crossed c w))
inductive R_next_cell : List PyData → PyData → Prop | mk (c : Cell) (w : Sg) : R_next_cell [cellD c, sg w] (cellD (nextC c w))

local macro_rules | `(tactic| walk_at "ed") => `(tactic| repeat' (first
  | with_reducible (first
    | exact ed_int | exact ed_str | exact ed_bl | exact ed_non
    | exact ea_nil | refine' ea_cons ?_ ?_
    | refine' ed_isi ?_ ?_ | refine' ed_isi2 ?_ ?_ ?_
    | refine' ed_andV ?_ (fun _ => ?_) | refine' ed_orV ?_ (fun _ => ?_) | refine' ed_notV ?_
    | refine' ed_chain ?_ ?_ ?_ (fun _ => ⟨?_, ?_⟩)
    | refine' ed_tup ?_ ?_ | refine' ed_lst ?_ ?_
    | refine' et_not ?_ | refine' et_and ?_ (fun _ => ?_) | refine' et_or ?_ (fun _ => ?_) | exact et_yes
    | refine' et_test ?_ | refine' et_B ?_
    | refine' ed_op ?_ ?_ ?_
    | refine' ed_cb ?_ ?_)
  | exact ed_var rfl
  | exact kit_tt | exact kit_ii | exact kit_ib | exact kit_ll | exact kit_lt | exact kit_tl
  | exact r2_addI | exact r2_subI | exact r2_lt | exact r2_le | exact r2_gt | exact r2_ge | exact r2_isN | exact r2_notN
  | exact rc_lenT | exact rc_lenL | exact rc_intB | exact rc_tupL
  | with_reducible (first | refine' r2_eq ?_ ?_ | refine' r2_ne ?_ ?_)
  | exact sh_int _ | exact sh_sg _ | exact sh_cell _ | exact sh_edge _ | exact sh_pair _ | exact sh_str _ (by decide +kernel)
  | exact r2_ixT rfl | exact r2_ixL rfl
  | (show List.length _ ≤ 100000; simp; done)))
section
variable {K : PySem.W.Frag}
theorem rp_is_number {ds : List PyData} {d : PyData} (h : R_is_number ds d) : RD (rd_is_number K) (ds.map some ++ List.replicate (1 - ds.length) none) d := by
  obtain ⟨i⟩ := h
  exact rd_ret (ED.is (by walk_at "ed") (by rfl))
theorem rp_is_side {ds : List PyData} {d : PyData} (h : R_is_side ds d) : RD (rd_is_side K (spR R_is_number)) (ds.map some ++ List.replicate (1 - ds.length) none) d := by
  obtain ⟨i⟩ := h
  refine rd_ret (ED.is (ed_andV (ed_call (by walk_at "ed") (.mk i)) fun _ => by walk_at "ed") ?_)
  by_cases h1 : 1 ≤ i
  · by_cases h2 : i ≤ 5
    · simp [h1, h2]
    · simp [h1, h2]
  · simp [h1]
theorem rp_is_cell {ds : List PyData} {d : PyData} (h : R_is_cell ds d) : RD (rd_is_cell K (spR R_is_number)) (ds.map some ++ List.replicate (4 - ds.length) none) d := by
  obtain ⟨h, c⟩ := h
  refine rd_ifS (b := false) (ET.is (by walk_at "ed") (by simp [eqv_int])) (fun z => nomatch z) (fun _ => ?_)
  refine rd_seq (sd_asg (d := cellD c) (by walk_at "ed") (gd_tup (vs := [2, 3]) (gds_cons (gd_name (by simp)) (gds_cons (gd_name (by simp)) gds_nil)) rfl)) ?_
  refine rd_ifS (b := false) (ET.is (et_or (et_not (et_B (ed_call (by walk_at "ed") (.mk c.1)))) fun _ => et_not (et_B (ed_call (by walk_at "ed") (.mk c.2)))) rfl) (fun z => nomatch z) (fun _ => ?_)
  refine rd_ret (ED.is (by walk_at "ed") ?_)
  by_cases h1 : 0 ≤ c.1
  · by_cases h2 : c.1 < h.rows
    · by_cases h3 : 0 ≤ c.2
      · by_cases h4 : c.2 < h.cols
        · simp [inH, h1, h2, h3, h4]
        · simp [inH, h1, h2, h3, h4]
      · simp [inH, h1, h2, h3]
    · simp [inH, h1, h2]
  · simp [inH, h1]
end
end Pd

/-! Sem2 -/
set_option Elab.async false
set_option linter.all false
set_option maxRecDepth 100000
set_option maxHeartbeats 4000000
namespace Pd
open PySem PySem.Spec PyProof.Rows L2 PySem.W
local macro_rules | `(tactic| walk_at "ed") => `(tactic| repeat' (first
  | with_reducible (first
    | exact ed_int | exact ed_str | exact ed_bl | exact ed_non
    | exact ea_nil | refine' ea_cons ?_ ?_
    | refine' ed_isi ?_ ?_ | refine' ed_isi2 ?_ ?_ ?_
    | refine' ed_andV ?_ (fun _ => ?_) | refine' ed_orV ?_ (fun _ => ?_) | refine' ed_notV ?_
    | refine' ed_chain ?_ ?_ ?_ (fun _ => ⟨?_, ?_⟩)
    | refine' ed_tup ?_ ?_ | refine' ed_lst ?_ ?_
    | refine' et_not ?_ | refine' et_and ?_ (fun _ => ?_) | refine' et_or ?_ (fun _ => ?_) | exact et_yes
    | refine' et_test ?_ | refine' et_B ?_
    | refine' ed_op ?_ ?_ ?_
    | refine' ed_cb ?_ ?_)
  | exact ed_var rfl
  | exact kit_tt | exact kit_ii | exact kit_ib | exact kit_ll | exact kit_lt | exact kit_tl
  | exact r2_addI | exact r2_subI | exact r2_lt | exact r2_le | exact r2_gt | exact r2_ge | exact r2_isN | exact r2_notN
  | exact rc_lenT | exact rc_lenL | exact rc_intB | exact rc_tupL
  | with_reducible (first | refine' r2_eq ?_ ?_ | refine' r2_ne ?_ ?_)
  | exact sh_int _ | exact sh_sg _ | exact sh_cell _ | exact sh_edge _ | exact sh_pair _ | exact sh_str _ (by decide +kernel)
  | exact r2_ixT rfl | exact r2_ixL rfl
  | refine' ed_tup ?_ ?_
  | (show List.length _ ≤ 100000; simp; done)))
section
variable {K : PySem.W.Frag}
theorem rp_is_edge {ds : List PyData} {d : PyData} (h : R_is_edge ds d) : RD (rd_is_edge K (spR R_is_cell)) (ds.map some ++ List.replicate (5 - ds.length) none) d := by
  obtain ⟨h, e⟩ := h
  refine rd_ifS (b := false) (ET.is (by walk_at "ed") (by simp [eqv_int])) (fun z => nomatch z) (fun _ => ?_)
  refine rd_seq (sd_asg (d := edgeD e) (by walk_at "ed") (gd_tup (vs := [2, 3, 4]) (gds_cons (gd_name (by simp)) (gds_cons (gd_name (by simp)) (gds_cons (gd_name (by simp)) gds_nil))) rfl)) ?_
  refine rd_ifS (b := !inH h (e.1, e.2.1)) (et_not (et_B (ed_call (by walk_at "ed") (.mk h (e.1, e.2.1))))) (fun hb => ?_) (fun hb => ?_)
  · refine rd_ret (ED.is ed_bl ?_)
    have : inH h (e.1, e.2.1) = false := by simpa using hb
    simp [isEdge, this]
  · have hi : inH h (e.1, e.2.1) = true := by simpa using hb
    refine rd_ifS (b := decide (e.2.2 = .h)) (ET.is (by walk_at "ed") (by rw [lit_h, eqv_sg])) (fun hc => ?_) (fun hc => ?_)
    · refine rd_ret (ED.is (by walk_at "ed") ?_)
      have := of_decide_eq_true hc
      simp [isEdge, hi, this]
    · refine rd_ret (ED.is (by walk_at "ed") ?_)
      have := of_decide_eq_false hc
      rw [lit_v, eqv_sg]
      simp [isEdge, hi, this]
theorem rp_edge_from {ds : List PyData} {d : PyData} (h : R_edge_from ds d) : RD (rd_edge_from K) (ds.map some ++ List.replicate (3 - ds.length) none) d := by
  obtain ⟨r, c, w⟩ := h
  refine rd_ifS (b := decide (w = .n)) (ET.is (by walk_at "ed") (by rw [lit_n, eqv_sg])) (fun hb => ?_) (fun hb => ?_)
  · rw [of_decide_eq_true hb]
    exact rd_ret (ED.is (by walk_at "ed") (by rw [lit_v]; rfl))
  · have h1 := of_decide_eq_false hb
    refine rd_ifS (b := decide (w = .e)) (ET.is (by walk_at "ed") (by rw [lit_e, eqv_sg])) (fun hb => ?_) (fun hb => ?_)
    · rw [of_decide_eq_true hb]
      exact rd_ret (ED.is (by walk_at "ed") (by rw [lit_h]; rfl))
    · have h2 := of_decide_eq_false hb
      refine rd_ifS (b := decide (w = .s)) (ET.is (by walk_at "ed") (by rw [lit_s, eqv_sg])) (fun hb => ?_) (fun hb => ?_)
      · rw [of_decide_eq_true hb]
        exact rd_ret (ED.is (by walk_at "ed") (by rw [lit_v]; rfl))
      · have h3 := of_decide_eq_false hb
        exact rd_ret (ED.is (by walk_at "ed") (by rw [lit_h]; simp [edgeFrom, h1, h2, h3, edgeD]))
theorem rp_edge_crossed {ds : List PyData} {d : PyData} (h : R_edge_crossed ds d) : RD (rd_edge_crossed K) (ds.map some ++ List.replicate (4 - ds.length) none) d := by
  obtain ⟨c, w⟩ := h
  refine rd_seq (sd_asg (d := cellD c) (by walk_at "ed") (gd_tup (vs := [2, 3]) (gds_cons (gd_name (by simp)) (gds_cons (gd_name (by simp)) gds_nil)) rfl)) ?_
  refine rd_ifS (b := decide (w = .n)) (ET.is (by walk_at "ed") (by rw [lit_n, eqv_sg])) (fun hb => ?_) (fun hb => ?_)
  · rw [of_decide_eq_true hb]
    exact rd_ret (ED.is (by walk_at "ed") (by rw [lit_h]; rfl))
  · have h1 := of_decide_eq_false hb
    refine rd_ifS (b := decide (w = .e)) (ET.is (by walk_at "ed") (by rw [lit_e, eqv_sg])) (fun hb => ?_) (fun hb => ?_)
    · rw [of_decide_eq_true hb]
      exact rd_ret (ED.is (by walk_at "ed") (by rw [lit_v]; rfl))
    · have h2 := of_decide_eq_false hb
      refine rd_ifS (b := decide (w = .s)) (ET.is (by walk_at "ed") (by rw [lit_s, eqv_sg])) (fun hb => ?_) (fun hb => ?_)
      · rw [of_decide_eq_true hb]
        exact rd_ret (ED.is (by walk_at "ed") (by rw [lit_h]; rfl))
      · have h3 := of_decide_eq_false hb
        exact rd_ret (ED.is (by walk_at "ed") (by rw [lit_v]; simp [crossed, h1, h2, h3, edgeD]))
theorem rp_next_cell {ds : List PyData} {d : PyData} (h : R_next_cell ds d) : RD (rd_next_cell K) (ds.map some ++ List.replicate (4 - ds.length) none) d := by
  obtain ⟨c, w⟩ := h
  refine rd_seq (sd_asg (d := cellD c) (by walk_at "ed") (gd_tup (vs := [2, 3]) (gds_cons (gd_name (by simp)) (gds_cons (gd_name (by simp)) gds_nil)) rfl)) ?_
  refine rd_ifS (b := decide (w = .n)) (ET.is (by walk_at "ed") (by rw [lit_n, eqv_sg])) (fun hb => ?_) (fun hb => ?_)
  · rw [of_decide_eq_true hb]
    exact rd_ret (ED.is (by walk_at "ed") (by rfl))
  · have h1 := of_decide_eq_false hb
    refine rd_ifS (b := decide (w = .e)) (ET.is (by walk_at "ed") (by rw [lit_e, eqv_sg])) (fun hb => ?_) (fun hb => ?_)
    · rw [of_decide_eq_true hb]
      exact rd_ret (ED.is (by walk_at "ed") (by rfl))
    · have h2 := of_decide_eq_false hb
      refine rd_ifS (b := decide (w = .s)) (ET.is (by walk_at "ed") (by rw [lit_s, eqv_sg])) (fun hb => ?_) (fun hb => ?_)
      · rw [of_decide_eq_true hb]
        exact rd_ret (ED.is (by walk_at "ed") (by rfl))
      · have h3 := of_decide_eq_false hb
        exact rd_ret (ED.is (by walk_at "ed") (by simp [nextC, h1, h2, h3, cellD]))
/-! ### doors on their edges, the first standing -/
inductive R_door_edge : List PyData → PyData → Prop | mk (e : Edge) (h : Way e.2.2) : R_door_edge [edgeD e] (edgeD (edgeFrom e.1 e.2.1 e.2.2))
theorem in_ways {neg : Bool} (w : Sg) (h : Way w) : (if neg then !inV (.str ⟨#[w.code]⟩) [.str "e", .str "n", .str "s", .str "w"] else inV (.str ⟨#[w.code]⟩) [.str "e", .str "n", .str "s", .str "w"]) = !neg := by
  have e : inV (.str ⟨#[w.code]⟩) [.str "e", .str "n", .str "s", .str "w"] = true := by
    rcases h with rfl | rfl | rfl | rfl <;> decide +kernel
  rw [e]
  cases neg <;> rfl
theorem ed_inWays {ρ : Rho} {te : TE} {neg : Bool} {aW : Addr} {w : Sg} (hT : ∀ H : Hp, SqT K H aW [.str "e", .str "n", .str "s", .str "w"]) (h : ED te ρ (sg w)) (hw : Way w) : ED (tOp (rInX K neg) te (tC (.ref aW))) ρ (.bool (!neg)) :=
  ED.is (ed_inK h hT (by decide)) (congrArg PyData.bool (in_ways w hw))
theorem rp_door_edge {aW : Addr} (hT : ∀ H : Hp, SqT K H aW [.str "e", .str "n", .str "s", .str "w"]) {ds : List PyData} {d : PyData} (h : R_door_edge ds d) :
    RD (rd_door_edge K aW (spR R_edge_from) (spR R_is_number)) (ds.map some ++ List.replicate (4 - ds.length) none) d := by
  obtain ⟨e, hw⟩ := h
  refine rd_ifS (b := false) (ET.is (by walk_at "ed") (by simp [eqv_int])) (fun z => nomatch z) (fun _ => ?_)
  refine rd_seq (sd_asg (d := edgeD e) (by walk_at "ed") (gd_tup (vs := [1, 2, 3]) (gds_cons (gd_name (by simp)) (gds_cons (gd_name (by simp)) (gds_cons (gd_name (by simp)) gds_nil))) rfl)) ?_
  refine rd_ifS (b := false) (ET.is (et_or (et_not (et_B (ed_call (by walk_at "ed") (.mk e.1)))) fun _ => et_or (et_not (et_B (ed_call (by walk_at "ed") (.mk e.2.1)))) fun _ => et_test (ed_inWays hT (w := e.2.2) (by walk_at "ed") hw)) rfl) (fun z => nomatch z) (fun _ => ?_)
  exact rd_ret (ed_call (by walk_at "ed") (.mk e.1 e.2.1 e.2.2))
theorem wsS_cons (w : Sg) (ws : List Sg) : (⟨#[w.code]⟩ : Str) ++ wsS ws = wsS (w :: ws) := by
  show (⟨#[w.code] ++ (ws.map Sg.code).toArray⟩ : Str) = ⟨((w :: ws).map Sg.code).toArray⟩
  simp
theorem wsS_append (a b : List Sg) : wsS a ++ wsS b = wsS (a ++ b) := by
  show (⟨(a.map Sg.code).toArray ++ (b.map Sg.code).toArray⟩ : Str) = ⟨((a ++ b).map Sg.code).toArray⟩
  simp
theorem empty_cat (x : Str) : ("" : Str) ++ x = x := by
  have e : ("" : Str) = ⟨#[]⟩ := by decide +kernel
  rw [e]
  show (⟨#[] ++ x.cps⟩ : Str) = x
  simp
theorem join_charsL : ∀ ws : List Sg, Str.join ("" : Str) (ws.map fun w => (⟨#[w.code]⟩ : Str)) = wsS ws
  | [] => rfl
  | [w] => rfl
  | w :: x :: ws => by
    have ih := join_charsL (x :: ws)
    show (⟨#[w.code]⟩ : Str) ++ ("" : Str) ++ Str.join ("" : Str) ((x :: ws).map fun w => (⟨#[w.code]⟩ : Str)) = _
    rw [ih, ← wsS_cons w (x :: ws)]
    have e : (⟨#[w.code]⟩ : Str) ++ ("" : Str) = ⟨#[w.code]⟩ := by
      have e : ("" : Str) = ⟨#[]⟩ := by decide +kernel
      rw [e]
      show (⟨#[w.code] ++ #[]⟩ : Str) = _
      simp
    rw [e]
theorem join_chars (ws : List Sg) : Txt.join ("" : Str) (ws.map fun w => (⟨#[w.code]⟩ : Str)) = wsS ws := by
  exact (TL.join_eq _ _).trans (join_charsL ws)
inductive R_first_standing : List PyData → PyData → Prop | mk (h : Hall) (cs : List Cell) (hd : h.doors.length ≤ 100) : R_first_standing [hallD h, cellsD cs] (standD ⟨cs, h.doors.map fun e => e.2.2⟩)
theorem sum_ones : ∀ ws : List Sg, ((ws.map fun w => (⟨#[w.code]⟩ : Str)).map (·.length)).sum = ws.length
  | [] => rfl
  | w :: ws => by
    rw [List.map_cons, List.map_cons, List.sum_cons, sum_ones ws, List.length_cons]
    show 1 + ws.length = ws.length + 1
    omega
theorem ed_doorWays {ρ : Rho} {te : TE} {i : Nat} {h : Hall} (hd : h.doors.length ≤ 100) (hh : ED te ρ (.tuple (h.doors.map edgeD))) (hi : i < ρ.length) :
    ED (tM1 (rJoin K) (tC (.str "")) (tLc (iTup K te) (gName i) tYes (tOp (rIx K) (tVar i) (tC (.int 2))) [i])) ρ (.str (wsS (h.doors.map fun e => e.2.2))) := by
  have h1 : ED (tLc (iTup K te) (gName i) tYes (tOp (rIx K) (tVar i) (tC (.int 2))) [i]) ρ (.list (((h.doors.map fun e => e.2.2).map fun w => (⟨#[w.code]⟩ : Str)).map PyData.str)) := by
    refine ED.is (ed_lcM h.doors edgeD (fun e => sg e.2.2) (ie_tup hh) (by omega) fun e _ => ⟨_, gd_name (by simp), ed_op (ed_var (List.getElem?_set_self (by simp [wipeR, hi]))) ed_int (r2_ixT rfl)⟩) ?_
    rw [List.map_map, List.map_map]
    rfl
  have h2 := ed_join (K := K) (a := "") h1 (by rw [sum_ones, List.length_map, List.length_map]; show h.doors.length + h.doors.length * 0 ≤ _; omega)
  rw [join_chars] at h2
  exact h2
theorem rp_first_standing {ds : List PyData} {d : PyData} (h : R_first_standing ds d) : RD (rd_first_standing K) (ds.map some ++ List.replicate (3 - ds.length) none) d := by
  obtain ⟨h, cs, hd⟩ := h
  refine rd_ret (ED.is (ed_tup (ea_cons (ed_var rfl) (ea_cons (ed_doorWays (h := h) hd (by walk_at "ed") (by simp)) ea_nil)) (by simp)) rfl)
theorem rp_L_begin {ds : List PyData} {d : PyData} (h : R_first_standing ds d) : RD (rd_L_begin K) (ds.map some ++ List.replicate (3 - ds.length) none) d := by
  obtain ⟨h, cs, hd⟩ := h
  refine rd_ret (ED.is (ed_tup (ea_cons (ed_var rfl) (ea_cons (ed_doorWays (h := h) hd (by walk_at "ed") (by simp)) ea_nil)) (by simp)) rfl)
end
end Pd

/-! Sem3 -/
set_option Elab.async false
set_option linter.all false
set_option maxRecDepth 100000
set_option maxHeartbeats 4000000
namespace Pd
open PySem PySem.Spec PyProof.Rows L2 PySem.W
local macro_rules | `(tactic| walk_at "ed") => `(tactic| repeat' (first
  | with_reducible (first
    | exact ed_int | exact ed_str | exact ed_bl | exact ed_non
    | exact ea_nil | refine' ea_cons ?_ ?_
    | refine' ed_isi ?_ ?_ | refine' ed_isi2 ?_ ?_ ?_
    | refine' ed_andV ?_ (fun _ => ?_) | refine' ed_orV ?_ (fun _ => ?_) | refine' ed_notV ?_
    | refine' ed_chain ?_ ?_ ?_ (fun _ => ⟨?_, ?_⟩)
    | refine' ed_tup ?_ ?_ | refine' ed_lst ?_ ?_
    | refine' et_not ?_ | refine' et_and ?_ (fun _ => ?_) | refine' et_or ?_ (fun _ => ?_) | exact et_yes
    | refine' et_test ?_ | refine' et_B ?_
    | refine' ed_op ?_ ?_ ?_
    | refine' ed_cb ?_ ?_)
  | exact ed_var rfl
  | exact kit_tt | exact kit_ii | exact kit_ib | exact kit_ll | exact kit_lt | exact kit_tl
  | exact r2_addI | exact r2_subI | exact r2_lt | exact r2_le | exact r2_gt | exact r2_ge | exact r2_isN | exact r2_notN
  | exact rc_lenT | exact rc_lenL | exact rc_intB | exact rc_tupL
  | with_reducible (first | refine' r2_eq ?_ ?_ | refine' r2_ne ?_ ?_)
  | exact sh_int _ | exact sh_sg _ | exact sh_cell _ | exact sh_edge _ | exact sh_pair _ | exact sh_str _ (by decide +kernel)
  | exact r2_ixT rfl | exact r2_ixL rfl
  | refine' ed_tup ?_ ?_
  | (show List.length _ ≤ 100000; simp; done)))
section
variable {K : PySem.W.Frag}
/-! ### doors' edges, a swing, a step -/
def doorEdges (ds : List Edge) (ws : List Sg) : List Edge := List.zipWith (fun d w => edgeFrom d.1 d.2.1 w) ds ws
inductive R_door_edges : List PyData → PyData → Prop | mk (h : Hall) (ws : List Sg) (hd : h.doors.length ≤ 100) : R_door_edges [hallD h, .str (wsS ws)] (.list ((doorEdges h.doors ws).map edgeD))
theorem rp_door_edges {ds : List PyData} {d : PyData} (h : R_door_edges ds d) : RD (rd_door_edges K (spR R_edge_from)) (ds.map some ++ List.replicate (4 - ds.length) none) d := by
  obtain ⟨h, ws, hd⟩ := h
  have hi : IE (iZipTS K (tCons (tOp (rIx K) (tVar 0) (tC (.int 3))) (tCons (tVar 1) tNil))) [some (hallD h), some (.str (wsS ws)), none, none] ((List.zip h.doors ws).map fun p => .tuple [edgeD p.1, sg p.2]) := by
    have h1 := ie_zipTS (K := K) (ρ := [some (hallD h), some (.str (wsS ws)), none, none]) (ta := tCons (tOp (rIx K) (tVar 0) (tC (.int 3))) (tCons (tVar 1) tNil)) (ds := h.doors.map edgeD) (x := wsS ws) (by walk_at "ed")
    have e : List.zipWith (fun d c => PyData.tuple [d, .str ⟨#[c]⟩]) (h.doors.map edgeD) (wsS ws).cps.toList = (List.zip h.doors ws).map fun p => .tuple [edgeD p.1, sg p.2] := by
      show List.zipWith _ (h.doors.map edgeD) ((ws.map Sg.code).toArray.toList) = _
      rw [List.toList_toArray, List.zipWith_map, List.zip, List.map_zipWith]
      rfl
    rw [e] at h1
    exact h1
  refine rd_ret (ED.is (ed_lcM (List.zip h.doors ws) (fun p => .tuple [edgeD p.1, sg p.2]) (fun p => edgeD (edgeFrom p.1.1 p.1.2.1 p.2)) hi (by rw [List.length_zip]; omega) fun p _ => ⟨_, gd_tup (gds_cons (gd_name (by simp)) (gds_cons (gd_name (by simp)) gds_nil)) rfl, ed_call (by walk_at "ed") (.mk p.1.1 p.1.2.1 p.2)⟩) ?_)
  show PyData.list _ = PyData.list _
  congr 1
  simp only [doorEdges, List.zip, List.map_zipWith]
def swung (h : Hall) (ws : List Sg) (d : Nat) (w : Sg) : Option (List Sg) :=
  match h.doors[d]? with
  | none => none
  | some e => if isEdge h (edgeFrom e.1 e.2.1 w) = false ∨ edgeFrom e.1 e.2.1 w ∈ h.walls ∨ edgeFrom e.1 e.2.1 w ∈ doorEdges h.doors ws then none else some (ws.set d w)
def optWs : Option (List Sg) → PyData
  | none => .none
  | some ws => .str (wsS ws)
inductive R_swung_ways : List PyData → PyData → Prop
  | mk (h : Hall) (ws : List Sg) (d : Nat) (w : Sg) (hd : h.doors.length ≤ 100) (hw : ws.length = h.doors.length) (hl : d < h.doors.length) : R_swung_ways [hallD h, .str (wsS ws), .int d, sg w] (optWs (swung h ws d w))
theorem len_wsS (ws : List Sg) : (wsS ws).length = ws.length := by
  show ((ws.map Sg.code).toArray).size = ws.length
  simp
theorem cut_ways (ws : List Sg) (d : Nat) (w : Sg) (hl : d < ws.length) : cutS (wsS ws) none (some (d : Int)) ++ (⟨#[w.code]⟩ : Str) ++ cutS (wsS ws) (some ((d : Int) + 1)) none = wsS (ws.set d w) := by
  have e1 : cutS (wsS ws) none (some (d : Int)) = wsS (ws.take d) := by
    unfold cutS
    rw [len_wsS, HT.sIx_none, HT.sIx_nat]
    show (⟨(((ws.map Sg.code).toArray.toList.drop 0).take (min d ws.length - 0)).toArray⟩ : Str) = ⟨((ws.take d).map Sg.code).toArray⟩
    rw [List.toList_toArray, List.drop_zero, Nat.min_eq_left (by omega), Nat.sub_zero, List.map_take]
  have e2 : cutS (wsS ws) (some ((d : Int) + 1)) none = wsS (ws.drop (d + 1)) := by
    unfold cutS
    have e : ((d : Int) + 1) = ((d + 1 : Nat) : Int) := by omega
    rw [len_wsS, e, HT.sIx_nat, HT.sIx_none]
    show (⟨(((ws.map Sg.code).toArray.toList.drop (min (d + 1) ws.length)).take (ws.length - min (d + 1) ws.length)).toArray⟩ : Str) = ⟨((ws.drop (d + 1)).map Sg.code).toArray⟩
    rw [List.toList_toArray, Nat.min_eq_left (by omega), List.map_drop, List.take_of_length_le (by simp)]
  rw [e1, e2, show (⟨#[w.code]⟩ : Str) = wsS [w] from rfl, wsS_append, wsS_append]
  congr 1
  rw [List.set_eq_take_append_cons_drop, if_pos hl]
  simp
theorem rp_swung_ways {ds : List PyData} {d : PyData} (h : R_swung_ways ds d) : RD (rd_swung_ways K (spR R_door_edges) (spR R_edge_from) (spR R_is_edge)) (ds.map some ++ List.replicate (8 - ds.length) none) d := by
  obtain ⟨h, ws, d, w, hd, hw, hl⟩ := h
  have he : h.doors[d]? = some h.doors[d] := List.getElem?_eq_getElem hl
  generalize h.doors[d] = e at he
  have hat : atI (h.doors.map edgeD) (d : Int) = some (edgeD e) := atI_nat (by rw [List.getElem?_map, he]; rfl)
  refine rd_seq (sd_asg (d := edgeD e) (ed_op (by walk_at "ed") (ed_var rfl) (r2_ixT hat)) (gd_tup (vs := [4, 5, 6]) (gds_cons (gd_name (by simp)) (gds_cons (gd_name (by simp)) (gds_cons (gd_name (by simp)) gds_nil))) rfl)) ?_
  refine rd_seq (sd_set (ed_call (by walk_at "ed") (.mk e.1 e.2.1 w))) ?_
  have h1 : ET (tOr (tNot (tB (tCallD (spR R_is_edge) (tCons (tVar 0) (tCons (tVar 7) tNil))))) (tOr (tTest (tOp (rInX K false) (tVar 7) (tOp (rIx K) (tVar 0) (tC (.int 2))))) (tTest (tOp (rInX K false) (tVar 7) (tCallD (spR R_door_edges) (tCons (tVar 0) (tCons (tVar 1) tNil)))))))
      [some (hallD h), some (.str (wsS ws)), some (.int d), some (sg w), some (.int e.1), some (.int e.2.1), some (sg e.2.2), some (edgeD (edgeFrom e.1 e.2.1 w))]
      (!isEdge h (edgeFrom e.1 e.2.1 w) || (decide (edgeFrom e.1 e.2.1 w ∈ h.walls) || decide (edgeFrom e.1 e.2.1 w ∈ doorEdges h.doors ws))) := by
    refine et_or (et_not (et_B (ed_call (by walk_at "ed") (.mk h _)))) fun _ => et_or (et_test ?_) fun _ => et_test ?_
    · exact ED.is (ed_op (ed_var rfl) (ed_op (ed_var rfl) ed_int (r2_ixT rfl)) (r2_inT (sh_edge _) (sh_edges _))) (congrArg PyData.bool (any_edge _ _))
    · exact ED.is (ed_op (ed_var rfl) (ed_call (by walk_at "ed") (.mk h ws hd)) (r2_inL (sh_edge _) (sh_edgesL _))) (congrArg PyData.bool (any_edge _ _))
  refine rd_ifS h1 (fun hb => ?_) (fun hb => ?_)
  · refine rd_ret (ED.is ed_non ?_)
    have hc : isEdge h (edgeFrom e.1 e.2.1 w) = false ∨ edgeFrom e.1 e.2.1 w ∈ h.walls ∨ edgeFrom e.1 e.2.1 w ∈ doorEdges h.doors ws := by
      simpa [Bool.or_eq_true] using hb
    simp only [swung, he]
    rw [if_pos hc]
    rfl
  · have hc : ¬ (isEdge h (edgeFrom e.1 e.2.1 w) = false ∨ edgeFrom e.1 e.2.1 w ∈ h.walls ∨ edgeFrom e.1 e.2.1 w ∈ doorEdges h.doors ws) := fun z => by
      rcases z with z | z | z
      · simp [z] at hb
      · simp [z] at hb
      · simp [z] at hb
    have hwl : d < ws.length := by omega
    have l0 := len_wsS ws
    have l1 : (cutS (wsS ws) none (some (d : Int))).length ≤ ws.length := by rw [← l0]; exact cutS_length _ _ _
    have l2 : (cutS (wsS ws) (some ((d : Int) + 1)) none).length ≤ ws.length := by rw [← l0]; exact cutS_length _ _ _
    refine rd_ret (ED.is (ed_op (ed_op (ed_slS (ed_var rfl) eo_none (eo_some (ed_var rfl)) (by rw [l0]; omega)) (ed_var (d := sg w) rfl) (r2_addS ?_)) (ed_slS (ed_var rfl) (eo_some (ed_op (ed_var rfl) ed_int r2_addI)) eo_none (by rw [l0]; omega)) (r2_addS ?_)) ?_)
    · show _ + 1 ≤ 100000
      omega
    · have e3 : (cutS (wsS ws) none (some (d : Int)) ++ (⟨#[w.code]⟩ : Str)).length = (cutS (wsS ws) none (some (d : Int))).length + 1 := by
        show (_ ++ #[w.code] : Array Nat).size = _
        rw [Array.size_append]
        rfl
      rw [e3]
      omega
    · rw [cut_ways ws d w hwl]
      simp only [swung, he]
      rw [if_neg hc]
      rfl
/-- a step: the standing behind it, the door that swings -/
def stepDone (h : Hall) (s : Stand) (k : Nat) (w : Sg) : Option (Stand × Option Nat) :=
  match s.cells[k]? with
  | none => none
  | some c =>
    if inH h (nextC c w) = false ∨ nextC c w ∈ s.cells ∨ crossed c w ∈ h.walls then none
    else match (doorEdges h.doors s.ways).findIdx? (· == crossed c w) with
      | none => some (⟨s.cells.set k (nextC c w), s.ways⟩, none)
      | some d => (swung h s.ways d w).map fun ws => (⟨s.cells.set k (nextC c w), ws⟩, some d)
def optN : Option Nat → PyData
  | none => .none
  | some n => .int n
def doneD : Option (Stand × Option Nat) → PyData
  | none => .none
  | some p => .tuple [standD p.1, optN p.2]
end
end Pd

/-! Sem4 -/
set_option Elab.async false
set_option linter.all false
set_option maxRecDepth 100000
set_option maxHeartbeats 4000000
namespace Pd
open PySem PySem.Spec PyProof.Rows L2 PySem.W
local macro_rules | `(tactic| walk_at "ed") => `(tactic| repeat' (first
  | with_reducible (first
    | exact ed_int | exact ed_str | exact ed_bl | exact ed_non
    | exact ea_nil | refine' ea_cons ?_ ?_
    | refine' ed_isi ?_ ?_ | refine' ed_isi2 ?_ ?_ ?_
    | refine' ed_andV ?_ (fun _ => ?_) | refine' ed_orV ?_ (fun _ => ?_) | refine' ed_notV ?_
    | refine' ed_chain ?_ ?_ ?_ (fun _ => ⟨?_, ?_⟩)
    | refine' ed_tup ?_ ?_ | refine' ed_lst ?_ ?_
    | refine' et_not ?_ | refine' et_and ?_ (fun _ => ?_) | refine' et_or ?_ (fun _ => ?_) | exact et_yes
    | refine' et_test ?_ | refine' et_B ?_
    | refine' ed_op ?_ ?_ ?_
    | refine' ed_cb ?_ ?_)
  | exact ed_var rfl
  | exact kit_tt | exact kit_ii | exact kit_ib | exact kit_ll | exact kit_lt | exact kit_tl
  | exact r2_addI | exact r2_subI | exact r2_lt | exact r2_le | exact r2_gt | exact r2_ge | exact r2_isN | exact r2_notN
  | exact rc_lenT | exact rc_lenL | exact rc_intB | exact rc_tupL
  | with_reducible (first | refine' r2_eq ?_ ?_ | refine' r2_ne ?_ ?_)
  | exact sh_int _ | exact sh_sg _ | exact sh_cell _ | exact sh_edge _ | exact sh_pair _ | exact sh_str _ (by decide +kernel)
  | exact r2_ixT rfl | exact r2_ixL rfl
  | refine' ed_tup ?_ ?_
  | (show List.length _ ≤ 100000; simp; done)))
theorem ed_index {K : PySem.W.Frag} {ρ : Rho} {to te : TE} {ds : List PyData} {d z : PyData} {j : Nat} (h : ED to ρ (.list ds)) (hd : ED te ρ d) (sl : SeqAt.shaped (.list ds) = true) (sd : SeqAt.shaped d = true) (hz : ds[j]? = some z) (he : PyData.eqv z d = true)
    (hno : ∀ (m : Nat) (z' : PyData), m < j → ds[m]? = some z' → PyData.eqv z' d = false) : ED (tBM K "list" (rIndexD K) to (tCons te tNil)) ρ (.int (j : Nat)) := fun σ B H ex ev Q q => by
  refine h σ B H ex ev _ fun v B1 H1 g1 d1 => ?_
  have dl := d1
  cases d1 with
  | @lst a xs _ ha hs =>
    refine ⟨.inl ⟨rfl, _, SqL.of (g1.t _ _ ha)⟩, ?_⟩
    refine hd σ B1 H1 g1.t (ev.mono g1.b) _ fun y B2 H2 g2 d2 => ?_
    exact ⟨a, y, d, ds, j, z, rfl, rfl, ((dl.mono g2.b).mono g2.t).dp, (d2.mono g2.t).dp, sl, sd, hz, he, hno, q _ B2 H2 (g1.trans g2) (.int _)⟩
theorem cut_cells (cs : List Cell) (k : Nat) (a : Cell) (hk : k < cs.length) : cutD (cs.map cellD) none (some (k : Int)) ++ [cellD a] ++ cutD (cs.map cellD) (some ((k : Int) + 1)) none = (cs.set k a).map cellD := by
  have e1 : cutD (cs.map cellD) none (some (k : Int)) = (cs.take k).map cellD := by
    unfold cutD
    rw [HT.sIx_none, HT.sIx_nat, List.drop_zero, List.length_map, Nat.min_eq_left (by omega), Nat.sub_zero, List.map_take]
  have e2 : cutD (cs.map cellD) (some ((k : Int) + 1)) none = (cs.drop (k + 1)).map cellD := by
    unfold cutD
    have e : ((k : Int) + 1) = ((k + 1 : Nat) : Int) := by omega
    rw [e, HT.sIx_nat, HT.sIx_none, List.length_map, Nat.min_eq_left (by omega), List.map_drop, List.take_of_length_le (by simp)]
  rw [e1, e2, show [cellD a] = [a].map cellD from rfl, ← List.map_append, ← List.map_append]
  congr 1
  rw [List.set_eq_take_append_cons_drop, if_pos hk]
  simp
theorem cutD_le (ds : List PyData) (lo hi : Option Int) : (cutD ds lo hi).length ≤ ds.length := by
  unfold cutD
  rw [List.length_take, List.length_drop]
  omega
theorem ed_setCells {K : PySem.W.Frag} {ρ : Rho} {cs : List Cell} {k i j l : Nat} {a : Cell} (hk : k < cs.length) (hl : cs.length ≤ 1000) (h1 : ρ[i]? = some (some (cellsD cs))) (h2 : ρ[j]? = some (some (.int k))) (h3 : ρ[l]? = some (some (cellD a))) :
    ED (tOp (rAddX K) (tOp (rAddX K) (tSl (rSlX K) (tVar i) tNoPart (tPart (tVar j))) (tTup (tCons (tVar l) tNil))) (tSl (rSlX K) (tVar i) (tPart (tOp (rAddX K) (tVar j) (tC (.int 1)))) tNoPart)) ρ (cellsD (cs.set k a)) := by
  have m1 := cutD_le (cs.map cellD) none (some (k : Int))
  have m2 := cutD_le (cs.map cellD) (some ((k : Int) + 1)) none
  rw [List.length_map] at m1 m2
  refine ED.is (ed_op (ed_op (ed_slT (ed_var h1) eo_none (eo_some (ed_var h2))) (ed_tup (ea_cons (ed_var h3) ea_nil) (by simp)) (r2_catT ?_)) (ed_slT (ed_var h1) (eo_some (ed_op (ed_var h2) ed_int r2_addI)) eo_none) (r2_catT ?_)) (congrArg PyData.tuple (cut_cells cs k a hk))
  · rw [List.length_singleton]
    omega
  · rw [List.length_append, List.length_singleton]
    omega
inductive R_step_done : List PyData → PyData → Prop
  | mk (h : Hall) (s : Stand) (k : Nat) (w : Sg) (hd : h.doors.length ≤ 100) (hw : s.ways.length = h.doors.length) (hc : s.cells.length ≤ 100) (hk : k < s.cells.length) : R_step_done [hallD h, standD s, stepD k w] (doneD (stepDone h s k w))
theorem len_doorEdges {ds : List Edge} {ws : List Sg} (h : ws.length = ds.length) : (doorEdges ds ws).length = ds.length := by
  unfold doorEdges
  rw [List.length_zipWith]
  omega
section
variable {K : PySem.W.Frag}
theorem rp_step_done {ds : List PyData} {d : PyData} (h : R_step_done ds d) : RD (rd_step_done K (spR R_door_edges) (spR R_edge_crossed) (spR R_is_cell) (spR R_next_cell) (spR R_swung_ways)) (ds.map some ++ List.replicate (13 - ds.length) none) d := by
  obtain ⟨h, s, k, w, hd, hw, hcl, hk⟩ := h
  have he : s.cells[k]? = some s.cells[k] := List.getElem?_eq_getElem hk
  generalize s.cells[k] = c at he
  have hat : atI (s.cells.map cellD) (k : Int) = some (cellD c) := atI_nat (by rw [List.getElem?_map, he]; rfl)
  refine rd_seq (sd_asg (d := standD s) (by walk_at "ed") (gd_tup (vs := [3, 4]) (gds_cons (gd_name (by simp)) (gds_cons (gd_name (by simp)) gds_nil)) rfl)) ?_
  refine rd_seq (sd_asg (d := stepD k w) (by walk_at "ed") (gd_tup (vs := [5, 6]) (gds_cons (gd_name (by simp)) (gds_cons (gd_name (by simp)) gds_nil)) rfl)) ?_
  refine rd_seq (sd_set (ed_call (ea_cons (ed_op (ed_var rfl) (ed_var rfl) (r2_ixT hat)) (ea_cons (ed_var rfl) ea_nil)) (.mk c w))) ?_
  refine rd_seq (sd_set (ed_call (ea_cons (ed_op (ed_var rfl) (ed_var rfl) (r2_ixT hat)) (ea_cons (ed_var rfl) ea_nil)) (.mk c w))) ?_
  have h1 : ET (tOr (tNot (tB (tCallD (spR R_is_cell) (tCons (tVar 0) (tCons (tVar 7) tNil))))) (tOr (tTest (tOp (rInX K false) (tVar 7) (tVar 3))) (tTest (tOp (rInX K false) (tVar 8) (tOp (rIx K) (tVar 0) (tC (.int 2)))))))
      [some (hallD h), some (standD s), some (stepD k w), some (cellsD s.cells), some (.str (wsS s.ways)), some (.int k), some (sg w), some (cellD (nextC c w)), some (edgeD (crossed c w)), none, none, none, none]
      (!inH h (nextC c w) || (decide (nextC c w ∈ s.cells) || decide (crossed c w ∈ h.walls))) := by
    refine et_or (et_not (et_B (ed_call (by walk_at "ed") (.mk h _)))) fun _ => et_or (et_test ?_) fun _ => et_test ?_
    · exact ED.is (ed_op (ed_var rfl) (ed_var rfl) (r2_inT (sh_cell _) (sh_cells _))) (congrArg PyData.bool (any_cell _ _))
    · exact ED.is (ed_op (ed_var rfl) (ed_op (ed_var rfl) ed_int (r2_ixT rfl)) (r2_inT (sh_edge _) (sh_edges _))) (congrArg PyData.bool (any_edge _ _))
  refine rd_ifS h1 (fun hb => ?_) (fun hb => ?_)
  · refine rd_ret (ED.is ed_non ?_)
    have hc : inH h (nextC c w) = false ∨ nextC c w ∈ s.cells ∨ crossed c w ∈ h.walls := by
      simpa [Bool.or_eq_true] using hb
    simp only [stepDone, he]
    rw [if_pos hc]
    rfl
  have hc : ¬ (inH h (nextC c w) = false ∨ nextC c w ∈ s.cells ∨ crossed c w ∈ h.walls) := fun z => by
    rcases z with z | z | z
    · simp [z] at hb
    · simp [z] at hb
    · simp [z] at hb
  refine rd_seq (sd_set (ed_setCells (k := k) hk (by omega) rfl rfl rfl)) ?_
  refine rd_seq (sd_set (ed_call (by walk_at "ed") (.mk h s.ways hd))) ?_
  have h2 : ET (tTest (tOp (rInX K true) (tVar 8) (tVar 10))) [some (hallD h), some (standD s), some (stepD k w), some (cellsD s.cells), some (.str (wsS s.ways)), some (.int k), some (sg w), some (cellD (nextC c w)), some (edgeD (crossed c w)), some (cellsD (s.cells.set k (nextC c w))), some (.list ((doorEdges h.doors s.ways).map edgeD)), none, none]
      (!decide (crossed c w ∈ doorEdges h.doors s.ways)) :=
    et_test (ED.is (ed_op (ed_var rfl) (ed_var rfl) (r2_inL (sh_edge _) (sh_edgesL _))) (congrArg (fun b => PyData.bool (!b)) (any_edge _ _)))
  refine rd_ifS h2 (fun hb2 => ?_) (fun hb2 => ?_)
  · have hn : crossed c w ∉ doorEdges h.doors s.ways := by simpa using hb2
    have hf : (doorEdges h.doors s.ways).findIdx? (· == crossed c w) = none := by
      rw [List.findIdx?_eq_none_iff]
      intro x hx
      simp only [beq_eq_false_iff_ne]
      exact fun z => hn (z ▸ hx)
    refine rd_ret (ED.is (ed_tup (ea_cons (ed_tup (ea_cons (ed_var rfl) (ea_cons (ed_var rfl) ea_nil)) (by simp)) (ea_cons ed_non ea_nil)) (by simp)) ?_)
    simp only [stepDone, he]
    rw [if_neg hc, hf]
    rfl
  · have hm : crossed c w ∈ doorEdges h.doors s.ways := by simpa using hb2
    obtain ⟨j, hf⟩ : ∃ j, (doorEdges h.doors s.ways).findIdx? (· == crossed c w) = some j := by
      cases hf : (doorEdges h.doors s.ways).findIdx? (· == crossed c w) with
      | none =>
        rw [List.findIdx?_eq_none_iff] at hf
        have := hf _ hm
        simp at this
      | some j => exact ⟨j, rfl⟩
    obtain ⟨hjl, hj1, hj2⟩ := List.findIdx?_eq_some_iff_getElem.mp hf
    have hjd : j < h.doors.length := by rw [len_doorEdges hw] at hjl; exact hjl
    have hje : (doorEdges h.doors s.ways)[j]? = some (crossed c w) := by
      rw [List.getElem?_eq_getElem hjl]
      simp only [beq_iff_eq] at hj1
      rw [hj1]
    refine rd_seq (sd_set (ed_index (j := j) (z := edgeD (crossed c w)) (ed_var rfl) (ed_var rfl) (sh_edgesL _) (sh_edge _) (by rw [List.getElem?_map, hje]; rfl) (by rw [eqv_edge]; simp) fun m z' hmj hz' => ?_)) ?_
    · rw [List.getElem?_map] at hz'
      have hml : m < (doorEdges h.doors s.ways).length := by omega
      rw [List.getElem?_eq_getElem hml] at hz'
      have := hj2 m hmj
      cases hz'
      rw [eqv_edge]
      simpa using this
    refine rd_seq (sd_set (ed_call (by walk_at "ed") (.mk h s.ways j w hd hw hjd))) ?_
    simp only [stepDone, he]
    rw [if_neg hc, hf]
    show RD _ _ (doneD ((swung h s.ways j w).map fun ws => ((⟨s.cells.set k (nextC c w), ws⟩ : Stand), some j)))
    cases hsw : swung h s.ways j w with
    | none =>
      refine rd_ifS (b := true) (ET.is (et_test (ed_op (ed_var rfl) ed_non r2_isN)) (by rfl)) (fun _ => ?_) (fun z => nomatch z)
      exact rd_ret ed_non
    | some ws =>
      refine rd_ifS (b := false) (ET.is (et_test (ed_op (ed_var rfl) ed_non r2_isN)) (by rfl)) (fun z => nomatch z) (fun _ => ?_)
      exact rd_ret (ED.is (ed_tup (ea_cons (ed_tup (ea_cons (ed_var rfl) (ea_cons (ed_var rfl) ea_nil)) (by simp)) (ea_cons (ed_var rfl) ea_nil)) (by simp)) rfl)
end
end Pd

/-! Sem5 -/
set_option Elab.async false
set_option linter.all false
set_option maxRecDepth 100000
set_option maxHeartbeats 4000000
namespace Pd
open PySem PySem.Spec PyProof.Rows L2 PySem.W
local macro_rules | `(tactic| walk_at "ed") => `(tactic| repeat' (first
  | with_reducible (first
    | exact ed_int | exact ed_str | exact ed_bl | exact ed_non
    | exact ea_nil | refine' ea_cons ?_ ?_
    | refine' ed_isi ?_ ?_ | refine' ed_isi2 ?_ ?_ ?_
    | refine' ed_andV ?_ (fun _ => ?_) | refine' ed_orV ?_ (fun _ => ?_) | refine' ed_notV ?_
    | refine' ed_chain ?_ ?_ ?_ (fun _ => ⟨?_, ?_⟩)
    | refine' ed_tup ?_ ?_ | refine' ed_lst ?_ ?_
    | refine' et_not ?_ | refine' et_and ?_ (fun _ => ?_) | refine' et_or ?_ (fun _ => ?_) | exact et_yes
    | refine' et_test ?_ | refine' et_B ?_
    | refine' ed_op ?_ ?_ ?_
    | refine' ed_cb ?_ ?_)
  | exact ed_var rfl
  | exact kit_tt | exact kit_ii | exact kit_ib | exact kit_ll | exact kit_lt | exact kit_tl
  | exact r2_addI | exact r2_subI | exact r2_lt | exact r2_le | exact r2_gt | exact r2_ge | exact r2_isN | exact r2_notN
  | exact rc_lenT | exact rc_lenL | exact rc_intB | exact rc_tupL
  | with_reducible (first | refine' r2_eq ?_ ?_ | refine' r2_ne ?_ ?_)
  | exact sh_int _ | exact sh_sg _ | exact sh_cell _ | exact sh_edge _ | exact sh_pair _ | exact sh_str _ (by decide +kernel)
  | exact r2_ixT rfl | exact r2_ixL rfl
  | refine' ed_tup ?_ ?_
  | (show List.length _ ≤ 100000; simp; done)))
/-! ### the law's own step -/
/-- the two cells on an edge's sides -/
def shutP (e : Edge) : Cell × Cell := if e.2.2 = .h then ((e.1 - 1, e.2.1), (e.1, e.2.1)) else ((e.1, e.2.1 - 1), (e.1, e.2.1))
def HV (e : Edge) : Prop := e.2.2 = .h ∨ e.2.2 = .v
theorem shutP_inj {a b : Edge} (ha : HV a) (hb : HV b) (h : shutP a = shutP b) : a = b := by
  obtain ⟨a1, a2, a3⟩ := a
  obtain ⟨b1, b2, b3⟩ := b
  have ha' : a3 = .h ∨ a3 = .v := ha
  have hb' : b3 = .h ∨ b3 = .v := hb
  rcases ha' with rfl | rfl <;> rcases hb' with rfl | rfl <;> simp [shutP] at h ⊢ <;> omega
theorem hv_from (r c : Int) (w : Sg) : HV (edgeFrom r c w) := by
  unfold edgeFrom HV
  split
  · exact .inr rfl
  · split
    · exact .inl rfl
    · split
      · exact .inr rfl
      · exact .inl rfl
theorem hv_crossed (c : Cell) (w : Sg) : HV (crossed c w) := by
  unfold crossed HV
  split
  · exact .inl rfl
  · split
    · exact .inr rfl
    · split
      · exact .inl rfl
      · exact .inr rfl
theorem hv_doorEdges {ds : List Edge} {ws : List Sg} : ∀ e ∈ doorEdges ds ws, HV e := fun e he => by
  unfold doorEdges at he
  obtain ⟨i, hi, rfl⟩ := List.mem_iff_getElem.mp he
  rw [List.getElem_zipWith]
  exact hv_from _ _ _
theorem mem_shut {es : List Edge} {e : Edge} (h : ∀ x ∈ es, HV x) (he : HV e) : shutP e ∈ es.map shutP ↔ e ∈ es := by
  constructor
  · intro hm
    obtain ⟨x, hx, q⟩ := List.mem_map.mp hm
    rw [← shutP_inj (h x hx) he q]
    exact hx
  · exact fun hm => List.mem_map_of_mem hm
inductive R_L_shut : List PyData → PyData → Prop | mk (e : Edge) : R_L_shut [edgeD e] (pairD (shutP e))
inductive R_L_pair : List PyData → PyData → Prop | mk (c : Cell) (w : Sg) (h : Way w) : R_L_pair [cellD c, sg w] (pairD (shutP (edgeFrom c.1 c.2 w)))
inductive R_L_next : List PyData → PyData → Prop | mk (c : Cell) (w : Sg) (h : Way w) : R_L_next [cellD c, sg w] (cellD (nextC c w))
def inRC (r c : Int) (x : Cell) : Bool := decide (0 ≤ x.1 ∧ x.1 < r ∧ 0 ≤ x.2 ∧ x.2 < c)
inductive R_L_within : List PyData → PyData → Prop
  | mk (r c : Int) (rest : List PyData) (p : Cell × Cell) : R_L_within [.tuple (.int r :: .int c :: rest), pairD p] (.bool (inRC r c p.1 && inRC r c p.2))
section
variable {K : PySem.W.Frag}
theorem rp_L_shut {ds : List PyData} {d : PyData} (h : R_L_shut ds d) : RD (rd_L_shut K) (ds.map some ++ List.replicate (4 - ds.length) none) d := by
  obtain ⟨e⟩ := h
  refine rd_seq (sd_asg (d := edgeD e) (by walk_at "ed") (gd_tup (vs := [1, 2, 3]) (gds_cons (gd_name (by simp)) (gds_cons (gd_name (by simp)) (gds_cons (gd_name (by simp)) gds_nil))) rfl)) ?_
  refine rd_ret (ed_if (b := decide (e.2.2 = .h)) (ET.is (by walk_at "ed") (by rw [lit_h, eqv_sg])) (fun hb => ?_) (fun hb => ?_))
  · have h1 := of_decide_eq_true hb
    exact ED.is (by walk_at "ed") (by simp [shutP, h1, pairD, cellD])
  · have h1 := of_decide_eq_false hb
    exact ED.is (by walk_at "ed") (by simp [shutP, h1, pairD, cellD])
theorem in_ns (w : Sg) : decide (w.code ∈ ("ns" : Str).cps.toList) = decide (w = .n ∨ w = .s) := by
  cases w <;> decide +kernel
theorem rp_L_pair {ds : List PyData} {d : PyData} (h : R_L_pair ds d) : RD (rd_L_pair K) (ds.map some ++ List.replicate (6 - ds.length) none) d := by
  obtain ⟨c, w, h⟩ := h
  refine rd_seq (sd_asg (d := cellD c) (by walk_at "ed") (gd_tup (vs := [2, 3]) (gds_cons (gd_name (by simp)) (gds_cons (gd_name (by simp)) gds_nil)) rfl)) ?_
  refine rd_ifS (b := decide (w = .n ∨ w = .s)) (et_test (ED.is (ed_op (ed_var rfl) ed_str (r2_inS (c := w.code))) (congrArg PyData.bool (in_ns w)))) (fun hb => ?_) (fun hb => ?_)
  · have h1 := of_decide_eq_true hb
    refine rd_seq (sd_set (ED.is (by walk_at "ed") (congrArg (fun b : Bool => PyData.int (c.1 - if b = true then 1 else 0)) (by rw [lit_n, eqv_sg])))) ?_
    refine rd_ret (ED.is (by walk_at "ed") ?_)
    rcases h1 with rfl | rfl
    · simp [shutP, edgeFrom, pairD, cellD]
    · simp [shutP, edgeFrom, pairD, cellD]
  · have h1 := of_decide_eq_false hb
    refine rd_seq (sd_set (ED.is (by walk_at "ed") (congrArg (fun b : Bool => PyData.int (c.2 - if b = true then 1 else 0)) (by rw [lit_w, eqv_sg])))) ?_
    refine rd_ret (ED.is (by walk_at "ed") ?_)
    rcases h with rfl | rfl | rfl | rfl
    · simp [shutP, edgeFrom, pairD, cellD]
    · exact absurd (.inl rfl) h1
    · exact absurd (.inr rfl) h1
    · simp [shutP, edgeFrom, pairD, cellD]
theorem rp_L_within {ds : List PyData} {d : PyData} (h : R_L_within ds d) : RD (rd_L_within K) (ds.map some ++ List.replicate (4 - ds.length) none) d := by
  obtain ⟨r, c, rest, p⟩ := h
  have h1 : ED (tLc (iTup K (tVar 1)) (gName 3) (tAnd (tTest (tChain rLeI rLtI (tC (.int 0)) (tOp (rIx K) (tVar 3) (tC (.int 0))) (tOp (rIx K) (tVar 0) (tC (.int 0))))) (tTest (tChain rLeI rLtI (tC (.int 0)) (tOp (rIx K) (tVar 3) (tC (.int 1))) (tOp (rIx K) (tVar 0) (tC (.int 1)))))) (tVar 3) [3])
      [some (.tuple (.int r :: .int c :: rest)), some (pairD p), none, none] (.list (([p.1, p.2].filter fun x => inRC r c x).map cellD)) := by
    refine ed_lcT [p.1, p.2] cellD (fun x => inRC r c x) cellD (ie_tup (ed_var rfl)) (by simp) fun x _ => ⟨_, gd_name (by simp), ?_, fun _ => ed_var rfl⟩
    have a0 : atI (PyData.int r :: PyData.int c :: rest) 0 = some (.int r) := atI_nat (j := 0) rfl
    have a1 : atI (PyData.int r :: PyData.int c :: rest) 1 = some (.int c) := atI_nat (j := 1) rfl
    refine ET.is (et_and (et_test (ed_chain ed_int (ed_op (ed_var (d := cellD x) rfl) ed_int (r2_ixT rfl)) r2_le fun _ => ⟨ed_op (ed_var rfl) ed_int (r2_ixT a0), r2_lt⟩)) fun _ => et_test (ed_chain ed_int (ed_op (ed_var (d := cellD x) rfl) ed_int (r2_ixT rfl)) r2_le fun _ => ⟨ed_op (ed_var rfl) ed_int (r2_ixT a1), r2_lt⟩)) ?_
    by_cases q1 : 0 ≤ x.1
    · by_cases q2 : x.1 < r
      · by_cases q3 : 0 ≤ x.2
        · by_cases q4 : x.2 < c
          · simp [inRC, q1, q2, q3, q4]
          · simp [inRC, q1, q2, q3, q4]
        · simp [inRC, q1, q2, q3]
      · simp [inRC, q1, q2]
    · simp [inRC, q1]
  refine rd_seq (sd_set h1) ?_
  refine rd_ret (ED.is (ed_op (ed_cb (ea_cons (ed_var rfl) ea_nil) rc_lenL) ed_int (r2_eq (sh_int _) (sh_int _))) ?_)
  rw [eqv_int]
  cases e1 : inRC r c p.1 <;> cases e2 : inRC r c p.2 <;> simp [e1, e2]
theorem rp_L_next {ds : List PyData} {d : PyData} (h : R_L_next ds d) : RD (rd_L_next K) (ds.map some ++ List.replicate (2 - ds.length) none) d := by
  obtain ⟨c, w, h⟩ := h
  have ix0 : ED (tOp (rIx K) (tVar 0) (tC (.int 0))) [some (cellD c), some (sg w)] (.int c.1) := ed_op (ed_var rfl) ed_int (r2_ixT rfl)
  have ix1 : ED (tOp (rIx K) (tVar 0) (tC (.int 1))) [some (cellD c), some (sg w)] (.int c.2) := ed_op (ed_var rfl) ed_int (r2_ixT rfl)
  have g1 := ed_dget2 (ρ := [some (cellD c), some (sg w)]) (a := "s") (b := "n") (x := ⟨#[w.code]⟩) (by decide +kernel) (ed_int (i := 1)) (ed_op (ed_int (i := 0)) (ed_int (i := 1)) r2_subI) (ed_var (i := 1) (d := sg w) rfl) (ed_int (i := 0))
  have g2 := ed_dget2 (ρ := [some (cellD c), some (sg w)]) (a := "e") (b := "w") (x := ⟨#[w.code]⟩) (by decide +kernel) (ed_int (i := 1)) (ed_op (ed_int (i := 0)) (ed_int (i := 1)) r2_subI) (ed_var (i := 1) (d := sg w) rfl) (ed_int (i := 0))
  refine rd_ret (ED.is (ed_tup (ea_cons (ed_op ix0 g1 r2_addI) (ea_cons (ed_op ix1 g2 r2_addI) ea_nil)) (by simp)) ?_)
  have s1 : (("e" : Str) = "s") = False := by simp; decide +kernel
  rcases h with rfl | rfl | rfl | rfl
  · rw [if_neg (by decide +kernel), if_neg (by decide +kernel), if_pos (by decide +kernel)]
    simp [nextC, cellD]
  · rw [if_neg (by decide +kernel), if_pos (by decide +kernel), if_neg (by decide +kernel), if_neg (by decide +kernel)]
    simp [nextC, cellD]
    omega
  · rw [if_pos (by decide +kernel), if_neg (by decide +kernel), if_neg (by decide +kernel)]
    simp [nextC, cellD]
  · rw [if_neg (by decide +kernel), if_neg (by decide +kernel), if_neg (by decide +kernel), if_pos (by decide +kernel)]
    simp [nextC, cellD]
    omega
end
end Pd

/-! Sem6 -/
set_option Elab.async false
set_option linter.all false
set_option maxRecDepth 100000
set_option maxHeartbeats 4000000
namespace Pd
open PySem PySem.Spec PyProof.Rows L2 PySem.W
local macro_rules | `(tactic| walk_at "ed") => `(tactic| repeat' (first
  | with_reducible (first
    | exact ed_int | exact ed_str | exact ed_bl | exact ed_non
    | exact ea_nil | refine' ea_cons ?_ ?_
    | refine' ed_isi ?_ ?_ | refine' ed_isi2 ?_ ?_ ?_
    | refine' ed_andV ?_ (fun _ => ?_) | refine' ed_orV ?_ (fun _ => ?_) | refine' ed_notV ?_
    | refine' ed_chain ?_ ?_ ?_ (fun _ => ⟨?_, ?_⟩)
    | refine' ed_tup ?_ ?_ | refine' ed_lst ?_ ?_
    | refine' et_not ?_ | refine' et_and ?_ (fun _ => ?_) | refine' et_or ?_ (fun _ => ?_) | exact et_yes
    | refine' et_test ?_ | refine' et_B ?_
    | refine' ed_op ?_ ?_ ?_
    | refine' ed_cb ?_ ?_)
  | exact ed_var rfl
  | exact kit_tt | exact kit_ii | exact kit_ib | exact kit_ll | exact kit_lt | exact kit_tl
  | exact r2_addI | exact r2_subI | exact r2_lt | exact r2_le | exact r2_gt | exact r2_ge | exact r2_isN | exact r2_notN
  | exact rc_lenT | exact rc_lenL | exact rc_intB | exact rc_tupL
  | with_reducible (first | refine' r2_eq ?_ ?_ | refine' r2_ne ?_ ?_)
  | exact sh_int _ | exact sh_sg _ | exact sh_cell _ | exact sh_edge _ | exact sh_pair _ | exact sh_str _ (by decide +kernel)
  | exact r2_ixT rfl | exact r2_ixL rfl
  | refine' ed_tup ?_ ?_
  | (show List.length _ ≤ 100000; simp; done)))
structure StepOk (h : Hall) (s : Stand) (k : Nat) (w : Sg) : Prop where
  walls : ∀ e ∈ h.walls, HV e
  nwalls : h.walls.length ≤ 100
  ndoors : h.doors.length ≤ 100
  ways : ∀ x ∈ s.ways, Way x
  nways : s.ways.length = h.doors.length
  cells : ∀ c ∈ s.cells, inH h c = true
  ncells : s.cells.length ≤ 100
  k : k < s.cells.length
  w : Way w
inductive R_L_step : List PyData → PyData → Prop
  | mk (h : Hall) (s : Stand) (k : Nat) (w : Sg) (o : StepOk h s k w) : R_L_step [hallD h, standD s, stepD k w] (doneD (stepDone h s k w))
theorem inRC_eq (h : Hall) (c : Cell) : inRC h.rows h.cols c = inH h c := rfl
/-- the edge that is crossed lies between the two cells, the lesser first -/
theorem pair_crossed (c : Cell) (w : Sg) (hw : Way w) : ((if ltP (nextC c w) c = true then nextC c w else c), (if ltP c (nextC c w) = true then nextC c w else c)) = shutP (crossed c w) := by
  obtain ⟨r, k⟩ := c
  rcases hw with rfl | rfl | rfl | rfl
  · have a : ¬ (ltP (r, k + 1) (r, k) = true) := by simp [ltP] <;> omega
    have b : ltP (r, k) (r, k + 1) = true := by simp [ltP] <;> omega
    simp [nextC, crossed, shutP, a, b]
  · have a : ltP (r - 1, k) (r, k) = true := by simp [ltP] <;> omega
    have b : ¬ (ltP (r, k) (r - 1, k) = true) := by simp [ltP] <;> omega
    simp [nextC, crossed, shutP, a, b]
  · have a : ¬ (ltP (r + 1, k) (r, k) = true) := by simp [ltP] <;> omega
    have b : ltP (r, k) (r + 1, k) = true := by simp [ltP] <;> omega
    simp [nextC, crossed, shutP, a, b]
  · have a : ltP (r, k - 1) (r, k) = true := by simp [ltP] <;> omega
    have b : ¬ (ltP (r, k) (r, k - 1) = true) := by simp [ltP] <;> omega
    simp [nextC, crossed, shutP, a, b]
theorem within_crossed (h : Hall) (c : Cell) (w : Sg) (hw : Way w) (hc : inH h c = true) : (inRC h.rows h.cols (shutP (crossed c w)).1 && inRC h.rows h.cols (shutP (crossed c w)).2) = inH h (nextC c w) := by
  rw [← pair_crossed c w hw]
  show (inH h _ && inH h _) = _
  by_cases a : ltP (nextC c w) c = true
  · by_cases b : ltP c (nextC c w) = true
    · simp only [if_pos a, if_pos b, Bool.and_self]
    · simp only [if_pos a, if_neg b, hc, Bool.and_true]
  · by_cases b : ltP c (nextC c w) = true
    · simp only [if_neg a, if_pos b, hc, Bool.true_and]
    · exfalso
      obtain ⟨r, k⟩ := c
      rcases hw with rfl | rfl | rfl | rfl <;> (simp [nextC, ltP] at a b; omega)
theorem within_edge (h : Hall) (e : Edge) (he : HV e) : (inRC h.rows h.cols (shutP e).1 && inRC h.rows h.cols (shutP e).2) = isEdge h e := by
  obtain ⟨r, c, g⟩ := e
  have he' : g = .h ∨ g = .v := he
  rw [Bool.eq_iff_iff]
  rcases he' with rfl | rfl
  · simp [shutP, inRC, isEdge, inH]
    omega
  · simp [shutP, inRC, isEdge, inH]
    omega
theorem mem_doorEdges_ways {ds : List Edge} {ws : List Sg} {k : Nat} {e : Edge} {w : Sg} (h1 : ds[k]? = some e) (h2 : ws[k]? = some w) : (doorEdges ds ws)[k]? = some (edgeFrom e.1 e.2.1 w) := by
  unfold doorEdges
  rw [List.getElem?_zipWith, h1, h2]
section
variable {K : PySem.W.Frag}
theorem rp_L_step {ds : List PyData} {d : PyData} (h : R_L_step ds d) : RD (rd_L_step K (spR R_L_next) (spR R_L_pair) (spR R_L_shut) (spR R_L_within)) (ds.map some ++ List.replicate (15 - ds.length) none) d := by
  obtain ⟨h, s, k, w, o⟩ := h
  have ok := o.k
  have he : s.cells[k]? = some s.cells[k] := List.getElem?_eq_getElem ok
  have hin : inH h s.cells[k] = true := o.cells _ (List.getElem_mem _)
  generalize s.cells[k] = c at he hin
  have hat : atI (s.cells.map cellD) (k : Int) = some (cellD c) := atI_nat (by rw [List.getElem?_map, he]; rfl)
  have nc := o.ncells
  have nd := o.ndoors
  have nw := o.nwalls
  refine rd_seq (sd_asg (d := standD s) (by walk_at "ed") (gd_tup (vs := [3, 4]) (gds_cons (gd_name (by simp)) (gds_cons (gd_name (by simp)) gds_nil)) rfl)) ?_
  refine rd_seq (sd_asg (d := stepD k w) (by walk_at "ed") (gd_tup (vs := [5, 6]) (gds_cons (gd_name (by simp)) (gds_cons (gd_name (by simp)) gds_nil)) rfl)) ?_
  refine rd_seq (sd_set (ed_call (ea_cons (ed_op (ed_var rfl) (ed_var rfl) (r2_ixT hat)) (ea_cons (ed_var rfl) ea_nil)) (.mk c w o.w))) ?_
  refine rd_seq (sd_set (d := .list ((h.walls.map shutP).map pairD)) (ED.is (ed_lcM h.walls edgeD (fun e => pairD (shutP e)) (ie_tup (ed_op (ed_var rfl) (ed_op ed_int ed_int r2_subI) (r2_ixT rfl))) (by omega) fun e _ => ⟨_, gd_name (by simp), ed_call (ea_cons (ed_var rfl) ea_nil) (.mk e)⟩) (by rw [List.map_map]; rfl))) ?_
  have hst : ED (tLc (iRng1 (tCons (tCB (rLenX K) (tCons (tOp (rIx K) (tVar 0) (tC (.int 3))) tNil)) tNil)) (gName 9) tYes (tCallD (spR R_L_pair) (tCons (tSl (rSlX K) (tOp (rIx K) (tOp (rIx K) (tVar 0) (tC (.int 3))) (tVar 9)) tNoPart (tPart (tC (.int 2)))) (tCons (tOp (rIx K) (tVar 4) (tVar 9)) tNil))) [9])
      [some (hallD h), some (standD s), some (stepD k w), some (cellsD s.cells), some (.str (wsS s.ways)), some (.int k), some (sg w), some (cellD (nextC c w)), some (.list ((h.walls.map shutP).map pairD)), none, none, none, none, none, none]
      (.list (((doorEdges h.doors s.ways).map shutP).map pairD)) := by
    have hi := ie_rng1 (ρ := [some (hallD h), some (standD s), some (stepD k w), some (cellsD s.cells), some (.str (wsS s.ways)), some (.int k), some (sg w), some (cellD (nextC c w)), some (.list ((h.walls.map shutP).map pairD)), none, none, none, none, none, none]) (ta := tCons (tCB (rLenX K) (tCons (tOp (rIx K) (tVar 0) (tC (.int 3))) tNil)) tNil) (n := ((h.doors.map edgeD).length : Nat)) (ea_cons (ed_cb (ea_cons (ed_op (ed_var rfl) ed_int (r2_ixT rfl)) ea_nil) rc_lenT) ea_nil) (by omega) (by rw [List.length_map]; omega)
    rw [Int.toNat_natCast, List.length_map] at hi
    refine ED.is (ed_lcM (List.range h.doors.length) (fun k => .int (k : Nat)) (fun j => match (doorEdges h.doors s.ways)[j]? with | some e => pairD (shutP e) | none => .none) hi (by rw [List.length_range]; omega) fun j hj => ?_) ?_
    · have hjl : j < h.doors.length := List.mem_range.mp hj
      have h1 : h.doors[j]? = some h.doors[j] := List.getElem?_eq_getElem hjl
      have hjw : j < s.ways.length := by rw [o.nways]; exact hjl
      have h2 : s.ways[j]? = some s.ways[j] := List.getElem?_eq_getElem hjw
      have hw2 : Way s.ways[j] := o.ways _ (List.getElem_mem _)
      generalize h.doors[j] = e at h1
      generalize s.ways[j] = x at h2 hw2
      have a1 : atI (h.doors.map edgeD) (j : Int) = some (edgeD e) := atI_nat (by rw [List.getElem?_map, h1]; rfl)
      have a2 : atI (wsS s.ways).cps.toList (j : Int) = some x.code := atI_nat (by
        show ((s.ways.map Sg.code).toArray.toList)[j]? = _
        rw [List.toList_toArray, List.getElem?_map, h2]
        rfl)
      rw [mem_doorEdges_ways h1 h2]
      refine ⟨_, gd_name (by simp), ed_call (ea_cons (ed_slT (ds := [.int e.1, .int e.2.1, sg e.2.2]) (ed_op (ed_op (ed_var rfl) ed_int (r2_ixT rfl)) (ed_var rfl) (r2_ixT a1)) eo_none (eo_some ed_int)) (ea_cons (ed_op (ed_var rfl) (ed_var rfl) (r2_ixS (by rw [len_wsS, o.nways]; omega) a2)) ea_nil)) (.mk (e.1, e.2.1) x hw2)⟩
    · congr 1
      refine List.ext_getElem? fun j => ?_
      rw [List.getElem?_map, List.getElem?_map, List.getElem?_map]
      by_cases hj : j < h.doors.length
      · have l1 := len_doorEdges (ds := h.doors) (ws := s.ways) o.nways
        have e1 : (doorEdges h.doors s.ways)[j]? = some (doorEdges h.doors s.ways)[j] := List.getElem?_eq_getElem (by omega)
        rw [List.getElem?_range hj]
        simp only [Option.map_some, e1]
      · have l1 := len_doorEdges (ds := h.doors) (ws := s.ways) o.nways
        rw [List.getElem?_eq_none (by rw [List.length_range]; omega), List.getElem?_eq_none (l := doorEdges h.doors s.ways) (by omega)]
        rfl
  refine rd_seq (sd_set hst) ?_
  refine rd_seq (sd_set (d := pairD (shutP (crossed c w))) (ED.is (ed_tup (ea_cons (ed_cb (ea_cons (ed_op (ed_var rfl) (ed_var rfl) (r2_ixT hat)) (ea_cons (ed_var rfl) ea_nil)) (rc_minT (x := c) (y := nextC c w))) (ea_cons (ed_cb (ea_cons (ed_op (ed_var rfl) (ed_var rfl) (r2_ixT hat)) (ea_cons (ed_var rfl) ea_nil)) (rc_maxT (x := c) (y := nextC c w))) ea_nil)) (by simp)) (congrArg pairD (pair_crossed c w o.w)))) ?_
  have h1 : ET (tOr (tTest (tOp (rInX K false) (tVar 7) (tVar 3))) (tOr (tNot (tB (tCallD (spR R_L_within) (tCons (tVar 0) (tCons (tVar 11) tNil))))) (tTest (tOp (rInX K false) (tVar 11) (tVar 8)))))
      [some (hallD h), some (standD s), some (stepD k w), some (cellsD s.cells), some (.str (wsS s.ways)), some (.int k), some (sg w), some (cellD (nextC c w)), some (.list ((h.walls.map shutP).map pairD)), none, some (.list (((doorEdges h.doors s.ways).map shutP).map pairD)), some (pairD (shutP (crossed c w))), none, none, none]
      (decide (nextC c w ∈ s.cells) || (!inH h (nextC c w) || decide (crossed c w ∈ h.walls))) := by
    refine et_or (et_test ?_) fun _ => et_or (et_not (et_B ?_)) fun _ => et_test ?_
    · exact ED.is (ed_op (ed_var rfl) (ed_var rfl) (r2_inT (sh_cell _) (sh_cells _))) (congrArg PyData.bool (any_cell _ _))
    · exact ED.is (ed_call (ea_cons (ed_var rfl) (ea_cons (ed_var rfl) ea_nil)) (.mk h.rows h.cols _ (shutP (crossed c w)))) (congrArg PyData.bool (within_crossed h c w o.w hin))
    · exact ED.is (ed_op (ed_var rfl) (ed_var rfl) (r2_inL (sh_pair _) (sh_pairsL _))) (congrArg PyData.bool ((any_pair _ _).trans (decide_eq_decide.mpr (mem_shut o.walls (hv_crossed c w)))))
  refine rd_ifS h1 (fun hb => ?_) (fun hb => ?_)
  · refine rd_ret (ED.is ed_non ?_)
    have hc : inH h (nextC c w) = false ∨ nextC c w ∈ s.cells ∨ crossed c w ∈ h.walls := by
      simp only [Bool.or_eq_true, decide_eq_true_eq, Bool.not_eq_true'] at hb
      rcases hb with z | z | z
      · exact .inr (.inl z)
      · exact .inl z
      · exact .inr (.inr z)
    simp only [stepDone, he]
    rw [if_pos hc]
    rfl
  have hc : ¬ (inH h (nextC c w) = false ∨ nextC c w ∈ s.cells ∨ crossed c w ∈ h.walls) := fun z => by
    rcases z with z | z | z
    · simp [z] at hb
    · simp [z] at hb
    · simp [z] at hb
  refine rd_seq (sd_set (ed_setCells (k := k) o.k (by omega) rfl rfl rfl)) ?_
  have h2 : ET (tTest (tOp (rInX K true) (tVar 11) (tVar 10))) [some (hallD h), some (standD s), some (stepD k w), some (cellsD s.cells), some (.str (wsS s.ways)), some (.int k), some (sg w), some (cellD (nextC c w)), some (.list ((h.walls.map shutP).map pairD)), none, some (.list (((doorEdges h.doors s.ways).map shutP).map pairD)), some (pairD (shutP (crossed c w))), some (cellsD (s.cells.set k (nextC c w))), none, none]
      (!decide (crossed c w ∈ doorEdges h.doors s.ways)) :=
    et_test (ED.is (ed_op (ed_var rfl) (ed_var rfl) (r2_inL (sh_pair _) (sh_pairsL _))) (congrArg (fun b => PyData.bool (!b)) ((any_pair _ _).trans (decide_eq_decide.mpr (mem_shut hv_doorEdges (hv_crossed c w))))))
  refine rd_ifS h2 (fun hb2 => ?_) (fun hb2 => ?_)
  · have hn : crossed c w ∉ doorEdges h.doors s.ways := by simpa using hb2
    have hf : (doorEdges h.doors s.ways).findIdx? (· == crossed c w) = none := by
      rw [List.findIdx?_eq_none_iff]
      intro x hx
      simp only [beq_eq_false_iff_ne]
      exact fun z => hn (z ▸ hx)
    refine rd_ret (ED.is (ed_tup (ea_cons (ed_tup (ea_cons (ed_var rfl) (ea_cons (ed_var rfl) ea_nil)) (by simp)) (ea_cons ed_non ea_nil)) (by simp)) ?_)
    simp only [stepDone, he]
    rw [if_neg hc, hf]
    rfl
  have hm : crossed c w ∈ doorEdges h.doors s.ways := by simpa using hb2
  obtain ⟨j, hf⟩ : ∃ j, (doorEdges h.doors s.ways).findIdx? (· == crossed c w) = some j := by
    cases hf : (doorEdges h.doors s.ways).findIdx? (· == crossed c w) with
    | none =>
      rw [List.findIdx?_eq_none_iff] at hf
      have := hf _ hm
      simp at this
    | some j => exact ⟨j, rfl⟩
  obtain ⟨hjl, hj1, hj2⟩ := List.findIdx?_eq_some_iff_getElem.mp hf
  have hjd : j < h.doors.length := by rw [len_doorEdges o.nways] at hjl; exact hjl
  have hje : (doorEdges h.doors s.ways)[j]? = some (crossed c w) := by
    rw [List.getElem?_eq_getElem hjl]
    simp only [beq_iff_eq] at hj1
    rw [hj1]
  refine rd_seq (sd_set (ed_index (j := j) (z := pairD (shutP (crossed c w))) (ed_var rfl) (ed_var rfl) (sh_pairsL _) (sh_pair _) (by rw [List.getElem?_map, List.getElem?_map, hje]; rfl) (by rw [eqv_pair]; simp) fun m z' hmj hz' => ?_)) ?_
  · rw [List.getElem?_map, List.getElem?_map] at hz'
    have hml : m < (doorEdges h.doors s.ways).length := by omega
    rw [List.getElem?_eq_getElem hml] at hz'
    have h3 := hj2 m hmj
    cases hz'
    rw [eqv_pair, decide_eq_false_iff_not]
    intro z
    have := shutP_inj (hv_doorEdges _ (List.getElem_mem _)) (hv_crossed c w) z
    simp [this] at h3
  have hde : h.doors[j]? = some h.doors[j] := List.getElem?_eq_getElem hjd
  generalize h.doors[j] = e at hde
  have a1 : atI (h.doors.map edgeD) (j : Int) = some (edgeD e) := atI_nat (by rw [List.getElem?_map, hde]; rfl)
  refine rd_seq (sd_set (ed_call (ea_cons (ed_slT (ds := [.int e.1, .int e.2.1, sg e.2.2]) (ed_op (ed_op (ed_var rfl) ed_int (r2_ixT rfl)) (ed_var rfl) (r2_ixT a1)) eo_none (eo_some ed_int)) (ea_cons (ed_var rfl) ea_nil)) (.mk (e.1, e.2.1) w o.w))) ?_
  have h3 : ET (tOr (tNot (tB (tCallD (spR R_L_within) (tCons (tVar 0) (tCons (tVar 13) tNil))))) (tTest (tOp (rInX K false) (tVar 13) (tOp (rAddX K) (tVar 8) (tVar 10)))))
      [some (hallD h), some (standD s), some (stepD k w), some (cellsD s.cells), some (.str (wsS s.ways)), some (.int k), some (sg w), some (cellD (nextC c w)), some (.list ((h.walls.map shutP).map pairD)), some (.int j), some (.list (((doorEdges h.doors s.ways).map shutP).map pairD)), some (pairD (shutP (crossed c w))), some (cellsD (s.cells.set k (nextC c w))), some (pairD (shutP (edgeFrom e.1 e.2.1 w))), none]
      (!isEdge h (edgeFrom e.1 e.2.1 w) || decide (edgeFrom e.1 e.2.1 w ∈ h.walls ++ doorEdges h.doors s.ways)) := by
    refine et_or (et_not (et_B ?_)) fun _ => et_test ?_
    · exact ED.is (ed_call (ea_cons (ed_var rfl) (ea_cons (ed_var rfl) ea_nil)) (.mk h.rows h.cols _ (shutP (edgeFrom e.1 e.2.1 w)))) (congrArg PyData.bool (within_edge h _ (hv_from _ _ _)))
    · have lde := len_doorEdges (ds := h.doors) (ws := s.ways) o.nways
      refine ED.is (ed_op (ed_var rfl) (ED.is (d' := .list (((h.walls ++ doorEdges h.doors s.ways).map shutP).map pairD)) (ed_op (ed_var rfl) (ed_var rfl) (r2_catL (by rw [List.length_map, List.length_map, List.length_map, List.length_map]; omega))) (by rw [List.map_append, List.map_append])) (r2_inL (sh_pair _) (sh_pairsL _))) (congrArg PyData.bool ((any_pair _ _).trans (decide_eq_decide.mpr (mem_shut (fun x hx => ?_) (hv_from _ _ _)))))
      rcases List.mem_append.mp hx with z | z
      · exact o.walls x z
      · exact hv_doorEdges x z
  simp only [stepDone, he]
  rw [if_neg hc, hf]
  show RD _ _ (doneD ((swung h s.ways j w).map fun ws => ((⟨s.cells.set k (nextC c w), ws⟩ : Stand), some j)))
  refine rd_ifS h3 (fun hb => ?_) (fun hb => ?_)
  · have hs : swung h s.ways j w = none := by
      simp only [swung, hde]
      refine if_pos ?_
      simp only [Bool.or_eq_true, decide_eq_true_eq, Bool.not_eq_true', List.mem_append] at hb
      exact hb
    rw [hs]
    exact rd_ret ed_non
  · have hs : swung h s.ways j w = some (s.ways.set j w) := by
      simp only [swung, hde]
      refine if_neg ?_
      intro z
      have : (!isEdge h (edgeFrom e.1 e.2.1 w) || decide (edgeFrom e.1 e.2.1 w ∈ h.walls ++ doorEdges h.doors s.ways)) = true := by
        simp only [Bool.or_eq_true, decide_eq_true_eq, Bool.not_eq_true', List.mem_append]
        exact z
      rw [this] at hb
      cases hb
    rw [hs]
    have hwl : j < s.ways.length := by rw [o.nways]; exact hjd
    have l0 := len_wsS s.ways
    have ln := o.nways
    have l1 : (cutS (wsS s.ways) none (some (j : Int))).length ≤ s.ways.length := by rw [← l0]; exact cutS_length _ _ _
    have l2 : (cutS (wsS s.ways) (some ((j : Int) + 1)) none).length ≤ s.ways.length := by rw [← l0]; exact cutS_length _ _ _
    refine rd_ret (ED.is (ed_tup (ea_cons (ed_tup (ea_cons (ed_var rfl) (ea_cons (ED.is (ed_op (ed_op (ed_slS (ed_var rfl) eo_none (eo_some (ed_var rfl)) (by rw [l0]; omega)) (ed_var (d := sg w) rfl) (r2_addS ?_)) (ed_slS (ed_var rfl) (eo_some (ed_op (ed_var rfl) ed_int r2_addI)) eo_none (by rw [l0]; omega)) (r2_addS ?_)) (congrArg PyData.str (cut_ways s.ways j w hwl))) ea_nil)) (by simp)) (ea_cons (ed_var rfl) ea_nil)) (by simp)) rfl)
    · show _ + 1 ≤ 100000
      omega
    · have e3 : (cutS (wsS s.ways) none (some (j : Int)) ++ (⟨#[w.code]⟩ : Str)).length = (cutS (wsS s.ways) none (some (j : Int))).length + 1 := by
        show (_ ++ #[w.code] : Array Nat).size = _
        rw [Array.size_append]
        rfl
      rw [e3]
      omega
end
end Pd

/-! PdF -/
set_option Elab.async false
set_option linter.all false
set_option maxRecDepth 100000
set_option maxHeartbeats 4000000
/-! loops, and lists of the def's own -/
namespace Pd
open PySem PySem.Spec PyProof.Rows L2

/-- less is told -/
def Rle (ρ0 ρ : Rho) : Prop := ρ0.length = ρ.length ∧ ∀ i : Nat, ∀ d : PyData, ρ0[i]? = some (some d) → ρ[i]? = some (some d)
theorem EnvD.less {σ : L2.St} {B : Hp} {ρ0 ρ : Rho} (h : EnvD σ B ρ) (l : Rle ρ0 ρ) : EnvD σ B ρ0 := ⟨h.len.trans l.1.symm, fun i d q => h.get i d (l.2 i d q)⟩
theorem Rle.refl (ρ : Rho) : Rle ρ ρ := ⟨rfl, fun _ _ q => q⟩
theorem Rle.trans {a b c : Rho} (h : Rle a b) (k : Rle b c) : Rle a c := ⟨h.1.trans k.1, fun i d q => k.2 i d (h.2 i d q)⟩
theorem Rle.set {ρ0 ρ : Rho} {i : Nat} {o : Option PyData} (h : Rle ρ0 ρ) (hi : ρ0[i]? = some none) : Rle ρ0 (ρ.set i o) := by
  refine ⟨by rw [List.length_set]; exact h.1, fun j d q => ?_⟩
  by_cases hj : i = j
  · subst hj
    rw [hi] at q
    cases q
  · rw [List.getElem?_set_ne hj]
    exact h.2 j d q

/-- a def's own list, at slot j: beside the base, what it holds is told. B0: what the base has known from somewhere on -/
structure Own1 (B0 B1 H1 : Hp) (l : Addr) (j : Nat) (σ : L2.St) (B H : Hp) (ρ : Rho) (ds : List PyData) : Prop where
  b0 : Ex B0 B
  g : Gr B1 H1 B H
  f : H1 l = none
  s : σ[j]? = some (some (.ref l))
  n : B l = none
  h : ∃ xs, H l = some (.lst xs) ∧ DHs B xs ds
  e : EnvD σ B ρ
theorem Own1.mono {B0 B1 H1 : Hp} {l : Addr} {j : Nat} {σ : L2.St} {B H B' H' : Hp} {ρ : Rho} {ds : List PyData} (o : Own1 B0 B1 H1 l j σ B H ρ ds) (k : Gr B H B' H') : Own1 B0 B1 H1 l j σ B' H' ρ ds := by
  obtain ⟨xs, h1, h2⟩ := o.h
  exact ⟨o.b0.trans k.b, o.g.trans k, o.f, o.s, k.n l o.n (by rw [h1]; exact fun z => nomatch z), ⟨xs, k.h _ _ h1, h2.mono k.b⟩, o.e.mono k.b⟩
theorem Own1.less {B0 B1 H1 : Hp} {l : Addr} {j : Nat} {σ : L2.St} {B H : Hp} {ρ0 ρ : Rho} {ds : List PyData} (o : Own1 B0 B1 H1 l j σ B H ρ ds) (k : Rle ρ0 ρ) : Own1 B0 B1 H1 l j σ B H ρ0 ds :=
  ⟨o.b0, o.g, o.f, o.s, o.n, o.h, o.e.less k⟩
theorem Own1.set {B0 B1 H1 : Hp} {l : Addr} {j i : Nat} {σ : L2.St} {B H : Hp} {ρ : Rho} {ds : List PyData} {v : V} {d : PyData} (o : Own1 B0 B1 H1 l j σ B H ρ ds) (hij : i ≠ j) (dv : DH B v d) : Own1 B0 B1 H1 l j (σ.set i (some v)) B H (ρ.set i (some d)) ds :=
  ⟨o.b0, o.g, o.f, by rw [List.getElem?_set_ne hij]; exact o.s, o.n, o.h, o.e.set i dv⟩
theorem Own1.base {B0 B0' B1 H1 : Hp} {l : Addr} {j : Nat} {σ : L2.St} {B H : Hp} {ρ : Rho} {ds : List PyData} (o : Own1 B0 B1 H1 l j σ B H ρ ds) (k : Ex B0' B) : Own1 B0' B1 H1 l j σ B H ρ ds :=
  ⟨k, o.g, o.f, o.s, o.n, o.h, o.e⟩
/-- it is handed back -/
theorem Own1.done {B0 B1 H1 : Hp} {l : Addr} {j : Nat} {σ : L2.St} {B H : Hp} {ρ : Rho} {ds : List PyData} (o : Own1 B0 B1 H1 l j σ B H ρ ds) : ∃ B', Ex B B' ∧ Gr B1 H1 B' H ∧ DH B' (.ref l) (.list ds) := by
  obtain ⟨xs, h1, h2⟩ := o.h
  have nB1 : B1 l = none := o.g.b.nil o.n
  refine ⟨upd B l (.lst xs), Ex.new o.n, ⟨o.g.b.mut nB1, fun a u ha => ?_, o.g.h, fun a p1 p2 => ?_⟩, .lst upd_same (h2.mono (Ex.new o.n))⟩
  · by_cases h : a = l
    · subst h
      rw [upd_same] at ha
      cases ha
      exact h1
    · rw [upd_ne h] at ha
      exact o.g.t a u ha
  · have h : a ≠ l := fun z => p2 (by rw [z]; exact o.f)
    rw [upd_ne h]
    exact o.g.n a p1 p2
def SO (t : TS) (j : Nat) (ρ : Rho) (ds : List PyData) (ρ' : Rho) (ds' : List PyData) : Prop :=
  ∀ B0 B1 H1 l σ B H (D : Ends), Own1 B0 B1 H1 l j σ B H ρ ds → (∀ σ' B' H', Own1 B0 B1 H1 l j σ' B' H' ρ' ds' → D.nx σ' H') → t D σ H
section
variable {K : PySem.W.Frag} {ρ ρ' ρ1 ρ0 : Rho} {ta tb tc te : TE} {tt : TT} {t u tb' : TS} {d e z : PyData} {ds es ds' ds1 : List PyData} {i j : Nat} {vs : List Nat}
theorem so_seq (h : SO t j ρ ds ρ1 ds1) (k : SO u j ρ1 ds1 ρ' ds') : SO (tSeq t u) j ρ ds ρ' ds' := fun B0 B1 H1 l σ B H D o q => h B0 B1 H1 l σ B H { D with nx := u D } o fun σ' B' H' o' => k B0 B1 H1 l σ' B' H' D o' q
theorem so_next : SO tNext j ρ ds ρ ds := fun B0 B1 H1 l σ B H D o q => q σ B H o
theorem so_less (h : SO t j ρ ds ρ' ds') (k : Rle ρ0 ρ') : SO t j ρ ds ρ0 ds' := fun B0 B1 H1 l σ B H D o q => h B0 B1 H1 l σ B H D o fun σ' B' H' o' => q σ' B' H' (o'.less k)
theorem so_if {b : Bool} (h : ET tt ρ b) (h1 : b = true → SO t j ρ ds ρ' ds') (h2 : b = false → SO u j ρ ds ρ' ds') : SO (tIfS tt t u) j ρ ds ρ' ds' := fun B0 B1 H1 l σ B H D o q => by
  refine h σ B H o.g.t o.e _ fun B2 H2 g2 => ?_
  cases b with
  | true => exact h1 rfl B0 B1 H1 l σ B2 H2 D (o.mono g2) q
  | false => exact h2 rfl B0 B1 H1 l σ B2 H2 D (o.mono g2) q
theorem so_set (hij : i ≠ j) (h : ED te ρ d) : SO (tAsg te (gName i)) j ρ ds (ρ.set i (some d)) ds := fun B0 B1 H1 l σ B H D o q =>
  h σ B H o.g.t o.e _ fun v B2 H2 g2 dv => q _ B2 H2 ((o.mono g2).set hij dv)
/-- xs.append(e) -/
theorem so_app (h : ED te ρ d) (hz : ds.length < 100000) : SO (tDrop (tBM K "list" rAppend (tVar j) (tCons te tNil))) j ρ ds ρ (ds ++ [d]) := fun B0 B1 H1 l σ B H D o q => by
  refine ⟨.ref l, o.s, ?_⟩
  obtain ⟨xs0, hl0, _⟩ := o.h
  refine ⟨.inl ⟨rfl, _, SqL.of hl0⟩, ?_⟩
  refine h σ B H o.g.t o.e _ fun v B2 H2 g2 dv => ?_
  have o2 := o.mono g2
  obtain ⟨xs, hl, hx⟩ := o2.h
  refine ⟨l, xs, v, rfl, rfl, hl, ?_, q σ B2 _ ⟨o2.b0, ⟨o2.g.b, o2.g.t.mut o2.n, o2.g.h.mut o2.f, o2.g.n⟩, o2.f, o2.s, o2.n, ⟨_, upd_same, hx.append (.one dv)⟩, o2.e⟩⟩
  rw [hx.length]
  exact Nat.lt_trans hz (by decide)
/-- a for over data, gathering into the list -/
theorem so_for {α : Type} {wi : TI} {items : List α} (enc : α → PyData) (F : List PyData → α → List PyData) (hij : i ≠ j) (hi : IE wi ρ0 (items.map enc))
    (turn : ∀ x ∈ items, ∀ ds0, ds0.length ≤ ds.length + 100 * items.length → SO tb' j (ρ0.set i (some (enc x))) ds0 ρ0 (F ds0 x))
    (hF : ∀ ds0 x, (F ds0 x).length ≤ ds0.length + 100) : SO (tFor wi (gName i) tb') j ρ0 ds ρ0 (items.foldl F ds) := fun B0 B1 H1 l σ B H D o q => by
  refine hi σ B H o.g.t o.e _ fun J B2 H2 g2 hJ => ?_
  refine ⟨fun n m σ' H' => m = items.length - n ∧ n ≤ items.length ∧ ∃ B', Own1 B2 B1 H1 l j σ' B' H' ρ0 ((items.take n).foldl F ds) ∧ ((items.take n).foldl F ds).length ≤ ds.length + 100 * n, ⟨items.length, by omega, Nat.zero_le _, B2, (o.mono g2).base (Ex.refl B2), by simp⟩, ?_⟩
  rintro n m σ' H' ⟨rfl, hle, B', o', hlen⟩
  obtain ⟨hstop, hgo⟩ := hJ B' H' o'.b0 o'.g.t n
  by_cases hlt : n < items.length
  · right
    have hd : items[n]? = some items[n] := List.getElem?_eq_getElem hlt
    obtain ⟨go, hy⟩ := hgo (enc items[n]) (by rw [List.getElem?_map, hd]; rfl)
    have htk : (items.take (n + 1)).foldl F ds = F ((items.take n).foldl F ds) items[n] := by
      rw [List.take_add_one, hd, List.foldl_append]
      rfl
    refine ⟨go, fun σ2 H2 => n + 1 ≤ items.length ∧ ∃ B', Own1 B2 B1 H1 l j σ2 B' H2 ρ0 ((items.take (n + 1)).foldl F ds) ∧ ((items.take (n + 1)).foldl F ds).length ≤ ds.length + 100 * (n + 1), fun σ2 H2 ⟨p1, p2⟩ => ⟨items.length - (n + 1), by omega, rfl, p1, p2⟩, fun x H3 hyl => ?_⟩
    obtain ⟨B3, g3, dx⟩ := hy x H3 hyl
    have hFl := hF ((items.take n).foldl F ds) items[n]
    refine turn items[n] (List.getElem_mem _) _ (by have : 100 * n ≤ 100 * items.length := Nat.mul_le_mul_left _ hle; omega) B2 B1 H1 l _ B3 H3 _ ((o'.mono g3).set hij dx) ?_
    intro σ4 B4 H4 o4
    exact ⟨hlt, B4, by rw [htk]; exact o4, by rw [htk]; omega⟩
  · left
    have hie : n = items.length := by omega
    subst hie
    refine ⟨hstop (by rw [List.length_map]), ?_⟩
    rw [List.take_length] at o'
    exact q σ' B' H' (o'.base ((o.b0.trans g2.b).trans o'.b0))
/-- xs = []; ..; return xs -/
theorem rd_own {n : Nat} (hj : j < ρ.length) (h : SO t j (ρ.set j none) [] ρ' ds) : RD (tSeq (tAsg (tLst tNil) (gName j)) (tSeq t (tRet (tVar j)))) ρ (.list ds) := fun σ B H D ex ev q => by
  refine ⟨Nat.zero_le _, fun l hl => ?_⟩
  have g := Gr.own (o := .lst []) ex hl
  refine h B B H l _ B _ { D with nx := tRet (tVar j) D } ⟨Ex.refl B, g, hl, List.getElem?_set_self (by rw [ev.len]; exact hj), ex.nil hl, ⟨[], upd_same, .nil⟩, ev.forget j _⟩ fun σ' B' H' o => ?_
  obtain ⟨B2, _, g2, d2⟩ := o.done
  exact ⟨_, o.s, q _ B2 H' g2 d2⟩

/-! ### loops without a list of one's own -/
theorem sd_for {α : Type} {wi : TI} {g : TG} {items : List α} (enc : α → PyData) (hi : IE wi ρ0 (items.map enc))
    (turn : ∀ (n : Nat) (x : α), items[n]? = some x → ∃ ρ1 vs, GD g ρ0 (enc x) ρ1 vs ∧ SD tb' ρ1 ρ0) : SD (tFor wi g tb') ρ0 ρ0 := fun σ B H D ex ev q => by
  refine hi σ B H ex ev _ fun J B2 H2 g2 hJ => ?_
  refine ⟨fun n m σ' H' => m = items.length - n ∧ n ≤ items.length ∧ ∃ B', Gr B2 H2 B' H' ∧ EnvD σ' B' ρ0, ⟨items.length, by omega, Nat.zero_le _, B2, Gr.refl g2.t, ev.mono g2.b⟩, ?_⟩
  rintro n m σ' H' ⟨rfl, hle, B', g3, ev3⟩
  obtain ⟨hstop, hgo⟩ := hJ B' H' g3.b g3.t n
  by_cases hlt : n < items.length
  · right
    have hd : items[n]? = some items[n] := List.getElem?_eq_getElem hlt
    obtain ⟨go, hy⟩ := hgo (enc items[n]) (by rw [List.getElem?_map, hd]; rfl)
    refine ⟨go, fun σ2 H2' => n + 1 ≤ items.length ∧ ∃ B', Gr B2 H2 B' H2' ∧ EnvD σ2 B' ρ0, fun σ2 H2 ⟨p1, p2⟩ => ⟨items.length - (n + 1), by omega, rfl, p1, p2⟩, fun x H3 hyl => ?_⟩
    obtain ⟨B3, g4, dx⟩ := hy x H3 hyl
    obtain ⟨ρ1, vs, hg, hs⟩ := turn n _ hd
    refine hg σ' B3 H3 x g4.t (ev3.mono g4.b) dx _ fun σ4 ev4 _ => ?_
    refine hs σ4 B3 H3 _ g4.t ev4 fun σ5 B5 H5 g5 ev5 => ?_
    exact ⟨hlt, B5, (g3.trans g4).trans g5, ev5⟩
  · left
    have hie : n = items.length := by omega
    subst hie
    exact ⟨hstop (by rw [List.length_map]), q σ' B' H' (g2.trans g3) ev3⟩
theorem sd_less (h : SD t ρ ρ') (k : Rle ρ0 ρ') : SD t ρ ρ0 := fun σ B H D ex ev q => h σ B H D ex ev fun σ' B' H' g ev' => q σ' B' H' g (ev'.less k)
theorem sd_drop (h : ED te ρ d) : SD (tDrop te) ρ ρ := fun σ B H D ex ev q => h σ B H ex ev _ fun v B' H' g dv => q σ B' H' g (ev.mono g.b)
/-- if t: raise .., t being false -/
theorem sd_ifNo (h : ET tt ρ false) : SD (tIfS tt u tNext) ρ ρ := fun σ B H D ex ev q => h σ B H ex ev _ fun B' H' g => q σ B' H' g (ev.mono g.b)
/-! ### enumerate -/
theorem ie_enumT {ta : TA} (h : EA ta ρ [.tuple ds]) : IE (iEnumX K ta) ρ (ds.zipIdx.map fun p => .tuple [.int p.2, p.1]) := fun σ B H ex ev R q => by
  refine h σ B H ex ev _ fun vs B1 H1 g1 d1 => ?_
  cases d1 with
  | cons a1 r =>
    cases r
    cases a1 with
    | @tup a xs _ ha hs =>
      have hl := hs.length
      refine ⟨a, xs, rfl, .inr ⟨SqT.of (g1.t _ _ ha), q _ B1 H1 g1 fun B2 H2 e1 e2 i => ⟨fun hi => ?_, fun d hd => ?_⟩⟩⟩
      · rw [List.length_map, List.length_zipIdx] at hi
        exact ⟨xs, SqT.of (e2 _ _ (e1 _ _ ha)), by omega⟩
      · rw [List.getElem?_map, List.getElem?_zipIdx] at hd
        cases hd1 : ds[i]? with
        | none => rw [hd1] at hd; simp at hd
        | some d0 =>
          rw [hd1] at hd
          simp at hd
          subst hd
          obtain ⟨v, hv, dv⟩ := hs.get hd1
          refine ⟨⟨xs, v, SqT.of (e2 _ _ (e1 _ _ ha)), hv⟩, fun y H' hy => ?_⟩
          obtain ⟨T, y', rfl, hT, rfl, hy'⟩ := hy
          have e3 := hy' xs (SqT.of (e2 _ _ (e1 _ _ ha)))
          rw [hv] at e3
          cases e3
          have g := Gr.new (o := .tup [.int (i : Nat), v]) e2 hT
          exact ⟨_, g, .tup upd_same (.cons (.int _) (.cons (dv.mono (e1.trans g.b)) .nil))⟩
theorem ie_enumL {ta : TA} (h : EA ta ρ [.list ds]) : IE (iEnumX K ta) ρ (ds.zipIdx.map fun p => .tuple [.int p.2, p.1]) := fun σ B H ex ev R q => by
  refine h σ B H ex ev _ fun vs B1 H1 g1 d1 => ?_
  cases d1 with
  | cons a1 r =>
    cases r
    cases a1 with
    | @lst a xs _ ha hs =>
      have hl := hs.length
      refine ⟨a, xs, rfl, .inl ⟨SqL.of (g1.t _ _ ha), q _ B1 H1 g1 fun B2 H2 e1 e2 i => ⟨fun hi => ?_, fun d hd => ?_⟩⟩⟩
      · rw [List.length_map, List.length_zipIdx] at hi
        exact ⟨xs, SqL.of (e2 _ _ (e1 _ _ ha)), by omega⟩
      · rw [List.getElem?_map, List.getElem?_zipIdx] at hd
        cases hd1 : ds[i]? with
        | none => rw [hd1] at hd; simp at hd
        | some d0 =>
          rw [hd1] at hd
          simp at hd
          subst hd
          obtain ⟨v, hv, dv⟩ := hs.get hd1
          refine ⟨⟨xs, v, SqL.of (e2 _ _ (e1 _ _ ha)), hv⟩, fun y H' hy => ?_⟩
          obtain ⟨T, y', rfl, hT, rfl, hy'⟩ := hy
          have e3 := hy' xs (SqL.of (e2 _ _ (e1 _ _ ha)))
          rw [hv] at e3
          cases e3
          have g := Gr.new (o := .tup [.int (i : Nat), v]) e2 hT
          exact ⟨_, g, .tup upd_same (.cons (.int _) (.cons (dv.mono (e1.trans g.b)) .nil))⟩
/-- a tuple of the module's own, of texts, walked -/
theorem ie_K {a : Addr} {xs : List V} (hT : ∀ H : Hp, SqT K H a xs) (hx : DHs (fun _ => none) xs ds) : IE (iTup K (tC (.ref a))) ρ ds := fun σ B H ex ev R q => by
  refine ⟨a, rfl, ⟨xs, hT H⟩, q _ B H (Gr.refl ex) fun B2 H2 e1 e2 i => ⟨fun hi => ⟨xs, hT _, by rw [hx.length]; omega⟩, fun d hd => ?_⟩⟩
  obtain ⟨x, hx', dx⟩ := hx.get hd
  refine ⟨⟨xs, x, hT _, hx'⟩, fun y H' ⟨eh, hy⟩ => ⟨B2, ?_, ?_⟩⟩
  · subst eh
    exact Gr.refl e2
  · have := hy xs (hT _)
    rw [hx'] at this
    cases this
    exact dx.mono (fun _ _ z => by cases z)
end
/-- a def over data that falls off its end -/
theorem def_okN {P : Program} {w : World} {K : PySem.W.Frag} {mg : Str → Option Value} {base : Heap} {x : Str} {st : Stmt} {ps N : List Str} {k : Nat} {R : List PyData → Prop}
    (F : At K mg x st ps) (S : FnScope N ps (defScope st)) (len : ∀ ds, R ds → ds.length = ps.length)
    (hbody : ∀ (f : Addr) (cdv : Value) (A : Around) (outer : List Env) (s : Shared) (H : Hp) (E : XK), Room k (A.deeper (envOfC x (defScope st) s.heap.objs.size f cdv)) →
      ∃ t, PSs (cxOf CX0 P w K mg base N x (defScope st) f cdv A outer s H E).nox (defBody st) t ∧ ∀ ds, R ds → ∃ ρ', SD t (ds.map some ++ List.replicate (N.length - ds.length) none) ρ') (hN : ps.length ≤ N.length := by decide) :
    DefD P w K mg base (k + 1) x ps (fun ds d => R ds ∧ d = .none) := by
  refine def_ok F S (fun vs H Q E ⟨B, ds, d, _, h1, h2, _⟩ => ?_) fun f cdv A outer s H vs Q E hr ⟨B, ds, d, ex, h1, ⟨h2, e⟩, q⟩ => ?_
  · rw [h1.length]
    exact len ds h2.1
  · obtain ⟨t, ht, hd⟩ := hbody f cdv A outer s H E hr
    obtain ⟨ρ', hsd⟩ := hd ds h2
    subst e
    refine ⟨t, ht, hsd _ B H _ ex (env_start h1 ?_) fun σ' B' H' g _ => q _ B' H' g .non⟩
    rw [h1.length, len ds h2]
    exact hN
end Pd

/-! Sem7 -/
set_option Elab.async false
set_option linter.all false
set_option maxRecDepth 100000
set_option maxHeartbeats 4000000
namespace Pd
open PySem PySem.Spec PyProof.Rows L2 PySem.W
local macro_rules | `(tactic| walk_at "ed") => `(tactic| repeat' (first
  | with_reducible (first
    | exact ed_int | exact ed_str | exact ed_bl | exact ed_non
    | exact ea_nil | refine' ea_cons ?_ ?_
    | refine' ed_isi ?_ ?_ | refine' ed_isi2 ?_ ?_ ?_
    | refine' ed_andV ?_ (fun _ => ?_) | refine' ed_orV ?_ (fun _ => ?_) | refine' ed_notV ?_
    | refine' ed_chain ?_ ?_ ?_ (fun _ => ⟨?_, ?_⟩)
    | refine' ed_tup ?_ ?_ | refine' ed_lst ?_ ?_
    | refine' et_not ?_ | refine' et_and ?_ (fun _ => ?_) | refine' et_or ?_ (fun _ => ?_) | exact et_yes
    | refine' et_test ?_ | refine' et_B ?_
    | refine' ed_op ?_ ?_ ?_
    | refine' ed_cb ?_ ?_)
  | exact ed_var rfl
  | exact kit_tt | exact kit_ii | exact kit_ib | exact kit_ll | exact kit_lt | exact kit_tl
  | exact r2_addI | exact r2_subI | exact r2_lt | exact r2_le | exact r2_gt | exact r2_ge | exact r2_isN | exact r2_notN
  | exact rc_lenT | exact rc_lenL | exact rc_intB | exact rc_tupL
  | with_reducible (first | refine' r2_eq ?_ ?_ | refine' r2_ne ?_ ?_)
  | exact sh_int _ | exact sh_sg _ | exact sh_cell _ | exact sh_edge _ | exact sh_pair _ | exact sh_str _ (by decide +kernel)
  | exact r2_ixT rfl | exact r2_ixL rfl
  | refine' ed_tup ?_ ?_
  | (show List.length _ ≤ 100000; simp; done)))
/-! ### all steps -/
def ways4 : List Sg := [.e, .n, .s, .w]
theorem ways4_way : ∀ w ∈ ways4, Way w := by
  intro w hw
  simp [ways4] at hw
  rcases hw with rfl | rfl | rfl | rfl
  · exact .inl rfl
  · exact .inr (.inl rfl)
  · exact .inr (.inr (.inl rfl))
  · exact .inr (.inr (.inr rfl))
def moveD (m : Nat × Sg × Stand × Option Nat) : PyData := .tuple [stepD m.1 m.2.1, standD m.2.2.1, optN m.2.2.2]
def addMove (h : Hall) (s : Stand) (k : Nat) (ds : List PyData) (w : Sg) : List PyData :=
  match stepDone h s k w with
  | none => ds
  | some p => ds ++ [moveD (k, w, p.1, p.2)]
def addMoves (h : Hall) (s : Stand) (ds : List PyData) (k : Nat) : List PyData := ways4.foldl (addMove h s k) ds
def movesD (h : Hall) (s : Stand) : List PyData := (List.range s.cells.length).foldl (addMoves h s) []
theorem addMove_len (h : Hall) (s : Stand) (k : Nat) (ds : List PyData) (w : Sg) : (addMove h s k ds w).length ≤ ds.length + 1 := by
  unfold addMove
  split
  · omega
  · rw [List.length_append, List.length_singleton]
    omega
theorem addMoves_len (h : Hall) (s : Stand) (ds : List PyData) (k : Nat) : (addMoves h s ds k).length ≤ ds.length + 4 := by
  unfold addMoves ways4
  simp only [List.foldl_cons, List.foldl_nil]
  have h1 := addMove_len h s k ds .e
  have h2 := addMove_len h s k (addMove h s k ds .e) .n
  have h3 := addMove_len h s k (addMove h s k (addMove h s k ds .e) .n) .s
  have h4 := addMove_len h s k (addMove h s k (addMove h s k (addMove h s k ds .e) .n) .s) .w
  omega
/-- what a hall and a standing must be for steps to be done -/
structure SOk (h : Hall) (s : Stand) : Prop where
  walls : ∀ e ∈ h.walls, HV e
  nwalls : h.walls.length ≤ 100
  ndoors : h.doors.length ≤ 100
  ways : ∀ x ∈ s.ways, Way x
  nways : s.ways.length = h.doors.length
  cells : ∀ c ∈ s.cells, inH h c = true
  ncells : s.cells.length ≤ 100
theorem SOk.step {h : Hall} {s : Stand} (o : SOk h s) {k : Nat} {w : Sg} (hk : k < s.cells.length) (hw : Way w) : StepOk h s k w := ⟨o.walls, o.nwalls, o.ndoors, o.ways, o.nways, o.cells, o.ncells, hk, hw⟩
inductive R_moves : List PyData → PyData → Prop | mk (h : Hall) (s : Stand) (o : SOk h s) : R_moves [hallD h, standD s] (.list (movesD h s))
theorem sg_map : ("ensw" : Str).cps.toList.map (fun c => PyData.str ⟨#[c]⟩) = ways4.map sg := by
  have e : ("ensw" : Str).cps.toList = [101, 110, 115, 119] := by decide +kernel
  rw [e]
  rfl
theorem ways_DHs : DHs (fun _ => none) [.str "e", .str "n", .str "s", .str "w"] (ways4.map sg) := by
  have e1 : (V.str "e") = .str ⟨#[101]⟩ := congrArg V.str (by decide +kernel)
  have e2 : (V.str "n") = .str ⟨#[110]⟩ := congrArg V.str (by decide +kernel)
  have e3 : (V.str "s") = .str ⟨#[115]⟩ := congrArg V.str (by decide +kernel)
  have e4 : (V.str "w") = .str ⟨#[119]⟩ := congrArg V.str (by decide +kernel)
  rw [e1, e2, e3, e4]
  exact .cons (.str _) (.cons (.str _) (.cons (.str _) (.cons (.str _) .nil)))
section
variable {K : PySem.W.Frag}
/-- the body of both loops, whatever does the step -/
theorem so_moves {R : List PyData → PyData → Prop} {wi : TI} (h : Hall) (s : Stand) (o : SOk h s) (hR : ∀ k w, k < s.cells.length → Way w → R [hallD h, standD s, stepD (k : Nat) w] (doneD (stepDone h s k w)))
    (hwi : ∀ k : Nat, IE wi [some (hallD h), some (standD s), none, some (.int k), none, none] (ways4.map sg)) :
    SO (tFor (iRng1 (tCons (tCB (rLenX K) (tCons (tOp (rIx K) (tVar 1) (tC (.int 0))) tNil)) tNil)) (gName 3) (tFor wi (gName 4) (tSeq (tAsg (tCallD (spR R) (tCons (tVar 0) (tCons (tVar 1) (tCons (tTup (tCons (tVar 3) (tCons (tVar 4) tNil))) tNil)))) (gName 5)) (tIfS (tTest (tOp rNotN (tVar 5) (tC .non))) (tDrop (tBM K "list" rAppend (tVar 2) (tCons (tTup (tCons (tTup (tCons (tVar 3) (tCons (tVar 4) tNil))) (tCons (tOp (rIx K) (tVar 5) (tC (.int 0))) (tCons (tOp (rIx K) (tVar 5) (tC (.int 1))) tNil)))) tNil))) tNext))))
      2 [some (hallD h), some (standD s), none, none, none, none] [] [some (hallD h), some (standD s), none, none, none, none] (movesD h s) := by
  have nc := o.ncells
  have hi := ie_rng1 (ρ := [some (hallD h), some (standD s), none, none, none, none]) (ta := tCons (tCB (rLenX K) (tCons (tOp (rIx K) (tVar 1) (tC (.int 0))) tNil)) tNil) (n := ((s.cells.map cellD).length : Nat)) (ea_cons (ed_cb (ea_cons (ed_op (ed_var rfl) ed_int (r2_ixT rfl)) ea_nil) rc_lenT) ea_nil) (by omega) (by rw [List.length_map]; omega)
  rw [Int.toNat_natCast, List.length_map] at hi
  refine so_for (fun k => .int (k : Nat)) (addMoves h s) (by decide) hi (fun k hk ds0 hl0 => ?_) (fun ds0 x => Nat.le_trans (addMoves_len h s ds0 x) (by omega))
  have hkl : k < s.cells.length := List.mem_range.mp hk
  rw [List.length_range] at hl0
  simp only [List.length_nil] at hl0
  show SO _ 2 [some (hallD h), some (standD s), none, some (.int k), none, none] ds0 _ (ways4.foldl (addMove h s k) ds0)
  refine so_less (ρ' := [some (hallD h), some (standD s), none, some (.int k), none, none]) ?_ ((Rle.refl [some (hallD h), some (standD s), none, none, none, none]).set (i := 3) rfl)
  refine so_for sg (addMove h s k) (by decide) (hwi k) (fun w hw ds1 hl1 => ?_) (fun ds0 x => Nat.le_trans (addMove_len h s k ds0 x) (by omega))
  show SO _ 2 [some (hallD h), some (standD s), none, some (.int k), some (sg w), none] ds1 _ _
  have hww := ways4_way w hw
  have hl1' : ds1.length ≤ ds0.length + 400 := hl1
  refine so_seq (so_set (by decide) (ed_call (ea_cons (ed_var rfl) (ea_cons (ed_var rfl) (ea_cons (ed_tup (ea_cons (ed_var rfl) (ea_cons (ed_var rfl) ea_nil)) (by simp)) ea_nil))) (hR k w hkl hww))) ?_
  have rl : Rle [some (hallD h), some (standD s), none, some (.int k), none, none] [some (hallD h), some (standD s), none, some (.int k), some (sg w), some (doneD (stepDone h s k w))] :=
    ((Rle.refl [some (hallD h), some (standD s), none, some (.int k), none, none]).set (i := 4) (o := some (sg w)) rfl).set (i := 5) rfl
  refine so_less (ρ' := [some (hallD h), some (standD s), none, some (.int k), some (sg w), some (doneD (stepDone h s k w))]) ?_ rl
  unfold addMove
  cases hs : stepDone h s k w with
  | none =>
    exact so_if (b := false) (ET.is (et_test (ed_op (ed_var rfl) ed_non r2_notN)) rfl) (fun z => nomatch z) fun _ => so_next
  | some p =>
    refine so_if (b := true) (ET.is (et_test (ed_op (ed_var rfl) ed_non r2_notN)) rfl) (fun _ => ?_) (fun z => nomatch z)
    refine so_app (d := moveD (k, w, p.1, p.2)) (ED.is (ed_tup (ea_cons (ed_tup (ea_cons (ed_var rfl) (ea_cons (ed_var rfl) ea_nil)) (by simp)) (ea_cons (ed_op (ed_var rfl) ed_int (r2_ixT rfl)) (ea_cons (ed_op (ed_var rfl) ed_int (r2_ixT rfl)) ea_nil))) (by simp)) rfl) (by omega)
theorem rp_moves_from {aW : Addr} (hT : ∀ H : Hp, SqT K H aW [.str "e", .str "n", .str "s", .str "w"]) {ds : List PyData} {d : PyData} (h : R_moves ds d) :
    RD (rd_moves_from K aW (spR R_step_done)) (ds.map some ++ List.replicate (6 - ds.length) none) d := by
  obtain ⟨h, s, o⟩ := h
  exact rd_own (n := 0) (by simp) (so_moves h s o (fun k w hk hw => .mk h s k w o.ndoors o.nways o.ncells hk) fun k => ie_K hT ways_DHs)
theorem rp_L_steps {ds : List PyData} {d : PyData} (h : R_moves ds d) : RD (rd_L_steps K (spR R_L_step)) (ds.map some ++ List.replicate (6 - ds.length) none) d := by
  obtain ⟨h, s, o⟩ := h
  refine rd_own (n := 0) (by simp) (so_moves h s o (fun k w hk hw => .mk h s k w (o.step hk hw)) fun k => ?_)
  have h1 := ie_str (ρ := [some (hallD h), some (standD s), none, some (.int k), none, none]) (te := tC (.str "ensw")) (x := "ensw") ed_str
  rw [sg_map] at h1
  exact h1
theorem rp_is_step_ok {aW : Addr} (hT : ∀ H : Hp, SqT K H aW [.str "e", .str "n", .str "s", .str "w"]) {cs : List Cell} {k : Nat} {w : Sg} (hk : k < cs.length) (hw : Way w) :
    RD (rd_is_step K aW (spR R_is_number)) [some (cellsD cs), some (stepD k w), none, none] (.bool true) := by
  refine rd_ifS (b := false) (ET.is (by walk_at "ed") (by simp [eqv_int])) (fun z => nomatch z) (fun _ => ?_)
  refine rd_seq (sd_asg (d := stepD k w) (by walk_at "ed") (gd_tup (vs := [2, 3]) (gds_cons (gd_name (by simp)) (gds_cons (gd_name (by simp)) gds_nil)) rfl)) ?_
  refine rd_ret (ED.is (ed_andV (ed_call (by walk_at "ed") (.mk k)) fun _ => ed_andV (ed_chain ed_int (ed_var rfl) r2_le fun _ => ⟨ed_cb (ea_cons (ed_var rfl) ea_nil) rc_lenT, r2_lt⟩) fun _ => ed_inWays hT (w := w) (by walk_at "ed") hw) ?_)
  have h1 : (0 : Int) ≤ (k : Int) := by omega
  simp [hk]
/-! ### halls that are halls -/
theorem sdx_seq {t u : TS} {ρ ρ1 : Rho} (h : SD t ρ ρ1) (k : ∃ ρ', SD u ρ1 ρ') : ∃ ρ', SD (tSeq t u) ρ ρ' := let ⟨r, z⟩ := k; ⟨r, sd_seq h z⟩
structure HallOk (h : Hall) : Prop where
  rows : 1 ≤ h.rows ∧ h.rows ≤ 5
  cols : 1 ≤ h.cols ∧ h.cols ≤ 5
  nwalls : h.walls.length ≤ 24
  ndoors : h.doors.length ≤ 6
  walls : ∀ e ∈ h.walls, isEdge h e = true
  nodupW : h.walls.Nodup
  ways : ∀ e ∈ h.doors, Way e.2.2
  doors : ∀ e ∈ h.doors, isEdge h (edgeFrom e.1 e.2.1 e.2.2) = true
  apart : ∀ e ∈ h.doors, edgeFrom e.1 e.2.1 e.2.2 ∉ h.walls
  nodupD : (h.doors.map fun e => edgeFrom e.1 e.2.1 e.2.2).Nodup
structure CellsOk (h : Hall) (cs : List Cell) : Prop where
  pos : cs ≠ []
  most : cs.length ≤ 3
  cells : ∀ c ∈ cs, inH h c = true
  nodup : cs.Nodup
theorem isEdge_hv {h : Hall} {e : Edge} (he : isEdge h e = true) : HV e := by
  unfold isEdge at he
  simp only [Bool.and_eq_true] at he
  by_cases hh : e.2.2 = .h
  · exact .inl hh
  · rw [if_neg hh] at he
    simp only [Bool.and_eq_true, decide_eq_true_eq] at he
    exact .inr he.2.1
/-- check_edges(h, part, es, most, taken): none is refused -/
def R_check_edges (ds : List PyData) : Prop := ∃ (h : Hall) (part : Int) (es taken : List Edge) (most : Nat) (c : PyData),
  ds = [hallD h, .int part, c, .int (most : Nat), .tuple (taken.map edgeD)] ∧ (c = .tuple (es.map edgeD) ∨ c = .list (es.map edgeD)) ∧ es.length ≤ most ∧ (∀ e ∈ es, isEdge h e = true) ∧ (∀ e ∈ es, e ∉ taken) ∧ es.Nodup
theorem not_mem_take {α : Type} {xs : List α} (h : xs.Nodup) {n : Nat} {x : α} (hx : xs[n]? = some x) : x ∉ xs.take n := fun hm => by
  obtain ⟨i, hi, e⟩ := List.mem_iff_getElem.mp hm
  rw [List.length_take] at hi
  rw [List.getElem_take] at e
  obtain ⟨hn, e2⟩ := List.getElem?_eq_some_iff.mp hx
  have h3 : xs[i] = xs[n] := by rw [e, e2]
  have := (List.getElem_inj h).mp h3
  omega
theorem cut_take (ds : List PyData) (n : Nat) (hn : n ≤ ds.length) : cutD ds none (some (n : Int)) = ds.take n := by
  unfold cutD
  rw [HT.sIx_none, HT.sIx_nat, List.drop_zero, Nat.min_eq_left hn, Nat.sub_zero]
theorem rp_check_edges {ds : List PyData} (hR : R_check_edges ds) : ∃ ρ', SD (rd_check_edges K (spR R_is_edge)) (ds.map some ++ List.replicate (7 - ds.length) none) ρ' := by
  obtain ⟨h, part, es, taken, most, c, rfl, hc, hmost, hedge, htaken, hnd⟩ := hR
  have hi : IE (iEnumX K (tCons (tVar 2) tNil)) [some (hallD h), some (.int part), some c, some (.int (most : Nat)), some (.tuple (taken.map edgeD)), none, none] (es.zipIdx.map fun p => .tuple [.int p.2, edgeD p.1]) := by
    have e : (es.map edgeD).zipIdx.map (fun p => PyData.tuple [.int (p.2 : Nat), p.1]) = es.zipIdx.map fun p => .tuple [.int p.2, edgeD p.1] := by
      rw [List.zipIdx_map, List.map_map]
      rfl
    rw [← e]
    rcases hc with rfl | rfl
    · exact ie_enumT (ea_cons (ed_var rfl) ea_nil)
    · exact ie_enumL (ea_cons (ed_var rfl) ea_nil)
  refine ⟨_, sd_for (ρ0 := [some (hallD h), some (.int part), some c, some (.int (most : Nat)), some (.tuple (taken.map edgeD)), none, none]) (fun p : Edge × Nat => .tuple [.int p.2, edgeD p.1]) hi fun n x hx => ?_⟩
  rw [List.getElem?_zipIdx] at hx
  cases hxe : es[n]? with
  | none => rw [hxe] at hx; simp at hx
  | some e =>
    rw [hxe] at hx
    simp at hx
    subst hx
    have hem : e ∈ es := List.mem_of_getElem? hxe
    have hnl : n < es.length := (List.getElem?_eq_some_iff.mp hxe).1
    refine ⟨[some (hallD h), some (.int part), some c, some (.int (most : Nat)), some (.tuple (taken.map edgeD)), some (.int n), some (edgeD e)], [5, 6], gd_tup (gds_cons (gd_name (by simp)) (gds_cons (gd_name (by simp)) gds_nil)) rfl, ?_⟩
    refine sd_less (ρ' := [some (hallD h), some (.int part), some c, some (.int (most : Nat)), some (.tuple (taken.map edgeD)), some (.int n), some (edgeD e)]) ?_ (((Rle.refl [some (hallD h), some (.int part), some c, some (.int (most : Nat)), some (.tuple (taken.map edgeD)), none, none]).set (i := 5) (o := some (.int n)) rfl).set (i := 6) rfl)
    have t1 : ET (tOr (tTest (tOp (rEqD K) (tVar 5) (tVar 3))) (tNot (tB (tCallD (spR R_is_edge) (tCons (tVar 0) (tCons (tVar 6) tNil))))))
        [some (hallD h), some (.int part), some c, some (.int (most : Nat)), some (.tuple (taken.map edgeD)), some (.int n), some (edgeD e)] false := by
      refine ET.is (et_or (et_test (ed_op (ed_var rfl) (ed_var rfl) (r2_eq (sh_int _) (sh_int _)))) fun _ => et_not (et_B (ed_call (by walk_at "ed") (.mk h e)))) ?_
      rw [eqv_int, hedge e hem]
      have : ¬ ((n : Int) = (most : Int)) := by omega
      simp [this]
    refine sd_seq (sd_ifNo t1) (sd_ifNo (ET.is (et_or (b := false) (et_test (ED.is (ed_op (ed_var rfl) (ed_var rfl) (r2_inT (sh_edge _) (sh_edges _))) (congrArg PyData.bool (any_edge _ _)))) fun _ => et_test ?_) ?_))
    · have hz : ((es.take n).map edgeD) = cutD (es.map edgeD) none (some (n : Int)) := by
        rw [cut_take _ _ (by rw [List.length_map]; omega), List.map_take]
      have hno : decide (e ∈ es.take n) = false := decide_eq_false (not_mem_take hnd hxe)
      rcases hc with rfl | rfl
      · refine ED.is (ed_op (ed_var rfl) (ED.is (d' := .tuple ((es.take n).map edgeD)) (ed_slT (ed_var rfl) eo_none (eo_some (ed_var rfl))) (by rw [hz])) (r2_inT (sh_edge _) (sh_edges _))) (congrArg PyData.bool ((any_edge _ _).trans hno))
      · refine ED.is (ed_op (ed_var rfl) (ED.is (d' := .list ((es.take n).map edgeD)) (ed_slL (ed_var rfl) eo_none (eo_some (ed_var rfl))) (by rw [hz])) (r2_inL (sh_edge _) (sh_edgesL _))) (congrArg PyData.bool ((any_edge _ _).trans hno))
    · rw [Bool.or_false]
      exact decide_eq_false (htaken e hem)
abbrev RN (R : List PyData → Prop) : List PyData → PyData → Prop := fun ds d => R ds ∧ d = .none
def R_check_hall (ds : List PyData) : Prop := ∃ h : Hall, ds = [hallD h] ∧ HallOk h
theorem rp_check_hall {ds : List PyData} (hR : R_check_hall ds) : ∃ ρ', SD (rd_check_hall K (spR (RN R_check_edges)) (spR R_door_edge) (spR R_is_side)) (ds.map some ++ List.replicate (6 - ds.length) none) ρ' := by
  obtain ⟨h, rfl, o⟩ := hR
  have nd := o.ndoors
  refine sdx_seq (sd_ifNo (ET.is (by walk_at "ed") (by simp [eqv_int]))) ?_
  refine sdx_seq (sd_asg (d := hallD h) (by walk_at "ed") (gd_tup (vs := [1, 2, 3, 4]) (gds_cons (gd_name (by simp)) (gds_cons (gd_name (by simp)) (gds_cons (gd_name (by simp)) (gds_cons (gd_name (by simp)) gds_nil)))) rfl)) ?_
  refine sdx_seq (sd_ifNo (ET.is (et_not (et_B (ed_call (by walk_at "ed") (.mk h.rows)))) (by simp [o.rows]))) ?_
  refine sdx_seq (sd_ifNo (ET.is (et_not (et_B (ed_call (by walk_at "ed") (.mk h.cols)))) (by simp [o.cols]))) ?_
  refine sdx_seq (sd_ifNo (ET.is (by walk_at "ed") (by rfl))) ?_
  refine sdx_seq (sd_drop (ed_call (R := RN R_check_edges) (ea_cons (ed_var rfl) (ea_cons ed_int (ea_cons (ed_var rfl) (ea_cons ed_int (ea_cons (ed_tup ea_nil (by simp)) ea_nil))))) ⟨⟨h, 2, h.walls, [], 24, _, rfl, .inl rfl, o.nwalls, o.walls, fun _ _ z => (by simp at z), o.nodupW⟩, rfl⟩)) ?_
  refine sdx_seq (sd_ifNo (ET.is (by walk_at "ed") (by rfl))) ?_
  refine ⟨_, sd_drop (ed_call (R := RN R_check_edges) (ea_cons (ed_var rfl) (ea_cons ed_int (ea_cons (d := .list ((h.doors.map fun e => edgeFrom e.1 e.2.1 e.2.2).map edgeD)) ?_ (ea_cons ed_int (ea_cons (ed_var rfl) ea_nil))))) ⟨⟨h, 3, h.doors.map fun e => edgeFrom e.1 e.2.1 e.2.2, h.walls, 6, _, rfl, .inr rfl, by rw [List.length_map]; exact nd, ?_, ?_, o.nodupD⟩, rfl⟩)⟩
  · refine ED.is (ed_lcM h.doors edgeD (fun e => edgeD (edgeFrom e.1 e.2.1 e.2.2)) (ie_tup (ed_var rfl)) (by omega) fun e he => ⟨_, gd_name (by simp), ed_call (ea_cons (ed_var rfl) ea_nil) (.mk e (o.ways e he))⟩) ?_
    rw [List.map_map]
    rfl
  · intro e he
    obtain ⟨x, hx, rfl⟩ := List.mem_map.mp he
    exact o.doors x hx
  · intro e he
    obtain ⟨x, hx, rfl⟩ := List.mem_map.mp he
    exact o.apart x hx
def R_check_cells (ds : List PyData) : Prop := ∃ (h : Hall) (cs : List Cell), ds = [hallD h, cellsD cs] ∧ CellsOk h cs
theorem rp_check_cells {ds : List PyData} (hR : R_check_cells ds) : ∃ ρ', SD (rd_check_cells K (spR R_is_cell)) (ds.map some ++ List.replicate (4 - ds.length) none) ρ' := by
  obtain ⟨h, cs, rfl, o⟩ := hR
  refine sdx_seq (sd_ifNo (ET.is (by walk_at "ed") (by rw [eqv_int]; simp [o.pos]))) ?_
  have hi : IE (iEnumX K (tCons (tVar 1) tNil)) [some (hallD h), some (cellsD cs), none, none] (cs.zipIdx.map fun p => .tuple [.int p.2, cellD p.1]) := by
    have e : (cs.map cellD).zipIdx.map (fun p => PyData.tuple [.int (p.2 : Nat), p.1]) = cs.zipIdx.map fun p => .tuple [.int p.2, cellD p.1] := by
      rw [List.zipIdx_map, List.map_map]
      rfl
    rw [← e]
    exact ie_enumT (ea_cons (ed_var rfl) ea_nil)
  refine ⟨_, sd_for (ρ0 := [some (hallD h), some (cellsD cs), none, none]) (fun p : Cell × Nat => .tuple [.int p.2, cellD p.1]) hi fun n x hx => ?_⟩
  rw [List.getElem?_zipIdx] at hx
  cases hxe : cs[n]? with
  | none => rw [hxe] at hx; simp at hx
  | some e =>
    rw [hxe] at hx
    simp at hx
    subst hx
    have hem : e ∈ cs := List.mem_of_getElem? hxe
    have hnl : n < cs.length := (List.getElem?_eq_some_iff.mp hxe).1
    have hm := o.most
    refine ⟨[some (hallD h), some (cellsD cs), some (.int n), some (cellD e)], [2, 3], gd_tup (gds_cons (gd_name (by simp)) (gds_cons (gd_name (by simp)) gds_nil)) rfl, ?_⟩
    refine sd_less (ρ' := [some (hallD h), some (cellsD cs), some (.int n), some (cellD e)]) ?_ (((Rle.refl [some (hallD h), some (cellsD cs), none, none]).set (i := 2) (o := some (.int n)) rfl).set (i := 3) rfl)
    refine sd_ifNo (ET.is (et_or (et_test (ed_op (ed_var rfl) ed_int (r2_eq (sh_int _) (sh_int _)))) fun _ => et_or (et_not (et_B (ed_call (by walk_at "ed") (.mk h e)))) fun _ => et_test (ED.is (ed_op (ed_var rfl) (ED.is (d' := .tuple ((cs.take n).map cellD)) (ed_slT (ed_var rfl) eo_none (eo_some (ed_var rfl))) ?_) (r2_inT (sh_cell _) (sh_cells _))) (congrArg PyData.bool (any_cell _ _)))) ?_)
    · rw [cut_take _ _ (by rw [List.length_map]; omega), List.map_take]
    · have hno : decide (e ∈ cs.take n) = false := decide_eq_false (not_mem_take o.nodup hxe)
      have h3 : ¬ ((n : Int) = 3) := by omega
      rw [eqv_int, o.cells e hem, hno]
      simp [h3]
def R_check_start (ds : List PyData) : Prop := ∃ (h : Hall) (cs : List Cell), ds = [hallD h, cellsD cs] ∧ HallOk h ∧ CellsOk h cs
theorem rp_check_start {ds : List PyData} (hR : R_check_start ds) : ∃ ρ', SD (rd_check_start K (spR (RN R_check_cells)) (spR (RN R_check_hall))) (ds.map some ++ List.replicate (2 - ds.length) none) ρ' := by
  obtain ⟨h, cs, rfl, o, oc⟩ := hR
  exact ⟨_, sd_seq (sd_drop (ed_call (R := RN R_check_hall) (ea_cons (ed_var rfl) ea_nil) ⟨⟨h, rfl, o⟩, rfl⟩)) (sd_drop (ed_call (R := RN R_check_cells) (ea_cons (ed_var rfl) (ea_cons (ed_var rfl) ea_nil)) ⟨⟨h, cs, rfl, oc⟩, rfl⟩))⟩
/-! ### may -/
def firstS (h : Hall) (cs : List Cell) : Stand := ⟨cs, h.doors.map fun e => e.2.2⟩
theorem sok_first {h : Hall} {cs : List Cell} (o : HallOk h) (oc : CellsOk h cs) : SOk h (firstS h cs) where
  walls := fun e he => isEdge_hv (o.walls e he)
  nwalls := by have := o.nwalls; omega
  ndoors := by have := o.ndoors; omega
  ways := fun x hx => by
    obtain ⟨e, he, rfl⟩ := List.mem_map.mp hx
    exact o.ways e he
  nways := List.length_map _
  cells := oc.cells
  ncells := by have := oc.most; exact Nat.le_trans this (by decide)
/-- the steps of all moves -/
def fstD : PyData → PyData
  | .tuple (d :: _) => d
  | d => d
inductive R_may : List PyData → PyData → Prop | mk (h : Hall) (cs : List Cell) (o : HallOk h) (oc : CellsOk h cs) : R_may [hallD h, cellsD cs] (.list ((movesD h (firstS h cs)).map fstD))
theorem fold_shape (P : PyData → Prop) {α : Type} (F : List PyData → α → List PyData) (hF : ∀ ds x, (∀ d ∈ ds, P d) → ∀ d ∈ F ds x, P d) : ∀ (xs : List α) (ds : List PyData), (∀ d ∈ ds, P d) → ∀ d ∈ xs.foldl F ds, P d
  | [], ds, h => h
  | x :: xs, ds, h => fold_shape P F hF xs (F ds x) (hF ds x h)
theorem movesD_shape (h : Hall) (s : Stand) : ∀ d ∈ movesD h s, ∃ m, d = moveD m := by
  refine fold_shape (fun d => ∃ m, d = moveD m) _ (fun ds k hds => ?_) _ [] (fun d hd => nomatch hd)
  refine fold_shape (fun d => ∃ m, d = moveD m) _ (fun ds w hds => ?_) _ ds hds
  intro d hd
  unfold addMove at hd
  split at hd
  · exact hds d hd
  · rcases List.mem_append.mp hd with z | z
    · exact hds d z
    · simp at z
      exact ⟨_, z⟩
theorem movesD_len (h : Hall) (s : Stand) (hs : s.cells.length ≤ 100) : (movesD h s).length ≤ 400 := by
  have key : ∀ (xs : List Nat) (ds : List PyData), (xs.foldl (addMoves h s) ds).length ≤ ds.length + 4 * xs.length := by
    intro xs
    induction xs with
    | nil => intro ds; simp
    | cons x xs ih =>
      intro ds
      have h1 := ih (addMoves h s ds x)
      have h2 := addMoves_len h s ds x
      simp only [List.foldl_cons, List.length_cons]
      omega
  have := key (List.range s.cells.length) []
  rw [List.length_range] at this
  simp only [List.length_nil] at this
  unfold movesD
  omega
theorem rp_may {ds : List PyData} {d : PyData} (h : R_may ds d) : RD (rd_may K (spR (RN R_check_start)) (spR R_first_standing) (spR R_moves)) (ds.map some ++ List.replicate (3 - ds.length) none) d := by
  obtain ⟨h, cs, o, oc⟩ := h
  have so := sok_first o oc
  have nd := o.ndoors
  refine rd_seq (sd_drop (ed_call (R := RN R_check_start) (ea_cons (ed_var rfl) (ea_cons (ed_var rfl) ea_nil)) ⟨⟨h, cs, rfl, o, oc⟩, rfl⟩)) ?_
  refine rd_ret (ed_lcM (movesD h (firstS h cs)) (fun d => d) fstD ?_ (Nat.le_trans (movesD_len _ _ so.ncells) (by omega)) fun d hd => ⟨_, gd_name (by simp), ?_⟩)
  · rw [List.map_id']
    exact ie_list (ed_call (ea_cons (ed_var rfl) (ea_cons (ed_call (ea_cons (ed_var rfl) (ea_cons (ed_var rfl) ea_nil)) (.mk h cs (by omega))) ea_nil)) (.mk h (firstS h cs) so))
  · obtain ⟨m, rfl⟩ := movesD_shape _ _ d hd
    exact ed_op (ed_var rfl) ed_int (r2_ixT rfl)
end
end Pd

/-! Sem8 -/
set_option Elab.async false
set_option linter.all false
set_option maxRecDepth 100000
set_option maxHeartbeats 4000000
namespace Pd
open PySem PySem.Spec PyProof.Rows L2 PySem.W
local macro_rules | `(tactic| walk_at "ed") => `(tactic| repeat' (first
  | with_reducible (first
    | exact ed_int | exact ed_str | exact ed_bl | exact ed_non
    | exact ea_nil | refine' ea_cons ?_ ?_
    | refine' ed_isi ?_ ?_ | refine' ed_isi2 ?_ ?_ ?_
    | refine' ed_andV ?_ (fun _ => ?_) | refine' ed_orV ?_ (fun _ => ?_) | refine' ed_notV ?_
    | refine' ed_chain ?_ ?_ ?_ (fun _ => ⟨?_, ?_⟩)
    | refine' ed_tup ?_ ?_ | refine' ed_lst ?_ ?_
    | refine' et_not ?_ | refine' et_and ?_ (fun _ => ?_) | refine' et_or ?_ (fun _ => ?_) | exact et_yes
    | refine' et_test ?_ | refine' et_B ?_
    | refine' ed_op ?_ ?_ ?_
    | refine' ed_cb ?_ ?_)
  | exact ed_var rfl
  | exact kit_tt | exact kit_ii | exact kit_ib | exact kit_ll | exact kit_lt | exact kit_tl
  | exact r2_addI | exact r2_subI | exact r2_lt | exact r2_le | exact r2_gt | exact r2_ge | exact r2_isN | exact r2_notN
  | exact rc_lenT | exact rc_lenL | exact rc_intB | exact rc_tupL
  | with_reducible (first | refine' r2_eq ?_ ?_ | refine' r2_ne ?_ ?_)
  | exact sh_int _ | exact sh_sg _ | exact sh_cell _ | exact sh_edge _ | exact sh_pair _ | exact sh_str _ (by decide +kernel)
  | exact r2_ixT rfl | exact r2_ixL rfl
  | refine' ed_tup ?_ ?_
  | (show List.length _ ≤ 100000; simp; done)))
/-! ### the draws: the law's row -/
def Pu (te : TE) (σ : L2.St) (H : Hp) (v : V) : Prop := ∀ Q : VK, Q v H → te σ H Q
section
variable {K : PySem.W.Frag} {σ : L2.St} {H : Hp} {ta tb te : TE} {i j : Int} {v : V}
theorem pu_var {n : Nat} (h : σ[n]? = some (some v)) : Pu (tVar n) σ H v := fun Q q => ⟨v, h, q⟩
theorem pu_c : Pu (tC v) σ H v := fun Q q => q
theorem ret_pu {D : Ends} (h : Pu te σ H v) (q : D.rt v H) : tRet te D σ H := h _ q
theorem pu_i0 {g : Int → Int → V} (ha : Pu ta σ H (.int i)) (hb : Pu tb σ H (.int j)) : Pu (tOp (rI0 g) ta tb) σ H (g i j) := fun Q q => ha _ (hb _ ⟨i, j, rfl, rfl, q⟩)
theorem pu_iC {C : Int → Int → Prop} {g : Int → Int → V} (ha : Pu ta σ H (.int i)) (hb : Pu tb σ H (.int j)) (hc : C i j) : Pu (tOp (rI C g) ta tb) σ H (g i j) := fun Q q => ha _ (hb _ ⟨i, j, rfl, rfl, hc, q⟩)
theorem go_iC {C : Int → Int → Prop} {g : Int → Int → V} {Q : VK} (ha : Pu ta σ H (.int i)) (hb : Pu tb σ H (.int j)) (hc : C i j) (q : Q (g i j) H) : tOp (rI C g) ta tb σ H Q := pu_iC ha hb hc Q q
theorem pu_add (ha : Pu ta σ H (.int i)) (hb : Pu tb σ H (.int j)) : Pu (tOp (rAddX K) ta tb) σ H (.int (i + j)) := fun Q q => ha _ (hb _ (.inl ⟨i, j, rfl, rfl, q⟩))
theorem pu_mul (ha : Pu ta σ H (.int i)) (hb : Pu tb σ H (.int j)) (hc : CMul i j) : Pu (tOp rMulX ta tb) σ H (.int (i * j)) := fun Q q => ha _ (hb _ (.inl ⟨i, j, rfl, rfl, hc, q⟩))
theorem pu_ix {a : Addr} {xs : List V} (ha : Pu ta σ H (.ref a)) (hb : Pu tb σ H (.int i)) (h : SqL K H a xs) (hi : atI xs i = some v) : Pu (tOp (rIx K) ta tb) σ H v := fun Q q => ha _ (hb _ (.inl ⟨a, xs, i, v, rfl, rfl, h, hi, q⟩))
theorem pu_len {a : Addr} {xs : List V} (ha : Pu ta σ H (.ref a)) (h : SqL K H a xs) : Pu (tCB (rLenX K) (tCons ta tNil)) σ H (.int (xs.length : Nat)) := fun Q q => ha _ ⟨_, xs.length, rfl, .inl ⟨xs, h, rfl⟩, q⟩
end
def rowL (sc : Addr) (a b c : Int) : HO := .lst [.ref sc, .int a, .int b, .int c]
structure RowOk (a b c : Int) : Prop where
  a : 0 ≤ a
  b : 0 ≤ b ∧ b < 2147483647
  c : 0 ≤ c
/-- the row at l over the script at sc -/
structure RowAt (K : PySem.W.Frag) (H : Hp) (l sc : Addr) (ns : List Int) : Prop where
  row : ∃ a b c, H l = some (rowL sc a b c) ∧ RowOk a b c
  scr : ∃ B : Hp, Ex B H ∧ B l = none ∧ SqL K B sc (ns.map V.int)
theorem RowAt.rd {K : PySem.W.Frag} {H : Hp} {l sc : Addr} {ns : List Int} (r : RowAt K H l sc ns) : SqL K H sc (ns.map V.int) := let ⟨_, e, _, s⟩ := r.scr; e.seqL s
theorem SqL.upd_ne {K : PySem.W.Frag} {H : Hp} {a l : Addr} {xs : List V} {o : HO} (h : SqL K H a xs) (ne : a ≠ l) : SqL K (upd H l o) a xs := by
  rcases h with (h | ⟨u, h⟩) | h
  · exact .inl (.inl (by rw [L2.upd_ne ne]; exact h))
  · exact .inl (.inr ⟨u, by rw [L2.upd_ne ne]; exact h⟩)
  · exact .inr h
theorem RowAt.upd {K : PySem.W.Frag} {H : Hp} {l sc : Addr} {ns : List Int} {a b c : Int} (r : RowAt K H l sc ns) (o : RowOk a b c) : RowAt K (L2.upd H l (rowL sc a b c)) l sc ns :=
  ⟨⟨a, b, c, upd_same, o⟩, let ⟨B, e, n, s⟩ := r.scr; ⟨B, e.mut n, n, s⟩⟩
def sp_L_taken (K : PySem.W.Frag) : Sp := fun vs H Q _ => ∃ (l sc : Addr) (ns : List Int) (m : Int), vs = [.ref l, .int m] ∧ 1 ≤ m ∧ m ≤ 1000 ∧ RowAt K H l sc ns ∧
  ∀ (a b c n : Int), RowOk a b c → 0 ≤ n → n < m → Q (.int n) (upd H l (rowL sc a b c))
theorem rp_L_taken {K : PySem.W.Frag} {vs : List V} {H : Hp} {Q : VK} {E : XK} (h : sp_L_taken K vs H Q E) : rd_L_taken K { nx := fun _ H' => Q .non H', rt := Q } (L2.start ["_law_row", "_law_many", "_law_found", "_law_cell"] vs) H := by
  obtain ⟨l, sc, ns, m, rfl, h1, h2, r, q⟩ := h
  obtain ⟨⟨a, b, c, hrow, ro⟩, _⟩ := id r
  have hL : SqL K H l [.ref sc, .int a, .int b, .int c] := SqL.of hrow
  have hm0 : (0 : Int) < m := by omega
  have hdv : ∀ x : Int, CDiv x m := fun x => ⟨hm0, by show m < 1073741824; omega⟩
  show rd_L_taken K _ [some (.ref l), some (.int m), none, none] H
  unfold rd_L_taken
  -- the rest of a great cell
  refine pu_i0 (pu_ix (pu_var (n := 0) rfl) pu_c hL (v := .int c) rfl) pu_c _ ⟨_, rfl, ?_⟩
  refine ite2 (fun hc => ?_) (fun hc => ?_)
  · refine pu_iC (pu_ix (pu_var (n := 0) rfl) pu_c hL (v := .int c) rfl) (pu_var (n := 1) rfl) hm0 _ ?_
    refine pu_iC (pu_ix (pu_var (n := 0) rfl) pu_c hL (v := .int c) rfl) (pu_var (n := 1) rfl) (hdv _) _ ?_
    refine pu_var (n := 0) rfl _ (pu_c _ ⟨l, _, 3, 3, rfl, rfl, hrow, rfl, ?_⟩)
    refine ⟨_, rfl, ?_⟩
    exact q a b (c / m) (c % m) ⟨ro.a, ro.b, Int.ediv_nonneg ro.c (by omega)⟩ (Int.emod_nonneg _ (by omega)) (Int.emod_lt_of_pos _ hm0)
  · refine pu_add (pu_ix (pu_var (n := 0) rfl) pu_c hL (v := .int a) rfl) pu_c _ ?_
    refine pu_var (n := 0) rfl _ (pu_c _ ⟨l, _, 1, 1, rfl, rfl, hrow, rfl, ?_⟩)
    show tSeq _ _ _ _ (upd H l (rowL sc (a + 1) b c))
    have r1 : RowAt K (upd H l (rowL sc (a + 1) b c)) l sc ns := r.upd ⟨by have := ro.a; omega, ro.b, ro.c⟩
    have hL1 : SqL K (upd H l (rowL sc (a + 1) b c)) l [.ref sc, .int (a + 1), .int b, .int c] := SqL.of upd_same
    have hrow1 : (upd H l (rowL sc (a + 1) b c)) l = some (.lst [.ref sc, .int (a + 1), .int b, .int c]) := upd_same
    have hcm : CMul b 48271 := .inl (by have := ro.b; omega)
    refine pu_i0 (pu_ix (pu_var (n := 0) rfl) pu_c hL1 (v := .int (a + 1)) rfl) (pu_len (pu_ix (pu_var (n := 0) rfl) pu_c hL1 (v := .ref sc) rfl) r1.rd) _ ⟨_, rfl, ?_⟩
    refine ite2 (fun hb => ?_) (fun hb => ?_)
    · refine pu_iC (pu_add (pu_mul (pu_ix (pu_var (n := 0) rfl) pu_c hL1 (v := .int b) rfl) pu_c hcm) pu_c) pu_c (by decide) _ ?_
      refine pu_var (n := 0) rfl _ (pu_c _ ⟨l, _, 2, 2, rfl, rfl, hrow1, rfl, ?_⟩)
      rw [upd_upd]
      have hb2 : 0 ≤ (b * 48271 + 11) % 2147483647 ∧ (b * 48271 + 11) % 2147483647 < 2147483647 := ⟨Int.emod_nonneg _ (by decide), Int.emod_lt_of_pos _ (by decide)⟩
      have hL2 : SqL K (upd H l (rowL sc (a + 1) ((b * 48271 + 11) % 2147483647) c)) l [.ref sc, .int (a + 1), .int ((b * 48271 + 11) % 2147483647), .int c] := SqL.of upd_same
      show tOp rModI (tOp rFdivI (tOp (rIx K) (tVar 0) (tC (.int 2))) (tC (.int 7))) (tVar 1) [some (.ref l), some (.int m), none, none] (upd H l (rowL sc (a + 1) ((b * 48271 + 11) % 2147483647) c)) _
      refine go_iC (pu_iC (C := CDiv) (i := (b * 48271 + 11) % 2147483647) (j := 7) (g := fun i j => .int (i / j)) (pu_ix (pu_var (n := 0) rfl) pu_c hL2 (v := .int ((b * 48271 + 11) % 2147483647)) rfl) pu_c ⟨by decide, by decide⟩) (pu_var (n := 1) rfl) hm0 ?_
      exact q (a + 1) _ c _ ⟨by have := ro.a; omega, hb2, ro.c⟩ (Int.emod_nonneg _ (by omega)) (Int.emod_lt_of_pos _ hm0)
    · have hb' : ¬ ((((ns.map V.int).length : Nat) : Int) < a + 1) := by simpa using hb
      rw [List.length_map] at hb'
      have ha := ro.a
      have hlt : a.toNat < ns.length := by omega
      have hat : atI (ns.map V.int) (a + 1 - 1) = some (.int ns[a.toNat]) := by
        have e : a + 1 - 1 = ((a.toNat : Nat) : Int) := by omega
        rw [e]
        exact atI_nat (by rw [List.getElem?_map, List.getElem?_eq_getElem hlt]; rfl)
      generalize ns[a.toNat] = x at hat
      refine pu_ix (pu_ix (pu_var (n := 0) rfl) pu_c hL1 (v := .ref sc) rfl) (pu_i0 (pu_ix (pu_var (n := 0) rfl) pu_c hL1 (v := .int (a + 1)) rfl) pu_c) r1.rd hat _ ?_
      refine pu_iC (pu_add (pu_add (pu_mul (pu_ix (pu_var (n := 0) rfl) pu_c hL1 (v := .int b) rfl) pu_c hcm) (pu_var (n := 3) rfl)) pu_c) pu_c (by decide) _ ?_
      refine pu_var (n := 0) rfl _ (pu_c _ ⟨l, _, 2, 2, rfl, rfl, hrow1, rfl, ?_⟩)
      rw [upd_upd]
      have hb2 : 0 ≤ (b * 48271 + x + 11) % 2147483647 ∧ (b * 48271 + x + 11) % 2147483647 < 2147483647 := ⟨Int.emod_nonneg _ (by decide), Int.emod_lt_of_pos _ (by decide)⟩
      refine pu_i0 (pu_var (n := 3) rfl) (pu_iC pu_c pu_c ⟨by decide, by decide, by decide⟩) _ ⟨_, rfl, ?_⟩
      have hrow2 : (upd H l (.lst (List.set [.ref sc, .int (a + 1), .int b, .int c] 2 (.int ((b * 48271 + x + 11) % 2147483647))))) l = some (.lst [.ref sc, .int (a + 1), .int ((b * 48271 + x + 11) % 2147483647), .int c]) := upd_same
      refine ite2 (fun hg => ?_) (fun hg => ?_)
      · have hx : (0 : Int) ≤ x := by
          have h10 : (10 : Int) ^ (18 : Int).toNat ≤ x := of_decide_eq_true hg
          have : (10 : Int) ^ (18 : Int).toNat = 1000000000000000000 := by decide
          omega
        refine go_iC (pu_var (n := 3) rfl) (pu_var (n := 1) rfl) (hdv _) ?_
        refine pu_var (n := 0) rfl _ (pu_c _ ⟨l, _, 3, 3, rfl, rfl, hrow2, rfl, ?_⟩)
        rw [upd_upd]
        unfold tRet
        refine go_iC (pu_var (n := 3) rfl) (pu_var (n := 1) rfl) hm0 ?_
        exact q (a + 1) _ (x / m) (x % m) ⟨by omega, hb2, Int.ediv_nonneg hx (by omega)⟩ (Int.emod_nonneg _ (by omega)) (Int.emod_lt_of_pos _ hm0)
      · unfold tRet
        refine go_iC (pu_var (n := 3) rfl) (pu_var (n := 1) rfl) hm0 ?_
        exact q (a + 1) _ c (x % m) ⟨by omega, hb2, ro.c⟩ (Int.emod_nonneg _ (by omega)) (Int.emod_lt_of_pos _ hm0)
end Pd

/-! PdI -/
set_option Elab.async false
set_option linter.all false
set_option maxRecDepth 100000
set_option maxHeartbeats 4000000
/-! defs that draw from the row: what they do to the heap, and lists of their own -/
namespace Pd
open PySem PySem.Spec PyProof.Rows L2

/-- the row l over the script sc, beside the base -/
structure Dr (K : PySem.W.Frag) (l sc : Addr) (ns : List Int) (B H : Hp) : Prop where
  t : Ex B H
  row : ∃ a b c, H l = some (rowL sc a b c) ∧ RowOk a b c
  scr : SqL K B sc (ns.map V.int)
  nl : B l = none
/-- all but the row stays -/
structure GrW (l : Addr) (B H B' H' : Hp) : Prop where
  b : Ex B B'
  h : ∀ a u, a ≠ l → H a = some u → H' a = some u
  n : ∀ a, B a = none → H a ≠ none → B' a = none
theorem Dr.nn {K : PySem.W.Frag} {l sc : Addr} {ns : List Int} {B H : Hp} (d : Dr K l sc ns B H) : H l ≠ none := by
  obtain ⟨a, b, c, h, _⟩ := d.row
  rw [h]
  exact fun z => nomatch z
theorem Dr.gr {K : PySem.W.Frag} {l sc : Addr} {ns : List Int} {B H B' H' : Hp} (d : Dr K l sc ns B H) (g : Gr B H B' H') : Dr K l sc ns B' H' :=
  ⟨g.t, let ⟨a, b, c, h, o⟩ := d.row; ⟨a, b, c, g.h _ _ h, o⟩, g.b.seqL d.scr, g.n _ d.nl d.nn⟩
theorem Gr.w {l : Addr} {B H B' H' : Hp} (g : Gr B H B' H') : GrW l B H B' H' := ⟨g.b, fun a u _ e => g.h a u e, g.n⟩
theorem GrW.nn {K : PySem.W.Frag} {l sc : Addr} {ns : List Int} {B H B' H' : Hp} (g : GrW l B H B' H') (d : Dr K l sc ns B' H') {a : Addr} (h : H a ≠ none) : H' a ≠ none := by
  by_cases e : a = l
  · subst e
    exact d.nn
  · cases q : H a with
    | none => exact absurd q h
    | some u =>
      rw [g.h a u e q]
      exact fun z => nomatch z
theorem GrW.trans {K : PySem.W.Frag} {l sc : Addr} {ns : List Int} {B H B1 H1 B2 H2 : Hp} (a : GrW l B H B1 H1) (d : Dr K l sc ns B1 H1) (b : GrW l B1 H1 B2 H2) : GrW l B H B2 H2 :=
  ⟨a.b.trans b.b, fun x u n e => b.h x u n (a.h x u n e), fun x h1 h2 => b.n x (a.n x h1 h2) (a.nn d h2)⟩

/-- a def that draws: it is handed the row and data, and tells data -/
def spW (K : PySem.W.Frag) (Pre : List PyData → Prop) (R : List PyData → PyData → Prop) : Sp := fun vs H Q _ => ∃ l sc ns B ws ds, vs = .ref l :: ws ∧ DHs B ws ds ∧ Dr K l sc ns B H ∧ Pre ds ∧
  ∀ v d B' H', R ds d → Dr K l sc ns B' H' → GrW l B H B' H' → DH B' v d → Q v H'
def P_taken (ds : List PyData) : Prop := ∃ m : Int, ds = [.int m] ∧ 1 ≤ m ∧ m ≤ 1000
def R_taken (ds : List PyData) (d : PyData) : Prop := ∃ m n : Int, ds = [.int m] ∧ d = .int n ∧ 0 ≤ n ∧ n < m
theorem sp_taken {K : PySem.W.Frag} {vs : List V} {H : Hp} {Q : VK} {E : XK} (h : spW K P_taken R_taken vs H Q E) : sp_L_taken K vs H Q E := by
  obtain ⟨l, sc, ns, B, ws, ds, rfl, hd, d, ⟨m, rfl, h1, h2⟩, q⟩ := h
  cases hd with
  | cons a r =>
    cases r
    cases a
    refine ⟨l, sc, ns, m, rfl, h1, h2, ⟨d.row, B, d.t, d.nl, d.scr⟩, fun a b c n ok hn hm => ?_⟩
    refine q _ (.int n) B _ ⟨m, n, rfl, rfl, hn, hm⟩ ⟨fun x u hx => ?_, ⟨a, b, c, upd_same, ok⟩, d.scr, d.nl⟩ ⟨Ex.refl B, fun x u hx e => ?_, fun x e _ => e⟩ (.int n)
    · have : x ≠ l := fun z => by rw [z, d.nl] at hx; cases hx
      rw [upd_ne this]
      exact d.t _ _ hx
    · rw [upd_ne hx]
      exact e

abbrev OS := List (Nat × List PyData)
/-- where a def stands: r the row's slot; base and heap as they were at its beginning -/
structure Cfg where
  K : PySem.W.Frag
  r : Nat
  l : Addr
  sc : Addr
  ns : List Int
  B1 : Hp
  H1 : Hp
structure Iv (c : Cfg) (A : Nat → Addr) (σ : L2.St) (B H : Hp) (ρ : Rho) (os : OS) : Prop where
  d : Dr c.K c.l c.sc c.ns B H
  g : GrW c.l c.B1 c.H1 B H
  e : EnvD σ B ρ
  s0 : σ[c.r]? = some (some (.ref c.l))
  own : ∀ p ∈ os, σ[p.1]? = some (some (.ref (A p.1))) ∧ B (A p.1) = none ∧ c.H1 (A p.1) = none ∧ A p.1 ≠ c.l ∧ ∃ xs, H (A p.1) = some (.lst xs) ∧ DHs B xs p.2
  ap : ∀ p ∈ os, ∀ q ∈ os, p.1 ≠ q.1 → A p.1 ≠ A q.1
theorem Iv.w {c : Cfg} {A : Nat → Addr} {σ : L2.St} {B H B' H' : Hp} {ρ : Rho} {os : OS} (o : Iv c A σ B H ρ os) (d : Dr c.K c.l c.sc c.ns B' H') (g : GrW c.l B H B' H') : Iv c A σ B' H' ρ os := by
  refine ⟨d, o.g.trans o.d g, o.e.mono g.b, o.s0, fun p hp => ?_, o.ap⟩
  obtain ⟨h1, h2, h3, h4, xs, h5, h6⟩ := o.own p hp
  exact ⟨h1, g.n _ h2 (by rw [h5]; exact fun z => nomatch z), h3, h4, xs, g.h _ _ h4 h5, h6.mono g.b⟩
theorem Iv.gr {c : Cfg} {A : Nat → Addr} {σ : L2.St} {B H B' H' : Hp} {ρ : Rho} {os : OS} (o : Iv c A σ B H ρ os) (g : Gr B H B' H') : Iv c A σ B' H' ρ os := o.w (o.d.gr g) g.w
theorem Iv.less {c : Cfg} {A : Nat → Addr} {σ : L2.St} {B H : Hp} {ρ ρ' : Rho} {os : OS} (o : Iv c A σ B H ρ os) (k : Rle ρ' ρ) : Iv c A σ B H ρ' os := ⟨o.d, o.g, o.e.less k, o.s0, o.own, o.ap⟩
theorem Iv.set {c : Cfg} {A : Nat → Addr} {σ : L2.St} {B H : Hp} {ρ : Rho} {os : OS} {i : Nat} {v : V} {d : PyData} (o : Iv c A σ B H ρ os) (dv : DH B v d) (hr : i ≠ c.r) (ho : ∀ p ∈ os, i ≠ p.1) : Iv c A (σ.set i (some v)) B H (ρ.set i (some d)) os := by
  refine ⟨o.d, o.g, o.e.set i dv, by rw [List.getElem?_set_ne hr]; exact o.s0, fun p hp => ?_, o.ap⟩
  obtain ⟨h1, h2⟩ := o.own p hp
  exact ⟨by rw [List.getElem?_set_ne (ho p hp)]; exact h1, h2⟩
/-- a list of one's own is dropped -/
theorem Iv.drop {c : Cfg} {A : Nat → Addr} {σ : L2.St} {B H : Hp} {ρ : Rho} {os os' : OS} (o : Iv c A σ B H ρ os) (h : ∀ p ∈ os', p ∈ os) : Iv c A σ B H ρ os' :=
  ⟨o.d, o.g, o.e, o.s0, fun p hp => o.own p (h p hp), fun p hp q hq => o.ap p (h p hp) q (h q hq)⟩

theorem Iv.own_in {c : Cfg} {A : Nat → Addr} {σ : L2.St} {B H : Hp} {ρ : Rho} {os : OS} {j : Nat} {ds : List PyData} (o : Iv c A σ B H ρ ((j, ds) :: os)) (hj : ∀ p ∈ os, p.1 ≠ j) :
    ∃ B', Ex B B' ∧ Iv c A σ B' H (ρ.set j (some (.list ds))) os := by
  obtain ⟨h1, h2, h3, h4, xs, h5, h6⟩ := o.own _ (List.mem_cons_self ..)
  have eb : Ex B (upd B (A j) (.lst xs)) := Ex.new h2
  have dl : DH (upd B (A j) (.lst xs)) (.ref (A j)) (.list ds) := .lst upd_same (h6.mono eb)
  refine ⟨_, eb, ⟨⟨fun x u hx => ?_, o.d.row, eb.seqL o.d.scr, ?_⟩, ⟨o.g.b.trans eb, o.g.h, fun x hx hn => ?_⟩, (o.e.mono eb).tell j h1 dl, o.s0, fun p hp => ?_, fun p hp q hq => o.ap p (List.mem_cons_of_mem _ hp) q (List.mem_cons_of_mem _ hq)⟩⟩
  · by_cases e : x = A j
    · subst e
      rw [upd_same] at hx
      cases hx
      exact h5
    · rw [upd_ne e] at hx
      exact o.d.t _ _ hx
  · rw [upd_ne (fun z => h4 z.symm)]
    exact o.d.nl
  · rw [upd_ne (fun z => hn (by rw [z]; exact h3))]
    exact o.g.n x hx hn
  · obtain ⟨g1, g2, g3, g4, ys, g5, g6⟩ := o.own p (List.mem_cons_of_mem _ hp)
    refine ⟨g1, ?_, g3, g4, ys, g5, g6.mono eb⟩
    rw [upd_ne (o.ap p (List.mem_cons_of_mem _ hp) _ (List.mem_cons_self ..) (hj p hp))]
    exact g2
/-- it holds no address -/
def Flat (d : PyData) : Prop := ∀ H H' v, DH H v d → DH H' v d
theorem flat_int (i : Int) : Flat (.int i) := fun H H' v h => by cases h; exact .int i
theorem flat_bl (i : Bool) : Flat (.bool i) := fun H H' v h => by cases h; exact .bl i
theorem flat_str (i : Str) : Flat (.str i) := fun H H' v h => by cases h; exact .str i
theorem flat_non : Flat .none := fun H H' v h => by cases h; exact .non
/-- a list of one's own looked at -/
theorem Iv.view {c : Cfg} {A : Nat → Addr} {σ : L2.St} {B H : Hp} {ρ : Rho} {os : OS} {j : Nat} {ds : List PyData} (o : Iv c A σ B H ρ os) (hp : (j, ds) ∈ os) :
    ∃ B', Ex B' H ∧ EnvD σ B' (ρ.set j (some (.list ds))) ∧ ∀ B2 H2, Gr B' H B2 H2 → ∃ B3, Ex B B3 ∧ Iv c A σ B3 H2 ρ os := by
  obtain ⟨h1, h2, h3, h4, xs, h5, h6⟩ := o.own _ hp
  have eb : Ex B (upd B (A j) (.lst xs)) := Ex.new h2
  have dl : DH (upd B (A j) (.lst xs)) (.ref (A j)) (.list ds) := .lst upd_same (h6.mono eb)
  refine ⟨_, fun x u hx => ?_, (o.e.mono eb).tell j h1 dl, fun B2 H2 g => ?_⟩
  · by_cases e : x = A j
    · subst e
      rw [upd_same] at hx
      cases hx
      exact h5
    · rw [upd_ne e] at hx
      exact o.d.t _ _ hx
  have e3 : Ex B (fun x => if x = A j then none else B2 x) := fun x u hx => by
    have e : x ≠ A j := fun z => by rw [z, h2] at hx; cases hx
    show (if x = A j then none else B2 x) = some u
    rw [if_neg e]
    exact g.b _ _ (eb _ _ hx)
  refine ⟨fun x => if x = A j then none else B2 x, e3, o.gr ⟨e3, fun x u hx => ?_, g.h, fun x hx hn => ?_⟩⟩
  · have hx' : (if x = A j then none else B2 x) = some u := hx
    by_cases e : x = A j
    · rw [if_pos e] at hx'
      cases hx'
    · rw [if_neg e] at hx'
      exact g.t _ _ hx'
  · show (if x = A j then none else B2 x) = none
    by_cases e : x = A j
    · rw [if_pos e]
    · rw [if_neg e]
      exact g.n x (by rw [upd_ne e]; exact hx) hn

/-! ### expressions that may draw -/
section
variable {K : PySem.W.Frag} {c : Cfg} {A : Nat → Addr} {σ : L2.St} {B H : Hp} {ρ ρ' : Rho} {os os' : OS} {te tb tc : TE} {tt tu : TT} {ta tr : TA} {d e : PyData} {ds es : List PyData} {P P2 : PyData → Prop} {i j : Nat}
def EI (c : Cfg) (te : TE) (ρ : Rho) (os : OS) (P : PyData → Prop) : Prop := ∀ A σ B H, Iv c A σ B H ρ os → ∀ Q : VK, (∀ v d B' H', Iv c A σ B' H' ρ os → Ex B B' → DH B' v d → P d → Q v H') → te σ H Q
def AI (c : Cfg) (ta : TA) (ρ : Rho) (os : OS) (P : List PyData → Prop) : Prop := ∀ A σ B H, Iv c A σ B H ρ os → ∀ Q : List V → Hp → Prop, (∀ vs ds B' H', Iv c A σ B' H' ρ os → Ex B B' → DHs B' vs ds → P ds → Q vs H') → ta σ H Q
def TI' (c : Cfg) (tt : TT) (ρ : Rho) (os : OS) (P : Bool → Prop) : Prop := ∀ A σ B H, Iv c A σ B H ρ os → ∀ Q : Bool → Hp → Prop, (∀ b B' H', Iv c A σ B' H' ρ os → P b → Q b H') → tt σ H Q
theorem ei_pure (h : ED te ρ d) : EI c te ρ os (· = d) := fun A σ B H o Q q => h σ B H o.d.t o.e Q fun v B' H' g dv => q v d B' H' (o.gr g) g.b dv rfl
theorem ei_view (h : ED te (ρ.set j (some (.list ds))) d) (hp : (j, ds) ∈ os) (hf : Flat d) : EI c te ρ os (· = d) := fun A σ B H o Q q => by
  obtain ⟨B', h1, h2, h3⟩ := o.view hp
  refine h σ B' H h1 h2 Q fun v B2 H2 g dv => ?_
  obtain ⟨B3, e3, o3⟩ := h3 B2 H2 g
  exact q v d B3 H2 o3 e3 (hf _ _ _ dv) rfl
theorem EI.imp (h : EI c te ρ os P) (k : ∀ d, P d → P2 d) : EI c te ρ os P2 := fun A σ B H o Q q => h A σ B H o Q fun v d B' H' o' ex dv hd => q v d B' H' o' ex dv (k d hd)
theorem ti_view {b : Bool} (h : ET tt (ρ.set j (some (.list ds))) b) (hp : (j, ds) ∈ os) : TI' c tt ρ os (· = b) := fun A σ B H o Q q => by
  obtain ⟨B', h1, h2, h3⟩ := o.view hp
  refine h σ B' H h1 h2 Q fun B2 H2 g => ?_
  obtain ⟨B3, _, o3⟩ := h3 B2 H2 g
  exact q b B3 H2 o3 rfl
theorem ti_pure {b : Bool} (h : ET tt ρ b) : TI' c tt ρ os (· = b) := fun A σ B H o Q q => h σ B H o.d.t o.e Q fun B' H' g => q b B' H' (o.gr g) rfl
theorem ti_test {P : Bool → Prop} (h : EI c te ρ os (fun d => ∃ b, d = .bool b ∧ P b)) : TI' c (tTest te) ρ os P := fun A σ B H o Q q => by
  refine h A σ B H o _ fun v d B' H' o' ex dv ⟨b, e, hb⟩ => ?_
  subst e
  cases dv
  exact ⟨b, rfl, q b B' H' o' hb⟩
theorem ti_and {a : Bool} {P : Bool → Prop} (h1 : TI' c tt ρ os (· = a)) (h2 : a = true → TI' c tu ρ os P) (hf : a = false → P false) : TI' c (tAnd tt tu) ρ os P := fun A σ B H o Q q => by
  refine h1 A σ B H o _ fun b B' H' o' e => ?_
  subst e
  cases b with
  | true => exact h2 rfl A σ B' H' o' _ fun b2 B2 H2 o2 hb => q b2 B2 H2 o2 hb
  | false => exact q false B' H' o' (hf rfl)
theorem ai_nil : AI c tNil ρ os (· = []) := fun A σ B H o Q q => q [] [] B H o (Ex.refl B) .nil rfl
theorem ai_cons {P' : PyData → List PyData → Prop} (h : EI c te ρ os P) (k : ∀ d, P d → AI c tr ρ os (P' d)) : AI c (tCons te tr) ρ os (fun ds => ∃ d es, ds = d :: es ∧ P d ∧ P' d es) := fun A σ B H o Q q => by
  refine h A σ B H o _ fun v d B1 H1 o1 ex dv hd => ?_
  refine k d hd A σ B1 H1 o1 _ fun vs es B2 H2 o2 ex2 dvs hes => ?_
  exact q _ _ B2 H2 o2 (ex.trans ex2) (.cons (dv.mono ex2) dvs) ⟨d, es, rfl, hd, hes⟩
theorem ai_pure (h : EA ta ρ ds) : AI c ta ρ os (· = ds) := fun A σ B H o Q q => h σ B H o.d.t o.e Q fun v B' H' g dv => q v ds B' H' (o.gr g) g.b dv rfl
theorem AI.imp {P P2 : List PyData → Prop} (h : AI c ta ρ os P) (k : ∀ d, P d → P2 d) : AI c ta ρ os P2 := fun A σ B H o Q q => h A σ B H o Q fun v d B' H' o' ex dv hd => q v d B' H' o' ex dv (k d hd)
theorem ei_op {rr : R2} {Pa : PyData → Prop} {Pb : PyData → PyData → Prop} (ha : EI c te ρ os Pa) (hb : ∀ a, Pa a → EI c tb ρ os (Pb a)) (hr : ∀ a b, Pa a → Pb a b → ∃ z, RD2 rr a b z ∧ P z) : EI c (tOp rr te tb) ρ os P := fun A σ B H o Q q => by
  refine ha A σ B H o _ fun x a B1 H1 o1 ex1 d1 p1 => ?_
  refine hb a p1 A σ B1 H1 o1 _ fun y b B2 H2 o2 ex2 d2 p2 => ?_
  obtain ⟨z, rz, pz⟩ := hr a b p1 p2
  exact rz B2 H2 x y o2.d.t (d1.mono ex2) d2 Q fun v B' H' g dv => q v z B' H' (o2.gr g) ((ex1.trans ex2).trans g.b) dv pz
theorem ei_tup {P' : List PyData → Prop} (h : AI c ta ρ os P') (hl : ∀ ds, P' ds → ds.length ≤ 100000) : EI c (tTup ta) ρ os (fun d => ∃ ds, d = .tuple ds ∧ P' ds) := fun A σ B H o Q q => by
  refine h A σ B H o _ fun vs ds B1 H1 o1 ex1 d1 p1 => ⟨?_, fun p hp => ?_⟩
  · rw [d1.length]
    exact Nat.le_trans (hl ds p1) (by decide)
  · have g := Gr.new (o := .tup vs) o1.d.t hp
    exact q _ _ _ _ (o1.gr g) (ex1.trans g.b) (.tup upd_same (d1.mono g.b)) ⟨ds, rfl, p1⟩
/-- a draw, or what else draws -/
theorem ei_callW {Pre : List PyData → Prop} {R : List PyData → PyData → Prop} {P' : List PyData → Prop} (h : AI c ta ρ os P') (hp : ∀ ds, P' ds → Pre ds) : EI c (tCallD (spW c.K Pre R) (tCons (tVar c.r) ta)) ρ os (fun d => ∃ ds, P' ds ∧ R ds d) := fun A σ B H o Q q => by
  refine ⟨_, o.s0, ?_⟩
  refine h A σ B H o _ fun vs ds B1 H1 o1 ex1 d1 p1 => ?_
  refine ⟨c.l, c.sc, c.ns, B1, vs, ds, by rw [List.append_nil], d1, o1.d, hp ds p1, fun v d B' H' r1 d2 g2 dv => ?_⟩
  exact q v d B' H' (o1.w d2 g2) (ex1.trans g2.b) dv ⟨ds, p1, r1⟩
/-- drawn below many -/
theorem ei_drawI {m : Int} (h : EI c te ρ os (· = .int m)) (h1 : 1 ≤ m) (h2 : m ≤ 1000) : EI c (tCallD (spW c.K P_taken R_taken) (tCons (tVar c.r) (tCons te tNil))) ρ os (fun d => ∃ n : Nat, d = .int n ∧ (n : Int) < m) := by
  refine (ei_callW (ai_cons h fun d _ => ai_nil) ?_).imp ?_
  · rintro ds ⟨d, es, rfl, rfl, rfl⟩
    exact ⟨m, rfl, h1, h2⟩
  · rintro d ⟨ds, ⟨d', es, rfl, rfl, rfl⟩, m', n, e, rfl, h3, h4⟩
    simp only [List.cons.injEq, PyData.int.injEq, and_true] at e
    subst e
    exact ⟨n.toNat, by rw [Int.toNat_of_nonneg h3], by omega⟩
theorem ei_draw {m : Int} (h : ED te ρ (.int m)) (h1 : 1 ≤ m) (h2 : m ≤ 1000) : EI c (tCallD (spW c.K P_taken R_taken) (tCons (tVar c.r) (tCons te tNil))) ρ os (fun d => ∃ n : Nat, d = .int n ∧ (n : Int) < m) := ei_drawI (ei_pure h) h1 h2

/-! ### statements -/
theorem go_asg {D : Ends} (o : Iv c A σ B H ρ os) (h : EI c te ρ os P) (hr : i ≠ c.r) (ho : ∀ p ∈ os, i ≠ p.1) (k : ∀ d, P d → ∀ σ B H, Iv c A σ B H (ρ.set i (some d)) os → D.nx σ H) : tAsg te (gName i) D σ H :=
  h A σ B H o _ fun v d B' H' o' ex dv hd => k d hd _ B' H' (o'.set dv hr ho)
theorem go_if {P : Bool → Prop} {t u : TS} {D : Ends} (o : Iv c A σ B H ρ os) (h : TI' c tt ρ os P) (h1 : P true → ∀ B H, Iv c A σ B H ρ os → t D σ H) (h2 : P false → ∀ B H, Iv c A σ B H ρ os → u D σ H) : tIfS tt t u D σ H :=
  h A σ B H o _ fun b B' H' o' hb => by
    cases b with
    | true => exact h1 hb B' H' o'
    | false => exact h2 hb B' H' o'
theorem go_ret {D : Ends} (o : Iv c A σ B H ρ os) (h : EI c te ρ os P) (k : ∀ v d B' H', Iv c A σ B' H' ρ os → DH B' v d → P d → D.rt v H') : tRet te D σ H :=
  h A σ B H o _ fun v d B' H' o' ex dv hd => k v d B' H' o' dv hd
theorem go_par {P : List PyData → Prop} {D : Ends} (o : Iv c A σ B H ρ os) (h : AI c ta ρ os P) (hl : ∀ ds, P ds → ∃ d e, ds = [d, e]) (hi : i ≠ c.r) (hj : j ≠ c.r) (hoi : ∀ p ∈ os, i ≠ p.1) (hoj : ∀ p ∈ os, j ≠ p.1)
    (k : ∀ d e, P [d, e] → ∀ σ B H, Iv c A σ B H ((ρ.set i (some d)).set j (some e)) os → D.nx σ H) : tPar i j ta D σ H := by
  refine h A σ B H o _ fun vs ds B' H' o' ex dv hd => ?_
  obtain ⟨d, e, rfl⟩ := hl ds hd
  cases dv with
  | cons a r =>
  cases r with
  | cons b r =>
    cases r
    exact ⟨_, _, rfl, k d e hd _ B' H' ((o'.set a hi hoi).set b hj hoj)⟩
/-- an expression that makes a new list -/
def EN (te : TE) (ρ : Rho) (ds : List PyData) : Prop := ∀ σ B H, Ex B H → EnvD σ B ρ → ∀ Q : VK, (∀ a xs B' H', Gr B H B' H' → B' a = none → H a = none → H' a = some (.lst xs) → DHs B' xs ds → Q (.ref a) H') → te σ H Q
theorem en_lst (h : EA ta ρ ds) (hl : ds.length ≤ 100000) : EN (tLst ta) ρ ds := fun σ B H ex ev Q q => by
  refine h σ B H ex ev _ fun xs B1 H1 g1 d1 => ⟨?_, fun p hp => ?_⟩
  · rw [d1.length]
    exact Nat.le_trans hl (by decide)
  · exact q p xs B1 _ (g1.trans (Gr.own g1.t hp)) (g1.t.nil hp) (g1.h.nil hp) upd_same d1
theorem en_cat (ha : ED te ρ (.list ds)) (hb : ED tb ρ (.list es)) (hl : ds.length + es.length ≤ 100000) : EN (tOp (rAddX K) te tb) ρ (ds ++ es) := fun σ B H ex ev Q q => by
  refine ha σ B H ex ev _ fun x B1 H1 g1 d1 => ?_
  refine hb σ B1 H1 g1.t (ev.mono g1.b) _ fun y B2 H2 g2 d2 => ?_
  have d1' := d1.mono g2.b
  cases d1' with
  | @lst a xs _ ha hs =>
  cases d2 with
  | @lst b ys _ hb hs' =>
    refine .inr (.inr (.inr ⟨a, b, xs, ys, rfl, rfl, g2.t _ _ ha, g2.t _ _ hb, ?_, fun p hp => ?_⟩))
    · rw [hs.length, hs'.length]
      exact Nat.le_trans hl (by decide)
    · exact q p _ B2 _ ((g1.trans g2).trans (Gr.own g2.t hp)) (g2.t.nil hp) ((g1.trans g2).h.nil hp) upd_same (hs.append hs')
/-- xs = a new list, one's own -/
theorem go_own {D : Ends} (o : Iv c A σ B H ρ os) (h : EN te ρ ds) (hr : j ≠ c.r) (ho : ∀ p ∈ os, j ≠ p.1) (hj : j < ρ.length) (k : ∀ A σ B H, Iv c A σ B H (ρ.set j none) ((j, ds) :: os) → D.nx σ H) : tAsg te (gName j) D σ H := by
  refine h σ B H o.d.t o.e _ fun a xs B' H' g nB hn hl hx => ?_
  have o' := o.gr g
  have hne : ∀ p ∈ os, A p.1 ≠ a := fun p hp z => by
    obtain ⟨_, _, _, _, ys, h5, _⟩ := o.own p hp
    rw [z, hn] at h5
    cases h5
  have hal : a ≠ c.l := fun z => o.d.nn (by rw [← z]; exact hn)
  have hH1 : c.H1 a = none := by
    cases q : c.H1 a with
    | none => rfl
    | some u =>
      have := o.g.h a u hal q
      rw [hn] at this
      cases this
  refine k (fun x => if x = j then a else A x) _ B' H' ⟨o'.d, o'.g, o'.e.forget j _, by rw [List.getElem?_set_ne hr]; exact o'.s0, fun p hp => ?_, fun p hp q hq hpq => ?_⟩
  · rcases List.mem_cons.mp hp with rfl | hp
    · show (σ.set j (some (.ref a)))[j]? = some (some (.ref (if j = j then a else A j))) ∧ _
      simp only [if_true]
      exact ⟨List.getElem?_set_self (by rw [o.e.len]; exact hj), nB, hH1, hal, xs, hl, hx⟩
    · obtain ⟨h1, h2⟩ := o'.own p hp
      have e : p.1 ≠ j := fun z => ho p hp z.symm
      simp only [if_neg e]
      exact ⟨by rw [List.getElem?_set_ne (ho p hp)]; exact h1, h2⟩
  · rcases List.mem_cons.mp hp with rfl | hp
    · rcases List.mem_cons.mp hq with rfl | hq
      · exact absurd rfl hpq
      · have e : q.1 ≠ j := fun z => hpq z.symm
        simp only [if_true, if_neg e]
        exact fun z => hne q hq z.symm
    · have e : p.1 ≠ j := fun z => ho p hp z.symm
      rcases List.mem_cons.mp hq with rfl | hq
      · simp only [if_true, if_neg e]
        exact hne p hp
      · have e2 : q.1 ≠ j := fun z => ho q hq z.symm
        simp only [if_neg e, if_neg e2]
        exact o.ap p hp q hq hpq
/-- the first list of one's own changed -/
theorem Iv.mut {xs : List V} {es : List PyData} (o : Iv c A σ B H ρ ((j, ds) :: os)) (hj : ∀ p ∈ os, j ≠ p.1) (hx : DHs B xs es) : Iv c A σ B (upd H (A j) (.lst xs)) ρ ((j, es) :: os) := by
  obtain ⟨h1, h2, h3, h4, ys, h5, h6⟩ := o.own _ (List.mem_cons_self ..)
  refine ⟨⟨o.d.t.mut h2, ?_, o.d.scr, o.d.nl⟩, ⟨o.g.b, fun x u hx e => ?_, o.g.n⟩, o.e, o.s0, fun p hp => ?_, fun p hp q hq hpq => ?_⟩
  · rw [upd_ne (fun z => h4 z.symm)]
    exact o.d.row
  · rw [upd_ne (fun z => by rw [z, h3] at e; cases e)]
    exact o.g.h x u hx e
  · rcases List.mem_cons.mp hp with rfl | hp
    · exact ⟨h1, h2, h3, h4, xs, upd_same, hx⟩
    · obtain ⟨g1, g2, g3, g4, zs, g5, g6⟩ := o.own p (List.mem_cons_of_mem _ hp)
      refine ⟨g1, g2, g3, g4, zs, ?_, g6⟩
      rw [upd_ne (fun z => o.ap (j, ds) (List.mem_cons_self ..) p (List.mem_cons_of_mem _ hp) (hj p hp) z.symm)]
      exact g5
  · rcases List.mem_cons.mp hp with rfl | hp
    · rcases List.mem_cons.mp hq with rfl | hq
      · exact absurd rfl hpq
      · exact o.ap (j, ds) (List.mem_cons_self ..) q (List.mem_cons_of_mem _ hq) hpq
    · rcases List.mem_cons.mp hq with rfl | hq
      · exact o.ap p (List.mem_cons_of_mem _ hp) (j, ds) (List.mem_cons_self ..) hpq
      · exact o.ap p (List.mem_cons_of_mem _ hp) q (List.mem_cons_of_mem _ hq) hpq
/-- xs.append(e) -/
theorem go_app {D : Ends} (o : Iv c A σ B H ρ ((j, ds) :: os)) (hj : ∀ p ∈ os, j ≠ p.1) (h : EI c te ρ ((j, ds) :: os) P) (hz : ds.length < 100000) (k : ∀ d, P d → ∀ B H, Iv c A σ B H ρ ((j, ds ++ [d]) :: os) → D.nx σ H) :
    tDrop (tBM K "list" rAppend (tVar j) (tCons te tNil)) D σ H := by
  obtain ⟨h1, h2, h3, h4, ys, h5, h6⟩ := o.own _ (List.mem_cons_self ..)
  refine ⟨_, h1, ⟨.inl ⟨rfl, _, SqL.of h5⟩, ?_⟩⟩
  refine h A σ B H o _ fun v d B' H' o' ex dv hd => ?_
  obtain ⟨g1, g2, g3, g4, zs, g5, g6⟩ := o'.own _ (List.mem_cons_self ..)
  refine ⟨_, zs, v, rfl, rfl, g5, ?_, k d hd B' _ (o'.mut hj (g6.append (.one dv)))⟩
  rw [g6.length]
  exact Nat.lt_trans hz (by decide)
/-- the turn of the lists of one's own does not matter -/
theorem Iv.perm (o : Iv c A σ B H ρ os) (h : ∀ p ∈ os', p ∈ os) : Iv c A σ B H ρ os' := o.drop h
/-- a for over range(..), whose end may be drawn -/
theorem go_rng {D : Ends} {Pm : Int → Prop} (o : Iv c A σ B H ρ os) (h : EI c te ρ os (fun d => ∃ m, d = .int m ∧ 0 ≤ m ∧ m ≤ 1000 ∧ Pm m)) (hi : i ≠ c.r) (P : Int → Nat → Rho → OS → Prop) (hk : ∀ m n ρ os, P m n ρ os → ∀ p ∈ os, i ≠ p.1)
    (p0 : ∀ m, 0 ≤ m → Pm m → P m 0 ρ os) {tb : TS}
    (turn : ∀ m, Pm m → ∀ n : Nat, (n : Int) < m → ∀ ρ os, P m n ρ os → ∀ A σ B H N, Iv c A σ B H (ρ.set i (some (.int n))) os → (∀ A σ B H ρ' os', P m (n + 1) ρ' os' → Iv c A σ B H ρ' os' → N σ H) → tb { D with nx := N, ct := N, bk := D.nx } σ H)
    (k : ∀ m, 0 ≤ m → Pm m → ∀ ρ' os', P m m.toNat ρ' os' → ∀ A σ B H, Iv c A σ B H ρ' os' → D.nx σ H) : tFor (iRng1 (tCons te tNil)) (gName i) tb D σ H := by
  refine h A σ B H o _ fun v d B1 H1 o1 ex dv ⟨m, e, h0, h1, hm⟩ => ?_
  subst e
  cases dv
  refine ⟨m, rfl, by omega, by omega, ?_⟩
  refine ⟨fun n w σ H => w = m.toNat - n ∧ n ≤ m.toNat ∧ ∃ A B ρ os, P m n ρ os ∧ Iv c A σ B H ρ os, ⟨m.toNat, by omega, Nat.zero_le _, A, B1, ρ, os, p0 m h0 hm, o1⟩, ?_⟩
  rintro n w σ' H' ⟨rfl, hle, A', B', ρ', os', hP, o'⟩
  by_cases hlt : n < m.toNat
  · right
    refine ⟨hlt, fun σ H => n + 1 ≤ m.toNat ∧ ∃ A B ρ os, P m (n + 1) ρ os ∧ Iv c A σ B H ρ os, fun σ2 H2 ⟨q1, q2⟩ => ⟨m.toNat - (n + 1), by omega, rfl, q1, q2⟩, fun x H2 hy => ?_⟩
    obtain ⟨rfl, e⟩ := hy
    have e0 : (0 : Int) + ((n : Nat) : Int) = (n : Int) := Int.zero_add _
    rw [e0] at e
    subst e
    exact turn m hm n (by omega) ρ' os' hP A' _ B' _ _ (o'.set (.int _) hi (hk m n ρ' os' hP)) fun A2 σ2 B2 H2 ρ2 os2 hP2 o2 => ⟨hlt, A2, B2, ρ2, os2, hP2, o2⟩
  · left
    have : n = m.toNat := by omega
    subst this
    exact ⟨Nat.le_refl _, k m h0 hm ρ' os' hP A' σ' B' H' o'⟩
end
end Pd

/-! Sem9 -/
set_option Elab.async false
set_option linter.all false
set_option maxRecDepth 100000
set_option maxHeartbeats 4000000
namespace Pd
open PySem PySem.Spec PyProof.Rows L2 PySem.W
local macro_rules | `(tactic| walk_at "ed") => `(tactic| repeat' (first
  | with_reducible (first
    | exact ed_int | exact ed_str | exact ed_bl | exact ed_non
    | exact ea_nil | refine' ea_cons ?_ ?_
    | refine' ed_isi ?_ ?_ | refine' ed_isi2 ?_ ?_ ?_
    | refine' ed_andV ?_ (fun _ => ?_) | refine' ed_orV ?_ (fun _ => ?_) | refine' ed_notV ?_
    | refine' ed_chain ?_ ?_ ?_ (fun _ => ⟨?_, ?_⟩)
    | refine' ed_tup ?_ ?_ | refine' ed_lst ?_ ?_
    | refine' et_not ?_ | refine' et_and ?_ (fun _ => ?_) | refine' et_or ?_ (fun _ => ?_) | exact et_yes
    | refine' et_test ?_ | refine' et_B ?_
    | refine' ed_op ?_ ?_ ?_
    | refine' ed_cb ?_ ?_)
  | exact ed_var rfl
  | exact kit_tt | exact kit_ii | exact kit_ib | exact kit_ll | exact kit_lt | exact kit_tl
  | exact r2_addI | exact r2_subI | exact r2_lt | exact r2_le | exact r2_gt | exact r2_ge | exact r2_isN | exact r2_notN
  | exact rc_lenT | exact rc_lenL | exact rc_intB | exact rc_tupL
  | with_reducible (first | refine' r2_eq ?_ ?_ | refine' r2_ne ?_ ?_)
  | exact sh_int _ | exact sh_sg _ | exact sh_cell _ | exact sh_edge _ | exact sh_pair _ | exact sh_str _ (by decide +kernel)
  | exact r2_ixT rfl | exact r2_ixL rfl
  | refine' ed_tup ?_ ?_
  | (show List.length _ ≤ 100000; simp; done)))
theorem env_cons {x : Option V} {σ : L2.St} {B : Hp} {ρ : Rho} (h : EnvD σ B ρ) : EnvD (x :: σ) B (none :: ρ) := by
  refine ⟨by rw [List.length_cons, List.length_cons, h.len], fun i d q => ?_⟩
  cases i with
  | zero => simp at q
  | succ i =>
    obtain ⟨v, h1, h2⟩ := h.get i d (by simpa using q)
    exact ⟨v, by simpa using h1, h2⟩
/-- the row in slot 0, these constants -/
def CK (c : Cfg) (K : PySem.W.Frag) : Prop := c.r = 0 ∧ c.K = K
/-- a def that draws, at its beginning -/
theorem iv_start {K : PySem.W.Frag} {Pre : List PyData → Prop} {R : List PyData → PyData → Prop} {vs : List V} {H : Hp} {Q : VK} {E : XK} (h : spW K Pre R vs H Q E) (x : Str) (N : List Str) (hN : ∀ ds, Pre ds → ds.length ≤ N.length) :
    ∃ (c : Cfg) (ds : List PyData), CK c K ∧ Pre ds ∧ (∀ A, Iv c A (L2.start (x :: N) vs) c.B1 H (none :: (ds.map some ++ List.replicate (N.length - ds.length) none)) []) ∧
      ∀ A σ v d B' H' ρ' os', R ds d → Iv c A σ B' H' ρ' os' → DH B' v d → Q v H' := by
  obtain ⟨l, sc, ns, B, ws, ds, rfl, hd, dr, hp, q⟩ := h
  refine ⟨⟨K, 0, l, sc, ns, B, H⟩, ds, ⟨rfl, rfl⟩, hp, fun A => ⟨dr, ⟨Ex.refl B, fun _ _ _ e => e, fun _ e _ => e⟩, ?_, ?_, fun p hp => absurd hp (by simp), fun p hp => absurd hp (by simp)⟩, fun A σ v d B' H' ρ' os' r o dv => q v d B' H' r o.d o.g dv⟩
  · have e : L2.start (x :: N) (.ref l :: ws) = some (.ref l) :: L2.start N ws := by
      unfold L2.start
      simp
    rw [e]
    exact env_cons (env_start hd (by rw [hd.length]; exact hN ds hp))
  · unfold L2.start
    simp
theorem ei_drawE {K : PySem.W.Frag} {c : Cfg} {ρ : Rho} {os : OS} {te : TE} {m : Int} (hr : CK c K) (h : ED te ρ (.int m)) (h1 : 1 ≤ m) (h2 : m ≤ 1000) : EI c (tCallD (spW K P_taken R_taken) (tCons (tVar 0) (tCons te tNil))) ρ os (fun d => ∃ n : Nat, d = .int n ∧ (n : Int) < m) := by
  obtain ⟨h0, rfl⟩ := hr
  rw [← h0]
  exact ei_draw h h1 h2
/-- 1 + a draw below m -/
theorem ei_draw1 {K : PySem.W.Frag} {c : Cfg} {ρ : Rho} {os : OS} {te : TE} {m : Int} (hr : CK c K) (h : ED te ρ (.int m)) (h1 : 1 ≤ m) (h2 : m ≤ 1000) : EI c (tOp (rAddX K) (tC (.int 1)) (tCallD (spW K P_taken R_taken) (tCons (tVar 0) (tCons te tNil)))) ρ os (fun d => ∃ n : Int, d = .int n ∧ 1 ≤ n ∧ n ≤ m) := by
  refine ei_op (ei_pure ed_int) (fun a _ => ei_drawE (K := K) hr h h1 h2) ?_
  rintro a b rfl ⟨n, rfl, hn⟩
  exact ⟨_, r2_addI, 1 + n, rfl, by omega, by omega⟩
theorem go_seq {t u : TS} {D : Ends} {σ : L2.St} {H : Hp} (h : t { D with nx := u D } σ H) : tSeq t u D σ H := h
/-! ### the cells that are drawn -/
def P_cells (ds : List PyData) : Prop := ∃ h : Hall, HallOk h ∧ ds = [hallD h, .int 3]
def R_cells (ds : List PyData) (d : PyData) : Prop := ∃ (h : Hall) (cs : List Cell), ds = [hallD h, .int 3] ∧ CellsOk h cs ∧ d = cellsD cs
theorem rp_L_cells {K : PySem.W.Frag} {vs : List V} {H : Hp} {Q : VK} {E : XK} (h : spW K P_cells R_cells vs H Q E) : rd_L_cells K (spW K P_taken R_taken) { nx := fun _ H' => Q .non H', rt := Q } (L2.start ["_law_row", "_law_hall_here", "_law_size", "_law_found", "_law_k", "_law_cell"] vs) H := by
  obtain ⟨c, ds, hr, ⟨h, ho, rfl⟩, o, q⟩ := iv_start h "_law_row" ["_law_hall_here", "_law_size", "_law_found", "_law_k", "_law_cell"] (fun ds ⟨h, _, e⟩ => by rw [e]; simp)
  generalize L2.start ["_law_row", "_law_hall_here", "_law_size", "_law_found", "_law_k", "_law_cell"] vs = σ at o ⊢
  have o0 : Iv c (fun _ => 0) σ c.B1 H [none, some (hallD h), some (.int 3), none, none, none] [] := o _
  have hr0 := hr
  refine go_seq ?_
  refine go_asg (P := (· = .list (([] : List Cell).map cellD))) o0 (ei_pure (ed_lst ea_nil (by simp))) (by rw [hr.1]; decide) (by simp) ?_
  rintro d rfl σ B H o
  refine go_seq ?_
  refine go_rng (Pm := fun m => 1 ≤ m ∧ m ≤ 3) o ((ei_draw1 (m := 3) hr (ed_var rfl) (by decide) (by decide)).imp ?_) (by rw [hr.1]; decide)
    (fun _ n ρ os => os = [] ∧ ∃ cs : List Cell, ρ = [none, some (hallD h), some (.int 3), some (.list (cs.map cellD)), none, none] ∧ cs.length ≤ n ∧ (1 ≤ n → cs ≠ []) ∧ (∀ x ∈ cs, inH h x = true) ∧ cs.Nodup) ?_ ?_ ?_ ?_
  · rintro d ⟨n, rfl, h1, h2⟩
    exact ⟨n, rfl, by omega, by omega, h1, h2⟩
  · rintro m n ρ os ⟨rfl, _⟩
    simp
  · intro m _ _
    exact ⟨rfl, [], rfl, by simp, by omega, by simp, List.nodup_nil⟩
  · rintro m ⟨hm1, hm2⟩ n hn ρ os ⟨rfl, cs, rfl, hl, hne, hin, hnd⟩ A σ B H N o k
    have o : Iv c A σ B H [none, some (hallD h), some (.int 3), some (.list (cs.map cellD)), some (.int n), none] [] := o
    have h1 := ho.rows
    have h2 := ho.cols
    refine go_seq ?_
    refine go_asg (P := fun d => ∃ x : Cell, d = cellD x ∧ inH h x = true) o ((ei_tup (ai_cons (ei_drawE (K := K) hr (m := h.rows) (ed_op (ed_var rfl) ed_int (r2_ixT rfl)) (by omega) (by omega)) fun _ _ => ai_cons (ei_drawE (K := K) hr (m := h.cols) (ed_op (ed_var rfl) ed_int (r2_ixT rfl)) (by omega) (by omega)) fun _ _ => ai_nil) ?_).imp ?_) (by rw [hr.1]; decide) (by simp) ?_
    · rintro ds ⟨d, es, rfl, _, e, es2, rfl, _, rfl⟩
      simp
    · rintro d ⟨ds, rfl, d1, es, rfl, ⟨a, rfl, ha⟩, d2, es2, rfl, ⟨b, rfl, hb⟩, rfl⟩
      refine ⟨((a : Int), (b : Int)), rfl, ?_⟩
      unfold inH
      exact decide_eq_true ⟨by omega, ha, by omega, hb⟩
    rintro d ⟨x, rfl, hx⟩ σ B H o
    have o : Iv c A σ B H [none, some (hallD h), some (.int 3), some (.list (cs.map cellD)), some (.int n), some (cellD x)] [] := o
    have he : ED (tOp (rAddX K) (tVar 3) (tOp rMulX (tLst (tCons (tVar 5) tNil)) (tCB rIntX (tCons (tOp (rInX K true) (tVar 5) (tVar 3)) tNil)))) [none, some (hallD h), some (.int 3), some (.list (cs.map cellD)), some (.int n), some (cellD x)]
        (.list ((if x ∈ cs then cs else cs ++ [x]).map cellD)) := by
      have e1 : ED (tOp (rInX K true) (tVar 5) (tVar 3)) [none, some (hallD h), some (.int 3), some (.list (cs.map cellD)), some (.int n), some (cellD x)] (.bool (!decide (x ∈ cs))) :=
        ED.is (ed_op (ed_var rfl) (ed_var rfl) (r2_inL (sh_cell x) (sh_cellsL cs))) (by rw [if_pos rfl, any_cell])
      refine ED.is (ed_op (ed_var rfl) (ed_op (ed_lst (ea_cons (ed_var rfl) ea_nil) (by simp)) (ed_cb (ea_cons e1 ea_nil) rc_intB) (r2_rep (by split <;> decide) (by split <;> decide) (by simp))) (r2_catL ?_)) ?_
      · have : ∀ b : Bool, (List.replicate (if b = true then (1 : Int) else 0).toNat [cellD x]).flatten.length ≤ 1 := fun b => by cases b <;> simp
        have := this (!decide (x ∈ cs))
        rw [List.length_map]
        omega
      · by_cases hm : x ∈ cs
        · simp [hm]
        · simp [hm]
    refine go_asg (P := (· = .list ((if x ∈ cs then cs else cs ++ [x]).map cellD))) o (ei_pure he) (by rw [hr.1]; decide) (by simp) ?_
    rintro d rfl σ B H o
    have o : Iv c A σ B H [none, some (hallD h), some (.int 3), some (.list ((if x ∈ cs then cs else cs ++ [x]).map cellD)), some (.int n), some (cellD x)] [] := o
    refine k A σ B H [none, some (hallD h), some (.int 3), some (.list ((if x ∈ cs then cs else cs ++ [x]).map cellD)), none, none] [] ⟨rfl, _, rfl, ?_, fun _ => ?_, ?_, ?_⟩ (o.less (((Rle.refl [none, some (hallD h), some (.int 3), some (.list ((if x ∈ cs then cs else cs ++ [x]).map cellD)), none, none]).set (i := 4) (o := some (.int n)) rfl).set (i := 5) (o := some (cellD x)) rfl))
    · split
      · omega
      · rw [List.length_append, List.length_singleton]
        omega
    · split
      · exact List.ne_nil_of_mem ‹_›
      · simp
    · split
      · exact hin
      · intro y hy
        rcases List.mem_append.mp hy with hy | hy
        · exact hin y hy
        · rw [List.mem_singleton.mp hy]
          exact hx
    · split
      · exact hnd
      · rename_i hm
        rw [List.nodup_append]
        exact ⟨hnd, List.nodup_cons.mpr ⟨by simp, List.nodup_nil⟩, fun a ha b hb e => hm (by rw [← List.mem_singleton.mp hb, ← e]; exact ha)⟩
  · rintro m h0 ⟨hm1, hm2⟩ ρ os ⟨rfl, cs, rfl, hl, hne, hin, hnd⟩ A σ B H o
    refine go_ret o (ei_pure (ed_cb (ea_cons (ed_var rfl) ea_nil) rc_tupL)) fun v d B' H' o' dv e => ?_
    subst e
    exact q A σ v _ B' H' _ _ ⟨h, cs, rfl, ⟨hne (by omega), by omega, hin, hnd⟩, rfl⟩ o' dv
end Pd

/-! Sem10 -/
set_option Elab.async false
set_option linter.all false
set_option maxRecDepth 100000
set_option maxHeartbeats 4000000
namespace Pd
open PySem PySem.Spec PyProof.Rows L2 PySem.W
local macro_rules | `(tactic| walk_at "ed") => `(tactic| repeat' (first
  | with_reducible (first
    | exact ed_int | exact ed_str | exact ed_bl | exact ed_non
    | exact ea_nil | refine' ea_cons ?_ ?_
    | refine' ed_isi ?_ ?_ | refine' ed_isi2 ?_ ?_ ?_
    | refine' ed_andV ?_ (fun _ => ?_) | refine' ed_orV ?_ (fun _ => ?_) | refine' ed_notV ?_
    | refine' ed_chain ?_ ?_ ?_ (fun _ => ⟨?_, ?_⟩)
    | refine' ed_tup ?_ ?_ | refine' ed_lst ?_ ?_
    | refine' et_not ?_ | refine' et_and ?_ (fun _ => ?_) | refine' et_or ?_ (fun _ => ?_) | exact et_yes
    | refine' et_test ?_ | refine' et_B ?_
    | refine' ed_op ?_ ?_ ?_
    | refine' ed_cb ?_ ?_)
  | exact ed_var rfl
  | exact kit_tt | exact kit_ii | exact kit_ib | exact kit_ll | exact kit_lt | exact kit_tl
  | exact r2_addI | exact r2_subI | exact r2_lt | exact r2_le | exact r2_gt | exact r2_ge | exact r2_isN | exact r2_notN
  | exact rc_lenT | exact rc_lenL | exact rc_intB | exact rc_tupL
  | with_reducible (first | refine' r2_eq ?_ ?_ | refine' r2_ne ?_ ?_)
  | exact sh_int _ | exact sh_sg _ | exact sh_cell _ | exact sh_edge _ | exact sh_pair _ | exact sh_str _ (by decide +kernel)
  | exact r2_ixT rfl | exact r2_ixL rfl
  | refine' ed_tup ?_ ?_
  | (show List.length _ ≤ 100000; simp; done)))
section
variable {K : PySem.W.Frag} {c : Cfg} {A : Nat → Addr} {σ : L2.St} {B H : Hp} {ρ ρ' : Rho} {os os' : OS} {te tb tc : TE} {tt tu : TT} {ta tr : TA} {d e : PyData} {ds es : List PyData} {P P2 : PyData → Prop} {i j : Nat} {vs : List Nat}
/-- a new list, one's own, is put in a slot -/
theorem Iv.ownN {a : Addr} {xs : List V} (o : Iv c A σ B H ρ os) (hn : H a = none) (hx : DHs B xs ds) (hr : j ≠ c.r) (ho : ∀ p ∈ os, j ≠ p.1) (hj : j < ρ.length) :
    Iv c (fun x => if x = j then a else A x) (σ.set j (some (.ref a))) B (upd H a (.lst xs)) (ρ.set j none) ((j, ds) :: os) := by
  have g : Gr B H B (upd H a (.lst xs)) := Gr.own o.d.t hn
  have o' := o.gr g
  have nB : B a = none := o.d.t.nil hn
  have hl : upd H a (.lst xs) a = some (.lst xs) := upd_same
  have hne : ∀ p ∈ os, A p.1 ≠ a := fun p hp z => by
    obtain ⟨_, _, _, _, ys, h5, _⟩ := o.own p hp
    rw [z, hn] at h5
    cases h5
  have hal : a ≠ c.l := fun z => o.d.nn (by rw [← z]; exact hn)
  have hH1 : c.H1 a = none := by
    cases q : c.H1 a with
    | none => rfl
    | some u =>
      have := o.g.h a u hal q
      rw [hn] at this
      cases this
  refine ⟨o'.d, o'.g, o'.e.forget j _, by rw [List.getElem?_set_ne hr]; exact o'.s0, fun p hp => ?_, fun p hp q hq hpq => ?_⟩
  · rcases List.mem_cons.mp hp with rfl | hp
    · show (σ.set j (some (.ref a)))[j]? = some (some (.ref (if j = j then a else A j))) ∧ _
      simp only [if_true]
      exact ⟨List.getElem?_set_self (by rw [o.e.len]; exact hj), nB, hH1, hal, xs, hl, hx⟩
    · obtain ⟨h1, h2⟩ := o'.own p hp
      have e : p.1 ≠ j := fun z => ho p hp z.symm
      simp only [if_neg e]
      exact ⟨by rw [List.getElem?_set_ne (ho p hp)]; exact h1, h2⟩
  · rcases List.mem_cons.mp hp with rfl | hp
    · rcases List.mem_cons.mp hq with rfl | hq
      · exact absurd rfl hpq
      · have e : q.1 ≠ j := fun z => hpq z.symm
        simp only [if_true, if_neg e]
        exact fun z => hne q hq z.symm
    · have e : p.1 ≠ j := fun z => ho p hp z.symm
      rcases List.mem_cons.mp hq with rfl | hq
      · simp only [if_true, if_neg e]
        exact hne p hp
      · have e2 : q.1 ≠ j := fun z => ho q hq z.symm
        simp only [if_neg e, if_neg e2]
        exact o.ap p hp q hq hpq
/-- x, y, z = [], [], [] -/
theorem go_par3 {D : Ends} {k l : Nat} (o : Iv c A σ B H ρ os) (hj : j ≠ c.r) (hk : k ≠ c.r) (hl : l ≠ c.r) (hjk : k ≠ j) (hjl : l ≠ j) (hkl : l ≠ k) (oj : ∀ p ∈ os, j ≠ p.1) (ok : ∀ p ∈ os, k ≠ p.1) (ol : ∀ p ∈ os, l ≠ p.1)
    (lj : j < ρ.length) (lk : k < ρ.length) (ll : l < ρ.length) (q : ∀ A σ B H, Iv c A σ B H (((ρ.set j none).set k none).set l none) ((l, []) :: (k, []) :: (j, []) :: os) → D.nx σ H) :
    tPar3 j k l (tCons (tLst tNil) (tCons (tLst tNil) (tCons (tLst tNil) tNil))) D σ H := by
  refine ⟨Nat.zero_le _, fun a ha => ⟨Nat.zero_le _, fun b hb => ⟨Nat.zero_le _, fun d hd => ?_⟩⟩⟩
  refine ⟨_, _, _, rfl, ?_⟩
  have o1 := o.ownN (ds := []) ha .nil hj oj lj
  have o2 := o1.ownN (ds := []) (j := k) hb .nil hk (fun p hp => by
    rcases List.mem_cons.mp hp with rfl | hp
    · exact hjk
    · exact ok p hp) (by rw [List.length_set]; exact lk)
  have o3 := o2.ownN (ds := []) (j := l) hd .nil hl (fun p hp => by
    rcases List.mem_cons.mp hp with rfl | hp
    · exact hkl
    · rcases List.mem_cons.mp hp with rfl | hp
      · exact hjl
      · exact ol p hp) (by rw [List.length_set, List.length_set]; exact ll)
  exact q _ _ B _ o3
/-- xs.append(ys.pop(k)) -/
theorem go_pop {D : Ends} (hr : CK c K) (o : Iv c A σ B H ρ ((i, es) :: (j, ds) :: os)) (hij : i ≠ j) (hi : ∀ p ∈ os, i ≠ p.1) (hj : ∀ p ∈ os, j ≠ p.1)
    (hi' : i < ρ.length) (he : 1 ≤ es.length) (he2 : es.length ≤ 1000) (hz : ds.length < 100000)
    (k : ∀ n z, es[n]? = some z → ∀ B H, Iv c A σ B H ρ ((i, es.eraseIdx n) :: (j, ds ++ [z]) :: os) → D.nx σ H) :
    tDrop (tBM K "list" rAppend (tVar j) (tCons (tBM K "list" rPopAt (tVar i) (tCons (tCallD (spW K P_taken R_taken) (tCons (tVar 0) (tCons (tCB (rLenX K) (tCons (tVar i) tNil)) tNil))) tNil)) tNil)) D σ H := by
  obtain ⟨h1, h2, h3, h4, xs0, h5, h6⟩ := o.own (j, ds) (List.mem_cons_of_mem _ (List.mem_cons_self ..))
  obtain ⟨g1, g2, g3, g4, ys0, g5, g6⟩ := o.own (i, es) (List.mem_cons_self ..)
  refine ⟨_, h1, ⟨.inl ⟨rfl, _, SqL.of h5⟩, ?_⟩⟩
  refine ⟨_, g1, ⟨.inl ⟨rfl, _, SqL.of g5⟩, ?_⟩⟩
  have hd : EI c (tCallD (spW K P_taken R_taken) (tCons (tVar 0) (tCons (tCB (rLenX K) (tCons (tVar i) tNil)) tNil))) ρ ((i, es) :: (j, ds) :: os) (fun d => ∃ n : Nat, d = .int n ∧ (n : Int) < (es.length : Nat)) := by
    obtain ⟨h00, rfl⟩ := hr
    rw [← h00]
    refine ei_drawI (ei_view (j := i) (ds := es) ?_ (List.mem_cons_self ..) (flat_int _)) (by omega) (by omega)
    exact ed_cb (ea_cons (ed_var (List.getElem?_set_self hi')) ea_nil) rc_lenL
  refine hd A σ B H o _ fun v d B' H' o' ex dv ⟨n, e, hn⟩ => ?_
  subst e
  cases dv
  obtain ⟨a1, a2, a3, a4, ys, a5, a6⟩ := o'.own (i, es) (List.mem_cons_self ..)
  have hlen : ys.length = es.length := a6.length
  have hnl : n < es.length := by omega
  obtain ⟨y, hy, dy⟩ := a6.get (List.getElem?_eq_getElem hnl)
  have hseq : seqIndex? (n : Int) ys.length = some n := by
    have h0 : (0 : Int) ≤ (n : Int) := by omega
    have h1 : (n : Int) < (ys.length : Int) := by omega
    simp [seqIndex?, h0, h1, Int.not_lt.mpr h0]
  refine ⟨_, ys, n, n, y, rfl, rfl, a5, by omega, by omega, hseq, hy, ?_⟩
  have o2 := o'.mut (fun p hp => by
    rcases List.mem_cons.mp hp with rfl | hp
    · exact hij
    · exact hi p hp) (a6.erase n)
  have o3 := o2.perm (os' := (j, ds) :: (i, es.eraseIdx n) :: os) (fun p hp => by simp at hp ⊢; rcases hp with h | h | h <;> simp [h])
  obtain ⟨b1, b2, b3, b4, zs, b5, b6⟩ := o3.own (j, ds) (List.mem_cons_self ..)
  refine ⟨_, zs, y, rfl, rfl, b5, ?_, ?_⟩
  · rw [b6.length]
    exact Nat.lt_trans hz (by decide)
  · have o4 := o3.mut (fun p hp => by
      rcases List.mem_cons.mp hp with rfl | hp
      · exact fun z => hij z.symm
      · exact hj p hp) (b6.append (.one dy))
    have o5 := o4.perm (os' := (i, es.eraseIdx n) :: (j, ds ++ [es[n]]) :: os) (fun p hp => by simp at hp ⊢; rcases hp with h | h | h <;> simp [h])
    exact k n _ (List.getElem?_eq_getElem hnl) B' _ o5
theorem en_lcT {α : Type} {wi : TI} {g : TG} (items : List α) (enc : α → PyData) (f : α → Bool) (v : α → PyData) (hi : IE wi ρ (items.map enc)) (hz : items.length ≤ 100000)
    (ht : ∀ d ∈ items, ∃ ρ', GD g (wipeR ρ vs) (enc d) ρ' vs ∧ ET tt ρ' (f d) ∧ (f d = true → ED te ρ' (v d))) : EN (tLc wi g tt te vs) ρ ((items.filter f).map v) := fun σ B H ex ev Q q => by
  refine hi σ B H ex ev _ fun J B1 H1 g1 hJ Dl hD => ?_
  have nB1 : B1 Dl = none := g1.t.nil hD
  refine ⟨fun i m H' => m = items.length - i ∧ i ≤ items.length ∧ ∃ B' xs, Gr B1 H1 B' H' ∧ H' Dl = some (.lst xs) ∧ B' Dl = none ∧ DHs B' xs (((items.take i).filter f).map v), ⟨items.length, by omega, Nat.zero_le _, B1, [], Gr.own g1.t hD, upd_same, nB1, .nil⟩, ?_⟩
  rintro i m H' ⟨rfl, hle, B', xs, g2, hDl, nB', hx⟩
  obtain ⟨hstop, hgo⟩ := hJ B' H' g2.b g2.t i
  by_cases hlt : i < items.length
  · right
    have hd : items[i]? = some items[i] := List.getElem?_eq_getElem hlt
    obtain ⟨go, hy⟩ := hgo (enc items[i]) (by rw [List.getElem?_map, hd]; rfl)
    refine ⟨go, fun H2 => i + 1 ≤ items.length ∧ ∃ B' xs, Gr B1 H1 B' H2 ∧ H2 Dl = some (.lst xs) ∧ B' Dl = none ∧ DHs B' xs (((items.take (i + 1)).filter f).map v), fun H2 ⟨h1, h2⟩ => ⟨items.length - (i + 1), by omega, rfl, h1, h2⟩, fun x H2 hyl => ?_⟩
    obtain ⟨B2, g3, dx⟩ := hy x H2 hyl
    obtain ⟨ρ', hg, htt, hte⟩ := ht _ (List.mem_of_getElem? hd)
    have hDn : H' Dl ≠ none := by rw [hDl]; exact fun z => nomatch z
    have n2 : B2 Dl = none := g3.n _ nB' hDn
    have e2 := g3.h _ _ hDl
    refine hg (L2.wipe σ vs) B2 H2 x g3.t (((ev.mono g1.b).mono (g2.b.trans g3.b)).wipe vs) dx _ fun σ2 ev2 w2 => ⟨w2.trans (wipe_idem σ vs), ?_⟩
    refine htt σ2 B2 H2 g3.t ev2 _ fun B3 H3 g4 => ?_
    have n3 : B3 Dl = none := g4.n _ n2 (by rw [e2]; exact fun z => nomatch z)
    have e3 := g4.h _ _ e2
    have g234 := (g2.trans g3).trans g4
    have hfs := take_filter_succ (f := f) hd
    cases hf : f items[i] with
    | true =>
      refine hte hf σ2 B3 H3 g4.t (ev2.mono g4.b) _ fun y B4 H4 g5 d5 => ?_
      have n4 : B4 Dl = none := g5.n _ n3 (by rw [e3]; exact fun z => nomatch z)
      have e4 := g5.h _ _ e3
      have g25 := g234.trans g5
      refine ⟨xs, e4, ?_, hlt, B4, xs ++ [y], ⟨g25.b, g5.t.mut n4, g25.h.mut hD, g25.n⟩, upd_same, n4, ?_⟩
      · have hl := hx.length
        rw [hl, List.length_map]
        have h1 := List.length_filter_le f (items.take i)
        rw [List.length_take] at h1
        have : ((items.take i).filter f).length ≤ 100000 := by omega
        exact Nat.lt_of_le_of_lt this (by decide)
      · rw [hfs, hf, if_pos rfl, List.map_append]
        exact (hx.mono ((g3.b.trans g4.b).trans g5.b)).append (.one d5)
    | false =>
      refine ⟨hlt, B3, xs, g234, e3, n3, ?_⟩
      rw [hfs, hf, if_neg (by decide), List.append_nil]
      exact hx.mono (g3.b.trans g4.b)
  · left
    have hie : i = items.length := by omega
    subst hie
    refine ⟨hstop (by rw [List.length_map]), ?_⟩
    rw [List.take_length] at hx
    exact q Dl xs B' H' (g1.trans ⟨g2.b, g2.t, g2.h, g2.n⟩) nB' (g1.h.nil hD) hDl hx
theorem en_lcM {α : Type} {wi : TI} {g : TG} (items : List α) (enc : α → PyData) (v : α → PyData) (hi : IE wi ρ (items.map enc)) (hz : items.length ≤ 100000)
    (ht : ∀ d ∈ items, ∃ ρ', GD g (wipeR ρ vs) (enc d) ρ' vs ∧ ED te ρ' (v d)) : EN (tLc wi g tYes te vs) ρ (items.map v) := by
  have h := en_lcT (tt := tYes) (g := g) (vs := vs) (te := te) items enc (fun _ => true) v hi hz fun d hd => by
    obtain ⟨ρ', a, b⟩ := ht d hd
    exact ⟨ρ', a, et_yes, fun _ => b⟩
  rw [List.filter_eq_self.mpr (fun _ _ => rfl)] at h
  exact h
end
end Pd

/-! Sem11 -/
set_option Elab.async false
set_option linter.all false
set_option maxRecDepth 100000
set_option maxHeartbeats 4000000
namespace Pd
open PySem PySem.Spec PyProof.Rows L2 PySem.W
local macro_rules | `(tactic| walk_at "ed") => `(tactic| repeat' (first
  | with_reducible (first
    | exact ed_int | exact ed_str | exact ed_bl | exact ed_non
    | exact ea_nil | refine' ea_cons ?_ ?_
    | refine' ed_isi ?_ ?_ | refine' ed_isi2 ?_ ?_ ?_
    | refine' ed_andV ?_ (fun _ => ?_) | refine' ed_orV ?_ (fun _ => ?_) | refine' ed_notV ?_
    | refine' ed_chain ?_ ?_ ?_ (fun _ => ⟨?_, ?_⟩)
    | refine' ed_tup ?_ ?_ | refine' ed_lst ?_ ?_
    | refine' et_not ?_ | refine' et_and ?_ (fun _ => ?_) | refine' et_or ?_ (fun _ => ?_) | exact et_yes
    | refine' et_test ?_ | refine' et_B ?_
    | refine' ed_op ?_ ?_ ?_
    | refine' ed_cb ?_ ?_)
  | exact ed_var rfl
  | exact kit_tt | exact kit_ii | exact kit_ib | exact kit_ll | exact kit_lt | exact kit_tl
  | exact r2_addI | exact r2_subI | exact r2_lt | exact r2_le | exact r2_gt | exact r2_ge | exact r2_isN | exact r2_notN
  | exact rc_lenT | exact rc_lenL | exact rc_intB | exact rc_tupL
  | with_reducible (first | refine' r2_eq ?_ ?_ | refine' r2_ne ?_ ?_)
  | exact sh_int _ | exact sh_sg _ | exact sh_cell _ | exact sh_edge _ | exact sh_pair _ | exact sh_str _ (by decide +kernel)
  | exact r2_ixT rfl | exact r2_ixL rfl
  | refine' ed_tup ?_ ?_
  | (show List.length _ ≤ 100000; simp; done)))
/-! ### the hall that is drawn -/
def P_hall (ds : List PyData) : Prop := ds = [.int 5, .int 6]
def R_hall (ds : List PyData) (d : PyData) : Prop := ∃ h : Hall, HallOk h ∧ d = hallD h
/-- the edges between cells, as they are laid out -/
def leftRow (wide : Int) (r : Nat) : List Edge := ((List.range (wide * (if (0 : Int) < (r : Int) then 1 else 0)).toNat).map fun k => ((r : Int), ((k : Nat) : Int), Sg.h)) ++ ((List.range (wide - 1).toNat).map fun k => ((r : Int), 1 + ((k : Nat) : Int), Sg.v))
def leftOf (wide : Int) : Nat → List Edge
  | 0 => []
  | n + 1 => leftOf wide n ++ leftRow wide n
def lookLeft (rows wide : Nat) : Bool := decide ((leftOf (wide : Int) rows).Nodup) && (leftOf (wide : Int) rows).all fun e => isEdge ⟨(rows : Int), (wide : Int), [], []⟩ e
theorem look_all : ∀ r ∈ [1, 2, 3, 4, 5], ∀ w ∈ [1, 2, 3, 4, 5], lookLeft r w = true := by decide +kernel
theorem look_left {rows wide : Int} (h1 : 1 ≤ rows ∧ rows ≤ 5) (h2 : 1 ≤ wide ∧ wide ≤ 5) : (leftOf wide rows.toNat).Nodup ∧ ∀ e ∈ leftOf wide rows.toNat, isEdge ⟨rows, wide, [], []⟩ e = true := by
  have h := look_all rows.toNat (by
    have : rows.toNat = 1 ∨ rows.toNat = 2 ∨ rows.toNat = 3 ∨ rows.toNat = 4 ∨ rows.toNat = 5 := by omega
    simpa using this) wide.toNat (by
    have : wide.toNat = 1 ∨ wide.toNat = 2 ∨ wide.toNat = 3 ∨ wide.toNat = 4 ∨ wide.toNat = 5 := by omega
    simpa using this)
  unfold lookLeft at h
  rw [Int.toNat_of_nonneg (by omega), Int.toNat_of_nonneg (by omega)] at h
  simp only [Bool.and_eq_true, decide_eq_true_eq, List.all_eq_true] at h
  exact h
theorem len_left {wide : Int} (h2 : 1 ≤ wide ∧ wide ≤ 5) : ∀ n : Nat, (leftOf wide n).length ≤ 10 * n
  | 0 => by simp [leftOf]
  | n + 1 => by
    have := len_left h2 n
    have e1 : (wide * (if (0 : Int) < (n : Int) then 1 else 0)).toNat ≤ 5 := by
      split <;> omega
    have e2 : (wide - 1).toNat ≤ 5 := by omega
    simp only [leftOf, leftRow, List.length_append, List.length_map, List.length_range]
    omega
def doorsOk (h : Hall) (ds : List Edge) : Prop := (∀ e ∈ ds, Way e.2.2) ∧ (∀ e ∈ ds, isEdge h (edgeFrom e.1 e.2.1 e.2.2) = true) ∧ (∀ e ∈ ds, edgeFrom e.1 e.2.1 e.2.2 ∉ h.walls) ∧ (ds.map fun e => edgeFrom e.1 e.2.1 e.2.2).Nodup
def ef (e : Edge) : Edge := edgeFrom e.1 e.2.1 e.2.2
theorem eqv_nil {xs : List Edge} : PyData.eqv (.list (xs.map edgeD)) (.list []) = xs.isEmpty := by
  cases xs <;> simp [PyData.eqv, PyData.eqvAll]
theorem perm_erase {α : Type} : ∀ (xs : List α) (n : Nat) (z : α), xs[n]? = some z → List.Perm (z :: xs.eraseIdx n) xs
  | [], n, z, h => by simp at h
  | x :: xs, 0, z, h => by
    simp at h
    subst h
    simp
  | x :: xs, n + 1, z, h => by
    have ih := perm_erase xs n z (by simpa using h)
    exact (List.Perm.swap x z _).trans (ih.cons x)
/-- what the walls are, as they are drawn -/
structure WallsOk (rows wide : Int) (walls left : List Edge) : Prop where
  nd : (walls ++ left).Nodup
  edge : ∀ e ∈ walls ++ left, isEdge ⟨rows, wide, [], []⟩ e = true
  len : left.length ≤ 100
theorem WallsOk.pop {rows wide : Int} {walls left : List Edge} {n : Nat} {z : Edge} (h : WallsOk rows wide walls left) (hz : left[n]? = some z) : WallsOk rows wide (walls ++ [z]) (left.eraseIdx n) := by
  have hp : List.Perm (walls ++ [z] ++ left.eraseIdx n) (walls ++ left) := by
    rw [List.append_assoc]
    refine List.Perm.append_left walls ?_
    exact perm_erase left n z hz
  exact ⟨hp.nodup_iff.mpr h.nd, fun e he => h.edge e (hp.mem_iff.mp he), Nat.le_trans (by rw [List.length_eraseIdx]; split <;> omega) h.len⟩
theorem isEdge_rc {h h' : Hall} (h1 : h.rows = h'.rows) (h2 : h.cols = h'.cols) (e : Edge) : isEdge h e = isEdge h' e := by
  unfold isEdge inH
  rw [h1, h2]
theorem map_erase {α β : Type} (f : α → β) : ∀ (xs : List α) (n : Nat), (xs.map f).eraseIdx n = (xs.eraseIdx n).map f
  | [], _ => by simp
  | x :: xs, 0 => by simp
  | x :: xs, n + 1 => by simp [map_erase f xs n]

section
variable {K : PySem.W.Frag}
theorem ei_callW0 {c : Cfg} {ρ : Rho} {os : OS} {ta : TA} {Pre : List PyData → Prop} {R : List PyData → PyData → Prop} {P' : List PyData → Prop} (hr : CK c K) (h : AI c ta ρ os P') (hp : ∀ ds, P' ds → Pre ds) : EI c (tCallD (spW K Pre R) (tCons (tVar 0) ta)) ρ os (fun d => ∃ ds, P' ds ∧ R ds d) := by
  obtain ⟨h0, rfl⟩ := hr
  have := ei_callW (R := R) h hp
  rw [h0] at this
  exact this
theorem ei_135 {c : Cfg} {ρ : Rho} {os : OS} (hr : CK c K) : EI c (tCallD (spW K P_taken R_taken) (tCons (tVar 0) (tCons (tOp (rIx K) (tLst (tCons (tC (.int 1)) (tCons (tC (.int 3)) (tCons (tC (.int 5)) tNil)))) (tCallD (spW K P_taken R_taken) (tCons (tVar 0) (tCons (tC (.int 3)) tNil)))) tNil))) ρ os (fun d => ∃ m : Int, d = .int m ∧ 0 ≤ m ∧ m ≤ 1000 ∧ m ≤ 4) := by
  refine (ei_callW0 hr (ai_cons (P := fun d => ∃ m : Int, d = .int m ∧ 1 ≤ m ∧ m ≤ 5) (ei_op (ei_pure (ed_lst (ds := [.int 1, .int 3, .int 5]) (ea_cons ed_int (ea_cons ed_int (ea_cons ed_int ea_nil))) (by simp))) (fun _ _ => ei_drawE (K := K) (m := 3) hr ed_int (by decide) (by decide)) ?_) fun d _ => ai_nil) ?_).imp ?_
  · rintro a b rfl ⟨n, rfl, hn⟩
    have : n = 0 ∨ n = 1 ∨ n = 2 := by omega
    rcases this with rfl | rfl | rfl
    · exact ⟨.int 1, r2_ixL rfl, 1, rfl, by decide, by decide⟩
    · exact ⟨.int 3, r2_ixL rfl, 3, rfl, by decide, by decide⟩
    · exact ⟨.int 5, r2_ixL rfl, 5, rfl, by decide, by decide⟩
  · rintro ds ⟨d, es, rfl, ⟨m, rfl, h1, h2⟩, rfl⟩
    exact ⟨m, rfl, h1, by omega⟩
  · rintro d ⟨ds, ⟨d1, es, rfl, ⟨m, rfl, h1, h2⟩, rfl⟩, m', n, e, rfl, h3, h4⟩
    have : m = m' := by simpa using e
    exact ⟨n, rfl, h3, by omega, by omega⟩
theorem ei_ensw {c : Cfg} {ρ : Rho} {os : OS} (hr : CK c K) : EI c (tOp (rIx K) (tC (.str "ensw")) (tCallD (spW K P_taken R_taken) (tCons (tVar 0) (tCons (tC (.int 4)) tNil)))) ρ os (fun d => ∃ w : Sg, d = sg w ∧ Way w) := by
  refine ei_op (ei_pure ed_str) (fun _ _ => ei_drawE (K := K) (m := 4) hr ed_int (by decide) (by decide)) ?_
  rintro a b rfl ⟨n, rfl, hn⟩
  have h : ∀ (n : Nat) (w : Sg), atI ("ensw" : Str).cps.toList n = some w.code → RD2 (rIx K) (.str "ensw") (.int n) (sg w) := fun n w e => r2_ixS (by decide +kernel) e
  have : n = 0 ∨ n = 1 ∨ n = 2 ∨ n = 3 := by omega
  rcases this with rfl | rfl | rfl | rfl
  · exact ⟨_, h 0 .e (by decide +kernel), .e, rfl, .inl rfl⟩
  · exact ⟨_, h 1 .n (by decide +kernel), .n, rfl, .inr (.inl rfl)⟩
  · exact ⟨_, h 2 .s (by decide +kernel), .s, rfl, .inr (.inr (.inl rfl))⟩
  · exact ⟨_, h 3 .w (by decide +kernel), .w, rfl, .inr (.inr (.inr rfl))⟩
theorem rp_L_hall {vs : List V} {H : Hp} {Q : VK} {E : XK} (h : spW K P_hall R_hall vs H Q E) : rd_L_hall K (spR R_L_pair) (spR R_L_shut) (spW K P_taken R_taken) (spR R_L_within) { nx := fun _ H' => Q .non H', rt := Q }
    (L2.start ["_law_row", "_law_size", "_law_doors", "_law_high", "_law_wide", "_law_left", "_law_r", "_law_shuts", "_law_hung", "_law_stand", "_law_k", "_law_door", "_law_pair_here", "_law_shut_here", "_law_c"] vs) H := by
  obtain ⟨c, ds, hr, hp, o, q⟩ := iv_start h "_law_row" ["_law_size", "_law_doors", "_law_high", "_law_wide", "_law_left", "_law_r", "_law_shuts", "_law_hung", "_law_stand", "_law_k", "_law_door", "_law_pair_here", "_law_shut_here", "_law_c"] (fun ds e => by rw [e]; simp)
  have hp' : ds = [.int 5, .int 6] := hp
  subst hp'
  generalize L2.start ["_law_row", "_law_size", "_law_doors", "_law_high", "_law_wide", "_law_left", "_law_r", "_law_shuts", "_law_hung", "_law_stand", "_law_k", "_law_door", "_law_pair_here", "_law_shut_here", "_law_c"] vs = σ at o ⊢
  have o : Iv c (fun _ => 0) σ c.B1 H [none, some (.int 5), some (.int 6), none, none, none, none, none, none, none, none, none, none, none, none] [] := o _
  have hrn : ∀ i : Nat, 0 < i → i ≠ c.r := fun i hi => by rw [hr.1]; omega
  unfold rd_L_hall
  refine go_seq ?_
  refine go_par (P := fun ds => ∃ a b : Int, ds = [.int a, .int b] ∧ (1 ≤ a ∧ a ≤ 5) ∧ (1 ≤ b ∧ b ≤ 5)) o ((ai_cons (ei_draw1 (m := 5) hr (ed_var rfl) (by decide) (by decide)) fun _ _ => ai_cons (ei_draw1 (m := 5) hr (ed_var rfl) (by decide) (by decide)) fun _ _ => ai_nil).imp ?_) ?_ (hrn _ (by decide)) (hrn _ (by decide)) (by simp) (by simp) ?_
  · rintro ds ⟨d1, es, rfl, ⟨a, rfl, ha⟩, d2, es2, rfl, ⟨b, rfl, hb⟩, rfl⟩
    exact ⟨a, b, rfl, ha, hb⟩
  · rintro ds ⟨a, b, rfl, _⟩
    exact ⟨_, _, rfl⟩
  rintro d1 d2 ⟨high, wide, he, h1, h2⟩ σ B H o
  obtain ⟨rfl, rfl⟩ : d1 = .int high ∧ d2 = .int wide := by simpa using he
  have o : Iv c (fun _ => 0) σ B H [none, some (.int 5), some (.int 6), some (.int high), some (.int wide), none, none, none, none, none, none, none, none, none, none] [] := o
  -- left, as it is laid out
  refine go_seq ?_
  refine go_asg (P := (· = .list (([] : List Edge).map edgeD))) o (ei_pure (ed_lst ea_nil (by simp))) (hrn _ (by decide)) (by simp) ?_
  rintro d rfl σ B H o
  have o : Iv c (fun _ => 0) σ B H [none, some (.int 5), some (.int 6), some (.int high), some (.int wide), some (.list (([] : List Edge).map edgeD)), none, none, none, none, none, none, none, none, none] [] := o
  refine go_seq ?_
  refine go_rng (Pm := fun m => m = high) o ((ei_pure (ed_var (d := .int high) rfl)).imp ?_) (hrn _ (by decide))
    (fun _ n ρ os => (n = 0 ∧ os = [] ∧ ρ = [none, some (.int 5), some (.int 6), some (.int high), some (.int wide), some (.list ((leftOf wide 0).map edgeD)), none, none, none, none, none, none, none, none, none]) ∨ (1 ≤ n ∧ os = [(5, (leftOf wide n).map edgeD)] ∧ ρ = [none, some (.int 5), some (.int 6), some (.int high), some (.int wide), none, none, none, none, none, none, none, none, none, none])) ?_ ?_ ?_ ?_
  · rintro d rfl
    exact ⟨high, rfl, by omega, by omega, rfl⟩
  · rintro m n ρ os (⟨_, rfl, _⟩ | ⟨_, rfl, _⟩)
    · simp
    · simp
  · intro m _ _
    exact .inl ⟨rfl, rfl, rfl⟩
  · rintro m rfl n hn ρ os hP A σ B H N o k
    have o2 : ∃ B, Iv c A σ B H [none, some (.int 5), some (.int 6), some (.int m), some (.int wide), some (.list ((leftOf wide n).map edgeD)), some (.int n), none, none, none, none, none, none, none, none] [] := by
      rcases hP with ⟨rfl, rfl, rfl⟩ | ⟨_, rfl, rfl⟩
      · exact ⟨B, o⟩
      · obtain ⟨B', _, o'⟩ := o.own_in (by simp)
        exact ⟨B', o'⟩
    obtain ⟨B, o⟩ := o2
    have hl := len_left h2 n
    have e1 : (wide * (if (0 : Int) < (n : Int) then 1 else 0)).toNat ≤ 5 := by split <;> omega
    have e1' : wide * (if (0 : Int) < (n : Int) then 1 else 0) ≤ 5 := by split <;> omega
    have e1'' : 0 ≤ wide * (if (0 : Int) < (n : Int) then 1 else 0) := by split <;> omega
    have hc1 : ED (tLc (iRng1 (tCons (tOp rMulX (tVar 4) (tCB rIntX (tCons (tOp rGtI (tVar 6) (tC (.int 0))) tNil))) tNil)) (gName 14) tYes (tTup (tCons (tVar 6) (tCons (tVar 14) (tCons (tC (.str "-")) tNil)))) [14])
        [none, some (.int 5), some (.int 6), some (.int m), some (.int wide), some (.list ((leftOf wide n).map edgeD)), some (.int n), none, none, none, none, none, none, none, none]
        (.list (((List.range (wide * (if (0 : Int) < (n : Int) then 1 else 0)).toNat).map fun k => ((n : Int), ((k : Nat) : Int), Sg.h)).map edgeD)) := by
      have hb : ED (tOp rMulX (tVar 4) (tCB rIntX (tCons (tOp rGtI (tVar 6) (tC (.int 0))) tNil))) [none, some (.int 5), some (.int 6), some (.int m), some (.int wide), some (.list ((leftOf wide n).map edgeD)), some (.int n), none, none, none, none, none, none, none, none] (.int (wide * (if (0 : Int) < (n : Int) then 1 else 0))) := by
        refine ED.is (ed_op (ed_var rfl) (ed_cb (ea_cons (ed_op (ed_var rfl) ed_int r2_gt) ea_nil) rc_intB) (r2_mulI (i := wide) ?_)) ?_
        · exact .inl (by omega)
        · simp
      have h := ed_lcM (vs := [14]) (te := tTup (tCons (tVar 6) (tCons (tVar 14) (tCons (tC (.str "-")) tNil)))) (g := gName 14) (List.range (wide * (if (0 : Int) < (n : Int) then 1 else 0)).toNat) (fun k => PyData.int (k : Nat)) (fun k => edgeD ((n : Int), ((k : Nat) : Int), Sg.h)) (ie_rng1 (ea_cons hb ea_nil) (by omega) (by omega)) (by rw [List.length_range]; omega)
        (fun k _ => ⟨_, gd_name (by simp), ED.is (ed_tup (ea_cons (ed_var rfl) (ea_cons (ed_var rfl) (ea_cons ed_str ea_nil))) (by simp)) (by rw [lit_h]; rfl)⟩)
      rw [List.map_map]
      exact h
    have hc2 : ED (tLc (iRng2 (tCons (tC (.int 1)) (tCons (tVar 4) tNil))) (gName 14) tYes (tTup (tCons (tVar 6) (tCons (tVar 14) (tCons (tC (.str "|")) tNil)))) [14])
        [none, some (.int 5), some (.int 6), some (.int m), some (.int wide), some (.list ((leftOf wide n).map edgeD)), some (.int n), none, none, none, none, none, none, none, none]
        (.list (((List.range (wide - 1).toNat).map fun k => ((n : Int), 1 + ((k : Nat) : Int), Sg.v)).map edgeD)) := by
      have h := ed_lcM (vs := [14]) (te := tTup (tCons (tVar 6) (tCons (tVar 14) (tCons (tC (.str "|")) tNil)))) (g := gName 14) (List.range (wide - 1).toNat) (fun k => PyData.int (1 + (k : Nat))) (fun k => edgeD ((n : Int), 1 + ((k : Nat) : Int), Sg.v)) (ie_rng2 (ρ := [none, some (.int 5), some (.int 6), some (.int m), some (.int wide), some (.list ((leftOf wide n).map edgeD)), some (.int n), none, none, none, none, none, none, none, none]) (ta := tCons (tC (.int 1)) (tCons (tVar 4) tNil)) (m := 1) (n := wide) (ea_cons ed_int (ea_cons (ed_var rfl) ea_nil)) (by omega) (by omega) (by omega) (by omega)) (by rw [List.length_range]; omega)
        (fun k _ => ⟨_, gd_name (by simp), ED.is (ed_tup (ea_cons (ed_var rfl) (ea_cons (ed_var rfl) (ea_cons ed_str ea_nil))) (by simp)) (by rw [lit_v]; rfl)⟩)
      rw [List.map_map]
      exact h
    have hv5 : ED (tVar 5) [none, some (.int 5), some (.int 6), some (.int m), some (.int wide), some (.list ((leftOf wide n).map edgeD)), some (.int n), none, none, none, none, none, none, none, none] (.list ((leftOf wide n).map edgeD)) := ed_var rfl
    have hen := en_cat (K := K) (ed_op hv5 hc1 (r2_catL (K := K) (by simp only [List.length_map, List.length_range]; omega))) hc2 (by simp only [List.length_append, List.length_map, List.length_range]; omega)
    have e9 : (leftOf wide n).map edgeD ++ ((List.range (wide * (if (0 : Int) < (n : Int) then 1 else 0)).toNat).map fun k => ((n : Int), ((k : Nat) : Int), Sg.h)).map edgeD ++ ((List.range (wide - 1).toNat).map fun k => ((n : Int), 1 + ((k : Nat) : Int), Sg.v)).map edgeD = (leftOf wide (n + 1)).map edgeD := by
      simp only [leftOf, leftRow, List.map_append, List.append_assoc]
    rw [e9] at hen
    refine go_own o hen (hrn _ (by decide)) (by simp) (by simp) fun A σ B H o => ?_
    exact k A σ B H _ _ (.inr ⟨by omega, rfl, rfl⟩) (o.less ((Rle.refl [none, some (.int 5), some (.int 6), some (.int m), some (.int wide), none, none, none, none, none, none, none, none, none, none]).set (i := 6) (o := some (.int n)) rfl))
  rintro m hm0 rfl ρ os hP A σ B H o
  have o : Iv c A σ B H [none, some (.int 5), some (.int 6), some (.int m), some (.int wide), none, none, none, none, none, none, none, none, none, none] [(5, (leftOf wide m.toNat).map edgeD)] := by
    rcases hP with ⟨hz, _⟩ | ⟨_, rfl, rfl⟩
    · omega
    · exact o
  obtain ⟨hnd, hedge⟩ := look_left h1 h2
  have hll := len_left h2 m.toNat
  -- lists of its own
  refine go_seq ?_
  refine go_par3 o (hrn _ (by decide)) (hrn _ (by decide)) (hrn _ (by decide)) (by decide) (by decide) (by decide) (by simp) (by simp) (by simp) (by simp) (by simp) (by simp) fun A σ B H o => ?_
  have o : Iv c A σ B H [none, some (.int 5), some (.int 6), some (.int m), some (.int wide), none, none, none, none, none, none, none, none, none, none] [(5, (leftOf wide m.toNat).map edgeD), (7, ([] : List Edge).map edgeD), (8, [])] := o.perm (fun p hp => by simp at hp ⊢; rcases hp with h | h | h <;> simp [h])
  -- walls
  refine go_seq ?_
  refine go_rng (Pm := fun m => m ≤ 4) o (ei_135 hr) (hrn _ (by decide))
    (fun _ n ρ os => ρ = [none, some (.int 5), some (.int 6), some (.int m), some (.int wide), none, none, none, none, none, none, none, none, none, none] ∧ ∃ walls left : List Edge, os = [(5, left.map edgeD), (7, walls.map edgeD), (8, [])] ∧ WallsOk m wide walls left ∧ walls.length ≤ n) ?_ ?_ ?_ ?_
  · rintro k n ρ os ⟨rfl, walls, left, rfl, _⟩
    simp
  · intro _ _ _
    exact ⟨rfl, [], _, rfl, ⟨by simpa using hnd, by simpa using hedge, by omega⟩, by simp⟩
  · rintro k hk n hn ρ os ⟨rfl, walls, left, rfl, hw, hwl⟩ A σ B H N o next
    have less : Rle [none, some (.int 5), some (.int 6), some (.int m), some (.int wide), none, none, none, none, none, none, none, none, none, none] [none, some (.int 5), some (.int 6), some (.int m), some (.int wide), none, none, none, none, none, some (.int n), none, none, none, none] :=
      (Rle.refl [none, some (.int 5), some (.int 6), some (.int m), some (.int wide), none, none, none, none, none, none, none, none, none, none]).set (i := 10) (o := some (.int n)) rfl
    have o : Iv c A σ B H [none, some (.int 5), some (.int 6), some (.int m), some (.int wide), none, none, none, none, none, none, none, none, none, none] [(5, left.map edgeD), (7, walls.map edgeD), (8, [])] := o.less less
    refine go_if (P := (· = !left.isEmpty)) o ?_ (fun hb B H o => ?_) (fun hb B H o => ?_)
    · refine ti_view (j := 5) (ds := left.map edgeD) (ET.is (et_test (ed_op (d := .list (left.map edgeD)) (e := .list []) (ed_var rfl) (ed_lst ea_nil (by simp)) (r2_ne (sh_edgesL left) (sh_edgesL [])))) ?_) (by simp)
      rw [eqv_nil]
    · have hne : left ≠ [] := fun z => by rw [z] at hb; simp at hb
      have hlen : 1 ≤ left.length := by
        cases left with
        | nil => exact absurd rfl hne
        | cons => simp
      refine go_pop hr o (by decide) (by simp) (by simp) (by simp) (by rw [List.length_map]; exact hlen) (by rw [List.length_map]; have := hw.len; omega) (by rw [List.length_map]; omega) fun j z hz B H o => ?_
      rw [List.getElem?_map] at hz
      cases hz1 : left[j]? with
      | none => rw [hz1] at hz; simp at hz
      | some e =>
        rw [hz1] at hz
        simp at hz
        subst hz
        rw [map_erase] at o
        have e7 : walls.map edgeD ++ [edgeD e] = (walls ++ [e]).map edgeD := by simp
        rw [e7] at o
        exact next A σ B H _ _ ⟨rfl, walls ++ [e], left.eraseIdx j, rfl, hw.pop hz1, by rw [List.length_append, List.length_singleton]; omega⟩ o
    · exact next A σ B H _ _ ⟨rfl, walls, left, rfl, hw, by omega⟩ o
  rintro k hk0 hk4 ρ os ⟨rfl, walls, left, rfl, hw, hwl⟩ A σ B H o
  have hwl4 : walls.length ≤ 4 := by omega
  have o : Iv c A σ B H [none, some (.int 5), some (.int 6), some (.int m), some (.int wide), none, none, none, none, none, none, none, none, none, none] [(7, walls.map edgeD), (8, [])] := o.perm (fun p hp => by simp at hp ⊢; rcases hp with h | h <;> simp [h])
  obtain ⟨B, _, o⟩ := o.own_in (by simp)
  have o : Iv c A σ B H [none, some (.int 5), some (.int 6), some (.int m), some (.int wide), none, none, some (.list (walls.map edgeD)), none, none, none, none, none, none, none] [(8, [])] := o
  refine go_seq ?_
  have hst : EN (tLc (iList K (tVar 7)) (gName 13) tYes (tCallD (spR R_L_shut) (tCons (tVar 13) tNil)) [13]) [none, some (.int 5), some (.int 6), some (.int m), some (.int wide), none, none, some (.list (walls.map edgeD)), none, none, none, none, none, none, none] (walls.map fun e => pairD (shutP e)) :=
    en_lcM walls edgeD (fun e => pairD (shutP e)) (ie_list (ed_var rfl)) (by omega) fun e _ => ⟨_, gd_name (by simp), ed_call (ea_cons (ed_var rfl) ea_nil) (.mk e)⟩
  refine go_own o hst (hrn _ (by decide)) (by simp) (by simp) fun A σ B H o => ?_
  -- doors
  have hv : ∀ e ∈ walls, HV e := fun e he => isEdge_hv (hw.edge e (List.mem_append_left _ he))
  have hwe : ∀ e ∈ walls, isEdge ⟨m, wide, [], []⟩ e = true := fun e he => hw.edge e (List.mem_append_left _ he)
  have hwn : walls.Nodup := (List.nodup_append.mp hw.nd).1
  have e0 : (walls.map fun e => pairD (shutP e)) = ((walls ++ ([] : List Edge).map ef).map shutP).map pairD := by simp
  rw [e0] at o
  have o : Iv c A σ B H [none, some (.int 5), some (.int 6), some (.int m), some (.int wide), none, none, some (.list (walls.map edgeD)), none, none, none, none, none, none, none] [(8, ([] : List Edge).map edgeD), (9, ((walls ++ ([] : List Edge).map ef).map shutP).map pairD)] := o.perm (fun p hp => by simp at hp ⊢; rcases hp with h | h <;> simp [h])
  clear e0 hw hll hnd hedge hwl
  refine go_seq ?_
  refine go_rng (Pm := fun m => m ≤ 6) o ((ei_drawE (K := K) (m := 7) hr (ed_op (ed_var rfl) ed_int r2_addI) (by decide) (by decide)).imp ?_) (hrn _ (by decide))
    (fun _ n ρ os => ρ = [none, some (.int 5), some (.int 6), some (.int m), some (.int wide), none, none, some (.list (walls.map edgeD)), none, none, none, none, none, none, none] ∧ ∃ doors : List Edge, os = [(8, doors.map edgeD), (9, ((walls ++ doors.map ef).map shutP).map pairD)] ∧ doorsOk ⟨m, wide, walls, []⟩ doors ∧ doors.length ≤ n) ?_ ?_ ?_ ?_
  · rintro d ⟨n, rfl, hn⟩
    exact ⟨n, rfl, by omega, by omega, by omega⟩
  · rintro k n ρ os ⟨rfl, doors, rfl, _⟩
    simp
  · intro _ _ _
    exact ⟨rfl, [], rfl, ⟨by simp, by simp, by simp, by simp⟩, by simp⟩
  · rintro k hk n hn ρ os ⟨rfl, doors, rfl, hd, hdl⟩ A σ B H N o next
    have o : Iv c A σ B H [none, some (.int 5), some (.int 6), some (.int m), some (.int wide), none, none, some (.list (walls.map edgeD)), none, none, some (.int n), none, none, none, none] [(8, doors.map edgeD), (9, ((walls ++ doors.map ef).map shutP).map pairD)] := o
    refine go_seq ?_
    refine go_asg (P := fun d => ∃ e : Edge, d = edgeD e ∧ Way e.2.2) o ((ei_tup (ai_cons (ei_drawE (K := K) hr (m := m + 1) (ed_op (ed_var rfl) ed_int r2_addI) (by omega) (by omega)) fun _ _ => ai_cons (ei_drawE (K := K) hr (m := wide + 1) (ed_op (ed_var rfl) ed_int r2_addI) (by omega) (by omega)) fun _ _ => ai_cons (ei_ensw (K := K) hr) fun _ _ => ai_nil) ?_).imp ?_) (hrn _ (by decide)) (by simp) ?_
    · rintro ds ⟨d, es, rfl, _, e, es2, rfl, _, f, es3, rfl, _, rfl⟩
      simp
    · rintro d ⟨ds, rfl, d1, es, rfl, ⟨a, rfl, ha⟩, d2, es2, rfl, ⟨b, rfl, hb⟩, d3, es3, rfl, ⟨w, rfl, hw⟩, rfl⟩
      exact ⟨((a : Int), (b : Int), w), rfl, hw⟩
    rintro d ⟨e, rfl, he⟩ σ B H o
    have o : Iv c A σ B H [none, some (.int 5), some (.int 6), some (.int m), some (.int wide), none, none, some (.list (walls.map edgeD)), none, none, some (.int n), some (edgeD e), none, none, none] [(8, doors.map edgeD), (9, ((walls ++ doors.map ef).map shutP).map pairD)] := o
    refine go_seq ?_
    refine go_asg (P := (· = pairD (shutP (ef e)))) o (ei_pure (ed_call (ds := [cellD (e.1, e.2.1), sg e.2.2]) (ea_cons (ED.is (ed_slT (ed_var (d := edgeD e) rfl) eo_none (eo_some ed_int)) rfl) (ea_cons (ed_op (ed_var (d := edgeD e) rfl) ed_int (r2_ixT rfl)) ea_nil)) (.mk (e.1, e.2.1) e.2.2 he))) (hrn _ (by decide)) (by simp) ?_
    rintro d rfl σ B H o
    have o : Iv c A σ B H [none, some (.int 5), some (.int 6), some (.int m), some (.int wide), none, none, some (.list (walls.map edgeD)), none, none, some (.int n), some (edgeD e), some (pairD (shutP (ef e))), none, none] [(8, doors.map edgeD), (9, ((walls ++ doors.map ef).map shutP).map pairD)] := o
    have less : Rle [none, some (.int 5), some (.int 6), some (.int m), some (.int wide), none, none, some (.list (walls.map edgeD)), none, none, none, none, none, none, none] [none, some (.int 5), some (.int 6), some (.int m), some (.int wide), none, none, some (.list (walls.map edgeD)), none, none, some (.int n), some (edgeD e), some (pairD (shutP (ef e))), none, none] :=
      (((Rle.refl [none, some (.int 5), some (.int 6), some (.int m), some (.int wide), none, none, some (.list (walls.map edgeD)), none, none, none, none, none, none, none]).set (i := 10) (o := some (.int n)) rfl).set (i := 11) (o := some (edgeD e)) rfl).set (i := 12) (o := some (pairD (shutP (ef e)))) rfl
    have hve : HV (ef e) := hv_from _ _ _
    have hvs : ∀ x ∈ walls ++ doors.map ef, HV x := fun x hx => by
      rcases List.mem_append.mp hx with hx | hx
      · exact hv x hx
      · obtain ⟨y, _, rfl⟩ := List.mem_map.mp hx
        exact hv_from _ _ _
    dsimp only
    refine go_if (P := fun b => b = true → isEdge ⟨m, wide, walls, []⟩ (ef e) = true ∧ ef e ∉ walls ++ doors.map ef) o ?_ (fun hb B H o => ?_) (fun hb B H o => ?_)
    · refine ti_and (a := inRC m wide (shutP (ef e)).1 && inRC m wide (shutP (ef e)).2) (ti_pure (et_B (ed_call (ea_cons (ed_tup (ea_cons (ed_var rfl) (ea_cons (ed_var rfl) ea_nil)) (by simp)) (ea_cons (ed_var rfl) ea_nil)) (.mk m wide [] (shutP (ef e)))))) (fun ha => ?_) (fun _ z => nomatch z)
      rw [within_edge ⟨m, wide, walls, []⟩ (ef e) hve] at ha
      have e1 : ED (tOp (rInX K true) (tVar 12) (tVar 9)) [none, some (.int 5), some (.int 6), some (.int m), some (.int wide), none, none, some (.list (walls.map edgeD)), none, some (.list (((walls ++ doors.map ef).map shutP).map pairD)), some (.int n), some (edgeD e), some (pairD (shutP (ef e))), none, none] (.bool (!((((walls ++ doors.map ef).map shutP).map pairD).any fun z => PyData.eqv z (pairD (shutP (ef e)))))) :=
        ed_op (ed_var rfl) (ed_var rfl) (r2_inL (neg := true) (sh_pair _) (sh_pairsL _))
      have h9 : TI' c (tTest (tOp (rInX K true) (tVar 12) (tVar 9))) [none, some (.int 5), some (.int 6), some (.int m), some (.int wide), none, none, some (.list (walls.map edgeD)), none, none, some (.int n), some (edgeD e), some (pairD (shutP (ef e))), none, none] [(8, doors.map edgeD), (9, ((walls ++ doors.map ef).map shutP).map pairD)] (· = !((((walls ++ doors.map ef).map shutP).map pairD).any fun z => PyData.eqv z (pairD (shutP (ef e))))) :=
        ti_view (j := 9) (ds := ((walls ++ doors.map ef).map shutP).map pairD) (et_test e1) (by simp)
      intro A σ B H o Q q
      refine h9 A σ B H o Q fun b B' H' o' hb => q b B' H' o' fun hbt => ⟨ha, fun hm => ?_⟩
      rw [hbt] at hb
      rw [any_pair] at hb
      have := (mem_shut hvs hve).mpr hm
      rw [decide_eq_true this] at hb
      exact nomatch hb
    · obtain ⟨hed, hnm⟩ := hb rfl
      refine go_seq ?_
      refine go_app o (by simp) (ei_pure (ed_var (d := edgeD e) rfl)) (by rw [List.length_map]; omega) fun d hd' B H o => ?_
      subst hd'
      have o : Iv c A σ B H [none, some (.int 5), some (.int 6), some (.int m), some (.int wide), none, none, some (.list (walls.map edgeD)), none, none, some (.int n), some (edgeD e), some (pairD (shutP (ef e))), none, none] [(9, ((walls ++ doors.map ef).map shutP).map pairD), (8, doors.map edgeD ++ [edgeD e])] := o.perm (fun p hp => by simp at hp ⊢; rcases hp with h | h <;> simp [h])
      refine go_app o (by simp) (ei_pure (ed_var (d := pairD (shutP (ef e))) rfl)) (by simp only [List.length_map, List.length_append]; omega) fun d hd' B H o => ?_
      subst hd'
      have e8 : doors.map edgeD ++ [edgeD e] = (doors ++ [e]).map edgeD := by simp
      have e9 : ((walls ++ doors.map ef).map shutP).map pairD ++ [pairD (shutP (ef e))] = ((walls ++ (doors ++ [e]).map ef).map shutP).map pairD := by simp
      rw [e8, e9] at o
      have o : Iv c A σ B H [none, some (.int 5), some (.int 6), some (.int m), some (.int wide), none, none, some (.list (walls.map edgeD)), none, none, some (.int n), some (edgeD e), some (pairD (shutP (ef e))), none, none] [(8, (doors ++ [e]).map edgeD), (9, ((walls ++ (doors ++ [e]).map ef).map shutP).map pairD)] := o.perm (fun p hp => by simp only [List.mem_cons, List.not_mem_nil, or_false] at hp ⊢; rcases hp with h | h <;> simp [h])
      refine next A σ B H _ _ ⟨rfl, doors ++ [e], rfl, ⟨fun x hx => ?_, fun x hx => ?_, fun x hx => ?_, ?_⟩, by rw [List.length_append, List.length_singleton]; omega⟩ (o.less less)
      · rcases List.mem_append.mp hx with hx | hx
        · exact hd.1 x hx
        · rw [List.mem_singleton.mp hx]
          exact he
      · rcases List.mem_append.mp hx with hx | hx
        · exact hd.2.1 x hx
        · rw [List.mem_singleton.mp hx]
          exact hed
      · rcases List.mem_append.mp hx with hx | hx
        · exact hd.2.2.1 x hx
        · rw [List.mem_singleton.mp hx]
          exact fun z => hnm (List.mem_append_left _ z)
      · rw [List.map_append, List.nodup_append]
        refine ⟨hd.2.2.2, List.nodup_cons.mpr ⟨by simp, List.nodup_nil⟩, fun a ha b hb e => hnm (List.mem_append_right _ ?_)⟩
        subst e
        have : a = ef _ := List.mem_singleton.mp hb
        rw [← this]
        exact ha
    · exact next A σ B H _ _ ⟨rfl, doors, rfl, hd, by omega⟩ (o.less less)
  rintro k hk0 hk6 ρ os ⟨rfl, doors, rfl, hd, hdl⟩ A σ B H o
  obtain ⟨B, _, o⟩ := o.own_in (by simp)
  refine go_ret o (ei_pure (ed_tup (ea_cons (ed_var rfl) (ea_cons (ed_var rfl) (ea_cons (ed_cb (ea_cons (ed_var rfl) ea_nil) rc_tupL) (ea_cons (ed_cb (ea_cons (ed_var rfl) ea_nil) rc_tupL) ea_nil)))) (by simp))) fun v d B' H' o' dv e => ?_
  subst e
  refine q A σ v (hallD ⟨m, wide, walls, doors⟩) B' H' _ _ ⟨⟨m, wide, walls, doors⟩, ⟨h1, h2, by show walls.length ≤ 24; omega, by show doors.length ≤ 6; omega, fun e he => ?_, hwn, hd.1, fun e he => ?_, hd.2.2.1, hd.2.2.2⟩, rfl⟩ o' dv
  · exact (isEdge_rc rfl rfl e).trans (hwe e he)
  · exact (isEdge_rc rfl rfl _).trans (hd.2.1 e he)
end
end Pd

/-! Rdg2 -/
namespace Pd
end Pd

/-! Sem12 -/
set_option Elab.async false
set_option linter.all false
set_option maxRecDepth 100000
set_option maxHeartbeats 4000000
namespace Pd
open PySem PySem.Spec PyProof.Rows L2 PySem.W
local macro_rules | `(tactic| walk_at "ed") => `(tactic| repeat' (first
  | with_reducible (first
    | exact ed_int | exact ed_str | exact ed_bl | exact ed_non
    | exact ea_nil | refine' ea_cons ?_ ?_
    | refine' ed_isi ?_ ?_ | refine' ed_isi2 ?_ ?_ ?_
    | refine' ed_andV ?_ (fun _ => ?_) | refine' ed_orV ?_ (fun _ => ?_) | refine' ed_notV ?_
    | refine' ed_chain ?_ ?_ ?_ (fun _ => ⟨?_, ?_⟩)
    | refine' ed_tup ?_ ?_ | refine' ed_lst ?_ ?_
    | refine' et_not ?_ | refine' et_and ?_ (fun _ => ?_) | refine' et_or ?_ (fun _ => ?_) | exact et_yes
    | refine' et_test ?_ | refine' et_B ?_
    | refine' ed_op ?_ ?_ ?_
    | refine' ed_cb ?_ ?_)
  | exact ed_var rfl
  | exact kit_tt | exact kit_ii | exact kit_ib | exact kit_ll | exact kit_lt | exact kit_tl
  | exact r2_addI | exact r2_subI | exact r2_lt | exact r2_le | exact r2_gt | exact r2_ge | exact r2_isN | exact r2_notN
  | exact rc_lenT | exact rc_lenL | exact rc_intB | exact rc_tupL
  | with_reducible (first | refine' r2_eq ?_ ?_ | refine' r2_ne ?_ ?_)
  | exact sh_int _ | exact sh_sg _ | exact sh_cell _ | exact sh_edge _ | exact sh_pair _ | exact sh_str _ (by decide +kernel)
  | exact r2_ixT rfl | exact r2_ixL rfl
  | refine' ed_tup ?_ ?_
  | (show List.length _ ≤ 100000; simp; done)))
/-! ### alike -/
def Atom (d : PyData) : Prop := (∃ i, d = .int i) ∨ (∃ x, d = .str x ∧ PyData.strOk x = true) ∨ d = .none
def Nice : Nat → PyData → Prop
  | 0, _ => False
  | n + 1, d => Atom d ∨ ∃ ds : List PyData, (d = .tuple ds ∨ d = .list ds) ∧ ds.length ≤ 100000 ∧ ∀ x ∈ ds, Nice n x
def R_alike (n : Nat) (ds : List PyData) (d : PyData) : Prop := ∃ x, Nice n x ∧ ds = [x, x] ∧ d = .bool true
theorem sh_bool (b : Bool) : SeqAt.shaped (.bool b) = true := shaped_of (by simp [PyData.canLay0]) (by simp [PyData.depth])
theorem sh_non : SeqAt.shaped .none = true := shaped_of (by simp [PyData.canLay0]) (by simp [PyData.depth])
theorem eqv_bool (a b : Bool) : PyData.eqv (.bool a) (.bool b) = decide (a = b) := by
  cases a <;> cases b <;> simp [PyData.eqv]
theorem eqv_nilL : PyData.eqv (.list []) (.list []) = true := by simp [PyData.eqv, PyData.eqvAll]
section
variable {K : PySem.W.Frag}
theorem alike_atom {sp : Sp} {x : PyData} (h1 : kitB (tyN x) "tuple" = some false) (h2 : kitB (tyN x) "list" = some false) (h3 : kitB (tyN x) "bool" = some false) (hs : SeqAt.shaped x = true) (he : PyData.eqv x x = true) :
    RD (rd_L_alike K sp) [some x, some x, none] (.bool true) := by
  unfold rd_L_alike
  refine rd_ifS (b := false) (ET.is (et_and (et_B (ed_isi2 (ed_var (d := x) rfl) h1 h2)) (b := false) (fun z => by simp at z)) rfl) (fun z => nomatch z) (fun _ => ?_)
  refine rd_ret (ED.is (ed_andV (ed_op (ed_var (d := x) rfl) (ed_var (d := x) rfl) (r2_eq hs hs)) (fun _ => ed_op (ed_isi (ed_var (d := x) rfl) h3) (ed_isi (ed_var (d := x) rfl) h3) (r2_eq (sh_bool _) (sh_bool _)))) ?_)
  rw [he, eqv_bool]
  rfl
/-- of a tuple or a list -/
theorem alike_seq {R : List PyData → PyData → Prop} {x : PyData} {ds : List PyData} {b : Bool} (hx : (b = true ∧ x = .tuple ds) ∨ (b = false ∧ x = .list ds)) (hl : ds.length ≤ 100000) (hR : ∀ d ∈ ds, R [d, d] (.bool true)) :
    RD (rd_L_alike K (spR R)) [some x, some x, none] (.bool true) := by
  have k1 : kitB (tyN x) "tuple" = some b := by
    rcases hx with ⟨rfl, rfl⟩ | ⟨rfl, rfl⟩
    · exact kit_tt
    · exact kit_lt
  have k2 : kitB (tyN x) "list" = some (!b) := by
    rcases hx with ⟨rfl, rfl⟩ | ⟨rfl, rfl⟩
    · exact kit_tl
    · exact kit_ll
  have hlen : RC (rLenX K) [x] (.int (ds.length : Nat)) := by
    rcases hx with ⟨_, rfl⟩ | ⟨_, rfl⟩
    · exact rc_lenT
    · exact rc_lenL
  have hix : ∀ (i : Nat) (d : PyData), ds[i]? = some d → RD2 (rIx K) x (.int (i : Nat)) d := fun i d h => by
    rcases hx with ⟨_, rfl⟩ | ⟨_, rfl⟩
    · exact r2_ixT (atI_nat h)
    · exact r2_ixL (atI_nat h)
  unfold rd_L_alike
  refine rd_ifS (b := true) (ET.is (et_and (et_B (ed_isi2 (ed_var (d := x) rfl) k1 k2)) (b := true) (fun _ => ET.is (et_B (ed_isi2 (ed_var (d := x) rfl) k1 k2)) (by cases b <;> rfl))) (by cases b <;> rfl)) (fun _ => ?_) (fun z => nomatch z)
  refine rd_ifS (b := false) (ET.is (et_or (et_test (ed_op (ed_isi (ed_var (d := x) rfl) k1) (ed_isi (ed_var (d := x) rfl) k1) (r2_ne (sh_bool _) (sh_bool _)))) (fun _ => et_test (ed_op (ed_cb (ea_cons (ed_var (d := x) rfl) ea_nil) hlen) (ed_cb (ea_cons (ed_var (d := x) rfl) ea_nil) hlen) (r2_ne (sh_int _) (sh_int _))))) ?_) (fun z => nomatch z) (fun _ => ?_)
  · rw [eqv_bool, eqv_int]
    simp
  · have hc : ED (tLc (iRng1 (tCons (tCB (rLenX K) (tCons (tVar 0) tNil)) tNil)) (gName 2) (tNot (tB (tCallD (spR R) (tCons (tOp (rIx K) (tVar 0) (tVar 2)) (tCons (tOp (rIx K) (tVar 1) (tVar 2)) tNil))))) (tVar 2) [2]) [some x, some x, none]
        (.list (((List.range (((ds.length : Nat) : Int)).toNat).filter fun _ => false).map fun k => .int (k : Nat))) := by
      refine ed_lcT _ (fun k => .int (k : Nat)) (fun _ => false) (fun k => .int (k : Nat)) (ie_rng1 (ea_cons (ed_cb (ea_cons (ed_var (d := x) rfl) ea_nil) hlen) ea_nil) (by omega) (by omega)) (by rw [List.length_range]; omega) fun k hk => ⟨_, gd_name (by simp), ?_, fun z => nomatch z⟩
      have hk1 : k < ds.length := by
        have := List.mem_range.mp hk
        omega
      have hd : ds[k]? = some ds[k] := List.getElem?_eq_getElem hk1
      exact ET.is (et_not (et_B (ed_call (ea_cons (ed_op (ed_var (d := x) rfl) (ed_var (d := .int (k : Nat)) rfl) (hix k _ hd)) (ea_cons (ed_op (ed_var (d := x) rfl) (ed_var (d := .int (k : Nat)) rfl) (hix k _ hd)) ea_nil)) (hR _ (List.getElem_mem _))))) rfl
    refine rd_ret (ED.is (ed_op hc (ed_lst ea_nil (by simp)) (r2_eq ?_ (sh_edgesL []))) ?_)
    · rw [List.filter_eq_nil_iff.mpr (fun _ _ => by simp)]
      exact sh_edgesL []
    · rw [List.filter_eq_nil_iff.mpr (fun _ _ => by simp)]
      rw [List.map_nil, eqv_nilL]
theorem rp_L_alike {n : Nat} {ds : List PyData} {d : PyData} (h : R_alike (n + 1) ds d) : RD (rd_L_alike K (spR (R_alike n))) (ds.map some ++ List.replicate (3 - ds.length) none) d := by
  obtain ⟨x, hx, rfl, rfl⟩ := h
  show RD _ [some x, some x, none] _
  rcases hx with (⟨i, rfl⟩ | ⟨z, rfl, hz⟩ | rfl) | ⟨es, he, hl, hn⟩
  · exact alike_atom kit_it kit_il kit_ib (sh_int i) (by rw [eqv_int]; simp)
  · exact alike_atom kit_st kit_sl kit_sb (sh_str z hz) (by simp [PyData.eqv])
  · exact alike_atom kit_nt kit_nl kit_nb sh_non (by simp [PyData.eqv])
  · have hR : ∀ d ∈ es, R_alike n [d, d] (.bool true) := fun d hd => ⟨d, hn d hd, rfl, rfl⟩
    rcases he with rfl | rfl
    · exact alike_seq (b := true) (.inl ⟨rfl, rfl⟩) hl hR
    · exact alike_seq (b := false) (.inr ⟨rfl, rfl⟩) hl hR
end
end Pd

/-! SemO -/
set_option Elab.async false
set_option linter.all false
set_option maxRecDepth 100000
set_option maxHeartbeats 4000000
namespace Pd
open PySem PySem.Spec PyProof.Rows L2 PySem.W
local macro_rules | `(tactic| walk_at "ed") => `(tactic| repeat' (first
  | with_reducible (first
    | exact ed_int | exact ed_str | exact ed_bl | exact ed_non
    | exact ea_nil | refine' ea_cons ?_ ?_
    | refine' ed_isi ?_ ?_ | refine' ed_isi2 ?_ ?_ ?_
    | refine' ed_andV ?_ (fun _ => ?_) | refine' ed_orV ?_ (fun _ => ?_) | refine' ed_notV ?_
    | refine' ed_chain ?_ ?_ ?_ (fun _ => ⟨?_, ?_⟩)
    | refine' ed_tup ?_ ?_ | refine' ed_lst ?_ ?_
    | refine' et_not ?_ | refine' et_and ?_ (fun _ => ?_) | refine' et_or ?_ (fun _ => ?_) | exact et_yes
    | refine' et_test ?_ | refine' et_B ?_
    | refine' ed_op ?_ ?_ ?_
    | refine' ed_cb ?_ ?_)
  | exact ed_var rfl
  | exact kit_tt | exact kit_ii | exact kit_ib | exact kit_ll | exact kit_lt | exact kit_tl
  | exact r2_addI | exact r2_subI | exact r2_lt | exact r2_le | exact r2_gt | exact r2_ge | exact r2_isN | exact r2_notN
  | exact rc_lenT | exact rc_lenL | exact rc_intB | exact rc_tupL
  | with_reducible (first | refine' r2_eq ?_ ?_ | refine' r2_ne ?_ ?_)
  | exact sh_int _ | exact sh_sg _ | exact sh_cell _ | exact sh_edge _ | exact sh_pair _ | exact sh_str _ (by decide +kernel)
  | exact r2_ixT rfl | exact r2_ixL rfl
  | refine' ed_tup ?_ ?_
  | (show List.length _ ≤ 100000; simp; done)))
/-! ### one list of one's own, statement by statement -/
section
variable {K : PySem.W.Frag} {B0 B1 H1 B H : Hp} {l : Addr} {j : Nat} {σ : L2.St} {ρ ρ1 ρ0 : Rho} {ds : List PyData} {te : TE} {tt : TT} {d : PyData} {vs : List Nat}
theorem Own1.env {σ' : L2.St} (o : Own1 B0 B1 H1 l j σ B H ρ ds) (e : EnvD σ' B ρ1) (w : L2.wipe σ' vs = L2.wipe σ vs) (hj : j ∉ vs) : Own1 B0 B1 H1 l j σ' B H ρ1 ds := by
  refine ⟨o.b0, o.g, o.f, ?_, o.n, o.h, e⟩
  have h1 := wipe_get σ' vs j
  have h2 := wipe_get σ vs j
  rw [if_neg (fun z => hj z.1)] at h1 h2
  rw [← h1, w, h2]
  exact o.s
theorem oo_asg {g : TG} {D : Ends} (o : Own1 B0 B1 H1 l j σ B H ρ ds) (h : ED te ρ d) (hg : GD g ρ d ρ1 vs) (hj : j ∉ vs) (k : ∀ σ' B' H', Own1 B0 B1 H1 l j σ' B' H' ρ1 ds → D.nx σ' H') : tAsg te g D σ H := by
  refine h σ B H o.g.t o.e _ fun v B2 H2 g2 dv => ?_
  have o2 := o.mono g2
  exact hg σ B2 H2 v o2.g.t o2.e dv _ fun σ' ev w => k σ' B2 H2 (o2.env ev w hj)
theorem oo_if {b : Bool} {t u : TS} {D : Ends} (o : Own1 B0 B1 H1 l j σ B H ρ ds) (h : ET tt ρ b) (h1 : b = true → ∀ B H, Own1 B0 B1 H1 l j σ B H ρ ds → t D σ H) (h2 : b = false → ∀ B H, Own1 B0 B1 H1 l j σ B H ρ ds → u D σ H) : tIfS tt t u D σ H := by
  refine h σ B H o.g.t o.e _ fun B2 H2 g2 => ?_
  cases b with
  | true => exact h1 rfl B2 H2 (o.mono g2)
  | false => exact h2 rfl B2 H2 (o.mono g2)
theorem oo_app {D : Ends} (o : Own1 B0 B1 H1 l j σ B H ρ ds) (h : ED te ρ d) (hz : ds.length < 100000) (k : ∀ B' H', Own1 B0 B1 H1 l j σ B' H' ρ (ds ++ [d]) → D.nx σ H') : tDrop (tBM K "list" rAppend (tVar j) (tCons te tNil)) D σ H := by
  refine ⟨.ref l, o.s, ?_⟩
  obtain ⟨xs0, hl0, _⟩ := o.h
  refine ⟨.inl ⟨rfl, _, SqL.of hl0⟩, ?_⟩
  refine h σ B H o.g.t o.e _ fun v B2 H2 g2 dv => ?_
  have o2 := o.mono g2
  obtain ⟨xs, hl, hx⟩ := o2.h
  refine ⟨l, xs, v, rfl, rfl, hl, ?_, k B2 _ ⟨o2.b0, ⟨o2.g.b, o2.g.t.mut o2.n, o2.g.h.mut o2.f, o2.g.n⟩, o2.f, o2.s, o2.n, ⟨_, upd_same, hx.append (.one dv)⟩, o2.e⟩⟩
  rw [hx.length]
  exact Nat.lt_trans hz (by decide)
theorem oo_for {α : Type} {wi : TI} {g : TG} {tb : TS} {D : Ends} {items : List α} (enc : α → PyData) (o : Own1 B0 B1 H1 l j σ B H ρ ds) (hi : IE wi ρ (items.map enc)) (P : Nat → Rho → List PyData → Prop) (p0 : P 0 ρ ds)
    (turn : ∀ n x, items[n]? = some x → ∀ ρ ds, P n ρ ds → ∀ B0 σ B H N v, Own1 B0 B1 H1 l j σ B H ρ ds → DH B v (enc x) → (∀ σ' B' H' ρ' ds', P (n + 1) ρ' ds' → Own1 B0 B1 H1 l j σ' B' H' ρ' ds' → N σ' H') → g v σ H fun σ2 H2 => tb { D with nx := N, ct := N, bk := D.nx } σ2 H2)
    (k : ∀ ρ' ds' σ' B' H', P items.length ρ' ds' → Own1 B0 B1 H1 l j σ' B' H' ρ' ds' → D.nx σ' H') : tFor wi g tb D σ H := by
  refine hi σ B H o.g.t o.e _ fun J B2 H2 g2 hJ => ?_
  have oB := (o.mono g2).base (Ex.refl B2)
  refine ⟨fun n m σ' H' => m = items.length - n ∧ n ≤ items.length ∧ ∃ B' ρ' ds', P n ρ' ds' ∧ Own1 B2 B1 H1 l j σ' B' H' ρ' ds', ⟨items.length, by omega, Nat.zero_le _, B2, ρ, ds, p0, oB⟩, ?_⟩
  rintro n m σ' H' ⟨rfl, hle, B', ρ', ds', hP, o'⟩
  obtain ⟨hstop, hgo⟩ := hJ B' H' o'.b0 o'.g.t n
  by_cases hlt : n < items.length
  · right
    have hd : items[n]? = some items[n] := List.getElem?_eq_getElem hlt
    obtain ⟨go, hy⟩ := hgo (enc items[n]) (by rw [List.getElem?_map, hd]; rfl)
    refine ⟨go, fun σ2 H2 => n + 1 ≤ items.length ∧ ∃ B' ρ' ds', P (n + 1) ρ' ds' ∧ Own1 B2 B1 H1 l j σ2 B' H2 ρ' ds', fun σ2 H2 ⟨p1, p2⟩ => ⟨items.length - (n + 1), by omega, rfl, p1, p2⟩, fun x H3 hyl => ?_⟩
    obtain ⟨B3, g3, dx⟩ := hy x H3 hyl
    exact turn n _ hd ρ' ds' hP B2 _ B3 H3 _ x (o'.mono g3) dx fun σ4 B4 H4 ρ4 ds4 hP4 o4 => ⟨hlt, B4, ρ4, ds4, hP4, o4⟩
  · left
    have hie : n = items.length := by omega
    subst hie
    exact ⟨hstop (by rw [List.length_map]), k ρ' ds' σ' B' H' hP (o'.base ((o.b0.trans g2.b).trans o'.b0))⟩
theorem oo_ext {es : List PyData} {D : Ends} (o : Own1 B0 B1 H1 l j σ B H ρ ds) (h : ED te ρ (.list es)) (hz : ds.length + es.length ≤ 100000) (k : ∀ B' H', Own1 B0 B1 H1 l j σ B' H' ρ (ds ++ es) → D.nx σ H') : tDrop (tBM K "list" rExtend (tVar j) (tCons te tNil)) D σ H := by
  refine ⟨.ref l, o.s, ?_⟩
  obtain ⟨xs0, hl0, _⟩ := o.h
  refine ⟨.inl ⟨rfl, _, SqL.of hl0⟩, ?_⟩
  refine h σ B H o.g.t o.e _ fun v B2 H2 g2 dv => ?_
  have o2 := o.mono g2
  obtain ⟨xs, hl, hx⟩ := o2.h
  cases dv with
  | @lst b zs _ hb hzs =>
    refine ⟨l, b, xs, zs, rfl, rfl, hl, g2.t _ _ hb, ?_, k B2 _ ⟨o2.b0, ⟨o2.g.b, o2.g.t.mut o2.n, o2.g.h.mut o2.f, o2.g.n⟩, o2.f, o2.s, o2.n, ⟨_, upd_same, hx.append hzs⟩, o2.e⟩⟩
    rw [hx.length, hzs.length]
    exact Nat.le_trans hz (by decide)
theorem oo_start {D : Ends} (g : Gr B1 H1 B H) (ev : EnvD σ B ρ) (hj : j < ρ.length) (h : ED te ρ d) (k : ∀ l B' H', Gr B H B' H' → Own1 B' B1 H1 l j (σ.set j (some (.ref l))) B' H' (ρ.set j none) [d] → D.nx (σ.set j (some (.ref l))) H') : tAsg (tLst (tCons te tNil)) (gName j) D σ H := by
  refine h σ B H g.t ev _ fun v B2 H2 g2 dv => ?_
  refine ⟨by show 1 ≤ _; decide, fun l hl0 => ?_⟩
  have gg := g.trans g2
  exact k l B2 _ (g2.trans (Gr.own g2.t hl0)) ⟨Ex.refl B2, gg.trans (Gr.own gg.t hl0), gg.h.nil hl0, List.getElem?_set_self (by rw [ev.len]; exact hj), gg.t.nil hl0, ⟨[v], upd_same, .one dv⟩, (ev.mono g2.b).forget j _⟩
theorem oo_call {D : Ends} (o : Own1 B0 B1 H1 l j σ B H ρ ds) (h : ED te ρ d) (k : ∀ B' H', Own1 B0 B1 H1 l j σ B' H' ρ ds → D.nx σ H') : tDrop te D σ H :=
  h σ B H o.g.t o.e _ fun v B2 H2 g2 dv => k B2 H2 (o.mono g2)
end
end Pd

/-! ZipL -/
set_option Elab.async false
set_option linter.all false
set_option maxRecDepth 100000
set_option maxHeartbeats 4000000
/-! list(zip(xs, ys)), xs and ys lists -/
namespace PySem
namespace F
theorem zip_no_len : typeLookup (.type "zip") "__len__" = pure none := by rw [typeLookup_type, builtinLookup_eq_fast]; kernel_rfl
theorem zip_no_hint : typeLookup (.type "zip") "__length_hint__" = pure none := by rw [typeLookup_type, builtinLookup_eq_fast]; kernel_rfl
end F
end PySem
namespace Pd
open PySem PySem.Spec PyProof.Rows L2
/-- a zip over two lists, behind i turns, while at d a list is filled -/
structure ZS (z TI TO i1 i2 l1 l2 : Addr) (xs ys : Array Value) (d : Addr) (i : Nat) (h : Heap) : Prop where
  pTI : IsPair h TI (.ref i1) (.ref i2)
  a1 : h.IsListIter i1 l1 i
  a2 : h.IsListIter i2 l2 i
  b1 : h.IsList l1 xs
  b2 : h.IsList l2 ys
  zz : (IsZip h z TI TO .none ∧ ∃ a b, IsPair h TO a b) ∨ ∃ T f oT, IsZipHeld h z TI TO T f ∧ h.get? T = some oT ∧ T ≠ z ∧ T ≠ i1 ∧ T ≠ i2 ∧ T ≠ d
section
variable {prog : Program} {w : World} {A : Around} {E : Value → Shared → Prop} {s : Shared} {z TI TO i1 i2 l1 l2 d : Addr} {xs ys : Array Value} {i : Nat} {x y : Value}
theorem ZS.frame {h h' : Heap} (st : ZS z TI TO i1 i2 l1 l2 xs ys d i h) (nd : d ∉ [z, TI, TO, i1, i2, l1, l2]) (hk : ∀ b o, b ≠ d → h.get? b = some o → h'.get? b = some o) : ZS z TI TO i1 i2 l1 l2 xs ys d i h' := by
  simp only [List.mem_cons, List.not_mem_nil, or_false, not_or] at nd
  obtain ⟨dz, dTI, dTO, di1, di2, dl1, dl2⟩ := nd
  obtain ⟨hTI, h1, h2, hl1, hl2, hz⟩ := st
  refine ⟨hk _ _ (Ne.symm dTI) hTI, h1.at fun o e => hk _ o (Ne.symm di1) e, h2.at fun o e => hk _ o (Ne.symm di2) e, hl1.at fun o e => hk _ o (Ne.symm dl1) e, hl2.at fun o e => hk _ o (Ne.symm dl2) e, ?_⟩
  rcases hz with ⟨hz, a, b, hTO⟩ | ⟨T, f, oT, hz, hT, r1, r2, r3, r4⟩
  · exact .inl ⟨hk _ _ (Ne.symm dz) hz, a, b, hk _ _ (Ne.symm dTO) hTO⟩
  · exact .inr ⟨T, f, oT, hk _ _ (Ne.symm dz) hz, hk _ _ r4 hT, r1, r2, r3, r4⟩
theorem zs_type (st : ZS z TI TO i1 i2 l1 l2 xs ys d i s.heap) : s.TypeIs (.ref z) "zip" := by
  rcases st.zz with ⟨hz, _⟩ | ⟨T, f, oT, hz, _⟩
  · exact ⟨_, hz, rfl⟩
  · exact ⟨_, hz, rfl⟩
theorem zs_item {Q : Option Value → Shared → Prop} (D : ZipApart z TI TO i1 i2 l1 l2) (st : ZS z TI TO i1 i2 l1 l2 xs ys d i s.heap) (ex : xs[i]? = some x) (ey : ys[i]? = some y) (hds : d < s.heap.objs.size)
    (hQ : ∀ h', ZS z TI TO i1 i2 l1 l2 xs ys d (i + 1) h' → IsPair h' s.heap.objs.size x y → (∀ c o, c ∉ [z, TO, i1, i2] → s.heap.get? c = some o → h'.get? c = some o) → Q (some (.ref s.heap.objs.size)) { s with heap := h' }) :
    wpAny (model prog w) A (pyNext (.ref z)) Q E s := by
  obtain ⟨hTI, h1, h2, hl1, hl2, hz⟩ := st
  have lt : ∀ {c o}, s.heap.get? c = some o → s.heap.objs.size ≠ c := fun e => Nat.ne_of_gt (Heap.lt_size e)
  have n1 : s.heap.objs.size ≠ i1 := let ⟨_, e, _⟩ := h1; lt e
  have n2 : s.heap.objs.size ≠ i2 := let ⟨_, e, _⟩ := h2; lt e
  rcases hz with ⟨hz, a, b, hTO⟩ | ⟨T, f, oT, hz, hT, r1, r2, r3, r4⟩
  · refine wpAny_pyNext_zip_item D hz hTI hTO h1 h2 hl1 hl2 ex ey fun h' a1 a2 a3 a4 a5 a6 hk => ?_
    exact hQ h' ⟨hk _ _ D.TIz D.TITO D.TIi1 D.TIi2 hTI, a3, a4, hl1.at fun o e => hk _ o D.l1z D.l1TO D.l1i1 D.l1i2 e, hl2.at fun o e => hk _ o D.l2z D.l2TO D.l2i1 D.l2i2 e,
        .inr ⟨s.heap.objs.size, false, _, a1, a5, lt hz, n1, n2, Nat.ne_of_gt hds⟩⟩ a5
      fun c o hc e => hk c o (fun x => hc (by simp [x])) (fun x => hc (by simp [x])) (fun x => hc (by simp [x])) (fun x => hc (by simp [x])) e
  · refine wpAny_pyNext_zip_item_held D hz hT hTI h1 h2 hl1 hl2 ex ey fun h' a1 a3 a4 a5 a6 hk => ?_
    exact hQ h' ⟨hk _ _ D.TIz D.TIi1 D.TIi2 hTI, a3, a4, hl1.at fun o e => hk _ o D.l1z D.l1i1 D.l1i2 e, hl2.at fun o e => hk _ o D.l2z D.l2i1 D.l2i2 e,
        .inr ⟨T, true, oT, a1, hk _ _ r1 r2 r3 hT, r1, r2, r3, r4⟩⟩ a5
      fun c o hc e => hk c o (fun x => hc (by simp [x])) (fun x => hc (by simp [x])) (fun x => hc (by simp [x])) e
theorem zs_end {Q : Option Value → Shared → Prop} (hh : A.handled = none) (D : ZipApart z TI TO i1 i2 l1 l2) (st : ZS z TI TO i1 i2 l1 l2 xs ys d i s.heap) (hend : xs[i]? = none ∨ ys[i]? = none)
    (hQ : ∀ h', (∀ c o, c ∉ [z, TO, i1, i2] → s.heap.get? c = some o → h'.get? c = some o) → Q none { s with heap := h' }) : wpAny (model prog w) A (pyNext (.ref z)) Q E s := by
  obtain ⟨hTI, h1, h2, hl1, hl2, hz⟩ := st
  rcases hz with ⟨hz, a, b, hTO⟩ | ⟨T, f, oT, hz, hT, r1, r2, r3, r4⟩
  · exact wpAny_pyNext_zip_end hh D hz hTI hTO h1 h2 hl1 hl2 hend fun h' hk => hQ h' fun c o hc e => hk c o (fun x => hc (by simp [x])) (fun x => hc (by simp [x])) (fun x => hc (by simp [x])) (fun x => hc (by simp [x])) e
  · exact wpAny_pyNext_zip_end_held hh D hz hT hTI h1 h2 hl1 hl2 hend fun h' hk => hQ h' fun c o hc e => hk c o (fun x => hc (by simp [x])) (fun x => hc (by simp [x])) (fun x => hc (by simp [x])) e
end
/-- the tuples that are laid in turn, and the list at S of them -/
inductive Zl (xv yv : List V) (S : Addr) (H1 : Hp) : Nat → List Addr → Hp → Prop
  | nil : Zl xv yv S H1 0 [] (upd H1 S (.lst []))
  | snoc {i : Nat} {ts : List Addr} {H : Hp} {x y : V} {T : Addr} : Zl xv yv S H1 i ts H → xv[i]? = some x → yv[i]? = some y → H T = none → Zl xv yv S H1 (i + 1) (ts ++ [T]) (upd (upd H T (.tup [x, y])) S (.lst ((ts ++ [T]).map V.ref)))
theorem Zl.at {xv yv : List V} {S : Addr} {H1 H : Hp} {i : Nat} {ts : List Addr} (h : Zl xv yv S H1 i ts H) : H S = some (.lst (ts.map V.ref)) := by
  cases h with
  | nil => exact upd_same
  | snoc => exact upd_same
theorem Zl.len {xv yv : List V} {S : Addr} {H1 H : Hp} {i : Nat} {ts : List Addr} (h : Zl xv yv S H1 i ts H) : ts.length = i := by
  induction h with
  | nil => rfl
  | snoc _ _ _ _ ih => rw [List.length_append, ih]; rfl
section
variable {X : Cx} {pins : List (Addr × Obj)} {σ : L2.St}
theorem fp_upd {H : Hp} {b a : Addr} {o : HO} (f : FpOk X pins H b) (h : b ≠ a) : FpOk X pins (upd H a o) b := ⟨by rw [upd_ne h]; exact f.1, f.2⟩
theorem vals_get' : ∀ {xs : List V} {us : List Value} {i : Nat} {u : Value}, Vals xs us → us[i]? = some u → ∃ x, xs[i]? = some x ∧ RelV x u
  | _, _, _, _, .nil, e => by simp at e
  | _, _, 0, _, .cons h _, e => by
    simp at e
    subst e
    exact ⟨_, rfl, h⟩
  | _, _, i + 1, _, .cons _ r, e => by
    obtain ⟨v, h1, h2⟩ := vals_get' (i := i) r (by simpa using e)
    exact ⟨v, by simpa using h1, h2⟩
theorem zip_drain {A : Around} {R : Result → Shared → Prop} {z TI TO i1 i2 l1 l2 S : Addr} {xs ys : Array Value} {xv yv : List V} {H1 : Hp} {res : Value} (hh : A.handled = none) (D : ZipApart z TI TO i1 i2 l1 l2) (nd : S ∉ [z, TI, TO, i1, i2, l1, l2])
    (rx : Vals xv xs.toList) (ry : Vals yv ys.toList) (hm : min xs.size ys.size ≤ sizeLine)
    (fin : ∀ s' H' ts, Inv X pins σ H' s' → Zl xv yv S H1 (min xs.size ys.size) ts H' → R (.ok (.ret res)) s') :
    ∀ (k i : Nat) (s : Shared) (H : Hp) (acc : Array Value) (c : Nat) (ts : List Addr), min xs.size ys.size - i = k → i ≤ min xs.size ys.size → ZS z TI TO i1 i2 l1 l2 xs ys S i s.heap →
      s.heap.get? S = some { cls := .type "list", dict := none, data := .seq acc c, slots := #[] } → Inv X pins σ H s → (∀ b ∈ [z, TO, i1, i2], FpOk X pins H b ∧ b < s.heap.objs.size) → Zl xv yv S H1 i ts H → acc.toList = ts.map Value.ref →
      codeAny (model X.prog X.w) A (.builtin "list.extend.loop" ⟨[.ref S, .ref z, res], []⟩) R s := by
  have dS : S ∉ [z, TO, i1, i2] := fun h => nd (by simp at h ⊢; rcases h with h | h | h | h <;> simp [h])
  intro k
  induction k with
  | zero =>
    intro i s H acc c ts hk hi st hS I fp zl ha
    have hin : i = min xs.size ys.size := by omega
    refine codeAny_builtin F.entry_extend_loop ?_
    rw [Around.under_plainId F.plain_extend_loop _]
    show wpAny _ A.in1 (pyNext (.ref z) >>= _) _ _ s
    have hend : xs[i]? = none ∨ ys[i]? = none := by
      rw [hin]
      rcases Nat.le_total xs.size ys.size with h | h
      · exact .inl (Array.getElem?_eq_none (by rw [Nat.min_eq_left h]; exact Nat.le_refl _))
      · exact .inr (Array.getElem?_eq_none (by rw [Nat.min_eq_right h]; exact Nat.le_refl _))
    refine wpAny_bind (zs_end (A := A.in1) hh D st hend fun h' hk => ?_)
    refine wpAny_pure (fin _ H ts ?_ (hin ▸ zl))
    exact I.turnedL (t' := s.toks) hk fun b hb => (fp b hb).1
  | succ k ih =>
    intro i s H acc c ts hk hi st hS I fp zl ha
    have hlt : i < min xs.size ys.size := by omega
    have hix : i < xs.size := Nat.lt_of_lt_of_le hlt (Nat.min_le_left ..)
    have hiy : i < ys.size := Nat.lt_of_lt_of_le hlt (Nat.min_le_right ..)
    have ex := Array.getElem?_eq_getElem hix
    have ey := Array.getElem?_eq_getElem hiy
    obtain ⟨x, hx, rx'⟩ := vals_get' rx (by rw [Array.getElem?_toList]; exact ex)
    obtain ⟨y, hy, ry'⟩ := vals_get' ry (by rw [Array.getElem?_toList]; exact ey)
    have hSl : S < s.heap.objs.size := Heap.lt_size hS
    refine codeAny_builtin F.entry_extend_loop ?_
    rw [Around.under_plainId F.plain_extend_loop _]
    show wpAny _ A.in1 (pyNext (.ref z) >>= _) _ _ s
    refine wpAny_bind (zs_item D st ex ey hSl fun h' st' pT hk' => ?_)
    have hS' := hk' S _ dS hS
    have hTn : s.heap.objs.size ≠ S := Nat.ne_of_gt hSl
    have new : ObjOk X.prog X.w (upd H s.heap.objs.size (.tup [x, y])) h' s.heap.objs.size (.tup [x, y]) :=
      ⟨by show 2 ≤ sizeLine; decide, [xs[i], ys[i]], .cons rx' (.cons ry' .nil), ⟨_, pT, rfl, _, rfl⟩⟩
    have I1 : Inv X pins σ (upd H s.heap.objs.size (.tup [x, y])) { s with heap := h' } := I.turnedNew (t' := s.toks) (ch := [z, TO, i1, i2]) hk' (fun b hb => (fp b hb).1) (Nat.le_refl _) new
    have hH : (upd H s.heap.objs.size (.tup [x, y])) S = some (.lst (ts.map V.ref)) := by rw [upd_ne (Ne.symm hTn)]; exact zl.at
    have zl' := Zl.snoc zl hx hy (I.hok.fresh (Nat.le_refl _))
    have hlen : ((ts ++ [s.heap.objs.size]).map V.ref).length ≤ sizeLine := by
      have := zl'.len
      rw [List.length_map, this]
      omega
    have hsz : acc.size = i := by
      have e1 : acc.toList.length = ts.length := by rw [ha, List.length_map]
      have e2 := zl.len
      simpa [e2] using e1
    show wpAny _ A.in1 (updateSeq S (·.push (.ref s.heap.objs.size)) >>= _) _ _ _
    refine wpAny_bind ?_
    obtain ⟨c', hup⟩ : ∃ c', (h'.update S (Obj.mapSeq (·.push (Value.ref s.heap.objs.size)))).get? S = some { cls := .type "list", dict := none, data := .seq (acc.push (.ref s.heap.objs.size)) c', slots := #[] } := ⟨_, Heap.get?_update_self (Obj.mapSeq (·.push (Value.ref s.heap.objs.size))) hS' rfl⟩
    refine wpAny_updateSeq (s := { s with heap := h' }) hS' rfl (wpAny_pure ⟨plainId_quiet F.plain_extend_loop _, ih (i + 1) _ _ (acc.push (.ref s.heap.objs.size)) c' (ts ++ [s.heap.objs.size]) (by omega) hlt (st'.frame nd fun b o hb e => ?_) hup ?_ (fun b hb => ?_) zl' ?_⟩)
      (by rw [hsz]; omega) (by show (acc.push _).size ≤ sizeLine + 1; rw [Array.size_push, hsz]; omega)
    · exact (Heap.get?_update_other _ _ (Ne.symm hb)).trans e
    · refine I1.write (x := S) (e := S) (t' := s.toks) (by rw [hH]; exact True.intro) (.inl rfl) (fun b u hb e => (Heap.get?_update_other _ _ (Ne.symm hb)).trans e) ⟨_, hup⟩ ⟨hlen, (acc.push (.ref s.heap.objs.size)).toList, c', ?_, ?_⟩
      · rw [Array.toList_push, ha]
        have : ∀ l : List Addr, Vals (l.map V.ref) (l.map Value.ref) := fun l => by
          induction l with
          | nil => exact .nil
          | cons a l ih => exact .cons rfl ih
        have q := this (ts ++ [s.heap.objs.size])
        rw [List.map_append (f := Value.ref)] at q
        exact q
      · rw [Array.toArray_toList]
        exact hup
    · obtain ⟨f1, f2⟩ := fp b hb
      have nb : b ≠ S := fun e => dS (e ▸ hb)
      refine ⟨fp_upd (fp_upd f1 (Nat.ne_of_lt f2)) nb, ?_⟩
      have : s.heap.objs.size < h'.objs.size := Heap.lt_size pT
      show b < (h'.update _ _).objs.size
      rw [Heap.size_update]
      exact Nat.lt_trans f2 this
    · rw [Array.toList_push, ha, List.map_append]
      rfl
/-- list(zip(xs, ys)) -/
def tListZip (K : PySem.W.Frag) (ta : TA) : TE := fun σ H Q => ta σ H fun vs H1 => ∃ a b xv yv, vs = [.ref a, .ref b] ∧ SqL K H1 a xv ∧ SqL K H1 b yv ∧ ∀ S ts H2, H1 S = none → Zl xv yv S H1 (min xv.length yv.length) ts H2 → Q (.ref S) H2
/-- a zip that nobody has asked yet -/
def Zip0 (X : Cx) (pins : List (Addr × Obj)) (σ : L2.St) (Q : VK) (v : Value) (s : Shared) : Prop := ∃ z TI TO i1 i2 l1 l2 xs ys xv yv H1, v = .ref z ∧ ZipApart z TI TO i1 i2 l1 l2 ∧ (∀ d, ZS z TI TO i1 i2 l1 l2 xs ys d 0 s.heap) ∧ Inv X pins σ H1 s ∧
  (∀ b ∈ [z, TO, i1, i2], FpOk X pins H1 b ∧ b < s.heap.objs.size) ∧ (∀ b ∈ [z, TI, TO, i1, i2, l1, l2], b < s.heap.objs.size) ∧ Vals xv xs.toList ∧ Vals yv ys.toList ∧ xs.size ≤ sizeLine ∧ ∀ S ts H2, H1 S = none → Zl xv yv S H1 (min xv.length yv.length) ts H2 → Q (.ref S) H2
theorem ev_zip {e e2 : Expr} {ta : TA} {p pos : Pos} (hg : Gl X "zip") (hm : X.mg "zip" = none) (ha : PA X [e, e2] ta) (hs : starEach [e, e2] X.env = (false, eval e X.env) :: starEach [e2] X.env) (hpl : (backTo pos (starEach [e2] X.env)).any (·.1) = false)
    {s : Shared} {H : Hp} {Q : VK} (I : Inv X pins σ H s) (h : tListZip X.K ta σ H Q) : wpAny (model X.prog X.w) X.A (eval (.Call (.Name "zip" p) [e, e2] [] pos) X.env) (Zip0 X pins σ Q) X.xe s := by
  refine Call_ (ld_blt I hg hm PyProof.Rows.boot_zip (PyProof.Rows.callWith_type1 (thn (ha.run pos pins s σ H _ I h) fun us s1 ⟨vs, H1, I1, r1, q1⟩ => ?_) hs hpl))
  obtain ⟨a, b, xs, ys, ex, hqx, hqy, q⟩ := q1
  subst ex
  cases r1 with
  | cons r rr =>
    cases rr with
    | cons r' rr =>
      cases rr
      cases r
      cases r'
      obtain ⟨its, rv, p1, z1⟩ := I1.list hqx
      obtain ⟨its2, rv2, p2, _⟩ := I1.list hqy
      have la : a < s1.heap.objs.size := p1.lt
      have lb : b < s1.heap.objs.size := p2.lt
      refine call_zip_2 p1.isList p2.isList fun h' hz hTI hTO h1 h2 hsz hk => ?_
      have I2 : Inv X pins σ H1 { s1 with heap := h' } := I1.kept (t' := s1.toks) hk
      refine ⟨s1.heap.objs.size + 4, s1.heap.objs.size + 2, s1.heap.objs.size + 3, s1.heap.objs.size, s1.heap.objs.size + 1, a, b, its.toArray, its2.toArray, xs, ys, H1, rfl, PySem.W.ktu_apart s1.heap.objs.size a b la lb,
        fun d => ⟨hTI, h1, h2, p1.isList.at fun o e => hk _ o e, p2.isList.at fun o e => hk _ o e, .inl ⟨hz, _, _, hTO⟩⟩, I2, fun c hcm => ⟨?_, ?_⟩, fun c hcm => ?_, by simpa using rv, by simpa using rv2, by rw [List.size_toArray, ← rv.length]; exact z1, q⟩
      · have hle : s1.heap.objs.size ≤ c := by
          have e' : c = s1.heap.objs.size + 4 ∨ c = s1.heap.objs.size + 3 ∨ c = s1.heap.objs.size ∨ c = s1.heap.objs.size + 1 := by simpa using hcm
          rcases e' with z | z | z | z
          · rw [z]; exact Nat.le_add_right _ _
          · rw [z]; exact Nat.le_add_right _ _
          · rw [z]; exact Nat.le_refl _
          · rw [z]; exact Nat.le_add_right _ _
        exact I1.fpOk hle (I1.hok.fresh hle)
      · show c < h'.objs.size
        rw [hsz]
        have e' : c = s1.heap.objs.size + 4 ∨ c = s1.heap.objs.size + 3 ∨ c = s1.heap.objs.size ∨ c = s1.heap.objs.size + 1 := by simpa using hcm
        rcases e' with z | z | z | z
        · rw [z]; exact Nat.lt_succ_self _
        · rw [z]; exact Nat.lt_of_le_of_lt (Nat.add_le_add_left (by decide : 3 ≤ 4) _) (Nat.lt_succ_self _)
        · rw [z]; exact Nat.lt_of_le_of_lt (Nat.add_le_add_left (by decide : 0 ≤ 4) _) (Nat.lt_succ_self _)
        · rw [z]; exact Nat.lt_of_le_of_lt (Nat.add_le_add_left (by decide : 1 ≤ 4) _) (Nat.lt_succ_self _)
      · show c < h'.objs.size
        rw [hsz]
        have e' : c = s1.heap.objs.size + 4 ∨ c = s1.heap.objs.size + 2 ∨ c = s1.heap.objs.size + 3 ∨ c = s1.heap.objs.size ∨ c = s1.heap.objs.size + 1 ∨ c = a ∨ c = b := by simpa using hcm
        rcases e' with z | z | z | z | z | z | z
        · rw [z]; exact Nat.lt_succ_self _
        · rw [z]; exact Nat.lt_of_le_of_lt (Nat.add_le_add_left (by decide : 2 ≤ 4) _) (Nat.lt_succ_self _)
        · rw [z]; exact Nat.lt_of_le_of_lt (Nat.add_le_add_left (by decide : 3 ≤ 4) _) (Nat.lt_succ_self _)
        · rw [z]; exact Nat.lt_of_le_of_lt (Nat.add_le_add_left (by decide : 0 ≤ 4) _) (Nat.lt_succ_self _)
        · rw [z]; exact Nat.lt_of_le_of_lt (Nat.add_le_add_left (by decide : 1 ≤ 4) _) (Nat.lt_succ_self _)
        · rw [z]; exact Nat.lt_of_lt_of_le la (Nat.le_add_right _ _)
        · rw [z]; exact Nat.lt_of_lt_of_le lb (Nat.le_add_right _ _)
theorem call_list_zip {A : Around} {E : Value → Shared → Prop} {s : Shared} {v : Value} {Q : VK} (hh : A.handled = none) (h : Zip0 X pins σ Q v s) : wpAny (model X.prog X.w) A (call (.type "list") [v]) (EP X pins σ Q) E s := by
  obtain ⟨z, TI, TO, i1, i2, l1, l2, xs, ys, xv, yv, H1, rfl, D, st, I, fp, lt, rx, ry, hz, q⟩ := h
  have nS : ∀ b ∈ [z, TI, TO, i1, i2, l1, l2], s.heap.objs.size ≠ b := fun b hb => Nat.ne_of_gt (lt b hb)
  have nd : s.heap.objs.size ∉ [z, TI, TO, i1, i2, l1, l2] := fun h => nS _ h rfl
  have hSz : s.heap.objs.size ≠ z := nS z (.head _)
  refine callType_codes (Q₁ := fun obj s₁ => obj = .ref s.heap.objs.size ∧ s₁ = { s with heap := s.heap.push { cls := .type "list", data := .seq #[] } }) F.called_list (F.typeCall_list_1 _) F.entry_list_init
    (code_list_new _ ⟨rfl, rfl⟩) fun obj s₁ h₁ => ?_
  obtain ⟨rfl, rfl⟩ := h₁
  have hS : (s.heap.push { cls := .type "list", data := .seq #[] }).get? s.heap.objs.size = some { cls := .type "list", data := .seq #[] } := Heap.get?_push_size _ rfl
  refine ⟨⟨_, hS, rfl⟩, F.args_list_init_2 _ _, ?_⟩
  show wpAny _ A.in1.in1 (do let old ← Builtin.List.listItems (.ref s.heap.objs.size); Builtin.List.listUpdate (.ref s.heap.objs.size) (fun _ => #[]); letGo old.toList.reverse; Builtin.List.listExtendWith (.ref s.heap.objs.size) (.ref z) .none) _ _ _
  refine wpAny_bind ?_
  unfold Builtin.List.listItems
  refine wpAny_bind (wpAny_seqItems hS rfl (wpAny_pure ?_))
  show wpAny _ A.in1.in1 (updateSeq s.heap.objs.size (fun _ => #[]) >>= fun _ => letGo (#[] : Array Value).toList.reverse >>= fun _ => Builtin.List.listExtendWith (.ref s.heap.objs.size) (.ref z) .none) _ _ _
  refine wpAny_bind (wpAny_updateSeq hS rfl ?_)
  have hS2 := Heap.get?_update_self (Obj.mapSeq (fun _ => (#[] : Array Value))) hS rfl
  refine wpAny_bind (wpAny_letGo ?_)
  unfold Builtin.List.listExtendWith
  have up : ∀ (h : Heap) (f : Obj → Obj), (∀ b o, s.heap.get? b = some o → h.get? b = some o) → ∀ b o, s.heap.get? b = some o → (h.update s.heap.objs.size f).get? b = some o := fun h f q b o e =>
    (Heap.get?_update_other _ _ (Ne.symm (Nat.ne_of_lt (Heap.lt_size e)))).trans (q b o e)
  have k1 : ∀ b o, s.heap.get? b = some o → (s.heap.push { cls := .type "list", data := .seq #[] }).get? b = some o := fun b o e => Heap.get?_push_of_some _ e
  have k2 := up _ (Obj.mapSeq (fun _ => (#[] : Array Value))) k1
  have zk : ∀ {h : Heap}, (∀ b o, s.heap.get? b = some o → h.get? b = some o) → ZS z TI TO i1 i2 l1 l2 xs ys s.heap.objs.size 0 h := fun {h} k => (st s.heap.objs.size).frame nd fun b o _ e => k b o e
  refine wpAny_bind (wpAny_typeOf (zs_type (s := { s with heap := _ }) (zk k2)) ?_)
  have h1 : Builtin.List.listSameRef (.ref s.heap.objs.size) (.ref z) = false := by simp [Builtin.List.listSameRef, hSz]
  have h2 : (Value.type "zip" == Value.type "list") = false := by decide
  have h3 : (Value.type "zip" == Value.type "tuple") = false := by decide
  simp only [h1, h2, h3, Bool.or_false, Bool.false_eq_true, if_false]
  have hz0 : ∃ f0, IsZip ((s.heap.push { cls := .type "list", data := .seq #[] }).update s.heap.objs.size (Obj.mapSeq (fun _ => (#[] : Array Value)))) z TI TO f0 ∨ ∃ T f, IsZipHeld ((s.heap.push { cls := .type "list", data := .seq #[] }).update s.heap.objs.size (Obj.mapSeq (fun _ => (#[] : Array Value)))) z TI TO T f := by
    rcases (zk k2).zz with ⟨a, _⟩ | ⟨T, f, _, a, _⟩
    · exact ⟨_, .inl a⟩
    · exact ⟨.none, .inr ⟨T, f, a⟩⟩
  have itr : ∀ {Q' : Value → Shared → Prop}, Q' (.ref z) { s with heap := (s.heap.push { cls := .type "list", data := .seq #[] }).update s.heap.objs.size (Obj.mapSeq (fun _ => (#[] : Array Value))) } → wpAny (model X.prog X.w) A.in1.in1 (pyIter (.ref z)) Q' E { s with heap := (s.heap.push { cls := .type "list", data := .seq #[] }).update s.heap.objs.size (Obj.mapSeq (fun _ => (#[] : Array Value))) } := fun {Q'} hq => by
    have hT := zs_type (s := { s with heap := (s.heap.push { cls := .type "list", data := .seq #[] }).update s.heap.objs.size (Obj.mapSeq (fun _ => (#[] : Array Value))) }) (zk k2)
    refine wpAny_pyIter_slot hT F.slot_zip_iter (wpAny_call_entry F.slot_zip_iter hT F.entry_zip_iter ?_ (F.args_zip_iter_1 _))
    show wpAny _ _ (ret (.ref z)) _ _ _
    exact wpAny_pure ⟨_, rfl, "zip", _, hT, F.slot_zip_next.lookup, hq⟩
  refine wpAny_bind (itr ?_)
  refine wpAny_bind (wpAny_holding ?_)
  unfold Builtin.List.listLengthHint
  refine wpAny_bind (wpAny_specialOf (zs_type (s := { s with heap := _ }) (zk k2)) F.zip_no_len ?_)
  show wpAny _ A.in1.in1 (specialOf (Value.ref z) (Str.ofString "__length_hint__") >>= _) _ _ _
  refine wpAny_bind (wpAny_specialOf (zs_type (s := { s with heap := _ }) (zk k2)) F.zip_no_hint ?_)
  refine wpAny_pure ?_
  show wpAny _ A.in1.in1 (rule "list.extend.makes-room" >>= fun _ => Builtin.List.listTouch (.ref s.heap.objs.size) >>= fun _ =>
    again (.builtin "list.extend.loop" ⟨[.ref s.heap.objs.size, .ref z, .none], []⟩)) _ _ _
  refine wpAny_bind (wpAny_rule ?_)
  refine wpAny_bind ?_
  show wpAny _ A.in1.in1 (updateSeq s.heap.objs.size (·.push .none) >>= fun _ => updateSeq s.heap.objs.size (·.pop)) _ _ _
  refine wpAny_bind (wpAny_updateSeq hS2 rfl ?_)
  have hS3 := Heap.get?_update_self (Obj.mapSeq (·.push Value.none)) hS2 rfl
  refine wpAny_updateSeq (hz := by seq_fits) hS3 rfl ?_
  have hS4 := Heap.get?_update_self (Obj.mapSeq (·.pop)) hS3 rfl
  have k4 := up _ (Obj.mapSeq (·.pop)) (up _ (Obj.mapSeq (·.push Value.none)) k2)
  have hn : H1 s.heap.objs.size = none := I.hok.fresh (Nat.le_refl _)
  refine wpAny_pure ⟨plainId_quiet F.plain_extend_loop _, ?_⟩
  have e1 : xv.length = xs.size := by rw [rx.length, Array.length_toList]
  have e2 : yv.length = ys.size := by rw [ry.length, Array.length_toList]
  refine zip_drain (pins := pins) (σ := σ) (A := A.in1) (H1 := H1) hh D nd rx ry (Nat.le_trans (Nat.min_le_left ..) hz) (fun s' H' ts I' zl => ⟨rfl, .ref s.heap.objs.size, H', I', rfl, q _ ts H' hn (by rw [e1, e2]; exact zl)⟩)
    _ 0 _ (upd H1 s.heap.objs.size (.lst [])) _ _ [] rfl (Nat.zero_le _) (zk k4) hS4 (I.laid (t' := s.toks) k4 (Nat.le_refl _) ⟨Nat.zero_le _, [], _, .nil, hS4⟩) (fun b hb => ?_) .nil rfl
  obtain ⟨f1, f2⟩ := fp b hb
  refine ⟨fp_upd f1 (Nat.ne_of_lt f2), ?_⟩
  show b < (Heap.update _ _ _).objs.size
  rw [Heap.size_update, Heap.size_update, Heap.size_update, Heap.size_push]
  exact Nat.lt_succ_of_lt f2
theorem pe_listZip {e e2 : Expr} {ta : TA} {p p2 pos pos2 : Pos} (hc : X.calm = true) (hgl : Gl X "list") (hml : X.mg "list" = none) (hg : Gl X "zip") (hm : X.mg "zip" = none) (ha : PA X [e, e2] ta)
    (hs : starEach [e, e2] X.env = (false, eval e X.env) :: starEach [e2] X.env := by rfl) (hpl : (backTo pos2 (starEach [e2] X.env)).any (·.1) = false := by rfl)
    (na : starEach [.Call (.Name "zip" p2) [e, e2] [] pos2] X.env = (false, eval (.Call (.Name "zip" p2) [e, e2] [] pos2) X.env) :: starEach [] X.env := by rfl) :
    PE X (.Call (.Name "list" p) [.Call (.Name "zip" p2) [e, e2] [] pos2] [] pos) (tListZip X.K ta) := by
  refine ⟨fun pins s σ H Q I h => ?_⟩
  refine Call_ (ld_blt I hgl hml boot_list (PyProof.Rows.callWith_type1 (args_cons (thn (ev_zip hg hm ha hs hpl I h) fun x s1 hx => args_nil ?_) na) na))
  have hA : X.A.handled = none := by
    obtain ⟨_, _, _, _, _, _, _, _, _, _, _, _, _, _, _, I1, _⟩ := hx
    exact I1.ok.hd hc
  exact call_list_zip hA hx
end
end Pd

/-! ClsB -/
set_option Elab.async false
set_option linter.all false
set_option maxRecDepth 100000
set_option maxHeartbeats 4000000
/-! methods that keep a promise -/
namespace Pd
open PySem PySem.Spec PyProof.Rows L2
def clsB : Stmt → List Stmt
  | .ClassDef (body := b) .. => b
  | _ => []
/-- list(x), x a list or a tuple -/
def rListX (K : PySem.W.Frag) : List V → Hp → VK → Prop := fun xs H Q => ∃ p ys, xs = [.ref p] ∧ (SqL K H p ys ∨ SqT K H p ys) ∧ ∀ l, H l = none → Q (.ref l) (upd H l (.lst ys))
abbrev rNegI : V → Hp → VK → Prop := rU fun i => .int (-i)
/-- a method of the class at C -/
def MethS (P : Program) (w : World) (K : PySem.W.Frag) (mg : Str → Option Value) (base : Heap) (CX : CXT) (k : Nat) (C : Addr) (m : Str) (ps : List Str) (dvs : List V) (sp : Sp) : Prop :=
  ∃ f fd ds, Meth K C m f ∧ Binds K fd ps ds ∧ Vals dvs ds ∧ FnOk P w K mg base CX k f fd ps sp
def MakeS (P : Program) (w : World) (K : PySem.W.Frag) (mg : Str → Option Value) (base : Heap) (CX : CXT) (k : Nat) (C : Addr) (ps : List Str) (sp : Sp) : Prop :=
  ∃ f fd, Mk K C f ∧ Binds K fd ps [] ∧ FnOk P w K mg base CX k f fd ps sp
theorem MethS.mono {P : Program} {w : World} {K : PySem.W.Frag} {mg : Str → Option Value} {base : Heap} {CX : CXT} {k j : Nat} {C : Addr} {m : Str} {ps : List Str} {dvs : List V} {sp : Sp} (h : MethS P w K mg base CX k C m ps dvs sp) (hj : k ≤ j) : MethS P w K mg base CX j C m ps dvs sp :=
  let ⟨f, fd, ds, a, b, c, d⟩ := h
  ⟨f, fd, ds, a, b, c, d.mono hj⟩
section
variable {X : Cx} {k : Nat} {C : Addr} {m x : Str} {ps : List Str} {dvs : List V} {sp : Sp} {o e : Expr} {es : List Expr} {ta : TE} {t : TA} {pos apos p : Pos}
theorem pe_bmeth {pl : Sem Bool} (G : MethS X.prog X.w X.K X.mg X.base CX0 k C m ps dvs sp) (c : Cls X.K C) (hr : Room k X.A) (he : PE X o ta) (ha : PA X (e :: es) t)
    (hst : starEach (e :: es) X.env = (false, eval e X.env) :: starEach es X.env := by rfl) (hpl : (backTo pos (starEach es X.env)).any (·.1) = false := by rfl)
    (ht : eval (.Call (.Attribute o m apos) (e :: es) [] pos) X.env = (do
      let ov ← eval o X.env
      standAt apos.atName
      let (f, first) ← holding [ov] (getMethod ov m pl)
      callWith pos f first (backTo pos (starEach (e :: es) X.env)) (backToKw pos (keywordEach [] X.env))) := by rfl) :
    PE X (.Call (.Attribute o m apos) (e :: es) [] pos) (tMeth C m sp dvs E0 ta t) := by
  obtain ⟨f, fd, ds, h1, h2, h3, h4⟩ := G
  exact pe_meth (pl := pl) he c h1 h4 hr h2 h3 pass0 ha hst hpl ht
theorem pe_bmeth0 {pl : Sem Bool} (G : MethS X.prog X.w X.K X.mg X.base CX0 k C m ps dvs sp) (c : Cls X.K C) (hr : Room k X.A) (he : PE X o ta)
    (ht : eval (.Call (.Attribute o m apos) [] [] pos) X.env = (do
      let ov ← eval o X.env
      standAt apos.atName
      let (f, first) ← holding [ov] (getMethod ov m pl)
      callWith pos f first (backTo pos (starEach [] X.env)) (backToKw pos (keywordEach [] X.env))) := by rfl) :
    PE X (.Call (.Attribute o m apos) [] [] pos) (tMeth C m sp dvs E0 ta tNil) := by
  obtain ⟨f, fd, ds, h1, h2, h3, h4⟩ := G
  exact pe_meth0 (pl := pl) he c h1 h4 hr h2 h3 pass0 ht
theorem pe_bmake (G : MakeS X.prog X.w X.K X.mg X.base CX0 k C ps sp) (hr : Room (k + 1) X.A) (hg : Gl X x) (hm : X.mg x = some (.ref C)) (ha : PA X (e :: es) t) (hdb : (x == ("__debug__" : Str)) = false := by decide)
    (he : starEach (e :: es) X.env = (false, eval e X.env) :: starEach es X.env := by rfl) (hpl : (backTo pos (starEach es X.env)).any (·.1) = false := by rfl) : PE X (.Call (.Name x p) (e :: es) [] pos) (tMake C sp [] E0 t) := by
  obtain ⟨f, fd, h1, h2, h4⟩ := G
  exact pe_make h1 h4 hr hg hm h2 .nil pass0 ha hdb he hpl
end
end Pd

/-! SupI -/
set_option Elab.async false
set_option linter.all false
set_option maxRecDepth 100000
set_option maxHeartbeats 4000000
/-! an own exception's __init__ that says super().__init__(x), its built-in base below another own class -/
namespace Pd
open PySem PySem.Spec PyProof.Rows L2 PySem.Calls LamX NdefX

/-- what the written part says of such an __init__ -/
structure SupF (P : Program) (K : PySem.W.Frag) (C fI cc cda : Addr) (x qual : Str) (params : Arguments) (body : List Stmt) (scope : Scope) (fd : FuncData) : Prop where
  T : OexC K C
  fn : ∃ (oc : Value) (od : Option Addr) (osl : Array (Option Value)) (dV kV doc pm ct : Value) (an : Option Addr), fd = PySem.W.fnX x qual params body scope [("__class__", cc)] dV kV doc pm an (.ref cda) ct ∧ K.lookup fI = some ⟨oc, od, .func fd, osl⟩
  cd : PySem.W.codeIn K (.ref cda) qual = true
  code : ∃ (ccl : Value) (cdd : Option Addr) (ccs : Array (Option Value)) (vs : Array Value) (file : Str) (tf : Tok), K.lookup cda = some ⟨ccl, cdd, .fields vs, ccs⟩ ∧ vs[2]? = some (.str file tf) ∧ ((P.main.file : Str) == file) = true
  cell : ∃ (cl : Value) (cld : Option Addr) (csl : Array (Option Value)), K.lookup cc = some ⟨cl, cld, .cell (some (.ref C)), csl⟩
  cls : ∃ cdD, PySem.W.clsIn K C = some cdD
  top : (P.main.scope.names.lookup ("super" : Str)).isSome = false
  sub : PySem.W.mroIn K C (.ref C) = some true
  sup : PySem.W.ks_superIn K C C "__init__" = some (some (.builtin "ValueError.__init__"))
  opq : PySem.W.nsIn K cStatics "thirdparty.any" = some none
  ve : PySem.W.subIn K (.ref C) (.type "ValueError") = some true
  ks : scope.names.lookup ("super" : Str) = some .globalImplicit
  self : scope.names.lookup ("self" : Str) = some .local
  hd : ∃ ar : Arg, (params.posonlyargs ++ params.args).head? = some ar ∧ ar.arg = "self"

theorem one_look {k y : Str} {c c' : Addr} (q : List.lookup y [(k, c)] = some c') : y = k ∧ c' = c := by
  simp only [List.lookup] at q
  split at q
  · rename_i hb
    exact ⟨beq_iff_eq.mp hb, (Option.some.inj q).symm⟩
  · cases q
theorem fn_sup {P : Program} {w : World} {K : PySem.W.Frag} {mg : Str → Option Value} {base : Heap} {k : Nat} {C fI cc cda : Addr} {x qual : Str} {params : Arguments} {rest : List Stmt} {scope : Scope} {fd : FuncData} {N ps : List Str} {sp : Sp} {e : Expr} {p0 p1 p2 p3 p4 : Pos}
    (U : SupF P K C fI cc cda x qual params (.Expr (.Call (.Attribute (.Call (.Name "super" p0) [] [] p1) "__init__" p2) [e] [] p3) p4 :: rest) scope fd) (S : NScope N ps ["__class__"] scope) (hps : ps[0]? = some ("self" : Str)) (hms : mg "super" = none)
    (pl : Addr → Sem Bool)
    (hev : ∀ L : Addr, eval (.Call (.Attribute (.Call (.Name "super" p0) [] [] p1) "__init__" p2) [e] [] p3) (envF ⟨x, qual, params, .Expr (.Call (.Attribute (.Call (.Name "super" p0) [] [] p1) "__init__" p2) [e] [] p3) p4 :: rest, scope, [("__class__", cc)], cda⟩ fI L) = (do
      let ov ← attributeBase (.Call (.Name "super" p0) [] [] p1) "__init__" (envF ⟨x, qual, params, .Expr (.Call (.Attribute (.Call (.Name "super" p0) [] [] p1) "__init__" p2) [e] [] p3) p4 :: rest, scope, [("__class__", cc)], cda⟩ fI L) (eval (.Call (.Name "super" p0) [] [] p1) (envF ⟨x, qual, params, .Expr (.Call (.Attribute (.Call (.Name "super" p0) [] [] p1) "__init__" p2) [e] [] p3) p4 :: rest, scope, [("__class__", cc)], cda⟩ fI L))
      standAt p2.atName
      let (f, first) ← holding [ov] (getMethod ov "__init__" (pl L))
      callWith p3 f first (backTo p3 (starEach [e] (envF ⟨x, qual, params, .Expr (.Call (.Attribute (.Call (.Name "super" p0) [] [] p1) "__init__" p2) [e] [] p3) p4 :: rest, scope, [("__class__", cc)], cda⟩ fI L))) []))
    (hst : ∀ L : Addr, starEach [e] (envF ⟨x, qual, params, .Expr (.Call (.Attribute (.Call (.Name "super" p0) [] [] p1) "__init__" p2) [e] [] p3) p4 :: rest, scope, [("__class__", cc)], cda⟩ fI L) = [(false, eval e (envF ⟨x, qual, params, .Expr (.Call (.Attribute (.Call (.Name "super" p0) [] [] p1) "__init__" p2) [e] [] p3) p4 :: rest, scope, [("__class__", cc)], cda⟩ fI L))])
    (len : ∀ vs H Q E, sp vs H Q E → vs.length = ps.length)
    (hbody : ∀ (A : Around) (outer : List Env) (s : Shared) (H : Hp) (vs : List V) (Q : VK) (E : XK), Room k (A.deeper (envF ⟨x, qual, params, .Expr (.Call (.Attribute (.Call (.Name "super" p0) [] [] p1) "__init__" p2) [e] [] p3) p4 :: rest, scope, [("__class__", cc)], cda⟩ fI s.heap.objs.size)) → sp vs H Q E →
      ∃ (a : Addr) (ws : List V) (te : TE) (t : TS), vs = .ref a :: ws ∧ H a = some (exo a C none) ∧
        PE (ncx CX0 P w K mg base N ⟨x, qual, params, .Expr (.Call (.Attribute (.Call (.Name "super" p0) [] [] p1) "__init__" p2) [e] [] p3) p4 :: rest, scope, [("__class__", cc)], cda⟩ fI A outer s H E) e te ∧
        PSs (ncx CX0 P w K mg base N ⟨x, qual, params, .Expr (.Call (.Attribute (.Call (.Name "super" p0) [] [] p1) "__init__" p2) [e] [] p3) p4 :: rest, scope, [("__class__", cc)], cda⟩ fI A outer s H E) rest t ∧
        te (startF N vs [some (.ref C)]) H (fun v H1 => [v].length ≤ sizeLine ∧ H1 a = some (exo a C none) ∧ t { nx := fun _ H' => Q .non H', rt := Q } (startF N vs [some (.ref C)]) H1)) : FnOk P w K mg base CX0 (k + 1) fI fd ps sp := by
  obtain ⟨T, ⟨oc, od, osl, dV, kV, doc, pm, ct, an, rfl, hf⟩, hcd, ⟨ccl, cdd, ccs, cvs, file, tf, hcode, hvs, hfile⟩, ⟨cl, cld, csl, hcell⟩, ⟨cdD, hD⟩, htop, hsub, hsup, hopq, hve, hks, hself, ⟨ar, hp, har⟩⟩ := U
  refine ⟨len, fun A outer s H args us vs Q E hr e0 hb r hsp => ?_⟩
  have hl := len _ _ _ _ hsp
  have hin : K.In s.heap := e0.mod.kin.keeps fun b o q => (e0.bs b o q).1
  have lim : s.heap.NoLimit := e0.mod.nolimit.keeps fun b o q => (e0.bs b o q).1
  have hkc : scope.names.lookup ("__class__" : Str) = some .free := S.frk _ (by simp)
  let body : List Stmt := .Expr (.Call (.Attribute (.Call (.Name "super" p0) [] [] p1) "__init__" p2) [e] [] p3) p4 :: rest
  let F : NF := ⟨x, qual, params, body, scope, [("__class__", cc)], cda⟩
  have CA : CellsAt F.cl ["__class__"] [some (.ref C)] s.heap H := by
    have hc0 : H cc = none := (e0.bs cc _ (e0.mod.kin _ _ hcell)).2
    have hcc : s.heap.IsCell cc (some (.ref C)) := ⟨_, hin _ _ hcell, rfl⟩
    refine ⟨rfl, fun y c q => ?_, fun y z c q1 q2 => ?_, fun i y q => ?_⟩
    · obtain ⟨_, rfl⟩ := one_look q
      exact ⟨hc0, _, hcc⟩
    · rw [(one_look q1).1, (one_look q2).1]
    · cases i with
      | zero =>
        have : y = "__class__" := by simpa using q.symm
        subst this
        refine ⟨cc, by simp [F, List.lookup], fun v hv => ?_⟩
        have : v = .ref C := by simpa using hv.symm
        subst this
        exact ⟨.ref C, rfl, hcc⟩
      | succ i => simp at q
  refine ks_codeAny_call_defAt (body := body) (binds := ps.zip us) hr.depth (hin _ _ hf) rfl lim (PySem.W.codeRec_of hin hcd) rfl hb S.nocell (fun ⟨n, _⟩ hy => S.par n (List.of_mem_zip hy).1) (fun h₁ hns kp => ?_) S.co S.gen S.kind
  obtain ⟨a, ws, te, t, rfl, ha, he, ht, hq⟩ := hbody A outer s H _ Q E (hr.deeper _) hsp
  have I : L2.Inv (ncx CX0 P w K mg base N F fI A outer s H E) [] (startF N (.ref a :: ws) [some (.ref C)]) H { s with heap := h₁, toks := s.toks + (ps.zip us).length } := inv_startN S hr.hd e0 hl r CA hns kp
  have fin : ∀ {σ' : L2.St} {H' : Hp} {s' : Shared} {v : V} {u : Value}, L2.Inv (ncx CX0 P w K mg base N F fI A outer s H E) [] σ' H' s' → L2.RelV v u → Q v H' → CE outer P w H s Q u s' :=
    fun {σ' H' s' v u} J rv q => ⟨v, H', J.os, J.bare, J.base, J.hok, rv, q⟩
  show _root_.PySem.wpAt (model P w) (A.deeper (envF F fI s.heap.objs.size)) (.func body (envF F fI s.heap.objs.size)) (execs body (envF F fI s.heap.objs.size)) _ _ _
  refine ks_wpAt_mono (Q := fun fl s' => SP (ncx CX0 P w K mg base N F fI A outer s H E) [] { nx := fun _ H' => Q .non H', rt := Q } fl s') (E := (ncx CX0 P w K mg base N F fI A outer s H E).xe) ?main (fun fl s' hs => ?fin) (fun e s' hs => hs)
  case fin =>
    cases fl with
    | ret u =>
      obtain ⟨v, σ', H', J, rv, q⟩ := hs
      exact fin J rv q
    | next =>
      obtain ⟨σ', H', J, q⟩ := hs
      exact fin (v := V.non) (u := Value.none) J rfl q
    | brk =>
      obtain ⟨_, _, _, q⟩ := hs
      exact False.elim q
    | cont =>
      obtain ⟨_, _, _, q⟩ := hs
      exact False.elim q
  refine ks_wpAt_execs_cons (ks_wpAt_Expr_any (ks_wpAt_MethodCall (pl := pl s.heap.objs.size) ?_ (hev _)) I.quiet)
  -- super()
  have X₁ : K.In h₁ := I.kIn
  obtain ⟨oD, hD1, hD2⟩ : ∃ oD, h₁.get? C = some oD ∧ oD.data = .cls cdD := by
    unfold PySem.W.clsIn at hD
    split at hD
    · rename_i c d cd' sl ho
      cases hD
      exact ⟨_, X₁ _ _ ho, rfl⟩
    · cases hD
  obtain ⟨t1, hex⟩ := exo_at I.hok ha
  have hex : h₁.get? a = some (PySem.HandSPX.excO C t1) := hex
  refine ks_wpAt_super_base (env := envF F fI s.heap.objs.size) hks hkc (by decide) rfl (X₁ _ _ hf) rfl hp rfl (X₁ _ _ hcode) rfl hvs hfile htop ?_
  -- the built-in super
  have hn : ("super" : Str) ≠ "__name__" := by decide
  obtain ⟨mb, hb1, hb2⟩ := I.mod.blt
  refine PySem.W.ks_loadName_global S.kind hks (Calls.loadGlobal_builtin (env := envF F fI s.heap.objs.size) (by rw [show (envF F fI s.heap.objs.size).globals = _ from I.ok.glob]; exact I.mod.glob.keeps I.bk) hms (by rw [show (envF F fI s.heap.objs.size).builtins = _ from I.ok.blt]; exact hb1.keeps I.bk) ((hb2 _ hn).trans (by decide +kernel : bootBuiltins "super" = some (.type "super"))) ⟨rfl, ?_⟩)
  have hcc₁ : h₁.IsCell cc (some (.ref C)) := ⟨_, X₁ _ _ hcell, rfl⟩
  refine wpAny_loadName_free S.kind hkc rfl hcc₁ ?_
  have ndP : ps.Nodup := by
    have q : (N.take (ps.length + [("__class__" : Str)].length)).Nodup := S.nd.sublist (List.take_sublist _ _)
    rw [S.pre] at q
    exact (List.nodup_append.mp q).1
  have hself2 : (ps.zip us).reverse.lookup ("self" : Str) = some (.ref a) := by
    cases r with
    | cons ra rr =>
      have ra' : _ = Value.ref a := ra
      subst ra'
      exact zip_look ndP hps (by simp)
  rw [har]
  refine wpAny_loadName_local S.kind hself hns hself2 ?_
  refine ks_wpAny_isType_cls hD1 hD2 ⟨rfl, ?_⟩
  refine ks_wpAny_call_super hD1 hD2 hex rfl (fun c z => nomatch z) (PySem.W.looks_mroIn X₁ hsub) (fun h₂ eso k2 => ?_)
  -- its method
  have J1 := I.kept (t' := s.toks + (ps.zip us).length) k2
  have X₂ : K.In h₂ := J1.kIn
  have hex2 : h₂.get? a = some (PySem.HandSPX.excO C t1) := k2 _ _ hex
  have inst : PySem.W.InstAt h₂ a (PySem.HandSPX.excO C t1) C none := ⟨hex2, rfl, rfl, trivial⟩
  have hI : PySem.W.Looks (model P w) h₂ (isInstance (.ref a) (.type "ValueError")) true := inst.type.andThen (PySem.W.looks_subIn X₂ hve)
  have hsup' : PySem.W.alongIn K "__init__" ((cdD.mro.dropWhile (· != .ref C)).drop 1) = some (some (.builtin "ValueError.__init__")) := by
    unfold PySem.W.ks_superIn at hsup
    rw [hD] at hsup
    exact hsup
  refine PySem.W.kxs_getMethod PySem.W.kxs_ValueError eso (PySem.W.looks_opaque X₂ hopq) (l₀ := cdD.mro) (fun A Q E s k q => wpAny_bind ((PySem.W.looks_clsIn X₂ hD) A _ E s k (wpAny_pure q))) rfl X₂ hsup' hI (PySem.W.ks_ne X₂ inst hD) (by decide) ?_
  -- its arguments
  have k3 : ∀ b o, h₂.get? b = some o → (h₂.push (PySem.W.kxs_mw "ValueError.__init__" a)).get? b = some o := fun b o q => Heap.get?_push_of_some _ q
  have J2 := J1.kept (t' := s.toks + (ps.zip us).length + 1) k3
  have hu3 : (h₂.push (PySem.W.kxs_mw "ValueError.__init__" a)).get? h₂.objs.size = some (PySem.W.kxs_mw "ValueError.__init__" a) := Heap.get?_push_at rfl rfl
  have J3 : L2.Inv (ncx CX0 P w K mg base N F fI A outer s H E) [(h₂.objs.size, PySem.W.kxs_mw "ValueError.__init__" a)] (startF N (.ref a :: ws) [some (.ref C)]) H { s with heap := h₂.push (PySem.W.kxs_mw "ValueError.__init__" a), toks := s.toks + (ps.zip us).length + 1 } :=
    J2.pins_of fun p hp => by
      rw [List.mem_singleton.mp hp]
      exact ⟨hu3, J1.hok.fresh (Nat.le_refl _), Nat.ne_of_gt J1.lt, J1.nofs (Nat.le_refl _), fun v z => nomatch z⟩
  have hpa : PA (ncx CX0 P w K mg base N F fI A outer s H E) [e] (tCons te tNil) := pa_cons he pa_nil (hst _)
  show wpAny (model P w) (A.deeper (envF F fI s.heap.objs.size)) (callWith p3 (.ref h₂.objs.size) [] (backTo p3 (starEach [e] (envF F fI s.heap.objs.size))) []) _ _ _
  have hrun := hpa.run p3 _ _ _ H (fun us2 H1 => us2.length ≤ sizeLine ∧ H1 a = some (exo a C none) ∧ t { nx := fun _ H' => Q .non H', rt := Q } (startF N (.ref a :: ws) [some (.ref C)]) H1) J3 hq
  have hst' := hst s.heap.objs.size
  refine PySem.W.kxs_callWith (i := "ValueError.__init__") (x := a) (by rw [show starEach [e] (envF F fI s.heap.objs.size) = _ from hst']; rfl) ?_
  have hrun2 : wpAny (model P w) (A.deeper (envF F fI s.heap.objs.size)) (spliced (backTo p3 (starEach [e] (envF F fI s.heap.objs.size)))) _ _ _ := hrun
  rw [show starEach [e] (envF F fI s.heap.objs.size) = _ from hst'] at hrun2 ⊢
  refine evalArgs_plain (wpAny_mono hrun2 (fun us2 s2 ⟨vs2, H1, I4, r4, hz, ea, q⟩ => ⟨(I4.pin (h₂.objs.size, PySem.W.kxs_mw "ValueError.__init__" a) (List.mem_append_right _ (List.mem_singleton_self _))).1, ?_⟩) (fun _ _ z => z))
  have hz2 : us2.length ≤ sizeLine := by
    rw [← r4.length]
    exact hz
  have hu4 := (I4.pin (h₂.objs.size, PySem.W.kxs_mw "ValueError.__init__" a) (List.mem_append_right _ (List.mem_singleton_self _))).1
  obtain ⟨nm, qn, N', bs, bm, sn, sub, ab, col, dd, c0, c1, c2, c3, c5, hC, hbm⟩ := T.cls
  obtain ⟨t2, ho⟩ := exo_at I4.hok ea
  have hC4 := I4.kIn _ _ hC
  obtain ⟨hp, g, d, tk, os⟩ := s2
  refine wpAny_call (codeAny_of_tree ?_)
  show wpAny _ _ (callAny (.ref h₂.objs.size) ⟨us2, []⟩) _ _ _
  simp only [callAny]
  refine wpAny_bind (wpAny_load hu4 ?_)
  simp only [PySem.W.kxs_mw, show (Value.type "method-wrapper" == Value.type "method" || Value.type "method-wrapper" == Value.type "builtin_function_or_method" || Value.type "method-wrapper" == Value.type "method-wrapper") = true by decide, if_true]
  refine PySem.W.KFB.if_so (by decide) ?_
  refine wpAny_bind (PySem.W.check_bound_init PySem.F.excBase_ValueError.toExcCallFacts hC4 ho rfl ?_)
  refine wpAny_bind (wpAny_pure (wpAny_pure ?_))
  refine ⟨plainId_quiet PySem.F.excBase_ValueError.init.plain _, codeAny_builtin PySem.F.excBase_ValueError.initEntry ?_⟩
  have ho' : hp.get? a = some (PySem.W.excRec (.ref C) t2 none .none .none (.bool false)) := ho
  have e1 : (#[Value.builtin "ValueError.__init__", Value.ref a] : Array Value)[1] = Value.ref a := rfl
  rw [e1]
  refine PySem.W.exc_init_tree (e := a) (rest := us2) (cls := .ref C) (t0 := t2) (dv := none) (c2 := .none) (c3 := .none) (b4 := .bool false) ho' hz2 (fun h' k hx ht2 => ?_)
  have J := I4.write (t' := tk) (x := a) (e := a) (o := exo a C none) (by rw [ea]; exact True.intro) (.inl rfl) k ⟨_, hx⟩ (exo_ok hx)
  have eu : upd H1 a (exo a C none) = H1 := by
    funext b
    by_cases hb : b = a
    · rw [hb, upd_same, ea]
    · rw [upd_ne hb]
  rw [eu] at J
  exact wpAt_of_wpAny (ht.run [] _ _ H1 _ (J.pins_of (pins' := []) fun p hp => absurd hp (by simp)) q)
end Pd

/-! WordE -/
set_option Elab.async false
set_option linter.all false
set_option maxRecDepth 100000
set_option maxHeartbeats 4000000
/-! what a suite asks of a caught exception of an own class that has fields; list.count of data -/
namespace Pd
open PySem PySem.Spec PyProof.Rows L2
def rCountD (K : PySem.W.Frag) : V → List V → Hp → VK → Prop := fun x xs H Q => ∃ (a : Addr) (y : V) (d : PyData) (ds : List PyData), x = V.ref a ∧ xs = [y] ∧ Dp K H (V.ref a) (.list ds) ∧ Dp K H y d ∧
  SeqAt.shaped (.list ds) = true ∧ SeqAt.shaped d = true ∧ Q (.int (ds.countP fun z => PyData.eqv z d : Nat)) H
theorem mt_countD {X : Cx} (hu : X.A.units + 65 < cLine) : MtR X "list.count" (rCountD X.K) := by
  intro pins s σ H x xs v us Q I rx rxs h
  obtain ⟨a, y, d, ds, rfl, rfl, hl, hy, sl, sd, q⟩ := h
  cases rx
  cases rxs with
  | cons ry rt =>
    rename_i uy ut
    cases rt
    obtain ⟨bs, r1⟩ := Dp.reads I d y uy hy ry
    have hxs : PyData.canLayAll0 ds = true := SeqAt.canLay_of_shaped sl
    have hroom : X.A.units + 1 + min (PyData.depthAll ds) d.depth < cLine := room_in_shaped sd hu
    cases hl with
    | lst hs ha =>
      obtain ⟨its, rv, ⟨⟨cls, dd, data, sls⟩, n, ho, hc, hdn, hdt⟩, hlen⟩ := I.list hs
      simp only at hc hdt
      subst hc hdt
      obtain ⟨as, h4⟩ := Dp.readsAll I ds _ its ha rv
      have hmap : its.map (SeqAt.readOf s.heap) = ds := SeqAt.readsAll_map ds its as hxs h4
      refine call_meets PySem.F.slot_list_count ⟨_, ho, rfl⟩ PySem.F.entry_list_count (PySem.F.args_list_count_2 _ _)
        (SeqAt.list_countAt a its.toArray n dd sls uy (fun u => PyData.eqv (SeqAt.readOf s.heap u) d)) ⟨ho, SeqAt.items_eqAt (vs := its.toArray) (show ReadsAll s.heap its.toArray.toList ds as from h4) r1 hxs (SeqAt.canLay_of_shaped sd) hroom, ?_⟩
      have e : its.toArray.toList.countP (fun u => PyData.eqv (SeqAt.readOf s.heap u) d) = ds.countP fun z => PyData.eqv z d := by
        rw [← hmap, List.countP_map]
        rfl
      refine ⟨.int (ds.countP fun z => PyData.eqv z d : Nat), H, I.tok _, ⟨s.toks, ?_⟩, q⟩
      show Value.int ((its.toArray.toList.countP (fun u => PyData.eqv (SeqAt.readOf s.heap u) d) : Nat) : Int) s.toks = _
      rw [e]
/-- isinstance(e, c), e the exception that the suite holds, of the class at D, its dict at dd -/
def rIsED (K : PySem.W.Frag) (D a dd : Addr) : List V → Hp → VK → Prop := fun xs H Q => ∃ (c : V) (cv : Value) (b : Bool) (fs : List (Str × V)), xs = [.ref a, c] ∧ (∀ u, RelV c u → u = cv) ∧ PySem.W.kitOne K (.ref D) cv = some b ∧ H dd = some (.xd fs) ∧ Q (.bl b) H
theorem call_isED {X : Cx} {a D dd : Addr} {oe : Obj} {cls : Value} {d : Option Addr} {pn : List (Addr × Obj)} (C : ExcC X.K D) (hz : Zc cls d oe) (hcls : cls = .ref D) (hdd : d = some dd) (hf : ∃ vs, oe.data = .fields vs) : CallR (X.suite a ((a, oe) :: pn)) (.builtin "isinstance") (rIsED X.K D a dd) := by
  intro pins s σ H xs us Q I r h
  obtain ⟨c, cv, b, fs, rfl, hcv, e, hd, q⟩ := h
  subst hcls
  subst hdd
  cases r with
  | cons rx rr =>
    cases rr with
    | cons rt rr =>
      cases rr
      cases rx
      have ec := hcv _ rt
      subst ec
      obtain ⟨hget, _⟩ := I.pin (a, oe) (List.mem_append.mpr (.inl List.mem_cons_self))
      obtain ⟨vs, hv⟩ := hf
      have hx : ObjOk X.prog X.w H s.heap dd (.xd fs) := I.hok dd _ hd
      obtain ⟨mA, hns, hr⟩ := hx
      obtain ⟨od, ho, hl⟩ := lookIn_ns hns
      have J : PySem.W.InstAt s.heap a oe D (some od) := ⟨hget, hz.1, by unfold PySem.W.notCls; rw [hv] <;> rfl, by rw [hz.2]; exact ho⟩
      have hcl : (PySem.W.clsIn X.K D).isSome = true := by
        obtain ⟨cd, hc, _⟩ := PySem.W.any_some C.hd
        rw [hc]
        rfl
      exact PySem.W.kia_one (PySem.W.kitx_exc hcl C.hg C.hk C.hs C.ha C.hn C.ht C.hm) I.kIn J e (fun z => nomatch z) fun tk => ⟨.bl b, H, I.kept (t' := tk) fun _ _ z => z, rfl, q⟩
def rIsEx (K : PySem.W.Frag) (D a : Addr) (cls : Value) (d : Option Addr) : List V → Hp → VK → Prop := fun xs H Q => cls = .ref D ∧ ∃ dd, d = some dd ∧ rIsED K D a dd xs H Q
theorem call_isEx {X : Cx} {a D : Addr} {oe : Obj} {cls : Value} {d : Option Addr} {pn : List (Addr × Obj)} (C : ExcC X.K D) (hz : Zc cls d oe) (hf : ∃ vs, oe.data = .fields vs) : CallR (X.suite a ((a, oe) :: pn)) (.builtin "isinstance") (rIsEx X.K D a cls d) := by
  intro pins s σ H xs us Q I r h
  obtain ⟨hc, dd, hd, h⟩ := h
  exact call_isED C hz hc hd hf pins s σ H xs us Q I r h
end Pd

/-! MthX -/
set_option Elab.async false
set_option linter.all false
set_option maxRecDepth 100000
set_option maxHeartbeats 4000000
/-! methods that may raise; a method called with keywords; raising an own exception with its own __init__ -/
namespace Pd
open PySem PySem.Spec PyProof.Rows L2
section
variable {X : Cx} {k : Nat} {C : Addr} {m x : Str} {ps : List Str} {dvs : List V} {sp : Sp} {o e : Expr} {es : List Expr} {ta : TE} {t : TA} {pos apos p : Pos} {E : XK}
theorem pe_bmethX {pl : Sem Bool} (G : MethS X.prog X.w X.K X.mg X.base (L2.CX X.prog X.w) k C m ps dvs sp) (c : Cls X.K C) (hr : Room k X.A) (hx : Passes (L2.CX X.prog X.w) X E) (he : PE X o ta) (ha : PA X (e :: es) t)
    (hst : starEach (e :: es) X.env = (false, eval e X.env) :: starEach es X.env := by rfl) (hpl : (backTo pos (starEach es X.env)).any (·.1) = false := by rfl)
    (ht : eval (.Call (.Attribute o m apos) (e :: es) [] pos) X.env = (do
      let ov ← eval o X.env
      standAt apos.atName
      let (f, first) ← holding [ov] (getMethod ov m pl)
      callWith pos f first (backTo pos (starEach (e :: es) X.env)) (backToKw pos (keywordEach [] X.env))) := by rfl) :
    PE X (.Call (.Attribute o m apos) (e :: es) [] pos) (tMeth C m sp dvs E ta t) := by
  obtain ⟨f, fd, ds, h1, h2, h3, h4⟩ := G
  exact pe_meth (pl := pl) he c h1 h4 hr h2 h3 hx ha hst hpl ht
end
/-- a method that may raise, its exceptions wished for at the caller's slots -/
def tMethS (C : Addr) (m : Str) (sp : Sp) (dvs : List V) (E : L2.St → XK) (ta : TE) (t : TA) : TE := fun σ H Q => ta σ H fun x H1 => ∃ a dx fs, x = .ref a ∧ H1 a = some (.ins C dx fs) ∧ fs.lookup m = none ∧
  t σ H1 fun vs H2 => sp (x :: (vs ++ dvs)) H2 Q (E σ)
section
variable {X : Cx} {k : Nat} {C : Addr} {m x : Str} {ps : List Str} {dvs : List V} {sp : Sp} {o e : Expr} {es : List Expr} {ta : TE} {t : TA} {pos apos p : Pos} {E : L2.St → XK}
theorem pe_bmethS {pl : Sem Bool} (G : MethS X.prog X.w X.K X.mg X.base (L2.CX X.prog X.w) k C m ps dvs sp) (c : Cls X.K C) (hr : Room k X.A) (hx : ∀ σ, PassesAt (L2.CX X.prog X.w) X σ (E σ)) (he : PE X o ta) (ha : PA X (e :: es) t)
    (hst : starEach (e :: es) X.env = (false, eval e X.env) :: starEach es X.env := by rfl) (hpl : (backTo pos (starEach es X.env)).any (·.1) = false := by rfl)
    (ht : eval (.Call (.Attribute o m apos) (e :: es) [] pos) X.env = (do
      let ov ← eval o X.env
      standAt apos.atName
      let (f, first) ← holding [ov] (getMethod ov m pl)
      callWith pos f first (backTo pos (starEach (e :: es) X.env)) (backToKw pos (keywordEach [] X.env))) := by rfl) :
    PE X (.Call (.Attribute o m apos) (e :: es) [] pos) (tMethS C m sp dvs E ta t) := by
  obtain ⟨f, fd, ds, h1, h2, h3, h4⟩ := G
  refine ⟨fun pins s σ H Q I h => ?_⟩
  refine PySem.W.methodCall_KW (pl := pl) (thn (he.run pins s σ H _ I h) fun u s1 ⟨x, H1, I1, rx, a, dx, fs, ex, ea, l, q⟩ => ?_) ht
  subst ex
  obtain rfl : u = Value.ref a := rx
  refine getmeth_ok I1 ea c h1 l ?_
  refine PySem.W.callWith_K (first := [.ref a]) (h₀ := X.base) I.ok.mod.kin h1.kp (thn (ha.run pos pins s1 σ H1 _ I1 q) fun us s2 ⟨vs, H2, I2, r, q2⟩ => ⟨I2.kIn, ?_⟩) hst hpl
  exact run_fnSD (us := .ref a :: us) (vs := .ref a :: vs) h4 hr h2 h3 (hx σ) I2 (.cons rfl r) q2
end
/-- a method called with keywords -/
structure MethK (P : Program) (w : World) (K : PySem.W.Frag) (mg : Str → Option Value) (base : Heap) (CX : CXT) (k : Nat) (C : Addr) (m : Str) (ps : List Str) (n : Nat) (ks : List Str) (gV : List V → List V → List V) (sp : Sp) : Prop where
  ex : ∃ f fd g, Meth K C m f ∧ KBn K fd ps n ks g gV ∧ FnOk P w K mg base CX k f fd ps sp
def tMethN (C : Addr) (m : Str) (n l : Nat) (sp : Sp) (gV : List V → List V → List V) (E : XK) (ta : TE) (t tk : TA) : TE := fun σ H Q => ta σ H fun x H1 => ∃ a dx fs, x = .ref a ∧ H1 a = some (.ins C dx fs) ∧ fs.lookup m = none ∧
  t σ H1 fun vs H2 => tk σ H2 fun zs H3 => vs.length + 1 = n ∧ zs.length = l ∧ sp (gV (x :: vs) zs) H3 Q E
section
variable {X : Cx} {CX : CXT} {k n : Nat} {C : Addr} {m : Str} {ps ks : List Str} {gV : List V → List V → List V} {sp : Sp} {o e : Expr} {es : List Expr} {kws : List Keyword} {ta : TE} {t tk : TA} {pos apos : Pos} {E : XK}
theorem pe_bmethN {pl : Sem Bool} (G : MethK X.prog X.w X.K X.mg X.base CX k C m ps n ks gV sp) (c : Cls X.K C) (hr : Room k X.A) (hx : Passes CX X E) (he : PE X o ta) (ha : PA X (e :: es) t) (hkw : PK X kws tk)
    (hall : (backToKw pos (keywordEach kws X.env)).all (·.1.isSome) = true := by rfl) (hks : (backToKw pos (keywordEach kws X.env)).filterMap (·.1) = ks := by rfl)
    (hst : starEach (e :: es) X.env = (false, eval e X.env) :: starEach es X.env := by rfl)
    (hpl : ((backTo pos (starEach (e :: es) X.env)).any (·.1) || (backToKw pos (keywordEach kws X.env)).any (·.1.isNone)) = false := by rfl)
    (ht : eval (.Call (.Attribute o m apos) (e :: es) kws pos) X.env = (do
      let ov ← eval o X.env
      standAt apos.atName
      let (f, first) ← holding [ov] (getMethod ov m pl)
      callWith pos f first (backTo pos (starEach (e :: es) X.env)) (backToKw pos (keywordEach kws X.env))) := by rfl) :
    PE X (.Call (.Attribute o m apos) (e :: es) kws pos) (tMethN C m n ks.length sp gV E ta t tk) := by
  obtain ⟨f, fd, g, hm, hb, F⟩ := G.ex
  refine ⟨fun pins s σ H Q I h => ?_⟩
  refine PySem.W.methodCall_KW (pl := pl) (thn (he.run pins s σ H _ I h) fun u s1 ⟨x, H1, I1, rx, a, dx, fs, ex, ea, l, q⟩ => ?_) ht
  subst ex
  obtain rfl : u = Value.ref a := rx
  refine getmeth_ok I1 ea c hm l ?_
  refine PySem.W.callWith_KW (first := [.ref a]) (h₀ := X.base) I.ok.mod.kin hm.kp hall (thn (ha.run pos pins s1 σ H1 _ I1 q) fun us s2 ⟨vs, H2, I2, r, q2⟩ => ?_) hpl hst
  refine thn (hkw.run pos pins s2 σ H2 _ I2 q2) fun ws s3 ⟨zs, H3, I3, rz, l1, l2, q3⟩ => ⟨I3.kIn, ?_⟩
  rw [hks]
  exact run_fnN (us := .ref a :: us) (vs := .ref a :: vs) F hr hb hx I3 (.cons rfl r) rz l1 l2 q3
end
/-- an own exception class with its own __init__ -/
structure ExS (P : Program) (w : World) (K : PySem.W.Frag) (mg : Str → Option Value) (base : Heap) (nm : Str) (C : Addr) (ps : List Str) (spI : Sp) : Prop where
  T : OexC K C
  fn : ∃ fI fdI, PySem.W.findIn K (.ref C) "__init__" = some (some (.ref fI)) ∧ PySem.W.typeIn K (.ref fI) = some (.type "function") ∧ FnOk P w K mg base CX0 1 fI fdI ps spI ∧ Binds K fdI ps []
  m : mg nm = some (.ref C)
/-- raise nm(..) -/
def tRaiseX (C : Addr) (spI : Sp) (E : XK) (ta : TA) : TS := fun _ σ H => tMkO C spI [] ta σ H E
theorem ps_raiseX {X : Cx} {k : Nat} {C : Addr} {nm : Str} {psI : List Str} {spI : Sp} {E : XK} {e : Expr} {es : List Expr} {ta : TA} {p pos pos2 : Pos} (B : ExS X.prog X.w X.K X.mg X.base nm C psI spI) (tk : Takes X (fun cls d _ H => E cls d H)) (hr : Room k X.A) (ha : PA X (e :: es) ta)
    (hdb : (nm == ("__debug__" : Str)) = false := by decide) (hk : 2 ≤ k := by decide) (hc : X.calm = true := by rfl) (hg : Gl X nm := by rfl) (he : starEach (e :: es) X.env = (false, eval e X.env) :: starEach es X.env := by rfl) (hpl : (backTo pos (starEach es X.env)).any (·.1) = false := by rfl) :
    PS X (.Raise (some (.Call (.Name nm p) (e :: es) [] pos)) none pos2) (tRaiseX C spI E ta) := by
  obtain ⟨fI, fdI, iC, tI, F, b⟩ := B.fn
  exact ps_raise hc tk (pmk_oex B.T iC tI F (hr.mono hk) b .nil pass0 hg B.m ha hdb he hpl)
end Pd

/-! InitX -/
set_option Elab.async false
set_option linter.all false
set_option maxRecDepth 100000
set_option maxHeartbeats 4000000
/-! what the __init__s of BadStep and Halted promise -/
namespace Pd
open PySem PySem.Spec PyProof.Rows L2
def initOkS (i : Int) : Bool := decide (i.natAbs.log2 < 1920) && decide ((Str.empty ++ Str.ofString "step ").length ≤ sizeLine) && decide ((Str.empty ++ Str.ofString "step " ++ Str.ofString (toString i)).length ≤ sizeLine) && decide ((Str.empty ++ Str.ofString "step " ++ Str.ofString (toString i) ++ Str.ofString " can't be").length ≤ sizeLine)
def initT0 (i : Int) : Str := Str.empty ++ Str.ofString "step " ++ Str.ofString (toString i) ++ Str.ofString " of the batch can't be, "
def initOkT (i j : Int) : Bool := decide (i.natAbs.log2 < 1920) && decide (j.natAbs.log2 < 1920) && decide ((Str.empty ++ Str.ofString "step ").length ≤ sizeLine) && decide ((Str.empty ++ Str.ofString "step " ++ Str.ofString (toString i)).length ≤ sizeLine) && decide ((initT0 i).length ≤ sizeLine) && decide ((initT0 i ++ Str.ofString (toString j)).length ≤ sizeLine) && decide ((initT0 i ++ Str.ofString (toString j) ++ Str.ofString " stand").length ≤ sizeLine)
theorem initOkS_lt : ∀ n : Nat, n < 32 → initOkS (n : Int) = true := by decide +kernel
theorem initOkT_lt : ∀ n : Nat, n < 16 → ∀ m : Nat, m < 16 → initOkT (n : Int) (m : Int) = true := by decide +kernel
def sp_initS (C : Addr) : Sp := fun vs H Q E => ∃ (a : Addr) (i : Int), vs = [.ref a, .int i] ∧ initOkS i = true ∧ H a = some (exo a C none) ∧ ∀ dx, H dx = none → dx ≠ a → Q .non (upd (upd H dx (exd dx [("number", .int i)])) a (exo a C (some dx)))
def sp_initT (C : Addr) : Sp := fun vs H Q E => ∃ (a : Addr) (i j : Int), vs = [.ref a, .int i, .int j] ∧ initOkT i j = true ∧ H a = some (exo a C none) ∧ ∀ dx, H dx = none → dx ≠ a → Q .non (upd (upd (upd H dx (exd dx [("number", .int i)])) a (exo a C (some dx))) dx (exd dx [("done", .int j), ("number", .int i)]))
/-- a raise, once its arguments are known -/
theorem raise_1 {C : Addr} {H : Hp} {E : XK} {i : Int} (hi : initOkS i = true) (k : ∀ dx, H dx = none → E (.ref C) (some dx) (upd H dx (.xd [("number", .int i)]))) : ∀ a, H a = none → sp_initS C (.ref a :: ([.int i] ++ [])) (upd H a (exo a C none))
    (fun v H2 => v = .non ∧ ∃ (d : Addr) (fs : List (Str × V)), H2 a = some (exo a C (some d)) ∧ H2 d = some (exd d fs) ∧ H d = none ∧ E (.ref C) (some d) (upd (del H2 a) d (.xd fs))) (fun _ _ _ => False) := fun a ha => by
  refine ⟨a, i, rfl, hi, upd_same, fun dx hdx hne => ⟨rfl, dx, [("number", .int i)], upd_same, ?_, ?_, ?_⟩⟩
  · rw [upd_ne hne, upd_same]
  · rw [upd_ne hne] at hdx
    exact hdx
  · rw [upd_ne hne] at hdx
    have e : upd (del (upd (upd (upd H a (exo a C none)) dx (exd dx [("number", .int i)])) a (exo a C (some dx))) a) dx (.xd [("number", .int i)]) = upd H dx (.xd [("number", .int i)]) := by
      funext b
      by_cases hb : b = dx
      · subst hb
        rw [upd_same, upd_same]
      · rw [upd_ne hb, upd_ne hb]
        unfold del
        by_cases hba : b = a
        · subst hba
          rw [if_pos rfl, ha]
        · rw [if_neg hba, upd_ne hba, upd_ne hb, upd_ne hba]
    rw [e]
    exact k dx hdx
theorem raise_2 {C : Addr} {H : Hp} {E : XK} {i j : Int} (hi : initOkT i j = true) (k : ∀ dx, H dx = none → E (.ref C) (some dx) (upd H dx (.xd [("done", .int j), ("number", .int i)]))) : ∀ a, H a = none → sp_initT C (.ref a :: ([.int i, .int j] ++ [])) (upd H a (exo a C none))
    (fun v H2 => v = .non ∧ ∃ (d : Addr) (fs : List (Str × V)), H2 a = some (exo a C (some d)) ∧ H2 d = some (exd d fs) ∧ H d = none ∧ E (.ref C) (some d) (upd (del H2 a) d (.xd fs))) (fun _ _ _ => False) := fun a ha => by
  refine ⟨a, i, j, rfl, hi, upd_same, fun dx hdx hne => ⟨rfl, dx, [("done", .int j), ("number", .int i)], ?_, upd_same, ?_, ?_⟩⟩
  · rw [upd_ne (Ne.symm hne), upd_same]
  · rw [upd_ne hne] at hdx
    exact hdx
  · rw [upd_ne hne] at hdx
    have e : upd (del (upd (upd (upd (upd H a (exo a C none)) dx (exd dx [("number", .int i)])) a (exo a C (some dx))) dx (exd dx [("done", .int j), ("number", .int i)])) a) dx (.xd [("done", .int j), ("number", .int i)]) = upd H dx (.xd [("done", .int j), ("number", .int i)]) := by
      funext b
      by_cases hb : b = dx
      · subst hb
        rw [upd_same, upd_same]
      · rw [upd_ne hb, upd_ne hb]
        unfold del
        by_cases hba : b = a
        · subst hba
          rw [if_pos rfl, ha]
        · rw [if_neg hba, upd_ne hb, upd_ne hba, upd_ne hb, upd_ne hba]
    rw [e]
    exact k dx hdx
end Pd

/-! ExPl -/
set_option Elab.async false
set_option linter.all false
set_option maxRecDepth 100000
set_option maxHeartbeats 4000000
/-! raising an own exception class without an own __init__; sorted(d) -/
namespace Pd
open PySem PySem.Spec PyProof.Rows L2
abbrev bmVE : List Value := [.type "ValueError", .type "Exception", .type "BaseException", .type "object"]
/-- an own exception class without __init__, below ValueError -/
structure ExP (K : PySem.W.Frag) (mg : Str → Option Value) (nm : Str) (C : Addr) : Prop where
  q : PySem.W.excIn K C bmVE "ValueError.__new__" = true
  m : mg nm = some (.ref C)
  kp : PySem.W.keepIn K (.ref C) = true
  sub : PySem.W.subIn K (.ref C) (.type "BaseException") = some true
  ty : PySem.W.typeIn K (.ref C) = some (.type "type")
/-- raise nm(e) -/
def tRaiseP (C : Addr) (E : XK) (ta : TE) : TS := fun _ σ H => ta σ H fun _ H1 => E (.ref C) none H1
theorem ExP.ps {X : Cx} {C : Addr} {nm : Str} {E : XK} {e : Expr} {ta : TE} {p pos pos2 : Pos} (B : ExP X.K X.mg nm C) (tk : Takes X (fun cls d _ H => E cls d H)) (hg : Gl X nm) (he : PE X e ta)
    (hs : starEach [e] X.env = (false, eval e X.env) :: starEach [] X.env := by rfl) (hdb : (nm == ("__debug__" : Str)) = false := by decide) (hc : X.calm = true := by rfl) : PS X (.Raise (some (.Call (.Name nm p) [e] [] pos)) none pos2) (tRaiseP C E ta) :=
  ps_raise hc tk (SkE.pmk_own1 PySem.F.excBase_ValueError B.q B.m B.kp (raises_own B.sub B.ty) hg he hs hdb)
/-- f'..' -/
def tJoin (ts : List TE) : TE := fun σ H Q => tJs ts Str.empty σ H fun out H1 => Q (.str out) H1
theorem pe_globS {X : Cx} {x : Str} {z : Str} {p : Pos} (hg : Gl X x) (hm : ∃ t, X.mg x = some (.str z t)) (hdb : (x == ("__debug__" : Str)) = false := by decide) : PE X (.Name x p) (tC (.str z)) := by
  obtain ⟨t, h⟩ := hm
  exact pe_glob hg h ⟨t, rfl⟩ hdb
def rMaxI : List V → Hp → VK → Prop := fun xs H Q => ∃ i j, xs = [.int i, .int j] ∧ Q (.int (if j > i then j else i)) H
def rSortedDK : List V → Hp → VK → Prop := fun xs H Q => ∃ (a : Addr) (kvs : List (Key × V)) (ks : List Str), xs = [.ref a] ∧ Rd H a (.dK kvs) ∧ kvs.map (·.1) = ks.map Sum.inr ∧ ks.length < 64 ∧
    ∀ ys p, ys.Perm ks → sortedS ys = true → H p = none → Q (.ref p) (upd H p (.lst (ys.map V.str)))
theorem call_sortedDK {X : Cx} (hcalm : X.calm = true) : CallR X (.builtin "sorted") rSortedDK := call_sortedD hcalm
end Pd

/-! RdB14 -/
set_option Elab.async false
set_option linter.all false
set_option maxRecDepth 100000
set_option maxHeartbeats 4000000
namespace Pd
open PySem PySem.Spec PyProof.Rows L2
def rd_step_tried (K : PySem.W.Frag) (sp_is_step : Sp) (sp_step_done : Sp) : TS := (tSeq (tIfS (tNot (tB (tCallD sp_is_step (tCons (tOp (rIx K) (tVar 1) (tC (.int 0))) (tCons (tVar 2) tNil))))) (tRet (tC .non)) tNext) (tRet (tCallD sp_step_done (tCons (tVar 0) (tCons (tVar 1) (tCons (tVar 2) tNil))))))
def rd_is_name (K : PySem.W.Frag) : TS := (tSeq (tIfS (tOr (tNot (tB (tCB (rIsi K) (tCons (tVar 0) (tCons (tC (.ty "str")) tNil))))) (tNot (tTest (tChain rLeI rLeI (tC (.int 1)) (tCB (rLenX K) (tCons (tVar 0) tNil)) (tC (.int 8)))))) (tRet (tC (.bl false))) tNext) (tRet (tCB (rAll K) (tCons (tLc (iStr (tVar 0)) (gName 1) tYes (tOp (rInX K false) (tVar 1) (tC (.str "abcdefghijklmnopqrstuvwxyz"))) [1]) tNil))))
def rd_B_init (K : PySem.W.Frag) (sp_check_start : Sp) (sp_first_standing : Sp) : TS := (tSeq (tDrop (tCallD sp_check_start (tCons (tVar 1) (tCons (tVar 2) tNil)))) (tSeq (sFld K (tVar 0) (tVar 1) "_hall") (tSeq (sFld K (tVar 0) (tCallD sp_first_standing (tCons (tVar 1) (tCons (tVar 2) tNil))) "_now") (tSeq (sFld K (tVar 0) (tLst tNil) "_trail") (tSeq (sFld K (tVar 0) tDNewK "_points") (tSeq (sFld K (tVar 0) (tLst tNil) "_batches") (sFld K (tVar 0) (tC (.bl true)) "_idle")))))))
def rd_B_step (K : PySem.W.Frag) (C : Addr) (CS CN CP : Addr) (E : XK) (sp_B_moved : Sp) : TS := (tSeq (tIfS (tNot (tB (tMeth C "_moved" sp_B_moved [] E0 (tVar 0) (tCons (tVar 1) tNil)))) (tRaiseX CS (sp_initS CS) E (tCons (tC (.int 0)) tNil)) tNext) (tRet (tOp (rIx K) (tOp (rIx K) (tFld K (tVar 0) "_trail") (tUn rNegI (tC (.int 1)))) (tC (.int 1)))))
def rd_B_may (K : PySem.W.Frag) (sp_moves_from : Sp) : TS := (tRet (tLc (iList K (tCallD sp_moves_from (tCons (tFld K (tVar 0) "_hall") (tCons (tFld K (tVar 0) "_now") tNil)))) (gName 1) tYes (tOp (rIx K) (tVar 1) (tC (.int 0))) [1]))
def rd_B_standing (K : PySem.W.Frag) : TS := (tRet (tFld K (tVar 0) "_now"))
def rd_B_back (K : PySem.W.Frag) : TS := (tSeq (tIfS (tTest (tOp (rEqD K) (tCB (rLenX K) (tCons (tFld K (tVar 0) "_trail") tNil)) (tC (.int 0)))) (tRet (tC (.bl false))) tNext) (tSeq (sFld K (tVar 0) (tOp (rIx K) (tBM0 K "list" rPop (tFld K (tVar 0) "_trail")) (tC (.int 2))) "_now") (tRet (tC (.bl true)))))
def rd_B_steps (K : PySem.W.Frag) : TS := (tRet (tLc (iList K (tFld K (tVar 0) "_trail")) (gTup K 3 (gCons (gName 1) (gCons (gName 2) (gCons (gName 3) gNil)))) tYes (tTup (tCons (tVar 1) (tCons (tVar 2) tNil))) [1, 2, 3]))
def rd_B_mark (K : PySem.W.Frag) (CS CN CP : Addr) (E : XK) (sp_is_name : Sp) : TS := (tSeq (tIfS (tNot (tB (tCallD sp_is_name (tCons (tVar 1) tNil)))) (tRaiseP CN E (tJoin [(tC (.str "a name has one to ")), (tFmt (tC (.int 8))), (tC (.str " letters a to z"))])) tNext) (sDPut (tFld K (tVar 0) "_points") (tVar 1) (tTup (tCons (tFld K (tVar 0) "_now") (tCons (tCB (rListX K) (tCons (tFld K (tVar 0) "_trail") tNil)) tNil)))))
def rd_B_go (K : PySem.W.Frag) (CS CN CP : Addr) (E : XK) : TS := (tSeq (tIfS (tOr (tNot (tB (tCB (rIsi K) (tCons (tVar 1) (tCons (tC (.ty "str")) tNil))))) (tB (tDNotIn (tVar 1) (tFld K (tVar 0) "_points")))) (tRaiseP CP E (tC (.str "nothing is marked by this name"))) tNext) (tSeq (tAsg (tDGet (tFld K (tVar 0) "_points") (tVar 1)) (gTup K 2 (gCons (gName 2) (gCons (gName 3) gNil)))) (tSeq (sFld K (tVar 0) (tVar 2) "_now") (sFld K (tVar 0) (tCB (rListX K) (tCons (tVar 3) tNil)) "_trail"))))
def rd_B_marks (K : PySem.W.Frag) : TS := (tRet (tLc (iList K (tCB rSortedDK (tCons (tFld K (tVar 0) "_points") tNil))) (gName 1) tYes (tTup (tCons (tVar 1) (tCons (tOp (rIx K) (tDGet (tFld K (tVar 0) "_points") (tVar 1)) (tC (.int 0))) tNil))) [1]))
def rd_B_moved (K : PySem.W.Frag) (sp_step_tried : Sp) : TS := (tSeq (tAsg (tCallD sp_step_tried (tCons (tFld K (tVar 0) "_hall") (tCons (tFld K (tVar 0) "_now") (tCons (tVar 1) tNil)))) (gName 2)) (tSeq (tIfS (tTest (tOp rIsN (tVar 2) (tC .non))) (tRet (tC (.bl false))) tNext) (tSeq (tDrop (tBM K "list" rAppend (tFld K (tVar 0) "_trail") (tCons (tTup (tCons (tVar 1) (tCons (tOp (rIx K) (tVar 2) (tC (.int 1))) (tCons (tFld K (tVar 0) "_now") tNil)))) tNil))) (tSeq (sFld K (tVar 0) (tOp (rIx K) (tVar 2) (tC (.int 0))) "_now") (tRet (tC (.bl true)))))))
end Pd

/-! RdL14 -/
set_option Elab.async false
set_option linter.all false
set_option maxRecDepth 100000
set_option maxHeartbeats 4000000
namespace Pd
open PySem PySem.Spec PyProof.Rows L2
def rd_L_stands (K : PySem.W.Frag) (C : Addr) (sp_L_alike : Sp) (sp_L_steps : Sp) (sp_B_marks : Sp) (sp_B_may : Sp) (sp_B_standing : Sp) (sp_B_steps : Sp) : TS := (tSeq (tAsg (tLst (tCons (tMeth C "standing" sp_B_standing [] E0 (tVar 0) tNil) (tCons (tMeth C "steps" sp_B_steps [] E0 (tVar 0) tNil) (tCons (tMeth C "may" sp_B_may [] E0 (tVar 0) tNil) (tCons (tMeth C "marks" sp_B_marks [] E0 (tVar 0) tNil) tNil))))) (gName 5)) (tSeq (tAsg (tLst (tCons (tVar 2) (tCons (tVar 3) (tCons (tLc (iList K (tCallD sp_L_steps (tCons (tVar 1) (tCons (tVar 2) tNil)))) (gName 8) tYes (tOp (rIx K) (tVar 8) (tC (.int 0))) [8]) (tCons (tLc (iList K (tCB rSortedDK (tCons (tVar 4) tNil))) (gName 9) tYes (tTup (tCons (tVar 9) (tCons (tOp (rIx K) (tDGet (tVar 4) (tVar 9)) (tC (.int 0))) tNil))) [9]) tNil))))) (gName 6)) (tSeq (tIfS (tNot (tB (tCallD sp_L_alike (tCons (tVar 5) (tCons (tVar 6) tNil))))) (tRet (tC (.bl false))) tNext) (tSeq (tFor (iList K (tSl (rSlX K) (tVar 5) (tPart (tC (.int 1))) tNoPart)) (gName 7) (tDrop (tBM K "list" rAppend (tVar 7) (tCons (tC (.int 5)) tNil)))) (tRet (tC (.bl true)))))))
def rd_L_any_step (K : PySem.W.Frag) (sp_L_steps : Sp) (sp_L_taken : Sp) : TS := (tSeq (tAsg (tLc (iList K (tCallD sp_L_steps (tCons (tVar 1) (tCons (tVar 2) tNil)))) (gName 6) tYes (tOp (rIx K) (tVar 6) (tC (.int 0))) [6]) (gName 4)) (tSeq (tAsg (tTup (tCons (tCallD sp_L_taken (tCons (tVar 0) (tCons (tCB (rLenX K) (tCons (tOp (rIx K) (tVar 2) (tC (.int 0))) tNil)) tNil))) (tCons (tOp (rIx K) (tC (.str "ensw")) (tCallD sp_L_taken (tCons (tVar 0) (tCons (tC (.int 4)) tNil)))) tNil))) (gName 5)) (tRet (tIf (tAnd (tTest (tOp (rNeD K) (tVar 4) (tLst tNil))) (tTest (tOp rLtI (tVar 3) (tC (.int 4))))) (tOp (rIx K) (tVar 4) (tCallD sp_L_taken (tCons (tVar 0) (tCons (tCB (rLenX K) (tCons (tVar 4) tNil)) tNil)))) (tVar 5)))))
def rd_L_refuses (K : PySem.W.Frag) (tLW3 tLW4 tLW5 : TE) (sp_L_taken : Sp) : TS := (tSeq (tAsg (tOp (rIx K) (tLst (tCons (tC (.str "")) (tCons (tC (.str "A")) (tCons (tC (.str "abcdefghi")) (tCons (tC (.str "a b")) (tCons (tC (.int 5)) (tCons (tC .non) (tCons (tC (.bl true)) (tCons (tTup (tCons (tC (.str "a")) tNil)) tNil))))))))) (tCallD sp_L_taken (tCons (tVar 0) (tCons (tC (.int 8)) tNil)))) (gName 3)) (tSeq (tAsg (tLst (tCons tLW3 (tCons tLW4 tNil))) (gName 2)) (tSeq (tAsg (tOp (rIx K) (tLst (tCons (tLst (tCons (tC (.int 0)) (tCons (tC (.str "e")) tNil))) (tCons (tTup (tCons (tC (.int 0)) (tCons (tC (.str "x")) tNil))) (tCons (tC .non) (tCons (tTup (tCons (tC (.int 9)) (tCons (tC (.str "e")) tNil))) tNil))))) (tCallD sp_L_taken (tCons (tVar 0) (tCons (tC (.int 4)) tNil)))) (gName 4)) (tRet (tOp (rEqD K) (tOp (rAddX K) (tVar 2) (tLst (tCons tLW5 tNil))) (tLst (tCons (tTup (tCons (tC (.str "name")) tNil)) (tCons (tTup (tCons (tC (.str "point")) tNil)) (tCons (tTup (tCons (tC (.str "step")) (tCons (tC (.int 0)) tNil))) tNil)))))))))
def rd_law (K : PySem.W.Frag) (C : Addr) (tLW1 tLW2 : TE) (sp_L_alike : Sp) (sp_L_any_step : Sp) (sp_L_begin : Sp) (sp_L_cells : Sp) (sp_L_hall : Sp) (sp_L_refuses : Sp) (sp_L_stands : Sp) (sp_L_step : Sp) (sp_L_taken : Sp) (sp_B_init : Sp) (sp_B_back : Sp) (sp_B_mark : Sp) (sp_B_step : Sp) : TS := (tSeq (tAsg (tLst (tCons (tVar 0) (tCons (tC (.int 0)) (tCons (tC (.int 0)) (tCons (tC (.int 0)) tNil))))) (gName 1)) (tSeq (tAsg (tCallD sp_L_hall (tCons (tVar 1) (tCons (tC (.int 5)) (tCons (tC (.int 6)) tNil)))) (gName 2)) (tSeq (tAsg (tCallD sp_L_cells (tCons (tVar 1) (tCons (tVar 2) (tCons (tC (.int 3)) tNil)))) (gName 3)) (tSeq (tAsg (tTup (tCons (tMake C sp_B_init [] E0 (tCons (tVar 2) (tCons (tVar 3) tNil))) (tCons (tMake C sp_B_init [] E0 (tCons (tVar 2) (tCons (tVar 3) tNil))) (tCons (tCallD sp_L_begin (tCons (tVar 2) (tCons (tVar 3) tNil))) (tCons (tLst tNil) (tCons tDNewK tNil)))))) (gTup K 5 (gCons (gName 12) (gCons (gName 4) (gCons (gName 5) (gCons (gName 6) (gCons (gName 7) gNil))))))) (tSeq (tAsg (tLst (tCons (tVar 5) tNil)) (gName 8)) (tSeq (tFor (iRng1 (tCons (tCallD sp_L_taken (tCons (tVar 1) (tCons (tC (.int 31)) tNil))) tNil)) (gName 9) (tSeq (tAsg (tTup (tCons (tCallD sp_L_taken (tCons (tVar 1) (tCons (tC (.int 9)) tNil))) (tCons (tOp (rIx K) (tLst (tCons (tC (.str "a")) (tCons (tC (.str "b")) (tCons (tC (.str "abcdefgh")) (tCons (tC (.str "zz")) tNil))))) (tCallD sp_L_taken (tCons (tVar 1) (tCons (tC (.int 4)) tNil)))) tNil))) (gTup K 2 (gCons (gName 10) (gCons (gName 13) gNil)))) (tSeq (tIfS (tTest (tOp rLtI (tVar 10) (tC (.int 5)))) (tSeq (tAsg (tCallD sp_L_any_step (tCons (tVar 1) (tCons (tVar 2) (tCons (tVar 5) (tCons (tVar 10) tNil))))) (gName 14)) (tSeq (tAsg (tCallD sp_L_step (tCons (tVar 2) (tCons (tVar 5) (tCons (tVar 14) tNil)))) (gName 11)) (tSeq (tIfS (tAnd (tTest (tOp rIsN (tVar 11) (tC .non))) (tTest (tOp (rNeD K) tLW1 (tTup (tCons (tC (.str "step")) (tCons (tC (.int 0)) tNil)))))) (tRet (tC (.bl false))) tNext) (tIfS (tTest (tOp rNotN (tVar 11) (tC .non))) (tSeq (tIfS (tNot (tB (tCallD sp_L_alike (tCons (tLst (tCons (tMeth C "step" sp_B_step [] E0 (tVar 12) (tCons (tVar 14) tNil)) tNil)) (tCons (tLst (tCons (tOp (rIx K) (tVar 11) (tC (.int 1))) tNil)) tNil))))) (tRet (tC (.bl false))) tNext) (tPar3 5 6 8 (tCons (tOp (rIx K) (tVar 11) (tC (.int 0))) (tCons (tOp (rAddX K) (tVar 6) (tLst (tCons (tTup (tCons (tVar 14) (tCons (tOp (rIx K) (tVar 11) (tC (.int 1))) tNil))) tNil))) (tCons (tOp (rAddX K) (tVar 8) (tLst (tCons (tOp (rIx K) (tVar 11) (tC (.int 0))) tNil))) tNil))))) tNext)))) (tIfS (tTest (tOp (rEqD K) (tVar 10) (tC (.int 5)))) (tSeq (tIfS (tTest (tOp (rNeD K) (tMeth C "back" sp_B_back [] E0 (tVar 12) tNil) (tOp (rNeD K) (tVar 6) (tLst tNil)))) (tRet (tC (.bl false))) tNext) (tSeq (tPar 8 6 (tCons (tSl (rSlX K) (tVar 8) tNoPart (tPart (tCB rMaxI (tCons (tC (.int 1)) (tCons (tOp rSubI (tCB (rLenX K) (tCons (tVar 8) tNil)) (tC (.int 1))) tNil))))) (tCons (tSl (rSlX K) (tVar 6) tNoPart (tPart (tUn rNegI (tC (.int 1))))) tNil))) (tAsg (tOp (rIx K) (tVar 8) (tUn rNegI (tC (.int 1)))) (gName 5)))) (tIfS (tTest (tOp (rEqD K) (tVar 10) (tC (.int 6)))) (tSeq (tDrop (tMeth C "mark" sp_B_mark [] E0 (tVar 12) (tCons (tVar 13) tNil))) (sDPut (tVar 7) (tVar 13) (tTup (tCons (tVar 5) (tCons (tVar 6) (tCons (tVar 8) tNil)))))) (tIfS (tTest (tOp (rEqD K) (tVar 10) (tC (.int 7)))) (tSeq (tIfS (tTest (tOp (rNeD K) tLW2 (tIf (tB (tDIn (tVar 13) (tVar 7))) (tC .non) (tTup (tCons (tC (.str "point")) tNil))))) (tRet (tC (.bl false))) tNext) (tAsg (tDGet2 (tVar 7) (tVar 13) (tTup (tCons (tVar 5) (tCons (tVar 6) (tCons (tVar 8) tNil))))) (gTup K 3 (gCons (gName 5) (gCons (gName 6) (gCons (gName 8) gNil)))))) (tIfS (tNot (tB (tCallD sp_L_refuses (tCons (tVar 1) (tCons (tVar 12) tNil))))) (tRet (tC (.bl false))) tNext))))) (tIfS (tNot (tB (tCallD sp_L_stands (tCons (tVar 12) (tCons (tVar 2) (tCons (tVar 5) (tCons (tVar 6) (tCons (tVar 7) tNil)))))))) (tRet (tC (.bl false))) tNext)))) (tRet (tAndV (tCallD sp_L_stands (tCons (tVar 4) (tCons (tVar 2) (tCons (tCallD sp_L_begin (tCons (tVar 2) (tCons (tVar 3) tNil))) (tCons (tLst tNil) (tCons tDNewK tNil)))))) (tOp rIsB (tMeth C "back" sp_B_back [] E0 (tVar 4) tNil) (tC (.bl false)))))))))))
end Pd

/-! SemG0 -/
set_option Elab.async false
set_option linter.all false
set_option maxRecDepth 100000
set_option maxHeartbeats 4000000
namespace Pd
open PySem PySem.Spec PyProof.Rows L2 PySem.W
local macro_rules | `(tactic| walk_at "ed") => `(tactic| repeat' (first
  | with_reducible (first
    | exact ed_int | exact ed_str | exact ed_bl | exact ed_non
    | exact ea_nil | refine' ea_cons ?_ ?_
    | refine' ed_isi ?_ ?_ | refine' ed_isi2 ?_ ?_ ?_
    | refine' ed_andV ?_ (fun _ => ?_) | refine' ed_orV ?_ (fun _ => ?_) | refine' ed_notV ?_
    | refine' ed_chain ?_ ?_ ?_ (fun _ => ⟨?_, ?_⟩)
    | refine' ed_tup ?_ ?_ | refine' ed_lst ?_ ?_
    | refine' et_not ?_ | refine' et_and ?_ (fun _ => ?_) | refine' et_or ?_ (fun _ => ?_) | exact et_yes
    | refine' et_test ?_ | refine' et_B ?_
    | refine' ed_op ?_ ?_ ?_
    | refine' ed_cb ?_ ?_)
  | exact ed_var rfl
  | exact kit_tt | exact kit_ii | exact kit_ib | exact kit_ll | exact kit_lt | exact kit_tl
  | exact r2_addI | exact r2_subI | exact r2_lt | exact r2_le | exact r2_gt | exact r2_ge | exact r2_isN | exact r2_notN
  | exact rc_lenT | exact rc_lenL | exact rc_intB | exact rc_tupL
  | with_reducible (first | refine' r2_eq ?_ ?_ | refine' r2_ne ?_ ?_)
  | exact sh_int _ | exact sh_sg _ | exact sh_cell _ | exact sh_edge _ | exact sh_pair _ | exact sh_str _ (by decide +kernel)
  | exact r2_ixT rfl | exact r2_ixL rfl
  | refine' ed_tup ?_ ?_
  | (show List.length _ ≤ 100000; simp; done)))
/-! ### the law's own run: its parts -/
def CK1 (c : Cfg) (K : PySem.W.Frag) : Prop := c.r = 1 ∧ c.K = K
section
variable {K : PySem.W.Frag} {c : Cfg} {A : Nat → Addr} {σ : L2.St} {B H : Hp} {ρ ρ' : Rho} {os os' : OS} {te tb : TE} {ta : TA} {d : PyData}
theorem ei_callW1 {Pre : List PyData → Prop} {R : List PyData → PyData → Prop} {P' : List PyData → Prop} (hr : CK1 c K) (h : AI c ta ρ os P') (hp : ∀ ds, P' ds → Pre ds) : EI c (tCallD (spW K Pre R) (tCons (tVar 1) ta)) ρ os (fun d => ∃ ds, P' ds ∧ R ds d) := by
  obtain ⟨h0, rfl⟩ := hr
  have := ei_callW (R := R) h hp
  rw [h0] at this
  exact this
end
theorem nice_int (n : Nat) (i : Int) : Nice (n + 1) (.int i) := .inl (.inl ⟨i, rfl⟩)
theorem nice_sg (n : Nat) (w : Sg) : Nice (n + 1) (sg w) := .inl (.inr (.inl ⟨_, rfl, by cases w <;> decide +kernel⟩))
theorem nice_tup {n : Nat} {ds : List PyData} (hl : ds.length ≤ 100000) (h : ∀ x ∈ ds, Nice n x) : Nice (n + 1) (.tuple ds) := .inr ⟨ds, .inl rfl, hl, h⟩
theorem nice_lst {n : Nat} {ds : List PyData} (hl : ds.length ≤ 100000) (h : ∀ x ∈ ds, Nice n x) : Nice (n + 1) (.list ds) := .inr ⟨ds, .inr rfl, hl, h⟩
theorem nice_cell (n : Nat) (c : Cell) : Nice (n + 2) (cellD c) := nice_tup (by simp) fun x hx => by
  simp only [List.mem_cons, List.not_mem_nil, or_false] at hx
  rcases hx with rfl | rfl
  · exact nice_int n _
  · exact nice_int n _
theorem nice_hall (n : Nat) {h : Hall} (o : HallOk h) : Nice (n + 4) (hallD h) := nice_tup (by simp) fun x hx => by
  have nw := o.nwalls
  have nd := o.ndoors
  have ne : ∀ (m : Nat) (e : Edge), Nice (m + 2) (edgeD e) := fun m e => nice_tup (by simp) fun x hx => by
    simp only [List.mem_cons, List.not_mem_nil, or_false] at hx
    rcases hx with rfl | rfl | rfl
    · exact nice_int m _
    · exact nice_int m _
    · exact nice_sg m _
  simp only [List.mem_cons, List.not_mem_nil, or_false] at hx
  rcases hx with rfl | rfl | rfl | rfl
  · exact nice_int (n + 2) _
  · exact nice_int (n + 2) _
  · exact nice_tup (by rw [List.length_map]; omega) fun y hy => by
      obtain ⟨e, _, rfl⟩ := List.mem_map.mp hy
      exact ne n e
  · exact nice_tup (by rw [List.length_map]; omega) fun y hy => by
      obtain ⟨e, _, rfl⟩ := List.mem_map.mp hy
      exact ne n e
theorem nice_cells (n : Nat) {h : Hall} {cs : List Cell} (o : CellsOk h cs) : Nice (n + 3) (cellsD cs) := nice_tup (by have := o.most; rw [List.length_map]; omega) fun y hy => by
  obtain ⟨c, _, rfl⟩ := List.mem_map.mp hy
  exact nice_cell n c
theorem nice_step (n : Nat) (k : Int) (w : Sg) : Nice (n + 2) (stepD k w) := nice_tup (by simp) fun x hx => by
  simp only [List.mem_cons, List.not_mem_nil, or_false] at hx
  rcases hx with rfl | rfl
  · exact nice_int n k
  · exact nice_sg n w
theorem nice_opt (n : Nat) (o : Option Nat) : Nice (n + 1) (optN o) := by
  cases o with
  | none => exact .inl (.inr (.inr rfl))
  | some k => exact nice_int n _
theorem swung_ok {h : Hall} {ws : List Sg} {d : Nat} {w : Sg} {ws' : List Sg} (e : swung h ws d w = some ws') : ws' = ws.set d w := by
  unfold swung at e
  split at e
  · cases e
  · split at e
    · cases e
    · cases e
      rfl
theorem sok_done {h : Hall} {s : Stand} (o : SOk h s) {k : Nat} {w : Sg} (hk : k < s.cells.length) (hw : Way w) {p : Stand × Option Nat} (e : stepDone h s k w = some p) : SOk h p.1 ∧ p.1.cells.length = s.cells.length := by
  unfold stepDone at e
  rw [List.getElem?_eq_getElem hk] at e
  simp only at e
  split at e
  · cases e
  · rename_i hn
    have hin : inH h (nextC s.cells[k] w) = true := by
      cases q : inH h (nextC s.cells[k] w) with
      | true => rfl
      | false => exact absurd (.inl q) hn
    have hcells : ∀ c ∈ s.cells.set k (nextC s.cells[k] w), inH h c = true := fun c hc => by
      rcases List.mem_or_eq_of_mem_set hc with hc | rfl
      · exact o.cells c hc
      · exact hin
    split at e
    · cases e
      exact ⟨⟨o.walls, o.nwalls, o.ndoors, o.ways, o.nways, hcells, by rw [List.length_set]; exact o.ncells⟩, List.length_set ..⟩
    · rename_i d _
      cases hs : swung h s.ways d w with
      | none => rw [hs] at e; cases e
      | some ws =>
        rw [hs] at e
        cases e
        have hws := swung_ok hs
        subst hws
        refine ⟨⟨o.walls, o.nwalls, o.ndoors, fun x hx => ?_, by rw [List.length_set]; exact o.nways, hcells, by rw [List.length_set]; exact o.ncells⟩, List.length_set ..⟩
        rcases List.mem_or_eq_of_mem_set hx with hx | rfl
        · exact o.ways x hx
        · exact hw
/-- what is told of a step -/
def toldD (k : Nat) (p : Stand × Option Nat) : PyData := .tuple [cellD (p.1.cells.getD k (0, 0)), optN p.2]
theorem nice_told (n : Nat) (k : Nat) (p : Stand × Option Nat) : Nice (n + 3) (toldD k p) := nice_tup (by simp) fun x hx => by
  simp only [List.mem_cons, List.not_mem_nil, or_false] at hx
  rcases hx with rfl | rfl
  · exact nice_cell n _
  · exact nice_opt (n + 1) _
theorem strOk_ws (ws : List Sg) : PyData.strOk (wsS ws) = true := by
  have hc : ∀ c : Sg, c.code < 0x110000 := fun c => by cases c <;> decide
  simp [PyData.strOk, wsS, hc]
theorem nice_stand (n : Nat) {s : Stand} (hl : s.cells.length ≤ 100) : Nice (n + 4) (standD s) := nice_tup (by simp) fun x hx => by
  simp only [List.mem_cons, List.not_mem_nil, or_false] at hx
  rcases hx with rfl | rfl
  · exact nice_tup (by rw [List.length_map]; omega) fun y hy => by
      obtain ⟨c, _, rfl⟩ := List.mem_map.mp hy
      exact nice_cell n c
  · exact .inl (.inr (.inl ⟨_, rfl, strOk_ws _⟩))
theorem nice_lay : ∀ {n : Nat} {d : PyData}, Nice n d → d.canLay0 = true ∧ d.depth ≤ n
  | 0, d, h => h.elim
  | n + 1, d, .inl h => by
    rcases h with ⟨i, rfl⟩ | ⟨x, rfl, hx⟩ | rfl
    · exact ⟨lay_int i, by simp [PyData.depth]⟩
    · exact ⟨by simpa [PyData.canLay0] using hx, by simp [PyData.depth]⟩
    · exact ⟨by simp [PyData.canLay0], by simp [PyData.depth]⟩
  | n + 1, d, .inr ⟨ds, h1, _, h3⟩ => by
    have key : ∀ ds : List PyData, (∀ x ∈ ds, Nice n x) → PyData.canLayAll0 ds = true ∧ PyData.depthAll ds ≤ n := by
      intro ds
      induction ds with
      | nil => intro _; simp [PyData.canLayAll0, PyData.depthAll]
      | cons x xs ih =>
        intro h
        have a := nice_lay (h x (.head _))
        have b := ih fun y hy => h y (.tail _ hy)
        refine ⟨by simp [PyData.canLayAll0, a.1, b.1], ?_⟩
        simp only [PyData.depthAll]
        omega
    have := key ds h3
    rcases h1 with rfl | rfl
    · exact ⟨by simp only [PyData.canLay0]; exact this.1, by simp only [PyData.depth]; omega⟩
    · exact ⟨by simp only [PyData.canLay0]; exact this.1, by simp only [PyData.depth]; omega⟩
theorem nice_sh {n : Nat} {d : PyData} (h : Nice n d) (hn : n ≤ 64) : SeqAt.shaped d = true := shaped_of (nice_lay h).1 (Nat.le_trans (nice_lay h).2 hn)
theorem nice_eqv {n : Nat} {d : PyData} (h : Nice n d) : PyData.eqv d d = true := PySem.SeqAt.eqv_refl d (nice_lay h).1
section
variable {K : PySem.W.Frag} {ρ : Rho} {ta tb : TE} {d : PyData}
theorem et_same {n : Nat} (ha : ED ta ρ d) (hb : ED tb ρ d) (hn : Nice n d) (h : n ≤ 64) : ET (tTest (tOp (rNeD K) ta tb)) ρ false :=
  ET.is (et_test (ed_op ha hb (r2_ne (nice_sh hn h) (nice_sh hn h)))) (by rw [nice_eqv hn]; rfl)
end
/-! ### steps as they are handed in: some are none -/
inductive Item
  | st (k : Nat) (w : Sg)
  | non
  | odd
  | lst
  | far
def Item.d : Item → PyData
  | .st k w => stepD k w
  | .non => .none
  | .odd => .tuple [.int 0, .str "x"]
  | .lst => .list [.int 0, .str "e"]
  | .far => .tuple [.int 9, .str "e"]
def Item.ok (n : Nat) : Item → Prop
  | .st k w => k < n ∧ Way w
  | .far => n ≤ 9
  | _ => True
def tryI (h : Hall) (s : Stand) : Item → Option (Stand × Option Nat)
  | .st k w => stepDone h s k w
  | _ => none
def Item.isSt : Item → Bool
  | .st _ _ => true
  | _ => false
theorem nice_item (n : Nat) (x : Item) : Nice (n + 2) x.d := by
  cases x with
  | st k w => exact nice_step n k w
  | non => exact .inl (.inr (.inr rfl))
  | odd =>
    exact nice_tup (by simp) fun y hy => by
      simp only [List.mem_cons, List.not_mem_nil, or_false] at hy
      rcases hy with rfl | rfl
      · exact nice_int n _
      · exact .inl (.inr (.inl ⟨_, rfl, by decide +kernel⟩))
  | lst =>
    exact nice_lst (by simp) fun y hy => by
      simp only [List.mem_cons, List.not_mem_nil, or_false] at hy
      rcases hy with rfl | rfl
      · exact nice_int n _
      · exact .inl (.inr (.inl ⟨_, rfl, by decide +kernel⟩))
  | far =>
    exact nice_tup (by simp) fun y hy => by
      simp only [List.mem_cons, List.not_mem_nil, or_false] at hy
      rcases hy with rfl | rfl
      · exact nice_int n _
      · exact .inl (.inr (.inl ⟨_, rfl, by decide +kernel⟩))
inductive R_is_step : List PyData → PyData → Prop | mk (cs : List Cell) (x : Item) (hx : x.ok cs.length) (hl : 1 ≤ cs.length) : R_is_step [cellsD cs, x.d] (.bool x.isSt)
theorem rp_is_step {K : PySem.W.Frag} {aW : Addr} (hT : ∀ H : Hp, SqT K H aW [.str "e", .str "n", .str "s", .str "w"]) {ds : List PyData} {d : PyData} (h : R_is_step ds d) : RD (rd_is_step K aW (spR R_is_number)) (ds.map some ++ List.replicate (4 - ds.length) none) d := by
  obtain ⟨cs, x, hx, hl⟩ := h
  cases x with
  | st k w => exact rp_is_step_ok hT hx.1 hx.2
  | non =>
    show RD _ [some (cellsD cs), some .none, none, none] _
    exact rd_ifS (b := true) (ET.is (et_or (b := false) (et_not (et_B (ed_isi (b := false) (ed_var (d := .none) rfl) kit_nt))) fun z => nomatch z) rfl) (fun _ => rd_ret ed_bl) (fun z => nomatch z)
  | odd =>
    show RD _ [some (cellsD cs), some (.tuple [.int 0, .str "x"]), none, none] _
    have sx : SeqAt.shaped (.tuple [PyData.str "e", PyData.str "n", PyData.str "s", PyData.str "w"]) = true := by decide +kernel
    refine rd_ifS (b := false) (ET.is (et_or (b := false) (et_not (et_B (ed_isi (b := true) (ed_var (d := .tuple [.int 0, .str "x"]) rfl) kit_tt))) fun _ => et_test (ED.is (ed_op (ed_cb (ea_cons (ed_var (d := .tuple [.int 0, .str "x"]) rfl) ea_nil) rc_lenT) ed_int (r2_ne (sh_int _) (sh_int _))) (by rw [eqv_int]; rfl))) rfl) (fun z => nomatch z) (fun _ => ?_)
    refine rd_seq (sd_asg (d := .tuple [.int 0, .str "x"]) (ed_var rfl) (gd_tup (vs := [2, 3]) (gds_cons (gd_name (by simp)) (gds_cons (gd_name (by simp)) gds_nil)) rfl)) ?_
    have hin : ED (tOp (rInX K false) (tVar 3) (tC (.ref aW))) [some (cellsD cs), some (.tuple [.int 0, .str "x"]), some (.int 0), some (.str "x")] (.bool false) :=
      ED.is (ed_inK (ed_var (d := .str "x") rfl) hT (by decide)) (congrArg PyData.bool (by decide +kernel))
    refine rd_ret (ED.is (ed_andV (ed_call (ea_cons (ed_var rfl) ea_nil) (.mk 0)) fun _ => ed_andV (ed_chain ed_int (ed_var (d := .int 0) rfl) r2_le fun _ => ⟨ed_cb (ea_cons (ed_var (d := cellsD cs) rfl) ea_nil) rc_lenT, r2_lt⟩) fun _ => hin) ?_)
    simp [Item.isSt]
  | lst =>
    show RD _ [some (cellsD cs), some (.list [.int 0, .str "e"]), none, none] _
    exact rd_ifS (b := true) (ET.is (et_or (b := false) (et_not (et_B (ed_isi (b := false) (ed_var (d := .list [.int 0, .str "e"]) rfl) kit_lt))) fun z => nomatch z) rfl) (fun _ => rd_ret ed_bl) (fun z => nomatch z)
  | far =>
    have hx : cs.length ≤ 9 := hx
    show RD _ [some (cellsD cs), some (.tuple [.int 9, .str "e"]), none, none] _
    refine rd_ifS (b := false) (ET.is (et_or (b := false) (et_not (et_B (ed_isi (b := true) (ed_var (d := .tuple [.int 9, .str "e"]) rfl) kit_tt))) fun _ => et_test (ED.is (ed_op (ed_cb (ea_cons (ed_var (d := .tuple [.int 9, .str "e"]) rfl) ea_nil) rc_lenT) ed_int (r2_ne (sh_int _) (sh_int _))) (by rw [eqv_int]; rfl))) rfl) (fun z => nomatch z) (fun _ => ?_)
    refine rd_seq (sd_asg (d := .tuple [.int 9, .str "e"]) (ed_var rfl) (gd_tup (vs := [2, 3]) (gds_cons (gd_name (by simp)) (gds_cons (gd_name (by simp)) gds_nil)) rfl)) ?_
    have hin : ED (tOp (rInX K false) (tVar 3) (tC (.ref aW))) [some (cellsD cs), some (.tuple [.int 9, .str "e"]), some (.int 9), some (.str "e")] (.bool true) :=
      ED.is (ed_inK (ed_var (d := .str "e") rfl) hT (by decide)) (congrArg PyData.bool (by decide +kernel))
    refine rd_ret (ED.is (ed_andV (ed_call (ea_cons (ed_var rfl) ea_nil) (.mk 9)) fun _ => ed_andV (ed_chain ed_int (ed_var (d := .int 9) rfl) r2_le fun _ => ⟨ed_cb (ea_cons (ed_var (d := cellsD cs) rfl) ea_nil) rc_lenT, r2_lt⟩) fun _ => hin) ?_)
    have hl2 : (cs.map cellD).length ≤ 9 := by rw [List.length_map]; exact hx
    have e9 : ¬ ((9 : Int) < (cs.map cellD).length) := by omega
    simp [Item.isSt]
    omega
inductive R_step_tried : List PyData → PyData → Prop
  | mk (h : Hall) (s : Stand) (x : Item) (hd : h.doors.length ≤ 100) (hw : s.ways.length = h.doors.length) (hc : s.cells.length ≤ 100) (hx : x.ok s.cells.length) (hl : 1 ≤ s.cells.length) : R_step_tried [hallD h, standD s, x.d] (doneD (tryI h s x))
theorem rp_step_tried {K : PySem.W.Frag} {ds : List PyData} {d : PyData} (h : R_step_tried ds d) : RD (rd_step_tried K (spR R_is_step) (spR R_step_done)) (ds.map some ++ List.replicate (3 - ds.length) none) d := by
  obtain ⟨h, s, x, hd, hw, hc, hx, hl⟩ := h
  have ht : ET (tNot (tB (tCallD (spR R_is_step) (tCons (tOp (rIx K) (tVar 1) (tC (.int 0))) (tCons (tVar 2) tNil))))) [some (hallD h), some (standD s), some x.d] (!x.isSt) :=
    et_not (et_B (ed_call (ea_cons (ed_op (d := standD s) (ed_var rfl) ed_int (r2_ixT (d := cellsD s.cells) rfl)) (ea_cons (ed_var rfl) ea_nil)) (.mk s.cells x hx hl)))
  cases x with
  | st k w =>
    refine rd_seq (sd_ifNo (ET.is ht rfl)) ?_
    exact rd_ret (ed_call (ea_cons (ed_var rfl) (ea_cons (ed_var rfl) (ea_cons (ed_var rfl) ea_nil))) (.mk h s k w hd hw hc hx.1))
  | non => exact rd_ifS (b := true) (ET.is ht rfl) (fun _ => rd_ret ed_non) (fun z => nomatch z)
  | odd => exact rd_ifS (b := true) (ET.is ht rfl) (fun _ => rd_ret ed_non) (fun z => nomatch z)
  | lst => exact rd_ifS (b := true) (ET.is ht rfl) (fun _ => rd_ret ed_non) (fun z => nomatch z)
  | far => exact rd_ifS (b := true) (ET.is ht rfl) (fun _ => rd_ret ed_non) (fun z => nomatch z)
end Pd

/-! SemG1 -/
set_option Elab.async false
set_option linter.all false
set_option maxRecDepth 100000
set_option maxHeartbeats 4000000
namespace Pd
open PySem PySem.Spec PyProof.Rows L2 PySem.W
local macro_rules | `(tactic| walk_at "ed") => `(tactic| repeat' (first
  | with_reducible (first
    | exact ed_int | exact ed_str | exact ed_bl | exact ed_non
    | exact ea_nil | refine' ea_cons ?_ ?_
    | refine' ed_isi ?_ ?_ | refine' ed_isi2 ?_ ?_ ?_
    | refine' ed_andV ?_ (fun _ => ?_) | refine' ed_orV ?_ (fun _ => ?_) | refine' ed_notV ?_
    | refine' ed_chain ?_ ?_ ?_ (fun _ => ⟨?_, ?_⟩)
    | refine' ed_tup ?_ ?_ | refine' ed_lst ?_ ?_
    | refine' et_not ?_ | refine' et_and ?_ (fun _ => ?_) | refine' et_or ?_ (fun _ => ?_) | exact et_yes
    | refine' et_test ?_ | refine' et_B ?_
    | refine' ed_op ?_ ?_ ?_
    | refine' ed_cb ?_ ?_)
  | exact ed_var rfl
  | exact kit_tt | exact kit_ii | exact kit_ib | exact kit_ll | exact kit_lt | exact kit_tl
  | exact r2_addI | exact r2_subI | exact r2_lt | exact r2_le | exact r2_gt | exact r2_ge | exact r2_isN | exact r2_notN
  | exact rc_lenT | exact rc_lenL | exact rc_intB | exact rc_tupL
  | with_reducible (first | refine' r2_eq ?_ ?_ | refine' r2_ne ?_ ?_)
  | exact sh_int _ | exact sh_sg _ | exact sh_cell _ | exact sh_edge _ | exact sh_pair _ | exact sh_str _ (by decide +kernel)
  | exact r2_ixT rfl | exact r2_ixL rfl
  | refine' ed_tup ?_ ?_
  | (show List.length _ ≤ 100000; simp; done)))
/-! ### standings that steps lead to, and halls with their doors as they stand -/
theorem nodup_set {α : Type} : ∀ {l : List α} {i : Nat} {a : α}, l.Nodup → a ∉ l → (l.set i a).Nodup
  | [], _, _, _, _ => by simp
  | x :: l, 0, a, h, n => by
    rw [List.set_cons_zero]
    exact List.nodup_cons.mpr ⟨fun z => n (List.mem_cons_of_mem _ z), (List.nodup_cons.mp h).2⟩
  | x :: l, i + 1, a, h, n => by
    rw [List.set_cons_succ]
    refine List.nodup_cons.mpr ⟨fun z => ?_, nodup_set (List.nodup_cons.mp h).2 fun z => n (List.mem_cons_of_mem _ z)⟩
    rcases List.mem_or_eq_of_mem_set z with z | z
    · exact (List.nodup_cons.mp h).1 z
    · exact n (by rw [← z]; exact List.mem_cons_self ..)
theorem doorEdges_set {ds : List Edge} {ws : List Sg} {d : Nat} {e : Edge} {w : Sg} (h : ds[d]? = some e) : doorEdges ds (ws.set d w) = (doorEdges ds ws).set d (edgeFrom e.1 e.2.1 w) := by
  unfold doorEdges
  induction ds generalizing ws d with
  | nil => cases d <;> simp at h
  | cons x xs ih =>
    cases ws with
    | nil => simp
    | cons y ys =>
      cases d with
      | zero =>
        simp at h
        subst h
        simp
      | succ d =>
        simp at h
        simp [ih h]
/-- a standing that steps lead to -/
structure StOk (h : Hall) (s : Stand) : Prop where
  nways : s.ways.length = h.doors.length
  ways : ∀ x ∈ s.ways, Way x
  edges : ∀ e ∈ doorEdges h.doors s.ways, isEdge h e = true ∧ e ∉ h.walls
  nodup : (doorEdges h.doors s.ways).Nodup
  cells : CellsOk h s.cells
theorem edgesFirst (ds : List Edge) : doorEdges ds (ds.map fun e => e.2.2) = ds.map fun e => edgeFrom e.1 e.2.1 e.2.2 := by
  unfold doorEdges
  induction ds with
  | nil => rfl
  | cons d ds ih => simp [ih]
theorem stok_first {h : Hall} {cs : List Cell} (o : HallOk h) (oc : CellsOk h cs) : StOk h (firstS h cs) := by
  have e : doorEdges h.doors (firstS h cs).ways = _ := edgesFirst h.doors
  refine ⟨List.length_map _, (sok_first o oc).ways, fun x hx => ?_, ?_, oc⟩
  · rw [e] at hx
    obtain ⟨d, hd, rfl⟩ := List.mem_map.mp hx
    exact ⟨o.doors d hd, o.apart d hd⟩
  · rw [e]
    exact o.nodupD
theorem stok_sok {h : Hall} {s : Stand} (o : HallOk h) (x : StOk h s) : SOk h s where
  walls := fun e he => isEdge_hv (o.walls e he)
  nwalls := by have := o.nwalls; omega
  ndoors := by have := o.ndoors; omega
  ways := x.ways
  nways := x.nways
  cells := x.cells.cells
  ncells := by have := x.cells.most; omega
theorem stok_done {h : Hall} {s : Stand} (o : StOk h s) {k : Nat} {w : Sg} (hw : Way w) {p : Stand × Option Nat} (e : stepDone h s k w = some p) : StOk h p.1 ∧ p.1.cells.length = s.cells.length := by
  unfold stepDone at e
  split at e
  · cases e
  rename_i c hc
  split at e
  · cases e
  rename_i hn
  have hin : inH h (nextC c w) = true := by
    cases q : inH h (nextC c w) with
    | true => rfl
    | false => exact absurd (.inl q) hn
  have hfree : nextC c w ∉ s.cells := fun z => hn (.inr (.inl z))
  have co : CellsOk h (s.cells.set k (nextC c w)) := by
    refine ⟨fun z => ?_, by rw [List.length_set]; exact o.cells.most, fun x hx => ?_, nodup_set o.cells.nodup hfree⟩
    · have : (s.cells.set k (nextC c w)).length = 0 := by rw [z]; rfl
      rw [List.length_set] at this
      exact o.cells.pos (List.length_eq_zero_iff.mp this)
    · rcases List.mem_or_eq_of_mem_set hx with hx | rfl
      · exact o.cells.cells x hx
      · exact hin
  split at e
  · cases e
    exact ⟨⟨o.nways, o.ways, o.edges, o.nodup, co⟩, List.length_set ..⟩
  · rename_i d _
    cases hs : swung h s.ways d w with
    | none => rw [hs] at e; cases e
    | some ws =>
      rw [hs] at e
      cases e
      unfold swung at hs
      split at hs
      · cases hs
      rename_i g hg
      split at hs
      · cases hs
      rename_i hq
      cases hs
      have he := doorEdges_set (ws := s.ways) (w := w) hg
      refine ⟨⟨by rw [List.length_set]; exact o.nways, fun x hx => ?_, fun x hx => ?_, ?_, co⟩, List.length_set ..⟩
      · rcases List.mem_or_eq_of_mem_set hx with hx | rfl
        · exact o.ways x hx
        · exact hw
      · show isEdge h x = true ∧ x ∉ h.walls
        have hx : x ∈ doorEdges h.doors (s.ways.set d w) := hx
        rw [he] at hx
        rcases List.mem_or_eq_of_mem_set hx with hx | rfl
        · exact o.edges x hx
        · refine ⟨?_, fun z => hq (.inr (.inl z))⟩
          cases q : isEdge h (edgeFrom g.1 g.2.1 w) with
          | true => rfl
          | false => exact absurd (.inl q) hq
      · show (doorEdges h.doors (s.ways.set d w)).Nodup
        rw [he]
        exact nodup_set o.nodup fun z => hq (.inr (.inr z))
/-- a hall with its doors as they stand -/
def asH (h : Hall) (s : Stand) : Hall := { h with doors := List.zipWith (fun d w => (d.1, d.2.1, w)) h.doors s.ways }
theorem asW : ∀ (ds : List Edge) (ws : List Sg), ws.length = ds.length → (List.zipWith (fun (d : Edge) w => ((d.1, d.2.1, w) : Edge)) ds ws).map (fun e => e.2.2) = ws
  | [], [], _ => rfl
  | [], _ :: _, h => by simp at h
  | _ :: _, [], h => by simp at h
  | d :: ds, w :: ws, h => by
    rw [List.zipWith_cons_cons, List.map_cons, asW ds ws (by simpa using h)]
theorem asE : ∀ (ds : List Edge) (ws vs : List Sg), ws.length = ds.length → doorEdges (List.zipWith (fun (d : Edge) w => ((d.1, d.2.1, w) : Edge)) ds ws) vs = doorEdges ds vs
  | [], [], _, _ => rfl
  | [], _ :: _, _, h => by simp at h
  | _ :: _, [], _, h => by simp at h
  | d :: ds, w :: ws, [], h => by simp [doorEdges]
  | d :: ds, w :: ws, v :: vs, h => by
    have ih := asE ds ws vs (by simpa using h)
    unfold doorEdges at ih ⊢
    rw [List.zipWith_cons_cons, List.zipWith_cons_cons, List.zipWith_cons_cons, ih]
theorem asD : ∀ (ds : List Edge) (ws : List Sg) (i : Nat), ws.length = ds.length → (((List.zipWith (fun (d : Edge) w => ((d.1, d.2.1, w) : Edge)) ds ws)[i]?).map fun e => (e.1, e.2.1)) = (ds[i]?).map fun e => (e.1, e.2.1)
  | [], [], _, _ => rfl
  | [], _ :: _, _, h => by simp at h
  | _ :: _, [], _, h => by simp at h
  | d :: ds, w :: ws, 0, h => rfl
  | d :: ds, w :: ws, i + 1, h => by
    rw [List.zipWith_cons_cons, List.getElem?_cons_succ, List.getElem?_cons_succ]
    exact asD ds ws i (by simpa using h)
theorem as_first {h : Hall} {s : Stand} (n : s.ways.length = h.doors.length) : firstS (asH h s) s.cells = s := by
  obtain ⟨cs, ws⟩ := s
  show (⟨cs, _⟩ : Stand) = ⟨cs, ws⟩
  rw [show (asH h ⟨cs, ws⟩).doors.map (fun e => e.2.2) = ws from asW h.doors ws n]
theorem as_swung {h : Hall} {s : Stand} (n : s.ways.length = h.doors.length) (ws : List Sg) (d : Nat) (w : Sg) : swung (asH h s) ws d w = swung h ws d w := by
  have e1 := asD h.doors s.ways d n
  have e2 : doorEdges (asH h s).doors ws = doorEdges h.doors ws := asE h.doors s.ways ws n
  unfold swung
  rw [e2]
  have e3 : ((asH h s).doors[d]?).map (fun e => (e.1, e.2.1)) = (h.doors[d]?).map fun e => (e.1, e.2.1) := e1
  cases q1 : (asH h s).doors[d]? with
  | none =>
    rw [q1] at e3
    cases q2 : h.doors[d]? with
    | none => rfl
    | some g => rw [q2] at e3; cases e3
  | some f =>
    rw [q1] at e3
    cases q2 : h.doors[d]? with
    | none => rw [q2] at e3; cases e3
    | some g =>
      rw [q2] at e3
      simp only [Option.map_some, Option.some.injEq, Prod.mk.injEq] at e3
      show (if isEdge h (edgeFrom f.1 f.2.1 w) = false ∨ edgeFrom f.1 f.2.1 w ∈ h.walls ∨ _ then _ else _) = _
      rw [e3.1, e3.2]
      rfl
theorem as_done {h : Hall} {s : Stand} (n : s.ways.length = h.doors.length) (t : Stand) (k : Nat) (w : Sg) : stepDone (asH h s) t k w = stepDone h t k w := by
  have e2 : doorEdges (asH h s).doors t.ways = doorEdges h.doors t.ways := asE h.doors s.ways t.ways n
  unfold stepDone
  rw [e2]
  cases t.cells[k]? with
  | none => rfl
  | some c =>
    show (if inH h (nextC c w) = false ∨ nextC c w ∈ t.cells ∨ crossed c w ∈ h.walls then none else _) = _
    dsimp only
    refine ite_congr rfl (fun _ => rfl) fun _ => ?_
    cases (doorEdges h.doors t.ways).findIdx? (· == crossed c w) with
    | none => rfl
    | some d =>
      dsimp only
      rw [as_swung n]
theorem as_moves {h : Hall} {s : Stand} (n : s.ways.length = h.doors.length) : movesD (asH h s) (firstS (asH h s) s.cells) = movesD h s := by
  rw [as_first n]
  have e : addMove (asH h s) s = addMove h s := by
    funext k ds w
    unfold addMove
    rw [as_done n]
  unfold movesD
  have e2 : addMoves (asH h s) s = addMoves h s := by
    funext ds k
    unfold addMoves
    rw [e]
  rw [e2]
theorem as_hall {h : Hall} {s : Stand} (o : HallOk h) (x : StOk h s) : HallOk (asH h s) := by
  have e1 : (asH h s).doors.map (fun e => edgeFrom e.1 e.2.1 e.2.2) = doorEdges h.doors s.ways := by
    rw [← edgesFirst, show (asH h s).doors.map (fun e => e.2.2) = s.ways from asW h.doors s.ways x.nways]
    exact asE h.doors s.ways s.ways x.nways
  have hm : ∀ e ∈ (asH h s).doors, edgeFrom e.1 e.2.1 e.2.2 ∈ doorEdges h.doors s.ways := fun e he => by
    rw [← e1]
    exact List.mem_map_of_mem he
  refine ⟨o.rows, o.cols, o.nwalls, ?_, o.walls, o.nodupW, fun e he => ?_, fun e he => (x.edges _ (hm e he)).1, fun e he => (x.edges _ (hm e he)).2, by rw [e1]; exact x.nodup⟩
  · show (List.zipWith _ h.doors s.ways).length ≤ 6
    rw [List.length_zipWith]
    have := o.ndoors
    omega
  · have : e.2.2 ∈ (asH h s).doors.map fun e => e.2.2 := List.mem_map_of_mem he
    rw [show (asH h s).doors.map (fun e => e.2.2) = s.ways from asW h.doors s.ways x.nways] at this
    exact x.ways _ this
theorem as_cells {h : Hall} {s : Stand} (x : StOk h s) : CellsOk (asH h s) s.cells := ⟨x.cells.pos, x.cells.most, x.cells.cells, x.cells.nodup⟩
/-- a move that can be done -/
def MoveOk (h : Hall) (s : Stand) (d : PyData) : Prop := ∃ k w p, k < s.cells.length ∧ Way w ∧ stepDone h s k w = some p ∧ d = moveD (k, w, p.1, p.2)
theorem moves_ok {h : Hall} {s : Stand} : ∀ d ∈ movesD h s, MoveOk h s d := by
  refine fold_shape (MoveOk h s) _ (fun ds k hds => ?_) _ [] (fun d hd => nomatch hd)
  have one : ∀ ds w, Way w → (∀ d ∈ ds, MoveOk h s d) → ∀ d ∈ addMove h s k ds w, MoveOk h s d := by
    intro ds w hw hds d hd
    unfold addMove at hd
    split at hd
    · exact hds d hd
    · rename_i p hp
      rcases List.mem_append.mp hd with z | z
      · exact hds d z
      · simp at z
        refine ⟨k, w, p, ?_, hw, hp, z⟩
        unfold stepDone at hp
        split at hp
        · cases hp
        · rename_i c hc
          exact (List.getElem?_eq_some_iff.mp hc).1
  unfold addMoves ways4
  simp only [List.foldl_cons, List.foldl_nil]
  exact one _ _ (.inr (.inr (.inr rfl))) (one _ _ (.inr (.inr (.inl rfl))) (one _ _ (.inr (.inl rfl)) (one _ _ (.inl rfl) hds)))
/-! ### what was done, in turn -/
structure Ev where
  k : Nat
  w : Sg
  d : Option Nat
  bef : Stand
  aft : Stand
def stAt (s0 : Stand) (es : List Ev) : Nat → Stand
  | 0 => s0
  | i + 1 => match es[i]? with
    | some e => e.aft
    | none => s0
structure Hist (h : Hall) (s0 : Stand) (es : List Ev) : Prop where
  at_ : ∀ i e, es[i]? = some e → e.bef = stAt s0 es i ∧ stepDone h e.bef e.k e.w = some (e.aft, e.d) ∧ e.k < s0.cells.length ∧ Way e.w
def evStep (e : Ev) : PyData := stepD e.k e.w
def evTold (e : Ev) : PyData := toldD e.k (e.aft, e.d)
def evDoor (e : Ev) : PyData := optN e.d
def evTrail (e : Ev) : PyData := .tuple [evStep e, evDoor e, standD e.bef]
def evBoth (e : Ev) : PyData := .tuple [evStep e, evDoor e]
theorem stAt_app {s0 : Stand} {es : List Ev} {e : Ev} : ∀ {i : Nat}, i ≤ es.length → stAt s0 (es ++ [e]) i = stAt s0 es i
  | 0, _ => rfl
  | i + 1, h => by
    show (match (es ++ [e])[i]? with | some e => e.aft | none => s0) = (match es[i]? with | some e => e.aft | none => s0)
    rw [List.getElem?_append_left (by omega)]
theorem stAt_take {s0 : Stand} {es : List Ev} {n : Nat} : ∀ {i : Nat}, i ≤ n → stAt s0 (es.take n) i = stAt s0 es i
  | 0, _ => rfl
  | i + 1, h => by
    show (match (es.take n)[i]? with | some e => e.aft | none => s0) = (match es[i]? with | some e => e.aft | none => s0)
    rw [List.getElem?_take, if_pos (by omega)]
theorem stAt_next {s0 : Stand} {es : List Ev} {i : Nat} {e : Ev} (h : es[i]? = some e) : stAt s0 es (i + 1) = e.aft := by
  show (match es[i]? with | some e => e.aft | none => s0) = e.aft
  rw [h]
theorem Hist.nil {h : Hall} {s0 : Stand} : Hist h s0 [] := ⟨fun i e z => by simp at z⟩
theorem Hist.snoc {h : Hall} {s0 : Stand} {es : List Ev} {k : Nat} {w : Sg} {p : Stand × Option Nat} (x : Hist h s0 es) (hp : stepDone h (stAt s0 es es.length) k w = some p) (hk : k < s0.cells.length) (hw : Way w) : Hist h s0 (es ++ [⟨k, w, p.2, stAt s0 es es.length, p.1⟩]) := by
  refine ⟨fun i e z => ?_⟩
  by_cases hi : i < es.length
  · rw [List.getElem?_append_left hi] at z
    obtain ⟨h1, h2⟩ := x.at_ i e z
    exact ⟨by rw [stAt_app (by omega)]; exact h1, h2⟩
  · rw [List.getElem?_append_right (by omega)] at z
    cases hj : i - es.length with
    | zero =>
      rw [hj] at z
      cases z
      have : i = es.length := by omega
      subst this
      exact ⟨(stAt_app (Nat.le_refl _)).symm, hp, hk, hw⟩
    | succ j => rw [hj] at z; simp at z
theorem Hist.take {h : Hall} {s0 : Stand} {es : List Ev} (x : Hist h s0 es) (n : Nat) : Hist h s0 (es.take n) := by
  refine ⟨fun i e z => ?_⟩
  rw [List.getElem?_take] at z
  split at z
  · rename_i hi
    obtain ⟨h1, h2⟩ := x.at_ i e z
    exact ⟨by rw [stAt_take (by omega)]; exact h1, h2⟩
  · cases z
theorem Hist.ok {h : Hall} {s0 : Stand} {es : List Ev} (x : Hist h s0 es) (o : StOk h s0) : ∀ i, StOk h (stAt s0 es i) ∧ (stAt s0 es i).cells.length = s0.cells.length
  | 0 => ⟨o, rfl⟩
  | i + 1 => by
    cases q : es[i]? with
    | none =>
      have : stAt s0 es (i + 1) = s0 := by
        show (match es[i]? with | some e => e.aft | none => s0) = s0
        rw [q]
      rw [this]
      exact ⟨o, rfl⟩
    | some e =>
      rw [stAt_next q]
      obtain ⟨h1, h2, h3, h4⟩ := x.at_ i e q
      obtain ⟨o1, l1⟩ := x.ok o i
      rw [h1] at h2
      obtain ⟨o2, l2⟩ := stok_done o1 h4 h2
      exact ⟨o2, l2.trans l1⟩
/-! ### a list of steps of which some can't be -/
structure Lot (h : Hall) (s0 : Stand) (xs : List Item) (es : List Ev) (bad : Option Nat) : Prop where
  hist : Hist h s0 es
  ok : ∀ x ∈ xs, x.ok s0.cells.length
  same : ∀ (i : Nat) (e : Ev), es[i]? = some e → xs[i]? = some (Item.st e.k e.w)
  good : bad = none → es.length = xs.length
  stop : ∀ n, bad = some n → es.length = n ∧ ∃ x, xs[n]? = some x ∧ tryI h (stAt s0 es n) x = none
theorem Lot.nil {h : Hall} {s0 : Stand} : Lot h s0 [] [] none := ⟨Hist.nil, (fun x z => nomatch z), (fun i e z => by simp at z), (fun _ => rfl), (fun n z => nomatch z)⟩
theorem Lot.le {h : Hall} {s0 : Stand} {xs : List Item} {es : List Ev} {bad : Option Nat} (o : Lot h s0 xs es bad) : es.length ≤ xs.length := by
  cases bad with
  | none => exact Nat.le_of_eq (o.good rfl)
  | some n =>
    obtain ⟨h1, x, h2, _⟩ := o.stop n rfl
    have := (List.getElem?_eq_some_iff.mp h2).1
    omega
theorem Lot.late {h : Hall} {s0 : Stand} {xs : List Item} {es : List Ev} {n : Nat} (o : Lot h s0 xs es (some n)) {x : Item} (hx : x.ok s0.cells.length) : Lot h s0 (xs ++ [x]) es (some n) := by
  obtain ⟨h1, y, h2, h3⟩ := o.stop n rfl
  have hn := (List.getElem?_eq_some_iff.mp h2).1
  refine ⟨o.hist, fun z hz => ?_, fun i e hi => ?_, (fun z => nomatch z), fun m hm => ?_⟩
  · rcases List.mem_append.mp hz with hz | hz
    · exact o.ok z hz
    · rw [List.mem_singleton.mp hz]
      exact hx
  · have h5 := o.same i e hi
    rw [List.getElem?_append_left (List.getElem?_eq_some_iff.mp h5).1]
    exact h5
  · cases hm
    exact ⟨h1, y, by rw [List.getElem?_append_left hn]; exact h2, h3⟩
theorem Lot.fail {h : Hall} {s0 : Stand} {xs : List Item} {es : List Ev} (o : Lot h s0 xs es none) {x : Item} (hx : x.ok s0.cells.length) (ht : tryI h (stAt s0 es es.length) x = none) : Lot h s0 (xs ++ [x]) es (some xs.length) := by
  have hl := o.good rfl
  refine ⟨o.hist, fun z hz => ?_, fun i e hi => ?_, (fun z => nomatch z), fun m hm => ?_⟩
  · rcases List.mem_append.mp hz with hz | hz
    · exact o.ok z hz
    · rw [List.mem_singleton.mp hz]
      exact hx
  · have h5 := o.same i e hi
    rw [List.getElem?_append_left (List.getElem?_eq_some_iff.mp h5).1]
    exact h5
  · cases hm
    exact ⟨hl, x, by rw [List.getElem?_append_right (Nat.le_refl _)]; simp, by rw [← hl]; exact ht⟩
theorem Lot.go {h : Hall} {s0 : Stand} {xs : List Item} {es : List Ev} (o : Lot h s0 xs es none) {k : Nat} {w : Sg} {p : Stand × Option Nat} (hk : k < s0.cells.length) (hw : Way w) (ht : stepDone h (stAt s0 es es.length) k w = some p) : Lot h s0 (xs ++ [Item.st k w]) (es ++ [⟨k, w, p.2, stAt s0 es es.length, p.1⟩]) none := by
  have hl := o.good rfl
  refine ⟨o.hist.snoc ht hk hw, fun z hz => ?_, fun i e hi => ?_, (fun _ => by rw [List.length_append, List.length_append, hl]; rfl), (fun m hm => nomatch hm)⟩
  · rcases List.mem_append.mp hz with hz | hz
    · exact o.ok z hz
    · rw [List.mem_singleton.mp hz]
      exact ⟨hk, hw⟩
  · by_cases hlt : i < es.length
    · rw [List.getElem?_append_left hlt] at hi
      rw [List.getElem?_append_left (by omega)]
      exact o.same i e hi
    · rw [List.getElem?_append_right (by omega)] at hi
      cases hj : i - es.length with
      | zero =>
        rw [hj] at hi
        cases hi
        rw [List.getElem?_append_right (by omega), show i - xs.length = 0 by omega]
        rfl
      | succ j => rw [hj] at hi; simp at hi
end Pd

/-! LamD -/
set_option Elab.async false
set_option linter.all false
set_option maxRecDepth 100000
set_option maxHeartbeats 4000000
/-! a lambda with one parameter that has a number as its default, handed to a def and called there without arguments -/
namespace Lmd
open PySem PySem.Spec PyProof.Rows L2 LamX
/-- its scope: captured names, globals, parameters that are none of the maker's names -/
structure LamT (N : List Str) (sc scope : Scope) : Prop where
  kind : scope.kind = .function
  co : scope.isCoroutine = false
  gen : scope.isGenerator = false
  cel : ∀ y ∈ scope.names, y.2 ≠ .cell
  own : ∀ y ∈ scope.names, y.2 = .local → y.1 ∉ N
  free : ∀ y ∈ scope.names, y.2 = .free → sc.names.lookup y.1 = some .cell ∨ sc.names.lookup y.1 = some .free
def lamTB (N : List Str) (sc scope : Scope) : Bool :=
  decide (scope.kind = .function) && !scope.isCoroutine && !scope.isGenerator && scope.names.all fun y => !decide (y.2 = .cell) && (!decide (y.2 = .local) || !N.contains y.1) && (!decide (y.2 = .free) || decide (sc.names.lookup y.1 = some .cell) || decide (sc.names.lookup y.1 = some .free))
theorem lamT_by {N : List Str} {sc scope : Scope} (h : lamTB N sc scope = true) : LamT N sc scope := by
  unfold lamTB at h
  simp only [Bool.and_eq_true, Bool.or_eq_true, Bool.not_eq_true', decide_eq_true_eq, decide_eq_false_iff_not, List.all_eq_true, List.contains_eq_mem] at h
  obtain ⟨⟨⟨h1, h2⟩, h3⟩, h4⟩ := h
  refine ⟨h1, h2, h3, fun y hy => (h4 y hy).1.1, fun y hy e => ?_, fun y hy e => ?_⟩
  · rcases (h4 y hy).1.2 with z | z
    · exact absurd e z
    · exact z
  · rcases (h4 y hy).2 with (z | z) | z
    · exact absurd e z
    · exact .inl z
    · exact .inr z
theorem LamT.has {X : Cx} {scope : Scope} (L : LamT X.N X.env.scope scope) (ok : X.Ok) : ∀ y ∈ scope.names, y.2 = .free → ∃ c, X.env.cells.lookup y.1 = some c := fun y hy e => (L.free y hy e).elim (fun k => ok.has _ (.inl k)) (fun k => ok.has _ (.inr k))
section
variable {X : Cx} {pins : List (Addr × Obj)} {σ : L2.St} {H HZ : Hp} {s s1 : Shared}
theorem lam_startT {A : Around} {outer : List Env} {E : XK} {scope : Scope} {f c' : Addr} {h₁ : Heap} {tk : Nat} {m : Str → Option Value} (I : Inv X pins σ H s) (L : LamT X.N X.env.scope scope) (e0 : Env0 X.prog X.w X.K X.mg X.base A outer s1 HZ) (hd : A.handled = none)
    (un : Un (frs X.stack) [] H HZ s.heap s1.heap) (hns : h₁.Ns s1.heap.objs.size m) (kp : ∀ b o, s1.heap.get? b = some o → h₁.get? b = some o) :
    Inv (lamCx X A outer s1 HZ E scope f c') [] σ HZ { s1 with heap := h₁, toks := tk } := by
  have hfree := L.has I.ok
  have cm : ∀ {y c}, (cloFrom X.env.cells scope.names []).lookup y = some c → X.env.cells.lookup y = some c := fun {y c} e => by
    rcases cloFrom_mem (PySem.mem_of_lookup e) with hm | ⟨h1, h2⟩
    · cases hm
    · obtain ⟨c1, hc⟩ := hfree _ h1 rfl
      have hc : X.env.cells.lookup y = some c1 := hc
      have e2 : c = c1 := by
        rw [h2, hc] <;> rfl
      rw [e2]
      exact hc
  have look : ∀ {y}, scope.names.lookup y = some .free → ∃ c, (cloFrom X.env.cells scope.names []).lookup y = some c := fun {y} hl => by
    have hy : (y, NameKind.free) ∈ scope.names := PySem.mem_of_lookup hl
    exact mem_lookup (cloFrom_has (cells := X.env.cells) (acc := []) hy)
  have cellK : ∀ {c : Addr} {v : Option Value}, H c = none → s.heap.IsCell c v → h₁.IsCell c v := fun {c v} n ⟨o, ho, hd⟩ => by
    obtain ⟨sl, q⟩ := un.any ho n (by simp)
    exact ⟨_, kp _ _ q, hd⟩
  have noA : ∀ b : Addr, b ∉ (lamCx X A outer s1 HZ E scope f c').ex := fun b z => absurd (show b ∈ ([] : List Addr) from z) (by simp)
  have noC : ∀ {y}, scope.names.lookup y ≠ some .cell := fun {y} k => L.cel _ (PySem.mem_of_lookup k) rfl
  refine ⟨⟨e0.mod, L.kind, rfl, rfl, Nat.le_refl _, fun y z c e1 e2 => I.ok.inj y z c (cm e1) (cm e2), fun y hy => ?_, fun y c z _ => ?_, fun _ => hd, Around.frames_deeper e0.frames, .inr ⟨rfl, rfl⟩, fun b z => absurd z (noA b), e0.bs, e0.bsz, fun b _ _ => noA b,
      fun b z => absurd z (noA b), e0.funs, e0.frf⟩,
    rfl, e0.bare, Un.kept kp, ⟨_, hns, fun i y v e1 e2 e3 => ?_⟩, fun y c e => ?_, e0.hok.fresh (Nat.le_refl _), fun y c e => ?_, fun q hq => absurd (show q ∈ ([] : List (Addr × Obj)) ++ [] from hq) (by simp), e0.hok.kept kp, I.len⟩
  · have hy : scope.names.lookup y = some .cell ∨ scope.names.lookup y = some .free := hy
    rcases hy with hy | hy
    · exact absurd hy noC
    · exact look hy
  · have z : false = true := z
    cases z
  · have e3 : Vis scope y := e3
    rcases e3 with k | k | k
    · exact absurd (List.mem_of_getElem? e1) (L.own _ (PySem.mem_of_lookup k) rfl)
    · exact absurd k noC
    · obtain ⟨m, hn, hl⟩ := I.loc
      have hvis : Vis X.env.scope y := (L.free _ (PySem.mem_of_lookup k) rfl).elim (fun k => .inr (.inl k)) (fun k => .inr (.inr k))
      obtain ⟨w', r, q⟩ := hl i y v e1 e2 hvis
      obtain ⟨c2, h2⟩ := look k
      refine ⟨w', r, .inr ⟨.inr k, c2, h2, ?_⟩⟩
      have c1 := cm h2
      rcases q with ⟨k', _⟩ | ⟨_, c3, e', z⟩
      · have k' : X.env.scope.names.lookup y = some .local := k'
        rcases L.free _ (PySem.mem_of_lookup k) rfl with k2 | k2 <;> rw [show X.env.scope.names.lookup y = _ from k2] at k' <;> cases k'
      · rw [c1] at e'
        cases e'
        exact cellK (I.freeC y _ c1) z
  · obtain ⟨w', z⟩ := I.cell y c (cm e)
    exact ⟨w', cellK (I.freeC y c (cm e)) z⟩
  · obtain ⟨v, o, ho, hd⟩ := I.cell y c (cm e)
    exact un.free c o ho (I.freeC y c (cm e)) (by simp)
/-- the lambda is made, its default in a tuple of its own -/
theorem lam_makeT {T : List (Addr × Str)} {c P : Addr} {params : Arguments} {body e0 : Expr} {scope : Scope} {pos : Pos} {i : Int} {Q : Value → Shared → Prop} (I : Inv X pins σ H s) (TB : TabB X.base X.mg c P) (hcode : X.env.code = .ref c)
    (hm : (P, X.env.qual ++ "<lambda>") ∈ T) (hu : ∀ p ∈ T, p.1 = P → p.2 = X.env.qual ++ "<lambda>") (hT : Tabs T H) (hdf : params.defaults = [e0]) (hk0 : params.kw_defaults = []) (he0 : PE X e0 (tC (.int i))) (hfree : ∀ y ∈ scope.names, y.2 = .free → ∃ c, X.env.cells.lookup y.1 = some c)
    (h : ∀ (f t c' : Addr) (u pm ctv doc : Value) (H1 : Hp) (s' : Shared), Inv X pins σ H1 s' → ExtN H H1 → Tabs T H1 → s'.heap.get? t = some (PySem.W.kdv_tup [u]) →
      s'.heap.get? f = some (PySem.W.kdv_obj "<lambda>" (X.env.qual ++ "<lambda>") params (.expr body) scope (cloFrom X.env.cells scope.names []) (.ref t) doc pm c' ctv) → H1 f = none → f ∉ frs X.stack → H1 t = none → t ∉ frs X.stack → H1 c' = some (CodeO c' (X.env.qual ++ "<lambda>")) → Q (.ref f) s') :
    wpAny (model X.prog X.w) X.A (eval (.Lambda params body scope pos) X.env) Q X.xe s := by
  refine PySem.W.kdv_lam (by rw [hdf]; rfl) hk0 ?_
  rw [hdf]
  refine PySem.W.kdv_all1 (thn (he0.run pins s σ H (fun v H1 => v = V.int i ∧ H1 = H) I (show V.int i = V.int i ∧ H = H from ⟨rfl, rfl⟩)) fun u s0 ⟨v, H0, I0, rv, ev, eH⟩ => ?_)
  subst ev
  subst eH
  refine PySem.W.kdv_all0 ?_
  rw [makeFunction_eq]
  simp only [List.zip_nil_right, List.filterMap_nil, List.isEmpty_nil, if_true, pure_bind, List.isEmpty_cons, Bool.false_eq_true, if_false]
  refine wpAny_bind (wpAny_newTextTuple ?_)
  have nofr : ∀ f, s0.heap.objs.size ≤ f → f ∉ frs X.stack := fun f hf z => by
    rcases List.mem_cons.mp (I0.stkSub _ z) with e | e
    · have h1 := I0.lt
      rw [← e] at h1
      exact Nat.lt_irrefl _ (Nat.lt_of_lt_of_le h1 hf)
    · exact I0.nofs hf e
  have ft : H0 s0.heap.objs.size = none := I0.hok.fresh (Nat.le_refl _)
  have nt : s0.heap.objs.size ∉ frs X.stack := nofr _ (Nat.le_refl _)
  have hlt : s0.heap.objs.size < ({ s0 with heap := s0.heap.push (PySem.W.kdv_tup [u]) } : Shared).heap.objs.size := by
    show _ < (s0.heap.push _).objs.size
    rw [Heap.size_push]
    exact Nat.lt_succ_self _
  have I2 : Inv X pins σ H0 { s0 with heap := s0.heap.push (PySem.W.kdv_tup [u]) } := I0.kept (t' := s0.toks) fun b o e => Heap.get?_push_of_some _ e
  have ht2 : ({ s0 with heap := s0.heap.push (PySem.W.kdv_tup [u]) } : Shared).heap.get? s0.heap.objs.size = some (PySem.W.kdv_tup [u]) := Heap.get?_push_size _ rfl
  show wpAny _ _ (makeTail _ _ _ _ _ _ (.ref s0.heap.objs.size) _ _ _ _) _ _ { s0 with heap := s0.heap.push (PySem.W.kdv_tup [u]) }
  generalize s0.heap.objs.size = t at ft nt hlt ht2 ⊢
  generalize ({ s0 with heap := s0.heap.push (PySem.W.kdv_tup [u]) } : Shared) = s2 at I2 ht2 hlt ⊢
  obtain ⟨ps, hP, ht, ha⟩ := hT _ hm
  have bP : s2.heap.BuiltinsAt X.mg P := TB.bm.keeps I2.bk
  have hP' : s2.heap.get? P = some { cls := .none, data := .fields ps } := I2.hok P _ hP
  have ntP : t ≠ P := fun z => by
    rw [z] at ft
    rw [ft] at hP
    cases hP
  have nofr2 : ∀ f, s2.heap.objs.size ≤ f → f ∉ frs X.stack := fun f hf z => by
    rcases List.mem_cons.mp (I2.stkSub _ z) with e | e
    · have h1 := I2.lt
      rw [← e] at h1
      exact Nat.lt_irrefl _ (Nat.lt_of_lt_of_le h1 hf)
    · exact I2.nofs hf e
  cases hc : codeAmong pos ps.toList with
  | none =>
    refine PySem.W.kdv_makeTail (mg := X.mg) (c := c) (P := P) (ps := ps) (closure_ok hfree) I2.ok.glob (I2.mod.glob.keeps I2.bk) hcode (TB.code.keeps I2.bk) hP' ht hc TB.gP bP fun c' ctv doc h' tk hx hge hlt' hrec htb => ?_
    obtain ⟨c2, oc, vs, tq, e2, hoc, hd, hv⟩ := hrec
    cases e2
    have hsz : s2.heap.objs.size ≤ h'.objs.size := Nat.le_trans hge (Nat.le_of_lt hlt')
    have nC : H0 c' = none := I2.hok.fresh hge
    have I1 := inv_table (t' := tk) (more := #[rawInt pos.line, rawInt pos.col, .ref c']) (h' := h'.push (PySem.W.kdv_obj "<lambda>" (X.env.qual ++ "<lambda>") params (.expr body) scope (cloFrom X.env.cells scope.names []) (.ref t) doc ((X.mg "__name__").getD .none) c' ctv)) I2 hP
      (fun b o hb e => Heap.get?_push_of_some _ (hx b o hb e)) (Heap.get?_push_of_some _ htb) hge ⟨oc, vs, tq, Heap.get?_push_of_some _ hoc, hd, hv⟩
    have hE : ExtN H0 (upd (upd H0 P (.tbl (ps ++ #[rawInt pos.line, rawInt pos.col, .ref c']))) c' (CodeO c' (X.env.qual ++ "<lambda>"))) := fun b o e n => by
      rw [upd_ne (ne_of_none e nC), upd_ne (fun z => n ps (Option.some.inj (e.symm.trans (by rw [z]; exact hP))))]
      exact e
    have eL : (ps ++ #[rawInt pos.line, rawInt pos.col, .ref c']).toList = ps.toList ++ [rawInt pos.line, rawInt pos.col, .ref c'] := by simp
    have n1 : h'.objs.size ≠ c' := Nat.ne_of_gt hlt'
    have n2 : h'.objs.size ≠ P := Nat.ne_of_gt (Nat.lt_of_lt_of_le (Heap.lt_size hP') hsz)
    have n3 : t ≠ c' := Nat.ne_of_lt (Nat.lt_of_lt_of_le hlt hge)
    refine h h'.objs.size t c' u ((X.mg "__name__").getD .none) ctv doc _ _ I1 hE (fun p hp => ?_) (Heap.get?_push_of_some _ (hx t _ ntP ht2)) (Heap.get?_push_size _ rfl) ?_ (nofr2 _ hsz) ?_ nt upd_same
    · by_cases hb : p.1 = P
      · rw [hu p hp hb, hb]
        refine ⟨_, by rw [upd_ne (ne_of_none hP nC), upd_same], by rw [eL]; exact PySem.TriplesOk_snoc _ _ _ _ ht, fun p' cv hcv => ?_⟩
        rw [eL] at hcv
        rcases among_app _ ht hcv with z | z
        · obtain ⟨c0, e1, e2⟩ := ha p' cv z
          exact ⟨c0, e1, hE _ _ e2 codeO_ne⟩
        · exact ⟨c', z, upd_same⟩
      · obtain ⟨ps', a1, a2, a3⟩ := hT p hp
        refine ⟨ps', by rw [upd_ne (ne_of_none a1 nC), upd_ne hb]; exact a1, a2, fun p' cv hcv => ?_⟩
        obtain ⟨c0, e1, e2⟩ := a3 p' cv hcv
        exact ⟨c0, e1, hE _ _ e2 codeO_ne⟩
    · rw [upd_ne n1, upd_ne n2]
      exact I2.hok.fresh hsz
    · rw [upd_ne n3, upd_ne ntP]
      exact ft
  | some cv =>
    obtain ⟨c', e, hco⟩ := ha pos cv hc
    subst e
    refine PySem.W.kdv_makeTailHit (mg := X.mg) (c := c) (P := P) (ps := ps) (closure_ok hfree) I2.ok.glob (I2.mod.glob.keeps I2.bk) hcode (TB.code.keeps I2.bk) hP' ht hc bP fun ctv doc h' tk hx hsz => ?_
    have I1 : Inv X pins σ H0 { s2 with heap := h'.push (PySem.W.kdv_obj "<lambda>" (X.env.qual ++ "<lambda>") params (.expr body) scope (cloFrom X.env.cells scope.names []) (.ref t) doc ((X.mg "__name__").getD .none) c' ctv), toks := tk } := I2.kept fun b o e => Heap.get?_push_of_some _ (hx b o e)
    exact h h'.objs.size t c' u ((X.mg "__name__").getD .none) ctv doc H0 _ I1 (ExtN.refl H0) hT (Heap.get?_push_of_some _ (hx _ _ ht2)) (Heap.get?_push_size _ rfl) (I2.hok.fresh hsz) (nofr2 _ hsz) ft nt hco
/-- x(), in the def that got the lambda -/
theorem pe_actT {CXg : CXT} {Eg : XK} {Ng : List Str} {qg : Str} {sg : Scope} {g f t c' : Addr} {u cdg pm ctv doc : Value} {params : Arguments} {body : Expr} {scope : Scope} {k i : Nat} {a y : Str} {pn : List (Addr × Obj)} {xe : Value → Shared → Prop} {W : WX} {E : XK} {tb : TE} {p1 p2 : Pos}
    (I : Inv X pins σ H s) (L : LamT X.N X.env.scope scope) (ho : s.heap.get? t = some (PySem.W.kdv_tup [u])) (hf : s.heap.get? f = some (PySem.W.kdv_obj "<lambda>" (X.env.qual ++ "<lambda>") params (.expr body) scope (cloFrom X.env.cells scope.names []) (.ref t) doc pm c' ctv)) (hfn : H f = none) (hfr : f ∉ frs X.stack) (htn : H t = none) (htr : t ∉ frs X.stack)
    (hbind : ∀ s : Shared, s.heap.get? t = some (PySem.W.kdv_tup [u]) → BindsTo s (PySem.W.kdv_fn "<lambda>" (X.env.qual ++ "<lambda>") params (.expr body) scope (cloFrom X.env.cells scope.names []) (.ref t) doc pm (.ref c') ctv) ⟨[], []⟩ [(y, u)]) (hy : scope.names.lookup y = some .local)
    (tk : Takes ((cxOf CXg X.prog X.w X.K X.mg X.base Ng qg sg g cdg X.A X.stack s H Eg).tr pn xe) W) (hW : ∀ cls d σ' H', E cls d H' → W cls d σ' H') (hr : Room (k + 1) (X.A.deeper (envOfC qg sg s.heap.objs.size g cdg)))
    (hbody : ∀ (A : Around) (outer : List Env) (s : Shared) (H : Hp), Room k (A.deeper (lamEnv X scope s.heap.objs.size f c')) → PE (lamCx X A outer s H E scope f c') body tb)
    (hN : Ng[i]? = some a) (hv : Vis sg a) (hd : (a == ("__debug__" : Str)) = false := by decide) (hcd : (a == ("__classdict__" : Str)) = false := by decide) :
    PE ((cxOf CXg X.prog X.w X.K X.mg X.base Ng qg sg g cdg X.A X.stack s H Eg).tr pn xe) (.Call (.Name a p1) [] [] p2)
      (fun σZ HZ Q => σZ[i]? = some (some (.ref f)) ∧ HZ c' = some (CodeO c' (X.env.qual ++ "<lambda>")) ∧ tb σ HZ Q) := by
  refine ⟨fun pinsZ sZ σZ HZ Q IZ h => ?_⟩
  obtain ⟨hs, hc, ht⟩ := h
  refine wpAny_Call_Name_kw (thn ((pe_var (pos := p1) (i := i) hN hv hd hcd).run pinsZ sZ σZ HZ (fun v H1 => v = .ref f ∧ H1 = HZ) IZ ⟨.ref f, hs, rfl, rfl⟩) fun w s1 ⟨v, H1, I1, r1, ev, eH⟩ => ?_)
  subst ev
  subst eH
  obtain rfl : w = Value.ref f := r1
  have of1 := I1.base.keep f _ hf hfn hfr (fun z => nomatch (show f ∈ ([] : List Addr) from z))
  have ot1 := I1.base.keep t _ ho htn htr (fun z => nomatch (show t ∈ ([] : List Addr) from z))
  refine PySem.W.callWith_F0 ⟨_, _, _, _, of1⟩ ?_
  have un : Un (frs X.stack) [] H H1 s.heap s1.heap := I1.base
  obtain ⟨⟨oc, vs, tq, hoc, hdc, hvc⟩, _, _⟩ := I1.hok c' _ hc
  have rc : codeAny (model X.prog X.w) (X.A.deeper (envOfC qg sg s.heap.objs.size g cdg)) (.call (.ref f) ⟨[], []⟩) (CR (L2.CX X.prog X.w) (envOfC qg sg s.heap.objs.size g cdg :: X.stack) X.prog X.w H1 s1 Q E) s1 := by
    refine PySem.W.kla_callFunE hr.depth of1 rfl L.co L.gen rfl ⟨c', oc, vs, tq, rfl, hoc, hdc, hvc⟩ (hbind s1 ot1 _ _ _ _ ?_)
    refine wpAny_newFunctionEnv (fun y hy => L.cel y hy) (fun z hz => by rw [List.mem_singleton.mp hz]; exact hy) (fun h₁ hns hsb => ⟨I1.nolimit.fresh _ hsb, ?_⟩) L.kind
    show codeAny _ _ (.expr body (lamEnv X scope s1.heap.objs.size f c')) _ _
    have kp : ∀ b o, s1.heap.get? b = some o → h₁.get? b = some o := fun b o e => hsb.extBut b o (Nat.ne_of_lt (Heap.lt_size e)) (Heap.get?_push_of_some _ e)
    have J : Inv (lamCx X (X.A.deeper (envOfC qg sg s.heap.objs.size g cdg)) (envOfC qg sg s.heap.objs.size g cdg :: X.stack) s1 H1 E scope f c') [] σ H1 { s1 with heap := h₁, toks := s1.toks + ([(y, u)] : List (Str × Value)).length } :=
      lam_startT I L I1.env0 hr.hd un hns kp
    refine PySem.W.kla_codeExpr (wpAny_mono ((hbody _ _ s1 H1 (hr.deeper _)).run [] _ _ H1 Q J ht) (fun v s' hq => ?_) fun e s' hq => hq)
    obtain ⟨w', H', J', rv, q⟩ := hq
    exact ⟨w', H', J'.os, J'.bare, J'.base, J'.hok, rv, q⟩
  have hx : Passes (L2.CX X.prog X.w) ((cxOf CXg X.prog X.w X.K X.mg X.base Ng qg sg g cdg X.A X.stack s H Eg).tr pn xe) E := passes_call tk hW
  refine wpAny_call (codeAny_mono rc fun r s' hq => ?_)
  cases r with
  | error e => exact hx pinsZ σZ H1 s1 e s' I1 hq
  | ok fl =>
    cases fl with
    | ret u => exact I1.after hq
    | next => exact False.elim hq
    | brk => exact False.elim hq
    | cont => exact False.elim hq
end
section
variable {X : Cx}
/-- x(lambda y=e0: body) -/
theorem pe_lamcallT {T : List (Addr × Str)} {TT : (XK → Hp → VK → Prop) → Hp → VK → Prop} {x a y : Str} {g c P : Addr} {k : Nat} {pg : Arguments} {bg : List Stmt} {sg : Scope} {dV kV doc pm cdv ct oc : Value} {an od : Option Addr} {osl : Array (Option Value)} {Ng : List Str} {i : Int}
    {params : Arguments} {body e0 : Expr} {scope : Scope} {t : XK → TE} {p lpos pos : Pos} (hg : Gl X x) (hm : X.mg x = some (.ref g)) (hk : PySem.W.keepIn X.K (.ref g) = true)
    (lk : X.K.lookup g = some ⟨oc, od, .func (PySem.W.fnOf x x pg bg sg dV kV doc pm an cdv ct), osl⟩) (hcg : PySem.W.codeIn X.K cdv x = true) (hb : L2.Binds X.K (PySem.W.fnOf x x pg bg sg dV kV doc pm an cdv ct) [a] []) (Sg : FnScope Ng [a] sg) (hNg : Ng[0]? = some a) (hva : Vis sg a)
    (hG : GivesTo X Ng x sg g cdv bg a (X.env.qual ++ "<lambda>") TT)
    (TB : TabB X.base X.mg c P) (hcode : X.env.code = .ref c) (hmT : (P, X.env.qual ++ "<lambda>") ∈ T) (hu : ∀ p ∈ T, p.1 = P → p.2 = X.env.qual ++ "<lambda>") (hr : Room (k + 2) X.A) (L : LamT X.N X.env.scope scope) (hdf : params.defaults = [e0]) (hk0 : params.kw_defaults = []) (he0 : PE X e0 (tC (.int i)))
    (hbind : ∀ (s : Shared) (q : Str) (cl : List (Str × Addr)) (f : Addr) (u pm cv ctv doc : Value), s.heap.get? f = some (PySem.W.kdv_tup [u]) → BindsTo s (PySem.W.kdv_fn "<lambda>" q params (.expr body) scope cl (.ref f) doc pm cv ctv) ⟨[], []⟩ [(y, u)]) (hy : scope.names.lookup y = some .local)
    (hbody : ∀ (A : Around) (outer : List Env) (s : Shared) (H : Hp) (E : XK) (f c' : Addr), Room k (A.deeper (lamEnv X scope s.heap.objs.size f c')) → PE (lamCx X A outer s H E scope f c') body (t E))
    (hdb : (x == ("__debug__" : Str)) = false := by decide) (hd : (a == ("__debug__" : Str)) = false := by decide) (hcd : (a == ("__classdict__" : Str)) = false := by decide) :
    PE X (.Call (.Name x p) [.Lambda params body scope lpos] [] pos) (tLam T TT t) := by
  refine ⟨fun pins s σ H Q I h => ?_⟩
  obtain ⟨hT, h⟩ := h
  refine wpAny_Call_Name_kw (ld_glob I hg hm ?_ hdb)
  refine PySem.W.callWith_K (h₀ := X.base) I.ok.mod.kin hk ?_ (by rfl) (by rfl)
  show wpAny _ _ (spliced ((false, eval (.Lambda params body scope lpos) X.env) :: backTo pos (starEach [] X.env))) _ _ s
  refine Calls.spliced_cons (lam_makeT I TB hcode hmT hu hT hdf hk0 he0 (L.has I.ok) fun f tt c' u pm' ctv doc' H1 s' I1 eN T1 hot hf hfn hfr htn htr hco => ?_)
  refine Calls.spliced_nil ⟨I1.kIn, ?_⟩
  have rc : codeAny (model X.prog X.w) X.A (.call (.ref g) ⟨[.ref f], []⟩) (CR C8.CX0 X.stack X.prog X.w H1 s' Q C8.E0) s' := by
    refine run_ofS (N := Ng) (ps := [a]) (us := [.ref f]) (vs := [.ref f]) lk hcg Sg hr I1.env0 (hb s' [.ref f] I1.kIn rfl) (.cons rfl .nil) rfl fun hr' => ?_
    obtain ⟨t', ht', hq'⟩ := hG f c' s' H1 Q (fun E H' Q' => t E σ H' Q') (fun W pn xe E p1 p2 tk hW => pe_actT (i := 0) I1 L hot hf hfn hfr htn htr (fun s hs => hbind s _ _ _ _ _ _ _ _ hs) hy tk hW hr' (fun A outer s H hr2 => hbody A outer s H E f c' hr2) hNg hva hd hcd) hco (h H1 eN T1)
    exact ⟨t', ht'.nox, hq'⟩
  refine wpAny_call (codeAny_mono rc fun r s2 hq => ?_)
  cases r with
  | error e => exact (show False from hq).elim
  | ok fl =>
    cases fl with
    | ret u => exact I1.after hq
    | next => exact False.elim hq
    | brk => exact False.elim hq
    | cont => exact False.elim hq
end
/-- a lambda's one parameter with its default -/
theorem bind1 {e0 : Expr} {ps : Pos} {s : Shared} {q : Str} {cl : List (Str × Addr)} {f : Addr} {u pm cv ctv doc : Value} {body : Expr} {scope : Scope} (h : s.heap.get? f = some (PySem.W.kdv_tup [u])) :
    BindsTo s (PySem.W.kdv_fn "<lambda>" q { posonlyargs := [], args := [⟨"_law_a", none, ps⟩], vararg := none, kwonlyargs := [], kw_defaults := [], kwarg := none, defaults := [e0] } (.expr body) scope cl (.ref f) doc pm cv ctv) ⟨[], []⟩ [("_law_a", u)] :=
  BindsTo.of_defaults rfl h rfl rfl rfl
end Lmd

/-! SemG3 -/
set_option Elab.async false
set_option linter.all false
set_option maxRecDepth 100000
set_option maxHeartbeats 4000000
namespace Pd
open PySem PySem.Spec PyProof.Rows L2 PySem.W
local macro_rules | `(tactic| walk_at "ed") => `(tactic| repeat' (first
  | with_reducible (first
    | exact ed_int | exact ed_str | exact ed_bl | exact ed_non
    | exact ea_nil | refine' ea_cons ?_ ?_
    | refine' ed_isi ?_ ?_ | refine' ed_isi2 ?_ ?_ ?_
    | refine' ed_andV ?_ (fun _ => ?_) | refine' ed_orV ?_ (fun _ => ?_) | refine' ed_notV ?_
    | refine' ed_chain ?_ ?_ ?_ (fun _ => ⟨?_, ?_⟩)
    | refine' ed_tup ?_ ?_ | refine' ed_lst ?_ ?_
    | refine' et_not ?_ | refine' et_and ?_ (fun _ => ?_) | refine' et_or ?_ (fun _ => ?_) | exact et_yes
    | refine' et_test ?_ | refine' et_B ?_
    | refine' ed_op ?_ ?_ ?_
    | refine' ed_cb ?_ ?_)
  | exact ed_var rfl
  | exact kit_tt | exact kit_ii | exact kit_ib | exact kit_ll | exact kit_lt | exact kit_tl
  | exact r2_addI | exact r2_subI | exact r2_lt | exact r2_le | exact r2_gt | exact r2_ge | exact r2_isN | exact r2_notN
  | exact rc_lenT | exact rc_lenL | exact rc_intB | exact rc_tupL
  | with_reducible (first | refine' r2_eq ?_ ?_ | refine' r2_ne ?_ ?_)
  | exact sh_int _ | exact sh_sg _ | exact sh_cell _ | exact sh_edge _ | exact sh_pair _ | exact sh_str _ (by decide +kernel)
  | exact r2_ixT rfl | exact r2_ixL rfl
  | refine' ed_tup ?_ ?_
  | (show List.length _ ≤ 100000; simp; done)))
/-! ### a bench: its state, and what only looks at it -/
/-- what lies at M is looked at as if it were of the base -/
def vw (M : List Addr) (B H : Hp) : Hp := fun c => if c ∈ M then H c else B c
def rm (M : List Addr) (B : Hp) : Hp := fun c => if c ∈ M then none else B c
theorem vw_ex {M : List Addr} {B H : Hp} (e : Ex B H) : Ex (vw M B H) H := fun c o h => by
  unfold vw at h
  split at h
  · exact h
  · exact e c o h
theorem ex_vw {M : List Addr} {B H : Hp} (n : ∀ c ∈ M, B c = none) : Ex B (vw M B H) := fun c o h => by
  unfold vw
  by_cases hc : c ∈ M
  · rw [n c hc] at h
    cases h
  · rw [if_neg hc]
    exact h
theorem vw_at {M : List Addr} {B H : Hp} {c : Addr} {o : HO} (hc : c ∈ M) (h : H c = some o) : vw M B H c = some o := by
  unfold vw
  rw [if_pos hc]
  exact h
theorem un_vw {M : List Addr} {B H B2 H2 : Hp} (n : ∀ c ∈ M, B c = none) (g : Gr (vw M B H) H B2 H2) : Gr B H (rm M B2) H2 := by
  refine ⟨fun c o h => ?_, fun c o h => ?_, g.h, fun c h1 h2 => ?_⟩
  · have hc : c ∉ M := fun z => by rw [n c z] at h; cases h
    unfold rm
    rw [if_neg hc]
    exact g.b c o (ex_vw n c o h)
  · unfold rm at h
    split at h
    · cases h
    · exact g.t c o h
  · unfold rm
    by_cases hc : c ∈ M
    · rw [if_pos hc]
    · rw [if_neg hc]
      refine g.n c ?_ h2
      unfold vw
      rw [if_neg hc]
      exact h1
/-- data with no list in it -/
def Nl (d : PyData) : Prop := ∀ (M : List Addr) (B : Hp) (v : V), (∀ c ∈ M, ∀ xs, B c ≠ some (.tup xs)) → DH B v d → DH (rm M B) v d
theorem nl_flat {d : PyData} (h : Flat d) : Nl d := fun M B v _ dv => h _ _ _ dv
theorem nl_tup {ds : List PyData} (h : ∀ d ∈ ds, Nl d) : Nl (.tuple ds) := fun M B v n dv => by
  cases dv with
  | @tup a xs _ ha hs =>
    have key : ∀ (ds : List PyData) (xs : List V), (∀ d ∈ ds, Nl d) → DHs B xs ds → DHs (rm M B) xs ds := by
      intro ds
      induction ds with
      | nil => intro xs _ q; cases q; exact .nil
      | cons d ds ih =>
        intro xs h q
        cases q with
        | cons q r => exact .cons (h _ (List.mem_cons_self ..) M B _ n q) (ih _ (fun d hd => h d (List.mem_cons_of_mem _ hd)) r)
    have hx : DHs (rm M B) xs ds := key ds xs h hs
    refine .tup (a := a) ?_ hx
    unfold rm
    rw [if_neg fun z => n a z xs ha]
    exact ha
/-! dicts with text keys -/
def ptGet {α : Type} (pt : List (Str × α)) (x : Str) : Option α := (pt.find? fun p => decide (p.1 = x)).map (·.2)
def ptPut {α : Type} (pt : List (Str × α)) (x : Str) (d : α) : List (Str × α) := if (pt.any fun p => decide (p.1 = x)) = true then pt.map (fun p => if p.1 = x then (p.1, d) else p) else pt ++ [(x, d)]
inductive PtOk (B : Hp) : List (Key × V) → List (Str × PyData) → Prop
  | nil : PtOk B [] []
  | cons {x : Str} {v : V} {d : PyData} {kvs : List (Key × V)} {pt : List (Str × PyData)} (h : DH B v d) (r : PtOk B kvs pt) : PtOk B ((Sum.inr x, v) :: kvs) ((x, d) :: pt)
theorem PtOk.mono {B B' : Hp} (e : Ex B B') : ∀ {kvs : List (Key × V)} {pt : List (Str × PyData)}, PtOk B kvs pt → PtOk B' kvs pt
  | _, _, .nil => .nil
  | _, _, .cons h r => .cons (h.mono e) (r.mono e)
theorem PtOk.length {B : Hp} : ∀ {kvs : List (Key × V)} {pt : List (Str × PyData)}, PtOk B kvs pt → kvs.length = pt.length
  | _, _, .nil => rfl
  | _, _, .cons _ r => congrArg (· + 1) r.length
theorem PtOk.keys {B : Hp} : ∀ {kvs : List (Key × V)} {pt : List (Str × PyData)}, PtOk B kvs pt → kvs.map (·.1) = (pt.map (·.1)).map Sum.inr
  | _, _, .nil => rfl
  | _, _, .cons _ r => by rw [List.map_cons, List.map_cons, List.map_cons, r.keys]
theorem inr_eq {x y : Str} : ((Sum.inr x : Key) = Sum.inr y) ↔ x = y := ⟨fun h => Sum.inr.inj h, fun h => by rw [h]⟩
theorem PtOk.any {B : Hp} {x : Str} : ∀ {kvs : List (Key × V)} {pt : List (Str × PyData)}, PtOk B kvs pt → (kvs.any fun kv => decide (kv.1 = Sum.inr x)) = pt.any fun p => decide (p.1 = x)
  | _, _, .nil => rfl
  | _, _, .cons (x := y) _ r => by
    rw [List.any_cons, List.any_cons, r.any]
    by_cases h : y = x <;> simp [h, inr_eq]
theorem PtOk.get {B : Hp} {x : Str} : ∀ {kvs : List (Key × V)} {pt : List (Str × PyData)}, PtOk B kvs pt → (valV kvs (Sum.inr x) = none ∧ ptGet pt x = none) ∨ ∃ v d, valV kvs (Sum.inr x) = some v ∧ ptGet pt x = some d ∧ DH B v d
  | _, _, .nil => .inl ⟨rfl, rfl⟩
  | _, _, .cons (x := y) (v := v) (d := d) h r => by
    by_cases e : y = x
    · subst e
      exact .inr ⟨v, d, valV_pos rfl, by simp [ptGet], h⟩
    · have e1 : ¬ ((Sum.inr y : Key), v).1 = Sum.inr x := fun z => e (inr_eq.mp z)
      rw [valV_neg e1]
      have e2 : ∀ (r : List (Str × PyData)), ptGet ((y, d) :: r) x = ptGet r x := fun r => by simp [ptGet, List.find?_cons, e]
      rw [e2]
      exact r.get
theorem PtOk.app {B : Hp} {x : Str} {v : V} {d : PyData} (h : DH B v d) : ∀ {kvs : List (Key × V)} {pt : List (Str × PyData)}, PtOk B kvs pt → PtOk B (kvs ++ [(Sum.inr x, v)]) (pt ++ [(x, d)])
  | _, _, .nil => .cons h .nil
  | _, _, .cons g r => .cons g (r.app h)
theorem PtOk.rep {B : Hp} {x : Str} {v : V} {d : PyData} (h : DH B v d) : ∀ {kvs : List (Key × V)} {pt : List (Str × PyData)}, PtOk B kvs pt → PtOk B (kvs.map fun kv => if kv.1 = Sum.inr x then (kv.1, v) else kv) (pt.map fun p => if p.1 = x then (p.1, d) else p)
  | _, _, .nil => .nil
  | _, _, .cons (x := y) g r => by
    rw [List.map_cons, List.map_cons]
    by_cases e : y = x
    · rw [if_pos (inr_eq.mpr e), if_pos e]
      exact .cons h (r.rep h)
    · rw [if_neg (fun z => e (inr_eq.mp z)), if_neg e]
      exact .cons g (r.rep h)
theorem PtOk.put {B : Hp} {x : Str} {v : V} {d : PyData} {kvs : List (Key × V)} {pt : List (Str × PyData)} (o : PtOk B kvs pt) (h : DH B v d) : PtOk B (putK kvs (Sum.inr x) v) (ptPut pt x d) := by
  unfold putK ptPut
  rw [o.any]
  split
  · exact o.rep h
  · exact o.app h
theorem ptPut_len {α : Type} (pt : List (Str × α)) (x : Str) (d : α) : (ptPut pt x d).length ≤ pt.length + 1 := by
  unfold ptPut
  split
  · rw [List.length_map]; omega
  · rw [List.length_append]; exact Nat.le_refl _
theorem ptGet_map {α β : Type} (f : α → β) (x : Str) : ∀ (pt : List (Str × α)), ptGet (pt.map fun p => (p.1, f p.2)) x = (ptGet pt x).map f
  | [] => rfl
  | p :: pt => by
    have ih := ptGet_map f x pt
    unfold ptGet at ih ⊢
    rw [List.map_cons]
    by_cases e : p.1 = x
    · simp [e]
    · simp only [List.find?_cons, e, decide_false]
      exact ih
theorem ptPut_map {α β : Type} (f : α → β) (x : Str) (d : α) (pt : List (Str × α)) : ptPut (pt.map fun p => (p.1, f p.2)) x (f d) = (ptPut pt x d).map fun p => (p.1, f p.2) := by
  unfold ptPut
  have e : ((pt.map fun p => (p.1, f p.2)).any fun p => decide (p.1 = x)) = pt.any fun p => decide (p.1 = x) := by
    rw [List.any_map]
    rfl
  rw [e]
  split
  · rw [List.map_map, List.map_map]
    refine List.map_congr_left fun p _ => ?_
    show (if p.1 = x then (p.1, f d) else (p.1, f p.2)) = ((if p.1 = x then (p.1, d) else p).1, f (if p.1 = x then (p.1, d) else p).2)
    split <;> rfl
  · rw [List.map_append]
    rfl
theorem ptGet_put {α : Type} {pt : List (Str × α)} {x y : Str} {d e : α} (h : ptGet (ptPut pt x d) y = some e) : e = d ∨ ptGet pt y = some e := by
  unfold ptPut at h
  split at h
  · rename_i ha
    clear ha
    induction pt with
    | nil => exact .inr h
    | cons p pt ih =>
      rw [List.map_cons] at h
      by_cases hp : p.1 = x
      · rw [if_pos hp] at h
        by_cases hy : p.1 = y
        · simp [ptGet, List.find?_cons, hy] at h
          exact .inl h.symm
        · have h : ptGet (pt.map fun p => if p.1 = x then (p.1, d) else p) y = some e := by simpa [ptGet, List.find?_cons, hy] using h
          rcases ih h with z | z
          · exact .inl z
          · exact .inr (by simpa [ptGet, List.find?_cons, hy] using z)
      · rw [if_neg hp] at h
        by_cases hy : p.1 = y
        · exact .inr (by simpa [ptGet, List.find?_cons, hy] using h)
        · have h : ptGet (pt.map fun p => if p.1 = x then (p.1, d) else p) y = some e := by simpa [ptGet, List.find?_cons, hy] using h
          rcases ih h with z | z
          · exact .inl z
          · exact .inr (by simpa [ptGet, List.find?_cons, hy] using z)
  · unfold ptGet at h ⊢
    rw [List.find?_append] at h
    cases q : pt.find? fun p => decide (p.1 = y) with
    | some p => rw [q] at h; exact .inr h
    | none =>
      rw [q] at h
      by_cases hx : x = y
      · simp [List.find?_cons, hx] at h
        exact .inl h.symm
      · simp [List.find?_cons, hx] at h
theorem ptPut_mem {α : Type} {pt : List (Str × α)} {x : Str} {d : α} {p : Str × α} (h : p ∈ ptPut pt x d) : p = (x, d) ∨ p ∈ pt := by
  unfold ptPut at h
  split at h
  · obtain ⟨q, hq, e⟩ := List.mem_map.mp h
    split at e
    · rename_i hx
      rw [← e, hx]
      exact .inl rfl
    · rw [← e]
      exact .inr hq
  · rcases List.mem_append.mp h with h | h
    · exact .inr h
    · exact .inl (List.mem_singleton.mp h)
theorem ptGet_mem {α : Type} {pt : List (Str × α)} {x : Str} {d : α} (h : ptGet pt x = some d) : (x, d) ∈ pt := by
  unfold ptGet at h
  obtain ⟨p, hp, e⟩ := Option.map_eq_some_iff.mp h
  have h1 := List.find?_some hp
  have h2 := List.mem_of_find?_eq_some hp
  have h3 : p.1 = x := by simpa using h1
  rw [← h3, ← e]
  exact h2
/-- a bench: how it stands, its steps, its marks -/
structure BSt where
  hd : PyData
  now : PyData
  tr : List PyData
  pt : List (Str × PyData)
structure BAd where
  x : Addr
  dx : Addr
  lt : Addr
  lp : Addr
def BAd.l (a : BAd) : List Addr := [a.x, a.dx, a.lt, a.lp]
def bFs (vh vn vb vi : V) (a : BAd) : List (Str × V) := [("_hall", vh), ("_now", vn), ("_trail", .ref a.lt), ("_points", .ref a.lp), ("_batches", vb), ("_idle", vi)]
structure Bo (C : Addr) (a : BAd) (B H : Hp) (b : BSt) : Prop where
  ins : ∃ vh vn vb vi, H a.x = some (.ins C a.dx (bFs vh vn vb vi a)) ∧ DH B vh b.hd ∧ DH B vn b.now
  own : H a.dx = some (.own a.x)
  tr : ∃ xs, H a.lt = some (.lst xs) ∧ DHs B xs b.tr
  pt : ∃ kvs, H a.lp = some (.dK kvs) ∧ PtOk B kvs b.pt
theorem Bo.mono {C : Addr} {a : BAd} {B H B' H' : Hp} {b : BSt} (o : Bo C a B H b) (eb : Ex B B') (k : ∀ c ∈ a.l, ∀ u, H c = some u → H' c = some u) : Bo C a B' H' b := by
  obtain ⟨⟨vh, vn, vb, vi, i1, i2, i3⟩, o2, ⟨xs, t1, t2⟩, ⟨ys, b1, b2⟩⟩ := o
  exact ⟨⟨vh, vn, vb, vi, k _ (by simp [BAd.l]) _ i1, i2.mono eb, i3.mono eb⟩, k _ (by simp [BAd.l]) _ o2, ⟨xs, k _ (by simp [BAd.l]) _ t1, t2.mono eb⟩, ⟨ys, k _ (by simp [BAd.l]) _ b1, b2.mono eb⟩⟩
theorem Bo.view {C : Addr} {a : BAd} {B H : Hp} {b : BSt} {M : List Addr} (o : Bo C a B H b) (hm : ∀ c ∈ a.l, c ∈ M) (n : ∀ c ∈ M, B c = none) : Bo C a (vw M B H) (vw M B H) b :=
  o.mono (ex_vw n) fun c hc u e => vw_at (hm c hc) e
theorem Bo.kinds {C : Addr} {a : BAd} {B H : Hp} {b : BSt} (o : Bo C a B H b) : ∀ c ∈ a.l, H c ≠ none ∧ (∀ xs, H c ≠ some (.tup xs)) ∧ (∀ ps, H c ≠ some (.tbl ps)) ∧ (∀ d q, H c ≠ some (LamX.CodeO d q)) := by
  obtain ⟨⟨vh, vn, vb, vi, i1, i2, i3⟩, o2, ⟨xs, t1, t2⟩, ⟨ys, b1, b2⟩⟩ := o
  intro c hc
  simp only [BAd.l, List.mem_cons, List.not_mem_nil, or_false] at hc
  rcases hc with rfl | rfl | rfl | rfl
  · rw [i1]; exact ⟨fun z => (nomatch z), fun _ z => (nomatch z), fun _ z => (nomatch z), fun _ _ z => by unfold LamX.CodeO at z; cases z⟩
  · rw [o2]; exact ⟨fun z => (nomatch z), fun _ z => (nomatch z), fun _ z => (nomatch z), fun _ _ z => by unfold LamX.CodeO at z; cases z⟩
  · rw [t1]; exact ⟨fun z => (nomatch z), fun _ z => (nomatch z), fun _ z => (nomatch z), fun _ _ z => by unfold LamX.CodeO at z; cases z⟩
  · rw [b1]; exact ⟨fun z => (nomatch z), fun _ z => (nomatch z), fun _ z => (nomatch z), fun _ _ z => by unfold LamX.CodeO at z; cases z⟩
theorem Bo.nn {C : Addr} {a : BAd} {B H : Hp} {b : BSt} (o : Bo C a B H b) : ∀ c ∈ a.l, H c ≠ none ∧ ∀ xs, H c ≠ some (.tup xs) := fun c hc => ⟨(o.kinds c hc).1, (o.kinds c hc).2.1⟩
/-- what of the class's text a bench wants -/
structure BK (K : PySem.W.Frag) (C : Addr) : Prop where
  c : Cls K C
  n1 : NoAttr K C "_hall"
  n2 : NoAttr K C "_now"
  n3 : NoAttr K C "_trail"
  n4 : NoAttr K C "_points"
  n5 : NoAttr K C "_batches"
  n6 : NoAttr K C "_idle"
theorem lk1 {vh vn vb vi : V} {a : BAd} : (bFs vh vn vb vi a).lookup ("_hall" : Str) = some vh := by kernel_rfl
theorem lk2 {vh vn vb vi : V} {a : BAd} : (bFs vh vn vb vi a).lookup ("_now" : Str) = some vn := by kernel_rfl
theorem lk3 {vh vn vb vi : V} {a : BAd} : (bFs vh vn vb vi a).lookup ("_trail" : Str) = some (V.ref a.lt) := by kernel_rfl
theorem lk4 {vh vn vb vi : V} {a : BAd} : (bFs vh vn vb vi a).lookup ("_points" : Str) = some (V.ref a.lp) := by kernel_rfl
/-- a bench in slot j, all of it in the base -/
def Sb (C : Addr) (a : BAd) (b : BSt) (j : Nat) (σ : L2.St) (B : Hp) : Prop := σ[j]? = some (some (.ref a.x)) ∧ Bo C a B B b
section
variable {K : PySem.W.Frag} {C : Addr} {a : BAd} {b : BSt} {j : Nat} {ρ ρ' : Rho} {ta tb te : TE} {tt tu : TT} {tr : TA} {d e z : PyData} {ds : List PyData}
theorem Sb.mono {σ : L2.St} {B B' : Hp} (s : Sb C a b j σ B) (e : Ex B B') : Sb C a b j σ B' := ⟨s.1, s.2.mono e fun c _ u h => e c u h⟩
theorem Sb.env {σ σ' : L2.St} {B : Hp} {vs : List Nat} (s : Sb C a b j σ B) (w : L2.wipe σ' vs = L2.wipe σ vs) (hj : j ∉ vs) : Sb C a b j σ' B := by
  refine ⟨?_, s.2⟩
  have h1 := wipe_get σ' vs j
  have h2 := wipe_get σ vs j
  rw [if_neg (fun z => hj z.1)] at h1 h2
  rw [← h1, w, h2]
  exact s.1
def ES (C : Addr) (a : BAd) (b : BSt) (j : Nat) (te : TE) (ρ : Rho) (d : PyData) : Prop := ∀ σ B H, Ex B H → EnvD σ B ρ → Sb C a b j σ B → ∀ Q : VK, (∀ v B' H', Gr B H B' H' → DH B' v d → Q v H') → te σ H Q
def AS (C : Addr) (a : BAd) (b : BSt) (j : Nat) (ta : TA) (ρ : Rho) (ds : List PyData) : Prop := ∀ σ B H, Ex B H → EnvD σ B ρ → Sb C a b j σ B → ∀ Q : List V → Hp → Prop, (∀ v B' H', Gr B H B' H' → DHs B' v ds → Q v H') → ta σ H Q
def TSb (C : Addr) (a : BAd) (b : BSt) (j : Nat) (tt : TT) (ρ : Rho) (r : Bool) : Prop := ∀ σ B H, Ex B H → EnvD σ B ρ → Sb C a b j σ B → ∀ Q : Bool → Hp → Prop, (∀ B' H', Gr B H B' H' → Q r H') → tt σ H Q
theorem es_ed (h : ED te ρ d) : ES C a b j te ρ d := fun σ B H ex ev _ => h σ B H ex ev
theorem ES.is {d' : PyData} (h : ES C a b j te ρ d) (e : d = d') : ES C a b j te ρ d' := e ▸ h
theorem es_op {r : R2} (ha : ES C a b j ta ρ d) (hb : ES C a b j tb ρ e) (hr : RD2 r d e z) : ES C a b j (tOp r ta tb) ρ z := fun σ B H ex ev s Q q => by
  refine ha σ B H ex ev s _ fun x B1 H1 g1 d1 => ?_
  refine hb σ B1 H1 g1.t (ev.mono g1.b) (s.mono g1.b) _ fun y B2 H2 g2 d2 => ?_
  exact hr B2 H2 x y g2.t (d1.mono g2.b) d2 Q fun v B' H' g3 d3 => q v B' H' ((g1.trans g2).trans g3) d3
theorem as_nil : AS C a b j tNil ρ [] := fun σ B H ex ev _ Q q => q [] B H (Gr.refl ex) .nil
theorem as_cons (h : ES C a b j ta ρ d) (hr : AS C a b j tr ρ ds) : AS C a b j (tCons ta tr) ρ (d :: ds) := fun σ B H ex ev s Q q => by
  refine h σ B H ex ev s _ fun x B1 H1 g1 d1 => ?_
  refine hr σ B1 H1 g1.t (ev.mono g1.b) (s.mono g1.b) _ fun xs B2 H2 g2 d2 => ?_
  exact q (x :: xs) B2 H2 (g1.trans g2) (.cons (d1.mono g2.b) d2)
theorem es_cb {r : List V → Hp → VK → Prop} (h : AS C a b j tr ρ ds) (hr : RC r ds z) : ES C a b j (tCB r tr) ρ z := fun σ B H ex ev s Q q => by
  refine h σ B H ex ev s _ fun xs B1 H1 g1 d1 => ?_
  exact hr B1 H1 xs g1.t d1 Q fun v B' H' g3 d3 => q v B' H' (g1.trans g3) d3
theorem es_tup (h : AS C a b j tr ρ ds) (hl : ds.length ≤ 100000) : ES C a b j (tTup tr) ρ (.tuple ds) := fun σ B H ex ev s Q q => by
  refine h σ B H ex ev s _ fun xs B1 H1 g1 d1 => ⟨?_, fun p hp => ?_⟩
  · rw [d1.length]
    exact Nat.le_trans hl (by decide)
  · have g2 := Gr.new (o := .tup xs) g1.t hp
    exact q _ _ _ (g1.trans g2) (.tup upd_same (d1.mono g2.b))
theorem es_call {R : List PyData → PyData → Prop} (h : AS C a b j tr ρ ds) (hR : R ds d) : ES C a b j (tCallD (spR R) tr) ρ d := fun σ B H ex ev s Q q => by
  refine h σ B H ex ev s _ fun vs B1 H1 g1 d1 => ⟨B1, ds, d, g1.t, ?_, hR, fun v B' H' g2 d2 => q v B' H' (g1.trans g2) d2⟩
  rw [List.append_nil]
  exact d1
theorem ts_test {r : Bool} (h : ES C a b j te ρ (.bool r)) : TSb C a b j (tTest te) ρ r := fun σ B H ex ev s Q q => by
  refine h σ B H ex ev s _ fun v B1 H1 g1 d1 => ?_
  cases d1
  exact ⟨r, rfl, q B1 H1 g1⟩
theorem ts_B {r : Bool} (h : ES C a b j te ρ (.bool r)) : TSb C a b j (tB te) ρ r := ts_test h
theorem ts_or {r q : Bool} (h1 : TSb C a b j tt ρ r) (h2 : r = false → TSb C a b j tu ρ q) : TSb C a b j (tOr tt tu) ρ (r || q) := fun σ B H ex ev s Q k => by
  refine h1 σ B H ex ev s _ fun B1 H1 g1 => ?_
  cases r with
  | true => exact k B1 H1 g1
  | false => exact h2 rfl σ B1 H1 g1.t (ev.mono g1.b) (s.mono g1.b) Q fun B' H' g3 => k B' H' (g1.trans g3)
theorem ts_not {r : Bool} (h : TSb C a b j tt ρ r) : TSb C a b j (tNot tt) ρ (!r) := fun σ B H ex ev s Q q => h σ B H ex ev s _ fun B1 H1 g1 => q B1 H1 g1
theorem TSb.is {r q : Bool} (h : TSb C a b j tt ρ r) (e : r = q) : TSb C a b j tt ρ q := e ▸ h
theorem ts_same {n : Nat} (ha : ES C a b j ta ρ d) (hb : ES C a b j tb ρ d) (hn : Nice n d) (h : n ≤ 64) : TSb C a b j (tTest (tOp (rNeD K) ta tb)) ρ false :=
  TSb.is (ts_test (es_op ha hb (r2_ne (nice_sh hn h) (nice_sh hn h)))) (by rw [nice_eqv hn]; rfl)
/-! fields -/
variable (k : BK K C)
include k
theorem es_hall : ES C a b j (tFld K (tVar j) "_hall") ρ b.hd := fun σ B H ex ev s Q q => by
  obtain ⟨vh, vn, vb, vi, i1, i2, i3⟩ := s.2.ins
  exact ⟨_, s.1, a.x, C, a.dx, _, vh, rfl, ex _ _ i1, k.c, k.n1, lk1, q _ B H (Gr.refl ex) i2⟩
theorem es_now : ES C a b j (tFld K (tVar j) "_now") ρ b.now := fun σ B H ex ev s Q q => by
  obtain ⟨vh, vn, vb, vi, i1, i2, i3⟩ := s.2.ins
  exact ⟨_, s.1, a.x, C, a.dx, _, vn, rfl, ex _ _ i1, k.c, k.n2, lk2, q _ B H (Gr.refl ex) i3⟩
theorem es_trail : ES C a b j (tFld K (tVar j) "_trail") ρ (.list b.tr) := fun σ B H ex ev s Q q => by
  obtain ⟨vh, vn, vb, vi, i1, i2, i3⟩ := s.2.ins
  obtain ⟨xs, t1, t2⟩ := s.2.tr
  exact ⟨_, s.1, a.x, C, a.dx, _, _, rfl, ex _ _ i1, k.c, k.n3, lk3, q _ B H (Gr.refl ex) (.lst t1 t2)⟩
/-- self._points[x], there -/
theorem es_point {x : Str} (hx : ES C a b j te ρ (.str x)) (hd : ptGet b.pt x = some d) : ES C a b j (tDGet (tFld K (tVar j) "_points") te) ρ d := fun σ B H ex ev s Q q => by
  obtain ⟨vh, vn, vb, vi, i1, i2, i3⟩ := s.2.ins
  refine ⟨_, s.1, a.x, C, a.dx, _, _, rfl, ex _ _ i1, k.c, k.n4, lk4, ?_⟩
  refine hx σ B H ex ev s _ fun v B1 H1 g1 dv => ?_
  cases dv
  obtain ⟨kvs, p1, p2⟩ := s.2.pt
  rcases p2.get (x := x) with ⟨_, z⟩ | ⟨v, d', e1, e2, e3⟩
  · rw [z] at hd
    cases hd
  · rw [hd] at e2
    cases e2
    refine ⟨a.lp, v, rfl, ?_, q v B1 H1 g1 (e3.mono g1.b)⟩
    rw [← e1]
    exact DGet.k (k := Sum.inr x) (g1.h _ _ (ex _ _ p1))
theorem es_points0 {r : Bool} {x : Str} (hx : ES C a b j te ρ (.str x)) (hr : (ptGet b.pt x).isSome = r) : ES C a b j (tDNotIn te (tFld K (tVar j) "_points")) ρ (.bool (!r)) := fun σ B H ex ev s Q q => by
  refine hx σ B H ex ev s _ fun v B1 H1 g1 dv => ?_
  cases dv
  obtain ⟨vh, vn, vb, vi, i1, i2, i3⟩ := s.2.ins
  refine ⟨_, s.1, a.x, C, a.dx, _, _, rfl, g1.h _ _ (ex _ _ i1), k.c, k.n4, lk4, ?_⟩
  obtain ⟨kvs, p1, p2⟩ := s.2.pt
  refine ⟨a.lp, _, rfl, DGet.k (k := Sum.inr x) (g1.h _ _ (ex _ _ p1)), ?_⟩
  have e : (valV kvs (Sum.inr x)).isSome = r := by
    rw [← hr]
    rcases p2.get (x := x) with ⟨z1, z2⟩ | ⟨v, d', e1, e2, e3⟩
    · rw [z1, z2]; rfl
    · rw [e1, e2]; rfl
  rw [e]
  exact q _ B1 H1 g1 (.bl _)
end
/-- what tells a list made for it; S: what stands in the slots -/
def EG (S : L2.St → Hp → Prop) (te : TE) (ρ : Rho) (d : PyData) : Prop := ∀ σ B H, Ex B H → EnvD σ B ρ → S σ B → ∀ Q : VK, (∀ v B' H', Gr B H B' H' → DH B' v d → Q v H') → te σ H Q
def EGL (S : L2.St → Hp → Prop) (te : TE) (ρ : Rho) (P : List PyData → Prop) : Prop := ∀ σ B H, Ex B H → EnvD σ B ρ → S σ B → ∀ Q : VK, (∀ p xs ds B' H', P ds → Gr B H B' H' → H p = none → B' p = none → H' p = some (.lst xs) → DHs B' xs ds → Q (.ref p) H') → te σ H Q
abbrev ESL (C : Addr) (a : BAd) (b : BSt) (j : Nat) (te : TE) (ρ : Rho) (P : List PyData → Prop) : Prop := EGL (Sb C a b j) te ρ P
section
variable {K : PySem.W.Frag} {C : Addr} {a : BAd} {b : BSt} {j : Nat} {ρ ρ' : Rho} {ta tb te : TE} {d : PyData} {ds : List PyData} {vs : List Nat}
/-- a comprehension over a list -/
theorem eg_lcF {S : L2.St → Hp → Prop} (mono : ∀ σ B B', S σ B → Ex B B' → S σ B') (env : ∀ σ σ' B, S σ B → L2.wipe σ' vs = L2.wipe σ vs → S σ' B) {α : Type} {tl : TE} {g : TG} (L : List α → Prop) (enc : α → PyData) (v : α → PyData) (hl : ∀ σ B H, Ex B H → EnvD σ B ρ → S σ B → ∀ Q : VK, (∀ x items B' H', L items → items.length ≤ 100000 → Gr B H B' H' → DH B' x (.list (items.map enc)) → Q x H') → tl σ H Q)
    (ht : ∀ items, L items → ∀ d ∈ items, ∃ ρ', GD g (wipeR ρ vs) (enc d) ρ' vs ∧ EG S te ρ' (v d)) : EGL S (tLc (iList K tl) g tYes te vs) ρ (fun ds => ∃ items, L items ∧ ds = items.map v) := fun σ B H ex ev s Q q => by
  refine hl σ B H ex ev s _ fun x items B1 H1 hL hz g1 dx => ?_
  have s1 := mono _ _ _ s g1.b
  have ev1 := ev.mono g1.b
  -- the list, put into a slot of its own
  have e : ∀ (σ : L2.St) (H : Hp) (R : It → Hp → Prop), iList K (fun _ H Q => Q x H) σ H R = ∃ p, x = .ref p ∧ (∃ xs, SqL K H p xs) ∧ R (Itl K p) H := fun _ _ _ => rfl
  cases dx with
  | @lst p xs _ hp hs =>
    have hJ : ItD (Itl K p) B1 (items.map enc) := fun B2 H2 e1 e2 i => by
      refine ⟨fun hi => ⟨xs, SqL.of (e2 _ _ (e1 _ _ hp)), by rw [hs.length]; omega⟩, fun d hd => ?_⟩
      obtain ⟨x, hx, dx⟩ := hs.get hd
      refine ⟨⟨xs, x, SqL.of (e2 _ _ (e1 _ _ hp)), hx⟩, fun y H' ⟨eh, hy⟩ => ⟨B2, ?_, ?_⟩⟩
      · subst eh
        exact Gr.refl e2
      · have := hy xs (SqL.of (e2 _ _ (e1 _ _ hp)))
        rw [hx] at this
        cases this
        exact dx.mono e1
    refine ⟨p, rfl, ⟨xs, SqL.of (g1.t _ _ hp)⟩, ?_⟩
    intro Dl hD
    have nB1 : B1 Dl = none := g1.t.nil hD
    refine ⟨fun i m H' => m = items.length - i ∧ i ≤ items.length ∧ ∃ B' xs, Gr B1 H1 B' H' ∧ H' Dl = some (.lst xs) ∧ B' Dl = none ∧ DHs B' xs ((items.take i).map v), ⟨items.length, by omega, Nat.zero_le _, B1, [], Gr.own g1.t hD, upd_same, nB1, .nil⟩, ?_⟩
    rintro i m H' ⟨rfl, hle, B', xs, g2, hDl, nB', hx⟩
    obtain ⟨hstop, hgo⟩ := hJ B' H' g2.b g2.t i
    by_cases hlt : i < items.length
    · right
      have hd : items[i]? = some items[i] := List.getElem?_eq_getElem hlt
      obtain ⟨go, hy⟩ := hgo (enc items[i]) (by rw [List.getElem?_map, hd]; rfl)
      refine ⟨go, fun H2 => i + 1 ≤ items.length ∧ ∃ B' xs, Gr B1 H1 B' H2 ∧ H2 Dl = some (.lst xs) ∧ B' Dl = none ∧ DHs B' xs ((items.take (i + 1)).map v), fun H2 ⟨h1, h2⟩ => ⟨items.length - (i + 1), by omega, rfl, h1, h2⟩, fun x H2 hyl => ?_⟩
      obtain ⟨B2, g3, dx⟩ := hy x H2 hyl
      obtain ⟨ρ', hg, hte⟩ := ht _ hL _ (List.mem_of_getElem? hd)
      have hDn : H' Dl ≠ none := by rw [hDl]; exact fun z => nomatch z
      have n2 : B2 Dl = none := g3.n _ nB' hDn
      have e2 := g3.h _ _ hDl
      refine hg (L2.wipe σ vs) B2 H2 x g3.t ((ev1.mono (g2.b.trans g3.b)).wipe vs) dx _ fun σ2 ev2 w2 => ⟨w2.trans (wipe_idem σ vs), ?_⟩
      unfold tYes
      dsimp only
      rw [if_pos rfl]
      refine hte σ2 B2 H2 g3.t ev2 (env _ _ _ (mono _ _ _ (mono _ _ _ s1 g2.b) g3.b) (w2.trans (wipe_idem σ vs))) _ fun y B4 H4 g5 d5 => ?_
      have n4 : B4 Dl = none := g5.n _ n2 (by rw [e2]; exact fun z => nomatch z)
      have e4 := g5.h _ _ e2
      have g25 := (g2.trans g3).trans g5
      refine ⟨xs, e4, ?_, hlt, B4, xs ++ [y], ⟨g25.b, g5.t.mut n4, g25.h.mut hD, g25.n⟩, upd_same, n4, ?_⟩
      · have hl := hx.length
        rw [hl, List.length_map, List.length_take]
        exact Nat.lt_of_le_of_lt (show min i items.length ≤ 100000 by omega) (by decide)
      · have e : items.take (i + 1) = items.take i ++ [items[i]] := by rw [List.take_add_one, hd]; rfl
        rw [e, List.map_append]
        exact (hx.mono (g3.b.trans g5.b)).append (.one d5)
    · left
      have hie : i = items.length := by omega
      subst hie
      refine ⟨hstop (by rw [List.length_map]), ?_⟩
      rw [List.take_length] at hx
      refine q Dl xs _ B' H' ⟨items, hL, rfl⟩ (g1.trans g2) ?_ nB' hDl hx
      cases hh : H Dl with
      | none => rfl
      | some u => rw [g1.h Dl u hh] at hD; cases hD
theorem es_lcF {α : Type} {tl : TE} {g : TG} (L : List α → Prop) (enc : α → PyData) (v : α → PyData) (hl : ∀ σ B H, Ex B H → EnvD σ B ρ → Sb C a b j σ B → ∀ Q : VK, (∀ x items B' H', L items → items.length ≤ 100000 → Gr B H B' H' → DH B' x (.list (items.map enc)) → Q x H') → tl σ H Q) (hj : j ∉ vs)
    (ht : ∀ items, L items → ∀ d ∈ items, ∃ ρ', GD g (wipeR ρ vs) (enc d) ρ' vs ∧ ES C a b j te ρ' (v d)) : ESL C a b j (tLc (iList K tl) g tYes te vs) ρ (fun ds => ∃ items, L items ∧ ds = items.map v) :=
  eg_lcF (fun σ B B' s e => s.mono e) (fun σ σ' B s w => s.env w hj) L enc v hl ht
/-- a list made for it, from now on of the base -/
theorem gr_in {B H B' H' : Hp} {p : Addr} {u : HO} (g : Gr B H B' H') (hp : H p = none) (nB : B' p = none) (hu : H' p = some u) (e : Ex B H) : Gr B H (upd B' p u) H' := by
  refine ⟨fun c o h => ?_, fun c o h => ?_, g.h, fun c h1 h2 => ?_⟩
  · exact Ex.new nB _ _ (g.b c o h)
  · by_cases hc : c = p
    · subst hc
      rw [upd_same] at h
      cases h
      exact hu
    · rw [upd_ne hc] at h
      exact g.t c o h
  · have : c ≠ p := fun z => h2 (by rw [z]; exact hp)
    rw [upd_ne this]
    exact g.n c h1 h2
/-- a dict of one's own in slot j, all of it in the base -/
def Sd (q : Addr) (pt : List (Str × PyData)) (j : Nat) (σ : L2.St) (B : Hp) : Prop := σ[j]? = some (some (.ref q)) ∧ ∃ kvs, B q = some (.dK kvs) ∧ PtOk B kvs pt
theorem Sd.mono {q : Addr} {pt : List (Str × PyData)} {σ : L2.St} {B B' : Hp} (s : Sd q pt j σ B) (e : Ex B B') : Sd q pt j σ B' := ⟨s.1, let ⟨kvs, h1, h2⟩ := s.2; ⟨kvs, e _ _ h1, h2.mono e⟩⟩
theorem Sd.env {q : Addr} {pt : List (Str × PyData)} {σ σ' : L2.St} {B : Hp} (s : Sd q pt j σ B) (w : L2.wipe σ' vs = L2.wipe σ vs) (hj : j ∉ vs) : Sd q pt j σ' B := by
  refine ⟨?_, s.2⟩
  have h1 := wipe_get σ' vs j
  have h2 := wipe_get σ vs j
  rw [if_neg (fun z => hj z.1)] at h1 h2
  rw [← h1, w, h2]
  exact s.1
theorem eg_ed {S : L2.St → Hp → Prop} (h : ED te ρ d) : EG S te ρ d := fun σ B H ex ev _ => h σ B H ex ev
theorem eg_tup2 {S : L2.St → Hp → Prop} {d1 d2 : PyData} (mono : ∀ σ B B', S σ B → Ex B B' → S σ B') (h1 : EG S ta ρ d1) (h2 : EG S tb ρ d2) : EG S (tTup (tCons ta (tCons tb tNil))) ρ (.tuple [d1, d2]) := fun σ B H ex ev s Q q => by
  refine h1 σ B H ex ev s _ fun x B1 H1 g1 e1 => ?_
  refine h2 σ B1 H1 g1.t (ev.mono g1.b) (mono _ _ _ s g1.b) _ fun y B2 H2 g2 e2 => ⟨by show 2 ≤ sizeLine; decide, fun p hp => ?_⟩
  have g3 := Gr.new (o := .tup [x, y]) g2.t hp
  exact q _ _ _ ((g1.trans g2).trans g3) (.tup upd_same (.cons ((e1.mono g2.b).mono g3.b) (.cons (e2.mono g3.b) .nil)))
theorem eg_op {S : L2.St → Hp → Prop} {r : R2} {e z : PyData} (mono : ∀ σ B B', S σ B → Ex B B' → S σ B') (ha : EG S ta ρ d) (hb : EG S tb ρ e) (hr : RD2 r d e z) : EG S (tOp r ta tb) ρ z := fun σ B H ex ev s Q q => by
  refine ha σ B H ex ev s _ fun x B1 H1 g1 d1 => ?_
  refine hb σ B1 H1 g1.t (ev.mono g1.b) (mono _ _ _ s g1.b) _ fun y B2 H2 g2 d2 => ?_
  exact hr B2 H2 x y g2.t (d1.mono g2.b) d2 Q fun v B' H' g3 d3 => q v B' H' ((g1.trans g2).trans g3) d3
theorem eg_get {q : Addr} {pt : List (Str × PyData)} {x : Str} (hx : ED te ρ (.str x)) (hd : ptGet pt x = some d) : EG (Sd q pt j) (tDGet (tVar j) te) ρ d := fun σ B H ex ev s Q k => by
  refine ⟨_, s.1, ?_⟩
  refine hx σ B H ex ev _ fun v B1 H1 g1 dv => ?_
  cases dv
  obtain ⟨kvs, p1, p2⟩ := s.2
  rcases p2.get (x := x) with ⟨_, z⟩ | ⟨v, d', e1, e2, e3⟩
  · rw [z] at hd
    cases hd
  · rw [hd] at e2
    cases e2
    refine ⟨q, v, rfl, ?_, k v B1 H1 g1 (e3.mono g1.b)⟩
    rw [← e1]
    exact DGet.k (k := Sum.inr x) (g1.h _ _ (ex _ _ p1))
end
end Pd

/-! SemG4 -/
set_option Elab.async false
set_option linter.all false
set_option maxRecDepth 100000
set_option maxHeartbeats 4000000
namespace Pd
open PySem PySem.Spec PyProof.Rows L2 PySem.W
local macro_rules | `(tactic| walk_at "ed") => `(tactic| repeat' (first
  | with_reducible (first
    | exact ed_int | exact ed_str | exact ed_bl | exact ed_non
    | exact ea_nil | refine' ea_cons ?_ ?_
    | refine' ed_isi ?_ ?_ | refine' ed_isi2 ?_ ?_ ?_
    | refine' ed_andV ?_ (fun _ => ?_) | refine' ed_orV ?_ (fun _ => ?_) | refine' ed_notV ?_
    | refine' ed_chain ?_ ?_ ?_ (fun _ => ⟨?_, ?_⟩)
    | refine' ed_tup ?_ ?_ | refine' ed_lst ?_ ?_
    | refine' et_not ?_ | refine' et_and ?_ (fun _ => ?_) | refine' et_or ?_ (fun _ => ?_) | exact et_yes
    | refine' et_test ?_ | refine' et_B ?_
    | refine' ed_op ?_ ?_ ?_
    | refine' ed_cb ?_ ?_)
  | exact ed_var rfl
  | exact kit_tt | exact kit_ii | exact kit_ib | exact kit_ll | exact kit_lt | exact kit_tl
  | exact r2_addI | exact r2_subI | exact r2_lt | exact r2_le | exact r2_gt | exact r2_ge | exact r2_isN | exact r2_notN
  | exact rc_lenT | exact rc_lenL | exact rc_intB | exact rc_tupL
  | with_reducible (first | refine' r2_eq ?_ ?_ | refine' r2_ne ?_ ?_)
  | exact sh_int _ | exact sh_sg _ | exact sh_cell _ | exact sh_edge _ | exact sh_pair _ | exact sh_str _ (by decide +kernel)
  | exact r2_ixT rfl | exact r2_ixL rfl
  | refine' ed_tup ?_ ?_
  | (show List.length _ ≤ 100000; simp; done)))
/-! ### what changes a bench -/
structure GrM (a : BAd) (B H B' H' : Hp) : Prop where
  b : Ex B B'
  h : ∀ c u, c ∉ a.l → H c = some u → H' c = some u
  n : ∀ c, B c = none → H c ≠ none → B' c = none
structure BW (C : Addr) (a : BAd) (B0 H0 : Hp) (b : BSt) (σ : L2.St) (B H : Hp) (ρ : Rho) : Prop where
  t : Ex B H
  e : EnvD σ B ρ
  s : σ[0]? = some (some (.ref a.x))
  bo : Bo C a B H b
  out : ∀ c ∈ a.l, B c = none
  gm : GrM a B0 H0 B H
theorem GrM.nn {C : Addr} {a : BAd} {b : BSt} {B H B' H' : Hp} (g : GrM a B H B' H') (bo : Bo C a B' H' b) {c : Addr} (h : H c ≠ none) : H' c ≠ none := by
  by_cases hc : c ∈ a.l
  · exact (bo.nn c hc).1
  · cases q : H c with
    | none => exact absurd q h
    | some u =>
      rw [g.h c u hc q]
      exact fun z => nomatch z
theorem GrM.trans {C : Addr} {a : BAd} {b : BSt} {B H B1 H1 B2 H2 : Hp} (g : GrM a B H B1 H1) (bo : Bo C a B1 H1 b) (k : GrM a B1 H1 B2 H2) : GrM a B H B2 H2 :=
  ⟨g.b.trans k.b, fun c u hc e => k.h c u hc (g.h c u hc e), fun c h1 h2 => k.n c (g.n c h1 h2) (g.nn bo h2)⟩
theorem Gr.m {a : BAd} {B H B' H' : Hp} (g : Gr B H B' H') : GrM a B H B' H' := ⟨g.b, fun c u _ e => g.h c u e, g.n⟩
section
variable {C : Addr} {a : BAd} {B0 H0 B H B' H' : Hp} {b b' : BSt} {σ σ' : L2.St} {ρ ρ' : Rho} {vs : List Nat}
theorem BW.gr (x : BW C a B0 H0 b σ B H ρ) (g : Gr B H B' H') : BW C a B0 H0 b σ B' H' ρ :=
  ⟨g.t, x.e.mono g.b, x.s, x.bo.mono g.b fun c _ u e => g.h c u e, fun c hc => g.n c (x.out c hc) (x.bo.nn c hc).1, x.gm.trans x.bo g.m⟩
theorem BW.env (x : BW C a B0 H0 b σ B H ρ) (e : EnvD σ' B ρ') (w : L2.wipe σ' vs = L2.wipe σ vs) (h0 : 0 ∉ vs) : BW C a B0 H0 b σ' B H ρ' := by
  refine ⟨x.t, e, ?_, x.bo, x.out, x.gm⟩
  have h1 := wipe_get σ' vs 0
  have h2 := wipe_get σ vs 0
  rw [if_neg (fun z => h0 z.1)] at h1 h2
  rw [← h1, w, h2]
  exact x.s
theorem BW.less (x : BW C a B0 H0 b σ B H ρ) (k : Rle ρ' ρ) : BW C a B0 H0 b σ B H ρ' := ⟨x.t, x.e.less k, x.s, x.bo, x.out, x.gm⟩
/-- the attributes changed -/
theorem BW.put {vh vn vb vi : V} {hd now : PyData} (x : BW C a B0 H0 b σ B H ρ) (h1 : DH B vh hd) (h2 : DH B vn now) : BW C a B0 H0 ⟨hd, now, b.tr, b.pt⟩ σ B (upd H a.x (.ins C a.dx (bFs vh vn vb vi a))) ρ := by
  obtain ⟨⟨wh, wn, wb, wi, i1, i2, i3⟩, o2, ⟨xs, t1, t2⟩, ⟨ys, b1, b2⟩⟩ := x.bo
  have n1 : a.dx ≠ a.x := fun z => by rw [z, i1] at o2; cases o2
  have n2 : a.lt ≠ a.x := fun z => by rw [z, i1] at t1; cases t1
  have n3 : a.lp ≠ a.x := fun z => by rw [z, i1] at b1; cases b1
  have hx : a.x ∈ a.l := by simp [BAd.l]
  refine ⟨x.t.mut (x.out _ hx), x.e, x.s, ⟨⟨vh, vn, vb, vi, upd_same, h1, h2⟩, by rw [upd_ne n1]; exact o2, ⟨xs, by rw [upd_ne n2]; exact t1, t2⟩, ⟨ys, by rw [upd_ne n3]; exact b1, b2⟩⟩, x.out, ⟨x.gm.b, fun c u hc e => ?_, x.gm.n⟩⟩
  rw [upd_ne (fun z => hc (by rw [z]; exact hx))]
  exact x.gm.h c u hc e
theorem BW.putT {xs : List V} {tr : List PyData} (x : BW C a B0 H0 b σ B H ρ) (h : DHs B xs tr) : BW C a B0 H0 ⟨b.hd, b.now, tr, b.pt⟩ σ B (upd H a.lt (.lst xs)) ρ := by
  obtain ⟨⟨wh, wn, wb, wi, i1, i2, i3⟩, o2, ⟨zs, t1, t2⟩, ⟨ys, b1, b2⟩⟩ := x.bo
  have n1 : a.dx ≠ a.lt := fun z => by rw [z, t1] at o2; cases o2
  have n2 : a.x ≠ a.lt := fun z => by rw [z, t1] at i1; cases i1
  have n3 : a.lp ≠ a.lt := fun z => by rw [z, t1] at b1; cases b1
  have hx : a.lt ∈ a.l := by simp [BAd.l]
  refine ⟨x.t.mut (x.out _ hx), x.e, x.s, ⟨⟨wh, wn, wb, wi, by rw [upd_ne n2]; exact i1, i2, i3⟩, by rw [upd_ne n1]; exact o2, ⟨xs, upd_same, h⟩, ⟨ys, by rw [upd_ne n3]; exact b1, b2⟩⟩, x.out, ⟨x.gm.b, fun c u hc e => ?_, x.gm.n⟩⟩
  rw [upd_ne (fun z => hc (by rw [z]; exact hx))]
  exact x.gm.h c u hc e
theorem BW.putP {kvs : List (Key × V)} {pt : List (Str × PyData)} (x : BW C a B0 H0 b σ B H ρ) (h : PtOk B kvs pt) : BW C a B0 H0 ⟨b.hd, b.now, b.tr, pt⟩ σ B (upd H a.lp (.dK kvs)) ρ := by
  obtain ⟨⟨wh, wn, wb, wi, i1, i2, i3⟩, o2, ⟨zs, t1, t2⟩, ⟨ys, b1, b2⟩⟩ := x.bo
  have n1 : a.dx ≠ a.lp := fun z => by rw [z, b1] at o2; cases o2
  have n2 : a.x ≠ a.lp := fun z => by rw [z, b1] at i1; cases i1
  have n3 : a.lt ≠ a.lp := fun z => by rw [z, b1] at t1; cases t1
  have hx : a.lp ∈ a.l := by simp [BAd.l]
  refine ⟨x.t.mut (x.out _ hx), x.e, x.s, ⟨⟨wh, wn, wb, wi, by rw [upd_ne n2]; exact i1, i2, i3⟩, by rw [upd_ne n1]; exact o2, ⟨zs, by rw [upd_ne n3]; exact t1, t2⟩, ⟨kvs, upd_same, h⟩⟩, x.out, ⟨x.gm.b, fun c u hc e => ?_, x.gm.n⟩⟩
  rw [upd_ne (fun z => hc (by rw [z]; exact hx))]
  exact x.gm.h c u hc e
end
/-- an expression of one's own bench -/
def EU (C : Addr) (a : BAd) (b : BSt) (te : TE) (ρ : Rho) (d : PyData) : Prop := ∀ B0 H0 σ B H, BW C a B0 H0 b σ B H ρ → ∀ Q : VK, (∀ v B' H', Gr B H B' H' → DH B' v d → Q v H') → te σ H Q
def AU (C : Addr) (a : BAd) (b : BSt) (ta : TA) (ρ : Rho) (ds : List PyData) : Prop := ∀ B0 H0 σ B H, BW C a B0 H0 b σ B H ρ → ∀ Q : List V → Hp → Prop, (∀ v B' H', Gr B H B' H' → DHs B' v ds → Q v H') → ta σ H Q
section
variable {K : PySem.W.Frag} {C : Addr} {a : BAd} {b : BSt} {B0 H0 B H : Hp} {σ : L2.St} {ρ ρ' : Rho} {ta tb te : TE} {tt : TT} {tr : TA} {d : PyData} {ds : List PyData}
theorem eu_ed (h : ED te ρ d) : EU C a b te ρ d := fun _ _ σ B H x => h σ B H x.t x.e
theorem au_nil : AU C a b tNil ρ [] := fun _ _ σ B H x Q q => q [] B H (Gr.refl x.t) .nil
theorem au_cons (h : EU C a b te ρ d) (hr : AU C a b tr ρ ds) : AU C a b (tCons te tr) ρ (d :: ds) := fun B0 H0 σ B H x Q q => by
  refine h B0 H0 σ B H x _ fun v B1 H1 g1 d1 => ?_
  refine hr B0 H0 σ B1 H1 (x.gr g1) _ fun xs B2 H2 g2 d2 => ?_
  exact q _ B2 H2 (g1.trans g2) (.cons (d1.mono g2.b) d2)
theorem eu_tup (h : AU C a b tr ρ ds) (hl : ds.length ≤ 100000) : EU C a b (tTup tr) ρ (.tuple ds) := fun B0 H0 σ B H x Q q => by
  refine h B0 H0 σ B H x _ fun xs B1 H1 g1 d1 => ⟨?_, fun p hp => ?_⟩
  · rw [d1.length]
    exact Nat.le_trans hl (by decide)
  · have g2 := Gr.new (o := .tup xs) g1.t hp
    exact q _ _ _ (g1.trans g2) (.tup upd_same (d1.mono g2.b))
theorem eu_call {R : List PyData → PyData → Prop} (h : AU C a b tr ρ ds) (hR : R ds d) : EU C a b (tCallD (spR R) tr) ρ d := fun B0 H0 σ B H x Q q => by
  refine h B0 H0 σ B H x _ fun vs B1 H1 g1 d1 => ⟨B1, ds, d, g1.t, ?_, hR, fun v B' H' g2 d2 => q v B' H' (g1.trans g2) d2⟩
  rw [List.append_nil]
  exact d1
/-- looked at: flat -/
theorem eu_view (h : ES C a b 0 te ρ d) (hf : Flat d) : EU C a b te ρ d := fun B0 H0 σ B H x Q q => by
  refine h σ (vw a.l B H) H (vw_ex x.t) (x.e.mono (ex_vw x.out)) ⟨x.s, x.bo.view (fun c hc => hc) x.out⟩ _ fun v B2 H2 g dv => ?_
  exact q v _ H2 (un_vw x.out g) (hf _ _ _ dv)
theorem bw_if {r : Bool} {t u : TS} {D : Ends} (x : BW C a B0 H0 b σ B H ρ) (h : TSb C a b 0 tt ρ r) (h1 : r = true → ∀ B H, BW C a B0 H0 b σ B H ρ → t D σ H) (h2 : r = false → ∀ B H, BW C a B0 H0 b σ B H ρ → u D σ H) : tIfS tt t u D σ H := by
  refine h σ (vw a.l B H) H (vw_ex x.t) (x.e.mono (ex_vw x.out)) ⟨x.s, x.bo.view (fun c hc => hc) x.out⟩ _ fun B2 H2 g => ?_
  have x2 := x.gr (un_vw x.out g)
  cases r with
  | true => exact h1 rfl _ H2 x2
  | false => exact h2 rfl _ H2 x2
theorem bw_asg {g : TG} {vs : List Nat} {D : Ends} (x : BW C a B0 H0 b σ B H ρ) (h : EU C a b te ρ d) (hg : GD g ρ d ρ' vs) (h0 : 0 ∉ vs) (k : ∀ σ' B' H', BW C a B0 H0 b σ' B' H' ρ' → D.nx σ' H') : tAsg te g D σ H := by
  refine h B0 H0 σ B H x _ fun v B2 H2 g2 dv => ?_
  have x2 := x.gr g2
  exact hg σ B2 H2 v x2.t x2.e dv _ fun σ' ev w => k σ' B2 H2 (x2.env ev w h0)
theorem bw_ret {D : Ends} (x : BW C a B0 H0 b σ B H ρ) (h : EU C a b te ρ d) (k : ∀ v B' H', BW C a B0 H0 b σ B' H' ρ → DH B' v d → D.rt v H') : tRet te D σ H :=
  h B0 H0 σ B H x _ fun v B' H' g dv => k v B' H' (x.gr g) dv
variable (k : BK K C)
include k
theorem eu_hall : EU C a b (tFld K (tVar 0) "_hall") ρ b.hd := fun _ _ σ B H x Q q => by
  obtain ⟨vh, vn, vb, vi, i1, i2, i3⟩ := x.bo.ins
  exact ⟨_, x.s, a.x, C, a.dx, _, vh, rfl, i1, k.c, k.n1, lk1, q _ B H (Gr.refl x.t) i2⟩
theorem eu_now : EU C a b (tFld K (tVar 0) "_now") ρ b.now := fun _ _ σ B H x Q q => by
  obtain ⟨vh, vn, vb, vi, i1, i2, i3⟩ := x.bo.ins
  exact ⟨_, x.s, a.x, C, a.dx, _, vn, rfl, i1, k.c, k.n2, lk2, q _ B H (Gr.refl x.t) i3⟩
/-- list(self._trail) -/
theorem eu_trailL : EU C a b (tCB (rListX K) (tCons (tFld K (tVar 0) "_trail") tNil)) ρ (.list b.tr) := fun _ _ σ B H x Q q => by
  obtain ⟨vh, vn, vb, vi, i1, i2, i3⟩ := x.bo.ins
  obtain ⟨xs, t1, t2⟩ := x.bo.tr
  refine ⟨_, x.s, a.x, C, a.dx, _, _, rfl, i1, k.c, k.n3, lk3, ?_⟩
  refine ⟨a.lt, xs, rfl, .inl (SqL.of t1), fun l hl => ?_⟩
  have g := Gr.new (o := .lst xs) x.t hl
  exact q _ _ _ g (.lst upd_same (t2.mono g.b))
/-- self._points[x], there -/
theorem eu_point {x : Str} (hx : EU C a b te ρ (.str x)) (hd : ptGet b.pt x = some d) : EU C a b (tDGet (tFld K (tVar 0) "_points") te) ρ d := fun B0 H0 σ B H o Q q => by
  obtain ⟨vh, vn, vb, vi, i1, i2, i3⟩ := o.bo.ins
  refine ⟨_, o.s, a.x, C, a.dx, _, _, rfl, i1, k.c, k.n4, lk4, ?_⟩
  refine hx B0 H0 σ B H o _ fun v B1 H1 g1 dv => ?_
  cases dv
  obtain ⟨kvs, p1, p2⟩ := (o.gr g1).bo.pt
  rcases p2.get (x := x) with ⟨_, z⟩ | ⟨v, d', e1, e2, e3⟩
  · rw [z] at hd
    cases hd
  · rw [hd] at e2
    cases e2
    refine ⟨a.lp, v, rfl, ?_, q v B1 H1 g1 e3⟩
    rw [← e1]
    exact DGet.k (k := Sum.inr x) p1
/-- self._trail.append(..) -/
theorem bw_trail {D : Ends} (x : BW C a B0 H0 b σ B H ρ) (h : EU C a b te ρ d) (hz : b.tr.length < 100000) (q : ∀ B' H', BW C a B0 H0 ⟨b.hd, b.now, b.tr ++ [d], b.pt⟩ σ B' H' ρ → D.nx σ H') : tDrop (tBM K "list" rAppend (tFld K (tVar 0) "_trail") (tCons te tNil)) D σ H := by
  obtain ⟨vh, vn, vb, vi, i1, i2, i3⟩ := x.bo.ins
  refine ⟨_, x.s, a.x, C, a.dx, _, _, rfl, i1, k.c, k.n3, lk3, ?_⟩
  obtain ⟨xs0, t0, _⟩ := x.bo.tr
  refine ⟨.inl ⟨rfl, _, SqL.of t0⟩, ?_⟩
  refine h B0 H0 σ B H x _ fun v B2 H2 g2 dv => ?_
  have x2 := x.gr g2
  obtain ⟨xs, t1, t2⟩ := x2.bo.tr
  refine ⟨a.lt, xs, v, rfl, rfl, t1, ?_, q B2 _ (x2.putT (t2.append (.one dv)))⟩
  rw [t2.length]
  exact Nat.lt_trans hz (by decide)
/-- self._points[x] = .. -/
theorem bw_point {D : Ends} {tx : TE} {x : Str} (o : BW C a B0 H0 b σ B H ρ) (h : EU C a b te ρ d) (hx : EU C a b tx ρ (.str x)) (hz : b.pt.length < 1000) (q : ∀ B' H', BW C a B0 H0 ⟨b.hd, b.now, b.tr, ptPut b.pt x d⟩ σ B' H' ρ → D.nx σ H') : sDPut (tFld K (tVar 0) "_points") tx te D σ H := by
  refine h B0 H0 σ B H o _ fun v B1 H1 g1 dv => ?_
  have o1 := o.gr g1
  obtain ⟨vh, vn, vb, vi, i1, i2, i3⟩ := o1.bo.ins
  refine ⟨_, o1.s, a.x, C, a.dx, _, _, rfl, i1, k.c, k.n4, lk4, ?_⟩
  refine hx B0 H0 σ B1 H1 o1 _ fun y B2 H2 g2 dy => ?_
  have o2 := o1.gr g2
  cases dy
  obtain ⟨kvs, p1, p2⟩ := o2.bo.pt
  have hl := p2.length
  exact ⟨a.lp, _, rfl, DPut.k (k := Sum.inr x) p1 (by rw [hl]; exact Nat.lt_trans hz (by decide)), q B2 _ (o2.putP (p2.put (dv.mono g2.b)))⟩
theorem putNow {vh vn vb vi y : V} : putF ("_now" : Str) y (bFs vh vn vb vi a) = bFs vh y vb vi a := by kernel_rfl
/-- self._now = .. -/
theorem bw_now {D : Ends} (x : BW C a B0 H0 b σ B H ρ) (h : EU C a b te ρ d) (q : ∀ B' H', BW C a B0 H0 ⟨b.hd, d, b.tr, b.pt⟩ σ B' H' ρ → D.nx σ H') : sFld K (tVar 0) te "_now" D σ H := by
  refine h B0 H0 σ B H x _ fun v B2 H2 g2 dv => ?_
  have x2 := x.gr g2
  obtain ⟨vh, vn, vb, vi, i1, i2, i3⟩ := x2.bo.ins
  refine ⟨_, x2.s, a.x, C, a.dx, _, rfl, i1, k.c, k.n2, by show 6 < 1000; decide, ?_⟩
  rw [show putF ("_now" : Str) v (bFs vh vn vb vi a) = bFs vh v vb vi a from putNow k]
  exact q B2 _ (x2.put i2 dv)
end
/-- what a method promises that changes the bench -/
def spM (C : Addr) (R : BSt → List PyData → BSt → PyData → Prop) : Sp := fun vs H Q _ => ∃ B a b ws ds b' d, vs = .ref a.x :: ws ∧ Ex B H ∧ Bo C a B H b ∧ (∀ c ∈ a.l, B c = none) ∧ DHs B ws ds ∧ R b ds b' d ∧
  ∀ v B' H', Ex B' H' → Bo C a B' H' b' → (∀ c ∈ a.l, B' c = none) → GrM a B H B' H' → DH B' v d → Q v H'
theorem env_self {N : List Str} {x : Addr} {vs : List V} {B : Hp} {ds : List PyData} (h : DHs B vs ds) (hl : vs.length + 1 ≤ N.length) : EnvD (L2.start N (.ref x :: vs)) B (none :: (ds.map some ++ List.replicate (N.length - (ds.length + 1)) none)) := by
  have e := h.length
  refine ⟨by simp [L2.start, e], fun i d q => ?_⟩
  unfold L2.start
  cases i with
  | zero => simp at q
  | succ i =>
    rw [List.getElem?_cons_succ] at q
    rw [List.map_cons, List.cons_append, List.getElem?_cons_succ]
    by_cases hi : i < ds.length
    · rw [List.getElem?_append_left (by rw [List.length_map]; exact hi), List.getElem?_map] at q
      cases hd : ds[i]? with
      | none => rw [hd] at q; simp at q
      | some u =>
        rw [hd] at q
        simp at q
        subst q
        obtain ⟨v, h1, h2⟩ := h.get hd
        refine ⟨v, ?_, h2⟩
        rw [List.getElem?_append_left (by rw [List.length_map]; omega), List.getElem?_map, h1]
        rfl
    · rw [List.getElem?_append_right (by rw [List.length_map]; omega)] at q
      rw [List.getElem?_replicate] at q
      split at q
      · cases q
      · cases q
section
variable {K : PySem.W.Frag} {C : Addr} {a : BAd} {b : BSt} {B0 H0 B H : Hp} {σ : L2.St} {ρ ρ' : Rho} {te : TE} {d : PyData}
theorem bw_start {N : List Str} {ws : List V} {ds : List PyData} (ex : Ex B H) (bo : Bo C a B H b) (out : ∀ c ∈ a.l, B c = none) (dv : DHs B ws ds) (hl : ws.length + 1 ≤ N.length) : BW C a B H b (L2.start N (.ref a.x :: ws)) B H (none :: (ds.map some ++ List.replicate (N.length - (ds.length + 1)) none)) :=
  ⟨ex, env_self dv hl, rfl, bo, out, ⟨Ex.refl B, fun c u _ e => e, fun c e _ => e⟩⟩
/-- the last door told -/
theorem es_lastDoor {j : Nat} {es : List PyData} {x y z : PyData} (k : BK K C) (ht : b.tr = es ++ [.tuple [x, y, z]]) : ES C a b j (tOp (rIx K) (tOp (rIx K) (tFld K (tVar j) "_trail") (tUn rNegI (tC (.int 1)))) (tC (.int 1))) ρ y := by
  have h1 : ED (tUn rNegI (tC (.int 1))) ρ (.int (-1)) := fun σ B H e ev Q q => ⟨1, rfl, q _ B H (Gr.refl e) (.int (-1))⟩
  refine es_op (es_op (ES.is (es_trail k) (by rw [ht])) (es_ed h1) (r2_ixL (d := .tuple [x, y, z]) ?_)) (es_ed ed_int) (r2_ixT rfl)
  show atI (es ++ [PyData.tuple [x, y, z]]) (-1) = some (.tuple [x, y, z])
  have e : ixN (es ++ [PyData.tuple [x, y, z]]).length (-1) = some es.length := by
    unfold ixN
    rw [List.length_append, List.length_singleton]
    simp
    omega
  unfold atI
  rw [e]
  simp
inductive R_B_moved : BSt → List PyData → BSt → PyData → Prop
  | yes (h : Hall) (s : Stand) (x : Item) (p : Stand × Option Nat) (tr : List PyData) (pt : List (Str × PyData)) (o : SOk h s) (hx : x.ok s.cells.length) (hl : 1 ≤ s.cells.length) (hp : tryI h s x = some p) (ht : tr.length < 1000) :
    R_B_moved ⟨hallD h, standD s, tr, pt⟩ [x.d] ⟨hallD h, standD p.1, tr ++ [.tuple [x.d, optN p.2, standD s]], pt⟩ (.bool true)
  | no (h : Hall) (s : Stand) (x : Item) (tr : List PyData) (pt : List (Str × PyData)) (o : SOk h s) (hx : x.ok s.cells.length) (hl : 1 ≤ s.cells.length) (hp : tryI h s x = none) :
    R_B_moved ⟨hallD h, standD s, tr, pt⟩ [x.d] ⟨hallD h, standD s, tr, pt⟩ (.bool false)
inductive R_B_back : BSt → List PyData → BSt → PyData → Prop
  | none (hd now : PyData) (pt : List (Str × PyData)) : R_B_back ⟨hd, now, [], pt⟩ [] ⟨hd, now, [], pt⟩ (.bool false)
  | one (hd now x y z : PyData) (tr : List PyData) (pt : List (Str × PyData)) : R_B_back ⟨hd, now, tr ++ [.tuple [x, y, z]], pt⟩ [] ⟨hd, z, tr, pt⟩ (.bool true)
theorem flat_opt (o : Option Nat) : Flat (optN o) := by
  cases o with
  | none => exact flat_non
  | some n => exact flat_int _
variable {vs : List V} {Q : VK} {E : XK}
theorem rp_B_moved (k : BK K C) (hsp : spM C R_B_moved vs H Q E) : rd_B_moved K (spR R_step_tried) { nx := fun _ H' => Q .non H', rt := Q } (L2.start ["self", "step", "found"] vs) H := by
  obtain ⟨B, a, b, ws, ds, b', d, rfl, ex, bo, out, dv, hR, q⟩ := hsp
  have hl := dv.length
  have hds : ∃ y, ds = [y] := by cases hR <;> exact ⟨_, rfl⟩
  obtain ⟨y, rfl⟩ := hds
  have x := bw_start (N := ["self", "step", "found"]) ex bo out dv (by rw [hl]; simp)
  generalize L2.start ["self", "step", "found"] (.ref a.x :: ws) = σ at x ⊢
  have x : BW C a B H b σ B H [none, some y, none] := x
  unfold rd_B_moved
  refine go_seq ?_
  cases hR with
  | no h s z tr pt o hx hz hp =>
    refine bw_asg x (eu_call (au_cons (eu_hall k) (au_cons (eu_now k) (au_cons (eu_ed (ed_var rfl)) au_nil))) (.mk h s z o.ndoors o.nways o.ncells hx hz)) (gd_name (i := 2) (vs := [2]) (by simp)) (by decide) fun σ B1 H1 x => ?_
    rw [hp] at x
    have x : BW C a B H ⟨hallD h, standD s, tr, pt⟩ σ B1 H1 [none, some z.d, some .none] := x
    refine go_seq ?_
    refine bw_if (r := true) x (fun σ B H ex ev _ => et_test (ED.is (ed_op (ed_var (d := .none) rfl) ed_non r2_isN) rfl) σ B H ex ev) (fun _ B1 H1 x => ?_) (fun z => nomatch z)
    exact bw_ret x (eu_ed ed_bl) fun v B' H' x dv => q v B' H' x.t x.bo x.out x.gm dv
  | yes h s z p tr pt o hx hz hp ht =>
    refine bw_asg x (eu_call (au_cons (eu_hall k) (au_cons (eu_now k) (au_cons (eu_ed (ed_var rfl)) au_nil))) (.mk h s z o.ndoors o.nways o.ncells hx hz)) (gd_name (i := 2) (vs := [2]) (by simp)) (by decide) fun σ B1 H1 x => ?_
    rw [hp] at x
    have x : BW C a B H ⟨hallD h, standD s, tr, pt⟩ σ B1 H1 [none, some z.d, some (.tuple [standD p.1, optN p.2])] := x
    refine go_seq ?_
    refine bw_if (r := false) x (fun σ B H ex ev _ => et_test (ED.is (ed_op (ed_var (d := .tuple [standD p.1, optN p.2]) rfl) ed_non r2_isN) rfl) σ B H ex ev) (fun z => nomatch z) fun _ B1 H1 x => ?_
    dsimp only
    refine go_seq ?_
    refine bw_trail k x (d := .tuple [z.d, optN p.2, standD s]) (eu_tup (au_cons (eu_ed (ed_var rfl)) (au_cons (eu_ed (ed_op (d := .tuple [standD p.1, optN p.2]) (ed_var rfl) ed_int (r2_ixT rfl))) (au_cons (eu_now k) au_nil))) (by simp)) (Nat.lt_trans ht (by decide)) fun B1 H1 x => ?_
    dsimp only
    refine go_seq ?_
    refine bw_now k x (d := standD p.1) (eu_ed (ed_op (d := .tuple [standD p.1, optN p.2]) (ed_var rfl) ed_int (r2_ixT rfl))) fun B1 H1 x => ?_
    dsimp only
    exact bw_ret x (eu_ed ed_bl) fun v B' H' x dv => q v B' H' x.t x.bo x.out x.gm dv
/-- a call of a method of one's own that changes the bench -/
theorem bw_meth {m : Str} {ta : TA} {ds : List PyData} {b' : BSt} {dvs : List V} {es : List PyData} {R : BSt → List PyData → BSt → PyData → Prop} (x : BW C a B0 H0 b σ B H ρ) (hm : ∀ vh vn vb vi, (bFs vh vn vb vi a).lookup m = none) (h : AU C a b ta ρ ds) (hdv : ∀ B, DHs B dvs es) (hR : R b (ds ++ es) b' d) (k : ∀ v B' H', BW C a B0 H0 b' σ B' H' ρ → GrM a B H B' H' → DH B' v d → Q v H') :
    tMeth C m (spM C R) dvs E0 (tVar 0) ta σ H Q := by
  obtain ⟨vh, vn, vb, vi, i1, i2, i3⟩ := x.bo.ins
  refine ⟨_, x.s, a.x, a.dx, _, rfl, i1, hm _ _ _ _, ?_⟩
  refine h B0 H0 σ B H x _ fun ws B1 H1 g dw => ?_
  have x1 := x.gr g
  refine ⟨B1, a, b, _, _, b', d, rfl, x1.t, x1.bo, x1.out, dw.append (hdv B1), hR, fun v B' H' t' bo' out' gm' dv => ?_⟩
  exact k v B' H' ⟨t', x1.e.mono gm'.b, x1.s, bo', out', x1.gm.trans x1.bo gm'⟩ ((Gr.m g).trans x1.bo gm') dv
theorem nMoved {vh vn vb vi : V} : (bFs vh vn vb vi a).lookup ("_moved" : Str) = none := by kernel_rfl
theorem rp_B_back (k : BK K C) (hsp : spM C R_B_back vs H Q E) : rd_B_back K { nx := fun _ H' => Q .non H', rt := Q } (L2.start ["self"] vs) H := by
  obtain ⟨B, a, b, ws, ds, b', d, rfl, ex, bo, out, dv, hR, q⟩ := hsp
  have hl := dv.length
  have hds : ds = [] := by cases hR <;> rfl
  subst hds
  have x := bw_start (N := ["self"]) ex bo out dv (by rw [hl]; decide)
  generalize L2.start ["self"] (.ref a.x :: ws) = σ at x ⊢
  have x : BW C a B H b σ B H [none] := x
  have ht : TSb C a b 0 (tTest (tOp (rEqD K) (tCB (rLenX K) (tCons (tFld K (tVar 0) "_trail") tNil)) (tC (.int 0)))) [none] (decide (((b.tr.length : Nat) : Int) = 0)) :=
    TSb.is (ts_test (es_op (es_cb (as_cons (es_trail k) as_nil) rc_lenL) (es_ed ed_int) (r2_eq (sh_int _) (sh_int _)))) (eqv_int _ _)
  unfold rd_B_back
  refine go_seq ?_
  refine bw_if x ht (fun hb B1 H1 x => ?_) fun hb B1 H1 x => ?_
  · have hb := of_decide_eq_true hb
    cases hR with
    | none hd now pt => exact bw_ret x (eu_ed ed_bl) fun v B' H' x dv => q v B' H' x.t x.bo x.out x.gm dv
    | one hd now x y z tr pt =>
      simp at hb
      omega
  · have hb := of_decide_eq_false hb
    cases hR with
    | none hd now pt => exact absurd rfl hb
    | one hd now x' y z tr pt =>
      unfold tNext
      dsimp only
      refine go_seq ?_
      obtain ⟨vh, vn, vb, vi, i1, i2, i3⟩ := x.bo.ins
      obtain ⟨xs, t1, t2⟩ := x.bo.tr
      have hlx := t2.length
      rw [List.length_append, List.length_singleton] at hlx
      obtain ⟨v, hv, dv⟩ := t2.get (i := tr.length) (d := .tuple [x', y, z]) (by simp)
      have hdl : DHs B1 xs.dropLast tr := by
        have := t2.take tr.length
        rw [List.take_left] at this
        rw [List.dropLast_eq_take, hlx]
        exact this
      have x2 := x.putT hdl
      refine ⟨_, x.s, a.x, C, a.dx, _, _, rfl, i1, k.c, k.n3, lk3, ?_⟩
      refine ⟨.inl ⟨rfl, _, SqL.of t1⟩, a.lt, xs, v, rfl, rfl, t1, by rw [hlx, Nat.add_sub_cancel]; exact hv, ?_⟩
      show rIx K v (.int 2) (upd H1 a.lt (.lst xs.dropLast)) _
      refine r2_ixT (K := K) (d := z) (ds := [x', y, z]) (i := 2) rfl B1 _ v (.int 2) x2.t dv (.int 2) _ fun u B3 H3 g3 du => ?_
      have x3 := x2.gr g3
      obtain ⟨vh, vn, vb, vi, i1, i2, i3⟩ := x3.bo.ins
      refine ⟨_, x3.s, a.x, C, a.dx, _, rfl, i1, k.c, k.n2, by show 6 < 1000; decide, ?_⟩
      rw [putNow k]
      have x4 := x3.put (vb := vb) (vi := vi) i2 du
      dsimp only
      exact bw_ret x4 (eu_ed ed_bl) fun v B' H' x dv => q v B' H' x.t x.bo x.out x.gm dv
end
end Pd

/-! SemG5 -/
set_option Elab.async false
set_option linter.all false
set_option maxRecDepth 100000
set_option maxHeartbeats 4000000
namespace Pd
open PySem PySem.Spec PyProof.Rows L2 PySem.W
local macro_rules | `(tactic| walk_at "ed") => `(tactic| repeat' (first
  | with_reducible (first
    | exact ed_int | exact ed_str | exact ed_bl | exact ed_non
    | exact ea_nil | refine' ea_cons ?_ ?_
    | refine' ed_isi ?_ ?_ | refine' ed_isi2 ?_ ?_ ?_
    | refine' ed_andV ?_ (fun _ => ?_) | refine' ed_orV ?_ (fun _ => ?_) | refine' ed_notV ?_
    | refine' ed_chain ?_ ?_ ?_ (fun _ => ⟨?_, ?_⟩)
    | refine' ed_tup ?_ ?_ | refine' ed_lst ?_ ?_
    | refine' et_not ?_ | refine' et_and ?_ (fun _ => ?_) | refine' et_or ?_ (fun _ => ?_) | exact et_yes
    | refine' et_test ?_ | refine' et_B ?_
    | refine' ed_op ?_ ?_ ?_
    | refine' ed_cb ?_ ?_)
  | exact ed_var rfl
  | exact kit_tt | exact kit_ii | exact kit_ib | exact kit_ll | exact kit_lt | exact kit_tl
  | exact r2_addI | exact r2_subI | exact r2_lt | exact r2_le | exact r2_gt | exact r2_ge | exact r2_isN | exact r2_notN
  | exact rc_lenT | exact rc_lenL | exact rc_intB | exact rc_tupL
  | with_reducible (first | refine' r2_eq ?_ ?_ | refine' r2_ne ?_ ?_)
  | exact sh_int _ | exact sh_sg _ | exact sh_cell _ | exact sh_edge _ | exact sh_pair _ | exact sh_str _ (by decide +kernel)
  | exact r2_ixT rfl | exact r2_ixL rfl
  | refine' ed_tup ?_ ?_
  | (show List.length _ ≤ 100000; simp; done)))
/-! ### what the methods promise -/
def spP (C : Addr) (R : BSt → PyData → Prop) : Sp := fun vs H Q _ => ∃ B a b d, vs = [.ref a.x] ∧ Ex B H ∧ Bo C a B B b ∧ R b d ∧ ∀ v B' H', Gr B H B' H' → DH B' v d → Q v H'
def spL (C : Addr) (R : BSt → Prop) (P : BSt → List PyData → Prop) : Sp := fun vs H Q _ => ∃ B a b, vs = [.ref a.x] ∧ Ex B H ∧ Bo C a B B b ∧ R b ∧ ∀ p xs ds B' H', P b ds → Gr B H B' H' → H p = none → B' p = none → H' p = some (.lst xs) → DHs B' xs ds → Q (.ref p) H'
theorem env_none {N : List Str} {v : V} {B : Hp} (h : 1 ≤ N.length) : EnvD (L2.start N [v]) B (List.replicate N.length none) := by
  refine ⟨by simp [L2.start]; omega, fun i d q => ?_⟩
  rw [List.getElem?_replicate] at q
  split at q
  · cases q
  · cases q
/-- what a method promises that may raise -/
def spY (C : Addr) (R : BSt → List PyData → BSt → PyData → Prop) (Y : BSt → List PyData → Addr → List (Str × V) → Bool → Prop) : Sp := fun vs H Q E => ∃ B a b ws ds, vs = .ref a.x :: ws ∧ Ex B H ∧ Bo C a B H b ∧ (∀ c ∈ a.l, B c = none) ∧ DHs B ws ds ∧
  ((∃ b' d, R b ds b' d ∧ ∀ a' v B' H', a'.x = a.x → a'.dx = a.dx → a'.lp = a.lp → (a'.lt = a.lt ∨ H a'.lt = none) → Ex B' H' → Bo C a' B' H' b' → (∀ c ∈ a'.l, B' c = none) → GrM a B H B' H' → DH B' v d → Q v H') ∨
   (∃ CE fs hd, Y b ds CE fs hd ∧ ∀ dc B' H', (hd = true → ∃ dd, dc = some dd) → (∀ dd, dc = some dd → H' dd = some (.xd fs)) → Ex B' H' → Bo C a B' H' b → (∀ c ∈ a.l, B' c = none) → GrM a B H B' H' → E (.ref CE) dc H'))
inductive R_B_standing : BSt → PyData → Prop | mk (b : BSt) : R_B_standing b b.now
def nowOf (pt : List (Str × PyData)) (x : Str) : PyData := match ptGet pt x with
  | some (.tuple (n :: _)) => n
  | _ => .none
def markOf (pt : List (Str × PyData)) (x : Str) : PyData := .tuple [.str x, nowOf pt x]
def R_B_steps (b : BSt) : Prop := ∃ es : List Ev, b.tr = es.map evTrail ∧ es.length ≤ 100
def P_B_steps (b : BSt) (ds : List PyData) : Prop := ∀ es : List Ev, b.tr = es.map evTrail → es.length ≤ 100 → ds = es.map evBoth
def R_B_may (b : BSt) : Prop := ∃ h s, SOk h s ∧ b.hd = hallD h ∧ b.now = standD s
def P_B_may (b : BSt) (ds : List PyData) : Prop := ∃ h s, b.hd = hallD h ∧ b.now = standD s ∧ ds = (movesD h s).map fstD
def R_B_marks (b : BSt) : Prop := b.pt.length ≤ 60 ∧ ∀ p ∈ b.pt, ∃ n t, p.2 = .tuple [n, t]
def P_B_marks (b : BSt) (ds : List PyData) : Prop := ∃ ys : List Str, ys.Perm (b.pt.map (·.1)) ∧ sortedS ys = true ∧ ds = ys.map (markOf b.pt)
theorem evBoth_inj {xs ys : List Ev} (h : xs.map evTrail = ys.map evTrail) : xs.map evBoth = ys.map evBoth := by
  induction xs generalizing ys with
  | nil => cases ys with
    | nil => rfl
    | cons y ys => simp at h
  | cons x xs ih => cases ys with
    | nil => simp at h
    | cons y ys =>
      rw [List.map_cons, List.map_cons] at h
      injection h with h1 h2
      rw [List.map_cons, List.map_cons, ih h2]
      have h1 : PyData.tuple [evStep x, evDoor x, standD x.bef] = .tuple [evStep y, evDoor y, standD y.bef] := h1
      injection h1 with h1
      injection h1 with h3 h1
      injection h1 with h4 _
      show PyData.tuple [evStep x, evDoor x] :: _ = PyData.tuple [evStep y, evDoor y] :: _
      rw [h3, h4]
theorem DHs.strV {B : Hp} : ∀ (ys : List Str), DHs B (ys.map V.str) (ys.map PyData.str)
  | [] => .nil
  | y :: ys => .cons (.str y) (DHs.strV ys)
/-! ### names -/
def nameB (x : Str) : Bool := (decide (1 ≤ x.length) && decide (x.length ≤ 8)) && x.cps.toList.all fun c => decide (c ∈ ("abcdefghijklmnopqrstuvwxyz" : Str).cps.toList)
inductive NotS : PyData → Prop
  | int (i : Int) : NotS (.int i)
  | non : NotS .none
  | bl (b : Bool) : NotS (.bool b)
  | tup (ds : List PyData) : NotS (.tuple ds)
inductive R_is_name : List PyData → PyData → Prop
  | str (x : Str) (hx : x.length ≤ 1000) : R_is_name [.str x] (.bool (nameB x))
  | no {d : PyData} (h : NotS d) : R_is_name [d] (.bool false)
theorem dhs_bools {B : Hp} : ∀ {bs : List Bool} {xs : List V}, DHs B xs (bs.map PyData.bool) → xs = bs.map V.bl
  | [], _, .nil => rfl
  | b :: bs, _, .cons h r => by
    cases h
    rw [dhs_bools r]
    rfl
theorem rc_all {K : PySem.W.Frag} {bs : List Bool} : RC (rAll K) [.list (bs.map PyData.bool)] (.bool (bs.all id)) := fun B H vs ex dv Q q => by
  cases dv with
  | cons dv r =>
    cases r
    cases dv with
    | @lst a xs _ ha hs =>
      refine ⟨a, bs, rfl, ?_, q _ B H (Gr.refl ex) (.bl _)⟩
      rw [← dhs_bools hs]
      exact SqL.of (ex _ _ ha)
theorem kit_is : kitB "int" "str" = some false := by decide +kernel
theorem kit_ns : kitB "NoneType" "str" = some false := by decide +kernel
theorem kit_bs : kitB "bool" "str" = some false := by decide +kernel
theorem kit_ts : kitB "tuple" "str" = some false := by decide +kernel
theorem kit_ss : kitB "str" "str" = some true := by decide +kernel
theorem ed_notS {K : PySem.W.Frag} {te : TE} {ρ : Rho} {d : PyData} (h : NotS d) (e : ED te ρ d) : ED (tCB (rIsi K) (tCons te (tCons (tC (.ty "str")) tNil))) ρ (.bool false) := by
  cases h with
  | int i => exact ed_isi e kit_is
  | non => exact ed_isi e kit_ns
  | bl b => exact ed_isi e kit_bs
  | tup ds => exact ed_isi e kit_ts
theorem rp_is_name {K : PySem.W.Frag} {ds : List PyData} {d : PyData} (h : R_is_name ds d) : RD (rd_is_name K) (ds.map some ++ List.replicate (2 - ds.length) none) d := by
  cases h with
  | @no d h =>
    show RD _ [some d, none] _
    exact rd_ifS (b := true) (ET.is (et_or (b := false) (et_not (et_B (ed_notS h (ed_var rfl)))) fun z => nomatch z) rfl) (fun _ => rd_ret ed_bl) (fun z => nomatch z)
  | str x hx =>
    show RD _ [some (.str x), none] _
    have hlen : ED (tCB (rLenX K) (tCons (tVar 0) tNil)) [some (.str x), none] (.int (x.length : Nat)) := ed_cb (ea_cons (ed_var rfl) ea_nil) (rc_lenS (Nat.le_trans hx (by decide)))
    have hch : ET (tTest (tChain rLeI rLeI (tC (.int 1)) (tCB (rLenX K) (tCons (tVar 0) tNil)) (tC (.int 8)))) [some (.str x), none] (decide ((1 : Int) ≤ (x.length : Nat)) && decide (((x.length : Nat) : Int) ≤ 8)) := et_test (ed_chain ed_int hlen r2_le fun _ => ⟨ed_int, r2_le⟩)
    have ht : ET (tOr (tNot (tB (tCB (rIsi K) (tCons (tVar 0) (tCons (tC (.ty "str")) tNil))))) (tNot (tTest (tChain rLeI rLeI (tC (.int 1)) (tCB (rLenX K) (tCons (tVar 0) tNil)) (tC (.int 8)))))) [some (.str x), none] (!(decide (1 ≤ x.length) && decide (x.length ≤ 8))) := by
      refine ET.is (et_or (et_not (et_B (ed_isi (b := true) (ed_var (d := .str x) rfl) kit_ss))) fun _ => et_not hch) ?_
      have e1 : decide ((1 : Int) ≤ (x.length : Nat)) = decide (1 ≤ x.length) := decide_eq_decide.mpr (by omega)
      have e2 : decide (((x.length : Nat) : Int) ≤ 8) = decide (x.length ≤ 8) := decide_eq_decide.mpr (by omega)
      rw [e1, e2]
      rfl
    have e : nameB x = ((decide (1 ≤ x.length) && decide (x.length ≤ 8)) && x.cps.toList.all fun c => decide (c ∈ ("abcdefghijklmnopqrstuvwxyz" : Str).cps.toList)) := rfl
    rw [e]
    refine rd_ifS ht (fun hb => ?_) (fun hb => ?_)
    · have hb : (decide (1 ≤ x.length) && decide (x.length ≤ 8)) = false := by rw [Bool.not_eq_true'] at hb; exact hb
      rw [hb]
      exact rd_ret ed_bl
    · have hb : (decide (1 ≤ x.length) && decide (x.length ≤ 8)) = true := by rw [Bool.not_eq_false'] at hb; exact hb
      rw [hb]
      have hxl : x.cps.toList.length ≤ 1000 := hx
      have hlc : ED (tLc (iStr (tVar 0)) (gName 1) tYes (tOp (rInX K false) (tVar 1) (tC (.str "abcdefghijklmnopqrstuvwxyz"))) [1]) [some (.str x), none] (.list (x.cps.toList.map fun c => .bool (decide (c ∈ ("abcdefghijklmnopqrstuvwxyz" : Str).cps.toList)))) := by
        refine ed_lcM x.cps.toList (fun c => .str ⟨#[c]⟩) _ (ie_str (ed_var rfl)) (by omega) fun c hc => ⟨_, gd_name (i := 1) (by simp), ?_⟩
        exact ed_op (ed_var (d := .str ⟨#[c]⟩) rfl) ed_str r2_inS
      have e2 : (x.cps.toList.map fun c => PyData.bool (decide (c ∈ ("abcdefghijklmnopqrstuvwxyz" : Str).cps.toList))) = (x.cps.toList.map fun c => decide (c ∈ ("abcdefghijklmnopqrstuvwxyz" : Str).cps.toList)).map PyData.bool := by rw [List.map_map]; rfl
      rw [e2] at hlc
      refine rd_ret (ED.is (ed_cb (ea_cons hlc ea_nil) rc_all) ?_)
      rw [List.all_map, Bool.true_and]
      rfl
/-! ### the methods that look -/
section
variable {K : PySem.W.Frag} {C : Addr} {vs : List V} {H : Hp} {Q : VK} {E : XK}
theorem run_P {R : BSt → PyData → Prop} {te : TE} {N : List Str} (hN : 1 ≤ N.length) (hsp : spP C R vs H Q E) (h : ∀ a b d, R b d → ES C a b 0 te (List.replicate N.length none) d) : (tRet te) { nx := fun _ H' => Q .non H', rt := Q } (L2.start N vs) H := by
  obtain ⟨B, a, b, d, rfl, ex, bo, hR, q⟩ := hsp
  exact h a b d hR _ B H ex (env_none hN) ⟨rfl, bo⟩ Q q
theorem run_L {R : BSt → Prop} {P : BSt → List PyData → Prop} {te : TE} {N : List Str} (hN : 1 ≤ N.length) (hsp : spL C R P vs H Q E) (h : ∀ a b, R b → ESL C a b 0 te (List.replicate N.length none) (P b)) : (tRet te) { nx := fun _ H' => Q .non H', rt := Q } (L2.start N vs) H := by
  obtain ⟨B, a, b, rfl, ex, bo, hR, q⟩ := hsp
  exact h a b hR _ B H ex (env_none hN) ⟨rfl, bo⟩ Q q
theorem ESL.imp {a : BAd} {b : BSt} {j : Nat} {te : TE} {ρ : Rho} {P P' : List PyData → Prop} (h : ESL C a b j te ρ P) (k : ∀ ds, P ds → P' ds) : ESL C a b j te ρ P' := fun σ B H ex ev s Q q => h σ B H ex ev s Q fun p xs ds B' H' hp => q p xs ds B' H' (k ds hp)
theorem rp_B_standing (k : BK K C) (h : spP C R_B_standing vs H Q E) : rd_B_standing K { nx := fun _ H' => Q .non H', rt := Q } (L2.start ["self"] vs) H :=
  run_P (by decide) h fun a b d (.mk _) => es_now k
theorem rp_B_steps (k : BK K C) (h : spL C R_B_steps P_B_steps vs H Q E) : rd_B_steps K { nx := fun _ H' => Q .non H', rt := Q } (L2.start ["self", "step", "door", "_"] vs) H :=
  run_L (by decide) h fun a b ⟨es, he, hl⟩ => by
    refine (es_lcF (vs := [1, 2, 3]) (fun items => items = es) evTrail evBoth (fun σ B H ex ev s Q q => es_trail k σ B H ex ev s Q fun v B' H' g dv => q v es B' H' rfl (by omega) g (by rw [← he]; exact dv)) (by decide) fun items hi e he => ⟨_, gd_tup (ds := [evStep e, evDoor e, standD e.bef]) (gds_cons (gd_name (by simp)) (gds_cons (gd_name (by simp)) (gds_cons (gd_name (by simp)) gds_nil))) rfl, ?_⟩).imp ?_
    · exact es_ed (ed_tup (ea_cons (ed_var rfl) (ea_cons (ed_var rfl) ea_nil)) (by simp))
    · rintro ds ⟨items, rfl, rfl⟩ es' he' _
      exact evBoth_inj (he.symm.trans he')
theorem rp_B_may (k : BK K C) (h : spL C R_B_may P_B_may vs H Q E) : rd_B_may K (spR R_moves) { nx := fun _ H' => Q .non H', rt := Q } (L2.start ["self", "move"] vs) H :=
  run_L (by decide) h fun a b ⟨h, s, o, h1, h2⟩ => by
    have hml := movesD_len h s o.ncells
    have nc := o.ncells
    refine (es_lcF (vs := [1]) (fun items => items = movesD h s) (fun d => d) fstD (fun σ B H ex ev s' Q q => es_call (as_cons (es_hall k) (as_cons (es_now k) as_nil)) (show R_moves [b.hd, b.now] (.list (movesD h s)) from by rw [h1, h2]; exact R_moves.mk h s o) σ B H ex ev s' Q fun v B' H' g dv => q v (movesD h s) B' H' rfl (by omega) g (by rw [List.map_id']; exact dv)) (by decide) fun items hi d hd => ⟨_, gd_name (by simp), ?_⟩).imp ?_
    · subst hi
      obtain ⟨m, rfl⟩ := movesD_shape _ _ d hd
      exact es_ed (ed_op (ed_var rfl) ed_int (r2_ixT rfl))
    · rintro ds ⟨items, rfl, rfl⟩
      exact ⟨h, s, h1, h2, rfl⟩
theorem rp_B_marks (k : BK K C) (h : spL C R_B_marks P_B_marks vs H Q E) : rd_B_marks K { nx := fun _ H' => Q .non H', rt := Q } (L2.start ["self", "name"] vs) H :=
  run_L (by decide) h fun a b ⟨hl, hm⟩ => by
    refine (es_lcF (vs := [1]) (fun items => items.Perm (b.pt.map (·.1)) ∧ sortedS items = true) PyData.str (markOf b.pt) (fun σ B H ex ev s' Q q => ?_) (by decide) fun items hi x hx => ⟨_, gd_name (by simp), ?_⟩).imp ?_
    · obtain ⟨vh, vn, vb, vi, i1, i2, i3⟩ := s'.2.ins
      obtain ⟨kvs, p1, p2⟩ := s'.2.pt
      refine ⟨_, s'.1, a.x, C, a.dx, _, _, rfl, ex _ _ i1, k.c, k.n4, lk4, ?_⟩
      refine ⟨a.lp, kvs, b.pt.map (·.1), rfl, .inl (ex _ _ p1), p2.keys, by rw [List.length_map]; omega, fun ys p hp hs hpn => ?_⟩
      have g := Gr.new (o := .lst (ys.map V.str)) ex hpn
      refine q _ ys _ _ ⟨hp, hs⟩ ?_ g (.lst upd_same (DHs.strV ys))
      rw [hp.length_eq, List.length_map]
      omega
    · obtain ⟨p, hp, rfl⟩ := List.mem_map.mp (hi.1.mem_iff.mp hx)
      have hg : ∃ d, ptGet b.pt p.1 = some d ∧ ∃ n t, d = .tuple [n, t] := by
        cases q : ptGet b.pt p.1 with
        | some d =>
          obtain ⟨n, t, e⟩ := hm _ (ptGet_mem q)
          exact ⟨d, rfl, n, t, e⟩
        | none =>
          unfold ptGet at q
          rw [Option.map_eq_none_iff] at q
          have := List.find?_eq_none.mp q p hp
          simp at this
      obtain ⟨d, hg, n, t, rfl⟩ := hg
      have e : markOf b.pt p.1 = .tuple [.str p.1, n] := by
        unfold markOf nowOf
        rw [hg]
      rw [e]
      exact es_tup (as_cons (es_ed (ed_var rfl)) (as_cons (es_op (es_point k (es_ed (ed_var (d := .str p.1) rfl)) hg) (es_ed ed_int) (r2_ixT rfl)) as_nil)) (by simp)
    · rintro ds ⟨items, ⟨h1, h2⟩, rfl⟩
      exact ⟨items, h1, h2, rfl⟩
end
/-! ### the methods that may raise -/
inductive R_B_step : BSt → List PyData → BSt → PyData → Prop
  | mk (h : Hall) (s : Stand) (x : Item) (p : Stand × Option Nat) (tr : List PyData) (pt : List (Str × PyData)) (o : SOk h s) (hx : x.ok s.cells.length) (hl : 1 ≤ s.cells.length) (hp : tryI h s x = some p) (ht : tr.length < 1000) :
    R_B_step ⟨hallD h, standD s, tr, pt⟩ [x.d] ⟨hallD h, standD p.1, tr ++ [.tuple [x.d, optN p.2, standD s]], pt⟩ (optN p.2)
inductive Y_B_step (CS : Addr) : BSt → List PyData → Addr → List (Str × V) → Bool → Prop
  | mk (h : Hall) (s : Stand) (x : Item) (tr : List PyData) (pt : List (Str × PyData)) (o : SOk h s) (hx : x.ok s.cells.length) (hl : 1 ≤ s.cells.length) (hp : tryI h s x = none) : Y_B_step CS ⟨hallD h, standD s, tr, pt⟩ [x.d] CS [("number", .int 0)] true
inductive R_B_mark : BSt → List PyData → BSt → PyData → Prop
  | mk (b : BSt) (x : Str) (hx : nameB x = true) (hl : x.length ≤ 1000) (hp : b.pt.length < 1000) : R_B_mark b [.str x] ⟨b.hd, b.now, b.tr, ptPut b.pt x (.tuple [b.now, .list b.tr])⟩ .none
inductive Y_B_mark (CN : Addr) : BSt → List PyData → Addr → List (Str × V) → Bool → Prop
  | mk (b : BSt) (d : PyData) (h : R_is_name [d] (.bool false)) : Y_B_mark CN b [d] CN [] false
inductive R_B_go : BSt → List PyData → BSt → PyData → Prop
  | mk (b : BSt) (x : Str) (now : PyData) (tr : List PyData) (hg : ptGet b.pt x = some (.tuple [now, .list tr])) : R_B_go b [.str x] ⟨b.hd, now, tr, b.pt⟩ .none
inductive Y_B_go (CP : Addr) : BSt → List PyData → Addr → List (Str × V) → Bool → Prop
  | str (b : BSt) (x : Str) (hg : ptGet b.pt x = none) : Y_B_go CP b [.str x] CP [] false
  | no (b : BSt) (d : PyData) (h : NotS d) : Y_B_go CP b [d] CP [] false
section
variable {K : PySem.W.Frag} {C CS CN CP : Addr} {vs : List V} {H : Hp} {Q : VK} {E : XK}
theorem rp_B_step (k : BK K C) (hsp : spY C R_B_step (Y_B_step CS) vs H Q E) : rd_B_step K C CS CN CP E (spM C R_B_moved) { nx := fun _ H' => Q .non H', rt := Q } (L2.start ["self", "step"] vs) H := by
  obtain ⟨B, a, b, ws, ds, rfl, ex, bo, out, dv, hc⟩ := hsp
  have hlw := dv.length
  have hds : ∃ y, ds = [y] := by
    rcases hc with ⟨b', d, hR, _⟩ | ⟨CE, fs, hd, hY, _⟩
    · cases hR; exact ⟨_, rfl⟩
    · cases hY; exact ⟨_, rfl⟩
  obtain ⟨y, rfl⟩ := hds
  have x := bw_start (N := ["self", "step"]) ex bo out dv (by rw [hlw]; simp)
  generalize L2.start ["self", "step"] (.ref a.x :: ws) = σ at x ⊢
  have x : BW C a B H b σ B H [none, some y] := x
  unfold rd_B_step
  refine go_seq ?_
  rcases hc with ⟨b', d, hR, q⟩ | ⟨CE, fs, hd, hY, q⟩
  · cases hR with
    | mk h s z p tr pt o hx hl hp ht =>
      refine bw_meth (dvs := []) (es := []) x (fun _ _ _ _ => nMoved) (au_cons (eu_ed (ed_var rfl)) au_nil) (fun _ => .nil) (.yes h s z p tr pt o hx hl hp ht) fun v B1 H1 x1 g1 dv => ?_
      cases dv
      refine ⟨true, rfl, ?_⟩
      show tNext _ _ _
      unfold tNext
      dsimp only
      exact bw_ret x1 (eu_view (es_lastDoor k rfl) (flat_opt _)) fun v B' H' x' dv => q a v B' H' rfl rfl rfl (.inl rfl) x'.t x'.bo x'.out x'.gm dv
  · cases hY with
    | mk h s z tr pt o hx hl hp =>
      refine bw_meth (dvs := []) (es := []) x (fun _ _ _ _ => nMoved) (au_cons (eu_ed (ed_var rfl)) au_nil) (fun _ => .nil) (.no h s z tr pt o hx hl hp) fun v B1 H1 x1 g1 dv => ?_
      cases dv
      refine ⟨false, rfl, ?_⟩
      refine (?_ : tRaiseX CS (sp_initS CS) E (tCons (tC (.int 0)) tNil) { nx := fun _ H' => Q .non H', rt := Q } σ H1)
      refine ⟨by simp, raise_1 (initOkS_lt 0 (by decide)) fun dx hdx => ?_⟩
      have g7 := Gr.own (o := .xd [("number", .int ((0 : Nat) : Int))]) x1.t hdx
      have x7 := x1.gr g7
      exact q (some dx) B1 _ (fun _ => ⟨dx, rfl⟩) (fun dd e => by cases e; exact upd_same) x7.t x7.bo x7.out x7.gm
theorem rp_B_mark (k : BK K C) (hsp : spY C R_B_mark (Y_B_mark CN) vs H Q E) : rd_B_mark K CS CN CP E (spR R_is_name) { nx := fun _ H' => Q .non H', rt := Q } (L2.start ["self", "name"] vs) H := by
  obtain ⟨B, a, b, ws, ds, rfl, ex, bo, out, dv, hc⟩ := hsp
  have hlw := dv.length
  have hds : ∃ y, ds = [y] := by
    rcases hc with ⟨b', d, hR, _⟩ | ⟨CE, fs, hd, hY, _⟩
    · cases hR; exact ⟨_, rfl⟩
    · cases hY; exact ⟨_, rfl⟩
  obtain ⟨y, rfl⟩ := hds
  have x := bw_start (N := ["self", "name"]) ex bo out dv (by rw [hlw]; simp)
  generalize L2.start ["self", "name"] (.ref a.x :: ws) = σ at x ⊢
  have x : BW C a B H b σ B H [none, some y] := x
  unfold rd_B_mark
  refine go_seq ?_
  rcases hc with ⟨b', d, hR, q⟩ | ⟨CE, fs, hd, hY, q⟩
  · cases hR with
    | mk z hx hl hp =>
      refine bw_if (r := false) x (fun σ B H ex ev _ => ET.is (et_not (et_B (ed_call (ea_cons (ed_var (d := .str z) rfl) ea_nil) (R_is_name.str z hl)))) (by rw [hx]; rfl) σ B H ex ev) (fun w => nomatch w) fun _ B1 H1 x => ?_
      unfold tNext
      dsimp only
      refine bw_point k x (eu_tup (au_cons (eu_now k) (au_cons (eu_trailL k) au_nil)) (by simp)) (eu_ed (ed_var (d := .str z) rfl)) hp fun B2 H2 x => ?_
      exact q a .non B2 H2 rfl rfl rfl (.inl rfl) x.t x.bo x.out x.gm .non
  · cases hY with
    | mk d h =>
      refine bw_if (r := true) x (fun σ B H ex ev _ => ET.is (et_not (et_B (ed_call (ea_cons (ed_var (d := y) rfl) ea_nil) h))) rfl σ B H ex ev) (fun _ B1 H1 x => ?_) (fun w => nomatch w)
      refine ⟨_, rfl, by decide +kernel, .inr ⟨8, rfl, by decide +kernel, ⟨_, rfl, by decide +kernel, ⟨_, rfl, by decide +kernel, ?_⟩⟩⟩⟩
      exact q none B1 H1 (fun z => nomatch z) (fun dd z => nomatch z) x.t x.bo x.out x.gm
theorem rp_B_go (k : BK K C) (hsp : spY C R_B_go (Y_B_go CP) vs H Q E) : rd_B_go K CS CN CP E { nx := fun _ H' => Q .non H', rt := Q } (L2.start ["self", "name", "now", "trail"] vs) H := by
  obtain ⟨B, a, b, ws, ds, rfl, ex, bo, out, dv, hc⟩ := hsp
  have hlw := dv.length
  have hds : ∃ y, ds = [y] := by
    rcases hc with ⟨b', d, hR, _⟩ | ⟨CE, fs, hd, hY, _⟩
    · cases hR; exact ⟨_, rfl⟩
    · cases hY <;> exact ⟨_, rfl⟩
  obtain ⟨y, rfl⟩ := hds
  have x := bw_start (N := ["self", "name", "now", "trail"]) ex bo out dv (by rw [hlw]; simp)
  generalize L2.start ["self", "name", "now", "trail"] (.ref a.x :: ws) = σ at x ⊢
  have x : BW C a B H b σ B H [none, some y, none, none] := x
  unfold rd_B_go
  refine go_seq ?_
  rcases hc with ⟨b', d, hR, q⟩ | ⟨CE, fs, hd, hY, q⟩
  · cases hR with
    | mk z now tr hg =>
      refine bw_if (r := false) x (TSb.is (ts_or (ts_not (ts_B (es_ed (ed_isi (b := true) (ed_var (d := .str z) rfl) kit_ss)))) fun _ => ts_B (es_points0 k (r := true) (es_ed (ed_var (d := .str z) rfl)) (by rw [hg]; rfl))) rfl) (fun w => nomatch w) fun _ B1 H1 x => ?_
      unfold tNext
      dsimp only
      refine go_seq ?_
      refine bw_asg x (eu_point k (eu_ed (ed_var (d := .str z) rfl)) hg) (gd_tup (ds := [now, .list tr]) (vs := [2, 3]) (gds_cons (gd_name (i := 2) (by simp)) (gds_cons (gd_name (i := 3) (by simp)) gds_nil)) rfl) (by decide) fun σ B1 H1 x => ?_
      have x : BW C a B H b σ B1 H1 [none, some (.str z), some now, some (.list tr)] := x
      dsimp only
      refine go_seq ?_
      refine bw_now k x (eu_ed (ed_var (d := now) rfl)) fun B1 H1 x => ?_
      dsimp only
      obtain ⟨v3, h3, d3⟩ := x.e.get 3 (.list tr) rfl
      refine ⟨v3, h3, ?_⟩
      cases d3 with
      | @lst p xs _ hp hs =>
        refine ⟨p, xs, rfl, .inl (SqL.of (x.t _ _ hp)), fun l hl => ?_⟩
        have hlB : B1 l = none := x.t.nil hl
        have x2 := x.gr (Gr.own (o := .lst xs) x.t hl)
        obtain ⟨vh, vn, vb, vi, i1, i2, i3⟩ := x2.bo.ins
        refine ⟨_, x2.s, a.x, C, a.dx, _, rfl, i1, k.c, k.n3, by show 6 < 1000; decide, ?_⟩
        have ep : putF ("_trail" : Str) (V.ref l) (bFs vh vn vb vi a) = bFs vh vn vb vi ⟨a.x, a.dx, l, a.lp⟩ := by kernel_rfl
        rw [ep]
        have hH0 : H l = none := by
          cases w : H l with
          | none => rfl
          | some u => exact absurd hl (x.gm.nn x.bo (by rw [w]; exact fun z => nomatch z))
        obtain ⟨⟨wh, wn, wb, wi, j1, j2, j3⟩, o2, ⟨zs, t1, t2⟩, ⟨kvs, p1, p2⟩⟩ := x.bo
        have n1 : a.x ≠ l := fun w => by rw [w, hl] at j1; cases j1
        have n2 : a.dx ≠ l := fun w => by rw [w, hl] at o2; cases o2
        have n3 : a.lp ≠ l := fun w => by rw [w, hl] at p1; cases p1
        have m2 : a.dx ≠ a.x := fun w => by rw [w, j1] at o2; cases o2
        have m3 : a.lp ≠ a.x := fun w => by rw [w, j1] at p1; cases p1
        have hax : a.x ∈ a.l := by simp [BAd.l]
        refine q ⟨a.x, a.dx, l, a.lp⟩ .non B1 _ rfl rfl rfl (.inr hH0) (x2.t.mut (x.out _ hax)) ⟨⟨vh, vn, vb, vi, upd_same, i2, i3⟩, by rw [upd_ne m2, upd_ne n2]; exact o2, ⟨xs, by rw [upd_ne n1.symm, upd_same], hs⟩, ⟨kvs, by rw [upd_ne m3, upd_ne n3]; exact p1, p2⟩⟩ (fun c hc => ?_) ⟨x.gm.b, fun c u hc e => ?_, x.gm.n⟩ .non
        · simp only [BAd.l, List.mem_cons, List.not_mem_nil, or_false] at hc
          rcases hc with rfl | rfl | rfl | rfl
          · exact x.out _ hax
          · exact x.out _ (by simp [BAd.l])
          · exact hlB
          · exact x.out _ (by simp [BAd.l])
        · have e1 := x.gm.h c u hc e
          rw [upd_ne (fun w => hc (by rw [w]; exact hax)), upd_ne (fun w => by rw [w, hl] at e1; cases e1)]
          exact e1
  · have raise : ∀ σ B1 H1, BW C a B H b σ B1 H1 [none, some y, none, none] → CE = CP → hd = false → (tRaiseP CP E (tC (.str "nothing is marked by this name"))) { nx := (tSeq (tAsg (tDGet (tFld K (tVar 0) "_points") (tVar 1)) (gTup K 2 (gCons (gName 2) (gCons (gName 3) gNil)))) (tSeq (sFld K (tVar 0) (tVar 2) "_now") (sFld K (tVar 0) (tCB (rListX K) (tCons (tVar 3) tNil)) "_trail"))) { nx := fun _ H' => Q .non H', rt := Q }, rt := Q } σ H1 := by
      rintro σ B1 H1 x rfl rfl
      exact q none B1 H1 (fun z => nomatch z) (fun dd z => nomatch z) x.t x.bo x.out x.gm
    cases hY with
    | str z hg =>
      refine bw_if (r := true) x (TSb.is (ts_or (ts_not (ts_B (es_ed (ed_isi (b := true) (ed_var (d := .str z) rfl) kit_ss)))) fun _ => ts_B (es_points0 k (r := false) (es_ed (ed_var (d := .str z) rfl)) (by rw [hg]; rfl))) rfl) (fun _ B1 H1 x => ?_) (fun w => nomatch w)
      exact raise σ B1 H1 x rfl rfl
    | no d h =>
      refine bw_if (r := true) x (TSb.is (ts_or (q := true) (ts_not (ts_B (es_ed (ed_notS h (ed_var (d := y) rfl))))) fun w => nomatch w) rfl) (fun _ B1 H1 x => ?_) (fun w => nomatch w)
      exact raise σ B1 H1 x rfl rfl
end
/-- what a new bench promises -/
def sp_init (C : Addr) : Sp := fun vs H Q _ => ∃ B x dx h cs va vb, vs = [.ref x, va, vb] ∧ Ex B H ∧ H x = some (.ins C dx []) ∧ H dx = some (.own x) ∧ B x = none ∧ B dx = none ∧ DHs B [va, vb] [hallD h, cellsD cs] ∧ HallOk h ∧ CellsOk h cs ∧
  ∀ lt lp B' H', Ex B' H' → Ex B B' → Bo C ⟨x, dx, lt, lp⟩ B' H' ⟨hallD h, standD (firstS h cs), [], []⟩ → (∀ c ∈ BAd.l ⟨x, dx, lt, lp⟩, B' c = none) → (∀ c u, c ≠ x → H c = some u → H' c = some u) → (∀ c, B c = none → H c ≠ none → B' c = none) → H lt = none → H lp = none → Q .non H'
structure IN (C x dx : Addr) (B0 H0 : Hp) (fs : List (Str × V)) (os : List (Addr × HO)) (σ : L2.St) (B H : Hp) (ρ : Rho) : Prop where
  t : Ex B H
  e : EnvD σ B ρ
  s : σ[0]? = some (some (.ref x))
  ix : H x = some (.ins C dx fs)
  io : H dx = some (.own x)
  nx : B x = none
  nd : B dx = none
  b : Ex B0 B
  h : ∀ c u, c ≠ x → H0 c = some u → H c = some u
  hx : H0 x ≠ none
  n : ∀ c, B0 c = none → H0 c ≠ none → B c = none
  ol : ∀ l ∈ os, H l.1 = some l.2 ∧ B l.1 = none ∧ H0 l.1 = none ∧ ∀ fs, l.2 ≠ .ins C dx fs
section
variable {K : PySem.W.Frag} {C x dx : Addr} {B0 H0 B H B' H' : Hp} {fs fs' : List (Str × V)} {os : List (Addr × HO)} {σ : L2.St} {ρ : Rho} {te : TE} {d : PyData} {vs : List V} {Q : VK} {E : XK} {f : Str} {D : Ends}
theorem IN.nn (o : IN C x dx B0 H0 fs os σ B H ρ) {c : Addr} (h : H0 c ≠ none) : H c ≠ none := by
  by_cases z : c = x
  · rw [z, o.ix]
    exact fun z => nomatch z
  · cases q : H0 c with
    | none => exact absurd q h
    | some u => rw [o.h c u z q]; exact fun z => nomatch z
theorem IN.gr (o : IN C x dx B0 H0 fs os σ B H ρ) (g : Gr B H B' H') : IN C x dx B0 H0 fs os σ B' H' ρ :=
  ⟨g.t, o.e.mono g.b, o.s, g.h _ _ o.ix, g.h _ _ o.io, g.n _ o.nx (by rw [o.ix]; exact fun z => nomatch z), g.n _ o.nd (by rw [o.io]; exact fun z => nomatch z), o.b.trans g.b, fun c u z e => g.h _ _ (o.h c u z e), o.hx, fun c h1 h2 => g.n c (o.n c h1 h2) (o.nn h2),
    fun l hl => let ⟨a, b, c, d⟩ := o.ol l hl; ⟨g.h _ _ a, g.n _ b (by rw [a]; exact fun z => nomatch z), c, d⟩⟩
theorem IN.put (o : IN C x dx B0 H0 fs os σ B H ρ) : IN C x dx B0 H0 fs' os σ B (upd H x (.ins C dx fs')) ρ := by
  have nd : dx ≠ x := fun z => by
    have h1 := o.ix
    have h2 := o.io
    rw [z, h1] at h2
    cases h2
  refine ⟨o.t.mut o.nx, o.e, o.s, upd_same, by rw [upd_ne nd]; exact o.io, o.nx, o.nd, o.b, fun c u z e => by rw [upd_ne z]; exact o.h c u z e, o.hx, o.n, fun l hl => ?_⟩
  obtain ⟨a, b, c, d⟩ := o.ol l hl
  refine ⟨?_, b, c, d⟩
  rw [upd_ne (fun z => by rw [z, o.ix] at a; exact d fs (Option.some.inj a).symm)]
  exact a
theorem IN.own {l : Addr} {u : HO} (o : IN C x dx B0 H0 fs os σ B H ρ) (h : H l = none) (hu : ∀ fs, u ≠ .ins C dx fs) : IN C x dx B0 H0 fs ((l, u) :: os) σ B (upd H l u) ρ := by
  have g : Gr B H B (upd H l u) := Gr.own o.t h
  have o' := o.gr g
  refine ⟨o'.t, o'.e, o'.s, o'.ix, o'.io, o'.nx, o'.nd, o'.b, o'.h, o'.hx, o'.n, fun m hm => ?_⟩
  rcases List.mem_cons.mp hm with rfl | hm
  · refine ⟨upd_same, o.t.nil h, ?_, hu⟩
    cases q : H0 l with
    | none => rfl
    | some u => exact absurd h (o.nn (by rw [q]; exact fun z => nomatch z))
  · exact o'.ol m hm
theorem rp_B_init (k : BK K C) (hsp : sp_init C vs H Q E) : rd_B_init K (spR (RN R_check_start)) (spR R_first_standing) { nx := fun _ H' => Q .non H', rt := Q } (L2.start ["self", "hall", "cells"] vs) H := by
  obtain ⟨B, x, dx, h, cs, va, vb, rfl, ex, hx, hd, nx, nd, dv, ho, hc, q⟩ := hsp
  have ev := env_self (N := ["self", "hall", "cells"]) (x := x) dv (by simp)
  have o : IN C x dx B H [] [] (L2.start ["self", "hall", "cells"] [.ref x, va, vb]) B H [none, some (hallD h), some (cellsD cs)] :=
    ⟨ex, ev, rfl, hx, hd, nx, nd, Ex.refl B, fun c u _ e => e, by rw [hx]; exact fun z => (nomatch z), fun c e _ => e, fun l z => (nomatch z)⟩
  generalize L2.start ["self", "hall", "cells"] [.ref x, va, vb] = σ at o ⊢
  have hdo := ho.ndoors
  unfold rd_B_init
  refine go_seq ?_
  refine ed_call (R := RN R_check_start) (ea_cons (ed_var (i := 1) rfl) (ea_cons (ed_var (i := 2) rfl) ea_nil)) ⟨⟨h, cs, rfl, ho, hc⟩, rfl⟩ σ B H o.t o.e _ fun v B1 H1 g1 _ => ?_
  have o1 := o.gr g1
  dsimp only
  -- _hall
  refine go_seq ?_
  obtain ⟨vh, hvh, dvh⟩ := o1.e.get 1 (hallD h) rfl
  refine ⟨vh, hvh, _, o1.s, x, C, dx, [], rfl, o1.ix, k.c, k.n1, by decide, ?_⟩
  have o2 : IN C x dx B H [("_hall", vh)] [] σ B1 (upd H1 x (.ins C dx [("_hall", vh)])) [none, some (hallD h), some (cellsD cs)] := o1.put
  show tSeq _ _ _ _ (upd H1 x (.ins C dx [("_hall", vh)]))
  generalize upd H1 x (.ins C dx [("_hall", vh)]) = H2 at o2 ⊢
  -- _now
  refine go_seq ?_
  refine ed_call (ea_cons (ed_var (i := 1) rfl) (ea_cons (ed_var (i := 2) rfl) ea_nil)) (R_first_standing.mk h cs (by omega)) σ B1 H2 o2.t o2.e _ fun vn B3 H3 g3 dvn => ?_
  have o3 := o2.gr g3
  have dvh := dvh.mono g3.b
  refine ⟨_, o3.s, x, C, dx, _, rfl, o3.ix, k.c, k.n2, by show 1 < 1000; decide, ?_⟩
  have e4 : putF ("_now" : Str) vn [("_hall", vh)] = ([("_hall", vh), ("_now", vn)] : List (Str × V)) := by kernel_rfl
  rw [e4]
  have o4 : IN C x dx B H [("_hall", vh), ("_now", vn)] [] σ B3 (upd H3 x (.ins C dx [("_hall", vh), ("_now", vn)])) [none, some (hallD h), some (cellsD cs)] := o3.put
  generalize upd H3 x (.ins C dx [("_hall", vh), ("_now", vn)]) = H4 at o4 ⊢
  -- _trail
  show tSeq _ _ _ _ _
  refine go_seq ?_
  refine ⟨Nat.zero_le _, fun lt hlt => ?_⟩
  have o5 := o4.own (u := .lst []) hlt (fun _ z => nomatch z)
  refine ⟨_, o5.s, x, C, dx, _, rfl, o5.ix, k.c, k.n3, by show 2 < 1000; decide, ?_⟩
  have e6 : putF ("_trail" : Str) (V.ref lt) [("_hall", vh), ("_now", vn)] = ([("_hall", vh), ("_now", vn), ("_trail", V.ref lt)] : List (Str × V)) := by kernel_rfl
  rw [e6]
  have o6 : IN C x dx B H [("_hall", vh), ("_now", vn), ("_trail", V.ref lt)] [(lt, .lst [])] σ B3 (upd (upd H4 lt (.lst [])) x (.ins C dx [("_hall", vh), ("_now", vn), ("_trail", V.ref lt)])) [none, some (hallD h), some (cellsD cs)] := o5.put
  generalize upd (upd H4 lt (.lst [])) x (.ins C dx [("_hall", vh), ("_now", vn), ("_trail", V.ref lt)]) = H6 at o6 ⊢
  -- _points
  show tSeq _ _ _ _ _
  refine go_seq ?_
  intro p hp
  have o7 := o6.own (u := .dK []) hp (fun _ z => nomatch z)
  refine ⟨_, o7.s, x, C, dx, _, rfl, o7.ix, k.c, k.n4, by show 3 < 1000; decide, ?_⟩
  have e8 : putF ("_points" : Str) (V.ref p) [("_hall", vh), ("_now", vn), ("_trail", V.ref lt)] = ([("_hall", vh), ("_now", vn), ("_trail", V.ref lt), ("_points", V.ref p)] : List (Str × V)) := by kernel_rfl
  rw [e8]
  have o8 : IN C x dx B H [("_hall", vh), ("_now", vn), ("_trail", V.ref lt), ("_points", V.ref p)] [(p, .dK []), (lt, .lst [])] σ B3 (upd (upd H6 p (.dK [])) x (.ins C dx [("_hall", vh), ("_now", vn), ("_trail", V.ref lt), ("_points", V.ref p)])) [none, some (hallD h), some (cellsD cs)] := o7.put
  generalize upd (upd H6 p (.dK [])) x (.ins C dx [("_hall", vh), ("_now", vn), ("_trail", V.ref lt), ("_points", V.ref p)]) = H8 at o8 ⊢
  -- _batches
  show tSeq _ _ _ _ _
  refine go_seq ?_
  refine ⟨Nat.zero_le _, fun lb hlb => ?_⟩
  have o9 := o8.gr (Gr.own (o := .lst []) o8.t hlb)
  refine ⟨_, o9.s, x, C, dx, _, rfl, o9.ix, k.c, k.n5, by show 4 < 1000; decide, ?_⟩
  have e10 : putF ("_batches" : Str) (V.ref lb) [("_hall", vh), ("_now", vn), ("_trail", V.ref lt), ("_points", V.ref p)] = ([("_hall", vh), ("_now", vn), ("_trail", V.ref lt), ("_points", V.ref p), ("_batches", V.ref lb)] : List (Str × V)) := by kernel_rfl
  rw [e10]
  have o10 : IN C x dx B H [("_hall", vh), ("_now", vn), ("_trail", V.ref lt), ("_points", V.ref p), ("_batches", V.ref lb)] [(p, .dK []), (lt, .lst [])] σ B3 (upd (upd H8 lb (.lst [])) x (.ins C dx [("_hall", vh), ("_now", vn), ("_trail", V.ref lt), ("_points", V.ref p), ("_batches", V.ref lb)])) [none, some (hallD h), some (cellsD cs)] := o9.put
  generalize upd (upd H8 lb (.lst [])) x (.ins C dx [("_hall", vh), ("_now", vn), ("_trail", V.ref lt), ("_points", V.ref p), ("_batches", V.ref lb)]) = H10 at o10 ⊢
  -- _idle
  refine ⟨_, o10.s, x, C, dx, _, rfl, o10.ix, k.c, k.n6, by show 5 < 1000; decide, ?_⟩
  have e12 : putF ("_idle" : Str) (V.bl true) [("_hall", vh), ("_now", vn), ("_trail", V.ref lt), ("_points", V.ref p), ("_batches", V.ref lb)] = bFs vh vn (V.ref lb) (.bl true) ⟨x, dx, lt, p⟩ := by kernel_rfl
  rw [e12]
  have o12 : IN C x dx B H (bFs vh vn (V.ref lb) (.bl true) ⟨x, dx, lt, p⟩) [(p, .dK []), (lt, .lst [])] σ B3 (upd H10 x (.ins C dx (bFs vh vn (V.ref lb) (.bl true) ⟨x, dx, lt, p⟩))) [none, some (hallD h), some (cellsD cs)] := o10.put
  obtain ⟨b1, b2, b3, _⟩ := o12.ol (p, .dK []) (.head _)
  obtain ⟨t1, t2, t3, _⟩ := o12.ol (lt, .lst []) (.tail _ (.head _))
  dsimp only
  refine q lt p B3 _ o12.t o12.b ⟨⟨vh, vn, V.ref lb, .bl true, o12.ix, dvh, dvn⟩, o12.io, ⟨[], t1, .nil⟩, ⟨[], b1, .nil⟩⟩ (fun c hc => ?_) o12.h o12.n t3 b3
  simp only [BAd.l, List.mem_cons, List.not_mem_nil, or_false] at hc
  rcases hc with rfl | rfl | rfl | rfl
  · exact o12.nx
  · exact o12.nd
  · exact t2
  · exact b2
end
end Pd

/-! Lam14 -/
set_option Elab.async false
set_option linter.all false
namespace Pd
open PySem PySem.Spec PyProof.Rows L2
def lamArgs : Arguments := { posonlyargs := [], args := [], vararg := none, kwonlyargs := [], kw_defaults := [], kwarg := none, defaults := [] }
def lamArgs4 : Arguments := { posonlyargs := [], args := [⟨"_law_a", none, ⟨410, 81, 410, 87⟩⟩], vararg := none, kwonlyargs := [], kw_defaults := [], kwarg := none, defaults := [(PySem.Expr.Constant (PySem.Const.int 0) 0 ⟨410, 88, 410, 89⟩)] }
def lam1B : Expr := (PySem.Expr.Call (func := (PySem.Expr.Attribute (PySem.Expr.Name "_law_bench" ⟨424, 55, 424, 65⟩) "step" ⟨424, 55, 424, 70⟩)) (args := [(PySem.Expr.Name "_law_step_here" ⟨424, 71, 424, 85⟩)]) (keywords := []) (pos := ⟨424, 55, 424, 86⟩))
def lam2B : Expr := (PySem.Expr.Call (func := (PySem.Expr.Attribute (PySem.Expr.Name "_law_bench" ⟨439, 33, 439, 43⟩) "go" ⟨439, 33, 439, 46⟩)) (args := [(PySem.Expr.Name "_law_name" ⟨439, 47, 439, 56⟩)]) (keywords := []) (pos := ⟨439, 33, 439, 57⟩))
def lam3B : Expr := (PySem.Expr.Call (func := (PySem.Expr.Attribute (PySem.Expr.Name "_law_bench" ⟨410, 36, 410, 46⟩) "mark" ⟨410, 36, 410, 51⟩)) (args := [(PySem.Expr.Name "_law_bad" ⟨410, 52, 410, 60⟩)]) (keywords := []) (pos := ⟨410, 36, 410, 61⟩))
def lam4B : Expr := (PySem.Expr.Call (func := (PySem.Expr.Attribute (PySem.Expr.Name "_law_bench" ⟨410, 91, 410, 101⟩) "go" ⟨410, 91, 410, 104⟩)) (args := [(PySem.Expr.Name "_law_bad" ⟨410, 105, 410, 113⟩)]) (keywords := []) (pos := ⟨410, 91, 410, 114⟩))
def lam5B : Expr := (PySem.Expr.Call (func := (PySem.Expr.Attribute (PySem.Expr.Name "_law_bench" ⟨412, 43, 412, 53⟩) "step" ⟨412, 43, 412, 58⟩)) (args := [(PySem.Expr.Name "_law_odd" ⟨412, 59, 412, 67⟩)]) (keywords := []) (pos := ⟨412, 43, 412, 68⟩))
def lamScope1 : Scope := { kind := ScopeKind.function, names := [(PySem.Str.ofString "_law_bench", NameKind.free), (PySem.Str.ofString "_law_step_here", NameKind.free)], isGenerator := false, isCoroutine := false, more := [] }
def lamScope2 : Scope := { kind := ScopeKind.function, names := [(PySem.Str.ofString "_law_bench", NameKind.free), (PySem.Str.ofString "_law_name", NameKind.free)], isGenerator := false, isCoroutine := false, more := [] }
def lamScope3 : Scope := { kind := ScopeKind.function, names := [(PySem.Str.ofString "_law_bad", NameKind.free), (PySem.Str.ofString "_law_bench", NameKind.free)], isGenerator := false, isCoroutine := false, more := [] }
def lamScope4 : Scope := { kind := ScopeKind.function, names := [(PySem.Str.ofString "_law_a", NameKind.local), (PySem.Str.ofString "_law_bad", NameKind.free), (PySem.Str.ofString "_law_bench", NameKind.free)], isGenerator := false, isCoroutine := false, more := [] }
def lamScope5 : Scope := { kind := ScopeKind.function, names := [(PySem.Str.ofString "_law_bench", NameKind.free), (PySem.Str.ofString "_law_odd", NameKind.free)], isGenerator := false, isCoroutine := false, more := [] }
end Pd

/-! B14 -/
set_option Elab.async false
set_option linter.all false
set_option maxRecDepth 100000
set_option maxHeartbeats 4000000
namespace Pd
open PySem PySem.Spec PyProof.Rows L2
def topS (i : Nat) : Stmt := PySem.Challenge.pw_hingehall_k14_a_bench_there_and_back.main.body.getD i (.Pass ⟨0, 0, 0, 0⟩)
structure Txt (K : PySem.W.Frag) (mg : Str → Option Value) (w : World) (aWAYS C : Addr) : Prop where
  b_all : mg "all" = none
  b_bool : mg "bool" = none
  b_enumerate : mg "enumerate" = none
  b_int : mg "int" = none
  b_isinstance : mg "isinstance" = none
  b_len : mg "len" = none
  b_list : mg "list" = none
  b_max : mg "max" = none
  b_min : mg "min" = none
  b_range : mg "range" = none
  b_sorted : mg "sorted" = none
  b_str : mg "str" = none
  b_tuple : mg "tuple" = none
  b_zip : mg "zip" = none
  c_WAYS : mg "WAYS" = some (.ref aWAYS)
  c_MOST_SIDE : ∃ t, mg "MOST_SIDE" = some (.int 5 t)
  c_MOST_WALLS : ∃ t, mg "MOST_WALLS" = some (.int 24 t)
  c_MOST_DOORS : ∃ t, mg "MOST_DOORS" = some (.int 6 t)
  c_MOST_WALKERS : ∃ t, mg "MOST_WALKERS" = some (.int 3 t)
  c_LETTERS : ∃ t, mg "LETTERS" = some (.str "abcdefghijklmnopqrstuvwxyz" t)
  c_LONGEST_NAME : ∃ t, mg "LONGEST_NAME" = some (.int 8 t)
  c_Bench : mg "Bench" = some (.ref C)
  s_WAYS : ∀ H : Hp, SqT K H aWAYS [.str "e", .str "n", .str "s", .str "w"]
abbrev s_is_number : Stmt := topS 21
abbrev n_is_number : List Str := ["value"]
abbrev p_is_number : List Str := ["value"]
theorem sc_is_number : FnScope n_is_number p_is_number (defScope s_is_number) := ⟨rfl, rfl, rfl, by decide +kernel, rfl, by decide +kernel, by decide +kernel⟩
theorem bd_is_number {P : Program} {w : World} {K : PySem.W.Frag} {mg : Str → Option Value} {base : Heap} {f : Addr} {cdv : Value} {A : Around} {outer : List Env} {s : Shared} {H : Hp} {E : XK} {aWAYS C : Addr} (T : Txt K mg w aWAYS C) (hr : Room 0 (A.deeper (envOfC "is_number" (defScope s_is_number) s.heap.objs.size f cdv))) :
    PSs (cxOf CX0 P w K mg base n_is_number "is_number" (defScope s_is_number) f cdv A outer s H E).nox (defBody s_is_number) (rd_is_number K) := by
  have nd : n_is_number.Nodup := sc_is_number.nd
  exact (pss_one (ps_ret (pe_and (pe_callB call_isi (by rfl) T.b_isinstance (by decide +kernel) (pa_cons (pv 0) (pa_cons (pe_bltn (v := .ty "int") (by rfl) T.b_int (by decide +kernel) rfl) pa_nil))) (pe_one (pe_not (pe_callB call_isi (by rfl) T.b_isinstance (by decide +kernel) (pa_cons (pv 0) (pa_cons (pe_bltn (v := .ty "bool") (by rfl) T.b_bool (by decide +kernel) rfl) pa_nil))))))))
abbrev s_is_side : Stmt := topS 22
abbrev n_is_side : List Str := ["value"]
abbrev p_is_side : List Str := ["value"]
theorem sc_is_side : FnScope n_is_side p_is_side (defScope s_is_side) := ⟨rfl, rfl, rfl, by decide +kernel, rfl, by decide +kernel, by decide +kernel⟩
theorem bd_is_side {P : Program} {w : World} {K : PySem.W.Frag} {mg : Str → Option Value} {base : Heap} {f : Addr} {cdv : Value} {A : Around} {outer : List Env} {s : Shared} {H : Hp} {E : XK} {aWAYS C : Addr} {sp_is_number : Sp} (T : Txt K mg w aWAYS C) (hr : Room 1 (A.deeper (envOfC "is_side" (defScope s_is_side) s.heap.objs.size f cdv))) (G_is_number : DefS P w K mg base CX0 1 "is_number" p_is_number sp_is_number) :
    PSs (cxOf CX0 P w K mg base n_is_side "is_side" (defScope s_is_side) f cdv A outer s H E).nox (defBody s_is_side) (rd_is_side K sp_is_number) := by
  have nd : n_is_side.Nodup := sc_is_side.nd
  exact (pss_one (ps_ret (pe_and (pe_dcall G_is_number (hr.mono (by first | decide | omega)) (pa_cons (pv 0) pa_nil)) (pe_one (pe_chain op_le op_le pe_int (pv 0) (pe_globI (by rfl) T.c_MOST_SIDE))))))
abbrev s_is_cell : Stmt := topS 23
abbrev n_is_cell : List Str := ["hall", "value", "row", "column"]
abbrev p_is_cell : List Str := ["hall", "value"]
theorem sc_is_cell : FnScope n_is_cell p_is_cell (defScope s_is_cell) := ⟨rfl, rfl, rfl, by decide +kernel, rfl, by decide +kernel, by decide +kernel⟩
theorem bd_is_cell {P : Program} {w : World} {K : PySem.W.Frag} {mg : Str → Option Value} {base : Heap} {f : Addr} {cdv : Value} {A : Around} {outer : List Env} {s : Shared} {H : Hp} {E : XK} {aWAYS C : Addr} {sp_is_number : Sp} (T : Txt K mg w aWAYS C) (hr : Room 1 (A.deeper (envOfC "is_cell" (defScope s_is_cell) s.heap.objs.size f cdv))) (G_is_number : DefS P w K mg base CX0 1 "is_number" p_is_number sp_is_number) :
    PSs (cxOf CX0 P w K mg base n_is_cell "is_cell" (defScope s_is_cell) f cdv A outer s H E).nox (defBody s_is_cell) (rd_is_cell K sp_is_number) := by
  have nd : n_is_cell.Nodup := sc_is_cell.nd
  exact (pss_cons (ps_if (PW.pt (pw_or (pt_not (pt_val (pe_callB call_isi (by rfl) T.b_isinstance (by decide +kernel) (pa_cons (pv 1) (pa_cons (pe_bltn (v := .ty "tuple") (by rfl) T.b_tuple (by decide +kernel) rfl) pa_nil))))) (pw_or1 (pt_cmpR (op_neD hr.units) (pe_callB call_len (by rfl) T.b_len PySem.boot_len (pa_cons (pv 1) pa_nil)) pe_int (nomark _))))) (pss_one (ps_ret pe_bl)) pss_nil) (pss_cons (ps_asg (pv 1) (pg_tup rfl (pgs_cons (pg_name (i := 2) nd rfl (Or.inl rfl)) (pgs_cons (pg_name (i := 3) nd rfl (Or.inl rfl)) pgs_nil)))) (pss_cons (ps_if (PW.pt (pw_or (pt_not (pt_val (pe_dcall G_is_number (hr.mono (by first | decide | omega)) (pa_cons (pv 2) pa_nil)))) (pw_or1 (pt_not (pt_val (pe_dcall G_is_number (hr.mono (by first | decide | omega)) (pa_cons (pv 3) pa_nil))))))) (pss_one (ps_ret pe_bl)) pss_nil) (pss_one (ps_ret (pe_and (pe_chain op_le op_lt pe_int (pv 2) (pe_ix ix_seq (pv 0) pe_int (fun _ _ => rfl))) (pe_one (pe_chain op_le op_lt pe_int (pv 3) (pe_ix ix_seq (pv 0) pe_int (fun _ _ => rfl))))))))))
abbrev s_is_edge : Stmt := topS 24
abbrev n_is_edge : List Str := ["hall", "value", "row", "column", "sign"]
abbrev p_is_edge : List Str := ["hall", "value"]
theorem sc_is_edge : FnScope n_is_edge p_is_edge (defScope s_is_edge) := ⟨rfl, rfl, rfl, by decide +kernel, rfl, by decide +kernel, by decide +kernel⟩
theorem bd_is_edge {P : Program} {w : World} {K : PySem.W.Frag} {mg : Str → Option Value} {base : Heap} {f : Addr} {cdv : Value} {A : Around} {outer : List Env} {s : Shared} {H : Hp} {E : XK} {aWAYS C : Addr} {sp_is_cell : Sp} (T : Txt K mg w aWAYS C) (hr : Room 2 (A.deeper (envOfC "is_edge" (defScope s_is_edge) s.heap.objs.size f cdv))) (G_is_cell : DefS P w K mg base CX0 2 "is_cell" p_is_cell sp_is_cell) :
    PSs (cxOf CX0 P w K mg base n_is_edge "is_edge" (defScope s_is_edge) f cdv A outer s H E).nox (defBody s_is_edge) (rd_is_edge K sp_is_cell) := by
  have nd : n_is_edge.Nodup := sc_is_edge.nd
  exact (pss_cons (ps_if (PW.pt (pw_or (pt_not (pt_val (pe_callB call_isi (by rfl) T.b_isinstance (by decide +kernel) (pa_cons (pv 1) (pa_cons (pe_bltn (v := .ty "tuple") (by rfl) T.b_tuple (by decide +kernel) rfl) pa_nil))))) (pw_or1 (pt_cmpR (op_neD hr.units) (pe_callB call_len (by rfl) T.b_len PySem.boot_len (pa_cons (pv 1) pa_nil)) pe_int (nomark _))))) (pss_one (ps_ret pe_bl)) pss_nil) (pss_cons (ps_asg (pv 1) (pg_tup rfl (pgs_cons (pg_name (i := 2) nd rfl (Or.inl rfl)) (pgs_cons (pg_name (i := 3) nd rfl (Or.inl rfl)) (pgs_cons (pg_name (i := 4) nd rfl (Or.inl rfl)) pgs_nil))))) (pss_cons (ps_if (pt_not (pt_val (pe_dcall G_is_cell (hr.mono (by first | decide | omega)) (pa_cons (pv 0) (pa_cons (pe_tup (pa_cons (pv 2) (pa_cons (pv 3) pa_nil))) pa_nil))))) (pss_one (ps_ret pe_bl)) pss_nil) (pss_cons (ps_if (pt_cmpR (op_eqD hr.units) (pv 4) pe_str (nomark _)) (pss_one (ps_ret (pe_cmpR op_gt (pv 2) pe_int (nomark _)))) pss_nil) (pss_one (ps_ret (pe_and (pe_cmpR (op_eqD hr.units) (pv 4) pe_str (nomark _)) (pe_one (pe_cmpR op_gt (pv 3) pe_int (nomark _))))))))))
abbrev s_edge_from : Stmt := topS 25
abbrev n_edge_from : List Str := ["row", "column", "way"]
abbrev p_edge_from : List Str := ["row", "column", "way"]
theorem sc_edge_from : FnScope n_edge_from p_edge_from (defScope s_edge_from) := ⟨rfl, rfl, rfl, by decide +kernel, rfl, by decide +kernel, by decide +kernel⟩
theorem bd_edge_from {P : Program} {w : World} {K : PySem.W.Frag} {mg : Str → Option Value} {base : Heap} {f : Addr} {cdv : Value} {A : Around} {outer : List Env} {s : Shared} {H : Hp} {E : XK} {aWAYS C : Addr} (T : Txt K mg w aWAYS C) (hr : Room 0 (A.deeper (envOfC "edge_from" (defScope s_edge_from) s.heap.objs.size f cdv))) :
    PSs (cxOf CX0 P w K mg base n_edge_from "edge_from" (defScope s_edge_from) f cdv A outer s H E).nox (defBody s_edge_from) (rd_edge_from K) := by
  have nd : n_edge_from.Nodup := sc_edge_from.nd
  exact (pss_cons (ps_if (pt_cmpR (op_eqD hr.units) (pv 2) pe_str (nomark _)) (pss_one (ps_ret (pe_tup (pa_cons (pe_op op_sub (pv 0) pe_int) (pa_cons (pv 1) (pa_cons pe_str pa_nil)))))) pss_nil) (pss_cons (ps_if (pt_cmpR (op_eqD hr.units) (pv 2) pe_str (nomark _)) (pss_one (ps_ret (pe_tup (pa_cons (pv 0) (pa_cons (pv 1) (pa_cons pe_str pa_nil)))))) pss_nil) (pss_cons (ps_if (pt_cmpR (op_eqD hr.units) (pv 2) pe_str (nomark _)) (pss_one (ps_ret (pe_tup (pa_cons (pv 0) (pa_cons (pv 1) (pa_cons pe_str pa_nil)))))) pss_nil) (pss_one (ps_ret (pe_tup (pa_cons (pv 0) (pa_cons (pe_op op_sub (pv 1) pe_int) (pa_cons pe_str pa_nil)))))))))
abbrev s_edge_crossed : Stmt := topS 26
abbrev n_edge_crossed : List Str := ["cell", "way", "row", "column"]
abbrev p_edge_crossed : List Str := ["cell", "way"]
theorem sc_edge_crossed : FnScope n_edge_crossed p_edge_crossed (defScope s_edge_crossed) := ⟨rfl, rfl, rfl, by decide +kernel, rfl, by decide +kernel, by decide +kernel⟩
theorem bd_edge_crossed {P : Program} {w : World} {K : PySem.W.Frag} {mg : Str → Option Value} {base : Heap} {f : Addr} {cdv : Value} {A : Around} {outer : List Env} {s : Shared} {H : Hp} {E : XK} {aWAYS C : Addr} (T : Txt K mg w aWAYS C) (hr : Room 0 (A.deeper (envOfC "edge_crossed" (defScope s_edge_crossed) s.heap.objs.size f cdv))) :
    PSs (cxOf CX0 P w K mg base n_edge_crossed "edge_crossed" (defScope s_edge_crossed) f cdv A outer s H E).nox (defBody s_edge_crossed) (rd_edge_crossed K) := by
  have nd : n_edge_crossed.Nodup := sc_edge_crossed.nd
  exact (pss_cons (ps_asg (pv 0) (pg_tup rfl (pgs_cons (pg_name (i := 2) nd rfl (Or.inl rfl)) (pgs_cons (pg_name (i := 3) nd rfl (Or.inl rfl)) pgs_nil)))) (pss_cons (ps_if (pt_cmpR (op_eqD hr.units) (pv 1) pe_str (nomark _)) (pss_one (ps_ret (pe_tup (pa_cons (pv 2) (pa_cons (pv 3) (pa_cons pe_str pa_nil)))))) pss_nil) (pss_cons (ps_if (pt_cmpR (op_eqD hr.units) (pv 1) pe_str (nomark _)) (pss_one (ps_ret (pe_tup (pa_cons (pv 2) (pa_cons (pe_op op_addX (pv 3) pe_int) (pa_cons pe_str pa_nil)))))) pss_nil) (pss_cons (ps_if (pt_cmpR (op_eqD hr.units) (pv 1) pe_str (nomark _)) (pss_one (ps_ret (pe_tup (pa_cons (pe_op op_addX (pv 2) pe_int) (pa_cons (pv 3) (pa_cons pe_str pa_nil)))))) pss_nil) (pss_one (ps_ret (pe_tup (pa_cons (pv 2) (pa_cons (pv 3) (pa_cons pe_str pa_nil))))))))))
abbrev s_next_cell : Stmt := topS 27
abbrev n_next_cell : List Str := ["cell", "way", "row", "column"]
abbrev p_next_cell : List Str := ["cell", "way"]
theorem sc_next_cell : FnScope n_next_cell p_next_cell (defScope s_next_cell) := ⟨rfl, rfl, rfl, by decide +kernel, rfl, by decide +kernel, by decide +kernel⟩
theorem bd_next_cell {P : Program} {w : World} {K : PySem.W.Frag} {mg : Str → Option Value} {base : Heap} {f : Addr} {cdv : Value} {A : Around} {outer : List Env} {s : Shared} {H : Hp} {E : XK} {aWAYS C : Addr} (T : Txt K mg w aWAYS C) (hr : Room 0 (A.deeper (envOfC "next_cell" (defScope s_next_cell) s.heap.objs.size f cdv))) :
    PSs (cxOf CX0 P w K mg base n_next_cell "next_cell" (defScope s_next_cell) f cdv A outer s H E).nox (defBody s_next_cell) (rd_next_cell K) := by
  have nd : n_next_cell.Nodup := sc_next_cell.nd
  exact (pss_cons (ps_asg (pv 0) (pg_tup rfl (pgs_cons (pg_name (i := 2) nd rfl (Or.inl rfl)) (pgs_cons (pg_name (i := 3) nd rfl (Or.inl rfl)) pgs_nil)))) (pss_cons (ps_if (pt_cmpR (op_eqD hr.units) (pv 1) pe_str (nomark _)) (pss_one (ps_ret (pe_tup (pa_cons (pe_op op_sub (pv 2) pe_int) (pa_cons (pv 3) pa_nil))))) pss_nil) (pss_cons (ps_if (pt_cmpR (op_eqD hr.units) (pv 1) pe_str (nomark _)) (pss_one (ps_ret (pe_tup (pa_cons (pv 2) (pa_cons (pe_op op_addX (pv 3) pe_int) pa_nil))))) pss_nil) (pss_cons (ps_if (pt_cmpR (op_eqD hr.units) (pv 1) pe_str (nomark _)) (pss_one (ps_ret (pe_tup (pa_cons (pe_op op_addX (pv 2) pe_int) (pa_cons (pv 3) pa_nil))))) pss_nil) (pss_one (ps_ret (pe_tup (pa_cons (pv 2) (pa_cons (pe_op op_sub (pv 3) pe_int) pa_nil)))))))))
abbrev s_door_edge : Stmt := topS 28
abbrev n_door_edge : List Str := ["door", "row", "column", "way"]
abbrev p_door_edge : List Str := ["door"]
theorem sc_door_edge : FnScope n_door_edge p_door_edge (defScope s_door_edge) := ⟨rfl, rfl, rfl, by decide +kernel, rfl, by decide +kernel, by decide +kernel⟩
theorem bd_door_edge {P : Program} {w : World} {K : PySem.W.Frag} {mg : Str → Option Value} {base : Heap} {f : Addr} {cdv : Value} {A : Around} {outer : List Env} {s : Shared} {H : Hp} {E : XK} {aWAYS C : Addr} {sp_edge_from : Sp} {sp_is_number : Sp} (T : Txt K mg w aWAYS C) (hr : Room 1 (A.deeper (envOfC "door_edge" (defScope s_door_edge) s.heap.objs.size f cdv))) (G_edge_from : DefS P w K mg base CX0 1 "edge_from" p_edge_from sp_edge_from) (G_is_number : DefS P w K mg base CX0 1 "is_number" p_is_number sp_is_number) :
    PSs (cxOf CX0 P w K mg base n_door_edge "door_edge" (defScope s_door_edge) f cdv A outer s H E).nox (defBody s_door_edge) (rd_door_edge K aWAYS sp_edge_from sp_is_number) := by
  have nd : n_door_edge.Nodup := sc_door_edge.nd
  exact (pss_cons (ps_if (PW.pt (pw_or (pt_not (pt_val (pe_callB call_isi (by rfl) T.b_isinstance (by decide +kernel) (pa_cons (pv 0) (pa_cons (pe_bltn (v := .ty "tuple") (by rfl) T.b_tuple (by decide +kernel) rfl) pa_nil))))) (pw_or1 (pt_cmpR (op_neD hr.units) (pe_callB call_len (by rfl) T.b_len PySem.boot_len (pa_cons (pv 0) pa_nil)) pe_int (nomark _))))) (pss_one (ps_ret pe_non)) pss_nil) (pss_cons (ps_asg (pv 0) (pg_tup rfl (pgs_cons (pg_name (i := 1) nd rfl (Or.inl rfl)) (pgs_cons (pg_name (i := 2) nd rfl (Or.inl rfl)) (pgs_cons (pg_name (i := 3) nd rfl (Or.inl rfl)) pgs_nil))))) (pss_cons (ps_if (PW.pt (pw_or (pt_not (pt_val (pe_dcall G_is_number (hr.mono (by first | decide | omega)) (pa_cons (pv 1) pa_nil)))) (pw_or (pt_not (pt_val (pe_dcall G_is_number (hr.mono (by first | decide | omega)) (pa_cons (pv 2) pa_nil)))) (pw_or1 (pt_cmpR (op_notInX (hu65 hr)) (pv 3) (pe_glob (by rfl) T.c_WAYS rfl) (by rfl)))))) (pss_one (ps_ret pe_non)) pss_nil) (pss_one (ps_ret (pe_dcall G_edge_from (hr.mono (by first | decide | omega)) (pa_cons (pv 1) (pa_cons (pv 2) (pa_cons (pv 3) pa_nil)))))))))
abbrev s_check_edges : Stmt := topS 29
abbrev n_check_edges : List Str := ["hall", "part", "edges", "most", "taken", "number", "edge"]
abbrev p_check_edges : List Str := ["hall", "part", "edges", "most", "taken"]
theorem sc_check_edges : FnScope n_check_edges p_check_edges (defScope s_check_edges) := ⟨rfl, rfl, rfl, by decide +kernel, rfl, by decide +kernel, by decide +kernel⟩
theorem bd_check_edges {P : Program} {w : World} {K : PySem.W.Frag} {mg : Str → Option Value} {base : Heap} {f : Addr} {cdv : Value} {A : Around} {outer : List Env} {s : Shared} {H : Hp} {E : XK} {aWAYS C : Addr} {sp_is_edge : Sp} (T : Txt K mg w aWAYS C) (hr : Room 3 (A.deeper (envOfC "check_edges" (defScope s_check_edges) s.heap.objs.size f cdv))) (G_is_edge : DefS P w K mg base CX0 3 "is_edge" p_is_edge sp_is_edge) :
    PSs (cxOf CX0 P w K mg base n_check_edges "check_edges" (defScope s_check_edges) f cdv A outer s H E).nox (defBody s_check_edges) (rd_check_edges K sp_is_edge) := by
  have nd : n_check_edges.Nodup := sc_check_edges.nd
  exact (pss_one (ps_for PassesOwn.never rfl (pi_enumX (by rfl) T.b_enumerate (pa_cons (pv 2) pa_nil)) (pg_tup rfl (pgs_cons (pg_name (i := 5) nd rfl (Or.inl rfl)) (pgs_cons (pg_name (i := 6) nd rfl (Or.inl rfl)) pgs_nil))) (pss_cons (ps_if (PW.pt (pw_or (pt_cmpR (op_eqD hr.units) (pv 5) (pv 3) (nomark _)) (pw_or1 (pt_not (pt_val (pe_dcall G_is_edge (hr.mono (by first | decide | omega)) (pa_cons (pv 0) (pa_cons (pv 6) pa_nil)))))))) (pss_one ps_never) pss_nil) (pss_one (ps_if (PW.pt (pw_or (pt_cmpR (op_inX (hu65 hr)) (pv 6) (pv 4) (by rfl)) (pw_or1 (pt_cmpR (op_inX (hu65 hr)) (pv 6) (pe_slice sl_X (pv 2) po_none (po_some (pv 5))) (by rfl))))) (pss_one ps_never) pss_nil)))))
abbrev s_check_hall : Stmt := topS 30
abbrev n_check_hall : List Str := ["hall", "rows", "columns", "walls", "doors", "door"]
abbrev p_check_hall : List Str := ["hall"]
theorem sc_check_hall : FnScope n_check_hall p_check_hall (defScope s_check_hall) := ⟨rfl, rfl, rfl, by decide +kernel, rfl, by decide +kernel, by decide +kernel⟩
theorem bd_check_hall {P : Program} {w : World} {K : PySem.W.Frag} {mg : Str → Option Value} {base : Heap} {f : Addr} {cdv : Value} {A : Around} {outer : List Env} {s : Shared} {H : Hp} {E : XK} {aWAYS C : Addr} {sp_check_edges : Sp} {sp_door_edge : Sp} {sp_is_side : Sp} (T : Txt K mg w aWAYS C) (hr : Room 4 (A.deeper (envOfC "check_hall" (defScope s_check_hall) s.heap.objs.size f cdv))) (G_check_edges : DefS P w K mg base CX0 4 "check_edges" p_check_edges sp_check_edges) (G_door_edge : DefS P w K mg base CX0 2 "door_edge" p_door_edge sp_door_edge) (G_is_side : DefS P w K mg base CX0 2 "is_side" p_is_side sp_is_side) :
    PSs (cxOf CX0 P w K mg base n_check_hall "check_hall" (defScope s_check_hall) f cdv A outer s H E).nox (defBody s_check_hall) (rd_check_hall K sp_check_edges sp_door_edge sp_is_side) := by
  have nd : n_check_hall.Nodup := sc_check_hall.nd
  exact (pss_cons (ps_if (PW.pt (pw_or (pt_not (pt_val (pe_callB call_isi (by rfl) T.b_isinstance (by decide +kernel) (pa_cons (pv 0) (pa_cons (pe_bltn (v := .ty "tuple") (by rfl) T.b_tuple (by decide +kernel) rfl) pa_nil))))) (pw_or1 (pt_cmpR (op_neD hr.units) (pe_callB call_len (by rfl) T.b_len PySem.boot_len (pa_cons (pv 0) pa_nil)) pe_int (nomark _))))) (pss_one ps_never) pss_nil) (pss_cons (ps_asg (pv 0) (pg_tup rfl (pgs_cons (pg_name (i := 1) nd rfl (Or.inl rfl)) (pgs_cons (pg_name (i := 2) nd rfl (Or.inl rfl)) (pgs_cons (pg_name (i := 3) nd rfl (Or.inl rfl)) (pgs_cons (pg_name (i := 4) nd rfl (Or.inl rfl)) pgs_nil)))))) (pss_cons (ps_if (pt_not (pt_val (pe_dcall G_is_side (hr.mono (by first | decide | omega)) (pa_cons (pv 1) pa_nil)))) (pss_one ps_never) pss_nil) (pss_cons (ps_if (pt_not (pt_val (pe_dcall G_is_side (hr.mono (by first | decide | omega)) (pa_cons (pv 2) pa_nil)))) (pss_one ps_never) pss_nil) (pss_cons (ps_if (pt_not (pt_val (pe_callB call_isi (by rfl) T.b_isinstance (by decide +kernel) (pa_cons (pv 3) (pa_cons (pe_bltn (v := .ty "tuple") (by rfl) T.b_tuple (by decide +kernel) rfl) pa_nil))))) (pss_one ps_never) pss_nil) (pss_cons (ps_expr (pe_dcall G_check_edges (hr.mono (by first | decide | omega)) (pa_cons (pv 0) (pa_cons pe_int (pa_cons (pv 3) (pa_cons (pe_globI (by rfl) T.c_MOST_WALLS) (pa_cons (pe_tup pa_nil) pa_nil))))))) (pss_cons (ps_if (pt_not (pt_val (pe_callB call_isi (by rfl) T.b_isinstance (by decide +kernel) (pa_cons (pv 4) (pa_cons (pe_bltn (v := .ty "tuple") (by rfl) T.b_tuple (by decide +kernel) rfl) pa_nil))))) (pss_one ps_never) pss_nil) (pss_one (ps_expr (pe_dcall G_check_edges (hr.mono (by first | decide | omega)) (pa_cons (pv 0) (pa_cons pe_int (pa_cons (pe_lc (own := [("door", 5)]) (g := (gName 5)) (tt := tYes) (te := (tCallD sp_door_edge (tCons (tVar 5) tNil))) rfl nd (pi_tup (pv 4)) (blkOk_by (own := [("door", 5)]) (N := ["hall", "rows", "columns", "walls", "doors", "door"]) (sc := defScope s_check_hall) (by decide +kernel)) (fun _ _ _ _ _ => (pg_name (i := 5) nd rfl (Or.inl rfl))) (fun _ _ _ _ _ => pts_nil) (fun _ _ _ _ _ => (pe_dcall G_door_edge (hr.mono (by first | decide | omega)) (pa_cons (pv 5) pa_nil)))) (pa_cons (pe_globI (by rfl) T.c_MOST_DOORS) (pa_cons (pv 3) pa_nil)))))))))))))))
abbrev s_check_cells : Stmt := topS 31
abbrev n_check_cells : List Str := ["hall", "cells", "number", "cell"]
abbrev p_check_cells : List Str := ["hall", "cells"]
theorem sc_check_cells : FnScope n_check_cells p_check_cells (defScope s_check_cells) := ⟨rfl, rfl, rfl, by decide +kernel, rfl, by decide +kernel, by decide +kernel⟩
theorem bd_check_cells {P : Program} {w : World} {K : PySem.W.Frag} {mg : Str → Option Value} {base : Heap} {f : Addr} {cdv : Value} {A : Around} {outer : List Env} {s : Shared} {H : Hp} {E : XK} {aWAYS C : Addr} {sp_is_cell : Sp} (T : Txt K mg w aWAYS C) (hr : Room 2 (A.deeper (envOfC "check_cells" (defScope s_check_cells) s.heap.objs.size f cdv))) (G_is_cell : DefS P w K mg base CX0 2 "is_cell" p_is_cell sp_is_cell) :
    PSs (cxOf CX0 P w K mg base n_check_cells "check_cells" (defScope s_check_cells) f cdv A outer s H E).nox (defBody s_check_cells) (rd_check_cells K sp_is_cell) := by
  have nd : n_check_cells.Nodup := sc_check_cells.nd
  exact (pss_cons (ps_if (PW.pt (pw_or (pt_not (pt_val (pe_callB call_isi (by rfl) T.b_isinstance (by decide +kernel) (pa_cons (pv 1) (pa_cons (pe_bltn (v := .ty "tuple") (by rfl) T.b_tuple (by decide +kernel) rfl) pa_nil))))) (pw_or1 (pt_cmpR (op_eqD hr.units) (pe_callB call_len (by rfl) T.b_len PySem.boot_len (pa_cons (pv 1) pa_nil)) pe_int (nomark _))))) (pss_one ps_never) pss_nil) (pss_one (ps_for PassesOwn.never rfl (pi_enumX (by rfl) T.b_enumerate (pa_cons (pv 1) pa_nil)) (pg_tup rfl (pgs_cons (pg_name (i := 2) nd rfl (Or.inl rfl)) (pgs_cons (pg_name (i := 3) nd rfl (Or.inl rfl)) pgs_nil))) (pss_one (ps_if (PW.pt (pw_or (pt_cmpR (op_eqD hr.units) (pv 2) (pe_globI (by rfl) T.c_MOST_WALKERS) (nomark _)) (pw_or (pt_not (pt_val (pe_dcall G_is_cell (hr.mono (by first | decide | omega)) (pa_cons (pv 0) (pa_cons (pv 3) pa_nil))))) (pw_or1 (pt_cmpR (op_inX (hu65 hr)) (pv 3) (pe_slice sl_X (pv 1) po_none (po_some (pv 2))) (by rfl)))))) (pss_one ps_never) pss_nil)))))
abbrev s_check_start : Stmt := topS 32
abbrev n_check_start : List Str := ["hall", "cells"]
abbrev p_check_start : List Str := ["hall", "cells"]
theorem sc_check_start : FnScope n_check_start p_check_start (defScope s_check_start) := ⟨rfl, rfl, rfl, by decide +kernel, rfl, by decide +kernel, by decide +kernel⟩
theorem bd_check_start {P : Program} {w : World} {K : PySem.W.Frag} {mg : Str → Option Value} {base : Heap} {f : Addr} {cdv : Value} {A : Around} {outer : List Env} {s : Shared} {H : Hp} {E : XK} {aWAYS C : Addr} {sp_check_cells : Sp} {sp_check_hall : Sp} (T : Txt K mg w aWAYS C) (hr : Room 5 (A.deeper (envOfC "check_start" (defScope s_check_start) s.heap.objs.size f cdv))) (G_check_cells : DefS P w K mg base CX0 3 "check_cells" p_check_cells sp_check_cells) (G_check_hall : DefS P w K mg base CX0 5 "check_hall" p_check_hall sp_check_hall) :
    PSs (cxOf CX0 P w K mg base n_check_start "check_start" (defScope s_check_start) f cdv A outer s H E).nox (defBody s_check_start) (rd_check_start K sp_check_cells sp_check_hall) := by
  have nd : n_check_start.Nodup := sc_check_start.nd
  exact (pss_cons (ps_expr (pe_dcall G_check_hall (hr.mono (by first | decide | omega)) (pa_cons (pv 0) pa_nil))) (pss_one (ps_expr (pe_dcall G_check_cells (hr.mono (by first | decide | omega)) (pa_cons (pv 0) (pa_cons (pv 1) pa_nil))))))
abbrev s_first_standing : Stmt := topS 34
abbrev n_first_standing : List Str := ["hall", "cells", "door"]
abbrev p_first_standing : List Str := ["hall", "cells"]
theorem sc_first_standing : FnScope n_first_standing p_first_standing (defScope s_first_standing) := ⟨rfl, rfl, rfl, by decide +kernel, rfl, by decide +kernel, by decide +kernel⟩
theorem bd_first_standing {P : Program} {w : World} {K : PySem.W.Frag} {mg : Str → Option Value} {base : Heap} {f : Addr} {cdv : Value} {A : Around} {outer : List Env} {s : Shared} {H : Hp} {E : XK} {aWAYS C : Addr} (T : Txt K mg w aWAYS C) (hr : Room 0 (A.deeper (envOfC "first_standing" (defScope s_first_standing) s.heap.objs.size f cdv))) :
    PSs (cxOf CX0 P w K mg base n_first_standing "first_standing" (defScope s_first_standing) f cdv A outer s H E).nox (defBody s_first_standing) (rd_first_standing K) := by
  have nd : n_first_standing.Nodup := sc_first_standing.nd
  exact (pss_one (ps_ret (pe_tup (pa_cons (pv 1) (pa_cons (pe_join pe_str (pe_lc (own := [("door", 2)]) (g := (gName 2)) (tt := tYes) (te := (tOp (rIx K) (tVar 2) (tC (.int 2)))) rfl nd (pi_tup (pe_ix ix_seq (pv 0) pe_int (fun _ _ => rfl))) (blkOk_by (own := [("door", 2)]) (N := ["hall", "cells", "door"]) (sc := defScope s_first_standing) (by decide +kernel)) (fun _ _ _ _ _ => (pg_name (i := 2) nd rfl (Or.inl rfl))) (fun _ _ _ _ _ => pts_nil) (fun _ _ _ _ _ => (pe_ix ix_seq (pv 2) pe_int (fun _ _ => rfl))))) pa_nil)))))
abbrev s_door_edges : Stmt := topS 35
abbrev n_door_edges : List Str := ["hall", "ways", "door", "way"]
abbrev p_door_edges : List Str := ["hall", "ways"]
theorem sc_door_edges : FnScope n_door_edges p_door_edges (defScope s_door_edges) := ⟨rfl, rfl, rfl, by decide +kernel, rfl, by decide +kernel, by decide +kernel⟩
theorem bd_door_edges {P : Program} {w : World} {K : PySem.W.Frag} {mg : Str → Option Value} {base : Heap} {f : Addr} {cdv : Value} {A : Around} {outer : List Env} {s : Shared} {H : Hp} {E : XK} {aWAYS C : Addr} {sp_edge_from : Sp} (T : Txt K mg w aWAYS C) (hr : Room 1 (A.deeper (envOfC "door_edges" (defScope s_door_edges) s.heap.objs.size f cdv))) (G_edge_from : DefS P w K mg base CX0 1 "edge_from" p_edge_from sp_edge_from) :
    PSs (cxOf CX0 P w K mg base n_door_edges "door_edges" (defScope s_door_edges) f cdv A outer s H E).nox (defBody s_door_edges) (rd_door_edges K sp_edge_from) := by
  have nd : n_door_edges.Nodup := sc_door_edges.nd
  exact (pss_one (ps_ret (pe_lc (own := [("door", 2), ("way", 3)]) (g := (gTup K 2 (gCons (gName 2) (gCons (gName 3) gNil)))) (tt := tYes) (te := (tCallD sp_edge_from (tCons (tOp (rIx K) (tVar 2) (tC (.int 0))) (tCons (tOp (rIx K) (tVar 2) (tC (.int 1))) (tCons (tVar 3) tNil))))) rfl nd (pi_zipTS (by rfl) T.b_zip (pa_cons (pe_ix ix_seq (pv 0) pe_int (fun _ _ => rfl)) (pa_cons (pv 1) pa_nil))) (blkOk_by (own := [("door", 2), ("way", 3)]) (N := ["hall", "ways", "door", "way"]) (sc := defScope s_door_edges) (by decide +kernel)) (fun _ _ _ _ _ => (pg_tup rfl (pgs_cons (pg_name (i := 2) nd rfl (Or.inl rfl)) (pgs_cons (pg_name (i := 3) nd rfl (Or.inl rfl)) pgs_nil)))) (fun _ _ _ _ _ => pts_nil) (fun _ _ _ _ _ => (pe_dcall G_edge_from (hr.mono (by first | decide | omega)) (pa_cons (pe_ix ix_seq (pv 2) pe_int (fun _ _ => rfl)) (pa_cons (pe_ix ix_seq (pv 2) pe_int (fun _ _ => rfl)) (pa_cons (pv 3) pa_nil))))))))
abbrev s_is_step : Stmt := topS 36
abbrev n_is_step : List Str := ["cells", "value", "walker", "way"]
abbrev p_is_step : List Str := ["cells", "value"]
theorem sc_is_step : FnScope n_is_step p_is_step (defScope s_is_step) := ⟨rfl, rfl, rfl, by decide +kernel, rfl, by decide +kernel, by decide +kernel⟩
theorem bd_is_step {P : Program} {w : World} {K : PySem.W.Frag} {mg : Str → Option Value} {base : Heap} {f : Addr} {cdv : Value} {A : Around} {outer : List Env} {s : Shared} {H : Hp} {E : XK} {aWAYS C : Addr} {sp_is_number : Sp} (T : Txt K mg w aWAYS C) (hr : Room 1 (A.deeper (envOfC "is_step" (defScope s_is_step) s.heap.objs.size f cdv))) (G_is_number : DefS P w K mg base CX0 1 "is_number" p_is_number sp_is_number) :
    PSs (cxOf CX0 P w K mg base n_is_step "is_step" (defScope s_is_step) f cdv A outer s H E).nox (defBody s_is_step) (rd_is_step K aWAYS sp_is_number) := by
  have nd : n_is_step.Nodup := sc_is_step.nd
  exact (pss_cons (ps_if (PW.pt (pw_or (pt_not (pt_val (pe_callB call_isi (by rfl) T.b_isinstance (by decide +kernel) (pa_cons (pv 1) (pa_cons (pe_bltn (v := .ty "tuple") (by rfl) T.b_tuple (by decide +kernel) rfl) pa_nil))))) (pw_or1 (pt_cmpR (op_neD hr.units) (pe_callB call_len (by rfl) T.b_len PySem.boot_len (pa_cons (pv 1) pa_nil)) pe_int (nomark _))))) (pss_one (ps_ret pe_bl)) pss_nil) (pss_cons (ps_asg (pv 1) (pg_tup rfl (pgs_cons (pg_name (i := 2) nd rfl (Or.inl rfl)) (pgs_cons (pg_name (i := 3) nd rfl (Or.inl rfl)) pgs_nil)))) (pss_one (ps_ret (pe_and (pe_dcall G_is_number (hr.mono (by first | decide | omega)) (pa_cons (pv 2) pa_nil)) (pe_and (pe_chain op_le op_lt pe_int (pv 2) (pe_callB call_len (by rfl) T.b_len PySem.boot_len (pa_cons (pv 0) pa_nil))) (pe_one (pe_cmpR (op_inX (hu65 hr)) (pv 3) (pe_glob (by rfl) T.c_WAYS rfl) (by rfl)))))))))
abbrev s_swung_ways : Stmt := topS 37
abbrev n_swung_ways : List Str := ["hall", "ways", "door", "way", "row", "column", "_", "edge"]
abbrev p_swung_ways : List Str := ["hall", "ways", "door", "way"]
theorem sc_swung_ways : FnScope n_swung_ways p_swung_ways (defScope s_swung_ways) := ⟨rfl, rfl, rfl, by decide +kernel, rfl, by decide +kernel, by decide +kernel⟩
theorem bd_swung_ways {P : Program} {w : World} {K : PySem.W.Frag} {mg : Str → Option Value} {base : Heap} {f : Addr} {cdv : Value} {A : Around} {outer : List Env} {s : Shared} {H : Hp} {E : XK} {aWAYS C : Addr} {sp_door_edges : Sp} {sp_edge_from : Sp} {sp_is_edge : Sp} (T : Txt K mg w aWAYS C) (hr : Room 3 (A.deeper (envOfC "swung_ways" (defScope s_swung_ways) s.heap.objs.size f cdv))) (G_door_edges : DefS P w K mg base CX0 2 "door_edges" p_door_edges sp_door_edges) (G_edge_from : DefS P w K mg base CX0 1 "edge_from" p_edge_from sp_edge_from) (G_is_edge : DefS P w K mg base CX0 3 "is_edge" p_is_edge sp_is_edge) :
    PSs (cxOf CX0 P w K mg base n_swung_ways "swung_ways" (defScope s_swung_ways) f cdv A outer s H E).nox (defBody s_swung_ways) (rd_swung_ways K sp_door_edges sp_edge_from sp_is_edge) := by
  have nd : n_swung_ways.Nodup := sc_swung_ways.nd
  exact (pss_cons (ps_asg (pe_ix ix_seq (pe_ix ix_seq (pv 0) pe_int (fun _ _ => rfl)) (pv 2) (fun _ _ => rfl)) (pg_tup rfl (pgs_cons (pg_name (i := 4) nd rfl (Or.inl rfl)) (pgs_cons (pg_name (i := 5) nd rfl (Or.inl rfl)) (pgs_cons (pg_name (i := 6) nd rfl (Or.inl rfl)) pgs_nil))))) (pss_cons (ps_set (i := 7) nd rfl (Or.inl rfl) (pe_dcall G_edge_from (hr.mono (by first | decide | omega)) (pa_cons (pv 4) (pa_cons (pv 5) (pa_cons (pv 3) pa_nil))))) (pss_cons (ps_if (PW.pt (pw_or (pt_not (pt_val (pe_dcall G_is_edge (hr.mono (by first | decide | omega)) (pa_cons (pv 0) (pa_cons (pv 7) pa_nil))))) (pw_or (pt_cmpR (op_inX (hu65 hr)) (pv 7) (pe_ix ix_seq (pv 0) pe_int (fun _ _ => rfl)) (by rfl)) (pw_or1 (pt_cmpR (op_inX (hu65 hr)) (pv 7) (pe_dcall G_door_edges (hr.mono (by first | decide | omega)) (pa_cons (pv 0) (pa_cons (pv 1) pa_nil))) (by rfl)))))) (pss_one (ps_ret pe_non)) pss_nil) (pss_one (ps_ret (pe_op op_addX (pe_op op_addX (pe_slice sl_X (pv 1) po_none (po_some (pv 2))) (pv 3)) (pe_slice sl_X (pv 1) (po_some (pe_op op_addX (pv 2) pe_int)) po_none)))))))
abbrev s_step_done : Stmt := topS 38
abbrev n_step_done : List Str := ["hall", "standing", "step", "cells", "ways", "walker", "way", "ahead", "crossed", "moved", "edges", "door", "swung"]
abbrev p_step_done : List Str := ["hall", "standing", "step"]
theorem sc_step_done : FnScope n_step_done p_step_done (defScope s_step_done) := ⟨rfl, rfl, rfl, by decide +kernel, rfl, by decide +kernel, by decide +kernel⟩
theorem bd_step_done {P : Program} {w : World} {K : PySem.W.Frag} {mg : Str → Option Value} {base : Heap} {f : Addr} {cdv : Value} {A : Around} {outer : List Env} {s : Shared} {H : Hp} {E : XK} {aWAYS C : Addr} {sp_door_edges : Sp} {sp_edge_crossed : Sp} {sp_is_cell : Sp} {sp_next_cell : Sp} {sp_swung_ways : Sp} (T : Txt K mg w aWAYS C) (hr : Room 4 (A.deeper (envOfC "step_done" (defScope s_step_done) s.heap.objs.size f cdv))) (G_door_edges : DefS P w K mg base CX0 2 "door_edges" p_door_edges sp_door_edges) (G_edge_crossed : DefS P w K mg base CX0 1 "edge_crossed" p_edge_crossed sp_edge_crossed) (G_is_cell : DefS P w K mg base CX0 2 "is_cell" p_is_cell sp_is_cell) (G_next_cell : DefS P w K mg base CX0 1 "next_cell" p_next_cell sp_next_cell) (G_swung_ways : DefS P w K mg base CX0 4 "swung_ways" p_swung_ways sp_swung_ways) :
    PSs (cxOf CX0 P w K mg base n_step_done "step_done" (defScope s_step_done) f cdv A outer s H E).nox (defBody s_step_done) (rd_step_done K sp_door_edges sp_edge_crossed sp_is_cell sp_next_cell sp_swung_ways) := by
  have nd : n_step_done.Nodup := sc_step_done.nd
  exact (pss_cons (ps_asg (pv 1) (pg_tup rfl (pgs_cons (pg_name (i := 3) nd rfl (Or.inl rfl)) (pgs_cons (pg_name (i := 4) nd rfl (Or.inl rfl)) pgs_nil)))) (pss_cons (ps_asg (pv 2) (pg_tup rfl (pgs_cons (pg_name (i := 5) nd rfl (Or.inl rfl)) (pgs_cons (pg_name (i := 6) nd rfl (Or.inl rfl)) pgs_nil)))) (pss_cons (ps_set (i := 7) nd rfl (Or.inl rfl) (pe_dcall G_next_cell (hr.mono (by first | decide | omega)) (pa_cons (pe_ix ix_seq (pv 3) (pv 5) (fun _ _ => rfl)) (pa_cons (pv 6) pa_nil)))) (pss_cons (ps_set (i := 8) nd rfl (Or.inl rfl) (pe_dcall G_edge_crossed (hr.mono (by first | decide | omega)) (pa_cons (pe_ix ix_seq (pv 3) (pv 5) (fun _ _ => rfl)) (pa_cons (pv 6) pa_nil)))) (pss_cons (ps_if (PW.pt (pw_or (pt_not (pt_val (pe_dcall G_is_cell (hr.mono (by first | decide | omega)) (pa_cons (pv 0) (pa_cons (pv 7) pa_nil))))) (pw_or (pt_cmpR (op_inX (hu65 hr)) (pv 7) (pv 3) (by rfl)) (pw_or1 (pt_cmpR (op_inX (hu65 hr)) (pv 8) (pe_ix ix_seq (pv 0) pe_int (fun _ _ => rfl)) (by rfl)))))) (pss_one (ps_ret pe_non)) pss_nil) (pss_cons (ps_set (i := 9) nd rfl (Or.inl rfl) (pe_op op_addX (pe_op op_addX (pe_slice sl_X (pv 3) po_none (po_some (pv 5))) (pe_tup (pa_cons (pv 7) pa_nil))) (pe_slice sl_X (pv 3) (po_some (pe_op op_addX (pv 5) pe_int)) po_none))) (pss_cons (ps_set (i := 10) nd rfl (Or.inl rfl) (pe_dcall G_door_edges (hr.mono (by first | decide | omega)) (pa_cons (pv 0) (pa_cons (pv 4) pa_nil)))) (pss_cons (ps_if (pt_cmpR (op_notInX (hu65 hr)) (pv 8) (pv 10) (by rfl)) (pss_one (ps_ret (pe_tup (pa_cons (pe_tup (pa_cons (pv 9) (pa_cons (pv 4) pa_nil))) (pa_cons pe_non pa_nil))))) pss_nil) (pss_cons (ps_set (i := 11) nd rfl (Or.inl rfl) (pe_bm PySem.F.plainAttrs_list PySem.F.slot_list_index PySem.F.type_list_index (mt_indexD (hu65 hr)) (pv 10) (pa_cons (pv 8) pa_nil))) (pss_cons (ps_set (i := 12) nd rfl (Or.inl rfl) (pe_dcall G_swung_ways (hr.mono (by first | decide | omega)) (pa_cons (pv 0) (pa_cons (pv 4) (pa_cons (pv 11) (pa_cons (pv 6) pa_nil)))))) (pss_cons (ps_if (pt_cmpR op_isN (pv 12) pe_non (nomark _)) (pss_one (ps_ret pe_non)) pss_nil) (pss_one (ps_ret (pe_tup (pa_cons (pe_tup (pa_cons (pv 9) (pa_cons (pv 12) pa_nil))) (pa_cons (pv 11) pa_nil))))))))))))))))
abbrev s_step_tried : Stmt := topS 39
abbrev n_step_tried : List Str := ["hall", "standing", "value"]
abbrev p_step_tried : List Str := ["hall", "standing", "value"]
theorem sc_step_tried : FnScope n_step_tried p_step_tried (defScope s_step_tried) := ⟨rfl, rfl, rfl, by decide +kernel, rfl, by decide +kernel, by decide +kernel⟩
theorem bd_step_tried {P : Program} {w : World} {K : PySem.W.Frag} {mg : Str → Option Value} {base : Heap} {f : Addr} {cdv : Value} {A : Around} {outer : List Env} {s : Shared} {H : Hp} {E : XK} {aWAYS C : Addr} {sp_is_step : Sp} {sp_step_done : Sp} (T : Txt K mg w aWAYS C) (hr : Room 5 (A.deeper (envOfC "step_tried" (defScope s_step_tried) s.heap.objs.size f cdv))) (G_is_step : DefS P w K mg base CX0 2 "is_step" p_is_step sp_is_step) (G_step_done : DefS P w K mg base CX0 5 "step_done" p_step_done sp_step_done) :
    PSs (cxOf CX0 P w K mg base n_step_tried "step_tried" (defScope s_step_tried) f cdv A outer s H E).nox (defBody s_step_tried) (rd_step_tried K sp_is_step sp_step_done) := by
  have nd : n_step_tried.Nodup := sc_step_tried.nd
  exact (pss_cons (ps_if (pt_not (pt_val (pe_dcall G_is_step (hr.mono (by first | decide | omega)) (pa_cons (pe_ix ix_seq (pv 1) pe_int (fun _ _ => rfl)) (pa_cons (pv 2) pa_nil))))) (pss_one (ps_ret pe_non)) pss_nil) (pss_one (ps_ret (pe_dcall G_step_done (hr.mono (by first | decide | omega)) (pa_cons (pv 0) (pa_cons (pv 1) (pa_cons (pv 2) pa_nil)))))))
abbrev s_moves_from : Stmt := topS 40
abbrev n_moves_from : List Str := ["hall", "standing", "moves", "walker", "way", "found"]
abbrev p_moves_from : List Str := ["hall", "standing"]
theorem sc_moves_from : FnScope n_moves_from p_moves_from (defScope s_moves_from) := ⟨rfl, rfl, rfl, by decide +kernel, rfl, by decide +kernel, by decide +kernel⟩
theorem bd_moves_from {P : Program} {w : World} {K : PySem.W.Frag} {mg : Str → Option Value} {base : Heap} {f : Addr} {cdv : Value} {A : Around} {outer : List Env} {s : Shared} {H : Hp} {E : XK} {aWAYS C : Addr} {sp_step_done : Sp} (T : Txt K mg w aWAYS C) (hr : Room 5 (A.deeper (envOfC "moves_from" (defScope s_moves_from) s.heap.objs.size f cdv))) (G_step_done : DefS P w K mg base CX0 5 "step_done" p_step_done sp_step_done) :
    PSs (cxOf CX0 P w K mg base n_moves_from "moves_from" (defScope s_moves_from) f cdv A outer s H E).nox (defBody s_moves_from) (rd_moves_from K aWAYS sp_step_done) := by
  have nd : n_moves_from.Nodup := sc_moves_from.nd
  exact (pss_cons (ps_set (i := 2) nd rfl (Or.inl rfl) (pe_lst pa_nil)) (pss_cons (ps_for PassesOwn.never rfl (pi_range1 (by rfl) T.b_range (pa_cons (pe_callB call_len (by rfl) T.b_len PySem.boot_len (pa_cons (pe_ix ix_seq (pv 1) pe_int (fun _ _ => rfl)) pa_nil)) pa_nil)) (pg_name (i := 3) nd rfl (Or.inl rfl)) (pss_one (ps_for PassesOwn.never rfl (pi_tup (pe_glob (by rfl) T.c_WAYS rfl)) (pg_name (i := 4) nd rfl (Or.inl rfl)) (pss_cons (ps_set (i := 5) nd rfl (Or.inl rfl) (pe_dcall G_step_done (hr.mono (by first | decide | omega)) (pa_cons (pv 0) (pa_cons (pv 1) (pa_cons (pe_tup (pa_cons (pv 3) (pa_cons (pv 4) pa_nil))) pa_nil))))) (pss_one (ps_if (pt_cmpR op_notN (pv 5) pe_non (nomark _)) (pss_one (ps_expr (pe_bm PySem.F.plainAttrs_list PySem.F.slot_list_append PySem.F.type_list_append mt_append (pv 2) (pa_cons (pe_tup (pa_cons (pe_tup (pa_cons (pv 3) (pa_cons (pv 4) pa_nil))) (pa_cons (pe_ix ix_seq (pv 5) pe_int (fun _ _ => rfl)) (pa_cons (pe_ix ix_seq (pv 5) pe_int (fun _ _ => rfl)) pa_nil)))) pa_nil)))) pss_nil)))))) (pss_one (ps_ret (pv 2)))))
abbrev s_is_name : Stmt := topS 44
abbrev n_is_name : List Str := ["value", "letter"]
abbrev p_is_name : List Str := ["value"]
theorem sc_is_name : FnScope n_is_name p_is_name (defScope s_is_name) := ⟨rfl, rfl, rfl, by decide +kernel, rfl, by decide +kernel, by decide +kernel⟩
theorem bd_is_name {P : Program} {w : World} {K : PySem.W.Frag} {mg : Str → Option Value} {base : Heap} {f : Addr} {cdv : Value} {A : Around} {outer : List Env} {s : Shared} {H : Hp} {E : XK} {aWAYS C : Addr} (T : Txt K mg w aWAYS C) (hr : Room 0 (A.deeper (envOfC "is_name" (defScope s_is_name) s.heap.objs.size f cdv))) :
    PSs (cxOf CX0 P w K mg base n_is_name "is_name" (defScope s_is_name) f cdv A outer s H E).nox (defBody s_is_name) (rd_is_name K) := by
  have nd : n_is_name.Nodup := sc_is_name.nd
  exact (pss_cons (ps_if (PW.pt (pw_or (pt_not (pt_val (pe_callB call_isi (by rfl) T.b_isinstance (by decide +kernel) (pa_cons (pv 0) (pa_cons (pe_bltn (v := .ty "str") (by rfl) T.b_str (by decide +kernel) rfl) pa_nil))))) (pw_or1 (pt_not (pt_chain op_le op_le pe_int (pe_callB call_len (by rfl) T.b_len PySem.boot_len (pa_cons (pv 0) pa_nil)) (pe_globI (by rfl) T.c_LONGEST_NAME)))))) (pss_one (ps_ret pe_bl)) pss_nil) (pss_one (ps_ret (pe_callB (cr_all rfl) (by rfl) T.b_all (by decide +kernel) (pa_cons (pe_lc (own := [("letter", 1)]) (g := (gName 1)) (tt := tYes) (te := (tOp (rInX K false) (tVar 1) (tC (.str "abcdefghijklmnopqrstuvwxyz")))) rfl nd (pi_str (pv 0)) (blkOk_by (own := [("letter", 1)]) (N := ["value", "letter"]) (sc := defScope s_is_name) (by decide +kernel)) (fun _ _ _ _ _ => (pg_name (i := 1) nd rfl (Or.inl rfl))) (fun _ _ _ _ _ => pts_nil) (fun _ _ _ _ _ => (pe_cmpR (op_inX (hu65 hr)) (pv 1) (pe_globS (by rfl) T.c_LETTERS) (by rfl)))) pa_nil)))))
abbrev s_B_init : Stmt := (clsB (topS 45)).getD 0 (.Pass ⟨0, 0, 0, 0⟩)
abbrev n_B_init : List Str := ["self", "hall", "cells"]
abbrev p_B_init : List Str := ["self", "hall", "cells"]
theorem sc_B_init : FnScope n_B_init p_B_init (defScope s_B_init) := ⟨rfl, rfl, rfl, by decide +kernel, rfl, by decide +kernel, by decide +kernel⟩
theorem bd_B_init {P : Program} {w : World} {K : PySem.W.Frag} {mg : Str → Option Value} {base : Heap} {f : Addr} {cdv : Value} {A : Around} {outer : List Env} {s : Shared} {H : Hp} {E : XK} {aWAYS C : Addr} {sp_check_start : Sp} {sp_first_standing : Sp} (T : Txt K mg w aWAYS C) (hr : Room 6 (A.deeper (envOfC "Bench.__init__" (defScope s_B_init) s.heap.objs.size f cdv))) (G_check_start : DefS P w K mg base CX0 6 "check_start" p_check_start sp_check_start) (G_first_standing : DefS P w K mg base CX0 1 "first_standing" p_first_standing sp_first_standing) :
    PSs (cxOf CX0 P w K mg base n_B_init "Bench.__init__" (defScope s_B_init) f cdv A outer s H E).nox (defBody s_B_init) (rd_B_init K sp_check_start sp_first_standing) := by
  have nd : n_B_init.Nodup := sc_B_init.nd
  exact (pss_cons (ps_expr (pe_dcall G_check_start (hr.mono (by first | decide | omega)) (pa_cons (pv 1) (pa_cons (pv 2) pa_nil)))) (pss_cons (ps_fld (pv 0) (pv 1) (by rfl)) (pss_cons (ps_fld (pv 0) (pe_dcall G_first_standing (hr.mono (by first | decide | omega)) (pa_cons (pv 1) (pa_cons (pv 2) pa_nil))) (by rfl)) (pss_cons (ps_fld (pv 0) (pe_lst pa_nil) (by rfl)) (pss_cons (ps_fld (pv 0) pe_dnewK (by rfl)) (pss_cons (ps_fld (pv 0) (pe_lst pa_nil) (by rfl)) (pss_one (ps_fld (pv 0) pe_bl (by rfl)))))))))
abbrev s_B_step : Stmt := (clsB (topS 45)).getD 1 (.Pass ⟨0, 0, 0, 0⟩)
abbrev n_B_step : List Str := ["self", "step"]
abbrev p_B_step : List Str := ["self", "step"]
theorem sc_B_step : FnScope n_B_step p_B_step (defScope s_B_step) := ⟨rfl, rfl, rfl, by decide +kernel, rfl, by decide +kernel, by decide +kernel⟩
theorem bd_B_step {P : Program} {w : World} {K : PySem.W.Frag} {mg : Str → Option Value} {base : Heap} {f : Addr} {cdv : Value} {A : Around} {outer : List Env} {s : Shared} {H : Hp} {E : XK} {aWAYS C : Addr} {sp_B_moved : Sp} (T : Txt K mg w aWAYS C) {CS CN CP : Addr} (XS : ExS P w K mg base "BadStep" CS ["self", "number"] (sp_initS CS)) (XN : ExP K mg "BadName" CN) (XP : ExP K mg "NoPoint" CP) (hr : Room 7 (A.deeper (envOfC "Bench.step" (defScope s_B_step) s.heap.objs.size f cdv))) (BC : Cls K C) (G_B_moved : MethS P w K mg base CX0 7 C "_moved" p_B_moved [] sp_B_moved) :
    PSs (cxOf (L2.CX P w) P w K mg base n_B_step "Bench.step" (defScope s_B_step) f cdv A outer s H E) (defBody s_B_step) (rd_B_step K C CS CN CP E sp_B_moved) := by
  have tk : Takes (cxOf (L2.CX P w) P w K mg base n_B_step "Bench.step" (defScope s_B_step) f cdv A outer s H E) (fun cls d _ H => E cls d H) := takes_of rfl rfl rfl rfl
  have nd : n_B_step.Nodup := sc_B_step.nd
  exact (pss_cons (ps_if (pt_not (pt_val (pe_bmeth G_B_moved BC (hr.mono (by first | decide | omega)) (pv 0) (pa_cons (pv 1) pa_nil)))) (pss_one (ps_raiseX XS tk hr (pa_cons pe_int pa_nil))) pss_nil) (pss_one (ps_ret (pe_ix ix_seq (pe_ix ix_seq (pe_fld (pv 0) (by rfl)) (pe_un un_neg pe_int) (fun _ _ => rfl)) pe_int (fun _ _ => rfl)))))
abbrev s_B_may : Stmt := (clsB (topS 45)).getD 2 (.Pass ⟨0, 0, 0, 0⟩)
abbrev n_B_may : List Str := ["self", "move"]
abbrev p_B_may : List Str := ["self"]
theorem sc_B_may : FnScope n_B_may p_B_may (defScope s_B_may) := ⟨rfl, rfl, rfl, by decide +kernel, rfl, by decide +kernel, by decide +kernel⟩
theorem bd_B_may {P : Program} {w : World} {K : PySem.W.Frag} {mg : Str → Option Value} {base : Heap} {f : Addr} {cdv : Value} {A : Around} {outer : List Env} {s : Shared} {H : Hp} {E : XK} {aWAYS C : Addr} {sp_moves_from : Sp} (T : Txt K mg w aWAYS C) (hr : Room 6 (A.deeper (envOfC "Bench.may" (defScope s_B_may) s.heap.objs.size f cdv))) (G_moves_from : DefS P w K mg base CX0 6 "moves_from" p_moves_from sp_moves_from) :
    PSs (cxOf CX0 P w K mg base n_B_may "Bench.may" (defScope s_B_may) f cdv A outer s H E).nox (defBody s_B_may) (rd_B_may K sp_moves_from) := by
  have nd : n_B_may.Nodup := sc_B_may.nd
  exact (pss_one (ps_ret (pe_lc (own := [("move", 1)]) (g := (gName 1)) (tt := tYes) (te := (tOp (rIx K) (tVar 1) (tC (.int 0)))) rfl nd (pi_list (pe_dcall G_moves_from (hr.mono (by first | decide | omega)) (pa_cons (pe_fld (pv 0) (by rfl)) (pa_cons (pe_fld (pv 0) (by rfl)) pa_nil)))) (blkOk_by (own := [("move", 1)]) (N := ["self", "move"]) (sc := defScope s_B_may) (by decide +kernel)) (fun _ _ _ _ _ => (pg_name (i := 1) nd rfl (Or.inl rfl))) (fun _ _ _ _ _ => pts_nil) (fun _ _ _ _ _ => (pe_ix ix_seq (pv 1) pe_int (fun _ _ => rfl))))))
abbrev s_B_standing : Stmt := (clsB (topS 45)).getD 3 (.Pass ⟨0, 0, 0, 0⟩)
abbrev n_B_standing : List Str := ["self"]
abbrev p_B_standing : List Str := ["self"]
theorem sc_B_standing : FnScope n_B_standing p_B_standing (defScope s_B_standing) := ⟨rfl, rfl, rfl, by decide +kernel, rfl, by decide +kernel, by decide +kernel⟩
theorem bd_B_standing {P : Program} {w : World} {K : PySem.W.Frag} {mg : Str → Option Value} {base : Heap} {f : Addr} {cdv : Value} {A : Around} {outer : List Env} {s : Shared} {H : Hp} {E : XK} {aWAYS C : Addr} (T : Txt K mg w aWAYS C) (hr : Room 0 (A.deeper (envOfC "Bench.standing" (defScope s_B_standing) s.heap.objs.size f cdv))) :
    PSs (cxOf CX0 P w K mg base n_B_standing "Bench.standing" (defScope s_B_standing) f cdv A outer s H E).nox (defBody s_B_standing) (rd_B_standing K) := by
  have nd : n_B_standing.Nodup := sc_B_standing.nd
  exact (pss_one (ps_ret (pe_fld (pv 0) (by rfl))))
abbrev s_B_back : Stmt := (clsB (topS 45)).getD 4 (.Pass ⟨0, 0, 0, 0⟩)
abbrev n_B_back : List Str := ["self"]
abbrev p_B_back : List Str := ["self"]
theorem sc_B_back : FnScope n_B_back p_B_back (defScope s_B_back) := ⟨rfl, rfl, rfl, by decide +kernel, rfl, by decide +kernel, by decide +kernel⟩
theorem bd_B_back {P : Program} {w : World} {K : PySem.W.Frag} {mg : Str → Option Value} {base : Heap} {f : Addr} {cdv : Value} {A : Around} {outer : List Env} {s : Shared} {H : Hp} {E : XK} {aWAYS C : Addr} (T : Txt K mg w aWAYS C) (hr : Room 0 (A.deeper (envOfC "Bench.back" (defScope s_B_back) s.heap.objs.size f cdv))) :
    PSs (cxOf CX0 P w K mg base n_B_back "Bench.back" (defScope s_B_back) f cdv A outer s H E).nox (defBody s_B_back) (rd_B_back K) := by
  have nd : n_B_back.Nodup := sc_B_back.nd
  exact (pss_cons (ps_if (pt_cmpR (op_eqD hr.units) (pe_callB call_len (by rfl) T.b_len PySem.boot_len (pa_cons (pe_fld (pv 0) (by rfl)) pa_nil)) pe_int (nomark _)) (pss_one (ps_ret pe_bl)) pss_nil) (pss_cons (ps_fld (pv 0) (pe_ix ix_seq (pe_bm0 PySem.F.plainAttrs_list PySem.F.slot_list_pop PySem.F.type_list_pop mt_pop (pe_fld (pv 0) (by rfl))) pe_int (fun _ _ => rfl)) (by rfl)) (pss_one (ps_ret pe_bl))))
abbrev s_B_steps : Stmt := (clsB (topS 45)).getD 5 (.Pass ⟨0, 0, 0, 0⟩)
abbrev n_B_steps : List Str := ["self", "step", "door", "_"]
abbrev p_B_steps : List Str := ["self"]
theorem sc_B_steps : FnScope n_B_steps p_B_steps (defScope s_B_steps) := ⟨rfl, rfl, rfl, by decide +kernel, rfl, by decide +kernel, by decide +kernel⟩
theorem bd_B_steps {P : Program} {w : World} {K : PySem.W.Frag} {mg : Str → Option Value} {base : Heap} {f : Addr} {cdv : Value} {A : Around} {outer : List Env} {s : Shared} {H : Hp} {E : XK} {aWAYS C : Addr} (T : Txt K mg w aWAYS C) (hr : Room 0 (A.deeper (envOfC "Bench.steps" (defScope s_B_steps) s.heap.objs.size f cdv))) :
    PSs (cxOf CX0 P w K mg base n_B_steps "Bench.steps" (defScope s_B_steps) f cdv A outer s H E).nox (defBody s_B_steps) (rd_B_steps K) := by
  have nd : n_B_steps.Nodup := sc_B_steps.nd
  exact (pss_one (ps_ret (pe_lc (own := [("step", 1), ("door", 2), ("_", 3)]) (g := (gTup K 3 (gCons (gName 1) (gCons (gName 2) (gCons (gName 3) gNil))))) (tt := tYes) (te := (tTup (tCons (tVar 1) (tCons (tVar 2) tNil)))) rfl nd (pi_list (pe_fld (pv 0) (by rfl))) (blkOk_by (own := [("step", 1), ("door", 2), ("_", 3)]) (N := ["self", "step", "door", "_"]) (sc := defScope s_B_steps) (by decide +kernel)) (fun _ _ _ _ _ => (pg_tup rfl (pgs_cons (pg_name (i := 1) nd rfl (Or.inl rfl)) (pgs_cons (pg_name (i := 2) nd rfl (Or.inl rfl)) (pgs_cons (pg_name (i := 3) nd rfl (Or.inl rfl)) pgs_nil))))) (fun _ _ _ _ _ => pts_nil) (fun _ _ _ _ _ => (pe_tup (pa_cons (pv 1) (pa_cons (pv 2) pa_nil)))))))
abbrev s_B_mark : Stmt := (clsB (topS 45)).getD 9 (.Pass ⟨0, 0, 0, 0⟩)
abbrev n_B_mark : List Str := ["self", "name"]
abbrev p_B_mark : List Str := ["self", "name"]
theorem sc_B_mark : FnScope n_B_mark p_B_mark (defScope s_B_mark) := ⟨rfl, rfl, rfl, by decide +kernel, rfl, by decide +kernel, by decide +kernel⟩
theorem bd_B_mark {P : Program} {w : World} {K : PySem.W.Frag} {mg : Str → Option Value} {base : Heap} {f : Addr} {cdv : Value} {A : Around} {outer : List Env} {s : Shared} {H : Hp} {E : XK} {aWAYS C : Addr} {sp_is_name : Sp} (T : Txt K mg w aWAYS C) {CS CN CP : Addr} (XS : ExS P w K mg base "BadStep" CS ["self", "number"] (sp_initS CS)) (XN : ExP K mg "BadName" CN) (XP : ExP K mg "NoPoint" CP) (hr : Room 1 (A.deeper (envOfC "Bench.mark" (defScope s_B_mark) s.heap.objs.size f cdv))) (G_is_name : DefS P w K mg base CX0 1 "is_name" p_is_name sp_is_name) :
    PSs (cxOf (L2.CX P w) P w K mg base n_B_mark "Bench.mark" (defScope s_B_mark) f cdv A outer s H E) (defBody s_B_mark) (rd_B_mark K CS CN CP E sp_is_name) := by
  have tk : Takes (cxOf (L2.CX P w) P w K mg base n_B_mark "Bench.mark" (defScope s_B_mark) f cdv A outer s H E) (fun cls d _ H => E cls d H) := takes_of rfl rfl rfl rfl
  have nd : n_B_mark.Nodup := sc_B_mark.nd
  exact (pss_cons (ps_if (pt_not (pt_val (pe_dcall G_is_name (hr.mono (by first | decide | omega)) (pa_cons (pv 1) pa_nil)))) (pss_one (XN.ps tk (by rfl) (pe_joined (.cons pe_str (.cons (pe_fmt (pe_globI (by rfl) T.c_LONGEST_NAME)) (.cons pe_str PJ.nil)))))) pss_nil) (pss_one (ps_dput (hu_of hr) (pe_fld (pv 0) (by rfl)) (pv 1) (pe_tup (pa_cons (pe_fld (pv 0) (by rfl)) (pa_cons (pe_callTy call_list_of (by rfl) T.b_list (by decide +kernel) (pa_cons (pe_fld (pv 0) (by rfl)) pa_nil)) pa_nil))) (by rfl))))
abbrev s_B_go : Stmt := (clsB (topS 45)).getD 10 (.Pass ⟨0, 0, 0, 0⟩)
abbrev n_B_go : List Str := ["self", "name", "now", "trail"]
abbrev p_B_go : List Str := ["self", "name"]
theorem sc_B_go : FnScope n_B_go p_B_go (defScope s_B_go) := ⟨rfl, rfl, rfl, by decide +kernel, rfl, by decide +kernel, by decide +kernel⟩
theorem bd_B_go {P : Program} {w : World} {K : PySem.W.Frag} {mg : Str → Option Value} {base : Heap} {f : Addr} {cdv : Value} {A : Around} {outer : List Env} {s : Shared} {H : Hp} {E : XK} {aWAYS C : Addr} (T : Txt K mg w aWAYS C) {CS CN CP : Addr} (XS : ExS P w K mg base "BadStep" CS ["self", "number"] (sp_initS CS)) (XN : ExP K mg "BadName" CN) (XP : ExP K mg "NoPoint" CP) (hr : Room 0 (A.deeper (envOfC "Bench.go" (defScope s_B_go) s.heap.objs.size f cdv))) :
    PSs (cxOf (L2.CX P w) P w K mg base n_B_go "Bench.go" (defScope s_B_go) f cdv A outer s H E) (defBody s_B_go) (rd_B_go K CS CN CP E) := by
  have tk : Takes (cxOf (L2.CX P w) P w K mg base n_B_go "Bench.go" (defScope s_B_go) f cdv A outer s H E) (fun cls d _ H => E cls d H) := takes_of rfl rfl rfl rfl
  have nd : n_B_go.Nodup := sc_B_go.nd
  exact (pss_cons (ps_if (PW.pt (pw_or (pt_not (pt_val (pe_callB call_isi (by rfl) T.b_isinstance (by decide +kernel) (pa_cons (pv 1) (pa_cons (pe_bltn (v := .ty "str") (by rfl) T.b_str (by decide +kernel) rfl) pa_nil))))) (pw_or1 (pt_cmp (pc_dnotin (hu_of hr) (pv 1) (pe_fld (pv 0) (by rfl))) (by rfl))))) (pss_one (XP.ps tk (by rfl) pe_str)) pss_nil) (pss_cons (ps_asg (pe_dget (hu_of hr) (pe_fld (pv 0) (by rfl)) (pv 1) (fun _ _ => rfl)) (pg_tup rfl (pgs_cons (pg_name (i := 2) nd rfl (Or.inl rfl)) (pgs_cons (pg_name (i := 3) nd rfl (Or.inl rfl)) pgs_nil)))) (pss_cons (ps_fld (pv 0) (pv 2) (by rfl)) (pss_one (ps_fld (pv 0) (pe_callTy call_list_of (by rfl) T.b_list (by decide +kernel) (pa_cons (pv 3) pa_nil)) (by rfl))))))
abbrev s_B_marks : Stmt := (clsB (topS 45)).getD 11 (.Pass ⟨0, 0, 0, 0⟩)
abbrev n_B_marks : List Str := ["self", "name"]
abbrev p_B_marks : List Str := ["self"]
theorem sc_B_marks : FnScope n_B_marks p_B_marks (defScope s_B_marks) := ⟨rfl, rfl, rfl, by decide +kernel, rfl, by decide +kernel, by decide +kernel⟩
theorem bd_B_marks {P : Program} {w : World} {K : PySem.W.Frag} {mg : Str → Option Value} {base : Heap} {f : Addr} {cdv : Value} {A : Around} {outer : List Env} {s : Shared} {H : Hp} {E : XK} {aWAYS C : Addr} (T : Txt K mg w aWAYS C) (hr : Room 0 (A.deeper (envOfC "Bench.marks" (defScope s_B_marks) s.heap.objs.size f cdv))) :
    PSs (cxOf CX0 P w K mg base n_B_marks "Bench.marks" (defScope s_B_marks) f cdv A outer s H E).nox (defBody s_B_marks) (rd_B_marks K) := by
  have nd : n_B_marks.Nodup := sc_B_marks.nd
  exact (pss_one (ps_ret (pe_lc (own := [("name", 1)]) (g := (gName 1)) (tt := tYes) (te := (tTup (tCons (tVar 1) (tCons (tOp (rIx K) (tDGet (tFld K (tVar 0) "_points") (tVar 1)) (tC (.int 0))) tNil)))) rfl nd (pi_list (pe_callB (call_sortedDK rfl) (by rfl) T.b_sorted (by decide +kernel) (pa_cons (pe_fld (pv 0) (by rfl)) pa_nil))) (blkOk_by (own := [("name", 1)]) (N := ["self", "name"]) (sc := defScope s_B_marks) (by decide +kernel)) (fun _ _ _ _ _ => (pg_name (i := 1) nd rfl (Or.inl rfl))) (fun _ _ _ _ _ => pts_nil) (fun _ _ _ _ _ => (pe_tup (pa_cons (pv 1) (pa_cons (pe_ix ix_seq (pe_dget (hu_of hr) (pe_fld (pv 0) (by rfl)) (pv 1) (fun _ _ => rfl)) pe_int (fun _ _ => rfl)) pa_nil)))))))
abbrev s_B_moved : Stmt := (clsB (topS 45)).getD 12 (.Pass ⟨0, 0, 0, 0⟩)
abbrev n_B_moved : List Str := ["self", "step", "found"]
abbrev p_B_moved : List Str := ["self", "step"]
theorem sc_B_moved : FnScope n_B_moved p_B_moved (defScope s_B_moved) := ⟨rfl, rfl, rfl, by decide +kernel, rfl, by decide +kernel, by decide +kernel⟩
theorem bd_B_moved {P : Program} {w : World} {K : PySem.W.Frag} {mg : Str → Option Value} {base : Heap} {f : Addr} {cdv : Value} {A : Around} {outer : List Env} {s : Shared} {H : Hp} {E : XK} {aWAYS C : Addr} {sp_step_tried : Sp} (T : Txt K mg w aWAYS C) (hr : Room 6 (A.deeper (envOfC "Bench._moved" (defScope s_B_moved) s.heap.objs.size f cdv))) (G_step_tried : DefS P w K mg base CX0 6 "step_tried" p_step_tried sp_step_tried) :
    PSs (cxOf CX0 P w K mg base n_B_moved "Bench._moved" (defScope s_B_moved) f cdv A outer s H E).nox (defBody s_B_moved) (rd_B_moved K sp_step_tried) := by
  have nd : n_B_moved.Nodup := sc_B_moved.nd
  exact (pss_cons (ps_set (i := 2) nd rfl (Or.inl rfl) (pe_dcall G_step_tried (hr.mono (by first | decide | omega)) (pa_cons (pe_fld (pv 0) (by rfl)) (pa_cons (pe_fld (pv 0) (by rfl)) (pa_cons (pv 1) pa_nil))))) (pss_cons (ps_if (pt_cmpR op_isN (pv 2) pe_non (nomark _)) (pss_one (ps_ret pe_bl)) pss_nil) (pss_cons (ps_expr (pe_bm PySem.F.plainAttrs_list PySem.F.slot_list_append PySem.F.type_list_append mt_append (pe_fld (pv 0) (by rfl)) (pa_cons (pe_tup (pa_cons (pv 1) (pa_cons (pe_ix ix_seq (pv 2) pe_int (fun _ _ => rfl)) (pa_cons (pe_fld (pv 0) (by rfl)) pa_nil)))) pa_nil))) (pss_cons (ps_fld (pv 0) (pe_ix ix_seq (pv 2) pe_int (fun _ _ => rfl)) (by rfl)) (pss_one (ps_ret pe_bl))))))
abbrev s_L_taken : Stmt := topS 47
abbrev n_L_taken : List Str := ["_law_row", "_law_many", "_law_found", "_law_cell"]
abbrev p_L_taken : List Str := ["_law_row", "_law_many"]
theorem sc_L_taken : FnScope n_L_taken p_L_taken (defScope s_L_taken) := ⟨rfl, rfl, rfl, by decide +kernel, rfl, by decide +kernel, by decide +kernel⟩
theorem bd_L_taken {P : Program} {w : World} {K : PySem.W.Frag} {mg : Str → Option Value} {base : Heap} {f : Addr} {cdv : Value} {A : Around} {outer : List Env} {s : Shared} {H : Hp} {E : XK} {aWAYS C : Addr} (T : Txt K mg w aWAYS C) (hr : Room 0 (A.deeper (envOfC "_law_taken" (defScope s_L_taken) s.heap.objs.size f cdv))) :
    PSs (cxOf CX0 P w K mg base n_L_taken "_law_taken" (defScope s_L_taken) f cdv A outer s H E).nox (defBody s_L_taken) (rd_L_taken K) := by
  have nd : n_L_taken.Nodup := sc_L_taken.nd
  exact (pss_cons (ps_if (pt_cmpR op_gt (pe_ix ix_seq (pv 0) pe_int (fun _ _ => rfl)) pe_int (nomark _)) (pss_cons (ps_set (i := 2) nd rfl (Or.inl rfl) (pe_op op_mod (pe_ix ix_seq (pv 0) pe_int (fun _ _ => rfl)) (pv 1))) (pss_cons (ps_asg (pe_op op_fdiv (pe_ix ix_seq (pv 0) pe_int (fun _ _ => rfl)) (pv 1)) (pg_sub (pv 0) pe_int set_list)) (pss_one (ps_ret (pv 2))))) pss_nil) (pss_cons (ps_asg (pe_op op_addX (pe_ix ix_seq (pv 0) pe_int (fun _ _ => rfl)) pe_int) (pg_sub (pv 0) pe_int set_list)) (pss_cons (ps_if (pt_cmpR op_gt (pe_ix ix_seq (pv 0) pe_int (fun _ _ => rfl)) (pe_callB call_len (by rfl) T.b_len PySem.boot_len (pa_cons (pe_ix ix_seq (pv 0) pe_int (fun _ _ => rfl)) pa_nil)) (nomark _)) (pss_cons (ps_asg (pe_op op_mod (pe_op op_addX (pe_op op_mulX' (pe_ix ix_seq (pv 0) pe_int (fun _ _ => rfl)) pe_int) pe_int) pe_int) (pg_sub (pv 0) pe_int set_list)) (pss_one (ps_ret (pe_op op_mod (pe_op op_fdiv (pe_ix ix_seq (pv 0) pe_int (fun _ _ => rfl)) pe_int) (pv 1))))) pss_nil) (pss_cons (ps_set (i := 3) nd rfl (Or.inl rfl) (pe_ix ix_seq (pe_ix ix_seq (pv 0) pe_int (fun _ _ => rfl)) (pe_op op_sub (pe_ix ix_seq (pv 0) pe_int (fun _ _ => rfl)) pe_int) (fun _ _ => rfl))) (pss_cons (ps_asg (pe_op op_mod (pe_op op_addX (pe_op op_addX (pe_op op_mulX' (pe_ix ix_seq (pv 0) pe_int (fun _ _ => rfl)) pe_int) (pv 3)) pe_int) pe_int) (pg_sub (pv 0) pe_int set_list)) (pss_cons (ps_if (pt_cmpR op_ge (pv 3) (pe_op op_pow pe_int pe_int) (nomark _)) (pss_one (ps_asg (pe_op op_fdiv (pv 3) (pv 1)) (pg_sub (pv 0) pe_int set_list))) pss_nil) (pss_one (ps_ret (pe_op op_mod (pv 3) (pv 1))))))))))
abbrev s_L_pair : Stmt := topS 50
abbrev n_L_pair : List Str := ["_law_corner", "_law_way", "_law_r", "_law_c", "_law_high", "_law_wide"]
abbrev p_L_pair : List Str := ["_law_corner", "_law_way"]
theorem sc_L_pair : FnScope n_L_pair p_L_pair (defScope s_L_pair) := ⟨rfl, rfl, rfl, by decide +kernel, rfl, by decide +kernel, by decide +kernel⟩
theorem bd_L_pair {P : Program} {w : World} {K : PySem.W.Frag} {mg : Str → Option Value} {base : Heap} {f : Addr} {cdv : Value} {A : Around} {outer : List Env} {s : Shared} {H : Hp} {E : XK} {aWAYS C : Addr} (T : Txt K mg w aWAYS C) (hr : Room 0 (A.deeper (envOfC "_law_pair" (defScope s_L_pair) s.heap.objs.size f cdv))) :
    PSs (cxOf CX0 P w K mg base n_L_pair "_law_pair" (defScope s_L_pair) f cdv A outer s H E).nox (defBody s_L_pair) (rd_L_pair K) := by
  have nd : n_L_pair.Nodup := sc_L_pair.nd
  exact (pss_cons (ps_asg (pv 0) (pg_tup rfl (pgs_cons (pg_name (i := 2) nd rfl (Or.inl rfl)) (pgs_cons (pg_name (i := 3) nd rfl (Or.inl rfl)) pgs_nil)))) (pss_cons (ps_if (pt_cmpR (op_inX (hu65 hr)) (pv 1) pe_str (by rfl)) (pss_cons (ps_set (i := 4) nd rfl (Or.inl rfl) (pe_op op_sub (pv 2) (pe_callTy call_int1 (by rfl) T.b_int (by decide +kernel) (pa_cons (pe_cmpR (op_eqD hr.units) (pv 1) pe_str (nomark _)) pa_nil)))) (pss_one (ps_ret (pe_tup (pa_cons (pe_tup (pa_cons (pv 4) (pa_cons (pe_op op_sub (pv 3) pe_int) pa_nil))) (pa_cons (pe_tup (pa_cons (pv 4) (pa_cons (pv 3) pa_nil))) pa_nil)))))) pss_nil) (pss_cons (ps_set (i := 5) nd rfl (Or.inl rfl) (pe_op op_sub (pv 3) (pe_callTy call_int1 (by rfl) T.b_int (by decide +kernel) (pa_cons (pe_cmpR (op_eqD hr.units) (pv 1) pe_str (nomark _)) pa_nil)))) (pss_one (ps_ret (pe_tup (pa_cons (pe_tup (pa_cons (pe_op op_sub (pv 2) pe_int) (pa_cons (pv 5) pa_nil))) (pa_cons (pe_tup (pa_cons (pv 2) (pa_cons (pv 5) pa_nil))) pa_nil))))))))
abbrev s_L_shut : Stmt := topS 51
abbrev n_L_shut : List Str := ["_law_shut_here", "_law_r", "_law_c", "_law_sort"]
abbrev p_L_shut : List Str := ["_law_shut_here"]
theorem sc_L_shut : FnScope n_L_shut p_L_shut (defScope s_L_shut) := ⟨rfl, rfl, rfl, by decide +kernel, rfl, by decide +kernel, by decide +kernel⟩
theorem bd_L_shut {P : Program} {w : World} {K : PySem.W.Frag} {mg : Str → Option Value} {base : Heap} {f : Addr} {cdv : Value} {A : Around} {outer : List Env} {s : Shared} {H : Hp} {E : XK} {aWAYS C : Addr} (T : Txt K mg w aWAYS C) (hr : Room 0 (A.deeper (envOfC "_law_shut" (defScope s_L_shut) s.heap.objs.size f cdv))) :
    PSs (cxOf CX0 P w K mg base n_L_shut "_law_shut" (defScope s_L_shut) f cdv A outer s H E).nox (defBody s_L_shut) (rd_L_shut K) := by
  have nd : n_L_shut.Nodup := sc_L_shut.nd
  exact (pss_cons (ps_asg (pv 0) (pg_tup rfl (pgs_cons (pg_name (i := 1) nd rfl (Or.inl rfl)) (pgs_cons (pg_name (i := 2) nd rfl (Or.inl rfl)) (pgs_cons (pg_name (i := 3) nd rfl (Or.inl rfl)) pgs_nil))))) (pss_one (ps_ret (pe_ifExp (pt_cmpR (op_eqD hr.units) (pv 3) pe_str (nomark _)) (pe_tup (pa_cons (pe_tup (pa_cons (pe_op op_sub (pv 1) pe_int) (pa_cons (pv 2) pa_nil))) (pa_cons (pe_tup (pa_cons (pv 1) (pa_cons (pv 2) pa_nil))) pa_nil))) (pe_tup (pa_cons (pe_tup (pa_cons (pv 1) (pa_cons (pe_op op_sub (pv 2) pe_int) pa_nil))) (pa_cons (pe_tup (pa_cons (pv 1) (pa_cons (pv 2) pa_nil))) pa_nil)))))))
abbrev s_L_within : Stmt := topS 52
abbrev n_L_within : List Str := ["_law_hall_here", "_law_pair_here", "_law_some", "_law_cell"]
abbrev p_L_within : List Str := ["_law_hall_here", "_law_pair_here"]
theorem sc_L_within : FnScope n_L_within p_L_within (defScope s_L_within) := ⟨rfl, rfl, rfl, by decide +kernel, rfl, by decide +kernel, by decide +kernel⟩
theorem bd_L_within {P : Program} {w : World} {K : PySem.W.Frag} {mg : Str → Option Value} {base : Heap} {f : Addr} {cdv : Value} {A : Around} {outer : List Env} {s : Shared} {H : Hp} {E : XK} {aWAYS C : Addr} (T : Txt K mg w aWAYS C) (hr : Room 0 (A.deeper (envOfC "_law_within" (defScope s_L_within) s.heap.objs.size f cdv))) :
    PSs (cxOf CX0 P w K mg base n_L_within "_law_within" (defScope s_L_within) f cdv A outer s H E).nox (defBody s_L_within) (rd_L_within K) := by
  have nd : n_L_within.Nodup := sc_L_within.nd
  exact (pss_cons (ps_setLc (i := 2) (own := [("_law_cell", 3)]) (g := (gName 3)) (tt := (tAnd (tTest (tChain rLeI rLtI (tC (.int 0)) (tOp (rIx K) (tVar 3) (tC (.int 0))) (tOp (rIx K) (tVar 0) (tC (.int 0))))) (tTest (tChain rLeI rLtI (tC (.int 0)) (tOp (rIx K) (tVar 3) (tC (.int 1))) (tOp (rIx K) (tVar 0) (tC (.int 1))))))) (te := (tVar 3)) rfl nd rfl rfl (sw_true rfl rfl rfl (by decide +kernel)) (pi_tup (pv 1)) (blkOk_by (own := [("_law_cell", 3)]) (N := ["_law_hall_here", "_law_pair_here", "_law_some", "_law_cell"]) (sc := defScope s_L_within) (by decide +kernel)) (fun _ _ _ _ _ => (pg_name (i := 3) nd rfl (Or.inl rfl))) (fun _ _ _ _ _ => (pts_one (PW.pt (pw_and (pt_chain op_le op_lt pe_int (pe_ix ix_seq (pv 3) pe_int (fun _ _ => rfl)) (pe_ix ix_seq (pv 0) pe_int (fun _ _ => rfl))) (pw_and1 (pt_chain op_le op_lt pe_int (pe_ix ix_seq (pv 3) pe_int (fun _ _ => rfl)) (pe_ix ix_seq (pv 0) pe_int (fun _ _ => rfl)))))))) (fun _ _ _ _ _ => (pv 3))) (pss_one (ps_ret (pe_cmpR (op_eqD hr.units) (pe_callB call_len (by rfl) T.b_len PySem.boot_len (pa_cons (pv 2) pa_nil)) pe_int (nomark _)))))
abbrev s_L_next : Stmt := topS 53
abbrev n_L_next : List Str := ["_law_cell", "_law_way"]
abbrev p_L_next : List Str := ["_law_cell", "_law_way"]
theorem sc_L_next : FnScope n_L_next p_L_next (defScope s_L_next) := ⟨rfl, rfl, rfl, by decide +kernel, rfl, by decide +kernel, by decide +kernel⟩
theorem bd_L_next {P : Program} {w : World} {K : PySem.W.Frag} {mg : Str → Option Value} {base : Heap} {f : Addr} {cdv : Value} {A : Around} {outer : List Env} {s : Shared} {H : Hp} {E : XK} {aWAYS C : Addr} (T : Txt K mg w aWAYS C) (hr : Room 0 (A.deeper (envOfC "_law_next" (defScope s_L_next) s.heap.objs.size f cdv))) :
    PSs (cxOf CX0 P w K mg base n_L_next "_law_next" (defScope s_L_next) f cdv A outer s H E).nox (defBody s_L_next) (rd_L_next K) := by
  have nd : n_L_next.Nodup := sc_L_next.nd
  exact (pss_one (ps_ret (pe_tup (pa_cons (pe_op op_addX (pe_ix ix_seq (pv 0) pe_int (fun _ _ => rfl)) (pe_dget2 (hu_of hr) (pe_disp (pps_cons pe_str pe_int (pps_cons pe_str (pe_op op_sub pe_int pe_int) pps_nil)) (by rfl) (by rfl) (fun z => by cases z) (by decide)) (pv 1) pe_int ⟨rfl, rfl, rfl, rfl⟩)) (pa_cons (pe_op op_addX (pe_ix ix_seq (pv 0) pe_int (fun _ _ => rfl)) (pe_dget2 (hu_of hr) (pe_disp (pps_cons pe_str pe_int (pps_cons pe_str (pe_op op_sub pe_int pe_int) pps_nil)) (by rfl) (by rfl) (fun z => by cases z) (by decide)) (pv 1) pe_int ⟨rfl, rfl, rfl, rfl⟩)) pa_nil)))))
abbrev s_L_step : Stmt := topS 54
abbrev n_L_step : List Str := ["_law_hall_here", "_law_standing", "_law_step_here", "_law_cells_here", "_law_ways", "_law_walker", "_law_way", "_law_there", "_law_shuts", "_law_k", "_law_stand", "_law_pair_here", "_law_moved", "_law_swung", "_law_shut_here"]
abbrev p_L_step : List Str := ["_law_hall_here", "_law_standing", "_law_step_here"]
theorem sc_L_step : FnScope n_L_step p_L_step (defScope s_L_step) := ⟨rfl, rfl, rfl, by decide +kernel, rfl, by decide +kernel, by decide +kernel⟩
theorem bd_L_step {P : Program} {w : World} {K : PySem.W.Frag} {mg : Str → Option Value} {base : Heap} {f : Addr} {cdv : Value} {A : Around} {outer : List Env} {s : Shared} {H : Hp} {E : XK} {aWAYS C : Addr} {sp_L_next : Sp} {sp_L_pair : Sp} {sp_L_shut : Sp} {sp_L_within : Sp} (T : Txt K mg w aWAYS C) (hr : Room 1 (A.deeper (envOfC "_law_step" (defScope s_L_step) s.heap.objs.size f cdv))) (G_L_next : DefS P w K mg base CX0 1 "_law_next" p_L_next sp_L_next) (G_L_pair : DefS P w K mg base CX0 1 "_law_pair" p_L_pair sp_L_pair) (G_L_shut : DefS P w K mg base CX0 1 "_law_shut" p_L_shut sp_L_shut) (G_L_within : DefS P w K mg base CX0 1 "_law_within" p_L_within sp_L_within) :
    PSs (cxOf CX0 P w K mg base n_L_step "_law_step" (defScope s_L_step) f cdv A outer s H E).nox (defBody s_L_step) (rd_L_step K sp_L_next sp_L_pair sp_L_shut sp_L_within) := by
  have nd : n_L_step.Nodup := sc_L_step.nd
  exact (pss_cons (ps_asg (pv 1) (pg_tup rfl (pgs_cons (pg_name (i := 3) nd rfl (Or.inl rfl)) (pgs_cons (pg_name (i := 4) nd rfl (Or.inr rfl)) pgs_nil)))) (pss_cons (ps_asg (pv 2) (pg_tup rfl (pgs_cons (pg_name (i := 5) nd rfl (Or.inl rfl)) (pgs_cons (pg_name (i := 6) nd rfl (Or.inl rfl)) pgs_nil)))) (pss_cons (ps_set (i := 7) nd rfl (Or.inl rfl) (pe_dcall G_L_next (hr.mono (by first | decide | omega)) (pa_cons (pe_ix ix_seq (pv 3) (pv 5) (fun _ _ => rfl)) (pa_cons (pv 6) pa_nil)))) (pss_cons (ps_setLc (i := 8) (own := [("_law_shut_here", 14)]) (g := (gName 14)) (tt := tYes) (te := (tCallD sp_L_shut (tCons (tVar 14) tNil))) rfl nd rfl rfl (sw_true rfl rfl rfl (by decide +kernel)) (pi_tup (pe_ix ix_seq (pv 0) (pe_op op_sub pe_int pe_int) (fun _ _ => rfl))) (blkOk_by (own := [("_law_shut_here", 14)]) (N := ["_law_hall_here", "_law_standing", "_law_step_here", "_law_cells_here", "_law_ways", "_law_walker", "_law_way", "_law_there", "_law_shuts", "_law_k", "_law_stand", "_law_pair_here", "_law_moved", "_law_swung", "_law_shut_here"]) (sc := defScope s_L_step) (by decide +kernel)) (fun _ _ _ _ _ => (pg_name (i := 14) nd rfl (Or.inl rfl))) (fun _ _ _ _ _ => pts_nil) (fun _ _ _ _ _ => (pe_dcall G_L_shut (hr.mono (by first | decide | omega)) (pa_cons (pv 14) pa_nil)))) (pss_cons (ps_setLc (i := 10) (own := [("_law_k", 9)]) (g := (gName 9)) (tt := tYes) (te := (tCallD sp_L_pair (tCons (tSl (rSlX K) (tOp (rIx K) (tOp (rIx K) (tVar 0) (tC (.int 3))) (tVar 9)) tNoPart (tPart (tC (.int 2)))) (tCons (tOp (rIx K) (tVar 4) (tVar 9)) tNil)))) rfl nd rfl rfl (sw_true rfl rfl rfl (by decide +kernel)) (pi_range1 (by rfl) T.b_range (pa_cons (pe_callB call_len (by rfl) T.b_len PySem.boot_len (pa_cons (pe_ix ix_seq (pv 0) pe_int (fun _ _ => rfl)) pa_nil)) pa_nil)) (blkOk_by (own := [("_law_k", 9)]) (N := ["_law_hall_here", "_law_standing", "_law_step_here", "_law_cells_here", "_law_ways", "_law_walker", "_law_way", "_law_there", "_law_shuts", "_law_k", "_law_stand", "_law_pair_here", "_law_moved", "_law_swung", "_law_shut_here"]) (sc := defScope s_L_step) (by decide +kernel)) (fun _ _ _ _ _ => (pg_name (i := 9) nd rfl (Or.inl rfl))) (fun _ _ _ _ _ => pts_nil) (fun _ _ _ _ _ => (pe_dcall G_L_pair (hr.mono (by first | decide | omega)) (pa_cons (pe_slice sl_X (pe_ix ix_seq (pe_ix ix_seq (pv 0) pe_int (fun _ _ => rfl)) (pv 9) (fun _ _ => rfl)) po_none (po_some pe_int)) (pa_cons (pe_ix ix_seq (pv 4) (pv 9) (fun _ _ => rfl)) pa_nil))))) (pss_cons (ps_set (i := 11) nd rfl (Or.inl rfl) (pe_tup (pa_cons (pe_callB (call_minT rfl hr) (by rfl) T.b_min (by decide +kernel) (pa_cons (pe_ix ix_seq (pv 3) (pv 5) (fun _ _ => rfl)) (pa_cons (pv 7) pa_nil))) (pa_cons (pe_callB (call_maxT rfl hr) (by rfl) T.b_max (by decide +kernel) (pa_cons (pe_ix ix_seq (pv 3) (pv 5) (fun _ _ => rfl)) (pa_cons (pv 7) pa_nil))) pa_nil)))) (pss_cons (ps_if (PW.pt (pw_or (pt_cmpR (op_inX (hu65 hr)) (pv 7) (pv 3) (by rfl)) (pw_or (pt_not (pt_val (pe_dcall G_L_within (hr.mono (by first | decide | omega)) (pa_cons (pv 0) (pa_cons (pv 11) pa_nil))))) (pw_or1 (pt_cmpR (op_inX (hu65 hr)) (pv 11) (pv 8) (by rfl)))))) (pss_one (ps_ret pe_non)) pss_nil) (pss_cons (ps_set (i := 12) nd rfl (Or.inl rfl) (pe_op op_addX (pe_op op_addX (pe_slice sl_X (pv 3) po_none (po_some (pv 5))) (pe_tup (pa_cons (pv 7) pa_nil))) (pe_slice sl_X (pv 3) (po_some (pe_op op_addX (pv 5) pe_int)) po_none))) (pss_cons (ps_if (pt_cmpR (op_notInX (hu65 hr)) (pv 11) (pv 10) (by rfl)) (pss_one (ps_ret (pe_tup (pa_cons (pe_tup (pa_cons (pv 12) (pa_cons (pv 4) pa_nil))) (pa_cons pe_non pa_nil))))) pss_nil) (pss_cons (ps_set (i := 9) nd rfl (Or.inl rfl) (pe_bm PySem.F.plainAttrs_list PySem.F.slot_list_index PySem.F.type_list_index (mt_indexD (hu65 hr)) (pv 10) (pa_cons (pv 11) pa_nil))) (pss_cons (ps_set (i := 13) nd rfl (Or.inl rfl) (pe_dcall G_L_pair (hr.mono (by first | decide | omega)) (pa_cons (pe_slice sl_X (pe_ix ix_seq (pe_ix ix_seq (pv 0) pe_int (fun _ _ => rfl)) (pv 9) (fun _ _ => rfl)) po_none (po_some pe_int)) (pa_cons (pv 6) pa_nil)))) (pss_cons (ps_if (PW.pt (pw_or (pt_not (pt_val (pe_dcall G_L_within (hr.mono (by first | decide | omega)) (pa_cons (pv 0) (pa_cons (pv 13) pa_nil))))) (pw_or1 (pt_cmpR (op_inX (hu65 hr)) (pv 13) (pe_op op_addX (pv 8) (pv 10)) (by rfl))))) (pss_one (ps_ret pe_non)) pss_nil) (pss_one (ps_ret (pe_tup (pa_cons (pe_tup (pa_cons (pv 12) (pa_cons (pe_op op_addX (pe_op op_addX (pe_slice sl_X (pv 4) po_none (po_some (pv 9))) (pv 6)) (pe_slice sl_X (pv 4) (po_some (pe_op op_addX (pv 9) pe_int)) po_none)) pa_nil))) (pa_cons (pv 9) pa_nil)))))))))))))))))
abbrev s_L_begin : Stmt := topS 55
abbrev n_L_begin : List Str := ["_law_hall_here", "_law_cells_here", "_law_door"]
abbrev p_L_begin : List Str := ["_law_hall_here", "_law_cells_here"]
theorem sc_L_begin : FnScope n_L_begin p_L_begin (defScope s_L_begin) := ⟨rfl, rfl, rfl, by decide +kernel, rfl, by decide +kernel, by decide +kernel⟩
theorem bd_L_begin {P : Program} {w : World} {K : PySem.W.Frag} {mg : Str → Option Value} {base : Heap} {f : Addr} {cdv : Value} {A : Around} {outer : List Env} {s : Shared} {H : Hp} {E : XK} {aWAYS C : Addr} (T : Txt K mg w aWAYS C) (hr : Room 0 (A.deeper (envOfC "_law_begin" (defScope s_L_begin) s.heap.objs.size f cdv))) :
    PSs (cxOf CX0 P w K mg base n_L_begin "_law_begin" (defScope s_L_begin) f cdv A outer s H E).nox (defBody s_L_begin) (rd_L_begin K) := by
  have nd : n_L_begin.Nodup := sc_L_begin.nd
  exact (pss_one (ps_ret (pe_tup (pa_cons (pv 1) (pa_cons (pe_join pe_str (pe_lc (own := [("_law_door", 2)]) (g := (gName 2)) (tt := tYes) (te := (tOp (rIx K) (tVar 2) (tC (.int 2)))) rfl nd (pi_tup (pe_ix ix_seq (pv 0) pe_int (fun _ _ => rfl))) (blkOk_by (own := [("_law_door", 2)]) (N := ["_law_hall_here", "_law_cells_here", "_law_door"]) (sc := defScope s_L_begin) (by decide +kernel)) (fun _ _ _ _ _ => (pg_name (i := 2) nd rfl (Or.inl rfl))) (fun _ _ _ _ _ => pts_nil) (fun _ _ _ _ _ => (pe_ix ix_seq (pv 2) pe_int (fun _ _ => rfl))))) pa_nil)))))
abbrev s_L_hall : Stmt := topS 56
abbrev n_L_hall : List Str := ["_law_row", "_law_size", "_law_doors", "_law_high", "_law_wide", "_law_left", "_law_r", "_law_shuts", "_law_hung", "_law_stand", "_law_k", "_law_door", "_law_pair_here", "_law_shut_here", "_law_c"]
abbrev p_L_hall : List Str := ["_law_row", "_law_size", "_law_doors"]
theorem sc_L_hall : FnScope n_L_hall p_L_hall (defScope s_L_hall) := ⟨rfl, rfl, rfl, by decide +kernel, rfl, by decide +kernel, by decide +kernel⟩
theorem bd_L_hall {P : Program} {w : World} {K : PySem.W.Frag} {mg : Str → Option Value} {base : Heap} {f : Addr} {cdv : Value} {A : Around} {outer : List Env} {s : Shared} {H : Hp} {E : XK} {aWAYS C : Addr} {sp_L_pair : Sp} {sp_L_shut : Sp} {sp_L_taken : Sp} {sp_L_within : Sp} (T : Txt K mg w aWAYS C) (hr : Room 1 (A.deeper (envOfC "_law_hall" (defScope s_L_hall) s.heap.objs.size f cdv))) (G_L_pair : DefS P w K mg base CX0 1 "_law_pair" p_L_pair sp_L_pair) (G_L_shut : DefS P w K mg base CX0 1 "_law_shut" p_L_shut sp_L_shut) (G_L_taken : DefS P w K mg base CX0 1 "_law_taken" p_L_taken sp_L_taken) (G_L_within : DefS P w K mg base CX0 1 "_law_within" p_L_within sp_L_within) :
    PSs (cxOf CX0 P w K mg base n_L_hall "_law_hall" (defScope s_L_hall) f cdv A outer s H E).nox (defBody s_L_hall) (rd_L_hall K sp_L_pair sp_L_shut sp_L_taken sp_L_within) := by
  have nd : n_L_hall.Nodup := sc_L_hall.nd
  exact (pss_cons (ps_par (i := 3) (j := 4) rfl nd rfl rfl (by decide) rfl rfl (pa_cons (pe_op op_addX pe_int (pe_dcall G_L_taken (hr.mono (by first | decide | omega)) (pa_cons (pv 0) (pa_cons (pv 1) pa_nil)))) (pa_cons (pe_op op_addX pe_int (pe_dcall G_L_taken (hr.mono (by first | decide | omega)) (pa_cons (pv 0) (pa_cons (pv 1) pa_nil)))) pa_nil)) (by rfl)) (pss_cons (ps_set (i := 5) nd rfl (Or.inl rfl) (pe_lst pa_nil)) (pss_cons (ps_for PassesOwn.never rfl (pi_range1 (by rfl) T.b_range (pa_cons (pv 3) pa_nil)) (pg_name (i := 6) nd rfl (Or.inr rfl)) (pss_one (ps_set (i := 5) nd rfl (Or.inl rfl) (pe_op op_addX (pe_op op_addX (pv 5) (pe_lc (own := [("_law_c", 14)]) (g := (gName 14)) (tt := tYes) (te := (tTup (tCons (tVar 6) (tCons (tVar 14) (tCons (tC (.str "-")) tNil))))) rfl nd (pi_range1 (by rfl) T.b_range (pa_cons (pe_op op_mulX' (pv 4) (pe_callTy call_int1 (by rfl) T.b_int (by decide +kernel) (pa_cons (pe_cmpR op_gt (pv 6) pe_int (nomark _)) pa_nil))) pa_nil)) (blkOk_by (own := [("_law_c", 14)]) (N := ["_law_row", "_law_size", "_law_doors", "_law_high", "_law_wide", "_law_left", "_law_r", "_law_shuts", "_law_hung", "_law_stand", "_law_k", "_law_door", "_law_pair_here", "_law_shut_here", "_law_c"]) (sc := defScope s_L_hall) (by decide +kernel)) (fun _ _ _ _ _ => (pg_name (i := 14) nd rfl (Or.inl rfl))) (fun _ _ _ _ _ => pts_nil) (fun _ _ _ _ _ => (pe_tup (pa_cons (pv 6) (pa_cons (pv 14) (pa_cons pe_str pa_nil))))))) (pe_lc (own := [("_law_c", 14)]) (g := (gName 14)) (tt := tYes) (te := (tTup (tCons (tVar 6) (tCons (tVar 14) (tCons (tC (.str "|")) tNil))))) rfl nd (pi_range2 (by rfl) T.b_range (pa_cons pe_int (pa_cons (pv 4) pa_nil))) (blkOk_by (own := [("_law_c", 14)]) (N := ["_law_row", "_law_size", "_law_doors", "_law_high", "_law_wide", "_law_left", "_law_r", "_law_shuts", "_law_hung", "_law_stand", "_law_k", "_law_door", "_law_pair_here", "_law_shut_here", "_law_c"]) (sc := defScope s_L_hall) (by decide +kernel)) (fun _ _ _ _ _ => (pg_name (i := 14) nd rfl (Or.inl rfl))) (fun _ _ _ _ _ => pts_nil) (fun _ _ _ _ _ => (pe_tup (pa_cons (pv 6) (pa_cons (pv 14) (pa_cons pe_str pa_nil)))))))))) (pss_cons (ps_par3 (i := 7) (j := 8) (l := 9) rfl nd rfl rfl rfl (by decide) (by decide) (by decide) rfl rfl rfl (pa_cons (pe_lst pa_nil) (pa_cons (pe_lst pa_nil) (pa_cons (pe_lst pa_nil) pa_nil))) (by rfl)) (pss_cons (ps_for PassesOwn.never rfl (pi_range1 (by rfl) T.b_range (pa_cons (pe_dcall G_L_taken (hr.mono (by first | decide | omega)) (pa_cons (pv 0) (pa_cons (pe_ix ix_seq (pe_lst (pa_cons pe_int (pa_cons pe_int (pa_cons pe_int pa_nil)))) (pe_dcall G_L_taken (hr.mono (by first | decide | omega)) (pa_cons (pv 0) (pa_cons pe_int pa_nil))) (fun _ _ => rfl)) pa_nil))) pa_nil)) (pg_name (i := 10) nd rfl (Or.inl rfl)) (pss_one (ps_if (pt_cmpR (op_neD hr.units) (pv 5) (pe_lst pa_nil) (nomark _)) (pss_one (ps_expr (pe_bm PySem.F.plainAttrs_list PySem.F.slot_list_append PySem.F.type_list_append mt_append (pv 7) (pa_cons (pe_bm PySem.F.plainAttrs_list PySem.F.slot_list_pop PySem.F.type_list_pop mt_popAt (pv 5) (pa_cons (pe_dcall G_L_taken (hr.mono (by first | decide | omega)) (pa_cons (pv 0) (pa_cons (pe_callB call_len (by rfl) T.b_len PySem.boot_len (pa_cons (pv 5) pa_nil)) pa_nil))) pa_nil)) pa_nil)))) pss_nil))) (pss_cons (ps_setLc (i := 9) (own := [("_law_shut_here", 13)]) (g := (gName 13)) (tt := tYes) (te := (tCallD sp_L_shut (tCons (tVar 13) tNil))) rfl nd rfl rfl (sw_true rfl rfl rfl (by decide +kernel)) (pi_list (pv 7)) (blkOk_by (own := [("_law_shut_here", 13)]) (N := ["_law_row", "_law_size", "_law_doors", "_law_high", "_law_wide", "_law_left", "_law_r", "_law_shuts", "_law_hung", "_law_stand", "_law_k", "_law_door", "_law_pair_here", "_law_shut_here", "_law_c"]) (sc := defScope s_L_hall) (by decide +kernel)) (fun _ _ _ _ _ => (pg_name (i := 13) nd rfl (Or.inl rfl))) (fun _ _ _ _ _ => pts_nil) (fun _ _ _ _ _ => (pe_dcall G_L_shut (hr.mono (by first | decide | omega)) (pa_cons (pv 13) pa_nil)))) (pss_cons (ps_for PassesOwn.never rfl (pi_range1 (by rfl) T.b_range (pa_cons (pe_dcall G_L_taken (hr.mono (by first | decide | omega)) (pa_cons (pv 0) (pa_cons (pe_op op_addX (pv 2) pe_int) pa_nil))) pa_nil)) (pg_name (i := 10) nd rfl (Or.inl rfl)) (pss_cons (ps_set (i := 11) nd rfl (Or.inl rfl) (pe_tup (pa_cons (pe_dcall G_L_taken (hr.mono (by first | decide | omega)) (pa_cons (pv 0) (pa_cons (pe_op op_addX (pv 3) pe_int) pa_nil))) (pa_cons (pe_dcall G_L_taken (hr.mono (by first | decide | omega)) (pa_cons (pv 0) (pa_cons (pe_op op_addX (pv 4) pe_int) pa_nil))) (pa_cons (pe_ix ix_seq pe_str (pe_dcall G_L_taken (hr.mono (by first | decide | omega)) (pa_cons (pv 0) (pa_cons pe_int pa_nil))) (fun _ _ => rfl)) pa_nil))))) (pss_cons (ps_set (i := 12) nd rfl (Or.inl rfl) (pe_dcall G_L_pair (hr.mono (by first | decide | omega)) (pa_cons (pe_slice sl_X (pv 11) po_none (po_some pe_int)) (pa_cons (pe_ix ix_seq (pv 11) pe_int (fun _ _ => rfl)) pa_nil)))) (pss_one (ps_if (PW.pt (pw_and (pt_val (pe_dcall G_L_within (hr.mono (by first | decide | omega)) (pa_cons (pe_tup (pa_cons (pv 3) (pa_cons (pv 4) pa_nil))) (pa_cons (pv 12) pa_nil)))) (pw_and1 (pt_cmpR (op_notInX (hu65 hr)) (pv 12) (pv 9) (by rfl))))) (pss_cons (ps_expr (pe_bm PySem.F.plainAttrs_list PySem.F.slot_list_append PySem.F.type_list_append mt_append (pv 8) (pa_cons (pv 11) pa_nil))) (pss_one (ps_expr (pe_bm PySem.F.plainAttrs_list PySem.F.slot_list_append PySem.F.type_list_append mt_append (pv 9) (pa_cons (pv 12) pa_nil))))) pss_nil))))) (pss_one (ps_ret (pe_tup (pa_cons (pv 3) (pa_cons (pv 4) (pa_cons (pe_callTy call_tuple_of (by rfl) T.b_tuple (by decide +kernel) (pa_cons (pv 7) pa_nil)) (pa_cons (pe_callTy call_tuple_of (by rfl) T.b_tuple (by decide +kernel) (pa_cons (pv 8) pa_nil)) pa_nil))))))))))))))
abbrev s_L_cells : Stmt := topS 57
abbrev n_L_cells : List Str := ["_law_row", "_law_hall_here", "_law_size", "_law_found", "_law_k", "_law_cell"]
abbrev p_L_cells : List Str := ["_law_row", "_law_hall_here", "_law_size"]
theorem sc_L_cells : FnScope n_L_cells p_L_cells (defScope s_L_cells) := ⟨rfl, rfl, rfl, by decide +kernel, rfl, by decide +kernel, by decide +kernel⟩
theorem bd_L_cells {P : Program} {w : World} {K : PySem.W.Frag} {mg : Str → Option Value} {base : Heap} {f : Addr} {cdv : Value} {A : Around} {outer : List Env} {s : Shared} {H : Hp} {E : XK} {aWAYS C : Addr} {sp_L_taken : Sp} (T : Txt K mg w aWAYS C) (hr : Room 1 (A.deeper (envOfC "_law_cells" (defScope s_L_cells) s.heap.objs.size f cdv))) (G_L_taken : DefS P w K mg base CX0 1 "_law_taken" p_L_taken sp_L_taken) :
    PSs (cxOf CX0 P w K mg base n_L_cells "_law_cells" (defScope s_L_cells) f cdv A outer s H E).nox (defBody s_L_cells) (rd_L_cells K sp_L_taken) := by
  have nd : n_L_cells.Nodup := sc_L_cells.nd
  exact (pss_cons (ps_set (i := 3) nd rfl (Or.inl rfl) (pe_lst pa_nil)) (pss_cons (ps_for PassesOwn.never rfl (pi_range1 (by rfl) T.b_range (pa_cons (pe_op op_addX pe_int (pe_dcall G_L_taken (hr.mono (by first | decide | omega)) (pa_cons (pv 0) (pa_cons (pv 2) pa_nil)))) pa_nil)) (pg_name (i := 4) nd rfl (Or.inl rfl)) (pss_cons (ps_set (i := 5) nd rfl (Or.inl rfl) (pe_tup (pa_cons (pe_dcall G_L_taken (hr.mono (by first | decide | omega)) (pa_cons (pv 0) (pa_cons (pe_ix ix_seq (pv 1) pe_int (fun _ _ => rfl)) pa_nil))) (pa_cons (pe_dcall G_L_taken (hr.mono (by first | decide | omega)) (pa_cons (pv 0) (pa_cons (pe_ix ix_seq (pv 1) pe_int (fun _ _ => rfl)) pa_nil))) pa_nil)))) (pss_one (ps_set (i := 3) nd rfl (Or.inl rfl) (pe_op op_addX (pv 3) (pe_op op_mulX' (pe_lst (pa_cons (pv 5) pa_nil)) (pe_callTy call_int1 (by rfl) T.b_int (by decide +kernel) (pa_cons (pe_cmpR (op_notInX (hu65 hr)) (pv 5) (pv 3) (by rfl)) pa_nil)))))))) (pss_one (ps_ret (pe_callTy call_tuple_of (by rfl) T.b_tuple (by decide +kernel) (pa_cons (pv 3) pa_nil))))))
abbrev s_L_steps : Stmt := topS 58
abbrev n_L_steps : List Str := ["_law_hall_here", "_law_standing", "_law_found", "_law_walker", "_law_way", "_law_told"]
abbrev p_L_steps : List Str := ["_law_hall_here", "_law_standing"]
theorem sc_L_steps : FnScope n_L_steps p_L_steps (defScope s_L_steps) := ⟨rfl, rfl, rfl, by decide +kernel, rfl, by decide +kernel, by decide +kernel⟩
theorem bd_L_steps {P : Program} {w : World} {K : PySem.W.Frag} {mg : Str → Option Value} {base : Heap} {f : Addr} {cdv : Value} {A : Around} {outer : List Env} {s : Shared} {H : Hp} {E : XK} {aWAYS C : Addr} {sp_L_step : Sp} (T : Txt K mg w aWAYS C) (hr : Room 2 (A.deeper (envOfC "_law_steps" (defScope s_L_steps) s.heap.objs.size f cdv))) (G_L_step : DefS P w K mg base CX0 2 "_law_step" p_L_step sp_L_step) :
    PSs (cxOf CX0 P w K mg base n_L_steps "_law_steps" (defScope s_L_steps) f cdv A outer s H E).nox (defBody s_L_steps) (rd_L_steps K sp_L_step) := by
  have nd : n_L_steps.Nodup := sc_L_steps.nd
  exact (pss_cons (ps_set (i := 2) nd rfl (Or.inl rfl) (pe_lst pa_nil)) (pss_cons (ps_for PassesOwn.never rfl (pi_range1 (by rfl) T.b_range (pa_cons (pe_callB call_len (by rfl) T.b_len PySem.boot_len (pa_cons (pe_ix ix_seq (pv 1) pe_int (fun _ _ => rfl)) pa_nil)) pa_nil)) (pg_name (i := 3) nd rfl (Or.inl rfl)) (pss_one (ps_for PassesOwn.never rfl (pi_str pe_str) (pg_name (i := 4) nd rfl (Or.inl rfl)) (pss_cons (ps_set (i := 5) nd rfl (Or.inl rfl) (pe_dcall G_L_step (hr.mono (by first | decide | omega)) (pa_cons (pv 0) (pa_cons (pv 1) (pa_cons (pe_tup (pa_cons (pv 3) (pa_cons (pv 4) pa_nil))) pa_nil))))) (pss_one (ps_if (pt_cmpR op_notN (pv 5) pe_non (nomark _)) (pss_one (ps_expr (pe_bm PySem.F.plainAttrs_list PySem.F.slot_list_append PySem.F.type_list_append mt_append (pv 2) (pa_cons (pe_tup (pa_cons (pe_tup (pa_cons (pv 3) (pa_cons (pv 4) pa_nil))) (pa_cons (pe_ix ix_seq (pv 5) pe_int (fun _ _ => rfl)) (pa_cons (pe_ix ix_seq (pv 5) pe_int (fun _ _ => rfl)) pa_nil)))) pa_nil)))) pss_nil)))))) (pss_one (ps_ret (pv 2)))))
abbrev s_L_alike : Stmt := topS 48
abbrev n_L_alike : List Str := ["_law_one", "_law_due", "_law_k"]
abbrev p_L_alike : List Str := ["_law_one", "_law_due"]
theorem sc_L_alike : FnScope n_L_alike p_L_alike (defScope s_L_alike) := ⟨rfl, rfl, rfl, by decide +kernel, rfl, by decide +kernel, by decide +kernel⟩
theorem bd_L_alike {P : Program} {w : World} {K : PySem.W.Frag} {mg : Str → Option Value} {base : Heap} {f : Addr} {cdv : Value} {A : Around} {outer : List Env} {s : Shared} {H : Hp} {E : XK} {aWAYS C : Addr} {kk : Nat} {sp_L_alike : Sp} (T : Txt K mg w aWAYS C) (hr : Room kk (A.deeper (envOfC "_law_alike" (defScope s_L_alike) s.heap.objs.size f cdv))) (G_L_alike : DefS P w K mg base CX0 kk "_law_alike" p_L_alike sp_L_alike) :
    PSs (cxOf CX0 P w K mg base n_L_alike "_law_alike" (defScope s_L_alike) f cdv A outer s H E).nox (defBody s_L_alike) (rd_L_alike K sp_L_alike) := by
  have nd : n_L_alike.Nodup := sc_L_alike.nd
  exact (pss_cons (ps_if (PW.pt (pw_and (pt_val (pe_callB call_isiT (by rfl) T.b_isinstance (by decide +kernel) (pa_cons (pv 0) (pa_cons (pe_tup (pa_cons (pe_bltn (v := .ty "tuple") (by rfl) T.b_tuple (by decide +kernel) rfl) (pa_cons (pe_bltn (v := .ty "list") (by rfl) T.b_list (by decide +kernel) rfl) pa_nil))) pa_nil)))) (pw_and1 (pt_val (pe_callB call_isiT (by rfl) T.b_isinstance (by decide +kernel) (pa_cons (pv 1) (pa_cons (pe_tup (pa_cons (pe_bltn (v := .ty "tuple") (by rfl) T.b_tuple (by decide +kernel) rfl) (pa_cons (pe_bltn (v := .ty "list") (by rfl) T.b_list (by decide +kernel) rfl) pa_nil))) pa_nil))))))) (pss_cons (ps_if (PW.pt (pw_or (pt_cmpR (op_neD hr.units) (pe_callB call_isi (by rfl) T.b_isinstance (by decide +kernel) (pa_cons (pv 0) (pa_cons (pe_bltn (v := .ty "tuple") (by rfl) T.b_tuple (by decide +kernel) rfl) pa_nil))) (pe_callB call_isi (by rfl) T.b_isinstance (by decide +kernel) (pa_cons (pv 1) (pa_cons (pe_bltn (v := .ty "tuple") (by rfl) T.b_tuple (by decide +kernel) rfl) pa_nil))) (nomark _)) (pw_or1 (pt_cmpR (op_neD hr.units) (pe_callB call_len (by rfl) T.b_len PySem.boot_len (pa_cons (pv 0) pa_nil)) (pe_callB call_len (by rfl) T.b_len PySem.boot_len (pa_cons (pv 1) pa_nil)) (nomark _))))) (pss_one (ps_ret pe_bl)) pss_nil) (pss_one (ps_ret (pe_cmpR (op_eqD hr.units) (pe_lc (own := [("_law_k", 2)]) (g := (gName 2)) (tt := (tNot (tB (tCallD sp_L_alike (tCons (tOp (rIx K) (tVar 0) (tVar 2)) (tCons (tOp (rIx K) (tVar 1) (tVar 2)) tNil)))))) (te := (tVar 2)) rfl nd (pi_range1 (by rfl) T.b_range (pa_cons (pe_callB call_len (by rfl) T.b_len PySem.boot_len (pa_cons (pv 0) pa_nil)) pa_nil)) (blkOk_by (own := [("_law_k", 2)]) (N := ["_law_one", "_law_due", "_law_k"]) (sc := defScope s_L_alike) (by decide +kernel)) (fun _ _ _ _ _ => (pg_name (i := 2) nd rfl (Or.inl rfl))) (fun _ _ _ _ _ => (pts_one (pt_not (pt_val (pe_dcall G_L_alike (hr.mono (by first | decide | omega)) (pa_cons (pe_ix ix_seq (pv 0) (pv 2) (fun _ _ => rfl)) (pa_cons (pe_ix ix_seq (pv 1) (pv 2) (fun _ _ => rfl)) pa_nil))))))) (fun _ _ _ _ _ => (pv 2))) (pe_lst pa_nil) (nomark _))))) pss_nil) (pss_one (ps_ret (pe_and (pe_cmpR (op_eqD hr.units) (pv 0) (pv 1) (nomark _)) (pe_one (pe_cmpR (op_eqD hr.units) (pe_callB call_isi (by rfl) T.b_isinstance (by decide +kernel) (pa_cons (pv 0) (pa_cons (pe_bltn (v := .ty "bool") (by rfl) T.b_bool (by decide +kernel) rfl) pa_nil))) (pe_callB call_isi (by rfl) T.b_isinstance (by decide +kernel) (pa_cons (pv 1) (pa_cons (pe_bltn (v := .ty "bool") (by rfl) T.b_bool (by decide +kernel) rfl) pa_nil))) (nomark _)))))))
abbrev s_L_stands : Stmt := topS 61
abbrev n_L_stands : List Str := ["_law_bench", "_law_hall_here", "_law_now", "_law_past", "_law_points", "_law_told", "_law_due", "_law_some", "_law_one", "_law_name"]
abbrev p_L_stands : List Str := ["_law_bench", "_law_hall_here", "_law_now", "_law_past", "_law_points"]
theorem sc_L_stands : FnScope n_L_stands p_L_stands (defScope s_L_stands) := ⟨rfl, rfl, rfl, by decide +kernel, rfl, by decide +kernel, by decide +kernel⟩
theorem bd_L_stands {P : Program} {w : World} {K : PySem.W.Frag} {mg : Str → Option Value} {base : Heap} {f : Addr} {cdv : Value} {A : Around} {outer : List Env} {s : Shared} {H : Hp} {E : XK} {aWAYS C : Addr} {sp_L_alike : Sp} {sp_L_steps : Sp} {sp_B_marks : Sp} {sp_B_may : Sp} {sp_B_standing : Sp} {sp_B_steps : Sp} (T : Txt K mg w aWAYS C) (hr : Room 8 (A.deeper (envOfC "_law_stands" (defScope s_L_stands) s.heap.objs.size f cdv))) (BC : Cls K C) (G_L_alike : DefS P w K mg base CX0 8 "_law_alike" p_L_alike sp_L_alike) (G_L_steps : DefS P w K mg base CX0 3 "_law_steps" p_L_steps sp_L_steps) (G_B_marks : MethS P w K mg base CX0 1 C "marks" p_B_marks [] sp_B_marks) (G_B_may : MethS P w K mg base CX0 7 C "may" p_B_may [] sp_B_may) (G_B_standing : MethS P w K mg base CX0 1 C "standing" p_B_standing [] sp_B_standing) (G_B_steps : MethS P w K mg base CX0 1 C "steps" p_B_steps [] sp_B_steps) :
    PSs (cxOf CX0 P w K mg base n_L_stands "_law_stands" (defScope s_L_stands) f cdv A outer s H E).nox (defBody s_L_stands) (rd_L_stands K C sp_L_alike sp_L_steps sp_B_marks sp_B_may sp_B_standing sp_B_steps) := by
  have nd : n_L_stands.Nodup := sc_L_stands.nd
  exact (pss_cons (ps_set (i := 5) nd rfl (Or.inl rfl) (pe_lst (pa_cons (pe_bmeth0 G_B_standing BC (hr.mono (by first | decide | omega)) (pv 0)) (pa_cons (pe_bmeth0 G_B_steps BC (hr.mono (by first | decide | omega)) (pv 0)) (pa_cons (pe_bmeth0 G_B_may BC (hr.mono (by first | decide | omega)) (pv 0)) (pa_cons (pe_bmeth0 G_B_marks BC (hr.mono (by first | decide | omega)) (pv 0)) pa_nil)))))) (pss_cons (ps_set (i := 6) nd rfl (Or.inl rfl) (pe_lst (pa_cons (pv 2) (pa_cons (pv 3) (pa_cons (pe_lc (own := [("_law_one", 8)]) (g := (gName 8)) (tt := tYes) (te := (tOp (rIx K) (tVar 8) (tC (.int 0)))) rfl nd (pi_list (pe_dcall G_L_steps (hr.mono (by first | decide | omega)) (pa_cons (pv 1) (pa_cons (pv 2) pa_nil)))) (blkOk_by (own := [("_law_one", 8)]) (N := ["_law_bench", "_law_hall_here", "_law_now", "_law_past", "_law_points", "_law_told", "_law_due", "_law_some", "_law_one", "_law_name"]) (sc := defScope s_L_stands) (by decide +kernel)) (fun _ _ _ _ _ => (pg_name (i := 8) nd rfl (Or.inl rfl))) (fun _ _ _ _ _ => pts_nil) (fun _ _ _ _ _ => (pe_ix ix_seq (pv 8) pe_int (fun _ _ => rfl)))) (pa_cons (pe_lc (own := [("_law_name", 9)]) (g := (gName 9)) (tt := tYes) (te := (tTup (tCons (tVar 9) (tCons (tOp (rIx K) (tDGet (tVar 4) (tVar 9)) (tC (.int 0))) tNil)))) rfl nd (pi_list (pe_callB (call_sortedDK rfl) (by rfl) T.b_sorted (by decide +kernel) (pa_cons (pv 4) pa_nil))) (blkOk_by (own := [("_law_name", 9)]) (N := ["_law_bench", "_law_hall_here", "_law_now", "_law_past", "_law_points", "_law_told", "_law_due", "_law_some", "_law_one", "_law_name"]) (sc := defScope s_L_stands) (by decide +kernel)) (fun _ _ _ _ _ => (pg_name (i := 9) nd rfl (Or.inl rfl))) (fun _ _ _ _ _ => pts_nil) (fun _ _ _ _ _ => (pe_tup (pa_cons (pv 9) (pa_cons (pe_ix ix_seq (pe_dget (hu_of hr) (pv 4) (pv 9) (fun _ _ => rfl)) pe_int (fun _ _ => rfl)) pa_nil))))) pa_nil)))))) (pss_cons (ps_if (pt_not (pt_val (pe_dcall G_L_alike (hr.mono (by first | decide | omega)) (pa_cons (pv 5) (pa_cons (pv 6) pa_nil))))) (pss_one (ps_ret pe_bl)) pss_nil) (pss_cons (ps_for PassesOwn.never rfl (pi_list (pe_slice sl_X (pv 5) (po_some pe_int) po_none)) (pg_name (i := 7) nd rfl (Or.inl rfl)) (pss_one (ps_expr (pe_bm PySem.F.plainAttrs_list PySem.F.slot_list_append PySem.F.type_list_append mt_append (pv 7) (pa_cons pe_int pa_nil))))) (pss_one (ps_ret pe_bl))))))
abbrev s_L_any_step : Stmt := topS 62
abbrev n_L_any_step : List Str := ["_law_row", "_law_hall_here", "_law_now", "_law_way", "_law_some", "_law_step_here", "_law_one"]
abbrev p_L_any_step : List Str := ["_law_row", "_law_hall_here", "_law_now", "_law_way"]
theorem sc_L_any_step : FnScope n_L_any_step p_L_any_step (defScope s_L_any_step) := ⟨rfl, rfl, rfl, by decide +kernel, rfl, by decide +kernel, by decide +kernel⟩
theorem bd_L_any_step {P : Program} {w : World} {K : PySem.W.Frag} {mg : Str → Option Value} {base : Heap} {f : Addr} {cdv : Value} {A : Around} {outer : List Env} {s : Shared} {H : Hp} {E : XK} {aWAYS C : Addr} {sp_L_steps : Sp} {sp_L_taken : Sp} (T : Txt K mg w aWAYS C) (hr : Room 3 (A.deeper (envOfC "_law_any_step" (defScope s_L_any_step) s.heap.objs.size f cdv))) (G_L_steps : DefS P w K mg base CX0 3 "_law_steps" p_L_steps sp_L_steps) (G_L_taken : DefS P w K mg base CX0 1 "_law_taken" p_L_taken sp_L_taken) :
    PSs (cxOf CX0 P w K mg base n_L_any_step "_law_any_step" (defScope s_L_any_step) f cdv A outer s H E).nox (defBody s_L_any_step) (rd_L_any_step K sp_L_steps sp_L_taken) := by
  have nd : n_L_any_step.Nodup := sc_L_any_step.nd
  exact (pss_cons (ps_setLc (i := 4) (own := [("_law_one", 6)]) (g := (gName 6)) (tt := tYes) (te := (tOp (rIx K) (tVar 6) (tC (.int 0)))) rfl nd rfl rfl (sw_true rfl rfl rfl (by decide +kernel)) (pi_list (pe_dcall G_L_steps (hr.mono (by first | decide | omega)) (pa_cons (pv 1) (pa_cons (pv 2) pa_nil)))) (blkOk_by (own := [("_law_one", 6)]) (N := ["_law_row", "_law_hall_here", "_law_now", "_law_way", "_law_some", "_law_step_here", "_law_one"]) (sc := defScope s_L_any_step) (by decide +kernel)) (fun _ _ _ _ _ => (pg_name (i := 6) nd rfl (Or.inl rfl))) (fun _ _ _ _ _ => pts_nil) (fun _ _ _ _ _ => (pe_ix ix_seq (pv 6) pe_int (fun _ _ => rfl)))) (pss_cons (ps_set (i := 5) nd rfl (Or.inl rfl) (pe_tup (pa_cons (pe_dcall G_L_taken (hr.mono (by first | decide | omega)) (pa_cons (pv 0) (pa_cons (pe_callB call_len (by rfl) T.b_len PySem.boot_len (pa_cons (pe_ix ix_seq (pv 2) pe_int (fun _ _ => rfl)) pa_nil)) pa_nil))) (pa_cons (pe_ix ix_seq pe_str (pe_dcall G_L_taken (hr.mono (by first | decide | omega)) (pa_cons (pv 0) (pa_cons pe_int pa_nil))) (fun _ _ => rfl)) pa_nil)))) (pss_one (ps_ret (pe_ifExp (PW.pt (pw_and (pt_cmpR (op_neD hr.units) (pv 4) (pe_lst pa_nil) (nomark _)) (pw_and1 (pt_cmpR op_lt (pv 3) pe_int (nomark _))))) (pe_ix ix_seq (pv 4) (pe_dcall G_L_taken (hr.mono (by first | decide | omega)) (pa_cons (pv 0) (pa_cons (pe_callB call_len (by rfl) T.b_len PySem.boot_len (pa_cons (pv 4) pa_nil)) pa_nil))) (fun _ _ => rfl)) (pv 5))))))
abbrev s_L_refuses : Stmt := topS 63
abbrev n_L_refuses : List Str := ["_law_row", "_law_bench", "_law_words", "_law_bad", "_law_odd"]
abbrev p_L_refuses : List Str := ["_law_row", "_law_bench"]
theorem sc_L_refuses : FnScope n_L_refuses p_L_refuses (defScope s_L_refuses) := ⟨rfl, rfl, rfl, by decide +kernel, rfl, by decide +kernel, by decide +kernel⟩
theorem bd_L_refuses {P : Program} {w : World} {K : PySem.W.Frag} {mg : Str → Option Value} {base : Heap} {f : Addr} {cdv : Value} {A : Around} {outer : List Env} {s : Shared} {H : Hp} {E : XK} {aWAYS C : Addr} {sp_L_taken : Sp} (T : Txt K mg w aWAYS C) {tLW3 tLW4 tLW5 : TE} (hLW3 : ∀ p lp pos : Pos, PE (cxOf CX0 P w K mg base n_L_refuses "_law_refuses" (defScope s_L_refuses) f cdv A outer s H E).nox (.Call (.Name "_law_word" p) [.Lambda lamArgs lam3B lamScope3 lp] [] pos) tLW3) (hLW4 : ∀ p lp pos : Pos, PE (cxOf CX0 P w K mg base n_L_refuses "_law_refuses" (defScope s_L_refuses) f cdv A outer s H E).nox (.Call (.Name "_law_word" p) [.Lambda lamArgs4 lam4B lamScope4 lp] [] pos) tLW4) (hLW5 : ∀ p lp pos : Pos, PE (cxOf CX0 P w K mg base n_L_refuses "_law_refuses" (defScope s_L_refuses) f cdv A outer s H E).nox (.Call (.Name "_law_word" p) [.Lambda lamArgs lam5B lamScope5 lp] [] pos) tLW5) (hr : Room 10 (A.deeper (envOfC "_law_refuses" (defScope s_L_refuses) s.heap.objs.size f cdv))) (G_L_taken : DefS P w K mg base CX0 1 "_law_taken" p_L_taken sp_L_taken) :
    PSs (cxOf CX0 P w K mg base n_L_refuses "_law_refuses" (defScope s_L_refuses) f cdv A outer s H E).nox (defBody s_L_refuses) (rd_L_refuses K tLW3 tLW4 tLW5 sp_L_taken) := by
  have nd : n_L_refuses.Nodup := sc_L_refuses.nd
  exact (pss_cons (ps_set (i := 3) nd rfl (Or.inr rfl) (pe_ix ix_seq (pe_lst (pa_cons pe_str (pa_cons pe_str (pa_cons pe_str (pa_cons pe_str (pa_cons pe_int (pa_cons pe_non (pa_cons pe_bl (pa_cons (pe_tup (pa_cons pe_str pa_nil)) pa_nil))))))))) (pe_dcall G_L_taken (hr.mono (by first | decide | omega)) (pa_cons (pv 0) (pa_cons pe_int pa_nil))) (fun _ _ => rfl))) (pss_cons (ps_set (i := 2) nd rfl (Or.inl rfl) (pe_lst (pa_cons (hLW3 _ _ _) (pa_cons (hLW4 _ _ _) pa_nil)))) (pss_cons (ps_set (i := 4) nd rfl (Or.inr rfl) (pe_ix ix_seq (pe_lst (pa_cons (pe_lst (pa_cons pe_int (pa_cons pe_str pa_nil))) (pa_cons (pe_tup (pa_cons pe_int (pa_cons pe_str pa_nil))) (pa_cons pe_non (pa_cons (pe_tup (pa_cons pe_int (pa_cons pe_str pa_nil))) pa_nil))))) (pe_dcall G_L_taken (hr.mono (by first | decide | omega)) (pa_cons (pv 0) (pa_cons pe_int pa_nil))) (fun _ _ => rfl))) (pss_one (ps_ret (pe_cmpR (op_eqD hr.units) (pe_op op_addX (pv 2) (pe_lst (pa_cons (hLW5 _ _ _) pa_nil))) (pe_lst (pa_cons (pe_tup (pa_cons pe_str pa_nil)) (pa_cons (pe_tup (pa_cons pe_str pa_nil)) (pa_cons (pe_tup (pa_cons pe_str (pa_cons pe_int pa_nil))) pa_nil)))) (nomark _)))))))
abbrev s_law : Stmt := topS 64
abbrev n_law : List Str := ["_law_script", "_law_row", "_law_hall_here", "_law_cells_here", "_law_other", "_law_now", "_law_past", "_law_points", "_law_ahead", "_law_turn", "_law_way", "_law_told", "_law_bench", "_law_name", "_law_step_here"]
abbrev p_law : List Str := ["_law_script"]
theorem sc_law : FnScope n_law p_law (defScope s_law) := ⟨rfl, rfl, rfl, by decide +kernel, rfl, by decide +kernel, by decide +kernel⟩
theorem bd_law {P : Program} {w : World} {K : PySem.W.Frag} {mg : Str → Option Value} {base : Heap} {f : Addr} {cdv : Value} {A : Around} {outer : List Env} {s : Shared} {H : Hp} {E : XK} {aWAYS C : Addr} {sp_L_alike : Sp} {sp_L_any_step : Sp} {sp_L_begin : Sp} {sp_L_cells : Sp} {sp_L_hall : Sp} {sp_L_refuses : Sp} {sp_L_stands : Sp} {sp_L_step : Sp} {sp_L_taken : Sp} {sp_B_init : Sp} {sp_B_back : Sp} {sp_B_mark : Sp} {sp_B_step : Sp} (T : Txt K mg w aWAYS C) {tLW1 tLW2 : TE} (hLW1 : ∀ p lp pos : Pos, PE (cxOf CX0 P w K mg base n_law "law" (defScope s_law) f cdv A outer s H E).nox (.Call (.Name "_law_word" p) [.Lambda lamArgs lam1B lamScope1 lp] [] pos) tLW1) (hLW2 : ∀ p lp pos : Pos, PE (cxOf CX0 P w K mg base n_law "law" (defScope s_law) f cdv A outer s H E).nox (.Call (.Name "_law_word" p) [.Lambda lamArgs lam2B lamScope2 lp] [] pos) tLW2) (hr : Room 11 (A.deeper (envOfC "law" (defScope s_law) s.heap.objs.size f cdv))) (BC : Cls K C) (G_L_alike : DefS P w K mg base CX0 8 "_law_alike" p_L_alike sp_L_alike) (G_L_any_step : DefS P w K mg base CX0 4 "_law_any_step" p_L_any_step sp_L_any_step) (G_L_begin : DefS P w K mg base CX0 1 "_law_begin" p_L_begin sp_L_begin) (G_L_cells : DefS P w K mg base CX0 2 "_law_cells" p_L_cells sp_L_cells) (G_L_hall : DefS P w K mg base CX0 2 "_law_hall" p_L_hall sp_L_hall) (G_L_refuses : DefS P w K mg base CX0 11 "_law_refuses" p_L_refuses sp_L_refuses) (G_L_stands : DefS P w K mg base CX0 9 "_law_stands" p_L_stands sp_L_stands) (G_L_step : DefS P w K mg base CX0 2 "_law_step" p_L_step sp_L_step) (G_L_taken : DefS P w K mg base CX0 1 "_law_taken" p_L_taken sp_L_taken) (G_B_init : MakeS P w K mg base CX0 7 C p_B_init sp_B_init) (G_B_back : MethS P w K mg base CX0 1 C "back" p_B_back [] sp_B_back) (G_B_mark : MethS P w K mg base CX0 2 C "mark" p_B_mark [] sp_B_mark) (G_B_step : MethS P w K mg base CX0 8 C "step" p_B_step [] sp_B_step) :
    PSs (cxOf CX0 P w K mg base n_law "law" (defScope s_law) f cdv A outer s H E).nox (defBody s_law) (rd_law K C tLW1 tLW2 sp_L_alike sp_L_any_step sp_L_begin sp_L_cells sp_L_hall sp_L_refuses sp_L_stands sp_L_step sp_L_taken sp_B_init sp_B_back sp_B_mark sp_B_step) := by
  have nd : n_law.Nodup := sc_law.nd
  exact (pss_cons (ps_set (i := 1) nd rfl (Or.inl rfl) (pe_lst (pa_cons (pv 0) (pa_cons pe_int (pa_cons pe_int (pa_cons pe_int pa_nil)))))) (pss_cons (ps_set (i := 2) nd rfl (Or.inl rfl) (pe_dcall G_L_hall (hr.mono (by first | decide | omega)) (pa_cons (pv 1) (pa_cons pe_int (pa_cons pe_int pa_nil))))) (pss_cons (ps_set (i := 3) nd rfl (Or.inl rfl) (pe_dcall G_L_cells (hr.mono (by first | decide | omega)) (pa_cons (pv 1) (pa_cons (pv 2) (pa_cons pe_int pa_nil))))) (pss_cons (ps_asg (pe_tup (pa_cons (pe_bmake G_B_init (hr.mono (by first | decide | omega)) (by rfl) T.c_Bench (pa_cons (pv 2) (pa_cons (pv 3) pa_nil))) (pa_cons (pe_bmake G_B_init (hr.mono (by first | decide | omega)) (by rfl) T.c_Bench (pa_cons (pv 2) (pa_cons (pv 3) pa_nil))) (pa_cons (pe_dcall G_L_begin (hr.mono (by first | decide | omega)) (pa_cons (pv 2) (pa_cons (pv 3) pa_nil))) (pa_cons (pe_lst pa_nil) (pa_cons pe_dnewK pa_nil)))))) (pg_tup rfl (pgs_cons (pg_name (i := 12) nd rfl (Or.inr rfl)) (pgs_cons (pg_name (i := 4) nd rfl (Or.inl rfl)) (pgs_cons (pg_name (i := 5) nd rfl (Or.inl rfl)) (pgs_cons (pg_name (i := 6) nd rfl (Or.inl rfl)) (pgs_cons (pg_name (i := 7) nd rfl (Or.inl rfl)) pgs_nil))))))) (pss_cons (ps_set (i := 8) nd rfl (Or.inl rfl) (pe_lst (pa_cons (pv 5) pa_nil))) (pss_cons (ps_for PassesOwn.never rfl (pi_range1 (by rfl) T.b_range (pa_cons (pe_dcall G_L_taken (hr.mono (by first | decide | omega)) (pa_cons (pv 1) (pa_cons pe_int pa_nil))) pa_nil)) (pg_name (i := 9) nd rfl (Or.inl rfl)) (pss_cons (ps_asg (pe_tup (pa_cons (pe_dcall G_L_taken (hr.mono (by first | decide | omega)) (pa_cons (pv 1) (pa_cons pe_int pa_nil))) (pa_cons (pe_ix ix_seq (pe_lst (pa_cons pe_str (pa_cons pe_str (pa_cons pe_str (pa_cons pe_str pa_nil))))) (pe_dcall G_L_taken (hr.mono (by first | decide | omega)) (pa_cons (pv 1) (pa_cons pe_int pa_nil))) (fun _ _ => rfl)) pa_nil))) (pg_tup rfl (pgs_cons (pg_name (i := 10) nd rfl (Or.inl rfl)) (pgs_cons (pg_name (i := 13) nd rfl (Or.inr rfl)) pgs_nil)))) (pss_cons (ps_if (pt_cmpR op_lt (pv 10) pe_int (nomark _)) (pss_cons (ps_set (i := 14) nd rfl (Or.inr rfl) (pe_dcall G_L_any_step (hr.mono (by first | decide | omega)) (pa_cons (pv 1) (pa_cons (pv 2) (pa_cons (pv 5) (pa_cons (pv 10) pa_nil)))))) (pss_cons (ps_set (i := 11) nd rfl (Or.inl rfl) (pe_dcall G_L_step (hr.mono (by first | decide | omega)) (pa_cons (pv 2) (pa_cons (pv 5) (pa_cons (pv 14) pa_nil))))) (pss_cons (ps_if (PW.pt (pw_and (pt_cmpR op_isN (pv 11) pe_non (nomark _)) (pw_and1 (pt_cmpR (op_neD hr.units) (hLW1 _ _ _) (pe_tup (pa_cons pe_str (pa_cons pe_int pa_nil))) (nomark _))))) (pss_one (ps_ret pe_bl)) pss_nil) (pss_one (ps_if (pt_cmpR op_notN (pv 11) pe_non (nomark _)) (pss_cons (ps_if (pt_not (pt_val (pe_dcall G_L_alike (hr.mono (by first | decide | omega)) (pa_cons (pe_lst (pa_cons (pe_bmeth G_B_step BC (hr.mono (by first | decide | omega)) (pv 12) (pa_cons (pv 14) pa_nil)) pa_nil)) (pa_cons (pe_lst (pa_cons (pe_ix ix_seq (pv 11) pe_int (fun _ _ => rfl)) pa_nil)) pa_nil))))) (pss_one (ps_ret pe_bl)) pss_nil) (pss_one (ps_par3 (i := 5) (j := 6) (l := 8) rfl nd rfl rfl rfl (by decide) (by decide) (by decide) rfl rfl rfl (pa_cons (pe_ix ix_seq (pv 11) pe_int (fun _ _ => rfl)) (pa_cons (pe_op op_addX (pv 6) (pe_lst (pa_cons (pe_tup (pa_cons (pv 14) (pa_cons (pe_ix ix_seq (pv 11) pe_int (fun _ _ => rfl)) pa_nil))) pa_nil))) (pa_cons (pe_op op_addX (pv 8) (pe_lst (pa_cons (pe_ix ix_seq (pv 11) pe_int (fun _ _ => rfl)) pa_nil))) pa_nil))) (by rfl)))) pss_nil))))) (pss_one (ps_if (pt_cmpR (op_eqD hr.units) (pv 10) pe_int (nomark _)) (pss_cons (ps_if (pt_cmpR (op_neD hr.units) (pe_bmeth0 G_B_back BC (hr.mono (by first | decide | omega)) (pv 12)) (pe_cmpR (op_neD hr.units) (pv 6) (pe_lst pa_nil) (nomark _)) (nomark _)) (pss_one (ps_ret pe_bl)) pss_nil) (pss_cons (ps_par (i := 8) (j := 6) rfl nd rfl rfl (by decide) rfl rfl (pa_cons (pe_slice sl_X (pv 8) po_none (po_some (pe_callB (call_max2 rfl) (by rfl) T.b_max (by decide +kernel) (pa_cons pe_int (pa_cons (pe_op op_sub (pe_callB call_len (by rfl) T.b_len PySem.boot_len (pa_cons (pv 8) pa_nil)) pe_int) pa_nil))))) (pa_cons (pe_slice sl_X (pv 6) po_none (po_some (pe_un un_neg pe_int))) pa_nil)) (by rfl)) (pss_one (ps_set (i := 5) nd rfl (Or.inl rfl) (pe_ix ix_seq (pv 8) (pe_un un_neg pe_int) (fun _ _ => rfl)))))) (pss_one (ps_if (pt_cmpR (op_eqD hr.units) (pv 10) pe_int (nomark _)) (pss_cons (ps_expr (pe_bmeth G_B_mark BC (hr.mono (by first | decide | omega)) (pv 12) (pa_cons (pv 13) pa_nil))) (pss_one (ps_dput (hu_of hr) (pv 7) (pv 13) (pe_tup (pa_cons (pv 5) (pa_cons (pv 6) (pa_cons (pv 8) pa_nil)))) (by rfl)))) (pss_one (ps_if (pt_cmpR (op_eqD hr.units) (pv 10) pe_int (nomark _)) (pss_cons (ps_if (pt_cmpR (op_neD hr.units) (hLW2 _ _ _) (pe_ifExp (pt_cmp (pc_din (hu_of hr) (pv 13) (pv 7)) (by rfl)) pe_non (pe_tup (pa_cons pe_str pa_nil))) (nomark _)) (pss_one (ps_ret pe_bl)) pss_nil) (pss_one (ps_asg (pe_dget2 (hu_of hr) (pv 7) (pv 13) (pe_tup (pa_cons (pv 5) (pa_cons (pv 6) (pa_cons (pv 8) pa_nil)))) ⟨rfl, rfl, rfl, rfl⟩) (pg_tup rfl (pgs_cons (pg_name (i := 5) nd rfl (Or.inl rfl)) (pgs_cons (pg_name (i := 6) nd rfl (Or.inl rfl)) (pgs_cons (pg_name (i := 8) nd rfl (Or.inl rfl)) pgs_nil))))))) (pss_one (ps_if (pt_not (pt_val (pe_dcall G_L_refuses (hr.mono (by first | decide | omega)) (pa_cons (pv 1) (pa_cons (pv 12) pa_nil))))) (pss_one (ps_ret pe_bl)) pss_nil))))))))) (pss_one (ps_if (pt_not (pt_val (pe_dcall G_L_stands (hr.mono (by first | decide | omega)) (pa_cons (pv 12) (pa_cons (pv 2) (pa_cons (pv 5) (pa_cons (pv 6) (pa_cons (pv 7) pa_nil)))))))) (pss_one (ps_ret pe_bl)) pss_nil))))) (pss_one (ps_ret (pe_and (pe_dcall G_L_stands (hr.mono (by first | decide | omega)) (pa_cons (pv 4) (pa_cons (pv 2) (pa_cons (pe_dcall G_L_begin (hr.mono (by first | decide | omega)) (pa_cons (pv 2) (pa_cons (pv 3) pa_nil))) (pa_cons (pe_lst pa_nil) (pa_cons pe_dnewK pa_nil)))))) (pe_one (pe_cmpR op_isBl (pe_bmeth0 G_B_back BC (hr.mono (by first | decide | omega)) (pv 4)) pe_bl (nomark _))))))))))))
end Pd

/-! RdWy -/
set_option Elab.async false
set_option linter.all false
set_option maxRecDepth 100000
set_option maxHeartbeats 4000000
namespace Pd
open PySem PySem.Spec PyProof.Rows L2
/-- isinstance(e, c), e the exception that the suite holds, with a dict or without -/
def rIsEy (K : PySem.W.Frag) (D a : Addr) (cls : Value) (d : Option Addr) : List V → Hp → VK → Prop := fun xs H Q => rIsEx K D a cls d xs H Q ∨ (cls = .ref D ∧ d = none ∧ rIsE K D a xs H Q)
theorem call_isEy {X : Cx} {a D : Addr} {oe : Obj} {cls : Value} {d : Option Addr} {pn : List (Addr × Obj)} (C : ExcC X.K D) (hz : Zc cls d oe) (hf : ∃ vs, oe.data = .fields vs) : CallR (X.suite a ((a, oe) :: pn)) (.builtin "isinstance") (rIsEy X.K D a cls d) := by
  intro pins s σ H xs us Q I r h
  rcases h with h | ⟨h1, h2, h⟩
  · exact call_isEx C hz hf pins s σ H xs us Q I r h
  · subst h1 h2
    exact call_isE C hz hf pins s σ H xs us Q I r h
structure WordS (K : PySem.W.Frag) (mg : Str → Option Value) (C CH : Addr) (cA : Str → Addr) : Prop where
  xc : ExcC K C
  xf : XfC K C
  hall : mg "HallError" = some (.ref CH)
  b_ValueError : mg "ValueError" = none
  n_done : PySem.W.findIn K (.ref C) "done" = some none
  n_number : PySem.W.findIn K (.ref C) "number" = some none
  n_part : PySem.W.findIn K (.ref C) "part" = some none
  n_row : PySem.W.findIn K (.ref C) "row" = some none
  c_BadCells : mg "BadCells" = some (.ref (cA "BadCells"))
  c_BadCount : mg "BadCount" = some (.ref (cA "BadCount"))
  c_BadGoal : mg "BadGoal" = some (.ref (cA "BadGoal"))
  c_BadHall : mg "BadHall" = some (.ref (cA "BadHall"))
  c_BadName : mg "BadName" = some (.ref (cA "BadName"))
  c_BadPaper : mg "BadPaper" = some (.ref (cA "BadPaper"))
  c_BadStep : mg "BadStep" = some (.ref (cA "BadStep"))
  c_BadText : mg "BadText" = some (.ref (cA "BadText"))
  c_Halted : mg "Halted" = some (.ref (cA "Halted"))
  c_Meets : mg "Meets" = some (.ref (cA "Meets"))
  c_NoPoint : mg "NoPoint" = some (.ref (cA "NoPoint"))
  c_TooMany : mg "TooMany" = some (.ref (cA "TooMany"))
def rd_L_word_suite (K : PySem.W.Frag) (C : Addr) (cA : Str → Addr) (a : Addr) (cls : Value) (d : Option Addr) : TS := (tSeq (tAsg (tLst (tCons (tCB (rIsEy K C a cls d) (tCons (tVar 1) (tCons (tC (.ref (cA "BadCells"))) tNil))) (tCons (tCB (rIsEy K C a cls d) (tCons (tVar 1) (tCons (tC (.ref (cA "BadGoal"))) tNil))) (tCons (tCB (rIsEy K C a cls d) (tCons (tVar 1) (tCons (tC (.ref (cA "BadStep"))) tNil))) (tCons (tCB (rIsEy K C a cls d) (tCons (tVar 1) (tCons (tC (.ref (cA "BadPaper"))) tNil))) tNil))))) (gName 2)) (tSeq (tAsg (tOp (rAddX K) (tVar 2) (tLst (tCons (tCB (rIsEy K C a cls d) (tCons (tVar 1) (tCons (tC (.ref (cA "BadHall"))) tNil))) (tCons (tCB (rIsEy K C a cls d) (tCons (tVar 1) (tCons (tC (.ref (cA "Halted"))) tNil))) (tCons (tCB (rIsEy K C a cls d) (tCons (tVar 1) (tCons (tC (.ref (cA "BadText"))) tNil))) tNil))))) (gName 2)) (tSeq (tAsg (tOp (rAddX K) (tVar 2) (tLst (tCons (tCB (rIsEy K C a cls d) (tCons (tVar 1) (tCons (tC (.ref (cA "BadCount"))) tNil))) (tCons (tCB (rIsEy K C a cls d) (tCons (tVar 1) (tCons (tC (.ref (cA "TooMany"))) tNil))) (tCons (tCB (rIsEy K C a cls d) (tCons (tVar 1) (tCons (tC (.ref (cA "Meets"))) tNil))) tNil))))) (gName 2)) (tSeq (tAsg (tOp (rAddX K) (tVar 2) (tLst (tCons (tCB (rIsEy K C a cls d) (tCons (tVar 1) (tCons (tC (.ref (cA "BadName"))) tNil))) (tCons (tCB (rIsEy K C a cls d) (tCons (tVar 1) (tCons (tC (.ref (cA "NoPoint"))) tNil))) tNil)))) (gName 2)) (tSeq (tIfS (tOr (tTest (tOp (rNeD K) (tBM K "list" (rCountD K) (tVar 2) (tCons (tC (.bl true)) tNil)) (tC (.int 1)))) (tNot (tB (tCB (rIsEy K C a cls d) (tCons (tVar 1) (tCons (tC (.ty "ValueError")) tNil)))))) (tRet (tTup (tCons (tC (.str "other")) tNil))) tNext) (tSeq (tAsg (tBM K "list" (rIndexD K) (tVar 2) (tCons (tC (.bl true)) tNil)) (gName 3)) (tSeq (tIfS (tTest (tOp rLtI (tVar 3) (tC (.int 4)))) (tRet (tTup (tCons (tOp (rIx K) (tLst (tCons (tC (.str "cells")) (tCons (tC (.str "goal")) (tCons (tC (.str "step")) (tCons (tC (.str "paper")) tNil))))) (tVar 3)) (tCons (tXf a cls d C "number" (tVar 1)) tNil)))) tNext) (tSeq (tIfS (tTest (tOp (rEqD K) (tVar 3) (tC (.int 4)))) (tRet (tTup (tCons (tC (.str "hall")) (tCons (tXf a cls d C "part" (tVar 1)) (tCons (tXf a cls d C "number" (tVar 1)) tNil))))) tNext) (tSeq (tIfS (tTest (tOp rLtI (tVar 3) (tC (.int 7)))) (tRet (tIf (tTest (tOp (rEqD K) (tVar 3) (tC (.int 5)))) (tTup (tCons (tC (.str "halted")) (tCons (tXf a cls d C "number" (tVar 1)) (tCons (tXf a cls d C "done" (tVar 1)) tNil)))) (tTup (tCons (tC (.str "text")) (tCons (tXf a cls d C "row" (tVar 1)) tNil))))) tNext) (tRet (tTup (tCons (tOp (rIx K) (tLst (tCons (tC (.str "count")) (tCons (tC (.str "many")) (tCons (tC (.str "meets")) (tCons (tC (.str "name")) (tCons (tC (.str "point")) tNil)))))) (tOp rSubI (tVar 3) (tC (.int 7)))) tNil))))))))))))
end Pd

/-! BW14 -/
set_option Elab.async false
set_option linter.all false
set_option maxRecDepth 100000
set_option maxHeartbeats 4000000
namespace Pd
open PySem PySem.Spec PyProof.Rows L2
abbrev s_L_word : Stmt := topS 49
abbrev n_L_word : List Str := ["_law_work", "e", "_law_kinds", "_law_at"]
abbrev p_L_word : List Str := ["_law_work"]
theorem sc_L_word : FnScope n_L_word p_L_word (defScope s_L_word) := ⟨rfl, rfl, rfl, by decide +kernel, rfl, by decide +kernel, by decide +kernel⟩
def suiteB : List Stmt → List Stmt
  | .Try _ [.ExceptHandler _ _ b _] _ _ _ :: _ => b
  | _ => []
theorem bd_L_word_suite {P : Program} {w : World} {K : PySem.W.Frag} {mg : Str → Option Value} {base : Heap} {f : Addr} {cdv : Value} {A : Around} {outer : List Env} {s : Shared} {H : Hp} {E : XK} {aWAYS BC C CH a : Addr} {cA : Str → Addr} {oe : Obj} {cls : Value} {d : Option Addr} {pn : List (Addr × Obj)} (T : Txt K mg w aWAYS BC) (W : WordS K mg C CH cA) (hr : Room 0 (A.deeper (envOfC "_law_word" (defScope s_L_word) s.heap.objs.size f cdv))) (hz : Zc cls d oe) (hf : ∃ vs, oe.data = .fields vs) :
    PSs ((cxOf CX0 P w K mg base n_L_word "_law_word" (defScope s_L_word) f cdv A outer s H E).nox.suite a ((a, oe) :: pn)) (suiteB (defBody s_L_word)) (rd_L_word_suite K C cA a cls d) := by
  have nd : n_L_word.Nodup := sc_L_word.nd
  have hu := hu65 hr
  exact (pss_cons (ps_set (i := 2) nd rfl (Or.inl rfl) (pe_lst (pa_cons (pe_callB (call_isEy W.xc hz hf) (by rfl) T.b_isinstance (by decide +kernel) (pa_cons (pv 1) (pa_cons (pe_glob (by rfl) W.c_BadCells rfl) pa_nil))) (pa_cons (pe_callB (call_isEy W.xc hz hf) (by rfl) T.b_isinstance (by decide +kernel) (pa_cons (pv 1) (pa_cons (pe_glob (by rfl) W.c_BadGoal rfl) pa_nil))) (pa_cons (pe_callB (call_isEy W.xc hz hf) (by rfl) T.b_isinstance (by decide +kernel) (pa_cons (pv 1) (pa_cons (pe_glob (by rfl) W.c_BadStep rfl) pa_nil))) (pa_cons (pe_callB (call_isEy W.xc hz hf) (by rfl) T.b_isinstance (by decide +kernel) (pa_cons (pv 1) (pa_cons (pe_glob (by rfl) W.c_BadPaper rfl) pa_nil))) pa_nil)))))) (pss_cons (ps_set (i := 2) nd rfl (Or.inl rfl) (pe_op op_addX (pv 2) (pe_lst (pa_cons (pe_callB (call_isEy W.xc hz hf) (by rfl) T.b_isinstance (by decide +kernel) (pa_cons (pv 1) (pa_cons (pe_glob (by rfl) W.c_BadHall rfl) pa_nil))) (pa_cons (pe_callB (call_isEy W.xc hz hf) (by rfl) T.b_isinstance (by decide +kernel) (pa_cons (pv 1) (pa_cons (pe_glob (by rfl) W.c_Halted rfl) pa_nil))) (pa_cons (pe_callB (call_isEy W.xc hz hf) (by rfl) T.b_isinstance (by decide +kernel) (pa_cons (pv 1) (pa_cons (pe_glob (by rfl) W.c_BadText rfl) pa_nil))) pa_nil)))))) (pss_cons (ps_set (i := 2) nd rfl (Or.inl rfl) (pe_op op_addX (pv 2) (pe_lst (pa_cons (pe_callB (call_isEy W.xc hz hf) (by rfl) T.b_isinstance (by decide +kernel) (pa_cons (pv 1) (pa_cons (pe_glob (by rfl) W.c_BadCount rfl) pa_nil))) (pa_cons (pe_callB (call_isEy W.xc hz hf) (by rfl) T.b_isinstance (by decide +kernel) (pa_cons (pv 1) (pa_cons (pe_glob (by rfl) W.c_TooMany rfl) pa_nil))) (pa_cons (pe_callB (call_isEy W.xc hz hf) (by rfl) T.b_isinstance (by decide +kernel) (pa_cons (pv 1) (pa_cons (pe_glob (by rfl) W.c_Meets rfl) pa_nil))) pa_nil)))))) (pss_cons (ps_set (i := 2) nd rfl (Or.inl rfl) (pe_op op_addX (pv 2) (pe_lst (pa_cons (pe_callB (call_isEy W.xc hz hf) (by rfl) T.b_isinstance (by decide +kernel) (pa_cons (pv 1) (pa_cons (pe_glob (by rfl) W.c_BadName rfl) pa_nil))) (pa_cons (pe_callB (call_isEy W.xc hz hf) (by rfl) T.b_isinstance (by decide +kernel) (pa_cons (pv 1) (pa_cons (pe_glob (by rfl) W.c_NoPoint rfl) pa_nil))) pa_nil))))) (pss_cons (ps_if (PW.pt (pw_or (pt_cmpR (op_neD hr.units) (pe_bm PySem.F.plainAttrs_list PySem.F.slot_list_count PySem.F.type_list_count (mt_countD hu) (pv 2) (pa_cons pe_bl pa_nil)) pe_int (nomark _)) (pw_or1 (pt_not (pt_val (pe_callB (call_isEy W.xc hz hf) (by rfl) T.b_isinstance (by decide +kernel) (pa_cons (pv 1) (pa_cons (pe_bltn (v := .ty "ValueError") (by rfl) W.b_ValueError (by decide +kernel) rfl) pa_nil)))))))) (pss_one (ps_ret (pe_tup (pa_cons pe_str pa_nil)))) pss_nil) (pss_cons (ps_set (i := 3) nd rfl (Or.inl rfl) (pe_bm PySem.F.plainAttrs_list PySem.F.slot_list_index PySem.F.type_list_index (mt_indexD hu) (pv 2) (pa_cons pe_bl pa_nil))) (pss_cons (ps_if (pt_cmpR op_lt (pv 3) pe_int (nomark _)) (pss_one (ps_ret (pe_tup (pa_cons (pe_ix ix_seq (pe_lst (pa_cons pe_str (pa_cons pe_str (pa_cons pe_str (pa_cons pe_str pa_nil))))) (pv 3) (fun _ _ => rfl)) (pa_cons (pe_xf W.xf W.n_number hz hf (pv 1)) pa_nil))))) pss_nil) (pss_cons (ps_if (pt_cmpR (op_eqD hr.units) (pv 3) pe_int (nomark _)) (pss_one (ps_ret (pe_tup (pa_cons pe_str (pa_cons (pe_xf W.xf W.n_part hz hf (pv 1)) (pa_cons (pe_xf W.xf W.n_number hz hf (pv 1)) pa_nil)))))) pss_nil) (pss_cons (ps_if (pt_cmpR op_lt (pv 3) pe_int (nomark _)) (pss_one (ps_ret (pe_ifExp (pt_cmpR (op_eqD hr.units) (pv 3) pe_int (nomark _)) (pe_tup (pa_cons pe_str (pa_cons (pe_xf W.xf W.n_number hz hf (pv 1)) (pa_cons (pe_xf W.xf W.n_done hz hf (pv 1)) pa_nil)))) (pe_tup (pa_cons pe_str (pa_cons (pe_xf W.xf W.n_row hz hf (pv 1)) pa_nil)))))) pss_nil) (pss_one (ps_ret (pe_tup (pa_cons (pe_ix ix_seq (pe_lst (pa_cons pe_str (pa_cons pe_str (pa_cons pe_str (pa_cons pe_str (pa_cons pe_str pa_nil)))))) (pe_op op_sub (pv 3) pe_int) (fun _ _ => rfl)) pa_nil)))))))))))))

end Pd

/-! WordY -/
set_option Elab.async false
set_option linter.all false
set_option maxRecDepth 100000
set_option maxHeartbeats 4000000
/-! what the law's word tells of any kind of exception with fields -/
namespace Pd
open PySem PySem.Spec PyProof.Rows L2
structure Sx (ie : Nat) (a : Addr) (dc : Option Addr) (n : List (Str × V)) (σ : L2.St) (B H : Hp) (ρ : Rho) : Prop where
  t : Ex B H
  e : EnvD σ B ρ
  s : σ[ie]? = some (some (.ref a))
  d : ∀ dd, dc = some dd → H dd = some (.xd n)
section
variable {K : PySem.W.Frag} {ie : Nat} {a C : Addr} {n : List (Str × V)} {cls : Value} {dc : Option Addr} {σ : L2.St} {B H : Hp} {ρ : Rho} {te tb : TE} {tt tu : TT} {ta : TA} {z d e : PyData} {ds : List PyData}
theorem Sx.gr {B' H' : Hp} (x : Sx ie a dc n σ B H ρ) (g : Gr B H B' H') : Sx ie a dc n σ B' H' ρ := ⟨g.t, x.e.mono g.b, x.s, fun dd e => g.h _ _ (x.d dd e)⟩
def EX (ie : Nat) (a : Addr) (dc : Option Addr) (n : List (Str × V)) (te : TE) (ρ : Rho) (z : PyData) : Prop := ∀ σ B H, Sx ie a dc n σ B H ρ → ∀ Q : VK, (∀ v B' H', Gr B H B' H' → DH B' v z → Q v H') → te σ H Q
def EXA (ie : Nat) (a : Addr) (dc : Option Addr) (n : List (Str × V)) (ta : TA) (ρ : Rho) (ds : List PyData) : Prop := ∀ σ B H, Sx ie a dc n σ B H ρ → ∀ Q : List V → Hp → Prop, (∀ vs B' H', Gr B H B' H' → DHs B' vs ds → Q vs H') → ta σ H Q
def XT (ie : Nat) (a : Addr) (dc : Option Addr) (n : List (Str × V)) (tt : TT) (ρ : Rho) (b : Bool) : Prop := ∀ σ B H, Sx ie a dc n σ B H ρ → ∀ Q : Bool → Hp → Prop, (∀ B' H', Gr B H B' H' → Q b H') → tt σ H Q
theorem ex_ed (h : ED te ρ z) : EX ie a dc n te ρ z := fun σ B H x Q q => h σ B H x.t x.e Q q
theorem ex_is {c : V} {cv : Value} {b : Bool} (h1 : cls = .ref C) (hcv : ∀ u, RelV c u → u = cv) (hk : PySem.W.kitOne K (.ref C) cv = some b) : EX ie a dc n (tCB (rIsEy K C a cls dc) (tCons (tVar ie) (tCons (tC c) tNil))) ρ (.bool b) := fun σ B H x Q q => by
  refine ⟨.ref a, x.s, ?_⟩
  cases hd : dc with
  | none => exact .inr ⟨h1, rfl, c, cv, b, rfl, hcv, hk, q _ B H (Gr.refl x.t) (.bl b)⟩
  | some dd => exact .inl ⟨h1, dd, rfl, c, cv, b, n, rfl, hcv, hk, x.d dd hd, q _ B H (Gr.refl x.t) (.bl b)⟩
theorem ex_xf {f : Str} {i : Int} {dd : Addr} (h1 : cls = .ref C) (h2 : dc = some dd) (hf : n.lookup f = some (.int i)) : EX ie a dc n (tXf a cls dc C f (tVar ie)) ρ (.int i) := fun σ B H x Q q =>
  ⟨.ref a, x.s, rfl, h1, dd, _, .int i, h2, x.d dd h2, hf, q _ B H (Gr.refl x.t) (.int i)⟩
theorem exa_nil : EXA ie a dc n tNil ρ [] := fun σ B H x Q q => q [] B H (Gr.refl x.t) .nil
theorem exa_cons (h : EX ie a dc n te ρ z) (k : EXA ie a dc n ta ρ ds) : EXA ie a dc n (tCons te ta) ρ (z :: ds) := fun σ B H x Q q => by
  refine h σ B H x _ fun v B1 H1 g1 d1 => ?_
  refine k σ B1 H1 (x.gr g1) _ fun vs B2 H2 g2 d2 => ?_
  exact q _ B2 H2 (g1.trans g2) (.cons (d1.mono g2.b) d2)
theorem ex_lst (h : EXA ie a dc n ta ρ ds) (hl : ds.length ≤ 1000) : EX ie a dc n (tLst ta) ρ (.list ds) := fun σ B H x Q q => by
  refine h σ B H x _ fun xs B1 H1 g1 d1 => ⟨?_, fun p hp => ?_⟩
  · rw [d1.length]
    exact Nat.le_trans hl (by decide)
  · have g2 := Gr.new (o := .lst xs) g1.t hp
    exact q _ _ _ (g1.trans g2) (.lst upd_same (d1.mono g2.b))
theorem ex_tup (h : EXA ie a dc n ta ρ ds) (hl : ds.length ≤ 1000) : EX ie a dc n (tTup ta) ρ (.tuple ds) := fun σ B H x Q q => by
  refine h σ B H x _ fun xs B1 H1 g1 d1 => ⟨?_, fun p hp => ?_⟩
  · rw [d1.length]
    exact Nat.le_trans hl (by decide)
  · have g2 := Gr.new (o := .tup xs) g1.t hp
    exact q _ _ _ (g1.trans g2) (.tup upd_same (d1.mono g2.b))
theorem ex_op {rr : R2} (ha : EX ie a dc n te ρ d) (hb : EX ie a dc n tb ρ e) (hr : RD2 rr d e z) : EX ie a dc n (tOp rr te tb) ρ z := fun σ B H x Q q => by
  refine ha σ B H x _ fun v B1 H1 g1 d1 => ?_
  refine hb σ B1 H1 (x.gr g1) _ fun w B2 H2 g2 d2 => ?_
  exact hr B2 H2 v w g2.t (d1.mono g2.b) d2 Q fun u B' H' g3 d3 => q u B' H' ((g1.trans g2).trans g3) d3
theorem xt_test {b : Bool} (h : EX ie a dc n te ρ (.bool b)) : XT ie a dc n (tTest te) ρ b := fun σ B H x Q q => by
  refine h σ B H x _ fun v B1 H1 g1 d1 => ?_
  cases d1
  exact ⟨b, rfl, q B1 H1 g1⟩
theorem xt_not {b : Bool} (h : XT ie a dc n tt ρ b) : XT ie a dc n (tNot tt) ρ (!b) := fun σ B H x Q q => h σ B H x _ fun B1 H1 g1 => q B1 H1 g1
theorem xt_or {b c : Bool} (h : XT ie a dc n tt ρ b) (k : b = false → XT ie a dc n tu ρ c) : XT ie a dc n (tOr tt tu) ρ (b || c) := fun σ B H x Q q => by
  refine h σ B H x _ fun B1 H1 g1 => ?_
  cases b with
  | true => exact q B1 H1 g1
  | false => exact k rfl σ B1 H1 (x.gr g1) Q fun B' H' g3 => q B' H' (g1.trans g3)
/-- behind an assignment; B1 H1: where the suite began -/
theorem sx_asg {i : Nat} {D : Ends} {B1 H1 : Hp} (x : Sx ie a dc n σ B H ρ) (g : Gr B1 H1 B H) (h : EX ie a dc n te ρ z) (hi : i ≠ ie) (k : ∀ σ B H, Sx ie a dc n σ B H (ρ.set i (some z)) → Gr B1 H1 B H → D.nx σ H) : tAsg te (gName i) D σ H :=
  h σ B H x _ fun v B' H' g' dv => k _ B' H' ⟨g'.t, (x.e.mono g'.b).set i dv, by rw [List.getElem?_set_ne hi]; exact x.s, fun dd e => g'.h _ _ (x.d dd e)⟩ (g.trans g')
theorem sx_if {b : Bool} {t u : TS} {D : Ends} {B1 H1 : Hp} (x : Sx ie a dc n σ B H ρ) (g : Gr B1 H1 B H) (h : XT ie a dc n tt ρ b) (h1 : b = true → ∀ B H, Sx ie a dc n σ B H ρ → Gr B1 H1 B H → t D σ H) (h2 : b = false → ∀ B H, Sx ie a dc n σ B H ρ → Gr B1 H1 B H → u D σ H) : tIfS tt t u D σ H := by
  refine h σ B H x _ fun B' H' g' => ?_
  cases b with
  | true => exact h1 rfl B' H' (x.gr g') (g.trans g')
  | false => exact h2 rfl B' H' (x.gr g') (g.trans g')
theorem ed_count {to : TE} (h : ED to ρ (.list ds)) (hd : ED te ρ d) (sl : SeqAt.shaped (.list ds) = true) (sd : SeqAt.shaped d = true) : ED (tBM K "list" (rCountD K) to (tCons te tNil)) ρ (.int (ds.countP fun z => PyData.eqv z d : Nat)) := fun σ B H ex ev Q q => by
  refine h σ B H ex ev _ fun v B1 H1 g1 d1 => ?_
  cases d1 with
  | @lst p xs _ ha hs =>
    refine ⟨.inl ⟨rfl, _, SqL.of (g1.t _ _ ha)⟩, ?_⟩
    refine hd σ B1 H1 g1.t (ev.mono g1.b) _ fun w B2 H2 g2 d2 => ?_
    exact ⟨p, w, d, ds, rfl, rfl, ((DH.lst ha hs).mono (g2.b.trans g2.t)).dp, (d2.mono g2.t).dp, sl, sd, q _ B2 H2 (g1.trans g2) (.int _)⟩
end
/-- the kinds in the law's turn -/
def KN : List Str := ["BadCells", "BadGoal", "BadStep", "BadPaper", "BadHall", "Halted", "BadText", "BadCount", "TooMany", "Meets", "BadName", "NoPoint"]
structure KindX (K : PySem.W.Frag) (C CH : Addr) (cA : Str → Addr) (i : Nat) : Prop where
  lt : i < 12
  k : ∀ (j : Nat) (x : Str), KN[j]? = some x → PySem.W.kitOne K (.ref C) (.ref (cA x)) = some (decide (j = i))
  kv : PySem.W.kitOne K (.ref C) (.type "ValueError") = some true
  ex : PySem.W.exmOne K (.ref C) (.ref CH) = some true
/-- what is told of an exception of kind i with these fields -/
inductive ToldW : Nat → List (Str × V) → PyData → Prop
  | num (i : Nat) (x : Str) (fs : List (Str × V)) (n : Int) (hi : i < 4) (hx : (["cells", "goal", "step", "paper"] : List Str)[i]? = some x) (h : fs.lookup ("number" : Str) = some (V.int n)) : ToldW i fs (.tuple [.str x, .int n])
  | hall (fs : List (Str × V)) (p n : Int) (h1 : fs.lookup ("part" : Str) = some (V.int p)) (h2 : fs.lookup ("number" : Str) = some (V.int n)) : ToldW 4 fs (.tuple [.str "hall", .int p, .int n])
  | halt (fs : List (Str × V)) (n m : Int) (h1 : fs.lookup ("number" : Str) = some (V.int n)) (h2 : fs.lookup ("done" : Str) = some (V.int m)) : ToldW 5 fs (.tuple [.str "halted", .int n, .int m])
  | text (fs : List (Str × V)) (n : Int) (h : fs.lookup ("row" : Str) = some (V.int n)) : ToldW 6 fs (.tuple [.str "text", .int n])
  | word (i : Nat) (x : Str) (fs : List (Str × V)) (hi : 7 ≤ i) (hx : (["count", "many", "meets", "name", "point"] : List Str)[i - 7]? = some x) : ToldW i fs (.tuple [.str x])
def bI (j i : Nat) : PyData := .bool (decide (j = i))
def kn1 (i : Nat) : List PyData := [bI 0 i, bI 1 i, bI 2 i, bI 3 i]
def kn2 (i : Nat) : List PyData := kn1 i ++ [bI 4 i, bI 5 i, bI 6 i]
def kn3 (i : Nat) : List PyData := kn2 i ++ [bI 7 i, bI 8 i, bI 9 i]
def kn4 (i : Nat) : List PyData := kn3 i ++ [bI 10 i, bI 11 i]
theorem kn4_get (i m : Nat) (hm : m < 12) : (kn4 i)[m]? = some (bI m i) := by
  have : m = 0 ∨ m = 1 ∨ m = 2 ∨ m = 3 ∨ m = 4 ∨ m = 5 ∨ m = 6 ∨ m = 7 ∨ m = 8 ∨ m = 9 ∨ m = 10 ∨ m = 11 := by omega
  rcases this with rfl | rfl | rfl | rfl | rfl | rfl | rfl | rfl | rfl | rfl | rfl | rfl <;> rfl
theorem sh_kn (i : Nat) : SeqAt.shaped (.list (kn4 i)) = true := by
  refine shaped_of ?_ ?_
  · simp [kn4, kn3, kn2, kn1, bI, PyData.canLay0, PyData.canLayAll0]
  · simp [kn4, kn3, kn2, kn1, bI, PyData.depth, PyData.depthAll]
theorem cnt_kn (i : Nat) (hi : i < 12) : List.countP (fun z => PyData.eqv z (.bool true)) (kn4 i) = 1 := by
  have : i = 0 ∨ i = 1 ∨ i = 2 ∨ i = 3 ∨ i = 4 ∨ i = 5 ∨ i = 6 ∨ i = 7 ∨ i = 8 ∨ i = 9 ∨ i = 10 ∨ i = 11 := by omega
  rcases this with rfl | rfl | rfl | rfl | rfl | rfl | rfl | rfl | rfl | rfl | rfl | rfl <;> simp [kn4, kn3, kn2, kn1, bI, List.countP_cons, eqv_bool]
theorem word_suiteX {K : PySem.W.Frag} {a C CH : Addr} {cA : Str → Addr} {i : Nat} {n : List (Str × V)} {z : PyData} {cls : Value} {dc : Option Addr} {σ : L2.St} {B H : Hp} {D : Ends} (O : KindX K C CH cA i) (hz : ToldW i n z) (h1 : cls = .ref C) (h2 : i < 7 → ∃ dd, dc = some dd) (x : Sx 1 a dc n σ B H [none, none, none, none])
    (q : ∀ v B' H', Gr B H B' H' → DH B' v z → D.rt v H') : rd_L_word_suite K C cA a cls dc D σ H := by
  have ki : ∀ (j : Nat) {y : Str} {ρ : Rho}, KN[j]? = some y → EX 1 a dc n (tCB (rIsEy K C a cls dc) (tCons (tVar 1) (tCons (tC (.ref (cA y))) tNil))) ρ (bI j i) :=
    fun j {y ρ} hy => ex_is h1 (fun u r => r) (O.k j y hy)
  have kv : ∀ {ρ : Rho}, EX 1 a dc n (tCB (rIsEy K C a cls dc) (tCons (tVar 1) (tCons (tC (.ty "ValueError")) tNil))) ρ (.bool true) := fun {ρ} => ex_is h1 (fun u r => r) O.kv
  have hi := O.lt
  have g : Gr B H B H := Gr.refl x.t
  unfold rd_L_word_suite
  refine go_seq ?_
  refine sx_asg x g (ex_lst (ds := kn1 i) (exa_cons (ki 0 rfl) (exa_cons (ki 1 rfl) (exa_cons (ki 2 rfl) (exa_cons (ki 3 rfl) exa_nil)))) (by simp [kn1])) (by decide) fun σ B2 H2 x g => ?_
  have x : Sx 1 a dc n σ B2 H2 [none, none, some (.list (kn1 i)), none] := x
  try dsimp only
  refine go_seq ?_
  refine sx_asg x g (ex_op (ex_ed (ed_var (d := .list (kn1 i)) rfl)) (ex_lst (ds := [bI 4 i, bI 5 i, bI 6 i]) (exa_cons (ki 4 rfl) (exa_cons (ki 5 rfl) (exa_cons (ki 6 rfl) exa_nil))) (by simp)) (r2_catL (by simp [kn1]))) (by decide) fun σ B2 H2 x g => ?_
  have x : Sx 1 a dc n σ B2 H2 [none, none, some (.list (kn2 i)), none] := x
  try dsimp only
  refine go_seq ?_
  refine sx_asg x g (ex_op (ex_ed (ed_var (d := .list (kn2 i)) rfl)) (ex_lst (ds := [bI 7 i, bI 8 i, bI 9 i]) (exa_cons (ki 7 rfl) (exa_cons (ki 8 rfl) (exa_cons (ki 9 rfl) exa_nil))) (by simp)) (r2_catL (by simp [kn1, kn2]))) (by decide) fun σ B2 H2 x g => ?_
  have x : Sx 1 a dc n σ B2 H2 [none, none, some (.list (kn3 i)), none] := x
  try dsimp only
  refine go_seq ?_
  refine sx_asg x g (ex_op (ex_ed (ed_var (d := .list (kn3 i)) rfl)) (ex_lst (ds := [bI 10 i, bI 11 i]) (exa_cons (ki 10 rfl) (exa_cons (ki 11 rfl) exa_nil)) (by simp)) (r2_catL (by simp [kn1, kn2, kn3]))) (by decide) fun σ B2 H2 x g => ?_
  have x : Sx 1 a dc n σ B2 H2 [none, none, some (.list (kn4 i)), none] := x
  try dsimp only
  refine go_seq ?_
  have hcnt : ED (tBM K "list" (rCountD K) (tVar 2) (tCons (tC (.bl true)) tNil)) [none, none, some (.list (kn4 i)), none] (.int 1) := ED.is (ed_count (ed_var (d := .list (kn4 i)) rfl) ed_bl (sh_kn i) (sh_bool true)) (congrArg (fun k : Nat => PyData.int (k : Int)) (cnt_kn i hi))
  have hne : ED (tOp (rNeD K) (tBM K "list" (rCountD K) (tVar 2) (tCons (tC (.bl true)) tNil)) (tC (.int 1))) [none, none, some (.list (kn4 i)), none] (.bool (!PyData.eqv (.int 1) (.int 1))) := ed_op hcnt ed_int (r2_ne (sh_int 1) (sh_int 1))
  have e0 : (!PyData.eqv (.int 1) (.int 1) || !true) = false := by
    rw [eqv_int]
    decide
  have ht : XT 1 a dc n (tOr (tTest (tOp (rNeD K) (tBM K "list" (rCountD K) (tVar 2) (tCons (tC (.bl true)) tNil)) (tC (.int 1)))) (tNot (tB (tCB (rIsEy K C a cls dc) (tCons (tVar 1) (tCons (tC (.ty "ValueError")) tNil)))))) [none, none, some (.list (kn4 i)), none] false := by
    rw [← e0]
    exact xt_or (xt_test (ex_ed hne)) (fun _ => xt_not (xt_test kv))
  refine sx_if (b := false) x g ht (fun z => nomatch z) (fun _ B2 H2 x g => ?_)
  try dsimp only
  refine go_seq ?_
  refine sx_asg x g (ex_ed (ed_index (j := i) (z := bI i i) (ed_var (d := .list (kn4 i)) rfl) ed_bl (sh_kn i) (sh_bool true) (kn4_get i i hi) (by unfold bI; rw [eqv_bool]; simp) (fun m z hm hz => ?_))) (by decide) fun σ B2 H2 x g => ?_
  · rw [kn4_get i m (by omega)] at hz
    cases hz
    unfold bI
    rw [eqv_bool]
    have : m ≠ i := by omega
    simp [this]
  have x : Sx 1 a dc n σ B2 H2 [none, none, some (.list (kn4 i)), some (.int (i : Nat))] := x
  try dsimp only
  refine go_seq ?_
  have vi : ∀ {ρ : Rho}, ρ[3]? = some (some (.int (i : Nat))) → ED (tVar 3) ρ (.int (i : Nat)) := fun h => ed_var h
  have lt4 : ∀ k : Int, XT 1 a dc n (tTest (tOp rLtI (tVar 3) (tC (.int k)))) [none, none, some (.list (kn4 i)), some (.int (i : Nat))] (decide (((i : Nat) : Int) < k)) := fun k => xt_test (ex_ed (ed_op (vi rfl) ed_int r2_lt))
  have eqk : ∀ k : Int, XT 1 a dc n (tTest (tOp (rEqD K) (tVar 3) (tC (.int k)))) [none, none, some (.list (kn4 i)), some (.int (i : Nat))] (decide (((i : Nat) : Int) = k)) := fun k => xt_test (ex_ed (ED.is (ed_op (vi rfl) ed_int (r2_eq (sh_int _) (sh_int _))) (by rw [eqv_int])))
  refine sx_if x g (lt4 4) (fun hb B2 H2 x g => ?_) (fun hb B2 H2 x g => ?_)
  · cases hz with
    | num i y fs m hi4 hy hl =>
      obtain ⟨dd, h2e⟩ := h2 (by omega)
      refine ex_tup (exa_cons (ex_ed (ED.is (ed_op (ed_lst (ds := [.str "cells", .str "goal", .str "step", .str "paper"]) (ea_cons ed_str (ea_cons ed_str (ea_cons ed_str (ea_cons ed_str ea_nil)))) (by simp)) (vi rfl) (r2_ixL (d := .str y) (atI_nat (by have e := congrArg (Option.map PyData.str) hy; rw [← List.getElem?_map] at e; exact e)))) rfl)) (exa_cons (ex_xf h1 h2e hl) exa_nil)) (by simp) σ B2 H2 x _ fun v B' H' g' dv => q v B' H' (g.trans g') dv
    | hall fs p m a1 a2 => simp at hb
    | halt fs p m a1 a2 => simp at hb
    | text fs m a1 => simp at hb
    | word i y fs hi7 hy => simp at hb; omega
  · unfold tNext
    dsimp only
    refine go_seq ?_
    cases hz with
    | num i y fs m hi4 hy hl => simp at hb; omega
    | hall fs p m a1 a2 =>
      obtain ⟨dd, h2e⟩ := h2 (by decide)
      refine sx_if (b := true) x g (eqk 4) (fun hb B2 H2 x g => ?_) (fun z => nomatch z)
      exact ex_tup (exa_cons (ex_ed ed_str) (exa_cons (ex_xf h1 h2e a1) (exa_cons (ex_xf h1 h2e a2) exa_nil))) (by simp) σ B2 H2 x _ fun v B' H' g' dv => q v B' H' (g.trans g') dv
    | halt fs p m a1 a2 =>
      obtain ⟨dd, h2e⟩ := h2 (by decide)
      refine sx_if (b := false) x g (eqk 4) (fun z => nomatch z) (fun _ B2 H2 x g => ?_)
      dsimp only
      refine go_seq ?_
      refine sx_if (b := true) x g (lt4 7) (fun _ B2 H2 x g => ?_) (fun z => nomatch z)
      refine (eqk 5) σ B2 H2 x _ fun B3 H3 g3 => ?_
      rw [if_pos (by decide)]
      exact ex_tup (exa_cons (ex_ed ed_str) (exa_cons (ex_xf h1 h2e a1) (exa_cons (ex_xf h1 h2e a2) exa_nil))) (by simp) σ B3 H3 (x.gr g3) _ fun v B' H' g' dv => q v B' H' ((g.trans g3).trans g') dv
    | text fs m a1 =>
      obtain ⟨dd, h2e⟩ := h2 (by decide)
      refine sx_if (b := false) x g (eqk 4) (fun z => nomatch z) (fun _ B2 H2 x g => ?_)
      dsimp only
      refine go_seq ?_
      refine sx_if (b := true) x g (lt4 7) (fun _ B2 H2 x g => ?_) (fun z => nomatch z)
      refine (eqk 5) σ B2 H2 x _ fun B3 H3 g3 => ?_
      rw [if_neg (by decide)]
      exact ex_tup (exa_cons (ex_ed ed_str) (exa_cons (ex_xf h1 h2e a1) exa_nil)) (by simp) σ B3 H3 (x.gr g3) _ fun v B' H' g' dv => q v B' H' ((g.trans g3).trans g') dv
    | word i y fs hi7 hy =>
      refine sx_if (b := decide (((i : Nat) : Int) = 4)) x g (eqk 4) (fun hb => by simp at hb; omega) (fun _ B2 H2 x g => ?_)
      dsimp only
      refine go_seq ?_
      refine sx_if x g (lt4 7) (fun hb => by simp at hb; omega) (fun _ B2 H2 x g => ?_)
      have hs : ((i : Nat) : Int) - 7 = ((i - 7 : Nat) : Int) := by omega
      have vj : ED (tOp rSubI (tVar 3) (tC (.int 7))) [none, none, some (.list (kn4 i)), some (.int (i : Nat))] (.int (i - 7 : Nat)) := ED.is (ed_op (vi rfl) ed_int r2_subI) (by rw [hs])
      exact ex_tup (exa_cons (ex_ed (ED.is (ed_op (ed_lst (ds := [.str "count", .str "many", .str "meets", .str "name", .str "point"]) (ea_cons ed_str (ea_cons ed_str (ea_cons ed_str (ea_cons ed_str (ea_cons ed_str ea_nil))))) (by simp)) vj (r2_ixL (d := .str y) (atI_nat (by have e := congrArg (Option.map PyData.str) hy; rw [← List.getElem?_map] at e; exact e)))) rfl)) exa_nil) (by simp) σ B2 H2 x _ fun v B' H' g' dv => q v B' H' (g.trans g') dv
end Pd

/-! WordGY -/
set_option Elab.async false
set_option linter.all false
set_option maxRecDepth 100000
set_option maxHeartbeats 4000000
namespace Pd
open PySem PySem.Spec PyProof.Rows L2 LamX
/-- what the law's word makes of what it calls -/
def TTX (K : PySem.W.Frag) (mg : Str → Option Value) (CH : Addr) (cA : Str → Addr) : (XK → Hp → VK → Prop) → Hp → VK → Prop := fun tl H Q =>
  tl (fun cls d H' => ∃ (C : Addr) (i : Nat) (fs : List (Str × V)) (z : PyData) (B' : Hp), cls = .ref C ∧ WordS K mg C CH cA ∧ KindX K C CH cA i ∧ (i < 7 → ∃ dd, d = some dd) ∧ (∀ dd, d = some dd → H' dd = some (.xd fs)) ∧ ToldW i fs z ∧ Ex B' H' ∧ ∀ v B'' H'', Gr B' H' B'' H'' → DH B'' v z → Q v H'') H (fun _ H1 => Q .non H1)
theorem takes_lenX {X : Cx} {W : WX} (tk : Takes X W) : Takes X (fun c d σ H => σ.length = X.N.length → W c d σ H) := fun u s' ⟨a, B, sI, pins, σ, H, cls, d, e, I, nb, up, sky, na, os, ag, w⟩ => tk u s' ⟨a, B, sI, pins, σ, H, cls, d, e, I, nb, up, sky, na, os, ag, w I.len⟩
theorem word_givesX {X : Cx} {aWAYS BC CH g : Addr} {cA : Str → Addr} {cdg : Value} {q : Str} (T : Txt X.K X.mg X.w aWAYS BC) (hall : X.mg "HallError" = some (.ref CH))
    (hr : ∀ s : Shared, Room 0 (X.A.deeper (envOfC "_law_word" (defScope s_L_word) s.heap.objs.size g cdg))) : GivesTo X n_L_word "_law_word" (defScope s_L_word) g cdg (defBody s_L_word) "_law_work" q (TTX X.K X.mg CH cA) := by
  intro f c' s H Q tl act hc h
  have nd : n_L_word.Nodup := sc_L_word.nd
  refine ⟨_, pss_cons (ps_try_as (X := (cxOf C8.CX0 X.prog X.w X.K X.mg X.base n_L_word "_law_word" (defScope s_L_word) g cdg X.A X.stack s H C8.E0).nox) (i := 1) (c := .ref CH)
      (tb := fun W D σ H => ∃ Ech : XK, (∀ cls d σ' H', σ'.length = 4 → Ech cls d H' → W cls d σ' H') ∧ σ[0]? = some (some (.ref f)) ∧ H c' = some (CodeO c' q) ∧ tl Ech H fun _ H1 => D.nx σ H1)
      (ts := fun a cls d D σ H => ∃ C, WordS X.K X.mg C CH cA ∧ rd_L_word_suite X.K C cA a cls d D σ H)
      rfl rfl nd rfl rfl ⟨rfl, by decide, .inl hall⟩ LamX.takes0 (fun W pn xe tk _ => ?_) (fun a oe cls d pn hz hf => ?_)) (pss_one (ps_ret pe_non)), ?_⟩
  · refine ⟨fun pins s' σ H' D I h' => ?_⟩
    obtain ⟨Ech, hW, h1, h2, h3⟩ := h'
    exact (pss_one (ps_expr (act _ pn xe Ech _ _ (takes_lenX tk) (fun cls d σ' H' e hl => hW cls d σ' H' hl e)))).run pins s' σ H' D I ⟨h1, h2, h3⟩
  · refine ⟨fun pins s' σ H' D I h' => ?_⟩
    obtain ⟨C, hW, h'⟩ := h'
    exact (bd_L_word_suite T hW (hr s) hz hf).run pins s' σ H' D I h'
  · refine ⟨fun cls d H' => ∃ (C : Addr) (i : Nat) (fs : List (Str × V)) (z : PyData) (B' : Hp), cls = .ref C ∧ WordS X.K X.mg C CH cA ∧ KindX X.K C CH cA i ∧ (i < 7 → ∃ dd, d = some dd) ∧ (∀ dd, d = some dd → H' dd = some (.xd fs)) ∧ ToldW i fs z ∧ Ex B' H' ∧ ∀ v B'' H'', Gr B' H' B'' H'' → DH B'' v z → Q v H'', fun cls d σ' H' hl ⟨C, i, fs, z, B', e1, hW, O, e2, e3, hz, ex, k⟩ => ?_, rfl, hc, ?_⟩
    · refine ⟨true, by rw [e1]; exact O.ex, fun _ a ha => ?_, fun z => nomatch z⟩
      refine ⟨C, hW, word_suiteX O hz e1 e2 ⟨ex, ⟨by rw [List.length_set]; exact hl, fun i d hd => ?_⟩, List.getElem?_set_self (by rw [hl]; decide), e3⟩ k⟩
      have : i = 0 ∨ i = 1 ∨ i = 2 ∨ i = 3 ∨ 4 ≤ i := by omega
      rcases this with rfl | rfl | rfl | rfl | h4
      · simp at hd
      · simp at hd
      · simp at hd
      · simp at hd
      · rw [List.getElem?_eq_none (by simpa using h4)] at hd
        cases hd
    · exact h
/-- the def of the law's word -/
structure WordD (K : PySem.W.Frag) (mg : Str → Option Value) : Prop where
  ex : ∃ (g : Addr) (oc : Value) (od : Option Addr) (dV kV doc pm ct : Value) (an : Option Addr) (cdv : Value) (osl : Array (Option Value)), mg "_law_word" = some (.ref g) ∧ PySem.W.keepIn K (.ref g) = true ∧
    K.lookup g = some ⟨oc, od, .func (PySem.W.fnOf "_law_word" "_law_word" (defArgs s_L_word) (defBody s_L_word) (defScope s_L_word) dV kV doc pm an cdv ct), osl⟩ ∧ PySem.W.codeIn K cdv "_law_word" = true ∧
    L2.Binds K (PySem.W.fnOf "_law_word" "_law_word" (defArgs s_L_word) (defBody s_L_word) (defScope s_L_word) dV kV doc pm an cdv ct) ["_law_work"] []
abbrev nmL (x : Str) : Str := (x ++ (".<locals>." : Str)) ++ ("<lambda>" : Str)
abbrev lawT (PT PR : Addr) : List (Addr × Str) := [(PT, nmL "law"), (PR, nmL "_law_refuses")]
theorem lawT_1 {PT PR : Addr} (h : PT ≠ PR) : ∀ p ∈ lawT PT PR, p.1 = PT → p.2 = nmL "law" := fun p hp e => by
  rcases List.mem_cons.mp hp with rfl | hp
  · rfl
  · rw [List.mem_singleton.mp hp] at e
    exact absurd e.symm h
theorem lawT_2 {PT PR : Addr} (h : PT ≠ PR) : ∀ p ∈ lawT PT PR, p.1 = PR → p.2 = nmL "_law_refuses" := fun p hp e => by
  rcases List.mem_cons.mp hp with rfl | hp
  · exact absurd e h
  · rw [List.mem_singleton.mp hp]
section
variable {P : Program} {w : World} {K : PySem.W.Frag} {mg : Str → Option Value} {base : Heap} {f c PT PR : Addr} {A : Around} {outer : List Env} {s : Shared} {H : Hp} {E : XK} {aWAYS C CH : Addr} {cA : Str → Addr} {k : Nat} {spB : Sp}
theorem pe_lam1 (T : Txt K mg w aWAYS C) (hall : mg "HallError" = some (.ref CH)) (BC : Cls K C) (V : MethS P w K mg base (L2.CX P w) k C "step" p_B_step [] spB) (G : WordD K mg)
    (hne : PT ≠ PR) (TB : TabB base mg c PT) (hr : Room (k + 2) (A.deeper (envOfC "law" (defScope s_law) s.heap.objs.size f (.ref c)))) (p lp pos : Pos) :
    PE (cxOf CX0 P w K mg base n_law "law" (defScope s_law) f (.ref c) A outer s H E).nox (.Call (.Name "_law_word" p) [.Lambda lamArgs lam1B lamScope1 lp] [] pos)
      (tLam (lawT PT PR) (TTX K mg CH cA) (fun E => tMeth C "step" spB [] E (tVar 12) (tCons (tVar 14) tNil))) := by
  obtain ⟨g, oc, od, dV, kV, doc, pm, ct, an, cdv, osl, hm, hk, lk, hcg, hb⟩ := G.ex
  refine pe_lamcall (a := "_law_work") (k := k) (by rfl) hm hk lk hcg hb sc_L_word rfl (.inl rfl) (word_givesX T hall (fun s' => ?_)) TB rfl (.head _) (lawT_1 hne) hr (lamS_by (show lamSB (defScope s_law) lamScope1 = true by decide +kernel)) (by rfl) (fun q cl pm cv ctv => by rfl) (fun A' outer' s' H' E' f' c' hr' => ?_)
  · exact (hr.mono (by omega : 1 ≤ k + 2)).deeper _
  · have tk : Takes (lamCx (cxOf CX0 P w K mg base n_law "law" (defScope s_law) f (.ref c) A outer s H E).nox A' outer' s' H' E' lamScope1 f' c') (fun cls d _ H => E' cls d H) := takes_of rfl rfl rfl rfl
    exact pe_bmethX V BC hr' (passes_call tk (fun _ _ _ _ h => h)) (pe_var rfl (.inr (.inr rfl))) (pa_cons (pe_var rfl (.inr (.inr rfl))) pa_nil)
theorem pe_lam2 (T : Txt K mg w aWAYS C) (hall : mg "HallError" = some (.ref CH)) (BC : Cls K C) (V : MethS P w K mg base (L2.CX P w) k C "go" p_B_go [] spB) (G : WordD K mg)
    (hne : PT ≠ PR) (TB : TabB base mg c PT) (hr : Room (k + 2) (A.deeper (envOfC "law" (defScope s_law) s.heap.objs.size f (.ref c)))) (p lp pos : Pos) :
    PE (cxOf CX0 P w K mg base n_law "law" (defScope s_law) f (.ref c) A outer s H E).nox (.Call (.Name "_law_word" p) [.Lambda lamArgs lam2B lamScope2 lp] [] pos)
      (tLam (lawT PT PR) (TTX K mg CH cA) (fun E => tMeth C "go" spB [] E (tVar 12) (tCons (tVar 13) tNil))) := by
  obtain ⟨g, oc, od, dV, kV, doc, pm, ct, an, cdv, osl, hm, hk, lk, hcg, hb⟩ := G.ex
  refine pe_lamcall (a := "_law_work") (k := k) (by rfl) hm hk lk hcg hb sc_L_word rfl (.inl rfl) (word_givesX T hall (fun s' => ?_)) TB rfl (.head _) (lawT_1 hne) hr (lamS_by (show lamSB (defScope s_law) lamScope2 = true by decide +kernel)) (by rfl) (fun q cl pm cv ctv => by rfl) (fun A' outer' s' H' E' f' c' hr' => ?_)
  · exact (hr.mono (by omega : 1 ≤ k + 2)).deeper _
  · have tk : Takes (lamCx (cxOf CX0 P w K mg base n_law "law" (defScope s_law) f (.ref c) A outer s H E).nox A' outer' s' H' E' lamScope2 f' c') (fun cls d _ H => E' cls d H) := takes_of rfl rfl rfl rfl
    exact pe_bmethX V BC hr' (passes_call tk (fun _ _ _ _ h => h)) (pe_var rfl (.inr (.inr rfl))) (pa_cons (pe_var rfl (.inr (.inr rfl))) pa_nil)
theorem pe_lam3 (T : Txt K mg w aWAYS C) (hall : mg "HallError" = some (.ref CH)) (BC : Cls K C) (V : MethS P w K mg base (L2.CX P w) k C "mark" p_B_mark [] spB) (G : WordD K mg)
    (hne : PT ≠ PR) (TB : TabB base mg c PR) (hr : Room (k + 2) (A.deeper (envOfC "_law_refuses" (defScope s_L_refuses) s.heap.objs.size f (.ref c)))) (p lp pos : Pos) :
    PE (cxOf CX0 P w K mg base n_L_refuses "_law_refuses" (defScope s_L_refuses) f (.ref c) A outer s H E).nox (.Call (.Name "_law_word" p) [.Lambda lamArgs lam3B lamScope3 lp] [] pos)
      (tLam (lawT PT PR) (TTX K mg CH cA) (fun E => tMeth C "mark" spB [] E (tVar 1) (tCons (tVar 3) tNil))) := by
  obtain ⟨g, oc, od, dV, kV, doc, pm, ct, an, cdv, osl, hm, hk, lk, hcg, hb⟩ := G.ex
  refine pe_lamcall (a := "_law_work") (k := k) (by rfl) hm hk lk hcg hb sc_L_word rfl (.inl rfl) (word_givesX T hall (fun s' => ?_)) TB rfl (.tail _ (.head _)) (lawT_2 hne) hr (lamS_by (show lamSB (defScope s_L_refuses) lamScope3 = true by decide +kernel)) (by rfl) (fun q cl pm cv ctv => by rfl) (fun A' outer' s' H' E' f' c' hr' => ?_)
  · exact (hr.mono (by omega : 1 ≤ k + 2)).deeper _
  · have tk : Takes (lamCx (cxOf CX0 P w K mg base n_L_refuses "_law_refuses" (defScope s_L_refuses) f (.ref c) A outer s H E).nox A' outer' s' H' E' lamScope3 f' c') (fun cls d _ H => E' cls d H) := takes_of rfl rfl rfl rfl
    exact pe_bmethX V BC hr' (passes_call tk (fun _ _ _ _ h => h)) (pe_var rfl (.inr (.inr rfl))) (pa_cons (pe_var rfl (.inr (.inr rfl))) pa_nil)
theorem pe_lam4 (T : Txt K mg w aWAYS C) (hall : mg "HallError" = some (.ref CH)) (BC : Cls K C) (V : MethS P w K mg base (L2.CX P w) k C "go" p_B_go [] spB) (G : WordD K mg)
    (hne : PT ≠ PR) (TB : TabB base mg c PR) (hr : Room (k + 2) (A.deeper (envOfC "_law_refuses" (defScope s_L_refuses) s.heap.objs.size f (.ref c)))) (p lp pos : Pos) :
    PE (cxOf CX0 P w K mg base n_L_refuses "_law_refuses" (defScope s_L_refuses) f (.ref c) A outer s H E).nox (.Call (.Name "_law_word" p) [.Lambda lamArgs4 lam4B lamScope4 lp] [] pos)
      (tLam (lawT PT PR) (TTX K mg CH cA) (fun E => tMeth C "go" spB [] E (tVar 1) (tCons (tVar 3) tNil))) := by
  obtain ⟨g, oc, od, dV, kV, doc, pm, ct, an, cdv, osl, hm, hk, lk, hcg, hb⟩ := G.ex
  refine Lmd.pe_lamcallT (a := "_law_work") (y := "_law_a") (i := 0) (k := k) (by rfl) hm hk lk hcg hb sc_L_word rfl (.inl rfl) (word_givesX T hall (fun s' => ?_)) TB rfl (.tail _ (.head _)) (lawT_2 hne) hr (Lmd.lamT_by (show Lmd.lamTB n_L_refuses (defScope s_L_refuses) lamScope4 = true by decide +kernel)) (by rfl) (by rfl) pe_int (fun s q cl f u pm cv ctv doc h => Lmd.bind1 h) (by rfl) (fun A' outer' s' H' E' f' c' hr' => ?_)
  · exact (hr.mono (by omega : 1 ≤ k + 2)).deeper _
  · have tk : Takes (lamCx (cxOf CX0 P w K mg base n_L_refuses "_law_refuses" (defScope s_L_refuses) f (.ref c) A outer s H E).nox A' outer' s' H' E' lamScope4 f' c') (fun cls d _ H => E' cls d H) := takes_of rfl rfl rfl rfl
    exact pe_bmethX V BC hr' (passes_call tk (fun _ _ _ _ h => h)) (pe_var rfl (.inr (.inr rfl))) (pa_cons (pe_var rfl (.inr (.inr rfl))) pa_nil)
theorem pe_lam5 (T : Txt K mg w aWAYS C) (hall : mg "HallError" = some (.ref CH)) (BC : Cls K C) (V : MethS P w K mg base (L2.CX P w) k C "step" p_B_step [] spB) (G : WordD K mg)
    (hne : PT ≠ PR) (TB : TabB base mg c PR) (hr : Room (k + 2) (A.deeper (envOfC "_law_refuses" (defScope s_L_refuses) s.heap.objs.size f (.ref c)))) (p lp pos : Pos) :
    PE (cxOf CX0 P w K mg base n_L_refuses "_law_refuses" (defScope s_L_refuses) f (.ref c) A outer s H E).nox (.Call (.Name "_law_word" p) [.Lambda lamArgs lam5B lamScope5 lp] [] pos)
      (tLam (lawT PT PR) (TTX K mg CH cA) (fun E => tMeth C "step" spB [] E (tVar 1) (tCons (tVar 4) tNil))) := by
  obtain ⟨g, oc, od, dV, kV, doc, pm, ct, an, cdv, osl, hm, hk, lk, hcg, hb⟩ := G.ex
  refine pe_lamcall (a := "_law_work") (k := k) (by rfl) hm hk lk hcg hb sc_L_word rfl (.inl rfl) (word_givesX T hall (fun s' => ?_)) TB rfl (.tail _ (.head _)) (lawT_2 hne) hr (lamS_by (show lamSB (defScope s_L_refuses) lamScope5 = true by decide +kernel)) (by rfl) (fun q cl pm cv ctv => by rfl) (fun A' outer' s' H' E' f' c' hr' => ?_)
  · exact (hr.mono (by omega : 1 ≤ k + 2)).deeper _
  · have tk : Takes (lamCx (cxOf CX0 P w K mg base n_L_refuses "_law_refuses" (defScope s_L_refuses) f (.ref c) A outer s H E).nox A' outer' s' H' E' lamScope5 f' c') (fun cls d _ H => E' cls d H) := takes_of rfl rfl rfl rfl
    exact pe_bmethX V BC hr' (passes_call tk (fun _ _ _ _ h => h)) (pe_var rfl (.inr (.inr rfl))) (pa_cons (pe_var rfl (.inr (.inr rfl))) pa_nil)
end
end Pd

/-! SemG6 -/
set_option Elab.async false
set_option linter.all false
set_option maxRecDepth 100000
set_option maxHeartbeats 4000000
namespace Pd
open PySem PySem.Spec PyProof.Rows L2 PySem.W
local macro_rules | `(tactic| walk_at "ed") => `(tactic| repeat' (first
  | with_reducible (first
    | exact ed_int | exact ed_str | exact ed_bl | exact ed_non
    | exact ea_nil | refine' ea_cons ?_ ?_
    | refine' ed_isi ?_ ?_ | refine' ed_isi2 ?_ ?_ ?_
    | refine' ed_andV ?_ (fun _ => ?_) | refine' ed_orV ?_ (fun _ => ?_) | refine' ed_notV ?_
    | refine' ed_chain ?_ ?_ ?_ (fun _ => ⟨?_, ?_⟩)
    | refine' ed_tup ?_ ?_ | refine' ed_lst ?_ ?_
    | refine' et_not ?_ | refine' et_and ?_ (fun _ => ?_) | refine' et_or ?_ (fun _ => ?_) | exact et_yes
    | refine' et_test ?_ | refine' et_B ?_
    | refine' ed_op ?_ ?_ ?_
    | refine' ed_cb ?_ ?_)
  | exact ed_var rfl
  | exact kit_tt | exact kit_ii | exact kit_ib | exact kit_ll | exact kit_lt | exact kit_tl
  | exact r2_addI | exact r2_subI | exact r2_lt | exact r2_le | exact r2_gt | exact r2_ge | exact r2_isN | exact r2_notN
  | exact rc_lenT | exact rc_lenL | exact rc_intB | exact rc_tupL
  | with_reducible (first | refine' r2_eq ?_ ?_ | refine' r2_ne ?_ ?_)
  | exact sh_int _ | exact sh_sg _ | exact sh_cell _ | exact sh_edge _ | exact sh_pair _ | exact sh_str _ (by decide +kernel)
  | exact r2_ixT rfl | exact r2_ixL rfl
  | refine' ed_tup ?_ ?_
  | (show List.length _ ≤ 100000; simp; done)))
/-! ### data tells halls and standings apart -/
theorem map_injD {α : Type} {f : α → PyData} (hf : ∀ a b, f a = f b → a = b) : ∀ {xs ys : List α}, xs.map f = ys.map f → xs = ys
  | [], [], _ => rfl
  | [], _ :: _, h => by simp at h
  | _ :: _, [], h => by simp at h
  | x :: xs, y :: ys, h => by
    rw [List.map_cons, List.map_cons] at h
    injection h with h1 h2
    rw [hf x y h1, map_injD hf h2]
theorem sg_injD {a b : Sg} (h : sg a = sg b) : a = b := by
  cases a <;> cases b <;> first | rfl | (exfalso; simp [sg, Sg.code] at h)
theorem edgeD_injD (a b : Edge) (h : edgeD a = edgeD b) : a = b := by
  obtain ⟨a1, a2, a3⟩ := a
  obtain ⟨b1, b2, b3⟩ := b
  simp only [edgeD, PyData.tuple.injEq, List.cons.injEq, PyData.int.injEq, and_true] at h
  obtain ⟨h1, h2, h3⟩ := h
  rw [h1, h2, sg_injD h3]
theorem cellD_injD (a b : Cell) (h : cellD a = cellD b) : a = b := by
  obtain ⟨a1, a2⟩ := a
  obtain ⟨b1, b2⟩ := b
  simp only [cellD, PyData.tuple.injEq, List.cons.injEq, PyData.int.injEq, and_true] at h
  obtain ⟨h1, h2⟩ := h
  rw [h1, h2]
theorem hallD_injD {a b : Hall} (h : hallD a = hallD b) : a = b := by
  obtain ⟨a1, a2, a3, a4⟩ := a
  obtain ⟨b1, b2, b3, b4⟩ := b
  simp only [hallD, PyData.tuple.injEq, List.cons.injEq, PyData.int.injEq, and_true] at h
  obtain ⟨h1, h2, h3, h4⟩ := h
  rw [h1, h2, map_injD edgeD_injD h3, map_injD edgeD_injD h4]
theorem wsS_injD {a b : List Sg} (h : wsS a = wsS b) : a = b := by
  simp only [wsS, Str.mk.injEq] at h
  have h2 : a.map Sg.code = b.map Sg.code := by
    have := congrArg Array.toList h
    simpa using this
  clear h
  induction a generalizing b with
  | nil => cases b with
    | nil => rfl
    | cons => simp at h2
  | cons x xs ih => cases b with
    | nil => simp at h2
    | cons y ys =>
      rw [List.map_cons, List.map_cons] at h2
      injection h2 with h3 h4
      rw [Sg.code_inj h3, ih h4]
theorem standD_injD {a b : Stand} (h : standD a = standD b) : a = b := by
  obtain ⟨a1, a2⟩ := a
  obtain ⟨b1, b2⟩ := b
  simp only [standD, cellsD, PyData.tuple.injEq, List.cons.injEq, PyData.str.injEq, and_true] at h
  obtain ⟨h1, h2⟩ := h
  rw [map_injD cellD_injD h1, wsS_injD h2]
/-! ### alike, with truths -/
def NiceB : Nat → PyData → Prop
  | 0, _ => False
  | n + 1, d => (Atom d ∨ ∃ b, d = .bool b) ∨ ∃ ds : List PyData, (d = .tuple ds ∨ d = .list ds) ∧ ds.length ≤ 100000 ∧ ∀ x ∈ ds, NiceB n x
theorem NiceB.of : ∀ {n : Nat} {d : PyData}, Nice n d → NiceB n d
  | 0, _, h => h.elim
  | n + 1, _, .inl h => .inl (.inl h)
  | n + 1, _, .inr ⟨ds, h1, h2, h3⟩ => .inr ⟨ds, h1, h2, fun x hx => NiceB.of (h3 x hx)⟩
def R_alikeB (n : Nat) (ds : List PyData) (d : PyData) : Prop := ∃ x, NiceB n x ∧ ds = [x, x] ∧ d = .bool true
theorem kit_bt : kitB "bool" "tuple" = some false := by decide +kernel
theorem kit_bll : kitB "bool" "list" = some false := by decide +kernel
theorem kit_bb : kitB "bool" "bool" = some true := by decide +kernel
theorem rp_L_alikeB {K : PySem.W.Frag} {n : Nat} {ds : List PyData} {d : PyData} (h : R_alikeB (n + 1) ds d) : RD (rd_L_alike K (spR (R_alikeB n))) (ds.map some ++ List.replicate (3 - ds.length) none) d := by
  obtain ⟨x, hx, rfl, rfl⟩ := h
  show RD _ [some x, some x, none] _
  rcases hx with ((⟨i, rfl⟩ | ⟨z, rfl, hz⟩ | rfl) | ⟨b, rfl⟩) | ⟨es, he, hl, hn⟩
  · exact alike_atom kit_it kit_il kit_ib (sh_int i) (by rw [eqv_int]; simp)
  · exact alike_atom kit_st kit_sl kit_sb (sh_str z hz) (by simp [PyData.eqv])
  · exact alike_atom kit_nt kit_nl kit_nb sh_non (by simp [PyData.eqv])
  · unfold rd_L_alike
    refine rd_ifS (b := false) (ET.is (et_and (et_B (ed_isi2 (ed_var (d := .bool b) rfl) kit_bt kit_bll)) (b := false) (fun z => by simp at z)) rfl) (fun z => nomatch z) (fun _ => ?_)
    refine rd_ret (ED.is (ed_andV (ed_op (ed_var (d := .bool b) rfl) (ed_var (d := .bool b) rfl) (r2_eq (sh_bool b) (sh_bool b))) (fun _ => ed_op (ed_isi (ed_var (d := .bool b) rfl) kit_bb) (ed_isi (ed_var (d := .bool b) rfl) kit_bb) (r2_eq (sh_bool _) (sh_bool _)))) ?_)
    rw [eqv_bool, eqv_bool]
    simp
  · have hR : ∀ d ∈ es, R_alikeB n [d, d] (.bool true) := fun d hd => ⟨d, hn d hd, rfl, rfl⟩
    rcases he with rfl | rfl
    · exact alike_seq (b := true) (.inl ⟨rfl, rfl⟩) hl hR
    · exact alike_seq (b := false) (.inr ⟨rfl, rfl⟩) hl hR
theorem nice_both (es : List Ev) (hl : es.length ≤ 1000) : Nice 5 (.list (es.map evBoth)) := nice_lst (by rw [List.length_map]; omega) fun y hy => by
  obtain ⟨e, _, rfl⟩ := List.mem_map.mp hy
  refine nice_tup (by simp) fun z hz => ?_
  simp only [List.mem_cons, List.not_mem_nil, or_false] at hz
  rcases hz with rfl | rfl
  · exact nice_step 1 _ _
  · exact nice_opt 2 _
theorem nice_mv {h : Hall} {s : Stand} (o : SOk h s) : Nice 4 (.list ((movesD h s).map fstD)) := nice_lst (by have := movesD_len h s o.ncells; rw [List.length_map]; omega) fun y hy => by
  obtain ⟨d, hd, rfl⟩ := List.mem_map.mp hy
  obtain ⟨k, w, p, _, _, _, rfl⟩ := moves_ok d hd
  exact nice_step 1 _ _
theorem nice_mono2 : ∀ {n m : Nat} {d : PyData}, Nice n d → Nice (n + m) d := by
  have one : ∀ {n : Nat} {d : PyData}, Nice n d → Nice (n + 1) d := by
    intro n
    induction n with
    | zero => intro d h; exact h.elim
    | succ n ih =>
      intro d h
      rcases h with h | ⟨ds, h1, h2, h3⟩
      · exact .inl h
      · exact .inr ⟨ds, h1, h2, fun x hx => ih (h3 x hx)⟩
  intro n m
  induction m with
  | zero => intro d h; exact h
  | succ m ih => intro d h; exact one (ih h)

/-! ### names that sort -/
def NM : List Str := ["a", "abcdefgh", "b", "zz"]
def rk (x : Str) : Nat := if x = "a" then 0 else if x = "abcdefgh" then 1 else if x = "b" then 2 else 3
theorem rk_le : ∀ x ∈ NM, ∀ y ∈ NM, (!ltCps y.cps.toList x.cps.toList) = decide (rk x ≤ rk y) := by decide +kernel
theorem rk_inj : ∀ x ∈ NM, ∀ y ∈ NM, rk x = rk y → x = y := by decide +kernel
theorem nm_name : ∀ x ∈ NM, nameB x = true := by decide +kernel
theorem nm_len : ∀ x ∈ NM, x.length ≤ 8 := by decide +kernel
theorem nm_ok : ∀ x ∈ NM, PyData.strOk x = true := by decide +kernel
theorem rising_pw : ∀ (xs : List Str) (p : Str), p ∈ NM → (∀ x ∈ xs, x ∈ NM) → risingS p xs = true → (∀ x ∈ xs, rk p ≤ rk x) ∧ xs.Pairwise fun a b => rk a ≤ rk b
  | [], p, _, _, _ => ⟨(fun x z => nomatch z), .nil⟩
  | x :: xs, p, hp, hx, h => by
    have h : (!ltCps x.cps.toList p.cps.toList && risingS x xs) = true := h
    rw [Bool.and_eq_true] at h
    obtain ⟨h1, h2⟩ := h
    have hxm := hx x (.head _)
    rw [rk_le p hp x hxm] at h1
    have h1 := of_decide_eq_true h1
    obtain ⟨i1, i2⟩ := rising_pw xs x hxm (fun y hy => hx y (.tail _ hy)) h2
    refine ⟨fun y hy => ?_, List.pairwise_cons.mpr ⟨i1, i2⟩⟩
    rcases List.mem_cons.mp hy with rfl | hy
    · exact h1
    · exact Nat.le_trans h1 (i1 y hy)
theorem sorted_pw {xs : List Str} (hx : ∀ x ∈ xs, x ∈ NM) (h : sortedS xs = true) : xs.Pairwise fun a b => rk a ≤ rk b := by
  cases xs with
  | nil => exact .nil
  | cons x xs =>
    obtain ⟨i1, i2⟩ := rising_pw xs x (hx x (.head _)) (fun y hy => hx y (.tail _ hy)) h
    exact List.pairwise_cons.mpr ⟨i1, i2⟩
theorem sorted_uniq {ks ys zs : List Str} (hk : ∀ x ∈ ks, x ∈ NM) (p1 : ys.Perm ks) (p2 : zs.Perm ks) (s1 : sortedS ys = true) (s2 : sortedS zs = true) : ys = zs := by
  have m1 : ∀ x ∈ ys, x ∈ NM := fun x hx => hk x (p1.mem_iff.mp hx)
  have m2 : ∀ x ∈ zs, x ∈ NM := fun x hx => hk x (p2.mem_iff.mp hx)
  exact List.Perm.eq_of_pairwise (le := fun a b => rk a ≤ rk b) (fun a b ha hb h1 h2 => rk_inj a (m1 a ha) b (m2 b hb) (Nat.le_antisymm h1 h2)) (sorted_pw m1 s1) (sorted_pw m2 s2) (p1.trans p2.symm)
/-! ### marks, as the bench and the law have them -/
def nowD (s0 : Stand) (es : List Ev) : PyData := standD (stAt s0 es es.length)
def aheadD (s0 : Stand) (es : List Ev) : PyData := .list ((List.range (es.length + 1)).map fun i => standD (stAt s0 es i))
def bMark (s0 : Stand) (es : List Ev) : PyData := .tuple [nowD s0 es, .list (es.map evTrail)]
def lMark (s0 : Stand) (es : List Ev) : PyData := .tuple [nowD s0 es, .list (es.map evBoth), aheadD s0 es]
def bPts (s0 : Stand) (pts : List (Str × List Ev)) : List (Str × PyData) := pts.map fun p => (p.1, bMark s0 p.2)
def lPts (s0 : Stand) (pts : List (Str × List Ev)) : List (Str × PyData) := pts.map fun p => (p.1, lMark s0 p.2)
structure PtsOk (h : Hall) (s0 : Stand) (n : Nat) (pts : List (Str × List Ev)) : Prop where
  all : ∀ p ∈ pts, p.1 ∈ NM ∧ Hist h s0 p.2 ∧ p.2.length ≤ n
  len : pts.length ≤ n
theorem pts_keys {s0 : Stand} {pts : List (Str × List Ev)} : (bPts s0 pts).map (·.1) = pts.map (·.1) ∧ (lPts s0 pts).map (·.1) = pts.map (·.1) := by
  constructor
  · unfold bPts; rw [List.map_map]; rfl
  · unfold lPts; rw [List.map_map]; rfl
theorem now_same {s0 : Stand} {pts : List (Str × List Ev)} (x : Str) : nowOf (bPts s0 pts) x = nowOf (lPts s0 pts) x := by
  unfold nowOf bPts lPts
  rw [ptGet_map, ptGet_map]
  cases ptGet pts x <;> rfl
theorem mark_same {s0 : Stand} {pts : List (Str × List Ev)} (x : Str) : markOf (bPts s0 pts) x = markOf (lPts s0 pts) x := by
  unfold markOf
  rw [now_same]
theorem nice_stand5 (n : Nat) {h : Hall} {s0 : Stand} {es : List Ev} (so : StOk h s0) (hi : Hist h s0 es) (i : Nat) : Nice (n + 4) (standD (stAt s0 es i)) := nice_stand n (by have := (hi.ok so i).1.cells.most; omega)
theorem nice_marks {h : Hall} {s0 : Stand} {n : Nat} {pts : List (Str × List Ev)} {ys : List Str} (so : StOk h s0) (o : PtsOk h s0 n pts) (hn : n ≤ 60) (hp : ys.Perm (pts.map (·.1))) : Nice 6 (.list (ys.map (markOf (lPts s0 pts)))) := nice_lst (by
    have := o.len
    rw [List.length_map, hp.length_eq, List.length_map]
    omega) fun y hy => by
  obtain ⟨x, hx, rfl⟩ := List.mem_map.mp hy
  refine nice_tup (by simp) fun z hz => ?_
  obtain ⟨p, hp2, rfl⟩ := List.mem_map.mp (hp.mem_iff.mp hx)
  simp only [List.mem_cons, List.not_mem_nil, or_false] at hz
  rcases hz with rfl | rfl
  · exact .inl (.inr (.inl ⟨_, rfl, nm_ok _ (o.all p hp2).1⟩))
  · unfold nowOf lPts
    rw [ptGet_map]
    cases q : ptGet pts p.1 with
    | none => exact .inl (.inr (.inr rfl))
    | some es => exact nice_stand5 0 so (o.all _ (ptGet_mem q)).2.1 _
/-! ### whether a bench stands so -/
def sp_stands (C : Addr) : Sp := fun vs H Q _ => ∃ B a q h s0 es pts vh vn vp, vs = [.ref a.x, vh, vn, vp, .ref q] ∧ Ex B H ∧ Bo C a B B ⟨hallD h, nowD s0 es, es.map evTrail, bPts s0 pts⟩ ∧ (∃ kvs, B q = some (.dK kvs) ∧ PtOk B kvs (lPts s0 pts)) ∧ DHs B [vh, vn, vp] [hallD h, nowD s0 es, .list (es.map evBoth)] ∧
  HallOk h ∧ StOk h s0 ∧ Hist h s0 es ∧ es.length ≤ 40 ∧ PtsOk h s0 40 pts ∧ ∀ H', (∀ c u, H c = some u → H' c = some u) → Q (.bl true) H'
section
variable {a : BAd} {vh vn vb vi : V}
theorem nStanding : (bFs vh vn vb vi a).lookup ("standing" : Str) = none := by kernel_rfl
theorem nSteps : (bFs vh vn vb vi a).lookup ("steps" : Str) = none := by kernel_rfl
theorem nMay : (bFs vh vn vb vi a).lookup ("may" : Str) = none := by kernel_rfl
theorem nMarks : (bFs vh vn vb vi a).lookup ("marks" : Str) = none := by kernel_rfl
theorem nStep : (bFs vh vn vb vi a).lookup ("step" : Str) = none := by kernel_rfl
theorem nMark : (bFs vh vn vb vi a).lookup ("mark" : Str) = none := by kernel_rfl
theorem nGo : (bFs vh vn vb vi a).lookup ("go" : Str) = none := by kernel_rfl
theorem nBack : (bFs vh vn vb vi a).lookup ("back" : Str) = none := by kernel_rfl
end
theorem cut1 (a b c d : V) : cutV [a, b, c, d] (some 1) none = [b, c, d] := by kernel_rfl
theorem rp_L_stands {K : PySem.W.Frag} {C : Addr} {vs : List V} {H : Hp} {Q : VK} {E : XK} (hsp : sp_stands C vs H Q E) :
    rd_L_stands K C (spR (R_alikeB 7)) (spR R_moves) (spL C R_B_marks P_B_marks) (spL C R_B_may P_B_may) (spP C R_B_standing) (spL C R_B_steps P_B_steps) { nx := fun _ H' => Q .non H', rt := Q } (L2.start ["_law_bench", "_law_hall_here", "_law_now", "_law_past", "_law_points", "_law_told", "_law_due", "_law_some", "_law_one", "_law_name"] vs) H := by
  obtain ⟨B, a, q, h, s0, es, pts, vh, vn, vp, rfl, ex, bo, ⟨kvs, hq, hkv⟩, dv, ho, so, hi, hl, po, k⟩ := hsp
  have hok := (hi.ok so es.length).1
  have sk := stok_sok ho hok
  have nl : lPts s0 pts = lPts s0 pts := rfl
  have hs0 : (L2.start ["_law_bench", "_law_hall_here", "_law_now", "_law_past", "_law_points", "_law_told", "_law_due", "_law_some", "_law_one", "_law_name"] [.ref a.x, vh, vn, vp, .ref q])[0]? = some (some (.ref a.x)) := rfl
  have hs4 : (L2.start ["_law_bench", "_law_hall_here", "_law_now", "_law_past", "_law_points", "_law_told", "_law_due", "_law_some", "_law_one", "_law_name"] [.ref a.x, vh, vn, vp, .ref q])[4]? = some (some (.ref q)) := rfl
  have ev : EnvD (L2.start ["_law_bench", "_law_hall_here", "_law_now", "_law_past", "_law_points", "_law_told", "_law_due", "_law_some", "_law_one", "_law_name"] [.ref a.x, vh, vn, vp, .ref q]) B [none, some (hallD h), some (nowD s0 es), some (.list (es.map evBoth)), none, none, none, none, none, none] := by
    cases dv with
    | cons d1 r =>
    cases r with
    | cons d2 r =>
    cases r with
    | cons d3 r =>
    refine ⟨rfl, fun i d e => ?_⟩
    have : i = 0 ∨ i = 1 ∨ i = 2 ∨ i = 3 ∨ 4 ≤ i := by omega
    rcases this with rfl | rfl | rfl | rfl | h4
    · cases e
    · cases e; exact ⟨vh, rfl, d1⟩
    · cases e; exact ⟨vn, rfl, d2⟩
    · cases e; exact ⟨vp, rfl, d3⟩
    · have : i = 4 ∨ i = 5 ∨ i = 6 ∨ i = 7 ∨ i = 8 ∨ i = 9 ∨ 10 ≤ i := by omega
      rcases this with rfl | rfl | rfl | rfl | rfl | rfl | h10
      · cases e
      · cases e
      · cases e
      · cases e
      · cases e
      · cases e
      · rw [List.getElem?_eq_none (by simpa using h10)] at e
        cases e
  generalize L2.start ["_law_bench", "_law_hall_here", "_law_now", "_law_past", "_law_points", "_law_told", "_law_due", "_law_some", "_law_one", "_law_name"] [.ref a.x, vh, vn, vp, .ref q] = σ at hs0 hs4 ev ⊢
  obtain ⟨fh, fn, fb, fi, i1, i2, i3⟩ := bo.ins
  unfold rd_L_stands
  refine go_seq ?_
  -- what is told
  refine ⟨_, hs0, a.x, a.dx, _, rfl, ex _ _ i1, nStanding, B, a, _, _, rfl, ex, bo, .mk _, fun v1 B1 H1 g1 d1 => ?_⟩
  have bo1 := bo.mono g1.b fun c _ u e => g1.b c u e
  refine ⟨_, hs0, a.x, a.dx, _, rfl, g1.t _ _ (g1.b _ _ i1), nSteps, B1, a, _, rfl, g1.t, bo1, ⟨es, rfl, by omega⟩, fun p2 x2 ds2 B2 H2 hP2 g2 n2 nB2 hh2 dx2 => ?_⟩
  have bo2 := bo1.mono g2.b fun c _ u e => g2.b c u e
  have e2 := hP2 es rfl (by omega)
  subst e2
  refine ⟨_, hs0, a.x, a.dx, _, rfl, g2.t _ _ (g2.b _ _ (g1.b _ _ i1)), nMay, B2, a, _, rfl, g2.t, bo2, ⟨h, _, sk, rfl, rfl⟩, fun p3 x3 ds3 B3 H3 hP3 g3 n3 nB3 hh3 dx3 => ?_⟩
  have bo3 := bo2.mono g3.b fun c _ u e => g3.b c u e
  obtain ⟨h', s', e1, e2, rfl⟩ := hP3
  cases hallD_injD e1
  cases standD_injD e2
  clear e1 e2
  have hlen := po.len
  refine ⟨_, hs0, a.x, a.dx, _, rfl, g3.t _ _ (g3.b _ _ (g2.b _ _ (g1.b _ _ i1))), nMarks, B3, a, _, rfl, g3.t, bo3, ⟨by unfold bPts; rw [List.length_map]; omega, fun p hp => ?_⟩, fun p4 x4 ds4 B4 H4 hP4 g4 n4 nB4 hh4 dx4 => ?_⟩
  · obtain ⟨z, hz, rfl⟩ := List.mem_map.mp hp
    exact ⟨_, _, rfl⟩
  obtain ⟨ys, py, sy, rfl⟩ := hP4
  rw [pts_keys.1] at py
  have emk : ys.map (markOf (bPts s0 pts)) = ys.map (markOf (lPts s0 pts)) := List.map_congr_left fun x _ => mark_same x
  rw [emk] at dx4
  refine ⟨by show 4 ≤ sizeLine; decide, fun p5 n5 => ?_⟩
  -- all in a base of its own
  have G4 := ((g1.trans g2).trans g3).trans g4
  have nB3' : B4 p3 = none := g4.n _ nB3 (by rw [hh3]; exact fun z => nomatch z)
  have hh3' : H4 p3 = some (.lst x3) := g4.h _ _ hh3
  have nB2' : B4 p2 = none := g4.n _ (g3.n _ nB2 (by rw [hh2]; exact fun z => nomatch z)) (by rw [g3.h _ _ hh2]; exact fun z => nomatch z)
  have hh2' : H4 p2 = some (.lst x2) := g4.h _ _ (g3.h _ _ hh2)
  have ne23 : p2 ≠ p3 := fun z => by rw [← z, hh2] at n3; cases n3
  have ne24 : p2 ≠ p4 := fun z => by rw [← z, g3.h _ _ hh2] at n4; cases n4
  have ne34 : p3 ≠ p4 := fun z => by rw [← z, hh3] at n4; cases n4
  have ne25 : p2 ≠ p5 := fun z => by rw [← z, hh2'] at n5; cases n5
  have ne35 : p3 ≠ p5 := fun z => by rw [← z, hh3'] at n5; cases n5
  have ne45 : p4 ≠ p5 := fun z => by rw [← z, hh4] at n5; cases n5
  have hf2 : H p2 = none := by
    cases w : H p2 with
    | none => rfl
    | some u => rw [g1.h _ _ w] at n2; cases n2
  have hf3 : H p3 = none := by
    cases w : H p3 with
    | none => rfl
    | some u => rw [g2.h _ _ (g1.h _ _ w)] at n3; cases n3
  have hf4 : H p4 = none := by
    cases w : H p4 with
    | none => rfl
    | some u => rw [g3.h _ _ (g2.h _ _ (g1.h _ _ w))] at n4; cases n4
  have hf5 : H p5 = none := by
    cases w : H p5 with
    | none => rfl
    | some u => rw [G4.h _ _ w] at n5; cases n5
  have hn5 : B4 p5 = none := g4.t.nil n5
  have keep5 : ∀ c u, H c = some u → upd H4 p5 (.lst [v1, .ref p2, .ref p3, .ref p4]) c = some u := fun c u e => by
    rw [upd_ne (fun z => by rw [z, hf5] at e; cases e)]
    exact G4.h _ _ e
  have a2 : upd H4 p5 (.lst [v1, .ref p2, .ref p3, .ref p4]) p2 = some (.lst x2) := by rw [upd_ne ne25]; exact hh2'
  have a3 : upd H4 p5 (.lst [v1, .ref p2, .ref p3, .ref p4]) p3 = some (.lst x3) := by rw [upd_ne ne35]; exact hh3'
  have a4 : upd H4 p5 (.lst [v1, .ref p2, .ref p3, .ref p4]) p4 = some (.lst x4) := by rw [upd_ne ne45]; exact hh4
  have a5 : upd H4 p5 (.lst [v1, .ref p2, .ref p3, .ref p4]) p5 = some (.lst [v1, .ref p2, .ref p3, .ref p4]) := upd_same
  have exB : Ex B4 (upd H4 p5 (.lst [v1, .ref p2, .ref p3, .ref p4])) := fun c u e => by
    rw [upd_ne (fun z => by rw [z, hn5] at e; cases e)]
    exact g4.t _ _ e
  generalize upd H4 p5 (.lst [v1, .ref p2, .ref p3, .ref p4]) = H5 at keep5 a2 a3 a4 a5 exB ⊢
  have nM : ∀ z ∈ [p2, p3, p4, p5], B4 z = none := fun z hz => by
    simp only [List.mem_cons, List.not_mem_nil, or_false] at hz
    rcases hz with rfl | rfl | rfl | rfl
    · exact nB2'
    · exact nB3'
    · exact nB4
    · exact hn5
  have eV : Ex B4 (vw [p2, p3, p4, p5] B4 H5) := ex_vw nM
  have eV0 : Ex B (vw [p2, p3, p4, p5] B4 H5) := (((g1.b.trans g2.b).trans g3.b).trans g4.b).trans eV
  have dtold : DH (vw [p2, p3, p4, p5] B4 H5) (.ref p5) (.list [nowD s0 es, .list (es.map evBoth), .list ((movesD h (stAt s0 es es.length)).map fstD), .list (ys.map (markOf (lPts s0 pts)))]) :=
    .lst (vw_at (by simp) a5) (.cons (d1.mono (((g2.b.trans g3.b).trans g4.b).trans eV)) (.cons (.lst (vw_at (by simp) a2) (dx2.mono ((g3.b.trans g4.b).trans eV))) (.cons (.lst (vw_at (by simp) a3) (dx3.mono (g4.b.trans eV))) (.cons (.lst (vw_at (by simp) a4) (dx4.mono eV)) .nil))))
  have ev5 : EnvD (σ.set 5 (some (.ref p5))) (vw [p2, p3, p4, p5] B4 H5) [none, some (hallD h), some (nowD s0 es), some (.list (es.map evBoth)), none, some (.list [nowD s0 es, .list (es.map evBoth), .list ((movesD h (stAt s0 es es.length)).map fstD), .list (ys.map (markOf (lPts s0 pts)))]), none, none, none, none] := (ev.mono eV0).set 5 dtold
  have hσ4 : (σ.set 5 (some (.ref p5)))[4]? = some (some (.ref q)) := by rw [List.getElem?_set_ne (by decide)]; exact hs4
  have hσ5 : (σ.set 5 (some (.ref p5)))[5]? = some (some (.ref p5)) := List.getElem?_set_self (by rw [ev.len]; show 5 < 10; decide)
  have exV : Ex (vw [p2, p3, p4, p5] B4 H5) H5 := vw_ex exB
  have sd5 : Sd q (lPts s0 pts) 4 (σ.set 5 (some (.ref p5))) (vw [p2, p3, p4, p5] B4 H5) := ⟨hσ4, kvs, eV0 _ _ hq, hkv.mono eV0⟩
  show Ends.nx _ (σ.set 5 (some (.ref p5))) H5
  dsimp only
  generalize σ.set 5 (some (.ref p5)) = σ1 at ev5 hσ5 sd5 ⊢
  generalize vw [p2, p3, p4, p5] B4 H5 = BV at ev5 exV sd5 dtold
  clear dtold
  -- what is due
  refine go_seq ?_
  have hml := movesD_len h (stAt s0 es es.length) sk.ncells
  have h1 : ED (tVar 2) [none, some (hallD h), some (nowD s0 es), some (.list (es.map evBoth)), none, some (.list [nowD s0 es, .list (es.map evBoth), .list ((movesD h (stAt s0 es es.length)).map fstD), .list (ys.map (markOf (lPts s0 pts)))]), none, none, none, none] (nowD s0 es) := ed_var rfl
  have h2 : ED (tVar 3) [none, some (hallD h), some (nowD s0 es), some (.list (es.map evBoth)), none, some (.list [nowD s0 es, .list (es.map evBoth), .list ((movesD h (stAt s0 es es.length)).map fstD), .list (ys.map (markOf (lPts s0 pts)))]), none, none, none, none] (.list (es.map evBoth)) := ed_var rfl
  have h3 : ED (tLc (iList K (tCallD (spR R_moves) (tCons (tVar 1) (tCons (tVar 2) tNil)))) (gName 8) tYes (tOp (rIx K) (tVar 8) (tC (.int 0))) [8]) [none, some (hallD h), some (nowD s0 es), some (.list (es.map evBoth)), none, some (.list [nowD s0 es, .list (es.map evBoth), .list ((movesD h (stAt s0 es es.length)).map fstD), .list (ys.map (markOf (lPts s0 pts)))]), none, none, none, none] (.list ((movesD h (stAt s0 es es.length)).map fstD)) := by
    refine ed_lcM (movesD h (stAt s0 es es.length)) (fun d => d) fstD ?_ (by omega) fun d hd => ⟨_, gd_name (i := 8) (by simp), ?_⟩
    · rw [List.map_id']
      exact ie_list (ed_call (ea_cons (ed_var rfl) (ea_cons (ed_var (d := standD (stAt s0 es es.length)) rfl) ea_nil)) (.mk h _ sk))
    · obtain ⟨m, rfl⟩ := movesD_shape _ _ d hd
      exact ed_op (ed_var rfl) ed_int (r2_ixT rfl)
  have h4 : EGL (Sd q (lPts s0 pts) 4) (tLc (iList K (tCB rSortedDK (tCons (tVar 4) tNil))) (gName 9) tYes (tTup (tCons (tVar 9) (tCons (tOp (rIx K) (tDGet (tVar 4) (tVar 9)) (tC (.int 0))) tNil))) [9]) [none, some (hallD h), some (nowD s0 es), some (.list (es.map evBoth)), none, some (.list [nowD s0 es, .list (es.map evBoth), .list ((movesD h (stAt s0 es es.length)).map fstD), .list (ys.map (markOf (lPts s0 pts)))]), none, none, none, none] (fun ds => ∃ items, (items.Perm (pts.map (·.1)) ∧ sortedS items = true) ∧ ds = items.map (markOf (lPts s0 pts))) := by
    refine eg_lcF (S := Sd q (lPts s0 pts) 4) (vs := [9]) (fun σ B B' s e => s.mono e) (fun σ σ' B s w => s.env w (by decide)) (fun items : List Str => items.Perm (pts.map (·.1)) ∧ sortedS items = true) PyData.str (markOf (lPts s0 pts)) (fun σ B H ex ev s' Q q' => ?_) fun items hi' x hx => ⟨_, gd_name (i := 9) (by simp), ?_⟩
    · obtain ⟨kvs', p1, p2⟩ := s'.2
      refine ⟨_, s'.1, ?_⟩
      refine ⟨q, kvs', pts.map (·.1), rfl, .inl (ex _ _ p1), by rw [p2.keys, pts_keys.2], by rw [List.length_map]; omega, fun zs p hp hs hpn => ?_⟩
      have g := Gr.new (o := .lst (zs.map V.str)) ex hpn
      refine q' _ zs _ _ ⟨hp, hs⟩ ?_ g (.lst upd_same (DHs.strV zs))
      rw [hp.length_eq, List.length_map]
      omega
    · obtain ⟨p, hp, rfl⟩ := List.mem_map.mp (hi'.1.mem_iff.mp hx)
      have hg : ∃ es', ptGet pts p.1 = some es' := by
        cases w : ptGet pts p.1 with
        | some d => exact ⟨d, rfl⟩
        | none =>
          unfold ptGet at w
          rw [Option.map_eq_none_iff] at w
          have := List.find?_eq_none.mp w p hp
          simp at this
      obtain ⟨es', hg⟩ := hg
      have hg2 : ptGet (lPts s0 pts) p.1 = some (lMark s0 es') := by
        unfold lPts
        rw [ptGet_map, hg]
        rfl
      have e : markOf (lPts s0 pts) p.1 = .tuple [.str p.1, nowD s0 es'] := by
        unfold markOf nowOf
        rw [hg2]
        rfl
      rw [e]
      refine eg_tup2 (fun σ B B' s e => s.mono e) (eg_ed (ed_var (d := .str p.1) rfl)) (eg_op (fun σ B B' s e => s.mono e) (eg_get (ed_var (d := .str p.1) rfl) hg2) (eg_ed ed_int) (r2_ixT rfl))
  delta tAsg tLst
  refine h1 σ1 BV H5 exV ev5 _ fun w1 B6 H6 g6 f1 => ?_
  refine h2 σ1 B6 H6 g6.t (ev5.mono g6.b) _ fun w2 B7 H7 g7 f2 => ?_
  refine h3 σ1 B7 H7 g7.t ((ev5.mono g6.b).mono g7.b) _ fun w3 B8 H8 g8 f3 => ?_
  refine h4 σ1 B8 H8 g8.t (((ev5.mono g6.b).mono g7.b).mono g8.b) (((sd5.mono g6.b).mono g7.b).mono g8.b) _ fun p9 x9 ds9 B9 H9 hP9 g9 n9 nB9 hh9 dx9 => ?_
  obtain ⟨zs, ⟨pz, sz⟩, rfl⟩ := hP9
  have eyz : zs = ys := sorted_uniq (fun x hx => by obtain ⟨p, hp, rfl⟩ := List.mem_map.mp hx; exact (po.all p hp).1) pz py sz sy
  subst eyz
  have g9' := gr_in g9 n9 nB9 hh9 g8.t
  have d9 : DH (upd B9 p9 (.lst x9)) (.ref p9) (.list (zs.map (markOf (lPts s0 pts)))) := .lst upd_same (dx9.mono (Ex.new nB9))
  generalize upd B9 p9 (.lst x9) = B10 at g9' d9
  refine ⟨by show 4 ≤ sizeLine; decide, fun p10 n10 => ?_⟩
  have g10 := Gr.new (o := .lst [w1, w2, w3, .ref p9]) g9'.t n10
  have G10 := (((g6.trans g7).trans g8).trans g9').trans g10
  have ddue : DH (upd B10 p10 (.lst [w1, w2, w3, .ref p9])) (.ref p10) (.list [nowD s0 es, .list (es.map evBoth), .list ((movesD h (stAt s0 es es.length)).map fstD), .list (zs.map (markOf (lPts s0 pts)))]) :=
    .lst upd_same (.cons (f1.mono (((g7.b.trans g8.b).trans g9'.b).trans g10.b)) (.cons (f2.mono ((g8.b.trans g9'.b).trans g10.b)) (.cons (f3.mono (g9'.b.trans g10.b)) (.cons (d9.mono g10.b) .nil))))
  have ev10 := (ev5.mono G10.b).set 6 ddue
  have hσ5' : (σ1.set 6 (some (.ref p10)))[5]? = some (some (.ref p5)) := by rw [List.getElem?_set_ne (by decide)]; exact hσ5
  show Ends.nx _ (σ1.set 6 (some (.ref p10))) _
  dsimp only
  generalize σ1.set 6 (some (.ref p10)) = σ2 at ev10 hσ5' ⊢
  generalize upd B10 p10 (.lst [w1, w2, w3, .ref p9]) = B11 at G10 ev10
  generalize upd H9 p10 (.lst [w1, w2, w3, .ref p9]) = H11 at G10 ⊢
  refine go_seq ?_
  have hal : ET (tNot (tB (tCallD (spR (R_alikeB 7)) (tCons (tVar 5) (tCons (tVar 6) tNil))))) ([none, some (hallD h), some (nowD s0 es), some (.list (es.map evBoth)), none, some (.list [nowD s0 es, .list (es.map evBoth), .list ((movesD h (stAt s0 es es.length)).map fstD), .list (zs.map (markOf (lPts s0 pts)))]), none, none, none, none].set 6 (some (.list [nowD s0 es, .list (es.map evBoth), .list ((movesD h (stAt s0 es es.length)).map fstD), .list (zs.map (markOf (lPts s0 pts)))]))) false := by
    refine ET.is (et_not (et_B (ed_call (R := R_alikeB 7) (d := .bool true) (ea_cons (ed_var rfl) (ea_cons (ed_var rfl) ea_nil)) ⟨_, ?_, rfl, rfl⟩))) rfl
    refine NiceB.of (nice_lst (by simp) fun x hx => ?_)
    simp only [List.mem_cons, List.not_mem_nil, or_false] at hx
    rcases hx with rfl | rfl | rfl | rfl
    · exact nice_mono2 (n := 4) (m := 2) (nice_stand5 0 so hi _)
    · exact nice_mono2 (n := 5) (m := 1) (nice_both es (by omega))
    · exact nice_mono2 (n := 4) (m := 2) (nice_mv sk)
    · exact nice_marks so po (by decide) py
  refine hal σ2 B11 H11 G10.t ev10 _ fun B12 H12 g12 => ?_
  rw [if_neg (by decide)]
  unfold tNext
  dsimp only
  have G12 := G10.trans g12
  have b2 := G12.h _ _ a2
  have b3 := G12.h _ _ a3
  have b4 := G12.h _ _ a4
  have b5 := G12.h _ _ a5
  have keep12 : ∀ c u, H c = some u → H12 c = some u := fun c u e => G12.h _ _ (keep5 c u e)
  clear G12 g12 G10
  -- the lists told are changed
  refine go_seq ?_
  refine ⟨_, hσ5', ⟨1, rfl, .inl ⟨p5, _, rfl, SqL.of b5, fun r hr => ⟨r, rfl, ⟨_, SqL.of upd_same⟩, ?_⟩⟩⟩⟩
  rw [cut1]
  have l2 := dx2.length
  have l3 := dx3.length
  have l4 := dx4.length
  have hlz : zs.length ≤ 40 := by rw [py.length_eq, List.length_map]; omega
  rw [List.length_map] at l2 l3 l4
  have nr2 : p2 ≠ r := fun z => by rw [← z, b2] at hr; cases hr
  have nr3 : p3 ≠ r := fun z => by rw [← z, b3] at hr; cases hr
  have nr4 : p4 ≠ r := fun z => by rw [← z, b4] at hr; cases hr
  refine ⟨fun n m σ' H' => m = 3 - n ∧ n ≤ 3 ∧ (∀ c u, H c = some u → H' c = some u) ∧ H' r = some (.lst [.ref p2, .ref p3, .ref p4]) ∧ (∃ y2, H' p2 = some (.lst y2) ∧ y2.length ≤ 2000 + n) ∧ (∃ y3, H' p3 = some (.lst y3) ∧ y3.length ≤ 2000 + n) ∧ (∃ y4, H' p4 = some (.lst y4) ∧ y4.length ≤ 2000 + n) ∧ σ'.length = 10, ⟨3, rfl, Nat.zero_le _, fun c u e => ?_, upd_same, ⟨x2, by rw [upd_ne nr2]; exact b2, by omega⟩, ⟨x3, by rw [upd_ne nr3]; exact b3, by omega⟩, ⟨x4, by rw [upd_ne nr4]; exact b4, by omega⟩, ev10.len⟩, ?_⟩
  · rw [upd_ne (fun z => by rw [z] at e; rw [keep12 _ _ e] at hr; cases hr)]
    exact keep12 c u e
  rintro n m σ' H' ⟨rfl, hle, kp, hr', ⟨y2, c2, z2⟩, ⟨y3, c3, z3⟩, ⟨y4, c4, z4⟩, hσl⟩
  by_cases hlt : n < 3
  · right
    have hit : ∃ p, [V.ref p2, .ref p3, .ref p4][n]? = some (.ref p) ∧ H p = none ∧ p ≠ r ∧ ∃ y, H' p = some (.lst y) ∧ y.length ≤ 2000 + n := by
      have : n = 0 ∨ n = 1 ∨ n = 2 := by omega
      rcases this with rfl | rfl | rfl
      · exact ⟨p2, rfl, hf2, nr2, y2, c2, z2⟩
      · exact ⟨p3, rfl, hf3, nr3, y3, c3, z3⟩
      · exact ⟨p4, rfl, hf4, nr4, y4, c4, z4⟩
    obtain ⟨p, hp, hpn, hpr, y, hy, hyl⟩ := hit
    refine ⟨⟨_, _, SqL.of hr', hp⟩, fun σ2 H2 => n + 1 ≤ 3 ∧ (∀ c u, H c = some u → H2 c = some u) ∧ H2 r = some (.lst [.ref p2, .ref p3, .ref p4]) ∧ (∃ y2, H2 p2 = some (.lst y2) ∧ y2.length ≤ 2000 + (n + 1)) ∧ (∃ y3, H2 p3 = some (.lst y3) ∧ y3.length ≤ 2000 + (n + 1)) ∧ (∃ y4, H2 p4 = some (.lst y4) ∧ y4.length ≤ 2000 + (n + 1)) ∧ σ2.length = 10, fun σ2 H2 ⟨q1, q2⟩ => ⟨3 - (n + 1), by omega, rfl, q1, q2⟩, fun x H3 hx => ?_⟩
    obtain ⟨rfl, hx⟩ := hx
    have hx := hx _ (SqL.of hr')
    rw [hp] at hx
    cases hx
    refine ⟨_, List.getElem?_set_self (by rw [hσl]; decide), ⟨.inl ⟨rfl, _, SqL.of hy⟩, p, y, .int 5, rfl, rfl, hy, ?_, ?_⟩⟩
    · exact Nat.lt_of_le_of_lt (show y.length ≤ 100000 by omega) (by decide)
    have ap : ∀ (t : Addr) (w : List V), H3 t = some (.lst w) → w.length ≤ 2000 + n → ∃ w', upd H3 p (.lst (y ++ [.int 5])) t = some (.lst w') ∧ w'.length ≤ 2000 + (n + 1) := fun t w ht hw => by
      by_cases htp : t = p
      · subst htp
        exact ⟨_, upd_same, by rw [List.length_append, List.length_singleton]; omega⟩
      · exact ⟨w, by rw [upd_ne htp]; exact ht, by omega⟩
    refine ⟨hlt, fun c u e => ?_, by rw [upd_ne hpr.symm]; exact hr', ap p2 y2 c2 z2, ap p3 y3 c3 z3, ap p4 y4 c4 z4, by rw [List.length_set]; exact hσl⟩
    rw [upd_ne (fun z => by rw [z, hpn] at e; cases e)]
    exact kp c u e
  · left
    have : n = 3 := by omega
    subst this
    exact ⟨⟨_, SqL.of hr', Nat.le_refl 3⟩, k H' kp⟩
end Pd

/-! SemG7 -/
set_option Elab.async false
set_option linter.all false
set_option maxRecDepth 100000
set_option maxHeartbeats 4000000
namespace Pd
open PySem PySem.Spec PyProof.Rows L2 PySem.W
local macro_rules | `(tactic| walk_at "ed") => `(tactic| repeat' (first
  | with_reducible (first
    | exact ed_int | exact ed_str | exact ed_bl | exact ed_non
    | exact ea_nil | refine' ea_cons ?_ ?_
    | refine' ed_isi ?_ ?_ | refine' ed_isi2 ?_ ?_ ?_
    | refine' ed_andV ?_ (fun _ => ?_) | refine' ed_orV ?_ (fun _ => ?_) | refine' ed_notV ?_
    | refine' ed_chain ?_ ?_ ?_ (fun _ => ⟨?_, ?_⟩)
    | refine' ed_tup ?_ ?_ | refine' ed_lst ?_ ?_
    | refine' et_not ?_ | refine' et_and ?_ (fun _ => ?_) | refine' et_or ?_ (fun _ => ?_) | exact et_yes
    | refine' et_test ?_ | refine' et_B ?_
    | refine' ed_op ?_ ?_ ?_
    | refine' ed_cb ?_ ?_)
  | exact ed_var rfl
  | exact kit_tt | exact kit_ii | exact kit_ib | exact kit_ll | exact kit_lt | exact kit_tl
  | exact r2_addI | exact r2_subI | exact r2_lt | exact r2_le | exact r2_gt | exact r2_ge | exact r2_isN | exact r2_notN
  | exact rc_lenT | exact rc_lenL | exact rc_intB | exact rc_tupL
  | with_reducible (first | refine' r2_eq ?_ ?_ | refine' r2_ne ?_ ?_)
  | exact sh_int _ | exact sh_sg _ | exact sh_cell _ | exact sh_edge _ | exact sh_pair _ | exact sh_str _ (by decide +kernel)
  | exact r2_ixT rfl | exact r2_ixL rfl
  | refine' ed_tup ?_ ?_
  | (show List.length _ ≤ 100000; simp; done)))
/-- the base without the tables -/
def noTbl (B : Hp) : Hp := fun a => match B a with
  | some (.tbl _) => none
  | o => o
theorem noTbl_ex (B : Hp) : Ex (noTbl B) B := fun a o h => by
  unfold noTbl at h
  split at h
  · cases h
  · exact h
theorem noTbl_of {B : Hp} {a : Addr} {o : HO} (h : B a = some o) (hn : ∀ ps, o ≠ .tbl ps) : noTbl B a = some o := by
  unfold noTbl
  rw [h]
  split
  · rename_i ps e
    exact absurd (Option.some.inj e) (hn ps)
  · rfl
mutual
theorem DH.noTbl {B : Hp} : ∀ {v : V} {d : PyData}, DH B v d → DH (Pd.noTbl B) v d
  | _, _, .non => .non
  | _, _, .bl b => .bl b
  | _, _, .int i => .int i
  | _, _, .str x => .str x
  | _, _, .lst h r => .lst (noTbl_of h (fun _ z => nomatch z)) (DHs.noTbl r)
  | _, _, .tup h r => .tup (noTbl_of h (fun _ z => nomatch z)) (DHs.noTbl r)
theorem DHs.noTbl {B : Hp} : ∀ {vs : List V} {ds : List PyData}, DHs B vs ds → DHs (Pd.noTbl B) vs ds
  | _, _, .nil => .nil
  | _, _, .cons h r => .cons (DH.noTbl h) (DHs.noTbl r)
end
theorem noTbl_extN {B H H1 : Hp} (e : Ex B H) (x : LamX.ExtN H H1) : Ex (noTbl B) H1 := fun a o h => by
  have h1 := noTbl_ex B a o h
  refine x a o (e a o h1) (fun ps z => ?_)
  subst z
  unfold noTbl at h
  rw [h1] at h
  cases h

theorem PtOk.noTbl {B : Hp} : ∀ {kvs : List (Key × V)} {pt : List (Str × PyData)}, PtOk B kvs pt → PtOk (Pd.noTbl B) kvs pt
  | _, _, .nil => .nil
  | _, _, .cons h r => .cons h.noTbl r.noTbl
theorem noTbl_none {B : Hp} {z : Addr} (h : B z = none) : noTbl B z = none := by
  cases q : noTbl B z with
  | none => rfl
  | some u =>
    have := noTbl_ex B z u q
    rw [h] at this
    cases this
theorem Bo.lam {C : Addr} {a : BAd} {B H H1 : Hp} {b : BSt} (o : Bo C a B H b) (x : LamX.ExtN H H1) : Bo C a (noTbl B) H1 b := by
  obtain ⟨⟨vh, vn, vb, vi, i1, i2, i3⟩, o2, ⟨xs, t1, t2⟩, ⟨ys, b1, b2⟩⟩ := o
  exact ⟨⟨vh, vn, vb, vi, x _ _ i1 (fun _ z => nomatch z), i2.noTbl, i3.noTbl⟩, x _ _ o2 (fun _ z => nomatch z), ⟨xs, x _ _ t1 (fun _ z => nomatch z), t2.noTbl⟩, ⟨ys, x _ _ b1 (fun _ z => nomatch z), b2.noTbl⟩⟩
/-! ### a world: the row, the tables, what P says of base and heap -/
structure CKr (r : Nat) (l sc : Addr) (ns : List Int) (c : Cfg) (K : PySem.W.Frag) : Prop where
  r : c.r = r
  K : c.K = K
  l : c.l = l
  sc : c.sc = sc
  ns : c.ns = ns
theorem CKr.dr {r : Nat} {l sc : Addr} {ns : List Int} {c : Cfg} {K : PySem.W.Frag} {B H : Hp} (h : CKr r l sc ns c K) (d : Dr c.K c.l c.sc c.ns B H) : Dr K l sc ns B H := by
  obtain ⟨r, K, l, sc, ns, B1, H1⟩ := c
  obtain ⟨h1, h2, h3, h4, h5⟩ := h
  subst h2 h3 h4 h5
  exact d
structure PW (l : Addr) (P : Hp → Hp → Prop) : Prop where
  gw : ∀ B H B' H', P B H → GrW l B H B' H' → P B' H'
  lam : ∀ B H H1, P B H → LamX.ExtN H H1 → P (noTbl B) H1
structure Wg (T : List (Addr × Str)) (S : List (Nat × Addr)) (P : Hp → Hp → Prop) (c : Cfg) (σ : L2.St) (B H : Hp) (ρ : Rho) : Prop where
  iv : Iv c (fun _ => 0) σ B H ρ []
  sl : ∀ p ∈ S, σ[p.1]? = some (some (.ref p.2))
  p : P c.B1 c.H1
  tb : LamX.Tabs T c.H1
  rl : ∃ x y z, c.H1 c.l = some (rowL c.sc x y z)
theorem tabs_wR {T : List (Addr × Str)} {l sc : Addr} {x y z : Int} {B H B' H' : Hp} (t : LamX.Tabs T H) (hrow : H l = some (rowL sc x y z)) (g : GrW l B H B' H') : LamX.Tabs T H' := fun p hp => by
  obtain ⟨ps, h1, h2, h3⟩ := t p hp
  have ne : ∀ {u : Addr} {o : HO}, H u = some o → o ≠ rowL sc x y z → u ≠ l := fun {u o} hx hn e => by
    subst e
    rw [hrow] at hx
    exact hn (Option.some.inj hx).symm
  refine ⟨ps, g.h _ _ (ne h1 (fun z => nomatch z)) h1, h2, fun pos cv hc => ?_⟩
  obtain ⟨u, e1, e2⟩ := h3 pos cv hc
  exact ⟨u, e1, g.h _ _ (ne e2 (fun z => by unfold LamX.CodeO rowL at z; cases z)) e2⟩
/-- a bench changed: the tables stay -/
theorem tabs_M {T : List (Addr × Str)} {C : Addr} {a : BAd} {b : BSt} {B H B' H' : Hp} (t : LamX.Tabs T H) (bo : Bo C a B H b) (g : GrM a B H B' H') : LamX.Tabs T H' := fun p hp => by
  obtain ⟨ps, h1, h2, h3⟩ := t p hp
  refine ⟨ps, g.h _ _ (fun z => (bo.kinds _ z).2.2.1 _ h1) h1, h2, fun pos cv hc => ?_⟩
  obtain ⟨u, e1, e2⟩ := h3 pos cv hc
  exact ⟨u, e1, g.h _ _ (fun z => (bo.kinds _ z).2.2.2 _ _ e2) e2⟩
section
variable {T : List (Addr × Str)} {S : List (Nat × Addr)} {P P' : Hp → Hp → Prop} {K : PySem.W.Frag} {r : Nat} {l sc : Addr} {ns : List Int} {c : Cfg} {σ σ' : L2.St} {B H B' H' : Hp} {ρ ρ' ρ1 : Rho} {te tb : TE} {tt : TT} {ta : TA} {d : PyData} {ds : List PyData} {Q : VK} {D : Ends} {i j : Nat} {vs : List Nat}
theorem Iv.env (o : Iv c (fun _ => 0) σ B H ρ []) (e : EnvD σ' B ρ') (w : L2.wipe σ' vs = L2.wipe σ vs) (hr : c.r ∉ vs) : Iv c (fun _ => 0) σ' B H ρ' [] := by
  have key : ∀ j, j ∉ vs → σ'[j]? = σ[j]? := fun j hj => by
    have h1 := wipe_get σ' vs j
    have h2 := wipe_get σ vs j
    rw [if_neg (fun z => hj z.1)] at h1 h2
    rw [← h1, w, h2]
  exact ⟨o.d, o.g, e, by rw [key _ hr]; exact o.s0, (fun p hp => nomatch hp), o.ap⟩
theorem Wg.gr (o : Wg T S P c σ B H ρ) (g : Gr B H B' H') : Wg T S P c σ B' H' ρ := ⟨o.iv.gr g, o.sl, o.p, o.tb, o.rl⟩
theorem Wg.less (o : Wg T S P c σ B H ρ) (k : Rle ρ' ρ) : Wg T S P c σ B H ρ' := ⟨o.iv.less k, o.sl, o.p, o.tb, o.rl⟩
theorem Wg.set {v : V} (o : Wg T S P c σ B H ρ) (dv : DH B v d) (hr : i ≠ c.r) (hs : ∀ p ∈ S, i ≠ p.1) : Wg T S P c (σ.set i (some v)) B H (ρ.set i (some d)) :=
  ⟨o.iv.set dv hr (fun p hp => nomatch hp), fun p hp => by rw [List.getElem?_set_ne (hs p hp)]; exact o.sl p hp, o.p, o.tb, o.rl⟩
theorem Wg.p' (pw : PW c.l P) (o : Wg T S P c σ B H ρ) : P B H := pw.gw _ _ _ _ o.p o.iv.g
theorem Wg.tabs (o : Wg T S P c σ B H ρ) : LamX.Tabs T H := by
  obtain ⟨x, y, z, h⟩ := o.rl
  exact tabs_wR o.tb h o.iv.g
/-- told anew of a base and a heap -/
theorem Wg.anew (hr : CKr r l sc ns c K) (o : Wg T S P c σ B H ρ) (d' : Dr c.K c.l c.sc c.ns B' H') (e : EnvD σ B' ρ') (p' : P' B' H') (tb : LamX.Tabs T H') : ∃ c', CKr r l sc ns c' K ∧ Wg T S P' c' σ B' H' ρ' := by
  obtain ⟨x, y, z, h1, h2⟩ := d'.row
  exact ⟨⟨c.K, c.r, c.l, c.sc, c.ns, B', H'⟩, ⟨hr.r, hr.K, hr.l, hr.sc, hr.ns⟩, ⟨d', ⟨Ex.refl B', fun z u _ e => e, fun z e _ => e⟩, e, o.iv.s0, (fun p hp => nomatch hp), (fun p hp => nomatch hp)⟩, o.sl, p', tb, x, y, z, h1⟩
theorem Wg.drLam {H1 : Hp} (o : Wg T S P c σ B H ρ) (x : LamX.ExtN H H1) : Dr c.K c.l c.sc c.ns (noTbl B) H1 := by
  obtain ⟨x1, y1, z1, h1, h2⟩ := o.iv.d.row
  refine ⟨noTbl_extN o.iv.d.t x, ⟨x1, y1, z1, x _ _ h1 (fun _ z => nomatch z), h2⟩, ?_, noTbl_none o.iv.d.nl⟩
  rcases o.iv.d.scr with (e | ⟨u, e⟩) | e
  · exact .inl (.inl (noTbl_of e (fun _ z => nomatch z)))
  · exact .inl (.inr ⟨u, noTbl_of e (fun _ z => nomatch z)⟩)
  · exact .inr e
/-- a lambda was made -/
theorem Wg.lam {H1 : Hp} (hr : CKr r l sc ns c K) (pw : PW l P) (o : Wg T S P c σ B H ρ) (x : LamX.ExtN H H1) (tb : LamX.Tabs T H1) : ∃ c', CKr r l sc ns c' K ∧ Wg T S P c' σ (noTbl B) H1 ρ := by
  have pw0 := pw
  rw [← hr.l] at pw0
  have ev1 : EnvD σ (noTbl B) ρ := ⟨o.iv.e.len, fun i z q => let ⟨v, a, b⟩ := o.iv.e.get i z q; ⟨v, a, b.noTbl⟩⟩
  exact o.anew (P' := P) hr (o.drLam x) ev1 (pw.lam _ _ _ (o.p' pw0) x) tb
theorem GrM.dr {C : Addr} {a : BAd} {b : BSt} {ns' : List Int} {sc' : Addr} (d : Dr K l sc' ns' B H) (bo : Bo C a B H b) (hl : l ∉ a.l) (t : Ex B' H') (g : GrM a B H B' H') : Dr K l sc' ns' B' H' := by
  obtain ⟨x, y, z, h1, h2⟩ := d.row
  exact ⟨t, ⟨x, y, z, g.h _ _ hl h1, h2⟩, g.b.seqL d.scr, g.n _ d.nl d.nn⟩
theorem wg_asg {g : TG} {Pd : PyData → Prop} {ρ1 : PyData → Rho} (o : Wg T S P c σ B H ρ) (h : EI c te ρ [] Pd) (hg : ∀ d, Pd d → GD g ρ d (ρ1 d) vs) (hr : c.r ∉ vs) (hs : ∀ p ∈ S, p.1 ∉ vs)
    (k : ∀ d, Pd d → ∀ σ' B' H', Wg T S P c σ' B' H' (ρ1 d) → D.nx σ' H') : tAsg te g D σ H := by
  refine h _ σ B H o.iv _ fun v d B2 H2 o2 ex2 dv hd => ?_
  refine hg d hd σ B2 H2 v o2.d.t o2.e dv _ fun σ' ev w => k d hd σ' B2 H2 ⟨o2.env ev w hr, fun p hp => ?_, o.p, o.tb, o.rl⟩
  have h1 := wipe_get σ' vs p.1
  have h2 := wipe_get σ vs p.1
  rw [if_neg (fun z => hs p hp z.1)] at h1 h2
  rw [← h1, w, h2]
  exact o.sl p hp
theorem ei_ifP {b : Bool} {Pd : PyData → Prop} (h : ET tt ρ b) (h1 : b = true → EI c te ρ [] Pd) (h2 : b = false → EI c tb ρ [] Pd) : EI c (tIf tt te tb) ρ [] Pd := fun A σ B H o Q q => by
  refine h σ B H o.d.t o.e _ fun B1 H1 g => ?_
  cases b with
  | true => exact h1 rfl A σ B1 H1 (o.gr g) Q fun v d B' H' o' ex => q v d B' H' o' (g.b.trans ex)
  | false => exact h2 rfl A σ B1 H1 (o.gr g) Q fun v d B' H' o' ex => q v d B' H' o' (g.b.trans ex)
variable {os : OS}
theorem ei_lst {P' : List PyData → Prop} (h : AI c ta ρ os P') (hl : ∀ ds, P' ds → ds.length ≤ 100000) : EI c (tLst ta) ρ os (fun d => ∃ ds, d = .list ds ∧ P' ds) := fun A σ B H o Q q => by
  refine h A σ B H o _ fun vs ds B1 H1 o1 ex1 d1 p1 => ⟨?_, fun p hp => ?_⟩
  · rw [d1.length]
    exact Nat.le_trans (hl ds p1) (by decide)
  · have g := Gr.new (o := .lst vs) o1.d.t hp
    exact q _ _ _ _ (o1.gr g) (ex1.trans g.b) (.lst upd_same (d1.mono g.b)) ⟨ds, rfl, p1⟩
theorem ei_drawN {m : Int} (hr : CK c K) (h : EI c te ρ os (· = .int m)) (h1 : 1 ≤ m) (h2 : m ≤ 1000) : EI c (tCallD (spW K P_taken R_taken) (tCons (tVar 0) (tCons te tNil))) ρ os (fun d => ∃ n : Nat, d = .int n ∧ (n : Int) < m) := by
  obtain ⟨h0, rfl⟩ := hr
  have := ei_drawI h h1 h2
  rw [h0] at this
  exact this

/-- what the law's word wants of an exception class -/
structure XcOk (K : PySem.W.Frag) (mg : Str → Option Value) (C CH : Addr) (cA : Str → Addr) (i : Nat) : Prop where
  w : WordS K mg C CH cA
  k : KindX K C CH cA i
/-- a lambda that calls a method of the bench, which raises -/
theorem wg_lam {mg : Str → Option Value} {C CE CH : Addr} {cA : Str → Addr} {a : BAd} {b : BSt} {m : Str} {jb ja n : Nat} {R : BSt → List PyData → BSt → PyData → Prop} {Y : BSt → List PyData → Addr → List (Str × V) → Bool → Prop} {fs : List (Str × V)} {hd : Bool} {z : PyData} (hr : CKr r l sc ns c K) (pw : PW l P) (o : Wg T S P c σ B H ρ)
    (hS : (jb, a.x) ∈ S) (hP : ∀ B H, P B H → Bo C a B H b ∧ ∀ z ∈ a.l, B z = none) (hC : ∀ B H B' H', P B H → Ex B' H' → Bo C a B' H' b → (∀ z ∈ a.l, B' z = none) → GrM a B H B' H' → P B' H') (hl : l ∉ a.l)
    (hm : ∀ vh vn vb vi, (bFs vh vn vb vi a).lookup m = none) (hja : ρ[ja]? = some (some d)) (hY : Y b [d] CE fs hd) (hx : XcOk K mg CE CH cA n) (h7 : n < 7 → hd = true) (hz : ToldW n fs z)
    (k : ∀ c' v B' H', CKr r l sc ns c' K → Wg T S P c' σ B' H' ρ → Ex (noTbl B) B' → DH B' v z → Q v H') : LamX.tLam T (TTX K mg CH cA) (fun E => tMeth C m (spY C R Y) [] E (tVar jb) (tCons (tVar ja) tNil)) σ H Q := by
  refine ⟨o.tabs, fun H1 x1 tb1 => ?_⟩
  obtain ⟨c1, hr1, o1⟩ := o.lam hr pw x1 tb1
  have p1 := o1.p' (by rw [hr1.l]; exact pw)
  obtain ⟨bo, out⟩ := hP _ _ p1
  obtain ⟨vh, vn, vb, vi, i1, i2, i3⟩ := bo.ins
  refine ⟨_, o1.sl _ hS, a.x, a.dx, _, rfl, i1, hm _ _ _ _, ?_⟩
  obtain ⟨v, e, dv⟩ := o1.iv.e.get ja d hja
  refine ⟨v, e, ?_⟩
  refine ⟨noTbl B, a, b, [v], [d], rfl, o1.iv.d.t, bo, out, .cons dv .nil, .inr ⟨CE, fs, hd, hY, fun dc B' H' hdc hfs t' bo' out' gm' => ?_⟩⟩
  have d' := GrM.dr o1.iv.d bo (by rw [hr1.l]; exact hl) t' gm'
  obtain ⟨c2, hr2, o2⟩ := o1.anew (P' := P) hr1 d' (o1.iv.e.mono gm'.b) (hC _ _ _ _ p1 t' bo' out' gm') (tabs_M tb1 bo gm')
  refine ⟨CE, n, fs, z, B', rfl, hx.w, hx.k, fun h => hdc (h7 h), hfs, hz, t', fun v B'' H'' g dv => ?_⟩
  exact k c2 v B'' H'' hr2 (o2.gr g) (gm'.b.trans g.b) dv
end
/-! ### a step, mostly such as may be done -/
def P_any (ds : List PyData) : Prop := ∃ h s i, HallOk h ∧ StOk h s ∧ ds = [hallD h, standD s, .int i]
def R_any (ds : List PyData) (d : PyData) : Prop := ∀ h s i, ds = [hallD h, standD s, .int i] → ∃ (k : Nat) (w : Sg), k < s.cells.length ∧ Way w ∧ d = stepD k w
theorem rp_L_any_step {K : PySem.W.Frag} {vs : List V} {H : Hp} {Q : VK} {E : XK} (hsp : spW K P_any R_any vs H Q E) : rd_L_any_step K (spR R_moves) (spW K P_taken R_taken) { nx := fun _ H' => Q .non H', rt := Q } (L2.start ["_law_row", "_law_hall_here", "_law_now", "_law_way", "_law_some", "_law_step_here", "_law_one"] vs) H := by
  obtain ⟨c, ds, hr, ⟨h, s, iw, ho, so, rfl⟩, o, q⟩ := iv_start hsp "_law_row" ["_law_hall_here", "_law_now", "_law_way", "_law_some", "_law_step_here", "_law_one"] (fun ds ⟨h, s, i, _, _, e⟩ => by rw [e]; simp)
  generalize L2.start ["_law_row", "_law_hall_here", "_law_now", "_law_way", "_law_some", "_law_step_here", "_law_one"] vs = σ at o ⊢
  have o0 : Iv c (fun _ => 0) σ c.B1 H [none, some (hallD h), some (standD s), some (.int iw), none, none, none] [] := o _
  have hrn : ∀ i : Nat, 1 ≤ i → i ≠ c.r := fun i hi => by rw [hr.1]; omega
  have hcl := so.cells.most
  have hcp : 1 ≤ s.cells.length := by
    have := so.cells.pos
    cases hq : s.cells with
    | nil => exact absurd hq this
    | cons => simp
  have hs1 := stok_sok ho so
  have hml := movesD_len h _ hs1.ncells
  unfold rd_L_any_step
  refine go_seq ?_
  have hsome : ED (tLc (iList K (tCallD (spR R_moves) (tCons (tVar 1) (tCons (tVar 2) tNil)))) (gName 6) tYes (tOp (rIx K) (tVar 6) (tC (.int 0))) [6]) [none, some (hallD h), some (standD s), some (.int iw), none, none, none] (.list ((movesD h s).map fstD)) := by
    refine ed_lcM (movesD h s) (fun d => d) fstD ?_ (Nat.le_trans hml (by omega)) fun d hd => ⟨_, gd_name (i := 6) (by simp), ?_⟩
    · rw [List.map_id']
      exact ie_list (ed_call (ea_cons (ed_var rfl) (ea_cons (ed_var rfl) ea_nil)) (.mk h s hs1))
    · obtain ⟨m, rfl⟩ := movesD_shape _ _ d hd
      exact ed_op (ed_var rfl) ed_int (r2_ixT rfl)
  refine go_asg (P := (· = .list ((movesD h s).map fstD))) o0 (ei_pure hsome) (hrn _ (by decide)) (fun p hp => nomatch hp) ?_
  rintro d rfl σ B H o
  have o : Iv c (fun _ => 0) σ B H [none, some (hallD h), some (standD s), some (.int iw), some (.list ((movesD h s).map fstD)), none, none] [] := o
  dsimp only
  refine go_seq ?_
  refine go_asg (P := fun d => ∃ (k : Nat) (w : Sg), k < s.cells.length ∧ Way w ∧ d = stepD k w) o ((ei_tup (ai_cons (ei_drawN (K := K) hr (m := ((s.cells.map cellD).length : Nat)) (ei_pure (ed_cb (ea_cons (ed_op (ed_var (d := standD s) rfl) ed_int (r2_ixT (d := cellsD s.cells) rfl)) ea_nil) rc_lenT)) (by rw [List.length_map]; omega) (by rw [List.length_map]; omega)) fun _ _ => ai_cons (ei_ensw (K := K) hr) fun _ _ => ai_nil) ?_).imp ?_) (hrn _ (by decide)) (fun p hp => nomatch hp) ?_
  · rintro ds ⟨d, es, rfl, _, e, es2, rfl, _, rfl⟩
    simp
  · rintro d ⟨ds1, rfl, d2, es2, rfl, ⟨a, rfl, ha⟩, d3, es3, rfl, ⟨w, rfl, hw⟩, rfl⟩
    rw [List.length_map] at ha
    exact ⟨a, w, by omega, hw, rfl⟩
  rintro d ⟨k, w, hk, hw, rfl⟩ σ B H o
  have o : Iv c (fun _ => 0) σ B H [none, some (hallD h), some (standD s), some (.int iw), some (.list ((movesD h s).map fstD)), some (stepD k w), none] [] := o
  dsimp only
  have hsh := nice_sh (nice_mv hs1) (by decide)
  have ht : ET (tAnd (tTest (tOp (rNeD K) (tVar 4) (tLst tNil))) (tTest (tOp rLtI (tVar 3) (tC (.int 4))))) [none, some (hallD h), some (standD s), some (.int iw), some (.list ((movesD h s).map fstD)), some (stepD k w), none] ((!PyData.eqv (.list ((movesD h s).map fstD)) (.list [])) && decide (iw < 4)) :=
    et_and (et_test (ed_op (ed_var rfl) (ed_lst ea_nil (by simp)) (r2_ne hsh (sh_edgesL [])))) fun _ => et_test (ed_op (ed_var rfl) ed_int r2_lt)
  refine go_ret (P := fun d => ∃ (k : Nat) (w : Sg), k < s.cells.length ∧ Way w ∧ d = stepD k w) o (ei_ifP ht (fun hb => ?_) (fun _ => (ei_pure (ed_var rfl)).imp fun d e => ⟨k, w, hk, hw, e⟩)) fun v d B' H' o' dv hd => ?_
  · rw [Bool.and_eq_true] at hb
    have hne : movesD h s ≠ [] := fun z => by
      have := hb.1
      rw [z] at this
      simp [PyData.eqv, PyData.eqvAll] at this
    have hlen : 1 ≤ (movesD h s).length := by
      cases hq : movesD h s with
      | nil => exact absurd hq hne
      | cons => simp
    refine ei_op (ei_pure (ed_var rfl)) (fun _ _ => ei_drawN (K := K) hr (m := (((movesD h s).map fstD).length : Nat)) (ei_pure (ed_cb (ea_cons (ed_var rfl) ea_nil) rc_lenL)) (by rw [List.length_map]; omega) (by rw [List.length_map]; omega)) ?_
    rintro a b rfl ⟨i, rfl, hi⟩
    have hi2 : i < (movesD h s).length := by
      rw [List.length_map] at hi
      omega
    obtain ⟨k, w, p, hk, hw, _, e⟩ := moves_ok (h := h) (s := s) _ (List.getElem_mem hi2)
    exact ⟨stepD k w, r2_ixL (atI_nat (by rw [List.getElem?_map, List.getElem?_eq_getElem hi2, e]; rfl)), k, w, hk, hw, rfl⟩
  · refine q _ σ v d B' H' _ _ ?_ o' dv
    rintro h' s' i' e
    injection e with e1 e
    injection e with e2 _
    cases standD_injD e2
    exact hd
end Pd

/-! SemG8 -/
set_option Elab.async false
set_option linter.all false
set_option maxRecDepth 100000
set_option maxHeartbeats 4000000
namespace Pd
open PySem PySem.Spec PyProof.Rows L2 PySem.W
local macro_rules | `(tactic| walk_at "ed") => `(tactic| repeat' (first
  | with_reducible (first
    | exact ed_int | exact ed_str | exact ed_bl | exact ed_non
    | exact ea_nil | refine' ea_cons ?_ ?_
    | refine' ed_isi ?_ ?_ | refine' ed_isi2 ?_ ?_ ?_
    | refine' ed_andV ?_ (fun _ => ?_) | refine' ed_orV ?_ (fun _ => ?_) | refine' ed_notV ?_
    | refine' ed_chain ?_ ?_ ?_ (fun _ => ⟨?_, ?_⟩)
    | refine' ed_tup ?_ ?_ | refine' ed_lst ?_ ?_
    | refine' et_not ?_ | refine' et_and ?_ (fun _ => ?_) | refine' et_or ?_ (fun _ => ?_) | exact et_yes
    | refine' et_test ?_ | refine' et_B ?_
    | refine' ed_op ?_ ?_ ?_
    | refine' ed_cb ?_ ?_)
  | exact ed_var rfl
  | exact kit_tt | exact kit_ii | exact kit_ib | exact kit_ll | exact kit_lt | exact kit_tl
  | exact r2_addI | exact r2_subI | exact r2_lt | exact r2_le | exact r2_gt | exact r2_ge | exact r2_isN | exact r2_notN
  | exact rc_lenT | exact rc_lenL | exact rc_intB | exact rc_tupL
  | with_reducible (first | refine' r2_eq ?_ ?_ | refine' r2_ne ?_ ?_)
  | exact sh_int _ | exact sh_sg _ | exact sh_cell _ | exact sh_edge _ | exact sh_pair _ | exact sh_str _ (by decide +kernel)
  | exact r2_ixT rfl | exact r2_ixL rfl
  | refine' ed_tup ?_ ?_
  | (show List.length _ ≤ 100000; simp; done)))
/-! ### what a bench refuses -/
structure GX (a : BAd) (l : Addr) (B0 H0 B H : Hp) : Prop where
  b : Ex (noTbl B0) B
  h : ∀ z u, z ∉ a.l → z ≠ l → H0 z = some u → (∀ ps, u ≠ .tbl ps) → H z = some u
  n : ∀ z u, z ∉ a.l → z ≠ l → B0 z = none → H0 z = some u → (∀ ps, u ≠ .tbl ps) → B z = none
theorem GX.refl (a : BAd) (l : Addr) (B H : Hp) : GX a l B H B H := ⟨noTbl_ex B, fun z u _ _ e _ => e, fun z u _ _ e _ _ => e⟩
theorem GX.gw {a : BAd} {l : Addr} {B0 H0 B H B' H' : Hp} (g : GX a l B0 H0 B H) (k : GrW l B H B' H') : GX a l B0 H0 B' H' :=
  ⟨g.b.trans k.b, fun z u h1 h2 e h3 => k.h z u h2 (g.h z u h1 h2 e h3), fun z u h1 h2 e0 e h3 => k.n z (g.n z u h1 h2 e0 e h3) (by rw [g.h z u h1 h2 e h3]; exact fun z => nomatch z)⟩
theorem GX.lam {a : BAd} {l : Addr} {B0 H0 B H H1 : Hp} (g : GX a l B0 H0 B H) (x : LamX.ExtN H H1) : GX a l B0 H0 (noTbl B) H1 := by
  refine ⟨fun c o h => ?_, fun z u h1 h2 e h3 => x _ _ (g.h z u h1 h2 e h3) h3, fun z u h1 h2 e0 e h3 => noTbl_none (g.n z u h1 h2 e0 e h3)⟩
  refine noTbl_of (g.b c o h) fun ps z => ?_
  subst z
  unfold noTbl at h
  split at h
  · cases h
  · rename_i h4
    exact h4 ps h
theorem GX.m {a : BAd} {l : Addr} {B0 H0 B H B' H' : Hp} (g : GX a l B0 H0 B H) (k : GrM a B H B' H') : GX a l B0 H0 B' H' :=
  ⟨g.b.trans k.b, fun z u h1 h2 e h3 => k.h z u h1 (g.h z u h1 h2 e h3), fun z u h1 h2 e0 e h3 => k.n z (g.n z u h1 h2 e0 e h3) (by rw [g.h z u h1 h2 e h3]; exact fun z => nomatch z)⟩
def sp_refuses (K : PySem.W.Frag) (C : Addr) (T : List (Addr × Str)) : Sp := fun vs H Q _ => ∃ l sc ns B a h s0 es pts, vs = [.ref l, .ref a.x] ∧ Dr K l sc ns B H ∧ Bo C a B H ⟨hallD h, nowD s0 es, es.map evTrail, bPts s0 pts⟩ ∧ (∀ z ∈ a.l, B z = none) ∧ l ∉ a.l ∧ LamX.Tabs T H ∧ HallOk h ∧ StOk h s0 ∧ Hist h s0 es ∧ PtsOk h s0 40 pts ∧
  ∀ B' H', GX a l B H B' H' → Dr K l sc ns B' H' → Bo C a B' H' ⟨hallD h, nowD s0 es, es.map evTrail, bPts s0 pts⟩ → (∀ z ∈ a.l, B' z = none) → LamX.Tabs T H' → Q (.bl true) H'
def BadV (d : PyData) : Prop := (∃ x : Str, d = .str x ∧ nameB x = false ∧ x.length ≤ 1000 ∧ x ∉ NM) ∨ NotS d
def bads : List PyData := [.str "", .str "A", .str "abcdefghi", .str "a b", .int 5, .none, .bool true, .tuple [.str "a"]]
theorem bads_ok : ∀ d ∈ bads, BadV d := by
  intro d hd
  simp only [bads, List.mem_cons, List.not_mem_nil, or_false] at hd
  rcases hd with rfl | rfl | rfl | rfl | rfl | rfl | rfl | rfl
  · exact .inl ⟨_, rfl, by decide +kernel, by decide +kernel, by decide +kernel⟩
  · exact .inl ⟨_, rfl, by decide +kernel, by decide +kernel, by decide +kernel⟩
  · exact .inl ⟨_, rfl, by decide +kernel, by decide +kernel, by decide +kernel⟩
  · exact .inl ⟨_, rfl, by decide +kernel, by decide +kernel, by decide +kernel⟩
  · exact .inr (.int 5)
  · exact .inr .non
  · exact .inr (.bl true)
  · exact .inr (.tup _)
theorem BadV.name {d : PyData} (h : BadV d) : R_is_name [d] (.bool false) := by
  rcases h with ⟨x, rfl, h1, h2, _⟩ | h
  · have := R_is_name.str x h2
    rw [h1] at this
    exact this
  · exact .no h
theorem BadV.go {C CP : Addr} {d : PyData} {hd now : PyData} {tr : List PyData} {h : Hall} {s0 : Stand} {n : Nat} {pts : List (Str × List Ev)} (o : PtsOk h s0 n pts) (x : BadV d) : Y_B_go CP ⟨hd, now, tr, bPts s0 pts⟩ [d] CP [] false := by
  rcases x with ⟨x, rfl, _, _, h3⟩ | x
  · refine .str _ x ?_
    unfold bPts
    show ptGet (pts.map fun p => (p.1, bMark s0 p.2)) x = none
    rw [ptGet_map]
    cases q : ptGet pts x with
    | none => rfl
    | some e => exact absurd (o.all _ (ptGet_mem q)).1 h3
  · exact .no _ _ x
def odds : List Item := [.lst, .odd, .non, .far]
theorem rp_L_refuses {K : PySem.W.Frag} {mg : Str → Option Value} {C CS CN CP CH PT PR : Addr} {cA : Str → Addr} {vs : List V} {H : Hp} {Q : VK} {E : XK} (hxS : XcOk K mg CS CH cA 2) (hxN : XcOk K mg CN CH cA 10) (hxP : XcOk K mg CP CH cA 11) (hsp : sp_refuses K C (lawT PT PR) vs H Q E) :
    rd_L_refuses K (LamX.tLam (lawT PT PR) (TTX K mg CH cA) (fun E => tMeth C "mark" (spY C R_B_mark (Y_B_mark CN)) [] E (tVar 1) (tCons (tVar 3) tNil))) (LamX.tLam (lawT PT PR) (TTX K mg CH cA) (fun E => tMeth C "go" (spY C R_B_go (Y_B_go CP)) [] E (tVar 1) (tCons (tVar 3) tNil))) (LamX.tLam (lawT PT PR) (TTX K mg CH cA) (fun E => tMeth C "step" (spY C R_B_step (Y_B_step CS)) [] E (tVar 1) (tCons (tVar 4) tNil)))
      (spW K P_taken R_taken) { nx := fun _ H' => Q .non H', rt := Q } (L2.start ["_law_row", "_law_bench", "_law_words", "_law_bad", "_law_odd"] vs) H := by
  obtain ⟨l, sc, ns, B0, a, h, s0, es, pts, rfl, dr, bo0, out0, hl, tb0, ho, so, hi, po, q⟩ := hsp
  have hok := (hi.ok so es.length).1
  have sk := stok_sok ho hok
  have pw : PW l (fun B H' => (Bo C a B H' ⟨hallD h, nowD s0 es, es.map evTrail, bPts s0 pts⟩ ∧ ∀ z ∈ a.l, B z = none) ∧ GX a l B0 H B H') := by
    refine ⟨fun B H1 B' H' ⟨⟨p1, p2⟩, p3⟩ g => ⟨⟨p1.mono g.b fun z hz u e => g.h z u (fun w => hl (by rw [← w]; exact hz)) e, fun z hz => g.n z (p2 z hz) (p1.nn z hz).1⟩, p3.gw g⟩, fun B H1 H2 ⟨⟨p1, p2⟩, p3⟩ x => ⟨⟨p1.lam x, fun z hz => noTbl_none (p2 z hz)⟩, p3.lam x⟩⟩
  have hP : ∀ B H1, ((Bo C a B H1 ⟨hallD h, nowD s0 es, es.map evTrail, bPts s0 pts⟩ ∧ ∀ z ∈ a.l, B z = none) ∧ GX a l B0 H B H1) → Bo C a B H1 ⟨hallD h, nowD s0 es, es.map evTrail, bPts s0 pts⟩ ∧ ∀ z ∈ a.l, B z = none := fun B H1 p => p.1
  have hC : ∀ B H1 B' H', ((Bo C a B H1 ⟨hallD h, nowD s0 es, es.map evTrail, bPts s0 pts⟩ ∧ ∀ z ∈ a.l, B z = none) ∧ GX a l B0 H B H1) → Ex B' H' → Bo C a B' H' ⟨hallD h, nowD s0 es, es.map evTrail, bPts s0 pts⟩ → (∀ z ∈ a.l, B' z = none) → GrM a B H1 B' H' → (Bo C a B' H' ⟨hallD h, nowD s0 es, es.map evTrail, bPts s0 pts⟩ ∧ ∀ z ∈ a.l, B' z = none) ∧ GX a l B0 H B' H' := fun B H1 B' H' p t bo out g => ⟨⟨bo, out⟩, p.2.m g⟩
  obtain ⟨x0, y0, z0, hrow, hro⟩ := dr.row
  have o : Wg (lawT PT PR) [(1, a.x)] (fun B H' => (Bo C a B H' ⟨hallD h, nowD s0 es, es.map evTrail, bPts s0 pts⟩ ∧ ∀ z ∈ a.l, B z = none) ∧ GX a l B0 H B H') ⟨K, 0, l, sc, ns, B0, H⟩ (L2.start ["_law_row", "_law_bench", "_law_words", "_law_bad", "_law_odd"] [.ref l, .ref a.x]) B0 H [none, none, none, none, none] := by
    refine ⟨⟨dr, ⟨Ex.refl B0, fun _ _ _ e => e, fun _ e _ => e⟩, ⟨rfl, fun i d e => ?_⟩, rfl, (fun p hp => nomatch hp), (fun p hp => nomatch hp)⟩, fun p hp => ?_, ⟨⟨bo0, out0⟩, GX.refl a l B0 H⟩, tb0, x0, y0, z0, hrow⟩
    · have e : (List.replicate 5 (none : Option PyData))[i]? = some (some d) := e
      rw [List.getElem?_replicate] at e
      split at e <;> cases e
    · rw [List.mem_singleton.mp hp]
      rfl
  have hr : CKr 0 l sc ns ⟨K, 0, l, sc, ns, B0, H⟩ K := ⟨rfl, rfl, rfl, rfl, rfl⟩
  generalize L2.start ["_law_row", "_law_bench", "_law_words", "_law_bad", "_law_odd"] [.ref l, .ref a.x] = σ at o ⊢
  generalize hcc : (⟨K, 0, l, sc, ns, B0, H⟩ : Cfg) = c at o hr
  unfold rd_L_refuses
  refine go_seq ?_
  have hbl : ED (tLst (tCons (tC (.str "")) (tCons (tC (.str "A")) (tCons (tC (.str "abcdefghi")) (tCons (tC (.str "a b")) (tCons (tC (.int 5)) (tCons (tC .non) (tCons (tC (.bl true)) (tCons (tTup (tCons (tC (.str "a")) tNil)) tNil))))))))) [none, none, none, none, none] (.list bads) :=
    ed_lst (ds := bads) (ea_cons ed_str (ea_cons ed_str (ea_cons ed_str (ea_cons ed_str (ea_cons ed_int (ea_cons ed_non (ea_cons ed_bl (ea_cons (ed_tup (ea_cons ed_str ea_nil) (by simp)) ea_nil)))))))) (by simp [bads])
  refine wg_asg (vs := [3]) (Pd := BadV) (ρ1 := fun d => [none, none, none, some d, none]) o (ei_op (Pa := (· = .list bads)) (ei_pure hbl) (fun _ _ => ei_drawN (K := K) (m := 8) ⟨hr.r, hr.K⟩ (ei_pure ed_int) (by decide) (by decide)) ?_) (fun d hd => gd_name (i := 3) (by simp)) (by rw [hr.r]; decide) (fun p hp => by rw [List.mem_singleton.mp hp]; show (1 : Nat) ∉ [3]; decide) ?_
  · rintro x y rfl ⟨n, rfl, hn⟩
    have hn2 : n < bads.length := by show n < 8; omega
    exact ⟨bads[n], r2_ixL (atI_nat (List.getElem?_eq_getElem hn2)), bads_ok _ (List.getElem_mem hn2)⟩
  rintro d hbad σ B H1 o
  dsimp only
  refine go_seq ?_
  delta tAsg tLst
  refine wg_lam (m := "mark") (d := d) hr pw o (.head _) hP hC hl (fun _ _ _ _ => nMark) rfl (.mk _ d hbad.name) hxN (fun w => absurd w (by decide)) (.word 10 "name" [] (by decide) rfl) fun c v1 B H1 hr o ex1 d1 => ?_
  refine wg_lam (m := "go") (d := d) hr pw o (.head _) hP hC hl (fun _ _ _ _ => nGo) rfl (BadV.go (C := C) po hbad) hxP (fun w => absurd w (by decide)) (.word 11 "point" [] (by decide) rfl) fun c v2 B2 H2 hr o ex2 d2 => ?_
  have d1 := d1.noTbl.mono ex2
  refine ⟨by show 2 ≤ sizeLine; decide, fun p hp => ?_⟩
  have g3 := Gr.new (o := .lst [v1, v2]) o.iv.d.t hp
  have o := (o.gr g3).set (i := 2) (v := .ref p) (d := .list [.tuple [.str "name"], .tuple [.str "point"]]) (.lst upd_same (.cons (d1.mono g3.b) (.cons (d2.mono g3.b) .nil))) (by rw [hr.r]; decide) (fun p hp => by rw [List.mem_singleton.mp hp]; show (2 : Nat) ≠ 1; decide)
  have o : Wg (lawT PT PR) [(1, a.x)] _ c (σ.set 2 (some (.ref p))) _ _ [none, none, some (.list [.tuple [.str "name"], .tuple [.str "point"]]), some d, none] := o
  show Ends.nx _ (σ.set 2 (some (.ref p))) _
  generalize σ.set 2 (some (.ref p)) = σ at o ⊢
  dsimp only
  refine go_seq ?_
  have hol : ED (tLst (tCons (tLst (tCons (tC (.int 0)) (tCons (tC (.str "e")) tNil))) (tCons (tTup (tCons (tC (.int 0)) (tCons (tC (.str "x")) tNil))) (tCons (tC .non) (tCons (tTup (tCons (tC (.int 9)) (tCons (tC (.str "e")) tNil))) tNil))))) [none, none, some (.list [.tuple [.str "name"], .tuple [.str "point"]]), some d, none] (.list (odds.map Item.d)) :=
    ed_lst (ds := odds.map Item.d) (ea_cons (ed_lst (ea_cons ed_int (ea_cons ed_str ea_nil)) (by simp)) (ea_cons (ed_tup (ea_cons ed_int (ea_cons ed_str ea_nil)) (by simp)) (ea_cons ed_non (ea_cons (ed_tup (ea_cons ed_int (ea_cons ed_str ea_nil)) (by simp)) ea_nil)))) (by simp [odds])
  refine wg_asg (vs := [4]) (Pd := fun z => ∃ x ∈ odds, z = x.d) (ρ1 := fun z => [none, none, some (.list [.tuple [.str "name"], .tuple [.str "point"]]), some d, some z]) o (ei_op (Pa := (· = .list (odds.map Item.d))) (ei_pure hol) (fun _ _ => ei_drawN (K := K) (m := 4) ⟨hr.r, hr.K⟩ (ei_pure ed_int) (by decide) (by decide)) ?_) (fun d hd => gd_name (i := 4) (by simp)) (by rw [hr.r]; decide) (fun p hp => by rw [List.mem_singleton.mp hp]; show (1 : Nat) ∉ [4]; decide) ?_
  · rintro x y rfl ⟨n, rfl, hn⟩
    have hn2 : n < odds.length := by show n < 4; omega
    exact ⟨odds[n].d, r2_ixL (atI_nat (by rw [List.getElem?_map, List.getElem?_eq_getElem hn2]; rfl)), _, List.getElem_mem hn2, rfl⟩
  rintro z ⟨x, hx, rfl⟩ σ B H1 o
  dsimp only
  have hxo : tryI h (stAt s0 es es.length) x = none ∧ x.ok (stAt s0 es es.length).cells.length := by
    have := hok.cells.most
    simp only [odds, List.mem_cons, List.not_mem_nil, or_false] at hx
    rcases hx with rfl | rfl | rfl | rfl
    · exact ⟨rfl, trivial⟩
    · exact ⟨rfl, trivial⟩
    · exact ⟨rfl, trivial⟩
    · exact ⟨rfl, by show (stAt s0 es es.length).cells.length ≤ 9; omega⟩
  have hcp : 1 ≤ (stAt s0 es es.length).cells.length := by
    have := hok.cells.pos
    cases q : (stAt s0 es es.length).cells with
    | nil => exact absurd q this
    | cons _ _ => simp
  obtain ⟨w2, e2, dw2⟩ := o.iv.e.get 2 _ rfl
  refine ⟨w2, e2, ?_⟩
  refine wg_lam (m := "step") (d := x.d) hr pw o (.head _) hP hC hl (fun _ _ _ _ => nStep) rfl (Y_B_step.mk h _ x _ _ sk hxo.2 hcp hxo.1) hxS (fun _ => rfl) (.num 2 "step" [("number", V.int 0)] 0 (by decide) rfl (by simp [List.lookup])) fun c v5 B5 H5 hr o ex5 d5 => ?_
  have dw2 := dw2.noTbl.mono ex5
  refine ⟨by show 1 ≤ sizeLine; decide, fun p hp => ?_⟩
  have g6 := Gr.new (o := .lst [v5]) o.iv.d.t hp
  have o := o.gr g6
  refine r2_catL (K := K) (ds := [.tuple [.str "name"], .tuple [.str "point"]]) (es := [.tuple [.str "step", .int 0]]) (by simp) _ _ w2 (.ref p) o.iv.d.t (dw2.mono g6.b) (.lst upd_same (.cons (d5.mono g6.b) .nil)) _ fun u B7 H7 g7 du => ?_
  have o := o.gr g7
  have hdue : ED (fun σ H Q => tLst (tCons (tTup (tCons (tC (.str "name")) tNil)) (tCons (tTup (tCons (tC (.str "point")) tNil)) (tCons (tTup (tCons (tC (.str "step")) (tCons (tC (.int 0)) tNil))) tNil))) σ H Q) [none, none, some (.list [.tuple [.str "name"], .tuple [.str "point"]]), some d, some x.d] (.list [.tuple [.str "name"], .tuple [.str "point"], .tuple [.str "step", .int 0]]) :=
    ed_lst (ea_cons (ed_tup (ea_cons ed_str ea_nil) (by simp)) (ea_cons (ed_tup (ea_cons ed_str ea_nil) (by simp)) (ea_cons (ed_tup (ea_cons ed_str (ea_cons ed_int ea_nil)) (by simp)) ea_nil))) (by simp)
  have hn : Nice 3 (.list [.tuple [.str "name"], .tuple [.str "point"], .tuple [.str "step", .int 0]]) := by
    have ns : ∀ y ∈ (["name", "point", "step"] : List Str), PyData.strOk y = true := by decide +kernel
    refine nice_lst (by simp) fun y hy => ?_
    simp only [List.mem_cons, List.not_mem_nil, or_false] at hy
    rcases hy with rfl | rfl | rfl
    · exact nice_tup (by simp) fun w hw => by rw [List.mem_singleton.mp hw]; exact .inl (.inr (.inl ⟨_, rfl, ns _ (.head _)⟩))
    · exact nice_tup (by simp) fun w hw => by rw [List.mem_singleton.mp hw]; exact .inl (.inr (.inl ⟨_, rfl, ns _ (.tail _ (.head _))⟩))
    · refine nice_tup (by simp) fun w hw => ?_
      simp only [List.mem_cons, List.not_mem_nil, or_false] at hw
      rcases hw with rfl | rfl
      · exact .inl (.inr (.inl ⟨_, rfl, ns _ (.tail _ (.tail _ (.head _)))⟩))
      · exact nice_int 0 _
  refine hdue σ B7 H7 o.iv.d.t o.iv.e (fun y H2 => rEqD K u y H2 Q) fun u2 B8 H8 g8 du2 => ?_
  have o := o.gr g8
  refine r2_eq (K := K) (nice_sh hn (by decide)) (nice_sh hn (by decide)) B8 H8 u u2 o.iv.d.t (du.mono g8.b) du2 _ fun w B9 H9 g9 dw => ?_
  rw [nice_eqv hn] at dw
  cases dw
  have o := o.gr g9
  have p9 := o.p' (by rw [hr.l]; exact pw)
  exact q B9 H9 p9.2 (hr.dr o.iv.d) p9.1.1 p9.1.2 o.tabs
end Pd

/-! SemG9 -/
set_option Elab.async false
set_option linter.all false
set_option maxRecDepth 100000
set_option maxHeartbeats 4000000
namespace Pd
open PySem PySem.Spec PyProof.Rows L2 PySem.W
local macro_rules | `(tactic| walk_at "ed") => `(tactic| repeat' (first
  | with_reducible (first
    | exact ed_int | exact ed_str | exact ed_bl | exact ed_non
    | exact ea_nil | refine' ea_cons ?_ ?_
    | refine' ed_isi ?_ ?_ | refine' ed_isi2 ?_ ?_ ?_
    | refine' ed_andV ?_ (fun _ => ?_) | refine' ed_orV ?_ (fun _ => ?_) | refine' ed_notV ?_
    | refine' ed_chain ?_ ?_ ?_ (fun _ => ⟨?_, ?_⟩)
    | refine' ed_tup ?_ ?_ | refine' ed_lst ?_ ?_
    | refine' et_not ?_ | refine' et_and ?_ (fun _ => ?_) | refine' et_or ?_ (fun _ => ?_) | exact et_yes
    | refine' et_test ?_ | refine' et_B ?_
    | refine' ed_op ?_ ?_ ?_
    | refine' ed_cb ?_ ?_)
  | exact ed_var rfl
  | exact kit_tt | exact kit_ii | exact kit_ib | exact kit_ll | exact kit_lt | exact kit_tl
  | exact r2_addI | exact r2_subI | exact r2_lt | exact r2_le | exact r2_gt | exact r2_ge | exact r2_isN | exact r2_notN
  | exact rc_lenT | exact rc_lenL | exact rc_intB | exact rc_tupL
  | with_reducible (first | refine' r2_eq ?_ ?_ | refine' r2_ne ?_ ?_)
  | exact sh_int _ | exact sh_sg _ | exact sh_cell _ | exact sh_edge _ | exact sh_pair _ | exact sh_str _ (by decide +kernel)
  | exact r2_ixT rfl | exact r2_ixL rfl
  | refine' ed_tup ?_ ?_
  | (show List.length _ ≤ 100000; simp; done)))
/-! ### what the law knows, in turn -/
def aheadL (s0 : Stand) (es : List Ev) : List PyData := (List.range (es.length + 1)).map fun i => standD (stAt s0 es i)
theorem ahead_snoc {s0 : Stand} {es : List Ev} {e : Ev} : aheadL s0 (es ++ [e]) = aheadL s0 es ++ [standD e.aft] := by
  unfold aheadL
  rw [List.length_append, List.length_singleton, List.range_succ, List.map_append, List.map_singleton]
  have h1 : stAt s0 (es ++ [e]) (es.length + 1) = e.aft := stAt_next (by rw [List.getElem?_append_right (Nat.le_refl _)]; simp)
  rw [h1]
  congr 1
  refine List.map_congr_left fun i hi => ?_
  rw [stAt_app (by have := List.mem_range.mp hi; omega)]
theorem ahead_len {s0 : Stand} {es : List Ev} : (aheadL s0 es).length = es.length + 1 := by
  unfold aheadL
  rw [List.length_map, List.length_range]
theorem ahead_last {s0 : Stand} {es : List Ev} : atI (aheadL s0 es) (-1) = some (nowD s0 es) := by
  have e : ixN (aheadL s0 es).length (-1) = some es.length := by
    rw [ahead_len]
    unfold ixN
    simp
    omega
  unfold atI
  rw [e]
  unfold aheadL nowD
  simp
theorem cut_last (ds : List PyData) (n : Nat) (hn : ds.length = n + 1) : cutD ds none (some (-1)) = ds.take n := by
  unfold cutD
  have e : HT.sIx ds.length ds.length (some (-1)) = n := by
    rw [hn]
    unfold HT.sIx
    simp
    omega
  rw [e, HT.sIx_none, List.drop_zero, Nat.sub_zero]
theorem cut_last0 : cutD [] none (some (-1)) = [] := by
  unfold cutD
  simp
theorem rc_maxI {i j : Int} : RC rMaxI [.int i, .int j] (.int (if j > i then j else i)) := fun B H vs ex dv Q q => by
  cases dv with
  | cons d1 r =>
  cases r with
  | cons d2 r =>
    cases r
    cases d1
    cases d2
    exact ⟨i, j, rfl, q _ B H (Gr.refl ex) (.int _)⟩
structure LC where
  K : PySem.W.Frag
  PT : Addr
  PR : Addr
  C : Addr
  xb : Addr
  xo : Addr
  q : Addr
  l : Addr
  sc : Addr
  ns : List Int
structure LF (a a2 : BAd) (q l : Addr) : Prop where
  n1 : l ∉ a.l
  n2 : l ∉ a2.l
  n3 : q ≠ l
  n4 : ∀ z ∈ a2.l, z ∉ a.l
  n5 : q ∉ a.l
  n6 : q ∉ a2.l
structure LP (C : Addr) (a a2 : BAd) (q : Addr) (b b2 : BSt) (lp : List (Str × PyData)) (B H : Hp) : Prop where
  bo : Bo C a B H b
  bo2 : Bo C a2 B H b2
  dk : ∃ kvs, H q = some (.dK kvs) ∧ PtOk B kvs lp
  o1 : ∀ z ∈ a.l, B z = none
  o2 : ∀ z ∈ a2.l, B z = none
  oq : B q = none
section
variable {C : Addr} {a a2 a' : BAd} {q l : Addr} {b b2 b' : BSt} {lp : List (Str × PyData)} {B H B' H' : Hp}
theorem LF.pw (F : LF a a2 q l) : PW l (LP C a a2 q b b2 lp) := by
  refine ⟨fun B H B' H' p g => ?_, fun B H H1 p x => ?_⟩
  · obtain ⟨kvs, d1, d2⟩ := p.dk
    refine ⟨p.bo.mono g.b fun z hz u e => g.h z u (fun w => F.n1 (by rw [← w]; exact hz)) e, p.bo2.mono g.b fun z hz u e => g.h z u (fun w => F.n2 (by rw [← w]; exact hz)) e, ⟨kvs, g.h _ _ F.n3 d1, d2.mono g.b⟩, fun z hz => g.n z (p.o1 z hz) (p.bo.nn z hz).1, fun z hz => g.n z (p.o2 z hz) (p.bo2.nn z hz).1, g.n q p.oq (by rw [d1]; exact fun z => nomatch z)⟩
  · obtain ⟨kvs, d1, d2⟩ := p.dk
    exact ⟨p.bo.lam x, p.bo2.lam x, ⟨kvs, x _ _ d1 (fun _ z => nomatch z), d2.noTbl⟩, fun z hz => noTbl_none (p.o1 z hz), fun z hz => noTbl_none (p.o2 z hz), noTbl_none p.oq⟩
theorem LF.chg (F : LF a a2 q l) (p : LP C a a2 q b b2 lp B H) (hl : H l ≠ none) (e1 : a'.x = a.x) (e2 : a'.dx = a.dx) (e3 : a'.lp = a.lp) (e4 : a'.lt = a.lt ∨ H a'.lt = none) : LF a' a2 q l := by
  have key : ∀ z ∈ a'.l, z ∈ a.l ∨ H z = none := fun z hz => by
    simp only [BAd.l, List.mem_cons, List.not_mem_nil, or_false] at hz ⊢
    rcases hz with rfl | rfl | rfl | rfl
    · exact .inl (.inl e1)
    · exact .inl (.inr (.inl e2))
    · rcases e4 with e4 | e4
      · exact .inl (.inr (.inr (.inl e4)))
      · exact .inr e4
    · exact .inl (.inr (.inr (.inr e3)))
  obtain ⟨kvs, d1, d2⟩ := p.dk
  refine ⟨fun z => (key l z).elim F.n1 hl, F.n2, F.n3, fun z hz w => (key z w).elim (F.n4 z hz) (p.bo2.nn z hz).1, fun z => (key q z).elim F.n5 (by rw [d1]; exact fun z => nomatch z), F.n6⟩
theorem LP.chg (F : LF a a2 q l) (p : LP C a a2 q b b2 lp B H) (bo : Bo C a' B' H' b') (out : ∀ z ∈ a'.l, B' z = none) (g : GrM a B H B' H') : LP C a' a2 q b' b2 lp B' H' := by
  obtain ⟨kvs, d1, d2⟩ := p.dk
  exact ⟨bo, p.bo2.mono g.b fun z hz u e => g.h z u (F.n4 z hz) e, ⟨kvs, g.h _ _ F.n5 d1, d2.mono g.b⟩, out, fun z hz => g.n z (p.o2 z hz) (p.bo2.nn z hz).1, g.n q p.oq (by rw [d1]; exact fun z => nomatch z)⟩
end
def bst (h : Hall) (s0 : Stand) (es : List Ev) (pts : List (Str × List Ev)) : BSt := ⟨hallD h, nowD s0 es, es.map evTrail, bPts s0 pts⟩
/-- where the law stands -/
def LS (X : LC) (b b2 : BSt) (lp : List (Str × PyData)) (σ : L2.St) (B H : Hp) (ρ : Rho) : Prop := ∃ c a a2, CKr 1 X.l X.sc X.ns c X.K ∧ LF a a2 X.q X.l ∧ a.x = X.xb ∧ a2.x = X.xo ∧ Wg (lawT X.PT X.PR) [(12, X.xb), (4, X.xo), (7, X.q)] (LP X.C a a2 X.q b b2 lp) c σ B H ρ
def sls (i : Nat) : Prop := i ≠ 1 ∧ i ≠ 12 ∧ i ≠ 4 ∧ i ≠ 7
section
variable {X : LC} {b b2 b' : BSt} {lp : List (Str × PyData)} {σ σ' : L2.St} {B H B' H' : Hp} {ρ ρ' : Rho} {te tb : TE} {tt : TT} {ta : TA} {d e : PyData} {ds : List PyData} {Q : VK} {D : Ends} {i j : Nat} {vs : List Nat}
theorem sl3 {i : Nat} (h : i ≠ 12 ∧ i ≠ 4 ∧ i ≠ 7) {x y z : Addr} : ∀ p ∈ [(12, x), (4, y), (7, z)], i ≠ p.1 := fun p hp => by
  simp only [List.mem_cons, List.not_mem_nil, or_false] at hp
  rcases hp with rfl | rfl | rfl
  · exact h.1
  · exact h.2.1
  · exact h.2.2
theorem LS.gr (o : LS X b b2 lp σ B H ρ) (g : Gr B H B' H') : LS X b b2 lp σ B' H' ρ :=
  let ⟨c, a, a2, h1, h2, h3, h4, w⟩ := o
  ⟨c, a, a2, h1, h2, h3, h4, w.gr g⟩
theorem LS.less (o : LS X b b2 lp σ B H ρ) (k : Rle ρ' ρ) : LS X b b2 lp σ B H ρ' :=
  let ⟨c, a, a2, h1, h2, h3, h4, w⟩ := o
  ⟨c, a, a2, h1, h2, h3, h4, w.less k⟩
theorem LS.t (o : LS X b b2 lp σ B H ρ) : Ex B H := let ⟨_, _, _, _, _, _, _, w⟩ := o; w.iv.d.t
theorem LS.ev (o : LS X b b2 lp σ B H ρ) : EnvD σ B ρ := let ⟨_, _, _, _, _, _, _, w⟩ := o; w.iv.e
theorem LS.set {v : V} (o : LS X b b2 lp σ B H ρ) (dv : DH B v d) (h : i ≠ 1 ∧ i ≠ 12 ∧ i ≠ 4 ∧ i ≠ 7) : LS X b b2 lp (σ.set i (some v)) B H (ρ.set i (some d)) :=
  let ⟨c, a, a2, h1, h2, h3, h4, w⟩ := o
  ⟨c, a, a2, h1, h2, h3, h4, w.set dv (by rw [h1.r]; exact h.1) (sl3 h.2)⟩
theorem ls_asg {g : TG} {Pd : PyData → Prop} {ρ1 : PyData → Rho} (o : LS X b b2 lp σ B H ρ) (h : ∀ c, CK1 c X.K → EI c te ρ [] Pd) (hg : ∀ d, Pd d → GD g ρ d (ρ1 d) vs) (hv : 1 ∉ vs ∧ 12 ∉ vs ∧ 4 ∉ vs ∧ 7 ∉ vs)
    (k : ∀ d, Pd d → ∀ σ' B' H', LS X b b2 lp σ' B' H' (ρ1 d) → D.nx σ' H') : tAsg te g D σ H := by
  obtain ⟨c, a, a2, h1, h2, h3, h4, w⟩ := o
  refine wg_asg w (h c ⟨h1.r, h1.K⟩) hg (by rw [h1.r]; exact hv.1) (fun p hp => ?_) fun d hd σ' B' H' w' => k d hd σ' B' H' ⟨c, a, a2, h1, h2, h3, h4, w'⟩
  simp only [List.mem_cons, List.not_mem_nil, or_false] at hp
  rcases hp with rfl | rfl | rfl
  · exact hv.2.1
  · exact hv.2.2.1
  · exact hv.2.2.2
theorem ls_if {r : Bool} {t u : TS} (o : LS X b b2 lp σ B H ρ) (h : ET tt ρ r) (h1 : r = true → ∀ B H, LS X b b2 lp σ B H ρ → t D σ H) (h2 : r = false → ∀ B H, LS X b b2 lp σ B H ρ → u D σ H) : tIfS tt t u D σ H := by
  refine h σ B H o.t o.ev _ fun B1 H1 g => ?_
  cases r with
  | true => exact h1 rfl B1 H1 (o.gr g)
  | false => exact h2 rfl B1 H1 (o.gr g)
theorem ls_draw {m : Int} {c : Cfg} (hr : CK1 c X.K) (h1 : 1 ≤ m) (h2 : m ≤ 1000) : EI c (tCallD (spW X.K P_taken R_taken) (tCons (tVar 1) (tCons (tC (.int m)) tNil))) ρ [] (fun d => ∃ n : Nat, d = .int n ∧ (n : Int) < m) :=
  (ei_callW1 (R := R_taken) (P' := (· = [.int m])) hr (ai_pure (ea_cons ed_int ea_nil)) (fun ds e => ⟨m, e, h1, h2⟩)).imp fun d ⟨ds, e1, m', j, e2, e3, h3, h4⟩ => by
    rw [e1] at e2
    injection e2 with e2 _
    injection e2 with e2
    subst e2
    exact ⟨j.toNat, by rw [e3]; congr 1; omega, by omega⟩
/-- a method of the bench that does not raise -/
def spY0 (C : Addr) (R : BSt → List PyData → BSt → PyData → Prop) (Y : BSt → List PyData → Addr → List (Str × V) → Bool → Prop) : Sp := fun vs H Q _ => spY C R Y vs H Q (fun _ _ _ => False)
theorem ls_call {m : Str} {R : BSt → List PyData → BSt → PyData → Prop} {Y : BSt → List PyData → Addr → List (Str × V) → Bool → Prop} (o : LS X b b2 lp σ B H ρ) (hm : ∀ a vh vn vb vi, (bFs vh vn vb vi a).lookup m = none) (h : ED te ρ e) (hR : R b [e] b' d) (k : ∀ v B' H', LS X b' b2 lp σ B' H' ρ → DH B' v d → Q v H') :
    tMeth X.C m (spY0 X.C R Y) [] E0 (tVar 12) (tCons te tNil) σ H Q := by
  obtain ⟨c, a, a2, h1, F, h3, h4, w⟩ := o
  have pw : PW c.l (LP X.C a a2 X.q b b2 lp) := by rw [h1.l]; exact F.pw
  have p := w.p' pw
  obtain ⟨vh, vn, vb, vi, i1, i2, i3⟩ := p.bo.ins
  refine ⟨_, w.sl (12, X.xb) (.head _), a.x, a.dx, _, by rw [h3], i1, hm _ _ _ _ _, ?_⟩
  refine h σ B H w.iv.d.t w.iv.e _ fun v B1 H1 g dv => ?_
  have w1 := w.gr g
  have p1 := w1.p' pw
  refine ⟨B1, a, b, [v], [e], by rw [h3]; rfl, w1.iv.d.t, p1.bo, p1.o1, .cons dv .nil, .inl ⟨b', d, hR, fun a' u B' H' e1 e2 e3 e4 t' bo' out' g' du => ?_⟩⟩
  have hl : H1 X.l ≠ none := by rw [← h1.l]; exact w1.iv.d.nn
  have F' := F.chg p1 hl e1 e2 e3 e4
  have d' := GrM.dr (h1.dr w1.iv.d) p1.bo F.n1 t' g'
  have d2 : Dr c.K c.l c.sc c.ns B' H' := by rw [h1.K, h1.l, h1.sc, h1.ns]; exact d'
  obtain ⟨c2, hr2, w2⟩ := w1.anew (P' := LP X.C a' a2 X.q b' b2 lp) h1 d2 (w1.iv.e.mono g'.b) (p1.chg F bo' out' g') (tabs_M w1.tabs p1.bo g')
  exact k u B' H' ⟨c2, a', a2, hr2, F', e1.trans h3, h4, w2⟩ du
/-- a lambda whose call raises -/
theorem ls_lam {mg : Str → Option Value} {CE CH : Addr} {cA : Str → Addr} {m : Str} {ja n : Nat} {R : BSt → List PyData → BSt → PyData → Prop} {Y : BSt → List PyData → Addr → List (Str × V) → Bool → Prop} {fs : List (Str × V)} {hd : Bool} {z : PyData} (o : LS X b b2 lp σ B H ρ)
    (hm : ∀ a vh vn vb vi, (bFs vh vn vb vi a).lookup m = none) (hja : ρ[ja]? = some (some d)) (hY : Y b [d] CE fs hd) (hx : XcOk X.K mg CE CH cA n) (h7 : n < 7 → hd = true) (hz : ToldW n fs z)
    (k : ∀ v B' H', LS X b b2 lp σ B' H' ρ → DH B' v z → Q v H') : LamX.tLam (lawT X.PT X.PR) (TTX X.K mg CH cA) (fun E => tMeth X.C m (spY X.C R Y) [] E (tVar 12) (tCons (tVar ja) tNil)) σ H Q := by
  obtain ⟨c, a, a2, h1, F, h3, h4, w⟩ := o
  refine wg_lam (a := a) (b := b) h1 F.pw w (by rw [h3]; exact .head _) (fun B H p => ⟨p.bo, p.o1⟩) (fun B H B' H' p t bo out g => p.chg F bo out g) F.n1 (fun _ _ _ _ => hm _ _ _ _ _) hja hY hx h7 hz fun c' v B' H' hr' w' ex dv => ?_
  exact k v B' H' ⟨c', a, a2, hr', F, h3, h4, w'⟩ dv
/-- a lambda whose call tells None -/
theorem ls_lamN {mg : Str → Option Value} {CH : Addr} {cA : Str → Addr} {m : Str} {ja : Nat} {R : BSt → List PyData → BSt → PyData → Prop} {Y : BSt → List PyData → Addr → List (Str × V) → Bool → Prop} (o : LS X b b2 lp σ B H ρ)
    (hm : ∀ a vh vn vb vi, (bFs vh vn vb vi a).lookup m = none) (hja : ρ[ja]? = some (some d)) (hR : R b [d] b' .none)
    (k : ∀ B' H', LS X b' b2 lp σ B' H' ρ → Q .non H') : LamX.tLam (lawT X.PT X.PR) (TTX X.K mg CH cA) (fun E => tMeth X.C m (spY X.C R Y) [] E (tVar 12) (tCons (tVar ja) tNil)) σ H Q := by
  obtain ⟨c, a, a2, h1, F, h3, h4, w⟩ := o
  refine ⟨w.tabs, fun H1 x1 tb1 => ?_⟩
  obtain ⟨c1, hr1, w1⟩ := w.lam h1 F.pw x1 tb1
  have p1 := w1.p' (by rw [hr1.l]; exact F.pw)
  obtain ⟨vh, vn, vb, vi, i1, i2, i3⟩ := p1.bo.ins
  refine ⟨_, w1.sl (12, X.xb) (.head _), a.x, a.dx, _, by rw [h3], i1, hm _ _ _ _ _, ?_⟩
  obtain ⟨v, e, dv⟩ := w1.iv.e.get ja d hja
  refine ⟨v, e, ?_⟩
  refine ⟨noTbl B, a, b, [v], [d], by rw [h3]; rfl, w1.iv.d.t, p1.bo, p1.o1, .cons dv .nil, .inl ⟨b', .none, hR, fun a' u B' H' e1 e2 e3 e4 t' bo' out' g' du => ?_⟩⟩
  have hl : H1 X.l ≠ none := by rw [← hr1.l]; exact w1.iv.d.nn
  have F' := F.chg p1 hl e1 e2 e3 e4
  have d' := GrM.dr (hr1.dr w1.iv.d) p1.bo F.n1 t' g'
  have d2 : Dr c1.K c1.l c1.sc c1.ns B' H' := by rw [hr1.K, hr1.l, hr1.sc, hr1.ns]; exact d'
  obtain ⟨c2, hr2, w2⟩ := w1.anew (P' := LP X.C a' a2 X.q b' b2 lp) hr1 d2 (w1.iv.e.mono g'.b) (p1.chg F bo' out' g') (tabs_M tb1 p1.bo g')
  exact k B' H' ⟨c2, a', a2, hr2, F', e1.trans h3, h4, w2⟩
/-- bench.back() -/
theorem ls_back (o : LS X b b2 lp σ B H ρ) (hR : R_B_back b [] b' d) (k : ∀ v B' H', LS X b' b2 lp σ B' H' ρ → DH B' v d → Q v H') : tMeth X.C "back" (spM X.C R_B_back) [] E0 (tVar 12) tNil σ H Q := by
  obtain ⟨c, a, a2, h1, F, h3, h4, w⟩ := o
  have pw : PW c.l (LP X.C a a2 X.q b b2 lp) := by rw [h1.l]; exact F.pw
  have p1 := w.p' pw
  obtain ⟨vh, vn, vb, vi, i1, i2, i3⟩ := p1.bo.ins
  refine ⟨_, w.sl (12, X.xb) (.head _), a.x, a.dx, _, by rw [h3], i1, nBack, ?_⟩
  refine ⟨B, a, b, [], [], b', d, by rw [h3]; rfl, w.iv.d.t, p1.bo, p1.o1, .nil, hR, fun u B' H' t' bo' out' g' du => ?_⟩
  have d' := GrM.dr (h1.dr w.iv.d) p1.bo F.n1 t' g'
  have d2 : Dr c.K c.l c.sc c.ns B' H' := by rw [h1.K, h1.l, h1.sc, h1.ns]; exact d'
  obtain ⟨c2, hr2, w2⟩ := w.anew (P' := LP X.C a a2 X.q b' b2 lp) h1 d2 (w.iv.e.mono g'.b) (p1.chg F bo' out' g') (tabs_M w.tabs p1.bo g')
  exact k u B' H' ⟨c2, a, a2, hr2, F, h3, h4, w2⟩ du
/-- points[name] = .. -/
theorem ls_put {tx : TE} {x : Str} (o : LS X b b2 lp σ B H ρ) (h : ED te ρ d) (hx : ED tx ρ (.str x)) (hl : lp.length < 1000) (k : ∀ B' H', LS X b b2 (ptPut lp x d) σ B' H' ρ → D.nx σ H') : sDPut (tVar 7) tx te D σ H := by
  refine h σ B H o.t o.ev _ fun v B1 H1 g1 dv => ?_
  have o1 := o.gr g1
  obtain ⟨c, a, a2, h1, F, h3, h4, w⟩ := o1
  have pw : PW c.l (LP X.C a a2 X.q b b2 lp) := by rw [h1.l]; exact F.pw
  refine ⟨_, w.sl (7, X.q) (.tail _ (.tail _ (.head _))), ?_⟩
  refine hx σ B1 H1 w.iv.d.t w.iv.e _ fun y B2 H2 g2 dy => ?_
  have w2 := w.gr g2
  cases dy
  have p2 := w2.p' pw
  obtain ⟨kvs, d1, d2⟩ := p2.dk
  have hlen := d2.length
  refine ⟨X.q, _, rfl, DPut.k (k := Sum.inr x) d1 (by rw [hlen]; exact Nat.lt_trans hl (by decide)), ?_⟩
  have nq : ∀ z ∈ a.l, z ≠ X.q := fun z hz e => F.n5 (by rw [← e]; exact hz)
  have nq2 : ∀ z ∈ a2.l, z ≠ X.q := fun z hz e => F.n6 (by rw [← e]; exact hz)
  have dr := h1.dr w2.iv.d
  obtain ⟨x1, y1, z1, r1, r2⟩ := dr.row
  have dr' : Dr c.K c.l c.sc c.ns B2 (upd H2 X.q (.dK (putK kvs (Sum.inr x) v))) := by
    rw [h1.K, h1.l, h1.sc, h1.ns]
    exact ⟨dr.t.mut p2.oq, ⟨x1, y1, z1, by rw [upd_ne (Ne.symm F.n3)]; exact r1, r2⟩, dr.scr, dr.nl⟩
  have tb' : LamX.Tabs (lawT X.PT X.PR) (upd H2 X.q (.dK (putK kvs (Sum.inr x) v))) := fun t ht => by
    obtain ⟨ps, t1, t2, t3⟩ := w2.tabs t ht
    refine ⟨ps, by rw [upd_ne (fun z => by rw [z, d1] at t1; cases t1)]; exact t1, t2, fun pos cv hc => ?_⟩
    obtain ⟨u, e1, e2⟩ := t3 pos cv hc
    exact ⟨u, e1, by rw [upd_ne (fun z => by rw [z, d1] at e2; unfold LamX.CodeO at e2; cases e2)]; exact e2⟩
  obtain ⟨c2, hr2, w3⟩ := w2.anew (P' := LP X.C a a2 X.q b b2 (ptPut lp x d)) h1 dr' w2.iv.e ⟨p2.bo.mono (Ex.refl B2) fun z hz u e => by rw [upd_ne (nq z hz)]; exact e, p2.bo2.mono (Ex.refl B2) fun z hz u e => by rw [upd_ne (nq2 z hz)]; exact e, ⟨_, upd_same, d2.put (dv.mono g2.b)⟩, p2.o1, p2.o2, p2.oq⟩ tb'
  exact k B2 _ ⟨c2, a, a2, hr2, F, h3, h4, w3⟩
end
end Pd

/-! SemGA -/
set_option Elab.async false
set_option linter.all false
set_option maxRecDepth 100000
set_option maxHeartbeats 4000000
namespace Pd
open PySem PySem.Spec PyProof.Rows L2 PySem.W
local macro_rules | `(tactic| walk_at "ed") => `(tactic| repeat' (first
  | with_reducible (first
    | exact ed_int | exact ed_str | exact ed_bl | exact ed_non
    | exact ea_nil | refine' ea_cons ?_ ?_
    | refine' ed_isi ?_ ?_ | refine' ed_isi2 ?_ ?_ ?_
    | refine' ed_andV ?_ (fun _ => ?_) | refine' ed_orV ?_ (fun _ => ?_) | refine' ed_notV ?_
    | refine' ed_chain ?_ ?_ ?_ (fun _ => ⟨?_, ?_⟩)
    | refine' ed_tup ?_ ?_ | refine' ed_lst ?_ ?_
    | refine' et_not ?_ | refine' et_and ?_ (fun _ => ?_) | refine' et_or ?_ (fun _ => ?_) | exact et_yes
    | refine' et_test ?_ | refine' et_B ?_
    | refine' ed_op ?_ ?_ ?_
    | refine' ed_cb ?_ ?_)
  | exact ed_var rfl
  | exact kit_tt | exact kit_ii | exact kit_ib | exact kit_ll | exact kit_lt | exact kit_tl
  | exact r2_addI | exact r2_subI | exact r2_lt | exact r2_le | exact r2_gt | exact r2_ge | exact r2_isN | exact r2_notN
  | exact rc_lenT | exact rc_lenL | exact rc_intB | exact rc_tupL
  | with_reducible (first | refine' r2_eq ?_ ?_ | refine' r2_ne ?_ ?_)
  | exact sh_int _ | exact sh_sg _ | exact sh_cell _ | exact sh_edge _ | exact sh_pair _ | exact sh_str _ (by decide +kernel)
  | exact r2_ixT rfl | exact r2_ixL rfl
  | refine' ed_tup ?_ ?_
  | (show List.length _ ≤ 100000; simp; done)))

/-! ### one turn -/
abbrev L14 (h : Hall) (cs : List Cell) (s0 : Stand) (es : List Ev) (x9 x10 x11 x13 x14 : Option PyData) : Rho := [none, none, some (hallD h), some (cellsD cs), none, some (nowD s0 es), some (.list (es.map evBoth)), none, some (.list (aheadL s0 es)), x9, x10, x11, none, x13, x14]
theorem PtsOk.more {h : Hall} {s0 : Stand} {n m : Nat} {pts : List (Str × List Ev)} (o : PtsOk h s0 n pts) (hn : n ≤ m) : PtsOk h s0 m pts := ⟨fun p hp => let ⟨a, b, c⟩ := o.all p hp; ⟨a, b, Nat.le_trans c hn⟩, Nat.le_trans o.len hn⟩
section
variable {X : LC} {b b2 b' : BSt} {lp : List (Str × PyData)} {σ σ' : L2.St} {B H B' H' : Hp} {ρ ρ' : Rho} {te tl tb : TE} {tt : TT} {ta : TA} {d e z : PyData} {ds : List PyData} {Q : VK} {D : Ends} {i j : Nat} {vs : List Nat}
theorem ls_ne {n : Nat} {T : Bool → Hp → Prop} (hn : Nice n z) (h64 : n ≤ 64) (hl : ∀ Q : VK, (∀ v B' H', LS X b' b2 lp σ B' H' ρ → DH B' v z → Q v H') → tl σ H Q) (hte : ∀ B H, LS X b' b2 lp σ B H ρ → ∀ Q : VK, (∀ y B' H', Gr B H B' H' → DH B' y z → Q y H') → te σ H Q)
    (k : ∀ B H, LS X b' b2 lp σ B H ρ → T false H) : tTest (tOp (rNeD X.K) tl te) σ H T := by
  refine hl _ fun v B1 H1 o1 dv => ?_
  refine hte B1 H1 o1 _ fun y B2 H2 g2 dy => ?_
  have o2 := o1.gr g2
  refine r2_ne (K := X.K) (nice_sh hn h64) (nice_sh hn h64) B2 H2 v y o2.t (dv.mono g2.b) dy _ fun w B3 H3 g3 dw => ?_
  rw [nice_eqv hn] at dw
  cases dw
  exact ⟨false, rfl, k B3 H3 (o2.gr g3)⟩
/-- x in points -/
theorem ls_din {x : Str} {r : Bool} (o : LS X b b2 lp σ B H ρ) (hx : ED te ρ (.str x)) (hr : (ptGet lp x).isSome = r) (k : ∀ B' H', Gr B H B' H' → Q (.bl r) H') : tDIn te (tVar 7) σ H Q := by
  refine hx σ B H o.t o.ev _ fun v B1 H1 g1 dv => ?_
  cases dv
  obtain ⟨c, a, a2, h1, F, h3, h4, w⟩ := o.gr g1
  have pw : PW c.l (LP X.C a a2 X.q b b2 lp) := by rw [h1.l]; exact F.pw
  obtain ⟨kvs, d1, d2⟩ := (w.p' pw).dk
  refine ⟨_, w.sl (7, X.q) (.tail _ (.tail _ (.head _))), X.q, _, rfl, DGet.k (k := Sum.inr x) d1, ?_⟩
  have e : (valV kvs (Sum.inr x)).isSome = r := by
    rw [← hr]
    rcases d2.get (x := x) with ⟨z1, z2⟩ | ⟨v, d', e1, e2, e3⟩
    · rw [z1, z2]; rfl
    · rw [e1, e2]; rfl
  rw [e]
  exact k B1 H1 g1
/-- points.get(x, z) -/
theorem ls_get2 {x : Str} {tx : TE} (o : LS X b b2 lp σ B H ρ) (hx : ED te ρ (.str x)) (hz : ED tx ρ z) (k : ∀ v B' H', Gr B H B' H' → DH B' v ((ptGet lp x).getD z) → Q v H') : tDGet2 (tVar 7) te tx σ H Q := by
  have o0 := o
  obtain ⟨c, a, a2, h1, F, h3, h4, w⟩ := o
  have pw : PW c.l (LP X.C a a2 X.q b b2 lp) := by rw [h1.l]; exact F.pw
  obtain ⟨kvs, d1, d2⟩ := (w.p' pw).dk
  refine ⟨_, w.sl (7, X.q) (.tail _ (.tail _ (.head _))), X.q, rfl, .inl ⟨kvs, .inl d1⟩, ?_⟩
  refine hx σ B H o0.t o0.ev _ fun v B1 H1 g1 dv => ?_
  cases dv
  refine hz σ B1 H1 g1.t (o0.ev.mono g1.b) _ fun y B2 H2 g2 dy => ?_
  refine ⟨_, DGet.k (k := Sum.inr x) (g2.h _ _ (g1.h _ _ d1)), ?_⟩
  rcases d2.get (x := x) with ⟨z1, z2⟩ | ⟨v, d', e1, e2, e3⟩
  · rw [z1]
    refine k y B2 H2 (g1.trans g2) ?_
    rw [z2]
    exact dy
  · rw [e1]
    refine k v B2 H2 (g1.trans g2) ?_
    rw [e2]
    exact (e3.mono g1.b).mono g2.b
end
/-- what follows a deed -/
def NX (X : LC) (h : Hall) (cs : List Cell) (s0 : Stand) (n : Nat) (x9 x10 x13 : Option PyData) (D : Ends) : Prop := ∀ (es : List Ev) (pts : List (Str × List Ev)) (x11 x14 : Option PyData) σ B H, Hist h s0 es → es.length ≤ n + 1 → PtsOk h s0 (n + 1) pts → LS X (bst h s0 es pts) (bst h s0 [] []) (lPts s0 pts) σ B H (L14 h cs s0 es x9 x10 x11 x13 x14) → D.nx σ H
section
variable {X : LC} {mg : Str → Option Value} {CS CN CP CH : Addr} {cA : Str → Addr} {h : Hall} {cs : List Cell} {s0 : Stand} {es : List Ev} {pts : List (Str × List Ev)} {n : Nat} {σ : L2.St} {B H : Hp} {D : Ends} {x9 x13 : Option PyData} {w : Int} {x : Str}
theorem law_tail {ρ : Rho} (ho : HallOk h) (so : StOk h s0) (hi : Hist h s0 es) (hl : es.length ≤ 40) (po : PtsOk h s0 40 pts) (o : LS X (bst h s0 es pts) (bst h s0 [] []) (lPts s0 pts) σ B H ρ) (h2 : ρ[2]? = some (some (hallD h))) (h5 : ρ[5]? = some (some (nowD s0 es))) (h6 : ρ[6]? = some (some (.list (es.map evBoth))))
    (k : ∀ B H, LS X (bst h s0 es pts) (bst h s0 [] []) (lPts s0 pts) σ B H ρ → D.nx σ H) : (tIfS (tNot (tB (tCallD (sp_stands X.C) (tCons (tVar 12) (tCons (tVar 2) (tCons (tVar 5) (tCons (tVar 6) (tCons (tVar 7) tNil)))))))) (tRet (tC (.bl false))) tNext) D σ H := by
  have o0 := o
  obtain ⟨c, a, a2, h1, F, h3, h4, w⟩ := o
  have pw : PW c.l (LP X.C a a2 X.q (bst h s0 es pts) (bst h s0 [] []) (lPts s0 pts)) := by rw [h1.l]; exact F.pw
  have p := w.p' pw
  obtain ⟨v2, e2, d2⟩ := w.iv.e.get 2 _ h2
  obtain ⟨v5, e5, d5⟩ := w.iv.e.get 5 _ h5
  obtain ⟨v6, e6, d6⟩ := w.iv.e.get 6 _ h6
  obtain ⟨kvs, k1, k2⟩ := p.dk
  have nM : ∀ z ∈ a.l ++ [X.q], B z = none := fun z hz => by
    rcases List.mem_append.mp hz with hz | hz
    · exact p.o1 z hz
    · rw [List.mem_singleton.mp hz]; exact p.oq
  refine ⟨_, w.sl (12, X.xb) (.head _), v2, e2, v5, e5, v6, e6, _, w.sl (7, X.q) (.tail _ (.tail _ (.head _))), ?_⟩
  refine ⟨vw (a.l ++ [X.q]) B H, a, X.q, h, s0, es, pts, v2, v5, v6, by rw [h3]; rfl, vw_ex w.iv.d.t, p.bo.view (fun z hz => List.mem_append_left _ hz) nM, ⟨kvs, vw_at (List.mem_append_right _ (List.mem_singleton.mpr rfl)) k1, k2.mono (ex_vw nM)⟩, .cons (d2.mono (ex_vw nM)) (.cons (d5.mono (ex_vw nM)) (.cons (d6.mono (ex_vw nM)) .nil)), ho, so, hi, hl, po, fun H' kp => ⟨true, rfl, ?_⟩⟩
  exact k B H' (o0.gr ⟨Ex.refl B, fun c o e => kp c o (w.iv.d.t c o e), kp, fun c e _ => e⟩)
/-- a step -/
theorem brA (ho : HallOk h) (so : StOk h s0) (hi : Hist h s0 es) (hl : es.length ≤ n) (hn : n ≤ 35) (po : PtsOk h s0 n pts) (hxS : XcOk X.K mg CS CH cA 2) (o : LS X (bst h s0 es pts) (bst h s0 [] []) (lPts s0 pts) σ B H (L14 h cs s0 es x9 (some (.int w)) none x13 none))
    (k : NX X h cs s0 n x9 (some (.int w)) x13 D) : (tSeq (tAsg (tCallD (spW X.K P_any R_any) (tCons (tVar 1) (tCons (tVar 2) (tCons (tVar 5) (tCons (tVar 10) tNil))))) (gName 14)) (tSeq (tAsg (tCallD (spR R_L_step) (tCons (tVar 2) (tCons (tVar 5) (tCons (tVar 14) tNil)))) (gName 11)) (tSeq (tIfS (tAnd (tTest (tOp rIsN (tVar 11) (tC .non))) (tTest (tOp (rNeD X.K) (LamX.tLam (lawT X.PT X.PR) (TTX X.K mg CH cA) (fun E => tMeth X.C "step" (spY X.C R_B_step (Y_B_step CS)) [] E (tVar 12) (tCons (tVar 14) tNil))) (tTup (tCons (tC (.str "step")) (tCons (tC (.int 0)) tNil)))))) (tRet (tC (.bl false))) tNext) (tIfS (tTest (tOp rNotN (tVar 11) (tC .non))) (tSeq (tIfS (tNot (tB (tCallD (spR (R_alikeB 7)) (tCons (tLst (tCons (tMeth X.C "step" (spY0 X.C R_B_step (Y_B_step CS)) [] E0 (tVar 12) (tCons (tVar 14) tNil)) tNil)) (tCons (tLst (tCons (tOp (rIx X.K) (tVar 11) (tC (.int 1))) tNil)) tNil))))) (tRet (tC (.bl false))) tNext) (tPar3 5 6 8 (tCons (tOp (rIx X.K) (tVar 11) (tC (.int 0))) (tCons (tOp (rAddX X.K) (tVar 6) (tLst (tCons (tTup (tCons (tVar 14) (tCons (tOp (rIx X.K) (tVar 11) (tC (.int 1))) tNil))) tNil))) (tCons (tOp (rAddX X.K) (tVar 8) (tLst (tCons (tOp (rIx X.K) (tVar 11) (tC (.int 0))) tNil))) tNil))))) tNext)))) D σ H := by
  have hok := (hi.ok so es.length).1
  have sk := stok_sok ho hok
  have hcl := (hi.ok so es.length).2
  have hcp : 1 ≤ (stAt s0 es es.length).cells.length := by
    have := hok.cells.pos
    cases q : (stAt s0 es es.length).cells with
    | nil => exact absurd q this
    | cons _ _ => simp
  refine go_seq ?_
  refine ls_asg (vs := [14]) (Pd := fun d => ∃ (k : Nat) (w : Sg), k < (stAt s0 es es.length).cells.length ∧ Way w ∧ d = stepD k w) (ρ1 := fun d => L14 h cs s0 es x9 (some (.int w)) none x13 (some d)) o
    (fun c hr => (ei_callW1 (Pre := P_any) (R := R_any) (P' := (· = [hallD h, standD (stAt s0 es es.length), .int w])) hr (ai_pure (ea_cons (ed_var rfl) (ea_cons (ed_var (d := standD (stAt s0 es es.length)) rfl) (ea_cons (ed_var (d := .int w) rfl) ea_nil)))) (fun ds e => ⟨h, _, w, ho, hok, e⟩)).imp fun d ⟨ds, e, r⟩ => r h _ w e) (fun d hd => gd_name (i := 14) (by simp)) (by decide) ?_
  rintro d ⟨kk, wy, hk, hw, rfl⟩ σ B H o
  dsimp only
  refine go_seq ?_
  refine ls_asg (vs := [11]) (Pd := (· = doneD (stepDone h (stAt s0 es es.length) kk wy))) (ρ1 := fun d => L14 h cs s0 es x9 (some (.int w)) (some d) x13 (some (stepD kk wy))) o
    (fun c hr => ei_pure (ed_call (ea_cons (ed_var rfl) (ea_cons (ed_var (d := standD (stAt s0 es es.length)) rfl) (ea_cons (ed_var (d := stepD kk wy) rfl) ea_nil))) (.mk h _ kk wy (sk.step hk hw)))) (fun d hd => gd_name (i := 11) (by simp)) (by decide) ?_
  rintro d rfl σ B H o
  dsimp only
  refine go_seq ?_
  cases hs : stepDone h (stAt s0 es es.length) kk wy with
  | none =>
    rw [hs] at o
    have o : LS X (bst h s0 es pts) (bst h s0 [] []) (lPts s0 pts) σ B H (L14 h cs s0 es x9 (some (.int w)) (some .none) x13 (some (stepD kk wy))) := o
    have nw : Nice 2 (.tuple [.str "step", .int 0]) := by
      have ns : PyData.strOk "step" = true := by decide +kernel
      refine nice_tup (by simp) fun w hw => ?_
      simp only [List.mem_cons, List.not_mem_nil, or_false] at hw
      rcases hw with rfl | rfl
      · exact .inl (.inr (.inl ⟨_, rfl, ns⟩))
      · exact nice_int 0 _
    refine (ET.is (et_test (ed_op (ed_var (d := .none) rfl) ed_non r2_isN)) rfl : ET (tTest (tOp rIsN (tVar 11) (tC .non))) _ true) σ B H o.t o.ev _ fun B1 H1 g1 => ?_
    have o := o.gr g1
    rw [if_pos rfl]
    refine ls_ne nw (by decide) (fun Q q => ls_lam (m := "step") (d := stepD kk wy) o (fun _ _ _ _ _ => nStep) rfl (Y_B_step.mk h _ (.st kk wy) _ _ sk ⟨hk, hw⟩ hcp hs) hxS (fun _ => rfl) (.num 2 "step" [("number", V.int 0)] 0 (by decide) rfl (by simp [List.lookup])) q) (fun B H o => (ed_tup (ea_cons ed_str (ea_cons ed_int ea_nil)) (by simp) : ED (tTup (tCons (tC (.str "step")) (tCons (tC (.int 0)) tNil))) _ _) σ B H o.t o.ev) fun B H o => ?_
    refine ls_if (r := false) o (ET.is (et_test (ed_op (ed_var (d := .none) rfl) ed_non r2_notN)) rfl) (fun z => nomatch z) fun _ B H o => ?_
    exact k es pts _ _ σ B H hi (by omega) (po.more (by omega)) o
  | some p =>
    rw [hs] at o
    have o : LS X (bst h s0 es pts) (bst h s0 [] []) (lPts s0 pts) σ B H (L14 h cs s0 es x9 (some (.int w)) (some (.tuple [standD p.1, optN p.2])) x13 (some (stepD kk wy))) := o
    refine ls_if (r := false) o (ET.is (b := false && false) (et_and (ET.is (et_test (ed_op (ed_var (d := .tuple [standD p.1, optN p.2]) rfl) ed_non r2_isN)) rfl) fun z => nomatch z) rfl) (fun z => nomatch z) fun _ B H o => ?_
    refine ls_if (r := true) o (ET.is (et_test (ed_op (ed_var (d := .tuple [standD p.1, optN p.2]) rfl) ed_non r2_notN)) rfl) (fun _ B H o => ?_) fun z => nomatch z
    refine go_seq ?_
    refine ls_call (m := "step") (e := stepD kk wy) o (fun _ _ _ _ _ => nStep) (ed_var rfl) (R_B_step.mk h _ (.st kk wy) p _ _ sk ⟨hk, hw⟩ hcp hs (by rw [List.length_map]; omega)) fun v B1 H1 o dv => ?_
    refine ⟨by show 1 ≤ sizeLine; decide, fun q1 hq1 => ?_⟩
    have g2 := Gr.new (o := .lst [v]) o.t hq1
    have o := o.gr g2
    have dl : DH (upd B1 q1 (.lst [v])) (.ref q1) (.list [optN p.2]) := .lst upd_same (.cons (dv.mono g2.b) .nil)
    refine ed_lst (ds := [optN p.2]) (ea_cons (ed_op (ed_var (d := .tuple [standD p.1, optN p.2]) rfl) ed_int (r2_ixT rfl)) ea_nil) (by simp) σ _ _ o.t o.ev _ fun y B3 H3 g3 dy => ?_
    have o := o.gr g3
    refine ⟨B3, [.list [optN p.2], .list [optN p.2]], .bool true, o.t, .cons (dl.mono g3.b) (.cons dy .nil), ⟨_, ?_, rfl, rfl⟩, fun u B4 H4 g4 du => ?_⟩
    · refine NiceB.of (nice_lst (by simp) fun x hx => ?_)
      rw [List.mem_singleton.mp hx]
      exact nice_opt 5 _
    cases du
    have o := o.gr g4
    refine ⟨true, rfl, ?_⟩
    show tNext _ σ H4
    unfold tNext
    dsimp only
    have e1 : nowD s0 (es ++ [⟨kk, wy, p.2, stAt s0 es es.length, p.1⟩]) = standD p.1 := by
      unfold nowD
      rw [List.length_append, List.length_singleton, stAt_next (e := ⟨kk, wy, p.2, stAt s0 es es.length, p.1⟩) (by rw [List.getElem?_append_right (Nat.le_refl _)]; simp)]
    have e2 : (es ++ [(⟨kk, wy, p.2, stAt s0 es es.length, p.1⟩ : Ev)]).map evBoth = es.map evBoth ++ [.tuple [stepD kk wy, optN p.2]] := by rw [List.map_append]; rfl
    have e3 : aheadL s0 (es ++ [⟨kk, wy, p.2, stAt s0 es es.length, p.1⟩]) = aheadL s0 es ++ [standD p.1] := ahead_snoc
    have e4 : (es ++ [(⟨kk, wy, p.2, stAt s0 es es.length, p.1⟩ : Ev)]).map evTrail = es.map evTrail ++ [.tuple [stepD kk wy, optN p.2, standD (stAt s0 es es.length)]] := by rw [List.map_append]; rfl
    have hal := ahead_len (s0 := s0) (es := es)
    have hea : EA (tCons (tOp (rIx X.K) (tVar 11) (tC (.int 0))) (tCons (tOp (rAddX X.K) (tVar 6) (tLst (tCons (tTup (tCons (tVar 14) (tCons (tOp (rIx X.K) (tVar 11) (tC (.int 1))) tNil))) tNil))) (tCons (tOp (rAddX X.K) (tVar 8) (tLst (tCons (tOp (rIx X.K) (tVar 11) (tC (.int 0))) tNil))) tNil))) (L14 h cs s0 es x9 (some (.int w)) (some (.tuple [standD p.1, optN p.2])) x13 (some (stepD kk wy)))
        [standD p.1, .list (es.map evBoth ++ [.tuple [stepD kk wy, optN p.2]]), .list (aheadL s0 es ++ [standD p.1])] :=
      ea_cons (ed_op (ed_var rfl) ed_int (r2_ixT rfl)) (ea_cons (ed_op (ed_var rfl) (ed_lst (ea_cons (ed_tup (ea_cons (ed_var rfl) (ea_cons (ed_op (ed_var (d := .tuple [standD p.1, optN p.2]) rfl) ed_int (r2_ixT rfl)) ea_nil)) (by simp)) ea_nil) (by simp)) (r2_catL (by rw [List.length_map]; simp; omega)))
        (ea_cons (ed_op (ed_var rfl) (ed_lst (ea_cons (ed_op (ed_var (d := .tuple [standD p.1, optN p.2]) rfl) ed_int (r2_ixT rfl)) ea_nil) (by simp)) (r2_catL (by rw [hal]; simp; omega))) ea_nil))
    refine hea σ B4 H4 o.t o.ev _ fun vs B5 H5 g5 dvs => ?_
    have o := o.gr g5
    cases dvs with
    | cons q1 r =>
    cases r with
    | cons q2 r =>
    cases r with
    | cons q3 r =>
    cases r
    have o := ((o.set (i := 5) q1 (by decide)).set (i := 6) q2 (by decide)).set (i := 8) q3 (by decide)
    refine ⟨_, _, _, rfl, k (es ++ [⟨kk, wy, p.2, stAt s0 es es.length, p.1⟩]) pts (some (.tuple [standD p.1, optN p.2])) (some (stepD kk wy)) _ B5 H5 (hi.snoc hs (by rw [← hcl]; exact hk) hw) (by rw [List.length_append, List.length_singleton]; omega) (po.more (by omega)) ?_⟩
    have eb : bst h s0 (es ++ [⟨kk, wy, p.2, stAt s0 es es.length, p.1⟩]) pts = ⟨hallD h, standD p.1, es.map evTrail ++ [.tuple [stepD kk wy, optN p.2, standD (stAt s0 es es.length)]], bPts s0 pts⟩ := by
      unfold bst
      rw [e1, e4]
    have eρ : L14 h cs s0 (es ++ [⟨kk, wy, p.2, stAt s0 es es.length, p.1⟩]) x9 (some (.int w)) (some (.tuple [standD p.1, optN p.2])) x13 (some (stepD kk wy)) = [none, none, some (hallD h), some (cellsD cs), none, some (standD p.1), some (.list (es.map evBoth ++ [.tuple [stepD kk wy, optN p.2]])), none, some (.list (aheadL s0 es ++ [standD p.1])), x9, some (.int w), some (.tuple [standD p.1, optN p.2]), none, x13, some (stepD kk wy)] := by
      unfold L14
      rw [e1, e2, e3]
    rw [eb, eρ]
    exact o
end
end Pd

/-! SemGB -/
set_option Elab.async false
set_option linter.all false
set_option maxRecDepth 100000
set_option maxHeartbeats 4000000
namespace Pd
open PySem PySem.Spec PyProof.Rows L2 PySem.W
local macro_rules | `(tactic| walk_at "ed") => `(tactic| repeat' (first
  | with_reducible (first
    | exact ed_int | exact ed_str | exact ed_bl | exact ed_non
    | exact ea_nil | refine' ea_cons ?_ ?_
    | refine' ed_isi ?_ ?_ | refine' ed_isi2 ?_ ?_ ?_
    | refine' ed_andV ?_ (fun _ => ?_) | refine' ed_orV ?_ (fun _ => ?_) | refine' ed_notV ?_
    | refine' ed_chain ?_ ?_ ?_ (fun _ => ⟨?_, ?_⟩)
    | refine' ed_tup ?_ ?_ | refine' ed_lst ?_ ?_
    | refine' et_not ?_ | refine' et_and ?_ (fun _ => ?_) | refine' et_or ?_ (fun _ => ?_) | exact et_yes
    | refine' et_test ?_ | refine' et_B ?_
    | refine' ed_op ?_ ?_ ?_
    | refine' ed_cb ?_ ?_)
  | exact ed_var rfl
  | exact kit_tt | exact kit_ii | exact kit_ib | exact kit_ll | exact kit_lt | exact kit_tl
  | exact r2_addI | exact r2_subI | exact r2_lt | exact r2_le | exact r2_gt | exact r2_ge | exact r2_isN | exact r2_notN
  | exact rc_lenT | exact rc_lenL | exact rc_intB | exact rc_tupL
  | with_reducible (first | refine' r2_eq ?_ ?_ | refine' r2_ne ?_ ?_)
  | exact sh_int _ | exact sh_sg _ | exact sh_cell _ | exact sh_edge _ | exact sh_pair _ | exact sh_str _ (by decide +kernel)
  | exact r2_ixT rfl | exact r2_ixL rfl
  | refine' ed_tup ?_ ?_
  | (show List.length _ ≤ 100000; simp; done)))

section
variable {X : LC} {mg : Str → Option Value} {CS CN CP CH : Addr} {cA : Str → Addr} {h : Hall} {cs : List Cell} {s0 : Stand} {es : List Ev} {pts : List (Str × List Ev)} {n : Nat} {σ : L2.St} {B H : Hp} {D : Ends} {x9 x10 x13 : Option PyData} {w : Int} {x : Str}
theorem ed_neg1 {ρ : Rho} : ED (tUn rNegI (tC (.int 1))) ρ (.int (-1)) := fun σ B H e ev Q q => ⟨1, rfl, q _ B H (Gr.refl e) (.int (-1))⟩
theorem eqv_listNil (ds : List PyData) : PyData.eqv (.list ds) (.list []) = ds.isEmpty := by
  cases ds <;> simp [PyData.eqv, PyData.eqvAll]
theorem nowD_last {es1 : List Ev} {e : Ev} (hi : Hist h s0 (es1 ++ [e])) : standD e.bef = nowD s0 es1 := by
  obtain ⟨h1, _⟩ := hi.at_ es1.length e (by rw [List.getElem?_append_right (Nat.le_refl _)]; simp)
  unfold nowD
  rw [h1, stAt_app (Nat.le_refl _)]
/-- the step back -/
theorem brB (so : StOk h s0) (hi : Hist h s0 es) (hl : es.length ≤ n) (hn : n ≤ 35) (po : PtsOk h s0 n pts) (o : LS X (bst h s0 es pts) (bst h s0 [] []) (lPts s0 pts) σ B H (L14 h cs s0 es x9 x10 none x13 none))
    (k : NX X h cs s0 n x9 x10 x13 D) : (tSeq (tIfS (tTest (tOp (rNeD X.K) (tMeth X.C "back" (spM X.C R_B_back) [] E0 (tVar 12) tNil) (tOp (rNeD X.K) (tVar 6) (tLst tNil)))) (tRet (tC (.bl false))) tNext) (tSeq (tPar 8 6 (tCons (tSl (rSlX X.K) (tVar 8) tNoPart (tPart (tCB rMaxI (tCons (tC (.int 1)) (tCons (tOp rSubI (tCB (rLenX X.K) (tCons (tVar 8) tNil)) (tC (.int 1))) tNil))))) (tCons (tSl (rSlX X.K) (tVar 6) tNoPart (tPart (tUn rNegI (tC (.int 1))))) tNil))) (tAsg (tOp (rIx X.K) (tVar 8) (tUn rNegI (tC (.int 1)))) (gName 5)))) D σ H := by
  have nb : ∀ b : Bool, SeqAt.shaped (.bool b) = true := fun b => sh_bool b
  have hal := ahead_len (s0 := s0) (es := es)
  have hpast : ED (tOp (rNeD X.K) (tVar 6) (tLst tNil)) (L14 h cs s0 es x9 x10 none x13 none) (.bool (!(es.map evBoth).isEmpty)) := ED.is (ed_op (ed_var rfl) (ed_lst ea_nil (by simp)) (r2_ne (nice_sh (nice_both es (by omega)) (by decide)) (sh_edgesL []))) (by rw [eqv_listNil])
  refine go_seq ?_
  -- what is common behind the step
  suffices key : ∀ (es' : List Ev) (v : V) (B1 H1 : Hp), DH B1 v (.bool (!(es.map evBoth).isEmpty)) → Hist h s0 es' → es'.length ≤ n → cutD (aheadL s0 es) none (some (if ((es.length + 1 : Nat) : Int) - 1 > 1 then ((es.length + 1 : Nat) : Int) - 1 else 1)) = aheadL s0 es' → cutD (es.map evBoth) none (some (-1)) = es'.map evBoth → LS X (bst h s0 es' pts) (bst h s0 [] []) (lPts s0 pts) σ B1 H1 (L14 h cs s0 es x9 x10 none x13 none) →
      (fun H' => (tOp (rNeD X.K) (tVar 6) (tLst tNil)) σ H' fun y H2 => rNeD X.K v y H2 fun z H3 => ∃ c, z = .bl c ∧ (if c = true then (tRet (tC (.bl false))) { D with nx := (tSeq (tPar 8 6 (tCons (tSl (rSlX X.K) (tVar 8) tNoPart (tPart (tCB rMaxI (tCons (tC (.int 1)) (tCons (tOp rSubI (tCB (rLenX X.K) (tCons (tVar 8) tNil)) (tC (.int 1))) tNil))))) (tCons (tSl (rSlX X.K) (tVar 6) tNoPart (tPart (tUn rNegI (tC (.int 1))))) tNil))) (tAsg (tOp (rIx X.K) (tVar 8) (tUn rNegI (tC (.int 1)))) (gName 5))) D } σ H3 else tNext { D with nx := (tSeq (tPar 8 6 (tCons (tSl (rSlX X.K) (tVar 8) tNoPart (tPart (tCB rMaxI (tCons (tC (.int 1)) (tCons (tOp rSubI (tCB (rLenX X.K) (tCons (tVar 8) tNil)) (tC (.int 1))) tNil))))) (tCons (tSl (rSlX X.K) (tVar 6) tNoPart (tPart (tUn rNegI (tC (.int 1))))) tNil))) (tAsg (tOp (rIx X.K) (tVar 8) (tUn rNegI (tC (.int 1)))) (gName 5))) D } σ H3)) H1 by
    rcases List.eq_nil_or_concat es with he | ⟨es1, e, he⟩
    · subst he
      refine ls_back o (R_B_back.none _ _ _) fun v B1 H1 o dv => ?_
      have := key [] v B1 H1 dv hi hl (by unfold aheadL; rfl) (cut_last0) o
      exact this
    · rw [List.concat_eq_append] at he
      subst he
      have hb : bst h s0 (es1 ++ [e]) pts = ⟨hallD h, nowD s0 (es1 ++ [e]), es1.map evTrail ++ [.tuple [evStep e, evDoor e, standD e.bef]], bPts s0 pts⟩ := by
        unfold bst
        rw [List.map_append]
        rfl
      have hi1 : Hist h s0 es1 := by
        have := hi.take es1.length
        rw [List.take_left] at this
        exact this
      rw [hb] at o
      refine ls_back o (R_B_back.one _ _ _ _ _ _ _) fun v B1 H1 o dv => ?_
      rw [nowD_last hi] at o
      rw [List.length_append, List.length_singleton] at hl
      have he0 : ((es1 ++ [e]).map evBoth).isEmpty = false := by rw [List.map_append]; cases es1 <;> rfl
      refine key es1 v B1 H1 (by rw [he0]; exact dv) hi1 (by omega) ?_ ?_ o
      · rw [ahead_snoc, List.length_append, List.length_singleton]
        have hal1 := ahead_len (s0 := s0) (es := es1)
        have e1 : (if ((es1.length + 1 + 1 : Nat) : Int) - 1 > 1 then ((es1.length + 1 + 1 : Nat) : Int) - 1 else 1) = ((es1.length + 1 : Nat) : Int) := by
          split
          · omega
          · omega
        rw [e1, cut_take _ _ (by rw [List.length_append, hal1]; simp), ← hal1, List.take_left]
      · rw [List.map_append, List.map_singleton, cut_last _ es1.length (by rw [List.length_append, List.length_map]; rfl)]
        have e1 : (es1.map evBoth).length = es1.length := List.length_map _
        rw [← e1, List.take_left]
  intro es' v B1 H1 dv hi' hl' ha hp o
  refine hpast σ B1 H1 o.t o.ev _ fun y B2 H2 g2 dy => ?_
  have o := o.gr g2
  refine r2_ne (K := X.K) (nb _) (nb _) B2 H2 v y o.t (dv.mono g2.b) dy _ fun z B3 H3 g3 dz => ?_
  have o := o.gr g3
  have ez : (!PyData.eqv (.bool (!(es.map evBoth).isEmpty)) (.bool (!(es.map evBoth).isEmpty))) = false := by rw [eqv_bool]; simp
  rw [ez] at dz
  cases dz
  refine ⟨false, rfl, ?_⟩
  rw [if_neg (by decide)]
  unfold tNext
  dsimp only
  refine go_seq ?_
  have hea : EA (tCons (tSl (rSlX X.K) (tVar 8) tNoPart (tPart (tCB rMaxI (tCons (tC (.int 1)) (tCons (tOp rSubI (tCB (rLenX X.K) (tCons (tVar 8) tNil)) (tC (.int 1))) tNil))))) (tCons (tSl (rSlX X.K) (tVar 6) tNoPart (tPart (tUn rNegI (tC (.int 1))))) tNil)) (L14 h cs s0 es x9 x10 none x13 none) [.list (aheadL s0 es'), .list (es'.map evBoth)] := by
    refine ea_cons (ED.is (ed_slL (ed_var rfl) eo_none (eo_some (ed_cb (ea_cons ed_int (ea_cons (ed_op (ed_cb (ea_cons (ed_var rfl) ea_nil) rc_lenL) ed_int r2_subI) ea_nil)) rc_maxI))) ?_) (ea_cons (ED.is (ed_slL (ed_var rfl) eo_none (eo_some ed_neg1)) ?_) ea_nil)
    · rw [hal, ha]
    · rw [hp]
  refine hea σ B3 H3 o.t o.ev _ fun vs B4 H4 g4 dvs => ?_
  have o := o.gr g4
  cases dvs with
  | cons q1 r =>
  cases r with
  | cons q2 r =>
  cases r
  have o := (o.set (i := 8) q1 (by decide)).set (i := 6) q2 (by decide)
  refine ⟨_, _, rfl, ?_⟩
  refine ls_asg (vs := [5]) (Pd := (· = nowD s0 es')) (ρ1 := fun d => L14 h cs s0 es' x9 x10 none x13 none) o (fun c hr => ei_pure (ed_op (ed_var (i := 8) rfl) ed_neg1 (r2_ixL ahead_last))) (fun d hd => by rw [hd]; exact gd_name (i := 5) (by simp)) (by decide) ?_
  rintro d rfl σ B H o
  exact k es' pts _ _ σ B H hi' (by omega) (po.more (by omega)) o
/-- the mark -/
theorem brC (so : StOk h s0) (hi : Hist h s0 es) (hl : es.length ≤ n) (hn : n ≤ 35) (po : PtsOk h s0 n pts) (hx : x ∈ NM) (o : LS X (bst h s0 es pts) (bst h s0 [] []) (lPts s0 pts) σ B H (L14 h cs s0 es x9 x10 none (some (.str x)) none))
    (k : NX X h cs s0 n x9 x10 (some (.str x)) D) : (tSeq (tDrop (tMeth X.C "mark" (spY0 X.C R_B_mark (Y_B_mark CN)) [] E0 (tVar 12) (tCons (tVar 13) tNil))) (sDPut (tVar 7) (tVar 13) (tTup (tCons (tVar 5) (tCons (tVar 6) (tCons (tVar 8) tNil)))))) D σ H := by
  have hpl := po.len
  have hpb : (bPts s0 pts).length = pts.length := by unfold bPts; rw [List.length_map]
  have hpl2 : (lPts s0 pts).length = pts.length := by unfold lPts; rw [List.length_map]
  refine go_seq ?_
  refine ls_call (m := "mark") (e := .str x) o (fun _ _ _ _ _ => nMark) (ed_var rfl) (R_B_mark.mk _ x (nm_name x hx) (by have := nm_len x hx; omega) (by show (bPts s0 pts).length < 1000; omega)) fun v B1 H1 o dv => ?_
  dsimp only
  refine ls_put (x := x) (d := lMark s0 es) o (ED.is (ed_tup (ea_cons (ed_var rfl) (ea_cons (ed_var rfl) (ea_cons (ed_var rfl) ea_nil))) (by simp)) rfl) (ed_var rfl) (by omega) fun B2 H2 o => ?_
  have e1 : ptPut (lPts s0 pts) x (lMark s0 es) = lPts s0 (ptPut pts x es) := ptPut_map (lMark s0) x es pts
  have e2 : bst h s0 es (ptPut pts x es) = ⟨hallD h, nowD s0 es, es.map evTrail, ptPut (bPts s0 pts) x (.tuple [nowD s0 es, .list (es.map evTrail)])⟩ := by
    unfold bst
    congr 1
    exact (ptPut_map (bMark s0) x es pts).symm
  refine k es (ptPut pts x es) none none σ B2 H2 hi (by omega) ⟨fun p hp => ?_, ?_⟩ ?_
  · rcases ptPut_mem hp with rfl | hp
    · exact ⟨hx, hi, by show es.length ≤ n + 1; omega⟩
    · exact (po.more (Nat.le_succ n)).all p hp
  · have := ptPut_len pts x es
    omega
  · rw [← e1, e2]
    exact o
/-- going to a mark -/
theorem brD (so : StOk h s0) (hi : Hist h s0 es) (hl : es.length ≤ n) (hn : n ≤ 35) (po : PtsOk h s0 n pts) (hxP : XcOk X.K mg CP CH cA 11) (o : LS X (bst h s0 es pts) (bst h s0 [] []) (lPts s0 pts) σ B H (L14 h cs s0 es x9 x10 none (some (.str x)) none))
    (k : NX X h cs s0 n x9 x10 (some (.str x)) D) : (tSeq (tIfS (tTest (tOp (rNeD X.K) (LamX.tLam (lawT X.PT X.PR) (TTX X.K mg CH cA) (fun E => tMeth X.C "go" (spY X.C R_B_go (Y_B_go CP)) [] E (tVar 12) (tCons (tVar 13) tNil))) (tIf (tB (tDIn (tVar 13) (tVar 7))) (tC .non) (tTup (tCons (tC (.str "point")) tNil))))) (tRet (tC (.bl false))) tNext) (tAsg (tDGet2 (tVar 7) (tVar 13) (tTup (tCons (tVar 5) (tCons (tVar 6) (tCons (tVar 8) tNil))))) (gTup X.K 3 (gCons (gName 5) (gCons (gName 6) (gCons (gName 8) gNil)))))) D σ H := by
  have gl : ptGet (lPts s0 pts) x = (ptGet pts x).map (lMark s0) := by unfold lPts; exact ptGet_map (lMark s0) x pts
  have gb : ptGet (bPts s0 pts) x = (ptGet pts x).map (bMark s0) := by unfold bPts; exact ptGet_map (bMark s0) x pts
  have htup : ED (tTup (tCons (tVar 5) (tCons (tVar 6) (tCons (tVar 8) tNil)))) (L14 h cs s0 es x9 x10 none (some (.str x)) none) (lMark s0 es) := ED.is (ed_tup (ea_cons (ed_var rfl) (ea_cons (ed_var rfl) (ea_cons (ed_var rfl) ea_nil))) (by simp)) rfl
  refine go_seq ?_
  -- behind the look: where it stands now
  suffices key : ∀ es2 : List Ev, (ptGet (lPts s0 pts) x).getD (lMark s0 es) = lMark s0 es2 → Hist h s0 es2 → es2.length ≤ n → ∀ B H, LS X (bst h s0 es2 pts) (bst h s0 [] []) (lPts s0 pts) σ B H (L14 h cs s0 es x9 x10 none (some (.str x)) none) → (tAsg (tDGet2 (tVar 7) (tVar 13) (tTup (tCons (tVar 5) (tCons (tVar 6) (tCons (tVar 8) tNil))))) (gTup X.K 3 (gCons (gName 5) (gCons (gName 6) (gCons (gName 8) gNil))))) D σ H by
    cases hg : ptGet pts x with
    | none =>
      rw [hg] at gl gb
      have nw : Nice 2 (.tuple [.str "point"]) := by
        have ns : PyData.strOk "point" = true := by decide +kernel
        exact nice_tup (by simp) fun w hw => by rw [List.mem_singleton.mp hw]; exact .inl (.inr (.inl ⟨_, rfl, ns⟩))
      refine ls_ne nw (by decide) (fun Q q => ls_lam (m := "go") (d := .str x) o (fun _ _ _ _ _ => nGo) rfl (Y_B_go.str _ x gb) hxP (fun w => absurd w (by decide)) (.word 11 "point" [] (by decide) rfl) q) (fun B H o Q q => ?_) fun B H o => key es (by rw [gl]; rfl) hi hl B H o
      delta tIf tB
      refine ls_din (te := tVar 13) (x := x) (r := false) o (ed_var rfl) (by rw [gl]; rfl) fun B1 H1 g1 => ⟨false, rfl, ?_⟩
      have o := o.gr g1
      show (if (false : Bool) = true then _ else _)
      rw [if_neg (by decide)]
      exact (ed_tup (ea_cons ed_str ea_nil) (by simp) : ED (tTup (tCons (tC (.str "point")) tNil)) _ _) σ B1 H1 o.t o.ev Q fun y B2 H2 g2 dy => q y B2 H2 (g1.trans g2) dy
    | some es2 =>
      rw [hg] at gl gb
      obtain ⟨_, hi2, hl2⟩ := po.all _ (ptGet_mem hg)
      have nw : Nice 1 PyData.none := .inl (.inr (.inr rfl))
      refine ls_ne nw (by decide) (fun Q q => ls_lamN (m := "go") (d := .str x) o (fun _ _ _ _ _ => nGo) rfl (R_B_go.mk _ x (nowD s0 es2) (es2.map evTrail) gb) fun B' H' o => q .non B' H' o .non) (fun B H o Q q => ?_) fun B H o => key es2 (by rw [gl]; rfl) hi2 hl2 B H o
      delta tIf tB
      refine ls_din (te := tVar 13) (x := x) (r := true) o (ed_var rfl) (by rw [gl]; rfl) fun B1 H1 g1 => ⟨true, rfl, ?_⟩
      show (if (true : Bool) = true then _ else _)
      rw [if_pos rfl]
      exact q .non B1 H1 g1 .non
  intro es2 hd hi2 hl2 B H o
  refine ls_get2 (x := x) o (ed_var rfl) htup fun v B1 H1 g1 dv => ?_
  have o := o.gr g1
  rw [hd] at dv
  refine gd_tup (ds := [nowD s0 es2, .list (es2.map evBoth), .list (aheadL s0 es2)]) (vs := [5, 6, 8]) (ρ' := L14 h cs s0 es2 x9 x10 none (some (.str x)) none) (gds_cons (gd_name (i := 5) (by simp)) (gds_cons (gd_name (i := 6) (by simp)) (gds_cons (gd_name (i := 8) (by simp)) gds_nil))) rfl σ B1 H1 v o.t o.ev dv _ fun σ' ev w => ?_
  obtain ⟨c, a, a2, h1, F, h3, h4, ww⟩ := o
  refine k es2 pts _ _ σ' B1 H1 hi2 (by omega) (po.more (by omega)) ⟨c, a, a2, h1, F, h3, h4, ⟨ww.iv.env ev w (by rw [h1.r]; decide), fun p hp => ?_, ww.p, ww.tb, ww.rl⟩⟩
  have w1 := wipe_get σ' [5, 6, 8] p.1
  have w2 := wipe_get σ [5, 6, 8] p.1
  have hp' : p.1 ∉ [5, 6, 8] := by
    simp only [List.mem_cons, List.not_mem_nil, or_false] at hp
    rcases hp with rfl | rfl | rfl
    · show (12 : Nat) ∉ [5, 6, 8]
      decide
    · show (4 : Nat) ∉ [5, 6, 8]
      decide
    · show (7 : Nat) ∉ [5, 6, 8]
      decide
  rw [if_neg (fun z => hp' z.1)] at w1 w2
  rw [← w1, w, w2]
  exact ww.sl p hp
/-- what it refuses -/
theorem brE (ho : HallOk h) (so : StOk h s0) (hi : Hist h s0 es) (hl : es.length ≤ n) (hn : n ≤ 35) (po : PtsOk h s0 n pts) (o : LS X (bst h s0 es pts) (bst h s0 [] []) (lPts s0 pts) σ B H (L14 h cs s0 es x9 x10 none x13 none))
    (k : NX X h cs s0 n x9 x10 x13 D) : (tIfS (tNot (tB (tCallD (sp_refuses X.K X.C (lawT X.PT X.PR)) (tCons (tVar 1) (tCons (tVar 12) tNil))))) (tRet (tC (.bl false))) tNext) D σ H := by
  obtain ⟨c, a, a2, h1, F, h3, h4, w⟩ := o
  have pw : PW c.l (LP X.C a a2 X.q (bst h s0 es pts) (bst h s0 [] []) (lPts s0 pts)) := by rw [h1.l]; exact F.pw
  have p := w.p' pw
  have dr := h1.dr w.iv.d
  have sl1 : σ[1]? = some (some (.ref X.l)) := by
    have := w.iv.s0
    rw [h1.r, h1.l] at this
    exact this
  refine ⟨_, sl1, _, w.sl (12, X.xb) (.head _), ?_⟩
  refine ⟨X.l, X.sc, X.ns, B, a, h, s0, es, pts, by rw [h3]; rfl, dr, p.bo, p.o1, F.n1, w.tabs, ho, so, hi, po.more (by omega), fun B' H' gx dr' bo' out' tb' => ⟨true, rfl, ?_⟩⟩
  obtain ⟨kvs, k1, k2⟩ := p.dk
  have b2 : Bo X.C a2 B' H' (bst h s0 [] []) := by
    obtain ⟨⟨vh, vn, vb, vi, i1, i2, i3⟩, o2, ⟨xs, t1, t2⟩, ⟨ys, b1, b2⟩⟩ := p.bo2
    have kp : ∀ z ∈ a2.l, ∀ u, H z = some u → (∀ ps, u ≠ .tbl ps) → H' z = some u := fun z hz u e hu => gx.h z u (F.n4 z hz) (fun w => F.n2 (by rw [← w]; exact hz)) e hu
    exact ⟨⟨vh, vn, vb, vi, kp _ (by simp [BAd.l]) _ i1 (fun _ z => nomatch z), i2.noTbl.mono gx.b, i3.noTbl.mono gx.b⟩, kp _ (by simp [BAd.l]) _ o2 (fun _ z => nomatch z), ⟨xs, kp _ (by simp [BAd.l]) _ t1 (fun _ z => nomatch z), t2.noTbl.mono gx.b⟩, ⟨ys, kp _ (by simp [BAd.l]) _ b1 (fun _ z => nomatch z), b2.noTbl.mono gx.b⟩⟩
  have out2 : ∀ z ∈ a2.l, B' z = none := fun z hz => by
    cases e : H z with
    | none => exact absurd e (p.bo2.nn z hz).1
    | some u => exact gx.n z u (F.n4 z hz) (fun w => F.n2 (by rw [← w]; exact hz)) (p.o2 z hz) e fun ps e2 => (p.bo2.kinds z hz).2.2.1 ps (by rw [e, e2])
  have ev' : EnvD σ B' (L14 h cs s0 es x9 x10 none x13 none) := ⟨w.iv.e.len, fun i d e => let ⟨v, e1, e2⟩ := w.iv.e.get i d e; ⟨v, e1, e2.noTbl.mono gx.b⟩⟩
  have d2 : Dr c.K c.l c.sc c.ns B' H' := by rw [h1.K, h1.l, h1.sc, h1.ns]; exact dr'
  obtain ⟨c2, hr2, w2⟩ := w.anew (P' := LP X.C a a2 X.q (bst h s0 es pts) (bst h s0 [] []) (lPts s0 pts)) h1 d2 ev' ⟨bo', b2, ⟨kvs, gx.h _ _ F.n5 F.n3 k1 (fun _ z => nomatch z), k2.noTbl.mono gx.b⟩, out', out2, gx.n _ _ F.n5 F.n3 p.oq k1 (fun _ z => nomatch z)⟩ tb'
  exact k es pts _ _ σ B' H' hi (by omega) (po.more (by omega)) ⟨c2, a, a2, hr2, F, h3, h4, w2⟩
end
end Pd

/-! SemGC -/
set_option Elab.async false
set_option linter.all false
set_option maxRecDepth 100000
set_option maxHeartbeats 4000000
namespace Pd
open PySem PySem.Spec PyProof.Rows L2 PySem.W
local macro_rules | `(tactic| walk_at "ed") => `(tactic| repeat' (first
  | with_reducible (first
    | exact ed_int | exact ed_str | exact ed_bl | exact ed_non
    | exact ea_nil | refine' ea_cons ?_ ?_
    | refine' ed_isi ?_ ?_ | refine' ed_isi2 ?_ ?_ ?_
    | refine' ed_andV ?_ (fun _ => ?_) | refine' ed_orV ?_ (fun _ => ?_) | refine' ed_notV ?_
    | refine' ed_chain ?_ ?_ ?_ (fun _ => ⟨?_, ?_⟩)
    | refine' ed_tup ?_ ?_ | refine' ed_lst ?_ ?_
    | refine' et_not ?_ | refine' et_and ?_ (fun _ => ?_) | refine' et_or ?_ (fun _ => ?_) | exact et_yes
    | refine' et_test ?_ | refine' et_B ?_
    | refine' ed_op ?_ ?_ ?_
    | refine' ed_cb ?_ ?_)
  | exact ed_var rfl
  | exact kit_tt | exact kit_ii | exact kit_ib | exact kit_ll | exact kit_lt | exact kit_tl
  | exact r2_addI | exact r2_subI | exact r2_lt | exact r2_le | exact r2_gt | exact r2_ge | exact r2_isN | exact r2_notN
  | exact rc_lenT | exact rc_lenL | exact rc_intB | exact rc_tupL
  | with_reducible (first | refine' r2_eq ?_ ?_ | refine' r2_ne ?_ ?_)
  | exact sh_int _ | exact sh_sg _ | exact sh_cell _ | exact sh_edge _ | exact sh_pair _ | exact sh_str _ (by decide +kernel)
  | exact r2_ixT rfl | exact r2_ixL rfl
  | refine' ed_tup ?_ ?_
  | (show List.length _ ≤ 100000; simp; done)))

section
variable {X : LC} {mg : Str → Option Value} {CS CN CP CH : Addr} {cA : Str → Addr} {h : Hall} {cs : List Cell} {n : Nat} {σ : L2.St} {B H : Hp} {D : Ends}
def P14 (X : LC) (h : Hall) (cs : List Cell) (n : Nat) (σ : L2.St) (H : Hp) : Prop := ∃ B es pts, Hist h (firstS h cs) es ∧ es.length ≤ n ∧ PtsOk h (firstS h cs) n pts ∧ LS X (bst h (firstS h cs) es pts) (bst h (firstS h cs) [] []) (lPts (firstS h cs) pts) σ B H (L14 h cs (firstS h cs) es none none none none none)
def set1013 (h : Hall) (cs : List Cell) (s0 : Stand) (es : List Ev) (x9 : Option PyData) : PyData → Rho
  | .tuple [a, b] => L14 h cs s0 es x9 (some a) none (some b) none
  | _ => []
theorem law_turn14 (ho : HallOk h) (hc : CellsOk h cs) (hn : n < 31) (hxS : XcOk X.K mg CS CH cA 2) (hxP : XcOk X.K mg CP CH cA 11) (x : P14 X h cs n σ H) (next : ∀ σ H, P14 X h cs (n + 1) σ H → D.nx σ H) : (tSeq (tAsg (tTup (tCons (tCallD (spW X.K P_taken R_taken) (tCons (tVar 1) (tCons (tC (.int 9)) tNil))) (tCons (tOp (rIx X.K) (tLst (tCons (tC (.str "a")) (tCons (tC (.str "b")) (tCons (tC (.str "abcdefgh")) (tCons (tC (.str "zz")) tNil))))) (tCallD (spW X.K P_taken R_taken) (tCons (tVar 1) (tCons (tC (.int 4)) tNil)))) tNil))) (gTup X.K 2 (gCons (gName 10) (gCons (gName 13) gNil)))) (tSeq (tIfS (tTest (tOp rLtI (tVar 10) (tC (.int 5)))) (tSeq (tAsg (tCallD (spW X.K P_any R_any) (tCons (tVar 1) (tCons (tVar 2) (tCons (tVar 5) (tCons (tVar 10) tNil))))) (gName 14)) (tSeq (tAsg (tCallD (spR R_L_step) (tCons (tVar 2) (tCons (tVar 5) (tCons (tVar 14) tNil)))) (gName 11)) (tSeq (tIfS (tAnd (tTest (tOp rIsN (tVar 11) (tC .non))) (tTest (tOp (rNeD X.K) (LamX.tLam (lawT X.PT X.PR) (TTX X.K mg CH cA) (fun E => tMeth X.C "step" (spY X.C R_B_step (Y_B_step CS)) [] E (tVar 12) (tCons (tVar 14) tNil))) (tTup (tCons (tC (.str "step")) (tCons (tC (.int 0)) tNil)))))) (tRet (tC (.bl false))) tNext) (tIfS (tTest (tOp rNotN (tVar 11) (tC .non))) (tSeq (tIfS (tNot (tB (tCallD (spR (R_alikeB 7)) (tCons (tLst (tCons (tMeth X.C "step" (spY0 X.C R_B_step (Y_B_step CS)) [] E0 (tVar 12) (tCons (tVar 14) tNil)) tNil)) (tCons (tLst (tCons (tOp (rIx X.K) (tVar 11) (tC (.int 1))) tNil)) tNil))))) (tRet (tC (.bl false))) tNext) (tPar3 5 6 8 (tCons (tOp (rIx X.K) (tVar 11) (tC (.int 0))) (tCons (tOp (rAddX X.K) (tVar 6) (tLst (tCons (tTup (tCons (tVar 14) (tCons (tOp (rIx X.K) (tVar 11) (tC (.int 1))) tNil))) tNil))) (tCons (tOp (rAddX X.K) (tVar 8) (tLst (tCons (tOp (rIx X.K) (tVar 11) (tC (.int 0))) tNil))) tNil))))) tNext)))) (tIfS (tTest (tOp (rEqD X.K) (tVar 10) (tC (.int 5)))) (tSeq (tIfS (tTest (tOp (rNeD X.K) (tMeth X.C "back" (spM X.C R_B_back) [] E0 (tVar 12) tNil) (tOp (rNeD X.K) (tVar 6) (tLst tNil)))) (tRet (tC (.bl false))) tNext) (tSeq (tPar 8 6 (tCons (tSl (rSlX X.K) (tVar 8) tNoPart (tPart (tCB rMaxI (tCons (tC (.int 1)) (tCons (tOp rSubI (tCB (rLenX X.K) (tCons (tVar 8) tNil)) (tC (.int 1))) tNil))))) (tCons (tSl (rSlX X.K) (tVar 6) tNoPart (tPart (tUn rNegI (tC (.int 1))))) tNil))) (tAsg (tOp (rIx X.K) (tVar 8) (tUn rNegI (tC (.int 1)))) (gName 5)))) (tIfS (tTest (tOp (rEqD X.K) (tVar 10) (tC (.int 6)))) (tSeq (tDrop (tMeth X.C "mark" (spY0 X.C R_B_mark (Y_B_mark CN)) [] E0 (tVar 12) (tCons (tVar 13) tNil))) (sDPut (tVar 7) (tVar 13) (tTup (tCons (tVar 5) (tCons (tVar 6) (tCons (tVar 8) tNil)))))) (tIfS (tTest (tOp (rEqD X.K) (tVar 10) (tC (.int 7)))) (tSeq (tIfS (tTest (tOp (rNeD X.K) (LamX.tLam (lawT X.PT X.PR) (TTX X.K mg CH cA) (fun E => tMeth X.C "go" (spY X.C R_B_go (Y_B_go CP)) [] E (tVar 12) (tCons (tVar 13) tNil))) (tIf (tB (tDIn (tVar 13) (tVar 7))) (tC .non) (tTup (tCons (tC (.str "point")) tNil))))) (tRet (tC (.bl false))) tNext) (tAsg (tDGet2 (tVar 7) (tVar 13) (tTup (tCons (tVar 5) (tCons (tVar 6) (tCons (tVar 8) tNil))))) (gTup X.K 3 (gCons (gName 5) (gCons (gName 6) (gCons (gName 8) gNil)))))) (tIfS (tNot (tB (tCallD (sp_refuses X.K X.C (lawT X.PT X.PR)) (tCons (tVar 1) (tCons (tVar 12) tNil))))) (tRet (tC (.bl false))) tNext))))) (tIfS (tNot (tB (tCallD (sp_stands X.C) (tCons (tVar 12) (tCons (tVar 2) (tCons (tVar 5) (tCons (tVar 6) (tCons (tVar 7) tNil)))))))) (tRet (tC (.bl false))) tNext))) D (σ.set 9 (some (.int (n : Nat)))) H := by
  obtain ⟨B, es, pts, hi, hl, po, o⟩ := x
  have so := stok_first ho hc
  have o : LS X (bst h (firstS h cs) es pts) (bst h (firstS h cs) [] []) (lPts (firstS h cs) pts) (σ.set 9 (some (.int (n : Nat)))) B H (L14 h cs (firstS h cs) es (some (.int (n : Nat))) none none none none) := o.set (i := 9) (.int _) (by decide)
  generalize σ.set 9 (some (.int (n : Nat))) = σ at o ⊢
  generalize hs0 : firstS h cs = s0 at *
  refine go_seq ?_
  have hnl : ED (tLst (tCons (tC (.str "a")) (tCons (tC (.str "b")) (tCons (tC (.str "abcdefgh")) (tCons (tC (.str "zz")) tNil))))) (L14 h cs s0 es (some (.int (n : Nat))) none none none none) (.list ((["a", "b", "abcdefgh", "zz"] : List Str).map PyData.str)) :=
    ed_lst (ea_cons ed_str (ea_cons ed_str (ea_cons ed_str (ea_cons ed_str ea_nil)))) (by simp)
  have nmAll : ∀ x ∈ (["a", "b", "abcdefgh", "zz"] : List Str), x ∈ NM := by decide +kernel
  refine ls_asg (vs := [10, 13]) (Pd := fun d => ∃ (w : Nat) (x : Str), x ∈ NM ∧ d = .tuple [.int (w : Nat), .str x]) (ρ1 := set1013 h cs s0 es (some (.int (n : Nat)))) o
    (fun c hr => (ei_tup (ai_cons (ls_draw (X := X) (m := 9) hr (by decide) (by decide)) fun _ _ => ai_cons (ei_op (Pa := (· = .list ((["a", "b", "abcdefgh", "zz"] : List Str).map PyData.str))) (P := fun d => ∃ x : Str, x ∈ NM ∧ d = .str x) (ei_pure hnl) (fun _ _ => ls_draw (X := X) (m := 4) hr (by decide) (by decide)) ?_) fun _ _ => ai_nil) ?_).imp ?_) ?_ (by decide) ?_
  · rintro a b rfl ⟨i, rfl, hi4⟩
    have hi5 : i < (["a", "b", "abcdefgh", "zz"] : List Str).length := by show i < 4; omega
    exact ⟨_, r2_ixL (atI_nat (by rw [List.getElem?_map, List.getElem?_eq_getElem hi5]; rfl)), _, nmAll _ (List.getElem_mem hi5), rfl⟩
  · rintro ds ⟨d, es, rfl, _, e, es2, rfl, _, rfl⟩
    simp
  · rintro d ⟨ds, rfl, d1, es1, rfl, ⟨w, rfl, _⟩, d2, es2, rfl, ⟨x, hx, rfl⟩, rfl⟩
    exact ⟨w, x, hx, rfl⟩
  · rintro d ⟨w, x, hx, rfl⟩
    exact gd_tup (gds_cons (gd_name (by simp)) (gds_cons (gd_name (by simp)) gds_nil)) rfl
  rintro d ⟨w, x, hx, rfl⟩ σ B H o
  have o : LS X (bst h s0 es pts) (bst h s0 [] []) (lPts s0 pts) σ B H (L14 h cs s0 es (some (.int (n : Nat))) (some (.int (w : Nat))) none (some (.str x)) none) := o
  dsimp only
  refine go_seq ?_
  have k : NX X h cs s0 n (some (.int (n : Nat))) (some (.int (w : Nat))) (some (.str x)) { D with nx := (tIfS (tNot (tB (tCallD (sp_stands X.C) (tCons (tVar 12) (tCons (tVar 2) (tCons (tVar 5) (tCons (tVar 6) (tCons (tVar 7) tNil)))))))) (tRet (tC (.bl false))) tNext) D } := by
    intro es' pts' x11 x14 σ B H hi' hl' po' o'
    refine law_tail ho so hi' (by omega) (po'.more (by omega)) o' rfl rfl rfl fun B H o => next σ H ?_
    unfold P14
    rw [hs0]
    refine ⟨B, es', pts', hi', hl', po', o.less ?_⟩
    exact (((((Rle.refl (L14 h cs s0 es' none none none none none)).set (i := 9) (o := some (.int (n : Nat))) rfl).set (i := 10) (o := some (.int (w : Nat))) rfl).set (i := 11) (o := x11) rfl).set (i := 13) (o := some (.str x)) rfl).set (i := 14) (o := x14) rfl
  have eqk : ∀ m : Int, ET (tTest (tOp (rEqD X.K) (tVar 10) (tC (.int m)))) (L14 h cs s0 es (some (.int (n : Nat))) (some (.int (w : Nat))) none (some (.str x)) none) (decide (((w : Nat) : Int) = m)) := fun m => et_test (ED.is (ed_op (ed_var rfl) ed_int (r2_eq (sh_int _) (sh_int _))) (by rw [eqv_int]))
  refine ls_if o (et_test (ed_op (ed_var (d := .int (w : Nat)) rfl) ed_int r2_lt)) (fun _ B H o => ?_) fun _ B H o => ?_
  · exact brA ho so hi hl (by omega) po hxS o k
  refine ls_if o (eqk 5) (fun _ B H o => ?_) fun _ B H o => ?_
  · exact brB so hi hl (by omega) po o k
  refine ls_if o (eqk 6) (fun _ B H o => ?_) fun _ B H o => ?_
  · exact brC so hi hl (by omega) po hx o k
  refine ls_if o (eqk 7) (fun _ B H o => ?_) fun _ B H o => ?_
  · exact brD so hi hl (by omega) po hxP o k
  · exact brE ho so hi hl (by omega) po o k
theorem law_end14 {Q : VK} (ho : HallOk h) (hc : CellsOk h cs) (x : P14 X h cs n σ H) (q : ∀ H', Q (.bl true) H') : (tRet (tAndV (tCallD (sp_stands X.C) (tCons (tVar 4) (tCons (tVar 2) (tCons (tCallD (spR R_first_standing) (tCons (tVar 2) (tCons (tVar 3) tNil))) (tCons (tLst tNil) (tCons tDNewK tNil)))))) (tOp rIsB (tMeth X.C "back" (spM X.C R_B_back) [] E0 (tVar 4) tNil) (tC (.bl false))))) { nx := fun _ H' => Q .non H', rt := Q } σ H := by
  obtain ⟨B, es, pts, hi, hl, po, o⟩ := x
  have so := stok_first ho hc
  have hdo := ho.ndoors
  have o0 := o
  obtain ⟨c, a, a2, h1, F, h3, h4, w⟩ := o
  have pw : PW c.l (LP X.C a a2 X.q (bst h (firstS h cs) es pts) (bst h (firstS h cs) [] []) (lPts (firstS h cs) pts)) := by rw [h1.l]; exact F.pw
  obtain ⟨v2, e2, d2⟩ := w.iv.e.get 2 (hallD h) rfl
  refine ⟨_, w.sl (4, X.xo) (.tail _ (.head _)), v2, e2, ?_⟩
  refine ed_call (ea_cons (ed_var (i := 2) rfl) (ea_cons (ed_var (i := 3) rfl) ea_nil)) (R_first_standing.mk h cs (by omega)) σ B H w.iv.d.t w.iv.e _ fun v5 B1 H1 g1 d5 => ?_
  refine ed_lst (ds := []) ea_nil (by simp) σ B1 H1 g1.t (w.iv.e.mono g1.b) _ fun v6 B2 H2 g2 d6 => fun p hp => ?_
  have g3 := Gr.own (o := .dK []) g2.t hp
  have G := (g1.trans g2).trans g3
  have w3 := w.gr G
  have p3 := w3.p' pw
  have nM : ∀ z ∈ a2.l ++ [p], B2 z = none := fun z hz => by
    rcases List.mem_append.mp hz with hz | hz
    · exact p3.o2 z hz
    · rw [List.mem_singleton.mp hz]; exact g2.t.nil hp
  refine ⟨vw (a2.l ++ [p]) B2 (upd H2 p (.dK [])), a2, p, h, firstS h cs, [], [], v2, v5, v6, by rw [h4]; rfl, vw_ex w3.iv.d.t, p3.bo2.view (fun z hz => List.mem_append_left _ hz) nM, ⟨[], vw_at (List.mem_append_right _ (List.mem_singleton.mpr rfl)) upd_same, .nil⟩, .cons ((d2.mono (g1.b.trans g2.b)).mono (ex_vw nM)) (.cons ((d5.mono g2.b).mono (ex_vw nM)) (.cons (d6.mono (ex_vw nM)) .nil)), ho, so, Hist.nil, by simp, ⟨(fun p hp => nomatch hp), by simp⟩, fun H' kp => ⟨true, rfl, ?_⟩⟩
  rw [if_pos rfl]
  have g4 : Gr B2 (upd H2 p (.dK [])) B2 H' := ⟨Ex.refl B2, fun c o e => kp c o (w3.iv.d.t c o e), kp, fun c e _ => e⟩
  have w4 := w3.gr g4
  have p4 := w4.p' pw
  obtain ⟨vh, vn, vb, vi, i1, i2, i3⟩ := p4.bo2.ins
  refine ⟨_, w4.sl (4, X.xo) (.tail _ (.head _)), a2.x, a2.dx, _, by rw [h4], i1, nBack, ?_⟩
  refine ⟨B2, a2, _, [], [], _, _, by rw [h4]; rfl, w4.iv.d.t, p4.bo2, p4.o2, .nil, R_B_back.none _ _ _, fun v B' H' t' bo' out' g' dv => ?_⟩
  cases dv
  exact ⟨false, false, rfl, rfl, q H'⟩
end
abbrev N14 : List Str := ["_law_script", "_law_row", "_law_hall_here", "_law_cells_here", "_law_other", "_law_now", "_law_past", "_law_points", "_law_ahead", "_law_turn", "_law_way", "_law_told", "_law_bench", "_law_name", "_law_step_here"]
abbrev rho0 (h : Hall) (cs : List Cell) : Rho := [none, none, some (hallD h), some (cellsD cs), none, none, none, none, none, none, none, none, none, none, none]
section
variable {K : PySem.W.Frag} {PT PR C : Addr} {h : Hall} {cs : List Cell} {σ : L2.St} {B H : Hp} {D : Ends} {l sc : Addr} {ns : List Int}
theorem law_make14 (ho : HallOk h) (hc : CellsOk h cs) (tb : LamX.Tabs (lawT PT PR) H) (dr : Dr K l sc ns B H) (ev : EnvD σ B (rho0 h cs)) (hl1 : σ[1]? = some (some (.ref l)))
    (next : ∀ X : LC, X.K = K → X.PT = PT → X.PR = PR → X.C = C → ∀ σ B H, LS X (bst h (firstS h cs) [] []) (bst h (firstS h cs) [] []) (lPts (firstS h cs) []) σ B H [none, none, some (hallD h), some (cellsD cs), none, some (nowD (firstS h cs) []), some (.list []), none, none, none, none, none, none, none, none] → D.nx σ H) : (tAsg (tTup (tCons (tMake C (sp_init C) [] E0 (tCons (tVar 2) (tCons (tVar 3) tNil))) (tCons (tMake C (sp_init C) [] E0 (tCons (tVar 2) (tCons (tVar 3) tNil))) (tCons (tCallD (spR R_first_standing) (tCons (tVar 2) (tCons (tVar 3) tNil))) (tCons (tLst tNil) (tCons tDNewK tNil)))))) (gTup K 5 (gCons (gName 12) (gCons (gName 4) (gCons (gName 5) (gCons (gName 6) (gCons (gName 7) gNil))))))) D σ H := by
  obtain ⟨va, h3, d3⟩ := ev.get 2 (hallD h) rfl
  obtain ⟨vb, h4, d4⟩ := ev.get 3 (cellsD cs) rfl
  have hlen : σ.length = 15 := ev.len
  have hdo := ho.ndoors
  refine ⟨va, h3, vb, h4, fun x dx hx hdx hne => ?_⟩
  have nx : B x = none := dr.t.nil hx
  have nd : B dx = none := dr.t.nil hdx
  refine ⟨B, x, dx, h, cs, va, vb, rfl, (dr.t.mut nd).mut nx, upd_same, by rw [upd_ne hne]; exact upd_same, nx, nd, .cons d3 (.cons d4 .nil), ho, hc, fun lt lp B1 H1 t1 eb1 bo1 out1 keep1 n1 hlt hlp => ⟨rfl, ?_⟩⟩
  have kp1 : ∀ z u, H z = some u → H1 z = some u := fun z u e => by
    have z1 : z ≠ x := fun q => by rw [q, hx] at e; cases e
    have z2 : z ≠ dx := fun q => by rw [q, hdx] at e; cases e
    exact keep1 z u z1 (by rw [upd_ne z1, upd_ne z2]; exact e)
  have nn1 : ∀ z, B z = none → H z ≠ none → B1 z = none := fun z e1 e2 => by
    have z1 : z ≠ x := fun q => e2 (by rw [q]; exact hx)
    have z2 : z ≠ dx := fun q => e2 (by rw [q]; exact hdx)
    exact n1 z e1 (by rw [upd_ne z1, upd_ne z2]; exact e2)
  have new1 : ∀ z ∈ BAd.l ⟨x, dx, lt, lp⟩, H z = none := fun z hz => by
    simp only [BAd.l, List.mem_cons, List.not_mem_nil, or_false] at hz
    rcases hz with rfl | rfl | rfl | rfl
    · exact hx
    · exact hdx
    · by_cases q1 : z = x
      · rw [q1]; exact hx
      · by_cases q2 : z = dx
        · rw [q2]; exact hdx
        · rw [upd_ne q1, upd_ne q2] at hlt; exact hlt
    · by_cases q1 : z = x
      · rw [q1]; exact hx
      · by_cases q2 : z = dx
        · rw [q2]; exact hdx
        · rw [upd_ne q1, upd_ne q2] at hlp; exact hlp
  -- the other bench
  refine ⟨va, h3, vb, h4, fun x' dx' hx' hdx' hne' => ?_⟩
  have nx' : B1 x' = none := t1.nil hx'
  have nd' : B1 dx' = none := t1.nil hdx'
  refine ⟨B1, x', dx', h, cs, va, vb, rfl, (t1.mut nd').mut nx', upd_same, by rw [upd_ne hne']; exact upd_same, nx', nd', .cons (d3.mono eb1) (.cons (d4.mono eb1) .nil), ho, hc, fun lt' lp' B2 H2 t2 eb2 bo2 out2 keep2 n2 hlt' hlp' => ⟨rfl, ?_⟩⟩
  have kp2 : ∀ z u, H1 z = some u → H2 z = some u := fun z u e => by
    have z1 : z ≠ x' := fun q => by rw [q, hx'] at e; cases e
    have z2 : z ≠ dx' := fun q => by rw [q, hdx'] at e; cases e
    exact keep2 z u z1 (by rw [upd_ne z1, upd_ne z2]; exact e)
  have nn2 : ∀ z, B1 z = none → H1 z ≠ none → B2 z = none := fun z e1 e2 => by
    have z1 : z ≠ x' := fun q => e2 (by rw [q]; exact hx')
    have z2 : z ≠ dx' := fun q => e2 (by rw [q]; exact hdx')
    exact n2 z e1 (by rw [upd_ne z1, upd_ne z2]; exact e2)
  have new2 : ∀ z ∈ BAd.l ⟨x', dx', lt', lp'⟩, H1 z = none := fun z hz => by
    simp only [BAd.l, List.mem_cons, List.not_mem_nil, or_false] at hz
    rcases hz with rfl | rfl | rfl | rfl
    · exact hx'
    · exact hdx'
    · by_cases q1 : z = x'
      · rw [q1]; exact hx'
      · by_cases q2 : z = dx'
        · rw [q2]; exact hdx'
        · rw [upd_ne q1, upd_ne q2] at hlt'; exact hlt'
    · by_cases q1 : z = x'
      · rw [q1]; exact hx'
      · by_cases q2 : z = dx'
        · rw [q2]; exact hdx'
        · rw [upd_ne q1, upd_ne q2] at hlp'; exact hlp'
  have bo1' : Bo C ⟨x, dx, lt, lp⟩ B2 H2 ⟨hallD h, standD (firstS h cs), [], []⟩ := bo1.mono eb2 fun z hz u e => kp2 z u e
  have out1' : ∀ z ∈ BAd.l ⟨x, dx, lt, lp⟩, B2 z = none := fun z hz => nn2 z (out1 z hz) (bo1.nn z hz).1
  have ev2 : EnvD σ B2 (rho0 h cs) := ev.mono (eb1.trans eb2)
  refine ed_call (ea_cons (ed_var (i := 2) rfl) (ea_cons (ed_var (i := 3) rfl) ea_nil)) (R_first_standing.mk h cs (by omega)) σ B2 H2 t2 ev2 _ fun v3 B3 H3 g3 dv3 => ?_
  refine ed_lst (ds := []) ea_nil (by simp) σ B3 H3 g3.t (ev2.mono g3.b) _ fun v4 B4 H4 g4 dv4 => fun q hq => ?_
  have g5 := Gr.own (o := .dK []) g4.t hq
  refine ⟨by show 5 ≤ sizeLine; decide, fun p6 hp6 => ?_⟩
  have g6 := Gr.own (o := .tup [.ref x, .ref x', v3, v4, .ref q]) g5.t hp6
  have G := ((g3.trans g4).trans g5).trans g6
  have hqp : q ≠ p6 := fun z => by rw [← z, upd_same] at hp6; cases hp6
  refine ⟨p6, _, rfl, SqT.of upd_same, rfl, _, _, rfl, _, _, rfl, _, _, rfl, _, _, rfl, _, _, rfl, rfl, ?_⟩
  obtain ⟨ra, rb, rc, hrow, hro⟩ := dr.row
  have hl2 : H2 l = some (rowL sc ra rb rc) := kp2 _ _ (kp1 _ _ hrow)
  have hB2l : B2 l = none := nn2 l (nn1 l dr.nl dr.nn) (by rw [kp1 _ _ hrow]; exact fun z => nomatch z)
  have dr2 : Dr K l sc ns B2 H2 := ⟨t2, ⟨ra, rb, rc, hl2, hro⟩, (eb1.trans eb2).seqL dr.scr, hB2l⟩
  have drF := dr2.gr G
  have hqH2 : H2 q = none := by
    cases e : H2 q with
    | none => rfl
    | some u => rw [(g3.trans g4).h q u e] at hq; cases hq
  have F : LF ⟨x, dx, lt, lp⟩ ⟨x', dx', lt', lp'⟩ q l := by
    refine ⟨fun z => dr.nn (new1 l z), fun z => ?_, fun z => ?_, fun z hz w => (bo1.nn z w).1 (new2 z hz), fun z => (bo1'.nn q z).1 hqH2, fun z => (bo2.nn q z).1 hqH2⟩
    · have := new2 l z
      rw [kp1 _ _ hrow] at this
      cases this
    · rw [z, hl2] at hqH2
      cases hqH2
  have ev6 := ev2.mono G.b
  have tbF : LamX.Tabs (lawT PT PR) (upd (upd H4 q (.dK [])) p6 (.tup [.ref x, .ref x', v3, v4, .ref q])) := tb.ext fun z u e => G.h _ _ (kp2 _ _ (kp1 _ _ e))
  have lp0 : LP C ⟨x, dx, lt, lp⟩ ⟨x', dx', lt', lp'⟩ q (bst h (firstS h cs) [] []) (bst h (firstS h cs) [] []) (lPts (firstS h cs) []) B4 (upd (upd H4 q (.dK [])) p6 (.tup [.ref x, .ref x', v3, v4, .ref q])) :=
    ⟨bo1'.mono G.b fun z hz u e => G.h _ _ e, bo2.mono G.b fun z hz u e => G.h _ _ e, ⟨[], by rw [upd_ne hqp]; exact upd_same, .nil⟩, fun z hz => G.n z (out1' z hz) (bo1'.nn z hz).1, fun z hz => G.n z (out2 z hz) (bo2.nn z hz).1, g4.t.nil hq⟩
  obtain ⟨xa, xb, xc, hrF, _⟩ := drF.row
  refine next ⟨K, PT, PR, C, x, x', q, l, sc, ns⟩ rfl rfl rfl rfl _ B4 _ ⟨⟨K, 1, l, sc, ns, B4, _⟩, ⟨x, dx, lt, lp⟩, ⟨x', dx', lt', lp'⟩, ⟨rfl, rfl, rfl, rfl, rfl⟩, F, rfl, rfl, ⟨⟨drF, ⟨Ex.refl B4, fun z u _ e => e, fun z e _ => e⟩, ?_, ?_, (fun p hp => nomatch hp), (fun p hp => nomatch hp)⟩, fun p hp => ?_, lp0, tbF, xa, xb, xc, hrF⟩⟩
  · exact ((((ev6.forget 12 (some (.ref x))).forget 4 (some (.ref x'))).set 5 (dv3.mono g4.b)).set 6 dv4).forget 7 (some (.ref q))
  · show (((((σ.set 12 _).set 4 _).set 5 _).set 6 _).set 7 _)[1]? = _
    rw [List.getElem?_set_ne (by decide), List.getElem?_set_ne (by decide), List.getElem?_set_ne (by decide), List.getElem?_set_ne (by decide), List.getElem?_set_ne (by decide)]
    exact hl1
  · simp only [List.mem_cons, List.not_mem_nil, or_false] at hp
    rcases hp with rfl | rfl | rfl
    · show (((((σ.set 12 _).set 4 _).set 5 _).set 6 _).set 7 _)[12]? = _
      rw [List.getElem?_set_ne (by decide), List.getElem?_set_ne (by decide), List.getElem?_set_ne (by decide), List.getElem?_set_ne (by decide)]
      exact List.getElem?_set_self (by rw [hlen]; decide)
    · show (((((σ.set 12 _).set 4 _).set 5 _).set 6 _).set 7 _)[4]? = _
      rw [List.getElem?_set_ne (by decide), List.getElem?_set_ne (by decide), List.getElem?_set_ne (by decide)]
      exact List.getElem?_set_self (by rw [List.length_set, hlen]; decide)
    · show (((((σ.set 12 _).set 4 _).set 5 _).set 6 _).set 7 _)[7]? = _
      exact List.getElem?_set_self (by simp only [List.length_set]; rw [hlen]; decide)
end
def sp_law (K : PySem.W.Frag) (T : List (Addr × Str)) : Sp := fun vs H Q _ => ∃ (sc : Addr) (ns : List Int), vs = [.ref sc] ∧ SqL K H sc (ns.map V.int) ∧ LamX.Tabs T H ∧ ∀ H', Q (.bl true) H'
theorem rp_law {K : PySem.W.Frag} {mg : Str → Option Value} {PT PR C CS CN CP CH : Addr} {cA : Str → Addr} {vs : List V} {H : Hp} {Q : VK} {E : XK} (hxS : XcOk K mg CS CH cA 2) (hxP : XcOk K mg CP CH cA 11) (hsp : sp_law K (lawT PT PR) vs H Q E) :
    rd_law K C (LamX.tLam (lawT PT PR) (TTX K mg CH cA) (fun E => tMeth C "step" (spY C R_B_step (Y_B_step CS)) [] E (tVar 12) (tCons (tVar 14) tNil))) (LamX.tLam (lawT PT PR) (TTX K mg CH cA) (fun E => tMeth C "go" (spY C R_B_go (Y_B_go CP)) [] E (tVar 12) (tCons (tVar 13) tNil)))
      (spR (R_alikeB 7)) (spW K P_any R_any) (spR R_first_standing) (spW K P_cells R_cells) (spW K P_hall R_hall) (sp_refuses K C (lawT PT PR)) (sp_stands C) (spR R_L_step) (spW K P_taken R_taken) (sp_init C) (spM C R_B_back) (spY0 C R_B_mark (Y_B_mark CN)) (spY0 C R_B_step (Y_B_step CS)) { nx := fun _ H' => Q .non H', rt := Q } (L2.start N14 vs) H := by
  obtain ⟨sc, ns, rfl, hs, tb, q⟩ := hsp
  have h0 : (L2.start N14 [V.ref sc])[0]? = some (some (.ref sc)) := rfl
  have hlen : (L2.start N14 [V.ref sc]).length = 15 := rfl
  generalize L2.start N14 [V.ref sc] = σ at h0 hlen ⊢
  unfold rd_law
  refine go_seq ?_
  refine ⟨.ref sc, h0, ⟨by show 4 ≤ sizeLine; decide, fun l hl => ?_⟩⟩
  have hnB : noTbl H l = none := by
    cases z : noTbl H l with
    | none => rfl
    | some u =>
      have := noTbl_ex H l u z
      rw [hl] at this
      cases this
  have scr : SqL K (noTbl H) sc (ns.map V.int) := by
    rcases hs with (e | ⟨u, e⟩) | e
    · exact .inl (.inl (noTbl_of e (fun _ z => nomatch z)))
    · exact .inl (.inr ⟨u, noTbl_of e (fun _ z => nomatch z)⟩)
    · exact .inr e
  let c : Cfg := ⟨K, 1, l, sc, ns, noTbl H, upd H l (.lst [.ref sc, .int 0, .int 0, .int 0])⟩
  have hr : CK1 c K := ⟨rfl, rfl⟩
  have hrn : ∀ i : Nat, 1 < i → i ≠ c.r := fun i hi => by rw [hr.1]; omega
  have tb0 : LamX.Tabs (lawT PT PR) (upd H l (.lst [.ref sc, .int 0, .int 0, .int 0])) := tb.ext fun b o e => Ex.new hl _ _ e
  have o : Iv c (fun _ => 0) (σ.set 1 (some (.ref l))) (noTbl H) (upd H l (.lst [.ref sc, .int 0, .int 0, .int 0])) [none, none, none, none, none, none, none, none, none, none, none, none, none, none, none] [] := by
    refine ⟨⟨(noTbl_ex H).mut hnB, ⟨0, 0, 0, upd_same, by omega, by omega, by omega⟩, scr, hnB⟩, ⟨Ex.refl _, fun _ _ _ e => e, fun _ e _ => e⟩, ⟨by rw [List.length_set, hlen]; rfl, fun i z e => ?_⟩, List.getElem?_set_self (by rw [hlen]; decide), (fun p hp => nomatch hp), (fun p hp => nomatch hp)⟩
    have e : (List.replicate 15 (none : Option PyData))[i]? = some (some z) := e
    rw [List.getElem?_replicate] at e
    split at e
    · cases e
    · cases e
  dsimp only
  refine go_seq ?_
  show tAsg _ (gName 2) _ (σ.set 1 (some (.ref l))) _
  generalize σ.set 1 (some (.ref l)) = σ at o ⊢
  refine go_asg (P := fun z => ∃ h, HallOk h ∧ z = hallD h) o ((ei_callW1 (R := R_hall) (P' := (· = [.int 5, .int 6])) hr (ai_pure (ea_cons ed_int (ea_cons ed_int ea_nil))) (fun ds e => e)).imp (fun z ⟨ds, _, r⟩ => r)) (hrn _ (by decide)) (by simp) ?_
  rintro z ⟨h, ho, rfl⟩ σ B2 H2 o
  have o : Iv c (fun _ => 0) σ B2 H2 [none, none, some (hallD h), none, none, none, none, none, none, none, none, none, none, none, none] [] := o
  dsimp only
  refine go_seq ?_
  have hcells : EI c (tCallD (spW K P_cells R_cells) (tCons (tVar 1) (tCons (tVar 2) (tCons (tC (.int 3)) tNil)))) [none, none, some (hallD h), none, none, none, none, none, none, none, none, none, none, none, none] [] (fun z => ∃ cs, CellsOk h cs ∧ z = cellsD cs) := by
    refine (ei_callW1 (R := R_cells) (P' := (· = [hallD h, .int 3])) hr (ai_pure (ea_cons (ed_var rfl) (ea_cons ed_int ea_nil))) (fun ds e => ⟨h, ho, e⟩)).imp ?_
    rintro z ⟨ds, rfl, h', cs, e, hc, rfl⟩
    injection e with e1 _
    cases hallD_injD e1
    exact ⟨cs, hc, rfl⟩
  refine go_asg o hcells (hrn _ (by decide)) (by simp) ?_
  rintro z ⟨cs, hc, rfl⟩ σ B H o
  have o : Iv c (fun _ => 0) σ B H (rho0 h cs) [] := o
  have tb1 : LamX.Tabs (lawT PT PR) H := tabs_wR (x := 0) (y := 0) (z := 0) tb0 upd_same o.g
  dsimp only
  refine go_seq ?_
  have so := stok_first ho hc
  refine law_make14 (PT := PT) (PR := PR) (C := C) ho hc tb1 (show Dr K l sc ns B H from o.d) o.e o.s0 fun X hK hPT hPR hC σ B H oL => ?_
  obtain ⟨XK, XPT, XPR, XC, xb, xo, xq, xl, xsc, xns⟩ := X
  cases hK
  cases hPT
  cases hPR
  cases hC
  dsimp only
  refine go_seq ?_
  refine ls_asg (vs := [8]) (Pd := (· = .list (aheadL (firstS h cs) []))) (ρ1 := fun _ => L14 h cs (firstS h cs) [] none none none none none) oL (fun c hr => ei_pure (ED.is (ed_lst (ds := [nowD (firstS h cs) []]) (ea_cons (ed_var rfl) ea_nil) (by simp)) rfl)) (fun d hd => by rw [hd]; exact gd_name (i := 8) (by simp)) (by decide) ?_
  rintro d rfl σ B H o
  dsimp only
  refine go_seq ?_
  -- the turns
  have o0 := o
  obtain ⟨c, a, a2, h1, F, h3, h4, w⟩ := o
  refine ls_draw (X := ⟨XK, XPT, XPR, XC, xb, xo, xq, xl, xsc, xns⟩) (m := 31) ⟨h1.r, h1.K⟩ (by decide) (by decide) _ σ B H w.iv _ fun v d B' H' o' ex dv ⟨j, hd, hj⟩ => ?_
  subst hd
  cases dv
  have o : LS ⟨XK, XPT, XPR, XC, xb, xo, xq, xl, xsc, xns⟩ (bst h (firstS h cs) [] []) (bst h (firstS h cs) [] []) (lPts (firstS h cs) []) σ B' H' (L14 h cs (firstS h cs) [] none none none none none) := ⟨c, a, a2, h1, F, h3, h4, ⟨o', w.sl, w.p, w.tb, w.rl⟩⟩
  refine ⟨(j : Nat), rfl, by omega, by omega, ?_⟩
  refine ⟨fun n w σ H => w = j - n ∧ n ≤ j ∧ P14 ⟨XK, XPT, XPR, XC, xb, xo, xq, xl, xsc, xns⟩ h cs n σ H, ⟨j, by omega, Nat.zero_le _, B', [], [], Hist.nil, Nat.le_refl _, ⟨(fun p hp => nomatch hp), Nat.le_refl _⟩, o⟩, ?_⟩
  rintro n w σ' H' ⟨rfl, hle, x⟩
  by_cases hlt : n < j
  · right
    refine ⟨by show n < ((j : Nat) : Int).toNat; omega, fun σ H => n + 1 ≤ j ∧ P14 ⟨XK, XPT, XPR, XC, xb, xo, xq, xl, xsc, xns⟩ h cs (n + 1) σ H, fun σ2 H2 ⟨q1, q2⟩ => ⟨j - (n + 1), by omega, rfl, q1, q2⟩, fun y H2 hy => ?_⟩
    obtain ⟨rfl, e⟩ := hy
    have e0 : (0 : Int) + ((n : Nat) : Int) = (n : Int) := Int.zero_add _
    rw [e0] at e
    subst e
    exact law_turn14 ho hc (by omega) hxS hxP x fun σ H p => ⟨hlt, p⟩
  · left
    have : n = j := by omega
    subst this
    exact ⟨by show ((n : Nat) : Int).toNat ≤ n; omega, law_end14 ho hc x q⟩
end Pd

/-! InitP14 -/
set_option Elab.async false
set_option linter.all false
set_option maxRecDepth 100000
set_option maxHeartbeats 4000000
namespace Pd
open PySem PySem.Spec PyProof.Rows L2 NdefX
abbrev s_initS : Stmt := (clsB (topS 6)).getD 0 (.Pass ⟨0, 0, 0, 0⟩)
theorem ok_initS {P : Program} {w : World} {K : PySem.W.Frag} {mg : Str → Option Value} {base : Heap} {C fI cc cda : Addr} {fd : FuncData}
    (U : SupF P K C fI cc cda "__init__" "BadStep.__init__" (defArgs s_initS) (defBody s_initS) (defScope s_initS) fd) (hno : PySem.W.findIn K (.ref C) "number" = some none) (hms : mg "super" = none) : FnOk P w K mg base CX0 1 fI fd ["self", "number"] (sp_initS C) := by
  refine fn_sup (N := ["self", "number", "__class__"]) U (nscope_by (by decide +kernel)) rfl hms _ (fun L => by rfl) (fun L => by rfl) (fun vs H Q E h => ?_) (fun A outer s H vs Q E hr h => ?_)
  · obtain ⟨a, i, rfl, _⟩ := h
    rfl
  · obtain ⟨a, i, rfl, hi, ha, q⟩ := h
    unfold initOkS at hi
    simp only [Bool.and_eq_true, decide_eq_true_eq] at hi
    obtain ⟨⟨⟨hi, l1⟩, l2⟩, l3⟩ := hi
    refine ⟨a, [.int i], _, _, rfl, ha, pe_joined (.cons pe_str (.cons (pe_fmt (pe_var (i := 1) rfl (.inl rfl))) (.cons pe_str .nil))), pss_one (ps_ost (pe_var (i := 0) rfl (.inl rfl)) (pe_var (i := 1) rfl (.inl rfl))), ?_⟩
    refine ⟨_, rfl, ?_, ?_⟩
    · exact l1
    refine ⟨.int i, rfl, .inr ⟨i, rfl, hi, ?_⟩⟩
    refine ⟨_, rfl, ?_, ?_⟩
    · exact l2
    refine ⟨_, rfl, ?_, ?_⟩
    · exact l3
    refine ⟨Nat.le_trans (Nat.le_refl 1) (by decide : 1 ≤ sizeLine), ha, ?_⟩
    refine ⟨.int i, rfl, .ref a, rfl, a, C, rfl, U.T, hno, .inl ⟨ha, fun dx hn hne => q dx hn hne⟩⟩
end Pd

/-! D14 -/
set_option Elab.async false
set_option linter.all false
set_option maxRecDepth 100000
set_option maxHeartbeats 4000000
/-! each def keeps its promise -/
namespace Pd
open PySem PySem.Spec PyProof.Rows L2 LamX
structure Ats (K : PySem.W.Frag) (mg : Str → Option Value) : Prop where
  is_number : At K mg "is_number" s_is_number p_is_number
  is_side : At K mg "is_side" s_is_side p_is_side
  is_cell : At K mg "is_cell" s_is_cell p_is_cell
  is_edge : At K mg "is_edge" s_is_edge p_is_edge
  edge_from : At K mg "edge_from" s_edge_from p_edge_from
  edge_crossed : At K mg "edge_crossed" s_edge_crossed p_edge_crossed
  next_cell : At K mg "next_cell" s_next_cell p_next_cell
  door_edge : At K mg "door_edge" s_door_edge p_door_edge
  check_edges : At K mg "check_edges" s_check_edges p_check_edges
  check_hall : At K mg "check_hall" s_check_hall p_check_hall
  check_cells : At K mg "check_cells" s_check_cells p_check_cells
  check_start : At K mg "check_start" s_check_start p_check_start
  first_standing : At K mg "first_standing" s_first_standing p_first_standing
  door_edges : At K mg "door_edges" s_door_edges p_door_edges
  is_step : At K mg "is_step" s_is_step p_is_step
  swung_ways : At K mg "swung_ways" s_swung_ways p_swung_ways
  step_done : At K mg "step_done" s_step_done p_step_done
  step_tried : At K mg "step_tried" s_step_tried p_step_tried
  moves_from : At K mg "moves_from" s_moves_from p_moves_from
  is_name : At K mg "is_name" s_is_name p_is_name
  L_taken : At K mg "_law_taken" s_L_taken p_L_taken
  L_pair : At K mg "_law_pair" s_L_pair p_L_pair
  L_shut : At K mg "_law_shut" s_L_shut p_L_shut
  L_within : At K mg "_law_within" s_L_within p_L_within
  L_next : At K mg "_law_next" s_L_next p_L_next
  L_step : At K mg "_law_step" s_L_step p_L_step
  L_begin : At K mg "_law_begin" s_L_begin p_L_begin
  L_hall : At K mg "_law_hall" s_L_hall p_L_hall
  L_cells : At K mg "_law_cells" s_L_cells p_L_cells
  L_steps : At K mg "_law_steps" s_L_steps p_L_steps
  L_alike : At K mg "_law_alike" s_L_alike p_L_alike
  L_stands : At K mg "_law_stands" s_L_stands p_L_stands
  L_any_step : At K mg "_law_any_step" s_L_any_step p_L_any_step
  L_refuses : At K mg "_law_refuses" s_L_refuses p_L_refuses
  law : At K mg "law" s_law p_law
/-- where a method stands -/
def MAt (K : PySem.W.Frag) (C : Addr) (m q : Str) (st : Stmt) (ps : List Str) (dvs : List V) : Prop := ∃ f fd ds kws, Meth K C m f ∧ FunD K m q (defArgs st) (defBody st) (defScope st) [] kws f fd ∧ Binds K fd ps ds ∧ Vals dvs ds
def IAt (K : PySem.W.Frag) (C : Addr) (q : Str) (st : Stmt) (ps : List Str) : Prop := ∃ f fd, Mk K C f ∧ FunD K "__init__" q (defArgs st) (defBody st) (defScope st) [] [] f fd ∧ Binds K fd ps []
theorem meth_keeps {P : Program} {w : World} {K : PySem.W.Frag} {mg : Str → Option Value} {base : Heap} {C : Addr} {m q : Str} {st : Stmt} {ps N : List Str} {dvs : List V} {k : Nat} {sp : Sp} (M : MAt K C m q st ps dvs) (S : FnScope N ps (defScope st)) (len : ∀ vs H Q E, sp vs H Q E → vs.length = ps.length)
    (hbody : ∀ (f : Addr) (cdv : Value) (A : Around) (outer : List Env) (s : Shared) (H : Hp) (vs : List V) (Q : VK) (E : XK), Room k (A.deeper (envOfC q (defScope st) s.heap.objs.size f cdv)) → sp vs H Q E →
      ∃ t, PSs (cxOf CX0 P w K mg base N q (defScope st) f cdv A outer s H E).nox (defBody st) t ∧ t { nx := fun _ H' => Q .non H', rt := Q } (L2.start N vs) H) : MethS P w K mg base CX0 (k + 1) C m ps dvs sp := by
  obtain ⟨f, fd, ds, kws, h1, h2, h3, h4⟩ := M
  exact ⟨f, fd, ds, h1, h3, h4, h2.ok S len fun cdv A outer s H vs Q E hr h => let ⟨t, a, b⟩ := hbody f cdv A outer s H vs Q E hr h; ⟨t, a.nox, b⟩⟩
theorem init_keeps {P : Program} {w : World} {K : PySem.W.Frag} {mg : Str → Option Value} {base : Heap} {C : Addr} {q : Str} {st : Stmt} {ps N : List Str} {k : Nat} {sp : Sp} (M : IAt K C q st ps) (S : FnScope N ps (defScope st)) (len : ∀ vs H Q E, sp vs H Q E → vs.length = ps.length)
    (hbody : ∀ (f : Addr) (cdv : Value) (A : Around) (outer : List Env) (s : Shared) (H : Hp) (vs : List V) (Q : VK) (E : XK), Room k (A.deeper (envOfC q (defScope st) s.heap.objs.size f cdv)) → sp vs H Q E →
      ∃ t, PSs (cxOf CX0 P w K mg base N q (defScope st) f cdv A outer s H E).nox (defBody st) t ∧ t { nx := fun _ H' => Q .non H', rt := Q } (L2.start N vs) H) : MakeS P w K mg base CX0 (k + 1) C ps sp := by
  obtain ⟨f, fd, h1, h2, h3⟩ := M
  exact ⟨f, fd, h1, h3, h2.ok S len fun cdv A outer s H vs Q E hr h => let ⟨t, a, b⟩ := hbody f cdv A outer s H vs Q E hr h; ⟨t, a.nox, b⟩⟩
theorem meth_keepsX {P : Program} {w : World} {K : PySem.W.Frag} {mg : Str → Option Value} {base : Heap} {C : Addr} {m q : Str} {st : Stmt} {ps N : List Str} {dvs : List V} {k : Nat} {sp : Sp} (M : MAt K C m q st ps dvs) (S : FnScope N ps (defScope st)) (len : ∀ vs H Q E, sp vs H Q E → vs.length = ps.length)
    (hbody : ∀ (f : Addr) (cdv : Value) (A : Around) (outer : List Env) (s : Shared) (H : Hp) (vs : List V) (Q : VK) (E : XK), Room k (A.deeper (envOfC q (defScope st) s.heap.objs.size f cdv)) → sp vs H Q E →
      ∃ t, PSs (cxOf (L2.CX P w) P w K mg base N q (defScope st) f cdv A outer s H E) (defBody st) t ∧ t { nx := fun _ H' => Q .non H', rt := Q } (L2.start N vs) H) : MethS P w K mg base (L2.CX P w) (k + 1) C m ps dvs sp := by
  obtain ⟨f, fd, ds, kws, h1, h2, h3, h4⟩ := M
  exact ⟨f, fd, ds, h1, h3, h4, h2.ok S len fun cdv A outer s H vs Q E hr h => hbody f cdv A outer s H vs Q E hr h⟩
/-- a promise whose exceptions are never wanted -/
theorem fn_noexc {P : Program} {w : World} {K : PySem.W.Frag} {mg : Str → Option Value} {base : Heap} {k : Nat} {f : Addr} {fd : FuncData} {ps : List Str} {sp : Sp} (F : FnOk P w K mg base (L2.CX P w) k f fd ps sp) : FnOk P w K mg base CX0 k f fd ps (fun vs H Q _ => sp vs H Q (fun _ _ _ => False)) :=
  ⟨fun vs H Q E h => F.len vs H Q _ h, fun A outer s H args us vs Q E hr e0 hb hv hs => codeAny_mono (F.run A outer s H args us vs Q (fun _ _ _ => False) hr e0 hb hv hs) fun r s' hq => by
    cases r with
    | error e =>
      obtain ⟨_, _, _, _, _, _, _, _, _, _, _, _, z⟩ := hq
      exact z.elim
    | ok fl => cases fl <;> exact hq⟩
structure Mts (K : PySem.W.Frag) (C : Addr) : Prop where
  k : BK K C
  init : IAt K C "Bench.__init__" s_B_init p_B_init
  moved : MAt K C "_moved" "Bench._moved" s_B_moved p_B_moved []
  standing : MAt K C "standing" "Bench.standing" s_B_standing p_B_standing []
  back : MAt K C "back" "Bench.back" s_B_back p_B_back []
  steps : MAt K C "steps" "Bench.steps" s_B_steps p_B_steps []
  may : MAt K C "may" "Bench.may" s_B_may p_B_may []
  marks : MAt K C "marks" "Bench.marks" s_B_marks p_B_marks []
  step : MAt K C "step" "Bench.step" s_B_step p_B_step []
  mark : MAt K C "mark" "Bench.mark" s_B_mark p_B_mark []
  go : MAt K C "go" "Bench.go" s_B_go p_B_go []
theorem G_is_number {P : Program} {w : World} {K : PySem.W.Frag} {mg : Str → Option Value} {base : Heap} {aWAYS C : Addr} (T : Txt K mg w aWAYS C) (F : Ats K mg) : DefS P w K mg base CX0 1 "is_number" p_is_number (spR R_is_number) :=
  def_okD F.is_number sc_is_number (fun ds d h => by cases h; rfl) fun f cdv A outer s H E hr => ⟨_, bd_is_number T hr, fun ds d h => rp_is_number h⟩
theorem G_is_side {P : Program} {w : World} {K : PySem.W.Frag} {mg : Str → Option Value} {base : Heap} {aWAYS C : Addr} (T : Txt K mg w aWAYS C) (F : Ats K mg) : DefS P w K mg base CX0 2 "is_side" p_is_side (spR R_is_side) :=
  def_okD F.is_side sc_is_side (fun ds d h => by cases h; rfl) fun f cdv A outer s H E hr => ⟨_, bd_is_side T hr (G_is_number T F), fun ds d h => rp_is_side h⟩
theorem G_is_cell {P : Program} {w : World} {K : PySem.W.Frag} {mg : Str → Option Value} {base : Heap} {aWAYS C : Addr} (T : Txt K mg w aWAYS C) (F : Ats K mg) : DefS P w K mg base CX0 2 "is_cell" p_is_cell (spR R_is_cell) :=
  def_okD F.is_cell sc_is_cell (fun ds d h => by cases h; rfl) fun f cdv A outer s H E hr => ⟨_, bd_is_cell T hr (G_is_number T F), fun ds d h => rp_is_cell h⟩
theorem G_is_edge {P : Program} {w : World} {K : PySem.W.Frag} {mg : Str → Option Value} {base : Heap} {aWAYS C : Addr} (T : Txt K mg w aWAYS C) (F : Ats K mg) : DefS P w K mg base CX0 3 "is_edge" p_is_edge (spR R_is_edge) :=
  def_okD F.is_edge sc_is_edge (fun ds d h => by cases h; rfl) fun f cdv A outer s H E hr => ⟨_, bd_is_edge T hr (G_is_cell T F), fun ds d h => rp_is_edge h⟩
theorem G_edge_from {P : Program} {w : World} {K : PySem.W.Frag} {mg : Str → Option Value} {base : Heap} {aWAYS C : Addr} (T : Txt K mg w aWAYS C) (F : Ats K mg) : DefS P w K mg base CX0 1 "edge_from" p_edge_from (spR R_edge_from) :=
  def_okD F.edge_from sc_edge_from (fun ds d h => by cases h; rfl) fun f cdv A outer s H E hr => ⟨_, bd_edge_from T hr, fun ds d h => rp_edge_from h⟩
theorem G_edge_crossed {P : Program} {w : World} {K : PySem.W.Frag} {mg : Str → Option Value} {base : Heap} {aWAYS C : Addr} (T : Txt K mg w aWAYS C) (F : Ats K mg) : DefS P w K mg base CX0 1 "edge_crossed" p_edge_crossed (spR R_edge_crossed) :=
  def_okD F.edge_crossed sc_edge_crossed (fun ds d h => by cases h; rfl) fun f cdv A outer s H E hr => ⟨_, bd_edge_crossed T hr, fun ds d h => rp_edge_crossed h⟩
theorem G_next_cell {P : Program} {w : World} {K : PySem.W.Frag} {mg : Str → Option Value} {base : Heap} {aWAYS C : Addr} (T : Txt K mg w aWAYS C) (F : Ats K mg) : DefS P w K mg base CX0 1 "next_cell" p_next_cell (spR R_next_cell) :=
  def_okD F.next_cell sc_next_cell (fun ds d h => by cases h; rfl) fun f cdv A outer s H E hr => ⟨_, bd_next_cell T hr, fun ds d h => rp_next_cell h⟩
theorem G_door_edge {P : Program} {w : World} {K : PySem.W.Frag} {mg : Str → Option Value} {base : Heap} {aWAYS C : Addr} (T : Txt K mg w aWAYS C) (F : Ats K mg) : DefS P w K mg base CX0 2 "door_edge" p_door_edge (spR R_door_edge) :=
  def_okD F.door_edge sc_door_edge (fun ds d h => by cases h; rfl) fun f cdv A outer s H E hr => ⟨_, bd_door_edge T hr (G_edge_from T F) (G_is_number T F), fun ds d h => rp_door_edge T.s_WAYS h⟩
theorem G_check_edges {P : Program} {w : World} {K : PySem.W.Frag} {mg : Str → Option Value} {base : Heap} {aWAYS C : Addr} (T : Txt K mg w aWAYS C) (F : Ats K mg) : DefS P w K mg base CX0 4 "check_edges" p_check_edges (spR (RN R_check_edges)) :=
  def_okN F.check_edges sc_check_edges (fun ds h => by
    unfold R_check_edges at h
    obtain ⟨_, _, _, _, _, _, rfl, _⟩ := h
    rfl) fun f cdv A outer s H E hr => ⟨_, bd_check_edges T hr (G_is_edge T F), fun ds h => rp_check_edges h⟩
theorem G_check_hall {P : Program} {w : World} {K : PySem.W.Frag} {mg : Str → Option Value} {base : Heap} {aWAYS C : Addr} (T : Txt K mg w aWAYS C) (F : Ats K mg) : DefS P w K mg base CX0 5 "check_hall" p_check_hall (spR (RN R_check_hall)) :=
  def_okN F.check_hall sc_check_hall (fun ds h => by
    unfold R_check_hall at h
    obtain ⟨_, rfl, _⟩ := h
    rfl) fun f cdv A outer s H E hr => ⟨_, bd_check_hall T hr (G_check_edges T F) (G_door_edge T F) (G_is_side T F), fun ds h => rp_check_hall h⟩
theorem G_check_cells {P : Program} {w : World} {K : PySem.W.Frag} {mg : Str → Option Value} {base : Heap} {aWAYS C : Addr} (T : Txt K mg w aWAYS C) (F : Ats K mg) : DefS P w K mg base CX0 3 "check_cells" p_check_cells (spR (RN R_check_cells)) :=
  def_okN F.check_cells sc_check_cells (fun ds h => by
    unfold R_check_cells at h
    obtain ⟨_, _, rfl, _⟩ := h
    rfl) fun f cdv A outer s H E hr => ⟨_, bd_check_cells T hr (G_is_cell T F), fun ds h => rp_check_cells h⟩
theorem G_check_start {P : Program} {w : World} {K : PySem.W.Frag} {mg : Str → Option Value} {base : Heap} {aWAYS C : Addr} (T : Txt K mg w aWAYS C) (F : Ats K mg) : DefS P w K mg base CX0 6 "check_start" p_check_start (spR (RN R_check_start)) :=
  def_okN F.check_start sc_check_start (fun ds h => by
    unfold R_check_start at h
    obtain ⟨_, _, rfl, _⟩ := h
    rfl) fun f cdv A outer s H E hr => ⟨_, bd_check_start T hr (G_check_cells T F) (G_check_hall T F), fun ds h => rp_check_start h⟩
theorem G_first_standing {P : Program} {w : World} {K : PySem.W.Frag} {mg : Str → Option Value} {base : Heap} {aWAYS C : Addr} (T : Txt K mg w aWAYS C) (F : Ats K mg) : DefS P w K mg base CX0 1 "first_standing" p_first_standing (spR R_first_standing) :=
  def_okD F.first_standing sc_first_standing (fun ds d h => by cases h; rfl) fun f cdv A outer s H E hr => ⟨_, bd_first_standing T hr, fun ds d h => rp_first_standing h⟩
theorem G_door_edges {P : Program} {w : World} {K : PySem.W.Frag} {mg : Str → Option Value} {base : Heap} {aWAYS C : Addr} (T : Txt K mg w aWAYS C) (F : Ats K mg) : DefS P w K mg base CX0 2 "door_edges" p_door_edges (spR R_door_edges) :=
  def_okD F.door_edges sc_door_edges (fun ds d h => by cases h; rfl) fun f cdv A outer s H E hr => ⟨_, bd_door_edges T hr (G_edge_from T F), fun ds d h => rp_door_edges h⟩
theorem G_is_step {P : Program} {w : World} {K : PySem.W.Frag} {mg : Str → Option Value} {base : Heap} {aWAYS C : Addr} (T : Txt K mg w aWAYS C) (F : Ats K mg) : DefS P w K mg base CX0 2 "is_step" p_is_step (spR R_is_step) :=
  def_okD F.is_step sc_is_step (fun ds d h => by cases h; rfl) fun f cdv A outer s H E hr => ⟨_, bd_is_step T hr (G_is_number T F), fun ds d h => rp_is_step T.s_WAYS h⟩
theorem G_swung_ways {P : Program} {w : World} {K : PySem.W.Frag} {mg : Str → Option Value} {base : Heap} {aWAYS C : Addr} (T : Txt K mg w aWAYS C) (F : Ats K mg) : DefS P w K mg base CX0 4 "swung_ways" p_swung_ways (spR R_swung_ways) :=
  def_okD F.swung_ways sc_swung_ways (fun ds d h => by cases h; rfl) fun f cdv A outer s H E hr => ⟨_, bd_swung_ways T hr (G_door_edges T F) (G_edge_from T F) (G_is_edge T F), fun ds d h => rp_swung_ways h⟩
theorem G_step_done {P : Program} {w : World} {K : PySem.W.Frag} {mg : Str → Option Value} {base : Heap} {aWAYS C : Addr} (T : Txt K mg w aWAYS C) (F : Ats K mg) : DefS P w K mg base CX0 5 "step_done" p_step_done (spR R_step_done) :=
  def_okD F.step_done sc_step_done (fun ds d h => by cases h; rfl) fun f cdv A outer s H E hr => ⟨_, bd_step_done T hr (G_door_edges T F) (G_edge_crossed T F) (G_is_cell T F) (G_next_cell T F) (G_swung_ways T F), fun ds d h => rp_step_done h⟩
theorem G_step_tried {P : Program} {w : World} {K : PySem.W.Frag} {mg : Str → Option Value} {base : Heap} {aWAYS C : Addr} (T : Txt K mg w aWAYS C) (F : Ats K mg) : DefS P w K mg base CX0 6 "step_tried" p_step_tried (spR R_step_tried) :=
  def_okD F.step_tried sc_step_tried (fun ds d h => by cases h; rfl) fun f cdv A outer s H E hr => ⟨_, bd_step_tried T hr (G_is_step T F) (G_step_done T F), fun ds d h => rp_step_tried h⟩
theorem G_moves_from {P : Program} {w : World} {K : PySem.W.Frag} {mg : Str → Option Value} {base : Heap} {aWAYS C : Addr} (T : Txt K mg w aWAYS C) (F : Ats K mg) : DefS P w K mg base CX0 6 "moves_from" p_moves_from (spR R_moves) :=
  def_okD F.moves_from sc_moves_from (fun ds d h => by cases h; rfl) fun f cdv A outer s H E hr => ⟨_, bd_moves_from T hr (G_step_done T F), fun ds d h => rp_moves_from T.s_WAYS h⟩
theorem G_is_name {P : Program} {w : World} {K : PySem.W.Frag} {mg : Str → Option Value} {base : Heap} {aWAYS C : Addr} (T : Txt K mg w aWAYS C) (F : Ats K mg) : DefS P w K mg base CX0 1 "is_name" p_is_name (spR R_is_name) :=
  def_okD F.is_name sc_is_name (fun ds d h => by cases h <;> rfl) fun f cdv A outer s H E hr => ⟨_, bd_is_name T hr, fun ds d h => rp_is_name h⟩
theorem G_L_taken {P : Program} {w : World} {K : PySem.W.Frag} {mg : Str → Option Value} {base : Heap} {aWAYS C : Addr} (T : Txt K mg w aWAYS C) (F : Ats K mg) : DefS P w K mg base CX0 1 "_law_taken" p_L_taken (spW K P_taken R_taken) :=
  def_ok F.L_taken sc_L_taken (fun vs H Q E h => by
    obtain ⟨l, sc, ns, B, ws, ds, rfl, hd, _, ⟨m, rfl, _⟩, _⟩ := h
    rw [List.length_cons, hd.length]
    rfl) fun f cdv A outer s H vs Q E hr h => ⟨_, bd_L_taken T hr, rp_L_taken (sp_taken h)⟩
theorem G_L_pair {P : Program} {w : World} {K : PySem.W.Frag} {mg : Str → Option Value} {base : Heap} {aWAYS C : Addr} (T : Txt K mg w aWAYS C) (F : Ats K mg) : DefS P w K mg base CX0 1 "_law_pair" p_L_pair (spR R_L_pair) :=
  def_okD F.L_pair sc_L_pair (fun ds d h => by cases h; rfl) fun f cdv A outer s H E hr => ⟨_, bd_L_pair T hr, fun ds d h => rp_L_pair h⟩
theorem G_L_shut {P : Program} {w : World} {K : PySem.W.Frag} {mg : Str → Option Value} {base : Heap} {aWAYS C : Addr} (T : Txt K mg w aWAYS C) (F : Ats K mg) : DefS P w K mg base CX0 1 "_law_shut" p_L_shut (spR R_L_shut) :=
  def_okD F.L_shut sc_L_shut (fun ds d h => by cases h; rfl) fun f cdv A outer s H E hr => ⟨_, bd_L_shut T hr, fun ds d h => rp_L_shut h⟩
theorem G_L_within {P : Program} {w : World} {K : PySem.W.Frag} {mg : Str → Option Value} {base : Heap} {aWAYS C : Addr} (T : Txt K mg w aWAYS C) (F : Ats K mg) : DefS P w K mg base CX0 1 "_law_within" p_L_within (spR R_L_within) :=
  def_okD F.L_within sc_L_within (fun ds d h => by cases h; rfl) fun f cdv A outer s H E hr => ⟨_, bd_L_within T hr, fun ds d h => rp_L_within h⟩
theorem G_L_next {P : Program} {w : World} {K : PySem.W.Frag} {mg : Str → Option Value} {base : Heap} {aWAYS C : Addr} (T : Txt K mg w aWAYS C) (F : Ats K mg) : DefS P w K mg base CX0 1 "_law_next" p_L_next (spR R_L_next) :=
  def_okD F.L_next sc_L_next (fun ds d h => by cases h; rfl) fun f cdv A outer s H E hr => ⟨_, bd_L_next T hr, fun ds d h => rp_L_next h⟩
theorem G_L_step {P : Program} {w : World} {K : PySem.W.Frag} {mg : Str → Option Value} {base : Heap} {aWAYS C : Addr} (T : Txt K mg w aWAYS C) (F : Ats K mg) : DefS P w K mg base CX0 2 "_law_step" p_L_step (spR R_L_step) :=
  def_okD F.L_step sc_L_step (fun ds d h => by cases h; rfl) fun f cdv A outer s H E hr => ⟨_, bd_L_step T hr (G_L_next T F) (G_L_pair T F) (G_L_shut T F) (G_L_within T F), fun ds d h => rp_L_step h⟩
theorem G_L_begin {P : Program} {w : World} {K : PySem.W.Frag} {mg : Str → Option Value} {base : Heap} {aWAYS C : Addr} (T : Txt K mg w aWAYS C) (F : Ats K mg) : DefS P w K mg base CX0 1 "_law_begin" p_L_begin (spR R_first_standing) :=
  def_okD F.L_begin sc_L_begin (fun ds d h => by cases h; rfl) fun f cdv A outer s H E hr => ⟨_, bd_L_begin T hr, fun ds d h => rp_L_begin h⟩
theorem G_L_hall {P : Program} {w : World} {K : PySem.W.Frag} {mg : Str → Option Value} {base : Heap} {aWAYS C : Addr} (T : Txt K mg w aWAYS C) (F : Ats K mg) : DefS P w K mg base CX0 2 "_law_hall" p_L_hall (spW K P_hall R_hall) :=
  def_ok F.L_hall sc_L_hall (fun vs H Q E h => by
    obtain ⟨l, sc, ns, B, ws, ds, rfl, hd, _, hp, _⟩ := h
    rw [List.length_cons, hd.length, show ds = _ from hp]
    rfl) fun f cdv A outer s H vs Q E hr h => ⟨_, bd_L_hall T hr (G_L_pair T F) (G_L_shut T F) (G_L_taken T F) (G_L_within T F), rp_L_hall h⟩
theorem G_L_cells {P : Program} {w : World} {K : PySem.W.Frag} {mg : Str → Option Value} {base : Heap} {aWAYS C : Addr} (T : Txt K mg w aWAYS C) (F : Ats K mg) : DefS P w K mg base CX0 2 "_law_cells" p_L_cells (spW K P_cells R_cells) :=
  def_ok F.L_cells sc_L_cells (fun vs H Q E h => by
    obtain ⟨l, sc, ns, B, ws, ds, rfl, hd, _, ⟨h0, _, hp⟩, _⟩ := h
    rw [List.length_cons, hd.length, show ds = _ from hp]
    rfl) fun f cdv A outer s H vs Q E hr h => ⟨_, bd_L_cells T hr (G_L_taken T F), rp_L_cells h⟩
theorem G_L_steps {P : Program} {w : World} {K : PySem.W.Frag} {mg : Str → Option Value} {base : Heap} {aWAYS C : Addr} (T : Txt K mg w aWAYS C) (F : Ats K mg) : DefS P w K mg base CX0 3 "_law_steps" p_L_steps (spR R_moves) :=
  def_okD F.L_steps sc_L_steps (fun ds d h => by cases h; rfl) fun f cdv A outer s H E hr => ⟨_, bd_L_steps T hr (G_L_step T F), fun ds d h => rp_L_steps h⟩
theorem G_L_alike {P : Program} {w : World} {K : PySem.W.Frag} {mg : Str → Option Value} {base : Heap} {aWAYS C : Addr} (T : Txt K mg w aWAYS C) (F : Ats K mg) : ∀ n : Nat, DefS P w K mg base CX0 (n + 1) "_law_alike" p_L_alike (spR (R_alikeB n))
  | 0 => def_ok F.L_alike sc_L_alike (fun vs H Q E h => by
      obtain ⟨B, ds, d, _, _, ⟨x, hx, _⟩, _⟩ := h
      exact hx.elim) fun f cdv A outer s H vs Q E hr h => by
      obtain ⟨B, ds, d, _, _, ⟨x, hx, _⟩, _⟩ := h
      exact hx.elim
  | n + 1 => def_okD F.L_alike sc_L_alike (fun ds d h => by
      obtain ⟨x, _, rfl, _⟩ := h
      rfl) fun f cdv A outer s H E hr => ⟨_, bd_L_alike T hr (G_L_alike T F n), fun ds d h => rp_L_alikeB h⟩
theorem G_L_any_step {P : Program} {w : World} {K : PySem.W.Frag} {mg : Str → Option Value} {base : Heap} {aWAYS C : Addr} (T : Txt K mg w aWAYS C) (F : Ats K mg) : DefS P w K mg base CX0 4 "_law_any_step" p_L_any_step (spW K P_any R_any) :=
  def_ok F.L_any_step sc_L_any_step (fun vs H Q E h => by
    obtain ⟨l, sc, ns, B, ws, ds, rfl, hd, _, ⟨h, s, i, _, _, rfl⟩, _⟩ := h
    rw [List.length_cons, hd.length]
    rfl) fun f cdv A outer s H vs Q E hr h => ⟨_, bd_L_any_step T hr (G_L_steps T F) (G_L_taken T F), rp_L_any_step h⟩
theorem G_B_init {P : Program} {w : World} {K : PySem.W.Frag} {mg : Str → Option Value} {base : Heap} {aWAYS C : Addr} (T : Txt K mg w aWAYS C) (F : Ats K mg) (M : Mts K C) : MakeS P w K mg base CX0 7 C p_B_init (sp_init C) :=
  init_keeps M.init sc_B_init (fun vs H Q E h => by
    obtain ⟨B, x, dx, h, cs, va, vb, rfl, _⟩ := h
    rfl) fun f cdv A outer s H vs Q E hr h => ⟨_, bd_B_init T hr (G_check_start T F) (G_first_standing T F), rp_B_init M.k h⟩
theorem G_B_moved {P : Program} {w : World} {K : PySem.W.Frag} {mg : Str → Option Value} {base : Heap} {aWAYS C : Addr} (T : Txt K mg w aWAYS C) (F : Ats K mg) (M : Mts K C) : MethS P w K mg base CX0 7 C "_moved" p_B_moved [] (spM C R_B_moved) :=
  meth_keeps M.moved sc_B_moved (fun vs H Q E h => by
    obtain ⟨B, a, b, ws, ds, b', d, rfl, _, _, _, dv, hR, _⟩ := h
    rw [List.length_cons, dv.length]
    cases hR <;> rfl) fun f cdv A outer s H vs Q E hr h => ⟨_, bd_B_moved T hr (G_step_tried T F), rp_B_moved M.k h⟩
theorem G_B_standing {P : Program} {w : World} {K : PySem.W.Frag} {mg : Str → Option Value} {base : Heap} {aWAYS C : Addr} (T : Txt K mg w aWAYS C) (F : Ats K mg) (M : Mts K C) : MethS P w K mg base CX0 1 C "standing" p_B_standing [] (spP C R_B_standing) :=
  meth_keeps M.standing sc_B_standing (fun vs H Q E h => by
    obtain ⟨B, a, b, d, rfl, _⟩ := h
    rfl) fun f cdv A outer s H vs Q E hr h => ⟨_, bd_B_standing T hr, rp_B_standing M.k h⟩
theorem G_B_back {P : Program} {w : World} {K : PySem.W.Frag} {mg : Str → Option Value} {base : Heap} {aWAYS C : Addr} (T : Txt K mg w aWAYS C) (F : Ats K mg) (M : Mts K C) : MethS P w K mg base CX0 1 C "back" p_B_back [] (spM C R_B_back) :=
  meth_keeps M.back sc_B_back (fun vs H Q E h => by
    obtain ⟨B, a, b, ws, ds, b', d, rfl, _, _, _, dv, hR, _⟩ := h
    rw [List.length_cons, dv.length]
    cases hR <;> rfl) fun f cdv A outer s H vs Q E hr h => ⟨_, bd_B_back T hr, rp_B_back M.k h⟩
theorem G_B_steps {P : Program} {w : World} {K : PySem.W.Frag} {mg : Str → Option Value} {base : Heap} {aWAYS C : Addr} (T : Txt K mg w aWAYS C) (F : Ats K mg) (M : Mts K C) : MethS P w K mg base CX0 1 C "steps" p_B_steps [] (spL C R_B_steps P_B_steps) :=
  meth_keeps M.steps sc_B_steps (fun vs H Q E h => by
    obtain ⟨B, a, b, rfl, _⟩ := h
    rfl) fun f cdv A outer s H vs Q E hr h => ⟨_, bd_B_steps T hr, rp_B_steps M.k h⟩
theorem G_B_may {P : Program} {w : World} {K : PySem.W.Frag} {mg : Str → Option Value} {base : Heap} {aWAYS C : Addr} (T : Txt K mg w aWAYS C) (F : Ats K mg) (M : Mts K C) : MethS P w K mg base CX0 7 C "may" p_B_may [] (spL C R_B_may P_B_may) :=
  meth_keeps M.may sc_B_may (fun vs H Q E h => by
    obtain ⟨B, a, b, rfl, _⟩ := h
    rfl) fun f cdv A outer s H vs Q E hr h => ⟨_, bd_B_may T hr (G_moves_from T F), rp_B_may M.k h⟩
theorem G_B_marks {P : Program} {w : World} {K : PySem.W.Frag} {mg : Str → Option Value} {base : Heap} {aWAYS C : Addr} (T : Txt K mg w aWAYS C) (F : Ats K mg) (M : Mts K C) : MethS P w K mg base CX0 1 C "marks" p_B_marks [] (spL C R_B_marks P_B_marks) :=
  meth_keeps M.marks sc_B_marks (fun vs H Q E h => by
    obtain ⟨B, a, b, rfl, _⟩ := h
    rfl) fun f cdv A outer s H vs Q E hr h => ⟨_, bd_B_marks T hr, rp_B_marks M.k h⟩
theorem G_B_step {P : Program} {w : World} {K : PySem.W.Frag} {mg : Str → Option Value} {base : Heap} {aWAYS C : Addr} (T : Txt K mg w aWAYS C) (F : Ats K mg) (M : Mts K C) {CS CN CP : Addr} (XS : ExS P w K mg base "BadStep" CS ["self", "number"] (sp_initS CS)) (XN : ExP K mg "BadName" CN) (XP : ExP K mg "NoPoint" CP) : MethS P w K mg base (L2.CX P w) 8 C "step" p_B_step [] (spY C R_B_step (Y_B_step CS)) :=
  meth_keepsX M.step sc_B_step (fun vs H Q E h => by
    obtain ⟨B, a, b, ws, ds, rfl, _, _, _, dv, hc⟩ := h
    rw [List.length_cons, dv.length]
    rcases hc with ⟨_, _, hR, _⟩ | ⟨_, _, _, hY, _⟩
    · cases hR <;> rfl
    · cases hY <;> rfl) fun f cdv A outer s H vs Q E hr h => ⟨_, bd_B_step T XS XN XP hr M.k.c (G_B_moved T F M), rp_B_step M.k h⟩
theorem G_B_mark {P : Program} {w : World} {K : PySem.W.Frag} {mg : Str → Option Value} {base : Heap} {aWAYS C : Addr} (T : Txt K mg w aWAYS C) (F : Ats K mg) (M : Mts K C) {CS CN CP : Addr} (XS : ExS P w K mg base "BadStep" CS ["self", "number"] (sp_initS CS)) (XN : ExP K mg "BadName" CN) (XP : ExP K mg "NoPoint" CP) : MethS P w K mg base (L2.CX P w) 2 C "mark" p_B_mark [] (spY C R_B_mark (Y_B_mark CN)) :=
  meth_keepsX M.mark sc_B_mark (fun vs H Q E h => by
    obtain ⟨B, a, b, ws, ds, rfl, _, _, _, dv, hc⟩ := h
    rw [List.length_cons, dv.length]
    rcases hc with ⟨_, _, hR, _⟩ | ⟨_, _, _, hY, _⟩
    · cases hR <;> rfl
    · cases hY <;> rfl) fun f cdv A outer s H vs Q E hr h => ⟨_, bd_B_mark T XS XN XP hr (G_is_name T F), rp_B_mark M.k h⟩
theorem G_B_go {P : Program} {w : World} {K : PySem.W.Frag} {mg : Str → Option Value} {base : Heap} {aWAYS C : Addr} (T : Txt K mg w aWAYS C) (F : Ats K mg) (M : Mts K C) {CS CN CP : Addr} (XS : ExS P w K mg base "BadStep" CS ["self", "number"] (sp_initS CS)) (XN : ExP K mg "BadName" CN) (XP : ExP K mg "NoPoint" CP) : MethS P w K mg base (L2.CX P w) 1 C "go" p_B_go [] (spY C R_B_go (Y_B_go CP)) :=
  meth_keepsX M.go sc_B_go (fun vs H Q E h => by
    obtain ⟨B, a, b, ws, ds, rfl, _, _, _, dv, hc⟩ := h
    rw [List.length_cons, dv.length]
    rcases hc with ⟨_, _, hR, _⟩ | ⟨_, _, _, hY, _⟩
    · cases hR <;> rfl
    · cases hY <;> rfl) fun f cdv A outer s H vs Q E hr h => ⟨_, bd_B_go T XS XN XP hr, rp_B_go M.k h⟩
theorem G_B_step0 {P : Program} {w : World} {K : PySem.W.Frag} {mg : Str → Option Value} {base : Heap} {aWAYS C : Addr} (T : Txt K mg w aWAYS C) (F : Ats K mg) (M : Mts K C) {CS CN CP : Addr} (XS : ExS P w K mg base "BadStep" CS ["self", "number"] (sp_initS CS)) (XN : ExP K mg "BadName" CN) (XP : ExP K mg "NoPoint" CP) : MethS P w K mg base CX0 8 C "step" p_B_step [] (spY0 C R_B_step (Y_B_step CS)) := by
  obtain ⟨f, fd, ds, h1, h2, h3, h4⟩ := G_B_step T F M XS XN XP
  exact ⟨f, fd, ds, h1, h2, h3, fn_noexc h4⟩
theorem G_B_mark0 {P : Program} {w : World} {K : PySem.W.Frag} {mg : Str → Option Value} {base : Heap} {aWAYS C : Addr} (T : Txt K mg w aWAYS C) (F : Ats K mg) (M : Mts K C) {CS CN CP : Addr} (XS : ExS P w K mg base "BadStep" CS ["self", "number"] (sp_initS CS)) (XN : ExP K mg "BadName" CN) (XP : ExP K mg "NoPoint" CP) : MethS P w K mg base CX0 2 C "mark" p_B_mark [] (spY0 C R_B_mark (Y_B_mark CN)) := by
  obtain ⟨f, fd, ds, h1, h2, h3, h4⟩ := G_B_mark T F M XS XN XP
  exact ⟨f, fd, ds, h1, h2, h3, fn_noexc h4⟩
theorem G_L_stands {P : Program} {w : World} {K : PySem.W.Frag} {mg : Str → Option Value} {base : Heap} {aWAYS C : Addr} (T : Txt K mg w aWAYS C) (F : Ats K mg) (M : Mts K C) : DefS P w K mg base CX0 9 "_law_stands" p_L_stands (sp_stands C) :=
  def_ok F.L_stands sc_L_stands (fun vs H Q E h => by
    obtain ⟨B, a, q, h, s0, es, pts, vh, vn, vp, rfl, _⟩ := h
    rfl) fun f cdv A outer s H vs Q E hr h => ⟨_, bd_L_stands T hr M.k.c (G_L_alike T F 7) (G_L_steps T F) (G_B_marks T F M) (G_B_may T F M) (G_B_standing T F M) (G_B_steps T F M), rp_L_stands h⟩
/-- a def that makes lambdas: where it stands, its code object and table -/
structure AtC (K : PySem.W.Frag) (mg : Str → Option Value) (x : Str) (st : Stmt) (ps : List Str) (c : Addr) : Prop where
  ex : ∃ f oc od kV doc pm an ct osl, mg x = some (.ref f) ∧ PySem.W.keepIn K (.ref f) = true ∧ K.lookup f = some ⟨oc, od, .func (PySem.W.fnOf x x (defArgs st) (defBody st) (defScope st) .none kV doc pm an (.ref c) ct), osl⟩ ∧ PySem.W.codeIn K (.ref c) x = true ∧
    Binds K (PySem.W.fnOf x x (defArgs st) (defBody st) (defScope st) .none kV doc pm an (.ref c) ct) ps []
theorem G_L_refuses {P : Program} {w : World} {K : PySem.W.Frag} {mg : Str → Option Value} {base : Heap} {aWAYS C CS CN CP CH c PT PR : Addr} {cA : Str → Addr} (T : Txt K mg w aWAYS C) (F : Ats K mg) (M : Mts K C)
    (XS : ExS P w K mg base "BadStep" CS ["self", "number"] (sp_initS CS)) (XN : ExP K mg "BadName" CN) (XP : ExP K mg "NoPoint" CP) (hall : mg "HallError" = some (.ref CH)) (hxS : XcOk K mg CS CH cA 2) (hxN : XcOk K mg CN CH cA 10) (hxP : XcOk K mg CP CH cA 11) (G : WordD K mg) (hne : PT ≠ PR) (TB : TabB base mg c PR)
    (R : AtC K mg "_law_refuses" s_L_refuses p_L_refuses c) : DefS P w K mg base CX0 11 "_law_refuses" p_L_refuses (sp_refuses K C (lawT PT PR)) := by
  obtain ⟨f, oc, od, kV, doc, pm, an, ct, osl, h1, h2, h3, h4, h5⟩ := R.ex
  refine ⟨f, _, h1, h2, h5, ?_⟩
  refine fn_of h3 h4 sc_L_refuses (fun vs H Q E h => ?_) fun A outer s H vs Q E hr h => ⟨_, (bd_L_refuses T (fun p lp pos => pe_lam3 (CH := CH) (cA := cA) T hall M.k.c (G_B_mark T F M XS XN XP) G hne TB (k := 2) (hr.mono (by omega)) p lp pos) (fun p lp pos => pe_lam4 (CH := CH) (cA := cA) T hall M.k.c (G_B_go T F M XS XN XP) G hne TB (k := 1) (hr.mono (by omega)) p lp pos) (fun p lp pos => pe_lam5 (CH := CH) (cA := cA) T hall M.k.c (G_B_step T F M XS XN XP) G hne TB (k := 8) (hr.mono (by omega)) p lp pos) (hr.mono (by omega)) (G_L_taken T F)).nox, rp_L_refuses hxS hxN hxP h⟩
  obtain ⟨l, sc, ns, B, a, h, s0, es, pts, rfl, _⟩ := h
  rfl
/-! the law -/
theorem ok_law {P : Program} {w : World} {K : PySem.W.Frag} {mg : Str → Option Value} {base : Heap} {aWAYS C CS CN CP CH f c cR PT PR : Addr} {cA : Str → Addr} {oc kV doc pm ct : Value} {od an : Option Addr} {osl : Array (Option Value)} (T : Txt K mg w aWAYS C) (F : Ats K mg) (M : Mts K C)
    (XS : ExS P w K mg base "BadStep" CS ["self", "number"] (sp_initS CS)) (XN : ExP K mg "BadName" CN) (XP : ExP K mg "NoPoint" CP) (hall : mg "HallError" = some (.ref CH)) (hxS : XcOk K mg CS CH cA 2) (hxN : XcOk K mg CN CH cA 10) (hxP : XcOk K mg CP CH cA 11) (G : WordD K mg) (hne : PT ≠ PR) (TB : TabB base mg c PT) (TR : TabB base mg cR PR)
    (R : AtC K mg "_law_refuses" s_L_refuses p_L_refuses cR)
    (lk : K.lookup f = some ⟨oc, od, .func (PySem.W.fnOf "law" "law" (defArgs s_law) (defBody s_law) (defScope s_law) .none kV doc pm an (.ref c) ct), osl⟩) (hcd : PySem.W.codeIn K (.ref c) "law" = true) :
    FnOk P w K mg base CX0 12 f (PySem.W.fnOf "law" "law" (defArgs s_law) (defBody s_law) (defScope s_law) .none kV doc pm an (.ref c) ct) p_law (sp_law K (lawT PT PR)) := by
  refine fn_of lk hcd sc_law (fun vs H Q E h => ?_) fun A outer s H vs Q E hr h => ⟨_, (bd_law T (fun p lp pos => pe_lam1 (CH := CH) (cA := cA) T hall M.k.c (G_B_step T F M XS XN XP) G hne TB (k := 8) (hr.mono (by omega)) p lp pos) (fun p lp pos => pe_lam2 (CH := CH) (cA := cA) T hall M.k.c (G_B_go T F M XS XN XP) G hne TB (k := 1) (hr.mono (by omega)) p lp pos) (hr.mono (by omega)) M.k.c (G_L_alike T F 7) (G_L_any_step T F) (G_L_begin T F) (G_L_cells T F) (G_L_hall T F) (G_L_refuses T F M XS XN XP hall hxS hxN hxP G hne TR R) (G_L_stands T F M) (G_L_step T F) (G_L_taken T F) (G_B_init T F M) (G_B_back T F M) (G_B_mark0 T F M XS XN XP) (G_B_step0 T F M XS XN XP)).nox, rp_law hxS hxP h⟩
  obtain ⟨sc, ns, rfl, _⟩ := h
  rfl
end Pd

/-! Top14 -/
set_option Elab.async false
set_option linter.all false
set_option maxRecDepth 100000
set_option maxHeartbeats 4000000
/-! the facts of the program's top, and the law's promise from them -/
namespace Pd
open PySem PySem.Spec PyProof.Rows L2 LamX
theorem at_of {K : PySem.W.Frag} {h : Heap} {mg : Str → Option Value} (X : K.In h) (G : h.Ns mainGlobals mg) {fa : List He.Fa} {fn : List He.DefD} (c : He.SaysD fa fn K) {x : Str} {st : Stmt} {ps : List Str} (i : Nat) (h1 : fn[i]? = some ⟨(x, none), x, x, defArgs st, defBody st, defScope st, [], []⟩) (h2 : fa[i]? = some (.glo x))
    (hb : ∀ (kV doc pm : Value) (an : Option Addr) (cdv ct : Value) (us : List Value), us.length = ps.length → bindArgs (PySem.W.fnOf x x (defArgs st) (defBody st) (defScope st) .none kV doc pm an cdv ct) ⟨us, []⟩ = pure (ps.zip us)) : At K mg x st ps := by
  obtain ⟨fd, F⟩ := c.def_ i h1
  obtain ⟨oc, od, dV, kV, doc, pm, an, cdv, ct, osl, e, lk, hc, hD, _⟩ := F.ex
  have g := He.glo_ok X G (c.fact i h2)
  have hV : dV = .none := by
    rcases hD with ⟨_, q⟩ | ⟨q, _⟩
    · exact q
    · exact absurd rfl q
  subst hV
  subst e
  have F2 : Fun K x x st (He.ga K x) _ := fun_mk lk hc F.kp
  exact ⟨He.ga K x, _, g, F2, F2.binds hb⟩
def dOf (x : Str) (st : Stmt) : He.DefD := ⟨(x, none), x, x, defArgs st, defBody st, defScope st, [], []⟩
def dOfM (m q : Str) (st : Stmt) (kw : List (Str × He.Dv)) : He.DefD := ⟨("Bench", some m), m, q, defArgs st, defBody st, defScope st, [], kw⟩
def topFn : List He.DefD := [dOf "is_number" s_is_number, dOf "is_side" s_is_side, dOf "is_cell" s_is_cell, dOf "is_edge" s_is_edge, dOf "edge_from" s_edge_from, dOf "edge_crossed" s_edge_crossed, dOf "next_cell" s_next_cell, dOf "door_edge" s_door_edge, dOf "check_edges" s_check_edges, dOf "check_hall" s_check_hall, dOf "check_cells" s_check_cells, dOf "check_start" s_check_start, dOf "first_standing" s_first_standing, dOf "door_edges" s_door_edges, dOf "is_step" s_is_step, dOf "swung_ways" s_swung_ways, dOf "step_done" s_step_done, dOf "step_tried" s_step_tried, dOf "moves_from" s_moves_from, dOf "is_name" s_is_name, dOf "_law_taken" s_L_taken, dOf "_law_pair" s_L_pair, dOf "_law_shut" s_L_shut, dOf "_law_within" s_L_within, dOf "_law_next" s_L_next, dOf "_law_step" s_L_step, dOf "_law_begin" s_L_begin, dOf "_law_hall" s_L_hall, dOf "_law_cells" s_L_cells, dOf "_law_steps" s_L_steps, dOf "_law_alike" s_L_alike, dOf "_law_stands" s_L_stands, dOf "_law_any_step" s_L_any_step, dOf "_law_refuses" s_L_refuses, dOf "law" s_law, dOf "_law_word" s_L_word, dOfM "__init__" "Bench.__init__" s_B_init [], dOfM "_moved" "Bench._moved" s_B_moved [], dOfM "standing" "Bench.standing" s_B_standing [], dOfM "back" "Bench.back" s_B_back [], dOfM "steps" "Bench.steps" s_B_steps [], dOfM "may" "Bench.may" s_B_may [], dOfM "marks" "Bench.marks" s_B_marks [], dOfM "step" "Bench.step" s_B_step [], dOfM "mark" "Bench.mark" s_B_mark [], dOfM "go" "Bench.go" s_B_go []]
def topFa : List He.Fa := [.glo "is_number", .glo "is_side", .glo "is_cell", .glo "is_edge", .glo "edge_from", .glo "edge_crossed", .glo "next_cell", .glo "door_edge", .glo "check_edges", .glo "check_hall", .glo "check_cells", .glo "check_start", .glo "first_standing", .glo "door_edges", .glo "is_step", .glo "swung_ways", .glo "step_done", .glo "step_tried", .glo "moves_from", .glo "is_name", .glo "_law_taken", .glo "_law_pair", .glo "_law_shut", .glo "_law_within", .glo "_law_next", .glo "_law_step", .glo "_law_begin", .glo "_law_hall", .glo "_law_cells", .glo "_law_steps", .glo "_law_alike", .glo "_law_stands", .glo "_law_any_step", .glo "_law_refuses", .glo "law", .glo "_law_word", .free "all", .free "bool", .free "enumerate", .free "int", .free "isinstance", .free "len", .free "list", .free "max", .free "min", .free "range", .free "sorted", .free "str", .free "tuple", .free "zip", .free "ValueError", .free "super", .int "MOST_SIDE" 5, .int "MOST_WALLS" 24, .int "MOST_DOORS" 6, .int "MOST_WALKERS" 3, .int "LONGEST_NAME" 8, .glo "WAYS", .glo "Bench", .glo "HallError", .glo "BadCells", .glo "BadCount", .glo "BadGoal", .glo "BadHall", .glo "BadName", .glo "BadPaper", .glo "BadStep", .glo "BadText", .glo "Halted", .glo "Meets", .glo "NoPoint", .glo "TooMany", .noat "BadStep" "done", .noat "BadStep" "number", .noat "BadStep" "part", .noat "BadStep" "row", .noat "BadName" "done", .noat "BadName" "number", .noat "BadName" "part", .noat "BadName" "row", .noat "NoPoint" "done", .noat "NoPoint" "number", .noat "NoPoint" "part", .noat "NoPoint" "row", .str "LETTERS" "abcdefghijklmnopqrstuvwxyz", .cls "Bench", .noat "Bench" "_hall", .noat "Bench" "_now", .noat "Bench" "_trail", .noat "Bench" "_points", .noat "Bench" "_batches", .noat "Bench" "_idle", .meth "Bench" "_moved", .meth "Bench" "standing", .meth "Bench" "back", .meth "Bench" "steps", .meth "Bench" "may", .meth "Bench" "marks", .meth "Bench" "step", .meth "Bench" "mark", .meth "Bench" "go", .mkr "Bench"]
theorem at_is_number {K : PySem.W.Frag} {h : Heap} {mg : Str → Option Value} (X : K.In h) (G : h.Ns mainGlobals mg) (c : He.SaysD topFa topFn K) : At K mg "is_number" s_is_number p_is_number := at_of X G c 0 rfl rfl fun _ _ _ _ _ _ us hl => match us, hl with | [_], _ => rfl
theorem at_is_side {K : PySem.W.Frag} {h : Heap} {mg : Str → Option Value} (X : K.In h) (G : h.Ns mainGlobals mg) (c : He.SaysD topFa topFn K) : At K mg "is_side" s_is_side p_is_side := at_of X G c 1 rfl rfl fun _ _ _ _ _ _ us hl => match us, hl with | [_], _ => rfl
theorem at_is_cell {K : PySem.W.Frag} {h : Heap} {mg : Str → Option Value} (X : K.In h) (G : h.Ns mainGlobals mg) (c : He.SaysD topFa topFn K) : At K mg "is_cell" s_is_cell p_is_cell := at_of X G c 2 rfl rfl fun _ _ _ _ _ _ us hl => match us, hl with | [_, _], _ => rfl
theorem at_is_edge {K : PySem.W.Frag} {h : Heap} {mg : Str → Option Value} (X : K.In h) (G : h.Ns mainGlobals mg) (c : He.SaysD topFa topFn K) : At K mg "is_edge" s_is_edge p_is_edge := at_of X G c 3 rfl rfl fun _ _ _ _ _ _ us hl => match us, hl with | [_, _], _ => rfl
theorem at_edge_from {K : PySem.W.Frag} {h : Heap} {mg : Str → Option Value} (X : K.In h) (G : h.Ns mainGlobals mg) (c : He.SaysD topFa topFn K) : At K mg "edge_from" s_edge_from p_edge_from := at_of X G c 4 rfl rfl fun _ _ _ _ _ _ us hl => match us, hl with | [_, _, _], _ => rfl
theorem at_edge_crossed {K : PySem.W.Frag} {h : Heap} {mg : Str → Option Value} (X : K.In h) (G : h.Ns mainGlobals mg) (c : He.SaysD topFa topFn K) : At K mg "edge_crossed" s_edge_crossed p_edge_crossed := at_of X G c 5 rfl rfl fun _ _ _ _ _ _ us hl => match us, hl with | [_, _], _ => rfl
theorem at_next_cell {K : PySem.W.Frag} {h : Heap} {mg : Str → Option Value} (X : K.In h) (G : h.Ns mainGlobals mg) (c : He.SaysD topFa topFn K) : At K mg "next_cell" s_next_cell p_next_cell := at_of X G c 6 rfl rfl fun _ _ _ _ _ _ us hl => match us, hl with | [_, _], _ => rfl
theorem at_door_edge {K : PySem.W.Frag} {h : Heap} {mg : Str → Option Value} (X : K.In h) (G : h.Ns mainGlobals mg) (c : He.SaysD topFa topFn K) : At K mg "door_edge" s_door_edge p_door_edge := at_of X G c 7 rfl rfl fun _ _ _ _ _ _ us hl => match us, hl with | [_], _ => rfl
theorem at_check_edges {K : PySem.W.Frag} {h : Heap} {mg : Str → Option Value} (X : K.In h) (G : h.Ns mainGlobals mg) (c : He.SaysD topFa topFn K) : At K mg "check_edges" s_check_edges p_check_edges := at_of X G c 8 rfl rfl fun _ _ _ _ _ _ us hl => match us, hl with | [_, _, _, _, _], _ => rfl
theorem at_check_hall {K : PySem.W.Frag} {h : Heap} {mg : Str → Option Value} (X : K.In h) (G : h.Ns mainGlobals mg) (c : He.SaysD topFa topFn K) : At K mg "check_hall" s_check_hall p_check_hall := at_of X G c 9 rfl rfl fun _ _ _ _ _ _ us hl => match us, hl with | [_], _ => rfl
theorem at_check_cells {K : PySem.W.Frag} {h : Heap} {mg : Str → Option Value} (X : K.In h) (G : h.Ns mainGlobals mg) (c : He.SaysD topFa topFn K) : At K mg "check_cells" s_check_cells p_check_cells := at_of X G c 10 rfl rfl fun _ _ _ _ _ _ us hl => match us, hl with | [_, _], _ => rfl
theorem at_check_start {K : PySem.W.Frag} {h : Heap} {mg : Str → Option Value} (X : K.In h) (G : h.Ns mainGlobals mg) (c : He.SaysD topFa topFn K) : At K mg "check_start" s_check_start p_check_start := at_of X G c 11 rfl rfl fun _ _ _ _ _ _ us hl => match us, hl with | [_, _], _ => rfl
theorem at_first_standing {K : PySem.W.Frag} {h : Heap} {mg : Str → Option Value} (X : K.In h) (G : h.Ns mainGlobals mg) (c : He.SaysD topFa topFn K) : At K mg "first_standing" s_first_standing p_first_standing := at_of X G c 12 rfl rfl fun _ _ _ _ _ _ us hl => match us, hl with | [_, _], _ => rfl
theorem at_door_edges {K : PySem.W.Frag} {h : Heap} {mg : Str → Option Value} (X : K.In h) (G : h.Ns mainGlobals mg) (c : He.SaysD topFa topFn K) : At K mg "door_edges" s_door_edges p_door_edges := at_of X G c 13 rfl rfl fun _ _ _ _ _ _ us hl => match us, hl with | [_, _], _ => rfl
theorem at_is_step {K : PySem.W.Frag} {h : Heap} {mg : Str → Option Value} (X : K.In h) (G : h.Ns mainGlobals mg) (c : He.SaysD topFa topFn K) : At K mg "is_step" s_is_step p_is_step := at_of X G c 14 rfl rfl fun _ _ _ _ _ _ us hl => match us, hl with | [_, _], _ => rfl
theorem at_swung_ways {K : PySem.W.Frag} {h : Heap} {mg : Str → Option Value} (X : K.In h) (G : h.Ns mainGlobals mg) (c : He.SaysD topFa topFn K) : At K mg "swung_ways" s_swung_ways p_swung_ways := at_of X G c 15 rfl rfl fun _ _ _ _ _ _ us hl => match us, hl with | [_, _, _, _], _ => rfl
theorem at_step_done {K : PySem.W.Frag} {h : Heap} {mg : Str → Option Value} (X : K.In h) (G : h.Ns mainGlobals mg) (c : He.SaysD topFa topFn K) : At K mg "step_done" s_step_done p_step_done := at_of X G c 16 rfl rfl fun _ _ _ _ _ _ us hl => match us, hl with | [_, _, _], _ => rfl
theorem at_step_tried {K : PySem.W.Frag} {h : Heap} {mg : Str → Option Value} (X : K.In h) (G : h.Ns mainGlobals mg) (c : He.SaysD topFa topFn K) : At K mg "step_tried" s_step_tried p_step_tried := at_of X G c 17 rfl rfl fun _ _ _ _ _ _ us hl => match us, hl with | [_, _, _], _ => rfl
theorem at_moves_from {K : PySem.W.Frag} {h : Heap} {mg : Str → Option Value} (X : K.In h) (G : h.Ns mainGlobals mg) (c : He.SaysD topFa topFn K) : At K mg "moves_from" s_moves_from p_moves_from := at_of X G c 18 rfl rfl fun _ _ _ _ _ _ us hl => match us, hl with | [_, _], _ => rfl
theorem at_is_name {K : PySem.W.Frag} {h : Heap} {mg : Str → Option Value} (X : K.In h) (G : h.Ns mainGlobals mg) (c : He.SaysD topFa topFn K) : At K mg "is_name" s_is_name p_is_name := at_of X G c 19 rfl rfl fun _ _ _ _ _ _ us hl => match us, hl with | [_], _ => rfl
theorem at_L_taken {K : PySem.W.Frag} {h : Heap} {mg : Str → Option Value} (X : K.In h) (G : h.Ns mainGlobals mg) (c : He.SaysD topFa topFn K) : At K mg "_law_taken" s_L_taken p_L_taken := at_of X G c 20 rfl rfl fun _ _ _ _ _ _ us hl => match us, hl with | [_, _], _ => rfl
theorem at_L_pair {K : PySem.W.Frag} {h : Heap} {mg : Str → Option Value} (X : K.In h) (G : h.Ns mainGlobals mg) (c : He.SaysD topFa topFn K) : At K mg "_law_pair" s_L_pair p_L_pair := at_of X G c 21 rfl rfl fun _ _ _ _ _ _ us hl => match us, hl with | [_, _], _ => rfl
theorem at_L_shut {K : PySem.W.Frag} {h : Heap} {mg : Str → Option Value} (X : K.In h) (G : h.Ns mainGlobals mg) (c : He.SaysD topFa topFn K) : At K mg "_law_shut" s_L_shut p_L_shut := at_of X G c 22 rfl rfl fun _ _ _ _ _ _ us hl => match us, hl with | [_], _ => rfl
theorem at_L_within {K : PySem.W.Frag} {h : Heap} {mg : Str → Option Value} (X : K.In h) (G : h.Ns mainGlobals mg) (c : He.SaysD topFa topFn K) : At K mg "_law_within" s_L_within p_L_within := at_of X G c 23 rfl rfl fun _ _ _ _ _ _ us hl => match us, hl with | [_, _], _ => rfl
theorem at_L_next {K : PySem.W.Frag} {h : Heap} {mg : Str → Option Value} (X : K.In h) (G : h.Ns mainGlobals mg) (c : He.SaysD topFa topFn K) : At K mg "_law_next" s_L_next p_L_next := at_of X G c 24 rfl rfl fun _ _ _ _ _ _ us hl => match us, hl with | [_, _], _ => rfl
theorem at_L_step {K : PySem.W.Frag} {h : Heap} {mg : Str → Option Value} (X : K.In h) (G : h.Ns mainGlobals mg) (c : He.SaysD topFa topFn K) : At K mg "_law_step" s_L_step p_L_step := at_of X G c 25 rfl rfl fun _ _ _ _ _ _ us hl => match us, hl with | [_, _, _], _ => rfl
theorem at_L_begin {K : PySem.W.Frag} {h : Heap} {mg : Str → Option Value} (X : K.In h) (G : h.Ns mainGlobals mg) (c : He.SaysD topFa topFn K) : At K mg "_law_begin" s_L_begin p_L_begin := at_of X G c 26 rfl rfl fun _ _ _ _ _ _ us hl => match us, hl with | [_, _], _ => rfl
theorem at_L_hall {K : PySem.W.Frag} {h : Heap} {mg : Str → Option Value} (X : K.In h) (G : h.Ns mainGlobals mg) (c : He.SaysD topFa topFn K) : At K mg "_law_hall" s_L_hall p_L_hall := at_of X G c 27 rfl rfl fun _ _ _ _ _ _ us hl => match us, hl with | [_, _, _], _ => rfl
theorem at_L_cells {K : PySem.W.Frag} {h : Heap} {mg : Str → Option Value} (X : K.In h) (G : h.Ns mainGlobals mg) (c : He.SaysD topFa topFn K) : At K mg "_law_cells" s_L_cells p_L_cells := at_of X G c 28 rfl rfl fun _ _ _ _ _ _ us hl => match us, hl with | [_, _, _], _ => rfl
theorem at_L_steps {K : PySem.W.Frag} {h : Heap} {mg : Str → Option Value} (X : K.In h) (G : h.Ns mainGlobals mg) (c : He.SaysD topFa topFn K) : At K mg "_law_steps" s_L_steps p_L_steps := at_of X G c 29 rfl rfl fun _ _ _ _ _ _ us hl => match us, hl with | [_, _], _ => rfl
theorem at_L_alike {K : PySem.W.Frag} {h : Heap} {mg : Str → Option Value} (X : K.In h) (G : h.Ns mainGlobals mg) (c : He.SaysD topFa topFn K) : At K mg "_law_alike" s_L_alike p_L_alike := at_of X G c 30 rfl rfl fun _ _ _ _ _ _ us hl => match us, hl with | [_, _], _ => rfl
theorem at_L_stands {K : PySem.W.Frag} {h : Heap} {mg : Str → Option Value} (X : K.In h) (G : h.Ns mainGlobals mg) (c : He.SaysD topFa topFn K) : At K mg "_law_stands" s_L_stands p_L_stands := at_of X G c 31 rfl rfl fun _ _ _ _ _ _ us hl => match us, hl with | [_, _, _, _, _], _ => rfl
theorem at_L_any_step {K : PySem.W.Frag} {h : Heap} {mg : Str → Option Value} (X : K.In h) (G : h.Ns mainGlobals mg) (c : He.SaysD topFa topFn K) : At K mg "_law_any_step" s_L_any_step p_L_any_step := at_of X G c 32 rfl rfl fun _ _ _ _ _ _ us hl => match us, hl with | [_, _, _, _], _ => rfl
theorem at_L_refuses {K : PySem.W.Frag} {h : Heap} {mg : Str → Option Value} (X : K.In h) (G : h.Ns mainGlobals mg) (c : He.SaysD topFa topFn K) : At K mg "_law_refuses" s_L_refuses p_L_refuses := at_of X G c 33 rfl rfl fun _ _ _ _ _ _ us hl => match us, hl with | [_, _], _ => rfl
theorem at_law {K : PySem.W.Frag} {h : Heap} {mg : Str → Option Value} (X : K.In h) (G : h.Ns mainGlobals mg) (c : He.SaysD topFa topFn K) : At K mg "law" s_law p_law := at_of X G c 34 rfl rfl fun _ _ _ _ _ _ us hl => match us, hl with | [_], _ => rfl
theorem ats_of {K : PySem.W.Frag} {h : Heap} {mg : Str → Option Value} (X : K.In h) (G : h.Ns mainGlobals mg) (c : He.SaysD topFa topFn K) : Ats K mg := ⟨at_is_number X G c, at_is_side X G c, at_is_cell X G c, at_is_edge X G c, at_edge_from X G c, at_edge_crossed X G c, at_next_cell X G c, at_door_edge X G c, at_check_edges X G c, at_check_hall X G c, at_check_cells X G c, at_check_start X G c, at_first_standing X G c, at_door_edges X G c, at_is_step X G c, at_swung_ways X G c, at_step_done X G c, at_step_tried X G c, at_moves_from X G c, at_is_name X G c, at_L_taken X G c, at_L_pair X G c, at_L_shut X G c, at_L_within X G c, at_L_next X G c, at_L_step X G c, at_L_begin X G c, at_L_hall X G c, at_L_cells X G c, at_L_steps X G c, at_L_alike X G c, at_L_stands X G c, at_L_any_step X G c, at_L_refuses X G c, at_law X G c⟩
theorem word_of {K : PySem.W.Frag} {h : Heap} {mg : Str → Option Value} (X : K.In h) (G : h.Ns mainGlobals mg) (c : He.SaysD topFa topFn K) : WordD K mg := by
  obtain ⟨fd, F⟩ := c.def_ 35 (d := dOf "_law_word" s_L_word) rfl
  obtain ⟨oc, od, dV, kV, doc, pm, an, cdv, ct, osl, e, lk, hc, hD, _⟩ := F.ex
  have g := He.glo_ok X G (c.fact 35 (f := .glo "_law_word") rfl)
  have hV : dV = .none := by
    rcases hD with ⟨_, q⟩ | ⟨q, _⟩
    · exact q
    · exact absurd rfl q
  subst hV
  subst e
  exact ⟨⟨_, oc, od, .none, kV, doc, pm, ct, an, cdv, osl, g, F.kp, lk, hc, .all fun us hl => match us, hl with | [_], _ => rfl⟩⟩
theorem iat_of {K : PySem.W.Frag} (c : He.SaysD topFa topFn K) : IAt K (He.ga K "Bench") "Bench.__init__" s_B_init p_B_init := by
  obtain ⟨fd, F⟩ := c.def_ 36 (d := dOfM "__init__" "Bench.__init__" s_B_init []) rfl
  exact ⟨_, fd, He.mkr_ok (c.fact 101 (f := .mkr "Bench") rfl), F, FunD.bindsN F fun _ _ _ _ _ _ us hl => match us, hl with | [_, _, _], _ => rfl⟩
theorem mat_moved {K : PySem.W.Frag} (c : He.SaysD topFa topFn K) : MAt K (He.ga K "Bench") "_moved" "Bench._moved" s_B_moved p_B_moved [] := by
  obtain ⟨fd, F⟩ := c.def_ 37 (d := dOfM "_moved" "Bench._moved" s_B_moved []) rfl
  exact ⟨_, fd, [], _, He.meth_ok (c.fact 92 (f := .meth "Bench" "_moved") rfl), F, FunD.bindsN F (fun _ _ _ _ _ _ us hl => match us, hl with | [_, _], _ => rfl), .nil⟩
theorem mat_standing {K : PySem.W.Frag} (c : He.SaysD topFa topFn K) : MAt K (He.ga K "Bench") "standing" "Bench.standing" s_B_standing p_B_standing [] := by
  obtain ⟨fd, F⟩ := c.def_ 38 (d := dOfM "standing" "Bench.standing" s_B_standing []) rfl
  exact ⟨_, fd, [], _, He.meth_ok (c.fact 93 (f := .meth "Bench" "standing") rfl), F, FunD.bindsN F (fun _ _ _ _ _ _ us hl => match us, hl with | [_], _ => rfl), .nil⟩
theorem mat_back {K : PySem.W.Frag} (c : He.SaysD topFa topFn K) : MAt K (He.ga K "Bench") "back" "Bench.back" s_B_back p_B_back [] := by
  obtain ⟨fd, F⟩ := c.def_ 39 (d := dOfM "back" "Bench.back" s_B_back []) rfl
  exact ⟨_, fd, [], _, He.meth_ok (c.fact 94 (f := .meth "Bench" "back") rfl), F, FunD.bindsN F (fun _ _ _ _ _ _ us hl => match us, hl with | [_], _ => rfl), .nil⟩
theorem mat_steps {K : PySem.W.Frag} (c : He.SaysD topFa topFn K) : MAt K (He.ga K "Bench") "steps" "Bench.steps" s_B_steps p_B_steps [] := by
  obtain ⟨fd, F⟩ := c.def_ 40 (d := dOfM "steps" "Bench.steps" s_B_steps []) rfl
  exact ⟨_, fd, [], _, He.meth_ok (c.fact 95 (f := .meth "Bench" "steps") rfl), F, FunD.bindsN F (fun _ _ _ _ _ _ us hl => match us, hl with | [_], _ => rfl), .nil⟩
theorem mat_may {K : PySem.W.Frag} (c : He.SaysD topFa topFn K) : MAt K (He.ga K "Bench") "may" "Bench.may" s_B_may p_B_may [] := by
  obtain ⟨fd, F⟩ := c.def_ 41 (d := dOfM "may" "Bench.may" s_B_may []) rfl
  exact ⟨_, fd, [], _, He.meth_ok (c.fact 96 (f := .meth "Bench" "may") rfl), F, FunD.bindsN F (fun _ _ _ _ _ _ us hl => match us, hl with | [_], _ => rfl), .nil⟩
theorem mat_marks {K : PySem.W.Frag} (c : He.SaysD topFa topFn K) : MAt K (He.ga K "Bench") "marks" "Bench.marks" s_B_marks p_B_marks [] := by
  obtain ⟨fd, F⟩ := c.def_ 42 (d := dOfM "marks" "Bench.marks" s_B_marks []) rfl
  exact ⟨_, fd, [], _, He.meth_ok (c.fact 97 (f := .meth "Bench" "marks") rfl), F, FunD.bindsN F (fun _ _ _ _ _ _ us hl => match us, hl with | [_], _ => rfl), .nil⟩
theorem mat_step {K : PySem.W.Frag} (c : He.SaysD topFa topFn K) : MAt K (He.ga K "Bench") "step" "Bench.step" s_B_step p_B_step [] := by
  obtain ⟨fd, F⟩ := c.def_ 43 (d := dOfM "step" "Bench.step" s_B_step []) rfl
  exact ⟨_, fd, [], _, He.meth_ok (c.fact 98 (f := .meth "Bench" "step") rfl), F, FunD.bindsN F (fun _ _ _ _ _ _ us hl => match us, hl with | [_, _], _ => rfl), .nil⟩
theorem mat_mark {K : PySem.W.Frag} (c : He.SaysD topFa topFn K) : MAt K (He.ga K "Bench") "mark" "Bench.mark" s_B_mark p_B_mark [] := by
  obtain ⟨fd, F⟩ := c.def_ 44 (d := dOfM "mark" "Bench.mark" s_B_mark []) rfl
  exact ⟨_, fd, [], _, He.meth_ok (c.fact 99 (f := .meth "Bench" "mark") rfl), F, FunD.bindsN F (fun _ _ _ _ _ _ us hl => match us, hl with | [_, _], _ => rfl), .nil⟩
theorem mat_go {K : PySem.W.Frag} (c : He.SaysD topFa topFn K) : MAt K (He.ga K "Bench") "go" "Bench.go" s_B_go p_B_go [] := by
  obtain ⟨fd, F⟩ := c.def_ 45 (d := dOfM "go" "Bench.go" s_B_go []) rfl
  exact ⟨_, fd, [], _, He.meth_ok (c.fact 100 (f := .meth "Bench" "go") rfl), F, FunD.bindsN F (fun _ _ _ _ _ _ us hl => match us, hl with | [_, _], _ => rfl), .nil⟩
theorem mts_of {K : PySem.W.Frag} (c : He.SaysD topFa topFn K) : Mts K (He.ga K "Bench") := ⟨⟨He.cls_ok (c.fact 85 (f := .cls "Bench") rfl), He.noat_ok (c.fact 86 (f := .noat "Bench" "_hall") rfl), He.noat_ok (c.fact 87 (f := .noat "Bench" "_now") rfl), He.noat_ok (c.fact 88 (f := .noat "Bench" "_trail") rfl), He.noat_ok (c.fact 89 (f := .noat "Bench" "_points") rfl), He.noat_ok (c.fact 90 (f := .noat "Bench" "_batches") rfl), He.noat_ok (c.fact 91 (f := .noat "Bench" "_idle") rfl)⟩, iat_of c, mat_moved c, mat_standing c, mat_back c, mat_steps c, mat_may c, mat_marks c, mat_step c, mat_mark c, mat_go c⟩
theorem txt_of {w : World} {K : PySem.W.Frag} {h : Heap} {mg : Str → Option Value} (X : K.In h) (G : h.Ns mainGlobals mg) (c : He.SaysD topFa topFn K) (hw : He.tupB K "WAYS" [.str "e", .str "n", .str "s", .str "w"] = true) : Txt K mg w (He.ga K "WAYS") (He.ga K "Bench") :=
  { b_all := He.free_ok X G (c.fact 36 rfl),
    b_bool := He.free_ok X G (c.fact 37 rfl),
    b_enumerate := He.free_ok X G (c.fact 38 rfl),
    b_int := He.free_ok X G (c.fact 39 rfl),
    b_isinstance := He.free_ok X G (c.fact 40 rfl),
    b_len := He.free_ok X G (c.fact 41 rfl),
    b_list := He.free_ok X G (c.fact 42 rfl),
    b_max := He.free_ok X G (c.fact 43 rfl),
    b_min := He.free_ok X G (c.fact 44 rfl),
    b_range := He.free_ok X G (c.fact 45 rfl),
    b_sorted := He.free_ok X G (c.fact 46 rfl),
    b_str := He.free_ok X G (c.fact 47 rfl),
    b_tuple := He.free_ok X G (c.fact 48 rfl),
    b_zip := He.free_ok X G (c.fact 49 rfl),
    c_MOST_SIDE := He.int_ok X G (c.fact 52 rfl),
    c_MOST_WALLS := He.int_ok X G (c.fact 53 rfl),
    c_MOST_DOORS := He.int_ok X G (c.fact 54 rfl),
    c_MOST_WALKERS := He.int_ok X G (c.fact 55 rfl),
    c_LONGEST_NAME := He.int_ok X G (c.fact 56 rfl),
    c_LETTERS := He.str_ok X G (c.fact 84 rfl),
    c_WAYS := He.glo_ok X G (c.fact 57 rfl),
    c_Bench := He.glo_ok X G (c.fact 58 rfl),
    s_WAYS := fun H => He.tupB_ok hw H }
def eqB (a b : Option Bool) : Bool := decide (a = b)
/-- what the error's class is, of the written part -/
def excB (K : PySem.W.Frag) (C CH : Addr) : Bool :=
  (match K.lookup C with
    | some ⟨.type t, _, .cls cd, sl⟩ => decide (t = "type") && (match cd.mro, sl.toList with
      | .ref C' :: bm, [_, _, _, _, some (.builtin n), _] => decide (C' = C) && (decide (n = "ValueError.__new__") && (!cd.hasDel && (cd.hasDict && PySem.HandSPX.refsVE bm)))
      | _, _ => false)
    | _ => false) && (He.eqO (PySem.W.findIn K (.ref C) "__setattr__") (some (some (.builtin "object.__setattr__"))) && (eqB (PySem.W.subIn K (.ref C) (.type "BaseException")) (some true) &&
  (decide (PySem.W.typeIn K (.ref C) = some (.type "type")) && (PySem.W.keepIn K (.ref C) && (xfB K C && (He.eqO (PySem.W.findIn K (.ref C) "__class__") (some (some (.builtin "object.__class__"))) &&
  (He.eqO (PySem.W.specialIn K (.builtin "object.__class__") "__get__") (some (some (.builtin "getset_descriptor.__get__"))) && (eqB (PySem.W.takesIn K (.builtin "object.__class__")) (some true) && (eqB (PySem.W.mroIn K C (.type "object")) (some true) &&
  (eqB (PySem.W.exmOne K (.ref C) (.ref CH)) (some true) && eqB (PySem.W.kitOne K (.ref C) (.type "ValueError")) (some true)))))))))))
theorem exc_lk {K : PySem.W.Frag} {C CH : Addr} (h : excB K C CH = true) : ∃ nm q N bs bm sn sub ab col dd k0 k1 k2 k3 k5, K.lookup C = some (excClassObj nm q C N bs bm true sn sub ab col dd k0 k1 k2 k3 k5 "ValueError.__new__") ∧ PySem.HandSPX.refsVE bm = true := by
  unfold excB at h
  have q := (He.ba h).1
  clear h
  split at q
  · rename_i t dd cd sl ho
    obtain ⟨q0, qq⟩ := He.ba q
    clear q
    have q0 := of_decide_eq_true q0
    subst q0
    split at qq
    · rename_i C' bm k0 k1 k2 k3 n k5 hm hs
      obtain ⟨q1, q⟩ := He.ba qq
      obtain ⟨q2, q⟩ := He.ba q
      obtain ⟨q3, q⟩ := He.ba q
      obtain ⟨q4, q5⟩ := He.ba q
      have q1 := of_decide_eq_true q1
      have q2 := of_decide_eq_true q2
      subst q1 q2
      obtain ⟨nm, bs, mro, ns, qn, hd, sn, sub, ab, col, del⟩ := cd
      dsimp only at hm q3 q4
      have q3 : del = false := by cases del <;> first | rfl | cases q3
      subst hm q3 q4
      have hsl : sl = #[k0, k1, k2, k3, some (.builtin "ValueError.__new__"), k5] := by
        obtain ⟨l⟩ := sl
        simp only at hs
        rw [hs]
      subst hsl
      exact ⟨nm, qn, ns, bs, bm, sn, sub, ab, col, dd, k0, k1, k2, k3, k5, ho, q5⟩
    · cases qq
  · cases q
theorem eqB_ok {a b : Option Bool} (h : eqB a b = true) : a = b := of_decide_eq_true h
theorem oex_of {K : PySem.W.Frag} {C CH : Addr} (h : excB K C CH = true) : OexC K C := by
  have e := exc_lk h
  unfold excB at h
  obtain ⟨_, h⟩ := He.ba h
  obtain ⟨h1, h⟩ := He.ba h
  obtain ⟨h2, h⟩ := He.ba h
  obtain ⟨h3, h⟩ := He.ba h
  obtain ⟨h4, h⟩ := He.ba h
  exact ⟨e, He.eqO_ok h1, eqB_ok h2, of_decide_eq_true h3, h4⟩
theorem xf_of {K : PySem.W.Frag} {C CH : Addr} (h : excB K C CH = true) : XfC K C := by
  unfold excB at h
  obtain ⟨_, h⟩ := He.ba h
  obtain ⟨h1, h⟩ := He.ba h
  obtain ⟨h2, h⟩ := He.ba h
  obtain ⟨h3, h⟩ := He.ba h
  obtain ⟨h4, h⟩ := He.ba h
  exact xfB_ok (He.ba h).1
theorem exc_of {K : PySem.W.Frag} {C CH : Addr} (h : excB K C CH = true) : ExcC K C := by
  have x := xf_of h
  unfold excB at h
  obtain ⟨_, h⟩ := He.ba h
  obtain ⟨h1, h⟩ := He.ba h
  obtain ⟨h2, h⟩ := He.ba h
  obtain ⟨h3, h⟩ := He.ba h
  obtain ⟨h4, h⟩ := He.ba h
  obtain ⟨h5, h⟩ := He.ba h
  obtain ⟨h6, h⟩ := He.ba h
  obtain ⟨h7, h⟩ := He.ba h
  obtain ⟨h8, h⟩ := He.ba h
  obtain ⟨h9, h⟩ := He.ba h
  exact ⟨x.ga, x.gg, x.exC, x.hdC, He.eqO_ok h6, He.eqO_ok h7, eqB_ok h8, eqB_ok h9⟩
def kindB (K : PySem.W.Frag) (C : Addr) (i : Nat) : Bool := KN.zipIdx.all fun p => eqB (PySem.W.kitOne K (.ref C) (.ref (He.ga K p.1))) (some (decide (p.2 = i)))
theorem kind_of {K : PySem.W.Frag} {C CH : Addr} {i : Nat} (hi : i < 12) (h : excB K C CH = true) (h2 : kindB K C i = true) : KindX K C CH (He.ga K) i := by
  unfold excB at h
  obtain ⟨_, h⟩ := He.ba h
  obtain ⟨_, h⟩ := He.ba h
  obtain ⟨_, h⟩ := He.ba h
  obtain ⟨_, h⟩ := He.ba h
  obtain ⟨_, h⟩ := He.ba h
  obtain ⟨_, h⟩ := He.ba h
  obtain ⟨_, h⟩ := He.ba h
  obtain ⟨_, h⟩ := He.ba h
  obtain ⟨_, h⟩ := He.ba h
  obtain ⟨_, h⟩ := He.ba h
  obtain ⟨ha, hb⟩ := He.ba h
  refine ⟨hi, fun j x hx => ?_, eqB_ok hb, eqB_ok ha⟩
  unfold kindB at h2
  exact eqB_ok (List.all_eq_true.mp h2 (x, j) (List.mem_zipIdx_iff_getElem?.mpr hx))
theorem words_BadStep {K : PySem.W.Frag} {h : Heap} {mg : Str → Option Value} (X : K.In h) (G : h.Ns mainGlobals mg) (c : He.SaysD topFa topFn K) (e : excB K (He.ga K "BadStep") (He.ga K "HallError") = true) : WordS K mg (He.ga K "BadStep") (He.ga K "HallError") (He.ga K) :=
  { xc := exc_of e,
    xf := xf_of e,
    hall := He.glo_ok X G (c.fact 59 rfl),
    b_ValueError := He.free_ok X G (c.fact 50 rfl),
    n_done := He.eqO_ok (c.fact 72 (f := .noat "BadStep" "done") rfl),
    n_number := He.eqO_ok (c.fact 73 (f := .noat "BadStep" "number") rfl),
    n_part := He.eqO_ok (c.fact 74 (f := .noat "BadStep" "part") rfl),
    n_row := He.eqO_ok (c.fact 75 (f := .noat "BadStep" "row") rfl),
    c_BadCells := He.glo_ok X G (c.fact 60 rfl),
    c_BadCount := He.glo_ok X G (c.fact 61 rfl),
    c_BadGoal := He.glo_ok X G (c.fact 62 rfl),
    c_BadHall := He.glo_ok X G (c.fact 63 rfl),
    c_BadName := He.glo_ok X G (c.fact 64 rfl),
    c_BadPaper := He.glo_ok X G (c.fact 65 rfl),
    c_BadStep := He.glo_ok X G (c.fact 66 rfl),
    c_BadText := He.glo_ok X G (c.fact 67 rfl),
    c_Halted := He.glo_ok X G (c.fact 68 rfl),
    c_Meets := He.glo_ok X G (c.fact 69 rfl),
    c_NoPoint := He.glo_ok X G (c.fact 70 rfl),
    c_TooMany := He.glo_ok X G (c.fact 71 rfl) }
theorem words_BadName {K : PySem.W.Frag} {h : Heap} {mg : Str → Option Value} (X : K.In h) (G : h.Ns mainGlobals mg) (c : He.SaysD topFa topFn K) (e : excB K (He.ga K "BadName") (He.ga K "HallError") = true) : WordS K mg (He.ga K "BadName") (He.ga K "HallError") (He.ga K) :=
  { xc := exc_of e,
    xf := xf_of e,
    hall := He.glo_ok X G (c.fact 59 rfl),
    b_ValueError := He.free_ok X G (c.fact 50 rfl),
    n_done := He.eqO_ok (c.fact 76 (f := .noat "BadName" "done") rfl),
    n_number := He.eqO_ok (c.fact 77 (f := .noat "BadName" "number") rfl),
    n_part := He.eqO_ok (c.fact 78 (f := .noat "BadName" "part") rfl),
    n_row := He.eqO_ok (c.fact 79 (f := .noat "BadName" "row") rfl),
    c_BadCells := He.glo_ok X G (c.fact 60 rfl),
    c_BadCount := He.glo_ok X G (c.fact 61 rfl),
    c_BadGoal := He.glo_ok X G (c.fact 62 rfl),
    c_BadHall := He.glo_ok X G (c.fact 63 rfl),
    c_BadName := He.glo_ok X G (c.fact 64 rfl),
    c_BadPaper := He.glo_ok X G (c.fact 65 rfl),
    c_BadStep := He.glo_ok X G (c.fact 66 rfl),
    c_BadText := He.glo_ok X G (c.fact 67 rfl),
    c_Halted := He.glo_ok X G (c.fact 68 rfl),
    c_Meets := He.glo_ok X G (c.fact 69 rfl),
    c_NoPoint := He.glo_ok X G (c.fact 70 rfl),
    c_TooMany := He.glo_ok X G (c.fact 71 rfl) }
theorem words_NoPoint {K : PySem.W.Frag} {h : Heap} {mg : Str → Option Value} (X : K.In h) (G : h.Ns mainGlobals mg) (c : He.SaysD topFa topFn K) (e : excB K (He.ga K "NoPoint") (He.ga K "HallError") = true) : WordS K mg (He.ga K "NoPoint") (He.ga K "HallError") (He.ga K) :=
  { xc := exc_of e,
    xf := xf_of e,
    hall := He.glo_ok X G (c.fact 59 rfl),
    b_ValueError := He.free_ok X G (c.fact 50 rfl),
    n_done := He.eqO_ok (c.fact 80 (f := .noat "NoPoint" "done") rfl),
    n_number := He.eqO_ok (c.fact 81 (f := .noat "NoPoint" "number") rfl),
    n_part := He.eqO_ok (c.fact 82 (f := .noat "NoPoint" "part") rfl),
    n_row := He.eqO_ok (c.fact 83 (f := .noat "NoPoint" "row") rfl),
    c_BadCells := He.glo_ok X G (c.fact 60 rfl),
    c_BadCount := He.glo_ok X G (c.fact 61 rfl),
    c_BadGoal := He.glo_ok X G (c.fact 62 rfl),
    c_BadHall := He.glo_ok X G (c.fact 63 rfl),
    c_BadName := He.glo_ok X G (c.fact 64 rfl),
    c_BadPaper := He.glo_ok X G (c.fact 65 rfl),
    c_BadStep := He.glo_ok X G (c.fact 66 rfl),
    c_BadText := He.glo_ok X G (c.fact 67 rfl),
    c_Halted := He.glo_ok X G (c.fact 68 rfl),
    c_Meets := He.glo_ok X G (c.fact 69 rfl),
    c_NoPoint := He.glo_ok X G (c.fact 70 rfl),
    c_TooMany := He.glo_ok X G (c.fact 71 rfl) }
/-! the error's __init__ -/
def iAt (K : PySem.W.Frag) (nm : Str) : Addr := He.ma K (He.ga K nm) "__init__"
def fdIn (K : PySem.W.Frag) (f : Addr) : Option FuncData := match K.lookup f with
  | some ⟨_, _, .func fd, _⟩ => some fd
  | _ => none
theorem fdIn_ok {K : PySem.W.Frag} {f : Addr} {fd : FuncData} (h : fdIn K f = some fd) : ∃ oc od osl, K.lookup f = some ⟨oc, od, .func fd, osl⟩ := by
  unfold fdIn at h
  split at h
  · rename_i oc od fd' osl q
    cases h
    exact ⟨oc, od, osl, q⟩
  · cases h
def cellAt (K : PySem.W.Frag) (nm : Str) : Addr := match fdIn K (iAt K nm) with
  | some fd => (match fd.closure with
    | [(_, a)] => a
    | _ => 0)
  | _ => 0
def codeAt (K : PySem.W.Frag) (f : Addr) : Addr := match fdIn K f with
  | some fd => (match fd.code with
    | .ref a => a
    | _ => 0)
  | _ => 0
def initW (K : PySem.W.Frag) (nm : Str) : Option (Str × Str × Arguments × FuncBody × Scope × Addr × List (Str × Addr) × Addr × Value × Value) := (fdIn K (iAt K nm)).map fun fd => (fd.name, fd.qualname, fd.params, fd.body, fd.scope, fd.globals, fd.closure, fd.builtins, fd.defaults, fd.code)
def initV (K : PySem.W.Frag) (nm q : Str) (st : Stmt) : Option (Str × Str × Arguments × FuncBody × Scope × Addr × List (Str × Addr) × Addr × Value × Value) := some ("__init__", q, defArgs st, .stmts (defBody st), defScope st, mainGlobals, [("__class__", cellAt K nm)], builtinsNs, .none, .ref (codeAt K (iAt K nm)))
def initB (file : Str) (K : PySem.W.Frag) (nm q : Str) (C : Addr) : Bool :=
  He.eqO (PySem.W.findIn K (.ref C) "__init__") (some (some (.ref (iAt K nm)))) && (decide (PySem.W.typeIn K (.ref (iAt K nm)) = some (.type "function")) && (PySem.W.codeIn K (.ref (codeAt K (iAt K nm))) q &&
  ((match K.lookup (codeAt K (iAt K nm)) with
    | some ⟨_, _, .fields vs, _⟩ => (match (vs[2]? : Option Value) with
      | some (.str f _) => file == f
      | _ => false)
    | _ => false) && ((match K.lookup (cellAt K nm) with
    | some ⟨_, _, .cell (some (.ref C')), _⟩ => decide (C' = C)
    | _ => false) && ((PySem.W.clsIn K C).isSome && (eqB (PySem.W.mroIn K C (.ref C)) (some true) && (He.eqO (PySem.W.ks_superIn K C C "__init__") (some (some (.builtin "ValueError.__init__"))) &&
  (He.eqO (PySem.W.nsIn K cStatics "thirdparty.any") (some none) && eqB (PySem.W.subIn K (.ref C) (.type "ValueError")) (some true)))))))))
theorem sup_BadStep {P : Program} {K : PySem.W.Frag} {C CH : Addr} (e : excB K C CH = true) (i : initB P.main.file K "BadStep" "BadStep.__init__" C = true) (v : initW K "BadStep" = initV K "BadStep" "BadStep.__init__" s_initS) (ht : (P.main.scope.names.lookup ("super" : Str)).isSome = false) :
    ∃ fd, SupF P K C (iAt K "BadStep") (cellAt K "BadStep") (codeAt K (iAt K "BadStep")) "__init__" "BadStep.__init__" (defArgs s_initS) (defBody s_initS) (defScope s_initS) fd ∧ Binds K fd ["self", "number"] [] ∧ PySem.W.findIn K (.ref C) "__init__" = some (some (.ref (iAt K "BadStep"))) ∧ PySem.W.typeIn K (.ref (iAt K "BadStep")) = some (.type "function") := by
  unfold initW initV at v
  obtain ⟨fd, hf, hv⟩ := Option.map_eq_some_iff.mp v
  obtain ⟨oc, od, osl, lk⟩ := fdIn_ok hf
  obtain ⟨n1, n2, n3, n4, n5, n6, n7, n8, n9, n10, n11, n12, n13, n14, n15⟩ := fd
  simp only [Prod.mk.injEq] at hv
  obtain ⟨h1, h2, h3, h4, h5, h6, h7, h8, h9, h10⟩ := hv
  unfold initB at i
  obtain ⟨i1, i⟩ := He.ba i
  obtain ⟨i2, i⟩ := He.ba i
  obtain ⟨i3, i⟩ := He.ba i
  obtain ⟨i4, i⟩ := He.ba i
  obtain ⟨i5, i⟩ := He.ba i
  obtain ⟨i6, i⟩ := He.ba i
  obtain ⟨i7, i⟩ := He.ba i
  obtain ⟨i8, i⟩ := He.ba i
  obtain ⟨i9, i10⟩ := He.ba i
  clear v hf
  generalize hcc : cellAt K "BadStep" = cc at *
  generalize hcd : codeAt K (iAt K "BadStep") = cda at *
  generalize iAt K "BadStep" = fI at *
  subst h1 h2 h3 h4 h5 h6 h7 h8 h9 h10
  refine ⟨_, ⟨oex_of e, ⟨oc, od, osl, .none, _, _, _, _, _, rfl, lk⟩, i3, ?_, ?_, Option.isSome_iff_exists.mp i6, ht, eqB_ok i7, He.eqO_ok i8, He.eqO_ok i9, eqB_ok i10, by rfl, by rfl, ⟨_, rfl, rfl⟩⟩, .all fun us hl => match us, hl with | [_, _], _ => rfl, He.eqO_ok i1, of_decide_eq_true i2⟩
  · split at i4
    · rename_i a b vs d q
      split at i4
      · rename_i f t q2
        exact ⟨a, b, d, vs, f, t, q, q2, i4⟩
      · cases i4
    · cases i4
  · split at i5
    · rename_i a b C' d q
      have z := of_decide_eq_true i5
      rw [z] at q
      exact ⟨a, b, d, q⟩
    · cases i5
theorem exs_BadStep {P : Program} {w : World} {base : Heap} {K : PySem.W.Frag} {h : Heap} {mg : Str → Option Value} (X : K.In h) (G : h.Ns mainGlobals mg) (c : He.SaysD topFa topFn K) (e : excB K (He.ga K "BadStep") (He.ga K "HallError") = true) (i : initB P.main.file K "BadStep" "BadStep.__init__" (He.ga K "BadStep") = true) (v : initW K "BadStep" = initV K "BadStep" "BadStep.__init__" s_initS) (ht : (P.main.scope.names.lookup ("super" : Str)).isSome = false) :
    ExS P w K mg base "BadStep" (He.ga K "BadStep") ["self", "number"] (sp_initS (He.ga K "BadStep")) := by
  obtain ⟨fd, S, b, i1, i2⟩ := sup_BadStep e i v ht
  exact ⟨oex_of e, ⟨_, fd, i1, i2, ok_initS S (He.eqO_ok (c.fact 73 (f := .noat "BadStep" "number") rfl)) (He.free_ok X G (c.fact 51 (f := .free "super") rfl)), b⟩, He.glo_ok X G (c.fact 66 (f := .glo "BadStep") rfl)⟩
/-- a def's own code object and its table -/
def codeOf (K : PySem.W.Frag) (x : Str) : Addr × Addr := match PySem.W.tabIn K x with
  | some p => p
  | none => (0, 0)
def codeB (K : PySem.W.Frag) (x : Str) : Bool := (PySem.W.tabIn K x).isSome && (PySem.W.codeHdIn K (codeOf K x).1 (codeOf K x).2 && (K.lookup (codeOf K x).2).isNone)
theorem tab_parts {K : PySem.W.Frag} {x : Str} {c PT : Addr} (h : PySem.W.tabIn K x = some (c, PT)) : ∃ f oc od fd osl e dd vs sl, PySem.W.nsIn K mainGlobals x = some (some (.ref f)) ∧ K.lookup f = some ⟨oc, od, .func fd, osl⟩ ∧ fd.code = .ref c ∧ K.lookup c = some ⟨e, dd, .fields vs, sl⟩ ∧ vs[11]? = some (.ref PT) := by
  unfold PySem.W.tabIn at h
  split at h
  · rename_i f hf
    split at h
    · rename_i oc od fd osl hfo
      split at h
      · rename_i c₂ hc
        split at h
        · rename_i e dd vs sl hco
          split at h
          · rename_i P₂ hv
            cases h
            exact ⟨f, oc, od, fd, osl, e, dd, vs, sl, hf, hfo, hc, hco, hv⟩
          · cases h
        · cases h
      · cases h
    · cases h
  · cases h
def xpB (K : PySem.W.Frag) (C : Addr) : Bool := PySem.W.excIn K C bmVE "ValueError.__new__" && (PySem.W.keepIn K (.ref C) && (eqB (PySem.W.subIn K (.ref C) (.type "BaseException")) (some true) && decide (PySem.W.typeIn K (.ref C) = some (.type "type"))))
theorem xp_of {K : PySem.W.Frag} {mg : Str → Option Value} {nm : Str} {C : Addr} (h : xpB K C = true) (hm : mg nm = some (.ref C)) : ExP K mg nm C := by
  unfold xpB at h
  obtain ⟨h1, h⟩ := He.ba h
  obtain ⟨h2, h⟩ := He.ba h
  obtain ⟨h3, h4⟩ := He.ba h
  exact ⟨h1, hm, h2, eqB_ok h3, of_decide_eq_true h4⟩
/-- where a def with lambdas stands -/
theorem atC_of {K : PySem.W.Frag} {h : Heap} {mg : Str → Option Value} {x : Str} {st : Stmt} {ps : List Str} (X : K.In h) (G : h.Ns mainGlobals mg) (c : He.SaysD topFa topFn K) (i j : Nat) (hd : topFn[i]? = some (dOf x st)) (hf : topFa[j]? = some (.glo x)) (hl : codeB K x = true)
    (own : ∀ f, mg x = some (.ref f) → OwnTab K f h) (hb : ∀ (dV kV doc pm cdv ct : Value) (an : Option Addr) (us : List Value), us.length = ps.length → bindArgs (PySem.W.fnOf x x (defArgs st) (defBody st) (defScope st) .none kV doc pm an cdv ct) ⟨us, []⟩ = pure (ps.zip us)) :
    AtC K mg x st ps (codeOf K x).1 ∧ h.get? (codeOf K x).2 = some { cls := .none, data := .fields #[] } ∧ PySem.W.CodeHd h (codeOf K x).1 (codeOf K x).2 ∧ K.lookup (codeOf K x).2 = none := by
  obtain ⟨fd, F⟩ := c.def_ i (d := dOf x st) hd
  obtain ⟨oc, od, dV, kV, doc, pm, an, cdv, ct, osl, ef, lk, hc, hD, _⟩ := F.ex
  have g := He.glo_ok X G (c.fact j (f := .glo x) hf)
  have hV : dV = .none := by
    rcases hD with ⟨_, q⟩ | ⟨q, _⟩
    · exact q
    · exact absurd rfl q
  subst hV
  subst ef
  unfold codeB at hl
  obtain ⟨l1, hl⟩ := He.ba hl
  obtain ⟨l2, l3⟩ := He.ba hl
  obtain ⟨⟨cL, PT⟩, ht2⟩ := Option.isSome_iff_exists.mp l1
  have hcp : codeOf K x = (cL, PT) := by
    unfold codeOf
    rw [ht2]
  rw [hcp] at l2 l3
  rw [hcp]
  obtain ⟨f, oc2, od2, fd2, osl2, e2, dd2, vs2, sl2, q1, q2, q3, q4, q5⟩ := tab_parts ht2
  have q6 := PySem.W.mg_of X G q1
  rw [g] at q6
  cases q6
  have q7 := lk
  rw [show (He.fAd K (dOf x st).at_) = He.ga K x from rfl] at q7
  rw [q2] at q7
  cases q7
  cases q3
  exact ⟨⟨_, oc, od, kV, doc, pm, an, ct, osl, g, F.kp, q2, hc, .all fun us hl => hb .none kV doc pm _ ct an us hl⟩, own _ g cL PT _ _ _ _ _ _ q2 rfl rfl q4 q5, PySem.W.codeHd_of_K X l2, Option.isNone_iff_eq_none.mp l3⟩
/-- the end, with the tables of some defs known -/
theorem walk_ofOwn2 {l : PySem.W.OpenLaw} {n k : Nat} {q : Program} {loose : List Str} {XP : (Str → Option Value) → Heap → Prop} {YP : World → Heap → Prop} {d : DefRec} {K : Params → PySem.W.Frag} {CX : World → CXT} {x : Str} (nms : List Str)
    (hn : l.most = some n) (hn2 : n ≤ sizeLine) (hdf : d.params.defaults = []) (hr : Room k callerA) (hrec : (nms.all fun nm => (recsOf q).any fun e => e.name == nm) = true) (hY : ∀ (w : World) (h : Heap), YP w h → (K w.params).In h)
    (F : ∀ (w : World) (mg : Str → Option Value) (fa : Addr) (h : Heap), YP w h → (K w.params).In h → h.Ns mainGlobals mg → mg d.name = some (.ref fa) → (∀ nm ∈ nms, ∀ f, mg nm = some (.ref f) → OwnTab (K w.params) f h) → LawAtS l w (K w.params) (CX w) k n x mg fa h)
    (hCX : ∀ (w : World) (H : Hp) (s : Shared) (e : Value) (s' : Shared), CX w [] H s (fun _ _ _ => False) e s' → False) :
    PySem.W.WalkO q loose XP YP l.row.toRowW d [] (fun f vs => PySem.call f vs) := by
  refine Att.attach_callB hn hdf fun w s₀ s₁ mg mb fa o pm cd doc a vs ns G Y ho hd hcd hmg hobj hints hlen hbits hg => ?_
  have KX := hY w _ Y
  have own : ∀ nm ∈ nms, ∀ f, mg nm = some (.ref f) → OwnTab (K w.params) f s₁.heap := fun nm hnm f hf c P o1 fd1 e dd vs1 sl k1 k2 k3 k4 k5 => by
    obtain ⟨dL, hm, hn1⟩ := List.any_eq_true.mp (List.all_eq_true.mp hrec nm hnm)
    have hn2 : dL.name = nm := beq_iff_eq.mp hn1
    obtain ⟨a', o', fd', c', P', h1, h2, h3, h4, h5, h6⟩ := G.T.tab dL hm
    rw [hn2, hf] at h1
    cases h1
    rw [KX _ _ k1] at h2
    cases h2
    rw [k2] at h3
    cases h3
    rw [k3] at h4
    cases h4
    obtain ⟨⟨oc, vc, e1, _, e3, e4⟩, hP⟩ := h6
    rw [KX _ _ k4] at e1
    cases e1
    cases e3
    rw [k5] at e4
    cases e4
    exact hP
  obtain ⟨fd, cs, sp, hT, nT, C, hb, hsp, hF⟩ := F w mg fa _ Y KX G.T.g hmg own
  exact law_callTs KX G.T.g G.T.b G.T.builtins G.T.nolimit hg hT nT C G.T.bmain hobj hints (Nat.le_trans hlen hn2) hr hF hb (fun H hH hS => hsp H a ns hlen hbits hH hS) fun H e s' => hCX w H s₁ e s'
theorem law_at {l : PySem.W.OpenLaw} {w : World} {K : PySem.W.Frag} {h : Heap} {mg : Str → Option Value} {fa : Addr} (X : K.In h) (G : h.Ns mainGlobals mg) (hmg : mg "law" = some (.ref fa)) (own : ∀ nm ∈ (["law", "_law_refuses"] : List Str), ∀ f, mg nm = some (.ref f) → OwnTab K f h)
    (c : He.SaysD topFa topFn K) (hw : He.tupB K "WAYS" [.str "e", .str "n", .str "s", .str "w"] = true) (eBadStep : excB K (He.ga K "BadStep") (He.ga K "HallError") = true) (kBadStep : kindB K (He.ga K "BadStep") 2 = true) (eBadName : excB K (He.ga K "BadName") (He.ga K "HallError") = true) (kBadName : kindB K (He.ga K "BadName") 10 = true) (eNoPoint : excB K (He.ga K "NoPoint") (He.ga K "HallError") = true) (kNoPoint : kindB K (He.ga K "NoPoint") 11 = true) (iBadStep : initB l.prog.main.file K "BadStep" "BadStep.__init__" (He.ga K "BadStep") = true) (vBadStep : initW K "BadStep" = initV K "BadStep" "BadStep.__init__" s_initS) (xBadName : xpB K (He.ga K "BadName") = true) (xNoPoint : xpB K (He.ga K "NoPoint") = true) (ht : (l.prog.main.scope.names.lookup ("super" : Str)).isSome = false) (hl1 : codeB K "law" = true) (hl2 : codeB K "_law_refuses" = true) (hne : decide ((codeOf K "law").2 ≠ (codeOf K "_law_refuses").2) = true) :
    LawAtS l w K CX0 12 63 "_law_script" mg fa h := by
  have hne := of_decide_eq_true hne
  obtain ⟨A1, t1, hd1, n1⟩ := atC_of (ps := p_law) X G c 34 34 rfl rfl hl1 (own _ (.head _)) fun _ _ _ _ _ _ _ us hl => match us, hl with | [_], _ => rfl
  obtain ⟨A2, t2, hd2, n2⟩ := atC_of (ps := p_L_refuses) X G c 33 33 rfl rfl hl2 (own _ (.tail _ (.head _))) fun _ _ _ _ _ _ _ us hl => match us, hl with | [_, _], _ => rfl
  obtain ⟨f, oc, od, kV, doc, pm, an, ct, osl, g1, g2, g3, g4, g5⟩ := A1.ex
  rw [hmg] at g1
  cases g1
  generalize codeOf K "law" = cp1 at *
  generalize codeOf K "_law_refuses" = cp2 at *
  obtain ⟨cL, PT⟩ := cp1
  obtain ⟨cR, PR⟩ := cp2
  refine ⟨PySem.W.fnOf "law" "law" (defArgs s_law) (defBody s_law) (defScope s_law) .none kV doc pm an (.ref cL) ct, [(cL, PT), (cR, PR)], sp_law K (lawT PT PR), fun p hp => ?_, fun p hp => ?_, fun p hp => ?_, fun s u => .of_eq rfl, ?_, fun base KB GB TB => ?_⟩
  · simp only [List.mem_cons, List.not_mem_nil, or_false] at hp
    rcases hp with rfl | rfl
    · exact t1
    · exact t2
  · simp only [List.mem_cons, List.not_mem_nil, or_false] at hp
    rcases hp with rfl | rfl
    · exact n1
    · exact n2
  · simp only [List.mem_cons, List.not_mem_nil, or_false] at hp
    rcases hp with rfl | rfl
    · exact hd1
    · exact hd2
  · intro H a ns hn hz hp hS
    refine ⟨a, ns, rfl, hS, fun p hq => ?_, fun _ => rfl⟩
    simp only [List.mem_cons, List.not_mem_nil, or_false] at hq
    rcases hq with rfl | rfl
    · exact TabS.nil (hp (cL, PT) (.head _))
    · exact TabS.nil (hp (cR, PR) (.tail _ (.head _)))
  · have T := txt_of (w := w) KB GB c hw
    have XS := exs_BadStep (P := l.prog) (w := w) (base := base) KB GB c eBadStep iBadStep vBadStep ht
    exact ok_law T (ats_of KB GB c) (mts_of c) XS (xp_of xBadName (He.glo_ok KB GB (c.fact 64 (f := .glo "BadName") rfl))) (xp_of xNoPoint (He.glo_ok KB GB (c.fact 70 (f := .glo "NoPoint") rfl))) (words_BadStep KB GB c eBadStep).hall ⟨words_BadStep KB GB c eBadStep, kind_of (by decide) eBadStep kBadStep⟩ ⟨words_BadName KB GB c eBadName, kind_of (by decide) eBadName kBadName⟩ ⟨words_NoPoint KB GB c eNoPoint, kind_of (by decide) eNoPoint kNoPoint⟩ (word_of KB GB c) hne (TB _ (.head _)) (TB _ (.tail _ (.head _))) A2 g3 g4
end Pd

/-! Last14 -/
set_option Elab.async false
set_option linter.all false
open PySem PySem.W PyProof.Rows
set_option maxRecDepth 100000 in
set_option maxHeartbeats 0 in
theorem PySem.Challenge.cw_hingehall_k14_a_bench_there_and_back_holds : PySem.Challenge.rw_hingehall_k14_a_bench_there_and_back.Holds := by
  w_on; o_law; k_head; (case hw => w_witness2)
  k_fill
  refine Pd.walk_ofOwn2 (l := PySem.Challenge.rw_hingehall_k14_a_bench_there_and_back) (n := 63) (k := 12) (x := "_law_script") (CX := fun _ => L2.CX0) ["law", "_law_refuses"] rfl (by decide) rfl ⟨rfl, by decide, by decide⟩ (by decide +kernel) (fun w h Y => PySem.W.km_in_of Y) ?F (fun _ _ _ _ _ z => z)
  case F =>
    intro w mg fa h Y KX G hmg own
    refine Pd.law_at KX G hmg own ?pd1 ?pd2 ?pd3 ?pd4 ?pd5 ?pd6 ?pd7 ?pd8 ?pd9 ?pdA ?pdB ?pdC rfl ?pdD ?pdE ?pdF
    case pd1 =>
      show He.obsD Pd.topFa Pd.topFn _ = He.valD Pd.topFn
      kernel_rfl
    case pd2 => kernel_rfl
    case pd3 => kernel_rfl
    case pd4 => kernel_rfl
    case pd5 => kernel_rfl
    case pd6 => kernel_rfl
    case pd7 => kernel_rfl
    case pd8 => kernel_rfl
    case pd9 => kernel_rfl
    case pdA => kernel_rfl
    case pdB => kernel_rfl
    case pdC => kernel_rfl
    case pdD => kernel_rfl
    case pdE => kernel_rfl
    case pdF => kernel_rfl
