import PyProof.Rows.All
import Wide.All
import OpenK.AllK
import Wide.FinOn
import HandS.Base
import HandS.Call
import HandS.List
import HandS.Comp
import HandS.Dict
import HandS.DictComp
import HandS.Evl
import HandS.Iter
import HandS.Text
import HandS.Words
import HandS.WordsList
import HandS.WordsExc
import HandS.WordsDict
import HandS.IsInst
import HandS.FStr
import HandS.RevRange
import HandS.RaiseMore
import HandS.Property
import HandS.Walk
import HandS.Strs
import HandS.SetKeys
import PyProof.DictCompW
import PySem.Challenge.RW_fieldquery_k00_schemas
set_option Elab.async false
set_option linter.all false
set_option maxRecDepth 100000
/-! data that values stand for -/
namespace Fq
open PySem L2 Evl
/-- what a node of data is -/
inductive Tag where
  | tup | lst | dk (ks : List Key) | dt (ks : List (List Key)) | ob (C : Addr) (fs : List Str)
/-- data: a rose tree -/
inductive D where
  | non | bl (b : Bool) | int (i : Int) | str (x : Str) | nd (t : Tag) (l : List D)
abbrev D.tup (l : List D) : D := .nd .tup l
abbrev D.lst (l : List D) : D := .nd .lst l
def Sits (K : PySem.W.Frag) (H : Hp) (a : Addr) : Tag → List V → Prop
  | .tup, xs => SqT K H a xs
  | .lst, xs => SqL K H a xs
  | .dk ks, xs => ks.length = xs.length ∧ Rd H a (.dK (ks.zip xs))
  | .dt ks, xs => ks.length = xs.length ∧ Rd H a (.dT (ks.zip xs))
  | .ob C fs, xs => fs.length = xs.length ∧ ∃ dx, H a = some (.ins C dx (fs.zip xs))
theorem Sits.mono {K : PySem.W.Frag} {H H' : Hp} {a : Addr} {t : Tag} {xs : List V} (e : Ex H H') (h : Sits K H a t xs) : Sits K H' a t xs := by
  cases t with
  | tup => exact ex_t e h
  | lst => exact ex_l e h
  | dk ks => exact ⟨h.1, ex_rd e h.2⟩
  | dt ks => exact ⟨h.1, ex_rd e h.2⟩
  | ob C fs => obtain ⟨h1, dx, h2⟩ := h; exact ⟨h1, dx, e _ _ h2⟩
mutual
/-- v stands for d -/
inductive Rep (K : PySem.W.Frag) (H : Hp) : V → D → Prop
  | non : Rep K H .non .non
  | bl (b : Bool) : Rep K H (.bl b) (.bl b)
  | int (i : Int) : Rep K H (.int i) (.int i)
  | str (x : Str) : Rep K H (.str x) (.str x)
  | nd {a : Addr} {t : Tag} {xs : List V} {ds : List D} : Sits K H a t xs → RepA K H xs ds → Rep K H (.ref a) (.nd t ds)
inductive RepA (K : PySem.W.Frag) (H : Hp) : List V → List D → Prop
  | nil : RepA K H [] []
  | cons {v : V} {vs : List V} {d : D} {ds : List D} : Rep K H v d → RepA K H vs ds → RepA K H (v :: vs) (d :: ds)
end
section
variable {K : PySem.W.Frag} {H H' : Hp}
mutual
theorem Rep.mono (e : Ex H H') : ∀ (d : D) (v : V), Rep K H v d → Rep K H' v d
  | .non, _, h => by cases h; exact .non
  | .bl b, _, h => by cases h; exact .bl b
  | .int i, _, h => by cases h; exact .int i
  | .str x, _, h => by cases h; exact .str x
  | .nd t l, _, h => by
    cases h with
    | nd s r => exact .nd (s.mono e) (RepA.mono e l _ r)
theorem RepA.mono (e : Ex H H') : ∀ (ds : List D) (vs : List V), RepA K H vs ds → RepA K H' vs ds
  | [], _, h => by cases h; exact .nil
  | d :: ds, _, h => by
    cases h with
    | cons h1 h2 => exact .cons (Rep.mono e d _ h1) (RepA.mono e ds _ h2)
end
theorem Rep.up {d : D} {v : V} (h : Rep K H v d) (e : Ex H H') : Rep K H' v d := Rep.mono e d v h
theorem RepA.up {ds : List D} {vs : List V} (h : RepA K H vs ds) (e : Ex H H') : RepA K H' vs ds := RepA.mono e ds vs h
theorem RepA.len {vs : List V} {ds : List D} (h : RepA K H vs ds) : vs.length = ds.length := by
  induction ds generalizing vs with
  | nil => cases h; rfl
  | cons d ds ih => cases h with
    | cons h1 h2 => simp [ih h2]
theorem RepA.get {vs : List V} {ds : List D} (h : RepA K H vs ds) : ∀ {i : Nat} {d : D}, ds[i]? = some d → ∃ v, vs[i]? = some v ∧ Rep K H v d := by
  induction ds generalizing vs with
  | nil => intro i d e; simp at e
  | cons d ds ih =>
    cases h with
    | cons h1 h2 =>
      intro i d' e
      cases i with
      | zero => simp at e; subst e; exact ⟨_, rfl, h1⟩
      | succ i => simp at e; obtain ⟨v, e1, e2⟩ := ih h2 e; exact ⟨v, by simpa using e1, e2⟩
theorem RepA.getV {vs : List V} {ds : List D} (h : RepA K H vs ds) : ∀ {i : Nat} {v : V}, vs[i]? = some v → ∃ d, ds[i]? = some d ∧ Rep K H v d := by
  induction ds generalizing vs with
  | nil => cases h; intro i d e; simp at e
  | cons d ds ih =>
    cases h with
    | cons h1 h2 =>
      intro i d' e
      cases i with
      | zero => simp at e; subst e; exact ⟨_, rfl, h1⟩
      | succ i => simp at e; obtain ⟨v, e1, e2⟩ := ih h2 e; exact ⟨v, by simpa using e1, e2⟩
theorem RepA.app {vs ws : List V} {ds es : List D} (h : RepA K H vs ds) (g : RepA K H ws es) : RepA K H (vs ++ ws) (ds ++ es) := by
  induction ds generalizing vs with
  | nil => cases h; exact g
  | cons d ds ih => cases h with
    | cons h1 h2 => exact .cons h1 (ih h2)
theorem RepA.one {v : V} {d : D} (h : Rep K H v d) : RepA K H [v] [d] := .cons h .nil
/-- scalars are what they are -/
theorem Rep.intI {v : V} {i : Int} (h : Rep K H v (.int i)) : v = .int i := by cases h; rfl
theorem Rep.strI {v : V} {x : Str} (h : Rep K H v (.str x)) : v = .str x := by cases h; rfl
theorem Rep.blI {v : V} {b : Bool} (h : Rep K H v (.bl b)) : v = .bl b := by cases h; rfl
theorem Rep.nonI {v : V} (h : Rep K H v .non) : v = .non := by cases h; rfl
theorem Rep.ndI {v : V} {t : Tag} {ds : List D} (h : Rep K H v (.nd t ds)) : ∃ a xs, v = .ref a ∧ Sits K H a t xs ∧ RepA K H xs ds := by
  cases h with
  | nd s r => exact ⟨_, _, rfl, s, r⟩
theorem Rep.tupI {v : V} {ds : List D} (h : Rep K H v (.tup ds)) : ∃ a xs, v = .ref a ∧ SqT K H a xs ∧ RepA K H xs ds := h.ndI
theorem Rep.lstI {v : V} {ds : List D} (h : Rep K H v (.lst ds)) : ∃ a xs, v = .ref a ∧ SqL K H a xs ∧ RepA K H xs ds := h.ndI
theorem RepA.strsI {vs : List V} {xs : List Str} (h : RepA K H vs (xs.map D.str)) : vs = xs.map V.str := by
  induction xs generalizing vs with
  | nil => cases h; rfl
  | cons x xs ih => cases h with
    | cons h1 h2 => rw [h1.strI, ih h2]; rfl
theorem RepA.ofStrs (xs : List Str) : RepA K H (xs.map V.str) (xs.map D.str) := by
  induction xs with
  | nil => exact .nil
  | cons x xs ih => exact .cons (.str x) ih
theorem RepA.ofInts (xs : List Int) : RepA K H (xs.map V.int) (xs.map D.int) := by
  induction xs with
  | nil => exact .nil
  | cons x xs ih => exact .cons (.int x) ih
theorem RepA.intsI {vs : List V} {xs : List Int} (h : RepA K H vs (xs.map D.int)) : vs = xs.map V.int := by
  induction xs generalizing vs with
  | nil => cases h; rfl
  | cons x xs ih => cases h with
    | cons h1 h2 => rw [h1.intI, ih h2]; rfl
/-! ### the type that isinstance sees -/
def Tag.ty : Tag → String
  | .tup => "tuple" | .lst => "list" | .dk _ => "dict" | .dt _ => "dict" | .ob _ _ => "object"
def D.ty : D → String
  | .non => "NoneType" | .bl _ => "bool" | .int _ => "int" | .str _ => "str" | .nd t _ => t.ty
def D.plain : D → Bool
  | .nd (.ob _ _) _ => false
  | .nd (.dt _) _ => false
  | _ => true
theorem Rep.tyX {v : V} {d : D} (h : Rep K H v d) (p : d.plain = true) : TyX K H v (.type d.ty) := by
  cases h with
  | non => exact .base .non
  | bl b => exact .base (.bl b)
  | int i => exact .base (.int i)
  | str x => exact .base (.str x)
  | nd s r =>
    rename_i a t xs ds
    cases t with
    | tup =>
      rcases (show SqT K H a xs from s) with (h | ⟨o, h⟩) | ⟨o, its, n, h, hc, _⟩
      · exact .base (.tup h)
      · exact .fTuple h
      · exact .kTuple h hc
    | lst =>
      rcases (show SqL K H a xs from s) with (h | ⟨o, h⟩) | ⟨o, its, n, h, hc, _⟩
      · exact .base (.lst h)
      · exact .base (.frz h)
      · exact .kList h hc
    | dk ks =>
      rcases s.2 with h | ⟨o, h⟩
      · exact .base (.dK h)
      · exact .fDict h
    | dt ks => cases p
    | ob C fs => cases p
end
end Fq
set_option Elab.async false
set_option linter.all false
set_option maxRecDepth 100000
/-! what evaluates to which data: B a part of the heap that does not change, H the heap -/
namespace Fq
open PySem L2 Evl
/-- what may change (M), and what stays true of it (J) -/
structure Md where
  M : Addr → Prop
  J : Hp → Prop
  live : ∀ {H : Hp} {a : Addr}, J H → M a → ∃ o, H a = some o
  only : ∀ {H H1 : Hp}, (∀ a, M a → H1 a = H a) → J H → J H1
theorem Md.up (m : Md) {H H1 : Hp} (e : Ex H H1) (h : m.J H) : m.J H1 := m.only (fun a ha => by
  obtain ⟨o, q⟩ := m.live h ha
  rw [q]; exact e a o q) h
def still : Md := ⟨fun _ => False, fun _ => True, fun _ h => h.elim, fun _ h => h⟩
structure Gr (m : Md) (B H B1 H1 : Hp) : Prop where
  sub : Ex B1 H1
  keep : ∀ a o, ¬ m.M a → H a = some o → H1 a = some o
  grow : Ex B B1
  new : ∀ a o, B1 a = some o → B a = some o ∨ H a = none
  there : ∀ a o, H a = some o → ∃ o', H1 a = some o'
  noM : ∀ a, m.M a → B1 a = none
  j : m.J H1
/-- B stands in H, H keeps J -/
structure At (m : Md) (B H : Hp) : Prop where
  sub : Ex B H
  noM : ∀ a, m.M a → B a = none
  j : m.J H
section
variable {m : Md} {B H B1 H1 B2 H2 : Hp}
theorem Gr.at_ (g : Gr m B H B1 H1) : At m B1 H1 := ⟨g.sub, g.noM, g.j⟩
theorem At.gr (h : At m B H) : Gr m B H B H := ⟨h.sub, fun _ _ _ e => e, Ex.refl B, fun _ _ e => .inl e, fun _ o e => ⟨o, e⟩, h.noM, h.j⟩
theorem Gr.none_of (g : Gr m B H B1 H1) {a : Addr} (h : H1 a = none) : H a = none := by
  cases e : H a with
  | none => rfl
  | some o =>
    obtain ⟨o', e'⟩ := g.there a o e
    rw [h] at e'; cases e'
theorem Gr.trans (g : Gr m B H B1 H1) (k : Gr m B1 H1 B2 H2) : Gr m B H B2 H2 where
  sub := k.sub
  keep := fun a o n e => k.keep a o n (g.keep a o n e)
  grow := g.grow.trans k.grow
  new := fun a o e => by
    rcases k.new a o e with h | h
    · exact g.new a o h
    · exact .inr (g.none_of h)
  there := fun a o e => by
    obtain ⟨o', e'⟩ := g.there a o e
    exact k.there a o' e'
  noM := k.noM
  j := k.j
/-- the heap alone grows -/
theorem Gr.ex (h : At m B H) (e : Ex H H1) : Gr m B H B H1 := ⟨h.sub.trans e, fun a o _ q => e a o q, Ex.refl B, fun _ _ q => .inl q, fun a o q => ⟨o, e a o q⟩, h.noM, m.up e h.j⟩
/-- a new object, in both -/
theorem Gr.alloc (h : At m B H) {p : Addr} (hp : H p = none) (o : HO) : Gr m B H (upd B p o) (upd H p o) where
  sub := fun a u e => by
    by_cases c : a = p
    · subst c; rw [upd_same] at e ⊢; exact e
    · rw [upd_ne c] at e ⊢; exact h.sub a u e
  keep := fun a u _ e => by rw [upd_ne (ne_of_none e hp)]; exact e
  grow := fun a u e => by rw [upd_ne (ne_of_none (h.sub a u e) hp)]; exact e
  new := fun a u e => by
    by_cases c : a = p
    · subst c; exact .inr hp
    · rw [upd_ne c] at e; exact .inl e
  there := fun a u e => ⟨u, by rw [upd_ne (ne_of_none e hp)]; exact e⟩
  noM := fun a ha => by
    obtain ⟨o', q⟩ := m.live h.j ha
    rw [upd_ne (ne_of_none q hp)]; exact h.noM a ha
  j := m.up (Ex.new hp) h.j
theorem Gr.ofStill (g : Gr still B H B1 H1) (h : At m B H) : Gr m B H B1 H1 where
  sub := g.sub
  keep := fun a o _ e => g.keep a o (fun z => z) e
  grow := g.grow
  new := g.new
  there := g.there
  noM := fun a ha => by
    cases e : B1 a with
    | none => rfl
    | some o =>
      rcases g.new a o e with q | q
      · rw [h.noM a ha] at q; cases q
      · obtain ⟨o', z⟩ := m.live h.j ha
        rw [q] at z; cases z
  j := m.up (fun a o e => g.keep a o (fun z => z) e) h.j
theorem Gr.notM (a : At m B H) {p : Addr} (hp : H p = none) : ¬ m.M p := fun h => by
  obtain ⟨o, q⟩ := m.live a.j h
  rw [hp] at q; cases q
/-- what is not of the base stays so -/
theorem Gr.off (g : Gr m B H B1 H1) {p : Addr} {o : HO} (hb : B p = none) (hh : H p = some o) : B1 p = none := by
  cases e : B1 p with
  | none => rfl
  | some u =>
    rcases g.new p u e with h | h
    · rw [hb] at h; cases h
    · rw [hh] at h; cases h
/-- an object of one's own, made since, is changed -/
theorem Gr.upd (g : Gr m B H B1 H1) {p : Addr} (hm : ¬ m.M p) (hs : H p = none) (hb : B1 p = none) (o : HO) : Gr m B H B1 (upd H1 p o) where
  sub := fun a u e => by rw [upd_ne (ne_of_none e hb)]; exact g.sub a u e
  keep := fun a u n e => by rw [upd_ne (ne_of_none e hs)]; exact g.keep a u n e
  grow := g.grow
  new := g.new
  there := fun a u e => by rw [upd_ne (ne_of_none e hs)]; exact g.there a u e
  noM := g.noM
  j := m.only (fun a ha => by rw [upd_ne (fun z => hm (by rw [← z]; exact ha))]) g.j
/-- it is never changed again: into the base -/
theorem Gr.freeze (g : Gr m B H B1 H1) {p : Addr} {o : HO} (hm : ¬ m.M p) (hs : H p = none) (hb : B1 p = none) (hh : H1 p = some o) : Gr m B H (L2.upd B1 p o) H1 where
  sub := fun a u e => by
    by_cases c : a = p
    · subst c; rw [upd_same] at e; rw [hh]; exact e
    · rw [upd_ne c] at e; exact g.sub a u e
  keep := g.keep
  grow := fun a u e => by rw [upd_ne (ne_of_none (g.grow a u e) hb)]; exact g.grow a u e
  new := fun a u e => by
    by_cases c : a = p
    · subst c; exact .inr hs
    · rw [upd_ne c] at e; exact g.new a u e
  there := g.there
  noM := fun a ha => by rw [upd_ne (fun z => hm (by rw [← z]; exact ha))]; exact g.noM a ha
  j := g.j
theorem Gr.exH (g : Gr still B H B1 H1) : Ex H H1 := fun a o e => g.keep a o (fun z => z) e
end
/-- te gives a value for some data of R -/
def EvR (m : Md) (K : PySem.W.Frag) (te : TE) (σ : L2.St) (B : Hp) (R : D → Prop) : Prop := ∀ B0 H, Ex B B0 → At m B0 H → ∀ Q : VK, (∀ v d B1 H1, Gr m B0 H B1 H1 → Rep K B1 v d → R d → Q v H1) → te σ H Q
abbrev EvD (m : Md) (K : PySem.W.Frag) (te : TE) (σ : L2.St) (B : Hp) (d : D) : Prop := EvR m K te σ B (fun x => x = d)
def EvAR (m : Md) (K : PySem.W.Frag) (ta : TA) (σ : L2.St) (B : Hp) (R : List D → Prop) : Prop := ∀ B0 H, Ex B B0 → At m B0 H → ∀ Q : List V → Hp → Prop, (∀ vs ds B1 H1, Gr m B0 H B1 H1 → RepA K B1 vs ds → R ds → Q vs H1) → ta σ H Q
abbrev EvAD (m : Md) (K : PySem.W.Frag) (ta : TA) (σ : L2.St) (B : Hp) (ds : List D) : Prop := EvAR m K ta σ B (fun x => x = ds)
def EvTt (m : Md) (t : TT) (σ : L2.St) (B : Hp) (b : Bool) : Prop := ∀ B0 H, Ex B B0 → At m B0 H → ∀ Q : Bool → Hp → Prop, (∀ B1 H1, Gr m B0 H B1 H1 → Q b H1) → t σ H Q
def EvTR (m : Md) (t : TT) (σ : L2.St) (B : Hp) : Prop := ∀ B0 H, Ex B B0 → At m B0 H → ∀ Q : Bool → Hp → Prop, (∀ b B1 H1, Gr m B0 H B1 H1 → Q b H1) → t σ H Q
/-- promises -/
def spX (K : PySem.W.Frag) (C : Addr) (F : List D → Option (Option D)) : Sp := fun vs H Q E => ∃ B ds r, Ex B H ∧ RepA K B vs ds ∧ F ds = some r ∧
  (∀ d, r = some d → ∀ v B1 H1, Gr still B H B1 H1 → Rep K B1 v d → Q v H1) ∧ (r = none → ∀ B1 H1, Gr still B H B1 H1 → E (.ref C) none H1)
def spF (K : PySem.W.Frag) (F : List D → Option D) : Sp := fun vs H Q _ => ∃ B ds r, Ex B H ∧ RepA K B vs ds ∧ F ds = some r ∧ ∀ v B1 H1, Gr still B H B1 H1 → Rep K B1 v r → Q v H1
section
variable {m : Md} {K : PySem.W.Frag} {σ : L2.St} {B B' : Hp} {ta tb tc te : TE} {t u : TT} {d d' : D} {v : V} {aa ab : TA} {ds es : List D} {R R' : D → Prop} {RA RB : List D → Prop}
theorem EvR.mono (e : Ex B B') (h : EvR m K te σ B R) : EvR m K te σ B' R := fun B0 H a q Q k => h B0 H (e.trans a) q Q k
theorem EvAR.mono (e : Ex B B') (h : EvAR m K aa σ B RA) : EvAR m K aa σ B' RA := fun B0 H a q Q k => h B0 H (e.trans a) q Q k
theorem EvR.weak (h : EvR m K te σ B R) (w : ∀ d, R d → R' d) : EvR m K te σ B R' := fun B0 H e a Q q => h B0 H e a Q fun v d B1 H1 g r hr => q v d B1 H1 g r (w d hr)
theorem EvD.of_v (r : Rep K B v d) (h : ∀ H (Q : VK), Q v H → te σ H Q) : EvD m K te σ B d := fun B0 H e a Q q => h H Q (q v d B0 H a.gr (r.up e) rfl)
theorem d_var {i : Nat} (h : σ[i]? = some (some v)) (r : Rep K B v d) : EvD m K (tVar i) σ B d := .of_v r fun H Q q => ⟨v, h, q⟩
theorem d_c (r : Rep K B v d) : EvD m K (tC v) σ B d := .of_v r fun H Q q => q
theorem d_int {i : Int} : EvD m K (tC (.int i)) σ B (.int i) := d_c (.int i)
theorem d_str {x : Str} : EvD m K (tC (.str x)) σ B (.str x) := d_c (.str x)
theorem d_bl {b : Bool} : EvD m K (tC (.bl b)) σ B (.bl b) := d_c (.bl b)
theorem d_non : EvD m K (tC .non) σ B .non := d_c .non
theorem d_is (h : EvD m K te σ B d) (e : d = d') : EvD m K te σ B d' := e ▸ h
/-- a step behind one, two evaluations -/
theorem r_step {te : V → TE} (h : EvR m K ta σ B R) (k : ∀ B0 H, Ex B B0 → At m B0 H → ∀ v d, Rep K B0 v d → R d → ∀ Q : VK, (∀ v' d' B1 H1, Gr m B0 H B1 H1 → Rep K B1 v' d' → R' d' → Q v' H1) → te v σ H Q) :
    EvR m K (fun σ H Q => ta σ H fun x H1 => te x σ H1 Q) σ B R' := fun B0 H e a Q q => h B0 H e a _ fun v d B1 H1 g r hr => k B1 H1 (e.trans g.grow) g.at_ v d r hr Q fun v' d' B2 H2 g2 r2 hr2 => q v' d' B2 H2 (g.trans g2) r2 hr2
end
end Fq
set_option Elab.async false
set_option linter.all false
set_option maxRecDepth 100000
namespace Fq
open PySem L2 Evl
section
variable {m : Md} {K : PySem.W.Frag} {σ : L2.St} {B B' : Hp} {ta tb tc te : TE} {t u : TT} {d d' : D} {v : V} {aa ab : TA} {ds es : List D} {R R' Ra Rb : D → Prop} {RA RB : List D → Prop}
theorem r_op {r : R2} (ha : EvR m K ta σ B Ra) (hb : EvR m K tb σ B Rb) (k : ∀ B0 H, Ex B B0 → At m B0 H → ∀ x y d e, Rep K B0 x d → Rep K B0 y e → Ra d → Rb e → ∀ Q : VK, (∀ v d' B1 H1, Gr m B0 H B1 H1 → Rep K B1 v d' → R d' → Q v H1) → r x y H Q) :
    EvR m K (tOp r ta tb) σ B R := fun B0 H e a Q q => ha B0 H e a _ fun x d B1 H1 g1 rx hx => hb B1 H1 (e.trans g1.grow) g1.at_ _ fun y d2 B2 H2 g2 ry hy =>
  k B2 H2 ((e.trans g1.grow).trans g2.grow) g2.at_ x y d d2 (rx.up g2.grow) ry hx hy Q fun v d' B3 H3 g3 r3 h3 => q v d' B3 H3 ((g1.trans g2).trans g3) r3 h3
theorem r_un {r : V → Hp → VK → Prop} (ha : EvR m K ta σ B Ra) (k : ∀ B0 H, Ex B B0 → At m B0 H → ∀ x d, Rep K B0 x d → Ra d → ∀ Q : VK, (∀ v d' B1 H1, Gr m B0 H B1 H1 → Rep K B1 v d' → R d' → Q v H1) → r x H Q) :
    EvR m K (fun σ H Q => ta σ H fun x H1 => r x H1 Q) σ B R := fun B0 H e a Q q => ha B0 H e a _ fun x d B1 H1 g1 rx hx =>
  k B1 H1 (e.trans g1.grow) g1.at_ x d rx hx Q fun v d' B3 H3 g3 r3 h3 => q v d' B3 H3 (g1.trans g3) r3 h3
/-- on ints -/
theorem r_opI {C : Int → Int → Prop} {g : Int → Int → Int} {P1 P2 P3 : Int → Prop} (ha : EvR m K ta σ B (fun d => ∃ i, d = .int i ∧ P1 i)) (hb : EvR m K tb σ B (fun d => ∃ i, d = .int i ∧ P2 i)) (hc : ∀ i j, P1 i → P2 j → C i j ∧ P3 (g i j)) :
    EvR m K (tOp (rI C fun i j => .int (g i j)) ta tb) σ B (fun d => ∃ i, d = .int i ∧ P3 i) := r_op ha hb fun B0 H e a x y d d2 rx ry ⟨i, e1, h1⟩ ⟨j, e2, h2⟩ Q q => by
  subst e1 e2
  obtain rfl := rx.intI
  obtain rfl := ry.intI
  exact ⟨i, j, rfl, rfl, (hc i j h1 h2).1, q _ _ B0 H a.gr (.int _) ⟨_, rfl, (hc i j h1 h2).2⟩⟩
theorem r_opI0 {g : Int → Int → Int} {P1 P2 P3 : Int → Prop} (ha : EvR m K ta σ B (fun d => ∃ i, d = .int i ∧ P1 i)) (hb : EvR m K tb σ B (fun d => ∃ i, d = .int i ∧ P2 i)) (hc : ∀ i j, P1 i → P2 j → P3 (g i j)) :
    EvR m K (tOp (rI0 fun i j => .int (g i j)) ta tb) σ B (fun d => ∃ i, d = .int i ∧ P3 i) := r_op ha hb fun B0 H e a x y d d2 rx ry ⟨i, e1, h1⟩ ⟨j, e2, h2⟩ Q q => by
  subst e1 e2
  obtain rfl := rx.intI
  obtain rfl := ry.intI
  exact ⟨i, j, rfl, rfl, q _ _ B0 H a.gr (.int _) ⟨_, rfl, hc i j h1 h2⟩⟩
theorem r_i {i : Int} {P1 : Int → Prop} (h : EvD m K te σ B (.int i)) (p : P1 i) : EvR m K te σ B (fun d => ∃ i, d = .int i ∧ P1 i) := h.weak fun d e => ⟨i, e, p⟩
theorem d_op {g : Int → Int → Int} {i j : Int} (ha : EvD m K ta σ B (.int i)) (hb : EvD m K tb σ B (.int j)) : EvD m K (tOp (rI0 fun i j => .int (g i j)) ta tb) σ B (.int (g i j)) :=
  (r_opI0 (P3 := fun k => k = g i j) (r_i (P1 := fun k => k = i) ha rfl) (r_i (P1 := fun k => k = j) hb rfl) fun a b h1 h2 => by rw [h1, h2]).weak fun d ⟨k, e, h⟩ => by rw [e, h]
theorem d_opC {C : Int → Int → Prop} {g : Int → Int → Int} {i j : Int} (ha : EvD m K ta σ B (.int i)) (hb : EvD m K tb σ B (.int j)) (hc : C i j) : EvD m K (tOp (rI C fun i j => .int (g i j)) ta tb) σ B (.int (g i j)) :=
  (r_opI (P3 := fun k => k = g i j) (r_i (P1 := fun k => k = i) ha rfl) (r_i (P1 := fun k => k = j) hb rfl) fun a b h1 h2 => by rw [h1, h2]; exact ⟨hc, rfl⟩).weak fun d ⟨k, e, h⟩ => by rw [e, h]
theorem d_opB {g : Int → Int → Bool} {i j : Int} (ha : EvD m K ta σ B (.int i)) (hb : EvD m K tb σ B (.int j)) : EvD m K (tOp (rI0 fun i j => .bl (g i j)) ta tb) σ B (.bl (g i j)) := r_op ha hb fun B0 H e a x y d d2 rx ry e1 e2 Q q => by
  subst e1 e2
  obtain rfl := rx.intI
  obtain rfl := ry.intI
  exact ⟨i, j, rfl, rfl, q _ _ B0 H a.gr (.bl _) rfl⟩
theorem r_opB {g : Int → Int → Bool} {P1 P2 : Int → Prop} (ha : EvR m K ta σ B (fun d => ∃ i, d = .int i ∧ P1 i)) (hb : EvR m K tb σ B (fun d => ∃ i, d = .int i ∧ P2 i)) : EvR m K (tOp (rI0 fun i j => .bl (g i j)) ta tb) σ B (fun d => ∃ b, d = .bl b) := r_op ha hb fun B0 H e a x y d d2 rx ry ⟨i, e1, h1⟩ ⟨j, e2, h2⟩ Q q => by
  subst e1 e2
  obtain rfl := rx.intI
  obtain rfl := ry.intI
  exact ⟨i, j, rfl, rfl, q _ _ B0 H a.gr (.bl _) ⟨_, rfl⟩⟩
/-- == of scalars of any two kinds -/
def D.sc : D → Option V
  | .non => some .non | .bl b => some (.bl b) | .int i => some (.int i) | .str x => some (.str x) | .nd _ _ => none
theorem Rep.scI {H : Hp} {d : D} {v x : V} (h : Rep K H v d) (e : d.sc = some x) : v = x := by
  cases h <;> first | (cases e; rfl) | cases e
theorem d_eq {x y : V} (ha : EvD m K ta σ B d) (hb : EvD m K tb σ B d') (ex : d.sc = some x) (ey : d'.sc = some y) (hs : scal x y = true) : EvD m K (tOp rEq ta tb) σ B (.bl (decide (x = y))) := r_op ha hb fun B0 H e a x' y' d1 d2 rx ry e1 e2 Q q => by
  subst e1 e2
  obtain rfl := rx.scI ex
  obtain rfl := ry.scI ey
  exact ⟨hs, q _ _ B0 H a.gr (.bl _) rfl⟩
theorem d_eqI {i j : Int} (ha : EvD m K ta σ B (.int i)) (hb : EvD m K tb σ B (.int j)) : EvD m K (tOp rEq ta tb) σ B (.bl (decide (i = j))) := by
  have h := d_eq (K := K) ha hb rfl rfl rfl
  have e : decide (V.int i = V.int j) = decide (i = j) := by simp
  rw [e] at h; exact h
theorem d_eqS {x y : Str} (ha : EvD m K ta σ B (.str x)) (hb : EvD m K tb σ B (.str y)) : EvD m K (tOp rEq ta tb) σ B (.bl (decide (x = y))) := by
  have h := d_eq (K := K) ha hb rfl rfl rfl
  have e : decide (V.str x = V.str y) = decide (x = y) := by simp
  rw [e] at h; exact h
theorem d_eqB {x y : Bool} (ha : EvD m K ta σ B (.bl x)) (hb : EvD m K tb σ B (.bl y)) : EvD m K (tOp rEq ta tb) σ B (.bl (decide (x = y))) := by
  have h := d_eq (K := K) ha hb rfl rfl rfl
  have e : decide (V.bl x = V.bl y) = decide (x = y) := by simp
  rw [e] at h; exact h
theorem r_eqI {P1 : Int → Prop} {j : Int} (ha : EvR m K ta σ B (fun d => ∃ i, d = .int i ∧ P1 i)) (hb : EvD m K tb σ B (.int j)) : EvR m K (tOp rEq ta tb) σ B (fun d => ∃ b, d = .bl b) := r_op ha hb fun B0 H e a x y d d2 rx ry ⟨i, e1, h1⟩ e2 Q q => by
  subst e1 e2
  obtain rfl := rx.intI
  obtain rfl := ry.intI
  exact ⟨rfl, q _ _ B0 H a.gr (.bl _) ⟨_, rfl⟩⟩
/-- + of texts -/
abbrev rAddS : R2 := fun x y H Q => ∃ i j, x = .str i ∧ y = .str j ∧ i.length + j.length ≤ sizeLine ∧ Q (.str (i ++ j)) H
theorem d_addS {x y : Str} (ha : EvD m K ta σ B (.str x)) (hb : EvD m K tb σ B (.str y)) (hl : x.length + y.length ≤ 100000) : EvD m K (tOp rAddS ta tb) σ B (.str (x ++ y)) := r_op ha hb fun B0 H e a x' y' d1 d2 rx ry e1 e2 Q q => by
  subst e1 e2
  obtain rfl := rx.strI
  obtain rfl := ry.strI
  exact ⟨x, y, rfl, rfl, sz_of hl, q _ _ B0 H a.gr (.str _) rfl⟩
theorem RepA.at_ {H : Hp} {xs : List V} (r : RepA K H xs ds) {i : Int} (h : atI ds i = some d) : ∃ v, atI xs i = some v ∧ Rep K H v d := by
  unfold atI at h ⊢
  rw [r.len]
  cases hj : ixN ds.length i with
  | none => rw [hj] at h; cases h
  | some j => rw [hj] at h; exact r.get h
theorem d_ixT {i : Int} (ha : EvD m K ta σ B (.tup ds)) (hb : EvD m K tb σ B (.int i)) (h : atI ds i = some d) : EvD m K (tOp (rIxT K) ta tb) σ B d := r_op ha hb fun B0 H e a x y d1 d2 rx ry e1 e2 Q q => by
  subst e1 e2
  obtain ⟨p, xs, rfl, s, r⟩ := rx.tupI
  obtain rfl := ry.intI
  obtain ⟨v, hv, rv⟩ := r.at_ h
  exact ⟨p, xs, i, v, rfl, rfl, ex_t a.sub s, hv, q v _ B0 H a.gr rv rfl⟩
theorem d_ixL {i : Int} (ha : EvD m K ta σ B (.lst ds)) (hb : EvD m K tb σ B (.int i)) (h : atI ds i = some d) : EvD m K (tOp (rIxL K) ta tb) σ B d := r_op ha hb fun B0 H e a x y d1 d2 rx ry e1 e2 Q q => by
  subst e1 e2
  obtain ⟨p, xs, rfl, s, r⟩ := rx.lstI
  obtain rfl := ry.intI
  obtain ⟨v, hv, rv⟩ := r.at_ h
  exact ⟨p, xs, i, v, rfl, rfl, ex_l a.sub s, hv, q v _ B0 H a.gr rv rfl⟩
theorem d_ixS {x : Str} {i : Int} {c : Nat} (ha : EvD m K ta σ B (.str x)) (hb : EvD m K tb σ B (.int i)) (hl : x.length ≤ 100000) (h : atI x.cps.toList i = some c) : EvD m K (tOp rIxS ta tb) σ B (.str ⟨#[c]⟩) := r_op ha hb fun B0 H e a x' y d1 d2 rx ry e1 e2 Q q => by
  subst e1 e2
  obtain rfl := rx.strI
  obtain rfl := ry.intI
  exact ⟨x, i, c, rfl, rfl, sz_of hl, h, q _ _ B0 H a.gr (.str _) rfl⟩
/-! ### arguments, displays, calls -/
theorem da_nil : EvAD m K tNil σ B [] := fun B0 H _ a Q q => q [] [] B0 H a.gr .nil rfl
theorem ra_cons (h : EvR m K te σ B R) (hr : EvAR m K aa σ B RA) : EvAR m K (tCons te aa) σ B (fun l => ∃ d ds, l = d :: ds ∧ R d ∧ RA ds) := fun B0 H e a Q q =>
  h B0 H e a _ fun v d B1 H1 g1 r1 h1 => hr B1 H1 (e.trans g1.grow) g1.at_ _ fun vs ds B2 H2 g2 r2 h2 => q _ _ B2 H2 (g1.trans g2) (.cons (r1.up g2.grow) r2) ⟨d, ds, rfl, h1, h2⟩
theorem EvAR.weak (h : EvAR m K aa σ B RA) (w : ∀ d, RA d → RB d) : EvAR m K aa σ B RB := fun B0 H e a Q q => h B0 H e a Q fun v d B1 H1 g r hr => q v d B1 H1 g r (w d hr)
theorem da_cons (h : EvD m K te σ B d) (hr : EvAD m K aa σ B ds) : EvAD m K (tCons te aa) σ B (d :: ds) := (ra_cons h hr).weak fun l ⟨a, b, e, e1, e2⟩ => by rw [e, e1, e2]
theorem da_one (h : EvD m K te σ B d) : EvAD m K (tCons te tNil) σ B [d] := da_cons h da_nil
theorem r_tup (h : EvAR m K aa σ B RA) (hl : ∀ ds, RA ds → ds.length ≤ 100000) : EvR m K (tTup aa) σ B (fun d => ∃ ds, d = .tup ds ∧ RA ds) := fun B0 H e a Q q => h B0 H e a _ fun vs ds B1 H1 g r hr =>
  ⟨sz_of (by rw [r.len]; exact hl ds hr), fun p hp => q _ _ _ _ (g.trans (.alloc g.at_ hp _)) (.nd (t := .tup) (SqT.of upd_same) (r.up (Gr.alloc g.at_ hp _).grow)) ⟨ds, rfl, hr⟩⟩
theorem d_tup (h : EvAD m K aa σ B ds) (hl : ds.length ≤ 100000) : EvD m K (tTup aa) σ B (.tup ds) := (r_tup h fun ds e => by rw [e]; exact hl).weak fun d ⟨x, e, e1⟩ => by rw [e, e1]
theorem d_lst (h : EvAD m K aa σ B ds) (hl : ds.length ≤ 100000) : EvD m K (tLst aa) σ B (.lst ds) := fun B0 H e a Q q => h B0 H e a _ fun vs ds' B1 H1 g r hr => by
  subst hr
  exact ⟨sz_of (by rw [r.len]; exact hl), fun p hp => q _ _ _ _ (g.trans (.alloc g.at_ hp _)) (.nd (t := .lst) (SqL.of upd_same) (r.up (Gr.alloc g.at_ hp _).grow)) rfl⟩
theorem r_cb {r : List V → Hp → VK → Prop} (h : EvAR m K aa σ B RA) (hr : ∀ B0 H, Ex B B0 → At m B0 H → ∀ vs ds, RepA K B0 vs ds → RA ds → ∀ Q : VK, (∀ v d B1 H1, Gr m B0 H B1 H1 → Rep K B1 v d → R d → Q v H1) → r vs H Q) : EvR m K (tCB r aa) σ B R := fun B0 H e a Q q =>
  h B0 H e a _ fun vs ds B1 H1 g r1 h1 => hr B1 H1 (e.trans g.grow) g.at_ vs ds r1 h1 Q fun v d B2 H2 g2 r2 h2 => q v d B2 H2 (g.trans g2) r2 h2
abbrev rLenQ (K : PySem.W.Frag) : List V → Hp → VK → Prop := fun xs H Q => ∃ p ys, xs = [.ref p] ∧ (SqL K H p ys ∨ SqT K H p ys) ∧ Q (.int ys.length) H
theorem d_lenT (h : EvD m K te σ B (.tup ds)) : EvD m K (tCB (rLenQ K) (tCons te tNil)) σ B (.int ds.length) := r_cb (da_one h) fun B0 H e a vs ds' rs hd Q q => by
  subst hd
  cases rs with
  | cons r1 r2 =>
    cases r2
    obtain ⟨p, xs, rfl, s, r⟩ := r1.tupI
    exact ⟨p, xs, rfl, .inr (ex_t a.sub s), q _ _ B0 H a.gr (.int _) (by rw [r.len])⟩
theorem d_lenL (h : EvD m K te σ B (.lst ds)) : EvD m K (tCB (rLenQ K) (tCons te tNil)) σ B (.int ds.length) := r_cb (da_one h) fun B0 H e a vs ds' rs hd Q q => by
  subst hd
  cases rs with
  | cons r1 r2 =>
    cases r2
    obtain ⟨p, xs, rfl, s, r⟩ := r1.lstI
    exact ⟨p, xs, rfl, .inl (ex_l a.sub s), q _ _ B0 H a.gr (.int _) (by rw [r.len])⟩
abbrev rLenS' : List V → Hp → VK → Prop := fun xs H Q => ∃ z, xs = [.str z] ∧ z.length ≤ sizeLine ∧ Q (.int z.length) H
theorem d_lenS {x : Str} (h : EvD m K te σ B (.str x)) (hl : x.length ≤ 100000) : EvD m K (tCB rLenS' (tCons te tNil)) σ B (.int x.length) := r_cb (da_one h) fun B0 H e a vs ds' rs hd Q q => by
  subst hd
  cases rs with
  | cons r1 r2 =>
    cases r2
    rw [r1.strI]
    exact ⟨x, rfl, sz_of hl, q _ _ B0 H a.gr (.int _) rfl⟩
abbrev rInt : List V → Hp → VK → Prop := fun xs H Q => (∃ i, xs = [.int i] ∧ Q (.int i) H) ∨ ∃ k, xs = [.bl k] ∧ Q (.int (if k = true then 1 else 0)) H
theorem r_int {P1 : Int → Prop} (h : EvR m K te σ B (fun d => ∃ i, d = .int i ∧ P1 i)) : EvR m K (tCB rInt (tCons te tNil)) σ B (fun d => ∃ i, d = .int i ∧ P1 i) := r_cb (ra_cons h da_nil) fun B0 H e a vs ds' rs ⟨d, ds, e1, ⟨i, e2, hp⟩, e3⟩ Q q => by
  subst e1 e2 e3
  obtain _ | ⟨r1, r2⟩ := rs
  obtain rfl := r1.intI
  cases r2
  exact .inl ⟨i, rfl, q _ _ B0 H a.gr (.int _) ⟨i, rfl, hp⟩⟩
theorem d_intc {i : Int} (h : EvD m K te σ B (.int i)) : EvD m K (tCB rInt (tCons te tNil)) σ B (.int i) := (r_int (r_i (P1 := fun k => k = i) h rfl)).weak fun d ⟨k, e, e2⟩ => by rw [e, e2]
abbrev rAbs : List V → Hp → VK → Prop := fun xs H Q => ∃ i, xs = [.int i] ∧ Q (.int (if i < 0 then -i else i)) H
theorem d_abs {i : Int} (h : EvD m K te σ B (.int i)) : EvD m K (tCB rAbs (tCons te tNil)) σ B (.int (if i < 0 then -i else i)) := r_cb (da_one h) fun B0 H e a vs ds' rs hd Q q => by
  subst hd
  cases rs with
  | cons r1 r2 =>
    cases r2
    rw [r1.intI]
    exact ⟨i, rfl, q _ _ B0 H a.gr (.int _) rfl⟩
abbrev rTupOf (K : PySem.W.Frag) : List V → Hp → VK → Prop := fun xs H Q => ∃ p ys, xs = [.ref p] ∧ ((SqL K H p ys ∧ ∀ l, H l = none → Q (.ref l) (upd H l (.tup ys))) ∨ (SqT K H p ys ∧ Q (.ref p) H))
theorem d_tupL (h : EvD m K te σ B (.lst ds)) : EvD m K (tCB (rTupOf K) (tCons te tNil)) σ B (.tup ds) := r_cb (da_one h) fun B0 H e a vs ds' rs hd Q q => by
  subst hd
  cases rs with
  | cons r1 r2 =>
    cases r2
    obtain ⟨p, xs, rfl, s, r⟩ := r1.lstI
    exact ⟨p, xs, rfl, .inl ⟨ex_l a.sub s, fun l hl => q _ _ _ _ (.alloc a hl _) (.nd (t := .tup) (SqT.of upd_same) (r.up (Gr.alloc a hl _).grow)) rfl⟩⟩
/-- isinstance(x, T), T a built-in class -/
theorem d_isi {n : String} {b : Bool} (h : EvD m K te σ B d) (hp : d.plain = true) (hc : ∀ (σ : L2.St) H (Q : VK), Q (.ty n) H → tb σ H Q) (hk : kitB d.ty n = some b) : EvD m K (tCB (rIsi K) (tCons te (tCons tb tNil))) σ B (.bl b) := fun B0 H e a Q q =>
  h B0 H e a _ fun x d1 B1 H1 g r hd => by
    subst hd
    exact hc _ _ _ ⟨x, .ty n, .type d1.ty, .type n, b, rfl, .ty n, (r.up g.sub).tyX hp, kit_ty hk, q _ _ B1 H1 g (.bl b) rfl⟩
theorem RepA.blsI {H : Hp} {vs : List V} {xs : List Bool} (h : RepA K H vs (xs.map D.bl)) : vs = xs.map V.bl := by
  induction xs generalizing vs with
  | nil => cases h; rfl
  | cons x xs ih => cases h with
    | cons h1 h2 => rw [h1.blI, ih h2]; rfl
abbrev rAllQ (K : PySem.W.Frag) : List V → Hp → VK → Prop := rAll K
theorem d_all {bs : List Bool} (h : EvD m K te σ B (.lst (bs.map D.bl))) : EvD m K (tCB (rAll K) (tCons te tNil)) σ B (.bl (bs.all id)) := r_cb (da_one h) fun B0 H e a vs ds' rs hd Q q => by
  subst hd
  cases rs with
  | cons r1 r2 =>
    cases r2
    obtain ⟨p, xs, rfl, s, r⟩ := r1.lstI
    have hx : xs = bs.map V.bl := r.blsI
    subst hx
    exact ⟨p, bs, rfl, ex_l a.sub s, q _ _ B0 H a.gr (.bl _) rfl⟩
end
end Fq
set_option Elab.async false
set_option linter.all false
set_option maxRecDepth 100000
namespace Fq
open PySem L2 Evl
section
variable {m : Md} {K : PySem.W.Frag} {σ : L2.St} {B B' : Hp} {ta tb tc te : TE} {t u : TT} {d d' : D} {v : V} {aa ab : TA} {ds es : List D} {R R' Ra Rb : D → Prop} {RA RB : List D → Prop}
theorem d_and {a b : Bool} (h1 : EvD m K ta σ B (.bl a)) (h2 : a = true → EvD m K tb σ B (.bl b)) : EvD m K (tAndV ta tb) σ B (.bl (a && b)) := fun B0 H e at_ Q q => h1 B0 H e at_ _ fun v d B1 H1 g r hd => by
  subst hd
  obtain rfl := r.blI
  refine ⟨a, rfl, ?_⟩
  cases a with
  | true => exact h2 rfl B1 H1 (e.trans g.grow) g.at_ Q fun v d B2 H2 g2 r2 e2 => q v d B2 H2 (g.trans g2) r2 e2
  | false => exact q _ _ B1 H1 g (.bl false) rfl
theorem d_or {a b : Bool} (h1 : EvD m K ta σ B (.bl a)) (h2 : a = false → EvD m K tb σ B (.bl b)) : EvD m K (tOrV ta tb) σ B (.bl (a || b)) := fun B0 H e at_ Q q => h1 B0 H e at_ _ fun v d B1 H1 g r hd => by
  subst hd
  obtain rfl := r.blI
  refine ⟨a, rfl, ?_⟩
  cases a with
  | true => exact q _ _ B1 H1 g (.bl true) rfl
  | false => exact h2 rfl B1 H1 (e.trans g.grow) g.at_ Q fun v d B2 H2 g2 r2 e2 => q v d B2 H2 (g.trans g2) r2 e2
theorem d_not {a : Bool} (h1 : EvD m K ta σ B (.bl a)) : EvD m K (tNotV ta) σ B (.bl (!a)) := fun B0 H e at_ Q q => h1 B0 H e at_ _ fun v d B1 H1 g r hd => by
  subst hd
  obtain rfl := r.blI
  exact ⟨a, rfl, q _ _ B1 H1 g (.bl _) rfl⟩
/-! tests -/
theorem EvTt.mono {b : Bool} (e : Ex B B') (h : EvTt m t σ B b) : EvTt m t σ B' b := fun B0 H a q Q k => h B0 H (e.trans a) q Q k
theorem t_val {b : Bool} (h : EvD m K te σ B (.bl b)) : EvTt m (tB te) σ B b := fun B0 H e a Q q => h B0 H e a _ fun v d B1 H1 g r hd => by
  subst hd
  exact ⟨b, r.blI, q B1 H1 g⟩
theorem t_test {b : Bool} (h : EvD m K te σ B (.bl b)) : EvTt m (tTest te) σ B b := t_val h
theorem tr_val (h : EvR m K te σ B (fun d => ∃ b, d = .bl b)) : EvTR m (tB te) σ B := fun B0 H e a Q q => h B0 H e a _ fun v d B1 H1 g r ⟨b, hd⟩ => by
  subst hd
  exact ⟨b, r.blI, q b B1 H1 g⟩
theorem tr_test (h : EvR m K te σ B (fun d => ∃ b, d = .bl b)) : EvTR m (tTest te) σ B := tr_val h
theorem t_not {a : Bool} (h1 : EvTt m t σ B a) : EvTt m (tNot t) σ B (!a) := fun B0 H e a Q q => h1 B0 H e a _ fun B1 H1 g => q B1 H1 g
theorem t_and {a b : Bool} (h1 : EvTt m t σ B a) (h2 : a = true → EvTt m u σ B b) : EvTt m (tAnd t u) σ B (a && b) := fun B0 H e at_ Q q => h1 B0 H e at_ _ fun B1 H1 g => by
  cases a with
  | true => exact h2 rfl B1 H1 (e.trans g.grow) g.at_ Q fun B2 H2 g2 => q B2 H2 (g.trans g2)
  | false => exact q B1 H1 g
theorem t_or {a b : Bool} (h1 : EvTt m t σ B a) (h2 : a = false → EvTt m u σ B b) : EvTt m (tOr t u) σ B (a || b) := fun B0 H e at_ Q q => h1 B0 H e at_ _ fun B1 H1 g => by
  cases a with
  | true => exact q B1 H1 g
  | false => exact h2 rfl B1 H1 (e.trans g.grow) g.at_ Q fun B2 H2 g2 => q B2 H2 (g.trans g2)
theorem d_if {b : Bool} (h : EvTt m t σ B b) (h1 : b = true → EvD m K ta σ B d) (h2 : b = false → EvD m K tb σ B d) : EvD m K (tIf t ta tb) σ B d := fun B0 H e at_ Q q => h B0 H e at_ _ fun B1 H1 g => by
  cases b with
  | true => exact h1 rfl B1 H1 (e.trans g.grow) g.at_ Q fun v d B2 H2 g2 r2 e2 => q v d B2 H2 (g.trans g2) r2 e2
  | false => exact h2 rfl B1 H1 (e.trans g.grow) g.at_ Q fun v d B2 H2 g2 r2 e2 => q v d B2 H2 (g.trans g2) r2 e2
def D.isN : D → Bool
  | .non => true
  | _ => false
theorem Rep.isN {H : Hp} {d : D} {v : V} (h : Rep K H v d) : decide (v = .non) = d.isN := by
  cases h <;> rfl
theorem d_isN (h : EvD m K te σ B d) : EvD m K (tIsN te) σ B (.bl d.isN) := fun B0 H e a Q q => h B0 H e a _ fun v d1 B1 H1 g r hd => by
  subst hd
  show Q (.bl (decide (v = .non))) H1
  rw [r.isN]; exact q _ _ B1 H1 g (.bl _) rfl
theorem d_notN (h : EvD m K te σ B d) : EvD m K (tNotN te) σ B (.bl (!d.isN)) := fun B0 H e a Q q => h B0 H e a _ fun v d1 B1 H1 g r hd => by
  subst hd
  show Q (.bl (!decide (v = .non))) H1
  rw [r.isN]; exact q _ _ B1 H1 g (.bl _) rfl
theorem inV_strs (x : Str) (ys : List Str) : inV (.str x) (ys.map V.str) = decide (x ∈ ys) := by
  unfold inV
  rw [List.any_map, Bool.eq_iff_iff]
  simp only [List.any_eq_true, decide_eq_true_eq]
  constructor
  · rintro ⟨y, hy, e⟩
    have e' : y = x := by simpa [Function.comp, eqV] using e
    subst e'; exact hy
  · intro h; exact ⟨x, h, by simp [Function.comp, eqV]⟩
theorem flatStrs (ys : List Str) : (ys.map V.str).all flatV = true := by simp [flatV]
theorem d_inT {x : Str} {ys : List Str} (ha : EvD m K ta σ B (.str x)) (hb : EvD m K tb σ B (.tup (ys.map D.str))) : EvD m K (tOp (rIn K false) ta tb) σ B (.bl (decide (x ∈ ys))) := r_op ha hb fun B0 H e a x' y d1 d2 rx ry e1 e2 Q q => by
  subst e1 e2
  obtain rfl := rx.strI
  obtain ⟨p, xs, rfl, s, r⟩ := ry.tupI
  obtain rfl := r.strsI
  refine ⟨p, _, rfl, .inr (ex_t a.sub s), rfl, flatStrs ys, ?_⟩
  show Q (.bl (inV (.str x) (ys.map V.str))) H
  rw [inV_strs]; exact q _ _ B0 H a.gr (.bl _) rfl
theorem d_inL {x : Str} {ys : List Str} (ha : EvD m K ta σ B (.str x)) (hb : EvD m K tb σ B (.lst (ys.map D.str))) : EvD m K (tOp (rIn K false) ta tb) σ B (.bl (decide (x ∈ ys))) := r_op ha hb fun B0 H e a x' y d1 d2 rx ry e1 e2 Q q => by
  subst e1 e2
  obtain rfl := rx.strI
  obtain ⟨p, xs, rfl, s, r⟩ := ry.lstI
  obtain rfl := r.strsI
  refine ⟨p, _, rfl, .inl (ex_l a.sub s), rfl, flatStrs ys, ?_⟩
  show Q (.bl (inV (.str x) (ys.map V.str))) H
  rw [inV_strs]; exact q _ _ B0 H a.gr (.bl _) rfl
/-- in a list or a tuple -/
theorem d_inQ {tg : Tag} (ht : tg = .tup ∨ tg = .lst) {x : Str} {ys : List Str} (ha : EvD m K ta σ B (.str x)) (hb : EvD m K tb σ B (.nd tg (ys.map D.str))) : EvD m K (tOp (rIn K false) ta tb) σ B (.bl (decide (x ∈ ys))) := by
  rcases ht with rfl | rfl
  · exact d_inT ha hb
  · exact d_inL ha hb
abbrev rInSg : R2 := fun x y H Q => ∃ (c : Nat) (z : Str), x = .str ⟨#[c]⟩ ∧ y = .str z ∧ Q (.bl (decide (c ∈ z.cps.toList))) H
theorem d_inS {c : Nat} {z : Str} (ha : EvD m K ta σ B (.str ⟨#[c]⟩)) (hb : EvD m K tb σ B (.str z)) : EvD m K (tOp rInSg ta tb) σ B (.bl (decide (c ∈ z.cps.toList))) := r_op ha hb fun B0 H e a x' y' d1 d2 rx ry e1 e2 Q q => by
  subst e1 e2
  obtain rfl := rx.strI
  obtain rfl := ry.strI
  exact ⟨c, z, rfl, rfl, q _ _ B0 H a.gr (.bl _) rfl⟩
theorem d_chain {f g : Int → Int → Bool} {i j k : Int} (ha : EvD m K ta σ B (.int i)) (hb : EvD m K tb σ B (.int j)) (hc : EvD m K tc σ B (.int k)) :
    EvD m K (tChain (rI0 fun i j => .bl (f i j)) (rI0 fun i j => .bl (g i j)) ta tb tc) σ B (.bl (f i j && g j k)) := fun B0 H e a Q q =>
  ha B0 H e a _ fun x d B1 H1 g1 rx hx => hb B1 H1 (e.trans g1.grow) g1.at_ _ fun y d2 B2 H2 g2 ry hy => by
    subst hx hy
    obtain rfl := rx.intI
    obtain rfl := ry.intI
    refine ⟨i, j, rfl, rfl, f i j, rfl, ?_⟩
    cases hf : f i j with
    | true =>
      rw [if_pos rfl]
      exact hc B2 H2 ((e.trans g1.grow).trans g2.grow) g2.at_ _ fun z d3 B3 H3 g3 rz hz => by
        subst hz
        obtain rfl := rz.intI
        have w := q (.bl (g j k)) (.bl (g j k)) B3 H3 ((g1.trans g2).trans g3)
        rw [hf] at w; exact ⟨j, k, rfl, rfl, w (.bl _) rfl⟩
    | false =>
      rw [if_neg (by decide)]
      have w := q (.bl false) (.bl false) B2 H2 (g1.trans g2)
      rw [hf] at w; exact w (.bl _) rfl
/-- calls of a def by its promise -/
theorem d_call {F : List D → Option D} {E : XK} (h : EvAD m K aa σ B ds) (hf : F ds = some d) : EvD m K (tCall (spF K F) [] E aa) σ B d := fun B0 H e a Q q => h B0 H e a _ fun vs ds' B1 H1 g r hd => by
  subst hd
  refine ⟨B1, ds', d, g.sub, ?_, hf, fun v B2 H2 g2 r2 => q v d B2 H2 (g.trans (g2.ofStill g.at_)) r2 rfl⟩
  rw [List.append_nil]; exact r
theorem d_callX {C : Addr} {F : List D → Option (Option D)} {E : XK} (h : EvAD m K aa σ B ds) (hf : F ds = some (some d)) : EvD m K (tCall (spX K C F) [] E aa) σ B d := fun B0 H e a Q q => h B0 H e a _ fun vs ds' B1 H1 g r hd => by
  subst hd
  refine ⟨B1, ds', _, g.sub, ?_, hf, fun d' ed v B2 H2 g2 r2 => ?_, fun z => by cases z⟩
  · rw [List.append_nil]; exact r
  · cases ed; exact q v d B2 H2 (g.trans (g2.ofStill g.at_)) r2 rfl
/-- f-strings -/
theorem d_fmt {x : Str} (h : EvD m K te σ B (.str x)) (hl : x.length ≤ 100000) : EvD m K (tFmt te) σ B (.str x) := fun B0 H e a Q q => h B0 H e a _ fun v d1 B1 H1 g r hd => by
  subst hd
  obtain rfl := r.strI
  exact .inl ⟨x, rfl, sz_of hl, q _ _ B1 H1 g (.str x) rfl⟩
theorem d_fmtI {i : Int} (h : EvD m K te σ B (.int i)) (hl : i.natAbs.log2 < 1920) : EvD m K (tFmt te) σ B (.str (Str.ofString (toString i))) := fun B0 H e a Q q => h B0 H e a _ fun v d1 B1 H1 g r hd => by
  subst hd
  obtain rfl := r.intI
  exact .inr ⟨i, rfl, hl, q _ _ B1 H1 g (.str _) rfl⟩
def EvJ (m : Md) (ts : List TE) (σ : L2.St) (B : Hp) (acc z : Str) : Prop := ∀ B0 H, Ex B B0 → At m B0 H → ∀ Q : Str → Hp → Prop, (∀ B1 H1, Gr m B0 H B1 H1 → Q z H1) → tJs ts acc σ H Q
theorem j_nil {acc : Str} : EvJ m [] σ B acc acc := fun B0 H _ a _ q => q B0 H a.gr
theorem j_cons {ts : List TE} {acc y z : Str} (h : EvD m K te σ B (.str y)) (hl : (acc ++ y).length ≤ 100000) (hr : EvJ m ts σ B (acc ++ y) z) : EvJ m (te :: ts) σ B acc z := fun B0 H e a Q q => h B0 H e a _ fun v d1 B1 H1 g r hd => by
  subst hd
  exact ⟨y, r.strI, sz_of hl, hr B1 H1 (e.trans g.grow) g.at_ Q fun B2 H2 g2 => q B2 H2 (g.trans g2)⟩
theorem d_joined {ts : List TE} {z : Str} (h : EvJ m ts σ B Str.empty z) : EvD m K (fun σ H Q => tJs ts Str.empty σ H fun out H1 => Q (.str out) H1) σ B (.str z) := fun B0 H e a Q q => h B0 H e a _ fun B1 H1 g => q _ _ B1 H1 g (.str z) rfl
/-! ### statements: (B, H) the base and the heap ahead; behind: a growth of both -/
variable {DD : Ends} {tu tw tz : TS} {g : TG} {H : Hp}
theorem xr_asg {i : Nat} (a : At m B H) (h : EvR m K te σ B R) (k : ∀ v d B1 H1, Gr m B H B1 H1 → Rep K B1 v d → R d → DD.nx (σ.set i (some v)) H1) : tAsg te (gName i) DD σ H := h B H (Ex.refl B) a _ fun v d B1 H1 g r e => k v d B1 H1 g r e
theorem yr_asg {i : Nat} (a : At m B H) (h : EvR m K te σ B R) (k : ∀ v d B1 H1, Gr m B H B1 H1 → Rep K B1 v d → R d → tz DD (σ.set i (some v)) H1) : tSeq (tAsg te (gName i)) tz DD σ H := xr_asg (DD := { DD with nx := tz DD }) a h k
theorem x_asg {i : Nat} (a : At m B H) (h : EvD m K te σ B d) (k : ∀ v B1 H1, Gr m B H B1 H1 → Rep K B1 v d → DD.nx (σ.set i (some v)) H1) : tAsg te (gName i) DD σ H := xr_asg a h fun v d1 B1 H1 g r e => k v B1 H1 g (e ▸ r)
theorem y_asg {i : Nat} (a : At m B H) (h : EvD m K te σ B d) (k : ∀ v B1 H1, Gr m B H B1 H1 → Rep K B1 v d → tz DD (σ.set i (some v)) H1) : tSeq (tAsg te (gName i)) tz DD σ H := x_asg (DD := { DD with nx := tz DD }) a h k
theorem x_ret (a : At m B H) (h : EvD m K te σ B d) (k : ∀ v B1 H1, Gr m B H B1 H1 → Rep K B1 v d → DD.rt v H1) : tRet te DD σ H := h B H (Ex.refl B) a _ fun v d1 B1 H1 g r e => k v B1 H1 g (e ▸ r)
theorem xr_ret (a : At m B H) (h : EvR m K te σ B R) (k : ∀ v d B1 H1, Gr m B H B1 H1 → Rep K B1 v d → R d → DD.rt v H1) : tRet te DD σ H := h B H (Ex.refl B) a _ fun v d1 B1 H1 g r e => k v d1 B1 H1 g r e
theorem x_if {b : Bool} (a : At m B H) (h : EvTt m t σ B b) (h1 : b = true → ∀ B1 H1, Gr m B H B1 H1 → tu DD σ H1) (h2 : b = false → ∀ B1 H1, Gr m B H B1 H1 → tw DD σ H1) : tIfS t tu tw DD σ H := h B H (Ex.refl B) a _ fun B1 H1 g => by
  cases b with
  | true => exact h1 rfl B1 H1 g
  | false => exact h2 rfl B1 H1 g
theorem y_if {b : Bool} (a : At m B H) (h : EvTt m t σ B b) (h1 : b = true → ∀ B1 H1, Gr m B H B1 H1 → tu { DD with nx := tz DD } σ H1) (h2 : b = false → ∀ B1 H1, Gr m B H B1 H1 → tw { DD with nx := tz DD } σ H1) : tSeq (tIfS t tu tw) tz DD σ H := x_if (DD := { DD with nx := tz DD }) a h h1 h2
theorem x_when {b : Bool} (a : At m B H) (h : EvTt m t σ B b) (h1 : b = true → ∀ B1 H1, Gr m B H B1 H1 → tu DD σ H1) (h2 : b = false → ∀ B1 H1, Gr m B H B1 H1 → DD.nx σ H1) : tIfS t tu tNext DD σ H := x_if a h h1 h2
theorem y_when {b : Bool} (a : At m B H) (h : EvTt m t σ B b) (h1 : b = true → ∀ B1 H1, Gr m B H B1 H1 → tu { DD with nx := tz DD } σ H1) (h2 : b = false → ∀ B1 H1, Gr m B H B1 H1 → tz DD σ H1) : tSeq (tIfS t tu tNext) tz DD σ H := x_if (DD := { DD with nx := tz DD }) a h h1 h2
theorem xr_if (a : At m B H) (h : EvTR m t σ B) (h1 : ∀ B1 H1, Gr m B H B1 H1 → tu DD σ H1) (h2 : ∀ B1 H1, Gr m B H B1 H1 → tw DD σ H1) : tIfS t tu tw DD σ H := h B H (Ex.refl B) a _ fun b B1 H1 g => by
  cases b with
  | true => exact h1 B1 H1 g
  | false => exact h2 B1 H1 g
/-- a call that may raise, as a statement -/
theorem x_callX {C : Addr} {F : List D → Option (Option D)} {E : XK} {r : Option D} (a : At m B H) (h : EvAD m K aa σ B ds) (hf : F ds = some r) (ok : ∀ d, r = some d → ∀ B1 H1, Gr m B H B1 H1 → DD.nx σ H1) (er : r = none → ∀ B1 H1, Gr m B H B1 H1 → E (.ref C) none H1) :
    tDrop (tCall (spX K C F) [] E aa) DD σ H := h B H (Ex.refl B) a _ fun vs ds' B1 H1 g rs hd => by
  subst hd
  refine ⟨B1, ds', r, g.sub, ?_, hf, fun d ed v B2 H2 g2 _ => ok d ed B2 H2 (g.trans (g2.ofStill g.at_)), fun z B2 H2 g2 => er z B2 H2 (g.trans (g2.ofStill g.at_))⟩
  rw [List.append_nil]; exact rs
theorem y_callX {C : Addr} {F : List D → Option (Option D)} {E : XK} {r : Option D} (a : At m B H) (h : EvAD m K aa σ B ds) (hf : F ds = some r) (ok : ∀ d, r = some d → ∀ B1 H1, Gr m B H B1 H1 → tz DD σ H1) (er : r = none → ∀ B1 H1, Gr m B H B1 H1 → E (.ref C) none H1) :
    tSeq (tDrop (tCall (spX K C F) [] E aa)) tz DD σ H := x_callX (DD := { DD with nx := tz DD }) a h hf ok er
end
end Fq
set_option Elab.async false
set_option linter.all false
set_option maxRecDepth 100000
namespace Fq
open PySem L2 Evl PyProof.Rows
section
variable {K : PySem.W.Frag} {H : Hp}
theorem RepA.i0 {vs : List V} (h : RepA K H vs []) : vs = [] := by cases h; rfl
theorem RepA.i1 {vs : List V} {a : D} (h : RepA K H vs [a]) : ∃ x, vs = [x] ∧ Rep K H x a := by
  cases h with
  | cons r1 h => cases h; exact ⟨_, rfl, r1⟩
theorem RepA.i2 {vs : List V} {a b : D} (h : RepA K H vs [a, b]) : ∃ x y, vs = [x, y] ∧ Rep K H x a ∧ Rep K H y b := by
  cases h with
  | cons r1 h => obtain ⟨y, rfl, r2⟩ := h.i1; exact ⟨_, y, rfl, r1, r2⟩
theorem RepA.i3 {vs : List V} {a b c : D} (h : RepA K H vs [a, b, c]) : ∃ x y z, vs = [x, y, z] ∧ Rep K H x a ∧ Rep K H y b ∧ Rep K H z c := by
  cases h with
  | cons r1 h => obtain ⟨y, z, rfl, r2, r3⟩ := h.i2; exact ⟨_, y, z, rfl, r1, r2, r3⟩
theorem RepA.i4 {vs : List V} {a b c d : D} (h : RepA K H vs [a, b, c, d]) : ∃ x y z u, vs = [x, y, z, u] ∧ Rep K H x a ∧ Rep K H y b ∧ Rep K H z c ∧ Rep K H u d := by
  cases h with
  | cons r1 h => obtain ⟨y, z, u, rfl, r2, r3, r4⟩ := h.i3; exact ⟨_, y, z, u, rfl, r1, r2, r3, r4⟩
end
section
variable {P : Program} {w : World} {K : PySem.W.Frag} {mg : Str → Option Value} {base : Heap} {x qual : Str} {st : Stmt} {f C : Addr} {fd : FuncData} {N ps : List Str} {k : Nat}
theorem ok_X {G : List D → Option (Option D)} (F : Fun K x qual st f fd) (S : FnScope N ps (defScope st)) (hl : ∀ ds r, G ds = some r → ds.length = ps.length)
    (hb : ∀ (cdv : Value) (A : Around) (outer : List Env) (s : Shared) (B H : Hp) (vs : List V) (Q : VK) (E : XK), Room k (A.deeper (envOfC qual (defScope st) s.heap.objs.size f cdv)) → ∀ ds r, At still B H → RepA K B vs ds → G ds = some r →
      (∀ d, r = some d → ∀ v B1 H1, Gr still B H B1 H1 → Rep K B1 v d → Q v H1) → (r = none → ∀ B1 H1, Gr still B H B1 H1 → E (.ref C) none H1) →
      ∃ t, PSs (cxOf (CX P w) P w K mg base N qual (defScope st) f cdv A outer s H E) (defBody st) t ∧ t { nx := fun _ H' => Q .non H', rt := Q } (start N vs) H) : FnOk P w K mg base (CX P w) (k + 1) f fd ps (spX K C G) :=
  F.okX S (fun vs H Q E ⟨B, ds, r, _, hR, hF, _⟩ => by rw [hR.len]; exact hl ds r hF) fun cdv A outer s H vs Q E hr ⟨B, ds, r, e, hR, hF, ok, er⟩ => hb cdv A outer s B H vs Q E hr ds r ⟨e, fun _ z => z.elim, trivial⟩ hR hF ok er
theorem ok_F {G : List D → Option D} (F : Fun K x qual st f fd) (S : FnScope N ps (defScope st)) (hl : ∀ ds r, G ds = some r → ds.length = ps.length)
    (hb : ∀ (cdv : Value) (A : Around) (outer : List Env) (s : Shared) (B H : Hp) (vs : List V) (Q : VK) (E : XK), Room k (A.deeper (envOfC qual (defScope st) s.heap.objs.size f cdv)) → ∀ ds r, At still B H → RepA K B vs ds → G ds = some r →
      (∀ v B1 H1, Gr still B H B1 H1 → Rep K B1 v r → Q v H1) →
      ∃ t, PSs (cxOf CX0 P w K mg base N qual (defScope st) f cdv A outer s H E).nox (defBody st) t ∧ t { nx := fun _ H' => Q .non H', rt := Q } (start N vs) H) : FnOk P w K mg base CX0 (k + 1) f fd ps (spF K G) :=
  F.ok S (fun vs H Q E ⟨B, ds, r, _, hR, hF, _⟩ => by rw [hR.len]; exact hl ds r hF) fun cdv A outer s H vs Q E hr ⟨B, ds, r, e, hR, hF, ok⟩ => hb cdv A outer s B H vs Q E hr ds r ⟨e, fun _ z => z.elim, trivial⟩ hR hF ok
end
/-- a def that callers call by its name and its promise -/
def Cal (P : Program) (w : World) (K : PySem.W.Frag) (mg : Str → Option Value) (base : Heap) (CX : CXT) (k : Nat) (x : Str) (ps : List Str) (sp : Sp) : Prop :=
  ∃ f fd, FnOk P w K mg base CX k f fd ps sp ∧ mg x = some (.ref f) ∧ PySem.W.keepIn K (.ref f) = true ∧ Binds K fd ps []
section
variable {X : Cx} {CX : CXT} {k : Nat} {ps : List Str} {sp : Sp} {E : XK} {x : Str} {p pos : Pos} {e : Expr} {es : List Expr} {t : TA}
theorem pe_cal (C : Cal X.prog X.w X.K X.mg X.base CX k x ps sp) (hr : Room k X.A) (hg : Gl X x) (hx : Passes CX X E) (ha : PA X (e :: es) t) (hdb : (x == ("__debug__" : Str)) = false := by decide)
    (h1 : starEach (e :: es) X.env = (false, eval e X.env) :: starEach es X.env := by rfl) (h2 : ((backTo pos (starEach es X.env)).any fun x => x.fst) = false := by rfl) : PE X (.Call (.Name x p) (e :: es) [] pos) (tCall sp [] E t) := by
  obtain ⟨f, fd, F, hm, hk, hb⟩ := C
  exact pe_call F hr hg hm hk hb .nil hx ha hdb h1 h2
theorem pe_gl {v : V} (hg : Gl X x) (h : ∃ u, X.mg x = some u ∧ RelV v u) (hdb : (x == ("__debug__" : Str)) = false := by decide) : PE X (.Name x pos) (tC v) := by
  obtain ⟨u, h1, h2⟩ := h
  exact pe_glob hg h1 h2 hdb
end
/-! ### lists of one's own -/
section
variable {m : Md} {K : PySem.W.Frag} {σ : L2.St} {B B' Bs Hs H : Hp} {ta tb tc te tl : TE} {t u tt : TT} {d d' : D} {v : V} {aa ab : TA} {ds es : List D} {R R' Ra Rb : D → Prop} {RA RB : List D → Prop} {DD : Ends} {tu tw tz : TS} {g : TG}
theorem y_nil {i : Nat} (k : ∀ p, H p = none → tz DD (σ.set i (some (.ref p))) (upd H p (.lst []))) : tSeq (tAsg (tLst tNil) (gName i)) tz DD σ H := ⟨by show 0 ≤ sizeLine; decide, fun p hp => k p hp⟩
theorem x_app {j : Nat} {p : Addr} {acc : List V} (a : At m B H) (hm : ¬ m.M p) (hp : H p = some (.lst acc)) (hj : σ[j]? = some (some (.ref p))) (h : EvR m K te σ B R) (hz : acc.length < 100000)
    (k : ∀ v d B1 H1, Gr m B H B1 H1 → Rep K B1 v d → R d → DD.nx σ (upd H1 p (.lst (acc ++ [v])))) : tDrop (tBM K "list" rAppend (tVar j) (tCons te tNil)) DD σ H :=
  ⟨.ref p, hj, .inl ⟨rfl, acc, sq_of hp⟩, h B H (Ex.refl B) a _ fun v d B1 H1 g r hd => ⟨p, acc, v, rfl, rfl, g.keep p _ hm hp, sz_lt hz, k v d B1 H1 g r hd⟩⟩
theorem y_app {j : Nat} {p : Addr} {acc : List V} (a : At m B H) (hm : ¬ m.M p) (hp : H p = some (.lst acc)) (hj : σ[j]? = some (some (.ref p))) (h : EvR m K te σ B R) (hz : acc.length < 100000)
    (k : ∀ v d B1 H1, Gr m B H B1 H1 → Rep K B1 v d → R d → tz DD σ (upd H1 p (.lst (acc ++ [v])))) : tSeq (tDrop (tBM K "list" rAppend (tVar j) (tCons te tNil))) tz DD σ H := x_app (DD := { DD with nx := tz DD }) a hm hp hj h hz k
/-- what holds behind a turn: P of the slots, the base, the heap; both have grown -/
def Nx (m : Md) (Bs Hs Bl : Hp) (P : L2.St → Hp → Hp → Prop) : L2.St → Hp → Prop := fun σ H => ∃ B, Gr m Bs Hs B H ∧ Ex Bl B ∧ P σ B H
/-- for x in a tuple, a list: a word of the turn, the slots, the base and the heap -/
theorem x_forT (g0 : Gr m Bs Hs B H) (hl : EvD m K tl σ B (.tup ds)) (Pv : Nat → L2.St → Hp → Hp → Prop) (h0 : ∀ B1 H1, Gr m B H B1 H1 → Pv 0 σ B1 H1)
    (hs : ∀ i d v σ' Bl B1 H1, ds[i]? = some d → Ex B Bl → Gr m Bs Hs B1 H1 → Ex Bl B1 → Rep K B1 v d → Pv i σ' B1 H1 →
      g v σ' H1 fun σ2 H2 => tu { DD with nx := Nx m Bs Hs Bl (Pv (i + 1)), ct := Nx m Bs Hs Bl (Pv (i + 1)), bk := DD.nx } σ2 H2)
    (hd : ∀ σ' B1 H1, Gr m Bs Hs B1 H1 → Ex B B1 → Pv ds.length σ' B1 H1 → DD.nx σ' H1) : tFor (iTup K tl) g tu DD σ H := hl B H (Ex.refl B) g0.at_ _ fun x dd B1 H1 g1 r hdd => by
  subst hdd
  obtain ⟨p, xs, rfl, s, rs⟩ := r.tupI
  refine ⟨p, rfl, ⟨xs, ex_t g1.sub s⟩, for_tup (xs := xs) (fun i => Nx m Bs Hs B1 (Pv i)) ⟨B1, g0.trans g1, Ex.refl B1, h0 B1 H1 g1⟩ (fun i σ' H' _ ⟨B3, q1, q2, _⟩ => ex_t (q2.trans q1.sub) s) ?_ ?_⟩
  · rintro i v σ' H' hi ⟨B3, q1, q2, q3⟩
    obtain ⟨d, hd', rv⟩ := rs.getV hi
    exact hs i d v σ' B1 B3 H' hd' g1.grow q1 q2 (rv.up q2) q3
  · rintro σ' H' ⟨B3, q1, q2, q3⟩
    rw [rs.len] at q3
    exact hd σ' B3 H' q1 (g1.grow.trans q2) q3
theorem x_forL (g0 : Gr m Bs Hs B H) (hl : EvD m K tl σ B (.lst ds)) (Pv : Nat → L2.St → Hp → Hp → Prop) (h0 : ∀ B1 H1, Gr m B H B1 H1 → Pv 0 σ B1 H1)
    (hs : ∀ i d v σ' Bl B1 H1, ds[i]? = some d → Ex B Bl → Gr m Bs Hs B1 H1 → Ex Bl B1 → Rep K B1 v d → Pv i σ' B1 H1 →
      g v σ' H1 fun σ2 H2 => tu { DD with nx := Nx m Bs Hs Bl (Pv (i + 1)), ct := Nx m Bs Hs Bl (Pv (i + 1)), bk := DD.nx } σ2 H2)
    (hd : ∀ σ' B1 H1, Gr m Bs Hs B1 H1 → Ex B B1 → Pv ds.length σ' B1 H1 → DD.nx σ' H1) : tFor (iList K tl) g tu DD σ H := hl B H (Ex.refl B) g0.at_ _ fun x dd B1 H1 g1 r hdd => by
  subst hdd
  obtain ⟨p, xs, rfl, s, rs⟩ := r.lstI
  refine ⟨p, rfl, ⟨xs, ex_l g1.sub s⟩, for_list (xs := xs) (fun i => Nx m Bs Hs B1 (Pv i)) ⟨B1, g0.trans g1, Ex.refl B1, h0 B1 H1 g1⟩ (fun i σ' H' _ ⟨B3, q1, q2, _⟩ => ex_l (q2.trans q1.sub) s) ?_ ?_⟩
  · rintro i v σ' H' hi ⟨B3, q1, q2, q3⟩
    obtain ⟨d, hd', rv⟩ := rs.getV hi
    exact hs i d v σ' B1 B3 H' hd' g1.grow q1 q2 (rv.up q2) q3
  · rintro σ' H' ⟨B3, q1, q2, q3⟩
    rw [rs.len] at q3
    exact hd σ' B3 H' q1 (g1.grow.trans q2) q3
theorem x_forR {Pn : Int → Prop} (g0 : Gr m Bs Hs B H) (h : EvR m K te σ B (fun d => ∃ i, d = .int i ∧ Pn i ∧ 0 ≤ i ∧ i ≤ 100000)) (Pv : Nat → L2.St → Hp → Hp → Prop) (j : Nat) (h0 : ∀ B1 H1, Gr m B H B1 H1 → Pv 0 σ B1 H1)
    (hs : ∀ (n i : Nat) σ' Bl B1 H1, i < n → n ≤ 100000 → Ex B Bl → Gr m Bs Hs B1 H1 → Ex Bl B1 → Pv i σ' B1 H1 →
      tu { DD with nx := Nx m Bs Hs Bl (Pv (i + 1)), ct := Nx m Bs Hs Bl (Pv (i + 1)), bk := DD.nx } (σ'.set j (some (.int (i : Int)))) H1)
    (hd : ∀ (n : Nat) σ' B1 H1, Pn (n : Int) → Gr m Bs Hs B1 H1 → Ex B B1 → Pv n σ' B1 H1 → DD.nx σ' H1) : tFor (iRng1 (tCons te tNil)) (gName j) tu DD σ H := h B H (Ex.refl B) g0.at_ _ fun x dd B1 H1 g1 r ⟨n, e, hp, hn0, hn1⟩ => by
  subst e
  obtain rfl := r.intI
  refine ⟨n, rfl, by omega, by omega, for_range (lo := 0) (n := n.toNat) (fun i => Nx m Bs Hs B1 (Pv i)) ⟨B1, g0.trans g1, Ex.refl B1, h0 B1 H1 g1⟩ ?_ ?_⟩
  · rintro i σ' H' hi ⟨B3, q1, q2, q3⟩
    have e0 : (0 : Int) + (i : Int)
        = (i : Int) := Int.zero_add _
    show tu _ (σ'.set j (some (.int ((0 : Int) + (i : Int))))) H'
    rw [e0]
    exact hs n.toNat i σ' B1 B3 H' hi (by omega) g1.grow q1 q2 q3
  · rintro σ' H' ⟨B3, q1, q2, q3⟩
    have en : ((n.toNat : Nat) : Int) = n := by omega
    exact hd n.toNat σ' B3 H' (by rw [en]; exact hp) q1 (g1.grow.trans q2) q3
/-- a range of a known number of turns -/
theorem x_forRn {n : Int} (g0 : Gr m Bs Hs B H) (h : EvD m K te σ B (.int n)) (hn : 0 ≤ n ∧ n ≤ 100000) (Pv : Nat → L2.St → Hp → Hp → Prop) (j : Nat) (h0 : ∀ B1 H1, Gr m B H B1 H1 → Pv 0 σ B1 H1)
    (hs : ∀ (i : Nat) σ' Bl B1 H1, (i : Int) < n → Ex B Bl → Gr m Bs Hs B1 H1 → Ex Bl B1 → Pv i σ' B1 H1 →
      tu { DD with nx := Nx m Bs Hs Bl (Pv (i + 1)), ct := Nx m Bs Hs Bl (Pv (i + 1)), bk := DD.nx } (σ'.set j (some (.int (i : Int)))) H1)
    (hd : ∀ σ' B1 H1, Gr m Bs Hs B1 H1 → Ex B B1 → Pv n.toNat σ' B1 H1 → DD.nx σ' H1) : tFor (iRng1 (tCons te tNil)) (gName j) tu DD σ H := h B H (Ex.refl B) g0.at_ _ fun x dd B1 H1 g1 r e => by
  subst e
  obtain rfl := r.intI
  refine ⟨n, rfl, by omega, by omega, for_range (lo := 0) (n := n.toNat) (fun i => Nx m Bs Hs B1 (Pv i)) ⟨B1, g0.trans g1, Ex.refl B1, h0 B1 H1 g1⟩ ?_ ?_⟩
  · rintro i σ' H' hi ⟨B3, q1, q2, q3⟩
    have e0 : (0 : Int) + (i : Int)
        = (i : Int) := Int.zero_add _
    show tu _ (σ'.set j (some (.int ((0 : Int) + (i : Int))))) H'
    rw [e0]
    exact hs i σ' B1 B3 H' (by omega) g1.grow q1 q2 q3
  · rintro σ' H' ⟨B3, q1, q2, q3⟩
    exact hd σ' B3 H' q1 (g1.grow.trans q2) q3
/-! ### comprehensions -/
def LcW (m : Md) (K : PySem.W.Frag) (B1 H1 : Hp) (Dl : Addr) (out : List D) (H : Hp) : Prop := ∃ B acc, Gr m B1 H1 B H ∧ B Dl = none ∧ H Dl = some (.lst acc) ∧ RepA K B acc out
theorem lc_turn {B1 H1 : Hp} {Dl : Addr} {out : List D} {σ2 : L2.St} {b : Bool} {e : D} {H' : Hp} (hm : ¬ m.M Dl) (hn : H1 Dl = none) (hz : out.length < 50000) {B3 : Hp} {acc : List V} (g3 : Gr m B1 H1 B3 H') (hb : B3 Dl = none) (hh : H' Dl = some (.lst acc)) (ra : RepA K B3 acc out)
    (ht : EvTt m tt σ2 B3 b) (he : b = true → EvD m K te σ2 B3 e) :
    tt σ2 H' fun b' H3 => if b' = true then te σ2 H3 fun y H4 => ∃ acc, H4 Dl = some (.lst acc) ∧ acc.length < sizeLine ∧ LcW m K B1 H1 Dl (if b then out ++ [e] else out) (upd H4 Dl (.lst (acc ++ [y]))) else LcW m K B1 H1 Dl (if b then out ++ [e] else out) H3 := by
  refine ht B3 H' (Ex.refl _) g3.at_ _ fun B4 H4 g4 => ?_
  have h4 := g4.keep Dl _ hm hh
  have b4 := g4.off hb hh
  cases b with
  | true =>
    rw [if_pos rfl]
    refine he rfl B4 H4 g4.grow g4.at_ _ fun v d B5 H5 g5 r5 e5 => ?_
    subst e5
    have h5 := g5.keep Dl _ hm h4
    have b5 := g5.off b4 h4
    refine ⟨acc, h5, sz_lt (by rw [ra.len]; omega), B5, acc ++ [v], ((g3.trans g4).trans g5).upd hm hn b5 _, b5, upd_same, ?_⟩
    rw [if_pos rfl]
    exact ((ra.up g4.grow).up g5.grow).app (.one r5)
  | false =>
    rw [if_neg (by decide), if_neg (by decide)]
    exact ⟨B4, acc, g3.trans g4, b4, h4, ra.up g4.grow⟩
theorem d_lcT {vs : List Nat} (f : D → Bool) (gd : D → D) (hl : EvD m K tl σ B (.tup ds)) (hz : ds.length ≤ 40000)
    (hs : ∀ d ∈ ds, ∀ v B1, Ex B B1 → Rep K B1 v d → ∃ σ2, wipe σ2 vs = wipe σ vs ∧ (∀ H (Q : L2.St → Hp → Prop), Ex B1 H → Q σ2 H → g v (wipe σ vs) H Q) ∧ EvTt m tt σ2 B1 (f d) ∧ (f d = true → EvD m K te σ2 B1 (gd d))) :
    EvD m K (tLc (iTup K tl) g tt te vs) σ B (.lst ((ds.filter f).map gd)) := fun B0 H0 e0 a0 Q q => hl B0 H0 e0 a0 _ fun x dd B1 H1 g1 r hdd => by
  subst hdd
  obtain ⟨p, xs, rfl, s, rs⟩ := r.tupI
  refine ⟨p, rfl, ⟨xs, ex_t g1.sub s⟩, fun Dl hD => ?_⟩
  have hm : ¬ m.M Dl := Gr.notM g1.at_ hD
  have nB : B1 Dl = none := by
    cases c : B1 Dl with
    | none => rfl
    | some o => rw [g1.sub Dl o c] at hD; cases hD
  refine lc_tup (xs := xs) (fun i => LcW m K B1 H1 Dl (((ds.take i).filter f).map gd)) ⟨B1, [], Gr.ex g1.at_ (Ex.new hD), nB, upd_same, .nil⟩ (fun i H' _ ⟨B3, acc, g3, _⟩ => ex_t (g3.grow.trans g3.sub) s) ?_ ?_
  · rintro i v H' hi ⟨B3, acc, g3, b3, h3, ra⟩
    obtain ⟨d, hd, rv⟩ := rs.getV hi
    obtain ⟨σ2, w2, hg, ht, he⟩ := hs d (List.mem_of_getElem? hd) v B3 ((e0.trans g1.grow).trans g3.grow) (rv.up g3.grow)
    refine hg H' _ g3.sub ⟨w2, ?_⟩
    have hlen : (((ds.take i).filter f).map gd).length ≤ i := by
      rw [List.length_map]
      exact Nat.le_trans (List.length_filter_le _ _) (by rw [List.length_take]; omega)
    have hi' := (List.getElem?_eq_some_iff.mp hd).1
    have z := lc_turn (out := ((ds.take i).filter f).map gd) (te := te) (b := f d) (e := gd d) hm hD (by omega) g3 b3 h3 ra ht he
    have eo : (((ds.take (i + 1)).filter f).map gd) = if f d = true then ((ds.take i).filter f).map gd ++ [gd d] else ((ds.take i).filter f).map gd := by
      rw [List.take_add_one, hd]
      simp only [Option.toList, List.filter_append, List.map_append]
      cases hf : f d <;> simp [hf]
    rw [eo]
    exact z
  · rintro H' ⟨B3, acc, g3, b3, h3, ra⟩
    rw [rs.len, List.take_length] at ra
    have g4 := (g1.trans g3).freeze hm (by
      cases c : H0 Dl with
      | none => rfl
      | some o =>
        obtain ⟨o', c'⟩ := g1.there Dl o c
        rw [hD] at c'; cases c') b3 h3
    exact q (.ref Dl) _ _ H' g4 (.nd (t := .lst) (SqL.of upd_same) (ra.up (fun a u e => by rw [upd_ne (ne_of_none e b3)]; exact e))) rfl
end
end Fq
set_option Elab.async false
set_option linter.all false
set_option maxRecDepth 100000
namespace Fq
open PySem L2 Evl PyProof.Rows
section
variable {m : Md} {K : PySem.W.Frag} {σ : L2.St} {B B' Bs Hs H : Hp} {ta tb tc te tl : TE} {t u tt : TT} {d d' : D} {v : V} {aa ab : TA} {ds es : List D} {R R' Ra Rb : D → Prop} {RA RB : List D → Prop} {DD : Ends} {tu tw tz : TS} {g : TG}
/-- a comprehension over anything whose items are data that stay -/
theorem lc_gen {J : It} {vs : List Nat} {B0 H0 B1 H1 : Hp} {Q : VK} (f : D → Bool) (gd : D → D) (g1 : Gr m B0 H0 B1 H1) (hz : ds.length ≤ 40000)
    (w : Walk J ds.length (fun H => Ex B1 H) (fun i H x H' => H' = H ∧ ∃ d, ds[i]? = some d ∧ Rep K B1 x d))
    (hs : ∀ d ∈ ds, ∀ v B2, Ex B1 B2 → Rep K B2 v d → ∃ σ2, wipe σ2 vs = wipe σ vs ∧ (∀ H (Q : L2.St → Hp → Prop), Ex B2 H → Q σ2 H → g v (wipe σ vs) H Q) ∧ EvTt m tt σ2 B2 (f d) ∧ (f d = true → EvD m K te σ2 B2 (gd d)))
    (q : ∀ v B2 H2, Gr m B0 H0 B2 H2 → Rep K B2 v (.lst ((ds.filter f).map gd)) → Q v H2) : ∀ Dl, H1 Dl = none → ∃ W : Nat → Nat → Hp → Prop, (∃ k, W 0 k (upd H1 Dl (.lst []))) ∧ ∀ i k H, W i k H →
      (J.stop i H ∧ Q (.ref Dl) H) ∨ (J.go i H ∧ ∃ Nx : Hp → Prop, (∀ H', Nx H' → ∃ k', k' < k ∧ W (i + 1) k' H') ∧ ∀ x H', J.yld i H x H' → g x (wipe σ vs) H' fun σ2 H2 => wipe σ2 vs = wipe σ vs ∧ tt σ2 H2 fun b H3 =>
        if b = true then te σ2 H3 fun y H4 => ∃ acc, H4 Dl = some (.lst acc) ∧ acc.length < sizeLine ∧ Nx (upd H4 Dl (.lst (acc ++ [y]))) else Nx H3) := fun Dl hD => by
  have hm : ¬ m.M Dl := Gr.notM g1.at_ hD
  have nB : B1 Dl = none := by
    cases c : B1 Dl with
    | none => rfl
    | some o => rw [g1.sub Dl o c] at hD; cases hD
  refine lc_it w (fun i => LcW m K B1 H1 Dl (((ds.take i).filter f).map gd)) ⟨B1, [], Gr.ex g1.at_ (Ex.new hD), nB, upd_same, .nil⟩ (fun i H' _ ⟨B3, acc, g3, _⟩ => g3.grow.trans g3.sub) ?_ ?_
  · rintro i v H' H'' hi ⟨B3, acc, g3, b3, h3, ra⟩ ⟨eH, d, hd, rv⟩
    subst eH
    obtain ⟨σ2, w2, hg, ht, he⟩ := hs d (List.mem_of_getElem? hd) v B3 g3.grow (rv.up g3.grow)
    refine hg H'' _ g3.sub ⟨w2, ?_⟩
    have hlen : (((ds.take i).filter f).map gd).length ≤ i := by
      rw [List.length_map]
      exact Nat.le_trans (List.length_filter_le _ _) (by rw [List.length_take]; omega)
    have z := lc_turn (out := ((ds.take i).filter f).map gd) (te := te) (b := f d) (e := gd d) hm hD (by omega) g3 b3 h3 ra ht he
    have eo : (((ds.take (i + 1)).filter f).map gd) = if f d = true then ((ds.take i).filter f).map gd ++ [gd d] else ((ds.take i).filter f).map gd := by
      rw [List.take_add_one, hd]
      simp only [Option.toList, List.filter_append, List.map_append]
      cases hf : f d <;> simp [hf]
    rw [eo]
    exact z
  · rintro H' ⟨B3, acc, g3, b3, h3, ra⟩
    rw [List.take_length] at ra
    have g4 := (g1.trans g3).freeze hm (g1.none_of hD) b3 h3
    exact q (.ref Dl) _ H' g4 (.nd (t := .lst) (SqL.of upd_same) (ra.up (fun a u e => by rw [upd_ne (ne_of_none e b3)]; exact e)))
theorem d_lcL {vs : List Nat} (f : D → Bool) (gd : D → D) (hl : EvD m K tl σ B (.lst ds)) (hz : ds.length ≤ 40000)
    (hs : ∀ d ∈ ds, ∀ v B1, Ex B B1 → Rep K B1 v d → ∃ σ2, wipe σ2 vs = wipe σ vs ∧ (∀ H (Q : L2.St → Hp → Prop), Ex B1 H → Q σ2 H → g v (wipe σ vs) H Q) ∧ EvTt m tt σ2 B1 (f d) ∧ (f d = true → EvD m K te σ2 B1 (gd d))) :
    EvD m K (tLc (iList K tl) g tt te vs) σ B (.lst ((ds.filter f).map gd)) := fun B0 H0 e0 a0 Q q => hl B0 H0 e0 a0 _ fun x dd B1 H1 g1 r hdd => by
  subst hdd
  obtain ⟨p, xs, rfl, s, rs⟩ := r.lstI
  refine ⟨p, rfl, ⟨xs, ex_l g1.sub s⟩, lc_gen f gd g1 hz ?_ (fun d hd v B2 e2 rv => hs d hd v B2 ((e0.trans g1.grow).trans e2) rv) fun v B2 H2 g2 r2 => q v _ B2 H2 g2 r2 rfl⟩
  rw [← rs.len]
  refine (walk_list (xs := xs)).mono (fun H e => ex_l e s) fun i H x H' hi e ⟨e1, e2⟩ => ⟨e1, rs.getV e2⟩
theorem d_lcS {vs : List Nat} {z : Str} (f : D → Bool) (gd : D → D) (hl : EvD m K tl σ B (.str z)) (hz : z.length ≤ 40000)
    (hs : ∀ c ∈ z.cps.toList, ∃ σ2, wipe σ2 vs = wipe σ vs ∧ (∀ H (Q : L2.St → Hp → Prop), Q σ2 H → g (.str ⟨#[c]⟩) (wipe σ vs) H Q) ∧ EvTt m tt σ2 B (f (.str ⟨#[c]⟩)) ∧ (f (.str ⟨#[c]⟩) = true → EvD m K te σ2 B (gd (.str ⟨#[c]⟩)))) :
    EvD m K (tLc (iStr tl) g tt te vs) σ B (.lst (((z.cps.toList.map fun c => D.str ⟨#[c]⟩).filter f).map gd)) := fun B0 H0 e0 a0 Q q => hl B0 H0 e0 a0 _ fun x dd B1 H1 g1 r hdd => by
  subst hdd
  obtain rfl := r.strI
  have hlen : (z.cps.toList.map fun c => D.str ⟨#[c]⟩).length = z.cps.size := by simp
  refine ⟨z, rfl, lc_gen f gd g1 (by rw [hlen]; exact hz) ?_ (fun d hd v B2 e2 rv => ?_) fun v B2 H2 g2 r2 => q v _ B2 H2 g2 r2 rfl⟩
  · rw [hlen]
    refine walk_str.mono (fun H e => trivial) fun i H x H' hi e ⟨e1, c, e2, e3⟩ => ⟨e1, .str ⟨#[c]⟩, ?_, ?_⟩
    · rw [List.getElem?_map]
      have : z.cps.toList[i]? = some c := by rw [← e2]; simp
      rw [this]; rfl
    · subst e3; exact .str _
  · obtain ⟨c, hc, rfl⟩ := List.mem_map.mp hd
    obtain rfl := rv.strI
    obtain ⟨σ2, h1, h2, h3, h4⟩ := hs c hc
    exact ⟨σ2, h1, fun H Q _ q => h2 H Q q, h3.mono ((e0.trans g1.grow).trans e2), fun hf => (h4 hf).mono ((e0.trans g1.grow).trans e2)⟩
theorem t_yes : EvTt m tYes σ B true := fun B0 H _ a Q q => q B0 H a.gr
/-! ### targets -/
theorem g_name {i : Nat} {Q : L2.St → Hp → Prop} (h : Q (σ.set i (some v)) H) : gName i v σ H Q := h
theorem g_2 {i j : Nat} {d1 d2 : D} {Q : L2.St → Hp → Prop} (e : Ex B H) (r : Rep K B v (.tup [d1, d2])) (k : ∀ x y, Rep K B x d1 → Rep K B y d2 → Q ((σ.set i (some x)).set j (some y)) H) : gTup K 2 (gCons (gName i) (gCons (gName j) gNil)) v σ H Q := by
  obtain ⟨a, xs, rfl, s, rs⟩ := r.tupI
  obtain ⟨x, y, rfl, r1, r2⟩ := rs.i2
  exact ⟨a, _, rfl, ex_t e s, rfl, x, [y], rfl, y, [], rfl, rfl, k x y r1 r2⟩
theorem g_4 {i j k l : Nat} {d1 d2 d3 d4 : D} {Q : L2.St → Hp → Prop} (e : Ex B H) (r : Rep K B v (.tup [d1, d2, d3, d4])) (q : ∀ x y z u, Rep K B x d1 → Rep K B y d2 → Rep K B z d3 → Rep K B u d4 → Q ((((σ.set i (some x)).set j (some y)).set k (some z)).set l (some u)) H) :
    gTup K 4 (gCons (gName i) (gCons (gName j) (gCons (gName k) (gCons (gName l) gNil)))) v σ H Q := by
  obtain ⟨a, xs, rfl, s, rs⟩ := r.tupI
  obtain ⟨x, y, z, u, rfl, r1, r2, r3, r4⟩ := rs.i4
  exact ⟨a, _, rfl, ex_t e s, rfl, x, _, rfl, y, _, rfl, z, _, rfl, u, [], rfl, rfl, q x y z u r1 r2 r3 r4⟩
theorem y_asg2 {i j : Nat} {d1 d2 : D} (a : At m B H) (h : EvD m K te σ B (.tup [d1, d2])) (k : ∀ x y B1 H1, Gr m B H B1 H1 → Rep K B1 x d1 → Rep K B1 y d2 → tz DD ((σ.set i (some x)).set j (some y)) H1) :
    tSeq (tAsg te (gTup K 2 (gCons (gName i) (gCons (gName j) gNil)))) tz DD σ H := h B H (Ex.refl B) a _ fun v dd B1 H1 g1 r e => g_2 g1.sub (e ▸ r) fun x y r1 r2 => k x y B1 H1 g1 r1 r2
theorem y_asg4 {i j k l : Nat} {d1 d2 d3 d4 : D} (a : At m B H) (h : EvD m K te σ B (.tup [d1, d2, d3, d4])) (q : ∀ x y z u B1 H1, Gr m B H B1 H1 → Rep K B1 x d1 → Rep K B1 y d2 → Rep K B1 z d3 → Rep K B1 u d4 → tz DD ((((σ.set i (some x)).set j (some y)).set k (some z)).set l (some u)) H1) :
    tSeq (tAsg te (gTup K 4 (gCons (gName i) (gCons (gName j) (gCons (gName k) (gCons (gName l) gNil)))))) tz DD σ H := h B H (Ex.refl B) a _ fun v dd B1 H1 g1 r e => g_4 g1.sub (e ▸ r) fun x y z u r1 r2 r3 r4 => q x y z u B1 H1 g1 r1 r2 r3 r4
end
end Fq
namespace Fq
theorem filter_yes {α : Type} (l : List α) : l.filter (fun _ => true) = l := by
  induction l with
  | nil => rfl
  | cons x xs ih => simp
end Fq
namespace Fq
open PySem L2 Evl
theorem str_len_app (a b : Str) : (a ++ b).length = a.length + b.length := by
  show (a.cps ++ b.cps).size = a.cps.size + b.cps.size
  simp
section
variable {m : Md} {K : PySem.W.Frag} {σ : L2.St} {B B' Bs Hs H : Hp} {ta tb tc te tl : TE} {d d' : D}
/-- pieces of an f-string that are all texts, n the length so far -/
def MsgOk (m : Md) (n : Nat) (ts : List TE) (σ : L2.St) (B : Hp) : Prop := ∀ acc : Str, acc.length ≤ n → ∃ z, EvJ m ts σ B acc z
theorem mo_nil {n : Nat} : MsgOk m n [] σ B := fun acc _ => ⟨acc, j_nil⟩
theorem mo_cons {n : Nat} (k : Nat) {ts : List TE} {y : Str} (h : EvD m K te σ B (.str y)) (hy : y.length ≤ k) (hn : n + k ≤ 100000) (hr : MsgOk m (n + k) ts σ B) : MsgOk m n (te :: ts) σ B := fun acc ha => by
  have e := str_len_app acc y
  obtain ⟨z, hz⟩ := hr (acc ++ y) (by omega)
  exact ⟨z, j_cons h (by omega) hz⟩
theorem d_msg {ts : List TE} (h : MsgOk m 0 ts σ B) : ∃ z, EvD m K (fun σ H Q => tJs ts Str.empty σ H fun out H1 => Q (.str out) H1) σ B (.str z) := by
  obtain ⟨z, hz⟩ := h Str.empty (Nat.le_refl 0)
  exact ⟨z, d_joined hz⟩
end
end Fq
set_option Elab.async false
set_option linter.all false
set_option maxRecDepth 100000
/-! set(texts), of any length that a scan serves -/
namespace Fq
open PySem PySem.Spec
    PyProof.Rows L2
/-- the keys that these texts are -/
def keysOf (ys : List Str) : Key → Bool
  | .inr x => decide (x ∈ ys)
  | .inl _ => false
theorem keys_snoc (ys : List Str) (x : Str) : (fun j => keysOf ys j || decide (j = (Sum.inr x : Key))) = keysOf (ys ++ [x]) := by
  funext j
  cases j with
  | inl i => simp [keysOf]
  | inr y => by_cases e : y = x <;> simp [keysOf, e]
theorem dups_snoc (ys : List Str) (x : Str) : (if keysOf ys (Sum.inr x) = true then ys.eraseDups.length else ys.eraseDups.length + 1) = (ys ++ [x]).eraseDups.length := by
  rw [List.eraseDups_append, List.length_append]
  by_cases e : x ∈ ys
  · have h : [x].removeAll ys = [] := by simp [List.removeAll, e]
    rw [h, if_pos (by simp [keysOf, e])]; simp
  · have h : [x].removeAll ys = [x] := by simp [List.removeAll, e]
    rw [h, if_neg (by simp [keysOf, e])]; rfl
theorem dups_le (ys : List Str) : ys.eraseDups.length ≤ ys.length := by
  generalize hn : ys.length = n
  induction n using Nat.strongRecOn generalizing ys with
  | ind n ih =>
    cases ys with
    | nil => simp
    | cons x r =>
      rw [List.eraseDups_cons, List.length_cons]
      have e := List.length_filter_le (fun b => !b == x) r
      rw [List.length_cons] at hn
      have i := ih (r.filter fun b => !b == x).length (by omega) _ rfl
      omega
section
variable {p : Program} {w : World} {A : Around} {R : Result → Shared → Prop} {I : Addr} {fp wr : List Addr} {G : Array GenState → Array GenState → Prop} {n : Nat} {Pv : Nat → Value → Prop} {St : Nat → Shared → Prop}
/-- what is left to be drawn goes into the set at S -/
theorem fill_set (W : WalksS p w A.in1 I fp wr G n Pv St) {S : Addr} (out : S ∉ fp) {xs : List Str} (hn : xs.length = n) (small : n + 1 < scanBound)
    (val : ∀ i v, Pv i v → ∃ t, v = .str (xs.getD i Str.empty) t) (left : Nat) : ∀ (i : Nat) (s : Shared), i + left = n → St i s → s.heap.SetOf (mixKind p w) S (keysOf (xs.take i)) (xs.take i).eraseDups.length →
      (∀ s', Moved (S :: wr) G s s' → s'.heap.SetOf (mixKind p w) S (keysOf xs) xs.eraseDups.length → R (.ok (.ret .none)) s') → codeAny (model p w) A (.builtin "set.update.loop" ⟨[.ref S, .ref I], []⟩) R s := by
  have away : S ∉ wr := fun q => out (W.sub S q)
  have more : ∀ b ∈ wr, b ∈ S :: wr := fun b q => .tail _ q
  induction left with
  | zero =>
    intro i s hi st hs fin
    obtain rfl : i = n := by omega
    refine codeAny_builtin F.entry_set_update_loop ?_; rw [Around.under_plainId F.plain_set_update_loop]
    refine wpAny_bind (W.done s _ _ st fun s' mv => wpAny_pure (fin s' (mv.mono more) ?_))
    obtain ⟨o, es, ep, t, ho, q⟩ := hs; rw [← hn, List.take_length] at q
    exact ⟨o, es, ep, t, mv.heap S o away ho, q⟩
  | succ left ih =>
    intro i s hi st hs fin
    refine codeAny_builtin F.entry_set_update_loop ?_; rw [Around.under_plainId F.plain_set_update_loop]
    refine wpAny_bind (W.item i s _ _ (by omega) st fun v s' pv st' mv => ?_)
    obtain ⟨t, rfl⟩ := val i v pv
    have hs' : s'.heap.SetOf (mixKind p w) S (keysOf (xs.take i)) (xs.take i).eraseDups.length := by
      obtain ⟨o, es, ep, u, ho, q⟩ := hs; exact ⟨o, es, ep, u, mv.heap S o away ho, q⟩
    have it : xs[i]? = some (xs.getD i Str.empty) := by
      have : i < xs.length := by omega
      simp [this]
    have len : (xs.take i).eraseDups.length ≤ i := Nat.le_trans (dups_le _) (by rw [List.length_take]; omega)
    refine wpAny_bind (m := holding [Value.str (xs.getD i Str.empty) t] (setAdd S (.str (xs.getD i Str.empty) t))) (wpAny_holding ?_)
    unfold setAdd
    refine wpAny_holding (wpAny_bind ((mixKind p w).pyHash (k := Sum.inr (xs.getD i Str.empty)) (mixKind_str p w _ t) ?_))
    refine wpAny_setAddHashed_of (knd := mixKind p w) (k := Sum.inr (xs.getD i Str.empty)) (s := { s' with toks := s'.toks + 1 }) (mixKind_str p w _ t) rfl hs' (by omega) fun h' same hs2 => ?_
    rw [keys_snoc, dups_snoc, show xs.take i ++ [xs.getD i Str.empty] = xs.take (i + 1) by rw [List.take_add_one, it]; rfl] at hs2
    refine wpAny_pure ⟨plainId_quiet F.plain_set_update_loop _, ih (i + 1) _ (by omega) (W.frame _ s' _ _ st' (Nat.le_succ _) fun b hb o e => ?_) hs2 fun s2 mv2 hs3 => fin s2 ?_ hs3⟩
    · rw [same.2 b fun z => out (z ▸ hb)]; exact e
    · refine Moved.trans W.gtrans ((mv.mono more).then_heap (Nat.le_succ _) fun b o hb e => ?_) mv2
      rw [same.2 b fun z => hb (z ▸ .head _)]; exact e
end
section
variable {prog : Program} {w : World}
    {A : Around}
    {E : Value → Shared → Prop} {s : Shared}
/-- an empty set -/
abbrev noSet (led : Bool) : Obj := { cls := .type "set", dict := none, data := .set #[] 0 (.fresh 0 0 led) }
set_option maxHeartbeats 3200001 in
theorem set_of_list {l : Addr} {its : Array Value} {xs : List Str} {Q : Value → Shared → Prop} (calm : A.handled = none) (hl : s.heap.IsList l its) (hi : StrsAre its.toList xs) (small : xs.length + 1 < scanBound)
    (fin : ∀ (h' : Heap) (tk : Nat), h'.SetOf (mixKind prog w) s.heap.objs.size (keysOf xs) xs.eraseDups.length → (∀ b o, b < s.heap.objs.size → s.heap.get? b = some o → h'.get? b = some o) → Q (.ref s.heap.objs.size) { s with heap := h', toks := tk }) :
    wpAny (model prog w) A (call (.type
        "set") [.ref l]) Q E s := by
  obtain ⟨c, tl, hmro⟩ := F.called_set.mro; have hmade := F.called_set.made; have hsub := F.called_set.sub
  refine wpAny_call (codeAny_of_tree (show wpAny _ _ (callAny (.type "set") _) _ _ _ from ?_))
  refine wpAny_pure ⟨Code.quiet_builtin _ (by decide +kernel), codeAny_builtin F.entry_type_call ?_⟩; rw [Around.under_plain (weight_type_call_type "set" [.ref l] []) rfl]
  have n1 := F.called_set.notType; have n2 := F.called_set.canCreate; have n3 := F.typeCall_set_1 (.ref l)
  repeat (any_goals (first
      | assumption | wp_step))
  refine codeAny_mono (code_set_new_1 (.ref l) (E := E) (Q₁ := fun v s1 => ∃ led : Bool, v = .ref s.heap.objs.size ∧ s1 = { s with heap := s.heap.push (noSet led) }) fun led => ⟨led, rfl, rfl⟩) fun r s1 hr => ?_
  match r, hr with
  | .error e, hr => exact hr
  | .ok .next, hr => exact hr.elim
  | .ok .brk, hr => exact hr.elim
  | .ok .cont, hr => exact hr.elim
  | .ok (.ret v), hr =>
    obtain ⟨led, rfl, rfl⟩ := hr
    have hS : (s.heap.push (noSet led)).get? s.heap.objs.size = some (noSet led) := Heap.get?_push_size _ rfl
    have hT : Shared.TypeIs { s with heap := s.heap.push (noSet led) } (.ref s.heap.objs.size) "set" := ⟨_, hS, rfl⟩
    have m1 := F.called_set.init.lookup; have m2 := F.called_set.init.bind (.ref s.heap.objs.size)
    repeat (any_goals (first
        | assumption | wp_step))
    refine codeAny_mono (codeAny_call_builtin (R := wants (fun r s2 => r = .none ∧ ∃ h' tk, s2 = { s with heap := h', toks := tk } ∧ h'.SetOf (mixKind prog w) s.heap.objs.size (keysOf xs) xs.eraseDups.length ∧ (∀ b o, b < s.heap.objs.size → s.heap.get? b = some o → h'.get? b = some o)) E)
      F.called_set.init.plain F.entry_set_init (check_set_init_1 hT ?_)) fun r2 s2 hr2 => ?_
    · obtain ⟨⟨ocls, odict, odata, oslots⟩, hol, hcl, nl, hdl⟩ := hl
      simp only at hcl hdl
      subst hcl; subst hdl
      have at_l : (s.heap.push (noSet led)).get? l = some { cls := .type "list", dict := odict, data := .seq its nl, slots := oslots } := Heap.get?_push_of_some _ hol
      have k1 := F.sub_list_set; have k2 := F.sub_list_frozenset; have k3 : (Value.type "list" == Value.type "dict") = false := by decide
      have now : (s.heap.push (noSet led)).IsList l its := ⟨_, at_l, rfl, nl, rfl⟩
      unfold Builtin.«set.__init__» noKeywords
          Builtin.Frozenset.updateFrom
      generalize hPI : pyIter = PI
      wp_walk
      subst hPI
      refine wpAny_pyIter_list now (wpAny_bind (wpAny_runValue ?_))
      have lt := Heap.lt_size hol
      have size : (s.heap.push (noSet led)).objs.size = s.heap.objs.size + 1 := Heap.size_push _ _
      have cnt : xs.length = its.size := by rw [← StrsAre.len_eq hi, Array.length_toList]
      refine fill_set ((Walks.list (by simp [calm]) _ l (by rw [size]; exact Nat.ne_of_lt (Nat.lt_succ_of_lt lt)) its).toS) (S := s.heap.objs.size) ?_ cnt (by omega) (fun i v hv => SS.strs_at hi i v (by rw [Array.getElem?_toList]; exact hv)) its.size 0 _ (Nat.zero_add _) ⟨⟨_, Heap.get?_push_size _ rfl, rfl, rfl⟩, now.push _⟩ ?_ ?_
      · rw [size]; simp only [List.mem_cons, List.not_mem_nil, or_false, not_or]; exact ⟨Nat.ne_of_lt (Nat.lt_succ_self _), Nat.ne_of_gt lt⟩
      · exact ⟨_, #[], 0, _, Heap.get?_push_of_some _ hS, ⟨rfl, rfl, rfl⟩, rfl, fun e q => absurd q (by simp), fun k => by cases k <;> simp [keysOf], by decide, rfl, rfl⟩
      · rintro ⟨h', g', d', tk, os'⟩ mv hset
        obtain rfl : g' = s.gens := mv.gens
        obtain rfl : d' = s.drawn := mv.drawn
        obtain rfl : os' = s.os := mv.os
        refine wpAny_pure (show wpAny _ _ (ret Value.none) _ _ _ from wpAny_pure ⟨rfl, h', tk, rfl, hset, fun b o hb e => mv.heap b o ?_ (Heap.get?_push_of_some _ (Heap.get?_push_of_some _ e))⟩)
        rw [size]; simp only [List.mem_cons, List.not_mem_nil, or_false, not_or]; exact ⟨Nat.ne_of_lt hb, Nat.ne_of_lt (Nat.lt_succ_of_lt hb)⟩
    · match r2, hr2 with
      | .error e, hr2 => exact hr2
      | .ok .next, hr2 => exact hr2.elim
      | .ok .brk, hr2 => exact hr2.elim
      | .ok .cont, hr2 => exact hr2.elim
      | .ok (.ret r), hr2 =>
        obtain ⟨rfl, h', tk, rfl, a1, a2⟩ := hr2
        repeat (any_goals (first
            | assumption | wp_step))
        exact fin _ _ a1 a2
set_option maxHeartbeats 3200001 in
theorem set_of_tuple {l : Addr} {its : Array Value} {xs : List Str} {Q : Value → Shared → Prop} (calm : A.handled = none) (hl : s.heap.IsTuple l its) (hi : StrsAre its.toList xs) (small : xs.length + 1 < scanBound)
    (fin : ∀ (h' : Heap) (tk : Nat), h'.SetOf (mixKind prog w) s.heap.objs.size (keysOf xs) xs.eraseDups.length → (∀ b o, b < s.heap.objs.size → s.heap.get? b = some o → h'.get? b = some o) → Q (.ref s.heap.objs.size) { s with heap := h', toks := tk }) :
    wpAny (model prog w) A (call (.type
        "set") [.ref l]) Q E s := by
  obtain ⟨c, tl, hmro⟩ := F.called_set.mro; have hmade := F.called_set.made; have hsub := F.called_set.sub
  refine wpAny_call (codeAny_of_tree (show wpAny _ _ (callAny (.type "set") _) _ _ _ from ?_))
  refine wpAny_pure ⟨Code.quiet_builtin _ (by decide +kernel), codeAny_builtin F.entry_type_call ?_⟩; rw [Around.under_plain (weight_type_call_type "set" [.ref l] []) rfl]
  have n1 := F.called_set.notType; have n2 := F.called_set.canCreate; have n3 := F.typeCall_set_1 (.ref l)
  repeat (any_goals (first
      | assumption | wp_step))
  refine codeAny_mono (code_set_new_1 (.ref l) (E := E) (Q₁ := fun v s1 => ∃ led : Bool, v = .ref s.heap.objs.size ∧ s1 = { s with heap := s.heap.push (noSet led) }) fun led => ⟨led, rfl, rfl⟩) fun r s1 hr => ?_
  match r, hr with
  | .error e, hr => exact hr
  | .ok .next, hr => exact hr.elim
  | .ok .brk, hr => exact hr.elim
  | .ok .cont, hr => exact hr.elim
  | .ok (.ret v), hr =>
    obtain ⟨led, rfl, rfl⟩ := hr
    have hS : (s.heap.push (noSet led)).get? s.heap.objs.size = some (noSet led) := Heap.get?_push_size _ rfl
    have hT : Shared.TypeIs { s with heap := s.heap.push (noSet led) } (.ref s.heap.objs.size) "set" := ⟨_, hS, rfl⟩
    have m1 := F.called_set.init.lookup; have m2 := F.called_set.init.bind (.ref s.heap.objs.size)
    repeat (any_goals (first
        | assumption | wp_step))
    refine codeAny_mono (codeAny_call_builtin (R := wants (fun r s2 => r = .none ∧ ∃ h' tk, s2 = { s with heap := h', toks := tk } ∧ h'.SetOf (mixKind prog w) s.heap.objs.size (keysOf xs) xs.eraseDups.length ∧ (∀ b o, b < s.heap.objs.size → s.heap.get? b = some o → h'.get? b = some o)) E)
      F.called_set.init.plain F.entry_set_init (check_set_init_1 hT ?_)) fun r2 s2 hr2 => ?_
    · obtain ⟨⟨ocls, odict, odata, oslots⟩, hol, hcl, nl, hdl⟩ := hl
      simp only at hcl hdl
      subst hcl; subst hdl
      have at_l : (s.heap.push (noSet led)).get? l = some { cls := .type "tuple", dict := odict, data := .seq its nl, slots := oslots } := Heap.get?_push_of_some _ hol
      have k1 := F.sub_tuple_set; have k2 := F.sub_tuple_frozenset; have k3 : (Value.type "tuple" == Value.type "dict") = false := by decide
      have now : (s.heap.push (noSet led)).IsTuple l its := ⟨_, at_l, rfl, nl, rfl⟩
      unfold Builtin.«set.__init__» noKeywords
          Builtin.Frozenset.updateFrom
      generalize hPI : pyIter = PI
      wp_walk
      subst hPI
      refine wpAny_pyIter_tuple now (wpAny_bind (wpAny_runValue ?_))
      have lt := Heap.lt_size hol
      have size : (s.heap.push (noSet led)).objs.size = s.heap.objs.size + 1 := Heap.size_push _ _
      have cnt : xs.length = its.size := by rw [← StrsAre.len_eq hi, Array.length_toList]
      refine fill_set ((Walks.tuple (by simp [calm]) _ l (by rw [size]; exact Nat.ne_of_lt (Nat.lt_succ_of_lt lt)) its).toS) (S := s.heap.objs.size) ?_ cnt (by omega) (fun i v hv => SS.strs_at hi i v (by rw [Array.getElem?_toList]; exact hv)) its.size 0 _ (Nat.zero_add _) ⟨⟨_, Heap.get?_push_size _ rfl, rfl, rfl⟩, now.push _⟩ ?_ ?_
      · rw [size]; simp only [List.mem_cons, List.not_mem_nil, or_false, not_or]; exact ⟨Nat.ne_of_lt (Nat.lt_succ_self _), Nat.ne_of_gt lt⟩
      · exact ⟨_, #[], 0, _, Heap.get?_push_of_some _ hS, ⟨rfl, rfl, rfl⟩, rfl, fun e q => absurd q (by simp), fun k => by cases k <;> simp [keysOf], by decide, rfl, rfl⟩
      · rintro ⟨h', g', d', tk, os'⟩ mv hset
        obtain rfl : g' = s.gens := mv.gens
        obtain rfl : d' = s.drawn := mv.drawn
        obtain rfl : os' = s.os := mv.os
        refine wpAny_pure (show wpAny _ _ (ret Value.none) _ _ _ from wpAny_pure ⟨rfl, h', tk, rfl, hset, fun b o hb e => mv.heap b o ?_ (Heap.get?_push_of_some _ (Heap.get?_push_of_some _ e))⟩)
        rw [size]; simp only [List.mem_cons, List.not_mem_nil, or_false, not_or]; exact ⟨Nat.ne_of_lt hb, Nat.ne_of_lt (Nat.lt_succ_of_lt hb)⟩
    · match r2, hr2 with
      | .error e, hr2 => exact hr2
      | .ok .next, hr2 => exact hr2.elim
      | .ok .brk, hr2 => exact hr2.elim
      | .ok .cont, hr2 => exact hr2.elim
      | .ok (.ret r), hr2 =>
        obtain ⟨rfl, h', tk, rfl, a1, a2⟩ := hr2
        repeat (any_goals (first
            | assumption | wp_step))
        exact fin _ _ a1 a2
end
end Fq
set_option Elab.async false
set_option linter.all false
set_option maxRecDepth 100000
/-! sets of texts -/
namespace Fq
open PySem L2 Evl PyProof.Rows
def rSetS (K : PySem.W.Frag) (P : Program) (w : World) : List V → Hp → VK → Prop := fun vs H Q => ∃ l, ∃ xs : List Str, vs = [.ref l] ∧ (SqL K H l (xs.map V.str) ∨ SqT K H l (xs.map V.str)) ∧ xs.length ≤ 1000 ∧
  ∀ p, H p = none → Q (.ref p) (upd H p (SetK P w p (keysOf xs) xs.eraseDups.length))
def rLenK (P : Program) (w : World) : List V → Hp → VK → Prop := fun vs H Q => ∃ a S n, vs = [.ref a] ∧ H a = some (SetK P w a S n) ∧ n ≤ 1000 ∧ Q (.int (n : Int)) H
theorem call_setS {X : Cx} (hc : X.calm = true) : CallR X (.type "set") (rSetS X.K X.prog X.w) := by
  intro pins s σ H
      vs us Q I r h
  obtain ⟨l, xs, rfl, hq, hl, q⟩ := h
  cases r with
  | cons r1 r2 =>
    cases r2
    cases r1
    have fin : ∀ (h' : Heap) (tk : Nat), h'.SetOf (mixKind X.prog X.w) s.heap.objs.size (keysOf xs) xs.eraseDups.length → (∀ b o, b < s.heap.objs.size → s.heap.get? b = some o → h'.get? b = some o) →
        EP X pins σ Q (.ref s.heap.objs.size) { s with heap := h', toks := tk } := fun h' tk hs keep =>
      ⟨.ref _, upd H s.heap.objs.size (SetK X.prog X.w s.heap.objs.size (keysOf xs) xs.eraseDups.length), I.laid (t' := tk) (fun b o e => keep b o (Heap.lt_size e) e) (Nat.le_refl _) (setK_new hs), rfl, q _ (I.hok.fresh (Nat.le_refl _))⟩
    have room : xs.length + 1 < scanBound := by unfold scanBound; omega
    rcases hq with hq | hq
    · obtain ⟨its, rv, pl, _⟩ := I.list hq
      exact set_of_list (I.ok.hd hc) pl.isList (by simpa using strsAre_of rv) room fin
    · obtain ⟨its, rv, pl, _⟩ := I.tuple hq
      exact set_of_tuple (I.ok.hd hc) pl (by simpa using strsAre_of rv) room fin
theorem call_lenK {X : Cx} : CallR X (.builtin "len") (rLenK X.prog X.w) := by
  intro pins s σ H
      vs us Q I r h
  obtain ⟨a, S, n, rfl, ha, hn, q⟩ := h
  cases r with
  | cons r1 r2 =>
    cases r2
    cases r1
    obtain ⟨o, es, ep, t, ho, hex, hd, _, _, _, hf, hz⟩ := setK_get I ha
    exact call_len_set ho hex hd hf (by rw [hz]; omega) ⟨.int n, H, I.tok _, ⟨_, by rw [hz]⟩, q⟩
section
variable {m : Md} {K : PySem.W.Frag} {σ : L2.St} {B : Hp} {te : TE} {P : Program} {w : World}
theorem d_lenSet {tg : Tag} (ht : tg = .tup ∨ tg = .lst) {xs : List Str} (h : EvD m K te σ B (.nd tg (xs.map D.str))) (hl : xs.length ≤ 1000) :
    EvD m K (tCB (rLenK P w) (tCons (tCB (rSetS K P w) (tCons te tNil)) tNil)) σ B (.int (xs.eraseDups.length : Int)) := fun B0 H e a Q q => h B0 H e a _ fun v d1 B1 H1 g r hd => by
  subst hd
  obtain ⟨p, vs, rfl, s, rs⟩ := r.ndI
  obtain rfl := rs.strsI
  have hq : SqL K H1 p (xs.map V.str) ∨ SqT K H1 p (xs.map V.str) := by
    rcases ht with rfl | rfl
    · exact .inr (ex_t g.sub s)
    · exact .inl (ex_l g.sub s)
  refine ⟨p, xs, rfl, hq, hl, fun u hu => ⟨u, _, _, rfl, upd_same, Nat.le_trans (dups_le xs) hl, ?_⟩⟩
  exact q _ _ _ _ (g.trans (.ex g.at_ (Ex.new hu))) (.int _) rfl
end
end Fq
set_option Elab.async false
set_option linter.all false
set_option maxRecDepth 100000
/-! {(k, l): v for t0 in i0 if .. for t1 in i1 if ..}: the keys tuples -/
namespace Fq
open PySem PySem.Spec
    PyProof.Rows L2
/-- the expression -/
abbrev Two (kx vx t0 i0 t1 i1 : Expr) (f0 f1 : List Expr) (sc : Scope) (ps : Pos) : Expr := .DictComp kx vx [⟨t0, i0, f0, 0⟩, ⟨t1, i1, f1, 0⟩] sc ps
/-- its tests -/
abbrev Tests (fs : List Expr) (env : Env) : Sem Bool := forIn fs true fun c r => if r = true then do let ok ← isTrue c env (eval c env); pure (ForInStep.yield ok) else pure (ForInStep.yield r)
section
variable {prog : Program} {w : World} {A : Around} {R : Result → Shared → Prop} {s : Shared} {kx vx t0 i0 t1 i1 : Expr} {f0 f1 : List Expr} {sc : Scope} {ps : Pos} {it : Value} {Dd : Addr} {env : Env}
theorem turn_first : compTurn (Two kx vx t0 i0 t1 i1 f0 f1 sc ps) 0 it (.ref Dd) env = (do
    standAt i0.pos
    match ← pyNext it with
    | none => pure (.done .next)
    | some v =>
      letOwnedTupleGo t0 it v
      assign t0 env v
      let mut yes := true
      for c in f0 do
        if yes then yes ← isTrue c env (eval c env)
      if yes then
        let z ← eval i1 env
        standAt i1.pos
        let z ← foldedSetIterable i1 env z
        let _ ← runOwn (.compStart (Two kx vx t0 i0 t1 i1 f0 f1 sc ps) 1 (← holding [z] (pyIter z)) (.ref Dd) env) env
      again (.compLoop (Two kx vx t0 i0 t1 i1 f0 f1 sc ps) 0 it (.ref Dd) env)) := by rfl
theorem turn_second : compTurn (Two kx vx t0 i0 t1 i1 f0 f1 sc ps) 1 it (.ref Dd) env = (do
    standAt i1.pos
    match ← pyNext it with
    | none => pure (.done .next)
    | some v =>
      letOwnedTupleGo t1 it v
      assign t1 env v
      let mut yes := true
      for c in f1 do
        if yes then yes ← isTrue c env (eval c env)
      if yes then
        (do
          let a ← eval kx env
          let b ← holding [a] (eval vx env)
          standAt ({ kx.pos with endLine := vx.pos.endLine, endCol := vx.pos.endCol } : Pos)
          holding [a, b] (dictSet Dd a b))
      again (.compLoop (Two kx vx t0 i0 t1 i1 f0 f1 sc ps) 1 it (.ref Dd) env)) := by rfl
/-- nothing may go wrong in a turn -/
abbrev NoE : Value → Shared → Prop := fun _ _ => False
theorem loop_first (hs : ∀ x, foldedSetIterable i1 env x = pure x) (J : Nat → Shared → Prop)
    (turn : ∀ n s, J n s → wpAny (model prog w) A (pyNext it) (fun r s1 => match r with
      | none => R (.ok .next) s1
      | some v => wpAny (model prog w) A (letOwnedTupleGo t0 it v) (fun _ s2 => wpAny (model prog w) A (assign t0 env v) (fun _ s3 => wpAny (model prog w) A (Tests f0 env) (fun ok s4 =>
          if ok = true then wpAny (model prog w) A (eval i1 env) (fun x s5 => wpAny (model prog w) A (pyIter x) (fun j s6 => codeAny (model prog w) A (.compStart (Two kx vx t0 i0 t1 i1 f0 f1 sc ps) 1 j (.ref Dd) env)
            (fun r s7 => match r with
              | .ok _ => ∃ k, k < n ∧ J k s7
              | .error _ => False) s6) NoE s5) NoE s4
          else ∃ k, k < n ∧ J k s4) NoE s3) NoE s2) NoE s1) NoE s)
    (n : Nat) (h : J n s) : codeAny (model prog w) A (.compLoop (Two kx vx t0 i0 t1 i1 f0 f1 sc ps) 0 it (.ref Dd) env) R s := by
  have no : ∀ {α : Type} {m : Sem α} {Q : α → Shared → Prop} {E : Value → Shared → Prop} {s : Shared}, wpAny (model prog w) A m Q NoE s → wpAny (model prog w) A m Q E s := fun z => wpAny_mono z (fun _ _ q => q) fun _ _ q => q.elim
  refine codeAny_loop rfl J (fun n s hJ => ?_) n h
  refine wpAny_noted (m := compTurn (Two kx vx t0 i0 t1 i1 f0 f1 sc ps) 0 it (.ref Dd) env) ?_
  rw [turn_first]
  refine wpAny_bind (wpAny_standAt (wpAny_bind (no (wpAny_mono (turn n s hJ) (fun r s1 q => ?_) fun _ _ z => z))))
  match r, q with
  | none, q => exact wpAny_pure q
  | some v, q =>
    refine wpAny_bind (no (wpAny_mono q (fun _ s2 q => wpAny_bind (no (wpAny_mono q (fun _ s3 q => wpAny_bind (no (wpAny_mono q (fun ok s4 q => ?_) fun _ _ z => z))) fun _ _ z => z))) fun _ _ z => z))
    match ok, q with
    | false, q => exact wpAny_pure ⟨rfl, q⟩
    | true, q =>
      refine wpAny_bind (no (wpAny_mono q (fun x s5 q => wpAny_bind (wpAny_standAt (wpAny_bind (wpAny_of_eq (hs x) (wpAny_bind (wpAny_holding (no (wpAny_mono q (fun j s6 q => ?_) fun _ _ z => z)))))))) fun _ _ z => z))
      refine wpAny_bind (wpAny_runOwn ?_); rw [Around.mark_none]
      refine codeAny_mono q fun r s7 q => ?_
      match r, q with
      | .ok f, q => exact wpAny_pure ⟨rfl, q⟩
      | .error e, q => exact q.elim
theorem loop_second (J : Nat → Shared → Prop)
    (turn : ∀ n s, J n s → wpAny (model prog w) A (pyNext it) (fun r s1 => match r with
      | none => R (.ok .next) s1
      | some v => wpAny (model prog w) A (letOwnedTupleGo t1 it v) (fun _ s2 => wpAny (model prog w) A (assign t1 env v) (fun _ s3 => wpAny (model prog w) A (Tests f1 env) (fun ok s4 =>
          if ok = true then wpAny (model prog w) A (eval kx env) (fun y s5 => wpAny (model prog w) A (eval vx env) (fun z s6 => wpAny (model prog w) A (dictSet Dd y z) (fun _ s7 => ∃ k, k < n ∧ J k s7) NoE s6) NoE s5) NoE s4
          else ∃ k, k < n ∧ J k s4) NoE s3) NoE s2) NoE s1) NoE s)
    (n : Nat) (h : J n s) : codeAny (model prog w) A (.compLoop (Two kx vx t0 i0 t1 i1 f0 f1 sc ps) 1 it (.ref Dd) env) R s := by
  have no : ∀ {α : Type} {m : Sem α} {Q : α → Shared → Prop} {E : Value → Shared → Prop} {s : Shared}, wpAny (model prog w) A m Q NoE s → wpAny (model prog w) A m Q E s := fun z => wpAny_mono z (fun _ _ q => q) fun _ _ q => q.elim
  refine codeAny_loop rfl J (fun n s hJ => ?_) n h
  refine wpAny_noted (m := compTurn (Two kx vx t0 i0 t1 i1 f0 f1 sc ps) 1 it (.ref Dd) env) ?_
  rw [turn_second]
  refine wpAny_bind (wpAny_standAt (wpAny_bind (no (wpAny_mono (turn n s hJ) (fun r s1 q => ?_) fun _ _ z => z))))
  match r, q with
  | none, q => exact wpAny_pure q
  | some v, q =>
    refine wpAny_bind (no (wpAny_mono q (fun _ s2 q => wpAny_bind (no (wpAny_mono q (fun _ s3 q => wpAny_bind (no (wpAny_mono q (fun ok s4 q => ?_) fun _ _ z => z))) fun _ _ z => z))) fun _ _ z => z))
    match ok, q with
    | false, q => exact wpAny_pure ⟨rfl, q⟩
    | true, q =>
      exact wpAny_bind (wpAny_bind (no (wpAny_mono q (fun y s5 q => wpAny_bind (wpAny_holding (no (wpAny_mono q (fun z s6 q => wpAny_bind (wpAny_standAt (wpAny_holding (no (wpAny_mono q (fun _ s7 q => wpAny_pure ⟨rfl, q⟩) fun _ _ z => z))))) fun _ _ z => z)))) fun _ _ z => z)))
theorem start_second (h0 : codeAny (model prog w) A (.compLoop (Two kx vx t0 i0 t1 i1 f0 f1 sc ps) 1 it (.ref Dd) env) R s)
    (h : wpAny (model prog w) A (pyIter it) (fun j s' => codeAny (model prog w) A (.compLoop (Two kx vx t0 i0 t1 i1 f0 f1 sc ps) 1 j (.ref Dd) env) R s') (notedBy (model prog w) A env fun x s' => R (.error x) s') s) :
    codeAny (model prog w) A (.compStart (Two kx vx t0 i0 t1 i1 f0 f1 sc ps) 1 it (.ref Dd) env) R s := by
  refine codeAny_of_tree (wpAny_notedAt (m := compStart (Two kx vx t0 i0 t1 i1 f0 f1 sc ps) 1 it (.ref Dd) env) ?_)
  unfold compStart
  refine wpAny_bind (wpAny_askSetting
      (wpAny_ite ?_))
  split
  · first | exact wpAny_bind (wpAny_pure (wpAny_pure ⟨rfl, h0⟩)) | exact wpAny_pure ⟨rfl, h0⟩
  · refine wpAny_bind (wpAny_rule (wpAny_bind (wpAny_standAt (wpAny_bind (wpAny_mono h (fun j s' q => wpAny_pure ⟨rfl, q⟩) fun _ _ z => z)))))
end
end Fq
set_option Elab.async false
set_option linter.all false
set_option maxRecDepth 100000
namespace Fq
open PySem PySem.Spec
    PyProof.Rows L2
/-- d[t] = v by a comprehension, t a tracked tuple -/
theorem put_tuple {X : Cx} {pins : List (Addr × Obj)} {σ : L2.St} {H : Hp} {s : Shared} {E : Value → Shared → Prop} {D b : Addr} {kvs : List (List Key × V)} {k : List Key} {v : V} {r : Value} {Q : Unit → Shared → Prop} (hu : X.A.units < cLine) (I : Inv X pins σ H s)
    (hD : H D = some (.dT kvs)) (hz : kvs.length < sizeLine) (hb : H b = some (.tup (k.map kV))) (rv : RelV v r) (h : ∀ s', Inv X pins σ (upd H D (.dT (putK kvs k v))) s' → Q () s') : wpAny (model X.prog X.w) X.A (dictSet D (.ref b) r) Q E s := by
  obtain ⟨z, hd, xs, rel, dd⟩ := dt_of I.hok hD
  have n1 : xs.length ≤ sizeLine := by rw [← Paired.length rel]; exact z
  have n2 : (putK kvs k v).length ≤ sizeLine := by have := length_putK kvs k v; omega
  refine wpAny_dictSet_heap (hsz := n1) (knd := tupleKind (mixKind X.prog X.w)) hu (key_of I.hok hb) dd fun h' dd' same => h _ ?_
  obtain ⟨q, es, ep, hq, a2, a3, a4, _, a5⟩ := dd'
  refine d_write I (by rw [hD]; trivial) same ⟨q, hq⟩ ⟨n2, hd, _, (rel.put k hb rv).keeps fun c ys ec => ?_, q, es, ep, hq, a2, a3, a4, a5⟩
  rw [upd_ne (ne_of ec hD (fun z => nomatch z))]; exact ec
section
variable {X : Cx}
/-- the reading: D the new dict -/
def tDc2 (wi : TI) (g : TG) (tt : TT) (wi1 : TI) (g1 : TG) (tt1 : TT) (tk tv : TE) (vs vs1 : List Nat) : TE := fun σ H Q => wi σ H fun J H1 => ∀ D, H1 D = none → ∃ W : Nat → Nat → Hp → Prop, (∃ m, W 0 m (upd H1 D (.dT []))) ∧ ∀ i m H, W i m H →
  (J.stop i H ∧ Q (.ref D) H) ∨ (J.go i H ∧ ∃ Nx : Hp → Prop, (∀ H', Nx H' → ∃ m', m' < m ∧ W (i + 1) m' H')
      ∧ ∀ x H', J.yld i H x H' → g x (wipe σ vs) H' fun σ2 H2 => wipe σ2 vs = wipe σ vs ∧ tt σ2 H2 fun b H3 =>
    if b = true then wi1 σ2 H3 fun J1 H4 => ∃ W1 : Nat → Nat
        → Hp → Prop, (∃ m, W1 0 m H4) ∧ ∀ j k H, W1 j k H →
      (J1.stop j H ∧ Nx H) ∨ (J1.go j H ∧ ∃ Nx1 : Hp → Prop, (∀ H', Nx1 H' → ∃ k', k' < k ∧ W1 (j + 1) k' H') ∧ ∀ x
          H', J1.yld j H x H' → g1 x (wipe σ2 vs1) H' fun σ3 H5 => wipe σ3 vs1 = wipe σ2 vs1 ∧ tt1 σ3 H5 fun b H6 =>
        if b = true then tk σ3 H6 fun y H7 => tv σ3 H7 fun z H8 => ∃ kvs k q, y = .ref q ∧ H8 q = some (.tup (k.map kV)) ∧ H8 D = some (.dT kvs) ∧ kvs.length < sizeLine ∧ Nx1 (upd H8 D (.dT (putK kvs k z))) else Nx1 H6)
    else Nx H3)
variable {pins : List (Addr × Obj)} {s : Shared} {σ : L2.St} {H : Hp} {Q : VK} {kx vx t0 i0 t1 i1 : Expr} {f0 f1 : List Expr} {sc : Scope} {ps : Pos} {own : List (Str × Nat)} {vs1 : List Nat} {pos' : Pos} {wi wi1 : TI} {g g1 : TG} {tt tt1 : TT} {tk tv : TE} {use : Option (Value → Sem Unit)} {Qf : Value → Shared → Prop}
/-- a rule within the block -/
abbrev InB (X : Cx) (sc : Scope) (F : Cx → Prop) : Prop := ∀ (s : Shared) (H : Hp) (C : Addr) (cl : List (Str × Addr)) (fp : List Addr), F (X.blk s H sc (compEnvC sc cl C X.env) fp)
theorem dc2_core (hu : X.A.units < cLine) (hc : X.calm = true) (hN : X.N.Nodup) (I : Inv X pins σ H s) (hi : PI X t0 i0 wi) (ok : BlkOk X.N X.env.scope sc own) (hv : ∀ i ∈ vs1, i ∈ own.map (·.2))
    (hg : InB X sc fun Y => PG Y t0 g) (ht : InB X sc fun Y => PTs Y f0 tt) (hi1 : InB X sc fun Y => PI Y t1 i1 wi1) (hg1 : InB X sc fun Y => PG Y t1 g1) (ht1 : InB X sc fun Y => PTs Y f1 tt1) (hk : InB X sc fun Y => PE Y kx tk) (he : InB X sc fun Y => PE Y vx tv)
    (hs : ∀ x, foldedSetIterable i0 X.env x = pure x) (hs1 : ∀ env x, foldedSetIterable i1 env x = pure x) (h : tDc2 wi g tt wi1 g1 tt1 tk tv (own.map (·.2)) vs1 σ H Q)
    (back : ∀ D C s' m H', Inv X pins σ H' s' → Q (.ref D) H' → s'.heap.Ns C m → FpOk X pins H' C → compPost (model X.prog X.w) X.A X.xe use Qf (.ref D) C (.ok .next) s') :
    wpAny (model X.prog X.w) X.A (comprehension (Two kx vx t0 i0 t1 i1 f0 f1 sc ps) sc X.env pos' newDict false (eval i0 X.env) use) Qf X.xe s := by
  have free : ∀ y ∈ sc.names, y.2 = .free → ∃ c, X.env.cells.lookup y.1 = some c := fun y hy e => (ok.free y hy e).elim (fun k => I.ok.has _ (.inl k)) (fun k => I.ok.has _ (.inr k))
  refine wpAny_comprehension_free (use := use) rfl hs (closure_ok free) ok.kind (fun y hy e => by rw [ok.uniq y hy, e]) (thn (hi.run pins s σ H _ I h) fun xv s1 hx => thn hx fun itv s2 h2 => ?_)
  obtain ⟨it, fp, tn, J, H2, rfl, I2, T, st2, f2, q⟩ := h2
  refine wpAny_newObj_type
      (newEnv_comp ?_)
  obtain ⟨D, hD⟩ : ∃ D, D = s2.heap.objs.size := ⟨_, rfl⟩
  have hDn : H2 D = none := I2.hok.fresh (Nat.le_of_eq hD.symm)
  rw [← hD]
  obtain ⟨W, ⟨m0, w0⟩,
      turn⟩ := q D hDn
  obtain ⟨s3, hs3⟩ : ∃ s3 : Shared, s3 = { s2 with heap := s2.heap.push { cls := .type "dict", data := .dict #[] } } := ⟨_, rfl⟩
  obtain ⟨H3, hH3⟩ : ∃ H3, H3 = upd H2 D (.dT []) := ⟨_, rfl⟩
  rw [← hH3] at w0
  have h3 : s3.heap = s2.heap.push { cls := .type "dict", data := .dict #[] } := by rw [hs3]
  have I3 : Inv X pins σ H3 s3 := by
    rw [hs3, hH3]
    refine I2.laid (t' := s2.toks) (fun b o e => Heap.get?_push_of_some _ e) (Nat.le_of_eq hD.symm) ?_
    rw [hD]; exact dt_empty s2.heap I2.big
  have f3 : ∀ b ∈ fp, FpOk X pins H3 b ∧ b < s3.heap.objs.size := fun b hb => by
    obtain ⟨o, e, _⟩ :=
        T.obj _ _ st2 b hb
    have lt := Heap.lt_size e
    refine ⟨⟨?_, (f2 b hb).2⟩, by rw [h3, Heap.size_push]; exact Nat.lt_succ_of_lt lt⟩
    rw [hH3, upd_ne (by rw [hD]; exact Nat.ne_of_lt lt)]; exact (f2 b hb).1
  have st3 : tn 0 s3.heap := T.keep _ _ _ st2 fun b _
      o e => by rw [h3]; exact Heap.get?_push_of_some _ e
  have I4 := block_start
      I3 ok hN f3
  obtain ⟨cl, hcl⟩ : ∃ cl, cl = cellsFrom (s3.heap.objs.size + 1) sc.names (cloFrom X.env.cells sc.names []) := ⟨_, rfl⟩
  rw [← hcl] at I4
  have pg := hg s3 H3 s3.heap.objs.size cl fp; have pt := ht s3 H3 s3.heap.objs.size cl fp; have pi1 := hi1 s3 H3 s3.heap.objs.size cl fp; have pg1 := hg1 s3 H3 s3.heap.objs.size cl fp
  have pt1 := ht1 s3 H3 s3.heap.objs.size cl fp; have pk := hk s3 H3 s3.heap.objs.size cl fp; have pe := he s3 H3 s3.heap.objs.size cl fp
  have goal : codeAny (model X.prog X.w) X.A (.compStart (Two kx vx t0 i0 t1 i1 f0 f1 sc ps) 0 (.ref it) (.ref D) (compEnvC sc cl s3.heap.objs.size X.env)) (compPost (model X.prog X.w) X.A X.xe use Qf (.ref D) s3.heap.objs.size)
      { s3 with heap := pushCells (s3.heap.push { cls := .type "dict", data := .dict #[] }) sc.names } := by
    obtain ⟨ce, hce⟩ : ∃ ce, ce = compEnvC sc cl s3.heap.objs.size X.env := ⟨_, rfl⟩
    rw [← hce] at I4 pg pt pi1 pg1 pt1 pk pe ⊢
    have cL : ce.locals = s3.heap.objs.size := by rw [hce]; rfl
    obtain ⟨s4, hs4⟩ : ∃ s4 : Shared, s4 = { s3 with heap := pushCells (s3.heap.push { cls := .type "dict", data := .dict #[] }) sc.names } := ⟨_, rfl⟩
    rw [← hs4] at I4 ⊢
    have st4 : tn 0 s4.heap := T.keep _ _ _ st3 fun b _ o e => by rw [hs4]; exact pushCells_keeps _ _ _ _ (Heap.get?_push_of_some _ e)
    have nfp : ∀ b ∈ fp, H3 b = none := fun b hb => (f3 b hb).1.1
    have stat : ∀ {σ' : L2.St} {H' : Hp} {s' : Shared}, Inv (X.blk s3 H3 sc ce fp) [] σ' H' s' → (∀ b ∈ fp, H' b = none) → ∀ b ∈ fp, FpOk (X.blk s3 H3 sc ce fp) [] H' b := fun {σ' H' s'} I' hn b hb =>
      ⟨hn b hb, (I'.ok.exf b hb).1, I'.ok.exfs b hb, .inl hb, (I'.ok.exf b hb).2, fun p hp => absurd (show p ∈ ([] : List (Addr × Obj)) ++ [] from hp) (by simp)⟩
    have loop : codeAny (model X.prog X.w) X.A (.compLoop (Two kx vx t0 i0 t1 i1 f0 f1 sc ps) 0 (.ref it) (.ref D) ce) (compPost (model X.prog X.w) X.A X.xe use Qf (.ref D) s3.heap.objs.size) s4 := by
      refine loop_first (hs1 ce) (fun n s' => ∃ i H', Inv (X.blk s3 H3 sc ce fp) [] (wipe σ (own.map (·.2))) H' s' ∧ tn i s'.heap ∧ (∀ b ∈ fp, H' b = none) ∧ W i n H') ?_ m0 ⟨0, H3, I4, st4, nfp, w0⟩
      rintro n s5 ⟨i, H5,
          I5, st5, n5, w5⟩
      rcases turn i n H5 w5 with ⟨stop,
          qq⟩ | ⟨go, Nx, hNx, step⟩
      · refine wpAny_mono (T.done (X.blk s3 H3 sc ce fp) rfl rfl rfl hc i [] s5 _ H5 NoE I5 (stat I5 n5) st5 stop) (fun r s6 z => ?_) fun _ _ z => z
        obtain ⟨rfl, I6⟩ := z
        have I7 : Inv X pins σ H5 s6 := I3.call' (ch := fp) I6.os I6.base I6.hok I6.bare fun b hb
            => ⟨(f3 b hb).1.2.2.2.1, (f3 b hb).1.2.1, (f3 b hb).1.2.2.2.2.1, (f3 b hb).1.2.2.2.2.2⟩
        have nC : H5 s3.heap.objs.size = none := cL ▸ (show H5 ce.locals = none from I6.free)
        obtain ⟨m, hn, _⟩ := I6.loc
        exact back D s3.heap.objs.size s6 m H5 I7 qq (cL ▸ (show s6.heap.Ns ce.locals m from hn)) (I3.fpOk (Nat.le_refl _) nC)
      · refine wpAny_mono (T.item (X.blk s3 H3 sc ce fp) rfl rfl rfl hc i [] s5 _ H5 NoE I5 (stat I5 n5) st5 go) (fun r s6 z => ?_) fun _ _ z => z
        obtain ⟨u, rfl, h6⟩ := z
        refine wpAny_mono h6 (fun _ s7 z => ?_) fun _ _ z => z
        obtain ⟨x, H7, I7, r7, y7, st7, n7⟩ := z
        refine wpAny_mono (pg.run _ s7 _ H7 x u _ (I7.pinned (stat I7 n7) (T.obj _ _ st7)) r7 (step x H7 y7)) (fun _ s8 z => ?_) fun _ _ z => z
        obtain ⟨σ8, H8, I8, hw8, q8⟩ := z
        refine wpAny_mono (pt.run _ s8 σ8 H8 _ I8 q8) (fun b s9 z => ?_) fun _ _ z => z
        obtain ⟨H9, I9, q9⟩ := z
        have len8 : (wipe σ (own.map (·.2))).length = σ8.length := by rw [← hw8, wipe_length]
        -- the turn's end, from slots that know what the block knew at its start
        have fin : ∀ {σ9 : L2.St} {s' : Shared} {H' : Hp}, Inv (X.blk s3 H3 sc ce fp) ([] ++ pinsAt fp s7.heap) σ9 H' s' → (wipe σ (own.map (·.2))).length = σ9.length → (∀ (j : Nat) v, (wipe σ8 (own.map (·.2)))[j]? = some (some v) → σ9[j]? = some (some v)) → Nx H' →
            ∃ k, k < n ∧ ∃ i H', Inv (X.blk s3 H3 sc ce fp) [] (wipe σ (own.map (·.2))) H' s' ∧ tn i s'.heap ∧ (∀ b ∈ fp, H' b = none) ∧ W i k H' := fun {σ9 s' H'} I' hl kn nx => by
          obtain ⟨k, lt, w'⟩ := hNx H' nx
          have stay : ∀ b ∈ fp, ∀ o, s7.heap.get? b = some o → s'.heap.get? b = some o ∧ H' b = none := fun b hb o e => let z := I'.pin (b, o) (List.mem_append_right _ (List.mem_append_right _ (mem_pinsAt hb e))); ⟨z.1, z.2.1⟩
          refine ⟨k, lt, i + 1, H', (I'.unpinned (pins := [])).weak hl (fun j v e => kn j v (by rw [hw8]; exact e)), T.keep _ _ _ st7 fun b hb o e => (stay b hb o e).1, fun b hb => ?_, w'⟩
          obtain ⟨o, e, _⟩ :=
              T.obj _ _ st7 b hb
          exact (stay b hb o e).2
        match b, q9 with
        | false, q9 => exact fin I9 len8 (fun j v e => (wipe_some e).1) q9
        | true, q9 =>
          refine wpAny_mono (pi1.run _ s9 σ8 H9 _ I9 q9) (fun xv s10 z => wpAny_mono z (fun itv s11 z => ?_) fun _ _ z => z) fun _ _ z => z
          obtain ⟨it1, fp1, tn1, J1, H11, rfl, I11, T1, st11, f11, W1, ⟨m1, w1⟩, turn1⟩ := z
          have stat1 : ∀ {H' : Hp}, (∀ b ∈ fp1, H' b = none) → ∀ b ∈ fp1, FpOk (X.blk s3 H3 sc ce fp) ([] ++ pinsAt fp s7.heap) H' b := fun hn b hb => ⟨hn b hb, (f11 b hb).2⟩
          have loop1 : codeAny (model X.prog X.w) X.A (.compLoop (Two kx vx t0 i0 t1 i1 f0 f1 sc ps) 1 (.ref it1) (.ref D) ce) (fun r s' => match r with
              | .ok _ => ∃ k, k < n ∧ ∃ i H', Inv (X.blk s3 H3 sc ce fp) [] (wipe σ (own.map (·.2))) H' s' ∧ tn i s'.heap ∧ (∀ b ∈ fp, H' b = none) ∧ W i k H'
              | .error _ => False)
                  s11 := by
            refine loop_second (fun k s' => ∃ j H', Inv (X.blk s3 H3 sc ce fp) ([] ++ pinsAt fp s7.heap) (wipe σ8 vs1) H' s' ∧ tn1 j s'.heap ∧ (∀ b ∈ fp1, H' b = none) ∧ W1 j k H') ?_ m1
              ⟨0, H11, I11.weak (wipe_length _ _) (fun j v e => (wipe_some e).1), st11, fun b hb => (f11 b hb).1, w1⟩
            rintro k s12 ⟨j, H12,
                I12, st12, n12, w12⟩
            rcases turn1 j k H12 w12 with ⟨stop1,
                nx1⟩ | ⟨go1, Nx1, hNx1, step1⟩
            · refine wpAny_mono (T1.done (X.blk s3 H3 sc ce fp) rfl rfl rfl hc j _ s12 (wipe σ8 vs1) H12 NoE I12 (stat1 n12) st12 stop1) (fun r s13 z => ?_) fun _ _ z => z
              obtain ⟨rfl, I13⟩ := z
              refine fin I13 (len8.trans (wipe_length σ8 vs1).symm) (fun j v e => ?_) nx1
              obtain ⟨e1, e2⟩
                  := wipe_some e
              rw [wipe_out fun z => e2 (hv j z)]; exact e1
            · refine wpAny_mono (T1.item (X.blk s3 H3 sc ce fp) rfl rfl rfl hc j _ s12 (wipe σ8 vs1) H12 NoE I12 (stat1 n12) st12 go1) (fun r s13 z => ?_) fun _ _ z => z
              obtain ⟨u1, rfl, h13⟩ := z
              refine wpAny_mono h13 (fun _ s14 z => ?_) fun _ _ z => z
              obtain ⟨x1, H14, I14, r14, y14, st14, n14⟩ := z
              refine wpAny_mono (pg1.run _ s14 (wipe σ8 vs1) H14 x1 u1 _ (I14.pinned (stat1 n14) (T1.obj _ _ st14)) r14 (step1 x1 H14 y14)) (fun _ s15 z => ?_) fun _ _ z => z
              obtain ⟨σ15, H15, I15, hw15, q15⟩ := z
              refine wpAny_mono (pt1.run _ s15 σ15 H15 _ I15 q15) (fun b1 s16 z => ?_) fun _ _ z => z
              obtain ⟨H16, I16, q16⟩ := z
              have fin1 : ∀ {s' : Shared} {H' : Hp}, Inv (X.blk s3 H3 sc ce fp) (([] ++ pinsAt fp s7.heap) ++ pinsAt fp1 s14.heap) σ15 H' s' → Nx1 H' → ∃ k', k' < k ∧ ∃ j H', Inv (X.blk s3 H3 sc ce fp) ([] ++ pinsAt fp s7.heap) (wipe σ8 vs1) H' s' ∧ tn1 j s'.heap ∧ (∀ b ∈ fp1, H' b = none) ∧ W1 j k' H' := fun {s' H'} I' nx => by
                obtain ⟨k', lt, w'⟩ := hNx1 H' nx
                have stay : ∀ b ∈ fp1, ∀ o, s14.heap.get? b = some o → s'.heap.get? b = some o ∧ H' b = none := fun b hb o e => let z := I'.pin (b, o) (List.mem_append_right _ (List.mem_append_right _ (mem_pinsAt hb e))); ⟨z.1, z.2.1⟩
                refine ⟨k', lt, j + 1, H', I'.unpinned.weak (by rw [← hw15, wipe_length]) (fun j v e => (wipe_some (by rw [hw15]; exact e : (wipe σ15 vs1)[j]? = some (some v))).1), T1.keep _ _ _ st14 fun b hb o e => (stay b hb o e).1, fun b hb => ?_, w'⟩
                obtain ⟨o, e, _⟩ := T1.obj
                    _ _ st14 b hb
                exact (stay b hb o e).2
              match b1, q16 with
              | false, q16 => exact fin1 I16 q16
              | true, q16 =>
                refine wpAny_mono (pk.run _ s16 σ15 H16 _ I16 q16) (fun z s17 zz => ?_) fun _ _ z => z
                obtain ⟨yk, H17, I17, r17, q17⟩ := zz
                refine wpAny_mono (pe.run _ s17 σ15 H17 _ I17 q17) (fun z2 s18 zz => ?_) fun _ _ z => z
                obtain ⟨yv, H18, I18, r18, kvs, kk, b, rfl, hb, hD18, hz18, nx⟩ := zz
                obtain rfl : z = Value.ref b := r17
                exact put_tuple (X := X.blk s3 H3 sc ce fp) hu I18 hD18 hz18 hb r18 fun s19 I19 => fin1 I19 nx
          exact start_second loop1 (T1.self X.A 0 _ _ _ st11 loop1)
    exact codeAny_compStart_dict loop
        (T.self X.A 0 _ _ _ st4 loop)
  rw [hcl, hs3, hD] at goal
  rw [hD]
  exact goal
end
end Fq
set_option Elab.async false
set_option linter.all false
set_option maxRecDepth 100000
namespace Fq
open PySem PySem.Spec PyProof.Rows L2 Evl
section
variable {X : Cx} {kx vx t0 i0 t1 i1 : Expr} {f0 f1 : List Expr} {sc : Scope} {ps : Pos} {own : List (Str × Nat)} {vs1 : List Nat} {wi wi1 : TI} {g g1 : TG} {tt tt1 : TT} {tk tv : TE}
theorem pe_dc2 (hu : X.A.units < cLine) (hc : X.calm = true) (hN : X.N.Nodup) (hi : PI X t0 i0 wi) (ok : BlkOk X.N X.env.scope sc own) (hv : ∀ i ∈ vs1, i ∈ own.map (·.2))
    (hg : ∀ (s : Shared) (H : Hp) (C : Addr) (cl : List (Str × Addr)) (fp : List Addr), PG (X.blk s H sc (compEnvC sc cl C X.env) fp) t0 g) (ht : ∀ (s : Shared) (H : Hp) (C : Addr) (cl : List (Str × Addr)) (fp : List Addr), PTs (X.blk s H sc (compEnvC sc cl C X.env) fp) f0 tt) (hi1 : ∀ (s : Shared) (H : Hp) (C : Addr) (cl : List (Str × Addr)) (fp : List Addr), PI (X.blk s H sc (compEnvC sc cl C X.env) fp) t1 i1 wi1) (hg1 : ∀ (s : Shared) (H : Hp) (C : Addr) (cl : List (Str × Addr)) (fp : List Addr), PG (X.blk s H sc (compEnvC sc cl C X.env) fp) t1 g1) (ht1 : ∀ (s : Shared) (H : Hp) (C : Addr) (cl : List (Str × Addr)) (fp : List Addr), PTs (X.blk s H sc (compEnvC sc cl C X.env) fp) f1 tt1) (hk : ∀ (s : Shared) (H : Hp) (C : Addr) (cl : List (Str × Addr)) (fp : List Addr), PE (X.blk s H sc (compEnvC sc cl C X.env) fp) kx tk) (he : ∀ (s : Shared) (H : Hp) (C : Addr) (cl : List (Str × Addr)) (fp : List Addr), PE (X.blk s H sc (compEnvC sc cl C X.env) fp) vx tv)
    (hs : ∀ x, foldedSetIterable i0 X.env x = pure x := by intro _; rfl) (hs1 : ∀ env x, foldedSetIterable i1 env x = pure x := by intro _ _; rfl) : PE X (Two kx vx t0 i0 t1 i1 f0 f1 sc ps) (tDc2 wi g tt wi1 g1 tt1 tk tv (own.map (·.2)) vs1) := by
  refine ⟨fun pins s
      σ H Q I h => ?_⟩
  rw [arm_eval_DictComp]
  refine dc2_core hu hc hN I hi ok hv hg ht hi1 hg1 ht1 hk he hs hs1 h fun D C s' m H' I' q hn f => ⟨m, hn, fun h'' sb => ?_⟩
  obtain ⟨a0, a1, a2, a3, a4, a5⟩ := f
  exact ⟨.ref D, H', I'.turned (t' := s'.toks) (fun b o hb e => (sb.2 b hb).trans e) a0 a1 a3 a4 a5, rfl, q⟩
end
def kD : Key → D
  | .inl i => .int i
  | .inr x => .str x
theorem RepA.keysI {K : PySem.W.Frag} {H : Hp} : ∀ {vs : List V} {ks : List Key}, RepA K H vs (ks.map kD) → vs = ks.map kV
  | _, [], h => by cases h; rfl
  | _, .inl i :: ks, h => by
    cases h with
    | cons h1 h2 => rw [h1.intI, h2.keysI]; rfl
  | _, .inr x :: ks, h => by
    cases h with
    | cons h1 h2 => rw [h1.strI, h2.keysI]; rfl
theorem put_new {kvs : List (List Key × V)} {k : List Key} {v : V} (h : k ∉ kvs.map (·.1)) : putK kvs k v = kvs ++ [(k, v)] := by
  refine putK_new _ ?_
  cases e : valV kvs k with
  | none => rfl
  | some u => exact absurd (valV_in e) h
section
variable {m : Md} {K : PySem.W.Frag} {σ : L2.St} {B : Hp} {tl tl1 tv : TE} {ak : TA} {g g1 : TG} {ds : List D}
theorem zip_self {α β : Type} : ∀ l : List (α × β), (l.map (·.1)).zip (l.map (·.2)) = l
  | [] => rfl
  | (a, b) :: l => by
    show (a, b) :: (l.map (·.1)).zip (l.map (·.2)) = (a, b) :: l
    rw [zip_self l]
/-- what stands at the dict so far -/
def DcW (m : Md) (K : PySem.W.Frag) (B1 H1 : Hp) (Dl : Addr) (out : List (List Key × D)) (H : Hp) : Prop :=
  ∃ B kvs, Gr m B1 H1 B H ∧ B Dl = none ∧ H Dl = some (.dT kvs) ∧ kvs.map (·.1) = out.map (·.1) ∧ RepA K B (kvs.map (·.2)) (out.map (·.2))
theorem d_dc2T {vs vs1 : List Nat} (inn : D → List D) (ky : D → D → List Key) (vl : D → D → D) (es : List (List Key × D)) (hes : es = ds.flatMap fun d => (inn d).map fun e => (ky d e, vl d e))
    (hl : EvD m K tl σ B (.tup ds)) (nd : (es.map (·.1)).Nodup) (hz : es.length ≤ 40000)
    (hs : ∀ d ∈ ds, ∀ v B2, Ex B B2 → Rep K B2 v d → ∃ σ2, wipe σ2 vs = wipe σ vs ∧ (∀ H (Q : L2.St → Hp → Prop), Ex B2 H → Q σ2 H → g v (wipe σ vs) H Q) ∧ EvD m K tl1 σ2 B2 (.tup (inn d)) ∧
      ∀ e ∈ inn d, ∀ v' B3, Ex B2 B3 → Rep K B3 v' e → ∃ σ3, wipe σ3 vs1 = wipe σ2 vs1 ∧ (∀ H (Q : L2.St → Hp → Prop), Ex B3 H → Q σ3 H → g1 v' (wipe σ2 vs1) H Q) ∧ (ky d e).length ≤ 1000 ∧ EvAD m K ak σ3 B3 ((ky d e).map kD) ∧ EvD m K tv σ3 B3 (vl d e)) :
    EvD m K (tDc2 (iTup K tl) g tYes (iTup K tl1) g1 tYes (tTup ak) tv vs vs1) σ B (.nd (.dt (es.map (·.1))) (es.map (·.2))) := fun B0 H0 e0 a0 Q q => hl B0 H0 e0 a0 _ fun x dd B1 H1 gr1 r hdd => by
  subst hdd
  obtain ⟨p, xs, rfl, s, rs⟩ := r.tupI
  refine ⟨p, rfl, ⟨xs, ex_t gr1.sub s⟩, fun Dl hD => ?_⟩
  have hm : ¬ m.M Dl := Gr.notM gr1.at_ hD
  have nB : B1 Dl = none := by
    cases c : B1 Dl with
    | none => rfl
    | some o => rw [gr1.sub Dl o c] at hD; cases hD
  let ent : Nat → List (List Key × D) := fun i => (ds.take i).flatMap fun d => (inn d).map fun e => (ky d e, vl d e)
  refine ⟨fun i k H => k = xs.length - i ∧ i ≤ xs.length ∧ DcW m K B1 H1 Dl (ent i) H, ⟨_, rfl, Nat.zero_le _, B1, [], Gr.ex gr1.at_ (Ex.new hD), nB, upd_same, rfl, .nil⟩, ?_⟩
  rintro i k H' ⟨rfl, hi, B3, kvs, g3, b3, h3, hk, ra⟩
  by_cases lt : i < xs.length
  · have hx : xs[i]? = some xs[i] := List.getElem?_eq_getElem lt
    refine .inr ⟨⟨xs, xs[i], ex_t (g3.grow.trans g3.sub) s, hx⟩, DcW m K B1 H1 Dl (ent (i + 1)), fun H2 w2 => ⟨xs.length - (i + 1), by omega, rfl, lt, w2⟩, fun x H2 ⟨eH, hy⟩ => ?_⟩
    subst eH
    obtain rfl : x = xs[i] := Option.some.inj ((hy xs (ex_t (g3.grow.trans g3.sub) s)).symm.trans hx)
    obtain ⟨d, hd, rv⟩ := rs.getV hx
    obtain ⟨σ2, w2, hg, hl1, hin⟩ := hs d (List.mem_of_getElem? hd) xs[i] B3 ((e0.trans gr1.grow).trans g3.grow) (rv.up g3.grow)
    have et : ds.take (i + 1) = ds.take i ++ [d] := by rw [List.take_add_one, hd]; rfl
    have pre : ∀ j, ent i ++ ((inn d).take j).map (fun e => (ky d e, vl d e)) <+: es := fun j => by
      have e1 : es = ent i ++ ((inn d).map (fun e => (ky d e, vl d e)) ++ (ds.drop (i + 1)).flatMap fun d => (inn d).map fun e => (ky d e, vl d e)) := by
        rw [hes]
        conv => lhs; rw [← List.take_append_drop (i + 1) ds, et]
        simp [ent, List.flatMap_append]
      rw [e1]
      exact (List.prefix_append_right_inj _).mpr (((List.take_prefix j (inn d)).map _).trans (List.prefix_append _ _))
    refine hg H2 _ g3.sub ⟨w2, ?_⟩
    unfold tYes
    dsimp only
    rw [if_pos rfl]
    refine hl1 B3 H2 (Ex.refl _) g3.at_ _ fun x1 dd1 B4 H4 g4 r4 e4 => ?_
    subst e4
    obtain ⟨p1, ys, rfl, s1, rs1⟩ := r4.tupI
    have b4 := g4.off b3 h3
    have h4 := g4.keep Dl _ hm h3
    refine ⟨p1, rfl, ⟨ys, ex_t g4.sub s1⟩, fun j k H => k = ys.length - j ∧ j ≤ ys.length ∧ ∃ B5 kvs, Gr m B1 H1 B5 H ∧ Ex B4 B5 ∧ B5 Dl = none ∧ H Dl = some (.dT kvs) ∧ kvs.map (·.1) = (ent i ++ ((inn d).take j).map (fun e => (ky d e, vl d e))).map (·.1) ∧ RepA K B5 (kvs.map (·.2)) ((ent i ++ ((inn d).take j).map (fun e => (ky d e, vl d e))).map (·.2)),
      ⟨_, rfl, Nat.zero_le _, B4, kvs, g3.trans g4, Ex.refl B4, b4, h4, by rw [hk]; simp, by simpa using ra.up g4.grow⟩, ?_⟩
    rintro j k H5 ⟨rfl, hj, B5, kvs5, g5, x5, b5, h5, hk5, ra5⟩
    by_cases lt1 : j < ys.length
    · have hy1 : ys[j]? = some ys[j] := List.getElem?_eq_getElem lt1
      refine .inr ⟨⟨ys, ys[j], ex_t (x5.trans g5.sub) s1, hy1⟩, fun H => ∃ B6 kvs, Gr m B1 H1 B6 H ∧ Ex B4 B6 ∧ B6 Dl = none ∧ H Dl = some (.dT kvs) ∧ kvs.map (·.1) = (ent i ++ ((inn d).take (j + 1)).map (fun e => (ky d e, vl d e))).map (·.1) ∧ RepA K B6 (kvs.map (·.2)) ((ent i ++ ((inn d).take (j + 1)).map (fun e => (ky d e, vl d e))).map (·.2)),
        fun H6 w6 => ⟨ys.length - (j + 1), by omega, rfl, lt1, w6⟩, fun x1 H6 ⟨eH, hy⟩ => ?_⟩
      subst eH
      obtain rfl : x1 = ys[j] := Option.some.inj ((hy ys (ex_t (x5.trans g5.sub) s1)).symm.trans hy1)
      obtain ⟨e, he, rv1⟩ := rs1.getV hy1
      obtain ⟨σ3, w3, hg1, hlen, hka, hva⟩ := hin e (List.mem_of_getElem? he) ys[j] B5 (g4.grow.trans x5) (rv1.up x5)
      refine hg1 H6 _ g5.sub ⟨w3, ?_⟩
      rw [if_pos rfl]
      refine hka B5 H6 (Ex.refl _) g5.at_ _ fun kv kd B7 H7 g7 r7 e7 => ?_
      subst e7
      obtain rfl := r7.keysI
      refine ⟨sz_of (by rw [List.length_map]; omega), fun u hu => ?_⟩
      have g8 := Gr.alloc g7.at_ hu (.tup ((ky d e).map kV))
      refine hva _ _ (g7.grow.trans g8.grow) g8.at_ _ fun z zd B9 H9 g9 r9 e9 => ?_
      subst e9
      have b7 := g7.off b5 h5
      have h7 := g7.keep Dl _ hm h5
      have neu : Dl ≠ u := ne_of_none h7 hu
      have b8 : (upd B7 u (.tup ((ky d e).map kV))) Dl = none := by rw [upd_ne neu]; exact b7
      have h8 : (upd H7 u (.tup ((ky d e).map kV))) Dl = some (.dT kvs5) := by rw [upd_ne neu]; exact h7
      have b9 := g9.off b8 h8
      have h9 := g9.keep Dl _ hm h8
      have eu : ((inn d).take (j + 1)).map (fun e => (ky d e, vl d e)) = ((inn d).take j).map (fun e => (ky d e, vl d e)) ++ [(ky d e, vl d e)] := by
        rw [List.take_add_one,
            he]; simp
      have pj := pre (j + 1)
      rw [eu, ← List.append_assoc] at pj
      have notin : ky d e ∉ kvs5.map (·.1) := by
        rw [hk5]
        have n2 := (pj.map (·.1)).sublist.nodup nd
        rw [List.map_append, List.nodup_append] at n2
        intro hmem
        exact n2.2.2 _ hmem _ (by simp) rfl
      have small : kvs5.length < 50000 := by
        have l1 : kvs5.length = (ent i ++ ((inn d).take j).map (fun e => (ky d e, vl d e))).length := by
          have := congrArg List.length hk5
          simpa using this
        have l2 := (pre j).length_le
        omega
      have u9 : H9 u = some (.tup ((ky d e).map kV)) := g9.sub u _ (g9.grow u _ upd_same)
      have g59 := g5.trans ((g7.trans g8).trans g9)
      refine ⟨kvs5, ky d e, u, rfl, u9, h9, sz_lt (by omega), B9, kvs5 ++ [(ky d e, z)], g59.upd hm hD b9 _, x5.trans ((g7.grow.trans g8.grow).trans g9.grow), b9, ?_, ?_, ?_⟩
      · rw [upd_same, put_new notin]
      · rw [eu, ← List.append_assoc, List.map_append, List.map_append, hk5]; rfl
      · rw [eu, ← List.append_assoc, List.map_append, List.map_append]
        exact (ra5.up ((g7.grow.trans g8.grow).trans g9.grow)).app (.one r9)
    · obtain rfl : j = ys.length := by omega
      refine .inl ⟨⟨ys, ex_t (x5.trans g5.sub) s1, Nat.le_refl _⟩, B5, kvs5, g5, b5, h5, ?_, ?_⟩
      · rw [hk5, rs1.len, List.take_length]
        show _ = (ent (i + 1)).map _
        simp [ent, et, List.flatMap_append]
      · have e5 : ent (i + 1) = ent i ++ ((inn d).take ys.length).map (fun e => (ky d e, vl d e)) := by
          rw [rs1.len, List.take_length]
          simp [ent, et, List.flatMap_append]
        rw [e5]; exact ra5
  · obtain rfl : i = xs.length := by omega
    have full : ent xs.length = es := by
      show (ds.take xs.length).flatMap _ = es
      rw [rs.len, List.take_length, hes]
    rw [full] at hk ra
    have g4 := (gr1.trans g3).freeze hm (gr1.none_of hD) b3 h3
    have len : (es.map (·.1)).length = (kvs.map (·.2)).length := by rw [ra.len]; simp
    refine .inl ⟨⟨xs, ex_t (g3.grow.trans g3.sub) s, Nat.le_refl _⟩, q (.ref Dl) _ _ H' g4 (.nd (t := .dt _) ⟨len, .inl ?_⟩ (ra.up (fun a u e => by rw [upd_ne (ne_of_none e b3)]; exact e))) rfl⟩
    rw [upd_same, ← hk]
    congr 2
    exact (zip_self kvs).symm
end
end Fq
set_option Elab.async false
set_option linter.all false
set_option maxRecDepth 100000
/-! instances, their fields and methods; dicts read -/
namespace Fq
open PySem PySem.Spec PyProof.Rows L2 Evl
section
variable {m : Md} {K : PySem.W.Frag} {σ : L2.St} {B H : Hp} {ta tb td te tv : TE} {aa ak : TA} {d : D} {ds l : List D} {C : Addr} {fs : List Str} {DD : Ends} {tz : TS} {E : XK}
theorem zip_lookup : ∀ {fs : List Str} {xs : List V} {ds : List D} {f : Str} {d : D} {H : Hp}, RepA K H xs ds → (fs.zip ds).lookup f = some d → ∃ v, (fs.zip xs).lookup f = some v ∧ Rep K H v d
  | [], _, _, _, _, _, _, h => by cases h
  | g :: fs, _, [], _, _, _, r, h => by cases r; cases h
  | g :: fs, _, d :: ds, f, d', H, r, h => by
    cases r with
    | cons r1 r2 =>
      rename_i v vs
      show ∃ u, ((g, v) :: fs.zip vs).lookup f = some u ∧ _
      have h' : ((g, d) :: fs.zip ds).lookup f = some d' := h
      rw [List.lookup_cons] at h' ⊢
      cases e : (f == g) with
      | true => rw [e] at h'; cases h'; exact ⟨v, rfl, r1⟩
      | false => rw [e] at h'; exact zip_lookup r2 h'
theorem zip_no : ∀ {fs : List Str} {xs : List V} {f : Str}, f ∉ fs → (fs.zip xs).lookup f = none
  | [], _, _, _ => rfl
  | _ :: _, [], _, _ => rfl
  | g :: fs, v :: vs, f, h => by
    show ((g, v) :: fs.zip vs).lookup f = none
    rw [List.lookup_cons]
    have e : (f == g) = false := by
      rw [beq_eq_false_iff_ne]; exact fun z => h (z ▸ .head _)
    rw [e]; exact zip_no fun z => h (.tail _ z)
theorem d_fld {f : Str} (ho : EvD m K ta σ B (.nd (.ob C fs) l)) (hl : (fs.zip l).lookup f = some d) (c : Cls K C) (n : NoAttr K C f) : EvD m K (tFld K ta f) σ B d := fun B0 H e a Q q => ho B0 H e a _ fun v d1 B1 H1 g r hd => by
  subst hd
  obtain ⟨p, xs, rfl, ⟨hlen, dx, hp⟩, rs⟩ := r.ndI
  obtain ⟨u, hu, ru⟩ := zip_lookup rs hl
  exact ⟨p, C, dx, _, u, rfl, g.sub p _ hp, c, n, hu, q u _ B1 H1 g ru rfl⟩
theorem d_meth {F : List D → Option D} {f : Str} (ho : EvD m K ta σ B (.nd (.ob C fs) l)) (hn : f ∉ fs) (ha : EvAD m K aa σ B ds) (hf : F (.nd (.ob C fs) l :: ds) = some d) : EvD m K (tMeth C f (spF K F) [] E ta aa) σ B d := fun B0 H e a Q q => ho B0 H e a _ fun v d1 B1 H1 g r hd => by
  subst hd
  have r0 := r
  obtain ⟨p, xs, rfl, ⟨hlen, dx, hp⟩, rs⟩ := r.ndI
  refine ⟨p, dx, _, rfl, g.sub p _ hp, zip_no hn, ha B1 H1 (e.trans g.grow) g.at_ _ fun vs ds' B2 H2 g2 r2 hd2 => ?_⟩
  subst hd2
  refine ⟨B2, _, d, g2.sub, ?_, hf, fun v B3 H3 g3 r3 => q v d B3 H3 ((g.trans g2).trans (g3.ofStill g2.at_)) r3 rfl⟩
  rw [List.append_nil]; exact .cons (r0.up g2.grow) r2
theorem d_prop {F : List D → Option D} (ho : EvD m K ta σ B (.nd (.ob C fs) l)) (hf : F [.nd (.ob C fs) l] = some d) : EvD m K (tProp C (spF K F) [] E ta) σ B d := fun B0 H e a Q q => ho B0 H e a _ fun v d1 B1 H1 g r hd => by
  subst hd
  have r0 := r
  obtain ⟨p, xs, rfl, ⟨hlen, dx, hp⟩, rs⟩ := r.ndI
  exact ⟨p, dx, _, rfl, g.sub p _ hp, B1, _, d, g.sub, .cons r0 .nil, hf, fun v B3 H3 g3 r3 => q v d B3 H3 (g.trans (g3.ofStill g.at_)) r3 rfl⟩
/-- what a dict holds at a key -/
def lookD : List (List Key) → List D → List Key → D
  | k :: ks, d :: ds, j => if k = j then d else lookD ks ds j
  | _, _, _ => .non
theorem look_ok : ∀ {ks : List (List Key)} {xs : List V} {ds : List D} {H : Hp} (j : List Key), RepA K H xs ds → Rep K H ((valV (ks.zip xs) j).getD .non) (lookD ks ds j)
  | [], _, _, _, _, _ => .non
  | k :: ks, _, [], _, j, r => by cases r; exact .non
  | k :: ks, _, d :: ds, H, j, r => by
    cases r with
    | cons r1 r2 =>
      rename_i v vs
      show Rep K H ((valV ((k, v) :: ks.zip vs) j).getD .non) (if k = j then d else lookD ks ds j)
      unfold valV
      rw [List.find?_cons]
      by_cases e : k = j
      · rw [if_pos e, decide_eq_true e]; exact r1
      · rw [if_neg e, decide_eq_false e]; exact look_ok (ks := ks) j r2
theorem d_dget {ks : List (List Key)} {k : List Key} (hd : EvD m K td σ B (.nd (.dt ks) l)) (hk : EvAD m K ak σ B (k.map kD)) (hz : k.length ≤ 1000) : EvD m K (tDGet1 td (tTup ak)) σ B (lookD ks l k) := fun B0 H e a Q q => hd B0 H e a _ fun v d1 B1 H1 g r hd => by
  subst hd
  obtain ⟨p, xs, rfl, ⟨hlen, hp⟩, rs⟩ := r.ndI
  have ex := g.sub
  refine ⟨p, rfl, .inr ⟨_, ex_rd ex hp⟩, hk B1 H1 (e.trans g.grow) g.at_ _ fun vs ds' B2 H2 g2 r2 hd2 => ?_⟩
  subst hd2
  obtain rfl := r2.keysI
  refine ⟨sz_of (by rw [List.length_map]; omega), fun u hu => ?_⟩
  have g3 := Gr.alloc g2.at_ hu (.tup (k.map kV))
  refine ⟨valV (ks.zip xs) k, .inr ⟨_, k, u, ex_rd ((g2.grow.trans g3.grow).trans g3.sub) hp, rfl, upd_same, rfl⟩, ?_⟩
  exact q _ _ _ _ ((g.trans g2).trans g3) ((look_ok k rs).up (g2.grow.trans g3.grow)) rfl
/-- self.f = e -/
theorem y_fld {j : Nat} {p dx : Addr} {f : Str} {gs : List (Str × V)} (a : At m B H) (hm : ¬ m.M p) (hj : σ[j]? = some (some (.ref p))) (hp : H p = some (.ins C dx gs)) (c : Cls K C) (n : NoAttr K C f) (small : gs.length < 1000) (h : EvD m K tv σ B d)
    (k : ∀ v B1 H1, Gr m B H B1 H1 → Rep K B1 v d → tz DD σ (upd H1 p (.ins C dx (putF f v gs)))) : tSeq (sFld K (tVar j) tv f) tz DD σ H := h B H (Ex.refl B) a _ fun v d1 B1 H1 g r hd => by
  subst hd
  exact ⟨.ref p, hj, p, C, dx, gs, rfl, g.keep p _ hm hp, c, n, small, k v B1 H1 g r⟩
theorem x_fld {j : Nat} {p dx : Addr} {f : Str} {gs : List (Str × V)} (a : At m B H) (hm : ¬ m.M p) (hj : σ[j]? = some (some (.ref p))) (hp : H p = some (.ins C dx gs)) (c : Cls K C) (n : NoAttr K C f) (small : gs.length < 1000) (h : EvD m K tv σ B d)
    (k : ∀ v B1 H1, Gr m B H B1 H1 → Rep K B1 v d → DD.nx σ (upd H1 p (.ins C dx (putF f v gs)))) : sFld K (tVar j) tv f DD σ H := y_fld (tz := fun D σ H => D.nx σ H) a hm hj hp c n small h k
end
end Fq
set_option Elab.async false
set_option linter.all false
set_option maxRecDepth 100000
namespace Fq
open PySem PySem.Spec PyProof.Rows L2 Evl
/-- the promise of a def that changes nothing: some r that R tells of the data handed in -/
def spR (K : PySem.W.Frag) (R : List D → D → Prop) : Sp := fun vs H Q _ => ∃ B ds, Ex B H ∧ RepA K B vs ds ∧ (∃ r, R ds r) ∧ ∀ r, R ds r → ∀ v B1 H1, Gr still B H B1 H1 → Rep K B1 v r → Q v H1
section
variable {m : Md} {K : PySem.W.Frag} {σ : L2.St} {B H : Hp} {ta tb td te tv : TE} {aa ak : TA} {d : D} {ds l : List D} {C : Addr} {fs : List Str} {E : XK} {R : List D → D → Prop}
theorem r_callR (h : EvAD m K aa σ B ds) (hr : ∃ r, R ds r) : EvR m K (tCall (spR K R) [] E aa) σ B (R ds) := fun B0 H e a Q q => h B0 H e a _ fun vs ds' B1 H1 g r hd => by
  subst hd
  refine ⟨B1, ds', g.sub, ?_, hr, fun d hd v B2 H2 g2 r2 => q v d B2 H2 (g.trans (g2.ofStill g.at_)) r2 hd⟩
  rw [List.append_nil]; exact r
theorem d_callR (h : EvAD m K aa σ B ds) (hr : R ds d) (only : ∀ r, R ds r → r = d) : EvD m K (tCall (spR K R) [] E aa) σ B d := (r_callR h ⟨d, hr⟩).weak only
theorem d_methR {f : Str} (ho : EvD m K ta σ B (.nd (.ob C fs) l)) (hn : f ∉ fs) (ha : EvAD m K aa σ B ds) (hf : R (.nd (.ob C fs) l :: ds) d) (only : ∀ r, R (.nd (.ob C fs) l :: ds) r → r = d) : EvD m K (tMeth C f (spR K R) [] E ta aa) σ B d := fun B0 H e a Q q => ho B0 H e a _ fun v d1 B1 H1 g r hd => by
  subst hd
  have r0 := r
  obtain ⟨p, xs, rfl, ⟨hlen, dx, hp⟩, rs⟩ := r.ndI
  refine ⟨p, dx, _, rfl, g.sub p _ hp, zip_no hn, ha B1 H1 (e.trans g.grow) g.at_ _ fun vs ds' B2 H2 g2 r2 hd2 => ?_⟩
  subst hd2
  refine ⟨B2, _, g2.sub, ?_, ⟨d, hf⟩, fun r hr v B3 H3 g3 r3 => q v r B3 H3 ((g.trans g2).trans (g3.ofStill g2.at_)) r3 (only r hr)⟩
  rw [List.append_nil]; exact .cons (r0.up g2.grow) r2
theorem d_propR (ho : EvD m K ta σ B (.nd (.ob C fs) l)) (hf : R [.nd (.ob C fs) l] d) (only : ∀ r, R [.nd (.ob C fs) l] r → r = d) : EvD m K (tProp C (spR K R) [] E ta) σ B d := fun B0 H e a Q q => ho B0 H e a _ fun v d1 B1 H1 g r hd => by
  subst hd
  have r0 := r
  obtain ⟨p, xs, rfl, ⟨hlen, dx, hp⟩, rs⟩ := r.ndI
  exact ⟨p, dx, _, rfl, g.sub p _ hp, B1, _, g.sub, .cons r0 .nil, ⟨d, hf⟩, fun r hr v B3 H3 g3 r3 => q v r B3 H3 (g.trans (g3.ofStill g.at_)) r3 (only r hr)⟩
end
section
variable {P : Program} {w : World} {K : PySem.W.Frag} {mg : Str → Option Value} {base : Heap} {x qual : Str} {st : Stmt} {f C : Addr} {fd : FuncData} {N ps : List Str} {k : Nat}
theorem ok_R {R : List D → D → Prop} (F : Fun K x qual st f fd) (S : FnScope N ps (defScope st)) (hl : ∀ ds r, R ds r → ds.length = ps.length)
    (hb : ∀ (cdv : Value) (A : Around) (outer : List Env) (s : Shared) (B H : Hp) (vs : List V) (Q : VK) (E : XK), Room k (A.deeper (envOfC qual (defScope st) s.heap.objs.size f cdv)) → ∀ ds, At still B H → RepA K B vs ds → (∃ r, R ds r) →
      (∀ r, R ds r → ∀ v B1 H1, Gr still B H B1 H1 → Rep K B1 v r → Q v H1) →
      ∃ t, PSs (cxOf CX0 P w K mg base N qual (defScope st) f cdv A outer s H E).nox (defBody st) t ∧ t { nx := fun _ H' => Q .non H', rt := Q } (start N vs) H) : FnOk P w K mg base CX0 (k + 1) f fd ps (spR K R) :=
  F.ok S (fun vs H Q E ⟨B, ds, _, hR, ⟨r, hF⟩, _⟩ => by rw [hR.len]; exact hl ds r hF) fun cdv A outer s H vs Q E hr ⟨B, ds, e, hR, hF, ok⟩ => hb cdv A outer s B H vs Q E hr ds ⟨e, fun _ z => z.elim, trivial⟩ hR hF ok
end
theorem str_empty_app (x : Str) : Str.empty ++ x = x := by
  show (⟨#[] ++ x.cps⟩ : Str) = x
  simp
end Fq
set_option Elab.async false
set_option linter.all false
set_option maxRecDepth 100000
/-! a list of one counted int that a def of the law turns -/
namespace Fq
open PySem PySem.Spec PyProof.Rows L2 Evl
def md1 (p : Addr) : Md where
  M := fun a => a = p
  J := fun H => ∃ k : Int, 0 ≤ k ∧ H p = some (.lst [.int k])
  live := fun {H a} h e => by obtain ⟨k, _, q⟩ := h; exact ⟨_, by rw [e]; exact q⟩
  only := fun {H H1} e h => by obtain ⟨k, q1, q2⟩ := h; exact ⟨k, q1, by rw [e p rfl]; exact q2⟩
theorem Gr.poke {p : Addr} {B H B1 H1 : Hp} (g : Gr (md1 p) B H B1 H1) {k : Int} (hk : 0 ≤ k) : Gr (md1 p) B H B1 (L2.upd H1 p (.lst [.int k])) where
  sub := fun a u e => by rw [upd_ne (ne_of_none e (g.noM p rfl))]; exact g.sub a u e
  keep := fun a o n e => by rw [upd_ne n]; exact g.keep a o n e
  grow := g.grow
  new := g.new
  there := fun a o e => by
    by_cases c : a = p
    · exact ⟨_, by rw [c]; exact upd_same⟩
    · rw [upd_ne c]; exact g.there a o e
  noM := g.noM
  j := ⟨k, hk, upd_same⟩
/-- a stream of digits: s the pair, dgt the digits, p the place -/
structure Strm (B : Hp) (s dgt p : Addr) (out : List Int) : Prop where
  pair : B s = some (.lst [.ref dgt, .ref p])
  digs : B dgt = some (.lst (out.map V.int))
  some_ : out ≠ []
  pos : ∀ x ∈ out, 0 ≤ x
  short : out.length ≤ 100000
theorem Strm.up {B B1 : Hp} {s dgt p : Addr} {out : List Int} (S : Strm B s dgt p out) (e : Ex B B1) : Strm B1 s dgt p out := ⟨e _ _ S.pair, e _ _ S.digs, S.some_, S.pos, S.short⟩
def spNext (K : PySem.W.Frag) : Sp := fun vs H Q _ => ∃ s dgt p out k many, vs = [.ref s, .int many] ∧ Strm H s dgt p out ∧ H p = some (.lst [.int k]) ∧ 0 ≤ k ∧ 0 < many ∧ ∀ v : Int, 0 ≤ v → v < many → Q (.int v) (upd H p (.lst [.int (k + 1)]))
section
variable {K : PySem.W.Frag} {σ : L2.St} {B H : Hp} {tm te : TE} {s dgt p : Addr} {out : List Int} {E : XK}
theorem r_next {j : Nat} {many : Int} (S : Strm B s dgt p out) (hj : σ[j]? = some (some (.ref s))) (hm : EvD (md1 p) K tm σ B (.int many)) (h0 : 0 < many) :
    EvR (md1 p) K (tCall (spNext K) [] E (tCons (tVar j) (tCons tm tNil))) σ B (fun d => ∃ i, d = .int i ∧ 0 ≤ i ∧ i < many) := fun B0 H e a Q q => ⟨.ref s, hj, hm B0 H e a _ fun v d B1 H1 g r hd => by
  subst hd
  obtain rfl := r.intI
  obtain ⟨k, hk, hp⟩ := g.j
  refine ⟨s, dgt, p, out, k, many, rfl, (S.up (e.trans g.grow)).up g.sub, hp, hk, h0, fun v hv0 hv1 => ?_⟩
  exact q (.int v) (.int v) B1 _ (g.poke (by omega)) (.int v) ⟨v, rfl, hv0, hv1⟩⟩
end
end Fq
namespace Fq
open L2
theorem arg_call {sp : Sp} {dvs : List V} {E : XK} {ta : TA} {σ : L2.St} {H : Hp} {Q : List V → Hp → Prop} (h : ta σ H fun vs H1 => sp (vs ++ dvs) H1 (fun x H2 => Q [x] H2) E) : tCons (tCall sp dvs E ta) tNil σ H Q := h
end Fq
set_option Elab.async false
set_option linter.all false
set_option maxRecDepth 100000
namespace Fq
open PySem L2 Evl
def top (i : Nat) : Stmt := PySem.Challenge.pw_fieldquery_k00_schemas.main.body.getD i (.Pass ⟨0, 0, 0, 0⟩)
abbrev s__demand : Stmt := top 16
theorem sc__demand : FnScope ["holds", "message"] ["holds", "message"] (defScope s__demand) := ⟨rfl, rfl, rfl, by decide +kernel, rfl, by decide +kernel, by decide +kernel⟩
abbrev s__is_short_text : Stmt := top 19
theorem sc__is_short_text : FnScope ["name"] ["name"] (defScope s__is_short_text) := ⟨rfl, rfl, rfl, by decide +kernel, rfl, by decide +kernel, by decide +kernel⟩
abbrev s__has_only : Stmt := top 20
theorem sc__has_only : FnScope ["text", "letters", "letter"] ["text", "letters"] (defScope s__has_only) := ⟨rfl, rfl, rfl, by decide +kernel, rfl, by decide +kernel, by decide +kernel⟩
abbrev s__is_field_name : Stmt := top 18
theorem sc__is_field_name : FnScope ["name"] ["name"] (defScope s__is_field_name) := ⟨rfl, rfl, rfl, by decide +kernel, rfl, by decide +kernel, by decide +kernel⟩
abbrev s__is_type_name : Stmt := top 17
theorem sc__is_type_name : FnScope ["name"] ["name"] (defScope s__is_type_name) := ⟨rfl, rfl, rfl, by decide +kernel, rfl, by decide +kernel, by decide +kernel⟩
abbrev s__are_names : Stmt := top 21
theorem sc__are_names : FnScope ["targets", "type_names", "target"] ["targets", "type_names"] (defScope s__are_names) := ⟨rfl, rfl, rfl, by decide +kernel, rfl, by decide +kernel, by decide +kernel⟩
abbrev s__all_differ : Stmt := top 22
theorem sc__all_differ : FnScope ["names"] ["names"] (defScope s__all_differ) := ⟨rfl, rfl, rfl, by decide +kernel, rfl, by decide +kernel, by decide +kernel⟩
abbrev s__check_definition : Stmt := top 15
theorem sc__check_definition : FnScope ["type_name", "definition", "type_names", "is_tuple", "name", "has_argument", "kind", "targets"] ["type_name", "definition", "type_names"] (defScope s__check_definition) := ⟨rfl, rfl, rfl, by decide +kernel, rfl, by decide +kernel, by decide +kernel⟩
abbrev s__check_fields : Stmt := top 14
theorem sc__check_fields : FnScope ["type_name", "fields", "type_names", "definition", "names"] ["type_name", "fields", "type_names"] (defScope s__check_fields) := ⟨rfl, rfl, rfl, by decide +kernel, rfl, by decide +kernel, by decide +kernel⟩
abbrev s__check_pair : Stmt := top 13
theorem sc__check_pair : FnScope ["pair", "name", "fields", "is_tuple"] ["pair"] (defScope s__check_pair) := ⟨rfl, rfl, rfl, by decide +kernel, rfl, by decide +kernel, by decide +kernel⟩
abbrev s__check_types : Stmt := top 12
theorem sc__check_types : FnScope ["types", "is_tuple", "pair", "names", "name", "fields"] ["types"] (defScope s__check_types) := ⟨rfl, rfl, rfl, by decide +kernel, rfl, by decide +kernel, by decide +kernel⟩
abbrev s_Schema_init : Stmt := inClass (top 10) 0
theorem sc_Schema_init : FnScope ["self", "types", "pair", "name", "fields", "definition"] ["self", "types"] (defScope s_Schema_init) := ⟨rfl, rfl, rfl, by decide +kernel, rfl, by decide +kernel, by decide +kernel⟩
abbrev s_Schema_root : Stmt := inClass (top 10) 1
theorem sc_Schema_root : FnScope ["self"] ["self"] (defScope s_Schema_root) := ⟨rfl, rfl, rfl, by decide +kernel, rfl, by decide +kernel, by decide +kernel⟩
abbrev s_Schema_field_of : Stmt := inClass (top 10) 2
theorem sc_Schema_field_of : FnScope ["self", "type_name", "name"] ["self", "type_name", "name"] (defScope s_Schema_field_of) := ⟨rfl, rfl, rfl, by decide +kernel, rfl, by decide +kernel, by decide +kernel⟩
abbrev s_Schema_place_of : Stmt := inClass (top 10) 3
theorem sc_Schema_place_of : FnScope ["self", "type_names", "name"] ["self", "type_names"] (defScope s_Schema_place_of) := ⟨rfl, rfl, rfl, by decide +kernel, rfl, by decide +kernel, by decide +kernel⟩
abbrev s_Schema_targets_of : Stmt := inClass (top 10) 4
theorem sc_Schema_targets_of : FnScope ["self", "type_name", "name", "targets"] ["self", "type_name", "name"] (defScope s_Schema_targets_of) := ⟨rfl, rfl, rfl, by decide +kernel, rfl, by decide +kernel, by decide +kernel⟩
abbrev s_field_key : Stmt := top 11
theorem sc_field_key : FnScope ["field", "name", "number"] ["field"] (defScope s_field_key) := ⟨rfl, rfl, rfl, by decide +kernel, rfl, by decide +kernel, by decide +kernel⟩
abbrev s__law_cell : Stmt := top 24
theorem sc__law_cell : FnScope ["script", "k"] ["script", "k"] (defScope s__law_cell) := ⟨rfl, rfl, rfl, by decide +kernel, rfl, by decide +kernel, by decide +kernel⟩
abbrev s__law_draws : Stmt := top 25
theorem sc__law_draws : FnScope ["cell", "count", "number", "great", "found", "k", "mixed"] ["cell", "count"] (defScope s__law_draws) := ⟨rfl, rfl, rfl, by decide +kernel, rfl, by decide +kernel, by decide +kernel⟩
abbrev s__law_stream : Stmt := top 26
theorem sc__law_stream : FnScope ["script", "first", "count", "found", "k"] ["script", "first", "count"] (defScope s__law_stream) := ⟨rfl, rfl, rfl, by decide +kernel, rfl, by decide +kernel, by decide +kernel⟩
abbrev s__law_next : Stmt := top 27
theorem sc__law_next : FnScope ["stream", "many", "digits", "place", "value"] ["stream", "many"] (defScope s__law_next) := ⟨rfl, rfl, rfl, by decide +kernel, rfl, by decide +kernel, by decide +kernel⟩
abbrev s__law_types : Stmt := top 28
theorem sc__law_types : FnScope ["stream", "names", "types", "name", "fields", "word", "kind", "targets", "k", "target"] ["stream"] (defScope s__law_types) := ⟨rfl, rfl, rfl, by decide +kernel, rfl, by decide +kernel, by decide +kernel⟩
abbrev s__law_field : Stmt := top 29
theorem sc__law_field : FnScope ["types", "type_name", "name", "other", "fields", "field"] ["types", "type_name", "name"] (defScope s__law_field) := ⟨rfl, rfl, rfl, by decide +kernel, rfl, by decide +kernel, by decide +kernel⟩
abbrev s__law_place : Stmt := top 30
theorem sc__law_place : FnScope ["types", "names", "name", "fields"] ["types", "names"] (defScope s__law_place) := ⟨rfl, rfl, rfl, by decide +kernel, rfl, by decide +kernel, by decide +kernel⟩
abbrev s__law_is_integer : Stmt := top 31
theorem sc__law_is_integer : FnScope ["actual"] ["actual"] (defScope s__law_is_integer) := ⟨rfl, rfl, rfl, by decide +kernel, rfl, by decide +kernel, by decide +kernel⟩
abbrev s__law_same : Stmt := top 32
theorem sc__law_same : FnScope ["actual", "expected", "key", "k"] ["actual", "expected"] (defScope s__law_same) := ⟨rfl, rfl, rfl, by decide +kernel, rfl, by decide +kernel, by decide +kernel⟩
abbrev s_law : Stmt := top 33
theorem sc_law : FnScope ["script", "stream", "types", "schema", "names", "name", "word", "definition", "turned", "number", "fields", "k"] ["script"] (defScope s_law) := ⟨rfl, rfl, rfl, by decide +kernel, rfl, by decide +kernel, by decide +kernel⟩
def capitals : Str := "ABCDEFGHIJKLMNOPQRSTUVWXYZ"
def smalls : Str := "abcdefghijklmnopqrstuvwxyz"
def kinds : List Str := ["int", "one", "many"]
/-- what the module's names hold -/
structure Txt (K : PySem.W.Frag) (mg : Str → Option Value) (CB aKinds : Addr) : Prop where
  n_len : mg "len" = none
  n_set : mg "set" = none
  n_isinstance : mg "isinstance" = none
  n_str : mg "str" = none
  n_tuple : mg "tuple" = none
  n_bool : mg "bool" = none
  n_int : mg "int" = none
  n_list : mg "list" = none
  n_dict : mg "dict" = none
  n_all : mg "all" = none
  n_abs : mg "abs" = none
  n_range : mg "range" = none
  c_MOST_TYPES : ∃ u, mg "MOST_TYPES" = some u ∧ RelV (.int 5) u
  c_MOST_FIELDS : ∃ u, mg "MOST_FIELDS" = some u ∧ RelV (.int 6) u
  c_LONGEST_NAME : ∃ u, mg "LONGEST_NAME" = some u ∧ RelV (.int 8) u
  c_CAPITALS : ∃ u, mg "CAPITALS" = some u ∧ RelV (.str capitals) u
  c_SMALL_LETTERS : ∃ u, mg "SMALL_LETTERS" = some u ∧ RelV (.str smalls) u
  c_KINDS : ∃ u, mg "KINDS" = some u ∧ RelV (.ref aKinds) u
  s_KINDS : ∀ H, SqT K H aKinds (kinds.map V.str)
  xBad : PySem.W.excIn K CB [.type "ValueError", .type "Exception", .type "BaseException", .type "object"] "ValueError.__new__" = true
  gBad : mg "BadSchema" = some (.ref CB)
  kBad : PySem.W.keepIn K (.ref CB) = true
  sBad : PySem.W.subIn K (.ref CB) (.type "BaseException") = some true
  tBad : PySem.W.typeIn K (.ref CB) = some (.type "type")
end Fq
namespace Fq
open PySem L2 Evl
/-- the class Schema -/
structure TxS (K : PySem.W.Frag) (mg : Str → Option Value) (CS : Addr) : Prop where
  cl_Schema : Cls K CS
  g_Schema : mg "Schema" = some (.ref CS)
  n_types : NoAttr K CS "types"
  n_names : NoAttr K CS "names"
  n_defs : NoAttr K CS "_definitions"
end Fq
set_option Elab.async false
set_option linter.all false
set_option maxRecDepth 100000
set_option maxHeartbeats 4000001
namespace Fq
open PySem L2 Evl
section
variable {P : Program} {w : World} {K : PySem.W.Frag} {mg : Str → Option Value} {base : Heap} {f CB aKinds : Addr} {fd : FuncData}
/-! ### the checks, of data -/
/-- shallow: no instance; a text is short enough to be measured -/
def D.tame : D → Bool
  | .str x => decide (x.length ≤ 1000)
  | .nd (.ob _ _) _ => false
  | .nd (.dt _) _ => false
  | _ => true
theorem D.tame_plain {d : D} (h : d.tame = true) : d.plain = true := by
  cases d with
  | nd t l => cases t <;> first | rfl | cases h
  | _ => rfl
def D.isStr : D → Bool
  | .str _ => true
  | _ => false
def D.isBl : D → Bool
  | .bl _ => true
  | _ => false
def D.isTup : D → Bool
  | .nd .tup _ => true
  | _ => false
theorem kit_str {d : D} (h : d.plain = true) : kitB d.ty "str" = some d.isStr := by
  cases d with
  | nd t l => cases t <;> first | (show kitB "tuple" "str" = some false; decide +kernel) | (show kitB "list" "str" = some false; decide +kernel) | (show kitB "dict" "str" = some false; decide +kernel) | cases h
  | str x => show kitB "str" "str" = some true; decide +kernel
  | non => show kitB "NoneType" "str" = some false; decide +kernel
  | bl b => show kitB "bool" "str" = some false; decide +kernel
  | int i => show kitB "int" "str" = some false; decide +kernel
theorem kit_bool {d : D} (h : d.plain = true) : kitB d.ty "bool" = some d.isBl := by
  cases d with
  | nd t l => cases t <;> first | (show kitB "tuple" "bool" = some false; decide +kernel) | (show kitB "list" "bool" = some false; decide +kernel) | (show kitB "dict" "bool" = some false; decide +kernel) | cases h
  | str x => show kitB "str" "bool" = some false; decide +kernel
  | non => show kitB "NoneType" "bool" = some false; decide +kernel
  | bl b => show kitB "bool" "bool" = some true; decide +kernel
  | int i => show kitB "int" "bool" = some false; decide +kernel
theorem kit_tuple {d : D} (h : d.plain = true) : kitB d.ty "tuple" = some d.isTup := by
  cases d with
  | nd t l => cases t <;> first | (show kitB "tuple" "tuple" = some true; decide +kernel) | (show kitB "list" "tuple" = some false; decide +kernel) | (show kitB "dict" "tuple" = some false; decide +kernel) | cases h
  | str x => show kitB "str" "tuple" = some false; decide +kernel
  | non => show kitB "NoneType" "tuple" = some false; decide +kernel
  | bl b => show kitB "bool" "tuple" = some false; decide +kernel
  | int i => show kitB "int" "tuple" = some false; decide +kernel
/-- isinstance against a built-in class of the text -/
theorem ty_c (n : String) : ∀ (σ : L2.St) H (Q : VK), Q (.ty n) H → tC (.ty n) σ H Q := fun _ _ _ q => q
def fDemand : List D → Option (Option D)
  | [.bl b, _] => some (if b then some .non else none)
  | _ => none
theorem ok_demand (T : Txt K mg CB aKinds) (F : Fun K "_demand" "_demand" s__demand f fd) : FnOk P w K mg base (CX P w) 1 f fd ["holds", "message"] (spX K CB fDemand) := by
  refine ok_X F sc__demand (fun ds r h => ?_) (fun cdv A outer s B H vs Q E hr ds r a hR hF ok er => ?_)
  · match ds, h with
    | [.bl b, d], _ => rfl
  · match ds, hF with
    | [.bl b, d], hF =>
      obtain ⟨x, y, rfl, r1, r2⟩ := hR.i2
      refine ⟨_, pss_one (ps_if (pt_not (pt_val (pv 0))) (pss_one (ps_raise rfl (takes_of rfl rfl rfl rfl) (SkE.pmk_own1 PySem.F.excBase_ValueError T.xBad T.gBad T.kBad (raises_own T.sBad T.tBad) rfl (pv 1)))) pss_nil), ?_⟩
      refine x_when a (t_not (t_val (K := K) (d_var rfl r1))) (fun hb B1 H1 g1 => ?_) (fun hb B1 H1 g1 => ?_)
      · refine ⟨y, rfl, er ?_ B1 H1 g1⟩
        cases b <;> simp_all [fDemand]
      · refine ok .non ?_ _ B1 H1 g1 .non
        cases b <;> simp_all [fDemand]
def shortB : D → Bool
  | .str x => decide ((1 : Int) ≤ x.length) && decide ((x.length : Int) ≤ 8)
  | _ => false
def fShort : List D → Option D
  | [d] => if d.tame then some (.bl (shortB d)) else none
  | _ => none
theorem ok_short (T : Txt K mg CB aKinds) (F : Fun K "_is_short_text" "_is_short_text" s__is_short_text f fd) : FnOk P w K mg base CX0 1 f fd ["name"] (spF K fShort) := by
  refine ok_F F sc__is_short_text (fun ds r h => ?_) (fun cdv A outer s B H vs Q E hr ds r a hR hF ok => ?_)
  · match ds, h with
    | [d], _ => rfl
  · match ds, hF with
    | [d], hF =>
      obtain ⟨x, rfl, r1⟩ := hR.i1
      have ht : d.tame = true := by
        cases q : d.tame with
        | true => rfl
        | false => simp [fShort, q] at hF
      have hp := D.tame_plain ht
      have hr' : r = .bl (shortB d) := by simp [fShort, ht] at hF; exact hF.symm
      subst hr'
      refine ⟨_, pss_one (ps_ret (pe_and (pe_callB call_isi (by rfl) T.n_isinstance (by decide +kernel : bootBuiltins "isinstance" = some (.builtin "isinstance")) (pa_cons (pv 0) (pa_cons (pe_bltn (v := .ty "str") (u := .type "str") (by rfl) T.n_str (by decide +kernel) rfl) pa_nil))) (pe_one (pe_chain op_le op_le pe_int (pe_callB call_len_str (by rfl) T.n_len PySem.boot_len (pa_cons (pv 0) pa_nil)) (pe_gl rfl T.c_LONGEST_NAME))))), ?_⟩
      refine x_ret a (d_is (d_and (b := shortB d) (d_isi (d_var rfl r1) hp (ty_c "str") (kit_str hp)) (fun hs => ?_)) ?_) ok
      · match d, hs, ht, r1 with
        | .str z, _, ht, r1 =>
          have hz : z.length ≤ 1000 := of_decide_eq_true ht
          exact d_chain d_int (d_lenS (d_var rfl r1) (by omega)) d_int
      · cases d <;> simp [D.isStr, shortB]
def onlyB (t l : Str) : Bool := t.cps.toList.all fun c => decide (c ∈ l.cps.toList)
def fOnly : List D → Option D
  | [.str t, .str l] => if t.length ≤ 1000 then some (.bl (onlyB t l)) else none
  | _ => none
theorem ok_only (T : Txt K mg CB aKinds) (F : Fun K "_has_only" "_has_only" s__has_only f fd) : FnOk P w K mg base CX0 1 f fd ["text", "letters"] (spF K fOnly) := by
  refine ok_F F sc__has_only (fun ds r h => ?_) (fun cdv A outer s B H vs Q E hr ds r a hR hF ok => ?_)
  · match ds, h with
    | [.str t, .str l], _ => rfl
  · match ds, hF with
    | [.str t, .str l], hF =>
      obtain ⟨x, y, rfl, r1, r2⟩ := hR.i2
      have hl : t.length ≤ 1000 := by
        by_cases q : t.length ≤ 1000
        · exact q
        · simp [fOnly, q] at hF
      have hr' : r = .bl (onlyB t l) := by simp [fOnly, hl] at hF; exact hF.symm
      subst hr'
      refine ⟨_, pss_one (ps_ret (pe_callB (cr_all rfl) (by rfl) T.n_all (by decide +kernel : bootBuiltins "all" = some (.builtin "all")) (pa_cons (pe_lc (own := [(("letter" : Str), 2)]) (g := gName 2) (tt := tYes) rfl sc__has_only.nd (pi_str (pv 0)) (blkOk_by (own := [(("letter" : Str), 2)]) (N := ["text", "letters", "letter"]) (sc := defScope s__has_only) (by decide +kernel)) (fun _ _ _ _ _ => (pg_name (i := 2) sc__has_only.nd rfl (Or.inl rfl))) (fun _ _ _ _ _ => pts_nil) (fun _ _ _ _ _ => (pe_cmpR op_in_sign (pv 2) (pv 1) rfl))) pa_nil))), ?_⟩
      have hsg : ∀ d : D, d ∈ (t.cps.toList.map fun c => D.str ⟨#[c]⟩) → ∃ c, d = .str ⟨#[c]⟩ := fun d hd => by
        obtain ⟨c, _, e⟩ := List.mem_map.mp hd
        exact ⟨c, e.symm⟩
      obtain rfl := r1.strI
      obtain rfl := r2.strI
      refine x_ret a (d_is (d_all (bs := t.cps.toList.map fun c => decide (c ∈ l.cps.toList)) (d_is (d_lcS (fun _ => true) (fun d => match d with
        | .str z => .bl (decide (z.cps.toList.headD 0 ∈ l.cps.toList))
        | _ => .non) (d_var rfl r1) (by omega) fun c hc => ⟨[some (.str t), some (.str l), some (.str ⟨#[c]⟩)], rfl, fun H Q q => q, t_yes, fun _ => ?_⟩) ?_)) ?_) ok
      · exact d_inS (d_var rfl (.str _)) (d_var rfl r2)
      · rw [filter_yes, List.map_map, List.map_map]; rfl
      · simp [onlyB, List.all_map, Function.comp]
end
end Fq
set_option Elab.async false
set_option linter.all false
set_option maxRecDepth 100000
set_option maxHeartbeats 4000001
namespace Fq
open PySem L2 Evl
section
variable {m : Md} {P : Program} {w : World} {K : PySem.W.Frag} {mg : Str → Option Value} {base : Heap} {f CB aKinds : Addr} {fd : FuncData} {DD : Ends} {tz : TS} {σ : L2.St} {B H : Hp} {te tm : TE}
theorem x_demand {b : Bool} {E : XK} (a : At m B H) (hc : EvD m K te σ B (.bl b)) (hm : ∃ dm, EvD m K tm σ B dm) (ok : b = true → ∀ B1 H1, Gr m B H B1 H1 → DD.nx σ H1) (er : b = false → ∀ B1 H1, Gr m B H B1 H1 → E (.ref CB) none H1) :
    tDrop (tCall (spX K CB fDemand) [] E (tCons te (tCons tm tNil))) DD σ H := by
  obtain ⟨dm, hm⟩ := hm
  exact x_callX (r := if b then some .non else none) a (da_cons hc (da_one hm)) rfl (fun d e => by
      cases b with
      | true => exact ok rfl
      | false => cases e) (fun e => by
      cases b with
      | true => cases e
      | false => exact er rfl)
theorem msg_0 {c : Str} : ∃ dm, EvD m K (tC (.str c)) σ B dm := ⟨_, d_str⟩
theorem msg_1 {i : Nat} {c tn : Str} {x : V} (h0 : σ[i]? = some (some x)) (r : Rep K B x (.str tn)) (htn : tn.length ≤ 1000) (hc : c.length ≤ 100) :
    ∃ dm, EvD m K (fun σ H Q => tJs [tFmt (tVar i), tC (.str c)] Str.empty σ H fun out H1 => Q (.str out) H1) σ B dm := by
  obtain ⟨z, hz⟩ := d_msg (m := m) (mo_cons 1000 (d_fmt (K := K) (d_var h0 r) (by omega)) htn (by omega) (mo_cons 100 (d_str (K := K) (x := c)) hc (by omega) mo_nil))
  exact ⟨_, hz⟩
theorem msg_2 {i j : Nat} {c u tn fn : Str} {x y : V} (h0 : σ[i]? = some (some x)) (r : Rep K B x (.str tn)) (htn : tn.length ≤ 1000) (h1 : σ[j]? = some (some y)) (s : Rep K B y (.str fn)) (hfn : fn.length ≤ 1000) (hu : u.length ≤ 100) (hc : c.length ≤ 100) :
    ∃ dm, EvD m K (fun σ H Q => tJs [tFmt (tVar i), tC (.str u), tFmt (tVar j), tC (.str c)] Str.empty σ H fun out H1 => Q (.str out) H1) σ B dm := by
  obtain ⟨z, hz⟩ := d_msg (m := m) (mo_cons 1000 (d_fmt (K := K) (d_var h0 r) (by omega)) htn (by omega) (mo_cons 100 (d_str (K := K) (x := u)) hu (by omega) (mo_cons 1000 (d_fmt (K := K) (d_var h1 s) (by omega)) hfn (by omega) (mo_cons 100 (d_str (K := K) (x := c)) hc (by omega) mo_nil))))
  exact ⟨_, hz⟩
theorem y_demand {b : Bool} {E : XK} (a : At m B H) (hc : EvD m K te σ B (.bl b)) (hm : ∃ dm, EvD m K tm σ B dm) (ok : b = true → ∀ B1 H1, Gr m B H B1 H1 → tz DD σ H1) (er : b = false → ∀ B1 H1, Gr m B H B1 H1 → E (.ref CB) none H1) :
    tSeq (tDrop (tCall (spX K CB fDemand) [] E (tCons te (tCons tm tNil)))) tz DD σ H := x_demand (DD := { DD with nx := tz DD }) a hc hm ok er
def fieldNameB : D → Bool
  | .str x => shortB (.str x) && onlyB x smalls
  | _ => false
def fFieldName : List D → Option D
  | [d] => if d.tame then some (.bl (fieldNameB d)) else none
  | _ => none
theorem some_tame {d r : D} {c : D} (h : (if d.tame = true then some c else none) = some r) : d.tame = true ∧ r = c := by
  cases q : d.tame with
  | true => rw [q, if_pos rfl] at h; exact ⟨rfl, (Option.some.inj h).symm⟩
  | false => rw [q, if_neg (by decide)] at h; cases h
theorem short_isStr {d : D} (h : shortB d = true) : ∃ x, d = .str x := by
  cases d with
  | str x => exact ⟨x, rfl⟩
  | _ => cases h
theorem ok_fieldName (T : Txt K mg CB aKinds) (d__is_short_text : Cal P w K mg base CX0 1 "_is_short_text" ["name"] (spF K fShort)) (d__has_only : Cal P w K mg base CX0 1 "_has_only" ["text", "letters"] (spF K fOnly))
    (F : Fun K "_is_field_name" "_is_field_name" s__is_field_name f fd) : FnOk P w K mg base CX0 2 f fd ["name"] (spF K fFieldName) := by
  refine ok_F F sc__is_field_name (fun ds r h => ?_) (fun cdv A outer s B H vs Q E hr ds r a hR hF ok => ?_)
  · match ds, h with
    | [d], _ => rfl
  · match ds, hF with
    | [d], hF =>
      obtain ⟨x, rfl, r1⟩ := hR.i1
      obtain ⟨ht, rfl⟩ := some_tame hF
      refine ⟨_, pss_one (ps_ret (pe_and (pe_cal d__is_short_text (hr.mono (by decide)) rfl pass0 (pa_cons (pv 0) pa_nil)) (pe_one (pe_cal d__has_only (hr.mono (by decide)) rfl pass0 (pa_cons (pv 0) (pa_cons (pe_gl rfl T.c_SMALL_LETTERS) pa_nil)))))), ?_⟩
      refine x_ret a (d_is (d_and (a := shortB d) (b := fieldNameB d) (d_call (da_one (d_var rfl r1)) (by simp [fShort, ht])) (fun hs => ?_)) ?_) ok
      · obtain ⟨z, rfl⟩ := short_isStr hs
        have hz : z.length ≤ 1000 := of_decide_eq_true ht
        exact d_is (d_call (da_cons (d_var rfl r1) (da_one (d_c (.str _)))) (show fOnly [.str z, .str smalls] = some (.bl (onlyB z smalls)) by simp [fOnly, hz])) (by simp [fieldNameB, hs])
      · cases d <;> simp [fieldNameB, shortB]
def typeNameB : D → Bool
  | .str x => shortB (.str x) && (decide (x.cps.toList.headD 0 ∈ capitals.cps.toList) && onlyB x (capitals ++ smalls))
  | _ => false
def fTypeName : List D → Option D
  | [d] => if d.tame then some (.bl (typeNameB d)) else none
  | _ => none
theorem ok_typeName (T : Txt K mg CB aKinds) (d__is_short_text : Cal P w K mg base CX0 1 "_is_short_text" ["name"] (spF K fShort)) (d__has_only : Cal P w K mg base CX0 1 "_has_only" ["text", "letters"] (spF K fOnly))
    (F : Fun K "_is_type_name" "_is_type_name" s__is_type_name f fd) : FnOk P w K mg base CX0 2 f fd ["name"] (spF K fTypeName) := by
  refine ok_F F sc__is_type_name (fun ds r h => ?_) (fun cdv A outer s B H vs Q E hr ds r a hR hF ok => ?_)
  · match ds, h with
    | [d], _ => rfl
  · match ds, hF with
    | [d], hF =>
      obtain ⟨x, rfl, r1⟩ := hR.i1
      obtain ⟨ht, rfl⟩ := some_tame hF
      refine ⟨_, pss_cons (ps_if (pt_not (pt_val (pe_cal d__is_short_text (hr.mono (by decide)) rfl pass0 (pa_cons (pv 0) pa_nil)))) (pss_one (ps_ret pe_bl)) pss_nil)
  (pss_one (ps_ret (pe_and (pe_cmpR op_in_sign (pe_ix ix_str (pv 0) pe_int (fun _ _ => rfl)) (pe_gl rfl T.c_CAPITALS) rfl) (pe_one (pe_cal d__has_only (hr.mono (by decide)) rfl pass0 (pa_cons (pv 0) (pa_cons (pe_op op_add_str (pe_gl rfl T.c_CAPITALS) (pe_gl rfl T.c_SMALL_LETTERS)) pa_nil))))))), ?_⟩
      refine y_when a (t_not (t_val (d_call (d := .bl (shortB d)) (da_one (d_var rfl r1)) (by simp [fShort, ht])))) (fun hs B1 H1 g1 => ?_) (fun hs B1 H1 g1 => ?_)
      · have hs' : shortB d = false := by simpa using hs
        refine x_ret g1.at_ (d_bl (K := K)) fun v B2 H2 g2 r2 => ok v B2 H2 (g1.trans g2) ?_
        have e : typeNameB d = false := by cases d <;> simp_all [typeNameB]
        rw [e]; exact r2
      · have hs' : shortB d = true := by simpa using hs
        obtain ⟨z, rfl⟩ := short_isStr hs'
        have hz : z.length ≤ 1000 := of_decide_eq_true ht
        have hz1 : 1 ≤ z.length := by
          have q := (Bool.and_eq_true_iff.mp hs').1
          have q2 : (1 : Int) ≤ z.length := of_decide_eq_true q
          omega
        have hat : atI z.cps.toList 0 = some (z.cps.toList.headD 0) := by
          have hl : 0 < z.cps.toList.length := by
            have : z.cps.toList.length = z.length := by simp [Str.length]
            omega
          have : z.cps.toList[0]? = some (z.cps.toList.headD 0) := by
            cases h : z.cps.toList with
            | nil => rw [h] at hl; simp at hl
            | cons c r => rfl
          exact atI_nat (j := 0) this
        refine x_ret g1.at_ (d_is (d_and (d_inS (d_ixS (d_var rfl (r1.up g1.grow)) d_int (by omega) hat) (d_c (.str _))) fun _ =>
          d_call (da_cons (d_var rfl (r1.up g1.grow)) (da_one (d_addS (d_c (.str capitals)) (d_c (.str smalls)) (by decide +kernel)))) (show fOnly [.str z, .str (capitals ++ smalls)] = some (.bl (onlyB z (capitals ++ smalls))) by simp [fOnly, hz])) ?_)
          fun v B2 H2 g2 r2 => ok v B2 H2 (g1.trans g2) r2
        simp [typeNameB, hs']
/-! lists of texts as data -/
def strsOf : List D → Option (List Str)
  | [] => some []
  | .str x :: r => (strsOf r).map (x :: ·)
  | _ :: _ => none
theorem strsOf_map : ∀ {l : List D} {xs : List Str}, strsOf l = some xs → l = xs.map D.str
  | [], xs, h => by cases h; rfl
  | .str x :: r, xs, h => by
    cases q : strsOf r with
    | none => simp [strsOf, q] at h
    | some ys =>
      simp [strsOf, q] at h
      subst h
      rw [strsOf_map q]; rfl
  | .non :: _, _, h => by cases h
  | .bl _ :: _, _, h => by cases h
  | .int _ :: _, _, h => by cases h
  | .nd _ _ :: _, _, h => by cases h
theorem strsOf_of (xs : List Str) : strsOf (xs.map D.str) = some xs := by
  induction xs with
  | nil => rfl
  | cons x xs ih => simp [strsOf, ih]
def nameB (ns : List Str) : D → Bool
  | .str x => decide (x ∈ ns)
  | _ => false
def areB (ns : List Str) : D → Bool
  | .nd .tup l => l.all (nameB ns)
  | _ => false
/-- n levels of it are tame, and not too long -/
def D.tameN : Nat → D → Bool
  | 0, d => d.tame
  | n + 1, d => d.tame && (match d with
    | .nd _ l => decide (l.length ≤ 1000) && l.all (D.tameN n)
    | _ => true)
theorem D.tameN_tame {n : Nat} {d : D} (h : d.tameN n = true) : d.tame = true := by
  cases n with
  | zero => exact h
  | succ n => exact (Bool.and_eq_true_iff.mp h).1
theorem D.tameN_kid {n : Nat} {t : Tag} {l : List D} (h : (D.nd t l).tameN (n + 1) = true) : l.length ≤ 1000 ∧ ∀ d ∈ l, d.tameN n = true := by
  have h2 := (Bool.and_eq_true_iff.mp h).2
  have h3 := Bool.and_eq_true_iff.mp h2
  exact ⟨of_decide_eq_true h3.1, fun d hd => List.all_eq_true.mp h3.2 d hd⟩
def fAre : List D → Option D
  | [d, .nd .lst l] => (strsOf l).bind fun ns => if d.tameN 1 then some (.bl (areB ns d)) else none
  | _ => none
theorem isTup_ex {d : D} (h : d.isTup = true) : ∃ l, d = .tup l := by
  cases d with
  | nd t l => cases t <;> first | exact ⟨l, rfl⟩ | cases h
  | _ => cases h
theorem ok_are (T : Txt K mg CB aKinds) (F : Fun K "_are_names" "_are_names" s__are_names f fd) : FnOk P w K mg base CX0 1 f fd ["targets", "type_names"] (spF K fAre) := by
  refine ok_F F sc__are_names (fun ds r h => ?_) (fun cdv A outer s B H vs Q E hr ds r a hR hF ok => ?_)
  · match ds, h with
    | [d, .nd .lst l], _ => rfl
  · match ds, hF with
    | [d, .nd .lst l], hF =>
      obtain ⟨x, y, rfl, r1, r2⟩ := hR.i2
      cases hn : strsOf l with
      | none => simp [fAre, hn] at hF
      | some ns =>
        obtain rfl := strsOf_map hn
        have ht : d.tameN 1 = true := by
          cases q : d.tameN 1 with
          | true => rfl
          | false => simp [fAre, hn, q] at hF
        obtain rfl : r = .bl (areB ns d) := by simp [fAre, hn, ht] at hF; exact hF.symm
        have hp := D.tame_plain (D.tameN_tame ht)
        refine ⟨_, pss_cons (ps_if (pt_not (pt_val (pe_callB call_isi (by rfl) T.n_isinstance (by decide +kernel : bootBuiltins "isinstance" = some (.builtin "isinstance")) (pa_cons (pv 0) (pa_cons (pe_bltn (v := .ty "tuple") (u := .type "tuple") (by rfl) T.n_tuple (by decide +kernel) rfl) pa_nil))))) (pss_one (ps_ret pe_bl)) pss_nil)
  (pss_one (ps_ret (pe_callB (cr_all rfl) (by rfl) T.n_all (by decide +kernel : bootBuiltins "all" = some (.builtin "all")) (pa_cons (pe_lc (own := [(("target" : Str), 2)]) (g := gName 2) (tt := tYes) rfl sc__are_names.nd (pi_tup (pv 0)) (blkOk_by (own := [(("target" : Str), 2)]) (N := ["targets", "type_names", "target"]) (sc := defScope s__are_names) (by decide +kernel)) (fun _ _ _ _ _ => (pg_name (i := 2) sc__are_names.nd rfl (Or.inl rfl))) (fun _ _ _ _ _ => pts_nil) (fun _ _ _ _ _ => (pe_and (pe_callB (call_isi : CallR _ (.builtin "isinstance") (rIsi K)) (by rfl) T.n_isinstance (by decide +kernel : bootBuiltins "isinstance" = some (.builtin "isinstance")) (pa_cons (pv 2) (pa_cons (pe_bltn (v := .ty "str") (u := .type "str") (by rfl) T.n_str (by decide +kernel) rfl) pa_nil))) (pe_one (pe_cmpR (op_in_seq : OpR _ (compareOp .In) (rIn K false)) (pv 2) (pv 1) rfl))))) pa_nil)))), ?_⟩
        refine y_when a (t_not (t_val (d_isi (d_var rfl r1) hp (ty_c "tuple") (kit_tuple hp)))) (fun hs B1 H1 g1 => ?_) (fun hs B1 H1 g1 => ?_)
        · have hs' : d.isTup = false := by simpa using hs
          refine x_ret g1.at_ (d_bl (K := K)) fun v B2 H2 g2 r2 => ok v B2 H2 (g1.trans g2) ?_
          have e : areB ns d = false := by
            cases d with
            | nd t l => cases t <;> first | rfl | cases hs'
            | _ => rfl
          rw [e]; exact r2
        · have hs' : d.isTup = true := by simpa using hs
          obtain ⟨tl, rfl⟩ := isTup_ex hs'
          obtain ⟨k1, k2⟩ := D.tameN_kid ht
          refine x_ret g1.at_ (d_is (d_all (bs := tl.map (nameB ns)) (d_is (d_lcT (fun _ => true) (fun d => .bl (nameB ns d)) (d_var rfl (r1.up g1.grow)) (by omega) fun e he v B2 e2 rv => ⟨[some x, some y, some v], rfl, fun H Q _ q => q, t_yes, fun _ => ?_⟩) ?_)) ?_)
            fun v B2 H2 g2 r2 => ok v B2 H2 (g1.trans g2) r2
          · have hpe := D.tame_plain (k2 e he)
            refine d_is (d_and (b := nameB ns e) (d_isi (d_var rfl rv) hpe (ty_c "str") (kit_str hpe)) fun hi => ?_) ?_
            · match e, hi, rv with
              | .str z, _, rv => exact d_inL (d_var rfl rv) (d_var rfl ((r2.up g1.grow).up e2))
            · cases e <;> simp [D.isStr, nameB]
          · rw [filter_yes, List.map_map]; rfl
          · simp [areB, List.all_map, Function.comp]
def differB : D → Bool
  | .nd _ l => match strsOf l with
    | some xs => decide (xs.eraseDups.length = xs.length)
    | none => false
  | _ => false
def fDiffer : List D → Option D
  | [.nd .tup l] => (strsOf l).bind fun xs => if xs.length ≤ 1000 then some (.bl (decide (xs.eraseDups.length = xs.length))) else none
  | [.nd .lst l] => (strsOf l).bind fun xs => if xs.length ≤ 1000 then some (.bl (decide (xs.eraseDups.length = xs.length))) else none
  | _ => none
theorem ok_differT (T : Txt K mg CB aKinds) (F : Fun K "_all_differ" "_all_differ" s__all_differ f fd) : FnOk P w K mg base CX0 1 f fd ["names"] (spF K fDiffer) := by
  refine ok_F F sc__all_differ (fun ds r h => ?_) (fun cdv A outer s B H vs Q E hr ds r a hR hF ok => ?_)
  · match ds, h with
    | [.nd .tup l], _ => rfl
    | [.nd .lst l], _ => rfl
  · have key : ∀ (tg : Tag) (l : List D), (tg = .tup ∨ tg = .lst) → ds = [.nd tg l] → fDiffer [.nd tg l] = ((strsOf l).bind fun xs => if xs.length ≤ 1000 then some (.bl (decide (xs.eraseDups.length = xs.length))) else none) → 
        ∃ t, PSs (cxOf CX0 P w K mg base ["names"] "_all_differ" (defScope s__all_differ) f cdv A outer s H E).nox (defBody s__all_differ) t ∧ t { nx := fun _ H' => Q .non H', rt := Q } (start ["names"] vs) H := fun tg l ht e he => by
      subst e
      obtain ⟨x, rfl, r1⟩ := hR.i1
      rw [he] at hF
      cases hn : strsOf l with
      | none => rw [hn] at hF; cases hF
      | some xs =>
        obtain rfl := strsOf_map hn
        rw [hn] at hF
        have hx : xs.length ≤ 1000 := by
          by_cases q : xs.length ≤ 1000
          · exact q
          · simp [q] at hF
        obtain rfl : r = .bl (decide (xs.eraseDups.length = xs.length)) := by simp [hx] at hF; exact hF.symm
        refine ⟨_, pss_one (ps_ret (pe_cmpR op_eq (pe_callB call_lenK (by rfl) T.n_len PySem.boot_len (pa_cons (pe_callTy (call_setS rfl) (by rfl) T.n_set (by decide +kernel) (pa_cons (pv 0) pa_nil)) pa_nil)) (pe_callB call_len_seq (by rfl) T.n_len PySem.boot_len (pa_cons (pv 0) pa_nil)) (nomark _))), ?_⟩
        have hlen : EvD still K (tCB (rLenQ K) (tCons (tVar 0) tNil)) (start ["names"] [x]) B (.int (xs.length : Int)) := by
          have e : ((xs.map D.str).length : Int) = (xs.length : Int) := by simp
          rcases ht with rfl | rfl
          · exact d_is (d_lenT (d_var rfl r1)) (by rw [e])
          · exact d_is (d_lenL (d_var rfl r1)) (by rw [e])
        refine x_ret a (d_is (d_eqI (d_lenSet ht (d_var rfl r1) hx) hlen) ?_) ok
        congr 1
        rw [Bool.eq_iff_iff]
        simp only [decide_eq_true_eq]
        omega
    match ds, hF, key with
    | [.nd .tup l], _, key => exact key .tup l (.inl rfl) rfl rfl
    | [.nd .lst l], _, key => exact key .lst l (.inr rfl) rfl rfl
end
end Fq
set_option Elab.async false
set_option linter.all false
set_option maxRecDepth 100000
set_option maxHeartbeats 4000001
namespace Fq
open PySem L2 Evl
def lenD : D → Nat
  | .nd _ l => l.length
  | _ => 0
/-- a definition of a field, for a schema with these types -/
def defB (ns : List Str) : D → Bool
  | .nd .tup [a, b, c, e] => fieldNameB a && (b.isBl && (nameB kinds c && (areB ns e && (differB e && decide (decide (lenD e = 0) = nameB ["int"] c)))))
  | _ => false
def fDef : List D → Option (Option D)
  | [.str tn, d, .nd .lst l] => (strsOf l).bind fun ns => if (decide (tn.length ≤ 1000) && d.tameN 3) = true then some (if defB ns d then some .non else none) else none
  | _ => none
theorem tup4 {l : List D} (h : l.length = 4) : ∃ a b c d, l = [a, b, c, d] := by
  match l, h with
  | [a, b, c, d], _ => exact ⟨a, b, c, d, rfl⟩
theorem tup2 {l : List D} (h : l.length = 2) : ∃ a b, l = [a, b] := by
  match l, h with
  | [a, b], _ => exact ⟨a, b, rfl⟩
theorem nameB_ex {ns : List Str} {d : D} (h : nameB ns d = true) : ∃ x, d = .str x ∧ x ∈ ns := by
  cases d with
  | str x => exact ⟨x, rfl, of_decide_eq_true h⟩
  | _ => cases h
theorem areB_ex {ns : List Str} {d : D} (h : areB ns d = true) : ∃ xs : List Str, d = .tup (xs.map D.str) ∧ ∀ x ∈ xs, x ∈ ns := by
  cases d with
  | nd t l =>
    cases t with
    | tup =>
      have q : ∀ e ∈ l, nameB ns e = true := List.all_eq_true.mp h
      clear h
      induction l with
      | nil => exact ⟨[], rfl, fun _ h => by cases h⟩
      | cons e l ih =>
        obtain ⟨x, rfl, hx⟩ := nameB_ex (q e (List.mem_cons_self))
        obtain ⟨xs, e2, h2⟩ := ih fun e he => q e (List.mem_cons_of_mem _ he)
        refine ⟨x :: xs, ?_, fun y hy => ?_⟩
        · injection e2 with _ e3; rw [e3]; rfl
        · rcases List.mem_cons.mp hy with h | h
          · rw [h]; exact hx
          · exact h2 y h
    | _ => cases h
  | _ => cases h
theorem differ_strs (t : Tag) (xs : List Str) : differB (.nd t (xs.map D.str)) = decide (xs.eraseDups.length = xs.length) := by
  show (match strsOf (xs.map D.str) with | some xs => _ | none => _) = _
  rw [strsOf_of]
section
variable {m : Md} {P : Program} {w : World} {K : PySem.W.Frag} {mg : Str → Option Value} {base : Heap} {f CB aKinds : Addr} {fd : FuncData}
theorem ok_def (T : Txt K mg CB aKinds) (d__demand : Cal P w K mg base (CX P w) 1 "_demand" ["holds", "message"] (spX K CB fDemand)) (d__is_field_name : Cal P w K mg base CX0 2 "_is_field_name" ["name"] (spF K fFieldName))
    (d__are_names : Cal P w K mg base CX0 1 "_are_names" ["targets", "type_names"] (spF K fAre)) (d__all_differ : Cal P w K mg base CX0 1 "_all_differ" ["names"] (spF K fDiffer))
    (F : Fun K "_check_definition" "_check_definition" s__check_definition f fd) : FnOk P w K mg base (CX P w) 3 f fd ["type_name", "definition", "type_names"] (spX K CB fDef) := by
  refine ok_X F sc__check_definition (fun ds r h => ?_) (fun cdv A outer s B H vs Q E hr ds r a hR hF ok er => ?_)
  · match ds, h with
    | [.str tn, d, .nd .lst l], _ => rfl
  · match ds, hF with
    | [.str tn, d, .nd .lst l], hF =>
      obtain ⟨x, y, z, rfl, r1, r2, r3⟩ := hR.i3
      cases hn : strsOf l with
      | none => simp [fDef, hn] at hF
      | some ns =>
        obtain rfl := strsOf_map hn
        have hq : (decide (tn.length ≤ 1000) && d.tameN 3) = true := by
          cases q : (decide (tn.length ≤ 1000) && d.tameN 3) with
          | true => rfl
          | false => simp only [fDef, hn, Option.bind_some, q] at hF; cases hF
        have hF' : r = if defB ns d then some .non else none := by
          simp only [fDef, hn, Option.bind_some, hq, if_true] at hF
          exact (Option.some.inj hF).symm
        obtain ⟨hq1, ht⟩ := Bool.and_eq_true_iff.mp hq
        have htn : tn.length ≤ 1000 := of_decide_eq_true hq1
        have hp := D.tame_plain (D.tameN_tame ht)
        have er' : defB ns d = false → ∀ B1 H1, Gr still B H B1 H1 → E (.ref CB) none H1 := fun h => er (by rw [hF', h]; rfl)
        have ok' : defB ns d = true → ∀ B1 H1, Gr still B H B1 H1 → Q .non H1 := fun h B1 H1 g => ok .non (by rw [hF', h]; rfl) _ B1 H1 g .non
        refine ⟨_, pss_cons (ps_set (i := 3) sc__check_definition.nd rfl (Or.inl rfl) (pe_callB call_isi (by rfl) T.n_isinstance (by decide +kernel : bootBuiltins "isinstance" = some (.builtin "isinstance")) (pa_cons (pv 1) (pa_cons (pe_bltn (v := .ty "tuple") (u := .type "tuple") (by rfl) T.n_tuple (by decide +kernel) rfl) pa_nil))))
  (pss_cons (ps_expr (pe_cal d__demand (hr.mono (by decide)) rfl (passes_call (takes_of rfl rfl rfl rfl) (fun _ _ _ _ h => h)) (pa_cons (pe_and (pv 3) (pe_one (pe_cmpR op_eq (pe_callB call_len_seq (by rfl) T.n_len PySem.boot_len (pa_cons (pv 1) pa_nil)) pe_int (nomark _)))) (pa_cons (pe_joined (PJ.cons (pe_fmt (pv 0)) (PJ.cons pe_str PJ.nil))) pa_nil))))
  (pss_cons (ps_asg (pv 1) (pg_tup rfl (pgs_cons (pg_name (i := 4) sc__check_definition.nd rfl (Or.inl rfl)) (pgs_cons (pg_name (i := 5) sc__check_definition.nd rfl (Or.inl rfl)) (pgs_cons (pg_name (i := 6) sc__check_definition.nd rfl (Or.inl rfl)) (pgs_cons (pg_name (i := 7) sc__check_definition.nd rfl (Or.inl rfl)) pgs_nil))))))
  (pss_cons (ps_expr (pe_cal d__demand (hr.mono (by decide)) rfl (passes_call (takes_of rfl rfl rfl rfl) (fun _ _ _ _ h => h)) (pa_cons (pe_cal d__is_field_name (hr.mono (by decide)) rfl pass0 (pa_cons (pv 4) pa_nil)) (pa_cons (pe_joined (PJ.cons (pe_fmt (pv 0)) (PJ.cons pe_str PJ.nil))) pa_nil))))
  (pss_cons (ps_expr (pe_cal d__demand (hr.mono (by decide)) rfl (passes_call (takes_of rfl rfl rfl rfl) (fun _ _ _ _ h => h)) (pa_cons (pe_callB call_isi (by rfl) T.n_isinstance (by decide +kernel : bootBuiltins "isinstance" = some (.builtin "isinstance")) (pa_cons (pv 5) (pa_cons (pe_bltn (v := .ty "bool") (u := .type "bool") (by rfl) T.n_bool (by decide +kernel) rfl) pa_nil))) (pa_cons (pe_joined (PJ.cons (pe_fmt (pv 0)) (PJ.cons pe_str (PJ.cons (pe_fmt (pv 4)) (PJ.cons pe_str PJ.nil))))) pa_nil))))
  (pss_cons (ps_expr (pe_cal d__demand (hr.mono (by decide)) rfl (passes_call (takes_of rfl rfl rfl rfl) (fun _ _ _ _ h => h)) (pa_cons (pe_and (pe_callB call_isi (by rfl) T.n_isinstance (by decide +kernel : bootBuiltins "isinstance" = some (.builtin "isinstance")) (pa_cons (pv 6) (pa_cons (pe_bltn (v := .ty "str") (u := .type "str") (by rfl) T.n_str (by decide +kernel) rfl) pa_nil))) (pe_one (pe_cmpR op_in_seq (pv 6) (pe_gl rfl T.c_KINDS) rfl))) (pa_cons (pe_joined (PJ.cons (pe_fmt (pv 0)) (PJ.cons pe_str (PJ.cons (pe_fmt (pv 4)) (PJ.cons pe_str PJ.nil))))) pa_nil))))
  (pss_cons (ps_expr (pe_cal d__demand (hr.mono (by decide)) rfl (passes_call (takes_of rfl rfl rfl rfl) (fun _ _ _ _ h => h)) (pa_cons (pe_cal d__are_names (hr.mono (by decide)) rfl pass0 (pa_cons (pv 7) (pa_cons (pv 2) pa_nil))) (pa_cons (pe_joined (PJ.cons (pe_fmt (pv 0)) (PJ.cons pe_str (PJ.cons (pe_fmt (pv 4)) (PJ.cons pe_str PJ.nil))))) pa_nil))))
  (pss_cons (ps_expr (pe_cal d__demand (hr.mono (by decide)) rfl (passes_call (takes_of rfl rfl rfl rfl) (fun _ _ _ _ h => h)) (pa_cons (pe_cal d__all_differ (hr.mono (by decide)) rfl pass0 (pa_cons (pv 7) pa_nil)) (pa_cons (pe_joined (PJ.cons (pe_fmt (pv 0)) (PJ.cons pe_str (PJ.cons (pe_fmt (pv 4)) (PJ.cons pe_str PJ.nil))))) pa_nil))))
  (pss_one (ps_expr (pe_cal d__demand (hr.mono (by decide)) rfl (passes_call (takes_of rfl rfl rfl rfl) (fun _ _ _ _ h => h)) (pa_cons (pe_cmpR op_eq (pe_cmpR op_eq (pe_callB call_len_seq (by rfl) T.n_len PySem.boot_len (pa_cons (pv 7) pa_nil)) pe_int (nomark _)) (pe_cmpR op_eq (pv 6) pe_str (nomark _)) (nomark _)) (pa_cons (pe_joined (PJ.cons (pe_fmt (pv 0)) (PJ.cons pe_str (PJ.cons (pe_fmt (pv 4)) (PJ.cons pe_str PJ.nil))))) pa_nil)))))))))))), ?_⟩
        refine y_asg a (d_isi (d_var rfl r2) hp (ty_c "tuple") (kit_tuple hp)) fun v1 B1 H1 g1 q1 => ?_
        refine y_demand g1.at_ (b := d.isTup && decide ((lenD d : Int) = 4)) (d_and (d_var rfl q1) fun ht1 => ?_) (msg_1 rfl (r1.up g1.grow) htn (by decide +kernel)) (fun hb B2 H2 g2 => ?_) (fun hb B2 H2 g2 => ?_)
        · obtain ⟨dl, rfl⟩ := isTup_ex ht1
          exact d_eqI (d_lenT (d_var rfl (r2.up g1.grow))) d_int
        · have hb1 := Bool.and_eq_true_iff.mp hb
          obtain ⟨dl, rfl⟩ := isTup_ex hb1.1
          have hl4 : dl.length = 4 := by
            have q : ((lenD (.tup dl) : Nat) : Int) = 4 := of_decide_eq_true hb1.2
            have : lenD (.tup dl) = dl.length := rfl
            omega
          obtain ⟨da, db, dc, de, rfl⟩ := tup4 hl4
          obtain ⟨_, kids⟩ := D.tameN_kid ht
          have ta := kids da (by simp)
          have tb := kids db (by simp)
          have tc := kids dc (by simp)
          have te := kids de (by simp)
          have pa := D.tame_plain (D.tameN_tame ta)
          have pb := D.tame_plain (D.tameN_tame tb)
          have pc := D.tame_plain (D.tameN_tame tc)
          have pe := D.tame_plain (D.tameN_tame te)
          have g12 := g1.trans g2
          refine y_asg4 g2.at_ (d_var rfl (r2.up g12.grow)) fun xa xb xc xe B3 H3 g3 ra rb rc re => ?_
          have g13 := g12.trans g3
          refine y_demand g3.at_ (d_call (da_one (d_var rfl ra)) (show fFieldName [da] = some (.bl (fieldNameB da)) by simp [fFieldName, D.tameN_tame ta])) (msg_1 rfl (r1.up g13.grow) htn (by decide +kernel)) (fun hb2 B4 H4 g4 => ?_) (fun hb2 B4 H4 g4 => er' (by simp [defB, hb2]) _ _ (g13.trans g4))
          obtain ⟨za, rfl⟩ : ∃ za, da = .str za := by
            cases da with
            | str za => exact ⟨za, rfl⟩
            | _ => cases hb2
          have hza : za.length ≤ 1000 := of_decide_eq_true (D.tameN_tame ta)
          have g14 := g13.trans g4
          refine y_demand g4.at_ (d_isi (d_var rfl (rb.up g4.grow)) pb (ty_c "bool") (kit_bool pb)) (msg_2 rfl (r1.up g14.grow) htn rfl (ra.up g4.grow) hza (by decide +kernel) (by decide +kernel)) (fun hb3 B5 H5 g5 => ?_) (fun hb3 B5 H5 g5 => er' (by simp [defB, hb2, hb3]) _ _ (g14.trans g5))
          have g15 := g14.trans g5
          refine y_demand g5.at_ (b := nameB kinds dc) (d_is (d_and (b := nameB kinds dc) (d_isi (d_var rfl ((rc.up g4.grow).up g5.grow)) pc (ty_c "str") (kit_str pc)) fun hi => ?_) ?_) (msg_2 rfl (r1.up g15.grow) htn rfl (ra.up (g4.grow.trans g5.grow)) hza (by decide +kernel) (by decide +kernel)) (fun hb4 B6 H6 g6 => ?_) (fun hb4 B6 H6 g6 => er' (by simp [defB, hb2, hb3, hb4]) _ _ (g15.trans g6))
          · match dc, hi, rc with
            | .str zc, _, rc => exact d_inT (d_var rfl ((rc.up g4.grow).up g5.grow)) (d_c (.nd (t := .tup) (T.s_KINDS B5) (RepA.ofStrs kinds)))
          · cases dc <;> simp [D.isStr, nameB]
          obtain ⟨zc, rfl, hzc⟩ := nameB_ex hb4
          have g16 := g15.trans g6
          have te1 : de.tameN 1 = true := by
            have q := te
            cases de with
            | nd t l =>
              obtain ⟨q1, q2⟩ := D.tameN_kid q
              refine Bool.and_eq_true_iff.mpr ⟨D.tameN_tame q, Bool.and_eq_true_iff.mpr ⟨decide_eq_true q1, List.all_eq_true.mpr fun e he => D.tameN_tame (q2 e he)⟩⟩
            | _ => exact Bool.and_eq_true_iff.mpr ⟨D.tameN_tame q, rfl⟩
          refine y_demand g6.at_ (d_call (da_cons (d_var rfl ((re.up (g4.grow.trans g5.grow)).up g6.grow)) (da_one (d_var rfl (r3.up g16.grow)))) (show fAre [de, .nd .lst (ns.map D.str)] = some (.bl (areB ns de)) by simp [fAre, strsOf_of, te1])) (msg_2 rfl (r1.up g16.grow) htn rfl (ra.up (g4.grow.trans (g5.grow.trans g6.grow))) hza (by decide +kernel) (by decide +kernel)) (fun hb5 B7 H7 g7 => ?_) (fun hb5 B7 H7 g7 => er' (by simp [defB, hb2, hb3, hb4, hb5]) _ _ (g16.trans g7))
          obtain ⟨xs, rfl, hxs⟩ := areB_ex hb5
          have hxl : xs.length ≤ 1000 := by
            have q := (D.tameN_kid te).1
            simpa using q
          have g17 := g16.trans g7
          have re7 := (re.up (g4.grow.trans g5.grow)).up (g6.grow.trans g7.grow)
          refine y_demand g7.at_ (d_call (da_one (d_var rfl re7)) (show fDiffer [.nd .tup (xs.map D.str)] = some (.bl (differB (.tup (xs.map D.str)))) by simp [fDiffer, strsOf_of, hxl, differ_strs])) (msg_2 rfl (r1.up g17.grow) htn rfl (ra.up (g4.grow.trans (g5.grow.trans (g6.grow.trans g7.grow)))) hza (by decide +kernel) (by decide +kernel)) (fun hb6 B8 H8 g8 => ?_) (fun hb6 B8 H8 g8 => er' (by simp [defB, hb2, hb3, hb4, hb5, hb6]) _ _ (g17.trans g8))
          have g18 := g17.trans g8
          refine x_demand g8.at_ (b := decide (decide (lenD (.tup (xs.map D.str)) = 0) = nameB ["int"] (.str zc))) (d_is (d_eqB (d_eqI (d_lenT (d_var rfl (re7.up g8.grow))) d_int) (d_eqS (d_var rfl (rc.up ((g4.grow.trans g5.grow).trans ((g6.grow.trans g7.grow).trans g8.grow)))) d_str)) ?_) (msg_2 rfl (r1.up g18.grow) htn rfl (ra.up (g4.grow.trans (g5.grow.trans (g6.grow.trans (g7.grow.trans g8.grow))))) hza (by decide +kernel) (by decide +kernel))
            (fun hb7 B9 H9 g9 => ok' (by simp only [defB, hb2, hb3, hb4, hb5, hb6, hb7]; rfl) _ _ (g18.trans g9)) (fun hb7 B9 H9 g9 => er' (by simp only [defB, hb2, hb3, hb4, hb5, hb6, hb7]; rfl) _ _ (g18.trans g9))
          congr 1
          have e1 : decide (((xs.map D.str).length : Int) = 0) = decide (lenD (.tup (xs.map D.str)) = 0) := by
            rw [Bool.eq_iff_iff]
            simp only [decide_eq_true_eq]
            show ((xs.map D.str).length : Int) = 0 ↔ (xs.map D.str).length = 0
            omega
          have e2 : decide (zc = ("int" : Str)) = nameB ["int"] (.str zc) := by
            show _ = decide (zc ∈ (["int"] : List Str))
            rw [Bool.eq_iff_iff]
            simp
          rw [e1, e2]
        · refine er' ?_ _ _ (g1.trans g2)
          cases d with
          | nd t l =>
            cases t with
            | tup =>
              match l, hb with
              | [_, _, _, _], hb => simp [D.isTup, lenD] at hb
              | [], _ => rfl
              | [_], _ => rfl
              | [_, _], _ => rfl
              | [_, _, _], _ => rfl
              | _ :: _ :: _ :: _ :: _ :: _, _ => rfl
            | _ => rfl
          | _ => rfl
end
end Fq
set_option Elab.async false
set_option linter.all false
set_option maxRecDepth 100000
set_option maxHeartbeats 4000001
namespace Fq
open PySem L2 Evl
def headName : D → Str
  | .nd .tup (.str x :: _) => x
  | _ => Str.empty
def differN (xs : List Str) : Bool := decide (xs.eraseDups.length = xs.length)
def fieldsB (ns : List Str) : D → Bool
  | .nd .tup l => l.all (defB ns) && differN (l.map headName)
  | _ => false
def fFields : List D → Option (Option D)
  | [.str tn, .nd .tup l, .nd .lst nl] => (strsOf nl).bind fun ns => if (decide (tn.length ≤ 1000) && (D.tup l).tameN 4) = true then some (if fieldsB ns (.tup l) then some .non else none) else none
  | _ => none
def pairB : D → Bool
  | .nd .tup [a, b] => typeNameB a && (b.isTup && decide (lenD b ≤ 6))
  | _ => false
def fPair : List D → Option (Option D)
  | [d] => if d.tameN 1 = true then some (if pairB d then some .non else none) else none
  | _ => none
def pairFields : D → D
  | .nd .tup [_, b] => b
  | _ => .non
def typesB : D → Bool
  | .nd .tup l => (decide (1 ≤ l.length) && decide (l.length ≤ 5)) && (l.all pairB && (differN (l.map headName) && l.all fun p => fieldsB (l.map headName) (pairFields p)))
  | _ => false
def fTypes : List D → Option (Option D)
  | [d] => if d.tameN 6 = true then some (if typesB d then some .non else none) else none
  | _ => none
theorem defB_ex {ns : List Str} {d : D} (h : defB ns d = true) : ∃ x b c e, d = .tup [.str x, b, c, e] ∧ fieldNameB (.str x) = true ∧ b.isBl = true ∧ nameB kinds c = true ∧ areB ns e = true ∧ differB e = true ∧ decide (decide (lenD e = 0) = nameB ["int"] c) = true := by
  match d, h with
  | .nd .tup [a, b, c, e], h =>
    simp only [defB, Bool.and_eq_true] at h
    obtain ⟨h1, h2, h3, h4, h5, h6⟩ := h
    cases a with
    | str x => exact ⟨x, b, c, e, rfl, h1, h2, h3, h4, h5, h6⟩
    | _ => cases h1
theorem tameN_mono : ∀ {n : Nat} {d : D}, d.tameN (n + 1) = true → d.tameN n = true
  | 0, d, h => D.tameN_tame h
  | n + 1, d, h => by
    have h1 := Bool.and_eq_true_iff.mp h
    refine Bool.and_eq_true_iff.mpr ⟨h1.1, ?_⟩
    cases d with
    | nd t l =>
      have h2 := Bool.and_eq_true_iff.mp h1.2
      exact Bool.and_eq_true_iff.mpr ⟨h2.1, List.all_eq_true.mpr fun e he => tameN_mono (List.all_eq_true.mp h2.2 e he)⟩
    | _ => rfl
theorem take_all {f : D → Bool} {l : List D} {i : Nat} {d : D} (h : l[i]? = some d) (h1 : (l.take i).all f = true) (h2 : f d = true) : (l.take (i + 1)).all f = true := by
  rw [List.take_add_one, h]
  simp [h2]
  intro x hx
  exact List.all_eq_true.mp h1 x hx
theorem all_not {f : D → Bool} {l : List D} {i : Nat} {d : D} (h : l[i]? = some d) (h2 : f d = false) : l.all f = false := by
  rw [Bool.eq_false_iff]
  intro q
  have := List.all_eq_true.mp q d (List.mem_of_getElem? h)
  rw [h2] at this; cases this
section
variable {m : Md} {P : Program} {w : World} {K : PySem.W.Frag} {mg : Str → Option Value} {base : Heap} {f CB aKinds : Addr} {fd : FuncData}
theorem ok_fields (T : Txt K mg CB aKinds) (d__demand : Cal P w K mg base (CX P w) 1 "_demand" ["holds", "message"] (spX K CB fDemand)) (d__all_differ : Cal P w K mg base CX0 1 "_all_differ" ["names"] (spF K fDiffer))
    (d__check_definition : Cal P w K mg base (CX P w) 3 "_check_definition" ["type_name", "definition", "type_names"] (spX K CB fDef))
    (F : Fun K "_check_fields" "_check_fields" s__check_fields f fd) : FnOk P w K mg base (CX P w) 4 f fd ["type_name", "fields", "type_names"] (spX K CB fFields) := by
  refine ok_X F sc__check_fields (fun ds r h => ?_) (fun cdv A outer s B H vs Q E hr ds r a hR hF ok er => ?_)
  · match ds, h with
    | [.str tn, .nd .tup l, .nd .lst nl], _ => rfl
  · match ds, hF with
    | [.str tn, .nd .tup l, .nd .lst nl], hF =>
      obtain ⟨x, y, z, rfl, r1, r2, r3⟩ := hR.i3
      cases hn : strsOf nl with
      | none => simp [fFields, hn] at hF
      | some ns =>
        obtain rfl := strsOf_map hn
        have hq : (decide (tn.length ≤ 1000) && (D.tup l).tameN 4) = true := by
          cases q : (decide (tn.length ≤ 1000) && (D.tup l).tameN 4) with
          | true => rfl
          | false => simp only [fFields, hn, Option.bind_some, q] at hF; cases hF
        have hF' : r = if fieldsB ns (.tup l) then some .non else none := by
          simp only [fFields, hn, Option.bind_some, hq, if_true] at hF
          exact (Option.some.inj hF).symm
        obtain ⟨hq1, ht⟩ := Bool.and_eq_true_iff.mp hq
        have htn : tn.length ≤ 1000 := of_decide_eq_true hq1
        obtain ⟨hll, kids⟩ := D.tameN_kid ht
        have er' : fieldsB ns (.tup l) = false → ∀ B1 H1, Gr still B H B1 H1 → E (.ref CB) none H1 := fun h => er (by rw [hF', h]; rfl)
        have ok' : fieldsB ns (.tup l) = true → ∀ B1 H1, Gr still B H B1 H1 → Q .non H1 := fun h B1 H1 g => ok .non (by rw [hF', h]; rfl) _ B1 H1 g .non
        refine ⟨_, pss_cons (ps_for (passes_of rfl) rfl (pi_tup (pv 1)) (pg_name (i := 3) sc__check_fields.nd rfl (Or.inl rfl))
    (pss_one (ps_expr (pe_cal d__check_definition (hr.mono (by decide)) rfl (passes_call (takes_of rfl rfl rfl rfl) (fun _ _ _ _ h => h)) (pa_cons (pv 0) (pa_cons (pv 3) (pa_cons (pv 2) pa_nil)))))))
  (pss_cons (ps_setLc (i := 4) (own := [(("definition" : Str), 3)]) (g := gName 3) (tt := tYes) rfl sc__check_fields.nd rfl rfl (sw_true rfl rfl rfl (by decide +kernel)) (pi_tup (pv 1)) (blkOk_by (own := [(("definition" : Str), 3)]) (N := ["type_name", "fields", "type_names", "definition", "names"]) (sc := defScope s__check_fields) (by decide +kernel)) (fun _ _ _ _ _ => (pg_name (i := 3) sc__check_fields.nd rfl (Or.inl rfl))) (fun _ _ _ _ _ => pts_nil) (fun _ _ _ _ _ => (pe_ix (ix_tup : IxR _ (rIxT K)) (pv 3) pe_int (fun _ _ => rfl))))
  (pss_one (ps_expr (pe_cal d__demand (hr.mono (by decide)) rfl (passes_call (takes_of rfl rfl rfl rfl) (fun _ _ _ _ h => h)) (pa_cons (pe_cal d__all_differ (hr.mono (by decide)) rfl pass0 (pa_cons (pv 4) pa_nil)) (pa_cons (pe_joined (PJ.cons (pe_fmt (pv 0)) (PJ.cons pe_str PJ.nil))) pa_nil)))))), ?_⟩
        refine x_forT a.gr (d_var rfl r2) (fun i σ' B' H' => (∃ o, σ' = [some x, some y, some z, o, none]) ∧ (l.take i).all (defB ns) = true) (fun B1 H1 g1 => ⟨⟨none, rfl⟩, rfl⟩) ?_ ?_
        · rintro i d v σ' Bl B1 H1 hd e0 g1 e1 rv ⟨⟨o, rfl⟩, hall⟩
          refine x_callX g1.at_ (da_cons (d_var rfl (r1.up g1.grow)) (da_cons (d_var rfl rv) (da_one (d_var rfl (r3.up g1.grow))))) (show fDef [.str tn, d, .nd .lst (ns.map D.str)] = some (if defB ns d then some .non else none) by simp [fDef, strsOf_of, htn, kids d (List.mem_of_getElem? hd)]) (fun d' hd' B2 H2 g2 => ?_) (fun hd' B2 H2 g2 => ?_)
          · have hb : defB ns d = true := by
              cases q : defB ns d with
              | true => rfl
              | false => rw [q] at hd'; cases hd'
            exact ⟨B2, g1.trans g2, e1.trans g2.grow, ⟨some v, rfl⟩, take_all hd hall hb⟩
          · have hb : defB ns d = false := by
              cases q : defB ns d with
              | false => rfl
              | true => rw [q] at hd'; cases hd'
            exact er' (by show (l.all (defB ns) && _) = false; rw [all_not hd hb]; rfl) _ _ (g1.trans g2)
        · rintro σ' B1 H1 g1 e1 ⟨⟨o, rfl⟩, hall⟩
          rw [List.take_length] at hall
          refine y_asg g1.at_ (d_is (d' := .lst ((l.map headName).map D.str)) (d_lcT (fun _ => true) (fun d => .str (headName d)) (d_var rfl (r2.up g1.grow)) (by omega) fun d hd v B2 e2 rv => ⟨[some x, some y, some z, some v, none], rfl, fun H Q _ q => q, t_yes, fun _ => ?_⟩) ?_) fun v2 B2 H2 g2 q2 => ?_
          · obtain ⟨fx, fb, fc, fe, rfl, _⟩ := defB_ex (List.all_eq_true.mp hall d hd)
            exact d_ixT (d_var rfl rv) d_int (atI_nat (j := 0) rfl)
          · rw [filter_yes, List.map_map]; rfl
          · have g12 := g1.trans g2
            refine x_demand g2.at_ (d_call (da_one (d_var rfl q2)) (show fDiffer [.nd .lst ((l.map headName).map D.str)] = some (.bl (differN (l.map headName))) by
              have : (l.map headName).length ≤ 1000 := by simpa using hll
              simp only [fDiffer, strsOf_of, Option.bind_some, this, if_true]; rfl)) (msg_1 rfl (r1.up g12.grow) htn (by decide +kernel)) (fun hb B3 H3 g3 => ?_) (fun hb B3 H3 g3 => ?_)
            · exact ok' (by show (l.all (defB ns) && _) = true; rw [hall, hb]; rfl) _ _ (g12.trans g3)
            · exact er' (by show (l.all (defB ns) && _) = false; rw [hall, hb]; rfl) _ _ (g12.trans g3)
theorem ok_pair (T : Txt K mg CB aKinds) (d__demand : Cal P w K mg base (CX P w) 1 "_demand" ["holds", "message"] (spX K CB fDemand)) (d__is_type_name : Cal P w K mg base CX0 2 "_is_type_name" ["name"] (spF K fTypeName))
    (F : Fun K "_check_pair" "_check_pair" s__check_pair f fd) : FnOk P w K mg base (CX P w) 3 f fd ["pair"] (spX K CB fPair) := by
  refine ok_X F sc__check_pair (fun ds r h => ?_) (fun cdv A outer s B H vs Q E hr ds r a hR hF ok er => ?_)
  · match ds, h with
    | [d], _ => rfl
  · match ds, hF with
    | [d], hF =>
      obtain ⟨x, rfl, r1⟩ := hR.i1
      have ht : d.tameN 1 = true := by
        cases q : d.tameN 1 with
        | true => rfl
        | false => simp [fPair, q] at hF
      have hF' : r = if pairB d then some .non else none := by
        simp only [fPair, ht, if_true] at hF
        exact (Option.some.inj hF).symm
      have er' : pairB d = false → ∀ B1 H1, Gr still B H B1 H1 → E (.ref CB) none H1 := fun h => er (by rw [hF', h]; rfl)
      have ok' : pairB d = true → ∀ B1 H1, Gr still B H B1 H1 → Q .non H1 := fun h B1 H1 g => ok .non (by rw [hF', h]; rfl) _ B1 H1 g .non
      have hp := D.tame_plain (D.tameN_tame ht)
      refine ⟨_, pss_cons (ps_expr (pe_cal d__demand (hr.mono (by decide)) rfl (passes_call (takes_of rfl rfl rfl rfl) (fun _ _ _ _ h => h)) (pa_cons (pe_and (pe_callB call_isi (by rfl) T.n_isinstance (by decide +kernel : bootBuiltins "isinstance" = some (.builtin "isinstance")) (pa_cons (pv 0) (pa_cons (pe_bltn (v := .ty "tuple") (u := .type "tuple") (by rfl) T.n_tuple (by decide +kernel) rfl) pa_nil))) (pe_one (pe_cmpR op_eq (pe_callB call_len_seq (by rfl) T.n_len PySem.boot_len (pa_cons (pv 0) pa_nil)) pe_int (nomark _)))) (pa_cons pe_str pa_nil))))
  (pss_cons (ps_asg (pv 0) (pg_tup rfl (pgs_cons (pg_name (i := 1) sc__check_pair.nd rfl (Or.inl rfl)) (pgs_cons (pg_name (i := 2) sc__check_pair.nd rfl (Or.inl rfl)) pgs_nil))))
  (pss_cons (ps_expr (pe_cal d__demand (hr.mono (by decide)) rfl (passes_call (takes_of rfl rfl rfl rfl) (fun _ _ _ _ h => h)) (pa_cons (pe_cal d__is_type_name (hr.mono (by decide)) rfl pass0 (pa_cons (pv 1) pa_nil)) (pa_cons pe_str pa_nil))))
  (pss_cons (ps_set (i := 3) sc__check_pair.nd rfl (Or.inl rfl) (pe_callB call_isi (by rfl) T.n_isinstance (by decide +kernel : bootBuiltins "isinstance" = some (.builtin "isinstance")) (pa_cons (pv 2) (pa_cons (pe_bltn (v := .ty "tuple") (u := .type "tuple") (by rfl) T.n_tuple (by decide +kernel) rfl) pa_nil))))
  (pss_one (ps_expr (pe_cal d__demand (hr.mono (by decide)) rfl (passes_call (takes_of rfl rfl rfl rfl) (fun _ _ _ _ h => h)) (pa_cons (pe_and (pv 3) (pe_one (pe_cmpR op_le (pe_callB call_len_seq (by rfl) T.n_len PySem.boot_len (pa_cons (pv 2) pa_nil)) (pe_gl rfl T.c_MOST_FIELDS) (nomark _)))) (pa_cons (pe_joined (PJ.cons (pe_fmt (pv 1)) (PJ.cons pe_str PJ.nil))) pa_nil)))))))), ?_⟩
      refine y_demand a (b := d.isTup && decide ((lenD d : Int) = 2)) (d_and (d_isi (d_var rfl r1) hp (ty_c "tuple") (kit_tuple hp)) fun ht1 => ?_) msg_0 (fun hb B1 H1 g1 => ?_) (fun hb B1 H1 g1 => ?_)
      · obtain ⟨dl, rfl⟩ := isTup_ex ht1
        exact d_eqI (d_lenT (d_var rfl r1)) d_int
      · have hb1 := Bool.and_eq_true_iff.mp hb
        obtain ⟨dl, rfl⟩ := isTup_ex hb1.1
        have hl2 : dl.length = 2 := by
          have q : ((lenD (.tup dl) : Nat) : Int) = 2 := of_decide_eq_true hb1.2
          have : lenD (.tup dl) = dl.length := rfl
          omega
        obtain ⟨da, db, rfl⟩ := tup2 hl2
        obtain ⟨_, kids⟩ := D.tameN_kid ht
        have ta : da.tame = true := kids da (by simp)
        have tb : db.tame = true := kids db (by simp)
        have pb := D.tame_plain tb
        refine y_asg2 g1.at_ (d_var rfl (r1.up g1.grow)) fun xa xb B2 H2 g2 ra rb => ?_
        have g12 := g1.trans g2
        refine y_demand g2.at_ (d_call (da_one (d_var rfl ra)) (show fTypeName [da] = some (.bl (typeNameB da)) by simp [fTypeName, ta])) msg_0 (fun hb2 B3 H3 g3 => ?_) (fun hb2 B3 H3 g3 => er' (by simp [pairB, hb2]) _ _ (g12.trans g3))
        obtain ⟨za, rfl⟩ : ∃ za, da = .str za := by
          cases da with
          | str za => exact ⟨za, rfl⟩
          | _ => cases hb2
        have hza : za.length ≤ 1000 := of_decide_eq_true ta
        have g13 := g12.trans g3
        refine y_asg g3.at_ (d_isi (d_var rfl (rb.up g3.grow)) pb (ty_c "tuple") (kit_tuple pb)) fun v4 B4 H4 g4 q4 => ?_
        have g14 := g13.trans g4
        refine x_demand g4.at_ (b := db.isTup && decide (lenD db ≤ 6)) (d_and (d_var rfl q4) fun hi => ?_) (msg_1 rfl (ra.up (g3.grow.trans g4.grow)) hza (by decide +kernel)) (fun hb4 B5 H5 g5 => ok' (by simp only [pairB, hb2, hb4]; rfl) _ _ (g14.trans g5)) (fun hb4 B5 H5 g5 => er' (by simp only [pairB, hb2, hb4]; rfl) _ _ (g14.trans g5))
        obtain ⟨dl, rfl⟩ := isTup_ex hi
        refine d_is (d_opB (g := fun i j => decide (i ≤ j)) (d_lenT (d_var rfl (rb.up (g3.grow.trans g4.grow)))) (d_c (.int 6))) ?_
        congr 1
        rw [Bool.eq_iff_iff]
        simp only [decide_eq_true_eq]
        show ((dl.length : Nat) : Int) ≤ 6 ↔ dl.length ≤ 6
        omega
      · refine er' ?_ _ _ g1
        cases d with
        | nd t l =>
          cases t with
          | tup =>
            match l, hb with
            | [_, _], hb => simp [D.isTup, lenD] at hb
            | [], _ => rfl
            | [_], _ => rfl
            | _ :: _ :: _ :: _, _ => rfl
          | _ => rfl
        | _ => rfl
theorem pairB_ex {d : D} (h : pairB d = true) : ∃ x l, d = .tup [.str x, .tup l] ∧ typeNameB (.str x) = true ∧ l.length ≤ 6 := by
  match d, h with
  | .nd .tup [a, b], h =>
    simp only [pairB, Bool.and_eq_true] at h
    obtain ⟨h1, h2, h3⟩ := h
    obtain ⟨l, rfl⟩ := isTup_ex h2
    cases a with
    | str x => exact ⟨x, l, rfl, h1, of_decide_eq_true h3⟩
    | _ => cases h1
theorem ok_types (T : Txt K mg CB aKinds) (d__demand : Cal P w K mg base (CX P w) 1 "_demand" ["holds", "message"] (spX K CB fDemand)) (d__all_differ : Cal P w K mg base CX0 1 "_all_differ" ["names"] (spF K fDiffer))
    (d__check_pair : Cal P w K mg base (CX P w) 3 "_check_pair" ["pair"] (spX K CB fPair)) (d__check_fields : Cal P w K mg base (CX P w) 4 "_check_fields" ["type_name", "fields", "type_names"] (spX K CB fFields))
    (F : Fun K "_check_types" "_check_types" s__check_types f fd) : FnOk P w K mg base (CX P w) 5 f fd ["types"] (spX K CB fTypes) := by
  refine ok_X F sc__check_types (fun ds r h => ?_) (fun cdv A outer s B H vs Q E hr ds r a hR hF ok er => ?_)
  · match ds, h with
    | [d], _ => rfl
  · match ds, hF with
    | [d], hF =>
      obtain ⟨x, rfl, r1⟩ := hR.i1
      have ht : d.tameN 6 = true := by
        cases q : d.tameN 6 with
        | true => rfl
        | false => simp [fTypes, q] at hF
      have hF' : r = if typesB d then some .non else none := by
        simp only [fTypes, ht, if_true] at hF
        exact (Option.some.inj hF).symm
      have er' : typesB d = false → ∀ B1 H1, Gr still B H B1 H1 → E (.ref CB) none H1 := fun h => er (by rw [hF', h]; rfl)
      have ok' : typesB d = true → ∀ B1 H1, Gr still B H B1 H1 → Q .non H1 := fun h B1 H1 g => ok .non (by rw [hF', h]; rfl) _ B1 H1 g .non
      have hp := D.tame_plain (D.tameN_tame ht)
      refine ⟨_, pss_cons (ps_set (i := 1) sc__check_types.nd rfl (Or.inl rfl) (pe_callB call_isi (by rfl) T.n_isinstance (by decide +kernel : bootBuiltins "isinstance" = some (.builtin "isinstance")) (pa_cons (pv 0) (pa_cons (pe_bltn (v := .ty "tuple") (u := .type "tuple") (by rfl) T.n_tuple (by decide +kernel) rfl) pa_nil))))
  (pss_cons (ps_expr (pe_cal d__demand (hr.mono (by decide)) rfl (passes_call (takes_of rfl rfl rfl rfl) (fun _ _ _ _ h => h)) (pa_cons (pe_and (pv 1) (pe_one (pe_chain op_le op_le pe_int (pe_callB call_len_seq (by rfl) T.n_len PySem.boot_len (pa_cons (pv 0) pa_nil)) (pe_gl rfl T.c_MOST_TYPES)))) (pa_cons pe_str pa_nil))))
  (pss_cons (ps_for (passes_of rfl) rfl (pi_tup (pv 0)) (pg_name (i := 2) sc__check_types.nd rfl (Or.inl rfl))
    (pss_one (ps_expr (pe_cal d__check_pair (hr.mono (by decide)) rfl (passes_call (takes_of rfl rfl rfl rfl) (fun _ _ _ _ h => h)) (pa_cons (pv 2) pa_nil)))))
  (pss_cons (ps_setLc (i := 3) (own := [(("pair" : Str), 2)]) (g := gName 2) (tt := tYes) rfl sc__check_types.nd rfl rfl (sw_true rfl rfl rfl (by decide +kernel)) (pi_tup (pv 0)) (blkOk_by (own := [(("pair" : Str), 2)]) (N := ["types", "is_tuple", "pair", "names", "name", "fields"]) (sc := defScope s__check_types) (by decide +kernel)) (fun _ _ _ _ _ => (pg_name (i := 2) sc__check_types.nd rfl (Or.inl rfl))) (fun _ _ _ _ _ => pts_nil) (fun _ _ _ _ _ => (pe_ix (ix_tup : IxR _ (rIxT K)) (pv 2) pe_int (fun _ _ => rfl))))
  (pss_cons (ps_expr (pe_cal d__demand (hr.mono (by decide)) rfl (passes_call (takes_of rfl rfl rfl rfl) (fun _ _ _ _ h => h)) (pa_cons (pe_cal d__all_differ (hr.mono (by decide)) rfl pass0 (pa_cons (pv 3) pa_nil)) (pa_cons pe_str pa_nil))))
  (pss_one (ps_for (passes_of rfl) rfl (pi_tup (pv 0)) (pg_tup rfl (pgs_cons (pg_name (i := 4) sc__check_types.nd rfl (Or.inl rfl)) (pgs_cons (pg_name (i := 5) sc__check_types.nd rfl (Or.inl rfl)) pgs_nil)))
    (pss_one (ps_expr (pe_cal d__check_fields (hr.mono (by decide)) rfl (passes_call (takes_of rfl rfl rfl rfl) (fun _ _ _ _ h => h)) (pa_cons (pv 4) (pa_cons (pv 5) (pa_cons (pv 3) pa_nil)))))))))))), ?_⟩
      refine y_asg a (d_isi (d_var rfl r1) hp (ty_c "tuple") (kit_tuple hp)) fun v1 B1 H1 g1 q1 => ?_
      refine y_demand g1.at_ (b := d.isTup && (decide (1 ≤ lenD d) && decide (lenD d ≤ 5))) (d_and (d_var rfl q1) fun hi => ?_) msg_0 (fun hb B2 H2 g2 => ?_) (fun hb B2 H2 g2 => ?_)
      · obtain ⟨dl, rfl⟩ := isTup_ex hi
        refine d_is (d_chain (f := fun i j => decide (i ≤ j)) (g := fun i j => decide (i ≤ j)) d_int (d_lenT (d_var rfl (r1.up g1.grow))) (d_c (.int 5))) ?_
        congr 1
        rw [Bool.eq_iff_iff]
        simp only [Bool.and_eq_true,
            decide_eq_true_eq]
        show (1 : Int) ≤ ((dl.length : Nat) : Int) ∧ ((dl.length : Nat) : Int) ≤ 5 ↔ 1 ≤ dl.length ∧ dl.length ≤ 5
        omega
      · obtain ⟨hb1, hb2⟩ := Bool.and_eq_true_iff.mp hb
        obtain ⟨l, rfl⟩ := isTup_ex hb1
        have hb2' : (decide (1 ≤ l.length) && decide (l.length ≤ 5)) = true := hb2
        obtain ⟨hll, kids⟩ := D.tameN_kid ht
        have g12 := g1.trans g2
        refine x_forT g12 (d_var rfl (r1.up g12.grow)) (fun i σ' B' H' => (∃ o, σ' = [some x, some v1, o, none, none, none]) ∧ (l.take i).all pairB = true) (fun B3 H3 g3 => ⟨⟨none, rfl⟩, rfl⟩) ?_ ?_
        · rintro i d v σ' Bl B3 H3 hd e0 g3 e3 rv ⟨⟨o, rfl⟩, hall⟩
          refine x_callX g3.at_ (da_one (d_var rfl rv)) (show fPair [d] = some (if pairB d then some .non else none) by
            have : d.tameN 1 = true := tameN_mono (tameN_mono (tameN_mono (tameN_mono (kids d (List.mem_of_getElem? hd)))))
            simp [fPair, this]) (fun d' hd' B4 H4 g4 => ?_) (fun hd' B4 H4 g4 => ?_)
          · have hb : pairB d = true := by
              cases q : pairB d with
              | true => rfl
              | false => rw [q] at hd'; cases hd'
            exact ⟨B4, g3.trans g4, e3.trans g4.grow, ⟨some v, rfl⟩, take_all hd hall hb⟩
          · have hb : pairB d = false := by
              cases q : pairB d with
              | false => rfl
              | true => rw [q] at hd'; cases hd'
            exact er' (by show (_ && (l.all pairB && _)) = false; rw [all_not hd hb, hb2']; rfl) _ _ (g3.trans g4)
        · rintro σ' B3 H3 g3 e3 ⟨⟨o, rfl⟩, hall⟩
          rw [List.take_length] at hall
          have r13 := r1.up g3.grow
          refine y_asg g3.at_ (d_is (d' := .lst ((l.map headName).map D.str)) (d_lcT (fun _ => true) (fun d => .str (headName d)) (d_var rfl r13) (by omega) fun d hd v B4 e4 rv => ⟨[some x, some v1, some v, none, none, none], rfl, fun H Q _ q => q, t_yes, fun _ => ?_⟩) ?_) fun v4 B4 H4 g4 q4 => ?_
          · obtain ⟨px, pl, rfl, _⟩ := pairB_ex (List.all_eq_true.mp hall d hd)
            exact d_ixT (d_var rfl rv) d_int (atI_nat (j := 0) rfl)
          · rw [filter_yes, List.map_map]; rfl
          have g14 := g3.trans g4
          refine y_demand g4.at_ (d_call (da_one (d_var rfl q4)) (show fDiffer [.nd .lst ((l.map headName).map D.str)] = some (.bl (differN (l.map headName))) by
              have : (l.map headName).length ≤ 1000 := by simpa using hll
              simp only [fDiffer, strsOf_of, Option.bind_some, this, if_true]; rfl)) msg_0 (fun hb3 B5 H5 g5 => ?_) (fun hb3 B5 H5 g5 => er' (by show (_ && (l.all pairB && (_ && _))) = false; rw [hall, hb2', hb3]; rfl) _ _ (g14.trans g5))
          have g15 := g14.trans g5
          refine x_forT g15 (d_var rfl (r1.up g15.grow)) (fun i σ' B' H' => (∃ o o1 o2, σ' = [some x, some v1, o, some v4, o1, o2]) ∧ (l.take i).all (fun p => fieldsB (l.map headName) (pairFields p)) = true) (fun B6 H6 g6 => ⟨⟨_, _, _, rfl⟩, rfl⟩) ?_ ?_
          · rintro i d v σ' Bl B6 H6 hd e0 g6 e6 rv ⟨⟨o, o1, o2, rfl⟩, hal2⟩
            obtain ⟨px, pl, rfl, hpx, hpl⟩ := pairB_ex (List.all_eq_true.mp hall d (List.mem_of_getElem? hd))
            have kt := kids _ (List.mem_of_getElem? hd)
            obtain ⟨_, kk⟩ := D.tameN_kid kt
            have kx : px.length ≤ 1000 := of_decide_eq_true (D.tameN_tame (kk (.str px) (by simp)))
            have kl : (D.tup pl).tameN 4 = true := kk (.tup pl) (by simp)
            refine g_2 g6.sub rv fun xa xb ra rb => ?_
            refine x_callX g6.at_ (da_cons (d_var rfl ra) (da_cons (d_var rfl rb) (da_one (d_var rfl ((q4.up g5.grow).up (e0.trans e6)))))) (show fFields [.str px, .nd .tup pl, .nd .lst ((l.map headName).map D.str)] = some (if fieldsB (l.map headName) (.tup pl) then some .non else none) by simp only [fFields, strsOf_of, Option.bind_some, kx, kl, decide_true, Bool.and_self, if_true]) (fun d' hd' B7 H7 g7 => ?_) (fun hd' B7 H7 g7 => ?_)
            · have hb : fieldsB (l.map headName) (.tup pl) = true := by
                cases q : fieldsB (l.map headName) (.tup pl) with
                | true => rfl
                | false => rw [q] at hd'; cases hd'
              exact ⟨B7, g6.trans g7, e6.trans g7.grow, ⟨_, _, _, rfl⟩, take_all hd hal2 hb⟩
            · have hb : fieldsB (l.map headName) (.tup pl) = false := by
                cases q : fieldsB (l.map headName) (.tup pl) with
                | false => rfl
                | true => rw [q] at hd'; cases hd'
              refine er' ?_ _ _ (g6.trans g7)
              show (_ && (l.all pairB && (_ && l.all fun p => fieldsB (l.map headName) (pairFields p)))) = false
              rw [all_not (f := fun p => fieldsB (l.map headName) (pairFields p)) hd hb, hall, hb2', hb3]; rfl
          · rintro σ' B6 H6 g6 e6 ⟨⟨o, o1, o2, rfl⟩, hal2⟩
            rw [List.take_length] at hal2
            refine ok' ?_ _ _ g6
            show (_ && (l.all pairB && (_ && l.all fun p => fieldsB (l.map headName) (pairFields p)))) = true
            rw [hal2, hall, hb2', hb3]; rfl
      · refine er' ?_ _ _ (g1.trans g2)
        cases d with
        | nd t l =>
          cases t with
          | tup =>
            have q : (decide (1 ≤ l.length) && decide (l.length ≤ 5)) = false := hb
            show (_ && _) = false
            rw [q]; rfl
          | _ => rfl
        | _ => rfl
end
end Fq
set_option Elab.async false
set_option linter.all false
set_option maxRecDepth 100000
set_option maxHeartbeats 4000001
namespace Fq
open PySem L2 Evl
/-! ### what a schema holds -/
def kidsOf : D → List D
  | .nd .tup l => l
  | _ => []
def fieldsOf (t : D) : List D := kidsOf (pairFields t)
def entryOf (t e : D) : List Key × D := ([.inr (headName t), .inr (headName e)], e)
def entriesOf (l : List D) : List (List Key × D) := l.flatMap fun t => (fieldsOf t).map fun e => entryOf t e
def schemaD (CS : Addr) (l : List D) : D := .nd (.ob CS ["types", "names", "_definitions"]) [.tup l, .tup ((l.map headName).map D.str), .nd (.dt ((entriesOf l).map (·.1))) ((entriesOf l).map (·.2))]
theorem nodup_of_dups : ∀ (n : Nat) (l : List Str), l.length ≤ n → l.eraseDups.length = l.length → l.Nodup
  | _, [], _, _ => List.nodup_nil
  | 0, x :: r, h, _ => by simp at h
  | n + 1, x :: r, h, e => by
    rw [List.eraseDups_cons, List.length_cons, List.length_cons] at e
    have h1 := dups_le (r.filter fun b => !b == x)
    have h2 := List.length_filter_le (fun b => !b == x) r
    have e1 : (r.filter fun b => !b == x).length = r.length := by omega
    have e2 : ∀ y ∈ r, (!y == x) = true := List.length_filter_eq_length_iff.mp e1
    have e3 : (r.filter fun b => !b == x) = r := List.filter_eq_self.mpr e2
    rw [e3] at e
    refine List.nodup_cons.mpr ⟨fun hx => ?_, nodup_of_dups n r (by simp at h; omega) (by omega)⟩
    have := e2 x hx
    simp at this
theorem differN_nodup {l : List Str} (h : differN l = true) : l.Nodup := nodup_of_dups l.length l (Nat.le_refl _) (of_decide_eq_true h)
theorem keys_nodup : ∀ (l : List D), (l.map headName).Nodup → (∀ t ∈ l, ((fieldsOf t).map headName).Nodup) → ((entriesOf l).map (·.1)).Nodup ∧ ∀ k ∈ (entriesOf l).map (·.1), ∃ t ∈ l, k.head? = some (.inr (headName t))
  | [], _, _ => ⟨List.nodup_nil, fun k h => by simp [entriesOf] at h⟩
  | t :: l, h1, h2 => by
    rw [List.map_cons, List.nodup_cons] at h1
    obtain ⟨a, b⟩ := keys_nodup l h1.2 fun s hs => h2 s (.tail _ hs)
    have e : (entriesOf (t :: l)).map (·.1) = (fieldsOf t).map (fun e => (entryOf t e).1) ++ (entriesOf l).map (·.1) := by simp [entriesOf, List.map_append, Function.comp]
    rw [e]
    refine ⟨List.nodup_append.mpr ⟨?_, a, fun k hk k' hk' ek => ?_⟩, fun k hk => ?_⟩
    · have q := h2 t (.head _)
      generalize fieldsOf t = fl at q
      induction fl with
      | nil => exact List.nodup_nil
      | cons d fl ih =>
        rw [List.map_cons, List.nodup_cons] at q ⊢
        refine ⟨fun hm => q.1 ?_, ih q.2⟩
        obtain ⟨d', hd', ed⟩ := List.mem_map.mp hm
        have : headName d' = headName d := by simpa [entryOf] using ed
        rw [← this]; exact List.mem_map_of_mem hd'
    · subst ek
      obtain ⟨d, _, rfl⟩ := List.mem_map.mp hk
      obtain ⟨s, hs, es⟩ := b _ hk'
      have : headName t = headName s := by simpa [entryOf] using es
      exact h1.1 (this ▸ List.mem_map_of_mem hs)
    · rcases List.mem_append.mp hk with hk | hk
      · obtain ⟨d, _, rfl⟩ := List.mem_map.mp hk
        exact ⟨t, .head _, rfl⟩
      · obtain ⟨s, hs, es⟩ := b k hk
        exact ⟨s, .tail _ hs, es⟩
theorem typesB_ex {d : D} (h : typesB d = true) : ∃ l, d = .tup l ∧ 1 ≤ l.length ∧ l.length ≤ 5 ∧ (∀ t ∈ l, pairB t = true) ∧ differN (l.map headName) = true ∧ ∀ t ∈ l, fieldsB (l.map headName) (pairFields t) = true := by
  cases d with
  | nd t l =>
    cases t with
    | tup =>
      have h' : ((decide (1 ≤ l.length) && decide (l.length ≤ 5)) && (l.all pairB && (differN (l.map headName) && l.all fun p => fieldsB (l.map headName) (pairFields p)))) = true := h
      simp only [Bool.and_eq_true, decide_eq_true_eq, List.all_eq_true] at h'
      exact ⟨l, rfl, h'.1.1, h'.1.2, h'.2.1, h'.2.2.1, h'.2.2.2⟩
    | _ => cases h
  | _ => cases h
theorem fieldsB_ex {ns : List Str} {d : D} (h : fieldsB ns d = true) : ∃ l, d = .tup l ∧ (∀ e ∈ l, defB ns e = true) ∧ differN (l.map headName) = true := by
  cases d with
  | nd t l =>
    cases t with
    | tup =>
      have h' : (l.all (defB ns) && differN (l.map headName)) = true := h
      simp only [Bool.and_eq_true, List.all_eq_true] at h'
      exact ⟨l, rfl, h'.1, h'.2⟩
    | _ => cases h
  | _ => cases h
theorem schema_fields {v1 v2 v3 : V} : putF "_definitions" v3 (putF "names" v2 (putF "types" v1 [])) = (["types", "names", "_definitions"] : List Str).zip [v1, v2, v3] := by
  have a : ¬ (("types" : Str) = "names") := by decide +kernel
  have b : ¬ (("types" : Str) = "_definitions") := by decide +kernel
  have c : ¬ (("names" : Str) = "_definitions") := by decide +kernel
  show putF "_definitions" v3 (if ("types" : Str) = "names" then _ else (("types" : Str), v1) :: putF "names" v2 []) = _
  rw [if_neg a]
  show (if ("types" : Str) = "_definitions" then _ else (("types" : Str), v1) :: (if ("names" : Str) = "_definitions" then _ else (("names" : Str), v2) :: putF "_definitions" v3 [])) = _
  rw [if_neg b, if_neg c]
  rfl
/-- __init__ of a new instance at p: H0 the heap ahead of it -/
def spInit (K : PySem.W.Frag) (CB CS : Addr) : Sp := fun vs H Q E => ∃ B H0 p dx v d, vs = [.ref p, v] ∧ At still B H0 ∧ H0 p = none ∧ H0 dx = none ∧ dx ≠ p ∧ H = upd (upd H0 dx (.own p)) p (.ins CS dx []) ∧ Rep K B v d ∧ d.tameN 6 = true ∧
  (∀ l, d = .tup l → typesB d = true → ∀ B1 H1, Gr still B H0 B1 H1 → Rep K B1 (.ref p) (schemaD CS l) → Q .non H1) ∧ (typesB d = false → ∀ B1 H1, Gr still B H0 B1 H1 → E (.ref CB) none H1)
section
variable {m : Md} {P : Program} {w : World} {K : PySem.W.Frag} {mg : Str → Option Value} {base : Heap} {f CB CS aKinds : Addr} {fd : FuncData}
theorem ok_init (T : Txt K mg CB aKinds) (S : TxS K mg CS) (d__check_types : Cal P w K mg base (CX P w) 5 "_check_types" ["types"] (spX K CB fTypes)) (F : Fun K "__init__" "Schema.__init__" s_Schema_init f fd) :
    FnOk P w K mg base (CX P w) 6 f fd ["self", "types"] (spInit K CB CS) := by
  refine F.okX sc_Schema_init (fun vs H Q E h => ?_) (fun cdv A outer s H vs Q E hr h => ?_)
  · obtain ⟨B, H0, p, dx, v, d, rfl, _⟩ := h; rfl
  · obtain ⟨B, H0, p, dx, v, d, rfl, a0, np, ndx, ne, rfl, r1, ht, ok, er⟩ := h
    refine ⟨_, pss_cons (ps_expr (pe_cal d__check_types (hr.mono (by decide)) rfl (passes_call (takes_of rfl rfl rfl rfl) (fun _ _ _ _ h => h)) (pa_cons (pv 1) pa_nil)))
  (pss_cons (ps_fld (pv 0) (pv 1) rfl)
  (pss_cons (ps_fld (pv 0) (pe_callTy call_tuple_of (by rfl) T.n_tuple (by decide +kernel : bootBuiltins "tuple" = some (.type "tuple")) (pa_cons (pe_lc (own := [(("pair" : Str), 2)]) (g := gName 2) (tt := tYes) rfl sc_Schema_init.nd (pi_tup (pv 1)) (blkOk_by (own := [(("pair" : Str), 2)]) (N := ["self", "types", "pair", "name", "fields", "definition"]) (sc := defScope s_Schema_init) (by decide +kernel)) (fun _ _ _ _ _ => (pg_name (i := 2) sc_Schema_init.nd rfl (Or.inl rfl))) (fun _ _ _ _ _ => pts_nil) (fun _ _ _ _ _ => (pe_ix (ix_tup : IxR _ (rIxT K)) (pv 2) pe_int (fun _ _ => rfl)))) pa_nil)) rfl)
  (pss_one (ps_fld (pv 0) (pe_dc2 (own := [(("name" : Str), 3), (("fields" : Str), 4), (("definition" : Str), 5)]) (vs1 := [5]) (g := gTup K 2 (gCons (gName 3) (gCons (gName 4) gNil))) (g1 := gName 5) (tt := tYes) (tt1 := tYes) (wi1 := iTup K (tVar 4)) (Nat.lt_of_succ_lt (hu_of hr)) rfl sc_Schema_init.nd (pi_tup (pv 1)) (blkOk_by (own := [(("name" : Str), 3), (("fields" : Str), 4), (("definition" : Str), 5)]) (N := ["self", "types", "pair", "name", "fields", "definition"]) (sc := defScope s_Schema_init) (by decide +kernel)) (by decide) (fun _ _ _ _ _ => (pg_tup rfl (pgs_cons (pg_name (i := 3) sc_Schema_init.nd rfl (Or.inl rfl)) (pgs_cons (pg_name (i := 4) sc_Schema_init.nd rfl (Or.inl rfl)) pgs_nil)))) (fun _ _ _ _ _ => pts_nil) (fun _ _ _ _ _ => (pi_tup (pv 4))) (fun _ _ _ _ _ => (pg_name (i := 5) sc_Schema_init.nd rfl (Or.inl rfl))) (fun _ _ _ _ _ => pts_nil) (fun _ _ _ _ _ => (pe_tup (pa_cons (pv 3) (pa_cons (pe_ix (ix_tup : IxR _ (rIxT K)) (pv 5) pe_int (fun _ _ => rfl)) pa_nil)))) (fun _ _ _ _ _ => (pv 5))) rfl)))), ?_⟩
    have e0 : Ex H0 (upd (upd H0 dx (.own p)) p (.ins CS dx [])) := fun b o q => by rw [upd_ne (ne_of_none q np), upd_ne (ne_of_none q ndx)]; exact q
    have g0 : Gr still B H0 B (upd (upd H0 dx (.own p)) p (.ins CS dx [])) := .ex a0 e0
    have nB : B p = none := by
      cases c : B p with
      | none => rfl
      | some o => rw [a0.sub p o c] at np; cases np
    have no : ¬ still.M p := fun z => z
    refine y_callX g0.at_ (da_one (d_var rfl r1)) (show fTypes [d] = some (if typesB d then some .non else none) by simp [fTypes, ht]) (fun d' hd' B1 H1 g1 => ?_) (fun hd' B1 H1 g1 => ?_)
    · have hb : typesB d = true := by
        cases q : typesB d with
        | true => rfl
        | false => rw [q] at hd'; cases hd'
      obtain ⟨l, rfl, hl1, hl5, hpairs, hdiff, hfields⟩ := typesB_ex hb
      have kids := (D.tameN_kid ht).2
      have p1 : H1 p = some (.ins CS dx []) := g1.exH p _ upd_same
      have q1 : B1 p = none := g1.off nB upd_same
      refine y_fld g1.at_ no rfl p1 S.cl_Schema S.n_types (by decide) (d_var rfl (r1.up g1.grow)) fun v1 B2 H2 g2 rv1 => ?_
      have p2 := g2.keep p _ no p1
      have q2 := g2.off q1 p1
      have g02 := ((g0.trans g1).trans g2).upd no np q2 (.ins CS dx (putF "types" v1 []))
      refine y_fld g02.at_ no rfl upd_same S.cl_Schema S.n_names (by show 1 < 1000; decide) (d_tupL (d_is (d' := .lst ((l.map headName).map D.str)) (d_lcT (fun _ => true) (fun d => .str (headName d)) (d_var rfl (r1.up (g1.grow.trans g2.grow))) (by omega) fun d hd v' B' e' rv => ⟨[some (.ref p), some v, some v', none, none, none], rfl, fun H Q _ q => q, t_yes, fun _ => ?_⟩) ?_)) fun v2 B3 H3 g3 rv2 => ?_
      · obtain ⟨px, pl, rfl, _⟩ := pairB_ex (hpairs d hd)
        exact d_ixT (d_var rfl rv) d_int (atI_nat (j := 0) rfl)
      · rw [filter_yes, List.map_map]; rfl
      have p3 := g3.keep p _ no upd_same
      have q3 := g3.off q2 upd_same
      have g03 := (g02.trans g3).upd no np q3 (.ins CS dx (putF "names" v2 (putF "types" v1 [])))
      have inner : ∀ t ∈ l, ∃ x fl, t = .tup [.str x, .tup fl] ∧ fl.length ≤ 6 ∧ (∀ e ∈ fl, defB (l.map headName) e = true) ∧ differN (fl.map headName) = true := fun t ht => by
        obtain ⟨x, fl, rfl, _, h6⟩ := pairB_ex (hpairs t ht)
        obtain ⟨fl', e, h1, h2⟩ := fieldsB_ex (hfields _ ht)
        have e' : fl' = fl := by injection e with _ e2; exact e2.symm
        subst e'
        exact ⟨x, fl', rfl, h6, h1, h2⟩
      have nd : ((entriesOf l).map (·.1)).Nodup := (keys_nodup l (differN_nodup hdiff) fun t ht => by
        obtain ⟨x, fl, rfl, _, _, h⟩ := inner t ht
        exact differN_nodup h).1
      have small : (entriesOf l).length ≤ 6 * l.length := by
        have : ∀ l' : List D, (∀ t ∈ l', t ∈ l) → (entriesOf l').length ≤ 6 * l'.length := fun l' => by
          induction l' with
          | nil => intro _; simp [entriesOf]
          | cons t l' ih =>
            intro h
            have i := ih fun s hs => h s (.tail _ hs)
            obtain ⟨x, fl, rfl, h6, _⟩ := inner t (h t (.head _))
            have e : entriesOf (D.tup [.str x, .tup fl] :: l') = fl.map (fun e => entryOf (.tup [.str x, .tup fl]) e) ++ entriesOf l' := rfl
            rw [e, List.length_append, List.length_map, List.length_cons]
            omega
        exact this l fun t h => h
      have up3 : Ex B B3 := (g1.grow.trans g2.grow).trans g3.grow
      refine x_fld g03.at_ no rfl upd_same S.cl_Schema S.n_defs (by
        have hn : ¬ (("types" : Str) = "names") := by decide +kernel
        show (if ("types" : Str) = "names" then _ else _ : List (Str × V)).length < 1000
        rw [if_neg hn]; show 2 < 1000; decide) (d_dc2T fieldsOf (fun t e => [.inr (headName t), .inr (headName e)]) (fun _ e => e) (entriesOf l) rfl (d_var rfl (r1.up up3)) nd (by omega) fun t ht' v' B' e' rv => ?_) fun v3 B4 H4 g4 rv3 => ?_
      · obtain ⟨x, fl, rfl, h6, hdefs, _⟩ := inner t ht'
        obtain ⟨ta, xs, ev, s, rs⟩ := rv.tupI
        obtain ⟨va, vb, rfl, ra, rb⟩ := rs.i2
        subst ev
        refine ⟨[some (.ref p), some v, none, some va, some vb, none], rfl, fun H Q e q => ⟨ta, _, rfl, ex_t e s, rfl, va, [vb], rfl, vb, [], rfl, rfl, q⟩, d_var rfl rb, fun e he v'' B'' e'' rv' => ⟨[some (.ref p), some v, none, some va, some vb, some v''], rfl, fun H Q _ q => q, (by show 2 ≤ 1000; decide), ?_, d_var rfl rv'⟩⟩
        obtain ⟨fx, fb, fc, fe, rfl, _⟩ := defB_ex (hdefs e he)
        exact da_cons (d_var rfl (ra.up e'')) (da_one (d_ixT (d_var rfl rv') d_int (atI_nat (j := 0) rfl)))
      have p4 := g4.keep p _ no upd_same
      have q4 := g4.off q3 upd_same
      have g04 := (g03.trans g4).upd no np q4 (.ins CS dx (putF "_definitions" v3 (putF "names" v2 (putF "types" v1 []))))
      have g05 := g04.freeze no np q4 upd_same
      refine ok l rfl hb _ _ g05 ?_
      have up5 : Ex B4 (upd B4 p (.ins CS dx (putF "_definitions" v3 (putF "names" v2 (putF "types" v1 []))))) := fun a u e => by rw [upd_ne (ne_of_none e q4)]; exact e
      refine .nd (t := .ob CS ["types", "names", "_definitions"]) (xs := [v1, v2, v3]) ⟨rfl, dx, ?_⟩ (.cons ((rv1.up (g3.grow.trans g4.grow)).up up5) (.cons ((rv2.up g4.grow).up up5) (.cons (rv3.up up5) .nil)))
      rw [upd_same, schema_fields]
    · have hb : typesB d = false := by
        cases q : typesB d with
        | false => rfl
        | true => rw [q] at hd'; cases hd'
      exact er hb _ _ (g0.trans g1)
end
end Fq
set_option Elab.async false
set_option linter.all false
set_option maxRecDepth 100000
set_option maxHeartbeats 4000001
namespace Fq
open PySem L2 Evl
/-! ### the methods -/
def namesOf (l : List D) : List Str := l.map headName
/-- the definition of a field of a type -/
def defOf (l : List D) (tn n : Str) : D := lookD ((entriesOf l).map (·.1)) ((entriesOf l).map (·.2)) [.inr tn, .inr n]
def rRoot (CS : Addr) : List D → D → Prop := fun ds r => ∃ (t : D) (l : List D), ds = [schemaD CS (t :: l)] ∧ r = .str (headName t)
def rFieldOf (CS : Addr) : List D → D → Prop := fun ds r => ∃ (l : List D) (tn n : Str), ds = [schemaD CS l, .str tn, .str n] ∧ r = defOf l tn n
def rPlaceOf (CS : Addr) : List D → D → Prop := fun ds r => ∃ (l : List D) (tg : Tag) (xs : List Str), ds = [schemaD CS l, .nd tg (xs.map D.str)] ∧ (tg = .tup ∨ tg = .lst) ∧ l.length ≤ 5 ∧ r = .tup (((namesOf l).filter fun x => decide (x ∈ xs)).map D.str)
def rTargetsOf (CS : Addr) : List D → D → Prop := fun ds r => ∃ (l : List D) (tn n : Str) (a b c : D) (xs : List Str), ds = [schemaD CS l, .str tn, .str n] ∧ l.length ≤ 5 ∧ defOf l tn n = .tup [a, b, c, .tup (xs.map D.str)] ∧ r = .tup (((namesOf l).filter fun x => decide (x ∈ xs)).map D.str)
def fKey : List D → Option D
  | [.nd .tup [.str n, .non]] => if n.length ≤ 1000 then some (.str n) else none
  | [.nd .tup [.str n, .int i]] => if n.length ≤ 1000 ∧ 0 ≤ i ∧ i ≤ 99 then some (.str (n ++ Str.ofString (toString i))) else none
  | _ => none
theorem num_small {i : Int} (h0 : 0 ≤ i) (h1 : i ≤ 99) : (Str.ofString (toString i)).length ≤ 10 := by
  have h : ∀ k : _root_.Fin 100, (Str.ofString (toString ((k.val : Nat) : Int))).length ≤ 10 := by decide +kernel
  have q := h ⟨i.toNat, by omega⟩
  have e : ((i.toNat : Nat) : Int) = i := by omega
  rw [← e]; exact q
theorem schema_inj {CS : Addr} {l l' : List D} (h : schemaD CS l = schemaD CS l') : l = l' := by
  injection h with _ h2
  injection h2 with h3 _
  injection h3 with _ h4
theorem map_str_inj {xs ys : List Str} (h : xs.map D.str = ys.map D.str) : xs = ys := by
  have q := strsOf_of xs
  rw [h, strsOf_of] at q
  exact (Option.some.inj
      q).symm
section
variable {m : Md} {P : Program} {w : World} {K : PySem.W.Frag} {mg : Str → Option Value} {base : Heap} {f CB CS aKinds : Addr} {fd : FuncData}
theorem ok_root (S : TxS K mg CS) (F : Fun K "root" "Schema.root" s_Schema_root f fd) : FnOk P w K mg base CX0 1 f fd ["self"] (spR K (rRoot CS)) := by
  refine ok_R F sc_Schema_root (fun ds r h => ?_) (fun cdv A outer s B H vs Q E hr ds a hR hF ok => ?_)
  · obtain ⟨t, l, rfl, _⟩ := h; rfl
  · obtain ⟨r, t, l, rfl, rfl⟩ := hF
    obtain ⟨x, rfl, r1⟩ := hR.i1
    refine ⟨_, pss_one (ps_ret (pe_ix ix_tup (pe_fld (pv 0) rfl) pe_int (fun _ _ => rfl))), ?_⟩
    exact x_ret a (d_ixT (d_fld (d_var rfl r1) rfl S.cl_Schema S.n_names) d_int (atI_nat (j := 0) rfl)) fun v B1 H1 g1 r1 => ok _ ⟨t, l, rfl, rfl⟩ v B1 H1 g1 r1
theorem ok_fieldOf (S : TxS K mg CS) (F : Fun K "field_of" "Schema.field_of" s_Schema_field_of f fd) : FnOk P w K mg base CX0 1 f fd ["self", "type_name", "name"] (spR K (rFieldOf CS)) := by
  refine ok_R F sc_Schema_field_of (fun ds r h => ?_) (fun cdv A outer s B H vs Q E hr ds a hR hF ok => ?_)
  · obtain ⟨l, tn, n, rfl, _⟩ := h; rfl
  · obtain ⟨r, l, tn, n, rfl, rfl⟩ := hF
    obtain ⟨x, y, z, rfl, r1, r2, r3⟩ := hR.i3
    refine ⟨_, pss_one (ps_ret (pe_dget1 (hu_of hr) (pe_fld (pv 0) rfl) (pe_tup (pa_cons (pv 1) (pa_cons (pv 2) pa_nil))) ⟨rfl, rfl, rfl, rfl⟩)), ?_⟩
    exact x_ret a (d_dget (k := [.inr tn, .inr n]) (d_fld (d_var rfl r1) rfl S.cl_Schema S.n_defs) (da_cons (d_var rfl r2) (da_one (d_var rfl r3))) (by show 2 ≤ 1000; decide)) fun v B1 H1 g1 q1 => ok _ ⟨l, tn, n, rfl, rfl⟩ v B1 H1 g1 q1
theorem ok_placeOf (T : Txt K mg CB aKinds) (S : TxS K mg CS) (F : Fun K "place_of" "Schema.place_of" s_Schema_place_of f fd) : FnOk P w K mg base CX0 1 f fd ["self", "type_names"] (spR K (rPlaceOf CS)) := by
  refine ok_R F sc_Schema_place_of (fun ds r h => ?_) (fun cdv A outer s B H vs Q E hr ds a hR hF ok => ?_)
  · obtain ⟨l, tg, xs, rfl, _⟩ := h; rfl
  · obtain ⟨r, l, tg, xs, rfl, htg, h5, rfl⟩ := hF
    obtain ⟨x, y, rfl, r1, r2⟩ := hR.i2
    refine ⟨_, pss_one (ps_ret (pe_callTy call_tuple_of (by rfl) T.n_tuple (by decide +kernel : bootBuiltins "tuple" = some (.type "tuple")) (pa_cons (pe_lc (own := [(("name" : Str), 2)]) (g := gName 2) rfl sc_Schema_place_of.nd (pi_tup (pe_fld (pv 0) rfl)) (blkOk_by (own := [(("name" : Str), 2)]) (N := ["self", "type_names", "name"]) (sc := defScope s_Schema_place_of) (by decide +kernel)) (fun _ _ _ _ _ => (pg_name (i := 2) sc_Schema_place_of.nd rfl (Or.inl rfl))) (fun _ _ _ _ _ => pts_one (pt_cmpR (op_in_seq : OpR _ (compareOp .In) (rIn K false)) (pv 2) (pv 1) rfl)) (fun _ _ _ _ _ => (pv 2))) pa_nil))), ?_⟩
    refine x_ret a (d_tupL (d_is (d' := .lst (((namesOf l).filter fun x => decide (x ∈ xs)).map D.str)) (d_lcT (fun d => match d with
      | .str z => decide (z ∈ xs)
      | _ => false) (fun d => d) (ds := (namesOf l).map D.str) (d_fld (d_var rfl r1) rfl S.cl_Schema S.n_names) (by simp [namesOf]; omega) fun d hd v B2 e2 rv => ?_) ?_)) fun v B1 H1 g1 q1 => ok _ ⟨l, tg, xs, rfl, htg, h5, rfl⟩ v B1 H1 g1 q1
    · obtain ⟨z, _, rfl⟩ := List.mem_map.mp hd
      exact ⟨[some x, some y, some v], rfl, fun H Q _ q => q, t_test (d_inQ htg (d_var rfl rv) (d_var rfl (r2.up e2))), fun _ => d_var rfl rv⟩
    · rw [List.map_id', List.filter_map]; rfl
theorem ok_targetsOf (T : Txt K mg CB aKinds) (S : TxS K mg CS) {fF fP : Addr} {fdF fdP : FuncData} (m_Schema_field_of : Meth K CS "field_of" fF) (d_Schema_field_of : FnOk P w K mg base CX0 1 fF fdF ["self", "type_name", "name"] (spR K (rFieldOf CS))) (b_Schema_field_of : Binds K fdF ["self", "type_name", "name"] [])
    (m_Schema_place_of : Meth K CS "place_of" fP) (d_Schema_place_of : FnOk P w K mg base CX0 1 fP fdP ["self", "type_names"] (spR K (rPlaceOf CS))) (b_Schema_place_of : Binds K fdP ["self", "type_names"] [])
    (F : Fun K "targets_of" "Schema.targets_of" s_Schema_targets_of f fd) : FnOk P w K mg base CX0 2 f fd ["self", "type_name", "name"] (spR K (rTargetsOf CS)) := by
  refine ok_R F sc_Schema_targets_of (fun ds r h => ?_) (fun cdv A outer s B H vs Q E hr ds a hR hF ok => ?_)
  · obtain ⟨l, tn, n, x, b, c, xs, rfl, _⟩ := h; rfl
  · obtain ⟨r, l, tn, n, da, db, dc, xs, rfl, h5, hdef, rfl⟩ := hF
    obtain ⟨x, y, z, rfl, r1, r2, r3⟩ := hR.i3
    refine ⟨_, pss_cons (ps_set (i := 3) sc_Schema_targets_of.nd rfl (Or.inl rfl) (pe_ix ix_tup (pe_meth (pv 0) S.cl_Schema m_Schema_field_of d_Schema_field_of (hr.mono (by decide)) b_Schema_field_of .nil pass0 (pa_cons (pv 1) (pa_cons (pv 2) pa_nil))) pe_int (fun _ _ => rfl)))
  (pss_one (ps_ret (pe_meth (pv 0) S.cl_Schema m_Schema_place_of d_Schema_place_of (hr.mono (by decide)) b_Schema_place_of .nil pass0 (pa_cons (pv 3) pa_nil)))), ?_⟩
    refine y_asg a (d_ixT (d := .tup (xs.map D.str)) (d_methR (d := .tup [da, db, dc, .tup (xs.map D.str)]) (d_var rfl r1) (by decide +kernel) (da_cons (d_var rfl r2) (da_one (d_var rfl r3))) ⟨l, tn, n, rfl, hdef.symm⟩ fun r hr => ?_) d_int (atI_nat (j := 3) rfl)) fun v B1 H1 g1 q1 => ?_
    · obtain ⟨l', tn', n', e, rfl⟩ := hr
      injection e with e1 e2
      injection e2 with e3 e4
      injection e4 with e5 _
      injection e3 with e3
      injection e5 with e5
      subst e3 e5
      rw [← schema_inj e1]; exact hdef
    · refine x_ret g1.at_ (d_methR (d := .tup (((namesOf l).filter fun x => decide (x ∈ xs)).map D.str)) (d_var rfl (r1.up g1.grow)) (by decide +kernel) (da_one (d_var rfl q1)) ⟨l, .tup, xs, rfl, .inl rfl, h5, rfl⟩ fun r hr => ?_) fun v B2 H2 g2 q2 => ok _ ⟨l, tn, n, da, db, dc, xs, rfl, h5, hdef, rfl⟩ v B2 H2 (g1.trans g2) q2
      obtain ⟨l', tg', xs', e, _, _, rfl⟩ := hr
      injection e with e1 e2
      injection e2 with e3 _
      injection e3 with _ e4
      rw [← schema_inj e1, map_str_inj e4]
theorem ok_key (F : Fun K "field_key" "field_key" s_field_key f fd) : FnOk P w K mg base CX0 1 f fd ["field"] (spF K fKey) := by
  refine ok_F F sc_field_key (fun ds r h => ?_) (fun cdv A outer s B H vs Q E hr ds r a hR hF ok => ?_)
  · match ds, h with
    | [.nd .tup [.str n, .non]], _ => rfl
    | [.nd .tup [.str n, .int i]], _ => rfl
  · refine ⟨_, pss_cons (ps_asg (pv 0) (pg_tup rfl (pgs_cons (pg_name (i := 1) sc_field_key.nd rfl (Or.inl rfl)) (pgs_cons (pg_name (i := 2) sc_field_key.nd rfl (Or.inl rfl)) pgs_nil))))
  (pss_one (ps_ret (pe_ifExp (pt_cmp (pc_isN (pv 2))) (pv 1) (pe_joined (PJ.cons (pe_fmt (pv 1)) (PJ.cons (pe_fmt (pv 2)) PJ.nil)))))), ?_⟩
    match ds, hF with
    | [.nd .tup [.str n, .non]], hF =>
      obtain ⟨x, rfl, r1⟩ := hR.i1
      have hn : n.length ≤ 1000 := by
        by_cases q : n.length ≤ 1000
        · exact q
        · simp [fKey, q] at hF
      obtain rfl : r = .str n := by simp [fKey, hn] at hF; exact hF.symm
      refine y_asg2 a (d_var rfl r1) fun va vb B1 H1 g1 ra rb => ?_
      exact x_ret g1.at_ (d_if (b := true) (t_val (d_isN (d_var rfl rb))) (fun _ => d_var rfl ra) (fun h => by cases h)) fun v B2 H2 g2 q2 => ok v B2 H2 (g1.trans g2) q2
    | [.nd .tup [.str n, .int i]], hF =>
      obtain ⟨x, rfl, r1⟩ := hR.i1
      have hn : n.length ≤ 1000 ∧ 0 ≤ i ∧ i ≤ 99 := by
        by_cases q : n.length ≤ 1000 ∧ 0 ≤ i ∧ i ≤ 99
        · exact q
        · simp [fKey, q] at hF
      obtain rfl : r = .str (n ++ Str.ofString (toString i)) := by simp [fKey, hn] at hF; exact hF.symm
      have hlog : i.natAbs.log2 < 1920 := by
        have : i.natAbs.log2 ≤ i.natAbs := Nat.log2_le_self _
        omega
      refine y_asg2 a (d_var rfl r1) fun va vb B1 H1 g1 ra rb => ?_
      have small := num_small hn.2.1 hn.2.2
      refine x_ret g1.at_ (d_if (b := false) (t_val (d_isN (d_var rfl rb))) (fun h => by cases h) (fun _ => d_is (d_joined (j_cons (d_fmt (d_var rfl ra) (by omega)) (by rw [str_empty_app]; omega) (j_cons (d_fmtI (d_var rfl rb) hlog) (by rw [str_empty_app, str_len_app]; omega) j_nil))) (by rw [str_empty_app]))) fun v B2 H2 g2 q2 => ok v B2 H2 (g1.trans g2) q2
end
end Fq
set_option Elab.async false
set_option linter.all false
set_option maxRecDepth 100000
set_option maxHeartbeats 4000001
namespace Fq
open PySem L2 Evl
def rCell : List D → D → Prop := fun ds r => ∃ (ns : List Int) (k : Int), ds = [.lst (ns.map D.int), .int k] ∧ 0 ≤ k ∧ ∃ n : Int, r = .int n
/-- new: a list of n digits -/
def spDraws (K : PySem.W.Frag) : Sp := fun vs H Q _ => ∃ (B : Hp) (c : Int) (n : Nat), vs = [.int c, .int (n : Int)] ∧ Ex B H ∧ n ≤ 60 ∧ ∀ (out : List Int) (q : Addr) (B1 H1 : Hp), Gr still B H B1 H1 → B1 q = some (.lst (out.map V.int)) → out.length = n → (∀ x ∈ out, 0 ≤ x) → Q (.ref q) H1
def spStream (K : PySem.W.Frag) : Sp := fun vs H Q _ => ∃ (B : Hp) (a : Addr) (ns : List Int) (first : Int) (n : Nat), vs = [.ref a, .int first, .int (n : Int)] ∧ Ex B H ∧ SqL K B a (ns.map V.int) ∧ 0 ≤ first ∧ 0 < n ∧ n ≤ 63 ∧
  ∀ (out : List Int) (s dgt p : Addr) (B1 H1 : Hp), Gr still B H B1 H1 → Strm B1 s dgt p out → B1 p = none → H p = none → H1 p = some (.lst [.int 0]) → Q (.ref s) H1
section
variable {m : Md} {P : Program} {w : World} {K : PySem.W.Frag} {mg : Str → Option Value} {base : Heap} {f CB CS aKinds : Addr} {fd : FuncData}
theorem ok_cell (T : Txt K mg CB aKinds) (F : Fun K "_law_cell" "_law_cell" s__law_cell f fd) : FnOk P w K mg base CX0 1 f fd ["script", "k"] (spR K rCell) := by
  refine ok_R F sc__law_cell (fun ds r h => ?_) (fun cdv A outer s B H vs Q E hr ds a hR hF ok => ?_)
  · obtain ⟨ns, k, rfl, _⟩ := h; rfl
  · obtain ⟨r, ns, k, rfl, h0, n, rfl⟩ := hF
    obtain ⟨x, y, rfl, r1, r2⟩ := hR.i2
    refine ⟨_, pss_cons (ps_if (pt_cmpR op_lt (pv 1) (pe_callB call_len_seq (by rfl) T.n_len PySem.boot_len (pa_cons (pv 0) pa_nil)) (nomark _)) (pss_one (ps_ret (pe_callTy call_int1 (by rfl) T.n_int (by decide +kernel : bootBuiltins "int" = some (.type "int")) (pa_cons (pe_ix ix_list (pv 0) (pv 1) (fun _ _ => rfl)) pa_nil)))) pss_nil)
  (pss_one (ps_ret pe_int)), ?_⟩
    refine y_when a (t_test (d_opB (g := fun i j => decide (i < j)) (d_var rfl r2) (d_lenL (d_var rfl r1)))) (fun hb B1 H1 g1 => ?_) (fun hb B1 H1 g1 => ?_)
    · have hk : k < ((ns.map D.int).length : Int) := of_decide_eq_true hb
      have hk' : k.toNat < ns.length := by simp at hk; omega
      have hat : atI (ns.map D.int) k = some (.int ns[k.toNat]) := by
        have e : k = ((k.toNat :
            Nat) : Int) := by omega
        have : (ns.map D.int)[k.toNat]? = some (.int ns[k.toNat]) := by simp [hk']
        have q := atI_nat this
        rw [← e] at q; exact q
      exact x_ret g1.at_ (d_intc (d_ixL (d_var rfl (r1.up g1.grow)) (d_var rfl (r2.up g1.grow)) hat)) fun v B2 H2 g2 q2 => ok _ ⟨ns, k, rfl, h0, _, rfl⟩ v B2 H2 (g1.trans g2) q2
    · exact x_ret (K := K) g1.at_ d_int fun v B2 H2 g2 q2 => ok _ ⟨ns, k, rfl, h0, _, rfl⟩ v B2 H2 (g1.trans g2) q2
theorem ok_draws (T : Txt K mg CB aKinds) (F : Fun K "_law_draws" "_law_draws" s__law_draws f fd) : FnOk P w K mg base CX0 1 f fd ["cell", "count"] (spDraws K) := by
  refine F.ok sc__law_draws (fun vs H Q E h => ?_) (fun cdv A outer s H vs Q E hr h => ?_)
  · obtain ⟨B, c, n, rfl, _⟩ := h; rfl
  · obtain ⟨B, c, n, rfl, e, hn, ok⟩ := h
    have a : At still B H := ⟨e, fun _ z => z.elim, trivial⟩
    refine ⟨_, pss_cons (ps_set (i := 2) sc__law_draws.nd rfl (Or.inl rfl) (pe_callB call_abs (by rfl) T.n_abs (by decide +kernel : bootBuiltins "abs" = some (.builtin "abs")) (pa_cons (pe_callTy call_int1 (by rfl) T.n_int (by decide +kernel : bootBuiltins "int" = some (.type "int")) (pa_cons (pv 0) pa_nil)) pa_nil)))
  (pss_cons (ps_set (i := 3) sc__law_draws.nd rfl (Or.inl rfl) (pe_cmpR op_ge (pv 2) (pe_op op_pow pe_int pe_int) (nomark _)))
  (pss_cons (ps_set (i := 4) sc__law_draws.nd rfl (Or.inl rfl) (pe_lst pa_nil))
  (pss_cons (ps_for PassesOwn.never rfl (pi_range1 (by rfl) T.n_range (pa_cons pe_int pa_nil)) (pg_name (i := 5) sc__law_draws.nd rfl (Or.inl rfl))
    (pss_one (ps_if (PW.pt (pw_and (pt_cmpR op_lt (pv 5) (pv 1) (nomark _)) (pw_and1 (pt_val (pv 3))))) (pss_cons (ps_expr (pe_bm PySem.F.plainAttrs_list PySem.F.slot_list_append PySem.F.type_list_append mt_append (pv 4) (pa_cons (pe_op op_mod (pv 2) pe_int) pa_nil)))
      (pss_one (ps_set (i := 2) sc__law_draws.nd rfl (Or.inl rfl) (pe_op op_fdivN (pv 2) pe_int)))) (pss_one (ps_if (pt_cmpR op_lt (pv 5) (pv 1) (nomark _)) (pss_cons (ps_set (i := 6) sc__law_draws.nd rfl (Or.inl rfl) (pe_op op_mod (pe_op op_add (pe_op op_add (pe_op op_mul (pe_callTy call_int1 (by rfl) T.n_int (by decide +kernel : bootBuiltins "int" = some (.type "int")) (pa_cons (pv 2) pa_nil)) pe_int) (pe_op op_mul (pv 5) pe_int)) pe_int) pe_int))
        (pss_cons (ps_set (i := 6) sc__law_draws.nd rfl (Or.inl rfl) (pe_op op_mod (pe_op op_add (pe_op op_add (pe_op op_mul (pe_callTy call_int1 (by rfl) T.n_int (by decide +kernel : bootBuiltins "int" = some (.type "int")) (pa_cons (pv 6) pa_nil)) (pe_callTy call_int1 (by rfl) T.n_int (by decide +kernel : bootBuiltins "int" = some (.type "int")) (pa_cons (pv 6) pa_nil))) (pe_op op_mul (pv 5) pe_int)) pe_int) pe_int))
        (pss_one (ps_expr (pe_bm PySem.F.plainAttrs_list PySem.F.slot_list_append PySem.F.type_list_append mt_append (pv 4) (pa_cons (pe_op op_mod (pe_callTy call_int1 (by rfl) T.n_int (by decide +kernel : bootBuiltins "int" = some (.type "int")) (pa_cons (pv 6) pa_nil)) pe_int) pa_nil)))))) pss_nil)))))
  (pss_one (ps_ret (pv 4)))))), ?_⟩
    refine y_asg (K := K) a (d_abs (d_intc (d_var rfl (.int c)))) fun v1 B1 H1 g1 q1 => ?_
    obtain ⟨num0, hnum0, hpos0⟩ : ∃ num0 : Int, (if c < 0 then -c else c) = num0 ∧ 0 ≤ num0 := ⟨_, rfl, by split <;> omega⟩
    rw [hnum0] at q1
    refine y_asg g1.at_ (d_opB (g := fun i j => decide (j ≤ i)) (d_var rfl q1) (d_opC (C := CPow) (g := fun i j => i ^ j.toNat) d_int d_int ⟨by decide, by decide, by decide⟩)) fun v2 B2 H2 g2 q2 => ?_
    obtain ⟨gr, hgr⟩ : ∃ gr : Bool, v2 = .bl gr := ⟨_, q2.blI⟩
    subst hgr
    obtain rfl := q1.intI
    have g12 := g1.trans g2
    refine y_nil fun p hp => ?_
    have nB : B2 p = none := by
      cases z : B2 p with
      | none => rfl
      | some o => rw [g2.sub p o z] at hp; cases hp
    have np : H p = none := g12.none_of hp
    have g3 : Gr still B H B2 (upd H2 p (.lst [])) := g12.trans (.ex g2.at_ (Ex.new hp))
    refine x_forRn (K := K) g3 (d_int (i := 60)) (by omega) (fun i σ' B' H' => ∃ (num : Int) (o5 o6 : Option V) (acc : List Int), σ' = [some (.int c), some (.int (n : Int)), some (.int num), some (.bl gr), some (.ref p), o5, o6] ∧ 0 ≤ num ∧ B' p = none ∧ H' p = some (.lst (acc.map V.int)) ∧ acc.length = min i n ∧ ∀ x ∈ acc, 0 ≤ x) 5 ?_ ?_ ?_
    · intro B4 H4 g4
      exact ⟨num0, none, none, [], rfl, hpos0, g4.off nB upd_same, g4.keep p _ (fun z => z) upd_same, by simp, fun x h => by cases h⟩
    · rintro i σ' Bl B5 H5 hi e0 g5 e1 ⟨num, o5, o6, acc, rfl, hn0, nb, hp5, hl, hx⟩
      have hi' : i < 60 := by omega
      have no : ¬ still.M p := fun z => z
      -- one more digit
      have grow : ∀ (v : Int) (B6 H6 : Hp), 0 ≤ v → Gr still B H B6 H6 → Ex Bl B6 → B6 p = none → i < n → ∀ (num' : Int) (o6' : Option V), 0 ≤ num' → Nx still B H Bl (fun σ' B' H' => ∃ (num : Int) (o5 o6 : Option V) (acc : List Int), σ' = [some (.int c), some (.int (n : Int)), some (.int num), some (.bl gr), some (.ref p), o5, o6] ∧ 0 ≤ num ∧ B' p = none ∧ H' p = some (.lst (acc.map V.int)) ∧ acc.length = min (i + 1) n ∧ ∀ x ∈ acc, 0 ≤ x)
          [some (.int c), some (.int (n : Int)), some (.int num'), some (.bl gr), some (.ref p), some (.int (i : Int)), o6'] (upd H6 p (.lst (acc.map V.int ++ [.int v]))) := fun v B6 H6 hv g6 e6 nb6 lt num' o6' hn' =>
        ⟨B6, g6.upd no np nb6 _, e6, num', _, o6', acc ++ [v], rfl, hn', nb6, by rw [upd_same]; simp, by rw [List.length_append]; simp; omega, fun x h => by
          rcases List.mem_append.mp
              h with h | h
          · exact hx x h
          · have : x = v := by simpa using h
            omega⟩
      refine x_if (b := decide ((i : Int) < (n : Int)) && gr) g5.at_ (t_and (t_test (K := K) (d_opB (g := fun i j => decide (i < j)) (d_var rfl (.int _)) (d_var rfl (.int _)))) fun _ => t_val (K := K) (d_var rfl (.bl gr))) (fun hb B6 H6 g6 => ?_) (fun hb B6 H6 g6 => ?_)
      · have lt : i < n := by have := of_decide_eq_true (Bool.and_eq_true_iff.mp hb).1; omega
        have p6 := g6.keep p _ no hp5
        refine y_app g6.at_ no p6 rfl (d_opC (K := K) (C := fun _ j => 0 < j) (g := fun i j => i % j) (d_var rfl (.int num)) d_int (by decide)) (by simp; omega) fun v d B7 H7 g7 rv e7 => ?_
        subst e7
        obtain rfl := rv.intI
        have g67 := g6.trans g7
        have nb7 := g67.off nb hp5
        have g57 := (g5.trans g67)
        have pos : 0 ≤ num % 60 := Int.emod_nonneg _ (by decide)
        have g8 := g57.upd no np nb7 (.lst (acc.map V.int ++ [.int (num % 60)]))
        refine x_asg g8.at_ (d_opC (K := K) (C := CDivN) (g := fun i j => i.fdiv j) (d_var rfl (.int num)) d_int ⟨by decide, by decide⟩) fun v9 B9 H9 g9 r9 => ?_
        obtain rfl := r9.intI
        have p9 := g9.keep p _ no upd_same
        have nb9 := g9.off nb7 upd_same
        obtain ⟨B', h1, h2, num', o5', o6', acc', h3, h4⟩ := grow (num % 60) B7 H7 pos g57 (e1.trans g67.grow) nb7 lt (num.fdiv 60) o6 (Int.fdiv_nonneg hn0 (by decide))
        refine ⟨B9, g8.trans g9, (e1.trans g67.grow).trans g9.grow, num.fdiv 60, _, o6, acc ++ [num % 60], rfl, Int.fdiv_nonneg hn0 (by decide), nb9, by rw [p9]; simp, by rw [List.length_append]; simp; omega, fun x h => ?_⟩
        rcases List.mem_append.mp
            h with h | h
        · exact hx x h
        · have : x = num % 60 := by simpa using h
          omega
      · have p6 := g6.keep p _ no hp5
        have nb6 := g6.off nb hp5
        have g56 := g5.trans g6
        refine x_when (b := decide ((i : Int) < (n : Int))) g6.at_ (t_test (K := K) (d_opB (g := fun i j => decide (i < j)) (d_var rfl (.int _)) (d_var rfl (.int _)))) (fun hb2 B7 H7 g7 => ?_) (fun hb2 B7 H7 g7 => ?_)
        · have lt : i < n := by have := of_decide_eq_true hb2; omega
          obtain ⟨m1, hm1⟩ : ∃ m1 : Int, (num * 48271 + (i : Int) * 69621 + 11) % 2147483647 = m1 := ⟨_, rfl⟩
          have b1 : 0 ≤ m1 ∧ m1 < 2147483647 := by rw [← hm1]; exact ⟨Int.emod_nonneg _ (by decide), Int.emod_lt_of_pos _ (by decide)⟩
          refine y_asg g7.at_ (d_is (d' := .int m1) (d_opC (K := K) (C := fun _ j => 0 < j) (g := fun i j => i % j) (d_op (g := fun i j => i + j) (d_op (g := fun i j => i + j) (d_opC (C := CMul) (g := fun i j => i * j) (d_intc (d_var rfl (.int num))) d_int (.inr ⟨by decide, by decide⟩)) (d_opC (C := CMul) (g := fun i j => i * j) (d_var rfl (.int _)) d_int (.inr ⟨by decide, by decide⟩))) d_int) d_int (by decide)) (by rw [← hm1])) fun v8 B8 H8 g8 r8 => ?_
          obtain rfl := r8.intI
          obtain ⟨m2, hm2⟩ : ∃ m2 : Int, (m1 * m1 + (i : Int) * 7919 + 5) % 998244353 = m2 := ⟨_, rfl⟩
          have b2 : 0 ≤ m2 := by rw [← hm2]; exact Int.emod_nonneg _ (by decide)
          refine y_asg g8.at_ (d_is (d' := .int m2) (d_opC (K := K) (C := fun _ j => 0 < j) (g := fun i j => i % j) (d_op (g := fun i j => i + j) (d_op (g := fun i j => i + j) (d_opC (C := CMul) (g := fun i j => i * j) (d_intc (d_var rfl (.int m1))) (d_intc (d_var rfl (.int m1))) (.inl ⟨by omega, by omega⟩)) (d_opC (C := CMul) (g := fun i j => i * j) (d_var rfl (.int _)) d_int (.inr ⟨by decide, by decide⟩))) d_int) d_int (by decide)) (by rw [← hm2])) fun v9 B9 H9 g9 r9 => ?_
          obtain rfl := r9.intI
          have g79 := (g7.trans g8).trans g9
          have p9 := g79.keep p _ no p6
          have nb9 := g79.off nb6 p6
          refine x_app g9.at_ no p9 rfl (d_opC (K := K) (C := fun _ j => 0 < j) (g := fun i j => i % j) (d_intc (d_var rfl (.int m2))) d_int (by decide)) (by simp; omega) fun v d B10 H10 g10 rv e10 => ?_
          subst e10
          obtain rfl := rv.intI
          exact grow (m2 % 60) B10 H10 (Int.emod_nonneg _ (by decide)) ((g56.trans g79).trans g10) (((e1.trans g6.grow).trans g79.grow).trans g10.grow) (g10.off nb9 p9) lt num _ hn0
        · have ge : n ≤ i := by
            have := of_decide_eq_false hb2
            omega
          have g67 := g6.trans g7
          exact ⟨B7, g5.trans g67, e1.trans g67.grow, num, _, o6, acc, rfl, hn0, g67.off nb hp5, g67.keep p _ no hp5, by omega, hx⟩
    · rintro σ' B5 H5 g5 e5 ⟨num, o5, o6, acc, rfl, hn0, nb, hp5, hl, hx⟩
      have no : ¬ still.M p := fun z => z
      have g6 := g5.freeze no np nb hp5
      exact ⟨.ref p, rfl, ok acc p _ H5 g6 upd_same (by rw [hl]; show min (60 : Int).toNat n = n; simp; omega) hx⟩
theorem ok_stream (T : Txt K mg CB aKinds) (d__law_cell : Cal P w K mg base CX0 1 "_law_cell" ["script", "k"] (spR K rCell)) (d__law_draws : Cal P w K mg base CX0 1 "_law_draws" ["cell", "count"] (spDraws K))
    (F : Fun K "_law_stream" "_law_stream" s__law_stream f fd) : FnOk P w K mg base CX0 2 f fd ["script", "first", "count"] (spStream K) := by
  refine F.ok sc__law_stream (fun vs H Q E h => ?_) (fun cdv A outer s H vs Q E hr h => ?_)
  · obtain ⟨B, a, ns, first, n, rfl, _⟩ := h; rfl
  · obtain ⟨B, aS, ns, first, n, rfl, e, hS, h0, hn0, hn, ok⟩ := h
    have a : At still B H := ⟨e, fun _ z => z.elim, trivial⟩
    have no : ∀ {p : Addr}, ¬ still.M p := fun z => z
    refine ⟨_, pss_cons (ps_set (i := 3) sc__law_stream.nd rfl (Or.inl rfl) (pe_lst pa_nil))
  (pss_cons (ps_for PassesOwn.never rfl (pi_range1 (by rfl) T.n_range (pa_cons (pv 2) pa_nil)) (pg_name (i := 4) sc__law_stream.nd rfl (Or.inl rfl))
    (pss_one (ps_expr (pe_bm PySem.F.plainAttrs_list PySem.F.slot_list_extend PySem.F.type_list_extend mt_extend (pv 3) (pa_cons (pe_cal d__law_draws (hr.mono (by decide)) rfl pass0 (pa_cons (pe_cal d__law_cell (hr.mono (by decide)) rfl pass0 (pa_cons (pv 0) (pa_cons (pe_op op_add (pv 1) (pv 4)) pa_nil))) (pa_cons pe_int pa_nil))) pa_nil)))))
  (pss_one (ps_ret (pe_lst (pa_cons (pv 3) (pa_cons (pe_lst (pa_cons pe_int pa_nil)) pa_nil)))))), ?_⟩
    refine y_nil fun p np => ?_
    have nB : B p = none := by
      cases z : B p with
      | none => rfl
      | some o => rw [e p o z] at np; cases np
    have g3 : Gr still B H B (upd H p (.lst [])) := .ex a (Ex.new np)
    have rS : Rep K B (.ref aS) (.lst (ns.map D.int)) := .nd (t := .lst) hS (RepA.ofInts ns)
    refine x_forRn (K := K) g3 (d_var rfl (.int (n : Int))) (by omega) (fun i σ' B' H' => ∃ (o4 : Option V) (acc : List Int), σ' = [some (.ref aS), some (.int first), some (.int (n : Int)), some (.ref p), o4] ∧ B' p = none ∧ H' p = some (.lst (acc.map V.int)) ∧ acc.length = 12 * i ∧ ∀ x ∈ acc, 0 ≤ x) 4 ?_ ?_ ?_
    · intro B4 H4 g4
      exact ⟨none, [], rfl, g4.off nB upd_same, g4.keep p _ no upd_same, rfl, fun x h => by cases h⟩
    · rintro i σ' Bl B5 H5 hi e0 g5 e1 ⟨o4, acc, rfl, nb, hp5, hl, hx⟩
      have hi' : i < n := by omega
      refine ⟨.ref p, rfl, .inl ⟨rfl, _, sq_of hp5⟩, ?_⟩
      refine arg_call ?_
      refine ra_cons (R := fun d => ∃ n, d = .int n) (RA := fun l => l = [.int 12]) (EvR.weak (r_callR (R := rCell) (ds := [.lst (ns.map D.int), .int (first + (i : Int))]) (da_cons (σ := [some (.ref aS), some (.int first), some (.int (n : Int)), some (.ref p), some (.int (i : Int))]) (d_var (i := 0) rfl (rS.up (e0.trans e1))) (da_one (d_op (g := fun i j => i + j) (d_var (i := 1) rfl (.int first)) (d_var (i := 4) rfl (.int (i : Int)))))) ⟨.int 0, ns, first + i, rfl, by omega, 0, rfl⟩) fun d ⟨_, _, _, _, n, en⟩ => ⟨n, en⟩) (da_one d_int) B5 H5 (Ex.refl _) g5.at_ _ fun vs ds B6 H6 g6 r6 ⟨d1, ds1, ed, ⟨c, ec⟩, ed1⟩ => ?_
      subst ed ec ed1
      obtain ⟨xa, xb, rfl, ra, rb⟩ := r6.i2
      obtain rfl := ra.intI
      obtain rfl := rb.intI
      refine ⟨B6, c, 12, rfl, g6.sub, by omega, fun out q B7 H7 g7 hq hlen hpos => ?_⟩
      have g67 := g6.trans g7
      have p7 := g67.keep p _ no hp5
      refine ⟨p, q, _, _, rfl, rfl, p7, g7.sub _ _ hq, sz_of (by simp; omega), ?_⟩
      have nb7 := g67.off nb hp5
      refine ⟨B7, (g5.trans g67).upd no np nb7 _, e1.trans g67.grow, _, acc ++ out, rfl, nb7, by rw [upd_same, List.map_append], by rw [List.length_append]; omega, fun x h => ?_⟩
      rcases List.mem_append.mp
          h with h | h
      · exact hx x h
      · exact hpos x h
    · rintro σ' B5 H5 g5 e5 ⟨o4, acc, rfl, nb, hp5, hl, hx⟩
      have hl' : acc.length = 12 * n := by rw [hl]; simp
      have g6 := g5.freeze no np nb hp5
      refine ⟨.ref p, rfl, (by show 1 ≤ sizeLine; decide), fun z hz => ⟨(by show 2 ≤ sizeLine; decide), fun u hu => ?_⟩⟩
      have p6 : H5 p = some (.lst (acc.map V.int)) := hp5
      have zp : p ≠ z := ne_of_none p6 hz
      have uz : z ≠ u := ne_of_none upd_same hu
      have g7 : Gr still B H (upd B5 p (.lst (acc.map V.int))) (upd H5 z (.lst [.int 0])) := g6.trans (.ex g6.at_ (Ex.new hz))
      have g8 := g7.trans (.alloc g7.at_ hu (.lst [.ref p, .ref z]))
      have zB : (upd B5 p (.lst (acc.map V.int))) z = none := by
        cases q : (upd B5 p (.lst (acc.map V.int))) z with
        | none => rfl
        | some o => rw [g6.sub z o q] at hz; cases hz
      refine ok acc u p z _ _ g8 ⟨upd_same, ?_, ?_, hx, by omega⟩ ?_ (g6.none_of hz) ?_
      · rw [upd_ne (ne_of_none (g6.sub p _ upd_same |> fun h => (Ex.new hz) p _ h) hu)]; exact upd_same
      · intro h0; rw [h0] at hl'; simp at hl'; omega
      · rw [upd_ne uz]; exact zB
      · rw [upd_ne uz]; exact upd_same
theorem ok_next (T : Txt K mg CB aKinds) (F : Fun K "_law_next" "_law_next" s__law_next f fd) : FnOk P w K mg base CX0 1 f fd ["stream", "many"] (spNext K) := by
  refine F.ok sc__law_next (fun vs H Q E h => ?_) (fun cdv A outer s H vs Q E hr h => ?_)
  · obtain ⟨s, dgt, p, out, k, many, rfl, _⟩ := h; rfl
  · obtain ⟨s', dgt, p, out, k, many, rfl, S, hp, hk, hm, ok⟩ := h
    refine ⟨_, pss_cons (ps_set (i := 2) sc__law_next.nd rfl (Or.inl rfl) (pe_ix ix_list (pv 0) pe_int (fun _ _ => rfl)))
  (pss_cons (ps_set (i := 3) sc__law_next.nd rfl (Or.inl rfl) (pe_ix ix_list (pv 0) pe_int (fun _ _ => rfl)))
  (pss_cons (ps_set (i := 4) sc__law_next.nd rfl (Or.inl rfl) (pe_op op_mod (pe_callTy call_int1 (by rfl) T.n_int (by decide +kernel : bootBuiltins "int" = some (.type "int")) (pa_cons (pe_ix ix_list (pv 2) (pe_op op_mod (pe_callTy call_int1 (by rfl) T.n_int (by decide +kernel : bootBuiltins "int" = some (.type "int")) (pa_cons (pe_ix ix_list (pv 3) pe_int (fun _ _ => rfl)) pa_nil)) (pe_callB call_len_seq (by rfl) T.n_len PySem.boot_len (pa_cons (pv 2) pa_nil))) (fun _ _ => rfl)) pa_nil)) (pv 1)))
  (pss_cons (ps_asg (pe_op op_add (pe_ix ix_list (pv 3) pe_int (fun _ _ => rfl)) pe_int) (pg_sub (pv 3) pe_int set_list))
  (pss_one (ps_ret (pv 4)))))), ?_⟩
    have hl : 0 < out.length := List.length_pos_iff.mpr S.some_
    obtain ⟨j, hj⟩ : ∃ j : Nat, k % (out.length : Int) = (j : Int) := ⟨(k % (out.length : Int)).toNat, by have := Int.emod_nonneg k (show (out.length : Int) ≠ 0 by omega); omega⟩
    have hjl : j < out.length := by have := Int.emod_lt_of_pos k (show (0 : Int) < (out.length : Int) by omega); omega
    have hat : atI (out.map V.int) (j : Int) = some (.int out[j]) := atI_nat (by simp [hjl])
    refine ⟨_, rfl, s', _, _, _, rfl, rfl, SqL.of S.pair, atI_nat (j := 0) rfl, ?_⟩
    refine ⟨_, rfl, s', _, _, _, rfl, rfl, SqL.of S.pair, atI_nat (j := 1) rfl, ?_⟩
    refine ⟨_, rfl, _, rfl, p, _, _, _, rfl, rfl, SqL.of hp, atI_nat (j := 0) rfl, .inl ⟨k, rfl, ?_⟩⟩
    refine ⟨_, rfl, dgt, _, rfl, .inl (SqL.of S.digs), k, _, rfl, rfl, (by simp; omega), ?_⟩
    refine ⟨dgt, _, _, _, rfl, rfl, SqL.of S.digs, (by rw [List.length_map, hj]; exact hat), .inl ⟨out[j], rfl, ?_⟩⟩
    refine ⟨_, rfl, _, _, rfl, rfl, hm, ?_⟩
    refine ⟨_, rfl, p, _, _, _, rfl, rfl, SqL.of hp, atI_nat (j := 0) rfl, k, 1, rfl, rfl, ?_⟩
    refine ⟨_, rfl, p, _, _, 0, rfl, rfl, hp, (by show ixN 1 0 = some 0; decide), ?_⟩
    exact ⟨_, rfl, ok _ (Int.emod_nonneg _ (by omega)) (Int.emod_lt_of_pos _ hm)⟩
end
end Fq
set_option Elab.async false
set_option linter.all false
set_option maxRecDepth 100000
set_option maxHeartbeats 8000000
namespace Fq
open PySem L2 Evl
def typeWords : List Str := ["Query", "User", "Post", "Tag"]
def fieldWords : List Str := ["age", "feed", "friend", "likes", "posts", "user"]
structure GoodTypes (ts : List D) : Prop where
  ok : typesB (.tup ts) = true
  tame : (D.tup ts).tameN 6 = true
  first : ∃ l : List Str, ts.map headName = ("Query" : Str) :: l
  names : ∃ n, 1 ≤ n ∧ n ≤ 4 ∧ ts.map headName = typeWords.take n
def spTypes (K : PySem.W.Frag) : Sp := fun vs H Q _ => ∃ B s dgt p out, vs = [.ref s] ∧ At (md1 p) B H ∧ Strm B s dgt p out ∧ ∀ ts v B1 H1, Gr (md1 p) B H B1 H1 → Rep K B1 v (.tup ts) → GoodTypes ts → Q v H1
/-! the mathematics -/
theorem dups_of_nodup : ∀ (l : List Str), l.Nodup → l.eraseDups = l
  | [], _ => rfl
  | x :: r, h => by
    rw [List.nodup_cons] at h
    rw [List.eraseDups_cons]
    have e : (r.filter fun b => !b == x) = r := List.filter_eq_self.mpr fun y hy => by
      have : y ≠ x := fun z => h.1 (z ▸ hy)
      simp [this]
    rw [e, dups_of_nodup r h.2]
theorem differN_of {l : List Str} (h : l.Nodup) : differN l = true := decide_eq_true (by rw [dups_of_nodup l h])
theorem tame_str {n : Nat} {x : Str} (h : x.length ≤ 1000) : (D.str x).tameN n = true := by
  have t : (D.str x).tame = true := decide_eq_true h
  cases n with
  | zero => exact t
  | succ n => exact Bool.and_eq_true_iff.mpr ⟨t, rfl⟩
theorem tame_bl {n : Nat} {b : Bool} : (D.bl b).tameN n = true := by cases n <;> rfl
theorem tame_tup {n : Nat} {l : List D} (h : l.length ≤ 1000) (k : ∀ d ∈ l, d.tameN n = true) : (D.tup l).tameN (n + 1) = true :=
  Bool.and_eq_true_iff.mpr ⟨rfl, Bool.and_eq_true_iff.mpr ⟨decide_eq_true h, List.all_eq_true.mpr k⟩⟩
/-- what a drawn definition is -/
structure GoodDef (ns : List Str) (w : Str) (d : D) : Prop where
  shape : ∃ (b : Bool) (k : Str) (ts : List Str), d = .tup [.str w, .bl b, .str k, .tup (ts.map D.str)] ∧ k ∈ kinds ∧ (∀ x ∈ ts, x ∈ ns) ∧ ts.Nodup ∧ (ts = [] ↔ k = "int")
theorem word_field : ∀ w ∈ fieldWords, fieldNameB (.str w) = true ∧ w.length ≤ 1000 := by decide +kernel
theorem word_type : ∀ w ∈ typeWords, typeNameB (.str w) = true ∧ w.length ≤ 1000 := by decide +kernel
theorem GoodDef.ok {ns : List Str} {w : Str} {d : D} (h : GoodDef ns w d) (hw : w ∈ fieldWords) : defB ns d = true := by
  obtain ⟨b, k, ts, rfl, hk, hin, hnd, hint⟩ := h.shape
  have a1 := (word_field w hw).1
  have a2 : nameB kinds (.str k) = true := decide_eq_true hk
  have a3 : areB ns (.tup (ts.map D.str)) = true := List.all_eq_true.mpr fun e he => by
    obtain ⟨x, hx, rfl⟩ := List.mem_map.mp he
    exact decide_eq_true (hin x hx)
  have a4 : differB (.tup (ts.map D.str)) = true := by rw [differ_strs]; exact differN_of hnd
  have a5 : decide (decide (lenD (.tup (ts.map D.str)) = 0) = nameB ["int"] (.str k)) = true := by
    refine decide_eq_true ?_
    show decide ((ts.map D.str).length = 0) = decide (k ∈ (["int"] : List Str))
    rw [Bool.eq_iff_iff, decide_eq_true_eq, decide_eq_true_eq, List.length_map, List.length_eq_zero_iff, List.mem_singleton]
    exact hint
  simp only [defB, a1, a2, a3, a4, a5, D.isBl]; rfl
theorem GoodDef.head {ns : List Str} {w : Str} {d : D} (h : GoodDef ns w d) : headName d = w := by
  obtain ⟨b, k, ts, rfl, _⟩ := h.shape; rfl
theorem kinds_len : ∀ k ∈ kinds, k.length ≤ 1000 := by decide +kernel
theorem GoodDef.tame {ns : List Str} {w : Str} {d : D} (h : GoodDef ns w d) (hw : w ∈ fieldWords) (hns : ns.length ≤ 4) (hn : ∀ x ∈ ns, x ∈ typeWords) : d.tameN 3 = true := by
  obtain ⟨b, k, ts, rfl, hk, hin, hnd, _⟩ := h.shape
  have hl : ts.length ≤ ns.length := by
    have : ts ⊆ ns := hin
    exact List.Nodup.length_le_of_subset hnd this
  refine tame_tup (by simp) fun d hd => ?_
  simp only [List.mem_cons, List.not_mem_nil, or_false] at hd
  rcases hd with rfl | rfl | rfl | rfl
  · exact tame_str (word_field w hw).2
  · exact tame_bl
  · exact tame_str (kinds_len k hk)
  · refine tame_tup (by simp; omega) fun d hd => ?_
    obtain ⟨x, hx, rfl⟩ := List.mem_map.mp hd
    exact tame_str (word_type x (hn x (hin x hx))).2
/-- what a drawn type is -/
structure GoodType (ns : List Str) (t : D) (w : Str) : Prop where
  shape : ∃ fl : List D, t = .tup [.str w, .tup fl] ∧ (fl.map headName).Sublist fieldWords ∧ ∀ d ∈ fl, ∃ x ∈ fieldWords, GoodDef ns x d
theorem words_nodup : fieldWords.Nodup ∧ typeWords.Nodup := by decide +kernel
theorem GoodType.pair {ns : List Str} {t : D} {w : Str} (h : GoodType ns t w) (hw : w ∈ typeWords) : pairB t = true := by
  obtain ⟨fl, rfl, hs, _⟩ := h.shape
  have hl := hs.length_le
  rw [List.length_map] at hl
  have a1 := (word_type w hw).1
  simp only [pairB, a1, D.isTup]
  exact decide_eq_true hl
theorem GoodType.fields {ns : List Str} {t : D} {w : Str} (h : GoodType ns t w) : fieldsB ns (pairFields t) = true := by
  obtain ⟨fl, rfl, hs, hd⟩ := h.shape
  refine Bool.and_eq_true_iff.mpr ⟨List.all_eq_true.mpr fun d hm => ?_, differN_of (hs.nodup words_nodup.1)⟩
  obtain ⟨x, hx, g⟩ := hd d hm
  exact g.ok hx
theorem GoodType.tame {ns : List Str} {t : D} {w : Str} (h : GoodType ns t w) (hw : w ∈ typeWords) (hns : ns.length ≤ 4) (hn : ∀ x ∈ ns, x ∈ typeWords) : t.tameN 5 = true := by
  obtain ⟨fl, rfl, hs, hd⟩ := h.shape
  have hl := hs.length_le
  rw [List.length_map] at hl
  have hl' : fl.length ≤ 6 := hl
  refine tame_tup (by simp) fun d hm => ?_
  simp only [List.mem_cons, List.not_mem_nil,
      or_false] at hm
  rcases hm with rfl | rfl
  · exact tame_str (word_type w hw).2
  · refine tame_tup (by omega) fun d hm => ?_
    obtain ⟨x, hx, g⟩ := hd d hm
    exact g.tame hx hns hn
/-- the types so far -/
inductive TypesSo (ns : List Str) : List D → List Str → Prop
  | nil : TypesSo ns [] []
  | snoc {ts : List D} {ws : List Str} {t : D} {w : Str} : TypesSo ns ts ws → GoodType ns t w → TypesSo ns (ts ++ [t]) (ws ++ [w])
theorem TypesSo.heads {ns : List Str} {ts : List D} {ws : List Str} (h : TypesSo ns ts ws) : ts.map headName = ws := by
  induction h with
  | nil => rfl
  | snoc _ g ih =>
    obtain ⟨fl, rfl, _⟩ := g.shape
    rw [List.map_append, ih]; rfl
theorem TypesSo.each {ns : List Str} {ts : List D} {ws : List Str} (h : TypesSo ns ts ws) : ∀ t ∈ ts, ∃ w ∈ ws, GoodType ns t w := by
  induction h with
  | nil => intro t ht; cases ht
  | @snoc ts ws t' w _ g ih =>
    intro t ht
    rcases List.mem_append.mp ht with h | h
    · obtain ⟨w, hw, q⟩ := ih t h
      exact ⟨w, List.mem_append_left _ hw, q⟩
    · have : t = t' := by simpa using h
      subst this
      exact ⟨w, by simp, g⟩
theorem TypesSo.good {ns : List Str} {ts : List D} {n : Nat} (h : TypesSo ns ts ns) (hn1 : 1 ≤ n) (hn4 : n ≤ 4) (hns : ns = typeWords.take n) : GoodTypes ts := by
  have hh := h.heads
  have hl : ts.length = ns.length := by have := congrArg List.length hh; simpa using this
  have hln : ns.length = n := by rw [hns, List.length_take]; show min n 4 = n; omega
  have sub : ∀ x ∈ ns, x ∈ typeWords := fun x hx => by rw [hns] at hx; exact List.mem_of_mem_take hx
  refine ⟨?_, tame_tup (by omega) fun d hd => ?_, ?_, n, hn1, hn4, by rw [hh, hns]⟩
  · show ((decide (1 ≤ ts.length) && decide (ts.length ≤ 5)) && (ts.all pairB && (differN (ts.map headName) && ts.all fun p => fieldsB (ts.map headName) (pairFields p)))) = true
    rw [hh]
    simp only [Bool.and_eq_true, decide_eq_true_eq, List.all_eq_true]
    refine ⟨⟨by omega, by omega⟩, fun t ht => ?_, differN_of ?_, fun t ht => ?_⟩
    · obtain ⟨w, hw, g⟩ := h.each t ht
      exact g.pair (sub w hw)
    · rw [hns]; exact (List.take_sublist n typeWords).nodup words_nodup.2
    · obtain ⟨w, hw, g⟩ := h.each t ht
      exact g.fields
  · obtain ⟨w, hw, g⟩ := h.each d hd
    exact g.tame (sub w hw) (by omega) sub
  · rw [hh, hns]
    obtain ⟨k, rfl⟩ : ∃ k, n = k + 1 := ⟨n - 1, by omega⟩
    exact ⟨_, rfl⟩
end Fq
set_option Elab.async false
set_option linter.all false
set_option maxRecDepth 100000
set_option maxHeartbeats 8000000
namespace Fq
open PySem L2 Evl
/-- a definition that goes to the fields of a type -/
theorem lend {ns : List Str} {fl : List D} {i : Nat} {w : Str} (hw : fieldWords[i]? = some w) (hs : (fl.map headName).Sublist (fieldWords.take i)) (hd : ∀ d ∈ fl, ∃ x ∈ fieldWords, GoodDef ns x d) {d : D} (g : GoodDef ns w d) :
    ((fl ++ [d]).map headName).Sublist (fieldWords.take (i + 1)) ∧ ∀ d' ∈ fl ++ [d], ∃ x ∈ fieldWords, GoodDef ns x d' := by
  refine ⟨?_, fun d' h => ?_⟩
  · rw [List.map_append, List.take_add_one, hw]
    exact hs.append (by rw [List.map_singleton, g.head]; exact List.Sublist.refl _)
  · rcases List.mem_append.mp
      h with h | h
    · exact hd d' h
    · have : d' = d := by simpa using h
      subst this
      exact ⟨w, List.mem_of_getElem? hw, g⟩
section
variable {m : Md} {P : Program} {w : World} {K : PySem.W.Frag} {mg : Str → Option Value} {base : Heap} {f CB CS aKinds : Addr} {fd : FuncData}
theorem ok_lawTypes (T : Txt K mg CB aKinds) (d__law_next : Cal P w K mg base CX0 1 "_law_next" ["stream", "many"] (spNext K)) (F : Fun K "_law_types" "_law_types" s__law_types f fd) : FnOk P w K mg base CX0 2 f fd ["stream"] (spTypes K) := by
  refine F.ok sc__law_types (fun vs H Q E h => ?_) (fun cdv A outer s H vs Q E hr h => ?_)
  · obtain ⟨B, s, dgt, p, out, rfl, _⟩ := h; rfl
  · obtain ⟨B, s, dgt, p, out, rfl, a, S, ok⟩ := h
    refine ⟨_, pss_cons (ps_set (i := 1) sc__law_types.nd rfl (Or.inl rfl) (pe_slice sl_list (pe_lst (pa_cons pe_str (pa_cons pe_str (pa_cons pe_str (pa_cons pe_str pa_nil))))) po_none (po_some (pe_op op_add pe_int (pe_cal d__law_next (hr.mono (by decide)) rfl pass0 (pa_cons (pv 0) (pa_cons pe_int pa_nil)))))))
  (pss_cons (ps_set (i := 2) sc__law_types.nd rfl (Or.inl rfl) (pe_lst pa_nil))
  (pss_cons (ps_for PassesOwn.never rfl (pi_list (pv 1)) (pg_name (i := 3) sc__law_types.nd rfl (Or.inl rfl))
    (pss_cons (ps_set (i := 4) sc__law_types.nd rfl (Or.inl rfl) (pe_lst pa_nil))
    (pss_cons (ps_for PassesOwn.never rfl (pi_list (pe_lst (pa_cons pe_str (pa_cons pe_str (pa_cons pe_str (pa_cons pe_str (pa_cons pe_str (pa_cons pe_str pa_nil)))))))) (pg_name (i := 5) sc__law_types.nd rfl (Or.inl rfl))
      (pss_cons (ps_set (i := 6) sc__law_types.nd rfl (Or.inl rfl) (pe_cal d__law_next (hr.mono (by decide)) rfl pass0 (pa_cons (pv 0) (pa_cons pe_int pa_nil))))
      (pss_one (ps_if (pt_cmpR op_eq (pv 6) pe_int (nomark _)) (pss_one (ps_expr (pe_bm PySem.F.plainAttrs_list PySem.F.slot_list_append PySem.F.type_list_append mt_append (pv 4) (pa_cons (pe_tup (pa_cons (pv 5) (pa_cons (pe_cmpR op_eq (pe_cal d__law_next (hr.mono (by decide)) rfl pass0 (pa_cons (pv 0) (pa_cons pe_int pa_nil))) pe_int (nomark _)) (pa_cons pe_str (pa_cons (pe_tup pa_nil) pa_nil))))) pa_nil)))) (pss_one (ps_if (pt_cmpR op_le (pv 6) pe_int (nomark _)) (pss_cons (ps_set (i := 7) sc__law_types.nd rfl (Or.inl rfl) (pe_lst pa_nil))
          (pss_cons (ps_for PassesOwn.never rfl (pi_range1 (by rfl) T.n_range (pa_cons (pe_op op_add pe_int (pe_cal d__law_next (hr.mono (by decide)) rfl pass0 (pa_cons (pv 0) (pa_cons pe_int pa_nil)))) pa_nil)) (pg_name (i := 8) sc__law_types.nd rfl (Or.inl rfl))
            (pss_cons (ps_set (i := 9) sc__law_types.nd rfl (Or.inl rfl) (pe_ix ix_list (pv 1) (pe_cal d__law_next (hr.mono (by decide)) rfl pass0 (pa_cons (pv 0) (pa_cons (pe_callB call_len_seq (by rfl) T.n_len PySem.boot_len (pa_cons (pv 1) pa_nil)) pa_nil))) (fun _ _ => rfl)))
            (pss_one (ps_if (pt_cmpR op_notIn_seq (pv 9) (pv 7) rfl) (pss_one (ps_expr (pe_bm PySem.F.plainAttrs_list PySem.F.slot_list_append PySem.F.type_list_append mt_append (pv 7) (pa_cons (pv 9) pa_nil)))) pss_nil))))
          (pss_one (ps_expr (pe_bm PySem.F.plainAttrs_list PySem.F.slot_list_append PySem.F.type_list_append mt_append (pv 4) (pa_cons (pe_tup (pa_cons (pv 5) (pa_cons (pe_cmpR op_eq (pe_cal d__law_next (hr.mono (by decide)) rfl pass0 (pa_cons (pv 0) (pa_cons pe_int pa_nil))) pe_int (nomark _)) (pa_cons (pe_ix ix_list (pe_lst (pa_cons pe_str (pa_cons pe_str pa_nil))) (pe_op op_mod (pv 6) pe_int) (fun _ _ => rfl)) (pa_cons (pe_callTy call_tuple_of (by rfl) T.n_tuple (by decide +kernel : bootBuiltins "tuple" = some (.type "tuple")) (pa_cons (pv 7) pa_nil)) pa_nil))))) pa_nil)))))) pss_nil))))))
    (pss_one (ps_expr (pe_bm PySem.F.plainAttrs_list PySem.F.slot_list_append PySem.F.type_list_append mt_append (pv 2) (pa_cons (pe_tup (pa_cons (pv 3) (pa_cons (pe_callTy call_tuple_of (by rfl) T.n_tuple (by decide +kernel : bootBuiltins "tuple" = some (.type "tuple")) (pa_cons (pv 4) pa_nil)) pa_nil))) pa_nil)))))))
  (pss_one (ps_ret (pe_callTy call_tuple_of (by rfl) T.n_tuple (by decide +kernel : bootBuiltins "tuple" = some (.type "tuple")) (pa_cons (pv 2) pa_nil)))))), ?_⟩
    -- names
    refine yr_asg (K := K) (R := fun d => ∃ n : Nat, 1 ≤ n ∧ n ≤ 4 ∧ d = .lst ((typeWords.take n).map D.str)) a (fun B0 H0 e0 a0 Q0 q0 => ?_) fun v1 d1 B1 H1 g1 r1 ⟨n, hn1, hn4, e1⟩ => ?_
    · refine d_lst (K := K) (ds := typeWords.map D.str) (da_cons d_str (da_cons d_str (da_cons d_str (da_one d_str)))) (by decide) B0 H0 (Ex.refl _) a0 _ fun x dd B2 H2 g2 r2 hd => ?_
      subst hd
      refine r_opI0 (P1 := fun i => i = 1) (P2 := fun i => 0 ≤ i ∧ i < 4) (P3 := fun i => 1 ≤ i ∧ i ≤ 4) (g := fun i j => i + j) (r_i d_int rfl) (r_next (S.up (e0.trans g2.grow)) rfl d_int (by decide)) (fun i j h1 h2 => by omega) B2 H2 (Ex.refl _) g2.at_ _ fun y dy B3 H3 g3 ry ⟨i, ei, hi1, hi4⟩ => ?_
      subst ei
      obtain rfl := ry.intI
      obtain ⟨u, xs, rfl, su, rs⟩ := r2.lstI
      obtain rfl := rs.strsI
      refine ⟨i, rfl, u, _, rfl, ex_l (g3.grow.trans g3.sub) su, fun q hq => ?_⟩
      have g4 := Gr.alloc g3.at_ hq (.lst (cutV (typeWords.map V.str) none (some i)))
      have ec : cutV (typeWords.map V.str) none (some i) = (typeWords.take i.toNat).map V.str := by
        obtain rfl | rfl | rfl | rfl : i = 1 ∨ i = 2 ∨ i = 3 ∨ i = 4 := by omega
        all_goals rfl
      exact q0 _ _ _ _ ((g2.trans g3).trans g4) (.nd (t := .lst) (SqL.of (by rw [upd_same, ec])) (RepA.ofStrs _)) ⟨i.toNat, by omega, by omega, rfl⟩
    subst e1
    obtain ⟨ns, hns⟩ : ∃ ns, ns = typeWords.take n := ⟨_, rfl⟩
    rw [← hns] at r1
    have lns : ns.length = n := by rw [hns, List.length_take]; show min n 4 = n; omega
    have sub : ∀ x ∈ ns, x ∈ typeWords := fun x hx => by rw [hns] at hx; exact List.mem_of_mem_take hx
    refine y_nil fun q1 hq1 => ?_
    have nb1 : B1 q1 = none := by
      cases z : B1 q1 with
      | none => rfl
      | some o => rw [g1.sub q1 o z] at hq1; cases hq1
    have nq1 : H q1 = none := g1.none_of hq1
    have m1 : ¬ (md1 p).M q1 := Gr.notM a nq1
    have g2 : Gr (md1 p) B H B1 (upd H1 q1 (.lst [])) := g1.trans (.ex g1.at_ (Ex.new hq1))
    refine x_forL g2 (d_var rfl r1) (fun i σ' B' H' => ∃ (o3 o4 o5 o6 o7 o8 o9 : Option V) (acc : List V) (ts : List D), σ' = [some (.ref s), some v1, some (.ref q1), o3, o4, o5, o6, o7, o8, o9] ∧ B' q1 = none ∧ H' q1 = some (.lst acc) ∧ RepA K B' acc ts ∧ TypesSo ns ts (ns.take i)) ?_ ?_ ?_
    · intro B3 H3 g3
      exact ⟨none, none, none, none, none, none, none, [], [], rfl, g3.off nb1 upd_same, g3.keep q1 _ m1 upd_same, .nil, .nil⟩
    · -- a type
      rintro i dn vn σ' Bl B3 H3 hi e0 g3 e1 rn ⟨o3, o4, o5, o6, o7, o8, o9, acc, ts, rfl, nb3, h3, ra, so⟩
      obtain ⟨w, hw, rfl⟩ : ∃ w, ns[i]? = some w ∧ dn = .str w := by
        rw [List.getElem?_map] at hi
        cases z : ns[i]? with
        | none => rw [z] at hi; cases hi
        | some w => rw [z] at hi; exact ⟨w, rfl, (Option.some.inj hi).symm⟩
      have hwt : w ∈ ns := List.mem_of_getElem? hw
      show tSeq (tAsg (tLst tNil) (gName 4)) _ _ _ H3
      refine y_nil fun q2 hq2 => ?_
      have nb2 : B3 q2 = none := by
        cases z : B3 q2 with
        | none => rfl
        | some o => rw [g3.sub q2 o z] at hq2; cases hq2
      have nq2 : H q2 = none := g3.none_of hq2
      have m2 : ¬ (md1 p).M q2 := Gr.notM a nq2
      have g4 : Gr (md1 p) B H B3 (upd H3 q2 (.lst [])) := g3.trans (.ex g3.at_ (Ex.new hq2))
      have q12 : q1 ≠ q2 := ne_of_none h3 hq2
      refine x_forL g4 (d_lst (ds := fieldWords.map D.str) (da_cons d_str (da_cons d_str (da_cons d_str (da_cons d_str (da_cons d_str (da_one d_str)))))) (by decide)) (fun j σ' B' H' => ∃ (o5 o6 o7 o8 o9 : Option V) (ac2 : List V) (fl : List D), σ' = [some (.ref s), some v1, some (.ref q1), some vn, some (.ref q2), o5, o6, o7, o8, o9] ∧ B' q1 = none ∧ H' q1 = some (.lst acc) ∧ Ex B3 B' ∧
        B' q2 = none ∧ H' q2 = some (.lst ac2) ∧ RepA K B' ac2 fl ∧ (fl.map headName).Sublist (fieldWords.take j) ∧ ∀ d ∈ fl, ∃ x ∈ fieldWords, GoodDef ns x d) ?_ ?_ ?_
      · intro B5 H5 g5
        exact ⟨o5, o6, o7, o8, o9, [], [], rfl, g5.off nb3 (by rw [upd_ne q12]; exact h3), g5.keep q1 _ m1 (by rw [upd_ne q12]; exact h3), g5.grow, g5.off nb2 upd_same, g5.keep q2 _ m2 upd_same, .nil, List.Sublist.refl _, fun d h => by cases h⟩
      · -- a field
        rintro j dw vw σ' Bm B5 H5 hj e2 g5 e3 rw_ ⟨o5, o6, o7, o8, o9, ac2, fl, rfl, nb5, h5, x5, nc5, k5, rf, hs, hd⟩
        obtain ⟨wd, hwd, rfl⟩ : ∃ w, fieldWords[j]? = some w ∧ dw = .str w := by
          rw [List.getElem?_map] at hj
          cases z : fieldWords[j]? with
          | none => rw [z] at hj; cases hj
          | some w => rw [z] at hj; exact ⟨w, rfl, (Option.some.inj hj).symm⟩
        have flen : fl.length ≤ 6 := by
          have h1 := hs.length_le
          rw [List.length_map, List.length_take] at h1
          have : fieldWords.length = 6 := rfl
          omega
        show tSeq (tAsg (tCall (spNext K) [] E0 _) (gName 6)) _ _ _ H5
        have S5 := S.up g5.grow
        refine yr_asg g5.at_ (r_next S5 rfl d_int (by decide)) fun vk dk B6 H6 g6 rk ⟨kind, ek, hk0, hk7⟩ => ?_
        subst ek
        obtain rfl := rk.intI
        have g56 := g5.trans g6
        have S6 := S.up g56.grow
        have h6 := g6.keep q1 _ m1 h5
        have nb6 := g6.off nb5 h5
        have k6 := g6.keep q2 _ m2 k5
        have nc6 := g6.off nc5 k5
        -- what stands behind a field more
        have fin : ∀ (v : V) (d : D) (B7 H7 : Hp) (o7 o8 o9 : Option V), Gr (md1 p) B6 H6 B7 H7 → Rep K B7 v d → GoodDef ns wd d → Nx (md1 p) B H Bm (fun σ' B' H' => ∃ (o5 o6 o7 o8 o9 : Option V) (ac2 : List V) (fl : List D), σ' = [some (.ref s), some v1, some (.ref q1), some vn, some (.ref q2), o5, o6, o7, o8, o9] ∧ B' q1 = none ∧ H' q1 = some (.lst acc) ∧ Ex B3 B' ∧
            B' q2 = none ∧ H' q2 = some (.lst ac2) ∧ RepA K B' ac2 fl ∧ (fl.map headName).Sublist (fieldWords.take (j + 1)) ∧ ∀ d ∈ fl, ∃ x ∈ fieldWords, GoodDef ns x d)
            [some (.ref s), some v1, some (.ref q1), some vn, some (.ref q2), some vw, some (.int kind), o7, o8, o9] (upd H7 q2 (.lst (ac2 ++ [v]))) := fun v d B7 H7 o7 o8 o9 g7 rv gd => by
          obtain ⟨l1, l2⟩ := lend hwd hs hd gd
          have nc7 := g7.off nc6 k6
          refine ⟨B7, (g56.trans g7).upd m2 nq2 nc7 _, (e3.trans g6.grow).trans g7.grow, _, _, o7, o8, o9, ac2 ++ [v], fl ++ [d], rfl, g7.off nb6 h6, by rw [upd_ne q12]; exact g7.keep q1 _ m1 h6, (x5.trans g6.grow).trans g7.grow, nc7, upd_same, (rf.up (g6.grow.trans g7.grow)).app (.one rv), l1, l2⟩
        have alen : ac2.length < 100000 := by rw [rf.len]; omega
        refine x_if (b := decide (kind = 0)) g6.at_ (t_test (K := K) (d_eqI (d_var rfl (.int kind)) d_int)) (fun hb B7 H7 g7 => ?_) (fun hb B7 H7 g7 => ?_)
        · -- an int
          have k7 := g7.keep q2 _ m2 k6
          refine x_app (R := fun d => ∃ b, d = .tup [.str wd, .bl b, .str "int", .tup []]) g7.at_ m2 k7 rfl ?_ alen fun v d B8 H8 g8 rv ⟨b, ed⟩ => ?_
          · refine EvR.weak (r_tup (ra_cons (d_var rfl (rw_.up (g6.grow.trans g7.grow))) (ra_cons (r_eqI (r_next (S6.up g7.grow) rfl d_int (by decide)) d_int) (da_cons d_str (da_one (d_tup da_nil (by decide)))))) (fun ds ⟨_, l, e, _, _, l2, e2, _, e3⟩ => by rw [e, e2, e3]; simp)) ?_
            rintro d ⟨ds, rfl, x1, l1, rfl, rfl, x2, l2, rfl, ⟨b, rfl⟩, rfl⟩
            exact ⟨b, rfl⟩
          · subst ed
            exact fin v _ B8 H8 _ _ _ (g7.trans g8) rv ⟨b, "int", [], rfl, by decide, (fun x h => by cases h), List.nodup_nil, by simp⟩
        · refine x_when (b := decide (kind ≤ 4)) g7.at_ (t_test (K := K) (d_opB (g := fun i j => decide (i ≤ j)) (d_var rfl (.int kind)) d_int)) (fun hb4 B8 H8 g8 => ?_) (fun hb4 B8 H8 g8 => ?_)
          · -- one or many
            have hk : kind ≠ 0 := of_decide_eq_false hb
            have g78 := g7.trans g8
            refine y_nil fun q3 hq3 => ?_
            have nb8 : B8 q3 = none := by
              cases z : B8 q3 with
              | none => rfl
              | some o => rw [g8.sub q3 o z] at hq3; cases hq3
            have g68 := g56.trans g78
            have nq3 : H q3 = none := g68.none_of hq3
            have m3 : ¬ (md1 p).M q3 := Gr.notM a nq3
            have h8 := g78.keep q1 _ m1 h6
            have k8 := g78.keep q2 _ m2 k6
            have q13 : q1 ≠ q3 := ne_of_none h8 hq3
            have q23 : q2 ≠ q3 := ne_of_none k8 hq3
            have g9 : Gr (md1 p) B H B8 (upd H8 q3 (.lst [])) := g68.trans (.ex g8.at_ (Ex.new hq3))
            have np3 : H6 q3 = none := g78.none_of hq3
            have g9' : Gr (md1 p) B6 H6 B8 (upd H8 q3 (.lst [])) := g78.trans (.ex g8.at_ (Ex.new hq3))
            have S8 := S6.up g78.grow
            refine x_forR g9' (EvR.weak (r_opI0 (P1 := fun i => i = 1) (P2 := fun i => 0 ≤ i ∧ i < 2) (P3 := fun i => 1 ≤ i ∧ i ≤ 2) (g := fun i j => i + j) (r_i d_int rfl) (r_next S8 rfl d_int (by decide)) (fun i j h1 h2 => by omega)) fun d ⟨i, e, h1, h2⟩ => ⟨i, e, (show 1 ≤ i from h1), by omega, by omega⟩)
              (fun i σ' B' H' => ∃ (o8 o9 : Option V) (tg : List Str), σ' = [some (.ref s), some v1, some (.ref q1), some vn, some (.ref q2), some vw, some (.int kind), some (.ref q3), o8, o9] ∧ B' q3 = none ∧ H' q3 = some (.lst (tg.map V.str)) ∧ tg.Nodup ∧ (∀ x ∈ tg, x ∈ ns) ∧ (0 < i → tg ≠ [])) 8 ?_ ?_ ?_
            · intro B9 H9 g9
              exact ⟨_, _, [], rfl, g9.off nb8 upd_same, g9.keep q3 _ m3 upd_same, List.nodup_nil, (fun x h => by cases h), fun h => absurd h (by omega)⟩
            · rintro nn ii σ' Bn B9 H9 hii _ e4 g10 e5 ⟨o8, o9, tg, rfl, nb9, h9, tnd, tin, _⟩
              have S9 := S6.up g10.grow
              have r19 := r1.up ((e0.trans e1).trans ((x5.trans g6.grow).trans g10.grow))
              have tlen : tg.length ≤ 4 := by
                have : tg.length ≤ ns.length := List.Nodup.length_le_of_subset tnd tin
                omega
              refine yr_asg (K := K) (R := fun d => ∃ x, x ∈ ns ∧ d = .str x) g10.at_ ?_ fun v9 d9 B10 H10 g11 rv ⟨x, hx, ed⟩ => ?_
              · refine r_op (d_var rfl r19) (r_next S9 rfl (d_is (d' := .int (n : Int)) (d_lenL (d_var rfl r19)) (by simp [lns])) (by omega)) fun B' H' _ a' x y d1 d2 rx ry e1 ⟨i, e2, hi0, hin⟩ Q' q' => ?_
                subst e1 e2
                obtain ⟨u, xs, rfl, su, rs⟩ := rx.lstI
                obtain rfl := rs.strsI
                obtain rfl := ry.intI
                have lt : i.toNat < ns.length := by omega
                have ei : i = ((i.toNat : Nat) : Int) := by omega
                refine ⟨u, _, i, .str ns[i.toNat], rfl, rfl, ex_l a'.sub su, ?_, q' _ _ B' H' a'.gr (.str _) ⟨ns[i.toNat], List.getElem_mem lt, rfl⟩⟩
                have q := atI_nat (xs := ns.map V.str) (j := i.toNat) (v := .str ns[i.toNat]) (by simp [lt])
                rw [← ei] at q; exact q
              · subst ed
                obtain rfl := rv.strI
                have h10 := g11.keep q3 _ m3 h9
                have nb10 := g11.off nb9 h9
                have g012 := g10.trans g11
                refine ⟨_, rfl, _, rfl, q3, _, rfl, .inl (SqL.of h10), rfl, flatStrs tg, ?_⟩
                show (∃ k, V.bl (!inV (.str x) (tg.map V.str)) = .bl k ∧ _)
                rw [inV_strs]
                refine ⟨_, rfl, ?_⟩
                by_cases hm : x ∈ tg
                · rw [decide_eq_true hm]
                  exact ⟨B10, g012, e5.trans g11.grow, _, _, tg, rfl, nb10, h10, tnd, tin, fun _ h => by rw [h] at hm; cases hm⟩
                · rw [decide_eq_false hm]
                  show (if (!false) = true then _ else _)
                  rw [if_pos (by decide)]
                  refine x_app g11.at_ m3 h10 rfl (d_var rfl (.str x)) (by simp; omega) fun v d B11 H11 g12 rv2 ed2 => ?_
                  subst ed2
                  obtain rfl := rv2.strI
                  have nb11 := g12.off nb10 h10
                  refine ⟨B11, (g012.trans g12).upd m3 np3 nb11 _, (e5.trans g11.grow).trans g12.grow, _, _, tg ++ [x], rfl, nb11, by rw [upd_same, List.map_append]; rfl, List.nodup_append.mpr ⟨tnd, by simp, fun y hy z hz e => ?_⟩, fun y hy => ?_, fun _ => by simp⟩
                  · have : z = x := by simpa using hz
                    subst this; exact hm (e ▸ hy)
                  · rcases List.mem_append.mp hy with h | h
                    · exact tin y h
                    · have : y = x := by simpa using h
                      rw [this]; exact hx
            · rintro nn σ' B9 H9 hnn g10 e4 ⟨o8, o9, tg, rfl, nb9, h9, tnd, tin, tne⟩
              have tne' : tg ≠ [] := tne (by omega)
              have g11 := g10.freeze m3 np3 nb9 h9
              have r3 : Rep K (upd B9 q3 (.lst (tg.map V.str))) (.ref q3) (.lst (tg.map D.str)) := .nd (t := .lst) (SqL.of upd_same) (RepA.ofStrs tg)
              have k9 := g11.keep q2 _ m2 k6
              have up9 := g6.grow.trans g11.grow
              obtain ⟨kw, hkw, hki, hat⟩ : ∃ kw : Str, kw ∈ kinds ∧ kw ≠ "int" ∧ atI (([("one" : Str), "many"]).map D.str) (kind % 2) = some (.str kw) := by
                have h2 : kind % 2 = 0 ∨ kind % 2 = 1 := by omega
                rcases h2 with h2 | h2
                · exact ⟨"one", by decide +kernel, by decide +kernel, by rw [h2]; rfl⟩
                · exact ⟨"many", by decide +kernel, by decide +kernel, by rw [h2]; rfl⟩
              refine x_app (R := fun d => ∃ b, d = .tup [.str wd, .bl b, .str kw, .tup (tg.map D.str)]) g11.at_ m2 k9 rfl ?_ alen fun v d B12 H12 g12 rv ⟨b, ed⟩ => ?_
              · refine EvR.weak (r_tup (ra_cons (d_var rfl (rw_.up up9)) (ra_cons (r_eqI (r_next (S6.up g11.grow) rfl d_int (by decide)) d_int) (da_cons (d_ixL (ds := ([("one" : Str), "many"]).map D.str) (d_lst (da_cons d_str (da_one d_str)) (by decide)) (d_opC (C := fun _ j => 0 < j) (g := fun i j => i % j) (d_var rfl (.int kind)) d_int (by decide)) hat) (da_one (d_tupL (d_var rfl r3)))))) (fun ds ⟨_, l, e, _, _, l2, e2, _, e3⟩ => by rw [e, e2, e3]; simp)) ?_
                rintro d ⟨ds, rfl, x1, l1, rfl, rfl, x2, l2, rfl, ⟨b, rfl⟩, rfl⟩
                exact ⟨b, rfl⟩
              · subst ed
                exact fin v _ B12 H12 _ _ _ (g11.trans g12) rv ⟨b, kw, tg, rfl, hkw, tin, tnd, ⟨fun h => absurd h tne', fun h => absurd h hki⟩⟩
          · -- none
            have g78 := g7.trans g8
            have g68 := g56.trans g78
            exact ⟨B8, g68, (e3.trans g6.grow).trans g78.grow, _, _, o7, o8, o9, ac2, fl, rfl, g78.off nb6 h6, g78.keep q1 _ m1 h6, (x5.trans g6.grow).trans g78.grow, g78.off nc6 k6, g78.keep q2 _ m2 k6, rf.up (g6.grow.trans g78.grow), hs.trans (by
              rw [List.take_add_one]; exact List.sublist_append_left _ _), hd⟩
      · -- the fields are there
        rintro σ' B5 H5 g5 e5 ⟨o5', o6', o7', o8', o9', ac2, fl, rfl, nb5, h5, x5, nc5, k5, rf, hs, hd⟩
        have g6 := g5.freeze m2 nq2 nc5 k5
        have rf6 : RepA K (upd B5 q2 (.lst ac2)) ac2 fl := rf.up (fun b u e => by rw [upd_ne (ne_of_none e nc5)]; exact e)
        have up6 : Ex B5 (upd B5 q2 (.lst ac2)) := fun b u e => by rw [upd_ne (ne_of_none e nc5)]; exact e
        have nb6 : (upd B5 q2 (.lst ac2)) q1 = none := by rw [upd_ne q12]; exact nb5
        have rq2 : Rep K (upd B5 q2 (.lst ac2)) (.ref q2) (.lst fl) := .nd (t := .lst) (SqL.of upd_same) rf6
        have tsl : acc.length < 100000 := by
          rw [ra.len]
          have := congrArg List.length so.heads
          rw [List.length_map, List.length_take] at this
          omega
        refine x_app g6.at_ m1 h5 rfl (d_tup (da_cons (d_var rfl (rn.up (x5.trans up6))) (da_one (d_tupL (d_var rfl rq2)))) (by simp)) tsl fun v d B7 H7 g7 rv ed => ?_
        subst ed
        have nb7 := g7.off nb6 h5
        refine ⟨B7, (g6.trans g7).upd m1 nq1 nb7 _, ((e1.trans x5).trans up6).trans g7.grow, _, _, _, _, _, _, _, acc ++ [v], ts ++ [_], rfl, nb7, upd_same, (ra.up ((x5.trans up6).trans g7.grow)).app (.one rv), ?_⟩
        have et : ns.take (i + 1) = ns.take i ++ [w] := by rw [List.take_add_one, hw]; rfl
        rw [et]
        refine so.snoc ⟨fl, rfl, ?_, hd⟩
        have : fieldWords.take (fieldWords.map D.str).length = fieldWords := rfl
        rw [this] at hs; exact hs
    · rintro σ' B3 H3 g3 e3 ⟨o3, o4, o5, o6, o7, o8, o9, acc, ts, rfl, nb3, h3, ra, so⟩
      have e : ns.take (ns.map D.str).length = ns := by rw [List.length_map, List.take_length]
      rw [e] at so
      have g4 := g3.freeze m1 nq1 nb3 h3
      have r4 : Rep K (upd B3 q1 (.lst acc)) (.ref q1) (.lst ts) := .nd (t := .lst) (SqL.of upd_same) (ra.up (fun b u e => by rw [upd_ne (ne_of_none e nb3)]; exact e))
      exact x_ret g4.at_ (d_tupL (d_var rfl r4)) fun v B5 H5 g5 r5 => ok ts v B5 H5 (g4.trans g5) r5 (so.good hn1 hn4 hns)
end
end Fq
set_option Elab.async false
set_option linter.all false
set_option maxRecDepth 100000
set_option maxHeartbeats 4000001
namespace Fq
open PySem L2 Evl
/-! ### the law's own look at types -/
def lookE : List (List Key × D) → List Key → D
  | [], _ => .non
  | x :: es, j => if x.1 = j then x.2 else lookE es j
theorem look_eq (j : List Key) : ∀ es : List (List Key × D), lookD (es.map (·.1)) (es.map (·.2)) j = lookE es j
  | [] => rfl
  | x :: es => by
    show (if x.1 = j then x.2 else lookD (es.map (·.1)) (es.map (·.2)) j) = if x.1 = j then x.2 else lookE es j
    rw [look_eq j es]
theorem lookE_app (j : List Key) : ∀ (es fs : List (List Key × D)), (∀ x ∈ es, x.1 ≠ j) → lookE (es ++ fs) j = lookE fs j
  | [], _, _ => rfl
  | x :: es, fs, h => by
    show (if x.1 = j then x.2 else lookE (es ++ fs) j) = _
    rw [if_neg (h x (.head _))]
    exact lookE_app j es fs fun y hy => h y (.tail _ hy)
theorem lookE_none (j : List Key) (es : List (List Key × D)) (h : ∀ x ∈ es, x.1 ≠ j) : lookE es j = .non := by
  have := lookE_app j es [] h
  rw [List.append_nil] at this; exact this
theorem lookE_hit (j : List Key) (es fs : List (List Key × D)) (x : List Key × D) (h : ∀ x ∈ es, x.1 ≠ j) (e : x.1 = j) : lookE (es ++ x :: fs) j = x.2 := by
  rw [lookE_app j es _ h]
  show (if x.1 = j then x.2 else _) = _
  rw [if_pos e]
theorem entries_split {ts : List D} {i : Nat} {t : D} (h : ts[i]? = some t) : entriesOf ts = entriesOf (ts.take i) ++ ((fieldsOf t).map (fun e => entryOf t e) ++ entriesOf (ts.drop (i + 1))) := by
  have e : ts = ts.take i ++ t :: ts.drop (i + 1) := by
    obtain ⟨hl, rfl⟩ := List.getElem?_eq_some_iff.mp h
    rw [← List.drop_eq_getElem_cons hl, List.take_append_drop]
  conv => lhs; rw [e]
  unfold entriesOf
  rw [List.flatMap_append, List.flatMap_cons]
theorem entries_take {ts : List D} {i : Nat} {t : D} (h : ts[i]? = some t) : entriesOf (ts.take (i + 1)) = entriesOf (ts.take i) ++ (fieldsOf t).map fun e => entryOf t e := by
  rw [List.take_add_one, h]
  unfold entriesOf
  rw [List.flatMap_append]
  show _ ++ List.flatMap _ [t] = _
  rw [List.flatMap_cons, List.flatMap_nil, List.append_nil]
def rField : List D → D → Prop := fun ds r => ∃ (ts : List D) (tn n : Str), ds = [.tup ts, .str tn, .str n] ∧ typesB (.tup ts) = true ∧ r = defOf ts tn n
def rPlace : List D → D → Prop := fun ds r => ∃ (ts : List D) (tg : Tag) (xs : List Str), ds = [.tup ts, .nd tg (xs.map D.str)] ∧ (tg = .tup ∨ tg = .lst) ∧ typesB (.tup ts) = true ∧ r = .tup (((namesOf ts).filter fun x => decide (x ∈ xs)).map D.str)
theorem types_shape {ts : List D} (h : typesB (.tup ts) = true) : ts.length ≤ 5 ∧ ∀ t ∈ ts, ∃ x fl, t = .tup [.str x, .tup fl] ∧ fl.length ≤ 6 ∧ ∀ e ∈ fl, defB (ts.map headName) e = true := by
  obtain ⟨l, e, hl1, hl5, hpairs, _, hfields⟩ := typesB_ex h
  have e' : l = ts := by injection e with _ e2; exact e2.symm
  subst e'
  refine ⟨hl5, fun t ht => ?_⟩
  obtain ⟨x, fl, rfl, _, h6⟩ := pairB_ex (hpairs t ht)
  obtain ⟨fl', e, h1, h2⟩ := fieldsB_ex (hfields _ ht)
  have e' : fl' = fl := by injection e with _ e2; exact e2.symm
  subst e'
  exact ⟨x, fl', rfl, h6, h1⟩
section
variable {m : Md} {P : Program} {w : World} {K : PySem.W.Frag} {mg : Str → Option Value} {base : Heap} {f CB CS aKinds : Addr} {fd : FuncData}
theorem ok_lawField (F : Fun K "_law_field" "_law_field" s__law_field f fd) : FnOk P w K mg base CX0 1 f fd ["types", "type_name", "name"] (spR K rField) := by
  refine ok_R F sc__law_field (fun ds r h => ?_) (fun cdv A outer s B H vs Q E hr ds a hR hF ok => ?_)
  · obtain ⟨ts, tn, n, rfl, _⟩ := h; rfl
  · obtain ⟨r, ts, tn, n, rfl, hb, rfl⟩ := hF
    have ok' : ∀ v B1 H1, Gr still B H B1 H1 → Rep K B1 v (lookE (entriesOf ts) [.inr tn, .inr n]) → Q v H1 := fun v B1 H1 g r => ok _ ⟨ts, tn, n, rfl, hb, rfl⟩ v B1 H1 g (by rw [show defOf ts tn n = _ from look_eq _ (entriesOf ts)]; exact r)
    obtain ⟨h5, sh⟩ := types_shape hb
    obtain ⟨x, y, z, rfl, r1, r2, r3⟩ := hR.i3
    refine ⟨_, pss_cons (ps_for PassesOwn.never rfl (pi_tup (pv 0)) (pg_tup rfl (pgs_cons (pg_name (i := 3) sc__law_field.nd rfl (Or.inl rfl)) (pgs_cons (pg_name (i := 4) sc__law_field.nd rfl (Or.inl rfl)) pgs_nil)))
    (pss_one (ps_if (pt_cmpR op_eq (pv 3) (pv 1) (nomark _)) (pss_one (ps_for PassesOwn.never rfl (pi_tup (pv 4)) (pg_name (i := 5) sc__law_field.nd rfl (Or.inl rfl))
        (pss_one (ps_if (pt_cmpR op_eq (pe_ix ix_tup (pv 5) pe_int (fun _ _ => rfl)) (pv 2) (nomark _)) (pss_one (ps_ret (pv 5))) pss_nil)))) pss_nil)))
  (pss_one (ps_ret pe_non)), ?_⟩
    refine x_forT a.gr (d_var rfl r1) (fun i σ' B' H' => (∃ o3 o4 o5, σ' = [some x, some y, some z, o3, o4, o5]) ∧ ∀ e ∈ entriesOf (ts.take i), e.1 ≠ [.inr tn, .inr n]) (fun B3 H3 g3 => ⟨⟨none, none, none, rfl⟩, fun e h => by simp [entriesOf] at h⟩) ?_ ?_
    · rintro i d v σ' Bl B3 H3 hd e0 g3 e3 rv ⟨⟨o3, o4, o5, rfl⟩, hno⟩
      obtain ⟨tx, fl, rfl, h6, hdefs⟩ := sh d (List.mem_of_getElem? hd)
      refine g_2 g3.sub rv fun xa xb ra rb => ?_
      have up := e0.trans e3
      refine x_when g3.at_ (t_test (d_eqS (d_var rfl ra) (d_var rfl (r2.up up)))) (fun hb1 B4 H4 g4 => ?_) (fun hb1 B4 H4 g4 => ?_)
      · have htx : tx = tn := of_decide_eq_true hb1
        subst htx
        refine x_forT (g3.trans g4) (d_var rfl (rb.up g4.grow)) (fun j σ' B' H' => (∃ o5, σ' = [some x, some y, some z, some xa, some xb, o5]) ∧ ∀ e ∈ (fl.take j).map (fun e => entryOf (.tup [.str tx, .tup fl]) e), e.1 ≠ [.inr tx, .inr n]) (fun B5 H5 g5 => ⟨⟨o5, rfl⟩, fun e h => by simp at h⟩) ?_ ?_
        · rintro j de ve σ' Bm B5 H5 hj e4 g5 e5 re ⟨⟨o5, rfl⟩, hno2⟩
          obtain ⟨fx, fb, fc, fe, rfl, _⟩ := defB_ex (hdefs de (List.mem_of_getElem? hj))
          show tIfS _ _ _ _ _ H5
          refine x_when g5.at_ (t_test (d_eqS (d_ixT (d_var rfl re) d_int (atI_nat (j := 0) rfl)) (d_var rfl (r3.up (((up.trans g4.grow).trans e4).trans e5))))) (fun hb2 B6 H6 g6 => ?_) (fun hb2 B6 H6 g6 => ?_)
          · have hfx : fx = n := of_decide_eq_true hb2
            subst hfx
            refine x_ret g6.at_ (d_var rfl (re.up g6.grow)) fun v' B7 H7 g7 r7 => ok' v' B7 H7 ((g5.trans g6).trans g7) ?_
            have es := entries_split hd
            have e1 : fieldsOf (D.tup [.str tx, .tup fl]) = fl.take j ++ D.tup [.str fx, fb, fc, fe] :: fl.drop (j + 1) := by
              show fl = _
              obtain ⟨hl, e⟩ := List.getElem?_eq_some_iff.mp hj
              rw [← e, ← List.drop_eq_getElem_cons hl, List.take_append_drop]
            rw [e1, List.map_append, List.map_cons, List.append_assoc, ← List.append_assoc (entriesOf (ts.take i)), List.cons_append] at es
            rw [es, lookE_hit [.inr tx, .inr fx] _ _ _ (fun e he => ?_) rfl]
            · exact r7
            · rcases List.mem_append.mp he with h | h
              · exact hno e h
              · exact hno2 e h
          · have hfx : ¬ fx = n := of_decide_eq_false hb2
            refine ⟨B6, g5.trans g6, e5.trans g6.grow, ⟨_, rfl⟩, fun e he => ?_⟩
            rw [List.take_add_one, hj] at he
            simp only [Option.toList, List.map_append, List.mem_append, List.map_cons, List.map_nil, List.mem_singleton] at he
            rcases he with h | rfl
            · exact hno2 e h
            · intro q
              injection q with _ q2
              injection q2 with q3 _
              injection q3 with q4
              exact hfx q4
        · rintro σ' B5 H5 g5 e5 ⟨⟨o5, rfl⟩, hno2⟩
          rw [List.take_length] at hno2
          refine ⟨B5, g5, (e3.trans g4.grow).trans e5, ⟨_, _, _, rfl⟩, fun e he => ?_⟩
          rw [entries_take hd] at he
          rcases List.mem_append.mp he with h | h
          · exact hno e h
          · exact hno2 e h
      · have htx : ¬ tx = tn := of_decide_eq_false hb1
        refine ⟨B4, g3.trans g4, e3.trans g4.grow, ⟨_, _, _, rfl⟩, fun e he => ?_⟩
        rw [entries_take hd] at he
        rcases List.mem_append.mp he with h | h
        · exact hno e h
        · obtain ⟨e', _, rfl⟩ := List.mem_map.mp h
          intro q
          injection q with q2 _
          injection q2 with q3
          exact htx q3
    · rintro σ' B3 H3 g3 e3 ⟨⟨o3, o4, o5, rfl⟩, hno⟩
      rw [List.take_length] at hno
      have q : tRet (tC .non) { nx := fun (_ : L2.St) H' => Q V.non H', rt := Q } [some x, some y, some z, o3, o4, o5] H3 := x_ret (K := K) g3.at_ d_non fun v B4 H4 g4 r4 => ok' v B4 H4 (g3.trans g4) (by rw [lookE_none _ _ hno]; exact r4)
      exact q
theorem ok_lawPlace (T : Txt K mg CB aKinds) (F : Fun K "_law_place" "_law_place" s__law_place f fd) : FnOk P w K mg base CX0 1 f fd ["types", "names"] (spR K rPlace) := by
  refine ok_R F sc__law_place (fun ds r h => ?_) (fun cdv A outer s B H vs Q E hr ds a hR hF ok => ?_)
  · obtain ⟨ts, tg, xs, rfl, _⟩ := h; rfl
  · obtain ⟨r, ts, tg, xs, rfl, htg, hb, rfl⟩ := hF
    obtain ⟨h5, sh⟩ := types_shape hb
    obtain ⟨x, y, rfl, r1, r2⟩ := hR.i2
    refine ⟨_, pss_one (ps_ret (pe_callTy call_tuple_of (by rfl) T.n_tuple (by decide +kernel : bootBuiltins "tuple" = some (.type "tuple")) (pa_cons (pe_lc (own := [(("name" : Str), 2), (("fields" : Str), 3)]) (g := gTup K 2 (gCons (gName 2) (gCons (gName 3) gNil))) rfl sc__law_place.nd (pi_tup (pv 0)) (blkOk_by (own := [(("name" : Str), 2), (("fields" : Str), 3)]) (N := ["types", "names", "name", "fields"]) (sc := defScope s__law_place) (by decide +kernel)) (fun _ _ _ _ _ => (pg_tup rfl (pgs_cons (pg_name (i := 2) sc__law_place.nd rfl (Or.inl rfl)) (pgs_cons (pg_name (i := 3) sc__law_place.nd rfl (Or.inl rfl)) pgs_nil)))) (fun _ _ _ _ _ => pts_one (pt_cmpR (op_in_seq : OpR _ (compareOp .In) (rIn K false)) (pv 2) (pv 1) rfl)) (fun _ _ _ _ _ => (pv 2))) pa_nil))), ?_⟩
    refine x_ret a (d_tupL (d_is (d' := .lst (((namesOf ts).filter fun x => decide (x ∈ xs)).map D.str)) (d_lcT (fun d => decide (headName d ∈ xs)) (fun d => .str (headName d)) (d_var rfl r1) (by omega) fun d hd v B2 e2 rv => ?_) ?_)) fun v B1 H1 g1 q1 => ok _ ⟨ts, tg, xs, rfl, htg, hb, rfl⟩ v B1 H1 g1 q1
    · obtain ⟨tx, fl, rfl, h6, hdefs⟩ := sh d hd
      obtain ⟨ta, vs, rfl, s, rs⟩ := rv.tupI
      obtain ⟨xa, xb, rfl, ra, rb⟩ := rs.i2
      exact ⟨[some x, some y, some xa, some xb], rfl, fun H Q e q => ⟨ta, _, rfl, ex_t e s, rfl, xa, [xb], rfl, xb, [], rfl, rfl, q⟩, t_test (d_inQ htg (d_var rfl ra) (d_var rfl (r2.up e2))), fun _ => d_var rfl ra⟩
    · rw [namesOf, List.filter_map, List.map_map]; rfl
def rIsInt : List D → D → Prop := fun ds r => ∃ (b : Bool) (d : D), ds = [d] ∧ d.plain = true ∧ kitB d.ty "int" = some b ∧ ∃ c, kitB d.ty "bool" = some c ∧ r = .bl (b && !c)
theorem ok_isInt (T : Txt K mg CB aKinds) (F : Fun K "_law_is_integer" "_law_is_integer" s__law_is_integer f fd) : FnOk P w K mg base CX0 1 f fd ["actual"] (spR K rIsInt) := by
  refine ok_R F sc__law_is_integer (fun ds r h => ?_) (fun cdv A outer s B H vs Q E hr ds a hR hF ok => ?_)
  · obtain ⟨b, d, rfl, _⟩ := h; rfl
  · obtain ⟨r, b, d, rfl, hp, h1, c, h2, rfl⟩ := hF
    obtain ⟨x, rfl, r1⟩ := hR.i1
    refine ⟨_, pss_one (ps_ret (pe_and (pe_callB call_isi (by rfl) T.n_isinstance (by decide +kernel : bootBuiltins "isinstance" = some (.builtin "isinstance")) (pa_cons (pv 0) (pa_cons (pe_bltn (v := .ty "int") (u := .type "int") (by rfl) T.n_int (by decide +kernel) rfl) pa_nil))) (pe_one (pe_not (pe_callB call_isi (by rfl) T.n_isinstance (by decide +kernel : bootBuiltins "isinstance" = some (.builtin "isinstance")) (pa_cons (pv 0) (pa_cons (pe_bltn (v := .ty "bool") (u := .type "bool") (by rfl) T.n_bool (by decide +kernel) rfl) pa_nil))))))), ?_⟩
    exact x_ret a (d_and (d_isi (d_var rfl r1) hp (ty_c "int") h1) fun _ => d_not (d_isi (d_var rfl r1) hp (ty_c "bool") h2)) fun v B1 H1 g1 q1 => ok _ ⟨b, d, rfl, hp, h1, c, h2, rfl⟩ v B1 H1 g1 q1
end
end Fq
set_option Elab.async false
set_option linter.all false
set_option maxRecDepth 100000
set_option maxHeartbeats 4000001
namespace Fq
open PySem L2 Evl
/-! ### what is compared with itself -/
def D.deepN : Nat → D → Bool
  | 0, _ => false
  | n + 1, .nd .tup l => decide (l.length ≤ 1000) && l.all (D.deepN n)
  | n + 1, .nd .lst l => decide (l.length ≤ 1000) && l.all (D.deepN n)
  | _ + 1, .nd _ _ => false
  | _ + 1, _ => true
def rSame (n : Nat) : List D → D → Prop := fun ds r => ∃ d : D, ds = [d, d] ∧ d.deepN n = true ∧ r = .bl true
section
variable {m : Md} {K : PySem.W.Frag} {σ : L2.St} {B H : Hp} {ta tb te : TE} {t : TT} {tu tz : TS} {DD : Ends} {d : D} {ds : List D}
theorem y_skip (a : At m B H) (h : EvTt m t σ B false) (k : ∀ B1 H1, Gr m B H B1 H1 → tz DD σ H1) : tSeq (tIfS t tu tNext) tz DD σ H := y_when a h (fun h => by cases h) (fun _ => k)
theorem d_neI {i j : Int} (ha : EvD m K ta σ B (.int i)) (hb : EvD m K tb σ B (.int j)) : EvD m K (tOp rNe ta tb) σ B (.bl (!decide (i = j))) := r_op ha hb fun B0 H e a x' y' d1 d2 rx ry e1 e2 Q q => by
  subst e1 e2
  obtain rfl := rx.intI
  obtain rfl := ry.intI
  have e : decide (V.int i = V.int j) = decide (i = j) := by simp
  refine ⟨rfl, ?_⟩
  rw [e]
  exact q _ _ B0 H a.gr (.bl _) rfl
theorem d_ixQ {i : Int} {tg : Tag} (ht : tg = .tup ∨ tg = .lst) (ha : EvD m K ta σ B (.nd tg ds)) (hb : EvD m K tb σ B (.int i)) (h : atI ds i = some d) : EvD m K (tOp (rIx K) ta tb) σ B d := r_op ha hb fun B0 H e a x y d1 d2 rx ry e1 e2 Q q => by
  subst e1 e2
  obtain ⟨p, xs, rfl, s, r⟩ := rx.ndI
  obtain rfl := ry.intI
  obtain ⟨v, hv, rv⟩ := r.at_ h
  rcases ht with rfl | rfl
  · exact .inr (.inl ⟨p, xs, i, v, rfl, rfl, ex_t a.sub s, hv, q v _ B0 H a.gr rv rfl⟩)
  · exact .inl ⟨p, xs, i, v, rfl, rfl, ex_l a.sub s, hv, q v _ B0 H a.gr rv rfl⟩
theorem d_lenQ {tg : Tag} (ht : tg = .tup ∨ tg = .lst) (h : EvD m K te σ B (.nd tg ds)) : EvD m K (tCB (rLenQ K) (tCons te tNil)) σ B (.int ds.length) := by
  rcases ht with rfl | rfl
  · exact d_lenT h
  · exact d_lenL h
end
theorem kit_seq {tg : Tag} (ht : tg = .tup ∨ tg = .lst) (l : List D) : (D.nd tg l).plain = true ∧ (D.nd tg l).isN = false ∧ kitB (D.nd tg l).ty "bool" = some false ∧ kitB (D.nd tg l).ty "int" = some false ∧ kitB (D.nd tg l).ty "str" = some false ∧ kitB (D.nd tg l).ty "dict" = some false ∧ ∃ b, kitB (D.nd tg l).ty "tuple" = some b ∧ ∃ c, kitB (D.nd tg l).ty "list" = some c := by
  rcases ht with rfl | rfl
  · exact ⟨rfl, rfl, (by show kitB "tuple" "bool" = some false; decide +kernel), (by show kitB "tuple" "int" = some false; decide +kernel), (by show kitB "tuple" "str" = some false; decide +kernel), (by show kitB "tuple" "dict" = some false; decide +kernel), true, (by show kitB "tuple" "tuple" = some true; decide +kernel), false, (by show kitB "tuple" "list" = some false; decide +kernel)⟩
  · exact ⟨rfl, rfl, (by show kitB "list" "bool" = some false; decide +kernel), (by show kitB "list" "int" = some false; decide +kernel), (by show kitB "list" "str" = some false; decide +kernel), (by show kitB "list" "dict" = some false; decide +kernel), false, (by show kitB "list" "tuple" = some false; decide +kernel), true, (by show kitB "list" "list" = some true; decide +kernel)⟩
theorem deep_nd {n : Nat} {tg : Tag} {l : List D} (h : (D.nd tg l).deepN (n + 1) = true) : (tg = .tup ∨ tg = .lst) ∧ l.length ≤ 1000 ∧ ∀ d ∈ l, d.deepN n = true := by
  cases tg with
  | tup =>
    have h' : (decide (l.length ≤ 1000) && l.all (D.deepN n)) = true := h
    rw [Bool.and_eq_true_iff, decide_eq_true_eq, List.all_eq_true] at h'
    exact ⟨.inl rfl, h'⟩
  | lst =>
    have h' : (decide (l.length ≤ 1000) && l.all (D.deepN n)) = true := h
    rw [Bool.and_eq_true_iff, decide_eq_true_eq, List.all_eq_true] at h'
    exact ⟨.inr rfl, h'⟩
  | dk _ => cases h
  | dt _ => cases h
  | ob _ _ => cases h
section
variable {m : Md} {P : Program} {w : World} {K : PySem.W.Frag} {mg : Str → Option Value} {base : Heap} {f CB CS aKinds : Addr} {fd : FuncData}
theorem same_none : FnOk P w K mg base CX0 1 f fd ["actual", "expected"] (spR K (rSame 0)) := by
  have no : ∀ vs H Q E, ¬ spR K (rSame 0) vs H Q E := fun vs H Q E ⟨B, ds, _, _, ⟨r, d, _, h, _⟩, _⟩ => by cases h
  exact ⟨fun vs H Q E h => absurd h (no vs H Q E), fun A outer
      s H args us vs Q E _ _ _ _ h => absurd h (no vs H Q E)⟩
theorem ok_same {n : Nat} (T : Txt K mg CB aKinds) (d__law_is_integer : Cal P w K mg base CX0 1 "_law_is_integer" ["actual"] (spR K rIsInt)) (d__law_same : Cal P w K mg base CX0 (n + 1) "_law_same" ["actual", "expected"] (spR K (rSame n)))
    (F : Fun K "_law_same" "_law_same" s__law_same f fd) : FnOk P w K mg base CX0 (n + 2) f fd ["actual", "expected"] (spR K (rSame (n + 1))) := by
  refine ok_R F sc__law_same (fun ds r h => ?_) (fun cdv A outer s B H vs Q E hr ds a hR hF ok => ?_)
  · obtain ⟨d, rfl, _⟩ := h; rfl
  · obtain ⟨r, d, rfl, hd, rfl⟩ := hF
    have ok' : ∀ v B1 H1, Gr still B H B1 H1 → Rep K B1 v (.bl true) → Q v H1 := ok _ ⟨d, rfl, hd, rfl⟩
    obtain ⟨x, y, rfl, r1, r2⟩ := hR.i2
    refine ⟨_, pss_cons (ps_if (pt_cmp (pc_isN (pv 1))) (pss_one (ps_ret (pe_cmp (pc_isN (pv 0)) rfl))) pss_nil)
  (pss_cons (ps_if (pt_val (pe_callB call_isi (by rfl) T.n_isinstance (by decide +kernel : bootBuiltins "isinstance" = some (.builtin "isinstance")) (pa_cons (pv 1) (pa_cons (pe_bltn (v := .ty "bool") (u := .type "bool") (by rfl) T.n_bool (by decide +kernel) rfl) pa_nil)))) (pss_one (ps_ret (pe_and (pe_callB call_isi (by rfl) T.n_isinstance (by decide +kernel : bootBuiltins "isinstance" = some (.builtin "isinstance")) (pa_cons (pv 0) (pa_cons (pe_bltn (v := .ty "bool") (u := .type "bool") (by rfl) T.n_bool (by decide +kernel) rfl) pa_nil))) (pe_one (pe_cmpR op_eq (pv 0) (pv 1) (nomark _)))))) pss_nil)
  (pss_cons (ps_if (pt_val (pe_callB call_isi (by rfl) T.n_isinstance (by decide +kernel : bootBuiltins "isinstance" = some (.builtin "isinstance")) (pa_cons (pv 1) (pa_cons (pe_bltn (v := .ty "int") (u := .type "int") (by rfl) T.n_int (by decide +kernel) rfl) pa_nil)))) (pss_one (ps_ret (pe_and (pe_cal d__law_is_integer (hr.mono (by omega)) rfl pass0 (pa_cons (pv 0) pa_nil)) (pe_one (pe_cmpR op_eq (pv 0) (pv 1) (nomark _)))))) pss_nil)
  (pss_cons (ps_if (pt_val (pe_callB call_isi (by rfl) T.n_isinstance (by decide +kernel : bootBuiltins "isinstance" = some (.builtin "isinstance")) (pa_cons (pv 1) (pa_cons (pe_bltn (v := .ty "str") (u := .type "str") (by rfl) T.n_str (by decide +kernel) rfl) pa_nil)))) (pss_one (ps_ret (pe_and (pe_callB call_isi (by rfl) T.n_isinstance (by decide +kernel : bootBuiltins "isinstance" = some (.builtin "isinstance")) (pa_cons (pv 0) (pa_cons (pe_bltn (v := .ty "str") (u := .type "str") (by rfl) T.n_str (by decide +kernel) rfl) pa_nil))) (pe_one (pe_cmpR op_eq (pv 0) (pv 1) (nomark _)))))) pss_nil)
  (pss_cons (ps_if (pt_val (pe_callB call_isi (by rfl) T.n_isinstance (by decide +kernel : bootBuiltins "isinstance" = some (.builtin "isinstance")) (pa_cons (pv 1) (pa_cons (pe_bltn (v := .ty "dict") (u := .type "dict") (by rfl) T.n_dict (by decide +kernel) rfl) pa_nil)))) pss_never pss_nil)
  (pss_cons (ps_if (PW.pt (pw_and (pt_val (pe_callB call_isi (by rfl) T.n_isinstance (by decide +kernel : bootBuiltins "isinstance" = some (.builtin "isinstance")) (pa_cons (pv 1) (pa_cons (pe_bltn (v := .ty "tuple") (u := .type "tuple") (by rfl) T.n_tuple (by decide +kernel) rfl) pa_nil)))) (pw_and1 (pt_not (pt_val (pe_callB call_isi (by rfl) T.n_isinstance (by decide +kernel : bootBuiltins "isinstance" = some (.builtin "isinstance")) (pa_cons (pv 0) (pa_cons (pe_bltn (v := .ty "tuple") (u := .type "tuple") (by rfl) T.n_tuple (by decide +kernel) rfl) pa_nil)))))))) (pss_one (ps_ret pe_bl)) pss_nil)
  (pss_cons (ps_if (PW.pt (pw_and (pt_val (pe_callB call_isi (by rfl) T.n_isinstance (by decide +kernel : bootBuiltins "isinstance" = some (.builtin "isinstance")) (pa_cons (pv 1) (pa_cons (pe_bltn (v := .ty "list") (u := .type "list") (by rfl) T.n_list (by decide +kernel) rfl) pa_nil)))) (pw_and1 (pt_not (pt_val (pe_callB call_isi (by rfl) T.n_isinstance (by decide +kernel : bootBuiltins "isinstance" = some (.builtin "isinstance")) (pa_cons (pv 0) (pa_cons (pe_bltn (v := .ty "list") (u := .type "list") (by rfl) T.n_list (by decide +kernel) rfl) pa_nil)))))))) (pss_one (ps_ret pe_bl)) pss_nil)
  (pss_cons (ps_if (pt_cmpR op_ne (pe_callB call_len_seq (by rfl) T.n_len PySem.boot_len (pa_cons (pv 0) pa_nil)) (pe_callB call_len_seq (by rfl) T.n_len PySem.boot_len (pa_cons (pv 1) pa_nil)) (nomark _)) (pss_one (ps_ret pe_bl)) pss_nil)
  (pss_cons (ps_for PassesOwn.never rfl (pi_range1 (by rfl) T.n_range (pa_cons (pe_callB call_len_seq (by rfl) T.n_len PySem.boot_len (pa_cons (pv 1) pa_nil)) pa_nil)) (pg_name (i := 3) sc__law_same.nd rfl (Or.inl rfl))
    (pss_one (ps_if (pt_not (pt_val (pe_cal d__law_same (hr.mono (by omega)) rfl pass0 (pa_cons (pe_ix ix_seq (pv 0) (pv 3) (fun _ _ => rfl)) (pa_cons (pe_ix ix_seq (pv 1) (pv 3) (fun _ _ => rfl)) pa_nil))))) (pss_one (ps_ret pe_bl)) pss_nil)))
  (pss_one (ps_ret pe_bl)))))))))), ?_⟩
    cases d with
    | non =>
      refine y_when (b := true) a (t_val (d_isN (d_var rfl r2))) (fun _ B1 H1 g1 => ?_) (fun h => by cases h)
      exact x_ret g1.at_ (d_isN (d_var rfl (r1.up g1.grow))) fun v B2 H2 g2 q2 => ok' v B2 H2 (g1.trans g2) q2
    | bl b =>
      refine y_skip a (t_val (d_isN (d_var rfl r2))) fun B1 H1 g1 => ?_
      refine y_when (b := true) g1.at_ (t_val (d_isi (d_var rfl (r2.up g1.grow)) rfl (ty_c "bool") (by show kitB "bool" "bool" = some true; decide +kernel))) (fun _ B2 H2 g2 => ?_) (fun h => by cases h)
      have up := g1.grow.trans g2.grow
      exact x_ret g2.at_ (d_is (d_and (a := true) (d_isi (d_var rfl (r1.up up)) rfl (ty_c "bool") (by show kitB "bool" "bool" = some true; decide +kernel)) fun _ => d_eqB (d_var rfl (r1.up up)) (d_var rfl (r2.up up))) (by simp)) fun v B3 H3 g3 q3 => ok' v B3 H3 ((g1.trans g2).trans g3) q3
    | int i =>
      refine y_skip a (t_val (d_isN (d_var rfl r2))) fun B1 H1 g1 => ?_
      refine y_skip g1.at_ (t_val (d_isi (d_var rfl (r2.up g1.grow)) rfl (ty_c "bool") (by show kitB "int" "bool" = some false; decide +kernel))) fun B2 H2 g2 => ?_
      have g12 := g1.trans g2
      refine y_when (b := true) g2.at_ (t_val (d_isi (d_var rfl (r2.up g12.grow)) rfl (ty_c "int") (by show kitB "int" "int" = some true; decide +kernel))) (fun _ B3 H3 g3 => ?_) (fun h => by cases h)
      have g13 := g12.trans g3
      have k1 : kitB (D.int i).ty "int" = some true := by show kitB "int" "int" = some true; decide +kernel
      have k2 : kitB (D.int i).ty "bool" = some false := by show kitB "int" "bool" = some false; decide +kernel
      exact x_ret g3.at_ (d_is (d_and (a := true) (d_callR (R := rIsInt) (da_one (d_var rfl (r1.up g13.grow))) ⟨true, .int i, rfl, rfl, k1, false, k2, rfl⟩ fun r ⟨b', d', e1, _, e3, c', e4, e5⟩ => by
        injection e1 with e1 _
        subst e1
        rw [k1] at e3; rw [k2] at e4
        cases e3; cases e4
        exact e5) fun _ => d_eqI (d_var rfl (r1.up g13.grow)) (d_var rfl (r2.up g13.grow))) (by simp)) fun v B4 H4 g4 q4 => ok' v B4 H4 (g13.trans g4) q4
    | str z =>
      refine y_skip a (t_val (d_isN (d_var rfl r2))) fun B1 H1 g1 => ?_
      refine y_skip g1.at_ (t_val (d_isi (d_var rfl (r2.up g1.grow)) rfl (ty_c "bool") (by show kitB "str" "bool" = some false; decide +kernel))) fun B2 H2 g2 => ?_
      have g12 := g1.trans g2
      refine y_skip g2.at_ (t_val (d_isi (d_var rfl (r2.up g12.grow)) rfl (ty_c "int") (by show kitB "str" "int" = some false; decide +kernel))) fun B3 H3 g3 => ?_
      have g13 := g12.trans g3
      refine y_when (b := true) g3.at_ (t_val (d_isi (d_var rfl (r2.up g13.grow)) rfl (ty_c "str") (by show kitB "str" "str" = some true; decide +kernel))) (fun _ B4 H4 g4 => ?_) (fun h => by cases h)
      have g14 := g13.trans g4
      exact x_ret g4.at_ (d_is (d_and (a := true) (d_isi (d_var rfl (r1.up g14.grow)) rfl (ty_c "str") (by show kitB "str" "str" = some true; decide +kernel)) fun _ => d_eqS (d_var rfl (r1.up g14.grow)) (d_var rfl (r2.up g14.grow))) (by simp)) fun v B5 H5 g5 q5 => ok' v B5 H5 (g14.trans g5) q5
    | nd tg l =>
      obtain ⟨ht, hl, hk⟩ := deep_nd hd
      obtain ⟨p1, p2, p3, p4, p5, p6, bt, p7, bl, p8⟩ := kit_seq ht l
      refine y_skip a (by rw [← p2]; exact t_val (d_isN (d_var rfl r2))) fun B1 H1 g1 => ?_
      refine y_skip g1.at_ (t_val (d_isi (d_var rfl (r2.up g1.grow)) p1 (ty_c "bool") p3)) fun B2 H2 g2 => ?_
      have g12 := g1.trans g2
      refine y_skip g2.at_ (t_val (d_isi (d_var rfl (r2.up g12.grow)) p1 (ty_c "int") p4)) fun B3 H3 g3 => ?_
      have g13 := g12.trans g3
      refine y_skip g3.at_ (t_val (d_isi (d_var rfl (r2.up g13.grow)) p1 (ty_c "str") p5)) fun B4 H4 g4 => ?_
      have g14 := g13.trans g4
      refine y_skip g4.at_ (t_val (d_isi (d_var rfl (r2.up g14.grow)) p1 (ty_c "dict") p6)) fun B5 H5 g5 => ?_
      have g15 := g14.trans g5
      have no2 : ∀ b : Bool, (b && !b) = false := fun b => by cases b <;> rfl
      refine y_skip g5.at_ (by rw [← no2 bt]; exact t_and (t_val (d_isi (d_var rfl (r2.up g15.grow)) p1 (ty_c "tuple") p7)) fun _ => t_not (t_val (d_isi (d_var rfl (r1.up g15.grow)) p1 (ty_c "tuple") p7))) fun B6 H6 g6 => ?_
      have g16 := g15.trans g6
      refine y_skip g6.at_ (by rw [← no2 bl]; exact t_and (t_val (d_isi (d_var rfl (r2.up g16.grow)) p1 (ty_c "list") p8)) fun _ => t_not (t_val (d_isi (d_var rfl (r1.up g16.grow)) p1 (ty_c "list") p8))) fun B7 H7 g7 => ?_
      have g17 := g16.trans g7
      refine y_skip g7.at_ (by
        have e : (!decide ((l.length : Int) = (l.length : Int))) = false := by simp
        rw [← e]; exact t_test (d_neI (d_lenQ ht (d_var rfl (r1.up g17.grow))) (d_lenQ ht (d_var rfl (r2.up g17.grow))))) fun B8 H8 g8 => ?_
      have g18 := g17.trans g8
      refine x_forRn g18 (d_lenQ ht (d_var rfl (r2.up g18.grow))) (by omega) (fun i σ' B' H' => ∃ o, σ' = [some x, some y, none, o]) 3 (fun B9 H9 g9 => ⟨none, rfl⟩) ?_ ?_
      · rintro i σ' Bl B9 H9 hi e0 g9 e1 ⟨o, rfl⟩
        have hi' : i < l.length := by omega
        have hat : atI l (i : Int) = some l[i] := atI_nat (by simp [hi'])
        have up := (g18.grow.trans e0).trans e1
        refine x_when (b := false) g9.at_ (t_not (a := true) (t_val (d_callR (R := rSame n) (ds := [l[i], l[i]]) (da_cons (d_ixQ ht (d_var rfl (r1.up up)) (d_var rfl (.int _)) hat) (da_one (d_ixQ ht (d_var rfl (r2.up up)) (d_var rfl (.int _)) hat))) ⟨l[i], rfl, hk _ (List.getElem_mem hi'), rfl⟩ fun r ⟨_, _, _, e⟩ => e))) (fun h => by cases h) (fun _ B10 H10 g10 => ?_)
        exact ⟨B10, g9.trans g10, e1.trans g10.grow, _, rfl⟩
      · rintro σ' B9 H9 g9 e9 ⟨o, rfl⟩
        have q : tRet (tC (.bl true)) { nx := fun (_ : L2.St) H' => Q V.non H', rt := Q } [some x, some y, none, o] H9 := x_ret (K := K) g9.at_ d_bl fun v B10 H10 g10 q10 => ok' v B10 H10 (g9.trans g10) q10
        exact q
theorem all_same {g : Addr} {gd : FuncData} (T : Txt K mg CB aKinds) (d__law_is_integer : Cal P w K mg base CX0 1 "_law_is_integer" ["actual"] (spR K rIsInt)) (F : Fun K "_law_same" "_law_same" s__law_same f fd) (hm : mg "_law_same" = some (.ref f)) (hk : PySem.W.keepIn K (.ref f) = true) (hb : Binds K fd ["actual", "expected"] []) :
    ∀ n : Nat, FnOk P w K mg base CX0 (n + 1) f fd ["actual", "expected"] (spR K (rSame n))
  | 0 => same_none
  | n + 1 => ok_same T d__law_is_integer ⟨f, fd, all_same (g := g) (gd := gd) T d__law_is_integer F hm hk hb n, hm, hk, hb⟩ F
end
end Fq
set_option Elab.async false
set_option linter.all false
set_option maxRecDepth 100000
set_option maxHeartbeats 4000001
namespace Fq
open PySem L2 Evl
/-! ### how deep data is -/
theorem deep_tup {n : Nat} {l : List D} (hl : l.length ≤ 1000) (h : ∀ d ∈ l, d.deepN n = true) : (D.tup l).deepN (n + 1) = true := by
  show (decide (l.length ≤ 1000) && l.all (D.deepN n)) = true
  rw [decide_eq_true hl, List.all_eq_true.mpr h]; rfl
theorem deep_strs {n : Nat} {xs : List Str} (hl : xs.length ≤ 1000) : (D.tup (xs.map D.str)).deepN (n + 2) = true := deep_tup (by rw [List.length_map]; exact hl) fun d hd => by
  obtain ⟨x, _, rfl⟩ := List.mem_map.mp hd; rfl
theorem def_shape {ns : List Str} {d : D} (h : defB ns d = true) : ∃ (x : Str) (b : Bool) (k : Str) (xs : List Str), d = .tup [.str x, .bl b, .str k, .tup (xs.map D.str)] ∧ xs.length ≤ ns.length := by
  obtain ⟨x, b, c, e, rfl, h1, h2, h3, h4, h5, h6⟩ := defB_ex h
  obtain ⟨bb, rfl⟩ : ∃ bb, b = .bl bb := by
    cases b with
    | bl bb => exact ⟨bb, rfl⟩
    | _ => cases h2
  obtain ⟨k, rfl, _⟩ := nameB_ex h3
  obtain ⟨xs, rfl, hxs⟩ := areB_ex h4
  rw [differ_strs] at h5
  have nd : xs.Nodup := nodup_of_dups xs.length xs (Nat.le_refl _) (of_decide_eq_true h5)
  exact ⟨x, bb, k, xs, rfl, List.Nodup.length_le_of_subset nd hxs⟩
theorem def_deep {ns : List Str} {d : D} {n : Nat} (hn : ns.length ≤ 1000) (h : defB ns d = true) : d.deepN (n + 3) = true := by
  obtain ⟨x, b, k, xs, rfl, hl⟩ := def_shape h
  refine deep_tup (by simp) fun d hd => ?_
  simp only [List.mem_cons, List.not_mem_nil, or_false] at hd
  rcases hd with rfl | rfl | rfl | rfl
  · rfl
  · rfl
  · rfl
  · exact deep_strs (by omega)
theorem types_deep {ts : List D} (h : typesB (.tup ts) = true) {n : Nat} : (D.tup ts).deepN (n + 6) = true := by
  obtain ⟨h5, sh⟩ := types_shape h
  refine deep_tup (by omega) fun t ht => ?_
  obtain ⟨x, fl, rfl, h6, hd⟩ := sh t ht
  refine deep_tup (by simp) fun d hd' => ?_
  simp only [List.mem_cons, List.not_mem_nil, or_false] at hd'
  rcases hd' with rfl | rfl
  · rfl
  · exact deep_tup (by omega) fun e he => def_deep (by rw [List.length_map]; omega) (hd e he)
theorem lookE_cases (j : List Key) : ∀ es : List (List Key × D), lookE es j = .non ∨ ∃ x ∈ es, lookE es j = x.2
  | [] => .inl rfl
  | x :: es => by
    show (if x.1 = j then x.2 else lookE es j) = .non ∨ ∃ y ∈ x :: es, (if x.1 = j then x.2 else lookE es j) = y.2
    by_cases e : x.1 = j
    · rw [if_pos e]; exact .inr ⟨x, .head _, rfl⟩
    · rw [if_neg e]
      rcases lookE_cases j es with h | ⟨y, hy, h⟩
      · exact .inl h
      · exact .inr ⟨y, .tail _ hy, h⟩
theorem defOf_cases {ts : List D} (h : typesB (.tup ts) = true) (tn n : Str) : defOf ts tn n = .non ∨ ∃ (x : Str) (b : Bool) (k : Str) (xs : List Str), defOf ts tn n = .tup [.str x, .bl b, .str k, .tup (xs.map D.str)] ∧ (defOf ts tn n).deepN 8 = true := by
  obtain ⟨h5, sh⟩ := types_shape h
  have e : defOf ts tn n = lookE (entriesOf ts) [.inr tn, .inr n] := look_eq _ (entriesOf ts)
  rw [e]
  rcases lookE_cases [.inr tn, .inr n] (entriesOf ts) with h | ⟨y, hy, h⟩
  · exact .inl h
  · rw [h]
    obtain ⟨t, ht, hy⟩ := List.mem_flatMap.mp hy
    obtain ⟨d, hd, rfl⟩ := List.mem_map.mp hy
    obtain ⟨x, fl, rfl, h6, hdef⟩ := sh t ht
    have q := hdef d hd
    obtain ⟨x', b, k, xs, e2, _⟩ := def_shape q
    exact .inr ⟨x', b, k, xs, e2, def_deep (n := 5) (by rw [List.length_map]; omega) q⟩
/-! ### only one answer -/
theorem tup_inj {l l' : List D} (h : D.tup l = D.tup l') : l = l' := by injection h
theorem str_inj {x y : Str} (h : D.str x = D.str y) : x = y := by injection h
theorem field_only {ts : List D} {tn n : Str} (r : D) (h : rField [.tup ts, .str tn, .str n] r) : r = defOf ts tn n := by
  obtain ⟨ts', tn', n', e, _, rfl⟩ := h
  injection e with e1 e2
  injection e2 with e3 e4
  injection e4 with e5 _
  rw [tup_inj e1, str_inj e3, str_inj e5]
theorem fieldOf_only {CS : Addr} {ts : List D} {tn n : Str} (r : D) (h : rFieldOf CS [schemaD CS ts, .str tn, .str n] r) : r = defOf ts tn n := by
  obtain ⟨ts', tn', n', e, rfl⟩ := h
  injection e with e1 e2
  injection e2 with e3 e4
  injection e4 with e5 _
  rw [schema_inj e1, str_inj e3, str_inj e5]
theorem nd_inj {tg tg' : Tag} {l l' : List D} (h : D.nd tg l = D.nd tg' l') : l = l' := by injection h
theorem place_only {tg : Tag} {ts : List D} {xs : List Str} (r : D) (h : rPlace [.tup ts, .nd tg (xs.map D.str)] r) : r = .tup (((namesOf ts).filter fun x => decide (x ∈ xs)).map D.str) := by
  obtain ⟨ts', tg', xs', e, _, _, rfl⟩ := h
  injection e with e1 e2
  injection e2 with e3 _
  rw [tup_inj e1, map_str_inj (nd_inj e3)]
theorem placeOf_only {CS : Addr} {tg : Tag} {ts : List D} {xs : List Str} (r : D) (h : rPlaceOf CS [schemaD CS ts, .nd tg (xs.map D.str)] r) : r = .tup (((namesOf ts).filter fun x => decide (x ∈ xs)).map D.str) := by
  obtain ⟨ts', tg', xs', e, _, _, rfl⟩ := h
  injection e with e1 e2
  injection e2 with e3 _
  rw [schema_inj e1, map_str_inj (nd_inj e3)]
theorem targets_only {CS : Addr} {ts : List D} {tn n : Str} {a b c : D} {xs : List Str} (hd : defOf ts tn n = .tup [a, b, c, .tup (xs.map D.str)]) (r : D) (h : rTargetsOf CS [schemaD CS ts, .str tn, .str n] r) : r = .tup (((namesOf ts).filter fun x => decide (x ∈ xs)).map D.str) := by
  obtain ⟨ts', tn', n', a', b', c', xs', e, _, hd', rfl⟩ := h
  injection e with e1 e2
  injection e2 with e3 e4
  injection e4 with e5 _
  rw [← schema_inj e1, ← str_inj e3, ← str_inj e5, hd] at hd'
  have q := tup_inj hd'
  injection q with _ q
  injection q with _ q
  injection q with _ q
  injection q with q _
  rw [← schema_inj e1, map_str_inj (tup_inj q)]
theorem root_only {CS : Addr} {t : D} {l : List D} (r : D) (h : rRoot CS [schemaD CS (t :: l)] r) : r = .str (headName t) := by
  obtain ⟨t', l', e, rfl⟩ := h
  injection e with e1 _
  have q := schema_inj e1
  injection q with q _
  rw [q]
section
variable {m : Md} {K : PySem.W.Frag} {σ : L2.St} {B H : Hp} {ta tb tc te : TE} {t : TT} {tu tz : TS} {DD : Ends} {d : D} {ds l : List D} {CB CS : Addr} {E : XK}
theorem passL {X : Cx} : Passes (CX X.prog X.w) X (fun _ _ _ => False) := fun _ _ _ _ _ _ _ ⟨_, _, _, _, _, _, _, _, _, _, _, _, h⟩ => h.elim
theorem d_make (h : EvD m K te σ B (.tup l)) (ht : (D.tup l).tameN 6 = true) (hb : typesB (.tup l) = true) : EvD m K (tMake CS (spInit K CB CS) [] E (tCons te tNil)) σ B (schemaD CS l) := fun B0 H e a Q q => h B0 H e a _ fun v d1 B1 H1 g r hd x dx hx hdx ne => by
  subst hd
  refine ⟨B1, H1, x, dx, v, _, rfl, ⟨g.sub, fun _ z => z.elim, trivial⟩, hx, hdx, ne, rfl, r, ht, fun l' el _ B2 H2 g2 r2 => ⟨rfl, ?_⟩, fun hf => by rw [hb] at hf; cases hf⟩
  rw [← tup_inj el] at r2
  exact q _ _ B2 H2 (g.trans (g2.ofStill g.at_)) r2 rfl
theorem d_same {n : Nat} (h1 : EvD m K ta σ B d) (h2 : EvD m K tb σ B d) (hd : d.deepN n = true) : EvD m K (tCall (spR K (rSame n)) [] E (tCons ta (tCons tb tNil))) σ B (.bl true) :=
  d_callR (da_cons h1 (da_one h2)) ⟨d, rfl, hd, rfl⟩ fun r ⟨_, _, _, e⟩ => e
theorem t_same {n : Nat} (h1 : EvD m K ta σ B d) (h2 : EvD m K tb σ B d) (hd : d.deepN n = true) : EvTt m (tNot (tB (tCall (spR K (rSame n)) [] E (tCons ta (tCons tb tNil))))) σ B false := t_not (a := true) (t_val (d_same h1 h2 hd))
theorem d_neg {i : Int} (h : EvD m K te σ B (.int i)) : EvD m K (tUn (rU fun i => .int (-i)) te) σ B (.int (-i)) := r_un (ta := te) (r := rU fun i => .int (-i)) (Ra := fun x => x = .int i) h fun B0 H e a x d rx hd Q q => by
  subst hd
  obtain rfl := rx.intI
  exact ⟨i, rfl, q _ _ B0 H a.gr (.int _) rfl⟩
theorem d_strI {i : Int} (h : EvD m K te σ B (.int i)) (hl : i.natAbs.log2 < 1920) : EvD m K (tCB (fun xs H Q => ∃ i, xs = [.int i] ∧ i.natAbs.log2 < 1920 ∧ Q (.str (toString i)) H) (tCons te tNil)) σ B (.str (Str.ofString (toString i))) :=
  r_cb (da_one h) fun B0 H e a vs ds r hd Q q => by
    subst hd
    obtain ⟨x, rfl, rx⟩ := r.i1
    obtain rfl := rx.intI
    exact ⟨i, rfl, hl, q _ _ B0 H a.gr (.str _) rfl⟩
end
end Fq
set_option Elab.async false
set_option linter.all false
set_option maxRecDepth 100000
set_option maxHeartbeats 8000000
namespace Fq
open PySem L2 Evl PyProof.Rows
def spLaw (K : PySem.W.Frag) : Sp := fun vs H Q _ => ∃ (a : Addr) (ns : List Int),
    vs = [.ref a] ∧ SqL K H a (ns.map V.int) ∧ ns.length ≤ 63 ∧ ∀ H', Q (.bl true) H'
section
variable {p : Addr} {K : PySem.W.Frag} {σ : L2.St} {B H : Hp} {ta tb tc te : TE} {aa : TA} {s dgt : Addr} {out : List Int} {E : XK} {xs : List Str} {v : V}
/-- some of the names, turned about, each twice -/
theorem r_turned (S : Strm B s dgt p out) (hv : σ[4]? = some (some v)) (hs : σ[1]? = some (some (.ref s))) (r : Rep K B v (.tup (xs.map D.str))) (hl : 1 ≤ xs.length ∧ xs.length ≤ 5) (h12 : σ.length = 12) (ha : EvAD (md1 p) K aa σ B [.int ((xs.length : Int) - 1), .int (-1), .int (-1)]) :
    EvR (md1 p) K (tOp rRep (tLc (iRng3 aa) (gName 11) (tTest (tOp rEq (tCall (spNext K) [] E (tCons (tVar 1) (tCons (tC (.int 2)) tNil))) (tC (.int 0)))) (tOp (rIxT K) (tVar 4) (tVar 11)) [11]) (tC (.int 2))) σ B
      (fun d => ∃ ys : List Str, d = .lst (ys.map D.str)) := fun B0 H0 e0 a0 Q q => by
  have rr := r.up e0
  refine ha B0 H0 e0 a0 _ fun zs ds B1 H1 g1 r1 hd => ?_
  subst hd
  obtain ⟨z1, z2, z3, rfl, q1, q2, q3⟩ := r1.i3
  obtain rfl := q1.intI
  obtain rfl := q2.intI
  obtain rfl := q3.intI
  refine ⟨(xs.length : Int) - 1, -1, -1, ((xs.length : Int) - 1 - -1).toNat, rfl, RgC.neg (by omega) (by omega) (by omega) (by omega), fun Dl hD => ?_⟩
  have hn : ((xs.length : Int) - 1 - -1).toNat = xs.length := by omega
  rw [hn]
  have hm : ¬ (md1 p).M Dl := Gr.notM g1.at_ hD
  have nB : B1 Dl = none := by
    cases c : B1 Dl with
    | none => rfl
    | some o => rw [g1.sub Dl o c] at hD; cases hD
  refine lc_it walk_rangeC (fun i H => ∃ B2 ys, Gr (md1 p) B1 H1 B2 H ∧ B2 Dl = none ∧ H Dl = some (.lst (ys.map V.str)) ∧ ys.length ≤ i) ⟨B1, [], Gr.ex g1.at_ (Ex.new hD), nB, upd_same, Nat.le_refl _⟩ (fun _ _ _ _ => trivial) ?_ ?_
  · rintro i x H' H'' hi ⟨B2, ys, g2, nb, hy, yl⟩ ⟨rfl, rfl⟩
    have l4 : ((wipe σ [11]).set 11 (some (V.int ((xs.length : Int) - 1 + (i : Nat) * -1))))[4]? = some (some v) := by
      show ((σ.set 11 none).set 11 _)[4]? = _
      rw [List.getElem?_set_ne (by decide), List.getElem?_set_ne (by decide)]; exact hv
    have l1 : ((wipe σ [11]).set 11 (some (V.int ((xs.length : Int) - 1 + (i : Nat) * -1))))[1]? = some (some (.ref s)) := by
      show ((σ.set 11 none).set 11 _)[1]? = _
      rw [List.getElem?_set_ne (by decide), List.getElem?_set_ne (by decide)]; exact hs
    have l11 : ((wipe σ [11]).set 11 (some (V.int ((xs.length : Int) - 1 + (i : Nat) * -1))))[11]? = some (some (V.int ((xs.length : Int) - 1 + (i : Nat) * -1))) := by
      show ((σ.set 11 none).set 11 _)[11]? = _
      rw [List.getElem?_set_self (by rw [List.length_set]; omega)]
    refine ⟨?_, ?_⟩
    · show (((σ.set 11 none).set 11 _).set 11 none : L2.St) = σ.set 11 none
      rw [List.set_set, List.set_set]
    · have up := (e0.trans g1.grow).trans g2.grow
      refine tr_test (r_eqI (r_next (S.up up) l1 d_int (by decide)) d_int) B2 H'' (Ex.refl _) g2.at_ _ fun b B3 H3 g3 => ?_
      have y3 := g3.keep Dl _ hm hy
      have nb3 := g3.off nb hy
      cases b with
      | false =>
        rw [if_neg (by decide)]
        exact ⟨B3, ys, g2.trans g3, nb3, y3, by omega⟩
      | true =>
        rw [if_pos rfl]
        have lt : xs.length - 1 - i < xs.length := by omega
        have hat : atI (xs.map D.str) ((xs.length : Int) - 1 + (i : Nat) * -1) = some (.str xs[xs.length - 1 - i]) := by
          have e : (xs.length : Int) - 1 + (i : Nat) * -1 = ((xs.length - 1 - i : Nat) : Int) := by omega
          rw [e]; exact atI_nat (by simp [lt])
        refine d_ixT (d_var l4 (rr.up ((g1.grow.trans g2.grow).trans g3.grow))) (d_var l11 (.int _)) hat B3 H3 (Ex.refl _) g3.at_ _ fun y dy B4 H4 g4 r4 e4 => ?_
        subst e4
        obtain rfl := r4.strI
        have y4 := g4.keep Dl _ hm y3
        have nb4 := g4.off nb3 y3
        exact ⟨_, y4, sz_lt (by rw [List.length_map]; omega), B4, ys ++ [_], ((g2.trans g3).trans g4).upd hm hD nb4 _, nb4, by rw [upd_same, List.map_append]; rfl, by rw [List.length_append, List.length_singleton]; omega⟩
  · rintro H' ⟨B2, ys, g2, nb, hy, yl⟩
    refine ⟨Dl, 2, _, rfl, rfl, hy, by decide, by decide, sz_of (by rw [List.length_map]; show ys.length * 2 ≤ 100000; omega), fun u hu => ?_⟩
    have e2 : (List.replicate ((2 : Int).toNat) (ys.map V.str)).flatten = (ys ++ ys).map V.str := by
      show (List.replicate 2 (ys.map V.str)).flatten = _
      simp [List.replicate]
    rw [e2]
    have g3 := (g1.trans g2).trans (Gr.alloc g2.at_ hu (.lst ((ys ++ ys).map V.str)))
    exact q _ _ _ _ g3 (.nd (t := .lst) (SqL.of upd_same) (RepA.ofStrs _)) ⟨ys ++ ys, rfl⟩
end
end Fq
set_option Elab.async false
set_option linter.all false
set_option maxRecDepth 100000
set_option maxHeartbeats 8000000
namespace Fq
open PySem L2 Evl PyProof.Rows
def user : Str := "user"
theorem key_one {i : Int} (h : 0 ≤ i ∧ i ≤ 99) : fKey [.tup [.str user, .int i]] = some (.str (user ++ Str.ofString (toString i))) := by
  have : user.length ≤ 1000 ∧ 0 ≤ i ∧ i ≤ 99 := ⟨by decide +kernel, h⟩
  show (if user.length ≤ 1000 ∧ 0 ≤ i ∧ i ≤ 99 then some (D.str (user ++ Str.ofString (toString i))) else none) = _
  rw [if_pos this]
theorem key_none : fKey [.tup [.str user, .non]] = some (.str user) := by
  show (if user.length ≤ 1000 then some (D.str user) else none) = _
  rw [if_pos (by decide +kernel)]
section
variable {m : Md} {P : Program} {w : World} {K : PySem.W.Frag} {mg : Str → Option Value} {base : Heap} {f CB CS aKinds : Addr} {fd : FuncData}
theorem ok_law (T : Txt K mg CB aKinds) (S : TxS K mg CS)
    (d__law_stream : Cal P w K mg base CX0 2 "_law_stream" ["script", "first", "count"] (spStream K)) (d__law_types : Cal P w K mg base CX0 2 "_law_types" ["stream"] (spTypes K))
    {fI pR fR fF fT fP : Addr} {fdI fdR fdF fdT fdP : FuncData} (M_Schema : Mk K CS fI) (d_Schema : FnOk P w K mg base (CX P w) 6 fI fdI ["self", "types"] (spInit K CB CS)) (b_Schema : Binds K fdI ["self", "types"] [])
    (d__law_same : Cal P w K mg base CX0 9 "_law_same" ["actual", "expected"] (spR K (rSame 8)))
    (p_Schema_root : PropOf K CS "root" pR fR) (d_Schema_root : FnOk P w K mg base CX0 1 fR fdR ["self"] (spR K (rRoot CS))) (b_Schema_root : Binds K fdR ["self"] [])
    (d__law_field : Cal P w K mg base CX0 1 "_law_field" ["types", "type_name", "name"] (spR K rField))
    (m_Schema_field_of : Meth K CS "field_of" fF) (d_Schema_field_of : FnOk P w K mg base CX0 1 fF fdF ["self", "type_name", "name"] (spR K (rFieldOf CS))) (b_Schema_field_of : Binds K fdF ["self", "type_name", "name"] [])
    (m_Schema_targets_of : Meth K CS "targets_of" fT) (d_Schema_targets_of : FnOk P w K mg base CX0 2 fT fdT ["self", "type_name", "name"] (spR K (rTargetsOf CS))) (b_Schema_targets_of : Binds K fdT ["self", "type_name", "name"] [])
    (m_Schema_place_of : Meth K CS "place_of" fP) (d_Schema_place_of : FnOk P w K mg base CX0 1 fP fdP ["self", "type_names"] (spR K (rPlaceOf CS))) (b_Schema_place_of : Binds K fdP ["self", "type_names"] [])
    (d__law_place : Cal P w K mg base CX0 1 "_law_place" ["types", "names"] (spR K rPlace))
    (d__law_next : Cal P w K mg base CX0 1 "_law_next" ["stream", "many"] (spNext K))
    (d__law_cell : Cal P w K mg base CX0 1 "_law_cell" ["script", "k"] (spR K rCell))
    (d_field_key : Cal P w K mg base CX0 1 "field_key" ["field"] (spF K fKey))
    (F : Fun K "law" "law" s_law f fd) : FnOk P w K mg base CX0 10 f fd ["script"] (spLaw K) := by
  refine F.ok sc_law (fun vs H Q E h => ?_) (fun cdv A outer s0 H vs Q E hr h => ?_)
  · obtain ⟨a, ns, rfl, _⟩ := h; rfl
  · obtain ⟨aS, ns, rfl, hS, h63, ok⟩ := h
    refine ⟨_, pss_cons (ps_set (i := 1) sc_law.nd rfl (Or.inr rfl) (pe_cal d__law_stream (hr.mono (by omega)) rfl pass0 (pa_cons (pv 0) (pa_cons pe_int (pa_cons pe_int pa_nil)))))
  (pss_cons (ps_set (i := 2) sc_law.nd rfl (Or.inl rfl) (pe_cal d__law_types (hr.mono (by omega)) rfl pass0 (pa_cons (pv 1) pa_nil)))
  (pss_cons (ps_set (i := 3) sc_law.nd rfl (Or.inl rfl) (pe_make M_Schema d_Schema (hr.mono (by omega)) rfl S.g_Schema b_Schema .nil passL (pa_cons (pv 2) pa_nil)))
  (pss_cons (ps_set (i := 4) sc_law.nd rfl (Or.inr rfl) (pe_callTy call_tuple_of (by rfl) T.n_tuple (by decide +kernel : bootBuiltins "tuple" = some (.type "tuple")) (pa_cons (pe_lc (own := [(("name" : Str), 5), (("fields" : Str), 10)]) (g := gTup K 2 (gCons (gName 5) (gCons (gName 10) gNil))) (tt := tYes) rfl sc_law.nd (pi_tup (pv 2)) (blkOk_by (own := [(("name" : Str), 5), (("fields" : Str), 10)]) (N := ["script", "stream", "types", "schema", "names", "name", "word", "definition", "turned", "number", "fields", "k"]) (sc := defScope s_law) (by decide +kernel)) (fun _ _ _ _ _ => (pg_tup rfl (pgs_cons (pg_name (i := 5) sc_law.nd rfl (Or.inl rfl)) (pgs_cons (pg_name (i := 10) sc_law.nd rfl (Or.inl rfl)) pgs_nil)))) (fun _ _ _ _ _ => pts_nil) (fun _ _ _ _ _ => (pv 5))) pa_nil)))
  (pss_cons (ps_if (PW.pt (pw_or (pt_not (pt_val (pe_cal d__law_same (hr.mono (by omega)) rfl pass0 (pa_cons (pe_fld (pv 3) rfl) (pa_cons (pv 2) pa_nil))))) (pw_or (pt_not (pt_val (pe_cal d__law_same (hr.mono (by omega)) rfl pass0 (pa_cons (pe_fld (pv 3) rfl) (pa_cons (pv 4) pa_nil))))) (pw_or1 (pt_not (pt_val (pe_cal d__law_same (hr.mono (by omega)) rfl pass0 (pa_cons (pe_prop (pv 3) S.cl_Schema p_Schema_root d_Schema_root (hr.mono (by omega)) b_Schema_root .nil pass0 rfl) (pa_cons pe_str pa_nil))))))))) (pss_one (ps_ret pe_bl)) pss_nil)
  (pss_cons (ps_for PassesOwn.never rfl (pi_tup (pv 4)) (pg_name (i := 5) sc_law.nd rfl (Or.inl rfl))
    (pss_one (ps_for PassesOwn.never rfl (pi_list (pe_lst (pa_cons pe_str (pa_cons pe_str (pa_cons pe_str (pa_cons pe_str (pa_cons pe_str (pa_cons pe_str (pa_cons pe_str pa_nil))))))))) (pg_name (i := 6) sc_law.nd rfl (Or.inl rfl))
      (pss_cons (ps_set (i := 7) sc_law.nd rfl (Or.inl rfl) (pe_cal d__law_field (hr.mono (by omega)) rfl pass0 (pa_cons (pv 2) (pa_cons (pv 5) (pa_cons (pv 6) pa_nil)))))
      (pss_cons (ps_if (pt_not (pt_val (pe_cal d__law_same (hr.mono (by omega)) rfl pass0 (pa_cons (pe_meth (pv 3) S.cl_Schema m_Schema_field_of d_Schema_field_of (hr.mono (by omega)) b_Schema_field_of .nil pass0 (pa_cons (pv 5) (pa_cons (pv 6) pa_nil))) (pa_cons (pv 7) pa_nil))))) (pss_one (ps_ret pe_bl)) pss_nil)
      (pss_one (ps_if (PW.pt (pw_and (pt_cmp (pc_notN (pv 7))) (pw_and1 (pt_not (pt_val (pe_cal d__law_same (hr.mono (by omega)) rfl pass0 (pa_cons (pe_meth (pv 3) S.cl_Schema m_Schema_targets_of d_Schema_targets_of (hr.mono (by omega)) b_Schema_targets_of .nil pass0 (pa_cons (pv 5) (pa_cons (pv 6) pa_nil))) (pa_cons (pe_cal d__law_place (hr.mono (by omega)) rfl pass0 (pa_cons (pv 2) (pa_cons (pe_ix ix_tup (pv 7) pe_int (fun _ _ => rfl)) pa_nil))) pa_nil)))))))) (pss_one (ps_ret pe_bl)) pss_nil)))))))
  (pss_cons (ps_set (i := 8) sc_law.nd rfl (Or.inl rfl) (pe_op op_rep (pe_lc (own := [(("k" : Str), 11)]) (g := gName 11) rfl sc_law.nd (pi_range3 (by rfl) T.n_range (pa_cons (pe_op op_sub (pe_callB call_len_seq (by rfl) T.n_len PySem.boot_len (pa_cons (pv 4) pa_nil)) pe_int) (pa_cons (pe_un un_neg pe_int) (pa_cons (pe_un un_neg pe_int) pa_nil)))) (blkOk_by (own := [(("k" : Str), 11)]) (N := ["script", "stream", "types", "schema", "names", "name", "word", "definition", "turned", "number", "fields", "k"]) (sc := defScope s_law) (by decide +kernel)) (fun _ _ _ _ _ => (pg_name (i := 11) sc_law.nd rfl (Or.inl rfl))) (fun _ _ _ _ _ => pts_one (pt_cmpR op_eq (pe_cal d__law_next (hr.mono (by omega)) rfl pass0 (pa_cons (pv 1) (pa_cons pe_int pa_nil))) pe_int (nomark _))) (fun _ _ _ _ _ => (pe_ix (ix_tup : IxR _ (rIxT K)) (pv 4) (pv 11) (fun _ _ => rfl)))) pe_int))
  (pss_cons (ps_if (PW.pt (pw_or (pt_not (pt_val (pe_cal d__law_same (hr.mono (by omega)) rfl pass0 (pa_cons (pe_meth (pv 3) S.cl_Schema m_Schema_place_of d_Schema_place_of (hr.mono (by omega)) b_Schema_place_of .nil pass0 (pa_cons (pv 8) pa_nil)) (pa_cons (pe_cal d__law_place (hr.mono (by omega)) rfl pass0 (pa_cons (pv 2) (pa_cons (pv 8) pa_nil))) pa_nil))))) (pw_or1 (pt_not (pt_val (pe_cal d__law_same (hr.mono (by omega)) rfl pass0 (pa_cons (pe_meth (pv 3) S.cl_Schema m_Schema_place_of d_Schema_place_of (hr.mono (by omega)) b_Schema_place_of .nil pass0 (pa_cons (pe_lst pa_nil) pa_nil)) (pa_cons (pe_tup pa_nil) pa_nil)))))))) (pss_one (ps_ret pe_bl)) pss_nil)
  (pss_cons (ps_set (i := 9) sc_law.nd rfl (Or.inl rfl) (pe_op op_mod (pe_cal d__law_cell (hr.mono (by omega)) rfl pass0 (pa_cons (pv 0) (pa_cons pe_int pa_nil))) pe_int))
  (pss_one (ps_ret (pe_and (pe_cal d__law_same (hr.mono (by omega)) rfl pass0 (pa_cons (pe_cal d_field_key (hr.mono (by omega)) rfl pass0 (pa_cons (pe_tup (pa_cons pe_str (pa_cons (pv 9) pa_nil))) pa_nil)) (pa_cons (pe_op op_add_str pe_str (pe_callTy call_str_int (by rfl) T.n_str (by decide +kernel : bootBuiltins "str" = some (.type "str")) (pa_cons (pv 9) pa_nil))) pa_nil))) (pe_one (pe_cal d__law_same (hr.mono (by omega)) rfl pass0 (pa_cons (pe_cal d_field_key (hr.mono (by omega)) rfl pass0 (pa_cons (pe_tup (pa_cons pe_str (pa_cons pe_non pa_nil))) pa_nil)) (pa_cons pe_str pa_nil))))))))))))))), ?_⟩
    -- the stream
    refine ⟨.ref aS, rfl, ?_⟩
    refine ⟨H, aS, ns, 0, 12, rfl, Ex.refl H, hS, by omega, by omega, by omega, fun out s dgt p B1 H1 g1 S1 nb np h1 => ?_⟩
    have a1 : At (md1 p) B1 H1 := ⟨g1.sub, fun a e => by rw [show a = p from e]; exact nb, 0, Int.le_refl 0, h1⟩
    have rS : Rep K B1 (.ref aS) (.lst (ns.map D.int)) := .nd (t := .lst) (ex_l g1.grow hS) (RepA.ofInts ns)
    -- the types
    refine ⟨_, rfl, B1, s, dgt, p, out, rfl, a1, S1, fun ts v2 B2 H2 g2 r2 gt => ?_⟩
    obtain ⟨h5, sh⟩ := types_shape gt.ok
    -- the schema
    refine y_asg g2.at_ (d_make (d_var rfl r2) gt.tame gt.ok) fun v3 B3 H3 g3 r3 => ?_
    -- the names
    refine y_asg g3.at_ (d_tupL (d_is (d' := .lst ((namesOf ts).map D.str)) (d_lcT (fun _ => true) (fun d => .str (headName d)) (d_var rfl (r2.up g3.grow)) (by omega) fun d hd v B' e' rv => ?_) ?_)) fun v4 B4 H4 g4 r4 => ?_
    · obtain ⟨tx, fl, rfl, _⟩ := sh d hd
      obtain ⟨ta, xs, rfl, st, rs⟩ := rv.tupI
      obtain ⟨xa, xb, rfl, ra, rb⟩ := rs.i2
      exact ⟨[some (.ref aS), some (.ref s), some v2, some v3, none, some xa, none, none, none, none, some xb, none], rfl, fun H Q e q => ⟨ta, _, rfl, ex_t e st, rfl, xa, [xb], rfl, xb, [], rfl, rfl, q⟩, t_yes, fun _ => d_var rfl ra⟩
    · rw [filter_yes, namesOf, List.map_map]; rfl
    have g24 := g3.trans g4
    have r24 := r2.up g24.grow
    have r34 := r3.up g4.grow
    obtain ⟨w0, hw0⟩ := gt.first
    obtain ⟨t0, ts0, ets, eh0⟩ : ∃ t0 ts0, ts = t0 :: ts0 ∧ headName t0 = "Query" := by
      cases ts with
      | nil => cases hw0
      | cons t0 ts0 =>
        rw [List.map_cons] at hw0
        injection hw0 with q _
        exact ⟨t0, ts0, rfl, q⟩
    have nlen : 1 ≤ (namesOf ts).length ∧ (namesOf ts).length ≤ 5 := by
      rw [namesOf, List.length_map, ets]
      have : (t0 :: ts0).length ≤ 5 := by rw [← ets]; exact h5
      simp at this ⊢; omega
    have S4 := S1.up (g2.grow.trans g24.grow)
    -- types, names, root
    refine y_skip g4.at_ (t_or (a := false) (b := false || false) (t_same (d_fld (d_var rfl r34) rfl S.cl_Schema S.n_types) (d_var rfl r24) (types_deep gt.ok (n := 2))) fun _ => t_or (a := false) (b := false) (t_same (d_fld (d_var rfl r34) rfl S.cl_Schema S.n_names) (d_var rfl r4) (deep_strs (n := 6) (xs := namesOf ts) (by omega))) fun _ =>
      t_same (d := .str "Query") (d_propR (C := CS) (fs := ["types", "names", "_definitions"]) (l := [.tup ts, .tup ((ts.map headName).map D.str), .nd (.dt ((entriesOf ts).map (fun x : List Key × D => x.1))) ((entriesOf ts).map (fun x : List Key × D => x.2))]) (d_var rfl r34) (by rw [ets]; exact ⟨t0, ts0, rfl, by rw [eh0]⟩) (fun r hr => by rw [ets] at hr; rw [← eh0]; exact root_only r hr)) d_str rfl) fun B5 H5 g5 => ?_
    have g45 := g4.trans g5
    -- the names, one by one
    refine x_forT g5.at_.gr (d_var rfl (r4.up g5.grow)) (fun i σ' B' H' => ∃ o5 o6 o7, σ' = [some (.ref aS), some (.ref s), some v2, some v3, some v4, o5, o6, o7, none, none, none, none]) (fun B6 H6 g6 => ⟨none, none, none, rfl⟩) ?_ ?_
    · rintro i dn vn σ' Bl B6 H6 hi e0 g6 e1 rn ⟨o5, o6, o7, rfl⟩
      obtain ⟨tn, _, rfl⟩ : ∃ w, (namesOf ts)[i]? = some w ∧ dn = .str w := by
        rw [List.getElem?_map] at hi
        cases z : (namesOf ts)[i]? with
        | none => rw [z] at hi; cases hi
        | some w => rw [z] at hi; exact ⟨w, rfl, (Option.some.inj hi).symm⟩
      show tFor _ _ _ _ _ H6
      refine x_forL g6 (d_lst (ds := (fieldWords ++ [("none" : Str)]).map D.str) (da_cons d_str (da_cons d_str (da_cons d_str (da_cons d_str (da_cons d_str (da_cons d_str (da_one d_str))))))) (by decide)) (fun j σ' B' H' => ∃ o6 o7, σ' = [some (.ref aS), some (.ref s), some v2, some v3, some v4, some vn, o6, o7, none, none, none, none]) (fun B7 H7 g7 => ⟨o6, o7, rfl⟩) ?_ ?_
      · rintro j dw vw σ' Bm B7 H7 hj e2 g7 e3 rw_ ⟨o6, o7, rfl⟩
        obtain ⟨n, _, rfl⟩ : ∃ w, (fieldWords ++ [("none" : Str)])[j]? = some w ∧ dw = .str w := by
          rw [List.getElem?_map] at hj
          cases z : (fieldWords ++ [("none" : Str)])[j]? with
          | none => rw [z] at hj; cases hj
          | some w => rw [z] at hj; exact ⟨w, rfl, (Option.some.inj hj).symm⟩
        have up57 : Ex B5 B7 := ((e0.trans e1).trans e2).trans e3
        have r27 := r24.up (g5.grow.trans up57)
        have r37 := r34.up (g5.grow.trans up57)
        have rn7 := rn.up (e2.trans e3)
        show tSeq (tAsg _ (gName 7)) _ _ _ H7
        refine y_asg g7.at_ (d_callR (R := rField) (ds := [.tup ts, .str tn, .str n]) (da_cons (d_var rfl r27) (da_cons (d_var rfl rn7) (da_one (d_var rfl rw_)))) ⟨ts, tn, n, rfl, gt.ok, rfl⟩ field_only) fun v7 B8 H8 g8 r7 => ?_
        have deep : (defOf ts tn n).deepN 8 = true := by
          rcases defOf_cases gt.ok tn n with h | ⟨x, b, k, xs, _, h⟩
          · rw [h]; rfl
          · exact h
        refine y_skip g8.at_ (t_same (d_methR (R := rFieldOf CS) (ds := [.str tn, .str n]) (d_var rfl (r37.up g8.grow)) (by decide +kernel) (da_cons (d_var rfl (rn7.up g8.grow)) (da_one (d_var rfl (rw_.up g8.grow)))) ⟨ts, tn, n, rfl, rfl⟩ fieldOf_only) (d_var rfl r7) deep) fun B9 H9 g9 => ?_
        have up79 : Ex B7 B9 := g8.grow.trans g9.grow
        have fin : ∀ B10 H10, Gr (md1 p) B9 H9 B10 H10 → Nx (md1 p) B5 H5 Bm (fun σ' B' H' => ∃ o6 o7, σ' = [some (.ref aS), some (.ref s), some v2, some v3, some v4, some vn, o6, o7, none, none, none, none]) [some (.ref aS), some (.ref s), some v2, some v3, some v4, some vn, some vw, some v7, none, none, none, none] H10 := fun B10 H10 g10 =>
          ⟨B10, ((g7.trans g8).trans g9).trans g10, (e3.trans up79).trans g10.grow, _, _, rfl⟩
        rcases defOf_cases gt.ok tn n with h | ⟨x, b, k, xs, h, _⟩
        · refine x_when (b := false) g9.at_ (t_and (a := false) (b := false) (t_val (d_is (d_notN (d_var rfl (r7.up g9.grow))) (by rw [h]; rfl))) fun h => by cases h) (fun h => by cases h) fun _ B10 H10 g10 => fin B10 H10 g10
        · refine x_when (b := false) g9.at_ (t_and (a := true) (b := false) (t_val (d_is (d_notN (d_var rfl (r7.up g9.grow))) (by rw [h]; rfl))) fun _ => ?_) (fun h => by cases h) fun _ B10 H10 g10 => fin B10 H10 g10
          refine t_same (n := 8) (d := .tup (((namesOf ts).filter fun x => decide (x ∈ xs)).map D.str)) (d_methR (R := rTargetsOf CS) (ds := [.str tn, .str n]) (d_var rfl (r37.up up79)) (by decide +kernel) (da_cons (d_var rfl (rn7.up up79)) (da_one (d_var rfl (rw_.up up79)))) ⟨ts, tn, n, _, _, _, xs, rfl, h5, h, rfl⟩ (targets_only h)) (d_callR (R := rPlace) (ds := [.tup ts, .tup (xs.map D.str)]) (da_cons (d_var rfl (r27.up up79)) (da_one (d_ixT (d_is (d_var rfl (r7.up g9.grow)) h) d_int (atI_nat (j := 3) rfl)))) ⟨ts, .tup, xs, rfl, .inl rfl, gt.ok, rfl⟩ place_only) (deep_strs (n := 6) ?_)
          exact Nat.le_trans (List.length_filter_le _ _) (by omega)
      · rintro σ' B7 H7 g7 e3 ⟨o6, o7, rfl⟩
        exact ⟨B7, g7, e1.trans e3, _, _, _, rfl⟩
    · rintro σ' B6 H6 g6 e6 ⟨o5, o6, o7, rfl⟩
      have up46 := g5.grow.trans g6.grow
      have r46 := r4.up up46
      have r26 := r24.up up46
      have r36 := r34.up up46
      have S6 := S4.up up46
      -- turned about
      dsimp only
      refine yr_asg (K := K) g6.at_ (r_turned (σ := [some (.ref aS), some (.ref s), some v2, some v3, some v4, o5, o6, o7, none, none, none, none]) S6 rfl rfl r46 nlen rfl ?_) fun v8 d8 B7 H7 g7 r8 ⟨ys, e8⟩ => ?_
      · have el : (((namesOf ts).map D.str).length : Int) = ((namesOf ts).length : Int) := by rw [List.length_map]
        rw [← el]
        exact da_cons (d_op (g := fun i j => i - j) (d_lenT (d_var rfl r46)) d_int) (da_cons (d_neg d_int) (da_one (d_neg d_int)))
      subst e8
      have r27 := r26.up g7.grow
      have r37 := r36.up g7.grow
      have fl : ∀ f : Str → Bool, ((namesOf ts).filter f).length ≤ 1000 := fun f => Nat.le_trans (List.length_filter_le _ _) (by omega)
      refine y_skip g7.at_ (t_or (a := false) (b := false) (t_same (n := 8) (d := .tup (((namesOf ts).filter fun x => decide (x ∈ ys)).map D.str)) (d_methR (R := rPlaceOf CS) (ds := [.lst (ys.map D.str)]) (d_var rfl r37) (by decide +kernel) (da_one (d_var rfl r8)) ⟨ts, .lst, ys, rfl, .inr rfl, h5, rfl⟩ placeOf_only) (d_callR (R := rPlace) (ds := [.tup ts, .lst (ys.map D.str)]) (da_cons (d_var rfl r27) (da_one (d_var rfl r8))) ⟨ts, .lst, ys, rfl, .inr rfl, gt.ok, rfl⟩ place_only) (deep_strs (n := 6) (fl _))) fun _ =>
        t_same (n := 8) (d := .tup []) (d_is (d := .tup (((namesOf ts).filter fun x => decide (x ∈ ([] : List Str))).map D.str)) (d_methR (R := rPlaceOf CS) (ds := [.lst (([] : List Str).map D.str)]) (d_var rfl r37) (by decide +kernel) (da_one (d_lst da_nil (by decide))) ⟨ts, .lst, [], rfl, .inr rfl, h5, rfl⟩ placeOf_only) (by simp)) (d_tup da_nil (by decide)) rfl) fun B8 H8 g8 => ?_
      -- a number
      have rS8 := rS.up ((g2.grow.trans g24.grow).trans (up46.trans (g7.grow.trans g8.grow)))
      refine yr_asg (K := K) g8.at_ (r_opI (P1 := fun _ => True) (P2 := fun j => j = 100) (P3 := fun i => 0 ≤ i ∧ i ≤ 99) (EvR.weak (r_callR (R := rCell) (ds := [.lst (ns.map D.int), .int 20]) (da_cons (d_var rfl rS8) (da_one d_int)) ⟨.int 0, ns, 20, rfl, by omega, 0, rfl⟩) fun d ⟨_, _, _, _, n, en⟩ => ⟨n, en, trivial⟩) (r_i d_int rfl) fun i j _ hj => ⟨by subst hj; decide, by
        subst hj
        have h1 := Int.emod_nonneg i (show (100 : Int) ≠ 0 by decide)
        have h2 := Int.emod_lt_of_pos i (show (0 : Int) < 100 by decide)
        exact ⟨h1, by omega⟩⟩) fun v9 d9 B9 H9 g9 r9 ⟨n, e9, hn⟩ => ?_
      subst e9
      have small := num_small hn.1 hn.2
      have hlog : n.natAbs.log2 < 1920 := by
        have : n.natAbs.log2 ≤ n.natAbs := Nat.log2_le_self _
        omega
      have ul : user.length = 4 := by decide +kernel
      exact x_ret g9.at_ (d_and (a := true) (b := true) (d_same (n := 8) (d := .str (user ++ Str.ofString (toString n))) (d_call (F := fKey) (da_one (d_tup (da_cons d_str (da_one (d_var rfl r9))) (by simp))) (key_one hn)) (d_addS d_str (d_strI (d_var rfl r9) hlog) (by show user.length + _ ≤ _; omega)) rfl) fun _ =>
        d_same (n := 8) (d := .str user) (d_call (F := fKey) (da_one (d_tup (da_cons d_str (da_one d_non)) (by decide))) key_none) d_str rfl) fun v B10 H10 g10 r10 => by
          obtain rfl := r10.blI
          exact ok _
end
end Fq
set_option Elab.async false
set_option linter.all false
set_option maxRecDepth 100000
set_option maxHeartbeats 4000001
namespace Fq
open PySem L2 Evl
/-! ### the defs as they stand at the top -/
def BindOk (x q : Str) (st : Stmt) (ps : List Str) : Prop := ∀ (kV doc pm : Value) (an : Option Addr) (cdv ct : Value) (us : List Value), us.length = ps.length → bindArgs (PySem.W.fnOf x q (defArgs st) (defBody st) (defScope st) .none kV doc pm an cdv ct) ⟨us, []⟩ = pure (ps.zip us)
structure DefG (K : PySem.W.Frag) (mg : Str → Option Value) (x : Str) (st : Stmt) (ps : List Str) : Prop where
  ex : ∃ f fd, mg x = some (.ref f) ∧ Fun K x x st f fd ∧ Binds K fd ps []
structure DefM (K : PySem.W.Frag) (C : Addr) (m q : Str) (st : Stmt) (ps : List Str) : Prop where
  ex : ∃ f fd, Meth K C m f ∧ Fun K m q st f fd ∧ Binds K fd ps []
section
variable {K : PySem.W.Frag} {h : Heap} {mg : Str → Option Value} {x m q : Str} {st : Stmt} {ps : List Str} {f C : Addr} {oc kV doc pm cdv ct : Value} {od an : Option Addr} {osl : Array (Option Value)}
theorem DefG.of (X : K.In h) (G : h.Ns mainGlobals mg) (hb : BindOk x x st ps) (a : PySem.W.nsIn K mainGlobals x = some (some (.ref f)))
    (l : K.lookup f = some ⟨oc, od, .func (PySem.W.fnOf x x (defArgs st) (defBody st) (defScope st) .none kV doc pm an cdv ct), osl⟩) (c : PySem.W.codeIn K cdv x = true) (k : PySem.W.keepIn K (.ref f) = true) : DefG K mg x st ps :=
  ⟨f, _, PySem.W.mg_of X G a, fun_mk l c k, (fun_mk l c k).binds hb⟩
theorem DefM.of (hb : BindOk m q st ps) (a : PySem.W.findIn K (.ref C) m = some (some (.ref f))) (i : PySem.W.isFn K (.ref f) = true)
    (l : K.lookup f = some ⟨oc, od, .func (PySem.W.fnOf m q (defArgs st) (defBody st) (defScope st) .none kV doc pm an cdv ct), osl⟩) (c : PySem.W.codeIn K cdv q = true) (k : PySem.W.keepIn K (.ref f) = true) : DefM K C m q st ps :=
  ⟨f, _, ⟨a, i, k⟩, fun_mk l c k, (fun_mk l c k).binds hb⟩
end
/-- each def of the text, at the top -/
structure Defs (K : PySem.W.Frag) (mg : Str → Option Value) (CS : Addr) : Prop where
  d__demand : DefG K mg "_demand" s__demand ["holds", "message"]
  d__is_short_text : DefG K mg "_is_short_text" s__is_short_text ["name"]
  d__has_only : DefG K mg "_has_only" s__has_only ["text", "letters"]
  d__is_field_name : DefG K mg "_is_field_name" s__is_field_name ["name"]
  d__is_type_name : DefG K mg "_is_type_name" s__is_type_name ["name"]
  d__are_names : DefG K mg "_are_names" s__are_names ["targets", "type_names"]
  d__all_differ : DefG K mg "_all_differ" s__all_differ ["names"]
  d__check_definition : DefG K mg "_check_definition" s__check_definition ["type_name", "definition", "type_names"]
  d__check_fields : DefG K mg "_check_fields" s__check_fields ["type_name", "fields", "type_names"]
  d__check_pair : DefG K mg "_check_pair" s__check_pair ["pair"]
  d__check_types : DefG K mg "_check_types" s__check_types ["types"]
  d_field_key : DefG K mg "field_key" s_field_key ["field"]
  d__law_cell : DefG K mg "_law_cell" s__law_cell ["script", "k"]
  d__law_draws : DefG K mg "_law_draws" s__law_draws ["cell", "count"]
  d__law_stream : DefG K mg "_law_stream" s__law_stream ["script", "first", "count"]
  d__law_next : DefG K mg "_law_next" s__law_next ["stream", "many"]
  d__law_types : DefG K mg "_law_types" s__law_types ["stream"]
  d__law_field : DefG K mg "_law_field" s__law_field ["types", "type_name", "name"]
  d__law_place : DefG K mg "_law_place" s__law_place ["types", "names"]
  d__law_is_integer : DefG K mg "_law_is_integer" s__law_is_integer ["actual"]
  d__law_same : DefG K mg "_law_same" s__law_same ["actual", "expected"]
  d_law : DefG K mg "law" s_law ["script"]
  m_init : DefM K CS "__init__" "Schema.__init__" s_Schema_init ["self", "types"]
  m_field_of : DefM K CS "field_of" "Schema.field_of" s_Schema_field_of ["self", "type_name", "name"]
  m_place_of : DefM K CS "place_of" "Schema.place_of" s_Schema_place_of ["self", "type_names"]
  m_targets_of : DefM K CS "targets_of" "Schema.targets_of" s_Schema_targets_of ["self", "type_name", "name"]
  p_root : ∃ pR f fd, PropOf K CS "root" pR f ∧ Fun K "root" "Schema.root" s_Schema_root f fd ∧ Binds K fd ["self"] []
  mks : PySem.W.makesIn K CS = true
  kc : PySem.W.keepIn K (.ref CS) = true
section
variable {P : Program} {w : World} {K : PySem.W.Frag} {mg : Str → Option Value} {base : Heap} {CB CS aKinds : Addr}
theorem DefG.cal {CX : CXT} {k : Nat} {x : Str} {st : Stmt} {ps : List Str} {sp : Sp} (D : DefG K mg x st ps) (ok : ∀ {f : Addr} {fd : FuncData}, Fun K x x st f fd → FnOk P w K mg base CX k f fd ps sp) : Cal P w K mg base CX k x ps sp := by
  obtain ⟨f, fd, e, F, b⟩ := D.ex
  exact ⟨f, fd, ok F, e, F.kp, b⟩
theorem whole {fa : Addr} (T : Txt K mg CB aKinds) (S : TxS K mg CS) (D : Defs K mg CS) (hfa : mg "law" = some (.ref fa)) :
    ∃ fd : FuncData, (∀ (s : Shared) (v : Value), BindsTo s fd ⟨[v], []⟩ [("script", v)]) ∧ ∀ base : Heap, FnOk P w K mg base CX0 10 fa fd ["script"] (spLaw K) := by
  obtain ⟨f, fd, e, F, b⟩ := D.d_law.ex
  have e' := hfa.symm.trans e
  cases e'
  refine ⟨fd, fun s v => ?_, fun base => ?_⟩
  · obtain ⟨oc, od, kV, doc, pm, an, cdv, ct, osl, rfl, _⟩ := F.ex
    exact .of_eq rfl
  have c_demand := D.d__demand.cal (P := P) (w := w) (base := base) (ok_demand T)
  have c_short := D.d__is_short_text.cal (P := P) (w := w) (base := base) (ok_short T)
  have c_only := D.d__has_only.cal (P := P) (w := w) (base := base) (ok_only T)
  have c_fieldName := D.d__is_field_name.cal (ok_fieldName T c_short c_only)
  have c_typeName := D.d__is_type_name.cal (ok_typeName T c_short c_only)
  have c_are := D.d__are_names.cal (P := P) (w := w) (base := base) (ok_are T)
  have c_differ := D.d__all_differ.cal (P := P) (w := w) (base := base) (ok_differT T)
  have c_def := D.d__check_definition.cal (ok_def T c_demand c_fieldName c_are c_differ)
  have c_fields := D.d__check_fields.cal (ok_fields T c_demand c_differ c_def)
  have c_pair := D.d__check_pair.cal (ok_pair T c_demand c_typeName)
  have c_types := D.d__check_types.cal (ok_types T c_demand c_differ c_pair c_fields)
  have c_key := D.d_field_key.cal (P := P) (w := w) (base := base) ok_key
  have c_cell := D.d__law_cell.cal (P := P) (w := w) (base := base) (ok_cell T)
  have c_draws := D.d__law_draws.cal (P := P) (w := w) (base := base) (ok_draws T)
  have c_stream := D.d__law_stream.cal (ok_stream T c_cell c_draws)
  have c_next := D.d__law_next.cal (P := P) (w := w) (base := base) (ok_next T)
  have c_lawTypes := D.d__law_types.cal (ok_lawTypes T c_next)
  have c_lawField := D.d__law_field.cal (P := P) (w := w) (base := base) ok_lawField
  have c_lawPlace := D.d__law_place.cal (P := P) (w := w) (base := base) (ok_lawPlace T)
  have c_isInt := D.d__law_is_integer.cal (P := P) (w := w) (base := base) (ok_isInt T)
  have c_same : Cal P w K mg base CX0 9 "_law_same" ["actual", "expected"] (spR K (rSame 8)) := by
    obtain ⟨f, fd, e, F, b⟩ := D.d__law_same.ex
    exact ⟨f, fd, all_same (g := f) (gd := fd) T c_isInt F e F.kp b 8, e, F.kp, b⟩
  obtain ⟨fI, fdI, MI, FI, bI⟩ := D.m_init.ex
  obtain ⟨fF, fdF, MF, FF, bF⟩ := D.m_field_of.ex
  obtain ⟨fP, fdP, MP, FP, bP⟩ := D.m_place_of.ex
  obtain ⟨fT, fdT, MT, FT, bT⟩ := D.m_targets_of.ex
  obtain ⟨pR, fR, fdR, PR, FR, bR⟩ := D.p_root
  have k_F := ok_fieldOf (P := P) (w := w) (mg := mg) (base := base) S FF
  have k_P := ok_placeOf (P := P) (w := w) (mg := mg) (base := base) T S FP
  exact ok_law T S c_stream c_lawTypes ⟨D.mks, MI.at_, MI.fn, D.kc⟩ (ok_init T S c_types FI) bI c_same PR (ok_root S FR) bR c_lawField MF k_F bF MT (ok_targetsOf T S MF k_F bF MP k_P bP FT) bT MP k_P bP c_lawPlace c_next c_cell c_key F
end
end Fq
set_option Elab.async false
set_option linter.all false
set_option maxRecDepth 100000
set_option maxHeartbeats 4000001
namespace Fq
open PySem L2 Evl
theorem bo_s__demand : BindOk "_demand" "_demand" s__demand ["holds", "message"] := fun _ _ _ _ _ _ us hl => match us, hl with | [_, _], _ => rfl
theorem bo_s__is_short_text : BindOk "_is_short_text" "_is_short_text" s__is_short_text ["name"] := fun _ _ _ _ _ _ us hl => match us, hl with | [_], _ => rfl
theorem bo_s__has_only : BindOk "_has_only" "_has_only" s__has_only ["text", "letters"] := fun _ _ _ _ _ _ us hl => match us, hl with | [_, _], _ => rfl
theorem bo_s__is_field_name : BindOk "_is_field_name" "_is_field_name" s__is_field_name ["name"] := fun _ _ _ _ _ _ us hl => match us, hl with | [_], _ => rfl
theorem bo_s__is_type_name : BindOk "_is_type_name" "_is_type_name" s__is_type_name ["name"] := fun _ _ _ _ _ _ us hl => match us, hl with | [_], _ => rfl
theorem bo_s__are_names : BindOk "_are_names" "_are_names" s__are_names ["targets", "type_names"] := fun _ _ _ _ _ _ us hl => match us, hl with | [_, _], _ => rfl
theorem bo_s__all_differ : BindOk "_all_differ" "_all_differ" s__all_differ ["names"] := fun _ _ _ _ _ _ us hl => match us, hl with | [_], _ => rfl
theorem bo_s__check_definition : BindOk "_check_definition" "_check_definition" s__check_definition ["type_name", "definition", "type_names"] := fun _ _ _ _ _ _ us hl => match us, hl with | [_, _, _], _ => rfl
theorem bo_s__check_fields : BindOk "_check_fields" "_check_fields" s__check_fields ["type_name", "fields", "type_names"] := fun _ _ _ _ _ _ us hl => match us, hl with | [_, _, _], _ => rfl
theorem bo_s__check_pair : BindOk "_check_pair" "_check_pair" s__check_pair ["pair"] := fun _ _ _ _ _ _ us hl => match us, hl with | [_], _ => rfl
theorem bo_s__check_types : BindOk "_check_types" "_check_types" s__check_types ["types"] := fun _ _ _ _ _ _ us hl => match us, hl with | [_], _ => rfl
theorem bo_s_field_key : BindOk "field_key" "field_key" s_field_key ["field"] := fun _ _ _ _ _ _ us hl => match us, hl with | [_], _ => rfl
theorem bo_s__law_cell : BindOk "_law_cell" "_law_cell" s__law_cell ["script", "k"] := fun _ _ _ _ _ _ us hl => match us, hl with | [_, _], _ => rfl
theorem bo_s__law_draws : BindOk "_law_draws" "_law_draws" s__law_draws ["cell", "count"] := fun _ _ _ _ _ _ us hl => match us, hl with | [_, _], _ => rfl
theorem bo_s__law_stream : BindOk "_law_stream" "_law_stream" s__law_stream ["script", "first", "count"] := fun _ _ _ _ _ _ us hl => match us, hl with | [_, _, _], _ => rfl
theorem bo_s__law_next : BindOk "_law_next" "_law_next" s__law_next ["stream", "many"] := fun _ _ _ _ _ _ us hl => match us, hl with | [_, _], _ => rfl
theorem bo_s__law_types : BindOk "_law_types" "_law_types" s__law_types ["stream"] := fun _ _ _ _ _ _ us hl => match us, hl with | [_], _ => rfl
theorem bo_s__law_field : BindOk "_law_field" "_law_field" s__law_field ["types", "type_name", "name"] := fun _ _ _ _ _ _ us hl => match us, hl with | [_, _, _], _ => rfl
theorem bo_s__law_place : BindOk "_law_place" "_law_place" s__law_place ["types", "names"] := fun _ _ _ _ _ _ us hl => match us, hl with | [_, _], _ => rfl
theorem bo_s__law_is_integer : BindOk "_law_is_integer" "_law_is_integer" s__law_is_integer ["actual"] := fun _ _ _ _ _ _ us hl => match us, hl with | [_], _ => rfl
theorem bo_s__law_same : BindOk "_law_same" "_law_same" s__law_same ["actual", "expected"] := fun _ _ _ _ _ _ us hl => match us, hl with | [_, _], _ => rfl
theorem bo_s_law : BindOk "law" "law" s_law ["script"] := fun _ _ _ _ _ _ us hl => match us, hl with | [_], _ => rfl
theorem bo_s_Schema_init : BindOk "__init__" "Schema.__init__" s_Schema_init ["self", "types"] := fun _ _ _ _ _ _ us hl => match us, hl with | [_, _], _ => rfl
theorem bo_s_Schema_field_of : BindOk "field_of" "Schema.field_of" s_Schema_field_of ["self", "type_name", "name"] := fun _ _ _ _ _ _ us hl => match us, hl with | [_, _, _], _ => rfl
theorem bo_s_Schema_place_of : BindOk "place_of" "Schema.place_of" s_Schema_place_of ["self", "type_names"] := fun _ _ _ _ _ _ us hl => match us, hl with | [_, _], _ => rfl
theorem bo_s_Schema_targets_of : BindOk "targets_of" "Schema.targets_of" s_Schema_targets_of ["self", "type_name", "name"] := fun _ _ _ _ _ _ us hl => match us, hl with | [_, _, _], _ => rfl
theorem bo_root : BindOk "root" "Schema.root" s_Schema_root ["self"] := fun _ _ _ _ _ _ us hl => match us, hl with | [_], _ => rfl
section
variable {P : Program} {w : World} {K : PySem.W.Frag} {h : Heap} {mg : Str → Option Value} {base : Heap} {CB CS aKinds : Addr} {x : Str}
theorem cst_int {i : Int} {o : Tok} (X : K.In h) (G : h.Ns mainGlobals mg) (a : PySem.W.nsIn K mainGlobals x = some (some (.int i o))) : ∃ u, mg x = some u ∧ RelV (.int i) u := ⟨_, PySem.W.mg_of X G a, _, rfl⟩
theorem cst_str {s : Str} {o : Tok} (X : K.In h) (G : h.Ns mainGlobals mg) (a : PySem.W.nsIn K mainGlobals x = some (some (.str s o))) : ∃ u, mg x = some u ∧ RelV (.str s) u := ⟨_, PySem.W.mg_of X G a, _, rfl⟩
theorem cst_ref {a : Addr} (X : K.In h) (G : h.Ns mainGlobals mg) (e : PySem.W.nsIn K mainGlobals x = some (some (.ref a))) : ∃ u, mg x = some u ∧ RelV (.ref a) u := ⟨_, PySem.W.mg_of X G e, rfl⟩
theorem tup_kinds {a : Addr} {od : Option Addr} {n : Nat} {o1 o2 o3 : Tok} {sl : Array (Option Value)} (l : K.lookup a = some ⟨.type "tuple", od, .seq #[.str "int" o1, .str "one" o2, .str "many" o3] n, sl⟩) (H : Hp) : SqT K H a (kinds.map V.str) :=
  .inr ⟨_, _, n, l, rfl, rfl, (by show 3 ≤ sizeLine; decide), .cons ⟨_, rfl⟩ (.cons ⟨_, rfl⟩ (.cons ⟨_, rfl⟩ .nil))⟩
theorem rec_prop {p g : Addr} {od : Option Addr} {vs : Array Value} {rest : List Value} {sl : Array (Option Value)} (l : K.lookup p = some ⟨.type "property", od, .fields vs, sl⟩) (e : vs.toList = .ref g :: rest) : ∃ rest, PySem.W.recIn K p "property" = some (.ref g :: rest) :=
  ⟨rest, by unfold PySem.W.recIn; rw [l, ← e]; rfl⟩
theorem close {fa : Addr} (X : K.In h) (G : h.Ns mainGlobals mg) (hfa : mg "law" = some (.ref fa)) (T : Txt K mg CB aKinds) (S : TxS K mg CS) (D : Defs K mg CS) :
    ∃ fd : FuncData, (∀ (s : Shared) (v : Value), BindsTo s fd ⟨[v], []⟩ [("script", v)]) ∧ ∀ base : Heap, K.In base → base.Ns mainGlobals mg → FnOk P w K mg base CX0 10 fa fd ["script"] (spLaw K) := by
  obtain ⟨fd, hb, ok⟩ := whole (P := P) (w := w) T S D hfa
  exact ⟨fd, hb, fun base _ _ => ok base⟩
end
end Fq
set_option Elab.async false
set_option linter.all false
open PySem PySem.W
    PyProof.Rows
set_option maxRecDepth
    100000 in
set_option maxHeartbeats 0 in
theorem PySem.Challenge.cw_fieldquery_k00_schemas_holds : PySem.Challenge.rw_fieldquery_k00_schemas.Holds := by
  w_on; o_law; k_head; (case
      hw => w_witness2)
  k_fill
  refine L2.walk_of (l := PySem.Challenge.rw_fieldquery_k00_schemas) (n := 63) (k := 10) (x := "script") (CX := fun _ => L2.CX0) (sp := fun w => Fq.spLaw _) rfl (by decide) rfl ⟨rfl, by decide, by decide⟩ (fun w h Y => PySem.W.kIn_of Y) ?F (fun _ _ a ns hl _ hS => ⟨a, ns, rfl, hS, hl, fun _ => rfl⟩) fun _ _ _ _ _ z => z
  case F =>
    intro w mg fa h KX G hmg
    refine Fq.close (aKinds := ?aK) (CB := ?CB) (CS := ?CS) KX G hmg ?T ?S ?D
    case T =>
      refine' ⟨PySem.W.mg_none_of KX G ?n_len, PySem.W.mg_none_of KX G ?n_set, PySem.W.mg_none_of KX G ?n_isinstance, PySem.W.mg_none_of KX G ?n_str, PySem.W.mg_none_of KX G ?n_tuple, PySem.W.mg_none_of KX G ?n_bool, PySem.W.mg_none_of KX G ?n_int, PySem.W.mg_none_of KX G ?n_list, PySem.W.mg_none_of KX G ?n_dict, PySem.W.mg_none_of KX G ?n_all, PySem.W.mg_none_of KX G ?n_abs, PySem.W.mg_none_of KX G ?n_range, Fq.cst_int KX G ?c_MOST_TYPES, Fq.cst_int KX G ?c_MOST_FIELDS, Fq.cst_int KX G ?c_LONGEST_NAME, Fq.cst_str KX G ?c_CAPITALS, Fq.cst_str KX G ?c_SMALL_LETTERS, Fq.cst_ref KX G ?c_KINDS, Fq.tup_kinds ?t_KINDS, ?xBad, PySem.W.mg_of KX G ?gBad, ?kBad, ?sBad, ?tBad⟩
      (case n_len => k_is)
      (case n_set => k_is)
      (case n_isinstance => k_is)
      (case n_str => k_is)
      (case n_tuple => k_is)
      (case n_bool => k_is)
      (case n_int => k_is)
      (case n_list => k_is)
      (case n_dict => k_is)
      (case n_all => k_is)
      (case n_abs => k_is)
      (case n_range => k_is)
      (case c_MOST_TYPES => k_is)
      (case c_MOST_FIELDS => k_is)
      (case c_LONGEST_NAME => k_is)
      (case c_CAPITALS => k_is)
      (case c_SMALL_LETTERS => k_is)
      (case c_KINDS => k_is)
      (case t_KINDS => k_is)
      (case gBad => k_is); (case xBad => k_exc); (case kBad => k_is); (case sBad => k_is); (case tBad => k_is)
    case S =>
      refine' ⟨⟨?pg, ?hd, ?po, ?sa⟩, PySem.W.mg_of KX G ?gS, ?n1, ?n2, ?n3⟩
      (case gS => k_is)
      (case pg => k_is)
      (case hd => k_is)
      (case po => k_is)
      (case sa => k_is)
      (case n1 => unfold L2.NoAttr; k_is)
      (case n2 => unfold L2.NoAttr; k_is)
      (case n3 => unfold L2.NoAttr; k_is)
    case D =>
      refine' ⟨?d__demand, ?d__is_short_text, ?d__has_only, ?d__is_field_name, ?d__is_type_name, ?d__are_names, ?d__all_differ, ?d__check_definition, ?d__check_fields, ?d__check_pair, ?d__check_types, ?d_field_key, ?d__law_cell, ?d__law_draws, ?d__law_stream, ?d__law_next, ?d__law_types, ?d__law_field, ?d__law_place, ?d__law_is_integer, ?d__law_same, ?d_law, ?m_init, ?m_field_of, ?m_place_of, ?m_targets_of, ?p_root, ?mks, ?kc⟩
      case d__demand =>
        refine' Fq.DefG.of KX G Fq.bo_s__demand ?a ?l ?c ?k
        (case a => k_is); (case l => k_is); (case c => k_is); (case k => k_is)
      case d__is_short_text =>
        refine' Fq.DefG.of KX G Fq.bo_s__is_short_text ?a ?l ?c ?k
        (case a => k_is); (case l => k_is); (case c => k_is); (case k => k_is)
      case d__has_only =>
        refine' Fq.DefG.of KX G Fq.bo_s__has_only ?a ?l ?c ?k
        (case a => k_is); (case l => k_is); (case c => k_is); (case k => k_is)
      case d__is_field_name =>
        refine' Fq.DefG.of KX G Fq.bo_s__is_field_name ?a ?l ?c ?k
        (case a => k_is); (case l => k_is); (case c => k_is); (case k => k_is)
      case d__is_type_name =>
        refine' Fq.DefG.of KX G Fq.bo_s__is_type_name ?a ?l ?c ?k
        (case a => k_is); (case l => k_is); (case c => k_is); (case k => k_is)
      case d__are_names =>
        refine' Fq.DefG.of KX G Fq.bo_s__are_names ?a ?l ?c ?k
        (case a => k_is); (case l => k_is); (case c => k_is); (case k => k_is)
      case d__all_differ =>
        refine' Fq.DefG.of KX G Fq.bo_s__all_differ ?a ?l ?c ?k
        (case a => k_is); (case l => k_is); (case c => k_is); (case k => k_is)
      case d__check_definition =>
        refine' Fq.DefG.of KX G Fq.bo_s__check_definition ?a ?l ?c ?k
        (case a => k_is); (case l => k_is); (case c => k_is); (case k => k_is)
      case d__check_fields =>
        refine' Fq.DefG.of KX G Fq.bo_s__check_fields ?a ?l ?c ?k
        (case a => k_is); (case l => k_is); (case c => k_is); (case k => k_is)
      case d__check_pair =>
        refine' Fq.DefG.of KX G Fq.bo_s__check_pair ?a ?l ?c ?k
        (case a => k_is); (case l => k_is); (case c => k_is); (case k => k_is)
      case d__check_types =>
        refine' Fq.DefG.of KX G Fq.bo_s__check_types ?a ?l ?c ?k
        (case a => k_is); (case l => k_is); (case c => k_is); (case k => k_is)
      case d_field_key =>
        refine' Fq.DefG.of KX G Fq.bo_s_field_key ?a ?l ?c ?k
        (case a => k_is); (case l => k_is); (case c => k_is); (case k => k_is)
      case d__law_cell =>
        refine' Fq.DefG.of KX G Fq.bo_s__law_cell ?a ?l ?c ?k
        (case a => k_is); (case l => k_is); (case c => k_is); (case k => k_is)
      case d__law_draws =>
        refine' Fq.DefG.of KX G Fq.bo_s__law_draws ?a ?l ?c ?k
        (case a => k_is); (case l => k_is); (case c => k_is); (case k => k_is)
      case d__law_stream =>
        refine' Fq.DefG.of KX G Fq.bo_s__law_stream ?a ?l ?c ?k
        (case a => k_is); (case l => k_is); (case c => k_is); (case k => k_is)
      case d__law_next =>
        refine' Fq.DefG.of KX G Fq.bo_s__law_next ?a ?l ?c ?k
        (case a => k_is); (case l => k_is); (case c => k_is); (case k => k_is)
      case d__law_types =>
        refine' Fq.DefG.of KX G Fq.bo_s__law_types ?a ?l ?c ?k
        (case a => k_is); (case l => k_is); (case c => k_is); (case k => k_is)
      case d__law_field =>
        refine' Fq.DefG.of KX G Fq.bo_s__law_field ?a ?l ?c ?k
        (case a => k_is); (case l => k_is); (case c => k_is); (case k => k_is)
      case d__law_place =>
        refine' Fq.DefG.of KX G Fq.bo_s__law_place ?a ?l ?c ?k
        (case a => k_is); (case l => k_is); (case c => k_is); (case k => k_is)
      case d__law_is_integer =>
        refine' Fq.DefG.of KX G Fq.bo_s__law_is_integer ?a ?l ?c ?k
        (case a => k_is); (case l => k_is); (case c => k_is); (case k => k_is)
      case d__law_same =>
        refine' Fq.DefG.of KX G Fq.bo_s__law_same ?a ?l ?c ?k
        (case a => k_is); (case l => k_is); (case c => k_is); (case k => k_is)
      case d_law =>
        refine' Fq.DefG.of KX G Fq.bo_s_law ?a ?l ?c ?k
        (case a => k_is); (case l => k_is); (case c => k_is); (case k => k_is)
      case m_init =>
        refine' Fq.DefM.of Fq.bo_s_Schema_init ?a ?i ?l ?c ?k
        (case a => k_is); (case i => k_is); (case l => k_is); (case c => k_is); (case k => k_is)
      case m_field_of =>
        refine' Fq.DefM.of Fq.bo_s_Schema_field_of ?a ?i ?l ?c ?k
        (case a => k_is); (case i => k_is); (case l => k_is); (case c => k_is); (case k => k_is)
      case m_place_of =>
        refine' Fq.DefM.of Fq.bo_s_Schema_place_of ?a ?i ?l ?c ?k
        (case a => k_is); (case i => k_is); (case l => k_is); (case c => k_is); (case k => k_is)
      case m_targets_of =>
        refine' Fq.DefM.of Fq.bo_s_Schema_targets_of ?a ?i ?l ?c ?k
        (case a => k_is); (case i => k_is); (case l => k_is); (case c => k_is); (case k => k_is)
      case p_root =>
        refine' ⟨_, _, _, ⟨?a, ?g, ?t, Fq.rec_prop ?lp ?hv⟩, L2.fun_mk ?l ?c ?k, (L2.fun_mk ?l ?c ?k).binds Fq.bo_root⟩
        (case a => k_is); (case g => k_is); (case t => k_is); (case lp => k_is); (case hv => rfl); (case l => k_is); (case c => k_is); (case k => k_is)
      (case mks => k_is); (case kc => k_is)
