import PyProof.Rows.All
import Wide.All
import OpenK.AllK
import Wide.FinOn
import HandS.ForMost
import HandS.ForExc
import HandS.TupAny
import HandS.Wide
import HandS.Deep
import HandS.Style
import HandS.Walk
import HandS.Defaults
import HandS.More
import HandS.EndBits
import HandS.ExcInit
import HandS.ExcField
import HandS.HeadHook1
import HandS.HeadHook2
import PyProof.ExcBaseAll.Exception
import HandS.Zip
import KE.GoesZip
import KE.GoesMore
import HandS.IsInst
import HandS.SortInts
import HandS.Conv
import PySem.Challenge.RW_spelledways_k19_whole_what_has_to_stay_o
import KE.KStateDown
import HandS.Head0
import HandS.Head1
import HandS.Head2
import HandS.HeadEnd
import HandS.HeadHook4
set_option Elab.async false
set_option linter.all false
set_option maxRecDepth 100000
set_option maxHeartbeats 0
/-! Data upon the hand layer: what an expression comes to, as plain data, while some objects are known for good (J) and the rest of the heap may only grow. -/
namespace DL
open PySem L2

/-- every object of the one heap stands in the other -/
def Sub (J H : Hp) : Prop := ∀ a o, J a = some o → H a = some o
theorem Sub.refl (H : Hp) : Sub H H := fun _ _ h => h
theorem Sub.trans {J H G : Hp} (p : Sub J H) (q : Sub H G) : Sub J G := fun a o h => q a o (p a o h)
theorem Sub.back {J H : Hp} (p : Sub J H) {a : Addr} (h : H a = none) : J a = none := by
  cases e : J a with
  | none => rfl
  | some o => rw [p a o e] at h; cases h
theorem Sub.new {H : Hp} {p : Addr} {o : HO} (h : H p = none) : Sub H (upd H p o) := fun a u e => by
  rw [upd_ne (ne_of_none e h)]; exact e
theorem Sub.both {J H : Hp} (s : Sub J H) {p : Addr} {o : HO} : Sub (upd J p o) (upd H p o) := fun a u e => by
  by_cases h : a = p
  · rw [h, upd_same] at e ⊢; exact e
  · rw [upd_ne h] at e ⊢; exact s a u e
theorem Sub.rd {J H : Hp} (s : Sub J H) {a : Addr} {u : HO} (h : Rd J a u) : Rd H a u := by
  rcases h with h | ⟨o, h⟩
  · exact .inl (s _ _ h)
  · exact .inr ⟨o, s _ _ h⟩
theorem Sub.l {K : PySem.W.Frag} {J H : Hp} (s : Sub J H) {a : Addr} {xs : List V} (h : SqL K J a xs) : SqL K H a xs := by
  rcases h with h | h
  · exact .inl (s.rd h)
  · exact .inr h
theorem Sub.t {K : PySem.W.Frag} {J H : Hp} (s : Sub J H) {a : Addr} {xs : List V} (h : SqT K J a xs) : SqT K H a xs := by
  rcases h with h | h
  · exact .inl (s.rd h)
  · exact .inr h
/-! a value is a datum; lists are such as stand in J itself -/
mutual
inductive Da (K : PySem.W.Frag) (J : Hp) : V → PyData → Prop
  | non : Da K J .non .none
  | bl (b : Bool) : Da K J (.bl b) (.bool b)
  | int (i : Int) : Da K J (.int i) (.int i)
  | str (x : Str) : Da K J (.str x) (.str x)
  | lst {a : Addr} {xs : List V} {ds : List PyData} : J a = some (.lst xs) → Das K J xs ds → Da K J (.ref a) (.list ds)
  | tup {a : Addr} {xs : List V} {ds : List PyData} : SqT K J a xs → Das K J xs ds → Da K J (.ref a) (.tuple ds)
inductive Das (K : PySem.W.Frag) (J : Hp) : List V → List PyData → Prop
  | nil : Das K J [] []
  | cons {v : V} {vs : List V} {d : PyData} {ds : List PyData} : Da K J v d → Das K J vs ds → Das K J (v :: vs) (d :: ds)
end
mutual
theorem Da.dp {K : PySem.W.Frag} {J H : Hp} (s : Sub J H) : ∀ {d : PyData} {v : V}, Da K J v d → Dp K H v d
  | .none, _, h => by cases h; exact .non
  | .bool _, _, h => by cases h; exact .bl _
  | .int _, _, h => by cases h; exact .int _
  | .str _, _, h => by cases h; exact .str _
  | .list ds, _, h => by
    cases h with
    | lst a b => exact .lst (.of (s _ _ a)) (Das.dp s b)
  | .tuple ds, _, h => by
    cases h with
    | tup a b => exact .tup (s.t a) (Das.dp s b)
  | .dict _, _, h => by cases h
theorem Das.dp {K : PySem.W.Frag} {J H : Hp} (s : Sub J H) : ∀ {ds : List PyData} {vs : List V}, Das K J vs ds → DpAll K H vs ds
  | [], _, h => by cases h; exact .nil
  | _ :: _, _, h => by
    cases h with
    | cons a b => exact .cons (Da.dp s a) (Das.dp s b)
end
mutual
theorem Sub.da {K : PySem.W.Frag} {J H : Hp} (s : Sub J H) : ∀ {d : PyData} {v : V}, Da K J v d → Da K H v d
  | .none, _, h => by cases h; exact .non
  | .bool _, _, h => by cases h; exact .bl _
  | .int _, _, h => by cases h; exact .int _
  | .str _, _, h => by cases h; exact .str _
  | .list ds, _, h => by
    cases h with
    | lst a b => exact .lst (s _ _ a) (Sub.das s b)
  | .tuple ds, _, h => by
    cases h with
    | tup a b => exact .tup (s.t a) (Sub.das s b)
  | .dict _, _, h => by cases h
theorem Sub.das {K : PySem.W.Frag} {J H : Hp} (s : Sub J H) : ∀ {ds : List PyData} {vs : List V}, Das K J vs ds → Das K H vs ds
  | [], _, h => by cases h; exact .nil
  | _ :: _, _, h => by
    cases h with
    | cons a b => exact .cons (Sub.da s a) (Sub.das s b)
end
theorem das_len {K : PySem.W.Frag} {J : Hp} : ∀ {vs : List V} {ds : List PyData}, Das K J vs ds → vs.length = ds.length
  | [], _, h => by cases h; rfl
  | _ :: _, _, h => by
    cases h with
    | cons _ b => simp [das_len b]
theorem das_at {K : PySem.W.Frag} {J : Hp} : ∀ {vs : List V} {ds : List PyData} {i : Nat} {v : V}, Das K J vs ds → vs[i]? = some v → ∃ d, ds[i]? = some d ∧ Da K J v d
  | [], _, _, _, _, e => by simp at e
  | _ :: _, _, i, _, h, e => by
    cases h with
    | cons a b =>
      cases i with
      | zero => simp at e; subst e; exact ⟨_, rfl, a⟩
      | succ i => simpa using das_at b (by simpa using e)
theorem das_get {K : PySem.W.Frag} {J : Hp} : ∀ {vs : List V} {ds : List PyData} {i : Nat} {d : PyData}, Das K J vs ds → ds[i]? = some d → ∃ v, vs[i]? = some v ∧ Da K J v d
  | _, [], _, _, _, e => by simp at e
  | _, _ :: _, i, _, h, e => by
    cases h with
    | cons a b =>
      cases i with
      | zero => simp at e; subst e; exact ⟨_, rfl, a⟩
      | succ i => simpa using das_get b (by simpa using e)
theorem das_app {K : PySem.W.Frag} {J : Hp} : ∀ {vs ws : List V} {ds es : List PyData}, Das K J vs ds → Das K J ws es → Das K J (vs ++ ws) (ds ++ es)
  | [], _, _, _, h, g => by cases h; exact g
  | _ :: _, _, _, _, h, g => by
    cases h with
    | cons a b => exact .cons a (das_app b g)
theorem das_drop {K : PySem.W.Frag} {J : Hp} : ∀ {vs : List V} {ds : List PyData} (n : Nat), Das K J vs ds → Das K J (vs.drop n) (ds.drop n)
  | _, _, 0, h => h
  | [], _, n + 1, h => by cases h; exact .nil
  | _ :: _, _, n + 1, h => by
    cases h with
    | cons _ b => exact das_drop n b
theorem das_take {K : PySem.W.Frag} {J : Hp} : ∀ {vs : List V} {ds : List PyData} (n : Nat), Das K J vs ds → Das K J (vs.take n) (ds.take n)
  | _, _, 0, _ => .nil
  | [], _, n + 1, h => by cases h; exact .nil
  | _ :: _, _, n + 1, h => by
    cases h with
    | cons a b => exact .cons a (das_take n b)
theorem das_rev {K : PySem.W.Frag} {J : Hp} : ∀ {vs : List V} {ds : List PyData}, Das K J vs ds → Das K J vs.reverse ds.reverse
  | [], _, h => by cases h; exact .nil
  | _ :: _, _, h => by
    cases h with
    | cons a b =>
      rw [List.reverse_cons, List.reverse_cons]
      exact das_app (das_rev b) (.cons a .nil)
theorem das_ints {K : PySem.W.Frag} {J : Hp} : ∀ ns : List Int, Das K J (ns.map V.int) (ns.map PyData.int)
  | [] => .nil
  | n :: ns => .cons (.int n) (das_ints ns)
theorem da_int {K : PySem.W.Frag} {J : Hp} {v : V} {i : Int} (h : Da K J v (.int i)) : v = .int i := by cases h; rfl
theorem da_bl {K : PySem.W.Frag} {J : Hp} {v : V} {b : Bool} (h : Da K J v (.bool b)) : v = .bl b := by cases h; rfl
theorem da_str {K : PySem.W.Frag} {J : Hp} {v : V} {x : Str} (h : Da K J v (.str x)) : v = .str x := by cases h; rfl
theorem da_non {K : PySem.W.Frag} {J : Hp} {v : V} (h : Da K J v .none) : v = .non := by cases h; rfl
theorem da_lst {K : PySem.W.Frag} {J : Hp} {v : V} {ds : List PyData} (h : Da K J v (.list ds)) : ∃ a xs, v = .ref a ∧ J a = some (.lst xs) ∧ Das K J xs ds := by
  cases h with
  | lst p q => exact ⟨_, _, rfl, p, q⟩
theorem da_tup {K : PySem.W.Frag} {J : Hp} {v : V} {ds : List PyData} (h : Da K J v (.tuple ds)) : ∃ a xs, v = .ref a ∧ SqT K J a xs ∧ Das K J xs ds := by
  cases h with
  | tup p q => exact ⟨_, _, rfl, p, q⟩
theorem das_ints_eq {K : PySem.W.Frag} {J : Hp} : ∀ {vs : List V} {ns : List Int}, Das K J vs (ns.map PyData.int) → vs = ns.map V.int
  | [], [], _ => rfl
  | [], _ :: _, h => by cases h
  | _ :: _, [], h => by cases h
  | _ :: _, _ :: _, h => by
    cases h with
    | cons a b => rw [da_int a, das_ints_eq b]; rfl

/-! ### what may change, and how the heap goes on -/
/-- fp: the objects that may change; inv: what stays true of them -/
structure Md where
  fp : Addr → Prop
  inv : Hp → Prop
  loc : ∀ H H' : Hp, (∀ a, fp a → H' a = H a) → inv H → inv H'
/-- nothing may change -/
def Md.pure : Md := ⟨fun _ => False, fun _ => True, fun _ _ _ h => h⟩
structure Wf (M : Md) (J H : Hp) : Prop where
  jh : Sub J H
  inv : M.inv H
  out : ∀ a, M.fp a → J a = none ∧ H a ≠ none
structure Tr (M : Md) (J H J' H' : Hp) : Prop where
  jj : Sub J J'
  jh : Sub J' H'
  keep : ∀ a o, ¬ M.fp a → H a = some o → H' a = some o
  inv : M.inv H'
  fr : ∀ a, H a ≠ none → J a = none → J' a = none
  al : ∀ a, H a ≠ none → H' a ≠ none
section
variable {M : Md} {J H J1 H1 J2 H2 : Hp} {p : Addr} {o : HO}
theorem Wf.tr (w : Wf M J H) : Tr M J H J H := ⟨.refl _, w.jh, fun _ _ _ h => h, w.inv, fun _ _ h => h, fun _ h => h⟩
theorem Tr.wf (t : Tr M J H J1 H1) (w : Wf M J H) : Wf M J1 H1 := ⟨t.jh, t.inv, fun a h => ⟨t.fr a (w.out a h).2 (w.out a h).1, t.al a (w.out a h).2⟩⟩
theorem Tr.trans (t : Tr M J H J1 H1) (u : Tr M J1 H1 J2 H2) : Tr M J H J2 H2 :=
  ⟨t.jj.trans u.jj, u.jh, fun a x n h => u.keep a x n (t.keep a x n h), u.inv, fun a h n => u.fr a (t.al a h) (t.fr a h n), fun a h => u.al a (t.al a h)⟩
theorem al_ne {a p : Addr} {G : Hp} (q : G a ≠ none) (h : G p = none) : a ≠ p := fun e => q (by rw [e]; exact h)
theorem Wf.new (w : Wf M J H) (h : H p = none) : Tr M J H (upd J p o) (upd H p o) := by
  have hj : J p = none := w.jh.back h
  refine ⟨.new hj, w.jh.both, fun a x _ e => Sub.new h a x e, M.loc _ _ (fun a q => upd_ne (al_ne (w.out a q).2 h)) w.inv, fun a q n => ?_, fun a q => ?_⟩
  · rw [upd_ne (al_ne q h)]; exact n
  · rw [upd_ne (al_ne q h)]; exact q
/-- a new object that is not known for good -/
theorem Wf.cell (w : Wf M J H) (h : H p = none) : Tr M J H J (upd H p o) := by
  refine ⟨.refl _, w.jh.trans (.new h), fun a x _ e => Sub.new h a x e, M.loc _ _ (fun a q => upd_ne (al_ne (w.out a q).2 h)) w.inv, fun a _ n => n, fun a q => ?_⟩
  rw [upd_ne (al_ne q h)]; exact q
/-- a call that changes nothing -/
theorem Wf.lift (w : Wf M J H) (t : Tr Md.pure J H J1 H1) : Tr M J H J1 H1 :=
  ⟨t.jj, t.jh, fun a x _ e => t.keep a x (fun z => z) e, M.loc _ _ (fun a q => by
    cases e : H a with
    | none => exact absurd e (w.out a q).2
    | some x => exact t.keep a x (fun z => z) e) w.inv, t.fr, t.al⟩
theorem Wf.mono (w : Wf M J H) : Wf Md.pure J H := ⟨w.jh, trivial, fun _ h => h.elim⟩
end

/-! ### expressions -/
section
variable (K : PySem.W.Frag) (M : Md)
def EvP (te : TE) (σ : L2.St) (J H : Hp) (P : PyData → Prop) : Prop :=
  ∀ J1 H1, Wf M J1 H1 → Tr M J H J1 H1 → ∀ Q : VK, (∀ v d J2 H2, Wf M J2 H2 → Tr M J1 H1 J2 H2 → P d → Da K J2 v d → Q v H2) → te σ H1 Q
abbrev EvD (te : TE) (σ : L2.St) (J H : Hp) (d : PyData) : Prop := EvP K M te σ J H (· = d)
def EvT (tt : TT) (σ : L2.St) (J H : Hp) (P : Bool → Prop) : Prop :=
  ∀ J1 H1, Wf M J1 H1 → Tr M J H J1 H1 → ∀ Q : Bool → Hp → Prop, (∀ b J2 H2, Wf M J2 H2 → Tr M J1 H1 J2 H2 → P b → Q b H2) → tt σ H1 Q
def EvA (ta : TA) (σ : L2.St) (J H : Hp) (P : List PyData → Prop) : Prop :=
  ∀ J1 H1, Wf M J1 H1 → Tr M J H J1 H1 → ∀ Q : List V → Hp → Prop, (∀ vs ds J2 H2, Wf M J2 H2 → Tr M J1 H1 J2 H2 → P ds → Das K J2 vs ds → Q vs H2) → ta σ H1 Q
def EvO (_K : PySem.W.Frag) (M : Md) (to : TO) (σ : L2.St) (J H : Hp) (P : Option Int → Prop) : Prop :=
  ∀ J1 H1, Wf M J1 H1 → Tr M J H J1 H1 → ∀ Q : Option Int → Hp → Prop, (∀ o J2 H2, Wf M J2 H2 → Tr M J1 H1 J2 H2 → P o → Q o H2) → to σ H1 Q
/-- an operation of two data, of one, of a row of them -/
def OpD (r : R2) (dx dy : PyData) (P : PyData → Prop) : Prop :=
  ∀ x y J H, Wf M J H → Da K J x dx → Da K J y dy → ∀ Q : VK, (∀ v d J2 H2, Wf M J2 H2 → Tr M J H J2 H2 → P d → Da K J2 v d → Q v H2) → r x y H Q
def UnD (r : V → Hp → VK → Prop) (dx : PyData) (P : PyData → Prop) : Prop :=
  ∀ x J H, Wf M J H → Da K J x dx → ∀ Q : VK, (∀ v d J2 H2, Wf M J2 H2 → Tr M J H J2 H2 → P d → Da K J2 v d → Q v H2) → r x H Q
def CbD (r : List V → Hp → VK → Prop) (ds : List PyData) (P : PyData → Prop) : Prop :=
  ∀ vs J H, Wf M J H → Das K J vs ds → ∀ Q : VK, (∀ v d J2 H2, Wf M J2 H2 → Tr M J H J2 H2 → P d → Da K J2 v d → Q v H2) → r vs H Q
def SlD (r : V → Option Int → Option Int → Hp → VK → Prop) (dx : PyData) (lo hi : Option Int) (P : PyData → Prop) : Prop :=
  ∀ x J H, Wf M J H → Da K J x dx → ∀ Q : VK, (∀ v d J2 H2, Wf M J2 H2 → Tr M J H J2 H2 → P d → Da K J2 v d → Q v H2) → r x lo hi H Q
/-- a call of an own def -/
def SpD (sp : Sp) (ds : List PyData) (P : PyData → Prop) (E : XK) : Prop :=
  ∀ vs J H, Wf M J H → Das K J vs ds → ∀ Q : VK, (∀ v d J2 H2, Wf M J2 H2 → Tr M J H J2 H2 → P d → Da K J2 v d → Q v H2) → sp vs H Q E
end
section
variable {K : PySem.W.Frag} {M : Md} {σ : L2.St} {J H J' H' : Hp} {ta tb te tc : TE} {t u : TT} {r : R2} {P P' Px Py Pz : PyData → Prop} {d dx dy : PyData} {v : V} {i j : Int}
theorem EvP.mono (h : EvP K M te σ J H P) (k : ∀ d, P d → P' d) : EvP K M te σ J H P' := fun J1 H1 w t Q q => h J1 H1 w t Q fun v d J2 H2 w2 t2 p a => q v d J2 H2 w2 t2 (k d p) a
theorem EvP.later (h : EvP K M te σ J H P) (t : Tr M J H J' H') : EvP K M te σ J' H' P := fun J1 H1 w t1 Q q => h J1 H1 w (t.trans t1) Q q
theorem EvT.mono {P P' : Bool → Prop} {t : TT} (h : EvT M t σ J H P) (k : ∀ d, P d → P' d) : EvT M t σ J H P' := fun J1 H1 w t Q q => h J1 H1 w t Q fun b J2 H2 w2 t2 p => q b J2 H2 w2 t2 (k b p)
theorem EvT.later {P : Bool → Prop} {t : TT} (h : EvT M t σ J H P) (tr : Tr M J H J' H') : EvT M t σ J' H' P := fun J1 H1 w t1 Q q => h J1 H1 w (tr.trans t1) Q q
theorem EvA.mono {P P' : List PyData → Prop} {t : TA} (h : EvA K M t σ J H P) (k : ∀ d, P d → P' d) : EvA K M t σ J H P' := fun J1 H1 w t Q q => h J1 H1 w t Q fun v d J2 H2 w2 t2 p a => q v d J2 H2 w2 t2 (k d p) a
theorem EvA.later {P : List PyData → Prop} {t : TA} (h : EvA K M t σ J H P) (tr : Tr M J H J' H') : EvA K M t σ J' H' P := fun J1 H1 w t1 Q q => h J1 H1 w (tr.trans t1) Q q
theorem ev_var {i : Nat} (hs : σ[i]? = some (some v)) (h : Da K J v d) : EvD K M (tVar i) σ J H d := fun J1 H1 w t Q q => ⟨v, hs, q v d J1 H1 w w.tr rfl (t.jj.da h)⟩
theorem ev_c (h : ∀ J, Da K J v d) : EvD K M (tC v) σ J H d := fun J1 H1 w t Q q => q v d J1 H1 w w.tr rfl (h _)
theorem ev_int : EvD K M (tC (.int i)) σ J H (.int i) := ev_c fun _ => .int i
theorem ev_bl {b : Bool} : EvD K M (tC (.bl b)) σ J H (.bool b) := ev_c fun _ => .bl b
theorem ev_str {x : Str} : EvD K M (tC (.str x)) σ J H (.str x) := ev_c fun _ => .str x
theorem ev_non : EvD K M (tC .non) σ J H .none := ev_c fun _ => .non
theorem ev_op (ha : EvP K M ta σ J H Px) (hb : EvP K M tb σ J H Py) (ho : ∀ dx dy, Px dx → Py dy → OpD K M r dx dy P) : EvP K M (tOp r ta tb) σ J H P := fun J1 H1 w t Q q =>
  ha J1 H1 w t _ fun x dx J2 H2 w2 t2 px ax => hb J2 H2 w2 (t.trans t2) _ fun y dy J3 H3 w3 t3 py ay =>
    ho dx dy px py x y J3 H3 w3 (t3.jj.da ax) ay Q fun v d J4 H4 w4 t4 p a => q v d J4 H4 w4 ((t2.trans t3).trans t4) p a
theorem ev_opD (ha : EvD K M ta σ J H dx) (hb : EvD K M tb σ J H dy) (ho : OpD K M r dx dy P) : EvP K M (tOp r ta tb) σ J H P := ev_op ha hb fun _ _ e1 e2 => by rw [e1, e2]; exact ho
theorem ev_un {r : V → Hp → VK → Prop} (ha : EvP K M ta σ J H Px) (ho : ∀ dx, Px dx → UnD K M r dx P) : EvP K M (tUn r ta) σ J H P := fun J1 H1 w t Q q =>
  ha J1 H1 w t _ fun x dx J2 H2 w2 t2 px ax => ho dx px x J2 H2 w2 ax Q fun v d J4 H4 w4 t4 p a => q v d J4 H4 w4 (t2.trans t4) p a
/-- an operation that hands back a plain value and leaves the heap -/
theorem od_flat (h : ∀ x y J H, Sub J H → Da K J x dx → Da K J y dy → ∀ Q : VK, Q v H → r x y H Q) (hv : ∀ J, Da K J v d) : OpD K M r dx dy (· = d) := fun x y J H w ax ay Q q => h x y J H w.jh ax ay Q (q v d J H w w.tr rfl (hv J))
theorem od_I0 {g : Int → Int → V} {d : PyData} (hv : ∀ J, Da K J (g i j) d) : OpD K M (rI0 g) (.int i) (.int j) (· = d) :=
  od_flat (v := g i j) (fun x y J H _ ax ay Q q => ⟨i, j, da_int ax, da_int ay, q⟩) hv
theorem od_I {C : Int → Int → Prop} {g : Int → Int → V} {d : PyData} (hc : C i j) (hv : ∀ J, Da K J (g i j) d) : OpD K M (rI C g) (.int i) (.int j) (· = d) :=
  od_flat (v := g i j) (fun x y J H _ ax ay Q q => ⟨i, j, da_int ax, da_int ay, hc, q⟩) hv
theorem od_add : OpD K M (rI0 fun i j => .int (i + j)) (.int i) (.int j) (· = .int (i + j)) := od_I0 fun _ => .int _
theorem od_sub : OpD K M (rI0 fun i j => .int (i - j)) (.int i) (.int j) (· = .int (i - j)) := od_I0 fun _ => .int _
theorem od_mul (h : CMulW i j) : OpD K M (rI CMulW fun i j => .int (i * j)) (.int i) (.int j) (· = .int (i * j)) := od_I h fun _ => .int _
theorem od_mod (h : 0 < j) : OpD K M (rI (fun _ j => 0 < j) fun i j => .int (i % j)) (.int i) (.int j) (· = .int (i % j)) := od_I h fun _ => .int _
theorem od_fdiv (h : CDivW i j) : OpD K M (rI CDivW fun i j => .int (i / j)) (.int i) (.int j) (· = .int (i / j)) := od_I h fun _ => .int _
theorem od_pow (h : CPow i j) : OpD K M (rI CPow fun i j => .int (i ^ j.toNat)) (.int i) (.int j) (· = .int (i ^ j.toNat)) := od_I h fun _ => .int _
theorem od_lt : OpD K M (rI0 fun i j => .bl (decide (i < j))) (.int i) (.int j) (· = .bool (decide (i < j))) := od_I0 fun _ => .bl _
theorem od_le : OpD K M (rI0 fun i j => .bl (decide (i ≤ j))) (.int i) (.int j) (· = .bool (decide (i ≤ j))) := od_I0 fun _ => .bl _
theorem od_gt : OpD K M (rI0 fun i j => .bl (decide (j < i))) (.int i) (.int j) (· = .bool (decide (j < i))) := od_I0 fun _ => .bl _
theorem od_ge : OpD K M (rI0 fun i j => .bl (decide (j ≤ i))) (.int i) (.int j) (· = .bool (decide (j ≤ i))) := od_I0 fun _ => .bl _
theorem od_eq (sx : SeqAt.shaped dx = true) (sy : SeqAt.shaped dy = true) : OpD K M (rEqD K) dx dy (· = .bool (PyData.eqv dx dy)) :=
  od_flat (v := .bl (PyData.eqv dx dy)) (fun x y J H s ax ay Q q => ⟨dx, dy, ax.dp s, ay.dp s, sx, sy, q⟩) fun _ => .bl _
theorem od_ne (sx : SeqAt.shaped dx = true) (sy : SeqAt.shaped dy = true) : OpD K M (rNeD K) dx dy (· = .bool (!PyData.eqv dx dy)) :=
  od_flat (v := .bl (!PyData.eqv dx dy)) (fun x y J H s ax ay Q q => ⟨dx, dy, ax.dp s, ay.dp s, sx, sy, q⟩) fun _ => .bl _
theorem od_inL {ds : List PyData} (sx : SeqAt.shaped dx = true) (sy : SeqAt.shaped (.list ds) = true) : OpD K M (rInD K) dx (.list ds) (· = .bool (ds.any fun z => PyData.eqv z dx)) :=
  od_flat (v := .bl _) (fun x y J H s ax ay Q q => ⟨dx, ds, ax.dp s, ay.dp s, sx, sy, q⟩) fun _ => .bl _
theorem od_niL {ds : List PyData} (sx : SeqAt.shaped dx = true) (sy : SeqAt.shaped (.list ds) = true) : OpD K M (rNotInD K) dx (.list ds) (· = .bool (!ds.any fun z => PyData.eqv z dx)) :=
  od_flat (v := .bl _) (fun x y J H s ax ay Q q => ⟨dx, ds, ax.dp s, ay.dp s, sx, sy, q⟩) fun _ => .bl _
/-- x is None, x is not None -/
def rIsNo : R2 := fun x y H Q => y = .non ∧ Q (.bl (decide (x = .non))) H
def rNotNo : R2 := fun x y H Q => y = .non ∧ Q (.bl (!decide (x = .non))) H
def isNo : PyData → Bool
  | .none => true
  | _ => false
theorem da_isNo {x : V} (h : Da K J x d) : decide (x = .non) = isNo d := by cases h <;> rfl
theorem od_isN : OpD K M rIsNo dx .none (· = .bool (isNo dx)) := fun x y J H w ax ay Q q => ⟨da_non ay, q _ _ J H w w.tr (by rw [← da_isNo ax]) (.bl _)⟩
theorem od_notN : OpD K M rNotNo dx .none (· = .bool (!isNo dx)) := fun x y J H w ax ay Q q => ⟨da_non ay, q _ _ J H w w.tr (by rw [← da_isNo ax]) (.bl _)⟩

/-! places and parts -/
theorem ix_eq {α : Type} {xs : List α} {n : Int} {x : α} (h : atI xs n = some x) : atI xs n = some x := h
theorem das_atI {xs : List V} {ds : List PyData} (h : Das K J xs ds) {n : Int} (e : atI ds n = some d) : ∃ v, atI xs n = some v ∧ Da K J v d := by
  unfold atI at e ⊢
  rw [das_len h]
  cases q : ixN ds.length n with
  | none => rw [q] at e; cases e
  | some k =>
    rw [q] at e
    obtain ⟨v, hv, a⟩ := das_get h e
    exact ⟨v, hv, a⟩
theorem od_ixL {ds : List PyData} (e : atI ds i = some d) : OpD K M (rIx K) (.list ds) (.int i) (· = d) := fun x y J H w ax ay Q q => by
  obtain ⟨a, xs, rfl, hl, hd⟩ := da_lst ax
  obtain ⟨v, hv, av⟩ := das_atI hd e
  exact .inl ⟨a, xs, i, v, rfl, da_int ay, .of (w.jh _ _ hl), hv, q v d J H w w.tr rfl av⟩
theorem od_ixT {ds : List PyData} (e : atI ds i = some d) : OpD K M (rIx K) (.tuple ds) (.int i) (· = d) := fun x y J H w ax ay Q q => by
  obtain ⟨a, xs, rfl, hl, hd⟩ := da_tup ax
  obtain ⟨v, hv, av⟩ := das_atI hd e
  exact .inr (.inl ⟨a, xs, i, v, rfl, da_int ay, w.jh.t hl, hv, q v d J H w w.tr rfl av⟩)
/-- what a slice of ds has -/
def cut (ds : List PyData) (lo hi : Option Int) : List PyData := (ds.drop (HT.sIx ds.length 0 lo)).take (HT.sIx ds.length ds.length hi - HT.sIx ds.length 0 lo)
theorem das_cut {xs : List V} {ds : List PyData} (h : Das K J xs ds) (lo hi : Option Int) : Das K J (cutV xs lo hi) (cut ds lo hi) := by
  unfold cutV cut
  rw [das_len h]
  exact das_take _ (das_drop _ h)
theorem sd_list {ds : List PyData} {lo hi : Option Int} : SlD K M (rSlL K) (.list ds) lo hi (· = .list (cut ds lo hi)) := fun x J H w ax Q q => by
  obtain ⟨a, xs, rfl, hl, hd⟩ := da_lst ax
  refine ⟨a, xs, rfl, .of (w.jh _ _ hl), fun p hp => ?_⟩
  have t := w.new (o := .lst (cutV xs lo hi)) hp
  exact q _ _ _ _ (t.wf w) t rfl (.lst upd_same (t.jj.das (das_cut hd lo hi)))
theorem sd_tup {ds : List PyData} {lo hi : Option Int} : SlD K M (rSlA K) (.tuple ds) lo hi (· = .tuple (cut ds lo hi)) := fun x J H w ax Q q => by
  obtain ⟨a, xs, rfl, hl, hd⟩ := da_tup ax
  have hlen := das_len hd
  refine ⟨a, xs, rfl, w.jh.t hl, fun e => ?_, fun _ p hp => ?_⟩
  · refine q _ _ J H w w.tr rfl ?_
    have ec : cut ds lo hi = ds := by
      unfold cut
      rw [hlen] at e
      rw [e.1, e.2]
      simp
    rw [ec]
    exact ax
  · have t := w.new (o := .tup (cutV xs lo hi)) hp
    exact q _ _ _ _ (t.wf w) t rfl (.tup (.of upd_same) (t.jj.das (das_cut hd lo hi)))
theorem eo_none : EvO K M tNoPart σ J H (· = none) := fun J1 H1 w t Q q => q none J1 H1 w w.tr rfl
theorem eo_some {p : Int → Prop} (h : EvP K M te σ J H fun d => ∃ i, d = .int i ∧ p i) : EvO K M (tPart te) σ J H fun o => ∃ i, o = some i ∧ p i := fun J1 H1 w t Q q =>
  h J1 H1 w t _ fun v d J2 H2 w2 t2 ⟨i, e, hp⟩ a => by
    subst e
    exact ⟨i, da_int a, q _ J2 H2 w2 t2 ⟨i, rfl, hp⟩⟩
theorem eo_at (h : EvD K M te σ J H (.int i)) : EvO K M (tPart te) σ J H (· = some i) := fun J1 H1 w t Q q =>
  h J1 H1 w t _ fun v d J2 H2 w2 t2 e a => by
    subst e
    exact ⟨i, da_int a, q _ J2 H2 w2 t2 rfl⟩
theorem ev_sl {r : V → Option Int → Option Int → Hp → VK → Prop} {tl th : TO} {Pl Ph : Option Int → Prop} (h : EvP K M te σ J H Px) (hl : EvO K M tl σ J H Pl) (hh : EvO K M th σ J H Ph)
    (ho : ∀ dx lo hi, Px dx → Pl lo → Ph hi → SlD K M r dx lo hi P) : EvP K M (tSl r te tl th) σ J H P := fun J1 H1 w t Q q =>
  h J1 H1 w t _ fun x dx J2 H2 w2 t2 px ax => hl J2 H2 w2 (t.trans t2) _ fun lo J3 H3 w3 t3 pl => hh J3 H3 w3 ((t.trans t2).trans t3) _ fun hi J4 H4 w4 t4 ph =>
    ho dx lo hi px pl ph x J4 H4 w4 ((t3.trans t4).jj.da ax) Q fun v d J5 H5 w5 t5 p a => q v d J5 H5 w5 (t2.trans ((t3.trans t4).trans t5)) p a
theorem ev_slD {r : V → Option Int → Option Int → Hp → VK → Prop} {tl th : TO} {lo hi : Option Int} (h : EvD K M te σ J H dx) (hl : EvO K M tl σ J H (· = lo)) (hh : EvO K M th σ J H (· = hi)) (ho : SlD K M r dx lo hi P) : EvP K M (tSl r te tl th) σ J H P :=
  ev_sl h hl hh fun _ _ _ e1 e2 e3 => by rw [e1, e2, e3]; exact ho
/-- x[::-1] -/
theorem ev_revL {ds : List PyData} (h : EvD K M te σ J H (.list ds)) : EvD K M (tRevL K te) σ J H (.list ds.reverse) := fun J1 H1 w t Q q =>
  h J1 H1 w t _ fun x d J2 H2 w2 t2 e ax => by
    subst e
    obtain ⟨a, xs, rfl, hl, hd⟩ := da_lst ax
    refine ⟨a, xs, rfl, .of (w2.jh _ _ hl), fun p hp => ?_⟩
    have t3 := w2.new (o := .lst xs.reverse) hp
    exact q _ _ _ _ (t3.wf w2) (t2.trans t3) rfl (.lst upd_same (t3.jj.das (das_rev hd)))

/-! several at once; displays; calls -/
theorem ea_nil : EvA K M tNil σ J H (· = []) := fun J1 H1 w t Q q => q [] [] J1 H1 w w.tr rfl .nil
theorem ea_cons {tr : TA} {Pr : List PyData → Prop} (h : EvP K M ta σ J H Px) (hr : EvA K M tr σ J H Pr) : EvA K M (tCons ta tr) σ J H fun ds => ∃ d r, ds = d :: r ∧ Px d ∧ Pr r := fun J1 H1 w t Q q =>
  h J1 H1 w t _ fun x dx J2 H2 w2 t2 px ax => hr J2 H2 w2 (t.trans t2) _ fun vs ds J3 H3 w3 t3 pr ar => q _ _ J3 H3 w3 (t2.trans t3) ⟨dx, ds, rfl, px, pr⟩ (.cons (t3.jj.da ax) ar)
theorem ea_consD {tr : TA} {ds : List PyData} (h : EvD K M ta σ J H d) (hr : EvA K M tr σ J H (· = ds)) : EvA K M (tCons ta tr) σ J H (· = d :: ds) := (ea_cons h hr).mono fun _ ⟨_, _, e, e1, e2⟩ => by rw [e, e1, e2]
theorem ev_tup {ta : TA} {Pa : List PyData → Prop} (h : EvA K M ta σ J H Pa) (hl : ∀ ds, Pa ds → ds.length ≤ 100000) : EvP K M (tTup ta) σ J H fun d => ∃ ds, d = .tuple ds ∧ Pa ds := fun J1 H1 w t Q q =>
  h J1 H1 w t _ fun vs ds J2 H2 w2 t2 p a => ⟨by rw [das_len a]; exact Nat.le_trans (hl ds p) (by decide), fun l hn => by
    have t3 := w2.new (o := .tup vs) hn
    exact q _ _ _ _ (t3.wf w2) (t2.trans t3) ⟨ds, rfl, p⟩ (.tup (.of upd_same) (t3.jj.das a))⟩
theorem ev_tupD {ta : TA} {ds : List PyData} (h : EvA K M ta σ J H (· = ds)) (hl : ds.length ≤ 100000 := by simp only [List.length_cons, List.length_nil]; decide) : EvD K M (tTup ta) σ J H (.tuple ds) :=
  (ev_tup h fun _ e => by rw [e]; exact hl).mono fun _ ⟨_, e, e1⟩ => by rw [e, e1]
theorem ev_lst {ta : TA} {Pa : List PyData → Prop} (h : EvA K M ta σ J H Pa) (hl : ∀ ds, Pa ds → ds.length ≤ 100000) : EvP K M (tLst ta) σ J H fun d => ∃ ds, d = .list ds ∧ Pa ds := fun J1 H1 w t Q q =>
  h J1 H1 w t _ fun vs ds J2 H2 w2 t2 p a => ⟨by rw [das_len a]; exact Nat.le_trans (hl ds p) (by decide), fun l hn => by
    have t3 := w2.new (o := .lst vs) hn
    exact q _ _ _ _ (t3.wf w2) (t2.trans t3) ⟨ds, rfl, p⟩ (.lst upd_same (t3.jj.das a))⟩
theorem ev_lstD {ta : TA} {ds : List PyData} (h : EvA K M ta σ J H (· = ds)) (hl : ds.length ≤ 100000 := by simp only [List.length_cons, List.length_nil]; decide) : EvD K M (tLst ta) σ J H (.list ds) :=
  (ev_lst h fun _ e => by rw [e]; exact hl).mono fun _ ⟨_, e, e1⟩ => by rw [e, e1]
theorem ev_cb {r : List V → Hp → VK → Prop} {ta : TA} {Pa : List PyData → Prop} (h : EvA K M ta σ J H Pa) (ho : ∀ ds, Pa ds → CbD K M r ds P) : EvP K M (tCB r ta) σ J H P := fun J1 H1 w t Q q =>
  h J1 H1 w t _ fun vs ds J2 H2 w2 t2 p a => ho ds p vs J2 H2 w2 a Q fun v d J3 H3 w3 t3 p3 a3 => q v d J3 H3 w3 (t2.trans t3) p3 a3
theorem ev_cbD {r : List V → Hp → VK → Prop} {ta : TA} {ds : List PyData} (h : EvA K M ta σ J H (· = ds)) (ho : CbD K M r ds P) : EvP K M (tCB r ta) σ J H P := ev_cb h fun _ e => by rw [e]; exact ho
theorem ev_call {sp : Sp} {E : XK} {ta : TA} {Pa : List PyData → Prop} (h : EvA K M ta σ J H Pa) (ho : ∀ ds, Pa ds → SpD K M sp ds P E) : EvP K M (tCall sp [] E ta) σ J H P := fun J1 H1 w t Q q =>
  h J1 H1 w t _ fun vs ds J2 H2 w2 t2 p a => by
    show sp (vs ++ []) H2 Q E
    rw [List.append_nil]
    exact ho ds p vs J2 H2 w2 a Q fun v d J3 H3 w3 t3 p3 a3 => q v d J3 H3 w3 (t2.trans t3) p3 a3
theorem ev_callD {sp : Sp} {E : XK} {ta : TA} {ds : List PyData} (h : EvA K M ta σ J H (· = ds)) (ho : SpD K M sp ds P E) : EvP K M (tCall sp [] E ta) σ J H P := ev_call h fun _ e => by rw [e]; exact ho
end
/-- what a pure def promises: ds its arguments -/
def spF (K : PySem.W.Frag) (pre : List PyData → Prop) (post : List PyData → PyData → Prop) : Sp := fun vs H Q _ => ∃ J ds, Sub J H ∧ Das K J vs ds ∧ pre ds ∧
  ∀ v d J' H', Tr Md.pure J H J' H' → post ds d → Da K J' v d → Q v H'
theorem spF_D {K : PySem.W.Frag} {M : Md} {pre : List PyData → Prop} {post : List PyData → PyData → Prop} {ds : List PyData} {E : XK} (h : pre ds) : SpD K M (spF K pre post) ds (post ds) E := fun vs J H w a Q q =>
  ⟨J, ds, w.jh, a, h, fun v d J' H' t p a' => q v d J' H' ((w.lift t).wf w) (w.lift t) p a'⟩
end DL

namespace DL
open PySem PySem.Spec
open PyProof.Rows L2
section
variable {K : PySem.W.Frag} {M : Md} {σ : L2.St} {J H J' H' J0 H0 J1 H1 : Hp} {ta tb te tc : TE} {t u : TT} {r r' : R2} {P P' Px Py Pz : PyData → Prop} {d dx dy : PyData} {v : V} {i j : Int} {p : Addr} {o : HO}

theorem Wf.nofp (w : Wf M J H) (h : H p = none) : ¬ M.fp p := fun q => (w.out p q).2 h
/-- a cell of one's own is written, or comes to be known for good -/
theorem Tr.put (w : Wf M J H) (t : Tr M J H J1 H1) (hp : H p = none) (jp : J1 p = none) : Tr M J H J1 (upd H1 p o) := by
  refine ⟨t.jj, fun a x e => ?_, fun a x n e => ?_, M.loc _ _ (fun a q => upd_ne fun e => w.nofp hp (by rw [← e]; exact q)) t.inv, t.fr, fun a q e => ?_⟩
  · rw [upd_ne (ne_of_none e jp)]; exact t.jh a x e
  · rw [upd_ne (ne_of_none e hp)]; exact t.keep a x n e
  · by_cases h : a = p
    · rw [h, upd_same] at e; cases e
    · rw [upd_ne h] at e; exact t.al a q e
theorem Tr.ice (t : Tr M J H J1 H1) (hp : H p = none) (jp : J1 p = none) (e : H1 p = some o) : Tr M J H (upd J1 p o) H1 := by
  refine ⟨t.jj.trans (.new jp), fun a x q => ?_, t.keep, t.inv, fun a q n => ?_, t.al⟩
  · by_cases h : a = p
    · rw [h, upd_same] at q; cases q; rw [h]; exact e
    · rw [upd_ne h] at q; exact t.jh a x q
  · rw [upd_ne (al_ne q hp)]; exact t.fr a q n
/-- what was learnt may be forgotten -/
theorem Tr.thaw (t : Tr M J0 H0 J H) (u : Tr M J' H J1 H1) (s : Sub J J1) : Tr M J0 H0 J H1 :=
  ⟨t.jj, s.trans u.jh, fun a x n e => u.keep a x n (t.keep a x n e), u.inv, t.fr, fun a q => u.al a (t.al a q)⟩
theorem Tr.back (t : Tr M J H J1 H1) (h : H1 p = none) : H p = none := by
  cases e : H p with
  | none => rfl
  | some x => exact absurd h (t.al p (by rw [e]; exact nofun))
theorem Tr.cellj (t : Tr M J H J1 H1) (h : H p = some o) (n : J p = none) : J1 p = none := t.fr p (by rw [h]; exact nofun) n

/-! ### tests -/
theorem et_test {Pb : Bool → Prop} (h : EvP K M te σ J H fun d => ∃ b, d = .bool b ∧ Pb b) : EvT M (tTest te) σ J H Pb := fun J1 H1 w t Q q =>
  h J1 H1 w t _ fun v d J2 H2 w2 t2 ⟨b, e, pb⟩ a => by
    subst e
    exact ⟨b, da_bl a, q b J2 H2 w2 t2 pb⟩
theorem et_testD {b : Bool} (h : EvD K M te σ J H (.bool b)) : EvT M (tTest te) σ J H (· = b) := et_test (h.mono fun _ e => ⟨b, e, rfl⟩)
theorem et_B {Pb : Bool → Prop} (h : EvP K M te σ J H fun d => ∃ b, d = .bool b ∧ Pb b) : EvT M (tB te) σ J H Pb := fun J1 H1 w t Q q =>
  h J1 H1 w t _ fun v d J2 H2 w2 t2 ⟨b, e, pb⟩ a => by
    subst e
    exact ⟨b, da_bl a, q b J2 H2 w2 t2 pb⟩
theorem et_BD {b : Bool} (h : EvD K M te σ J H (.bool b)) : EvT M (tB te) σ J H (· = b) := et_B (h.mono fun _ e => ⟨b, e, rfl⟩)
theorem et_and {Pa Pb : Bool → Prop} {t u : TT} (h : EvT M t σ J H Pa) (g : Pa true → EvT M u σ J H Pb) : EvT M (tAnd t u) σ J H fun c => (c = false ∧ Pa false) ∨ (Pa true ∧ Pb c) := fun J1 H1 w tr Q q =>
  h J1 H1 w tr _ fun b J2 H2 w2 t2 pa => by
    cases b with
    | true => exact g pa J2 H2 w2 (tr.trans t2) Q fun c J3 H3 w3 t3 pb => q c J3 H3 w3 (t2.trans t3) (.inr ⟨pa, pb⟩)
    | false => exact q false J2 H2 w2 t2 (.inl ⟨rfl, pa⟩)
theorem et_or {Pa Pb : Bool → Prop} {t u : TT} (h : EvT M t σ J H Pa) (g : Pa false → EvT M u σ J H Pb) : EvT M (tOr t u) σ J H fun c => (c = true ∧ Pa true) ∨ (Pa false ∧ Pb c) := fun J1 H1 w tr Q q =>
  h J1 H1 w tr _ fun b J2 H2 w2 t2 pa => by
    cases b with
    | false => exact g pa J2 H2 w2 (tr.trans t2) Q fun c J3 H3 w3 t3 pb => q c J3 H3 w3 (t2.trans t3) (.inr ⟨pa, pb⟩)
    | true => exact q true J2 H2 w2 t2 (.inl ⟨rfl, pa⟩)
theorem et_andD {a b : Bool} {t u : TT} (h : EvT M t σ J H (· = a)) (g : a = true → EvT M u σ J H (· = b)) : EvT M (tAnd t u) σ J H (· = (a && b)) :=
  (et_and h fun e => g e.symm).mono fun c hc => by
    rcases hc with ⟨e, ea⟩ | ⟨ea, e⟩
    · rw [e, ← ea]; rfl
    · rw [e, ← ea]; rfl
theorem et_orD {a b : Bool} {t u : TT} (h : EvT M t σ J H (· = a)) (g : a = false → EvT M u σ J H (· = b)) : EvT M (tOr t u) σ J H (· = (a || b)) :=
  (et_or h fun e => g e.symm).mono fun c hc => by
    rcases hc with ⟨e, ea⟩ | ⟨ea, e⟩
    · rw [e, ← ea]; rfl
    · rw [e, ← ea]; rfl
theorem et_not {Pa : Bool → Prop} {t : TT} (h : EvT M t σ J H Pa) : EvT M (tNot t) σ J H fun c => Pa (!c) := fun J1 H1 w tr Q q =>
  h J1 H1 w tr _ fun b J2 H2 w2 t2 pa => q (!b) J2 H2 w2 t2 (by show Pa (!!b); rw [Bool.not_not]; exact pa)
theorem et_notD {a : Bool} {t : TT} (h : EvT M t σ J H (· = a)) : EvT M (tNot t) σ J H (· = !a) := (et_not h).mono fun c e => by rw [← e, Bool.not_not]
theorem et_yes : EvT M tYes σ J H (· = true) := fun J1 H1 w tr Q q => q true J1 H1 w w.tr rfl
/-- truth of a datum -/
def truth : PyData → Bool
  | .none => false
  | .bool b => b
  | .int i => i != 0
  | .str x => (x.length : Int) != 0
  | .list ds => !ds.isEmpty
  | .tuple ds => !ds.isEmpty
  | .dict _ => false
def tTruth (K : PySem.W.Frag) (ta : TE) : TT := fun σ H Q => ta σ H fun x H' => ∃ k, TruV K x H' k ∧ Q k H'
theorem das_empty {xs : List V} {ds : List PyData} (h : Das K J xs ds) : xs.isEmpty = ds.isEmpty := by cases h <;> rfl
theorem et_truth (h : EvP K M te σ J H Px) (hl : ∀ x, Px (.str x) → x.length ≤ sizeLine) : EvT M (tTruth K te) σ J H fun b => ∃ d, Px d ∧ b = truth d := fun J1 H1 w t Q q =>
  h J1 H1 w t _ fun v d J2 H2 w2 t2 px a => by
    refine ⟨truth d, ?_, q _ J2 H2 w2 t2 ⟨d, px, rfl⟩⟩
    cases a with
    | non => rfl
    | bl b => rfl
    | int i => rfl
    | str x => exact ⟨hl x px, rfl⟩
    | lst a b => exact .inl ⟨_, .of (w2.jh _ _ a), by rw [das_empty b]; rfl⟩
    | tup a b => exact .inr (.inl ⟨_, w2.jh.t a, by rw [das_empty b]; rfl⟩)

/-! ### and, or, not as values; a if t else b; chains -/
theorem ev_andV {a : Bool} {b : PyData} (h : EvD K M ta σ J H (.bool a)) (g : a = true → EvD K M tb σ J H b) : EvD K M (tAndV ta tb) σ J H (if a then b else .bool false) := fun J1 H1 w t Q q =>
  h J1 H1 w t _ fun v d J2 H2 w2 t2 e x => by
    subst e
    refine ⟨a, da_bl x, ?_⟩
    cases a with
    | true => exact g rfl J2 H2 w2 (t.trans t2) Q fun v d J3 H3 w3 t3 e3 a3 => q v d J3 H3 w3 (t2.trans t3) e3 a3
    | false => exact q _ _ J2 H2 w2 t2 rfl (.bl false)
theorem ev_orV {a : Bool} {b : PyData} (h : EvD K M ta σ J H (.bool a)) (g : a = false → EvD K M tb σ J H b) : EvD K M (tOrV ta tb) σ J H (if a then .bool true else b) := fun J1 H1 w t Q q =>
  h J1 H1 w t _ fun v d J2 H2 w2 t2 e x => by
    subst e
    refine ⟨a, da_bl x, ?_⟩
    cases a with
    | false => exact g rfl J2 H2 w2 (t.trans t2) Q fun v d J3 H3 w3 t3 e3 a3 => q v d J3 H3 w3 (t2.trans t3) e3 a3
    | true => exact q _ _ J2 H2 w2 t2 rfl (.bl true)
theorem ev_notV {a : Bool} (h : EvD K M ta σ J H (.bool a)) : EvD K M (tNotV ta) σ J H (.bool !a) := fun J1 H1 w t Q q =>
  h J1 H1 w t _ fun v d J2 H2 w2 t2 e x => by
    subst e
    exact ⟨a, da_bl x, q _ _ J2 H2 w2 t2 rfl (.bl _)⟩
theorem ev_if {Pb : Bool → Prop} {t : TT} (h : EvT M t σ J H Pb) (h1 : Pb true → EvP K M ta σ J H P) (h2 : Pb false → EvP K M tb σ J H P) : EvP K M (tIf t ta tb) σ J H P := fun J1 H1 w tr Q q =>
  h J1 H1 w tr _ fun b J2 H2 w2 t2 pb => by
    cases b with
    | true => exact h1 pb J2 H2 w2 (tr.trans t2) Q fun v d J3 H3 w3 t3 e3 a3 => q v d J3 H3 w3 (t2.trans t3) e3 a3
    | false => exact h2 pb J2 H2 w2 (tr.trans t2) Q fun v d J3 H3 w3 t3 e3 a3 => q v d J3 H3 w3 (t2.trans t3) e3 a3
theorem ev_chain {a b : Bool} {dz : PyData} (h1 : EvD K M ta σ J H dx) (h2 : EvD K M tb σ J H dy) (h3 : EvD K M tc σ J H dz) (ho : OpD K M r dx dy (· = .bool a)) (ho' : OpD K M r' dy dz (· = .bool b)) : EvD K M (tChain r r' ta tb tc) σ J H (.bool (a && b)) := fun J1 H1 w t Q q =>
  h1 J1 H1 w t _ fun x dx' J2 H2 w2 t2 ex ax => h2 J2 H2 w2 (t.trans t2) _ fun y dy' J3 H3 w3 t3 ey ay => by
    subst ex
    subst ey
    refine ho x y J3 H3 w3 (t3.jj.da ax) ay _ fun z dz' J4 H4 w4 t4 ez az => ?_
    subst ez
    refine ⟨a, da_bl az, ?_⟩
    cases a with
    | true =>
      refine h3 J4 H4 w4 ((t.trans t2).trans (t3.trans t4)) _ fun z2 dz2 J5 H5 w5 t5 e5 a5 => ?_
      subst e5
      exact ho' y z2 J5 H5 w5 ((t4.trans t5).jj.da ay) a5 Q fun v d J6 H6 w6 t6 e6 a6 => q v d J6 H6 w6 ((t2.trans t3).trans ((t4.trans t5).trans t6)) e6 a6
    | false => exact q _ _ J4 H4 w4 ((t2.trans t3).trans t4) rfl (.bl false)

/-! ### built-in calls -/
theorem das_one {vs : List V} {d : PyData} (h : Das K J vs [d]) : ∃ v, vs = [v] ∧ Da K J v d := by
  cases h with
  | cons a b => cases b; exact ⟨_, rfl, a⟩
theorem cd_lenL {ds : List PyData} : CbD K M (rLen K) [.list ds] (· = .int ds.length) := fun vs J H w a Q q => by
  obtain ⟨v, rfl, av⟩ := das_one a
  obtain ⟨p, xs, rfl, hl, hd⟩ := da_lst av
  exact ⟨_, ds.length, rfl, .inl ⟨xs, .of (w.jh _ _ hl), (das_len hd).symm⟩, q _ _ J H w w.tr rfl (.int _)⟩
theorem cd_lenT {ds : List PyData} : CbD K M (rLen K) [.tuple ds] (· = .int ds.length) := fun vs J H w a Q q => by
  obtain ⟨v, rfl, av⟩ := das_one a
  obtain ⟨p, xs, rfl, hl, hd⟩ := da_tup av
  exact ⟨_, ds.length, rfl, .inr ⟨xs, w.jh.t hl, (das_len hd).symm⟩, q _ _ J H w w.tr rfl (.int _)⟩
theorem cd_lenS {x : Str} (hz : x.length ≤ sizeLine) : CbD K M (rLen K) [.str x] (· = .int x.length) := fun vs J H w a Q q => by
  obtain ⟨v, rfl, av⟩ := das_one a
  exact ⟨_, x.length, rfl, by rw [da_str av]; exact ⟨hz, rfl⟩, q _ _ J H w w.tr rfl (.int _)⟩
def rTupOf (K : PySem.W.Frag) : List V → Hp → VK → Prop := fun xs H Q => ∃ p ys, xs = [.ref p] ∧ ((SqL K H p ys ∧ ∀ l, H l = none → Q (.ref l) (upd H l (.tup ys))) ∨ (SqT K H p ys ∧ Q (.ref p) H))
theorem cd_tupL {ds : List PyData} : CbD K M (rTupOf K) [.list ds] (· = .tuple ds) := fun vs J H w a Q q => by
  obtain ⟨v, rfl, av⟩ := das_one a
  obtain ⟨p, xs, rfl, hl, hd⟩ := da_lst av
  refine ⟨p, xs, rfl, .inl ⟨.of (w.jh _ _ hl), fun l hn => ?_⟩⟩
  have t := w.new (o := .tup xs) hn
  exact q _ _ _ _ (t.wf w) t rfl (.tup (.of upd_same) (t.jj.das hd))
theorem cd_tupT {ds : List PyData} : CbD K M (rTupOf K) [.tuple ds] (· = .tuple ds) := fun vs J H w a Q q => by
  obtain ⟨v, rfl, av⟩ := das_one a
  obtain ⟨p, xs, rfl, hl, hd⟩ := da_tup av
  exact ⟨p, xs, rfl, .inr ⟨w.jh.t hl, q _ _ J H w w.tr rfl av⟩⟩
def rLstOf (K : PySem.W.Frag) : List V → Hp → VK → Prop := fun xs H Q => ∃ p ys, xs = [.ref p] ∧ (SqL K H p ys ∨ SqT K H p ys) ∧ ∀ l, H l = none → Q (.ref l) (upd H l (.lst ys))
theorem cd_lstL {ds : List PyData} : CbD K M (rLstOf K) [.list ds] (· = .list ds) := fun vs J H w a Q q => by
  obtain ⟨v, rfl, av⟩ := das_one a
  obtain ⟨p, xs, rfl, hl, hd⟩ := da_lst av
  refine ⟨p, xs, rfl, .inl (.of (w.jh _ _ hl)), fun l hn => ?_⟩
  have t := w.new (o := .lst xs) hn
  exact q _ _ _ _ (t.wf w) t rfl (.lst upd_same (t.jj.das hd))
theorem cd_lstT {ds : List PyData} : CbD K M (rLstOf K) [.tuple ds] (· = .list ds) := fun vs J H w a Q q => by
  obtain ⟨v, rfl, av⟩ := das_one a
  obtain ⟨p, xs, rfl, hl, hd⟩ := da_tup av
  refine ⟨p, xs, rfl, .inr (w.jh.t hl), fun l hn => ?_⟩
  have t := w.new (o := .lst xs) hn
  exact q _ _ _ _ (t.wf w) t rfl (.lst upd_same (t.jj.das hd))
def rAbs : List V → Hp → VK → Prop := fun xs H Q => ∃ i, xs = [.int i] ∧ Q (.int (if i < 0 then -i else i)) H
theorem cd_abs : CbD K M rAbs [.int i] (· = .int (if i < 0 then -i else i)) := fun vs J H w a Q q => by
  obtain ⟨v, rfl, av⟩ := das_one a
  exact ⟨i, by rw [da_int av], q _ _ J H w w.tr rfl (.int _)⟩
def rInt1 : List V → Hp → VK → Prop := fun xs H Q => (∃ i, xs = [.int i] ∧ Q (.int i) H) ∨ ∃ k, xs = [.bl k] ∧ Q (.int (if k then 1 else 0)) H
theorem cd_int : CbD K M rInt1 [.int i] (· = .int i) := fun vs J H w a Q q => by
  obtain ⟨v, rfl, av⟩ := das_one a
  exact .inl ⟨i, by rw [da_int av], q _ _ J H w w.tr rfl (.int _)⟩
/-- repr -/
def rRepr (K : PySem.W.Frag) : List V → Hp → VK → Prop := fun xs H Q => ∃ x d, xs = [x] ∧ Dp K H x d ∧ d.showable = true ∧ d.shown.length ≤ sizeLine ∧ d.depth ≤ 60 ∧ Q (.str d.shown) H
theorem cd_repr (h1 : d.showable = true) (h2 : d.shown.length ≤ sizeLine) (h3 : d.depth ≤ 60) : CbD K M (rRepr K) [d] (· = .str d.shown) := fun vs J H w a Q q => by
  obtain ⟨v, rfl, av⟩ := das_one a
  exact ⟨v, d, rfl, av.dp w.jh, h1, h2, h3, q _ _ J H w w.tr rfl (.str _)⟩
/-- + of numbers, of tuples, of lists, of texts -/
def rPlus (K : PySem.W.Frag) : R2 := fun x y H Q => (rI0 fun i j => .int (i + j)) x y H Q ∨ rCatA K x y H Q ∨ rCat x y H Q ∨ ∃ i j, x = .str i ∧ y = .str j ∧ i.length + j.length ≤ sizeLine ∧ Q (.str (i ++ j)) H
theorem od_plus : OpD K M (rPlus K) (.int i) (.int j) (· = .int (i + j)) := fun x y J H w ax ay Q q => .inl (od_add x y J H w ax ay Q q)
theorem od_plusT {ds es : List PyData} (h : ds.length + es.length ≤ sizeLine) : OpD K M (rPlus K) (.tuple ds) (.tuple es) (· = .tuple (ds ++ es)) := fun x y J H w ax ay Q q => by
  obtain ⟨a, xs, rfl, hl, hd⟩ := da_tup ax
  obtain ⟨b, ys, rfl, hl2, hd2⟩ := da_tup ay
  refine .inr (.inl ⟨a, b, xs, ys, rfl, rfl, w.jh.t hl, w.jh.t hl2, by rw [das_len hd, das_len hd2]; exact h, fun e => ?_, fun _ e => ?_, fun _ _ l hn => ?_⟩)
  · subst e
    cases hd
    exact q _ _ J H w w.tr rfl ay
  · subst e
    cases hd2
    rw [List.append_nil] at q
    exact q _ _ J H w w.tr rfl ax
  · have t := w.new (o := .tup (xs ++ ys)) hn
    exact q _ _ _ _ (t.wf w) t rfl (.tup (.of upd_same) (t.jj.das (das_app hd hd2)))
theorem od_plusL {ds es : List PyData} (h : ds.length + es.length ≤ sizeLine) : OpD K M (rPlus K) (.list ds) (.list es) (· = .list (ds ++ es)) := fun x y J H w ax ay Q q => by
  obtain ⟨a, xs, rfl, hl, hd⟩ := da_lst ax
  obtain ⟨b, ys, rfl, hl2, hd2⟩ := da_lst ay
  refine .inr (.inr (.inl ⟨a, b, xs, ys, rfl, rfl, w.jh _ _ hl, w.jh _ _ hl2, by rw [das_len hd, das_len hd2]; exact h, fun l hn => ?_⟩))
  have t := w.new (o := .lst (xs ++ ys)) hn
  exact q _ _ _ _ (t.wf w) t rfl (.lst upd_same (t.jj.das (das_app hd hd2)))
theorem od_plusS {x y : Str} (h : x.length + y.length ≤ sizeLine) : OpD K M (rPlus K) (.str x) (.str y) (· = .str (x ++ y)) := fun a b J H w ax ay Q q =>
  .inr (.inr (.inr ⟨x, y, da_str ax, da_str ay, h, q _ _ J H w w.tr rfl (.str _)⟩))

/-! ### what a loop goes over -/
structure WalkD (K : PySem.W.Frag) (A : L2.It) (J : Hp) (ds : List PyData) : Prop where
  go : ∀ i H, i < ds.length → Sub J H → A.go i H
  stop : ∀ H, Sub J H → A.stop ds.length H
  yld : ∀ i H x H' d, ds[i]? = some d → Sub J H → A.yld i H x H' → (H' = H ∧ Da K J x d) ∨ ∃ T xs es, x = .ref T ∧ H T = none ∧ H' = upd H T (.tup xs) ∧ d = .tuple es ∧ Das K J xs es
def EvW (K : PySem.W.Frag) (M : Md) (wi : TI) (σ : L2.St) (J H : Hp) (P : List PyData → Prop) : Prop :=
  ∀ J1 H1, Wf M J1 H1 → Tr M J H J1 H1 → ∀ R : L2.It → Hp → Prop, (∀ A ds J2 H2, Wf M J2 H2 → Tr M J1 H1 J2 H2 → P ds → WalkD K A J2 ds → R A H2) → wi σ H1 R
theorem ew_list {Pl : List PyData → Prop} (h : EvP K M te σ J H fun d => ∃ ds, d = .list ds ∧ Pl ds) : EvW K M (iList K te) σ J H Pl := fun J1 H1 w t R q =>
  h J1 H1 w t _ fun v d J2 H2 w2 t2 ⟨ds, e, pl⟩ a => by
    subst e
    obtain ⟨p, xs, rfl, hl, hd⟩ := da_lst a
    refine ⟨p, rfl, ⟨xs, .of (w2.jh _ _ hl)⟩, q _ ds J2 H2 w2 t2 pl ⟨fun i G hi s => ?_, fun G s => ⟨xs, .of (s _ _ hl), by rw [das_len hd]; exact Nat.le_refl _⟩, fun i G x G' d hd' s y => ?_⟩⟩
    · have hi2 : i < xs.length := by rw [das_len hd]; exact hi
      exact ⟨xs, xs[i], .of (s _ _ hl), List.getElem?_eq_getElem hi2⟩
    · obtain ⟨e, y⟩ := y
      obtain ⟨d2, e2, a2⟩ := das_at hd (y xs (.of (s _ _ hl)))
      rw [hd'] at e2
      cases e2
      exact .inl ⟨e, a2⟩
theorem ew_listD {ds : List PyData} (h : EvD K M te σ J H (.list ds)) : EvW K M (iList K te) σ J H (· = ds) := ew_list (h.mono fun _ e => ⟨ds, e, rfl⟩)
theorem ew_tup {Pl : List PyData → Prop} (h : EvP K M te σ J H fun d => ∃ ds, d = .tuple ds ∧ Pl ds) : EvW K M (iTup K te) σ J H Pl := fun J1 H1 w t R q =>
  h J1 H1 w t _ fun v d J2 H2 w2 t2 ⟨ds, e, pl⟩ a => by
    subst e
    obtain ⟨p, xs, rfl, hl, hd⟩ := da_tup a
    refine ⟨p, rfl, ⟨xs, w2.jh.t hl⟩, q _ ds J2 H2 w2 t2 pl ⟨fun i G hi s => ?_, fun G s => ⟨xs, s.t hl, by rw [das_len hd]; exact Nat.le_refl _⟩, fun i G x G' d hd' s y => ?_⟩⟩
    · have hi2 : i < xs.length := by rw [das_len hd]; exact hi
      exact ⟨xs, xs[i], s.t hl, List.getElem?_eq_getElem hi2⟩
    · obtain ⟨e, y⟩ := y
      obtain ⟨d2, e2, a2⟩ := das_at hd (y xs (s.t hl))
      rw [hd'] at e2
      cases e2
      exact .inl ⟨e, a2⟩
theorem ew_tupD {ds : List PyData} (h : EvD K M te σ J H (.tuple ds)) : EvW K M (iTup K te) σ J H (· = ds) := ew_tup (h.mono fun _ e => ⟨ds, e, rfl⟩)
/-- 0, 1, .. -/
def upTo (n : Nat) : List PyData := (List.range n).map fun k => .int (k : Nat)
theorem upTo_at {n k : Nat} {d : PyData} (h : (upTo n)[k]? = some d) : d = .int k ∧ k < n := by
  unfold upTo at h
  rw [List.getElem?_map] at h
  by_cases hk : k < n
  · rw [List.getElem?_range hk] at h
    exact ⟨(Option.some.inj h).symm, hk⟩
  · rw [List.getElem?_eq_none (by simp; omega)] at h
    cases h
theorem upTo_len {n : Nat} : (upTo n).length = n := by unfold upTo; simp
theorem ew_range {Pn : Nat → Prop} (h : EvP K M te σ J H fun d => ∃ n : Nat, d = .int n ∧ n < 2 ^ 62 ∧ Pn n) : EvW K M (iRng1 (tCons te tNil)) σ J H fun ds => ∃ n : Nat, ds = upTo n ∧ Pn n := fun J1 H1 w t R q =>
  h J1 H1 w t _ fun v d J2 H2 w2 t2 ⟨n, e, hn, pn⟩ a => by
    subst e
    rw [da_int a]
    refine ⟨n, rfl, by omega, by omega, q _ (upTo n) J2 H2 w2 t2 ⟨n, rfl, pn⟩ ⟨fun i G hi s => ?_, fun G s => ?_, fun i G x G' d hd' s y => ?_⟩⟩
    · rw [upTo_len] at hi
      show i < (n : Int).toNat
      omega
    · show (n : Int).toNat ≤ _
      rw [upTo_len]; omega
    · obtain ⟨e1, e2⟩ := y
      obtain ⟨e3, _⟩ := upTo_at hd'
      rw [e3, e2]
      exact .inl ⟨e1, by rw [Int.zero_add]; exact .int _⟩
theorem ew_rangeD {n : Nat} (h : EvD K M te σ J H (.int n)) (hn : n < 2 ^ 62) : EvW K M (iRng1 (tCons te tNil)) σ J H (· = upTo n) := fun J1 H1 w t R q =>
  ew_range (Pn := (· = n)) (h.mono fun _ e => ⟨n, e, hn, rfl⟩) J1 H1 w t R fun A ds J2 H2 w2 t2 ⟨m, e, em⟩ wd => q A ds J2 H2 w2 t2 (by rw [e, em]) wd

/-! ### a comprehension -/
theorem ev_lc {k : Nat} {wi : TI} {tt : TT} {vs : List Nat} {Pw : List PyData → Prop} (I : List PyData → Nat → List PyData → Prop) (hw : EvW K M wi σ J H Pw) (hz : ∀ ds, Pw ds → ds.length < sizeLine) (h0 : ∀ ds, Pw ds → I ds 0 [])
    (hv : ∀ x, wipe ((wipe σ vs).set k (some x)) vs = wipe σ vs)
    (hs : ∀ ds i d acc x J1 H1, Pw ds → ds[i]? = some d → I ds i acc → Wf M J1 H1 → Tr M J H J1 H1 → Da K J1 x d → ∃ Pb : Bool → Prop, EvT M tt ((wipe σ vs).set k (some x)) J1 H1 Pb ∧
      (Pb false → I ds (i + 1) acc) ∧ (Pb true → EvP K M te ((wipe σ vs).set k (some x)) J1 H1 fun e => I ds (i + 1) (acc ++ [e])))
    (hd : ∀ ds acc, Pw ds → I ds ds.length acc → P (.list acc)) : EvP K M (tLc wi (gName k) tt te vs) σ J H P := fun J1 H1 w t Q q =>
  hw J1 H1 w t _ fun A ds J2 H2 w2 t2 pw wd => by
    intro D hD
    have nfD : ¬ M.fp D := w2.nofp hD
    refine ⟨fun i m G => m = ds.length - i ∧ i ≤ ds.length ∧ ∃ J' acc ys, Wf M J' G ∧ Tr M J2 H2 J' G ∧ G D = some (.lst ys) ∧ J' D = none ∧ Das K J' ys acc ∧ ys.length ≤ i ∧ I ds i acc,
      ⟨ds.length, rfl, Nat.zero_le _, J2, [], [], (w2.cell hD).wf w2, w2.cell hD, upd_same, w2.jh.back hD, .nil, Nat.le_refl _, h0 ds pw⟩, ?_⟩
    rintro i m G ⟨rfl, hi, J', acc, ys, w', t', hG, jD, ha, hl, hI⟩
    by_cases hlt : i < ds.length
    · refine .inr ⟨wd.go i G hlt (t'.jj.trans t'.jh), fun G' => ∃ J' acc ys, Wf M J' G' ∧ Tr M J2 H2 J' G' ∧ G' D = some (.lst ys) ∧ J' D = none ∧ Das K J' ys acc ∧ ys.length ≤ i + 1 ∧ I ds (i + 1) acc,
        fun G' h' => ⟨_, by omega, rfl, hlt, h'⟩, fun x G' y => ?_⟩
      have hdi : ds[i]? = some ds[i] := List.getElem?_eq_getElem hlt
      have key : ∀ J3 G3, Wf M J3 G3 → Tr M J2 H2 J3 G3 → G3 D = some (.lst ys) → J3 D = none → Das K J3 ys acc → Da K J3 x ds[i] →
          gName k x (wipe σ vs) G3 fun σ2 H2' => wipe σ2 vs = wipe σ vs ∧ tt σ2 H2' fun b H3 => if b = true then te σ2 H3 fun y H4 => ∃ acc, H4 D = some (.lst acc) ∧ acc.length < sizeLine ∧
            (∃ J' acc' ys, Wf M J' (upd H4 D (.lst (acc ++ [y]))) ∧ Tr M J2 H2 J' (upd H4 D (.lst (acc ++ [y]))) ∧ (upd H4 D (.lst (acc ++ [y]))) D = some (.lst ys) ∧ J' D = none ∧ Das K J' ys acc' ∧ ys.length ≤ i + 1 ∧ I ds (i + 1) acc')
            else ∃ J' acc ys, Wf M J' H3 ∧ Tr M J2 H2 J' H3 ∧ H3 D = some (.lst ys) ∧ J' D = none ∧ Das K J' ys acc ∧ ys.length ≤ i + 1 ∧ I ds (i + 1) acc := by
        intro J3 G3 w3 t3 hG3 jD3 ha3 ax
        obtain ⟨Pb, hb, hf, ht⟩ := hs ds i _ acc x J3 G3 pw hdi hI w3 ((t.trans t2).trans t3) ax
        refine ⟨hv x, hb J3 G3 w3 w3.tr _ fun b J4 G4 w4 t4 pb => ?_⟩
        cases b with
        | false => exact ⟨J4, acc, ys, w4, t3.trans t4, t4.keep D _ nfD hG3, t4.cellj hG3 jD3, t4.jj.das ha3, by omega, hf pb⟩
        | true =>
          refine ht pb J4 G4 w4 t4 _ fun y e J5 G5 w5 t5 pe ae => ?_
          have t35 := t4.trans t5
          have jD5 := t35.cellj hG3 jD3
          have zz := hz ds pw
          refine ⟨ys, t35.keep D _ nfD hG3, by omega, J5, acc ++ [e], ys ++ [y], ((t3.trans t35).put w2 hD jD5).wf w2, (t3.trans t35).put w2 hD jD5, upd_same, jD5, das_app (t35.jj.das ha3) (.cons ae .nil), ?_, pe⟩
          rw [List.length_append]; simp only [List.length_cons, List.length_nil]; omega
      rcases wd.yld i G x G' _ hdi (t'.jj.trans t'.jh) y with ⟨rfl, ax⟩ | ⟨T, xs, es, rfl, hT, rfl, ed, hes⟩
      · exact key J' G' w' t' hG jD ha (t'.jj.da ax)
      · have tn := w'.new (o := .tup xs) hT
        refine key _ _ (tn.wf w') (t'.trans tn) (tn.keep D _ nfD hG) (tn.cellj hG jD) (tn.jj.das ha) ?_
        rw [ed]
        exact .tup (.of upd_same) (tn.jj.das (t'.jj.das hes))
    · have e : i = ds.length := by omega
      subst e
      have ti := t'.ice hD jD hG
      exact .inl ⟨wd.stop G (t'.jj.trans t'.jh), q _ _ _ G (ti.wf w2) (t2.trans ti) (hd ds acc pw hI) (.lst upd_same ((Sub.new jD).das ha))⟩
/-- a plain one: each thing makes one, told by f -/
theorem ev_lcMap {k : Nat} {wi : TI} {vs : List Nat} {ds : List PyData} {f : PyData → PyData} (hw : EvW K M wi σ J H (· = ds)) (hz : ds.length < sizeLine)
    (hv : ∀ x, wipe ((wipe σ vs).set k (some x)) vs = wipe σ vs)
    (hs : ∀ d x J1 H1, d ∈ ds → Wf M J1 H1 → Tr M J H J1 H1 → Da K J1 x d → EvD K M te ((wipe σ vs).set k (some x)) J1 H1 (f d)) : EvD K M (tLc wi (gName k) tYes te vs) σ J H (.list (ds.map f)) := by
  refine ev_lc (fun ds' i acc => acc = (ds.take i).map f) hw (fun _ e => by rw [e]; exact hz) (fun _ _ => rfl) hv (fun ds' i d acc x J1 H1 e hdi hI w t a => ⟨(· = true), et_yes, (fun h => by cases h), fun _ => ?_⟩) fun ds' acc e h => ?_
  · subst e
    refine (hs d x J1 H1 (List.mem_of_getElem? hdi) w t a).mono fun e he => ?_
    rw [hI, he, List.take_add_one, hdi]
    simp
  · rw [h, e, List.take_length]
theorem ev_lcFilter {k : Nat} {wi : TI} {tt : TT} {vs : List Nat} {ds : List PyData} {f : PyData → PyData} {c : PyData → Bool} (hw : EvW K M wi σ J H (· = ds)) (hz : ds.length < sizeLine)
    (hv : ∀ x, wipe ((wipe σ vs).set k (some x)) vs = wipe σ vs)
    (hc : ∀ d x J1 H1, d ∈ ds → Wf M J1 H1 → Tr M J H J1 H1 → Da K J1 x d → EvT M tt ((wipe σ vs).set k (some x)) J1 H1 (· = c d))
    (hs : ∀ d x J1 H1, d ∈ ds → c d = true → Wf M J1 H1 → Tr M J H J1 H1 → Da K J1 x d → EvD K M te ((wipe σ vs).set k (some x)) J1 H1 (f d)) : EvD K M (tLc wi (gName k) tt te vs) σ J H (.list ((ds.filter c).map f)) := by
  refine ev_lc (fun ds' i acc => acc = ((ds.take i).filter c).map f) hw (fun _ e => by rw [e]; exact hz) (fun _ _ => rfl) hv (fun ds' i d acc x J1 H1 e hdi hI w t a => ⟨(· = c d), hc d x J1 H1 (by rw [← e]; exact List.mem_of_getElem? hdi) w t a, fun h => ?_, fun h => ?_⟩) fun ds' acc e h => ?_
  · subst e
    rw [hI, List.take_add_one, hdi]
    simp [← h]
  · subst e
    refine (hs d x J1 H1 (List.mem_of_getElem? hdi) h.symm w t a).mono fun e he => ?_
    rw [hI, he, List.take_add_one, hdi]
    simp [← h]
  · rw [h, e, List.take_length]
end
end DL

/-! Statements: (J0, H0) is where the def began, (J, H) where it stands. -/
namespace DL
open PySem PySem.Spec
open PyProof.Rows L2
section
variable {K : PySem.W.Frag} {M : Md} {σ : L2.St} {J H J' H' J0 H0 J1 H1 : Hp} {ta tb te tc : TE} {t u : TT} {ts tu tw : TS} {r r' : R2} {P P' Px Py Pz : PyData → Prop} {d dx dy : PyData} {v : V} {i j : Int} {p : Addr} {o : HO} {D : Ends} {tb' : TS}
theorem s_asg {k : Nat} (w : Wf M J H) (h : EvP K M te σ J H P) (q : ∀ v d J1 H1, Wf M J1 H1 → Tr M J H J1 H1 → P d → Da K J1 v d → D.nx (σ.set k (some v)) H1) : tAsg te (gName k) D σ H := h J H w w.tr _ q
theorem s_ret (w : Wf M J H) (h : EvP K M te σ J H P) (q : ∀ v d J1 H1, Wf M J1 H1 → Tr M J H J1 H1 → P d → Da K J1 v d → D.rt v H1) : tRet te D σ H := h J H w w.tr _ q
theorem s_drop (w : Wf M J H) (h : EvP K M te σ J H P) (q : ∀ J1 H1, Wf M J1 H1 → Tr M J H J1 H1 → D.nx σ H1) : tDrop te D σ H := h J H w w.tr _ fun v d J1 H1 w1 t1 _ _ => q J1 H1 w1 t1
theorem s_if {Pb : Bool → Prop} {c : TT} (w : Wf M J H) (h : EvT M c σ J H Pb) (q1 : Pb true → ∀ J1 H1, Wf M J1 H1 → Tr M J H J1 H1 → tu D σ H1) (q2 : Pb false → ∀ J1 H1, Wf M J1 H1 → Tr M J H J1 H1 → tw D σ H1) : tIfS c tu tw D σ H :=
  h J H w w.tr _ fun b J1 H1 w1 t1 pb => by
    cases b with
    | true => exact q1 pb J1 H1 w1 t1
    | false => exact q2 pb J1 H1 w1 t1
/-- a, b = e1, e2 -/
theorem s_par {k l : Nat} {ta : TA} {Pa : List PyData → Prop} (w : Wf M J H) (h : EvA K M ta σ J H Pa) (q : ∀ ds, Pa ds → ∃ d e, ds = [d, e] ∧ ∀ v u J1 H1, Wf M J1 H1 → Tr M J H J1 H1 → Da K J1 v d → Da K J1 u e → D.nx ((σ.set k (some v)).set l (some u)) H1) : tPar k l ta D σ H :=
  h J H w w.tr _ fun vs ds J1 H1 w1 t1 pa a => by
    obtain ⟨d, e, rfl, q⟩ := q ds pa
    cases a with
    | cons a b =>
      obtain ⟨u, rfl, b2⟩ := das_one b
      exact ⟨_, _, rfl, q _ _ J1 H1 w1 t1 a b2⟩
theorem s_par3 {k l m : Nat} {ta : TA} {Pa : List PyData → Prop} (w : Wf M J H) (h : EvA K M ta σ J H Pa)
    (q : ∀ ds, Pa ds → ∃ d e f, ds = [d, e, f] ∧ ∀ v u x J1 H1, Wf M J1 H1 → Tr M J H J1 H1 → Da K J1 v d → Da K J1 u e → Da K J1 x f → D.nx (((σ.set k (some v)).set l (some u)).set m (some x)) H1) : tPar3 k l m ta D σ H :=
  h J H w w.tr _ fun vs ds J1 H1 w1 t1 pa a => by
    obtain ⟨d, e, f, rfl, q⟩ := q ds pa
    cases a with
    | cons a b =>
      cases b with
      | cons b c =>
        obtain ⟨u, rfl, c2⟩ := das_one c
        exact ⟨_, _, _, rfl, q _ _ _ J1 H1 w1 t1 a b c2⟩
/-- a, b = e, e a tuple -/
theorem s_tup2 {k l : Nat} {ds : List PyData} (w : Wf M J H) (h : EvP K M te σ J H fun d => ∃ x y, d = .tuple [x, y] ∧ P x ∧ P' y) (q : ∀ v u x y J1 H1, Wf M J1 H1 → Tr M J H J1 H1 → P x → P' y → Da K J1 v x → Da K J1 u y → D.nx ((σ.set k (some v)).set l (some u)) H1) :
    tAsg te (gTup K 2 (gCons (gName k) (gCons (gName l) gNil))) D σ H := h J H w w.tr _ fun v d J1 H1 w1 t1 ⟨x, y, e, px, py⟩ a => by
  subst e
  obtain ⟨c, xs, rfl, ht, hd⟩ := da_tup a
  cases hd with
  | cons a1 b =>
    obtain ⟨u, rfl, b2⟩ := das_one b
    exact ⟨c, _, rfl, w1.jh.t ht, rfl, _, _, rfl, _, _, rfl, rfl, q _ _ x y J1 H1 w1 t1 px py a1 b2⟩
/-- xs = [], a list of one's own to be filled -/
theorem s_cell {k : Nat} (w : Wf M J H) (q : ∀ p, H p = none → Wf M J (upd H p (.lst [])) → Tr M J H J (upd H p (.lst [])) → D.nx (σ.set k (some (.ref p))) (upd H p (.lst []))) : tAsg (tLst tNil) (gName k) D σ H :=
  ⟨Nat.zero_le _, fun p hp => q p hp ((w.cell hp).wf w) (w.cell hp)⟩
/-- such a list, e behind it -/
theorem s_app {k : Nat} {ys : List V} (w0 : Wf M J0 H0) (t0 : Tr M J0 H0 J H) (hp : H0 p = none) (jp : J p = none) (hs : σ[k]? = some (some (.ref p))) (hH : H p = some (.lst ys)) (hl : ys.length < sizeLine) (h : EvP K M te σ J H P)
    (q : ∀ v d J1 H1, Wf M J1 H1 → Tr M J0 H0 J1 H1 → Sub J J1 → J1 p = none → H1 p = some (.lst (ys ++ [v])) → (∀ a o, a ≠ p → ¬ M.fp a → H a = some o → H1 a = some o) → (∀ a, H a ≠ none → J a = none → J1 a = none) → P d → Da K J1 v d → D.nx σ H1) : tDrop (tBM K "list" rAppend (tVar k) (tCons te tNil)) D σ H := by
  have nf : ¬ M.fp p := w0.nofp hp
  refine ⟨.ref p, hs, .inl ⟨rfl, ys, .of hH⟩, h J H (t0.wf w0) (t0.wf w0).tr _ fun v d J1 H1 w1 t1 pd a => ?_⟩
  have jp1 := t1.cellj hH jp
  have t2 := (t0.trans t1).put (o := .lst (ys ++ [v])) w0 hp jp1
  refine ⟨p, ys, v, rfl, rfl, t1.keep p _ nf hH, hl, q v d J1 _ (t2.wf w0) t2 t1.jj jp1 upd_same (fun a o ne n e => ?_) t1.fr pd a⟩
  rw [upd_ne ne]; exact t1.keep a o n e
/-- what is reached behind a turn -/
def Nxt (M : Md) (J0 H0 J2 : Hp) (I : L2.St → Hp → Hp → Prop) : L2.St → Hp → Prop := fun σ H => ∃ J, Wf M J H ∧ Tr M J0 H0 J H ∧ Sub J2 J ∧ I σ J H
theorem s_for {k : Nat} {wi : TI} {Pw : List PyData → Prop} (I : List PyData → Nat → L2.St → Hp → Hp → Prop) (w0 : Wf M J0 H0) (t0 : Tr M J0 H0 J H) (hw : EvW K M wi σ J H Pw)
    (h0 : ∀ ds J2 H2, Pw ds → Wf M J2 H2 → Tr M J H J2 H2 → I ds 0 σ J2 H2)
    (hn : ∀ ds i σ' J' H' T xs, I ds i σ' J' H' → H' T = none → I ds i σ' (upd J' T (.tup xs)) (upd H' T (.tup xs)))
    (hs : ∀ ds i d x σ' J2 J' H', Pw ds → ds[i]? = some d → Wf M J' H' → Tr M J0 H0 J' H' → Sub J J2 → Sub J2 J' → I ds i σ' J' H' → Da K J' x d →
      tb' { D with nx := Nxt M J0 H0 J2 (I ds (i + 1)), ct := Nxt M J0 H0 J2 (I ds (i + 1)), bk := D.nx } (σ'.set k (some x)) H')
    (hd : ∀ ds σ' J' H', Pw ds → Wf M J' H' → Tr M J0 H0 J' H' → Sub J J' → I ds ds.length σ' J' H' → D.nx σ' H') : tFor wi (gName k) tb' D σ H :=
  hw J H (t0.wf w0) (t0.wf w0).tr _ fun A ds J2 H2 w2 t2 pw wd => by
    refine ⟨fun i m σ' G => m = ds.length - i ∧ i ≤ ds.length ∧ Nxt M J0 H0 J2 (I ds i) σ' G, ⟨_, rfl, Nat.zero_le _, J2, w2, t0.trans t2, .refl _, h0 ds J2 H2 pw w2 t2⟩, ?_⟩
    rintro i m σ' G ⟨rfl, hi, J', w', t', s', hI⟩
    by_cases hlt : i < ds.length
    · refine .inr ⟨wd.go i G hlt (s'.trans w'.jh), Nxt M J0 H0 J2 (I ds (i + 1)), fun σ2 G' h' => ⟨_, by omega, rfl, hlt, h'⟩, fun x G' y => ?_⟩
      have hdi : ds[i]? = some ds[i] := List.getElem?_eq_getElem hlt
      rcases wd.yld i G x G' _ hdi (s'.trans w'.jh) y with ⟨rfl, ax⟩ | ⟨T, xs, es, rfl, hT, rfl, ed, hes⟩
      · exact hs ds i _ x σ' J2 J' G' pw hdi w' t' t2.jj s' hI (s'.da ax)
      · have tn := w'.new (o := .tup xs) hT
        refine hs ds i _ _ σ' J2 _ _ pw hdi (tn.wf w') (t'.trans tn) t2.jj (s'.trans tn.jj) (hn ds i σ' J' G T xs hI hT) ?_
        rw [ed]
        exact .tup (.of upd_same) (tn.jj.das (s'.das hes))
    · have e : i = ds.length := by omega
      subst e
      exact .inl ⟨wd.stop G (s'.trans w'.jh), hd ds σ' J' G pw w' t' (t2.jj.trans s') hI⟩
theorem s_for2 {k l : Nat} {wi : TI} {Pw : List PyData → Prop} (I : List PyData → Nat → L2.St → Hp → Hp → Prop) (w0 : Wf M J0 H0) (t0 : Tr M J0 H0 J H) (hw : EvW K M wi σ J H Pw)
    (hz : ∀ ds, Pw ds → ∀ d ∈ ds, ∃ x y, d = .tuple [x, y])
    (h0 : ∀ ds J2 H2, Pw ds → Wf M J2 H2 → Tr M J H J2 H2 → I ds 0 σ J2 H2)
    (hn : ∀ ds i σ' J' H' T xs, I ds i σ' J' H' → H' T = none → I ds i σ' (upd J' T (.tup xs)) (upd H' T (.tup xs)))
    (hs : ∀ ds i d e x y σ' J2 J' H', Pw ds → ds[i]? = some (.tuple [d, e]) → Wf M J' H' → Tr M J0 H0 J' H' → Sub J J2 → Sub J2 J' → I ds i σ' J' H' → Da K J' x d → Da K J' y e →
      tb' { D with nx := Nxt M J0 H0 J2 (I ds (i + 1)), ct := Nxt M J0 H0 J2 (I ds (i + 1)), bk := D.nx } ((σ'.set k (some x)).set l (some y)) H')
    (hd : ∀ ds σ' J' H', Pw ds → Wf M J' H' → Tr M J0 H0 J' H' → Sub J J' → I ds ds.length σ' J' H' → D.nx σ' H') : tFor wi (gTup K 2 (gCons (gName k) (gCons (gName l) gNil))) tb' D σ H :=
  hw J H (t0.wf w0) (t0.wf w0).tr _ fun A ds J2 H2 w2 t2 pw wd => by
    refine ⟨fun i m σ' G => m = ds.length - i ∧ i ≤ ds.length ∧ Nxt M J0 H0 J2 (I ds i) σ' G, ⟨_, rfl, Nat.zero_le _, J2, w2, t0.trans t2, .refl _, h0 ds J2 H2 pw w2 t2⟩, ?_⟩
    rintro i m σ' G ⟨rfl, hi, J', w', t', s', hI⟩
    by_cases hlt : i < ds.length
    · refine .inr ⟨wd.go i G hlt (s'.trans w'.jh), Nxt M J0 H0 J2 (I ds (i + 1)), fun σ2 G' h' => ⟨_, by omega, rfl, hlt, h'⟩, fun x G' y => ?_⟩
      have hdi : ds[i]? = some ds[i] := List.getElem?_eq_getElem hlt
      obtain ⟨dx, dy, edi⟩ := hz ds pw _ (List.getElem_mem hlt)
      rw [edi] at hdi
      have key : ∀ J3 G3, Wf M J3 G3 → Tr M J0 H0 J3 G3 → Sub J2 J3 → I ds i σ' J3 G3 → Da K J3 x (.tuple [dx, dy]) →
          gTup K 2 (gCons (gName k) (gCons (gName l) gNil)) x σ' G3 fun σ2 H2 => tb' { D with nx := Nxt M J0 H0 J2 (I ds (i + 1)), ct := Nxt M J0 H0 J2 (I ds (i + 1)), bk := D.nx } σ2 H2 := by
        intro J3 G3 w3 t3 s3 hI3 ax
        obtain ⟨c, ys, rfl, ht, hd⟩ := da_tup ax
        cases hd with
        | cons a1 b =>
          obtain ⟨u, rfl, b2⟩ := das_one b
          exact ⟨c, _, rfl, w3.jh.t ht, rfl, _, _, rfl, _, _, rfl, rfl, hs ds i dx dy _ _ σ' J2 J3 G3 pw hdi w3 t3 t2.jj s3 hI3 a1 b2⟩
      rcases wd.yld i G x G' _ hdi (s'.trans w'.jh) y with ⟨rfl, ax⟩ | ⟨T, xs, es, rfl, hT, rfl, ed, hes⟩
      · exact key J' G' w' t' s' hI (s'.da ax)
      · have tn := w'.new (o := .tup xs) hT
        refine key _ _ (tn.wf w') (t'.trans tn) (s'.trans tn.jj) (hn ds i σ' J' G T xs hI hT) ?_
        rw [ed]
        exact .tup (.of upd_same) (tn.jj.das (s'.das hes))
    · have e : i = ds.length := by omega
      subst e
      exact .inl ⟨wd.stop G (s'.trans w'.jh), hd ds σ' J' G pw w' t' (t2.jj.trans s') hI⟩
/-- while: I by a number that falls -/
theorem s_while {c : TT} (I : Nat → L2.St → Hp → Hp → Prop) (w0 : Wf M J0 H0) (t0 : Tr M J0 H0 J H) (h0 : ∃ m, I m σ J H)
    (hs : ∀ m σ' J' H', Wf M J' H' → Tr M J0 H0 J' H' → Sub J J' → I m σ' J' H' → ∃ Pb : Bool → Prop, EvT M c σ' J' H' Pb ∧
      (Pb true → ∀ J1 H1, Wf M J1 H1 → Tr M J' H' J1 H1 → tb' { D with nx := Nxt M J0 H0 J fun σ J H => ∃ m', m' < m ∧ I m' σ J H, ct := Nxt M J0 H0 J fun σ J H => ∃ m', m' < m ∧ I m' σ J H, bk := D.nx } σ' H1) ∧
      (Pb false → ∀ J1 H1, Wf M J1 H1 → Tr M J' H' J1 H1 → D.nx σ' H1)) : tWhile c tb' D σ H := by
  obtain ⟨m0, i0⟩ := h0
  refine ⟨fun m σ' G => Nxt M J0 H0 J (I m) σ' G, ⟨m0, J, t0.wf w0, t0, .refl _, i0⟩, ?_⟩
  rintro m σ' G ⟨J', w', t', s', hI⟩
  obtain ⟨Pb, hc, h1, h2⟩ := hs m σ' J' G w' t' s' hI
  refine hc J' G w' w'.tr _ fun b J1 H1 w1 t1 pb => ?_
  cases b with
  | true => exact ⟨_, fun σ2 G2 ⟨J2, a1, a2, a3, m', lt, a4⟩ => ⟨m', lt, J2, a1, a2, a3, a4⟩, h1 pb J1 H1 w1 t1⟩
  | false => exact h2 pb J1 H1 w1 t1
end
end DL

/-! Defs that tell texts of objects: they are called where no such text is being told. -/
namespace DL
open PySem PySem.Spec
open PyProof.Rows L2
mutual
theorem dp_nd {K : PySem.W.Frag} {H : Hp} : ∀ {d : PyData} {v : V}, Dp K H v d → d.hasDict = false
  | .none, _, _ => by simp only [PyData.hasDict]
  | .bool _, _, _ => by simp only [PyData.hasDict]
  | .int _, _, _ => by simp only [PyData.hasDict]
  | .str _, _, _ => by simp only [PyData.hasDict]
  | .list ds, _, h => by
    cases h with
    | lst _ b => simp only [PyData.hasDict]; exact dps_nd b
  | .tuple ds, _, h => by
    cases h with
    | tup _ b => simp only [PyData.hasDict]; exact dps_nd b
  | .dict _, _, h => by cases h
theorem dps_nd {K : PySem.W.Frag} {H : Hp} : ∀ {ds : List PyData} {vs : List V}, DpAll K H vs ds → PyData.hasDictAll ds = false
  | [], _, _ => by simp only [PyData.hasDictAll]
  | _ :: _, _, h => by
    cases h with
    | cons a b => simp only [PyData.hasDictAll]; rw [dp_nd a, dps_nd b]; rfl
end
structure FnG (P : Program) (w : World) (K : PySem.W.Frag) (mg : Str → Option Value) (base : Heap) (CX : CXT) (k : Nat) (f : Addr) (fd : FuncData) (ps : List Str) (sp : Sp) : Prop where
  siz : ∀ vs H Q E, sp vs H Q E → vs.length = ps.length
  go : ∀ (A : Around) (out : List Env) (s : Shared) (H : Hp) (ar : Args) (us : List Value) (vs : List V) (Q : VK) (E : XK), A.guards = some [] → Room k A → Env0 P w K mg base A out s H → BindsTo s fd ar (ps.zip us) → Vals vs us → sp vs H Q E → codeAny (model P w) A (.call (.ref f) ar) (CR CX out P w H s Q E) s
section
variable {P : Program} {w : World} {K : PySem.W.Frag} {mg : Str → Option Value} {base : Heap} {CX : CXT} {k : Nat} {f : Addr} {fd : FuncData} {ps : List Str} {sp : Sp}
theorem FnG.of (F : FnOk P w K mg base CX k f fd ps sp) : FnG P w K mg base CX k f fd ps sp := ⟨F.len, fun A out s H ar us vs Q E _ => F.run A out s H ar us vs Q E⟩
theorem FnG.more {j : Nat} (F : FnG P w K mg base CX j f fd ps sp) (h : j ≤ k) : FnG P w K mg base CX k f fd ps sp := ⟨F.siz, fun A out s H ar us vs Q E g hr => F.go A out s H ar us vs Q E g (hr.mono h)⟩
/-- a def by its body -/
theorem fn_g {x qual : Str} {params : Arguments} {body : List Stmt} {scope : Scope} {dvs : List V} {kws : List (Str × V)} {N : List Str} (F : FunD K x qual params body scope dvs kws f fd) (S : FnScope N ps scope) (len : ∀ vs H Q E, sp vs H Q E → vs.length = ps.length)
    (hb : ∀ (cdv : Value) (A : Around) (out : List Env) (s : Shared) (H : Hp) (vs : List V) (Q : VK) (E : XK), A.guards = some [] → Room k (A.deeper (envOfC qual scope s.heap.objs.size f cdv)) → sp vs H Q E →
      ∃ t, PSs (cxOf CX P w K mg base N qual scope f cdv A out s H E) body t ∧ t { nx := fun _ H' => Q .non H', rt := Q } (start N vs) H) : FnG P w K mg base CX (k + 1) f fd ps sp := by
  obtain ⟨oc, od, dV, kV, doc, pm, an, cdv, ct, osl, e, lk, hcd, _, _⟩ := F.ex
  subst e
  refine ⟨len, fun A out s H ar us vs Q E g hr e0 bd r hsp => ?_⟩
  have KX : K.In s.heap := e0.mod.kin.keeps fun b o q => (e0.bs b o q).1
  have nl : s.heap.NoLimit := e0.mod.nolimit.keeps fun b o q => (e0.bs b o q).1
  have nk : ∀ y ∈ ps.zip us, scope.names.lookup y.1 = some .local ∨ (scope.names.lookup y.1 = some .cell ∧ ((cellsFrom (s.heap.objs.size + 1) scope.names []).lookup y.1).isSome = true) := by
    rintro ⟨n, v⟩ hy
    exact (S.par n (List.of_mem_zip hy).1).imp id fun q => ⟨q, PySem.W.cellsFrom_some _ _ _ (.inl q)⟩
  refine codeAny_call_function hr.depth (KX _ _ lk) rfl S.co S.gen rfl (PySem.W.codeRec_of KX hcd) (bd _ _ _ _ (wpAny_newFunctionEnv_cells S.kind nk fun env he s1 x => ?_))
  cases he
  refine ⟨nl.keeps x.toInCall.keep, codeAny_func ?_⟩
  obtain ⟨t, ht, hq⟩ := hb cdv A out s H vs Q E g (hr.deeper _) hsp
  refine wpAny_mono (ht.run [] s1 (start N vs) H _ (inv_start S hr.hd e0 (len _ _ _ _ hsp) r x) hq) (fun fl s' hs => ?_) fun _ _ z => z
  cases fl with
  | ret u => obtain ⟨v, σ', H', I, rv, q⟩ := hs; exact ⟨v, H', I.os, I.bare, I.base, I.hok, rv, q⟩
  | next => obtain ⟨σ', H', I, q⟩ := hs; exact ⟨V.non, H', I.os, I.bare, I.base, I.hok, rfl, q⟩
  | brk => exact hs.elim fun _ h => h.elim fun _ h => h.2.elim
  | cont => exact hs.elim fun _ h => h.elim fun _ h => h.2.elim
end
section
variable {X : Cx} {CX : CXT} {k : Nat} {f : Addr} {fd : FuncData} {ps ks : List Str} {sp : Sp} {E : XK} {x : Str} {p pos : Pos} {e : Expr} {es : List Expr} {t tk : TA}
theorem go_g {pins : List (Addr × Obj)} {σ : L2.St} {H : Hp} {s : Shared} {Q : VK} {ar : Args} {us : List Value} {vs : List V} (F : FnG X.prog X.w X.K X.mg X.base CX k f fd ps sp) (hg : X.A.guards = some []) (hr : Room k X.A) (hx : Passes CX X E) (I : Inv X pins σ H s)
    (bd : BindsTo s fd ar (ps.zip us)) (r : Vals vs us) (h : sp vs H Q E) : wpAny (model X.prog X.w) X.A (call (.ref f) ar.pos ar.kw) (EP X pins σ Q) X.xe s :=
  wpAny_call (codeAny_mono (F.go X.A X.stack s H ar us vs Q E hg hr I.env0 bd r h) fun c s' hq => by
    cases c with
    | error er => exact hx pins σ H s er s' I hq
    | ok fl => cases fl <;> first | exact I.after hq | exact hq.elim)
theorem pe_callG {dvs : List V} {ds : List Value} (F : FnG X.prog X.w X.K X.mg X.base CX k f fd ps sp) (hA : X.A.guards = some []) (hr : Room k X.A) (hg : Gl X x) (hm : X.mg x = some (.ref f)) (hk : PySem.W.keepIn X.K (.ref f) = true) (hb : Binds X.K fd ps ds) (hd : Vals dvs ds)
    (hx : Passes CX X E) (ha : PA X (e :: es) t) (hdb : (x == ("__debug__" : Str)) = false := by decide) (he : starEach (e :: es) X.env = (false, eval e X.env) :: starEach es X.env := by rfl)
    (hpl : (backTo pos (starEach es X.env)).any (·.1) = false := by rfl) : PE X (.Call (.Name x p) (e :: es) [] pos) (tCall sp dvs E t) := by
  refine ⟨fun pins s σ H Q I h => wpAny_Call_Name_kw (ld_glob I hg hm ?_ hdb)⟩
  have args := thn (ha.run pos pins s σ H _ I h) fun ws sh ⟨zs, G, J, rz, told⟩ => (⟨J.kIn, go_g (ar := ⟨ws, []⟩) F hA hr hx J (hb sh ws J.kIn ((rz.append hd).length.symm.trans (F.siz _ _ _ _ told))) (rz.append hd) told⟩ : X.K.In sh.heap ∧ _)
  exact PySem.W.callWith_K (h₀ := X.base) I.ok.mod.kin hk args he hpl
theorem pe_callKG {g : List Value → List Value → List Value} {gV : List V → List V → List V} {kws : List Keyword} (F : FnG X.prog X.w X.K X.mg X.base CX k f fd ps sp) (hA : X.A.guards = some []) (hr : Room k X.A) (hg : Gl X x) (hm : X.mg x = some (.ref f))
    (hk : PySem.W.keepIn X.K (.ref f) = true) (hb : KBinds X.K fd ps ks g gV) (hx : Passes CX X E) (ha : PA X (e :: es) t) (hkw : PK X kws tk) (hall : (backToKw pos (keywordEach kws X.env)).all (·.1.isSome) = true := by rfl)
    (hks : (backToKw pos (keywordEach kws X.env)).filterMap (·.1) = ks := by rfl) (hdb : (x == ("__debug__" : Str)) = false := by decide) (he : starEach (e :: es) X.env = (false, eval e X.env) :: starEach es X.env := by rfl)
    (hpl : ((backTo pos (starEach (e :: es) X.env)).any (·.1) || (backToKw pos (keywordEach kws X.env)).any (·.1.isNone)) = false := by rfl) : PE X (.Call (.Name x p) (e :: es) kws pos) (tCallK sp gV E t tk) := by
  refine ⟨fun pins s σ H Q I h => wpAny_Call_Name_kw (ld_glob I hg hm ?_ hdb)⟩
  refine PySem.W.callWith_KW (h₀ := X.base) I.ok.mod.kin hk hall (thn (ha.run pos pins s σ H _ I h) fun ps' sh ⟨vs, G, J, rv, named⟩ => thn (hkw.run pos pins sh σ G _ J named) fun ks' sh2 ⟨zs, G2, J2, rz, told⟩ => ⟨J2.kIn, ?_⟩) hpl he
  have both := hb.rel rv rz
  rw [hks]
  exact go_g (ar := ⟨ps', ks.zip ks'⟩) F hA hr hx J2 (hb.to sh2 ps' ks' J2.kIn (both.length.symm.trans (F.siz _ _ _ _ told))) both told
theorem cl_repr (hA : X.A.guards = some []) (hu : X.A.units + 64 < cLine) : CallR X (.builtin "repr") (rRepr X.K) := by
  rintro pins s σ H _ _ Q I r ⟨x, d, rfl, hd, h1, h2, h3, q⟩
  obtain ⟨u, eu, rx⟩ := vals1 r
  subst eu
  have hd' := hd
  cases hd with
  | non => cases rx; exact PySem.P.repr_of_none ⟨.str _, H, I.tok _, ⟨_, rfl⟩, by simpa only [PyData.shown] using q⟩
  | bl b => cases rx; exact PySem.P.repr_of_bool ⟨.str _, H, I.tok _, ⟨_, rfl⟩, by simpa only [PyData.shown] using q⟩
  | int i => obtain ⟨t, rfl⟩ := rx; exact PySem.P.repr_of_int (by simpa [PyData.showable] using h1) ⟨.str _, H, I.tok _, ⟨_, rfl⟩, by simpa only [PyData.shown] using q⟩
  | str y => obtain ⟨t, rfl⟩ := rx; exact PySem.P.repr_of_str ⟨.str _, H, I.tok _, ⟨_, rfl⟩, by simpa only [PyData.shown] using q⟩ (by simpa only [PyData.shown] using h2)
  | lst a b =>
    cases rx
    obtain ⟨as, rd⟩ := Dp.reads I _ _ _ hd' rfl
    exact repr_of_reads' rd h1 (fun z => by rw [dp_nd hd'] at z; cases z) hA (by omega) (fun _ _ e => e) (fun h' u tk kk => ⟨.str _, H, I.kept (t' := tk) kk, ⟨_, rfl⟩, q⟩) h2
  | tup a b =>
    cases rx
    obtain ⟨as, rd⟩ := Dp.reads I _ _ _ hd' rfl
    exact repr_of_reads' rd h1 (fun z => by rw [dp_nd hd'] at z; cases z) hA (by omega) (fun _ _ e => e) (fun h' u tk kk => ⟨.str _, H, I.kept (t' := tk) kk, ⟨_, rfl⟩, q⟩) h2
end
/-! ### the law itself -/
/-- what a law's call has to leave -/
def Well (s₀ : Shared) : Result → Shared → Prop := fun out s' => out = .ok (.ret (.bool true)) ∧ OldK s₀.heap s'.heap ∧ s'.os = s₀.os ∧ AllBare s'.gens
/-- the heap that tells of the script alone -/
def lone (a : Addr) (vs : List Value) (ns : List Int) : Hp := fun b => if b = a then some (.frz { cls := .type "list", data := .seq vs.toArray } (.lst (ns.map V.int))) else none
section
variable {P : Program} {w : World} {K : PySem.W.Frag} {mg mb : Str → Option Value} {CX : CXT} {k : Nat} {fa a : Addr} {fd : FuncData} {x : Str} {sp : Sp} {s₀ : Shared} {vs : List Value} {ns : List Int}
theorem law_on {H : Hp} (KX : K.In s₀.heap) (hns : s₀.heap.Ns mainGlobals mg) (hb : s₀.heap.Ns builtinsNs mb) (hbb : ∀ y : Str, y ≠ "__name__" → mb y = bootBuiltins y) (hlim : s₀.heap.NoLimit) (hg : s₀.gens = #[]) (ha : s₀.heap.get? a = some { cls := .type "list", data := .seq vs.toArray }) (hr : Room k callerA)
    (F : ∀ base : Heap, K.In base → base.Ns mainGlobals mg → FnG P w K mg base CX k fa fd [x] sp) (hbind : ∀ (s : Shared) (u : Value), BindsTo s fd ⟨[u], []⟩ [(x, u)]) (hsp : sp [.ref a] H (fun v _ => v = .bl true) fun _ _ _ => False) (hCX : ∀ e s', CX [] H s₀ (fun _ _ _ => False) e s' → False)
    (hO : Only H) (hok : HOk P w H s₀.heap) (alone : ∀ b, b ≠ a ∨ K.lookup a ≠ none → H b = none) : codeAny (model P w) callerA (.call (.ref fa) ⟨[.ref a], []⟩) (Well s₀) s₀ := by
  -- what lies in the part, and what is a dict, is hidden from nobody
  have kn : ∀ {b : Addr} {o : Obj}, K.lookup b = some o → H b = none := fun {b o} e => alone b (by
    by_cases z : b = a
    · exact .inr (by rw [← z, e]; exact nofun)
    · exact .inl z)
  have ns : ∀ {b : Addr} {m : Str → Option Value}, s₀.heap.Ns b m → (hidT s₀.heap H).Ns b m := by
    rintro b m ⟨o, es, ep, e, d, r⟩
    refine ⟨o, es, ep, hidT_get e (alone b (.inl ?_)), d, r⟩
    rintro rfl
    rw [ha] at e
    cases e
    cases d
  have KB : K.In (hidT s₀.heap H) := fun b o e => hidT_get (KX b o e) (kn e)
  have lim : (hidT s₀.heap H).NoLimit := hlim.elim fun mc z => ⟨mc, ns z.1, z.2⟩
  have env : Env0 P w K mg (hidT s₀.heap H) callerA [] s₀ H := ⟨rfl, ⟨KB, ns hns, ⟨mb, ns hb, hbb⟩, lim⟩, fun _ _ => of_hidT, Nat.le_of_eq (hidT_size _ _), trivial, nofun, hok, .of_eq hg⟩
  refine codeAny_mono ((F _ KB (ns hns)).go callerA [] s₀ H ⟨[.ref a], []⟩ [.ref a] [.ref a] _ _ rfl hr env (hbind s₀ (.ref a)) (.cons rfl .nil) hsp) ?_
  rintro (er | fl) s' told
  · exact (hCX er s' told).elim
  match fl, told with
  | .ret u, ⟨v, H', eo, gb, un, hok', rv, (ev : v = .bl true)⟩ =>
    subst ev
    obtain rfl : u = Value.bool true := rv
    refine ⟨rfl, OldK.of_keep fun b o e => ?_, eo, gb⟩
    match hO b with
    | .inl n => exact un.keep b o e n nofun nofun
    | .inr ⟨ob, xs, q⟩ =>
      obtain rfl : o = ob := Option.some.inj (e.symm.trans (hok b _ q).1)
      exact (hok' b _ (un.frzs b o _ q)).1
theorem law_g (KX : K.In s₀.heap) (hns : s₀.heap.Ns mainGlobals mg) (hb : s₀.heap.Ns builtinsNs mb) (hbb : ∀ y : Str, y ≠ "__name__" → mb y = bootBuiltins y) (hlim : s₀.heap.NoLimit) (hg : s₀.gens = #[]) (ha : s₀.heap.get? a = some { cls := .type "list", data := .seq vs.toArray })
    (hi : IntsAre vs ns) (hl : ns.length ≤ sizeLine) (hr : Room k callerA) (F : ∀ base : Heap, K.In base → base.Ns mainGlobals mg → FnG P w K mg base CX k fa fd [x] sp) (hbind : ∀ (s : Shared) (u : Value), BindsTo s fd ⟨[u], []⟩ [(x, u)])
    (hsp : ∀ H : Hp, Only H → SqL K H a (ns.map V.int) → sp [.ref a] H (fun v _ => v = .bl true) fun _ _ _ => False) (hCX : ∀ H e s', CX [] H s₀ (fun _ _ _ => False) e s' → False) : codeAny (model P w) callerA (.call (.ref fa) ⟨[.ref a], []⟩) (Well s₀) s₀ := by
  have rel := vals_ints hi
  cases inK : K.lookup a with
  | some o =>
    obtain rfl : o = { cls := .type "list", data := .seq vs.toArray } := Option.some.inj ((KX a o inK).symm.trans ha)
    have O : Only (fun _ => none) := fun _ => .inl rfl
    exact law_on (H := fun _ => none) KX hns hb hbb hlim hg ha hr F hbind (hsp _ O (.inr ⟨_, vs.toArray, _, inK, rfl, rfl, rfl, by rw [List.size_toArray, hi.length]; exact hl, by simpa using rel⟩)) (hCX _) O nofun fun _ _ => rfl
  | none =>
    have at_ : lone a vs ns a = some (.frz { cls := .type "list", data := .seq vs.toArray } (.lst (ns.map V.int))) := if_pos rfl
    have off : ∀ {b : Addr}, b ≠ a → lone a vs ns b = none := fun z => if_neg z
    have O : Only (lone a vs ns) := fun b => by
      by_cases z : b = a
      · rw [z]; exact .inr ⟨_, _, at_⟩
      · exact .inl (off z)
    refine law_on (H := lone a vs ns) KX hns hb hbb hlim hg ha hr F hbind (hsp _ O (.inl (.inr ⟨_, at_⟩))) (hCX _) O (fun b u z => ?_) fun b z => z.elim off fun y => (y inK).elim
    by_cases e : b = a
    · subst e
      obtain rfl := Option.some.inj (at_.symm.trans z)
      exact ⟨ha, Nat.le_trans (Nat.le_of_eq (List.length_map V.int)) hl, vs, _, rel, ha⟩
    · exact nomatch (off e).symm.trans z
end
theorem walk_g {l : PySem.W.OpenLaw} {n k : Nat} {q : Program} {loose : List Str} {XP : (Str → Option Value) → Heap → Prop} {YP : World → Heap → Prop} {d : DefRec} {CX : CXT} {x : Str} (hn : l.most = some n) (hn2 : n ≤ sizeLine) (hdf : d.params.defaults = []) (hr : Room k callerA)
    (F : ∀ (w : World) (mg : Str → Option Value) (fa : Addr) (h : Heap), YP w h → h.Ns mainGlobals mg → mg d.name = some (.ref fa) → ∃ (K : PySem.W.Frag) (fd : FuncData) (sp : Sp), K.In h ∧ (∀ (s : Shared) (u : Value), BindsTo s fd ⟨[u], []⟩ [(x, u)]) ∧
      (∀ (H : Hp) (a : Addr) (ns : List Int), ns.length ≤ n → Only H → SqL K H a (ns.map V.int) → sp [.ref a] H (fun v _ => v = .bl true) fun _ _ _ => False) ∧ ∀ base : Heap, K.In base → base.Ns mainGlobals mg → FnG l.prog w K mg base CX k fa fd [x] sp)
    (hCX : ∀ (H : Hp) (s : Shared) (e : Value) (s' : Shared), CX [] H s (fun _ _ _ => False) e s' → False) : PySem.W.WalkO q loose XP YP l.row.toRowW d [] (fun f vs => PySem.call f vs) :=
  Att.attach_call hn hdf fun w s₀ s₁ mg mb fa o pm cd doc a vs ns G Y ho hd hcd hmg hobj hints hlen hg => by
    have ⟨K, fd, sp, KX, hb, hsp, hF⟩ := F w mg fa s₁.heap Y G.T.g hmg
    exact law_g KX G.T.g G.T.b G.T.builtins G.T.nolimit hg hobj hints (Nat.le_trans hlen hn2) hr hF hb (fun H hO hS => hsp H a ns hlen hO hS) fun H e s' => hCX H s₁ e s'
end DL

/-! Rules under the names that the derivations use. -/
namespace DL
open PySem PySem.Spec
open PyProof.Rows L2
section
variable {X : Cx} {a b e : Expr} {es : List Expr} {ta tb te : TE} {p pos : Pos} {x : Str} {t : TA}
theorem cl_len : CallR X (.builtin "len") (rLen X.K) := call_len
theorem cl_tup : CallR X (.type "tuple") (rTupOf X.K) := call_tuple_of
theorem cl_lst : CallR X (.type "list") (rLstOf X.K) := call_list_of
theorem cl_abs : CallR X (.builtin "abs") rAbs := call_abs
theorem cl_int : CallR X (.type "int") rInt1 := call_int1
theorem or_op {g : Value → Value → Sem Value} {r r' : R2} (h : OpR X g r) (h' : OpR X g r') : OpR X g (fun x y H Q => r x y H Q ∨ r' x y H Q) := fun pins s σ H x y v u Q I rx ry z => by
  rcases z with z | z
  · exact h pins s σ H x y v u Q I rx ry z
  · exact h' pins s σ H x y v u Q I rx ry z
theorem op_plus : OpR X (binaryOp .Add) (rPlus X.K) := or_op op_add (or_op op_catA (or_op op_cat op_add_str))
theorem op_isNo : OpR X (compareOp .Is) rIsNo := op_isN
theorem op_notNo : OpR X (compareOp .IsNot) rNotNo := op_notN
theorem xGI {i : Int} (h : ∃ t, X.mg x = some (.int i t)) (hg : Gl X x := by rfl) (hd : (x == ("__debug__" : Str)) = false := by decide) : PE X (.Name x pos) (tC (.int i)) := by
  obtain ⟨t, h⟩ := h
  exact pe_glob hg h ⟨t, rfl⟩ hd
theorem xIx (ha : PE X a ta) (hb : PE X b tb) (hs : PlainIx b := by exact fun _ _ => rfl) : PE X (.Subscript a b pos) (tOp (rIx X.K) ta tb) := pe_ix ix_seq ha hb hs
theorem xTruth (ha : PE X a ta) (he : ∀ whole, isTrue a X.env whole = (do let v ← whole; standAt a.pos; holding [v] (truthy v)) := by intro _; rfl) : PT X a (tTruth X.K ta) := pt_truth ha he
theorem xB (r : List V → Hp → VK → Prop) {id : String} (hc : CallR X (.builtin id) r) (hm : X.mg x = none) (ha : PA X (e :: es) t) (hg : Gl X x := by rfl) (hv : bootBuiltins x = some (.builtin id) := by decide +kernel) (hn : x ≠ "__name__" := by decide) (hdb : (x == ("__debug__" : Str)) = false := by decide) (he : starEach (e :: es) X.env = (false, eval e X.env) :: starEach es X.env := by rfl) (hpl : (backTo pos (starEach es X.env)).any (·.1) = false := by rfl) : PE X (.Call (.Name x p) (e :: es) [] pos) (tCB r t) := pe_callB hc hg hm hv ha hn hdb he hpl
theorem xT (r : List V → Hp → VK → Prop) {T : String} (hc : CallR X (.type T) r) (hm : X.mg x = none) (ha : PA X (e :: es) t) (hg : Gl X x := by rfl) (hv : bootBuiltins x = some (.type T) := by decide +kernel) (hn : x ≠ "__name__" := by decide) (hdb : (x == ("__debug__" : Str)) = false := by decide) (he : starEach (e :: es) X.env = (false, eval e X.env) :: starEach es X.env := by rfl) (hpl : (backTo pos (starEach es X.env)).any (·.1) = false := by rfl) : PE X (.Call (.Name x p) (e :: es) [] pos) (tCB r t) := pe_callTy hc hg hm hv ha hn hdb he hpl
end
/-- a def of the text, as its callers know it -/
structure Ca (P : Program) (w : World) (K : PySem.W.Frag) (mg : Str → Option Value) (base : Heap) (CX : CXT) (k : Nat) (x : Str) (ps : List Str) (sp : Sp) : Prop where
  has : ∃ f fd, FnOk P w K mg base CX k f fd ps sp ∧ mg x = some (.ref f) ∧ PySem.W.keepIn K (.ref f) = true ∧ Binds K fd ps []
structure CaG (P : Program) (w : World) (K : PySem.W.Frag) (mg : Str → Option Value) (base : Heap) (CX : CXT) (k : Nat) (x : Str) (ps : List Str) (sp : Sp) : Prop where
  has : ∃ f fd, FnG P w K mg base CX k f fd ps sp ∧ mg x = some (.ref f) ∧ PySem.W.keepIn K (.ref f) = true ∧ Binds K fd ps []
section
variable {X : Cx} {CX : CXT} {k : Nat} {ps : List Str} {sp : Sp} {E : XK} {e : Expr} {es : List Expr} {p pos : Pos} {x : Str} {t : TA}
theorem xCall (C : Ca X.prog X.w X.K X.mg X.base CX k x ps sp) (hr : Room k X.A) (hx : Passes CX X E) (ha : PA X (e :: es) t) (hg : Gl X x := by rfl) (hdb : (x == ("__debug__" : Str)) = false := by decide) (he : starEach (e :: es) X.env = (false, eval e X.env) :: starEach es X.env := by rfl) (hpl : (backTo pos (starEach es X.env)).any (·.1) = false := by rfl) : PE X (.Call (.Name x p) (e :: es) [] pos) (tCall sp [] E t) := by
  obtain ⟨f, fd, F, hm, hk, hb⟩ := C.has
  exact pe_call F hr hg hm hk hb .nil hx ha hdb he hpl
theorem xCallG (C : CaG X.prog X.w X.K X.mg X.base CX k x ps sp) (hA : X.A.guards = some []) (hr : Room k X.A) (hx : Passes CX X E) (ha : PA X (e :: es) t) (hg : Gl X x := by rfl) (hdb : (x == ("__debug__" : Str)) = false := by decide) (he : starEach (e :: es) X.env = (false, eval e X.env) :: starEach es X.env := by rfl) (hpl : (backTo pos (starEach es X.env)).any (·.1) = false := by rfl) : PE X (.Call (.Name x p) (e :: es) [] pos) (tCall sp [] E t) := by
  obtain ⟨f, fd, F, hm, hk, hb⟩ := C.has
  exact pe_callG F hA hr hg hm hk hb .nil hx ha hdb he hpl
end
end DL

/-! Error classes of the program, over own ones, over a built-in one (its mro: tl), each with an __init__ that keeps one thing. -/
namespace DL
open PySem PySem.Spec
open PyProof.Rows L2
/-- own classes, then tl -/
def endsIn (tl : List Value) : List Value → Bool
  | .ref _ :: r => endsIn tl r
  | l => decide (l = tl)
theorem endsIn_cases {tl : List Value} : ∀ l : List Value, endsIn tl l = true → l = tl ∨ ∃ c r, l = .ref c :: r ∧ endsIn tl r = true := fun l e => by
  unfold endsIn at e
  split at e
  · exact .inr ⟨_, _, rfl, e⟩
  · exact .inl (of_decide_eq_true e)
theorem endsIn_has {tl : List Value} (T : String) (l : List Value) : endsIn tl l = true → l.contains (.type T) = tl.contains (.type T) := by
  induction l with
  | nil =>
    intro e
    rcases endsIn_cases _ e with e | ⟨_, _, e, _⟩
    · rw [e]
    · cases e
  | cons x l ih =>
    intro e
    rcases endsIn_cases _ e with e | ⟨c, r, e1, e2⟩
    · rw [e]
    · obtain ⟨q1, q2⟩ := List.cons.inj e1
      rw [q1, List.contains_cons, ih (by rw [q2]; exact e2)]
      rfl
theorem endsIn_pass {tl : List Value} (self : Value) (h : refuseLoop self "__setattr__" tl = pure ()) (l : List Value) : endsIn tl l = true → refuseLoop self "__setattr__" l = pure () := by
  induction l with
  | nil =>
    intro e
    rcases endsIn_cases _ e with e | ⟨_, _, e, _⟩
    · rw [e]; exact h
    · cases e
  | cons x l ih =>
    intro e
    rcases endsIn_cases _ e with e | ⟨c, r, e1, e2⟩
    · rw [e]; exact h
    · obtain ⟨q1, q2⟩ := List.cons.inj e1
      rw [q1, refuseLoop_ref]
      exact ih (by rw [q2]; exact e2)
/-- what is written of such a class: nw its __new__ -/
structure OwnE (K : PySem.W.Frag) (C : Addr) (tl : List Value) (nw : String) : Prop where
  cls : ∃ nm q N bs bm sn sub ab col dd k0 k1 k2 k3 k5, K.lookup C = some (excClassObj nm q C N bs bm true sn sub ab col dd k0 k1 k2 k3 k5 nw) ∧ endsIn tl bm = true
  puts : PySem.W.findIn K (.ref C) "__setattr__" = some (some (.builtin "object.__setattr__"))
  sub : PySem.W.subIn K (.ref C) (.type "BaseException") = some true
  typ : PySem.W.typeIn K (.ref C) = some (.type "type")
  keep : PySem.W.keepIn K (.ref C) = true
/-- what a class tells whose new instances take an attribute of a name into a dict of their own -/
structure TakesIn (K : PySem.W.Frag) (C : Addr) (cl : ClassData) (nm : Str) : Prop where
  is : PySem.W.clsIn K C = some cl
  row : cl.mro.isEmpty = false
  root : cl.mro.contains (.type "object") = true
  pass : ∀ self, refuseLoop self "__setattr__" cl.mro = pure ()
  dct : cl.hasDict = true
  lacks : PySem.W.findIn K (.ref C) nm = some none
section
open PySem.W PySem.Calls HandSPX
open Builtin.ObjectAttr Builtin
variable {P : Program} {w : World} {A : Around} {R : Result → Shared → Prop} {h₀ : Heap} {gs : Array GenState} {dr : Drawn} {n : Nat} {os : OsState} {K : W.Frag} {nm : Str} {tk : Tok} {v : Value} {e C : Addr} {parts : Array Value} {cl : ClassData}
/-- e.nm = v, e an exception that has no dict yet -/
theorem exc_put (c : TakesIn K C cl nm) (X : K.In h₀) (he : h₀.get? e = some { cls := .ref C, data := .fields parts })
    (after : ∀ h' t' dx, (∀ b o, b ≠ e → h₀.get? b = some o → h'.get? b = some o) → h₀.objs.size ≤ dx → dx ≠ e → h'.get? e = some { cls := .ref C, dict := some dx, data := .fields parts } → h'.Ns1 dx (fun y => if y = nm then some v else none) → R (.ok (.ret .none)) ⟨h', gs, dr, t', os⟩) :
    codeAny (model P w) A (.call (.builtin "object.__setattr__") ⟨[.ref e, .str nm tk, v], []⟩) R ⟨h₀, gs, dr, n, os⟩ := by
  obtain ⟨is, row, root, pass, dct, lacks⟩ := c
  have inst : W.InstAt h₀ e { cls := .ref C, data := .fields parts } C none := ⟨he, rfl, rfl, trivial⟩
  have old : e < h₀.objs.size := Heap.lt_size he
  have slot := F.store_object
  refine codeAny_call_builtin slot.slot.plain slot.entry (@W.check_slot (model P w) _ _ ⟨h₀, gs, dr, n, os⟩ "object.__setattr__" "object" "__setattr__" (.ref e) [.str nm tk, v] [] _ slot.kind slot.split (inst.type.andThen (W.looks_mroIn X ?_)) (slot.args (.ref e) (.str nm tk) v) ?_)
  · unfold W.mroIn
    rw [is, Option.bind_some, row, root]
    rfl
  have cls : W.Looks (model P w) h₀ (classData C) cl := W.looks_clsIn X is
  rw [W.osa_eq, refuse_eq]
  refine wpAny_bind (wpAny_bind (inst.type.at (wpAny_bind ((cls.andThen .now : W.Looks (model P w) h₀ (mroOf (.ref C)) cl.mro).at ?_))))
  rw [pass]
  refine wpAny_pure (wpAny_bind (inst.type.at (wpAny_bind ((W.looks_findIn X lacks).at (wpAny_bind ((W.Looks.now : W.Looks (model P w) h₀ (storeTaker? none) none).at ?_))))))
  change wpAny (model P w) _ (storeInOwnDict (.ref e) (.ref C) (.str nm tk) nm v false) _ _ _
  cases cl
  dsimp only at dct
  subst dct
  unfold storeInOwnDict
  unfold ownDictForStores
  repeat (first | with_reducible refine store_in_new ?_ ?_ | with_reducible refine wpAny_loadPart_at he ?_ | with_reducible refine cls.at ?_ | wp_step)
  · exact ⟨_, #[], _, (Heap.get?_update_ne _ _ _ _ (Nat.ne_of_gt old)).trans (Heap.get?_push_at rfl rfl), rfl, fun x hx => absurd hx (by simp), fun _ => rfl⟩
  · intro h' t' told stay
    refine after h' t' h₀.objs.size (fun b o hb ho => (stay.2 b (Nat.ne_of_lt (Heap.lt_size ho))).trans ?_) (Nat.le_refl _) (Nat.ne_of_gt old) ((stay.2 e (Nat.ne_of_lt old)).trans (Heap.get?_update_self _ (Heap.get?_push_of_some _ he) rfl)) told
    exact (Heap.get?_update_ne _ _ _ _ hb).trans (Heap.get?_push_of_some _ ho)
end
section
variable {X : Cx} {pins : List (Addr × Obj)} {σ : L2.St} {H : Hp} {s : Shared} {a C dx : Addr} {f : Str} {y : V} {u : Value} {Q : Unit → Shared → Prop} {E : Value → Shared → Prop} {A : Around} {tl : List Value} {nw : String}
/-- the heap behind it -/
def putH (H : Hp) (a C dx : Addr) (f : Str) (y : V) : Hp := upd (upd H dx (exd dx [(f, y)])) a (exo a C (some dx))
theorem exc_st (T : OwnE X.K C tl nw) (pass : ∀ self, refuseLoop self "__setattr__" tl = pure ()) (root : tl.contains (.type "object") = true) (I : Inv X pins σ H s) (ea : H a = some (exo a C none)) (lacks : PySem.W.findIn X.K (.ref C) f = some none) (ry : RelV y u)
    (after : ∀ dx s', H dx = none → dx ≠ a → Inv X pins σ (putH H a C dx f y) s' → Q () s') : wpAny (model X.prog X.w) A (setAttr (.ref a) f u) Q E s := by
  obtain ⟨c1, c2, c3, c4, tail, c5, c6, c7, c8, c9, x0, x1, x2, x3, x5, there, ends⟩ := T.cls
  have takes : TakesIn X.K C { name := c1, bases := c4, mro := .ref C :: tail, ns := c3, qualname := c2, hasDict := true, slotNames := c5, subclasses := c6, abstract := c7, collection := c8, hasDel := false } f := by
    refine ⟨by unfold PySem.W.clsIn; rw [there], rfl, ?_, fun self => ?_, rfl, lacks⟩
    · show List.contains (.ref C :: tail) _ = true
      rw [List.contains_cons, endsIn_has "object" tail ends, root]
      rfl
    · show refuseLoop self _ (.ref C :: tail) = _
      rw [refuseLoop_ref]
      exact endsIn_pass self (pass self) tail ends
  obtain ⟨tb, held⟩ := exo_at I.hok ea
  obtain ⟨h₀, gs, dr, n, os⟩ := s
  refine PySem.W.set_plain I.kIn (ox := { cls := .ref C, dict := none, data := .fields #[.ref tb, .none, .none, .none, .bool false, .none] }) (od := none) ⟨held, rfl, rfl, trivial⟩ T.puts (exc_put takes I.kIn held fun h' t' dx stay new apart now names => ?_)
  -- dx is new, a was there: all else stays
  have fresh : H dx = none := I.hok.fresh new
  have low : ∀ {b : Addr} {o : Obj}, h₀.get? b = some o → b ≠ dx := fun q => Nat.ne_of_lt (Nat.lt_of_lt_of_le (Heap.lt_size q) new)
  have other : ∀ {b : Addr}, H b = none → b ≠ a := fun n z => by rw [z, ea] at n; cases n
  have same : ∀ {b : Addr} {o : HO}, b ≠ a → b ≠ dx → H b = some o → putH H a C dx f y b = some o := fun za zd q => (upd_ne za).trans ((upd_ne zd).trans q)
  have kept : ∀ {b : Addr} {o : HO}, b ≠ a → H b = some o → putH H a C dx f y b = some o := fun za q => same za (ne_of_none q fresh) q
  refine after dx _ fresh apart (I.un (t' := t') ?_ fun b o q => ?_)
  · exact
      { keep := fun b o q n _ _ => stay b o (other n) q
        slot := fun b o q n _ _ => ⟨o.slots, stay b o (other n) q⟩
        free := fun b o q n _ => (upd_ne (other n)).trans ((upd_ne (low q)).trans n)
        there := fun b o q _ => by
          by_cases z : b = a
          · exact ⟨_, by rw [z]; exact now⟩
          · exact ⟨o, stay b o z q⟩
        tups := fun b xs q => kept (at_ne ea q exo_tup) q
        frzs := fun b o v q => kept (at_ne ea q exo_frz) q
        tbls := fun b ps q => ⟨#[], by rw [kept (at_ne ea q exo_tbl) q]; simp⟩ }
  · by_cases za : b = a
    · subst za
      obtain rfl := Option.some.inj (upd_same.symm.trans q)
      exact exo_ok now
    · by_cases zd : b = dx
      · subst zd
        obtain rfl := Option.some.inj (upd_same.symm.trans ((upd_ne za).symm.trans q))
        exact exd_ok names (relO_put (fs := []) ry fun _ => trivial)
      · have was : H b = some o := (upd_ne zd).symm.trans ((upd_ne za).symm.trans q)
        exact (I.hok b o was).stay (fun b' v' hb' z' => stay b' v' (hb'.elim (fun z => by rw [z]; exact za) fun z => at_ne ea z exo_own) z') (fun b' z' => kept (at_ne ea z' exo_own) z') fun b' xs z' => kept (at_ne ea z' exo_tup) z'
end
/-- self.f = y within such an __init__ -/
def tPut (K : PySem.W.Frag) (tl : List Value) (nw : String) (f : Str) (to te : TE) : TS := fun D σ H => te σ H fun y H1 => to σ H1 fun x H2 => ∃ a C : Addr, x = .ref a ∧ OwnE K C tl nw ∧ PySem.W.findIn K (.ref C) f = some none ∧ H2 a = some (exo a C none) ∧
  ∀ dx, H2 dx = none → dx ≠ a → D.nx σ (upd (upd H2 dx (exd dx [(f, y)])) a (exo a C (some dx)))
section
variable {X : Cx} {o e : Expr} {es : List Expr} {to te : TE} {ta : TA} {f : Str} {p p' pos : Pos} {tl : List Value} {nw : String}
theorem ps_put (hp : ∀ self, refuseLoop self "__setattr__" tl = pure ()) (ho : tl.contains (.type "object") = true) (hO : PE X o to) (he : PE X e te) (hs : swapsWith e (some (.Attribute o f p')) pos.line X.env = pure false := by rfl) :
    PS X (.Assign [.Attribute o f p'] e pos) (tPut X.K tl nw f to te) := ⟨fun pins s σ H D I h =>
  plainObj_wpAny_Assign_Attribute (thn (he.run pins s σ H _ I h) fun v s1 ⟨y, H1, I1, r1, q1⟩ => thn (hO.run pins s1 σ H1 _ I1 q1) fun u s2 ⟨x, H2, I2, r2, a, C, ex, T, hno, ea, q⟩ => by
    subst ex
    cases (show u = Value.ref a from r2)
    exact exc_st T hp ho I2 ea hno r1 fun dx s' n ne J => ⟨σ, _, J, q dx n ne⟩) hs⟩
/-- C(e), C's own __init__ as it is promised -/
theorem pmk_e {B initId : String} {CX : CXT} {x : Str} {C fI : Addr} {k : Nat} {fd : FuncData} {ps : List Str} {sp : Sp} {ds : List Value} {dvs : List V} (FB : ExcBaseFacts B nw initId tl) (T : OwnE X.K C tl nw) (iC : PySem.W.findIn X.K (.ref C) "__init__" = some (some (.ref fI)))
    (tI : PySem.W.typeIn X.K (.ref fI) = some (.type "function")) (F1 : FnOk X.prog X.w X.K X.mg X.base CX k fI fd ps sp) (hr : Room (k + 1) X.A) (hb : Binds X.K fd ps ds) (hd : Vals dvs ds) (hx : Passes CX X (fun _ _ _ => False)) (hm : X.mg x = some (.ref C)) (ha : PA X (e :: es) ta) (hg : Gl X x := by rfl)
    (hdb : (x == ("__debug__" : Str)) = false := by decide) (he : starEach (e :: es) X.env = (false, eval e X.env) :: starEach es X.env := by rfl) (hpl : (backTo pos (starEach es X.env)).any (·.1) = false := by rfl) : PMk X (.Call (.Name x p) (e :: es) [] pos) (tMkO C sp dvs ta) := by
  intro pins s σ H Q I h
  obtain ⟨c1, c2, c3, c4, tail, c5, c6, c7, c8, c9, x0, x1, x2, x3, x5, there, ends⟩ := T.cls
  refine wpAny_Call_Name_kw (ld_glob I hg hm (PySem.W.callWith_K (h₀ := X.base) I.ok.mod.kin T.keep (thn (ha.run pos pins s σ H _ I h) fun us sh ⟨vs, G, J, rv, few, told⟩ => ⟨J.kIn, ?_⟩) he hpl) hdb)
  change wpAny _ _ (call (.ref C) us) _ _ _
  obtain ⟨h₀, gs, dr, n, os⟩ := sh
  -- its arguments' tuple at n0, the object itself behind it
  let n0 := h₀.objs.size
  have up : n0 ≤ n0 + 1 := Nat.le_succ _
  have told := told (n0 + 1) (J.hok.fresh up)
  have stay : ∀ b o, h₀.get? b = some o → ((h₀.push (PySem.W.kdv_tup us)).push (HandSPX.excO C h₀.objs.size)).get? b = some o := fun b o z => Heap.get?_push_of_some _ (Heap.get?_push_of_some _ z)
  have made : ((h₀.push (PySem.W.kdv_tup us)).push (HandSPX.excO C h₀.objs.size)).get? (h₀.objs.size + 1) = some (HandSPX.excO C h₀.objs.size) := by heap_get
  have J1 := J.laid (t' := n) (a := n0 + 1) (o := exo (n0 + 1) C none) stay up (exo_ok made)
  have all : Vals (V.ref (n0 + 1) :: (vs ++ dvs)) (Value.ref (n0 + 1) :: (us ++ ds)) := .cons rfl (rv.append hd)
  have many : (Value.ref (n0 + 1) :: us ++ ds).length = ps.length := all.length.symm.trans (F1.len _ _ _ _ told)
  have short : us.length ≤ sizeLine := by rw [← Paired.length rv, sizeLine_eq]; omega
  refine wpAny_call (HandSPX.call_own FB (fun Y => endsIn_has Y tail ends) (J.kIn _ _ there) (PySem.W.looks_findIn J.kIn iC) (fun self => PySem.W.bind_fn J.kIn self tI) short (codeAny_mono (F1.run _ X.stack _ _ ⟨Value.ref (n0 + 1) :: us, []⟩ _ _ _ (fun _ _ _ => False) (hr.make C us []) (J1.env0.make C us []) (hb _ (Value.ref (n0 + 1) :: us) J1.kIn many) all told) ?_))
  rintro (er | fl) s' out
  · exact hx pins σ _ _ er s' J1 out
  match fl, s', out with
  | .ret u, ⟨h2, g2, d2, t2, o2⟩, ⟨v, H2, eo, gb, un, hok, rel, ev, d, fs, ea, ed, fd1, last⟩ =>
    rw [ev] at rel
    exact ⟨rel, mk_end (raises_own T.sub T.typ) J up stay un hok eo gb ea ed fd1 last⟩
end
end DL

/-! raise and try, as data. -/
namespace DL
open PySem PySem.Spec
open PyProof.Rows L2
theorem PS.imp {X : Cx} {st : Stmt} {t t' : TS} (h : PS X st t) (k : ∀ D σ H, t' D σ H → t D σ H) : PS X st t' := ⟨fun pins s σ H D I q => h.run pins s σ H D I (k D σ H q)⟩
/-- the __init__ of such a class -/
def spIni (K : PySem.W.Frag) (C : Addr) (f : Str) : Sp := fun vs H Q _ => ∃ a v, vs = [.ref a, v] ∧ PySem.W.findIn K (.ref C) f = some none ∧ H a = some (exo a C none) ∧ ∀ dx, H dx = none → dx ≠ a → Q .non (upd (upd H dx (exd dx [(f, v)])) a (exo a C (some dx)))
theorem ini_read {K : PySem.W.Frag} {C : Addr} {f : Str} {tl : List Value} {nw : String} {vs : List V} {H : Hp} {Q : VK} {E : XK} (T : OwnE K C tl nw) (h : spIni K C f vs H Q E) : tPut K tl nw f (tVar 0) (tVar 1) { nx := fun _ H' => Q .non H', rt := Q } (vs.map some) H := by
  obtain ⟨a, v, rfl, hno, e, q⟩ := h
  exact ⟨v, rfl, .ref a, rfl, a, C, rfl, T, hno, e, q⟩
/-- all that is known of an error class with one thing kept -/
structure Er (P : Program) (w : World) (K : PySem.W.Frag) (mg : Str → Option Value) (base : Heap) (x : Str) (C : Addr) (f : Str) : Prop where
  own : ∃ (tl : List Value) (nw B initId : String) (fI : Addr) (fd : FuncData) (ps : List Str), ExcBaseFacts B nw initId tl ∧ OwnE K C tl nw ∧ PySem.W.findIn K (.ref C) "__init__" = some (some (.ref fI)) ∧ PySem.W.typeIn K (.ref fI) = some (.type "function") ∧ FnOk P w K mg base CX0 1 fI fd ps (spIni K C f) ∧ Binds K fd ps []
  at_ : mg x = some (.ref C)
  xf : XfC K C
  no : PySem.W.findIn K (.ref C) f = some none
/-- raise C(e) -/
def tRz (K : PySem.W.Frag) (C : Addr) (f : Str) (te : TE) (W : WX) : TS := fun _ σ H => tMkO C (spIni K C f) [] (tCons te tNil) σ H fun cls d H' => W cls d σ H'
theorem xRaise {X : Cx} {W : WX} {x : Str} {C : Addr} {f : Str} {e : Expr} {te : TE} {p pos pos' : Pos} (R : Er X.prog X.w X.K X.mg X.base x C f) (hc : X.calm = true) (tk : Takes X W) (hr : Room 2 X.A) (he : PE X e te) (hg : Gl X x := by rfl)
    (hdb : (x == ("__debug__" : Str)) = false := by decide) (hs : starEach [e] X.env = (false, eval e X.env) :: starEach [] X.env := by rfl) (hs2 : (backTo pos (starEach [] X.env)).any (·.1) = false := by rfl) : PS X (.Raise (some (.Call (.Name x p) [e] [] pos)) none pos') (tRz X.K C f te W) := by
  obtain ⟨tl, nw, B, initId, fI, fd, ps, FB, T, iC, tI, F1, hb⟩ := R.own
  exact ps_raise hc tk (pmk_e (pos := pos) (p := p) FB T iC tI F1 hr hb .nil pass0 R.at_ (pa_cons he pa_nil hs) hg hdb hs hs2)
theorem s_raise {K : PySem.W.Frag} {M : Md} {C : Addr} {f : Str} {te : TE} {W : WX} {D : Ends} {σ : L2.St} {J H : Hp} {P : PyData → Prop} (hno : PySem.W.findIn K (.ref C) f = some none) (w : Wf M J H) (h : EvP K M te σ J H P)
    (q : ∀ v d J1 H1 dx, Wf M J1 H1 → Tr M J H J1 H1 → P d → Da K J1 v d → H1 dx = none → Wf M J1 (upd H1 dx (.xd [(f, v)])) → Tr M J H J1 (upd H1 dx (.xd [(f, v)])) → W (.ref C) (some dx) σ (upd H1 dx (.xd [(f, v)]))) : tRz K C f te W D σ H := by
  refine h J H w w.tr _ fun v d J1 H1 w1 t1 pd a => ⟨by show 1 ≤ 1000; decide, fun e he => ⟨e, v, rfl, hno, upd_same, fun dx hx ne => ⟨rfl, dx, [(f, v)], upd_same, ?_, ?_, ?_⟩⟩⟩
  · rw [upd_ne ne, upd_same]
  · rw [upd_ne ne] at hx; exact hx
  · rw [upd_ne ne] at hx
    have e1 : upd (del (upd (upd (upd H1 e (exo e C none)) dx (exd dx [(f, v)])) e (exo e C (some dx))) e) dx (.xd [(f, v)]) = upd H1 dx (.xd [(f, v)]) := by
      funext b
      by_cases hb : b = dx
      · rw [hb, upd_same, upd_same]
      · rw [upd_ne hb, upd_ne hb]
        by_cases hc : b = e
        · rw [hc, del_same, he]
        · rw [del_ne hc, upd_ne hc, upd_ne hb, upd_ne hc]
    rw [e1]
    have t2 := w1.cell (o := .xd [(f, v)]) hx
    exact q v d J1 H1 dx w1 t1 pd a hx (t2.wf w1) (t1.trans t2)
/-- what a def promises that may raise: cl, fl: the error classes and what each keeps -/
def spX (K : PySem.W.Frag) (cl : Str → Addr) (fl : Str → Str) (pre : List PyData → Prop) (post : List PyData → PyData → Prop) (exc : List PyData → Str → PyData → Prop) : Sp := fun vs H Q E => ∃ J ds, Sub J H ∧ Das K J vs ds ∧ pre ds ∧
  (∀ v d J' H', Tr Md.pure J H J' H' → post ds d → Da K J' v d → Q v H') ∧ ∀ c x dx v J' H', Tr Md.pure J H J' H' → exc ds c x → H' dx = some (.xd [(fl c, v)]) → Da K J' v x → E (.ref (cl c)) (some dx) H'
theorem spX_D {K : PySem.W.Frag} {M : Md} {cl : Str → Addr} {fl : Str → Str} {pre : List PyData → Prop} {post : List PyData → PyData → Prop} {exc : List PyData → Str → PyData → Prop} {ds : List PyData} {E : XK} (h : pre ds) (hn : ∀ c x, ¬ exc ds c x) : SpD K M (spX K cl fl pre post exc) ds (post ds) E := fun vs J H w a Q q =>
  ⟨J, ds, w.jh, a, h, fun v d J' H' t p a' => q v d J' H' ((w.lift t).wf w) (w.lift t) p a', fun c x _ _ _ _ _ z => (hn c x z).elim⟩
/-- a call within a try: it may come back or raise -/
theorem ev_callS {K : PySem.W.Frag} {M : Md} {σ : L2.St} {J H : Hp} {cl : Str → Addr} {fl : Str → Str} {pre : List PyData → Prop} {post : List PyData → PyData → Prop} {exc : List PyData → Str → PyData → Prop} {E : L2.St → XK} {ta : TA} {ds : List PyData} {Q : VK} (w : Wf M J H) (h : EvA K M ta σ J H (· = ds)) (hp : pre ds)
    (q : ∀ v d J1 H1, Wf M J1 H1 → Tr M J H J1 H1 → post ds d → Da K J1 v d → Q v H1)
    (qe : ∀ c x dx v J1 H1, Wf M J1 H1 → Tr M J H J1 H1 → exc ds c x → H1 dx = some (.xd [(fl c, v)]) → Da K J1 v x → E σ (.ref (cl c)) (some dx) H1) : tCallS (spX K cl fl pre post exc) E ta σ H Q :=
  h J H w w.tr _ fun vs ds' J1 H1 w1 t1 e a => by
    subst e
    exact ⟨J1, _, w1.jh, a, hp, fun v d J' H' t p a' => q v d J' H' ((w1.lift t).wf w1) (t1.trans (w1.lift t)) p a', fun c x dx v J' H' t z hx a' => qe c x dx v J' H' ((w1.lift t).wf w1) (t1.trans (w1.lift t)) z hx a'⟩
theorem xCallS {X : Cx} {CX : CXT} {k : Nat} {ps : List Str} {sp : Sp} {E : L2.St → XK} {e : Expr} {es : List Expr} {p pos : Pos} {x : Str} {t : TA} (C : Ca X.prog X.w X.K X.mg X.base CX k x ps sp) (hr : Room k X.A) (hx : ∀ σ, PassesAt CX X σ (E σ)) (ha : PA X (e :: es) t) (hg : Gl X x := by rfl) (hdb : (x == ("__debug__" : Str)) = false := by decide) (he : starEach (e :: es) X.env = (false, eval e X.env) :: starEach es X.env := by rfl) (hpl : (backTo pos (starEach es X.env)).any (·.1) = false := by rfl) : PE X (.Call (.Name x p) (e :: es) [] pos) (tCallS sp E t) := by
  obtain ⟨f, fd, F, hm, hk, hb⟩ := C.has
  exact pe_callS F hr hg hm hk hb hx ha hdb he hpl
end DL

/-! Data of told kinds: numbers, rows of numbers. -/
namespace DL
open PySem PySem.Spec
open PyProof.Rows L2
section
variable {K : PySem.W.Frag} {M : Md} {σ : L2.St} {J H J0 H0 : Hp} {te : TE} {tu tw : TS} {d : PyData} {i j : Int} {D : Ends}
theorem s_asgD {k : Nat} (w : Wf M J H) (h : EvD K M te σ J H d) (q : ∀ v J1 H1, Wf M J1 H1 → Tr M J H J1 H1 → Da K J1 v d → D.nx (σ.set k (some v)) H1) : tAsg te (gName k) D σ H := s_asg w h fun v d' J1 H1 w1 t1 e a => by subst e; exact q v J1 H1 w1 t1 a
theorem s_asgI {k : Nat} (w : Wf M J H) (h : EvD K M te σ J H (.int i)) (q : ∀ J1 H1, Wf M J1 H1 → Tr M J H J1 H1 → D.nx (σ.set k (some (.int i))) H1) : tAsg te (gName k) D σ H := s_asg w h fun v d' J1 H1 w1 t1 e a => by subst e; rw [da_int a]; exact q J1 H1 w1 t1
theorem s_retD (w : Wf M J H) (h : EvD K M te σ J H d) (q : ∀ v J1 H1, Wf M J1 H1 → Tr M J H J1 H1 → Da K J1 v d → D.rt v H1) : tRet te D σ H := s_ret w h fun v d' J1 H1 w1 t1 e a => by subst e; exact q v J1 H1 w1 t1 a
theorem s_ifD {b : Bool} {c : TT} (w : Wf M J H) (h : EvT M c σ J H (· = b)) (q1 : b = true → ∀ J1 H1, Wf M J1 H1 → Tr M J H J1 H1 → tu D σ H1) (q2 : b = false → ∀ J1 H1, Wf M J1 H1 → Tr M J H J1 H1 → tw D σ H1) : tIfS c tu tw D σ H :=
  s_if w h (fun e => q1 e.symm) fun e => q2 e.symm
theorem s_forD {k : Nat} {wi : TI} {tb : TS} (ds : List PyData) (I : Nat → L2.St → Hp → Hp → Prop) (w0 : Wf M J0 H0) (t0 : Tr M J0 H0 J H) (hw : EvW K M wi σ J H (· = ds)) (h0 : ∀ J2 H2, Wf M J2 H2 → Tr M J H J2 H2 → I 0 σ J2 H2)
    (hn : ∀ i σ' J' H' T xs, I i σ' J' H' → H' T = none → I i σ' (upd J' T (.tup xs)) (upd H' T (.tup xs)))
    (hs : ∀ i d x σ' J2 J' H', ds[i]? = some d → Wf M J' H' → Tr M J0 H0 J' H' → Sub J J2 → Sub J2 J' → I i σ' J' H' → Da K J' x d → tb { D with nx := Nxt M J0 H0 J2 (I (i + 1)), ct := Nxt M J0 H0 J2 (I (i + 1)), bk := D.nx } (σ'.set k (some x)) H')
    (hd : ∀ σ' J' H', Wf M J' H' → Tr M J0 H0 J' H' → Sub J J' → I ds.length σ' J' H' → D.nx σ' H') : tFor wi (gName k) tb D σ H :=
  s_for (Pw := (· = ds)) (fun _ => I) w0 t0 hw (fun _ J2 H2 _ => h0 J2 H2) (fun _ => hn) (fun ds' i d x σ' J2 J' H' e hdi => hs i d x σ' J2 J' H' (by rw [← e]; exact hdi)) fun ds' σ' J' H' e w t s h => hd σ' J' H' w t s (by rw [e] at h; exact h)
theorem s_next (q : D.nx σ H) : tNext D σ H := q
end
/-- a row of numbers -/
def oD (xs : List Int) : List PyData := xs.map .int
theorem oD_len (xs : List Int) : (oD xs).length = xs.length := by unfold oD; simp
theorem oD_at {xs : List Int} {n : Nat} {d : PyData} (h : (oD xs)[n]? = some d) : ∃ x, xs[n]? = some x ∧ d = .int x := by
  unfold oD at h
  rw [List.getElem?_map] at h
  cases e : xs[n]? with
  | none => rw [e] at h; cases h
  | some x => rw [e] at h; exact ⟨x, rfl, (Option.some.inj h).symm⟩
theorem oD_app (xs ys : List Int) : oD xs ++ oD ys = oD (xs ++ ys) := by unfold oD; simp
theorem oD_rev (xs : List Int) : (oD xs).reverse = oD xs.reverse := by unfold oD; simp
theorem oD_inj {xs ys : List Int} (h : oD xs = oD ys) : xs = ys := by
  induction xs generalizing ys with
  | nil => cases ys with
    | nil => rfl
    | cons _ _ => cases h
  | cons x xs ih => cases ys with
    | nil => cases h
    | cons y ys =>
      have h' : PyData.int x :: oD xs = PyData.int y :: oD ys := h
      obtain ⟨e1, e2⟩ := List.cons.inj h'
      cases e1
      rw [ih e2]
/-- xs[lo:hi] -/
def cutA {α : Type} (xs : List α) (lo hi : Option Int) : List α := (xs.drop (HT.sIx xs.length 0 lo)).take (HT.sIx xs.length xs.length hi - HT.sIx xs.length 0 lo)
theorem cut_map {α : Type} (f : α → PyData) (xs : List α) (lo hi : Option Int) : cut (xs.map f) lo hi = (cutA xs lo hi).map f := by
  unfold cut cutA
  rw [List.length_map, List.map_take, List.map_drop]
theorem cut_oD (xs : List Int) (lo hi : Option Int) : cut (oD xs) lo hi = oD (cutA xs lo hi) := cut_map _ xs lo hi
theorem cutA_nat {α : Type} (xs : List α) (a b : Nat) : cutA xs (some (a : Int)) (some (b : Int)) = (xs.drop a).take (b - a) := by
  unfold cutA
  rw [HT.sIx_nat, HT.sIx_nat]
  rcases Nat.le_total a xs.length with h | h
  · rw [Nat.min_eq_left h]
    rcases Nat.le_total b xs.length with h2 | h2
    · rw [Nat.min_eq_left h2]
    · rw [Nat.min_eq_right h2, List.take_of_length_le (by rw [List.length_drop]; omega), List.take_of_length_le (by rw [List.length_drop]; omega)]
  · rw [Nat.min_eq_right h, List.drop_of_length_le (Nat.le_refl _), List.drop_of_length_le h]; simp
theorem cutA_to {α : Type} (xs : List α) (b : Nat) : cutA xs none (some (b : Int)) = xs.take b := by
  unfold cutA
  rw [HT.sIx_none, HT.sIx_nat, List.drop_zero, Nat.sub_zero]
  rcases Nat.le_total b xs.length with h | h
  · rw [Nat.min_eq_left h]
  · rw [Nat.min_eq_right h, List.take_of_length_le h, List.take_length]
theorem cutA_from {α : Type} (xs : List α) (a : Nat) : cutA xs (some (a : Int)) none = xs.drop a := by
  unfold cutA
  rw [HT.sIx_nat, HT.sIx_none]
  rcases Nat.le_total a xs.length with h | h
  · rw [Nat.min_eq_left h, List.take_of_length_le (by rw [List.length_drop]; exact Nat.le_refl _)]
  · rw [Nat.min_eq_right h, List.drop_of_length_le (Nat.le_refl _), List.drop_of_length_le h]; simp
theorem ints_shaped : ∀ xs : List Int, PyData.canLayAll0 (oD xs) = true
  | [] => by simp [oD, PyData.canLayAll0]
  | x :: xs => by
    have h := ints_shaped xs
    unfold oD at h ⊢
    simp [PyData.canLayAll0, PyData.canLay0, h]
theorem ints_depth : ∀ xs : List Int, PyData.depthAll (oD xs) = 0
  | [] => by simp [oD, PyData.depthAll]
  | x :: xs => by
    have h := ints_depth xs
    unfold oD at h ⊢
    simp [PyData.depthAll, PyData.depth, h]
theorem sh_int (i : Int) : SeqAt.shaped (.int i) = true := by simp [SeqAt.shaped, PyData.canLay0, PyData.depth]
theorem sh_list (xs : List Int) : SeqAt.shaped (.list (oD xs)) = true := by simp [SeqAt.shaped, PyData.canLay0, PyData.depth, ints_shaped, ints_depth]
theorem sh_tup (xs : List Int) : SeqAt.shaped (.tuple (oD xs)) = true := by simp [SeqAt.shaped, PyData.canLay0, PyData.depth, ints_shaped, ints_depth]
theorem eqv_int (i j : Int) : PyData.eqv (.int i) (.int j) = decide (i = j) := by
  unfold PyData.eqv
  by_cases h : i = j
  · simp [h]
  · simp [h]
theorem eqvAll_ints : ∀ xs ys : List Int, PyData.eqvAll (oD xs) (oD ys) = decide (xs = ys)
  | [], [] => by simp [oD, PyData.eqvAll]
  | [], _ :: _ => by simp [oD, PyData.eqvAll]
  | _ :: _, [] => by simp [oD, PyData.eqvAll]
  | x :: xs, y :: ys => by
    have h := eqvAll_ints xs ys
    unfold oD at h ⊢
    simp only [List.map_cons, PyData.eqvAll, h, eqv_int]
    by_cases h1 : x = y <;> by_cases h2 : xs = ys <;> simp [h1, h2]
theorem eqv_list (xs ys : List Int) : PyData.eqv (.list (oD xs)) (.list (oD ys)) = decide (xs = ys) := by
  unfold PyData.eqv
  exact eqvAll_ints xs ys
theorem eqv_tup (xs ys : List Int) : PyData.eqv (.tuple (oD xs)) (.tuple (oD ys)) = decide (xs = ys) := by
  unfold PyData.eqv
  exact eqvAll_ints xs ys
theorem log2_le {n k : Nat} (h : n < 2 ^ (k + 1)) : n.log2 ≤ k := by
  by_cases z : n = 0
  · subst z; simp
  · exact Nat.le_of_lt_succ ((Nat.log2_lt z).mpr h)
theorem cmul_small {i j : Int} (h1 : i.natAbs < 2 ^ 64) (h2 : j.natAbs < 2 ^ 64) : CMulW i j := by
  have a := log2_le (k := 63) h1
  have b := log2_le (k := 63) h2
  show i.natAbs.log2 + j.natAbs.log2 < 1000000
  omega
theorem cdiv_small {i j : Int} (h1 : 0 < j) (h2 : j < 2 ^ 64) : CDivW i j := ⟨h1, Nat.lt_of_le_of_lt (log2_le (k := 63) (by omega)) (by decide)⟩
end DL

/-! Where a law's draws come from: a list of a list of numbers and a number, which changes with each draw. -/
namespace DL
open PySem PySem.Spec
open PyProof.Rows L2
/-- h: the list; g: the list of great numbers within it -/
def drOk (h g : Addr) (H : Hp) : Prop := ∃ (cs : List Int) (n : Int), H h = some (.lst [.ref g, .int n]) ∧ H g = some (.lst (cs.map V.int)) ∧ (∀ c ∈ cs, 0 ≤ c) ∧ cs.length ≤ 63 ∧ 0 ≤ n ∧ n < 2147483647
structure HasDr (M : Md) (h g : Addr) : Prop where
  ne : h ≠ g
  fh : M.fp h
  fg : M.fp g
  ok : ∀ H, M.inv H → drOk h g H
  put : ∀ H H', M.inv H → (∀ a, M.fp a → a ≠ h → a ≠ g → H' a = H a) → drOk h g H' → M.inv H'
/-- nothing but these two changes -/
def Md.draw (h g : Addr) : Md := ⟨fun a => a = h ∨ a = g, drOk h g, fun H H' e ⟨cs, n, h1, h2, h3⟩ => ⟨cs, n, by rw [e h (.inl rfl)]; exact h1, by rw [e g (.inr rfl)]; exact h2, h3⟩⟩
theorem Md.draw_has {h g : Addr} (ne : h ≠ g) : HasDr (Md.draw h g) h g := ⟨ne, .inl rfl, .inr rfl, fun _ x => x, fun _ _ _ _ x => x⟩
/-- what a draw below n promises -/
def spDraw : Sp := fun vs H Q _ => ∃ M h g J n, vs = [.ref h, .int n] ∧ HasDr M h g ∧ Wf M J H ∧ 0 < n ∧ n < 2 ^ 64 ∧ ∀ i H', Wf M J H' → Tr M J H J H' → 0 ≤ i → i < n → Q (.int i) H'
section
variable {K : PySem.W.Frag} {M : Md} {h g : Addr} {J H : Hp}
/-- the two are written: nothing else changes but what is new -/
theorem dr_tr (hd : HasDr M h g) (w : Wf M J H) {H' : Hp} (k : ∀ a o, a ≠ h → a ≠ g → H a = some o → H' a = some o) (x : drOk h g H') : Tr M J H J H' := by
  have nj : ∀ {a o}, J a = some o → a ≠ h ∧ a ≠ g := fun {a o} e => ⟨(fun z => by rw [z, (w.out h hd.fh).1] at e; cases e), (fun z => by rw [z, (w.out g hd.fg).1] at e; cases e)⟩
  obtain ⟨cs, n, x1, x2, x3⟩ := x
  refine ⟨.refl _, fun a o e => k a o (nj e).1 (nj e).2 (w.jh a o e), fun a o nf e => k a o (fun z => nf (by rw [z]; exact hd.fh)) (fun z => nf (by rw [z]; exact hd.fg)) e, hd.put H H' w.inv (fun a fa n1 n2 => ?_) ⟨cs, n, x1, x2, x3⟩, fun _ _ z => z, fun a e => ?_⟩
  · cases q : H a with
    | none => exact absurd q (w.out a fa).2
    | some o => exact k a o n1 n2 q
  · by_cases n1 : a = h
    · rw [n1, x1]; exact nofun
    by_cases n2 : a = g
    · rw [n2, x2]; exact nofun
    cases q : H a with
    | none => exact absurd q e
    | some o => rw [k a o n1 n2 q]; exact nofun
/-- h and g as they stand -/
structure DrAt (h g : Addr) (cs : List Int) (n : Int) (H : Hp) : Prop where
  hh : H h = some (.lst [.ref g, .int n])
  hg : H g = some (.lst (cs.map V.int))
  pos : ∀ c ∈ cs, 0 ≤ c
  few : cs.length ≤ 63
  n0 : 0 ≤ n
  n1 : n < 2147483647
theorem DrAt.ok {cs : List Int} {n : Int} (x : DrAt h g cs n H) : drOk h g H := ⟨cs, n, x.hh, x.hg, x.pos, x.few, x.n0, x.n1⟩
theorem drAt_of (x : drOk h g H) : ∃ cs n, DrAt h g cs n H := by
  obtain ⟨cs, n, a, b, c, d, e, f⟩ := x
  exact ⟨cs, n, a, b, c, d, e, f⟩
abbrev tH0 (K : PySem.W.Frag) : TE := tOp (rIx K) (tVar 0) (tC (.int 0))
abbrev tH1 (K : PySem.W.Frag) : TE := tOp (rIx K) (tVar 0) (tC (.int 1))
abbrev rMod : R2 := rI (fun _ j => 0 < j) fun i j => .int (i % j)
abbrev rDiv : R2 := rI CDivW fun i j => .int (i / j)
abbrev rMul : R2 := rI CMulW fun i j => .int (i * j)
/-- a draw, as the laws write it (c: what their numbers are mixed with) -/
def tDraw (K : PySem.W.Frag) (c : Int) : TS :=
  tSeq (tWhile (tAnd (tTest (tOp (rNeD K) (tH0 K) (tLst tNil))) (tTest (tOp (rEqD K) (tOp (rIx K) (tH0 K) (tUn (rU fun i => .int (-i)) (tC (.int 1)))) (tC (.int 0))))) (tDrop (tBM0 K "list" rPop (tH0 K))))
  (tSeq (tIfS (tTest (tOp (rNeD K) (tH0 K) (tLst tNil))) (tSeq (tAsg (tCB rInt1 (tCons (tBM0 K "list" rPop (tH0 K)) tNil)) (gName 2)) (tSeq (tDrop (tBM K "list" rAppend (tH0 K) (tCons (tOp rDiv (tVar 2) (tVar 1)) tNil))) (tRet (tOp rMod (tVar 2) (tVar 1))))) tNext)
  (tSeq (tAsg (tOp rMod (tCB rInt1 (tCons (tOp (rPlus K) (tOp rMul (tH1 K) (tC (.int 48271))) (tC (.int c))) tNil)) (tC (.int 2147483647))) (gSub (tVar 0) (tC (.int 1)) rSetL)) (tRet (tOp rMod (tCB rInt1 (tCons (tOp rDiv (tH1 K) (tC (.int 64))) tNil)) (tVar 1)))))
variable {σ : L2.St} {Q : VK} {cs : List Int} {n : Int}
theorem rd_h0 (hs : σ[0]? = some (some (.ref h))) (x : DrAt h g cs n H) (q : Q (.ref g) H) : tH0 K σ H Q := ⟨_, hs, .inl ⟨h, _, 0, _, rfl, rfl, .of x.hh, rfl, q⟩⟩
theorem rd_h1 (hs : σ[0]? = some (some (.ref h))) (x : DrAt h g cs n H) (q : Q (.int n) H) : tH1 K σ H Q := ⟨_, hs, .inl ⟨h, _, 1, _, rfl, rfl, .of x.hh, rfl, q⟩⟩
theorem DrAt.new {p : Addr} {o : HO} (x : DrAt h g cs n H) (hp : H p = none) : DrAt h g cs n (upd H p o) :=
  ⟨(upd_ne (ne_of_none x.hh hp)).trans x.hh, (upd_ne (ne_of_none x.hg hp)).trans x.hg, x.pos, x.few, x.n0, x.n1⟩
theorem dp_ints {p : Addr} (e : H p = some (.lst (cs.map V.int))) : Dp K H (.ref p) (.list (oD cs)) := by
  refine .lst (.of e) ?_
  clear e
  induction cs with
  | nil => exact .nil
  | cons c cs ih => exact .cons (.int c) ih
theorem rd_full {Qb : Bool → Hp → Prop} (hs : σ[0]? = some (some (.ref h))) (x : DrAt h g cs n H) (q : ∀ p, H p = none → Qb (!decide (cs = [])) (upd H p (.lst []))) : tTest (tOp (rNeD K) (tH0 K) (tLst tNil)) σ H Qb := by
  refine rd_h0 hs x ⟨Nat.zero_le _, fun p hp => ?_⟩
  refine ⟨.list (oD cs), .list (oD []), dp_ints (x.new hp).hg, dp_ints (cs := []) upd_same, sh_list _, sh_list _, _, rfl, ?_⟩
  rw [eqv_list]
  exact q p hp
theorem atI_last {xs : List Int} {c : Int} : atI ((xs ++ [c]).map V.int) (-1) = some (.int c) := by
  unfold atI ixN
  rw [List.length_map, List.length_append, List.length_singleton, if_neg (by omega), if_pos (by omega)]
  have e : (-1 + ((xs.length + 1 : Nat) : Int)).toNat = xs.length := by omega
  rw [e]
  simp
theorem rd_draw (hd : HasDr M h g) (w : Wf M J H) (hn : 0 < n) (hn2 : n < 2 ^ 64) {c : Int} (hc : 0 ≤ c ∧ c < 2 ^ 60) (q : ∀ i H', Wf M J H' → Tr M J H J H' → 0 ≤ i → i < n → Q (.int i) H') :
    tDraw K c { nx := fun _ H' => Q .non H', rt := Q } [some (.ref h), some (.int n), none] H := by
  obtain ⟨cs0, m0, x0⟩ := drAt_of (hd.ok H w.inv)
  have go : ∀ {G : Hp} {cs m}, (∀ a o, a ≠ h → a ≠ g → H a = some o → G a = some o) → DrAt h g cs m G → Tr M J H J G := fun k x => dr_tr hd w k x.ok
  refine ⟨fun m σ G => σ = [some (.ref h), some (.int n), none] ∧ (∀ a o, a ≠ h → a ≠ g → H a = some o → G a = some o) ∧ ∃ cs k, DrAt h g cs k G ∧ cs.length = m, ⟨_, rfl, fun _ _ _ _ e => e, cs0, m0, x0, rfl⟩, ?_⟩
  rintro m σ G ⟨rfl, kp, cs, k, x, rfl⟩
  have kn : ∀ {G : Hp} {p : Addr} {o : HO}, (∀ a o, a ≠ h → a ≠ g → H a = some o → G a = some o) → G p = none → ∀ a u, a ≠ h → a ≠ g → H a = some u → upd G p o a = some u := fun {G p o} kp hp a u n1 n2 e => by
    rw [upd_ne (ne_of_none (kp a u n1 n2 e) hp)]; exact kp a u n1 n2 e
  have kg : ∀ {G : Hp} {o : HO}, (∀ a o, a ≠ h → a ≠ g → H a = some o → G a = some o) → ∀ a u, a ≠ h → a ≠ g → H a = some u → upd G g o a = some u := fun {G o} kp a u n1 n2 e => by
    rw [upd_ne n2]; exact kp a u n1 n2 e
  have kh : ∀ {G : Hp} {o : HO}, (∀ a o, a ≠ h → a ≠ g → H a = some o → G a = some o) → ∀ a u, a ≠ h → a ≠ g → H a = some u → upd G h o a = some u := fun {G o} kp a u n1 n2 e => by
    rw [upd_ne n1]; exact kp a u n1 n2 e
  -- behind the while
  have rest : ∀ {G : Hp} {cs : List Int} {k : Int}, (∀ a o, a ≠ h → a ≠ g → H a = some o → G a = some o) → DrAt h g cs k G →
      tSeq (tIfS (tTest (tOp (rNeD K) (tH0 K) (tLst tNil))) (tSeq (tAsg (tCB rInt1 (tCons (tBM0 K "list" rPop (tH0 K)) tNil)) (gName 2)) (tSeq (tDrop (tBM K "list" rAppend (tH0 K) (tCons (tOp rDiv (tVar 2) (tVar 1)) tNil))) (tRet (tOp rMod (tVar 2) (tVar 1))))) tNext)
        (tSeq (tAsg (tOp rMod (tCB rInt1 (tCons (tOp (rPlus K) (tOp rMul (tH1 K) (tC (.int 48271))) (tC (.int c))) tNil)) (tC (.int 2147483647))) (gSub (tVar 0) (tC (.int 1)) rSetL)) (tRet (tOp rMod (tCB rInt1 (tCons (tOp rDiv (tH1 K) (tC (.int 64))) tNil)) (tVar 1))))
        { nx := fun _ H' => Q .non H', rt := Q } [some (.ref h), some (.int n), none] G := by
    intro G cs k kp x
    refine rd_full rfl x fun p hp => ?_
    have x1 := x.new (o := .lst []) hp
    have kp1 := kn (o := .lst []) kp hp
    by_cases hcs : cs = []
    · rw [decide_eq_true hcs]
      refine rd_h1 rfl x1 ⟨k, 48271, rfl, rfl, cmul_small (by have := x1.n0; have := x1.n1; omega) (by decide), ?_⟩
      refine .inl ⟨_, c, rfl, rfl, .inl ⟨_, rfl, _, 2147483647, rfl, rfl, (by show (0 : Int) < 2147483647; decide), .ref h, rfl, ?_⟩⟩
      refine ⟨h, _, 1, 1, rfl, rfl, x1.hh, rfl, ?_⟩
      have x2 : DrAt h g cs ((k * 48271 + c) % 2147483647) (upd (upd G p (.lst [])) h (.lst [.ref g, .int ((k * 48271 + c) % 2147483647)])) :=
        ⟨upd_same, (upd_ne hd.ne.symm).trans x1.hg, x1.pos, x1.few, by omega, by omega⟩
      have t := go (kh kp1) x2
      refine rd_h1 rfl x2 ⟨_, 64, rfl, rfl, cdiv_small (by decide) (by decide), .inl ⟨_, rfl, .int n, rfl, _, n, rfl, rfl, hn, ?_⟩⟩
      exact q _ _ (t.wf w) t (Int.emod_nonneg _ (by omega)) (Int.emod_lt_of_pos _ hn)
    · rw [decide_eq_false hcs]
      obtain ⟨ds, z, rfl⟩ : ∃ ds z, cs = ds ++ [z] := ⟨cs.dropLast, cs.getLast hcs, (List.dropLast_concat_getLast hcs).symm⟩
      refine rd_h0 rfl x1 ⟨.inl ⟨rfl, _, .of x1.hg⟩, g, _, .int z, rfl, rfl, x1.hg, by simp, ?_⟩
      have z0 : 0 ≤ z := x1.pos z (by simp)
      have x2 : DrAt h g ds k (upd (upd G p (.lst [])) g (.lst (ds.map V.int))) :=
        ⟨(upd_ne hd.ne).trans x1.hh, upd_same, fun y hy => x1.pos y (by simp [hy]), by have := x1.few; rw [List.length_append] at this; omega, x1.n0, x1.n1⟩
      have e1 : ((ds ++ [z]).map V.int).dropLast = ds.map V.int := by rw [List.map_append]; simp
      rw [e1]
      refine .inl ⟨z, rfl, ?_⟩
      refine rd_h0 rfl x2 ⟨.inl ⟨rfl, _, .of x2.hg⟩, _, rfl, _, rfl, z, n, rfl, rfl, cdiv_small hn hn2, g, _, .int (z / n), rfl, rfl, x2.hg, ?_, ?_⟩
      · have := x2.few
        rw [List.length_map]
        exact Nat.lt_of_le_of_lt this (by decide)
      · have x3 : DrAt h g (ds ++ [z / n]) k (upd (upd (upd G p (.lst [])) g (.lst (ds.map V.int))) g (.lst (ds.map V.int ++ [.int (z / n)]))) :=
          ⟨(upd_ne hd.ne).trans x2.hh, by rw [upd_same, List.map_append]; rfl, fun y hy => by
            rcases List.mem_append.mp hy with hy | hy
            · exact x2.pos y hy
            · rw [List.mem_singleton.mp hy]; exact Int.ediv_nonneg z0 (by omega), by have := x1.few; rw [List.length_append] at this ⊢; exact this, x1.n0, x1.n1⟩
        have t := go (kg (kg kp1)) x3
        exact ⟨.int z, rfl, .int n, rfl, z, n, rfl, rfl, hn, q _ _ (t.wf w) t (Int.emod_nonneg _ (by omega)) (Int.emod_lt_of_pos _ hn)⟩
  refine rd_full rfl x fun p hp => ?_
  have x1 := x.new (o := .lst []) hp
  have kp1 := kn (o := .lst []) kp hp
  by_cases hcs : cs = []
  · rw [decide_eq_true hcs]
    exact rest kp1 x1
  · rw [decide_eq_false hcs]
    obtain ⟨ds, z, rfl⟩ : ∃ ds z, cs = ds ++ [z] := ⟨cs.dropLast, cs.getLast hcs, (List.dropLast_concat_getLast hcs).symm⟩
    refine rd_h0 rfl x1 ⟨1, rfl, .inl ⟨g, _, -1, .int z, rfl, rfl, .of x1.hg, atI_last, .int z, .int 0, .int z, .int 0, sh_int z, sh_int 0, _, rfl, ?_⟩⟩
    rw [eqv_int]
    by_cases hz : z = 0
    · rw [decide_eq_true hz]
      have x2 : DrAt h g ds k (upd (upd G p (.lst [])) g (.lst (ds.map V.int))) :=
        ⟨(upd_ne hd.ne).trans x1.hh, upd_same, fun y hy => x1.pos y (by simp [hy]), by have := x1.few; rw [List.length_append] at this; omega, x1.n0, x1.n1⟩
      refine ⟨fun σ' G' => σ' = [some (.ref h), some (.int n), none] ∧ (∀ a o, a ≠ h → a ≠ g → H a = some o → G' a = some o) ∧ ∃ k, DrAt h g ds k G', fun σ' G' ⟨e, b, k', b2⟩ => ⟨ds.length, by rw [List.length_append]; exact Nat.lt_succ_self _, e, b, ds, k', b2, rfl⟩, ?_⟩
      refine rd_h0 rfl x1 ⟨.inl ⟨rfl, _, .of x1.hg⟩, g, _, .int z, rfl, rfl, x1.hg, by simp, rfl, ?_⟩
      have e1 : ((ds ++ [z]).map V.int).dropLast = ds.map V.int := by rw [List.map_append]; simp
      rw [e1]
      exact ⟨kg kp1, k, x2⟩
    · rw [decide_eq_false hz]
      exact rest kp1 x1
end
/-! ### how it is made -/
def absI (i : Int) : Int := if i < 0 then -i else i
theorem absI_pos (i : Int) : 0 ≤ absI i := by unfold absI; split <;> omega
def dAbs : PyData → PyData
  | .int i => .int (absI i)
  | d => d
theorem dAbs_map (ns : List Int) : (oD ns).map dAbs = oD (ns.map absI) := by unfold oD; simp [dAbs, Function.comp_def]
def dBig : PyData → Bool
  | .int i => decide ((10 : Int) ^ 18 ≤ i)
  | _ => false
theorem dBig_filter (ns : List Int) : (oD ns).filter dBig = oD (ns.filter fun i => decide ((10 : Int) ^ 18 ≤ i)) := by
  unfold oD
  rw [List.filter_map]
  rfl
theorem Tr.sql {K : PySem.W.Frag} {J H J1 H1 : Hp} (t : Tr Md.pure J H J1 H1) {a : Addr} {xs : List V} (h : SqL K H a xs) : SqL K H1 a xs := by
  rcases h with (h | ⟨o, h⟩) | h
  · exact .inl (.inl (t.keep _ _ (fun z => z) h))
  · exact .inl (.inr ⟨o, t.keep _ _ (fun z => z) h⟩)
  · exact .inr h
theorem das_intsV {K : PySem.W.Frag} {J : Hp} (ns : List Int) : Das K J (ns.map V.int) (oD ns) := das_ints ns
theorem cutV_ints (ns : List Int) (lo hi : Option Int) : cutV (ns.map V.int) lo hi = (cutA ns lo hi).map V.int := by
  unfold cutV cutA
  rw [List.length_map, List.map_take, List.map_drop]
/-- a part of the script -/
theorem ev_script {K : PySem.W.Frag} {J H : Hp} {σ : L2.St} {i : Nat} {a : Addr} {ns : List Int} {tl th : TO} {lo hi : Option Int} (hs : σ[i]? = some (some (.ref a))) (hS : SqL K H a (ns.map V.int)) (h1 : EvO K Md.pure tl σ J H (· = lo)) (h2 : EvO K Md.pure th σ J H (· = hi)) :
    EvD K Md.pure (tSl (rSlL K) (tVar i) tl th) σ J H (.list (oD (cutA ns lo hi))) := fun J1 H1 w t Q q => ⟨.ref a, hs, h1 J1 H1 w t _ fun lo' J2 H2 w2 t2 e => by
  subst e
  refine h2 J2 H2 w2 (t.trans t2) _ fun hi' J3 H3 w3 t3 e => ?_
  subst e
  refine ⟨a, _, rfl, ((t.trans t2).trans t3).sql hS, fun p hp => ?_⟩
  have t4 := w3.new (o := .lst (cutV (ns.map V.int) lo' hi')) hp
  refine q _ _ _ _ (t4.wf w3) ((t2.trans t3).trans t4) rfl (.lst upd_same ?_)
  rw [cutV_ints]
  exact das_intsV _⟩
/-- the list of draws, as the laws make it -/
def tHeap (K : PySem.W.Frag) (p q m c : Int) : TS :=
  tSeq (tAsg (tLc (iList K (tSl (rSlL K) (tVar 0) tNoPart (tPart (tC (.int 63))))) (gName 4) tYes (tCB rAbs (tCons (tCB rInt1 (tCons (tVar 4) tNil)) tNil)) [4]) (gName 2))
  (tSeq (tAsg (tOp (rPlus K) (tC (.int p)) (tOp rMul (tC (.int q)) (tVar 1))) (gName 3))
  (tSeq (tFor (iList K (tVar 2)) (gName 4) (tAsg (tOp rMod (tCB rInt1 (tCons (tOp (rPlus K) (tOp (rPlus K) (tOp rMul (tVar 3) (tC (.int 48271))) (tOp rMod (tVar 4) (tC (.int m)))) (tC (.int c))) tNil)) (tC (.int 2147483647))) (gName 3)))
  (tRet (tLst (tCons (tRevL K (tLc (iList K (tVar 2)) (gName 4) (tTest (tOp (rI0 fun i j => .bl (decide (j ≤ i))) (tVar 4) (tOp (rI CPow fun i j => .int (i ^ j.toNat)) (tC (.int 10)) (tC (.int 18))))) (tVar 4) [4])) (tCons (tVar 3) tNil))))))
/-- what it promises: nothing that stood has changed, the two lists are new -/
def spHeap (K : PySem.W.Frag) : Sp := fun vs H Q _ => ∃ (a : Addr) (ns : List Int) (b : Int), vs = [.ref a, .int b] ∧ SqL K H a (ns.map V.int) ∧ 0 ≤ b ∧ b < 1000 ∧
  ∀ h g H', (∀ a o, H a = some o → H' a = some o) → H h = none → H g = none → h ≠ g → drOk h g H' → Q (.ref h) H'
end DL

namespace DL
open PySem PySem.Spec
open PyProof.Rows L2
local macro_rules | `(tactic| walk_at "rep") => `(tactic| first | assumption | exact Da.int _ | exact Da.bl _ | exact Da.str _ | exact Da.non | exact Sub.da (by assumption) (by assumption) | exact Sub.da (Tr.jj (by assumption)) (by assumption))
local macro_rules | `(tactic| walk_at "arith") => `(tactic| first | assumption | omega | decide | exact cmul_small (by omega) (by omega) | exact cdiv_small (by omega) (by omega))
local macro_rules | `(tactic| walk_at "shp") => `(tactic| first | exact sh_int _ | exact sh_tup _ | exact sh_list _ | assumption)
local macro_rules | `(tactic| walk_at "od") => `(tactic| first
  | with_reducible exact od_plus
  | with_reducible exact od_sub
  | ((with_reducible refine' od_mul ?h1); walk_at "arith")
  | ((with_reducible refine' od_mod ?h1); walk_at "arith")
  | ((with_reducible refine' od_fdiv ?h1); walk_at "arith")
  | ((with_reducible refine' od_pow ?h1); exact ⟨by decide, by decide, by decide⟩)
  | with_reducible exact od_lt | with_reducible exact od_le | with_reducible exact od_gt | with_reducible exact od_ge
  | ((with_reducible refine' od_plusT ?h1); walk_at "arith")
  | ((with_reducible refine' od_plusL ?h1); walk_at "arith")
  | ((with_reducible refine' od_plusS ?h1); walk_at "arith")
  | with_reducible exact od_isN | with_reducible exact od_notN
  | ((with_reducible refine od_eq ?_ ?_) <;> walk_at "shp")
  | ((with_reducible refine od_ne ?_ ?_) <;> walk_at "shp")
  | ((with_reducible refine od_inL ?_ ?_) <;> walk_at "shp")
  | ((with_reducible refine od_ixL ?_); assumption)
  | ((with_reducible refine od_ixT ?_); assumption))
local macro_rules | `(tactic| walk_at "ea") => `(tactic| first | with_reducible exact ea_nil | ((with_reducible refine' ea_consD ?h1 ?h2); (case h1 => walk_at "ev"); (case h2 => walk_at "ea")))
local macro_rules | `(tactic| walk_at "eo") => `(tactic| first | with_reducible exact eo_none | ((with_reducible refine' eo_at ?h1); (case h1 => walk_at "ev")))
local macro_rules | `(tactic| walk_at "cd") => `(tactic| first
  | with_reducible exact cd_lenL | with_reducible exact cd_lenT | with_reducible exact cd_tupL | with_reducible exact cd_tupT | with_reducible exact cd_lstL | with_reducible exact cd_lstT | with_reducible exact cd_abs | with_reducible exact cd_int)
local macro_rules | `(tactic| walk_at "ev") => `(tactic| first
  | with_reducible exact ev_int | with_reducible exact ev_bl | with_reducible exact ev_str | with_reducible exact ev_non
  | ((with_reducible refine' ev_var ?h1 ?h2); (case h1 => exact rfl); (case h2 => walk_at "rep"))
  | ((with_reducible refine' ev_opD ?h1 ?h2 ?h3); (case h1 => walk_at "ev"); (case h2 => walk_at "ev"); (case h3 => walk_at "od"))
  | ((with_reducible refine' ev_tupD ?h1); (case h1 => walk_at "ea"))
  | ((with_reducible refine' ev_lstD ?h1); (case h1 => walk_at "ea"))
  | ((with_reducible refine' ev_revL ?h1); (case h1 => walk_at "ev"))
  | ((with_reducible refine' ev_slD ?h1 ?h2 ?h3 ?h4); (case h1 => walk_at "ev"); (case h2 => walk_at "eo"); (case h3 => walk_at "eo"); (case h4 => first | with_reducible exact sd_tup | with_reducible exact sd_list))
  | ((with_reducible refine' ev_cbD ?h1 ?h2); (case h1 => walk_at "ea"); (case h2 => walk_at "cd"))
  | ((with_reducible refine' ev_notV ?h1); (case h1 => walk_at "ev"))
  | assumption)
local macro_rules | `(tactic| walk_at "et") => `(tactic| first
  | ((with_reducible refine' et_testD ?h1); (case h1 => walk_at "ev"))
  | ((with_reducible refine' et_BD ?h1); (case h1 => walk_at "ev"))
  | ((with_reducible refine' et_notD ?h1); (case h1 => walk_at "et"))
  | ((with_reducible refine' et_andD ?h1 ?h2); (case h1 => walk_at "et"); (case h2 => intro _; walk_at "et"))
  | ((with_reducible refine' et_orD ?h1 ?h2); (case h1 => walk_at "et"); (case h2 => intro _; walk_at "et"))
  | assumption)

theorem rd_heap {K : PySem.W.Frag} {H : Hp} {Q : VK} {a : Addr} {ns : List Int} {b p q m c : Int} (hS : SqL K H a (ns.map V.int)) (hp : 0 ≤ p ∧ p < 1000000) (hq : 0 ≤ q ∧ q < 1000) (hb : 0 ≤ b ∧ b < 1000) (hm : 0 < m ∧ m < 2 ^ 32) (hc : 0 ≤ c ∧ c < 1000)
    (k : ∀ h g H', (∀ a o, H a = some o → H' a = some o) → H h = none → H g = none → h ≠ g → drOk h g H' → Q (.ref h) H') : tHeap K p q m c { nx := fun _ H' => Q .non H', rt := Q } [some (.ref a), some (.int b), none, none, none] H := by
  have w0 : Wf Md.pure (fun _ => none) H := ⟨(fun _ _ e => by cases e), trivial, nofun⟩
  have l63 : (cutA ns none (some 63)).length ≤ 63 := by
    have e := cutA_to ns 63
    rw [show ((63 : Nat) : Int) = 63 from rfl] at e
    rw [e, List.length_take]
    omega
  refine s_asgD (K := K) (d := .list (oD ((cutA ns none (some 63)).map absI))) w0 ?_ fun v1 J1 H1 w1 t1 a1 => ?_
  · rw [← dAbs_map]
    refine ev_lcMap (ew_listD (ev_script rfl hS (by walk_at "eo") (by walk_at "eo"))) (by rw [oD_len]; exact Nat.lt_of_le_of_lt l63 (by decide)) (fun x => rfl) fun d x J1 H1 hd w t ax => ?_
    obtain ⟨n, hn⟩ := List.getElem?_of_mem hd
    obtain ⟨i, _, rfl⟩ := oD_at hn
    show EvD K Md.pure _ _ _ _ (.int (absI i))
    unfold absI
    walk_at "ev"
  generalize hcs : (cutA ns none (some 63)).map absI = cs at a1
  have cpos : ∀ x ∈ cs, 0 ≤ x := fun x hx => by
    rw [← hcs] at hx
    obtain ⟨y, _, rfl⟩ := List.mem_map.mp hx
    exact absI_pos y
  have clen : cs.length ≤ 63 := by rw [← hcs, List.length_map]; exact l63
  dsimp only
  refine s_asgI (K := K) w1 (i := p + q * b) ?_ fun J2 H2 w2 t2 => ?_
  · walk_at "ev"
  have a2 := t2.jj.da a1
  dsimp only
  have z1 : 0 ≤ q * b := Int.mul_nonneg hq.1 hb.1
  have z2 : q * b ≤ 1000 * 1000 := Int.mul_le_mul (by omega) (by omega) hb.1 (by decide)
  refine s_forD (K := K) (oD cs) (fun i σ' J' H' => ∃ n o, σ' = [some (.ref a), some (.int b), some v1, some (.int n), o] ∧ 0 ≤ n ∧ n < 2147483647) w0 (t1.trans t2) ?_ (fun J2 H2 _ _ => ⟨p + q * b, none, rfl, by omega, by omega⟩) (fun i σ' J' H' T xs h _ => h) ?_ ?_
  · exact ew_listD (by walk_at "ev")
  · rintro i d x σ' J2 J' H' hdi w' t' s1 s2 ⟨n, o, rfl, n0, n1⟩ ax
    obtain ⟨y, hy, rfl⟩ := oD_at hdi
    rw [da_int ax]
    have m0 : 0 ≤ y % m := Int.emod_nonneg _ (by omega)
    have m1 : y % m < m := Int.emod_lt_of_pos _ (by omega)
    refine s_asgI (K := K) w' (i := (n * 48271 + y % m + c) % 2147483647) ?_ fun J1 H1 w1 t1 => ⟨J1, w1, t'.trans t1, s2.trans t1.jj, (n * 48271 + y % m + c) % 2147483647, some (.int y), rfl, by omega, by omega⟩
    walk_at "ev"
  rintro σ' J' H' w' t' s1 ⟨n, o, rfl, n0, n1⟩
  have a3 := s1.da a2
  dsimp only
  refine s_retD (K := K) (d := .list [.list (oD (cs.filter fun i => decide ((10 : Int) ^ 18 ≤ i)).reverse), .int n]) w' ?_ fun v J3 H3 w3 t3 a3 => ?_
  · refine ev_lstD (ea_consD ?_ (by walk_at "ea"))
    rw [← oD_rev, ← dBig_filter]
    refine ev_revL ?_
    have e : (oD cs).filter dBig = ((oD cs).filter dBig).map id := by simp
    rw [e]
    refine ev_lcFilter (ew_listD (by walk_at "ev")) (by rw [oD_len]; exact Nat.lt_of_le_of_lt clen (by decide)) (fun x => rfl) (fun d x J1 H1 hd w t ax => ?_) fun d x J1 H1 hd _ w t ax => ?_
    · obtain ⟨k, hk⟩ := List.getElem?_of_mem hd
      obtain ⟨i, _, rfl⟩ := oD_at hk
      show EvT Md.pure _ _ _ _ (· = decide ((10 : Int) ^ (18 : Int).toNat ≤ i))
      walk_at "et"
    · show EvD K Md.pure _ _ _ _ d
      walk_at "ev"
  have tt := t'.trans t3
  obtain ⟨h, xs, rfl, jh, ha⟩ := da_lst a3
  cases ha with
  | cons b1 b2 =>
    obtain ⟨u, rfl, b3⟩ := das_one b2
    obtain ⟨g, ys, rfl, jg, hb⟩ := da_lst b1
    have eu := da_int b3
    subst eu
    have ey := das_ints_eq (ns := (cs.filter fun i => decide ((10 : Int) ^ 18 ≤ i)).reverse) hb
    subst ey
    have fresh : ∀ {x o}, J3 x = some o → H x = none := fun {x o} e => by
      cases q : H x with
      | none => rfl
      | some u => rw [tt.fr x (by rw [q]; exact nofun) rfl] at e; cases e
    refine k h g H3 (fun a o e => tt.keep a o (fun z => z) e) (fresh jh) (fresh jg) (fun e => ?_) ⟨_, n, tt.jh _ _ jh, tt.jh _ _ jg, fun x hx => ?_, ?_, n0, n1⟩
    · rw [e, jg] at jh
      have z := HO.lst.inj (Option.some.inj jh)
      cases hl : (cs.filter fun i => decide ((10 : Int) ^ 18 ≤ i)).reverse with
      | nil => rw [hl] at z; cases z
      | cons i is => rw [hl] at z; cases z
    · exact cpos x (List.mem_filter.mp (List.mem_reverse.mp hx)).1
    · rw [List.length_reverse]
      exact Nat.le_trans (List.length_filter_le _ _) clen
end DL

namespace DL
open PySem PySem.Spec
open PyProof.Rows L2
local macro_rules | `(tactic| walk_at "rep") => `(tactic| first | assumption | exact Da.int _ | exact Da.bl _ | exact Da.str _ | exact Da.non | exact Sub.da (by assumption) (by assumption) | exact Sub.da (Tr.jj (by assumption)) (by assumption))
local macro_rules | `(tactic| walk_at "arith") => `(tactic| first | assumption | omega | decide | exact cmul_small (by omega) (by omega) | exact cdiv_small (by omega) (by omega))
local macro_rules | `(tactic| walk_at "shp") => `(tactic| first | exact sh_int _ | exact sh_tup _ | exact sh_list _ | assumption)
local macro_rules | `(tactic| walk_at "od") => `(tactic| first
  | with_reducible exact od_plus
  | with_reducible exact od_sub
  | ((with_reducible refine' od_mul ?h1); walk_at "arith")
  | ((with_reducible refine' od_mod ?h1); walk_at "arith")
  | ((with_reducible refine' od_fdiv ?h1); walk_at "arith")
  | ((with_reducible refine' od_pow ?h1); exact ⟨by decide, by decide, by decide⟩)
  | with_reducible exact od_lt | with_reducible exact od_le | with_reducible exact od_gt | with_reducible exact od_ge
  | ((with_reducible refine' od_plusT ?h1); walk_at "arith")
  | ((with_reducible refine' od_plusL ?h1); walk_at "arith")
  | ((with_reducible refine' od_plusS ?h1); walk_at "arith")
  | with_reducible exact od_isN | with_reducible exact od_notN
  | ((with_reducible refine od_eq ?_ ?_) <;> walk_at "shp")
  | ((with_reducible refine od_ne ?_ ?_) <;> walk_at "shp")
  | ((with_reducible refine od_inL ?_ ?_) <;> walk_at "shp")
  | ((with_reducible refine od_ixL ?_); assumption)
  | ((with_reducible refine od_ixT ?_); assumption))
local macro_rules | `(tactic| walk_at "ea") => `(tactic| first | with_reducible exact ea_nil | ((with_reducible refine' ea_consD ?h1 ?h2); (case h1 => walk_at "ev"); (case h2 => walk_at "ea")))
local macro_rules | `(tactic| walk_at "eo") => `(tactic| first | with_reducible exact eo_none | ((with_reducible refine' eo_at ?h1); (case h1 => walk_at "ev")))
local macro_rules | `(tactic| walk_at "cd") => `(tactic| first
  | with_reducible exact cd_lenL | with_reducible exact cd_lenT | with_reducible exact cd_tupL | with_reducible exact cd_tupT | with_reducible exact cd_lstL | with_reducible exact cd_lstT | with_reducible exact cd_abs | with_reducible exact cd_int)
local macro_rules | `(tactic| walk_at "ev") => `(tactic| first
  | with_reducible exact ev_int | with_reducible exact ev_bl | with_reducible exact ev_str | with_reducible exact ev_non
  | ((with_reducible refine' ev_var ?h1 ?h2); (case h1 => exact rfl); (case h2 => walk_at "rep"))
  | ((with_reducible refine' ev_opD ?h1 ?h2 ?h3); (case h1 => walk_at "ev"); (case h2 => walk_at "ev"); (case h3 => walk_at "od"))
  | ((with_reducible refine' ev_tupD ?h1); (case h1 => walk_at "ea"))
  | ((with_reducible refine' ev_lstD ?h1); (case h1 => walk_at "ea"))
  | ((with_reducible refine' ev_revL ?h1); (case h1 => walk_at "ev"))
  | ((with_reducible refine' ev_slD ?h1 ?h2 ?h3 ?h4); (case h1 => walk_at "ev"); (case h2 => walk_at "eo"); (case h3 => walk_at "eo"); (case h4 => first | with_reducible exact sd_tup | with_reducible exact sd_list))
  | ((with_reducible refine' ev_cbD ?h1 ?h2); (case h1 => walk_at "ea"); (case h2 => walk_at "cd"))
  | ((with_reducible refine' ev_notV ?h1); (case h1 => walk_at "ev"))
  | assumption)
local macro_rules | `(tactic| walk_at "et") => `(tactic| first
  | ((with_reducible refine' et_testD ?h1); (case h1 => walk_at "ev"))
  | ((with_reducible refine' et_BD ?h1); (case h1 => walk_at "ev"))
  | ((with_reducible refine' et_notD ?h1); (case h1 => walk_at "et"))
  | ((with_reducible refine' et_andD ?h1 ?h2); (case h1 => walk_at "et"); (case h2 => intro _; walk_at "et"))
  | ((with_reducible refine' et_orD ?h1 ?h2); (case h1 => walk_at "et"); (case h2 => intro _; walk_at "et"))
  | assumption)
/-- what a law's helper promises whose first argument is the list of draws -/
def spH (K : PySem.W.Frag) (pre : List PyData → Prop) (post : List PyData → PyData → Prop) : Sp := fun vs H Q _ => ∃ M h g J us ds, vs = .ref h :: us ∧ HasDr M h g ∧ Wf M J H ∧ Das K J us ds ∧ pre ds ∧
  ∀ v d J' H', Wf M J' H' → Tr M J H J' H' → post ds d → Da K J' v d → Q v H'
theorem ev_callH {K : PySem.W.Frag} {M : Md} {σ : L2.St} {J H : Hp} {h g : Addr} {i : Nat} {ta : TA} {E : XK} {pre : List PyData → Prop} {post : List PyData → PyData → Prop} {Pa : List PyData → Prop} {P : PyData → Prop} (hd : HasDr M h g) (hs : σ[i]? = some (some (.ref h))) (ha : EvA K M ta σ J H Pa)
    (hp : ∀ ds, Pa ds → pre ds ∧ ∀ d, post ds d → P d) : EvP K M (tCall (spH K pre post) [] E (tCons (tVar i) ta)) σ J H P := fun J1 H1 w t Q q =>
  ⟨.ref h, hs, ha J1 H1 w t _ fun vs ds J2 H2 w2 t2 p a => by
    show spH K pre post ((V.ref h :: vs) ++ []) H2 Q E
    rw [List.append_nil]
    exact ⟨M, h, g, J2, vs, ds, rfl, hd, w2, a, (hp ds p).1, fun v d J3 H3 w3 t3 pd ad => q v d J3 H3 w3 (t2.trans t3) ((hp ds p).2 d pd) ad⟩⟩
def preDraw (ds : List PyData) : Prop := ∃ n, ds = [.int n] ∧ 0 < n ∧ n < 2 ^ 64
def postDraw (ds : List PyData) (d : PyData) : Prop := ∀ n, ds = [.int n] → ∃ i, d = .int i ∧ 0 ≤ i ∧ i < n
def spDr (K : PySem.W.Frag) : Sp := spH K preDraw postDraw
theorem rd_drawH {K : PySem.W.Frag} {vs : List V} {H : Hp} {Q : VK} {E : XK} {c : Int} (hc : 0 ≤ c ∧ c < 2 ^ 60) (h : spDr K vs H Q E) : tDraw K c { nx := fun _ H' => Q .non H', rt := Q } (vs.map some ++ [none]) H := by
  obtain ⟨M, h, g, J, us, ds, rfl, hd, w, a, ⟨n, rfl, n0, n1⟩, q⟩ := h
  obtain ⟨v, rfl, av⟩ := das_one a
  rw [da_int av]
  exact rd_draw hd w n0 n1 hc fun i H' w' t i0 i1 => q _ (.int i) J H' w' t (fun m e => by cases e; exact ⟨i, rfl, i0, i1⟩) (.int i)
theorem spH_len {K : PySem.W.Frag} {pre : List PyData → Prop} {post : List PyData → PyData → Prop} {vs : List V} {H : Hp} {Q : VK} {E : XK} (h : spH K pre post vs H Q E) : ∃ ds, pre ds ∧ vs.length = ds.length + 1 := by
  obtain ⟨M, h, g, J, us, ds, rfl, hd, w, a, p, q⟩ := h
  exact ⟨ds, p, by rw [List.length_cons, das_len a]⟩
/-- a draw below a number that is reckoned -/
theorem ev_draw {K : PySem.W.Frag} {M : Md} {σ : L2.St} {J H : Hp} {h g : Addr} {i : Nat} {te : TE} {E : XK} {n : Int} (hd : HasDr M h g) (hs : σ[i]? = some (some (.ref h))) (he : EvD K M te σ J H (.int n)) (n0 : 0 < n ∧ n < 2 ^ 64) :
    EvP K M (tCall (spDr K) [] E (tCons (tVar i) (tCons te tNil))) σ J H fun d => ∃ i, d = .int i ∧ 0 ≤ i ∧ i < n :=
  ev_callH hd hs (ea_consD he ea_nil) fun ds e => by rw [e]; exact ⟨⟨n, rfl, n0⟩, fun d p => p n rfl⟩
theorem atI_mem {ds : List PyData} {i : Int} (h0 : 0 ≤ i) (h1 : i < ds.length) : ∃ d, atI ds i = some d ∧ d ∈ ds := by
  have hk : i.toNat < ds.length := by omega
  refine ⟨ds[i.toNat], ?_, List.getElem_mem hk⟩
  unfold atI ixN
  rw [if_pos h0, if_pos h1]
  exact List.getElem?_eq_getElem hk
/-- one of some things, a list -/
def prePick (ds : List PyData) : Prop := ∃ xs, ds = [.list xs] ∧ xs ≠ [] ∧ xs.length < 2 ^ 62
def postPick (ds : List PyData) (d : PyData) : Prop := ∀ xs, ds = [.list xs] → d ∈ xs
def spPick (K : PySem.W.Frag) : Sp := spH K prePick postPick
def tPick (K : PySem.W.Frag) : TS := tRet (tOp (rIx K) (tVar 1) (tCall (spDr K) [] E0 (tCons (tVar 0) (tCons (tCB (rLen K) (tCons (tVar 1) tNil)) tNil))))
theorem rd_pick {K : PySem.W.Frag} {vs : List V} {H : Hp} {Q : VK} {E : XK} (h : spPick K vs H Q E) : tPick K { nx := fun _ H' => Q .non H', rt := Q } (vs.map some) H := by
  obtain ⟨M, h, g, J, us, ds, rfl, hd, w, a, ⟨xs, rfl, x0, x1⟩, q⟩ := h
  obtain ⟨v, rfl, av⟩ := das_one a
  have l0 : 0 < xs.length := List.length_pos_iff.mpr x0
  refine s_ret (K := K) (P := (· ∈ xs)) w ?_ fun v d J1 H1 w1 t1 p ad => q v d J1 H1 w1 t1 (fun ys e => by cases e; exact p) ad
  refine ev_op (Px := (· = .list xs)) (Py := fun d => ∃ i, d = .int i ∧ 0 ≤ i ∧ i < (xs.length : Int)) (by walk_at "ev") (ev_draw hd rfl (by walk_at "ev") (by omega)) ?_
  rintro dx dy rfl ⟨i, rfl, i0, i1⟩
  obtain ⟨d, e, m⟩ := atI_mem i0 i1
  intro x y J H w ax ay Q q
  exact od_ixL e x y J H w ax ay Q fun v d' J2 H2 w2 t2 e' a => q v d' J2 H2 w2 t2 (by rw [e']; exact m) a
theorem ev_pick {K : PySem.W.Frag} {M : Md} {σ : L2.St} {J H : Hp} {h g : Addr} {i : Nat} {te : TE} {E : XK} {Pa : PyData → Prop} {P : PyData → Prop} (hd : HasDr M h g) (hs : σ[i]? = some (some (.ref h))) (he : EvP K M te σ J H Pa) (hp : ∀ d, Pa d → ∃ xs, d = .list xs ∧ xs ≠ [] ∧ xs.length < 2 ^ 62 ∧ ∀ x ∈ xs, P x) :
    EvP K M (tCall (spPick K) [] E (tCons (tVar i) (tCons te tNil))) σ J H P :=
  ev_callH hd hs (ea_cons he ea_nil) fun ds ⟨d, r, e, pd, pr⟩ => by
    obtain ⟨xs, rfl, x0, x1, x2⟩ := hp d pd
    rw [e, pr]
    exact ⟨⟨xs, rfl, x0, x1⟩, fun d p => x2 d (p xs rfl)⟩
end DL

/-! What k06 and k07 wanted besides, for every law. -/
namespace DL
open PySem PySem.Spec
open PyProof.Rows
open L2
theorem cutI {xs : List Int} {i j : Int} {a b : Nat} (h1 : i = a) (h2 : j = b) : cutA xs (some i) (some j) = (xs.drop a).take (b - a) := by rw [h1, h2]; exact cutA_nat xs a b
theorem ev_eq {K : PySem.W.Frag} {M : Md} {te : TE} {σ : L2.St} {J H : Hp} {d d' : PyData} (h : EvD K M te σ J H d) (e : d = d') : EvD K M te σ J H d' := by rw [← e]; exact h
theorem et_eq {M : Md} {tt : TT} {σ : L2.St} {J H : Hp} {b b' : Bool} (h : EvT M tt σ J H (· = b)) (e : b = b') : EvT M tt σ J H (· = b') := by rw [← e]; exact h

theorem ev_xf {K : PySem.W.Frag} {M : Md} {σ : L2.St} {J H : Hp} {a dx C : Addr} {i : Nat} {f : Str} {v : V} {d : PyData} (hs : σ[i]? = some (some (.ref a))) (hx : H dx = some (.xd [(f, v)])) (nf : ¬ M.fp dx) (h : Da K J v d) :
    EvD K M (tXf a (.ref C) (some dx) C f (tVar i)) σ J H d := fun J1 H1 w t Q q => ⟨.ref a, hs, rfl, rfl, dx, _, v, rfl, t.keep dx _ nf hx, by simp [List.lookup], q v d J1 H1 w w.tr rfl (t.jj.da h)⟩

/-! ### calls with keywords that stand in the sequence of the parameters -/
theorem fun_kbN {K : PySem.W.Frag} {x qual : Str} {params : Arguments} {body : List Stmt} {scope : Scope} {f : Addr} {fd : FuncData} {ps : List Str} (F : FunD K x qual params body scope [] [] f fd) (n : Nat) (ks : List Str)
    (h : ∀ (kV doc pm : Value) (an : Option Addr) (cdv ct : Value) (us ws : List Value), us.length = n → ws.length = ks.length → bindArgs (PySem.W.fnOf x qual params body scope .none kV doc pm an cdv ct) ⟨us, ks.zip ws⟩ = pure (ps.zip (us ++ ws))) :
    KBn K fd ps n ks (fun us ws => us ++ ws) (fun vs zs => vs ++ zs) := by
  obtain ⟨_, _, _, k1, d1, m1, a1, c1, t1, _, e, _, _, dfl, _⟩ := F.ex
  subst e
  match dfl with
  | .inl ⟨_, none_⟩ => subst none_; exact ⟨fun s us ws _ l1 l2 => .of_eq (h k1 d1 m1 a1 c1 t1 us ws l1 l2), fun r1 r2 => r1.append r2⟩
  | .inr ⟨some_, _⟩ => exact absurd rfl some_
structure CaK (P : Program) (w : World) (K : PySem.W.Frag) (mg : Str → Option Value) (base : Heap) (CX : CXT) (k : Nat) (x : Str) (ps : List Str) (n : Nat) (ks : List Str) (sp : Sp) : Prop where
  has : ∃ f fd, FnOk P w K mg base CX k f fd ps sp ∧ mg x = some (.ref f) ∧ PySem.W.keepIn K (.ref f) = true ∧ KBn K fd ps n ks (fun us ws => us ++ ws) (fun vs zs => vs ++ zs)
theorem xCallK0 {X : Cx} {CX : CXT} {k : Nat} {ps ks : List Str} {sp : Sp} {E : XK} {kws : List Keyword} {p pos : Pos} {x : Str} {tk : TA} (C : CaK X.prog X.w X.K X.mg X.base CX k x ps 0 ks sp) (hr : Room k X.A) (hx : Passes CX X E) (hkw : PK X kws tk) (hg : Gl X x := by rfl) (hdb : (x == ("__debug__" : Str)) = false := by decide)
    (hall : (backToKw pos (keywordEach kws X.env)).all (·.1.isSome) = true := by rfl) (hks : (backToKw pos (keywordEach kws X.env)).filterMap (·.1) = ks := by rfl) (hpl : ((backTo pos (starEach [] X.env)).any (·.1) || (backToKw pos (keywordEach kws X.env)).any (·.1.isNone)) = false := by rfl) :
    PE X (.Call (.Name x p) [] kws pos) (fun σ H Q => tk σ H fun zs H2 => zs.length = ks.length ∧ sp zs H2 Q E) := by
  obtain ⟨f, fd, F, hm, hk, hb⟩ := C.has
  refine ⟨fun pins s σ H Q I h => wpAny_Call_Name_kw (ld_glob I hg hm ?_ hdb)⟩
  refine PySem.W.callWith_KW0 (h₀ := X.base) I.ok.mod.kin hk hall (thn (hkw.run pos pins s σ H _ I h) fun ws s2 ⟨zs, H2, I2, rz, l1, q2⟩ => ⟨I2.kIn, ?_⟩) hpl
  rw [hks]
  exact run_fnN (us := []) (vs := []) F hr hb hx I2 .nil rz rfl l1 q2
theorem ev_callK0 {K : PySem.W.Frag} {M : Md} {σ : L2.St} {J H : Hp} {sp : Sp} {E : XK} {m : Nat} {ta : TA} {ds : List PyData} {P : PyData → Prop} (h : EvA K M ta σ J H (· = ds)) (hm : ds.length = m) (ho : SpD K M sp ds P E) : EvP K M (fun σ H Q => ta σ H fun zs H2 => zs.length = m ∧ sp zs H2 Q E) σ J H P := fun J1 H1 w t Q q =>
  h J1 H1 w t _ fun vs ds' J2 H2 w2 t2 e a => by
    subst e
    exact ⟨by rw [das_len a]; exact hm, ho vs J2 H2 w2 a Q fun v d J3 H3 w3 t3 p a3 => q v d J3 H3 w3 (t2.trans t3) p a3⟩
theorem ev_neg {K : PySem.W.Frag} {M : Md} {σ : L2.St} {J H : Hp} {te : TE} {i : Int} (h : EvD K M te σ J H (.int i)) : EvD K M (tUn (rU fun i => .int (-i)) te) σ J H (.int (-i)) :=
  ev_un h fun dx e x J H w a Q q => by
    subst e
    exact ⟨i, da_int a, q _ _ J H w w.tr rfl (.int _)⟩
theorem ev_ixC {K : PySem.W.Frag} {M : Md} {σ : L2.St} {J H : Hp} {te : TE} {k : Nat} {p : Addr} {ys : List V} {i : Int} {v : V} {d : PyData} (hs : σ[k]? = some (some (.ref p))) (hH : H p = some (.lst ys)) (nf : ¬ M.fp p) (he : EvD K M te σ J H (.int i)) (hv : atI ys i = some v) (ha : ∀ J, Da K J v d) :
    EvD K M (tOp (rIx K) (tVar k) te) σ J H d := fun J1 H1 w t Q q => ⟨.ref p, hs, he J1 H1 w t _ fun x d' J2 H2 w2 t2 e a => by
      subst e
      exact .inl ⟨p, ys, i, v, rfl, da_int a, .of ((t.trans t2).keep p _ nf hH), hv, q v d J2 H2 w2 t2 rfl (ha _)⟩⟩
theorem od_neS {K : PySem.W.Frag} {M : Md} {x y : Str} : OpD K M rNe (.str x) (.str y) (· = .bool (!decide (x = y))) := fun a b J H w ax ay Q q => by
  rw [da_str ax, da_str ay]
  have e : decide (V.str x = V.str y) = decide (x = y) := decide_eq_decide.mpr ⟨fun e => V.str.inj e, fun e => by rw [e]⟩
  refine ⟨rfl, ?_⟩
  rw [e]
  exact q _ _ J H w w.tr rfl (.bl _)
theorem od_eqS {K : PySem.W.Frag} {M : Md} {x y : Str} : OpD K M rEq (.str x) (.str y) (· = .bool (decide (x = y))) := fun a b J H w ax ay Q q => by
  rw [da_str ax, da_str ay]
  have e : decide (V.str x = V.str y) = decide (x = y) := decide_eq_decide.mpr ⟨fun e => V.str.inj e, fun e => by rw [e]⟩
  refine ⟨rfl, ?_⟩
  rw [e]
  exact q _ _ J H w w.tr rfl (.bl _)

theorem any_ints (xs : List Int) (c : Int) : ((oD xs).any fun z => PyData.eqv z (.int c)) = decide (c ∈ xs) := by
  induction xs with
  | nil => rfl
  | cons x xs ih =>
    show (PyData.eqv (.int x) (.int c) || (oD xs).any fun z => PyData.eqv z (.int c)) = _
    rw [ih, eqv_int, Bool.eq_iff_iff]
    simp only [Bool.or_eq_true, decide_eq_true_eq, List.mem_cons]
    exact ⟨fun h => h.imp Eq.symm id, fun h => h.imp Eq.symm id⟩
theorem atI_nat {α : Type} {xs : List α} {k : Nat} {x : α} (h : xs[k]? = some x) : atI xs (k : Int) = some x := by
  obtain ⟨hk, _⟩ := List.getElem?_eq_some_iff.mp h
  unfold atI ixN
  rw [if_pos (by omega), if_pos (by omega)]
  show xs[((k : Nat) : Int).toNat]? = some x
  rw [Int.toNat_natCast]
  exact h
theorem atI_m1 {α : Type} {xs : List α} {k : Nat} {x : α} (h : xs[k]? = some x) (hl : xs.length = k + 1) : atI xs (-1) = some x := by
  unfold atI ixN
  rw [if_neg (by omega), if_pos (by omega), hl, show (-1 + ((k + 1 : Nat) : Int)).toNat = k by omega]
  exact h
theorem oD_get {xs : List Int} {k : Nat} {x : Int} (h : xs[k]? = some x) : (oD xs)[k]? = some (.int x) := by unfold oD; rw [List.getElem?_map, h]; rfl

theorem take_snoc {α : Type} {xs : List α} {i : Nat} {x : α} (h : xs[i]? = some x) : xs.take (i + 1) = xs.take i ++ [x] := by rw [List.take_add_one, h]; rfl

/-! ### rules: enumerate, a list many times, a changed row, what is read of what is drawn -/
def enumD (ds : List PyData) : List PyData := (List.range ds.length).map fun i => .tuple [.int (i : Nat), ds.getD i .none]
theorem enumD_len (ds : List PyData) : (enumD ds).length = ds.length := by unfold enumD; simp
theorem enumD_at {ds : List PyData} {i : Nat} {d : PyData} (h : (enumD ds)[i]? = some d) : ∃ x, ds[i]? = some x ∧ d = .tuple [.int (i : Nat), x] := by
  unfold enumD at h
  rw [List.getElem?_map] at h
  by_cases hi : i < ds.length
  · rw [List.getElem?_range hi] at h
    refine ⟨ds[i], List.getElem?_eq_getElem hi, ?_⟩
    rw [← Option.some.inj h]
    show PyData.tuple [PyData.int (i : Nat), ds.getD i PyData.none] = _
    rw [List.getD_eq_getElem?_getD, List.getElem?_eq_getElem hi]
    rfl
  · rw [List.getElem?_eq_none (by simp; omega)] at h
    cases h
section
variable {K : PySem.W.Frag} {M : Md} {σ : L2.St} {J H : Hp} {ta tb tc te : TE} {E : XK} {ds : List PyData}
theorem ew_enum (h : EvD K M te σ J H (.list ds)) : EvW K M (iEnum K (tCons te tNil)) σ J H (· = enumD ds) := fun J1 H1 w t R q =>
  h J1 H1 w t _ fun v d J2 H2 w2 t2 e a => by
    subst e
    obtain ⟨p, xs, rfl, hl, hd⟩ := da_lst a
    refine ⟨p, xs, rfl, .of (w2.jh _ _ hl), q _ _ J2 H2 w2 t2 rfl ⟨fun i G hi s => ?_, fun G s => ⟨xs, .of (s _ _ hl), by rw [das_len hd, enumD_len]; exact Nat.le_refl _⟩, fun i G x G' d hd' s y => ?_⟩⟩
    · rw [enumD_len] at hi
      have hi2 : i < xs.length := by rw [das_len hd]; exact hi
      exact ⟨xs, xs[i], .of (s _ _ hl), List.getElem?_eq_getElem hi2⟩
    · obtain ⟨T, z, ev, hT, eG, y⟩ := y
      obtain ⟨d2, e2, a2⟩ := das_at hd (y xs (.of (s _ _ hl)))
      obtain ⟨d3, e3, rfl⟩ := enumD_at hd'
      rw [e2] at e3
      cases e3
      exact .inr ⟨T, _, _, ev, hT, eG, rfl, .cons (.int _) (.cons a2 .nil)⟩
theorem od_rep {n : Nat} (h1 : n < 2 ^ 60) (h2 : ds.length * n ≤ sizeLine) : OpD K M rRep (.list ds) (.int (n : Int)) (· = .list (List.replicate n ds).flatten) := fun x y J H w ax ay Q q => by
  obtain ⟨a, xs, rfl, hl, hd⟩ := da_lst ax
  have en : ((n : Nat) : Int).toNat = n := Int.toNat_natCast n
  refine ⟨a, n, xs, rfl, da_int ay, w.jh _ _ hl, by omega, by omega, by rw [en, das_len hd]; exact h2, fun p hp => ?_⟩
  rw [en]
  have t := w.new (o := .lst (List.replicate n xs).flatten) hp
  refine q _ _ _ _ (t.wf w) t rfl (.lst upd_same (t.jj.das ?_))
  have key : ∀ m : Nat, Das K J (List.replicate m xs).flatten (List.replicate m ds).flatten := by
    intro m
    induction m with
    | zero => exact .nil
    | succ m ih => rw [List.replicate_succ, List.replicate_succ, List.flatten_cons, List.flatten_cons]; exact das_app hd ih
  exact key n

end

theorem OpD.mono {K : PySem.W.Frag} {M : Md} {r : R2} {dx dy : PyData} {P P' : PyData → Prop} (h : OpD K M r dx dy P) (k : ∀ d, P d → P' d) : OpD K M r dx dy P' := fun x y J H w ax ay Q q => h x y J H w ax ay Q fun v d J2 H2 w2 t2 p a => q v d J2 H2 w2 t2 (k d p) a
abbrev exTl : List Value := [.type "Exception", .type "BaseException", .type "object"]
theorem exTl_pass (self : Value) : refuseLoop self "__setattr__" exTl = pure () := by rfl
/-- an own class over own ones over Exception, off the heap: its parts, put together again -/
def ownB (K : PySem.W.Frag) (C : Addr) (tl : List Value) (nw : String) : Bool := match K.lookup C with
  | some ⟨.type ty, _, .cls ⟨_, _, .ref C' :: tail, _, _, dct, _, _, _, _, gone⟩, ⟨[_, _, _, _, some (.builtin made), _]⟩⟩ => decide (ty = "type") && (decide (C' = C) && (decide (made = nw) && (dct && (!gone && endsIn tl tail))))
  | _ => false
theorem ownB_ok {K : PySem.W.Frag} {C : Addr} {tl : List Value} {nw : String} (told : ownB K C tl nw = true) : ∃ nm q N bs bm sn sub ab col dd k0 k1 k2 k3 k5, K.lookup C = some (excClassObj nm q C N bs bm true sn sub ab col dd k0 k1 k2 k3 k5 nw) ∧ endsIn tl bm = true := by
  unfold ownB at told
  split at told
  · rename_i at_
    obtain ⟨p1, r1⟩ := He.ba told
    obtain ⟨p2, r2⟩ := He.ba r1
    obtain ⟨p3, r3⟩ := He.ba r2
    obtain ⟨p4, r4⟩ := He.ba r3
    obtain ⟨p5, r5⟩ := He.ba r4
    have e1 := of_decide_eq_true p1
    have e2 := of_decide_eq_true p2
    have e3 := of_decide_eq_true p3
    have e5 : _ = false := Bool.not_eq_eq_eq_not.mp p5
    subst e1 e2 e3 p4 e5
    exact ⟨_, _, _, _, _, _, _, _, _, _, _, _, _, _, _, at_, r5⟩
  · exact nomatch told
/-- all that Er wants of the class x that keeps f -/
def erB (K : PySem.W.Frag) (x f : Str) : Bool :=
  ownB K (He.ga K x) exTl "Exception.__new__" && (He.eqO (PySem.W.findIn K (.ref (He.ga K x)) "__setattr__") (some (some (.builtin "object.__setattr__"))) && (decide (PySem.W.subIn K (.ref (He.ga K x)) (.type "BaseException") = some true) &&
  (decide (PySem.W.typeIn K (.ref (He.ga K x)) = some (.type "type")) && (PySem.W.keepIn K (.ref (He.ga K x)) && (He.eqO (PySem.W.findIn K (.ref (He.ga K x)) "__init__") (some (some (.ref (He.ma K (He.ga K x) "__init__")))) &&
  (decide (PySem.W.typeIn K (.ref (He.ma K (He.ga K x) "__init__")) = some (.type "function")) && (xfB K (He.ga K x) && (He.eqO (PySem.W.findIn K (.ref (He.ga K x)) f) (some none) && He.eqO (PySem.W.nsIn K mainGlobals x) (some (some (.ref (He.ga K x)))))))))))) 
theorem erB_own {K : PySem.W.Frag} {x f : Str} (h : erB K x f = true) : OwnE K (He.ga K x) exTl "Exception.__new__" := by
  obtain ⟨h1, h⟩ := He.ba h
  obtain ⟨h2, h⟩ := He.ba h
  obtain ⟨h3, h⟩ := He.ba h
  obtain ⟨h4, h⟩ := He.ba h
  obtain ⟨h5, h⟩ := He.ba h
  exact ⟨ownB_ok h1, He.eqO_ok h2, of_decide_eq_true h3, of_decide_eq_true h4, h5⟩
theorem er_of {P : Program} {w : World} {K : PySem.W.Frag} {mg : Str → Option Value} {base h : Heap} {x f : Str} {fd : FuncData} {ps : List Str} (c : erB K x f = true) (X : K.In h) (G : h.Ns mainGlobals mg) (F : FnOk P w K mg base CX0 1 (He.ma K (He.ga K x) "__init__") fd ps (spIni K (He.ga K x) f)) (hb : Binds K fd ps []) : Er P w K mg base x (He.ga K x) f := by
  have T := erB_own c
  obtain ⟨h1, c⟩ := He.ba c
  obtain ⟨h2, c⟩ := He.ba c
  obtain ⟨h3, c⟩ := He.ba c
  obtain ⟨h4, c⟩ := He.ba c
  obtain ⟨h5, c⟩ := He.ba c
  obtain ⟨h6, c⟩ := He.ba c
  obtain ⟨h7, c⟩ := He.ba c
  obtain ⟨h8, c⟩ := He.ba c
  obtain ⟨h9, c⟩ := He.ba c
  exact ⟨⟨exTl, "Exception.__new__", "Exception", "Exception.__init__", _, fd, ps, PySem.F.excBase_Exception, T, He.eqO_ok h6, of_decide_eq_true h7, F, hb⟩, PySem.W.mg_of X G (He.eqO_ok c), xfB_ok h8, He.eqO_ok h9⟩
end DL

/-! zip of a tuple and a list: the pairs that it makes, as data. -/
namespace DL
open PySem PySem.Spec
open PyProof.Rows L2
theorem neN {x y : Nat} (h : x < y ∨ y < x) : (show Addr from x) ≠ (show Addr from y) := fun e => by
  have e' : x = y := e
  omega
theorem no2 {x y z : Nat} (h : x < y ∨ y < x) (g : x < z ∨ z < x) : (show Addr from x) ∉ [(show Addr from y), (show Addr from z)] := fun m => by
  rcases List.mem_cons.mp m with e | m
  · exact neN h e
  · exact neN g (List.mem_singleton.mp m)
theorem in5 {n c : Addr} (h : c ∈ [n + 4, n + 2, n + 3, n, n + 1]) : c = n + 4 ∨ c = n + 2 ∨ c = n + 3 ∨ c = n ∨ c = n + 1 := by simpa using h
/-- the cells of such a zip, told by the place of the first one -/
theorem apart5 (n a b : Nat) (ha : a < n) (hb : b < n) : ZipSep2 (n + 4) (n + 2) (n + 3) n (n + 1) [n, a] [n + 1, b] where
  TIz := neN (by omega)
  TOz := neN (by omega)
  TITO := neN (by omega)
  TIi1 := neN (by omega)
  mem1 := List.mem_cons_self
  zf1 := no2 (by omega) (by omega)
  Tf1 := no2 (by omega) (by omega)
  TIi2 := neN (by omega)
  mem2 := List.mem_cons_self
  zf2 := no2 (by omega) (by omega)
  Tf2 := no2 (by omega) (by omega)
  sep1_2 := no2 (by omega) (by omega)
  sep2_1 := no2 (by omega) (by omega)
/-- five objects behind the heap, as zip lays them -/
def zq1 (h : Heap) (a : Addr) : Heap := h.push ⟨.type "tuple_iterator", none, .fields #[.ref a, .int 0 0], #[]⟩
def zq2 (h : Heap) (a b : Addr) : Heap := (zq1 h a).push ⟨.type "list_iterator", none, .fields #[.ref b, .int 0 0], #[]⟩
def zq3 (h : Heap) (a b : Addr) : Heap := (zq2 h a b).push ⟨.type "tuple", none, .seq #[.ref h.objs.size, .ref (zq1 h a).objs.size], #[]⟩
def zq4 (h : Heap) (a b : Addr) : Heap := (zq3 h a b).push ⟨.type "tuple", none, .seq #[.none, .none], #[]⟩
def zq5 (h : Heap) (a b : Addr) : Heap := (zq4 h a b).push ⟨.type "zip", none, .fields #[.none, .bool false, .bool false, .ref (zq2 h a b).objs.size, .ref (zq3 h a b).objs.size], #[]⟩
theorem zq_new (a b : Addr) (us ws : Array Value) : Meets (Builtin.«zip.__new__» ⟨[.type "zip", .ref a, .ref b], []⟩) (fun _ R s =>
    s.heap.IsTuple a us ∧ s.heap.IsList b ws ∧ R (.ok (.ret (.ref (zq4 s.heap a b).objs.size))) { s with heap := zq5 s.heap a b }) :=
  .of_wp fun prog w A R s told => by
    obtain ⟨hp, gs, dr, tk, os⟩ := s
    obtain ⟨ta, lb, r⟩ := told
    have hsub := sub_zip
    have e1 : Heap.IsTuple (Shared.heap ⟨hp, gs, dr, tk, os⟩) a us := ta
    have e2 : Heap.IsList (Shared.heap ⟨hp.push { cls := .type "tuple_iterator", data := .fields #[.ref a, .int 0 0] }, gs, dr, tk, os⟩) b ws := Heap.IsList.push lb _
    wp_walk using wpAny_pyIter_tuple e1, wpAny_pyIter_list e2
    exact ⟨_, rfl, r⟩
theorem call_zq {prog : Program} {w : World} {A : Around} {E : Value → Shared → Prop} {s : Shared} {a b : Addr} {us ws : Array Value} {Q : Value → Shared → Prop} (ta : s.heap.IsTuple a us) (lb : s.heap.IsList b ws)
    (q : ∀ g n, n = s.heap.objs.size → IsZip g (n + 4) (n + 2) (n + 3) .none → IsTupOf2 g (n + 2) (.ref n) (.ref (n + 1)) → IsTupOf2 g (n + 3) .none .none → g.IsTupleIter n a 0 → g.IsListIter (n + 1) b 0 →
      (∀ c o, s.heap.get? c = some o → g.get? c = some o) → Q (.ref (n + 4)) { s with heap := g }) : wpAny (model prog w) A (call (.type "zip") [.ref a, .ref b]) Q E s := by
  refine callType_new F.called_zip (by decide) (F.typeCall_zip_2 _ _) (F.newCall_zip_2 _ _) (fun o => F.args_object_init_3 o _ _) F.entry_zip_new (zq_new a b us ws) ⟨ta, lb, ?_⟩
  generalize hn : s.heap.objs.size = n at q
  have n1 : (zq1 s.heap a).objs.size = n + 1 := by rw [← hn]; exact Heap.size_push ..
  have n2 : (zq2 s.heap a b).objs.size = n + 2 := by unfold zq2; rw [Heap.size_push, n1]
  have n3 : (zq3 s.heap a b).objs.size = n + 3 := by unfold zq3; rw [Heap.size_push, n2]
  have n4 : (zq4 s.heap a b).objs.size = n + 4 := by unfold zq4; rw [Heap.size_push, n3]
  have k0 : ∀ c o, s.heap.get? c = some o → (zq1 s.heap a).get? c = some o := fun c o e => Heap.get?_push_of_some _ e
  have k1 : ∀ c o, (zq1 s.heap a).get? c = some o → (zq2 s.heap a b).get? c = some o := fun c o e => Heap.get?_push_of_some _ e
  have k2 : ∀ c o, (zq2 s.heap a b).get? c = some o → (zq3 s.heap a b).get? c = some o := fun c o e => Heap.get?_push_of_some _ e
  have k3 : ∀ c o, (zq3 s.heap a b).get? c = some o → (zq4 s.heap a b).get? c = some o := fun c o e => Heap.get?_push_of_some _ e
  have k4 : ∀ c o, (zq4 s.heap a b).get? c = some o → (zq5 s.heap a b).get? c = some o := fun c o e => Heap.get?_push_of_some _ e
  have o0 : (zq1 s.heap a).get? n = some ⟨.type "tuple_iterator", none, .fields #[.ref a, .int 0 0], #[]⟩ := by rw [← hn]; exact Heap.get?_push_size _ rfl
  have o1 : (zq2 s.heap a b).get? (n + 1) = some ⟨.type "list_iterator", none, .fields #[.ref b, .int 0 0], #[]⟩ := by rw [← n1]; exact Heap.get?_push_size _ rfl
  have o2 : (zq3 s.heap a b).get? (n + 2) = some ⟨.type "tuple", none, .seq #[.ref n, .ref (n + 1)], #[]⟩ := by
    have e := Heap.get?_push_size (zq2 s.heap a b) (o := ⟨.type "tuple", none, .seq #[.ref s.heap.objs.size, .ref (zq1 s.heap a).objs.size], #[]⟩) rfl
    rw [n2, n1, hn] at e
    unfold zq3
    rw [n1, hn]
    exact e
  have o3 : (zq4 s.heap a b).get? (n + 3) = some ⟨.type "tuple", none, .seq #[.none, .none], #[]⟩ := by rw [← n3]; exact Heap.get?_push_size _ rfl
  have o4 : (zq5 s.heap a b).get? (n + 4) = some ⟨.type "zip", none, .fields #[.none, .bool false, .bool false, .ref (n + 2), .ref (n + 3)], #[]⟩ := by
    have e := Heap.get?_push_size (zq4 s.heap a b) (o := ⟨.type "zip", none, .fields #[.none, .bool false, .bool false, .ref (zq2 s.heap a b).objs.size, .ref (zq3 s.heap a b).objs.size], #[]⟩) rfl
    rw [n4, n2, n3] at e
    unfold zq5
    rw [n2, n3]
    exact e
  show _ ∧ _
  rw [n4]
  exact ⟨⟨_, o4, rfl⟩, q _ n rfl o4 (k4 _ _ (k3 _ _ o2)) (k4 _ _ o3) ⟨_, k4 _ _ (k3 _ _ (k2 _ _ (k1 _ _ o0))), rfl, rfl⟩ ⟨_, k4 _ _ (k3 _ _ (k2 _ _ o1)), rfl, rfl⟩ fun c o e => k4 _ _ (k3 _ _ (k2 _ _ (k1 _ _ (k0 _ _ e))))⟩
/-- the pairs of a tuple's and a list's things -/
def Itm (K : PySem.W.Frag) (a b : Addr) : L2.It where
  go := fun i H => ∃ xs ys x y, (SqT K H a xs ∧ xs[i]? = some x) ∧ (SqL K H b ys ∧ ys[i]? = some y)
  yld := fun i H v H' => ∃ T x y, (v = V.ref T ∧ H T = none ∧ H' = upd H T (.tup [x, y])) ∧ (∀ xs, SqT K H a xs → xs[i]? = some x) ∧ (∀ ys, SqL K H b ys → ys[i]? = some y)
  stop := fun i H => ∃ xs ys : List V, (SqT K H a xs ∧ SqL K H b ys) ∧ i ≤ xs.length ∧ i ≤ ys.length ∧ (i = xs.length ∨ i = ys.length)
theorem turn_m {P : Program} {w : World} {K : PySem.W.Frag} {els : List Expr} {kk : Nat} {tp : Pos} {a b n : Nat} (ha : a < n) (hb : b < n) :
    Turn P w K (.Tuple els kk tp) (Itm K a b) [n + 4, n + 2, n + 3, n, n + 1] (n + 4) (fun i h => (IsZip h (n + 4) (n + 2) (n + 3) .none ∧ IsTupOf2 h (n + 2) (.ref n) (.ref (n + 1))) ∧ (∃ x y, IsTupOf2 h (n + 3) x y) ∧ h.IsTupleIter n a i ∧ h.IsListIter (n + 1) b i) where
  mem := List.mem_cons_self
  obj := fun i h ⟨⟨z, t⟩, ⟨x, y, u⟩, ⟨o1, e1, _, d1⟩, ⟨o2, e2, _, d2⟩⟩ c hc => by
    rcases in5 hc with rfl | rfl | rfl | rfl | rfl
    · exact ⟨_, z, nofun⟩
    · exact ⟨_, t, nofun⟩
    · exact ⟨_, u, nofun⟩
    · exact ⟨o1, e1, fun v e => by rw [d1] at e; cases e⟩
    · exact ⟨o2, e2, fun v e => by rw [d2] at e; cases e⟩
  keep := fun i h g ⟨⟨z, t⟩, ⟨x, y, u⟩, i1, i2⟩ k => ⟨⟨k _ (by simp) _ z, k _ (by simp) _ t⟩, ⟨x, y, k _ (by simp) _ u⟩, i1.at fun o e => k n (by simp) o e, i2.at fun o e => k (n + 1) (by simp) o e⟩
  item := by
    rintro X rfl rfl rfl calm i pins s σ H E I free ⟨⟨z, t⟩, ⟨x0, y0, u⟩, i1, i2⟩ ⟨xs, ys, x, y, ⟨qx, ex⟩, qy, ey⟩
    obtain ⟨us, ru, pu, _⟩ := I.tuple qx
    obtain ⟨ws, rw_, pw, _⟩ := I.list qy
    obtain ⟨v1, g1, r1⟩ := ru.get ex
    obtain ⟨v2, g2, r2⟩ := rw_.get ey
    have hd := I.ok.hd calm
    have lz : n + 4 < s.heap.objs.size := Heap.lt_size z
    have S := apart5 n a b ha hb
    refine wpAny_pyNext_zipD2_item S (Draws.tuple (A := X.A.in1) hd n a (neN (by omega)) us.toArray) (Draws.list (A := X.A.in1) hd (n + 1) b (neN (by omega)) ws.toArray) z t u ⟨i1, pu⟩ ⟨i2, pw.isList⟩
      (by obtain ⟨l, _⟩ := List.getElem?_eq_some_iff.mp g1; simpa using l) (by obtain ⟨l, _⟩ := List.getElem?_eq_some_iff.mp g2; simpa using l) fun w1 w2 g tk p1 p2 z' u' s1 s2 nt _ kp => ?_
    have q1 : w1 = v1 := by have e : us[i]? = some w1 := by simpa using p1
                            rw [g1] at e; exact (Option.some.inj e).symm
    have q2 : w2 = v2 := by have e : ws[i]? = some w2 := by simpa using p2
                            rw [g2] at e; exact (Option.some.inj e).symm
    subst q1 q2
    refine ⟨_, rfl, wpAny_letOwnedTupleGo_zip (s := { s with heap := g, toks := tk }) z' fun g2' z2 sb => ?_⟩
    have far : ∀ {c}, c ∉ [n + 4, n + 2, n + 3, n, n + 1] → c ≠ n + 4 ∧ c ≠ n + 3 ∧ c ≠ n ∧ c ≠ n + 1 := fun {c} h => ⟨fun e => h (by simp [e]), fun e => h (by simp [e]), fun e => h (by simp [e]), fun e => h (by simp [e])⟩
    have all : ∀ c o, c ∉ [n + 4, n + 2, n + 3, n, n + 1] → s.heap.get? c = some o → g2'.get? c = some o := fun c o h e => by
      obtain ⟨f1, f2, f3, f4⟩ := far h
      exact (sb.2 c f1).trans (kp c o f1 f2 f3 f4 e)
    have at_ : g2'.get? s.heap.objs.size = some { cls := .type "tuple", data := .seq #[w1, w2] } := (sb.2 _ (Nat.ne_of_gt lz)).trans nt
    have ob : ObjOk X.prog X.w (upd H s.heap.objs.size (.tup [x, y])) g2' s.heap.objs.size (.tup [x, y]) := ⟨(by decide : 2 ≤ sizeLine), [w1, w2], .cons r1 (.cons r2 .nil), _, at_, rfl, _, rfl⟩
    refine ⟨.ref s.heap.objs.size, _, I.turnedNew (t' := tk) (ch := [n + 4, n + 2, n + 3, n, n + 1]) all free (Nat.le_refl _) ob, rfl, ⟨_, x, y, ⟨rfl, I.hok.fresh (Nat.le_refl _), rfl⟩, fun l hl => by rw [I.tuple_inj hl qx]; exact ex, fun l hl => by rw [I.list_inj hl qy]; exact ey⟩,
      ⟨⟨z2, (sb.2 _ (neN (by omega))).trans (kp _ _ (neN (by omega)) (neN (by omega)) (neN (by omega)) (neN (by omega)) t)⟩, ⟨w1, w2, (sb.2 _ (neN (by omega))).trans u'⟩, s1.1.at fun o e => (sb.2 n (neN (by omega))).trans e, s2.1.at fun o e => (sb.2 (n + 1) (neN (by omega))).trans e⟩, fun c hc => ?_⟩
    have lc : c < s.heap.objs.size := by
      refine Nat.lt_of_le_of_lt ?_ lz
      rcases in5 hc with e | e | e | e | e
      · rw [e]; exact Nat.le_refl _
      · rw [e]; exact Nat.add_le_add_left (by decide) n
      · rw [e]; exact Nat.add_le_add_left (by decide) n
      · rw [e]; exact Nat.le_add_right n 4
      · rw [e]; exact Nat.add_le_add_left (by decide) n
    rw [upd_ne (Nat.ne_of_lt lc)]
    exact (free c hc).1
  done := by
    rintro X rfl rfl rfl calm i pins s σ H E I free ⟨⟨z, t⟩, ⟨x0, y0, u⟩, i1, i2⟩ ⟨xs, ys, ⟨qx, qy⟩, last⟩
    obtain ⟨us, ru, pu, _⟩ := I.tuple qx
    obtain ⟨ws, rw_, pw, _⟩ := I.list qy
    have hd := I.ok.hd calm
    have l1 := ru.length
    have l2 := rw_.length
    exact wpAny_pyNext_zipD2_end (apart5 n a b ha hb) (Draws.tuple (A := X.A.in1) hd n a (neN (by omega)) us.toArray) (Draws.list (A := X.A.in1) hd (n + 1) b (neN (by omega)) ws.toArray) z t u ⟨i1, pu⟩ ⟨i2, pw.isList⟩
      (by rw [List.size_toArray, ← l1]; exact last.1) (by rw [List.size_toArray, ← l2]; exact last.2.1) (by rw [List.size_toArray, List.size_toArray, ← l1, ← l2]; exact last.2.2)
      fun g tk kp => ⟨rfl, I.turnedL (t' := tk) (ch := [n + 4, n + 2, n + 3, n, n + 1]) (fun c o h e => kp c o (fun e => h (by simp [e])) (fun e => h (by simp [e])) (fun e => h (by simp [e])) (fun e => h (by simp [e])) e) free⟩
  self := fun A i s Q E st q => wpAny_pyIter_zip st.1.1 q
def iZm (K : PySem.W.Frag) (ta : TA) : TI := fun σ H R => ta σ H fun vs G => ∃ a b xs ys, (vs = [V.ref a, V.ref b] ∧ SqT K G a xs) ∧ SqL K G b ys ∧ R (Itm K a b) G
/-- zip of a tuple and a list is walked -/
theorem pi_zm {X : Cx} {x y : Expr} {ta : TA} {p pos tp : Pos} {els : List Expr} {kk : Nat} (hg : Gl X "zip") (hm : X.mg "zip" = none) (ha : PA X [x, y] ta) (hs : starEach [x, y] X.env = (false, eval x X.env) :: starEach [y] X.env := by rfl)
    (hp : (backTo pos (starEach [y] X.env)).any (·.1) = false := by rfl) : PI X (.Tuple els kk tp) (.Call (.Name "zip" p) [x, y] [] pos) (iZm X.K ta) := by
  refine ⟨fun pins s σ H R I h => ?_⟩
  have hr := ha.run pos pins s σ H _ I h
  refine Call_ (ld_blt I hg hm PyProof.Rows.boot_zip (PyProof.Rows.callWith_type1 (thn hr fun us s1 ⟨vs, G, I1, r1, told⟩ => ?_) hs hp))
  obtain ⟨a, b, xs, ys, ⟨e, qx⟩, qy, r⟩ := told
  subst e
  cases r1 with
  | cons ra rs =>
    cases rs with
    | cons rb rs =>
    cases rs
    cases ra
    cases rb
    obtain ⟨ts, _, pt, _⟩ := I1.tuple qx
    obtain ⟨ls, _, pl, _⟩ := I1.list qy
    obtain ⟨o1, e1, _⟩ := id pt
    refine call_zq (show s1.heap.IsTuple a ts.toArray from pt) pl.isList fun g n hn z t u i1 i2 kp => wpAny_pyIter_zip z ?_
    have J : Inv X pins σ G { s1 with heap := g } := I1.kept (t' := s1.toks) kp
    refine ⟨n + 4, [n + 4, n + 2, n + 3, n, n + 1], _, _, G, rfl, J, turn_m (by rw [hn]; exact Heap.lt_size e1) (by rw [hn]; exact pl.lt), ⟨⟨z, t⟩, ⟨_, _, u⟩, i1, i2⟩, fun c hc => ?_, r⟩
    have le : s1.heap.objs.size ≤ c := by
      rw [← hn]
      rcases in5 hc with e | e | e | e | e
      · rw [e]; exact Nat.le_add_right n 4
      · rw [e]; exact Nat.le_add_right n 2
      · rw [e]; exact Nat.le_add_right n 3
      · rw [e]; exact Nat.le_refl _
      · rw [e]; exact Nat.le_add_right n 1
    exact I1.fpOk le (I1.hok.fresh le)
/-- as data -/
def zipD (ds es : List PyData) : List PyData := (ds.zip es).map fun p => .tuple [p.1, p.2]
theorem zipD_at {ds es : List PyData} {i : Nat} {d : PyData} (h : (zipD ds es)[i]? = some d) : ∃ x y, ds[i]? = some x ∧ es[i]? = some y ∧ d = .tuple [x, y] := by
  unfold zipD at h
  rw [List.getElem?_map] at h
  cases e : (ds.zip es)[i]? with
  | none => rw [e] at h; cases h
  | some p =>
    rw [e] at h
    obtain ⟨h1, h2⟩ := List.getElem?_zip_eq_some.mp e
    exact ⟨p.1, p.2, h1, h2, (Option.some.inj h).symm⟩
theorem zipD_len {ds es : List PyData} (h : ds.length ≤ es.length) : (zipD ds es).length = ds.length := by unfold zipD; simp; omega
section
variable {K : PySem.W.Frag} {M : Md} {σ : L2.St} {J H : Hp} {ta tb : TE} {ds es : List PyData}
theorem ew_zm (h : EvD K M ta σ J H (.tuple ds)) (g : EvD K M tb σ J H (.list es)) (hl : ds.length ≤ es.length) : EvW K M (iZm K (tCons ta (tCons tb tNil))) σ J H (· = zipD ds es) := fun J1 H1 w t R q =>
  h J1 H1 w t _ fun v d J2 H2 w2 t2 e a => g J2 H2 w2 (t.trans t2) _ fun v' d' J3 H3 w3 t3 e' a' => by
    subst e
    subst e'
    obtain ⟨x, xs, rfl, lx, dx⟩ := da_tup (t3.jj.da a)
    obtain ⟨y, ys, rfl, ly, dy⟩ := da_lst a'
    have hx := das_len dx
    have hy := das_len dy
    refine ⟨x, y, xs, ys, ⟨rfl, w3.jh.t lx⟩, .of (w3.jh _ _ ly), q _ _ J3 H3 w3 (t2.trans t3) rfl ⟨fun i G hi s => ?_, fun G s => ?_, fun i G z G' d hd s yl => ?_⟩⟩
    · rw [zipD_len hl] at hi
      have i1 : i < xs.length := by omega
      have i2 : i < ys.length := by omega
      exact ⟨xs, ys, xs[i], ys[i], ⟨s.t lx, List.getElem?_eq_getElem i1⟩, .of (s _ _ ly), List.getElem?_eq_getElem i2⟩
    · rw [zipD_len hl]
      exact ⟨xs, ys, ⟨s.t lx, .of (s _ _ ly)⟩, by omega, by omega, by omega⟩
    · obtain ⟨T, u, u', ⟨rfl, hT, rfl⟩, y1, y2⟩ := yl
      obtain ⟨p, p', e1, e2, rfl⟩ := zipD_at hd
      obtain ⟨c, g1, a1⟩ := das_at dx (y1 xs (s.t lx))
      obtain ⟨c', g2, a2⟩ := das_at dy (y2 ys (.of (s _ _ ly)))
      rw [e1] at g1
      rw [e2] at g2
      cases g1
      cases g2
      exact .inr ⟨T, _, _, rfl, hT, rfl, rfl, .cons a1 (.cons a2 .nil)⟩
theorem ew_zt (h : EvD K M ta σ J H (.tuple ds)) (g : EvD K M tb σ J H (.tuple es)) (hl : ds.length ≤ es.length) : EvW K M (RZ.iZipA K (tCons ta (tCons tb tNil))) σ J H (· = zipD ds es) := fun J1 H1 w t R q =>
  h J1 H1 w t _ fun v d J2 H2 w2 t2 e a => g J2 H2 w2 (t.trans t2) _ fun v' d' J3 H3 w3 t3 e' a' => by
    subst e
    subst e'
    obtain ⟨x, xs, rfl, lx, dx⟩ := da_tup (t3.jj.da a)
    obtain ⟨y, ys, rfl, ly, dy⟩ := da_tup a'
    have hx := das_len dx
    have hy := das_len dy
    refine ⟨x, y, xs, ys, rfl, .inr ⟨w3.jh.t lx, w3.jh.t ly, q _ _ J3 H3 w3 (t2.trans t3) rfl ⟨fun i G hi s => ?_, fun G s => ?_, fun i G z G' d hd s yl => ?_⟩⟩⟩
    · rw [zipD_len hl] at hi
      have i1 : i < xs.length := by omega
      have i2 : i < ys.length := by omega
      exact ⟨xs, ys, xs[i], ys[i], s.t lx, s.t ly, List.getElem?_eq_getElem i1, List.getElem?_eq_getElem i2⟩
    · rw [zipD_len hl]
      exact ⟨xs, ys, s.t lx, s.t ly, by omega⟩
    · obtain ⟨T, u, u', rfl, hT, rfl, y1, y2⟩ := yl
      obtain ⟨p, p', e1, e2, rfl⟩ := zipD_at hd
      obtain ⟨c, g1, a1⟩ := das_at dx (y1 xs (s.t lx))
      obtain ⟨c', g2, a2⟩ := das_at dy (y2 ys (s.t ly))
      rw [e1] at g1
      rw [e2] at g2
      cases g1
      cases g2
      exact .inr ⟨T, _, _, rfl, hT, rfl, rfl, .cons a1 (.cons a2 .nil)⟩
end
end DL

/-! The draws of other laws: int() stands elsewhere, and a part of the script is taken. -/
namespace DL
open PySem PySem.Spec
open PyProof.Rows L2
local macro_rules | `(tactic| walk_at "rep") => `(tactic| first | assumption | exact Da.int _ | exact Da.bl _ | exact Da.str _ | exact Da.non | exact Sub.da (by assumption) (by assumption) | exact Sub.da (Tr.jj (by assumption)) (by assumption))
local macro_rules | `(tactic| walk_at "arith") => `(tactic| first | assumption | omega | decide | exact cmul_small (by omega) (by omega) | exact cdiv_small (by omega) (by omega))
local macro_rules | `(tactic| walk_at "shp") => `(tactic| first | exact sh_int _ | exact sh_tup _ | exact sh_list _ | assumption)
local macro_rules | `(tactic| walk_at "od") => `(tactic| first
  | with_reducible exact od_plus
  | with_reducible exact od_sub
  | ((with_reducible refine' od_mul ?h1); walk_at "arith")
  | ((with_reducible refine' od_mod ?h1); walk_at "arith")
  | ((with_reducible refine' od_fdiv ?h1); walk_at "arith")
  | ((with_reducible refine' od_pow ?h1); exact ⟨by decide, by decide, by decide⟩)
  | with_reducible exact od_lt | with_reducible exact od_le | with_reducible exact od_gt | with_reducible exact od_ge
  | ((with_reducible refine' od_plusT ?h1); walk_at "arith")
  | ((with_reducible refine' od_plusL ?h1); walk_at "arith")
  | ((with_reducible refine' od_plusS ?h1); walk_at "arith")
  | with_reducible exact od_isN | with_reducible exact od_notN
  | ((with_reducible refine od_eq ?_ ?_) <;> walk_at "shp")
  | ((with_reducible refine od_ne ?_ ?_) <;> walk_at "shp")
  | ((with_reducible refine od_inL ?_ ?_) <;> walk_at "shp")
  | ((with_reducible refine od_ixL ?_); assumption)
  | ((with_reducible refine od_ixT ?_); assumption))
local macro_rules | `(tactic| walk_at "ea") => `(tactic| first | with_reducible exact ea_nil | ((with_reducible refine' ea_consD ?h1 ?h2); (case h1 => walk_at "ev"); (case h2 => walk_at "ea")))
local macro_rules | `(tactic| walk_at "eo") => `(tactic| first | with_reducible exact eo_none | ((with_reducible refine' eo_at ?h1); (case h1 => walk_at "ev")))
local macro_rules | `(tactic| walk_at "cd") => `(tactic| first
  | with_reducible exact cd_lenL | with_reducible exact cd_lenT | with_reducible exact cd_tupL | with_reducible exact cd_tupT | with_reducible exact cd_lstL | with_reducible exact cd_lstT | with_reducible exact cd_abs | with_reducible exact cd_int)
local macro_rules | `(tactic| walk_at "ev") => `(tactic| first
  | with_reducible exact ev_int | with_reducible exact ev_bl | with_reducible exact ev_str | with_reducible exact ev_non
  | ((with_reducible refine' ev_var ?h1 ?h2); (case h1 => exact rfl); (case h2 => walk_at "rep"))
  | ((with_reducible refine' ev_opD ?h1 ?h2 ?h3); (case h1 => walk_at "ev"); (case h2 => walk_at "ev"); (case h3 => walk_at "od"))
  | ((with_reducible refine' ev_tupD ?h1); (case h1 => walk_at "ea"))
  | ((with_reducible refine' ev_lstD ?h1); (case h1 => walk_at "ea"))
  | ((with_reducible refine' ev_revL ?h1); (case h1 => walk_at "ev"))
  | ((with_reducible refine' ev_slD ?h1 ?h2 ?h3 ?h4); (case h1 => walk_at "ev"); (case h2 => walk_at "eo"); (case h3 => walk_at "eo"); (case h4 => first | with_reducible exact sd_tup | with_reducible exact sd_list))
  | ((with_reducible refine' ev_cbD ?h1 ?h2); (case h1 => walk_at "ea"); (case h2 => walk_at "cd"))
  | ((with_reducible refine' ev_notV ?h1); (case h1 => walk_at "ev"))
  | assumption)
local macro_rules | `(tactic| walk_at "et") => `(tactic| first
  | ((with_reducible refine' et_testD ?h1); (case h1 => walk_at "ev"))
  | ((with_reducible refine' et_BD ?h1); (case h1 => walk_at "ev"))
  | ((with_reducible refine' et_notD ?h1); (case h1 => walk_at "et"))
  | ((with_reducible refine' et_andD ?h1 ?h2); (case h1 => walk_at "et"); (case h2 => intro _; walk_at "et"))
  | ((with_reducible refine' et_orD ?h1 ?h2); (case h1 => walk_at "et"); (case h2 => intro _; walk_at "et"))
  | assumption)
section
variable {K : PySem.W.Frag} {M : Md} {h g : Addr} {J H : Hp}
/-- a draw, as other laws write it: the number is made one behind the pop (c: what their numbers are mixed with) -/
def tDraw2 (K : PySem.W.Frag) (c : Int) : TS :=
  tSeq (tWhile (tAnd (tTest (tOp (rNeD K) (tH0 K) (tLst tNil))) (tTest (tOp (rEqD K) (tOp (rIx K) (tH0 K) (tUn (rU fun i => .int (-i)) (tC (.int 1)))) (tC (.int 0))))) (tDrop (tBM0 K "list" rPop (tH0 K))))
  (tSeq (tIfS (tTest (tOp (rNeD K) (tH0 K) (tLst tNil))) (tSeq (tAsg (tBM0 K "list" rPop (tH0 K)) (gName 2)) (tSeq (tDrop (tBM K "list" rAppend (tH0 K) (tCons (tOp rDiv (tVar 2) (tVar 1)) tNil))) (tRet (tOp rMod (tCB rInt1 (tCons (tVar 2) tNil)) (tVar 1))))) tNext)
  (tSeq (tAsg (tOp rMod (tCB rInt1 (tCons (tOp (rPlus K) (tOp rMul (tH1 K) (tC (.int 48271))) (tC (.int c))) tNil)) (tC (.int 2147483647))) (gSub (tVar 0) (tC (.int 1)) rSetL)) (tRet (tOp rMod (tCB rInt1 (tCons (tOp rDiv (tH1 K) (tC (.int 64))) tNil)) (tVar 1)))))
variable {σ : L2.St} {Q : VK} {cs : List Int} {n : Int}
theorem rd_draw2 (hd : HasDr M h g) (w : Wf M J H) (hn : 0 < n) (hn2 : n < 2 ^ 64) {c : Int} (hc : 0 ≤ c ∧ c < 2 ^ 60) (q : ∀ i H', Wf M J H' → Tr M J H J H' → 0 ≤ i → i < n → Q (.int i) H') :
    tDraw2 K c { nx := fun _ H' => Q .non H', rt := Q } [some (.ref h), some (.int n), none] H := by
  obtain ⟨cs0, m0, x0⟩ := drAt_of (hd.ok H w.inv)
  have go : ∀ {G : Hp} {cs m}, (∀ a o, a ≠ h → a ≠ g → H a = some o → G a = some o) → DrAt h g cs m G → Tr M J H J G := fun k x => dr_tr hd w k x.ok
  refine ⟨fun m σ G => σ = [some (.ref h), some (.int n), none] ∧ (∀ a o, a ≠ h → a ≠ g → H a = some o → G a = some o) ∧ ∃ cs k, DrAt h g cs k G ∧ cs.length = m, ⟨_, rfl, fun _ _ _ _ e => e, cs0, m0, x0, rfl⟩, ?_⟩
  rintro m σ G ⟨rfl, kp, cs, k, x, rfl⟩
  have kn : ∀ {G : Hp} {p : Addr} {o : HO}, (∀ a o, a ≠ h → a ≠ g → H a = some o → G a = some o) → G p = none → ∀ a u, a ≠ h → a ≠ g → H a = some u → upd G p o a = some u := fun {G p o} kp hp a u n1 n2 e => by
    rw [upd_ne (ne_of_none (kp a u n1 n2 e) hp)]; exact kp a u n1 n2 e
  have kg : ∀ {G : Hp} {o : HO}, (∀ a o, a ≠ h → a ≠ g → H a = some o → G a = some o) → ∀ a u, a ≠ h → a ≠ g → H a = some u → upd G g o a = some u := fun {G o} kp a u n1 n2 e => by
    rw [upd_ne n2]; exact kp a u n1 n2 e
  have kh : ∀ {G : Hp} {o : HO}, (∀ a o, a ≠ h → a ≠ g → H a = some o → G a = some o) → ∀ a u, a ≠ h → a ≠ g → H a = some u → upd G h o a = some u := fun {G o} kp a u n1 n2 e => by
    rw [upd_ne n1]; exact kp a u n1 n2 e
  -- behind the while
  have rest : ∀ {G : Hp} {cs : List Int} {k : Int}, (∀ a o, a ≠ h → a ≠ g → H a = some o → G a = some o) → DrAt h g cs k G →
      tSeq (tIfS (tTest (tOp (rNeD K) (tH0 K) (tLst tNil))) (tSeq (tAsg (tBM0 K "list" rPop (tH0 K)) (gName 2)) (tSeq (tDrop (tBM K "list" rAppend (tH0 K) (tCons (tOp rDiv (tVar 2) (tVar 1)) tNil))) (tRet (tOp rMod (tCB rInt1 (tCons (tVar 2) tNil)) (tVar 1))))) tNext)
        (tSeq (tAsg (tOp rMod (tCB rInt1 (tCons (tOp (rPlus K) (tOp rMul (tH1 K) (tC (.int 48271))) (tC (.int c))) tNil)) (tC (.int 2147483647))) (gSub (tVar 0) (tC (.int 1)) rSetL)) (tRet (tOp rMod (tCB rInt1 (tCons (tOp rDiv (tH1 K) (tC (.int 64))) tNil)) (tVar 1))))
        { nx := fun _ H' => Q .non H', rt := Q } [some (.ref h), some (.int n), none] G := by
    intro G cs k kp x
    refine rd_full rfl x fun p hp => ?_
    have x1 := x.new (o := .lst []) hp
    have kp1 := kn (o := .lst []) kp hp
    by_cases hcs : cs = []
    · rw [decide_eq_true hcs]
      refine rd_h1 rfl x1 ⟨k, 48271, rfl, rfl, cmul_small (by have := x1.n0; have := x1.n1; omega) (by decide), ?_⟩
      refine .inl ⟨_, c, rfl, rfl, .inl ⟨_, rfl, _, 2147483647, rfl, rfl, (by show (0 : Int) < 2147483647; decide), .ref h, rfl, ?_⟩⟩
      refine ⟨h, _, 1, 1, rfl, rfl, x1.hh, rfl, ?_⟩
      have x2 : DrAt h g cs ((k * 48271 + c) % 2147483647) (upd (upd G p (.lst [])) h (.lst [.ref g, .int ((k * 48271 + c) % 2147483647)])) :=
        ⟨upd_same, (upd_ne hd.ne.symm).trans x1.hg, x1.pos, x1.few, by omega, by omega⟩
      have t := go (kh kp1) x2
      refine rd_h1 rfl x2 ⟨_, 64, rfl, rfl, cdiv_small (by decide) (by decide), .inl ⟨_, rfl, .int n, rfl, _, n, rfl, rfl, hn, ?_⟩⟩
      exact q _ _ (t.wf w) t (Int.emod_nonneg _ (by omega)) (Int.emod_lt_of_pos _ hn)
    · rw [decide_eq_false hcs]
      obtain ⟨ds, z, rfl⟩ : ∃ ds z, cs = ds ++ [z] := ⟨cs.dropLast, cs.getLast hcs, (List.dropLast_concat_getLast hcs).symm⟩
      refine rd_h0 rfl x1 ⟨.inl ⟨rfl, _, .of x1.hg⟩, g, _, .int z, rfl, rfl, x1.hg, by simp, ?_⟩
      have z0 : 0 ≤ z := x1.pos z (by simp)
      have x2 : DrAt h g ds k (upd (upd G p (.lst [])) g (.lst (ds.map V.int))) :=
        ⟨(upd_ne hd.ne).trans x1.hh, upd_same, fun y hy => x1.pos y (by simp [hy]), by have := x1.few; rw [List.length_append] at this; omega, x1.n0, x1.n1⟩
      have e1 : ((ds ++ [z]).map V.int).dropLast = ds.map V.int := by rw [List.map_append]; simp
      rw [e1]
      refine rd_h0 rfl x2 ⟨.inl ⟨rfl, _, .of x2.hg⟩, _, rfl, _, rfl, z, n, rfl, rfl, cdiv_small hn hn2, g, _, .int (z / n), rfl, rfl, x2.hg, ?_, ?_⟩
      · have := x2.few
        rw [List.length_map]
        exact Nat.lt_of_le_of_lt this (by decide)
      · have x3 : DrAt h g (ds ++ [z / n]) k (upd (upd (upd G p (.lst [])) g (.lst (ds.map V.int))) g (.lst (ds.map V.int ++ [.int (z / n)]))) :=
          ⟨(upd_ne hd.ne).trans x2.hh, by rw [upd_same, List.map_append]; rfl, fun y hy => by
            rcases List.mem_append.mp hy with hy | hy
            · exact x2.pos y hy
            · rw [List.mem_singleton.mp hy]; exact Int.ediv_nonneg z0 (by omega), by have := x1.few; rw [List.length_append] at this ⊢; exact this, x1.n0, x1.n1⟩
        have t := go (kg (kg kp1)) x3
        exact ⟨.int z, rfl, .inl ⟨z, rfl, .int n, rfl, z, n, rfl, rfl, hn, q _ _ (t.wf w) t (Int.emod_nonneg _ (by omega)) (Int.emod_lt_of_pos _ hn)⟩⟩
  refine rd_full rfl x fun p hp => ?_
  have x1 := x.new (o := .lst []) hp
  have kp1 := kn (o := .lst []) kp hp
  by_cases hcs : cs = []
  · rw [decide_eq_true hcs]
    exact rest kp1 x1
  · rw [decide_eq_false hcs]
    obtain ⟨ds, z, rfl⟩ : ∃ ds z, cs = ds ++ [z] := ⟨cs.dropLast, cs.getLast hcs, (List.dropLast_concat_getLast hcs).symm⟩
    refine rd_h0 rfl x1 ⟨1, rfl, .inl ⟨g, _, -1, .int z, rfl, rfl, .of x1.hg, atI_last, .int z, .int 0, .int z, .int 0, sh_int z, sh_int 0, _, rfl, ?_⟩⟩
    rw [eqv_int]
    by_cases hz : z = 0
    · rw [decide_eq_true hz]
      have x2 : DrAt h g ds k (upd (upd G p (.lst [])) g (.lst (ds.map V.int))) :=
        ⟨(upd_ne hd.ne).trans x1.hh, upd_same, fun y hy => x1.pos y (by simp [hy]), by have := x1.few; rw [List.length_append] at this; omega, x1.n0, x1.n1⟩
      refine ⟨fun σ' G' => σ' = [some (.ref h), some (.int n), none] ∧ (∀ a o, a ≠ h → a ≠ g → H a = some o → G' a = some o) ∧ ∃ k, DrAt h g ds k G', fun σ' G' ⟨e, b, k', b2⟩ => ⟨ds.length, by rw [List.length_append]; exact Nat.lt_succ_self _, e, b, ds, k', b2, rfl⟩, ?_⟩
      refine rd_h0 rfl x1 ⟨.inl ⟨rfl, _, .of x1.hg⟩, g, _, .int z, rfl, rfl, x1.hg, by simp, rfl, ?_⟩
      have e1 : ((ds ++ [z]).map V.int).dropLast = ds.map V.int := by rw [List.map_append]; simp
      rw [e1]
      exact ⟨kg kp1, k, x2⟩
    · rw [decide_eq_false hz]
      exact rest kp1 x1
end
/-- the list of draws, as the laws make it -/
def tHeap2 (K : PySem.W.Frag) (p q m c : Int) : TS :=
  tSeq (tAsg (tLc (iList K (tSl (rSlL K) (tVar 0) (tPart (tVar 1)) (tPart (tOp (rPlus K) (tVar 1) (tC (.int 50)))))) (gName 4) tYes (tCB rAbs (tCons (tVar 4) tNil)) [4]) (gName 2))
  (tSeq (tAsg (tOp (rPlus K) (tC (.int p)) (tOp rMul (tC (.int q)) (tVar 1))) (gName 3))
  (tSeq (tFor (iList K (tVar 2)) (gName 4) (tAsg (tOp rMod (tCB rInt1 (tCons (tOp (rPlus K) (tOp (rPlus K) (tOp rMul (tVar 3) (tC (.int 48271))) (tOp rMod (tCB rInt1 (tCons (tVar 4) tNil)) (tC (.int m)))) (tC (.int c))) tNil)) (tC (.int 2147483647))) (gName 3)))
  (tRet (tLst (tCons (tRevL K (tLc (iList K (tVar 2)) (gName 4) (tTest (tOp (rI0 fun i j => .bl (decide (j ≤ i))) (tVar 4) (tOp (rI CPow fun i j => .int (i ^ j.toNat)) (tC (.int 10)) (tC (.int 18))))) (tVar 4) [4])) (tCons (tVar 3) tNil))))))
theorem rd_heap2 {K : PySem.W.Frag} {H : Hp} {Q : VK} {a : Addr} {ns : List Int} {b p q m c : Int} (hS : SqL K H a (ns.map V.int)) (hp : 0 ≤ p ∧ p < 1000000000) (hq : 0 ≤ q ∧ q < 1000) (hb : 0 ≤ b ∧ b < 1000) (hm : 0 < m ∧ m < 2 ^ 32) (hc : 0 ≤ c ∧ c < 1000)
    (k : ∀ h g H', (∀ a o, H a = some o → H' a = some o) → H h = none → H g = none → h ≠ g → drOk h g H' → Q (.ref h) H') : tHeap2 K p q m c { nx := fun _ H' => Q .non H', rt := Q } [some (.ref a), some (.int b), none, none, none] H := by
  have w0 : Wf Md.pure (fun _ => none) H := ⟨(fun _ _ e => by cases e), trivial, nofun⟩
  have l63 : (cutA ns (some b) (some (b + 50))).length ≤ 63 := by
    obtain ⟨m, rfl⟩ : ∃ m : Nat, b = m := ⟨b.toNat, by omega⟩
    have e := cutA_nat ns m (m + 50)
    rw [show ((m + 50 : Nat) : Int) = (m : Int) + 50 by omega] at e
    rw [e, List.length_take]
    omega
  refine s_asgD (K := K) (d := .list (oD ((cutA ns (some b) (some (b + 50))).map absI))) w0 ?_ fun v1 J1 H1 w1 t1 a1 => ?_
  · rw [← dAbs_map]
    refine ev_lcMap (ew_listD (ev_script rfl hS (by walk_at "eo") (by walk_at "eo"))) (by rw [oD_len]; exact Nat.lt_of_le_of_lt l63 (by decide)) (fun x => rfl) fun d x J1 H1 hd w t ax => ?_
    obtain ⟨n, hn⟩ := List.getElem?_of_mem hd
    obtain ⟨i, _, rfl⟩ := oD_at hn
    show EvD K Md.pure _ _ _ _ (.int (absI i))
    unfold absI
    walk_at "ev"
  generalize hcs : (cutA ns (some b) (some (b + 50))).map absI = cs at a1
  have cpos : ∀ x ∈ cs, 0 ≤ x := fun x hx => by
    rw [← hcs] at hx
    obtain ⟨y, _, rfl⟩ := List.mem_map.mp hx
    exact absI_pos y
  have clen : cs.length ≤ 63 := by rw [← hcs, List.length_map]; exact l63
  dsimp only
  refine s_asgI (K := K) w1 (i := p + q * b) ?_ fun J2 H2 w2 t2 => ?_
  · walk_at "ev"
  have a2 := t2.jj.da a1
  dsimp only
  have z1 : 0 ≤ q * b := Int.mul_nonneg hq.1 hb.1
  have z2 : q * b ≤ 1000 * 1000 := Int.mul_le_mul (by omega) (by omega) hb.1 (by decide)
  refine s_forD (K := K) (oD cs) (fun i σ' J' H' => ∃ n o, σ' = [some (.ref a), some (.int b), some v1, some (.int n), o] ∧ 0 ≤ n ∧ n < 2147483647) w0 (t1.trans t2) ?_ (fun J2 H2 _ _ => ⟨p + q * b, none, rfl, by omega, by omega⟩) (fun i σ' J' H' T xs h _ => h) ?_ ?_
  · exact ew_listD (by walk_at "ev")
  · rintro i d x σ' J2 J' H' hdi w' t' s1 s2 ⟨n, o, rfl, n0, n1⟩ ax
    obtain ⟨y, hy, rfl⟩ := oD_at hdi
    rw [da_int ax]
    have m0 : 0 ≤ y % m := Int.emod_nonneg _ (by omega)
    have m1 : y % m < m := Int.emod_lt_of_pos _ (by omega)
    refine s_asgI (K := K) w' (i := (n * 48271 + y % m + c) % 2147483647) ?_ fun J1 H1 w1 t1 => ⟨J1, w1, t'.trans t1, s2.trans t1.jj, (n * 48271 + y % m + c) % 2147483647, some (.int y), rfl, by omega, by omega⟩
    walk_at "ev"
  rintro σ' J' H' w' t' s1 ⟨n, o, rfl, n0, n1⟩
  have a3 := s1.da a2
  dsimp only
  refine s_retD (K := K) (d := .list [.list (oD (cs.filter fun i => decide ((10 : Int) ^ 18 ≤ i)).reverse), .int n]) w' ?_ fun v J3 H3 w3 t3 a3 => ?_
  · refine ev_lstD (ea_consD ?_ (by walk_at "ea"))
    rw [← oD_rev, ← dBig_filter]
    refine ev_revL ?_
    have e : (oD cs).filter dBig = ((oD cs).filter dBig).map id := by simp
    rw [e]
    refine ev_lcFilter (ew_listD (by walk_at "ev")) (by rw [oD_len]; exact Nat.lt_of_le_of_lt clen (by decide)) (fun x => rfl) (fun d x J1 H1 hd w t ax => ?_) fun d x J1 H1 hd _ w t ax => ?_
    · obtain ⟨k, hk⟩ := List.getElem?_of_mem hd
      obtain ⟨i, _, rfl⟩ := oD_at hk
      show EvT Md.pure _ _ _ _ (· = decide ((10 : Int) ^ (18 : Int).toNat ≤ i))
      walk_at "et"
    · show EvD K Md.pure _ _ _ _ d
      walk_at "ev"
  have tt := t'.trans t3
  obtain ⟨h, xs, rfl, jh, ha⟩ := da_lst a3
  cases ha with
  | cons b1 b2 =>
    obtain ⟨u, rfl, b3⟩ := das_one b2
    obtain ⟨g, ys, rfl, jg, hb⟩ := da_lst b1
    have eu := da_int b3
    subst eu
    have ey := das_ints_eq (ns := (cs.filter fun i => decide ((10 : Int) ^ 18 ≤ i)).reverse) hb
    subst ey
    have fresh : ∀ {x o}, J3 x = some o → H x = none := fun {x o} e => by
      cases q : H x with
      | none => rfl
      | some u => rw [tt.fr x (by rw [q]; exact nofun) rfl] at e; cases e
    refine k h g H3 (fun a o e => tt.keep a o (fun z => z) e) (fresh jh) (fresh jg) (fun e => ?_) ⟨_, n, tt.jh _ _ jh, tt.jh _ _ jg, fun x hx => ?_, ?_, n0, n1⟩
    · rw [e, jg] at jh
      have z := HO.lst.inj (Option.some.inj jh)
      cases hl : (cs.filter fun i => decide ((10 : Int) ^ 18 ≤ i)).reverse with
      | nil => rw [hl] at z; cases z
      | cons i is => rw [hl] at z; cases z
    · exact cpos x (List.mem_filter.mp (List.mem_reverse.mp hx)).1
    · rw [List.length_reverse]
      exact Nat.le_trans (List.length_filter_le _ _) clen
end DL

/-! More rules over data: comprehensions over pairs, any, sorted, isinstance, dicts that are only read, lists of one's own looked at while they grow. -/
namespace DL
open PySem PySem.Spec
open PyProof.Rows L2
local macro_rules | `(tactic| walk_at "rep") => `(tactic| first | assumption | exact Da.int _ | exact Da.bl _ | exact Da.str _ | exact Da.non | exact Sub.da (by assumption) (by assumption) | exact Sub.da (Tr.jj (by assumption)) (by assumption))
local macro_rules | `(tactic| walk_at "arith") => `(tactic| first | assumption | omega | decide | exact cmul_small (by omega) (by omega) | exact cdiv_small (by omega) (by omega))
local macro_rules | `(tactic| walk_at "shp") => `(tactic| first | exact sh_int _ | exact sh_tup _ | exact sh_list _ | assumption)
local macro_rules | `(tactic| walk_at "od") => `(tactic| first
  | with_reducible exact od_plus
  | with_reducible exact od_sub
  | ((with_reducible refine' od_mul ?h1); walk_at "arith")
  | ((with_reducible refine' od_mod ?h1); walk_at "arith")
  | ((with_reducible refine' od_fdiv ?h1); walk_at "arith")
  | ((with_reducible refine' od_pow ?h1); exact ⟨by decide, by decide, by decide⟩)
  | with_reducible exact od_lt | with_reducible exact od_le | with_reducible exact od_gt | with_reducible exact od_ge
  | ((with_reducible refine' od_plusT ?h1); walk_at "arith")
  | ((with_reducible refine' od_plusL ?h1); walk_at "arith")
  | ((with_reducible refine' od_plusS ?h1); walk_at "arith")
  | with_reducible exact od_isN | with_reducible exact od_notN
  | ((with_reducible refine od_eq ?_ ?_) <;> walk_at "shp")
  | ((with_reducible refine od_ne ?_ ?_) <;> walk_at "shp")
  | ((with_reducible refine od_inL ?_ ?_) <;> walk_at "shp")
  | ((with_reducible refine od_ixL ?_); assumption)
  | ((with_reducible refine od_ixT ?_); assumption))
local macro_rules | `(tactic| walk_at "ea") => `(tactic| first | with_reducible exact ea_nil | ((with_reducible refine' ea_consD ?h1 ?h2); (case h1 => walk_at "ev"); (case h2 => walk_at "ea")))
local macro_rules | `(tactic| walk_at "eo") => `(tactic| first | with_reducible exact eo_none | ((with_reducible refine' eo_at ?h1); (case h1 => walk_at "ev")))
local macro_rules | `(tactic| walk_at "cd") => `(tactic| first
  | with_reducible exact cd_lenL | with_reducible exact cd_lenT | with_reducible exact cd_tupL | with_reducible exact cd_tupT | with_reducible exact cd_lstL | with_reducible exact cd_lstT | with_reducible exact cd_abs | with_reducible exact cd_int)
local macro_rules | `(tactic| walk_at "ev") => `(tactic| first
  | with_reducible exact ev_int | with_reducible exact ev_bl | with_reducible exact ev_str | with_reducible exact ev_non
  | ((with_reducible refine' ev_var ?h1 ?h2); (case h1 => exact rfl); (case h2 => walk_at "rep"))
  | ((with_reducible refine' ev_opD ?h1 ?h2 ?h3); (case h1 => walk_at "ev"); (case h2 => walk_at "ev"); (case h3 => walk_at "od"))
  | ((with_reducible refine' ev_tupD ?h1); (case h1 => walk_at "ea"))
  | ((with_reducible refine' ev_lstD ?h1); (case h1 => walk_at "ea"))
  | ((with_reducible refine' ev_revL ?h1); (case h1 => walk_at "ev"))
  | ((with_reducible refine' ev_slD ?h1 ?h2 ?h3 ?h4); (case h1 => walk_at "ev"); (case h2 => walk_at "eo"); (case h3 => walk_at "eo"); (case h4 => first | with_reducible exact sd_tup | with_reducible exact sd_list))
  | ((with_reducible refine' ev_cbD ?h1 ?h2); (case h1 => walk_at "ea"); (case h2 => walk_at "cd"))
  | ((with_reducible refine' ev_notV ?h1); (case h1 => walk_at "ev"))
  | assumption)
local macro_rules | `(tactic| walk_at "et") => `(tactic| first
  | ((with_reducible refine' et_testD ?h1); (case h1 => walk_at "ev"))
  | ((with_reducible refine' et_BD ?h1); (case h1 => walk_at "ev"))
  | ((with_reducible refine' et_notD ?h1); (case h1 => walk_at "et"))
  | ((with_reducible refine' et_andD ?h1 ?h2); (case h1 => walk_at "et"); (case h2 => intro _; walk_at "et"))
  | ((with_reducible refine' et_orD ?h1 ?h2); (case h1 => walk_at "et"); (case h2 => intro _; walk_at "et"))
  | assumption)
section
variable {K : PySem.W.Frag} {M : Md} {σ : L2.St} {J H J' H' J0 H0 J1 H1 : Hp} {ta tb te tc : TE} {P P' Px : PyData → Prop} {d dx dy : PyData} {v : V} {i j : Int}
/-- a comprehension over pairs -/
theorem ev_lc2 {k l : Nat} {wi : TI} {tt : TT} {vs : List Nat} {Pw : List PyData → Prop} (I : List PyData → Nat → List PyData → Prop) (hw : EvW K M wi σ J H Pw) (hz : ∀ ds, Pw ds → ds.length < sizeLine) (hp : ∀ ds, Pw ds → ∀ d ∈ ds, ∃ x y, d = .tuple [x, y]) (h0 : ∀ ds, Pw ds → I ds 0 [])
    (hv : ∀ x y, wipe (((wipe σ vs).set k (some x)).set l (some y)) vs = wipe σ vs)
    (hs : ∀ ds i d e acc x y J1 H1, Pw ds → ds[i]? = some (.tuple [d, e]) → I ds i acc → Wf M J1 H1 → Tr M J H J1 H1 → Da K J1 x d → Da K J1 y e → ∃ Pb : Bool → Prop, EvT M tt (((wipe σ vs).set k (some x)).set l (some y)) J1 H1 Pb ∧
      (Pb false → I ds (i + 1) acc) ∧ (Pb true → EvP K M te (((wipe σ vs).set k (some x)).set l (some y)) J1 H1 fun e => I ds (i + 1) (acc ++ [e])))
    (hd : ∀ ds acc, Pw ds → I ds ds.length acc → P (.list acc)) : EvP K M (tLc wi (gTup K 2 (gCons (gName k) (gCons (gName l) gNil))) tt te vs) σ J H P := fun Ja Ha wa ta' Q q =>
  hw Ja Ha wa ta' _ fun A ds J2 H2 w2 t2 pw wd D hD => by
    have nfD : ¬ M.fp D := w2.nofp hD
    refine ⟨fun i m G => m = ds.length - i ∧ i ≤ ds.length ∧ ∃ J' acc ys, (Wf M J' G ∧ Tr M J2 H2 J' G) ∧ (G D = some (.lst ys) ∧ J' D = none) ∧ Das K J' ys acc ∧ ys.length ≤ i ∧ I ds i acc,
      ⟨ds.length, rfl, Nat.zero_le _, J2, [], [], ⟨(w2.cell hD).wf w2, w2.cell hD⟩, ⟨upd_same, w2.jh.back hD⟩, .nil, Nat.le_refl _, h0 ds pw⟩, ?_⟩
    rintro i m G ⟨rfl, hi, J', acc, ys, ⟨w', t'⟩, ⟨hG, jD⟩, ha, hl, hI⟩
    by_cases hlt : i < ds.length
    · refine .inr ⟨wd.go i G hlt (t'.jj.trans t'.jh), fun G' => ∃ J' acc ys, (Wf M J' G' ∧ Tr M J2 H2 J' G') ∧ (G' D = some (.lst ys) ∧ J' D = none) ∧ Das K J' ys acc ∧ ys.length ≤ i + 1 ∧ I ds (i + 1) acc,
        fun G' h' => ⟨_, by omega, rfl, hlt, h'⟩, fun z G' yl => ?_⟩
      have hdi : ds[i]? = some ds[i] := List.getElem?_eq_getElem hlt
      obtain ⟨d, e, ede⟩ := hp ds pw _ (List.getElem_mem hlt)
      rw [ede] at hdi
      -- the pair's things are known: the turn
      have turn : ∀ J3 G3, Wf M J3 G3 → Tr M J2 H2 J3 G3 → G3 D = some (.lst ys) → J3 D = none → Das K J3 ys acc → Da K J3 z (.tuple [d, e]) →
          gTup K 2 (gCons (gName k) (gCons (gName l) gNil)) z (wipe σ vs) G3 fun σ2 H2' => wipe σ2 vs = wipe σ vs ∧ tt σ2 H2' fun b H3 => if b = true then te σ2 H3 fun y H4 => ∃ acc, H4 D = some (.lst acc) ∧ acc.length < sizeLine ∧
            (∃ J' acc' ys, (Wf M J' (upd H4 D (.lst (acc ++ [y]))) ∧ Tr M J2 H2 J' (upd H4 D (.lst (acc ++ [y])))) ∧ ((upd H4 D (.lst (acc ++ [y]))) D = some (.lst ys) ∧ J' D = none) ∧ Das K J' ys acc' ∧ ys.length ≤ i + 1 ∧ I ds (i + 1) acc')
            else ∃ J' acc ys, (Wf M J' H3 ∧ Tr M J2 H2 J' H3) ∧ (H3 D = some (.lst ys) ∧ J' D = none) ∧ Das K J' ys acc ∧ ys.length ≤ i + 1 ∧ I ds (i + 1) acc := by
        intro J3 G3 w3 t3 hG3 jD3 ha3 ax
        obtain ⟨c, us, rfl, ht, hdd⟩ := da_tup ax
        cases hdd with
        | cons a1 rest =>
        obtain ⟨u, rfl, a2⟩ := das_one rest
        refine ⟨c, _, rfl, w3.jh.t ht, rfl, _, _, rfl, _, _, rfl, rfl, hv _ _, ?_⟩
        obtain ⟨Pb, hb, hf, ht2⟩ := hs ds i d e acc _ _ J3 G3 pw hdi hI w3 ((ta'.trans t2).trans t3) a1 a2
        refine hb J3 G3 w3 w3.tr _ fun b J4 G4 w4 t4 pb => ?_
        cases b with
        | false => exact ⟨J4, acc, ys, ⟨w4, t3.trans t4⟩, ⟨t4.keep D _ nfD hG3, t4.cellj hG3 jD3⟩, t4.jj.das ha3, by omega, hf pb⟩
        | true =>
          refine ht2 pb J4 G4 w4 t4 _ fun y e J5 G5 w5 t5 pe ae => ?_
          have t35 := t4.trans t5
          have jD5 := t35.cellj hG3 jD3
          have zz := hz ds pw
          have tp := (t3.trans t35).put (o := .lst (ys ++ [y])) w2 hD jD5
          refine ⟨ys, t35.keep D _ nfD hG3, by omega, J5, acc ++ [e], ys ++ [y], ⟨tp.wf w2, tp⟩, ⟨upd_same, jD5⟩, das_app (t35.jj.das ha3) (.cons ae .nil), ?_, pe⟩
          rw [List.length_append]; simp only [List.length_cons, List.length_nil]; omega
      rcases wd.yld i G z G' _ hdi (t'.jj.trans t'.jh) yl with ⟨rfl, ax⟩ | ⟨T, xs, es, rfl, hT, rfl, ed, hes⟩
      · exact turn J' G' w' t' hG jD ha (t'.jj.da ax)
      · have tn := w'.new (o := .tup xs) hT
        refine turn _ _ (tn.wf w') (t'.trans tn) (tn.keep D _ nfD hG) (tn.cellj hG jD) (tn.jj.das ha) ?_
        rw [ed]
        exact .tup (.of upd_same) (tn.jj.das (t'.jj.das hes))
    · have e : i = ds.length := by omega
      subst e
      have ti := t'.ice hD jD hG
      exact .inl ⟨wd.stop G (t'.jj.trans t'.jh), q _ _ _ G (ti.wf w2) (t2.trans ti) (hd ds acc pw hI) (.lst upd_same ((Sub.new jD).das ha))⟩
/-- any of a list of bools; sorted numbers -/
theorem das_bls {J : Hp} : ∀ {vs : List V} {bs : List Bool}, Das K J vs (bs.map PyData.bool) → vs = bs.map V.bl
  | [], [], _ => rfl
  | [], _ :: _, h => by cases h
  | _ :: _, [], h => by cases h
  | _ :: _, _ :: _, h => by
    cases h with
    | cons a b => rw [da_bl a, das_bls b]; rfl
theorem cd_any {bs : List Bool} : CbD K M (rAny K) [.list (bs.map PyData.bool)] (· = .bool (bs.any id)) := fun vs J H w a Q q => by
  obtain ⟨v, rfl, av⟩ := das_one a
  obtain ⟨p, xs, rfl, hl, hd⟩ := da_lst av
  have e := das_bls hd
  subst e
  exact ⟨p, bs, rfl, .of (w.jh _ _ hl), q _ _ J H w w.tr rfl (.bl _)⟩
theorem cd_sorted {ns : List Int} : CbD K M (rSortedI K) [.list (oD ns)] (fun d => ∃ ms, d = .list (oD ms) ∧ ms.Perm ns ∧ ms.Pairwise (· ≤ ·)) := fun vs J H w a Q q => by
  obtain ⟨v, rfl, av⟩ := das_one a
  obtain ⟨p, xs, rfl, hl, hd⟩ := da_lst av
  have e := das_ints_eq hd
  subst e
  refine ⟨p, ns, rfl, .of (w.jh _ _ hl), fun ms l h1 h2 hn => ?_⟩
  have t := w.new (o := .lst (ms.map V.int)) hn
  exact q _ _ _ _ (t.wf w) t ⟨ms, rfl, h1, h2⟩ (.lst upd_same (das_intsV ms))
/-- range(n) as a value, made a list -/
theorem ty_tup {ds : List PyData} (h : Da K J v (.tuple ds)) (s : Sub J H) : TyX K H v (.type "tuple") := by
  obtain ⟨a, xs, rfl, ht, _⟩ := da_tup h
  rcases s.t ht with (h | ⟨o, h⟩) | ⟨o, its, n, h, c, _⟩
  · exact .base (.tup h)
  · exact .fTuple h
  · exact .kTuple h c
theorem kit_self (t : Value) : PySem.W.kitOne K t t = some true := by
  unfold PySem.W.kitOne
  rw [if_pos (beq_self_eq_true t)]
/-- a list or a tuple, walked -/
def iSeq (K : PySem.W.Frag) (tl : TE) : TI := fun σ H R => tl σ H fun x G => ∃ a xs, x = .ref a ∧ ((SqL K G a xs ∧ R (Itl K a) G) ∨ (SqT K G a xs ∧ R (Itt K a) G))
theorem pi_seq {X : Cx} {tg l : Expr} {tl : TE} (hl : PE X l tl) : PI X tg l (iSeq X.K tl) := ⟨fun pins s σ H R I h =>
  thn (hl.run pins s σ H _ I h) fun v s1 ⟨x, G, I1, r1, a, xs, e, told⟩ => by
    subst e
    cases r1
    have one : ∀ {o : Obj} {b : Addr}, b ∈ [s1.heap.objs.size] → FpOk X pins G b := fun {o b} hb => by
      rw [List.mem_singleton.mp hb]
      exact I1.fpOk (Nat.le_refl _) (I1.hok.fresh (Nat.le_refl _))
    rcases told with ⟨hq, r⟩ | ⟨hq, r⟩
    · obtain ⟨its, _, p, _⟩ := I1.list hq
      exact wpAny_pyIter_list p.isList ⟨s1.heap.objs.size, [s1.heap.objs.size], _, _, G, rfl, I1.kept (t' := s1.toks) fun b o e => Heap.get?_push_of_some _ e, turn_list a _, ⟨_, Heap.get?_push_size _ rfl, rfl, rfl⟩, fun b hb => one (o := ⟨.none, none, .plain, #[]⟩) hb, r⟩
    · obtain ⟨its, _, p, _⟩ := I1.tuple hq
      exact wpAny_pyIter_tuple (show s1.heap.IsTuple a its.toArray from p) ⟨s1.heap.objs.size, [s1.heap.objs.size], _, _, G, rfl, I1.kept (t' := s1.toks) fun b o e => Heap.get?_push_of_some _ e, turn_tuple a _, ⟨_, Heap.get?_push_size _ rfl, rfl, rfl⟩, fun b hb => one (o := ⟨.none, none, .plain, #[]⟩) hb, r⟩⟩
theorem ew_seq {ds : List PyData} (h : EvP K M te σ J H fun d => d = .list ds ∨ d = .tuple ds) : EvW K M (iSeq K te) σ J H (· = ds) := fun J1 H1 w t R q =>
  h J1 H1 w t _ fun v d J2 H2 w2 t2 e a => by
    rcases e with e | e
    · subst e
      obtain ⟨p, xs, rfl, hl, hd⟩ := da_lst a
      refine ⟨p, xs, rfl, .inl ⟨.of (w2.jh _ _ hl), q _ ds J2 H2 w2 t2 rfl ⟨fun i G hi s => ?_, fun G s => ⟨xs, .of (s _ _ hl), by rw [das_len hd]; exact Nat.le_refl _⟩, fun i G x G' d hd' s y => ?_⟩⟩⟩
      · have hi2 : i < xs.length := by rw [das_len hd]; exact hi
        exact ⟨xs, xs[i], .of (s _ _ hl), List.getElem?_eq_getElem hi2⟩
      · obtain ⟨e, y⟩ := y
        obtain ⟨d2, e2, a2⟩ := das_at hd (y xs (.of (s _ _ hl)))
        rw [hd'] at e2
        cases e2
        exact .inl ⟨e, a2⟩
    · subst e
      obtain ⟨p, xs, rfl, hl, hd⟩ := da_tup a
      refine ⟨p, xs, rfl, .inr ⟨w2.jh.t hl, q _ ds J2 H2 w2 t2 rfl ⟨fun i G hi s => ?_, fun G s => ⟨xs, s.t hl, by rw [das_len hd]; exact Nat.le_refl _⟩, fun i G x G' d hd' s y => ?_⟩⟩⟩
      · have hi2 : i < xs.length := by rw [das_len hd]; exact hi
        exact ⟨xs, xs[i], s.t hl, List.getElem?_eq_getElem hi2⟩
      · obtain ⟨e, y⟩ := y
        obtain ⟨d2, e2, a2⟩ := das_at hd (y xs (s.t hl))
        rw [hd'] at e2
        cases e2
        exact .inl ⟨e, a2⟩
/-! ### a list of one's own that still grows: is it empty -/
theorem et_full {k : Nat} {p : Addr} {ys : List V} (hs : σ[k]? = some (some (.ref p))) (hH : H p = some (.lst ys)) (nf : ¬ M.fp p) : EvT M (tTruth K (tVar k)) σ J H (· = !ys.isEmpty) := fun J1 H1 w t Q q =>
  ⟨.ref p, hs, _, .inl ⟨ys, .of (t.keep p _ nf hH), rfl⟩, q _ J1 H1 w w.tr rfl⟩
theorem dp_cell {p : Addr} {ys : List V} {ds : List PyData} (hH : H p = some (.lst ys)) (a : Das K J ys ds) (s : Sub J H) : Dp K H (.ref p) (.list ds) := .lst (.of hH) (a.dp s)
/-- x != [] of such a list -/
theorem ev_neNil {k : Nat} {p : Addr} {ys : List V} {ds : List PyData} (hs : σ[k]? = some (some (.ref p))) (hH : H p = some (.lst ys)) (nf : ¬ M.fp p) (a : Das K J ys ds) (hsh : SeqAt.shaped (.list ds) = true) : EvD K M (tOp (rNeD K) (tVar k) (tLst tNil)) σ J H (.bool (!PyData.eqv (.list ds) (.list []))) := fun J1 H1 w t Q q =>
  ⟨.ref p, hs, Nat.zero_le _, fun l hl => by
    have t2 := w.new (o := .lst []) hl
    have w2 := t2.wf w
    have tt := t.trans t2
    exact ⟨.list ds, .list [], dp_cell (tt.keep p _ nf hH) (tt.jj.das a) w2.jh, .lst (.of (w2.jh _ _ upd_same)) .nil, hsh, by decide, q _ _ _ _ w2 t2 rfl (.bl _)⟩⟩
/-! ### dicts with numbers as keys, only read -/
def rDictP (K : PySem.W.Frag) : List V → Hp → VK → Prop := fun xs H Q => ∃ (a : Addr) (ps : List Addr) (kvs : List (Key × V)), xs = [.ref a] ∧ SqL K H a (ps.map V.ref) ∧ Paired (fun p kv => SqT K H p [kV kv.1, kv.2]) ps kvs ∧ ∀ p, H p = none → Q (.ref p) (upd H p (.dK (mergeK [] kvs)))
theorem cl_dictP {X : Cx} (hc : X.calm = true) : CallR X (.type "dict") (rDictP X.K) := call_dictP hc
abbrev kI (i : Int) : Key := .inl i
theorem merge_val {f : Int → PyData} : ∀ (more acc : List (Key × V)), (∀ kv ∈ more, ∃ i, kv.1 = .inl i ∧ Da K J kv.2 (f i)) → (∀ k v, valV acc k = some v → ∃ i, k = .inl i ∧ Da K J v (f i)) →
    ∀ i, (kI i ∈ more.map (·.1) ∨ (valV acc (.inl i)).isSome = true) → ∃ v, valV (mergeK acc more) (.inl i) = some v ∧ Da K J v (f i)
  | [], acc, _, h, i, hi => by
    rcases hi with hi | hi
    · cases hi
    · obtain ⟨v, e⟩ := Option.isSome_iff_exists.mp hi
      obtain ⟨j, ej, a⟩ := h _ v e
      cases ej
      exact ⟨v, e, a⟩
  | (k, v) :: more, acc, g, h, i, hi => by
    obtain ⟨j, ej, a⟩ := g (k, v) List.mem_cons_self
    have ej : k = .inl j := ej
    subst ej
    refine merge_val more (putK acc (.inl j) v) (fun kv hkv => g kv (List.mem_cons_of_mem _ hkv)) (fun k' v' e => ?_) i ?_
    · rw [L2.valV_put] at e
      by_cases hk : k' = kI j
      · rw [if_pos hk] at e
        cases e
        exact ⟨j, hk, a⟩
      · rw [if_neg hk] at e
        exact h k' v' e
    · rw [L2.valV_put]
      by_cases hk : kI i = .inl j
      · exact .inr (by rw [if_pos hk]; rfl)
      · rw [if_neg hk]
        rcases hi with hi | hi
        · rcases List.mem_cons.mp hi with e | e
          · exact (hk e).elim
          · exact .inl e
        · exact .inr hi
/-- a list of pairs (number, datum), as dict wants it -/
theorem das_pairs {f : Int → PyData} {G : Hp} (s : Sub J G) : ∀ {is : List Int} {vs : List V}, Das K J vs (is.map fun i => .tuple [.int i, f i]) → ∃ (ps : List Addr) (kvs : List (Key × V)), vs = ps.map V.ref ∧ Paired (fun p kv => SqT K G p [kV kv.1, kv.2]) ps kvs ∧ kvs.map (·.1) = is.map kI ∧ ∀ kv ∈ kvs, ∃ i, kv.1 = .inl i ∧ Da K J kv.2 (f i)
  | [], _, h => by cases h; exact ⟨[], [], rfl, .nil, rfl, nofun⟩
  | i :: is, _, h => by
    cases h with
    | cons a b =>
    obtain ⟨ps, kvs, e1, e2, e3, e4⟩ := das_pairs s b
    obtain ⟨p, us, rfl, ht, hd⟩ := da_tup a
    cases hd with
    | cons a1 a2 =>
    obtain ⟨u, rfl, a3⟩ := das_one a2
    rw [da_int a1] at ht
    refine ⟨p :: ps, (.inl i, u) :: kvs, by rw [e1]; rfl, .cons (s.t ht) e2, by rw [List.map_cons, List.map_cons, e3], fun kv hkv => ?_⟩
    rcases List.mem_cons.mp hkv with e | e
    · rw [e]; exact ⟨i, rfl, a3⟩
    · exact e4 kv e
/-- xs = dict(pairs) -/
theorem s_dict {k : Nat} {f : Int → PyData} {is : List Int} {D : Ends} (w : Wf M J H) (h : EvD K M te σ J H (.list (is.map fun i => .tuple [.int i, f i])))
    (q : ∀ p kvs J1 H1, Wf M J1 H1 → Tr M J H J1 H1 → J1 p = some (.dK kvs) → (∀ i ∈ is, ∃ v, valV kvs (.inl i) = some v ∧ Da K J1 v (f i)) → D.nx (σ.set k (some (.ref p))) H1) : tAsg (tCB (rDictP K) (tCons te tNil)) (gName k) D σ H :=
  h J H w w.tr _ fun v d J1 H1 w1 t1 e a => by
    subst e
    obtain ⟨p, xs, rfl, hl, hd⟩ := da_lst a
    obtain ⟨ps, kvs, e1, e2, e3, e4⟩ := das_pairs w1.jh hd
    subst e1
    refine ⟨p, ps, kvs, rfl, .of (w1.jh _ _ hl), e2, fun l hn => ?_⟩
    have t2 := w1.new (o := .dK (mergeK [] kvs)) hn
    refine q l (mergeK [] kvs) _ _ (t2.wf w1) (t1.trans t2) upd_same fun i hi => ?_
    obtain ⟨v, h1, h2⟩ := merge_val kvs [] e4 (fun k v e => by cases e) i (.inl (by rw [e3]; exact List.mem_map.mpr ⟨i, hi, rfl⟩))
    exact ⟨v, h1, t2.jj.da h2⟩
theorem ev_dget {k : Nat} {p : Addr} {kvs : List (Key × V)} (hs : σ[k]? = some (some (.ref p))) (hJ : J p = some (.dK kvs)) (hi : EvD K M te σ J H (.int i)) (hv : valV kvs (.inl i) = some v) (ha : Da K J v d) : EvD K M (tDGet (tVar k) te) σ J H d := fun J1 H1 w t Q q =>
  ⟨.ref p, hs, hi J1 H1 w t _ fun x d' J2 H2 w2 t2 e a => by
    subst e
    rw [da_int a]
    exact ⟨p, v, rfl, .inl ⟨kvs, .inl i, .of (w2.jh _ _ ((t.trans t2).jj _ _ hJ)), rfl, hv.symm⟩, q v d J2 H2 w2 t2 rfl ((t.trans t2).jj.da ha)⟩⟩
end
end DL

/-! in, not in of a tuple of data; list(range(n)); keywords the other way round. -/
namespace DL
open PySem PySem.Spec
open PyProof.Rows L2
local macro_rules | `(tactic| walk_at "rep") => `(tactic| first | assumption | exact Da.int _ | exact Da.bl _ | exact Da.str _ | exact Da.non | exact Sub.da (by assumption) (by assumption) | exact Sub.da (Tr.jj (by assumption)) (by assumption))
local macro_rules | `(tactic| walk_at "arith") => `(tactic| first | assumption | omega | decide | exact cmul_small (by omega) (by omega) | exact cdiv_small (by omega) (by omega))
local macro_rules | `(tactic| walk_at "shp") => `(tactic| first | exact sh_int _ | exact sh_tup _ | exact sh_list _ | assumption)
local macro_rules | `(tactic| walk_at "od") => `(tactic| first
  | with_reducible exact od_plus
  | with_reducible exact od_sub
  | ((with_reducible refine' od_mul ?h1); walk_at "arith")
  | ((with_reducible refine' od_mod ?h1); walk_at "arith")
  | ((with_reducible refine' od_fdiv ?h1); walk_at "arith")
  | ((with_reducible refine' od_pow ?h1); exact ⟨by decide, by decide, by decide⟩)
  | with_reducible exact od_lt | with_reducible exact od_le | with_reducible exact od_gt | with_reducible exact od_ge
  | ((with_reducible refine' od_plusT ?h1); walk_at "arith")
  | ((with_reducible refine' od_plusL ?h1); walk_at "arith")
  | ((with_reducible refine' od_plusS ?h1); walk_at "arith")
  | with_reducible exact od_isN | with_reducible exact od_notN
  | ((with_reducible refine od_eq ?_ ?_) <;> walk_at "shp")
  | ((with_reducible refine od_ne ?_ ?_) <;> walk_at "shp")
  | ((with_reducible refine od_inL ?_ ?_) <;> walk_at "shp")
  | ((with_reducible refine od_ixL ?_); assumption)
  | ((with_reducible refine od_ixT ?_); assumption))
local macro_rules | `(tactic| walk_at "ea") => `(tactic| first | with_reducible exact ea_nil | ((with_reducible refine' ea_consD ?h1 ?h2); (case h1 => walk_at "ev"); (case h2 => walk_at "ea")))
local macro_rules | `(tactic| walk_at "eo") => `(tactic| first | with_reducible exact eo_none | ((with_reducible refine' eo_at ?h1); (case h1 => walk_at "ev")))
local macro_rules | `(tactic| walk_at "cd") => `(tactic| first
  | with_reducible exact cd_lenL | with_reducible exact cd_lenT | with_reducible exact cd_tupL | with_reducible exact cd_tupT | with_reducible exact cd_lstL | with_reducible exact cd_lstT | with_reducible exact cd_abs | with_reducible exact cd_int)
local macro_rules | `(tactic| walk_at "ev") => `(tactic| first
  | with_reducible exact ev_int | with_reducible exact ev_bl | with_reducible exact ev_str | with_reducible exact ev_non
  | ((with_reducible refine' ev_var ?h1 ?h2); (case h1 => exact rfl); (case h2 => walk_at "rep"))
  | ((with_reducible refine' ev_opD ?h1 ?h2 ?h3); (case h1 => walk_at "ev"); (case h2 => walk_at "ev"); (case h3 => walk_at "od"))
  | ((with_reducible refine' ev_tupD ?h1); (case h1 => walk_at "ea"))
  | ((with_reducible refine' ev_lstD ?h1); (case h1 => walk_at "ea"))
  | ((with_reducible refine' ev_revL ?h1); (case h1 => walk_at "ev"))
  | ((with_reducible refine' ev_slD ?h1 ?h2 ?h3 ?h4); (case h1 => walk_at "ev"); (case h2 => walk_at "eo"); (case h3 => walk_at "eo"); (case h4 => first | with_reducible exact sd_tup | with_reducible exact sd_list))
  | ((with_reducible refine' ev_cbD ?h1 ?h2); (case h1 => walk_at "ea"); (case h2 => walk_at "cd"))
  | ((with_reducible refine' ev_notV ?h1); (case h1 => walk_at "ev"))
  | assumption)
local macro_rules | `(tactic| walk_at "et") => `(tactic| first
  | ((with_reducible refine' et_testD ?h1); (case h1 => walk_at "ev"))
  | ((with_reducible refine' et_BD ?h1); (case h1 => walk_at "ev"))
  | ((with_reducible refine' et_notD ?h1); (case h1 => walk_at "et"))
  | ((with_reducible refine' et_andD ?h1 ?h2); (case h1 => walk_at "et"); (case h2 => intro _; walk_at "et"))
  | ((with_reducible refine' et_orD ?h1 ?h2); (case h1 => walk_at "et"); (case h2 => intro _; walk_at "et"))
  | assumption)
def rInDT (K : PySem.W.Frag) (neg : Bool) : R2 := fun x y H Q => ∃ d ds, (Dp K H x d ∧ SeqAt.shaped d = true) ∧ (Dp K H y (.tuple ds) ∧ SeqAt.shaped (.tuple ds) = true) ∧ Q (.bl (if neg then !(ds.any fun z => PyData.eqv z d) else ds.any fun z => PyData.eqv z d)) H
theorem op_notInDT {X : Cx} (hu : X.A.units + 65 < cLine) : OpR X (compareOp .NotIn) (rInDT X.K true) := fun pins s σ H x y v u Q I rx ry ⟨d, ds, ⟨hd, sd⟩, ⟨he, se⟩, q⟩ => by
  obtain ⟨as, r1⟩ := Dp.reads I d x v hd rx
  obtain ⟨bs, r2⟩ := Dp.reads I (.tuple ds) y u he ry
  exact SeqAt.notIn_tuple_reads r2 r1 (SeqAt.canLay_of_shaped se) (SeqAt.canLay_of_shaped sd) (room_in_shaped sd hu) ⟨.bl _, H, I, rfl, q⟩
theorem op_inDT {X : Cx} (hu : X.A.units + 65 < cLine) : OpR X (compareOp .In) (rInDT X.K false) := fun pins s σ H x y v u Q I rx ry ⟨d, ds, ⟨hd, sd⟩, ⟨he, se⟩, q⟩ => by
  obtain ⟨as, r1⟩ := Dp.reads I d x v hd rx
  obtain ⟨bs, r2⟩ := Dp.reads I (.tuple ds) y u he ry
  exact SeqAt.in_tuple_reads r2 r1 (SeqAt.canLay_of_shaped se) (SeqAt.canLay_of_shaped sd) (room_in_shaped sd hu) ⟨.bl _, H, I, rfl, q⟩
section
variable {K : PySem.W.Frag} {M : Md} {σ : L2.St} {J H : Hp} {ta te : TE} {dx : PyData} {ds : List PyData}
theorem od_niT (sx : SeqAt.shaped dx = true) (sy : SeqAt.shaped (.tuple ds) = true) : OpD K M (rInDT K true) dx (.tuple ds) (· = .bool (!ds.any fun z => PyData.eqv z dx)) :=
  od_flat (v := .bl _) (fun x y J H s ax ay Q q => ⟨dx, ds, ⟨ax.dp s, sx⟩, ⟨ay.dp s, sy⟩, q⟩) fun _ => .bl _
theorem od_inT (sx : SeqAt.shaped dx = true) (sy : SeqAt.shaped (.tuple ds) = true) : OpD K M (rInDT K false) dx (.tuple ds) (· = .bool (ds.any fun z => PyData.eqv z dx)) :=
  od_flat (v := .bl _) (fun x y J H s ax ay Q q => ⟨dx, ds, ⟨ax.dp s, sx⟩, ⟨ay.dp s, sy⟩, q⟩) fun _ => .bl _
/-- 0, 1, .. below n, as numbers -/
def rg (n : Nat) : List Int := (List.range n).map fun i : Nat => (i : Int)
theorem rg_mem {n : Nat} {x : Int} (h : x ∈ rg n) : 0 ≤ x ∧ x < n := by
  obtain ⟨i, hi, rfl⟩ := List.mem_map.mp h
  have := List.mem_range.mp hi
  omega
theorem rg_len (n : Nat) : (rg n).length = n := by unfold rg; simp
theorem ev_listRg {n : Nat} (h : EvD K M te σ J H (.int (n : Int))) (hn : n ≤ 2 ^ 20) : EvD K M (tLstRg (tRg1 te)) σ J H (.list (oD (rg n))) := fun J1 H1 w t Q q =>
  h J1 H1 w t _ fun v d J2 H2 w2 t2 e a => by
    subst e
    refine ⟨(n : Int), da_int a, RgOk.of_le (by decide) (by omega) (by decide) (by omega), fun p hp => ?_⟩
    have e1 : rgV 0 (n : Int) = (rg n).map V.int := by
      unfold rgV rg
      rw [List.map_map, show ((n : Int) - 0).toNat = n by omega]
      refine List.map_congr_left fun i _ => ?_
      show V.int (0 + (i : Int)) = V.int (i : Int)
      rw [Int.zero_add]
    rw [e1]
    have t3 := w2.new (o := .lst ((rg n).map V.int)) hp
    exact q _ _ _ _ (t3.wf w2) (t2.trans t3) rfl (.lst upd_same (t3.jj.das (das_intsV _)))
end
/-! ### f(b=.., a=..): the keywords the other way round -/
theorem fun_kbR {K : PySem.W.Frag} {x qual : Str} {params : Arguments} {body : List Stmt} {scope : Scope} {f : Addr} {fd : FuncData} {ps : List Str} (F : FunD K x qual params body scope [] [] f fd) (ks : List Str)
    (h : ∀ (kV doc pm : Value) (an : Option Addr) (cdv ct : Value) (ws : List Value), ws.length = ks.length → bindArgs (PySem.W.fnOf x qual params body scope .none kV doc pm an cdv ct) ⟨[], ks.zip ws⟩ = pure (ps.zip ws.reverse)) :
    KBn K fd ps 0 ks (fun _ ws => ws.reverse) (fun _ zs => zs.reverse) := by
  obtain ⟨_, _, _, k1, d1, m1, a1, c1, t1, _, e, _, _, dfl, _⟩ := F.ex
  subst e
  have rv : ∀ {zs : List V} {ws : List Value}, Vals zs ws → Vals zs.reverse ws.reverse := by
    intro zs ws r
    induction r with
    | nil => exact .nil
    | cons a b ih => rw [List.reverse_cons, List.reverse_cons]; exact ih.append (.cons a .nil)
  match dfl with
  | .inl ⟨_, none_⟩ =>
    subst none_
    refine ⟨fun s us ws _ l1 l2 => ?_, fun _ r2 => rv r2⟩
    have e : us = [] := List.eq_nil_of_length_eq_zero l1
    subst e
    exact .of_eq (h k1 d1 m1 a1 c1 t1 ws l2)
  | .inr ⟨some_, _⟩ => exact absurd rfl some_
structure CaR (P : Program) (w : World) (K : PySem.W.Frag) (mg : Str → Option Value) (base : Heap) (CX : CXT) (k : Nat) (x : Str) (ps : List Str) (ks : List Str) (sp : Sp) : Prop where
  has : ∃ f fd, FnOk P w K mg base CX k f fd ps sp ∧ mg x = some (.ref f) ∧ PySem.W.keepIn K (.ref f) = true ∧ KBn K fd ps 0 ks (fun _ ws => ws.reverse) (fun _ zs => zs.reverse)
theorem xCallKr {X : Cx} {CX : CXT} {k : Nat} {ps ks : List Str} {sp : Sp} {E : XK} {kws : List Keyword} {p pos : Pos} {x : Str} {tk : TA} (C : CaR X.prog X.w X.K X.mg X.base CX k x ps ks sp) (hr : Room k X.A) (hx : Passes CX X E) (hkw : PK X kws tk) (hg : Gl X x := by rfl) (hdb : (x == ("__debug__" : Str)) = false := by decide)
    (hall : (backToKw pos (keywordEach kws X.env)).all (·.1.isSome) = true := by rfl) (hks : (backToKw pos (keywordEach kws X.env)).filterMap (·.1) = ks := by rfl) (hpl : ((backTo pos (starEach [] X.env)).any (·.1) || (backToKw pos (keywordEach kws X.env)).any (·.1.isNone)) = false := by rfl) :
    PE X (.Call (.Name x p) [] kws pos) (fun σ H Q => tk σ H fun zs H2 => zs.length = ks.length ∧ sp zs.reverse H2 Q E) := by
  obtain ⟨f, fd, F, hm, hk, hb⟩ := C.has
  refine ⟨fun pins s σ H Q I h => wpAny_Call_Name_kw (ld_glob I hg hm ?_ hdb)⟩
  refine PySem.W.callWith_KW0 (h₀ := X.base) I.ok.mod.kin hk hall (thn (hkw.run pos pins s σ H _ I h) fun ws s2 ⟨zs, H2, I2, rz, l1, q2⟩ => ⟨I2.kIn, ?_⟩) hpl
  rw [hks]
  exact run_fnN (us := []) (vs := []) F hr hb hx I2 .nil rz rfl l1 q2
theorem das_revV {K : PySem.W.Frag} {J : Hp} {vs : List V} {ds : List PyData} (h : Das K J vs ds) : Das K J vs.reverse ds.reverse := das_rev h
theorem ev_callKr {K : PySem.W.Frag} {M : Md} {σ : L2.St} {J H : Hp} {sp : Sp} {E : XK} {m : Nat} {ta : TA} {ds : List PyData} {P : PyData → Prop} (h : EvA K M ta σ J H (· = ds)) (hm : ds.length = m) (ho : SpD K M sp ds.reverse P E) : EvP K M (fun σ H Q => ta σ H fun zs H2 => zs.length = m ∧ sp zs.reverse H2 Q E) σ J H P := fun J1 H1 w t Q q =>
  h J1 H1 w t _ fun vs ds' J2 H2 w2 t2 e a => by
    subst e
    exact ⟨by rw [das_len a]; exact hm, ho vs.reverse J2 H2 w2 (das_revV a) Q fun v d J3 H3 w3 t3 p a3 => q v d J3 H3 w3 (t2.trans t3) p a3⟩
end DL

/-! Rules within a comprehension: what is known of the text is named. -/
namespace DL
open PySem PySem.Spec
open PyProof.Rows L2
local macro_rules | `(tactic| walk_at "rep") => `(tactic| first | assumption | exact Da.int _ | exact Da.bl _ | exact Da.str _ | exact Da.non | exact Sub.da (by assumption) (by assumption) | exact Sub.da (Tr.jj (by assumption)) (by assumption))
local macro_rules | `(tactic| walk_at "arith") => `(tactic| first | assumption | omega | decide | exact cmul_small (by omega) (by omega) | exact cdiv_small (by omega) (by omega))
local macro_rules | `(tactic| walk_at "shp") => `(tactic| first | exact sh_int _ | exact sh_tup _ | exact sh_list _ | assumption)
local macro_rules | `(tactic| walk_at "od") => `(tactic| first
  | with_reducible exact od_plus
  | with_reducible exact od_sub
  | ((with_reducible refine' od_mul ?h1); walk_at "arith")
  | ((with_reducible refine' od_mod ?h1); walk_at "arith")
  | ((with_reducible refine' od_fdiv ?h1); walk_at "arith")
  | ((with_reducible refine' od_pow ?h1); exact ⟨by decide, by decide, by decide⟩)
  | with_reducible exact od_lt | with_reducible exact od_le | with_reducible exact od_gt | with_reducible exact od_ge
  | ((with_reducible refine' od_plusT ?h1); walk_at "arith")
  | ((with_reducible refine' od_plusL ?h1); walk_at "arith")
  | ((with_reducible refine' od_plusS ?h1); walk_at "arith")
  | with_reducible exact od_isN | with_reducible exact od_notN
  | ((with_reducible refine od_eq ?_ ?_) <;> walk_at "shp")
  | ((with_reducible refine od_ne ?_ ?_) <;> walk_at "shp")
  | ((with_reducible refine od_inL ?_ ?_) <;> walk_at "shp")
  | ((with_reducible refine od_ixL ?_); assumption)
  | ((with_reducible refine od_ixT ?_); assumption))
local macro_rules | `(tactic| walk_at "ea") => `(tactic| first | with_reducible exact ea_nil | ((with_reducible refine' ea_consD ?h1 ?h2); (case h1 => walk_at "ev"); (case h2 => walk_at "ea")))
local macro_rules | `(tactic| walk_at "eo") => `(tactic| first | with_reducible exact eo_none | ((with_reducible refine' eo_at ?h1); (case h1 => walk_at "ev")))
local macro_rules | `(tactic| walk_at "cd") => `(tactic| first
  | with_reducible exact cd_lenL | with_reducible exact cd_lenT | with_reducible exact cd_tupL | with_reducible exact cd_tupT | with_reducible exact cd_lstL | with_reducible exact cd_lstT | with_reducible exact cd_abs | with_reducible exact cd_int)
local macro_rules | `(tactic| walk_at "ev") => `(tactic| first
  | with_reducible exact ev_int | with_reducible exact ev_bl | with_reducible exact ev_str | with_reducible exact ev_non
  | ((with_reducible refine' ev_var ?h1 ?h2); (case h1 => exact rfl); (case h2 => walk_at "rep"))
  | ((with_reducible refine' ev_opD ?h1 ?h2 ?h3); (case h1 => walk_at "ev"); (case h2 => walk_at "ev"); (case h3 => walk_at "od"))
  | ((with_reducible refine' ev_tupD ?h1); (case h1 => walk_at "ea"))
  | ((with_reducible refine' ev_lstD ?h1); (case h1 => walk_at "ea"))
  | ((with_reducible refine' ev_revL ?h1); (case h1 => walk_at "ev"))
  | ((with_reducible refine' ev_slD ?h1 ?h2 ?h3 ?h4); (case h1 => walk_at "ev"); (case h2 => walk_at "eo"); (case h3 => walk_at "eo"); (case h4 => first | with_reducible exact sd_tup | with_reducible exact sd_list))
  | ((with_reducible refine' ev_cbD ?h1 ?h2); (case h1 => walk_at "ea"); (case h2 => walk_at "cd"))
  | ((with_reducible refine' ev_notV ?h1); (case h1 => walk_at "ev"))
  | assumption)
local macro_rules | `(tactic| walk_at "et") => `(tactic| first
  | ((with_reducible refine' et_testD ?h1); (case h1 => walk_at "ev"))
  | ((with_reducible refine' et_BD ?h1); (case h1 => walk_at "ev"))
  | ((with_reducible refine' et_notD ?h1); (case h1 => walk_at "et"))
  | ((with_reducible refine' et_andD ?h1 ?h2); (case h1 => walk_at "et"); (case h2 => intro _; walk_at "et"))
  | ((with_reducible refine' et_orD ?h1 ?h2); (case h1 => walk_at "et"); (case h2 => intro _; walk_at "et"))
  | assumption)
section
variable {X : Cx} {a b e : Expr} {es : List Expr} {ta tb te : TE} {p pos : Pos} {x : Str} {t : TA}
theorem xIxK (K' : PySem.W.Frag) (hK : X.K = K') (ha : PE X a ta) (hb : PE X b tb) (hs : PlainIx b := by exact fun _ _ => rfl) : PE X (.Subscript a b pos) (tOp (rIx K') ta tb) := by
  subst hK
  exact xIx ha hb hs
theorem xTruthK (K' : PySem.W.Frag) (hK : X.K = K') (ha : PE X a ta) (he : ∀ whole, isTrue a X.env whole = (do let v ← whole; standAt a.pos; holding [v] (truthy v)) := by intro _; rfl) : PT X a (tTruth K' ta) := by
  subst hK
  exact xTruth ha he
theorem op_plusK (K' : PySem.W.Frag) (hK : X.K = K') : OpR X (binaryOp .Add) (rPlus K') := by subst hK; exact op_plus
theorem op_eqK (K' : PySem.W.Frag) (hK : X.K = K') (hu : X.A.units + 64 < cLine) : OpR X (compareOp .Eq) (rEqD K') := by subst hK; exact op_eqD hu
theorem op_neK (K' : PySem.W.Frag) (hK : X.K = K') (hu : X.A.units + 64 < cLine) : OpR X (compareOp .NotEq) (rNeD K') := by subst hK; exact op_neD hu
theorem op_inK (K' : PySem.W.Frag) (hK : X.K = K') (hu : X.A.units + 65 < cLine) : OpR X (compareOp .In) (rInD K') := by subst hK; exact op_inD hu
theorem op_niK (K' : PySem.W.Frag) (hK : X.K = K') (hu : X.A.units + 65 < cLine) : OpR X (compareOp .NotIn) (rNotInD K') := by subst hK; exact op_notInD hu
theorem op_inTK (K' : PySem.W.Frag) (hK : X.K = K') (hu : X.A.units + 65 < cLine) : OpR X (compareOp .In) (rInDT K' false) := by subst hK; exact op_inDT hu
theorem op_niTK (K' : PySem.W.Frag) (hK : X.K = K') (hu : X.A.units + 65 < cLine) : OpR X (compareOp .NotIn) (rInDT K' true) := by subst hK; exact op_notInDT hu
theorem cl_reprK (K' : PySem.W.Frag) (hK : X.K = K') (hA : X.A.guards = some []) (hu : X.A.units + 64 < cLine) : CallR X (.builtin "repr") (rRepr K') := by subst hK; exact cl_repr hA hu
theorem cl_lenK (K' : PySem.W.Frag) (hK : X.K = K') : CallR X (.builtin "len") (rLen K') := by subst hK; exact cl_len
theorem cl_tupK (K' : PySem.W.Frag) (hK : X.K = K') : CallR X (.type "tuple") (rTupOf K') := by subst hK; exact cl_tup
theorem cl_lstK (K' : PySem.W.Frag) (hK : X.K = K') : CallR X (.type "list") (rLstOf K') := by subst hK; exact cl_lst
theorem cr_anyK (K' : PySem.W.Frag) (hK : X.K = K') (hc : X.calm = true) : CallR X (.builtin "any") (rAny K') := by subst hK; exact cr_any hc
end
end DL

namespace K19
open PySem PySem.Spec
open PyProof.Rows L2 DL
open Classical
/-! ### the mathematics of rows: what a stamp sees, what has to stay -/
abbrev Ver := Int × PyData
def Asc (r : List Ver) : Prop := r.Pairwise fun a b => a.1 < b.1
def see : List Ver → Int → Option Ver
  | [], _ => none
  | v :: t, s => match see t s with
    | some u => some u
    | none => if v.1 ≤ s then some v else none
theorem see_snoc (r : List Ver) (v : Ver) (s : Int) : see (r ++ [v]) s = if v.1 ≤ s then some v else see r s := by
  induction r with
  | nil => rfl
  | cons u r ih =>
    rw [List.cons_append]
    unfold see
    rw [ih]
    by_cases h : v.1 ≤ s
    · rw [if_pos h, if_pos h]
    · rw [if_neg h, if_neg h]
theorem see_none {r : List Ver} {s : Int} : see r s = none ↔ ∀ u ∈ r, s < u.1 := by
  induction r with
  | nil => exact ⟨fun _ => nofun, fun _ => rfl⟩
  | cons v r ih =>
    unfold see
    cases e : see r s with
    | some u =>
      rw [e] at ih
      constructor
      · intro h; cases h
      · intro h
        have h2 := ih.mpr fun u hu => h u (List.mem_cons_of_mem _ hu)
        cases h2
    | none =>
      have h1 := ih.mp e
      by_cases h : v.1 ≤ s
      · constructor
        · intro h2
          dsimp only at h2
          rw [if_pos h] at h2
          cases h2
        · intro h2
          have := h2 v List.mem_cons_self
          omega
      · constructor
        · intro _ u hu
          rcases List.mem_cons.mp hu with e | e
          · rw [e]; omega
          · exact h1 u e
        · intro _
          dsimp only
          rw [if_neg h]
theorem see_mem {r : List Ver} {s : Int} {v : Ver} (h : see r s = some v) : v ∈ r ∧ v.1 ≤ s := by
  induction r with
  | nil => cases h
  | cons u r ih =>
    unfold see at h
    cases e : see r s with
    | some w =>
      rw [e] at h
      rw [e] at ih
      have := ih h
      exact ⟨List.mem_cons_of_mem _ this.1, this.2⟩
    | none =>
      rw [e] at h
      dsimp only at h
      by_cases hu : u.1 ≤ s
      · rw [if_pos hu] at h
        cases h
        exact ⟨List.mem_cons_self, hu⟩
      · rw [if_neg hu] at h
        cases h
theorem see_max {r : List Ver} (a : Asc r) {s : Int} {v : Ver} (h : see r s = some v) : ∀ u ∈ r, u.1 ≤ s → u.1 ≤ v.1 := by
  induction r with
  | nil => nofun
  | cons w r ih =>
    obtain ⟨a1, a2⟩ := List.pairwise_cons.mp a
    unfold see at h
    cases e : see r s with
    | some x =>
      rw [e] at h
      cases h
      intro u hu hs
      rcases List.mem_cons.mp hu with e2 | e2
      · rw [e2]
        have := a1 v (see_mem e).1
        omega
      · exact ih a2 e u e2 hs
    | none =>
      rw [e] at h
      dsimp only at h
      by_cases hw : w.1 ≤ s
      · rw [if_pos hw] at h
        cases h
        intro u hu hs
        rcases List.mem_cons.mp hu with e2 | e2
        · rw [e2]; exact Int.le_refl _
        · have := see_none.mp e u e2
          omega
      · rw [if_neg hw] at h
        cases h
theorem asc_inj {r : List Ver} (a : Asc r) {u v : Ver} (hu : u ∈ r) (hv : v ∈ r) (e : u.1 = v.1) : u = v := by
  induction r with
  | nil => cases hu
  | cons w r ih =>
    obtain ⟨a1, a2⟩ := List.pairwise_cons.mp a
    rcases List.mem_cons.mp hu with e1 | e1 <;> rcases List.mem_cons.mp hv with e2 | e2
    · rw [e1, e2]
    · have := a1 v e2
      rw [e1] at e
      omega
    · have := a1 u e1
      rw [e2] at e
      omega
    · exact ih a2 e1 e2
theorem see_iff {r : List Ver} (a : Asc r) {s : Int} {v : Ver} : see r s = some v ↔ v ∈ r ∧ v.1 ≤ s ∧ ∀ u ∈ r, u.1 ≤ s → u.1 ≤ v.1 := by
  constructor
  · intro h
    exact ⟨(see_mem h).1, (see_mem h).2, see_max a h⟩
  · rintro ⟨h1, h2, h3⟩
    cases e : see r s with
    | none =>
      have := see_none.mp e v h1
      omega
    | some u =>
      have l1 := see_max a e v h1 h2
      have l2 := h3 u (see_mem e).1 (see_mem e).2
      rw [asc_inj a (see_mem e).1 h1 (by omega)]
/-- seen by some stamps -/
def S (r : List Ver) (A : List Int) (v : Ver) : Prop := ∃ s ∈ A, see r s = some v
def no (v : Ver) : Bool := isNo v.2
noncomputable def K (r : List Ver) (A : List Int) : List Ver := (r.filter fun v => decide (S r A v)).dropWhile no
theorem dropWhile_parts (l : List Ver) : ∃ N, l = N ++ l.dropWhile no ∧ (∀ n ∈ N, no n = true) ∧ ∀ t r, l.dropWhile no = t :: r → no t = false := by
  induction l with
  | nil => exact ⟨[], rfl, nofun, nofun⟩
  | cons v l ih =>
    obtain ⟨N, e, h1, h2⟩ := ih
    cases hv : no v with
    | true =>
      rw [List.dropWhile_cons_of_pos hv]
      refine ⟨v :: N, by rw [List.cons_append, ← e], fun n hn => ?_, h2⟩
      rcases List.mem_cons.mp hn with e2 | e2
      · rw [e2]; exact hv
      · exact h1 n e2
    | false =>
      rw [List.dropWhile_cons_of_neg (by rw [hv]; exact Bool.false_ne_true)]
      refine ⟨[], rfl, nofun, fun t r e2 => ?_⟩
      cases e2
      exact hv
theorem dropWhile_skip {N l : List Ver} (h : ∀ n ∈ N, no n = true) : (N ++ l).dropWhile no = l.dropWhile no := by
  induction N with
  | nil => rfl
  | cons n N ih =>
    rw [List.cons_append, List.dropWhile_cons_of_pos (h n List.mem_cons_self)]
    exact ih fun m hm => h m (List.mem_cons_of_mem _ hm)
theorem dropWhile_snoc (l : List Ver) (v : Ver) : (l ++ [v]).dropWhile no = if (l.dropWhile no).isEmpty && no v then [] else l.dropWhile no ++ [v] := by
  obtain ⟨N, e, h1, h2⟩ := dropWhile_parts l
  cases hd : l.dropWhile no with
  | nil =>
    rw [hd, List.append_nil] at e
    rw [e, dropWhile_skip h1]
    cases hv : no v with
    | true => rw [List.dropWhile_cons_of_pos hv]; rfl
    | false => rw [List.dropWhile_cons_of_neg (by rw [hv]; exact Bool.false_ne_true)]; rfl
  | cons t r =>
    have ht := h2 t r hd
    rw [e, List.append_assoc, dropWhile_skip h1, hd, List.cons_append, List.dropWhile_cons_of_neg (by rw [ht]; exact Bool.false_ne_true)]
    rfl
structure KFacts (r : List Ver) (A : List Int) (t : List Ver) : Prop where
  sub : t.Sublist r
  seen : ∀ v ∈ t, S r A v
  left : ∀ v ∈ r, S r A v → v ∉ t → no v = true ∧ ∀ u ∈ t, v.1 < u.1
  head : ∀ x y, t = x :: y → no x = false
theorem kfacts {r : List Ver} (a : Asc r) (A : List Int) : KFacts r A (K r A) := by
  obtain ⟨N, e, h1, h2⟩ := dropWhile_parts (r.filter fun v => decide (S r A v))
  have sf : (r.filter fun v => decide (S r A v)).Sublist r := List.filter_sublist
  refine ⟨(List.dropWhile_sublist _).trans sf, fun v hv => ?_, fun v hv hs hn => ?_, h2⟩
  · have := (List.dropWhile_sublist _).subset hv
    exact of_decide_eq_true (List.mem_filter.mp this).2
  · have hm : v ∈ r.filter fun v => decide (S r A v) := List.mem_filter.mpr ⟨hv, decide_eq_true hs⟩
    have af : Asc (r.filter fun v => decide (S r A v)) := a.sublist sf
    rw [e] at hm af
    rcases List.mem_append.mp hm with hm | hm
    · exact ⟨h1 v hm, fun u hu => (List.pairwise_append.mp af).2.2 v hm u hu⟩
    · exact (hn hm).elim
/-- what a part has to tell -/
def Tells (r p : List Ver) (A : List Int) : Prop := ∀ s ∈ A, see p s = see r s ∨ (see p s = none ∧ ∃ v, see r s = some v ∧ no v = true)
theorem see_part {r p : List Ver} (a : Asc r) (hp : p.Sublist r) {s : Int} {v : Ver} (h : see r s = some v) (hv : v ∈ p) : see p s = some v :=
  (see_iff (a.sublist hp)).mpr ⟨hv, (see_mem h).2, fun u hu hs => see_max a h u (hp.subset hu) hs⟩
theorem k_tells {r : List Ver} (a : Asc r) (A : List Int) : Tells r (K r A) A := by
  have F := kfacts a A
  intro s hs
  cases e : see r s with
  | none => exact .inl (see_none.mpr fun u hu => see_none.mp e u (F.sub.subset hu))
  | some v =>
    by_cases hv : v ∈ K r A
    · exact .inl (see_part a F.sub e hv)
    · obtain ⟨h1, h2⟩ := F.left v (see_mem e).1 ⟨s, hs, e⟩ hv
      refine .inr ⟨see_none.mpr fun u hu => ?_, v, rfl, h1⟩
      have l := h2 u hu
      by_cases hus : u.1 ≤ s
      · have := see_max a e u (F.sub.subset hu) hus
        omega
      · omega
theorem k_least {r p : List Ver} (a : Asc r) (A : List Int) (hp : p.Sublist r) (ht : Tells r p A) : ∀ v ∈ K r A, v ∈ p := by
  have F := kfacts a A
  intro v hv
  obtain ⟨s, hs, e⟩ := F.seen v hv
  rcases ht s hs with h | ⟨h, w, e2, hw⟩
  · rw [e] at h
    exact (see_mem h).1
  · rw [e] at e2
    cases e2
    cases hk : K r A with
    | nil => rw [hk] at hv; cases hv
    | cons t rest =>
      have h0 := F.head t rest hk
      have ht0 : t ∈ K r A := by rw [hk]; exact List.mem_cons_self
      obtain ⟨s0, hs0, e0⟩ := F.seen t ht0
      have tp : t ∈ p := by
        rcases ht s0 hs0 with h | ⟨_, w, e3, hw3⟩
        · rw [e0] at h
          exact (see_mem h).1
        · rw [e0] at e3
          cases e3
          rw [h0] at hw3
          cases hw3
      have l1 : t.1 ≤ v.1 := by
        have ak := a.sublist F.sub
        rw [hk] at hv ak
        rcases List.mem_cons.mp hv with e4 | e4
        · rw [e4]; exact Int.le_refl _
        · exact Int.le_of_lt ((List.pairwise_cons.mp ak).1 v e4)
      have l2 := see_none.mp h t tp
      have l3 := (see_mem e).2
      omega
theorem nodup_le : ∀ {l m : List Int}, l.Nodup → (∀ x ∈ l, x ∈ m) → l.length ≤ m.length
  | [], _, _, _ => Nat.zero_le _
  | x :: l, m, hn, hs => by
    obtain ⟨h1, h2⟩ := List.nodup_cons.mp hn
    have hx := hs x List.mem_cons_self
    have := nodup_le (m := m.erase x) h2 fun y hy => by
      have ne : y ≠ x := fun e => h1 (by rw [← e]; exact hy)
      exact (List.mem_erase_of_ne ne).mpr (hs y (List.mem_cons_of_mem _ hy))
    rw [List.length_erase_of_mem hx] at this
    have : 0 < m.length := List.length_pos_of_mem hx
    rw [List.length_cons]
    omega
theorem asc_nodup {r : List Ver} (a : Asc r) : (r.map (·.1)).Nodup := by
  have h : (r.map (·.1)).Pairwise (· < ·) := List.pairwise_map.mpr a
  exact h.imp fun {x y} h => by omega
theorem k_len {r : List Ver} (a : Asc r) (A : List Int) : (K r A).length ≤ A.length := by
  have F := kfacts a A
  have h := nodup_le (m := (A.filterMap fun s => see r s).map (·.1)) (asc_nodup (a.sublist F.sub)) fun x hx => by
    obtain ⟨v, hv, rfl⟩ := List.mem_map.mp hx
    obtain ⟨s, hs, e⟩ := F.seen v hv
    exact List.mem_map.mpr ⟨v, List.mem_filterMap.mpr ⟨s, hs, e⟩, rfl⟩
  rw [List.length_map, List.length_map] at h
  exact Nat.le_trans h (List.length_filterMap_le _ _)
theorem sub_filter : ∀ {r p : List Ver}, Asc r → p.Sublist r → r.filter (fun v => decide (v ∈ p)) = p
  | _, _, _, .slnil => rfl
  | v :: r, p, a, .cons _ h => by
    obtain ⟨a1, a2⟩ := List.pairwise_cons.mp a
    have hv : v ∉ p := fun hm => by
      have := a1 v (h.subset hm)
      omega
    rw [List.filter_cons, decide_eq_false hv, if_neg Bool.false_ne_true]
    exact sub_filter a2 h
  | v :: r, _ :: p, a, .cons₂ _ h => by
    obtain ⟨a1, a2⟩ := List.pairwise_cons.mp a
    rw [List.filter_cons, decide_eq_true List.mem_cons_self, if_pos rfl]
    have ih := sub_filter a2 h
    conv => rhs; rw [← ih]
    congr 1
    refine List.filter_congr fun u hu => decide_eq_decide.mpr ⟨fun hm => ?_, List.mem_cons_of_mem _⟩
    rcases List.mem_cons.mp hm with e | e
    · have := a1 u hu
      rw [e] at this
      omega
    · exact e
theorem filter_eq {l : List Ver} {a b : Ver → Bool} (h : ∀ x, a x = true → b x = true) (hl : (l.filter b).length ≤ (l.filter a).length) : l.filter a = l.filter b := by
  induction l with
  | nil => rfl
  | cons x l ih =>
    have mono : (l.filter a).length ≤ (l.filter b).length := by
      clear ih hl
      induction l with
      | nil => exact Nat.le_refl _
      | cons y l ih =>
        cases ha : a y with
        | true => rw [List.filter_cons_of_pos ha, List.filter_cons_of_pos (h y ha)]; exact Nat.succ_le_succ ih
        | false =>
          rw [List.filter_cons_of_neg (by rw [ha]; exact Bool.false_ne_true)]
          cases hb : b y with
          | true => rw [List.filter_cons_of_pos hb]; exact Nat.le_succ_of_le ih
          | false => rw [List.filter_cons_of_neg (by rw [hb]; exact Bool.false_ne_true)]; exact ih
    cases ha : a x with
    | true =>
      have hb := h x ha
      rw [List.filter_cons_of_pos ha, List.filter_cons_of_pos hb] at hl ⊢
      rw [ih (by simpa using hl)]
    | false =>
      have ha' : ¬ a x = true := by rw [ha]; exact Bool.false_ne_true
      cases hb : b x with
      | true =>
        rw [List.filter_cons_of_neg ha', List.filter_cons_of_pos hb, List.length_cons] at hl
        omega
      | false =>
        have hb' : ¬ b x = true := by rw [hb]; exact Bool.false_ne_true
        rw [List.filter_cons_of_neg ha', List.filter_cons_of_neg hb'] at hl ⊢
        exact ih hl
theorem part_eq {r p q : List Ver} (a : Asc r) (hp : p.Sublist r) (hq : q.Sublist r) (h : ∀ v ∈ q, v ∈ p) (hl : p.length ≤ q.length) : p = q := by
  have e1 := sub_filter a hp
  have e2 := sub_filter a hq
  have := filter_eq (l := r) (a := fun v => decide (v ∈ q)) (b := fun v => decide (v ∈ p)) (fun x hx => decide_eq_true (h x (of_decide_eq_true hx))) (by rw [e1, e2]; exact hl)
  rw [e1, e2] at this
  exact this.symm
theorem k_again {r : List Ver} (a : Asc r) {A B : List Int} (h : ∀ s ∈ B, s ∈ A) : K (K r A) B = K r B := by
  have F := kfacts a A
  have T := k_tells a A
  obtain ⟨N, e, h1, _⟩ := dropWhile_parts (r.filter fun v => decide (S r A v))
  have eK : (r.filter fun v => decide (S r A v)).dropWhile no = K r A := rfl
  rw [eK] at e
  have e1 : r.filter (fun v => decide (S r B v)) = (r.filter fun v => decide (S r A v)).filter fun v => decide (S r B v) := by
    rw [List.filter_filter]
    refine List.filter_congr fun v _ => ?_
    by_cases hb : S r B v
    · have ha : S r A v := by
        obtain ⟨s, hs, e⟩ := hb
        exact ⟨s, h s hs, e⟩
      rw [decide_eq_true hb, decide_eq_true ha]
      rfl
    · rw [decide_eq_false hb]
      rfl
  have e2 : (K r A).filter (fun v => decide (S (K r A) B v)) = (K r A).filter fun v => decide (S r B v) := by
    refine List.filter_congr fun v hv => decide_eq_decide.mpr ⟨?_, ?_⟩
    · rintro ⟨s, hs, es⟩
      refine ⟨s, hs, ?_⟩
      rcases T s (h s hs) with q | ⟨q, _⟩
      · rw [← q]; exact es
      · rw [q] at es; cases es
    · rintro ⟨s, hs, es⟩
      exact ⟨s, hs, see_part a F.sub es hv⟩
  show ((K r A).filter _).dropWhile no = (r.filter _).dropWhile no
  rw [e2, e1]
  conv => rhs; rw [e]
  rw [List.filter_append, dropWhile_skip fun n hn => h1 n (List.mem_filter.mp hn).1]
theorem see_last {r : List Ver} {b : Int} (h : ∀ v ∈ r, v.1 ≤ b) : see r b = r.getLast? := by
  cases hr : r.reverse with
  | nil =>
    have := List.reverse_eq_nil_iff.mp hr
    rw [this]; rfl
  | cons v t =>
    have e : r = t.reverse ++ [v] := by rw [← List.reverse_reverse r, hr, List.reverse_cons]
    rw [e] at h ⊢
    rw [see_snoc, if_pos (h v (by simp)), List.getLast?_append]
    rfl
/-! ### spans -/
def nxt : List Ver → List (Option Int)
  | [] => []
  | [_] => [none]
  | _ :: w :: t => some (w.1 - 1) :: nxt (w :: t)
theorem nxt_len : ∀ r : List Ver, (nxt r).length = r.length
  | [] => rfl
  | [_] => rfl
  | _ :: w :: t => by show (nxt (w :: t)).length + 1 = _; rw [nxt_len (w :: t)]; rfl
theorem nxt_zip : ∀ r : List Ver, r.zip (r.tail.map (fun w => some (w.1 - 1)) ++ [none]) = r.zip (nxt r)
  | [] => rfl
  | [_] => rfl
  | v :: w :: t => by
    have h := nxt_zip (w :: t)
    show (v, some (w.1 - 1)) :: ((w :: t).zip (t.map (fun w => some (w.1 - 1)) ++ [none])) = (v, some (w.1 - 1)) :: (w :: t).zip (nxt (w :: t))
    rw [← h]
    rfl
def leO : Option Int → Int → Bool
  | none, _ => true
  | some k, s => decide (s ≤ k)
def inS (a : Int) (l : Option Int) (s : Int) : Bool := decide (a ≤ s) && leO l s
def seenS (a : Int) (l : Option Int) (st : List Int) : Bool := l.isNone || st.any fun s => inS a l s
theorem zip_seen {b : Int} {st : List Int} : ∀ {r : List Ver}, Asc r → (∀ v ∈ r, v.1 ≤ b) → ∀ p ∈ r.zip (nxt r), (seenS p.1.1 p.2 st = true ↔ S r (st ++ [b]) p.1)
  | [], _, _, _, hp => by cases hp
  | [v], _, hb, p, hp => by
    have e : p = (v, none) := by simpa [nxt] using hp
    subst e
    refine ⟨fun _ => ⟨b, by simp, ?_⟩, fun _ => rfl⟩
    show (if v.1 ≤ b then some v else none) = some v
    rw [if_pos (hb v List.mem_cons_self)]
  | v :: w :: t, a, hb, p, hp => by
    obtain ⟨a1, a2⟩ := List.pairwise_cons.mp a
    have hp' : p = (v, some (w.1 - 1)) ∨ p ∈ (w :: t).zip (nxt (w :: t)) := by
      show p = _ ∨ _
      exact List.mem_cons.mp (show p ∈ (v, some (w.1 - 1)) :: (w :: t).zip (nxt (w :: t)) from hp)
    rcases hp' with e | hp'
    · subst e
      show seenS v.1 (some (w.1 - 1)) st = true ↔ _
      have low : ∀ s, see (v :: w :: t) s = some v ↔ v.1 ≤ s ∧ s < w.1 := by
        intro s
        rw [see_iff a]
        constructor
        · rintro ⟨_, h2, h3⟩
          refine ⟨h2, ?_⟩
          by_cases hw : w.1 ≤ s
          · have := h3 w (by simp) hw
            have := a1 w List.mem_cons_self
            omega
          · omega
        · rintro ⟨h1, h2⟩
          refine ⟨List.mem_cons_self, h1, fun u hu hs => ?_⟩
          rcases List.mem_cons.mp hu with e | e
          · rw [e]; exact Int.le_refl _
          · rcases List.mem_cons.mp e with e | e
            · rw [e] at hs; omega
            · have := (List.pairwise_cons.mp a2).1 u e
              omega
      have hbw := hb w (by simp)
      constructor
      · intro h
        obtain ⟨s, hs, h⟩ := List.any_eq_true.mp (show st.any (fun s => inS v.1 (some (w.1 - 1)) s) = true from h)
        have h' : (decide (v.1 ≤ s) && decide (s ≤ w.1 - 1)) = true := h
        rw [Bool.and_eq_true, decide_eq_true_eq, decide_eq_true_eq] at h'
        exact ⟨s, List.mem_append_left _ hs, (low s).mpr ⟨h'.1, by omega⟩⟩
      · rintro ⟨s, hs, h⟩
        have h2 := (low s).mp h
        rcases List.mem_append.mp hs with hs | hs
        · refine List.any_eq_true.mpr ⟨s, hs, ?_⟩
          show (decide (v.1 ≤ s) && decide (s ≤ w.1 - 1)) = true
          rw [decide_eq_true h2.1, decide_eq_true (by omega)]
          rfl
        · rw [List.mem_singleton.mp hs] at h2
          omega
    · have ih := zip_seen (b := b) (st := st) a2 (fun u hu => hb u (List.mem_cons_of_mem _ hu)) p hp'
      have hm : p.1 ∈ w :: t := (List.of_mem_zip (show (p.1, p.2) ∈ _ from hp')).1
      rw [ih]
      have key : ∀ s, see (v :: w :: t) s = some p.1 ↔ see (w :: t) s = some p.1 := by
        intro s
        rw [see_iff a, see_iff a2]
        constructor
        · rintro ⟨_, h2, h3⟩
          exact ⟨hm, h2, fun u hu => h3 u (List.mem_cons_of_mem _ hu)⟩
        · rintro ⟨_, h2, h3⟩
          refine ⟨List.mem_cons_of_mem _ hm, h2, fun u hu hs => ?_⟩
          rcases List.mem_cons.mp hu with e | e
          · rw [e]; exact Int.le_of_lt (a1 _ hm)
          · exact h3 u e hs
      constructor
      · rintro ⟨s, hs, e⟩
        exact ⟨s, hs, (key s).mpr e⟩
      · rintro ⟨s, hs, e⟩
        exact ⟨s, hs, (key s).mp e⟩
/-- kept, as the program reckons it -/
def keptL (ps : List (Ver × Option Int)) (st : List Int) : List Ver := ((ps.filter fun p => seenS p.1.1 p.2 st).map (·.1)).dropWhile no
theorem keptL_snoc (ps : List (Ver × Option Int)) (p : Ver × Option Int) (st : List Int) : keptL (ps ++ [p]) st = if seenS p.1.1 p.2 st && (!isNo p.1.2 || !(keptL ps st).isEmpty) then keptL ps st ++ [p.1] else keptL ps st := by
  unfold keptL
  rw [List.filter_append, List.map_append]
  cases hs : seenS p.1.1 p.2 st with
  | false =>
    have e1 : [p].filter (fun p => seenS p.1.1 p.2 st) = [] := by simp [hs]
    rw [e1]
    simp
  | true =>
    have e1 : [p].filter (fun p => seenS p.1.1 p.2 st) = [p] := by simp [hs]
    rw [e1, List.map_cons, List.map_nil, dropWhile_snoc]
    have e : no p.1 = isNo p.1.2 := rfl
    rw [e]
    cases hd : ((ps.filter fun p => seenS p.1.1 p.2 st).map (·.1)).dropWhile no with
    | nil => cases hn : isNo p.1.2 <;> rfl
    | cons t r => cases hn : isNo p.1.2 <;> rfl
theorem kept_eq {r : List Ver} (a : Asc r) {b : Int} (hb : ∀ v ∈ r, v.1 ≤ b) (st : List Int) : keptL (r.zip (nxt r)) st = K r (st ++ [b]) := by
  unfold keptL K
  congr 1
  have h := zip_seen (st := st) a hb
  have e : (r.zip (nxt r)).filter (fun p => seenS p.1.1 p.2 st) = (r.zip (nxt r)).filter fun p => decide (S r (st ++ [b]) p.1) := List.filter_congr fun p hp => by
    rw [Bool.eq_iff_iff, decide_eq_true_eq]
    exact h p hp
  rw [e]
  have e2 := List.filter_map (f := fun p : Ver × Option Int => p.1) (p := fun v => decide (S r (st ++ [b]) v)) (l := r.zip (nxt r))
  rw [List.map_fst_zip (by rw [nxt_len]; exact Nat.le_refl _)] at e2
  exact e2.symm
/-! ### all parts -/
def parts (r : List Ver) : List (List Ver) := r.foldl (fun f v => f ++ f.map (· ++ [v])) [[]]
theorem parts_snoc (r : List Ver) (v : Ver) : parts (r ++ [v]) = parts r ++ (parts r).map (· ++ [v]) := by unfold parts; rw [List.foldl_append]; rfl
theorem parts_len (r : List Ver) : (parts r).length = 2 ^ r.length := by
  rw [← List.reverse_reverse r]
  generalize r.reverse = s
  induction s with
  | nil => rfl
  | cons v s ih => rw [List.reverse_cons, parts_snoc, List.length_append, List.length_map, ih, List.length_append, List.length_singleton, Nat.pow_succ]; omega
theorem parts_mem (r p : List Ver) : p ∈ parts r ↔ p.Sublist r := by
  have key : ∀ s p : List Ver, p ∈ parts s.reverse ↔ p.Sublist s.reverse := by
    intro s
    induction s with
    | nil =>
      intro p
      constructor
      · intro h
        have : p = [] := by simpa [parts] using h
        rw [this]; exact List.Sublist.refl _
      · intro h
        have : p = [] := List.eq_nil_of_sublist_nil h
        rw [this]; simp [parts]
    | cons v s ih =>
      intro p
      rw [List.reverse_cons, parts_snoc, List.mem_append, List.mem_map, List.sublist_append_iff]
      constructor
      · rintro (h | ⟨q, h, rfl⟩)
        · exact ⟨p, [], (List.append_nil p).symm, (ih p).mp h, List.nil_sublist _⟩
        · exact ⟨q, [v], rfl, (ih q).mp h, List.Sublist.refl _⟩
      · rintro ⟨l, m, rfl, h1, h2⟩
        rcases List.sublist_cons_iff.mp h2 with h | ⟨k, rfl, h⟩
        · rw [List.eq_nil_of_sublist_nil h, List.append_nil]
          exact .inl ((ih l).mpr h1)
        · rw [List.eq_nil_of_sublist_nil h]
          exact .inr ⟨l, (ih l).mpr h1, rfl⟩
  have := key r.reverse p
  rw [List.reverse_reverse] at this
  exact this
end K19

namespace K19
open PySem PySem.Spec
open PyProof.Rows L2 DL
local macro_rules | `(tactic| walk_at "rep") => `(tactic| first | assumption | exact Da.int _ | exact Da.bl _ | exact Da.str _ | exact Da.non | exact Sub.da (by assumption) (by assumption) | exact Sub.da (Tr.jj (by assumption)) (by assumption))
local macro_rules | `(tactic| walk_at "arith") => `(tactic| first | assumption | omega | decide | exact cmul_small (by omega) (by omega) | exact cdiv_small (by omega) (by omega))
local macro_rules | `(tactic| walk_at "shp") => `(tactic| first | exact sh_int _ | exact sh_tup _ | exact sh_list _ | assumption)
local macro_rules | `(tactic| walk_at "od") => `(tactic| first
  | with_reducible exact od_plus
  | with_reducible exact od_sub
  | ((with_reducible refine' od_mul ?h1); walk_at "arith")
  | ((with_reducible refine' od_mod ?h1); walk_at "arith")
  | ((with_reducible refine' od_fdiv ?h1); walk_at "arith")
  | ((with_reducible refine' od_pow ?h1); exact ⟨by decide, by decide, by decide⟩)
  | with_reducible exact od_lt | with_reducible exact od_le | with_reducible exact od_gt | with_reducible exact od_ge
  | ((with_reducible refine' od_plusT ?h1); walk_at "arith")
  | ((with_reducible refine' od_plusL ?h1); walk_at "arith")
  | ((with_reducible refine' od_plusS ?h1); walk_at "arith")
  | with_reducible exact od_isN | with_reducible exact od_notN
  | ((with_reducible refine od_eq ?_ ?_) <;> walk_at "shp")
  | ((with_reducible refine od_ne ?_ ?_) <;> walk_at "shp")
  | ((with_reducible refine od_inL ?_ ?_) <;> walk_at "shp")
  | ((with_reducible refine od_ixL ?_); assumption)
  | ((with_reducible refine od_ixT ?_); assumption))
local macro_rules | `(tactic| walk_at "ea") => `(tactic| first | with_reducible exact ea_nil | ((with_reducible refine' ea_consD ?h1 ?h2); (case h1 => walk_at "ev"); (case h2 => walk_at "ea")))
local macro_rules | `(tactic| walk_at "eo") => `(tactic| first | with_reducible exact eo_none | ((with_reducible refine' eo_at ?h1); (case h1 => walk_at "ev")))
local macro_rules | `(tactic| walk_at "cd") => `(tactic| first
  | with_reducible exact cd_lenL | with_reducible exact cd_lenT | with_reducible exact cd_tupL | with_reducible exact cd_tupT | with_reducible exact cd_lstL | with_reducible exact cd_lstT | with_reducible exact cd_abs | with_reducible exact cd_int)
local macro_rules | `(tactic| walk_at "ev") => `(tactic| first
  | with_reducible exact ev_int | with_reducible exact ev_bl | with_reducible exact ev_str | with_reducible exact ev_non
  | ((with_reducible refine' ev_var ?h1 ?h2); (case h1 => exact rfl); (case h2 => walk_at "rep"))
  | ((with_reducible refine' ev_opD ?h1 ?h2 ?h3); (case h1 => walk_at "ev"); (case h2 => walk_at "ev"); (case h3 => walk_at "od"))
  | ((with_reducible refine' ev_tupD ?h1); (case h1 => walk_at "ea"))
  | ((with_reducible refine' ev_lstD ?h1); (case h1 => walk_at "ea"))
  | ((with_reducible refine' ev_revL ?h1); (case h1 => walk_at "ev"))
  | ((with_reducible refine' ev_slD ?h1 ?h2 ?h3 ?h4); (case h1 => walk_at "ev"); (case h2 => walk_at "eo"); (case h3 => walk_at "eo"); (case h4 => first | with_reducible exact sd_tup | with_reducible exact sd_list))
  | ((with_reducible refine' ev_cbD ?h1 ?h2); (case h1 => walk_at "ea"); (case h2 => walk_at "cd"))
  | ((with_reducible refine' ev_notV ?h1); (case h1 => walk_at "ev"))
  | assumption)
local macro_rules | `(tactic| walk_at "et") => `(tactic| first
  | ((with_reducible refine' et_testD ?h1); (case h1 => walk_at "ev"))
  | ((with_reducible refine' et_BD ?h1); (case h1 => walk_at "ev"))
  | ((with_reducible refine' et_notD ?h1); (case h1 => walk_at "et"))
  | ((with_reducible refine' et_andD ?h1 ?h2); (case h1 => walk_at "et"); (case h2 => intro _; walk_at "et"))
  | ((with_reducible refine' et_orD ?h1 ?h2); (case h1 => walk_at "et"); (case h2 => intro _; walk_at "et"))
  | assumption)
def top (i : Nat) : Stmt := PySem.Challenge.pw_spelledways_k19_whole_what_has_to_stay_o.main.body.getD i (.Pass ⟨0, 0, 0, 0⟩)
abbrev FnP (K : PySem.W.Frag) (x : Str) (st : Stmt) (f : Addr) (fd : FuncData) : Prop := FunD K x x (defArgs st) (defBody st) (defScope st) [] [] f fd
structure Fx (mg : Str → Option Value) : Prop where
  b_len : mg "len" = none
  b_tuple : mg "tuple" = none
  b_list : mg "list" = none
  b_dict : mg "dict" = none
  b_range : mg "range" = none
  b_int : mg "int" = none
  b_abs : mg "abs" = none
  b_repr : mg "repr" = none
  b_zip : mg "zip" = none
  b_any : mg "any" = none
  b_sorted : mg "sorted" = none
  b_isinstance : mg "isinstance" = none
/-! ### rows as data -/
def vD (v : Ver) : PyData := .tuple [.int v.1, v.2]
def rD (r : List Ver) : PyData := .tuple (r.map vD)
def oI : Option Int → PyData
  | none => .none
  | some k => .int k
def oV : Option Ver → PyData
  | none => .none
  | some v => vD v
def spD (p : Ver × Option Int) : PyData := .tuple [.int p.1.1, oI p.2]
theorem atI_z {α : Type} {x : α} {xs : List α} : atI (x :: xs) 0 = some x := atI_nat (k := 0) rfl
theorem atI_o {α : Type} {x y : α} {xs : List α} : atI (x :: y :: xs) 1 = some y := atI_nat (k := 1) rfl
section
variable {K : PySem.W.Frag} {M : Md} {σ : L2.St} {J H : Hp} {te : TE}
theorem ev_fst {v : Ver} (h : EvD K M te σ J H (vD v)) : EvD K M (tOp (rIx K) te (tC (.int 0))) σ J H (.int v.1) := ev_opD h ev_int (od_ixT atI_z)
theorem ev_snd {v : Ver} (h : EvD K M te σ J H (vD v)) : EvD K M (tOp (rIx K) te (tC (.int 1))) σ J H v.2 := ev_opD h ev_int (od_ixT atI_o)
end
/-! ### spans, in_span, can_be_seen, kept -/
abbrev s_spans : Stmt := top 1
abbrev N_spans : List Str := ["row", "lasts", "version", "last"]
theorem sc_spans : FnScope N_spans ["row"] (defScope s_spans) := ⟨rfl, rfl, rfl, by decide +kernel, rfl, by decide +kernel, by decide +kernel⟩
def spSpans (K : PySem.W.Frag) : Sp := spF K (fun ds => ∃ r : List Ver, ds = [rD r] ∧ r.length < 1000) (fun ds d => ∀ r : List Ver, ds = [rD r] → d = .tuple ((r.zip (nxt r)).map spD))
theorem vD_inj {u v : Ver} (h : vD u = vD v) : u = v := by
  have e := PyData.tuple.inj h
  obtain ⟨e1, e2⟩ := List.cons.inj e
  obtain ⟨e3, _⟩ := List.cons.inj e2
  exact Prod.ext (PyData.int.inj e1) e3
theorem map_inj {α : Type} {f : α → PyData} (hf : ∀ x y, f x = f y → x = y) : ∀ {xs ys : List α}, xs.map f = ys.map f → xs = ys
  | [], [], _ => rfl
  | [], _ :: _, h => by cases h
  | _ :: _, [], h => by cases h
  | _ :: _, _ :: _, h => by
    obtain ⟨e1, e2⟩ := List.cons.inj h
    rw [hf _ _ e1, map_inj hf e2]
theorem rD_inj {r s : List Ver} (h : rD r = rD s) : r = s := map_inj (fun _ _ => vD_inj) (PyData.tuple.inj h)
theorem args1 {d e : PyData} (h : [d] = [e]) : d = e := (List.cons.inj h).1
theorem args2 {d e d' e' : PyData} (h : [d, d'] = [e, e']) : d = e ∧ d' = e' := ⟨(List.cons.inj h).1, (List.cons.inj (List.cons.inj h).2).1⟩
theorem tup_oD_inj {xs ys : List Int} (h : PyData.tuple (oD xs) = .tuple (oD ys)) : xs = ys := oD_inj (PyData.tuple.inj h)
theorem oI_inj {a b : Option Int} (h : oI a = oI b) : a = b := by
  cases a <;> cases b <;> first | rfl | cases h
  rfl
theorem tail_cut (r : List Ver) : cut (r.map vD) (some 1) none = r.tail.map vD := by
  rw [cut_map, show (1 : Int) = ((1 : Nat) : Int) from rfl, cutA_from, List.drop_one]
section
variable {P : Program} {w : World} {K : PySem.W.Frag} {mg : Str → Option Value} {base : Heap} {f : Addr} {fd : FuncData}
theorem ok_spans (F : FnP K "spans" s_spans f fd) (T : Fx mg) : FnOk P w K mg base CX0 1 f fd ["row"] (spSpans K) := by
  have nd := sc_spans.nd
  refine F.ok sc_spans (fun vs H Q E h => ?_) (fun cdv A outer s H vs Q E hr h => ?_)
  · obtain ⟨J, ds, _, a, ⟨r, rfl, _⟩, _⟩ := h
    exact das_len a
  refine ⟨_, PSs.nox ((pss_cons (ps_set (i := 1) nd rfl (Or.inl rfl) (pe_op op_plus (pe_lc (own := [("version", 2)]) (g := gName 2) rfl nd (pi_tup (pe_slice sl_tupA (pv 0) (po_some pe_int) po_none)) (blkOk_by (own := [("version", 2)]) (N := N_spans) (sc := defScope s_spans) (by decide +kernel)) (fun _ _ _ _ _ => (pg_name (i := 2) nd rfl (Or.inl rfl))) (fun _ _ _ _ _ => pts_nil) (fun _ _ _ _ _ => (pe_op op_sub (xIxK K rfl (pv 2) pe_int) pe_int))) (pe_lst (pa_cons pe_non pa_nil))))
 (pss_one (ps_ret (xT (rTupOf _) cl_tup T.b_tuple (pa_cons (pe_lc (own := [("version", 2), ("last", 3)]) (g := gTup K 2 (gCons (gName 2) (gCons (gName 3) gNil))) rfl nd (pi_zm (by rfl) T.b_zip (pa_cons (pv 0) (pa_cons (pv 1) pa_nil))) (blkOk_by (own := [("version", 2), ("last", 3)]) (N := N_spans) (sc := defScope s_spans) (by decide +kernel)) (fun _ _ _ _ _ => (pg_tup rfl (pgs_cons (pg_name (i := 2) nd rfl (Or.inl rfl)) (pgs_cons (pg_name (i := 3) nd rfl (Or.inl rfl)) pgs_nil)))) (fun _ _ _ _ _ => pts_nil) (fun _ _ _ _ _ => (pe_tup (pa_cons (xIxK K rfl (pv 2) pe_int) (pa_cons (pv 3) pa_nil))))) pa_nil)))))), ?_⟩
  dsimp only [cxOf]
  obtain ⟨J, ds, s0, a, ⟨r, rfl, hl⟩, q⟩ := h
  obtain ⟨v, rfl, av⟩ := das_one a
  have w0 : Wf Md.pure J H := ⟨s0, trivial, nofun⟩
  have lim : 1000 < sizeLine := by decide
  refine s_asgD (K := K) (d := .list (r.tail.map (fun u => .int (u.1 - 1)) ++ [.none])) w0 ?_ fun v1 J1 H1 w1 t1 a1 => ?_
  · refine ev_opD (dx := .list (r.tail.map fun u => .int (u.1 - 1))) (dy := .list [.none]) ?_ (ev_lstD (ea_consD ev_non ea_nil)) (od_plusL ?_)
    · refine ev_eq (ev_lcMap (ds := r.tail.map vD) (f := fun d => match d with | .tuple (.int i :: _) => .int (i - 1) | _ => .none) (ew_tupD ?_) ?_ (fun x => rfl) ?_) ?_
      · refine ev_eq (ev_slD (ev_var rfl av) (eo_at ev_int) eo_none sd_tup) ?_
        rw [tail_cut]
      · rw [List.length_map, List.length_tail]
        omega
      · intro d x J1 H1 hd w1 t1 ax
        obtain ⟨u, _, rfl⟩ := List.mem_map.mp hd
        exact ev_opD (ev_fst (v := u) (ev_var rfl ax)) ev_int od_sub
      · rw [List.map_map]
        rfl
    · rw [List.length_map, List.length_tail]
      show r.length - 1 + 1 ≤ sizeLine
      omega
  dsimp only
  have av1 := t1.jj.da av
  refine s_retD (K := K) (d := .tuple ((r.zip (nxt r)).map spD)) w1 ?_ fun v2 J2 H2 w2 t2 a2 => q v2 _ J2 H2 (t1.trans t2) (fun r' e => ?_) a2
  · refine ev_cbD (ds := [.list ((r.zip (nxt r)).map spD)]) (ea_consD ?_ ea_nil) cd_tupL
    have e0 : r.tail.map (fun u : Ver => PyData.int (u.1 - 1)) ++ [.none] = (r.tail.map (fun w : Ver => some (w.1 - 1)) ++ [none]).map oI := by
      rw [List.map_append, List.map_map]
      rfl
    have ez : zipD (r.map vD) (r.tail.map (fun u : Ver => PyData.int (u.1 - 1)) ++ [.none]) = (r.zip (nxt r)).map fun p => .tuple [vD p.1, oI p.2] := by
      unfold zipD
      rw [e0, List.zip_map, List.map_map, nxt_zip]
      rfl
    refine ev_lc2 (Pw := (· = (r.zip (nxt r)).map fun p => .tuple [vD p.1, oI p.2])) (fun ds i acc => acc = ((r.zip (nxt r)).take i).map spD) ?_ ?_ ?_ (fun _ _ => rfl) (fun x y => rfl) ?_ ?_
    · rw [← ez]
      refine ew_zm (ev_var rfl av1) (ev_var rfl a1) ?_
      rw [List.length_append, List.length_map, List.length_map, List.length_tail, List.length_singleton]
      omega
    · rintro ds rfl
      rw [List.length_map, List.length_zip, nxt_len]
      omega
    · rintro ds rfl d hd
      obtain ⟨p, _, rfl⟩ := List.mem_map.mp hd
      exact ⟨_, _, rfl⟩
    · rintro ds i d e acc x y J3 H3 rfl hi hI w3 t3 ax ay
      refine ⟨(· = true), et_yes, nofun, fun _ => ?_⟩
      rw [List.getElem?_map] at hi
      cases hp : (r.zip (nxt r))[i]? with
      | none => rw [hp] at hi; cases hi
      | some p =>
        rw [hp] at hi
        have hi2 := PyData.tuple.inj (Option.some.inj hi)
        obtain ⟨e1, e2⟩ := List.cons.inj hi2
        obtain ⟨e3, _⟩ := List.cons.inj e2
        subst e1
        subst e3
        refine EvP.mono (ev_tupD (ea_consD (ev_fst (v := p.1) (ev_var rfl ax)) (ea_consD (ev_var rfl ay) ea_nil))) fun d e => ?_
        rw [e, hI, take_snoc hp, List.map_append]
        rfl
    · rintro ds acc rfl hI
      rw [hI, List.length_map, List.take_length]
  · rw [rD_inj (args1 e)]
abbrev s_in_span : Stmt := top 2
abbrev N_in_span : List Str := ["span", "stamp"]
theorem sc_in_span : FnScope N_in_span ["span", "stamp"] (defScope s_in_span) := ⟨rfl, rfl, rfl, by decide +kernel, rfl, by decide +kernel, by decide +kernel⟩
def aL (a : Int) (l : Option Int) : PyData := .tuple [.int a, oI l]
def spIn (K : PySem.W.Frag) : Sp := spF K (fun ds => ∃ a l s, ds = [aL a l, .int s]) (fun ds d => ∀ a l s, ds = [aL a l, .int s] → d = .bool (inS a l s))
theorem aL_inj {a b : Int} {l m : Option Int} (h : aL a l = aL b m) : a = b ∧ l = m := by
  obtain ⟨e1, e2⟩ := List.cons.inj (PyData.tuple.inj h)
  exact ⟨PyData.int.inj e1, oI_inj (List.cons.inj e2).1⟩
theorem ok_in_span (F : FnP K "in_span" s_in_span f fd) (T : Fx mg) : FnOk P w K mg base CX0 1 f fd ["span", "stamp"] (spIn K) := by
  have nd := sc_in_span.nd
  refine F.ok sc_in_span (fun vs H Q E h => ?_) (fun cdv A outer s H vs Q E hr h => ?_)
  · obtain ⟨J, ds, _, a, ⟨_, _, _, rfl⟩, _⟩ := h
    exact das_len a
  refine ⟨_, PSs.nox ((pss_one (ps_ret (pe_and (pe_cmpR op_le (xIx (pv 0) pe_int) (pv 1) (nomark _)) (pe_one (pe_or (pe_cmpR op_isNo (xIx (pv 0) pe_int) pe_non (nomark _)) (pe_one (pe_cmpR op_le (pv 1) (xIx (pv 0) pe_int) (nomark _))))))))), ?_⟩
  dsimp only [cxOf]
  obtain ⟨J, ds, s0, a, ⟨x, l, s, rfl⟩, q⟩ := h
  cases a with
  | cons a1 a2 =>
  obtain ⟨v, rfl, a3⟩ := das_one a2
  rw [da_int a3]
  have w0 : Wf Md.pure J H := ⟨s0, trivial, nofun⟩
  refine s_retD (K := K) (d := .bool (inS x l s)) w0 ?_ fun v2 J2 H2 w2 t2 a2 => q v2 _ J2 H2 t2 (fun b m s' e => ?_) a2
  · refine ev_eq (ev_andV (a := decide (x ≤ s)) (b := .bool (leO l s)) ?_ fun _ => ?_) ?_
    · exact ev_opD (ev_opD (dx := aL x l) (ev_var rfl a1) ev_int (od_ixT atI_z)) (ev_var rfl (.int _)) od_le
    · refine ev_eq (ev_orV (a := isNo (oI l)) (b := match l with | none => .none | some k => .bool (decide (s ≤ k))) ?_ fun hn => ?_) ?_
      · exact ev_opD (ev_opD (dx := aL x l) (ev_var rfl a1) ev_int (od_ixT atI_o)) ev_non od_isN
      · cases l with
        | none => cases hn
        | some k => exact ev_opD (ev_var rfl (.int _)) (ev_opD (dx := aL x (some k)) (ev_var rfl a1) ev_int (od_ixT atI_o)) od_le
      · cases l <;> rfl
    · unfold inS
      cases decide (x ≤ s) <;> rfl
  · obtain ⟨e1, e2⟩ := args2 e
    obtain ⟨e3, e4⟩ := aL_inj e1
    rw [e3, e4, PyData.int.inj e2]
abbrev s_can_be_seen : Stmt := top 4
abbrev N_can_be_seen : List Str := ["span", "stamps", "stamp"]
theorem sc_can_be_seen : FnScope N_can_be_seen ["span", "stamps"] (defScope s_can_be_seen) := ⟨rfl, rfl, rfl, by decide +kernel, rfl, by decide +kernel, by decide +kernel⟩
def spSeen (K : PySem.W.Frag) : Sp := spF K (fun ds => ∃ a l st, ds = [aL a l, .tuple (oD st)] ∧ st.length < 1000) (fun ds d => ∀ a l st, ds = [aL a l, .tuple (oD st)] → d = .bool (seenS a l st))
theorem ok_can_be_seen (F : FnP K "can_be_seen" s_can_be_seen f fd) (T : Fx mg) (C_in_span : Ca P w K mg base CX0 1 "in_span" ["span", "stamp"] (spIn K)) : FnOk P w K mg base CX0 2 f fd ["span", "stamps"] (spSeen K) := by
  have nd := sc_can_be_seen.nd
  refine F.ok sc_can_be_seen (fun vs H Q E h => ?_) (fun cdv A outer s H vs Q E hr h => ?_)
  · obtain ⟨J, ds, _, a, ⟨_, _, _, rfl, _⟩, _⟩ := h
    exact das_len a
  refine ⟨_, PSs.nox ((pss_one (ps_ret (pe_or (pe_cmpR op_isNo (xIx (pv 0) pe_int) pe_non (nomark _)) (pe_one (xB (rAny _) (cr_any rfl) T.b_any (pa_cons (pe_lc (own := [("stamp", 2)]) (g := gName 2) rfl nd (pi_tup (pv 1)) (blkOk_by (own := [("stamp", 2)]) (N := N_can_be_seen) (sc := defScope s_can_be_seen) (by decide +kernel)) (fun _ _ _ _ _ => (pg_name (i := 2) nd rfl (Or.inl rfl))) (fun _ _ _ _ _ => pts_nil) (fun _ _ _ _ _ => (xCall C_in_span (hr.mono (by decide)) pass0 (pa_cons (pv 0) (pa_cons (pv 2) pa_nil))))) pa_nil))))))), ?_⟩
  dsimp only [cxOf]
  obtain ⟨J, ds, s0, a, ⟨x, l, st, rfl, hl⟩, q⟩ := h
  cases a with
  | cons a1 a2 =>
  obtain ⟨v, rfl, a3⟩ := das_one a2
  have w0 : Wf Md.pure J H := ⟨s0, trivial, nofun⟩
  have lim : 1000 < sizeLine := by decide
  refine s_retD (K := K) (d := .bool (seenS x l st)) w0 ?_ fun v2 J2 H2 w2 t2 a2 => q v2 _ J2 H2 t2 (fun b m s' e => ?_) a2
  · refine ev_eq (ev_orV (a := isNo (oI l)) (b := .bool (st.any fun s => inS x l s)) ?_ fun hn => ?_) ?_
    · exact ev_opD (ev_opD (dx := aL x l) (ev_var rfl a1) ev_int (od_ixT atI_o)) ev_non od_isN
    · refine ev_eq (ev_cbD (ds := [.list ((st.map fun s => inS x l s).map PyData.bool)]) (ea_consD ?_ ea_nil) cd_any) ?_
      · refine ev_eq (ev_lcMap (ds := oD st) (f := fun d => match d with | .int s => .bool (inS x l s) | _ => .none) (ew_tupD (ev_var rfl a3)) ?_ (fun x => rfl) ?_) ?_
        · rw [oD_len]; omega
        · intro d y J1 H1 hd w1 t1 ax
          obtain ⟨n, hn⟩ := List.getElem?_of_mem hd
          obtain ⟨s, _, rfl⟩ := oD_at hn
          refine (ev_callD (ds := [aL x l, .int s]) (ea_consD (ev_var rfl (t1.jj.da a1)) (ea_consD (ev_var rfl ax) ea_nil)) (spF_D ⟨x, l, s, rfl⟩)).mono fun d e => e x l s rfl
        · unfold oD
          rw [List.map_map, List.map_map]
          rfl
      · rw [List.any_map]
        rfl
    · unfold seenS
      cases l <;> rfl
  · obtain ⟨e1, e2⟩ := args2 e
    obtain ⟨e3, e4⟩ := aL_inj e1
    rw [e3, e4, tup_oD_inj e2]
abbrev s_kept : Stmt := top 5
abbrev N_kept : List Str := ["row", "stamps", "staying", "version", "span"]
theorem sc_kept : FnScope N_kept ["row", "stamps"] (defScope s_kept) := ⟨rfl, rfl, rfl, by decide +kernel, rfl, by decide +kernel, by decide +kernel⟩
def keptM (r : List Ver) (st : List Int) : List Ver := keptL (r.zip (nxt r)) st
def spKept (K : PySem.W.Frag) : Sp := spF K (fun ds => ∃ r st, ds = [rD r, .tuple (oD st)] ∧ r.length < 1000 ∧ st.length < 1000) (fun ds d => ∀ r st, ds = [rD r, .tuple (oD st)] → d = rD (keptM r st))
theorem keptL_len (ps : List (Ver × Option Int)) (st : List Int) : (keptL ps st).length ≤ ps.length := by
  unfold keptL
  refine Nat.le_trans (List.dropWhile_sublist _).length_le ?_
  rw [List.length_map]
  exact List.length_filter_le _ _
theorem ok_kept (F : FnP K "kept" s_kept f fd) (T : Fx mg) (C_spans : Ca P w K mg base CX0 1 "spans" ["row"] (spSpans K)) (C_can_be_seen : Ca P w K mg base CX0 2 "can_be_seen" ["span", "stamps"] (spSeen K)) : FnOk P w K mg base CX0 3 f fd ["row", "stamps"] (spKept K) := by
  have nd := sc_kept.nd
  refine F.ok sc_kept (fun vs H Q E h => ?_) (fun cdv A outer s H vs Q E hr h => ?_)
  · obtain ⟨J, ds, _, a, ⟨_, _, rfl, _⟩, _⟩ := h
    exact das_len a
  refine ⟨_, PSs.nox ((pss_cons (ps_set (i := 2) nd rfl (Or.inl rfl) (pe_lst pa_nil))
 (pss_cons (ps_for PassesOwn.never rfl (RZ.pi_zipA (by rfl) T.b_zip (pa_cons (pv 0) (pa_cons (xCall C_spans (hr.mono (by decide)) pass0 (pa_cons (pv 0) pa_nil)) pa_nil))) (pg_tup rfl (pgs_cons (pg_name (i := 3) nd rfl (Or.inl rfl)) (pgs_cons (pg_name (i := 4) nd rfl (Or.inl rfl)) pgs_nil)))
 (pss_one (ps_if (PW.pt (pw_and (pt_val (xCall C_can_be_seen (hr.mono (by decide)) pass0 (pa_cons (pv 4) (pa_cons (pv 1) pa_nil)))) (pw_and1 (PW.pt (pw_or (pt_cmpR op_notNo (xIx (pv 3) pe_int) pe_non (nomark _)) (pw_or1 (xTruth (pv 2)))))))) (pss_one (ps_expr (pe_bm PySem.F.plainAttrs_list PySem.F.slot_list_append PySem.F.type_list_append mt_append (pv 2) (pa_cons (pv 3) pa_nil))))
 pss_nil)))
 (pss_one (ps_ret (xT (rTupOf _) cl_tup T.b_tuple (pa_cons (pv 2) pa_nil))))))), ?_⟩
  dsimp only [cxOf]
  obtain ⟨J, ds, s0, a, ⟨r, st, rfl, hl, hl2⟩, q⟩ := h
  cases a with
  | cons a1 a2 =>
  obtain ⟨v, rfl, a3⟩ := das_one a2
  rename_i v0
  have w0 : Wf Md.pure J H := ⟨s0, trivial, nofun⟩
  have lim : 1000 < sizeLine := by decide
  refine s_cell w0 fun p hp w1 t1 => ?_
  dsimp only
  have jp : J p = none := s0.back hp
  have nf : ¬ (Md.pure).fp p := w0.nofp hp
  have lz : (r.zip (nxt r)).length = r.length := by rw [List.length_zip, nxt_len]; omega
  have ez : zipD (r.map vD) ((r.zip (nxt r)).map spD) = (r.zip (nxt r)).map fun p => .tuple [vD p.1, spD p] := by
    unfold zipD
    have e : r.map vD = (r.zip (nxt r)).map fun p => vD p.1 := by
      have h := List.map_fst_zip (l₁ := r) (l₂ := nxt r) (by rw [nxt_len]; exact Nat.le_refl _)
      conv => lhs; rw [← h]
      rw [List.map_map]
      rfl
    rw [e]
    generalize r.zip (nxt r) = z
    induction z with
    | nil => rfl
    | cons p z ih => rw [List.map_cons, List.map_cons, List.zip_cons_cons, List.map_cons, List.map_cons, ih]
  refine s_for2 (Pw := (· = (r.zip (nxt r)).map fun p => .tuple [vD p.1, spD p])) (fun _ i σ' J' H' => (J' p = none ∧ DL.Sub J' H') ∧ ∃ ys o3 o4, H' p = some (.lst ys) ∧ Das K J' ys ((keptL ((r.zip (nxt r)).take i) st).map vD) ∧ σ' = [some v0, some v, some (.ref p), o3, o4]) w0 t1 ?_ ?_ ?_ ?_ ?_ ?_
  · rw [← ez]
    refine ew_zt (ev_var rfl a1) ((ev_callD (ds := [rD r]) (ea_consD (ev_var rfl a1) ea_nil) (spF_D ⟨r, rfl, hl⟩)).mono fun d e => e r rfl) ?_
    rw [List.length_map, List.length_map, lz]
    exact Nat.le_refl _
  · rintro ds rfl d hd
    obtain ⟨p, _, rfl⟩ := List.mem_map.mp hd
    exact ⟨_, _, rfl⟩
  · rintro ds J2 H2 rfl w2 t2
    exact ⟨⟨t2.cellj upd_same jp, w2.jh⟩, [], none, none, t2.keep p _ nf upd_same, .nil, rfl⟩
  · rintro ds i σ' J' H' X xs ⟨⟨h1, hs⟩, ys, o3, o4, h2, h3, h4⟩ hT
    have ne := ne_of_none h2 hT
    exact ⟨⟨by rw [upd_ne ne]; exact h1, hs.both⟩, ys, o3, o4, by rw [upd_ne ne]; exact h2, (DL.Sub.new (hs.back hT)).das h3, h4⟩
  · rintro ds i d e x y σ' J2 J' H' rfl hi w' t' s1 s2 ⟨⟨j1, _⟩, ys, o3, o4, h1, hy, rfl⟩ ax ay
    rw [List.getElem?_map] at hi
    cases hp2 : (r.zip (nxt r))[i]? with
    | none => rw [hp2] at hi; cases hi
    | some z =>
    rw [hp2] at hi
    have hi2 := PyData.tuple.inj (Option.some.inj hi)
    obtain ⟨e1, e2⟩ := List.cons.inj hi2
    obtain ⟨e3, _⟩ := List.cons.inj e2
    subst e1
    subst e3
    have az : Da K J' y (aL z.1.1 z.2) := ay
    have a3' := (s1.trans s2).da a3
    have hk := keptL_snoc ((r.zip (nxt r)).take i) z st
    rw [← take_snoc hp2] at hk
    refine s_ifD (b := seenS z.1.1 z.2 st && (!isNo z.1.2 || !(keptL ((r.zip (nxt r)).take i) st).isEmpty)) w' ?_ (fun hb J3 H3 w3 t3 => ?_) (fun hb J3 H3 w3 t3 => ?_)
    · refine et_andD (et_BD ((ev_callD (ds := [aL z.1.1 z.2, .tuple (oD st)]) (ea_consD (ev_var rfl az) (ea_consD (ev_var rfl a3') ea_nil)) (spF_D ⟨z.1.1, z.2, st, rfl, hl2⟩)).mono fun d e => e _ _ _ rfl)) fun _ => et_orD (et_testD (K := K) (ev_opD (ev_snd (v := z.1) (ev_var rfl ax)) ev_non od_notN)) fun _ => ?_
      refine et_eq (et_full rfl h1 nf) ?_
      have := das_empty hy
      rw [this, List.isEmpty_map]
    · rw [hb, if_pos rfl] at hk
      dsimp only
      refine s_app (K := K) (P := (· = vD z.1)) w0 (t'.trans t3) hp (t3.cellj h1 j1) rfl (t3.keep p _ nf h1) ?_ (ev_var rfl (t3.jj.da ax)) ?_
      · have l1 := das_len hy
        rw [List.length_map] at l1
        have l2 := keptL_len ((r.zip (nxt r)).take i) st
        rw [List.length_take] at l2
        omega
      · rintro v4 d4 J4 H4 w4 t4 s4 j4 e4 _ _ rfl a4
        refine ⟨J4, w4, t4, (s2.trans t3.jj).trans s4, ⟨j4, w4.jh⟩, ys ++ [v4], some x, some y, e4, ?_, rfl⟩
        rw [hk, List.map_append]
        exact das_app (s4.das (t3.jj.das hy)) (.cons a4 .nil)
    · rw [hb, if_neg Bool.false_ne_true] at hk
      refine s_next ?_
      refine ⟨J3, w3, t'.trans t3, s2.trans t3.jj, ⟨t3.cellj h1 j1, w3.jh⟩, ys, some x, some y, t3.keep p _ nf h1, ?_, rfl⟩
      rw [hk]
      exact t3.jj.das hy
  · rintro ds σ' J' H' rfl w' t' s1 ⟨⟨j1, _⟩, ys, o3, o4, h1, hy, rfl⟩
    rw [List.length_map, List.take_length] at hy
    dsimp only
    have t4 := t'.ice hp j1 h1
    have w4 := t4.wf w0
    have sj : Sub J' (upd J' p (.lst ys)) := .new j1
    have al : Da K (upd J' p (.lst ys)) (.ref p) (.list ((keptM r st).map vD)) := .lst upd_same (sj.das hy)
    refine s_retD (K := K) (d := rD (keptM r st)) w4 ?_ fun v5 J5 H5 w5 t5 a5 => q v5 _ J5 H5 (t4.trans t5) (fun r' st' e => ?_) a5
    · exact ev_cbD (ea_consD (ev_var rfl al) ea_nil) cd_tupL
    · obtain ⟨e1, e2⟩ := args2 e
      rw [rD_inj e1, tup_oD_inj e2]
end
end K19

namespace K19
open PySem PySem.Spec
open PyProof.Rows L2 DL
open Classical
local macro_rules | `(tactic| walk_at "rep") => `(tactic| first | assumption | exact Da.int _ | exact Da.bl _ | exact Da.str _ | exact Da.non | exact Sub.da (by assumption) (by assumption) | exact Sub.da (Tr.jj (by assumption)) (by assumption))
local macro_rules | `(tactic| walk_at "arith") => `(tactic| first | assumption | omega | decide | exact cmul_small (by omega) (by omega) | exact cdiv_small (by omega) (by omega))
local macro_rules | `(tactic| walk_at "shp") => `(tactic| first | exact sh_int _ | exact sh_tup _ | exact sh_list _ | assumption)
local macro_rules | `(tactic| walk_at "od") => `(tactic| first
  | with_reducible exact od_plus
  | with_reducible exact od_sub
  | ((with_reducible refine' od_mul ?h1); walk_at "arith")
  | ((with_reducible refine' od_mod ?h1); walk_at "arith")
  | ((with_reducible refine' od_fdiv ?h1); walk_at "arith")
  | ((with_reducible refine' od_pow ?h1); exact ⟨by decide, by decide, by decide⟩)
  | with_reducible exact od_lt | with_reducible exact od_le | with_reducible exact od_gt | with_reducible exact od_ge
  | ((with_reducible refine' od_plusT ?h1); walk_at "arith")
  | ((with_reducible refine' od_plusL ?h1); walk_at "arith")
  | ((with_reducible refine' od_plusS ?h1); walk_at "arith")
  | with_reducible exact od_isN | with_reducible exact od_notN
  | ((with_reducible refine od_eq ?_ ?_) <;> walk_at "shp")
  | ((with_reducible refine od_ne ?_ ?_) <;> walk_at "shp")
  | ((with_reducible refine od_inL ?_ ?_) <;> walk_at "shp")
  | ((with_reducible refine od_ixL ?_); assumption)
  | ((with_reducible refine od_ixT ?_); assumption))
local macro_rules | `(tactic| walk_at "ea") => `(tactic| first | with_reducible exact ea_nil | ((with_reducible refine' ea_consD ?h1 ?h2); (case h1 => walk_at "ev"); (case h2 => walk_at "ea")))
local macro_rules | `(tactic| walk_at "eo") => `(tactic| first | with_reducible exact eo_none | ((with_reducible refine' eo_at ?h1); (case h1 => walk_at "ev")))
local macro_rules | `(tactic| walk_at "cd") => `(tactic| first
  | with_reducible exact cd_lenL | with_reducible exact cd_lenT | with_reducible exact cd_tupL | with_reducible exact cd_tupT | with_reducible exact cd_lstL | with_reducible exact cd_lstT | with_reducible exact cd_abs | with_reducible exact cd_int)
local macro_rules | `(tactic| walk_at "ev") => `(tactic| first
  | with_reducible exact ev_int | with_reducible exact ev_bl | with_reducible exact ev_str | with_reducible exact ev_non
  | ((with_reducible refine' ev_var ?h1 ?h2); (case h1 => exact rfl); (case h2 => walk_at "rep"))
  | ((with_reducible refine' ev_opD ?h1 ?h2 ?h3); (case h1 => walk_at "ev"); (case h2 => walk_at "ev"); (case h3 => walk_at "od"))
  | ((with_reducible refine' ev_tupD ?h1); (case h1 => walk_at "ea"))
  | ((with_reducible refine' ev_lstD ?h1); (case h1 => walk_at "ea"))
  | ((with_reducible refine' ev_revL ?h1); (case h1 => walk_at "ev"))
  | ((with_reducible refine' ev_slD ?h1 ?h2 ?h3 ?h4); (case h1 => walk_at "ev"); (case h2 => walk_at "eo"); (case h3 => walk_at "eo"); (case h4 => first | with_reducible exact sd_tup | with_reducible exact sd_list))
  | ((with_reducible refine' ev_cbD ?h1 ?h2); (case h1 => walk_at "ea"); (case h2 => walk_at "cd"))
  | ((with_reducible refine' ev_notV ?h1); (case h1 => walk_at "ev"))
  | assumption)
local macro_rules | `(tactic| walk_at "et") => `(tactic| first
  | ((with_reducible refine' et_testD ?h1); (case h1 => walk_at "ev"))
  | ((with_reducible refine' et_BD ?h1); (case h1 => walk_at "ev"))
  | ((with_reducible refine' et_notD ?h1); (case h1 => walk_at "et"))
  | ((with_reducible refine' et_andD ?h1 ?h2); (case h1 => walk_at "et"); (case h2 => intro _; walk_at "et"))
  | ((with_reducible refine' et_orD ?h1 ?h2); (case h1 => walk_at "et"); (case h2 => intro _; walk_at "et"))
  | assumption)
/-! ### what rows look like: they may be compared and told -/
structure Sh (d : PyData) (n w : Nat) : Prop where
  lay : d.canLay0 = true
  dep : d.depth ≤ n
  sho : d.showable = true
  lea : d.leavesShort 20 = true
  wei : d.weight ≤ w
theorem Sh.shaped {d : PyData} {n w : Nat} (h : Sh d n w) (hn : n ≤ 64) : SeqAt.shaped d = true := by
  unfold SeqAt.shaped
  rw [h.lay, decide_eq_true (Nat.le_trans h.dep hn)]
  rfl
theorem Sh.refl {d : PyData} {n w : Nat} (h : Sh d n w) : PyData.eqv d d = true := SeqAt.eqv_refl _ h.lay
theorem Sh.tells {d : PyData} {n w : Nat} (h : Sh d n w) (hn : n ≤ 60) (hw : w ≤ 600000) : d.showable = true ∧ d.shown.length ≤ sizeLine ∧ d.depth ≤ 60 := by
  refine ⟨h.sho, ?_, Nat.le_trans h.dep hn⟩
  have h1 := PyData.shown_le 20 (by decide) d h.lea
  have h2 := h.wei
  have e : (sizeLine : Nat) = 16777216 := sizeLine_eq
  rw [e]
  omega
structure Shs (ds : List PyData) (n w : Nat) : Prop where
  lay : PyData.canLayAll0 ds = true
  dep : PyData.depthAll ds ≤ n
  sho : PyData.showableAll ds = true
  lea : PyData.leavesShortAll 20 ds = true
  wei : PyData.weightAll ds ≤ w * ds.length
theorem shs_of {n w : Nat} : ∀ {ds : List PyData}, (∀ d ∈ ds, Sh d n w) → Shs ds n (w + 1)
  | [], _ => ⟨rfl, Nat.zero_le _, rfl, rfl, Nat.zero_le _⟩
  | d :: ds, h => by
    have a := h d List.mem_cons_self
    have b := shs_of fun e he => h e (List.mem_cons_of_mem _ he)
    refine ⟨?_, ?_, ?_, ?_, ?_⟩
    · show (d.canLay0 && PyData.canLayAll0 ds) = true
      rw [a.lay, b.lay]; rfl
    · show max d.depth (PyData.depthAll ds) ≤ n
      exact Nat.max_le.mpr ⟨a.dep, b.dep⟩
    · show (d.showable && PyData.showableAll ds) = true
      rw [a.sho, b.sho]; rfl
    · show (d.leavesShort 20 && PyData.leavesShortAll 20 ds) = true
      rw [a.lea, b.lea]; rfl
    · show d.weight + 1 + PyData.weightAll ds ≤ (w + 1) * (ds.length + 1)
      have := a.wei
      have := b.wei
      rw [Nat.mul_succ]
      omega
theorem Shs.tup {ds : List PyData} {n w : Nat} (h : Shs ds n w) : Sh (.tuple ds) (n + 1) (w * ds.length) := ⟨h.lay, Nat.succ_le_succ h.dep, h.sho, h.lea, h.wei⟩
theorem Shs.lst {ds : List PyData} {n w : Nat} (h : Shs ds n w) : Sh (.list ds) (n + 1) (w * ds.length) := ⟨h.lay, Nat.succ_le_succ h.dep, h.sho, h.lea, h.wei⟩
/-- the values that are drawn -/
def Vl (x : PyData) : Prop := x = .none ∨ x = .int 0 ∨ x = .str "a" ∨ x = .str "" ∨ x = .int (10 ^ 18)
theorem sh_vl {x : PyData} (h : Vl x) : Sh x 0 100 := by
  rcases h with rfl | rfl | rfl | rfl | rfl
  · exact ⟨rfl, Nat.le_refl _, rfl, rfl, Nat.zero_le _⟩
  · exact ⟨rfl, Nat.le_refl _, by decide +kernel, by decide +kernel, by decide +kernel⟩
  · exact ⟨by decide +kernel, Nat.le_refl _, rfl, by decide +kernel, by decide +kernel⟩
  · exact ⟨by decide +kernel, Nat.le_refl _, rfl, by decide +kernel, by decide +kernel⟩
  · exact ⟨rfl, Nat.le_refl _, by decide +kernel, by decide +kernel, by decide +kernel⟩
theorem sh_small {i : Int} (h : i.natAbs < 2 ^ 20) : Sh (.int i) 0 100 := by
  have l : i.natAbs.log2 ≤ 19 := log2_le h
  refine ⟨rfl, Nat.le_refl _, decide_eq_true (by omega), decide_eq_true ?_, ?_⟩
  · exact Nat.le_trans (PyData.shown_int_le (Nat.lt_trans h (by decide))) (by decide)
  · show (if i == 0 then 0 else i.natAbs.log2 + 1) ≤ 100
    split <;> omega
structure Gv (v : Ver) : Prop where
  lo : 1 ≤ v.1
  hi : v.1 ≤ 18
  vl : Vl v.2
theorem sh_ver {v : Ver} (h : Gv v) : Sh (vD v) 1 202 := (shs_of (n := 0) (w := 100) (ds := [.int v.1, v.2]) fun d hd => by
  simp only [List.mem_cons, List.not_mem_nil, or_false] at hd
  rcases hd with rfl | rfl
  · exact sh_small (by have := h.lo; have := h.hi; omega)
  · exact sh_vl h.vl).tup
structure Gd (r : List Ver) : Prop where
  asc : Asc r
  all : ∀ v ∈ r, Gv v
  few : r.length ≤ 6
theorem Gd.part {r p : List Ver} (h : Gd r) (s : p.Sublist r) : Gd p := ⟨h.asc.sublist s, fun v hv => h.all v (s.subset hv), Nat.le_trans s.length_le h.few⟩
theorem sh_row {r : List Ver} (h : Gd r) : Sh (rD r) 2 1400 := by
  have a := (shs_of (n := 1) (w := 202) (ds := r.map vD) fun d hd => by
    obtain ⟨v, hv, rfl⟩ := List.mem_map.mp hd
    exact sh_ver (h.all v hv)).tup
  refine ⟨a.lay, a.dep, a.sho, a.lea, Nat.le_trans a.wei ?_⟩
  rw [List.length_map]
  have := h.few
  omega
theorem eqv_ver {r : List Ver} (h : Gd r) {u v : Ver} (hu : u ∈ r) (hv : v ∈ r) : PyData.eqv (vD u) (vD v) = decide (u = v) := by
  by_cases e : u = v
  · rw [e, decide_eq_true rfl]
    exact (sh_ver (h.all v hv)).refl
  · rw [decide_eq_false e]
    have ne : u.1 ≠ v.1 := fun q => e (asc_inj h.asc hu hv q)
    show (PyData.eqv (.int u.1) (.int v.1) && _) = false
    rw [eqv_int, decide_eq_false ne]
    rfl
theorem sh_opt {r : List Ver} (h : Gd r) {o : Option Ver} (ho : ∀ v, o = some v → v ∈ r) : Sh (oV o) 1 202 := by
  cases o with
  | none => exact ⟨rfl, Nat.zero_le _, rfl, rfl, Nat.zero_le _⟩
  | some v => exact sh_ver (h.all v (ho v rfl))
theorem eqv_opt {r : List Ver} (h : Gd r) {o q : Option Ver} (ho : ∀ v, o = some v → v ∈ r) (hq : ∀ v, q = some v → v ∈ r) : PyData.eqv (oV o) (oV q) = decide (o = q) := by
  cases o with
  | none => cases q with
    | none => rfl
    | some v => rfl
  | some u => cases q with
    | none => rfl
    | some v =>
      show PyData.eqv (vD u) (vD v) = _
      rw [eqv_ver h (ho u rfl) (hq v rfl)]
      exact decide_eq_decide.mpr ⟨fun e => by rw [e], fun e => Option.some.inj e⟩
/-! ### the draws -/
abbrev s__law_deal : Stmt := top 7
abbrev N__law_deal : List Str := ["_law_script", "_law_base", "_law_cells", "_law_blend", "_law_cell"]
theorem sc__law_deal : FnScope N__law_deal ["_law_script", "_law_base"] (defScope s__law_deal) := ⟨rfl, rfl, rfl, by decide +kernel, rfl, by decide +kernel, by decide +kernel⟩
abbrev s__law_draw : Stmt := top 8
abbrev N__law_draw : List Str := ["_law_deal_here", "_law_bound", "_law_rest"]
theorem sc__law_draw : FnScope N__law_draw ["_law_deal_here", "_law_bound"] (defScope s__law_draw) := ⟨rfl, rfl, rfl, by decide +kernel, rfl, by decide +kernel, by decide +kernel⟩
abbrev s__law_pick : Stmt := top 9
abbrev N__law_pick : List Str := ["_law_deal_here", "_law_some"]
theorem sc__law_pick : FnScope N__law_pick ["_law_deal_here", "_law_some"] (defScope s__law_pick) := ⟨rfl, rfl, rfl, by decide +kernel, rfl, by decide +kernel, by decide +kernel⟩
section
variable {P : Program} {w : World} {K : PySem.W.Frag} {mg : Str → Option Value} {base : Heap} {f : Addr} {fd : FuncData}
theorem ok__law_deal (F : FnP K "_law_deal" s__law_deal f fd) (T : Fx mg) : FnOk P w K mg base CX0 1 f fd ["_law_script", "_law_base"] (spHeap K) := by
  have nd := sc__law_deal.nd
  refine F.ok sc__law_deal (fun vs H Q E h => ?_) (fun cdv A outer s H vs Q E hr h => ?_)
  · obtain ⟨a, ns, b, rfl, _⟩ := h
    rfl
  refine ⟨_, PSs.nox ((pss_cons (ps_setLc (i := 2) (own := [("_law_cell", 4)]) (g := gName 4) rfl nd rfl rfl (sw_true rfl rfl rfl (by decide +kernel)) (pi_list (pe_slice sl_list (pv 0) (po_some (pv 1)) (po_some (pe_op op_plus (pv 1) pe_int)))) (blkOk_by (own := [("_law_cell", 4)]) (N := N__law_deal) (sc := defScope s__law_deal) (by decide +kernel)) (fun _ _ _ _ _ => (pg_name (i := 4) nd rfl (Or.inl rfl))) (fun _ _ _ _ _ => pts_nil) (fun _ _ _ _ _ => (xB (rAbs) cl_abs T.b_abs (pa_cons (pv 4) pa_nil))))
 (pss_cons (ps_set (i := 3) nd rfl (Or.inl rfl) (pe_op op_plus pe_int (pe_op op_mulW pe_int (pv 1))))
 (pss_cons (ps_for PassesOwn.never rfl (pi_list (pv 2)) (pg_name (i := 4) nd rfl (Or.inl rfl))
 (pss_one (ps_set (i := 3) nd rfl (Or.inl rfl) (pe_op op_mod (xT (rInt1) cl_int T.b_int (pa_cons (pe_op op_plus (pe_op op_plus (pe_op op_mulW (pv 3) pe_int) (pe_op op_mod (xT (rInt1) cl_int T.b_int (pa_cons (pv 4) pa_nil)) pe_int)) pe_int) pa_nil)) pe_int))))
 (pss_one (ps_ret (pe_lst (pa_cons (pe_revL (pe_lc (own := [("_law_cell", 4)]) (g := gName 4) rfl nd (pi_list (pv 2)) (blkOk_by (own := [("_law_cell", 4)]) (N := N__law_deal) (sc := defScope s__law_deal) (by decide +kernel)) (fun _ _ _ _ _ => (pg_name (i := 4) nd rfl (Or.inl rfl))) (fun _ _ _ _ _ => pts_one (pt_cmpR op_ge (pv 4) (pe_op op_pow pe_int pe_int) (nomark _))) (fun _ _ _ _ _ => (pv 4)))) (pa_cons (pv 3) pa_nil))))))))), ?_⟩
  obtain ⟨a, ns, b, rfl, hS, b0, b1, q⟩ := h
  exact rd_heap2 hS (by omega) (by omega) ⟨b0, b1⟩ (by omega) (by omega) q
theorem ok__law_draw (F : FnP K "_law_draw" s__law_draw f fd) (T : Fx mg) : FnOk P w K mg base CX0 1 f fd ["_law_deal_here", "_law_bound"] (spDr K) := by
  have nd := sc__law_draw.nd
  refine F.ok sc__law_draw (fun vs H Q E h => ?_) (fun cdv A outer s H vs Q E hr h => ?_)
  · obtain ⟨ds, ⟨n, rfl, _⟩, e⟩ := spH_len h
    exact e
  have hu := hr.units
  refine ⟨_, PSs.nox ((pss_cons (ps_while PassesOwn.never (PW.pt (pw_and (pt_cmpR (op_neD hu) (xIx (pv 0) pe_int) (pe_lst pa_nil) (nomark _)) (pw_and1 (pt_cmpR (op_eqD hu) (xIx (xIx (pv 0) pe_int) (pe_un un_neg pe_int)) pe_int (nomark _)))))
 (pss_one (ps_expr (pe_bm0 PySem.F.plainAttrs_list PySem.F.slot_list_pop PySem.F.type_list_pop mt_pop (xIx (pv 0) pe_int)))))
 (pss_cons (ps_if (pt_cmpR (op_neD hu) (xIx (pv 0) pe_int) (pe_lst pa_nil) (nomark _)) (pss_cons (ps_set (i := 2) nd rfl (Or.inl rfl) (pe_bm0 PySem.F.plainAttrs_list PySem.F.slot_list_pop PySem.F.type_list_pop mt_pop (xIx (pv 0) pe_int)))
 (pss_cons (ps_expr (pe_bm PySem.F.plainAttrs_list PySem.F.slot_list_append PySem.F.type_list_append mt_append (xIx (pv 0) pe_int) (pa_cons (pe_op op_fdivW (pv 2) (pv 1)) pa_nil)))
 (pss_one (ps_ret (pe_op op_mod (xT (rInt1) cl_int T.b_int (pa_cons (pv 2) pa_nil)) (pv 1))))))
 pss_nil)
 (pss_cons (ps_asg (pe_op op_mod (xT (rInt1) cl_int T.b_int (pa_cons (pe_op op_plus (pe_op op_mulW (xIx (pv 0) pe_int) pe_int) pe_int) pa_nil)) pe_int) (pg_sub (pv 0) pe_int set_list))
 (pss_one (ps_ret (pe_op op_mod (xT (rInt1) cl_int T.b_int (pa_cons (pe_op op_fdivW (xIx (pv 0) pe_int) pe_int) pa_nil)) (pv 1)))))))), ?_⟩
  have hs : start N__law_draw vs = vs.map some ++ [none] := by
    obtain ⟨ds, ⟨n, rfl, _⟩, e⟩ := spH_len h
    match vs, e with
    | [_, _], _ => rfl
  rw [hs]
  obtain ⟨M, h, g, J, us, ds, rfl, hd, w, a, ⟨n, rfl, n0, n1⟩, q⟩ := h
  obtain ⟨v, rfl, av⟩ := das_one a
  rw [da_int av]
  exact rd_draw2 hd w n0 n1 (by omega) fun i H' w' t i0 i1 => q _ (.int i) J H' w' t (fun m e => by cases e; exact ⟨i, rfl, i0, i1⟩) (.int i)
theorem ok__law_pick (F : FnP K "_law_pick" s__law_pick f fd) (T : Fx mg) (C__law_draw : Ca P w K mg base CX0 1 "_law_draw" ["_law_deal_here", "_law_bound"] (spDr K)) : FnOk P w K mg base CX0 2 f fd ["_law_deal_here", "_law_some"] (spPick K) := by
  have nd := sc__law_pick.nd
  refine F.ok sc__law_pick (fun vs H Q E h => ?_) (fun cdv A outer s H vs Q E hr h => ?_)
  · obtain ⟨ds, ⟨n, rfl, _⟩, e⟩ := spH_len h
    exact e
  refine ⟨_, PSs.nox ((pss_one (ps_ret (xIx (pv 1) (xCall C__law_draw (hr.mono (by decide)) pass0 (pa_cons (pv 0) (pa_cons (xB (rLen _) cl_len T.b_len (pa_cons (pv 1) pa_nil)) pa_nil))))))), ?_⟩
  have hs : start N__law_pick vs = vs.map some := by
    obtain ⟨ds, ⟨n, rfl, _⟩, e⟩ := spH_len h
    match vs, e with
    | [_, _], _ => rfl
  rw [hs]
  exact rd_pick h
end
/-! ### what a stamp sees -/
abbrev s__law_sees : Stmt := top 10
abbrev N__law_sees : List Str := ["_law_row_here", "_law_stamp", "_law_found", "_law_version"]
theorem sc__law_sees : FnScope N__law_sees ["_law_row_here", "_law_stamp"] (defScope s__law_sees) := ⟨rfl, rfl, rfl, by decide +kernel, rfl, by decide +kernel, by decide +kernel⟩
def spSees (K : PySem.W.Frag) : Sp := spF K (fun ds => ∃ (r : List Ver) (s : Int), ds = [rD r, .int s]) (fun ds d => ∀ (r : List Ver) (s : Int), ds = [rD r, .int s] → d = oV (see r s))
section
variable {K : PySem.W.Frag} {M : Md} {σ : L2.St} {J H : Hp} {ta tb : TE} {E : XK}
theorem ev_sees {r : List Ver} {s : Int} (h : EvD K M ta σ J H (rD r)) (g : EvD K M tb σ J H (.int s)) : EvD K M (tCall (spSees K) [] E (tCons ta (tCons tb tNil))) σ J H (oV (see r s)) :=
  (ev_callD (ds := [rD r, .int s]) (ea_consD h (ea_consD g ea_nil)) (spF_D ⟨r, s, rfl⟩)).mono fun d e => e r s rfl
theorem ev_kept {r : List Ver} {st : List Int} (h : EvD K M ta σ J H (rD r)) (g : EvD K M tb σ J H (.tuple (oD st))) (h1 : r.length < 1000) (h2 : st.length < 1000) : EvD K M (tCall (spKept K) [] E (tCons ta (tCons tb tNil))) σ J H (rD (keptM r st)) :=
  (ev_callD (ds := [rD r, .tuple (oD st)]) (ea_consD h (ea_consD g ea_nil)) (spF_D ⟨r, st, rfl, h1, h2⟩)).mono fun d e => e r st rfl
end
section
variable {P : Program} {w : World} {K : PySem.W.Frag} {mg : Str → Option Value} {base : Heap} {f : Addr} {fd : FuncData}
theorem ok__law_sees (F : FnP K "_law_sees" s__law_sees f fd) (T : Fx mg) : FnOk P w K mg base CX0 1 f fd ["_law_row_here", "_law_stamp"] (spSees K) := by
  have nd := sc__law_sees.nd
  refine F.ok sc__law_sees (fun vs H Q E h => ?_) (fun cdv A outer s H vs Q E hr h => ?_)
  · obtain ⟨J, ds, _, a, ⟨_, _, rfl⟩, _⟩ := h
    exact das_len a
  refine ⟨_, PSs.nox ((pss_cons (ps_set (i := 2) nd rfl (Or.inl rfl) pe_non)
 (pss_cons (ps_for PassesOwn.never rfl (pi_tup (pv 0)) (pg_name (i := 3) nd rfl (Or.inl rfl))
 (pss_one (ps_if (pt_cmpR op_le (xIx (pv 3) pe_int) (pv 1) (nomark _)) (pss_one (ps_set (i := 2) nd rfl (Or.inl rfl) (pv 3)))
 pss_nil)))
 (pss_one (ps_ret (pv 2)))))), ?_⟩
  dsimp only [cxOf]
  obtain ⟨J, ds, s0, a, ⟨r, s, rfl⟩, q⟩ := h
  cases a with
  | cons a1 a2 =>
  obtain ⟨v, rfl, a3⟩ := das_one a2
  rename_i v0
  rw [da_int a3]
  have w0 : Wf Md.pure J H := ⟨s0, trivial, nofun⟩
  refine s_asgD (K := K) (d := .none) w0 ev_non fun v1 J1 H1 w1 t1 b1 => ?_
  rw [da_non b1]
  dsimp only
  have a1' := t1.jj.da a1
  refine s_forD (K := K) (r.map vD) (fun i σ' J' H' => DL.Sub J' H' ∧ ∃ u o, Da K J' u (oV (see (r.take i) s)) ∧ σ' = [some v0, some (.int s), some u, o]) w0 t1 (ew_tupD (ev_var rfl a1')) ?_ ?_ ?_ ?_
  · intro J2 H2 w2 t2
    exact ⟨w2.jh, .non, none, .non, rfl⟩
  · rintro i σ' J' H' T xs ⟨sj, u, o, hu, rfl⟩ hT
    exact ⟨sj.both, u, o, (DL.Sub.new (sj.back hT)).da hu, rfl⟩
  · rintro i d x σ' J2 J' H' hi w' t' s1 s2 ⟨sj, u, o, hu, rfl⟩ ax
    rw [List.getElem?_map] at hi
    cases hz : r[i]? with
    | none => rw [hz] at hi; cases hi
    | some z =>
    rw [hz] at hi
    obtain rfl := Option.some.inj hi
    have hk := see_snoc (r.take i) z s
    rw [← take_snoc hz] at hk
    refine s_ifD (b := decide (z.1 ≤ s)) w' ?_ (fun hb J3 H3 w3 t3 => ?_) (fun hb J3 H3 w3 t3 => ?_)
    · exact et_testD (K := K) (ev_opD (ev_fst (v := z) (ev_var rfl ax)) (ev_var rfl (.int _)) od_le)
    · rw [if_pos (of_decide_eq_true hb)] at hk
      refine s_asgD (K := K) (d := vD z) w3 (ev_var rfl (t3.jj.da ax)) fun v4 J4 H4 w4 t4 a4 => ?_
      refine ⟨J4, w4, (t'.trans t3).trans t4, s2.trans (t3.trans t4).jj, w4.jh, v4, some x, ?_, rfl⟩
      rw [hk]
      exact a4
    · rw [if_neg (of_decide_eq_false hb)] at hk
      refine s_next ?_
      refine ⟨J3, w3, t'.trans t3, s2.trans t3.jj, w3.jh, u, some x, ?_, rfl⟩
      rw [hk]
      exact t3.jj.da hu
  · rintro σ' J' H' w' t' s1 ⟨sj, u, o, hu, rfl⟩
    rw [List.length_map, List.take_length] at hu
    dsimp only
    refine s_retD (K := K) (d := oV (see r s)) w' (ev_var rfl hu) fun v5 J5 H5 w5 t5 a5 => q v5 _ J5 H5 (t'.trans t5) (fun r' st' e => ?_) a5
    obtain ⟨e1, e2⟩ := args2 e
    rw [rD_inj e1, PyData.int.inj e2]
end
end K19

namespace K19
open PySem PySem.Spec
open PyProof.Rows L2 DL
open Classical
local macro_rules | `(tactic| walk_at "rep") => `(tactic| first | assumption | exact Da.int _ | exact Da.bl _ | exact Da.str _ | exact Da.non | exact Sub.da (by assumption) (by assumption) | exact Sub.da (Tr.jj (by assumption)) (by assumption))
local macro_rules | `(tactic| walk_at "arith") => `(tactic| first | assumption | omega | decide | exact cmul_small (by omega) (by omega) | exact cdiv_small (by omega) (by omega))
local macro_rules | `(tactic| walk_at "shp") => `(tactic| first | exact sh_int _ | exact sh_tup _ | exact sh_list _ | assumption)
local macro_rules | `(tactic| walk_at "od") => `(tactic| first
  | with_reducible exact od_plus
  | with_reducible exact od_sub
  | ((with_reducible refine' od_mul ?h1); walk_at "arith")
  | ((with_reducible refine' od_mod ?h1); walk_at "arith")
  | ((with_reducible refine' od_fdiv ?h1); walk_at "arith")
  | ((with_reducible refine' od_pow ?h1); exact ⟨by decide, by decide, by decide⟩)
  | with_reducible exact od_lt | with_reducible exact od_le | with_reducible exact od_gt | with_reducible exact od_ge
  | ((with_reducible refine' od_plusT ?h1); walk_at "arith")
  | ((with_reducible refine' od_plusL ?h1); walk_at "arith")
  | ((with_reducible refine' od_plusS ?h1); walk_at "arith")
  | with_reducible exact od_isN | with_reducible exact od_notN
  | ((with_reducible refine od_eq ?_ ?_) <;> walk_at "shp")
  | ((with_reducible refine od_ne ?_ ?_) <;> walk_at "shp")
  | ((with_reducible refine od_inL ?_ ?_) <;> walk_at "shp")
  | ((with_reducible refine od_ixL ?_); assumption)
  | ((with_reducible refine od_ixT ?_); assumption))
local macro_rules | `(tactic| walk_at "ea") => `(tactic| first | with_reducible exact ea_nil | ((with_reducible refine' ea_consD ?h1 ?h2); (case h1 => walk_at "ev"); (case h2 => walk_at "ea")))
local macro_rules | `(tactic| walk_at "eo") => `(tactic| first | with_reducible exact eo_none | ((with_reducible refine' eo_at ?h1); (case h1 => walk_at "ev")))
local macro_rules | `(tactic| walk_at "cd") => `(tactic| first
  | with_reducible exact cd_lenL | with_reducible exact cd_lenT | with_reducible exact cd_tupL | with_reducible exact cd_tupT | with_reducible exact cd_lstL | with_reducible exact cd_lstT | with_reducible exact cd_abs | with_reducible exact cd_int)
local macro_rules | `(tactic| walk_at "ev") => `(tactic| first
  | with_reducible exact ev_int | with_reducible exact ev_bl | with_reducible exact ev_str | with_reducible exact ev_non
  | ((with_reducible refine' ev_var ?h1 ?h2); (case h1 => exact rfl); (case h2 => walk_at "rep"))
  | ((with_reducible refine' ev_opD ?h1 ?h2 ?h3); (case h1 => walk_at "ev"); (case h2 => walk_at "ev"); (case h3 => walk_at "od"))
  | ((with_reducible refine' ev_tupD ?h1); (case h1 => walk_at "ea"))
  | ((with_reducible refine' ev_lstD ?h1); (case h1 => walk_at "ea"))
  | ((with_reducible refine' ev_revL ?h1); (case h1 => walk_at "ev"))
  | ((with_reducible refine' ev_slD ?h1 ?h2 ?h3 ?h4); (case h1 => walk_at "ev"); (case h2 => walk_at "eo"); (case h3 => walk_at "eo"); (case h4 => first | with_reducible exact sd_tup | with_reducible exact sd_list))
  | ((with_reducible refine' ev_cbD ?h1 ?h2); (case h1 => walk_at "ea"); (case h2 => walk_at "cd"))
  | ((with_reducible refine' ev_notV ?h1); (case h1 => walk_at "ev"))
  | assumption)
local macro_rules | `(tactic| walk_at "et") => `(tactic| first
  | ((with_reducible refine' et_testD ?h1); (case h1 => walk_at "ev"))
  | ((with_reducible refine' et_BD ?h1); (case h1 => walk_at "ev"))
  | ((with_reducible refine' et_notD ?h1); (case h1 => walk_at "et"))
  | ((with_reducible refine' et_andD ?h1 ?h2); (case h1 => walk_at "et"); (case h2 => intro _; walk_at "et"))
  | ((with_reducible refine' et_orD ?h1 ?h2); (case h1 => walk_at "et"); (case h2 => intro _; walk_at "et"))
  | assumption)
/-! ### kept, as the law reckons it -/
theorem cut_last (ds : List PyData) : cut ds (some (-1)) none = ds.drop (ds.length - 1) := by
  unfold cut
  rw [HT.sIx_none]
  have e : HT.sIx ds.length 0 (some (-1)) = ds.length - 1 := by
    unfold HT.sIx
    dsimp only
    rw [if_pos (by decide)]
    omega
  rw [e, List.take_of_length_le]
  rw [List.length_drop]
  exact Nat.le_refl _
def toldD (r : List Ver) (st : List Int) : List PyData := st.map (fun s => oV (see r s)) ++ (r.drop (r.length - 1)).map vD
def inT (r : List Ver) (st : List Int) (v : Ver) : Bool := (toldD r st).any fun z => PyData.eqv z (vD v)
theorem last_drop (r : List Ver) : r.drop (r.length - 1) = r.getLast?.toList := by
  cases hr : r.reverse with
  | nil => rw [List.reverse_eq_nil_iff.mp hr]; rfl
  | cons v t =>
    have e : r = t.reverse ++ [v] := by rw [← List.reverse_reverse r, hr, List.reverse_cons]
    rw [e, List.length_append, List.length_singleton, Nat.add_sub_cancel, List.drop_left, List.getLast?_append]
    rfl
theorem inT_eq {r : List Ver} (h : Gd r) (st : List Int) {v : Ver} (hv : v ∈ r) : inT r st v = decide (S r (st ++ [20]) v) := by
  have hb : ∀ u ∈ r, u.1 ≤ 20 := fun u hu => Int.le_trans (h.all u hu).hi (by decide)
  have key : ∀ s, PyData.eqv (oV (see r s)) (vD v) = decide (see r s = some v) := fun s =>
    eqv_opt (q := some v) h (fun u hu => (see_mem hu).1) fun u hu => by cases hu; exact hv
  rw [Bool.eq_iff_iff, decide_eq_true_eq]
  unfold inT toldD
  rw [List.any_append, Bool.or_eq_true, last_drop, ← see_last hb]
  constructor
  · rintro (h1 | h1)
    · obtain ⟨z, hz, e⟩ := List.any_eq_true.mp h1
      obtain ⟨s, hs, rfl⟩ := List.mem_map.mp hz
      rw [key s] at e
      exact ⟨s, List.mem_append_left _ hs, of_decide_eq_true e⟩
    · obtain ⟨z, hz, e⟩ := List.any_eq_true.mp h1
      obtain ⟨u, hu, rfl⟩ := List.mem_map.mp hz
      have hu2 : see r 20 = some u := by
        cases q : see r 20 with
        | none => rw [q] at hu; cases hu
        | some x => rw [q] at hu; rw [List.mem_singleton.mp hu]
      have k := key 20
      rw [hu2] at k
      have e2 : PyData.eqv (oV (some u)) (vD v) = true := e
      rw [k] at e2
      exact ⟨20, by simp, hu2.trans (of_decide_eq_true e2)⟩
  · rintro ⟨s, hs, e⟩
    rcases List.mem_append.mp hs with hs | hs
    · refine .inl (List.any_eq_true.mpr ⟨oV (see r s), List.mem_map.mpr ⟨s, hs, rfl⟩, ?_⟩)
      rw [key s, decide_eq_true e]
    · rw [List.mem_singleton.mp hs] at e
      refine .inr (List.any_eq_true.mpr ⟨vD v, List.mem_map.mpr ⟨v, by rw [e]; exact List.mem_singleton.mpr rfl, rfl⟩, ?_⟩)
      exact (sh_ver (h.all v hv)).refl
def lawL (r : List Ver) (st : List Int) (l : List Ver) : List Ver := (l.filter fun v => inT r st v).dropWhile no
theorem lawL_snoc (r : List Ver) (st : List Int) (l : List Ver) (v : Ver) : lawL r st (l ++ [v]) = if inT r st v && (!isNo v.2 || !(lawL r st l).isEmpty) then lawL r st l ++ [v] else lawL r st l := by
  unfold lawL
  rw [List.filter_append]
  cases hs : inT r st v with
  | false =>
    have e1 : [v].filter (fun v => inT r st v) = [] := by simp [hs]
    rw [e1]
    simp
  | true =>
    have e1 : [v].filter (fun v => inT r st v) = [v] := by simp [hs]
    rw [e1, dropWhile_snoc]
    have e : no v = isNo v.2 := rfl
    rw [e]
    cases hd : (l.filter fun v => inT r st v).dropWhile no with
    | nil => cases hn : isNo v.2 <;> rfl
    | cons t r => cases hn : isNo v.2 <;> rfl
theorem lawL_all {r : List Ver} (h : Gd r) (st : List Int) : lawL r st r = K19.K r (st ++ [20]) := by
  unfold lawL K19.K
  congr 1
  exact List.filter_congr fun v hv => inT_eq h st hv
theorem lawL_sub (r : List Ver) (st : List Int) (l : List Ver) : (lawL r st l).Sublist l := (List.dropWhile_sublist _).trans List.filter_sublist
abbrev s__law_kept : Stmt := top 11
abbrev N__law_kept : List Str := ["_law_row_here", "_law_stamps", "_law_told", "_law_found", "_law_version", "_law_stamp"]
theorem sc__law_kept : FnScope N__law_kept ["_law_row_here", "_law_stamps"] (defScope s__law_kept) := ⟨rfl, rfl, rfl, by decide +kernel, rfl, by decide +kernel, by decide +kernel⟩
def spLKept (K : PySem.W.Frag) : Sp := spF K (fun ds => ∃ r st, ds = [rD r, .tuple (oD st)] ∧ Gd r ∧ st.length < 1000) (fun ds d => ∀ r st, ds = [rD r, .tuple (oD st)] → d = rD (K19.K r (st ++ [20])))
theorem toldD_sh {r : List Ver} (h : Gd r) (st : List Int) : SeqAt.shaped (.list (toldD r st)) = true := by
  refine (shs_of (n := 1) (w := 202) (ds := toldD r st) fun d hd => ?_).lst.shaped (by decide)
  rcases List.mem_append.mp hd with hd | hd
  · obtain ⟨s, _, rfl⟩ := List.mem_map.mp hd
    exact sh_opt h fun v hv => (see_mem hv).1
  · obtain ⟨v, hv, rfl⟩ := List.mem_map.mp hd
    exact sh_ver (h.all v (List.mem_of_mem_drop hv))
theorem rows_sh {r : List Ver} (h : Gd r) : SeqAt.shaped (.list (r.map vD)) = true := by
  refine (shs_of (n := 1) (w := 202) (ds := r.map vD) fun d hd => ?_).lst.shaped (by decide)
  obtain ⟨v, hv, rfl⟩ := List.mem_map.mp hd
  exact sh_ver (h.all v hv)
theorem eqv_nil (ds : List PyData) : PyData.eqv (.list ds) (.list []) = ds.isEmpty := by cases ds <;> rfl
section
variable {P : Program} {w : World} {K : PySem.W.Frag} {mg : Str → Option Value} {base : Heap} {f : Addr} {fd : FuncData}
theorem ok__law_kept (F : FnP K "_law_kept" s__law_kept f fd) (T : Fx mg) (C__law_sees : Ca P w K mg base CX0 1 "_law_sees" ["_law_row_here", "_law_stamp"] (spSees K)) : FnOk P w K mg base CX0 2 f fd ["_law_row_here", "_law_stamps"] (spLKept K) := by
  have nd := sc__law_kept.nd
  refine F.ok sc__law_kept (fun vs H Q E h => ?_) (fun cdv A outer s H vs Q E hr h => ?_)
  · obtain ⟨J, ds, _, a, ⟨_, _, rfl, _⟩, _⟩ := h
    exact das_len a
  have hu := hr.units
  have hu1 : A.units + 3 + 65 < cLine := by have := hr.un; have e : (A.deeper (envOfC "_law_kept" (defScope s__law_kept) s.heap.objs.size f cdv)).units = A.units + 3 := rfl; omega
  refine ⟨_, PSs.nox ((pss_cons (ps_set (i := 2) nd rfl (Or.inl rfl) (pe_op op_plus (pe_lc (own := [("_law_stamp", 5)]) (g := gName 5) rfl nd (pi_tup (pv 1)) (blkOk_by (own := [("_law_stamp", 5)]) (N := N__law_kept) (sc := defScope s__law_kept) (by decide +kernel)) (fun _ _ _ _ _ => (pg_name (i := 5) nd rfl (Or.inl rfl))) (fun _ _ _ _ _ => pts_nil) (fun _ _ _ _ _ => (xCall C__law_sees (hr.mono (by decide)) pass0 (pa_cons (pv 0) (pa_cons (pv 5) pa_nil))))) (xT (rLstOf _) cl_lst T.b_list (pa_cons (pe_slice sl_tupA (pv 0) (po_some (pe_un un_neg pe_int)) po_none) pa_nil))))
 (pss_cons (ps_set (i := 3) nd rfl (Or.inl rfl) (pe_lst pa_nil))
 (pss_cons (ps_for PassesOwn.never rfl (pi_tup (pv 0)) (pg_name (i := 4) nd rfl (Or.inl rfl))
 (pss_one (ps_if (PW.pt (pw_and (pt_cmpR (op_inD hu1) (pv 4) (pv 2) rfl) (pw_and1 (PW.pt (pw_or (pt_cmpR op_notNo (xIx (pv 4) pe_int) pe_non (nomark _)) (pw_or1 (pt_cmpR (op_neD hu) (pv 3) (pe_lst pa_nil) (nomark _)))))))) (pss_one (ps_expr (pe_bm PySem.F.plainAttrs_list PySem.F.slot_list_append PySem.F.type_list_append mt_append (pv 3) (pa_cons (pv 4) pa_nil))))
 pss_nil)))
 (pss_one (ps_ret (xT (rTupOf _) cl_tup T.b_tuple (pa_cons (pv 3) pa_nil)))))))), ?_⟩
  dsimp only [cxOf]
  obtain ⟨J, ds, s0, a, ⟨r, st, rfl, hg, hl⟩, q⟩ := h
  cases a with
  | cons a1 a2 =>
  obtain ⟨v, rfl, a3⟩ := das_one a2
  rename_i v0
  have w0 : Wf Md.pure J H := ⟨s0, trivial, nofun⟩
  have lim : 2000 < sizeLine := by decide
  have few := hg.few
  refine s_asgD (K := K) (d := .list (toldD r st)) w0 ?_ fun v1 J1 H1 w1 t1 b1 => ?_
  · refine ev_opD (dx := .list (st.map fun s => oV (see r s))) (dy := .list ((r.drop (r.length - 1)).map vD)) ?_ ?_ (od_plusL ?_)
    · refine ev_eq (ev_lcMap (ds := oD st) (f := fun d => match d with | .int s => oV (see r s) | _ => .none) (ew_tupD (ev_var rfl a3)) ?_ (fun x => rfl) ?_) ?_
      · rw [oD_len]; omega
      · intro d x J1 H1 hd w1 t1 ax
        obtain ⟨n, hn⟩ := List.getElem?_of_mem hd
        obtain ⟨s, _, rfl⟩ := oD_at hn
        exact ev_sees (ev_var rfl (t1.jj.da a1)) (ev_var rfl ax)
      · unfold oD
        rw [List.map_map]
        rfl
    · refine ev_cbD (ds := [.tuple ((r.drop (r.length - 1)).map vD)]) (ea_consD (ev_eq (ev_slD (dx := .tuple (r.map vD)) (ev_var rfl a1) (eo_at (ev_neg ev_int)) eo_none sd_tup) ?_) ea_nil) cd_lstT
      rw [cut_last, List.length_map, List.map_drop]
    · rw [List.length_map, List.length_map, List.length_drop]
      omega
  dsimp only
  refine s_cell w1 fun p hp w2 t2 => ?_
  dsimp only
  have hp0 : H p = none := t1.back hp
  have jp : J1 p = none := w1.jh.back hp
  have nf : ¬ (Md.pure).fp p := w1.nofp hp
  have t12 := t1.trans t2
  have a1' := t1.jj.da a1
  refine s_forD (K := K) (r.map vD) (fun i σ' J' H' => (J' p = none ∧ DL.Sub J' H') ∧ ∃ ys o4, H' p = some (.lst ys) ∧ Das K J' ys ((lawL r st (r.take i)).map vD) ∧ σ' = [some v0, some v, some v1, some (.ref p), o4, none]) w0 t12 (ew_tupD (ev_var rfl a1')) ?_ ?_ ?_ ?_
  · intro J2 H2 w2 t2
    exact ⟨⟨t2.cellj upd_same jp, w2.jh⟩, [], none, t2.keep p _ nf upd_same, .nil, rfl⟩
  · rintro i σ' J' H' X xs ⟨⟨h1, hs⟩, ys, o4, h2, h3, h4⟩ hT
    have ne := ne_of_none h2 hT
    exact ⟨⟨by rw [upd_ne ne]; exact h1, hs.both⟩, ys, o4, by rw [upd_ne ne]; exact h2, (DL.Sub.new (hs.back hT)).das h3, h4⟩
  · rintro i d x σ' J2 J' H' hi w' t' s1 s2 ⟨⟨j1, _⟩, ys, o4, h1, hy, rfl⟩ ax
    rw [List.getElem?_map] at hi
    cases hz : r[i]? with
    | none => rw [hz] at hi; cases hi
    | some z =>
    rw [hz] at hi
    obtain rfl := Option.some.inj hi
    have zr : z ∈ r := List.mem_of_getElem? hz
    have b1' := (s1.trans s2).da b1
    have hk := lawL_snoc r st (r.take i) z
    rw [← take_snoc hz] at hk
    have gl : Gd (lawL r st (r.take i)) := hg.part ((lawL_sub r st _).trans (List.take_sublist _ _))
    refine s_ifD (b := inT r st z && (!isNo z.2 || !(lawL r st (r.take i)).isEmpty)) w' ?_ (fun hb J3 H3 w3 t3 => ?_) (fun hb J3 H3 w3 t3 => ?_)
    · refine et_andD (et_testD (K := K) (ev_opD (dx := vD z) (ev_var rfl ax) (ev_var rfl b1') (od_inL ((sh_ver (hg.all z zr)).shaped (by decide)) (toldD_sh hg st)))) fun _ => et_orD (et_testD (K := K) (ev_opD (ev_snd (v := z) (ev_var rfl ax)) ev_non od_notN)) fun _ => ?_
      refine et_testD (K := K) (ev_eq (ev_neNil rfl h1 nf hy (rows_sh gl)) ?_)
      rw [eqv_nil, List.isEmpty_map]
    · rw [hb, if_pos rfl] at hk
      dsimp only
      refine s_app (K := K) (P := (· = vD z)) w0 (t'.trans t3) hp0 (t3.cellj h1 j1) rfl (t3.keep p _ nf h1) ?_ (ev_var rfl (t3.jj.da ax)) ?_
      · have l1 := das_len hy
        rw [List.length_map] at l1
        have l2 := gl.few
        omega
      · rintro v4 d4 J4 H4 w4 t4 s4 j4 e4 _ _ rfl a4
        refine ⟨J4, w4, t4, (s2.trans t3.jj).trans s4, ⟨j4, w4.jh⟩, ys ++ [v4], some x, e4, ?_, rfl⟩
        rw [hk, List.map_append]
        exact das_app (s4.das (t3.jj.das hy)) (.cons a4 .nil)
    · rw [hb, if_neg Bool.false_ne_true] at hk
      refine s_next ?_
      refine ⟨J3, w3, t'.trans t3, s2.trans t3.jj, ⟨t3.cellj h1 j1, w3.jh⟩, ys, some x, t3.keep p _ nf h1, ?_, rfl⟩
      rw [hk]
      exact t3.jj.das hy
  · rintro σ' J' H' w' t' s1 ⟨⟨j1, _⟩, ys, o4, h1, hy, rfl⟩
    rw [List.length_map, List.take_length, lawL_all hg] at hy
    dsimp only
    have t4 := t'.ice hp0 j1 h1
    have w4 := t4.wf w0
    have sj : DL.Sub J' (upd J' p (.lst ys)) := .new j1
    have al : Da K (upd J' p (.lst ys)) (.ref p) (.list ((K19.K r (st ++ [20])).map vD)) := .lst upd_same (sj.das hy)
    refine s_retD (K := K) (d := rD (K19.K r (st ++ [20]))) w4 ?_ fun v5 J5 H5 w5 t5 a5 => q v5 _ J5 H5 (t4.trans t5) (fun r' st' e => ?_) a5
    · exact ev_cbD (ea_consD (ev_var rfl al) ea_nil) cd_tupL
    · obtain ⟨e1, e2⟩ := args2 e
      rw [rD_inj e1, tup_oD_inj e2]
end
/-! ### all parts of a row -/
abbrev s__law_parts : Stmt := top 15
abbrev N__law_parts : List Str := ["_law_row_here", "_law_found", "_law_version", "_law_part"]
theorem sc__law_parts : FnScope N__law_parts ["_law_row_here"] (defScope s__law_parts) := ⟨rfl, rfl, rfl, by decide +kernel, rfl, by decide +kernel, by decide +kernel⟩
def spParts (K : PySem.W.Frag) : Sp := spF K (fun ds => ∃ r : List Ver, ds = [rD r] ∧ r.length ≤ 6) (fun ds d => ∀ r : List Ver, ds = [rD r] → d = .list ((parts r).map rD))
section
variable {P : Program} {w : World} {K : PySem.W.Frag} {mg : Str → Option Value} {base : Heap} {f : Addr} {fd : FuncData}
theorem ok__law_parts (F : FnP K "_law_parts" s__law_parts f fd) (T : Fx mg) : FnOk P w K mg base CX0 1 f fd ["_law_row_here"] (spParts K) := by
  have nd := sc__law_parts.nd
  refine F.ok sc__law_parts (fun vs H Q E h => ?_) (fun cdv A outer s H vs Q E hr h => ?_)
  · obtain ⟨J, ds, _, a, ⟨_, rfl, _⟩, _⟩ := h
    exact das_len a
  refine ⟨_, PSs.nox ((pss_cons (ps_set (i := 1) nd rfl (Or.inl rfl) (pe_lst (pa_cons (pe_tup pa_nil) pa_nil)))
 (pss_cons (ps_for PassesOwn.never rfl (pi_tup (pv 0)) (pg_name (i := 2) nd rfl (Or.inr rfl))
 (pss_one (ps_set (i := 1) nd rfl (Or.inl rfl) (pe_op op_plus (pv 1) (pe_lc (own := [("_law_part", 3)]) (g := gName 3) rfl nd (pi_list (pv 1)) (blkOk_by (own := [("_law_part", 3)]) (N := N__law_parts) (sc := defScope s__law_parts) (by decide +kernel)) (fun _ _ _ _ _ => (pg_name (i := 3) nd rfl (Or.inl rfl))) (fun _ _ _ _ _ => pts_nil) (fun _ _ _ _ _ => (pe_op (op_plusK K rfl) (pv 3) (pe_tup (pa_cons (pv 2) pa_nil)))))))))
 (pss_one (ps_ret (pv 1)))))), ?_⟩
  dsimp only [cxOf]
  obtain ⟨J, ds, s0, a, ⟨r, rfl, hl⟩, q⟩ := h
  obtain ⟨v, rfl, av⟩ := das_one a
  have w0 : Wf Md.pure J H := ⟨s0, trivial, nofun⟩
  have lim : 2000 < sizeLine := by decide
  refine s_asgD (K := K) (d := .list [.tuple []]) w0 (ev_lstD (ea_consD (ev_tupD ea_nil) ea_nil)) fun v1 J1 H1 w1 t1 b1 => ?_
  dsimp only
  have av' := t1.jj.da av
  have pl : ∀ i, (parts (r.take i)).length ≤ 64 := fun i => by
    rw [parts_len]
    have e : (r.take i).length ≤ 6 := by rw [List.length_take]; omega
    exact Nat.le_trans (Nat.pow_le_pow_right (by decide) e) (by decide)
  refine s_forD (K := K) (r.map vD) (fun i σ' J' H' => DL.Sub J' H' ∧ ∃ u o, Da K J' u (.list ((parts (r.take i)).map rD)) ∧ σ' = [some v, some u, o, none]) w0 t1 (ew_tupD (ev_var rfl av')) ?_ ?_ ?_ ?_
  · intro J2 H2 w2 t2
    exact ⟨w2.jh, v1, none, t2.jj.da b1, rfl⟩
  · rintro i σ' J' H' X xs ⟨sj, u, o, hu, rfl⟩ hT
    exact ⟨sj.both, u, o, (DL.Sub.new (sj.back hT)).da hu, rfl⟩
  · rintro i d x σ' J2 J' H' hi w' t' s1 s2 ⟨sj, u, o, hu, rfl⟩ ax
    rw [List.getElem?_map] at hi
    cases hz : r[i]? with
    | none => rw [hz] at hi; cases hi
    | some z =>
    rw [hz] at hi
    obtain rfl := Option.some.inj hi
    have hk := parts_snoc (r.take i) z
    rw [← take_snoc hz] at hk
    have l64 := pl i
    refine s_asgD (K := K) (d := .list ((parts (r.take (i + 1))).map rD)) w' ?_ fun v4 J4 H4 w4 t4 a4 => ⟨J4, w4, t'.trans t4, s2.trans t4.jj, w4.jh, v4, some x, a4, rfl⟩
    rw [hk, List.map_append]
    refine ev_opD (ev_var rfl hu) (dy := .list (((parts (r.take i)).map (· ++ [z])).map rD)) ?_ (od_plusL ?_)
    · refine ev_eq (ev_lcMap (ds := (parts (r.take i)).map rD) (f := fun d => match d with | .tuple ds => .tuple (ds ++ [vD z]) | _ => .none) (ew_listD (ev_var rfl hu)) ?_ (fun x => rfl) ?_) ?_
      · rw [List.length_map]; omega
      · intro d y J5 H5 hd w5 t5 ay
        obtain ⟨p, hp, rfl⟩ := List.mem_map.mp hd
        have lp := ((parts_mem _ p).mp hp).length_le
        rw [List.length_take] at lp
        refine ev_opD (dx := .tuple (p.map vD)) (dy := .tuple [vD z]) (ev_var rfl ay) (ev_tupD (ea_consD (ev_var rfl (t5.jj.da ax)) ea_nil)) (od_plusT ?_)
        rw [List.length_map, List.length_singleton]
        omega
      · rw [List.map_map, List.map_map]
        refine congrArg PyData.list (List.map_congr_left fun p _ => ?_)
        show PyData.tuple (p.map vD ++ [vD z]) = PyData.tuple ((p ++ [z]).map vD)
        rw [List.map_append]
        rfl
    · rw [List.length_map, List.length_map, List.length_map]
      omega
  · rintro σ' J' H' w' t' s1 ⟨sj, u, o, hu, rfl⟩
    rw [List.length_map, List.take_length] at hu
    dsimp only
    refine s_retD (K := K) (d := .list ((parts r).map rD)) w' (ev_var rfl hu) fun v5 J5 H5 w5 t5 a5 => q v5 _ J5 H5 (t'.trans t5) (fun r' e => ?_) a5
    rw [rD_inj (args1 e)]
end
end K19

namespace K19
open PySem PySem.Spec
open PyProof.Rows L2 DL
open Classical
local macro_rules | `(tactic| walk_at "rep") => `(tactic| first | assumption | exact Da.int _ | exact Da.bl _ | exact Da.str _ | exact Da.non | exact Sub.da (by assumption) (by assumption) | exact Sub.da (Tr.jj (by assumption)) (by assumption))
local macro_rules | `(tactic| walk_at "arith") => `(tactic| first | assumption | omega | decide | exact cmul_small (by omega) (by omega) | exact cdiv_small (by omega) (by omega))
local macro_rules | `(tactic| walk_at "shp") => `(tactic| first | exact sh_int _ | exact sh_tup _ | exact sh_list _ | assumption)
local macro_rules | `(tactic| walk_at "od") => `(tactic| first
  | with_reducible exact od_plus
  | with_reducible exact od_sub
  | ((with_reducible refine' od_mul ?h1); walk_at "arith")
  | ((with_reducible refine' od_mod ?h1); walk_at "arith")
  | ((with_reducible refine' od_fdiv ?h1); walk_at "arith")
  | ((with_reducible refine' od_pow ?h1); exact ⟨by decide, by decide, by decide⟩)
  | with_reducible exact od_lt | with_reducible exact od_le | with_reducible exact od_gt | with_reducible exact od_ge
  | ((with_reducible refine' od_plusT ?h1); walk_at "arith")
  | ((with_reducible refine' od_plusL ?h1); walk_at "arith")
  | ((with_reducible refine' od_plusS ?h1); walk_at "arith")
  | with_reducible exact od_isN | with_reducible exact od_notN
  | ((with_reducible refine od_eq ?_ ?_) <;> walk_at "shp")
  | ((with_reducible refine od_ne ?_ ?_) <;> walk_at "shp")
  | ((with_reducible refine od_inL ?_ ?_) <;> walk_at "shp")
  | ((with_reducible refine od_ixL ?_); assumption)
  | ((with_reducible refine od_ixT ?_); assumption))
local macro_rules | `(tactic| walk_at "ea") => `(tactic| first | with_reducible exact ea_nil | ((with_reducible refine' ea_consD ?h1 ?h2); (case h1 => walk_at "ev"); (case h2 => walk_at "ea")))
local macro_rules | `(tactic| walk_at "eo") => `(tactic| first | with_reducible exact eo_none | ((with_reducible refine' eo_at ?h1); (case h1 => walk_at "ev")))
local macro_rules | `(tactic| walk_at "cd") => `(tactic| first
  | with_reducible exact cd_lenL | with_reducible exact cd_lenT | with_reducible exact cd_tupL | with_reducible exact cd_tupT | with_reducible exact cd_lstL | with_reducible exact cd_lstT | with_reducible exact cd_abs | with_reducible exact cd_int)
local macro_rules | `(tactic| walk_at "ev") => `(tactic| first
  | with_reducible exact ev_int | with_reducible exact ev_bl | with_reducible exact ev_str | with_reducible exact ev_non
  | ((with_reducible refine' ev_var ?h1 ?h2); (case h1 => exact rfl); (case h2 => walk_at "rep"))
  | ((with_reducible refine' ev_opD ?h1 ?h2 ?h3); (case h1 => walk_at "ev"); (case h2 => walk_at "ev"); (case h3 => walk_at "od"))
  | ((with_reducible refine' ev_tupD ?h1); (case h1 => walk_at "ea"))
  | ((with_reducible refine' ev_lstD ?h1); (case h1 => walk_at "ea"))
  | ((with_reducible refine' ev_revL ?h1); (case h1 => walk_at "ev"))
  | ((with_reducible refine' ev_slD ?h1 ?h2 ?h3 ?h4); (case h1 => walk_at "ev"); (case h2 => walk_at "eo"); (case h3 => walk_at "eo"); (case h4 => first | with_reducible exact sd_tup | with_reducible exact sd_list))
  | ((with_reducible refine' ev_cbD ?h1 ?h2); (case h1 => walk_at "ea"); (case h2 => walk_at "cd"))
  | ((with_reducible refine' ev_notV ?h1); (case h1 => walk_at "ev"))
  | assumption)
local macro_rules | `(tactic| walk_at "et") => `(tactic| first
  | ((with_reducible refine' et_testD ?h1); (case h1 => walk_at "ev"))
  | ((with_reducible refine' et_BD ?h1); (case h1 => walk_at "ev"))
  | ((with_reducible refine' et_notD ?h1); (case h1 => walk_at "et"))
  | ((with_reducible refine' et_andD ?h1 ?h2); (case h1 => walk_at "et"); (case h2 => intro _; walk_at "et"))
  | ((with_reducible refine' et_orD ?h1 ?h2); (case h1 => walk_at "et"); (case h2 => intro _; walk_at "et"))
  | assumption)
/-! ### a lot of some numbers -/
abbrev s__law_lot : Stmt := top 12
abbrev N__law_lot : List Str := ["_law_deal_here", "_law_some", "_law_one"]
theorem sc__law_lot : FnScope N__law_lot ["_law_deal_here", "_law_some"] (defScope s__law_lot) := ⟨rfl, rfl, rfl, by decide +kernel, rfl, by decide +kernel, by decide +kernel⟩
def isSq (d : PyData) (xs : List Int) : Prop := d = .list (oD xs) ∨ d = .tuple (oD xs)
def isLot (xs : List Int) (d : PyData) : Prop := ∃ ys, d = .tuple (oD ys) ∧ (∀ y ∈ ys, y ∈ xs) ∧ ys.length ≤ xs.length
def spLot (K : PySem.W.Frag) : Sp := spH K (fun ds => ∃ d xs, ds = [d] ∧ isSq d xs ∧ xs.length < 1000) (fun ds d => ∀ e xs, ds = [e] → isSq e xs → isLot xs d)
theorem isSq_inj {d : PyData} {xs ys : List Int} (h : isSq d xs) (g : isSq d ys) : xs = ys := by
  rcases h with h | h <;> rcases g with g | g <;> rw [h] at g
  · exact oD_inj (PyData.list.inj g)
  · exact nomatch g
  · exact nomatch g
  · exact oD_inj (PyData.tuple.inj g)
section
variable {P : Program} {w : World} {K : PySem.W.Frag} {mg : Str → Option Value} {base : Heap} {f : Addr} {fd : FuncData}
theorem ok__law_lot (F : FnP K "_law_lot" s__law_lot f fd) (T : Fx mg) (C__law_draw : Ca P w K mg base CX0 1 "_law_draw" ["_law_deal_here", "_law_bound"] (spDr K)) : FnOk P w K mg base CX0 2 f fd ["_law_deal_here", "_law_some"] (spLot K) := by
  have nd := sc__law_lot.nd
  refine F.ok sc__law_lot (fun vs H Q E h => ?_) (fun cdv A outer s H vs Q E hr h => ?_)
  · obtain ⟨ds, ⟨_, _, rfl, _⟩, e⟩ := spH_len h
    exact e
  have hu := hr.units
  refine ⟨_, PSs.nox ((pss_one (ps_ret (xT (rTupOf _) cl_tup T.b_tuple (pa_cons (xB (_) cr_sortedI T.b_sorted (pa_cons (pe_lc (own := [("_law_one", 2)]) (g := gName 2) rfl nd (pi_seq (pv 1)) (blkOk_by (own := [("_law_one", 2)]) (N := N__law_lot) (sc := defScope s__law_lot) (by decide +kernel)) (fun _ _ _ _ _ => (pg_name (i := 2) nd rfl (Or.inl rfl))) (fun _ _ _ _ _ => pts_one (pt_cmpR (op_eqK K rfl hu) (xCall C__law_draw (hr.mono (by decide)) pass0 (pa_cons (pv 0) (pa_cons pe_int pa_nil))) pe_int (nomark _))) (fun _ _ _ _ _ => (pv 2))) pa_nil)) pa_nil))))), ?_⟩
  dsimp only [cxOf]
  obtain ⟨M, h, g, J, us, ds, rfl, hd, w0, a, ⟨e, xs, rfl, hx, hl⟩, q⟩ := h
  obtain ⟨v, rfl, av⟩ := das_one a
  have lim : 1000 < sizeLine := by decide
  refine s_ret (K := K) (P := isLot xs) w0 ?_ fun v2 d2 J2 H2 w2 t2 p2 a2 => q v2 d2 J2 H2 w2 t2 (fun e' xs' eq hx' => by
    have := args1 eq
    subst this
    rw [isSq_inj hx' hx]
    exact p2) a2
  refine ev_cb (Pa := fun ds => ∃ ys, ds = [.list (oD ys)] ∧ (∀ y ∈ ys, y ∈ xs) ∧ ys.length ≤ xs.length) ?_ ?_
  · refine (ea_cons (Px := fun d => ∃ ys, d = .list (oD ys) ∧ (∀ y ∈ ys, y ∈ xs) ∧ ys.length ≤ xs.length) ?_ ea_nil).mono ?_
    · refine ev_cb (Pa := fun ds => ∃ ys, ds = [.list (oD ys)] ∧ (∀ y ∈ ys, y ∈ xs) ∧ ys.length ≤ xs.length) ?_ ?_
      · refine (ea_cons (Px := fun d => ∃ ys, d = .list (oD ys) ∧ (∀ y ∈ ys, y ∈ xs) ∧ ys.length ≤ xs.length) (ev_lc (Pw := (· = oD xs)) (fun _ k acc => ∃ ys, acc = oD ys ∧ (∀ y ∈ ys, y ∈ xs) ∧ ys.length ≤ k) (ew_seq ?_) ?_ (fun _ _ => ⟨[], rfl, nofun, Nat.le_refl _⟩) (fun x => rfl) ?_ ?_) ea_nil).mono ?_
        · refine (ev_var rfl av).mono fun d ed => ?_
          rw [ed]
          exact hx
        · rintro ds rfl
          rw [oD_len]
          omega
        · rintro ds k d acc x J3 H3 rfl hk ⟨ys, rfl, hy, hyl⟩ w3 t3 ax
          obtain ⟨n, hn, rfl⟩ := oD_at hk
          refine ⟨fun _ => True, ?_, fun _ => ⟨ys, rfl, hy, by omega⟩, fun _ => ?_⟩
          · refine (et_test (K := K) (Pb := fun _ => True) ?_)
            refine (ev_op (Px := fun d => ∃ i, d = .int i ∧ 0 ≤ i ∧ i < 2) (Py := (· = .int 0)) (P := fun d => ∃ b, d = .bool b ∧ True) (ev_draw (n := 2) hd rfl ev_int (by omega)) ev_int ?_)
            rintro dx dy ⟨i, rfl, _⟩ rfl
            exact (od_eq (sh_int i) (sh_int 0)).mono fun d e => ⟨_, e, trivial⟩
          · refine (ev_var rfl ax).mono fun d ed => ⟨ys ++ [n], ?_, ?_, ?_⟩
            · rw [ed, ← oD_app]
              rfl
            · intro y hym
              rcases List.mem_append.mp hym with hym | hym
              · exact hy y hym
              · rw [List.mem_singleton.mp hym]
                exact List.mem_of_getElem? hn
            · rw [List.length_append, List.length_singleton]
              omega
        · rintro ds acc rfl ⟨ys, rfl, hy, hyl⟩
          rw [oD_len] at hyl
          exact ⟨ys, rfl, hy, hyl⟩
        · rintro ds ⟨d, r, rfl, ⟨ys, rfl, h1, h2⟩, rfl⟩
          exact ⟨ys, rfl, h1, h2⟩
      · rintro ds ⟨ys, rfl, h1, h2⟩ vs J H w a Q q
        refine cd_sorted vs J H w a Q fun v d J2 H2 w2 t2 ⟨ms, e, e1, _⟩ a => q v d J2 H2 w2 t2 ⟨ms, e, fun y hy => h1 y (e1.mem_iff.mp hy), by rw [e1.length_eq]; exact h2⟩ a
    · rintro ds ⟨d, r, rfl, ⟨ys, rfl, h1, h2⟩, rfl⟩
      exact ⟨ys, rfl, h1, h2⟩
  · rintro ds ⟨ys, rfl, h1, h2⟩ vs J H w a Q q
    exact cd_tupL vs J H w a Q fun v d J2 H2 w2 t2 e a => q v d J2 H2 w2 t2 ⟨ys, e, h1, h2⟩ a
end
/-! ### a drawn row -/
abbrev s__law_row : Stmt := top 13
abbrev N__law_row : List Str := ["_law_deal_here", "_law_found", "_law_stamp", "_law_turn"]
theorem sc__law_row : FnScope N__law_row ["_law_deal_here"] (defScope s__law_row) := ⟨rfl, rfl, rfl, by decide +kernel, rfl, by decide +kernel, by decide +kernel⟩
def isRow (d : PyData) : Prop := ∃ r, d = rD r ∧ Gd r
def spRow (K : PySem.W.Frag) : Sp := spH K (fun ds => ds = []) (fun _ d => isRow d)
/-- xs, n = [], i: a list of one's own, and a number -/
theorem s_parC {M : Md} {σ : L2.St} {J H : Hp} {D : Ends} {k l : Nat} {i : Int} (w : Wf M J H) (q : ∀ p, H p = none → Wf M J (upd H p (.lst [])) → Tr M J H J (upd H p (.lst [])) → D.nx ((σ.set k (some (.ref p))).set l (some (.int i))) (upd H p (.lst []))) : tPar k l (tCons (tLst tNil) (tCons (tC (.int i)) tNil)) D σ H :=
  ⟨Nat.zero_le _, fun p hp => ⟨_, _, rfl, q p hp ((w.cell hp).wf w) (w.cell hp)⟩⟩
structure Grow (r : List Ver) (s : Int) (k : Nat) : Prop where
  asc : Asc r
  all : ∀ v ∈ r, Gv v ∧ v.1 ≤ s
  len : r.length = k
  lo : 0 ≤ s
  hi : s ≤ 3 * k
theorem Grow.snoc {r : List Ver} {s t : Int} {k : Nat} {x : PyData} (h : Grow r s k) (hk : k < 6) (h1 : s + 1 ≤ t) (h2 : t ≤ s + 3) (hx : Vl x) : Grow (r ++ [(t, x)]) t (k + 1) := by
  have := h.lo
  have := h.hi
  refine ⟨?_, fun v hv => ?_, ?_, by omega, by omega⟩
  · refine List.pairwise_append.mpr ⟨h.asc, List.pairwise_singleton _ _, fun v hv u hu => ?_⟩
    rw [List.mem_singleton.mp hu]
    have := (h.all v hv).2
    show v.1 < t
    omega
  · rcases List.mem_append.mp hv with hv | hv
    · exact ⟨(h.all v hv).1, Int.le_trans (h.all v hv).2 (by omega)⟩
    · rw [List.mem_singleton.mp hv]
      exact ⟨⟨by show 1 ≤ t; omega, by show t ≤ 18; omega, hx⟩, Int.le_refl _⟩
  · rw [List.length_append, List.length_singleton, h.len]
theorem Grow.gd {r : List Ver} {s : Int} {k : Nat} (h : Grow r s k) (hk : k ≤ 6) : Gd r := ⟨h.asc, fun v hv => (h.all v hv).1, by rw [h.len]; exact hk⟩
section
variable {P : Program} {w : World} {K : PySem.W.Frag} {mg : Str → Option Value} {base : Heap} {f : Addr} {fd : FuncData}
theorem ok__law_row (F : FnP K "_law_row" s__law_row f fd) (T : Fx mg) (C__law_pick : Ca P w K mg base CX0 2 "_law_pick" ["_law_deal_here", "_law_some"] (spPick K)) : FnOk P w K mg base CX0 3 f fd ["_law_deal_here"] (spRow K) := by
  have nd := sc__law_row.nd
  refine F.ok sc__law_row (fun vs H Q E h => ?_) (fun cdv A outer s H vs Q E hr h => ?_)
  · obtain ⟨ds, rfl, e⟩ := spH_len h
    exact e
  refine ⟨_, PSs.nox ((pss_cons (ps_par (i := 1) (j := 2) (by rfl) nd rfl rfl (by decide) rfl rfl (pa_cons (pe_lst pa_nil) (pa_cons pe_int pa_nil)) (by rfl))
 (pss_cons (ps_for PassesOwn.never rfl (pi_range1 rfl T.b_range (pa_cons (xCall C__law_pick (hr.mono (by decide)) pass0 (pa_cons (pv 0) (pa_cons (pe_lst (pa_cons pe_int (pa_cons pe_int (pa_cons pe_int (pa_cons pe_int (pa_cons pe_int (pa_cons pe_int (pa_cons pe_int (pa_cons pe_int pa_nil))))))))) pa_nil))) pa_nil)) (pg_name (i := 3) nd rfl (Or.inl rfl))
 (pss_cons (ps_set (i := 2) nd rfl (Or.inl rfl) (pe_op op_plus (pv 2) (xCall C__law_pick (hr.mono (by decide)) pass0 (pa_cons (pv 0) (pa_cons (pe_lst (pa_cons pe_int (pa_cons pe_int (pa_cons pe_int (pa_cons pe_int (pa_cons pe_int pa_nil)))))) pa_nil)))))
 (pss_one (ps_expr (pe_bm PySem.F.plainAttrs_list PySem.F.slot_list_append PySem.F.type_list_append mt_append (pv 1) (pa_cons (pe_tup (pa_cons (pv 2) (pa_cons (xCall C__law_pick (hr.mono (by decide)) pass0 (pa_cons (pv 0) (pa_cons (pe_lst (pa_cons pe_non (pa_cons pe_non (pa_cons pe_int (pa_cons pe_str (pa_cons pe_str (pa_cons (pe_op op_pow pe_int pe_int) pa_nil))))))) pa_nil))) pa_nil))) pa_nil))))))
 (pss_one (ps_ret (xT (rTupOf _) cl_tup T.b_tuple (pa_cons (pv 1) pa_nil))))))), ?_⟩
  dsimp only [cxOf]
  obtain ⟨M, h, g, J, us, ds, rfl, hd, w0, a, rfl, q⟩ := h
  cases a
  have lim : 1000 < sizeLine := by decide
  refine s_parC w0 fun p hp w1 t1 => ?_
  dsimp only
  have jp : J p = none := w0.jh.back hp
  have nf : ¬ M.fp p := w0.nofp hp
  refine s_for (K := K) (Pw := fun ds => ∃ n : Nat, ds = DL.upTo n ∧ n ≤ 6) (fun _ i σ' J' H' => (J' p = none ∧ DL.Sub J' H') ∧ ∃ r ys s o3, (H' p = some (.lst ys) ∧ Das K J' ys (r.map vD)) ∧ Grow r s i ∧ σ' = [some (.ref h), some (.ref p), some (.int s), o3]) w0 t1 ?_ ?_ ?_ ?_ ?_
  · refine ew_range (Pn := fun n => n ≤ 6) ?_
    refine (ev_pick (P := fun d => ∃ i : Int, d = .int i ∧ 0 ≤ i ∧ i ≤ 6) hd rfl (Pa := (· = .list [.int 0, .int 1, .int 2, .int 3, .int 4, .int 5, .int 5, .int 6])) (ev_lstD (by walk_at "ea")) ?_).mono ?_
    · rintro d rfl
      refine ⟨_, rfl, nofun, by show 8 < 2 ^ 62; decide, fun x hx => ?_⟩
      simp only [List.mem_cons, List.not_mem_nil, or_false] at hx
      rcases hx with rfl | rfl | rfl | rfl | rfl | rfl | rfl | rfl <;> exact ⟨_, rfl, by decide, by decide⟩
    · rintro d ⟨i, rfl, i0, i1⟩
      exact ⟨i.toNat, by rw [Int.toNat_of_nonneg i0], by omega, by omega⟩
  · rintro ds J2 H2 _ w2 t2
    exact ⟨⟨t2.cellj upd_same jp, w2.jh⟩, [], [], 0, none, ⟨t2.keep p _ nf upd_same, .nil⟩, ⟨.nil, nofun, rfl, Int.le_refl _, Int.le_refl _⟩, rfl⟩
  · rintro ds i σ' J' H' X xs ⟨⟨h1, hs⟩, r, ys, s, o3, ⟨h2, h3⟩, hg, h4⟩ hT
    have ne := ne_of_none h2 hT
    exact ⟨⟨by rw [upd_ne ne]; exact h1, hs.both⟩, r, ys, s, o3, ⟨by rw [upd_ne ne]; exact h2, (DL.Sub.new (hs.back hT)).das h3⟩, hg, h4⟩
  · rintro ds i d x σ' J2 J' H' ⟨n, rfl, hn⟩ hi w' t' s1 s2 ⟨⟨j1, _⟩, r, ys, s, o3, ⟨h1, hy⟩, hg, rfl⟩ ax
    obtain ⟨rfl, hin⟩ := upTo_at hi
    rw [da_int ax]
    refine s_asg (K := K) (P := fun d => ∃ t, d = .int t ∧ s + 1 ≤ t ∧ t ≤ s + 3) w' ?_ fun v4 d4 J4 H4 w4 t4 ⟨t, e4, l1, l2⟩ a4 => ?_
    · refine ev_op (Px := (· = .int s)) (Py := fun d => ∃ i : Int, d = .int i ∧ 1 ≤ i ∧ i ≤ 3) (ev_var rfl (.int _)) ?_ ?_
      · refine (ev_pick (P := fun d => ∃ i : Int, d = .int i ∧ 1 ≤ i ∧ i ≤ 3) hd rfl (Pa := (· = .list [.int 1, .int 1, .int 1, .int 2, .int 3])) (ev_lstD (by walk_at "ea")) ?_)
        rintro d rfl
        refine ⟨_, rfl, nofun, by show 5 < 2 ^ 62; decide, fun x hx => ?_⟩
        simp only [List.mem_cons, List.not_mem_nil, or_false] at hx
        rcases hx with rfl | rfl | rfl | rfl | rfl <;> exact ⟨_, rfl, by decide, by decide⟩
      · rintro dx dy rfl ⟨i, rfl, i0, i1⟩
        exact od_plus.mono fun d e => ⟨_, e, by omega, by omega⟩
    subst e4
    rw [da_int a4]
    dsimp only
    refine s_app (K := K) (P := fun d => ∃ x, d = vD (t, x) ∧ Vl x) w0 (t'.trans t4) hp (t4.cellj h1 j1) rfl (t4.keep p _ nf h1) ?_ ?_ ?_
    · have l := das_len hy
      rw [List.length_map, hg.len] at l
      omega
    · refine (ev_tup (Pa := fun ds => ∃ x, ds = [.int t, x] ∧ Vl x) ?_ ?_).mono ?_
      · refine (ea_cons (Px := (· = .int t)) (ev_var rfl (.int _)) (ea_cons (Px := Vl) ?_ ea_nil)).mono ?_
        · refine (ev_pick (P := Vl) hd rfl (Pa := (· = .list [.none, .none, .int 0, .str "a", .str "", .int (10 ^ (18 : Int).toNat)])) (ev_lstD (ea_consD ev_non (ea_consD ev_non (ea_consD ev_int (ea_consD ev_str (ea_consD ev_str (ea_consD ?_ ea_nil))))))) ?_)
          · exact ev_opD ev_int ev_int (od_pow ⟨by decide, by decide, by decide⟩)
          · rintro d rfl
            refine ⟨_, rfl, nofun, by show 6 < 2 ^ 62; decide, fun x hx => ?_⟩
            simp only [List.mem_cons, List.not_mem_nil, or_false] at hx
            rcases hx with rfl | rfl | rfl | rfl | rfl | rfl
            · exact .inl rfl
            · exact .inl rfl
            · exact .inr (.inl rfl)
            · exact .inr (.inr (.inl rfl))
            · exact .inr (.inr (.inr (.inl rfl)))
            · exact .inr (.inr (.inr (.inr rfl)))
        · rintro ds ⟨d, r, rfl, rfl, x, r', rfl, hx, rfl⟩
          exact ⟨x, rfl, hx⟩
      · rintro ds ⟨x, rfl, _⟩
        show 2 ≤ 100000
        decide
      · rintro d ⟨ds, rfl, x, rfl, hx⟩
        exact ⟨x, rfl, hx⟩
    · rintro v5 d5 J5 H5 w5 t5 s5 j5 e5 _ _ ⟨x, rfl, hx⟩ a5
      refine ⟨J5, w5, t5, (s2.trans t4.jj).trans s5, ⟨j5, w5.jh⟩, r ++ [(t, x)], ys ++ [v5], t, some (.int (i : Nat)), ⟨e5, ?_⟩, hg.snoc (by omega) l1 l2 hx, rfl⟩
      rw [List.map_append]
      exact das_app (s5.das (t4.jj.das hy)) (.cons a5 .nil)
  · rintro ds σ' J' H' ⟨n, rfl, hn⟩ w' t' s1 ⟨⟨j1, _⟩, r, ys, s, o3, ⟨h1, hy⟩, hg, rfl⟩
    rw [upTo_len] at hg
    dsimp only
    have t4 := t'.ice hp j1 h1
    have w4 := t4.wf w0
    have sj : DL.Sub J' (upd J' p (.lst ys)) := .new j1
    have al : Da K (upd J' p (.lst ys)) (.ref p) (.list (r.map vD)) := .lst upd_same (sj.das hy)
    refine s_retD (K := K) (d := rD r) w4 ?_ fun v5 J5 H5 w5 t5 a5 => q v5 _ J5 H5 w5 (t4.trans t5) ⟨r, rfl, hg.gd hn⟩ a5
    exact ev_cbD (ea_consD (ev_var rfl al) ea_nil) cd_tupL
end
/-! ### whether a part tells what the row tells -/
abbrev s__law_tells : Stmt := top 14
abbrev N__law_tells : List Str := ["_law_seen", "_law_part", "_law_stamps", "_law_stamp", "_law_here"]
theorem sc__law_tells : FnScope N__law_tells ["_law_seen", "_law_part", "_law_stamps"] (defScope s__law_tells) := ⟨rfl, rfl, rfl, by decide +kernel, rfl, by decide +kernel, by decide +kernel⟩
structure SeenAt (K : PySem.W.Frag) (J : Hp) (p : Addr) (kvs : List (Key × V)) (r : List Ver) (A : List Int) : Prop where
  at_ : J p = some (.dK kvs)
  val : ∀ s ∈ A, ∃ v, valV kvs (kI s) = some v ∧ Da K J v (oV (see r s))
def spTells (K : PySem.W.Frag) : Sp := fun vs H Q _ => ∃ J p kvs r q A u x, vs = [.ref p, u, x] ∧ (DL.Sub J H ∧ SeenAt K J p kvs r A) ∧ (Da K J u (rD q) ∧ Da K J x (.list (oD A))) ∧ (Gd r ∧ q.Sublist r) ∧ ∀ J' H', Tr Md.pure J H J' H' → Q (.bl (decide (Tells r q A))) H'
theorem et_tells {K : PySem.W.Frag} {M : Md} {σ : L2.St} {J H : Hp} {ta tb : TE} {E : XK} {k : Nat} {p : Addr} {kvs : List (Key × V)} {r q : List Ver} {A : List Int} (hs : σ[k]? = some (some (.ref p))) (S : SeenAt K J p kvs r A) (hq : EvD K M ta σ J H (rD q)) (hA : EvD K M tb σ J H (.list (oD A))) (hg : Gd r) (hp : q.Sublist r) :
    EvT M (tB (tCall (spTells K) [] E (tCons (tVar k) (tCons ta (tCons tb tNil))))) σ J H (· = decide (Tells r q A)) := fun J1 H1 w t Q z =>
  ⟨.ref p, hs, hq J1 H1 w t _ fun u d J2 H2 w2 t2 e a => hA J2 H2 w2 (t.trans t2) _ fun x d' J3 H3 w3 t3 e' a' => by
    subst e
    subst e'
    have sj := ((t.trans t2).trans t3).jj
    refine ⟨J3, p, kvs, r, q, A, u, x, rfl, ⟨w3.jh, sj _ _ S.at_, fun s hs => ?_⟩, ⟨t3.jj.da a, a'⟩, ⟨hg, hp⟩, fun J' H' t4 => ⟨_, rfl, ?_⟩⟩
    · obtain ⟨v, h1, h2⟩ := S.val s hs
      exact ⟨v, h1, sj.da h2⟩
    · exact z _ J' H' ((w3.lift t4).wf w3) ((t2.trans t3).trans (w3.lift t4)) rfl⟩
def T1 (r q : List Ver) (s : Int) : Prop := see q s = see r s ∨ (see q s = none ∧ ∃ v, see r s = some v ∧ no v = true)
section
variable {P : Program} {w : World} {K : PySem.W.Frag} {mg : Str → Option Value} {base : Heap} {f : Addr} {fd : FuncData}
theorem ok__law_tells (F : FnP K "_law_tells" s__law_tells f fd) (T : Fx mg) (C__law_sees : Ca P w K mg base CX0 1 "_law_sees" ["_law_row_here", "_law_stamp"] (spSees K)) : FnOk P w K mg base CX0 2 f fd ["_law_seen", "_law_part", "_law_stamps"] (spTells K) := by
  have nd := sc__law_tells.nd
  refine F.ok sc__law_tells (fun vs H Q E h => ?_) (fun cdv A outer s H vs Q E hr h => ?_)
  · obtain ⟨_, _, _, _, _, _, _, _, rfl, _⟩ := h
    rfl
  have hu := hr.units
  have hu1 : A.units + 3 + 1 < cLine := by have := hr.un; have e : (A.deeper (envOfC "_law_tells" (defScope s__law_tells) s.heap.objs.size f cdv)).units = A.units + 3 := rfl; omega
  refine ⟨_, PSs.nox ((pss_cons (ps_for PassesOwn.never rfl (pi_list (pv 2)) (pg_name (i := 3) nd rfl (Or.inl rfl))
 (pss_cons (ps_set (i := 4) nd rfl (Or.inl rfl) (xCall C__law_sees (hr.mono (by decide)) pass0 (pa_cons (pv 1) (pa_cons (pv 3) pa_nil))))
 (pss_one (ps_if (PW.pt (pw_and (pt_cmpR (op_neD hu) (pv 4) (pe_dget hu1 (pv 0) (pv 3) (fun _ _ => rfl)) (nomark _)) (pw_and1 (PW.pt (pw_or (pt_cmpR op_notNo (pv 4) pe_non (nomark _)) (pw_or1 (pt_cmpR op_notNo (xIx (pe_dget hu1 (pv 0) (pv 3) (fun _ _ => rfl)) pe_int) pe_non (nomark _)))))))) (pss_one (ps_ret pe_bl))
 pss_nil))))
 (pss_one (ps_ret pe_bl)))), ?_⟩
  dsimp only [cxOf]
  obtain ⟨J, p, kvs, r, q, As, u, x, rfl, ⟨s0, S⟩, ⟨au, ax⟩, ⟨hg, hp⟩, z⟩ := h
  have w0 : Wf Md.pure J H := ⟨s0, trivial, nofun⟩
  have hq := hg.part hp
  refine s_forD (K := K) (oD As) (fun i σ' J' H' => DL.Sub J' H' ∧ (∀ s ∈ As.take i, T1 r q s) ∧ ∃ o3 o4, σ' = [some (.ref p), some u, some x, o3, o4]) w0 w0.tr (ew_listD (ev_var rfl ax)) ?_ ?_ ?_ ?_
  · intro J2 H2 w2 t2
    exact ⟨w2.jh, nofun, none, none, rfl⟩
  · rintro i σ' J' H' X xs ⟨sj, h1, h2⟩ hT
    exact ⟨sj.both, h1, h2⟩
  · rintro i d y σ' J2 J' H' hi w' t' s1 s2 ⟨sj, ht, o3, o4, rfl⟩ ay
    obtain ⟨s, hs, rfl⟩ := oD_at hi
    rw [da_int ay]
    have sA : s ∈ As := List.mem_of_getElem? hs
    obtain ⟨sv, hv1, hv2⟩ := S.val s sA
    have jj := t'.jj
    refine s_asgD (K := K) (d := oV (see q s)) w' (ev_sees (ev_var rfl (jj.da au)) (ev_var rfl (.int _))) fun v4 J4 H4 w4 t4 a4 => ?_
    dsimp only
    have j4 := jj.trans t4.jj
    have hr1 : ∀ v, see q s = some v → v ∈ r := fun v e => hp.subset (see_mem e).1
    have hr2 : ∀ v, see r s = some v → v ∈ r := fun v e => (see_mem e).1
    have dg : ∀ {J5 H5 : Hp}, DL.Sub J4 J5 → EvD K Md.pure (tDGet (tVar 0) (tVar 3)) [some (.ref p), some u, some x, some (.int s), some v4] J5 H5 (oV (see r s)) := fun {J5 H5} sub => ev_dget rfl (sub _ _ (j4 _ _ S.at_)) (ev_var rfl (.int _)) hv1 (sub.da (j4.da hv2))
    refine s_ifD (b := decide (¬ T1 r q s)) w4 ?_ (fun hb J5 H5 w5 t5 => ?_) (fun hb J5 H5 w5 t5 => ?_)
    · refine et_eq (et_andD (a := !decide (see q s = see r s)) (b := (see q s).isSome || (match see r s with | some v => !no v | none => false)) (et_testD (K := K) (ev_eq (ev_opD (dx := oV (see q s)) (dy := oV (see r s)) (ev_var rfl a4) (dg (DL.Sub.refl _)) (od_ne ((sh_opt hg hr1).shaped (by decide)) ((sh_opt hg hr2).shaped (by decide)))) ?_)) fun ha => et_orD (et_testD (K := K) (ev_eq (ev_opD (dx := oV (see q s)) (ev_var rfl a4) ev_non od_notN) ?_)) fun hb => ?_) ?_
      · rw [eqv_opt hg hr1 hr2]
      · cases see q s <;> rfl
      · cases er : see r s with
        | none =>
          cases eq : see q s with
          | none => rw [er, eq] at ha; simp at ha
          | some v => rw [eq] at hb; cases hb
        | some v =>
          refine et_testD (K := K) (ev_eq (ev_opD (ev_snd (v := v) (ev_eq (dg (DL.Sub.refl _)) (by rw [er]; rfl))) ev_non od_notN) rfl)
      · rw [Bool.eq_iff_iff, decide_eq_true_eq]
        unfold T1
        by_cases e : see q s = see r s
        · rw [decide_eq_true e]
          constructor
          · intro h; cases h
          · intro h; exact (h (.inl e)).elim
        · rw [decide_eq_false e]
          cases eq : see q s with
          | some v =>
            constructor
            · intro _ h
              rcases h with h | ⟨h, _⟩
              · exact e (eq.trans h)
              · cases h
            · intro _; rfl
          | none =>
            cases er : see r s with
            | none => exact (e (by rw [eq, er])).elim
            | some v =>
              show (!no v) = true ↔ _
              cases hn : no v with
              | true =>
                constructor
                · intro h; cases h
                · intro h; exact (h (.inr ⟨rfl, v, rfl, hn⟩)).elim
              | false =>
                constructor
                · rintro _ (h | ⟨_, v', ev, hv⟩)
                  · cases h
                  · cases ev
                    rw [hn] at hv
                    cases hv
                · intro _; rfl
    · refine s_retD (K := K) (d := .bool false) w5 ev_bl fun v6 J6 H6 w6 t6 a6 => ?_
      rw [da_bl a6]
      have e : decide (Tells r q As) = false := decide_eq_false fun h => of_decide_eq_true hb (h s sA)
      rw [← e]
      exact z J6 H6 (((t'.trans t4).trans t5).trans t6)
    · refine s_next ?_
      refine ⟨J5, w5, (t'.trans t4).trans t5, s2.trans (t4.trans t5).jj, w5.jh, fun s' hs' => ?_, some (.int s), some v4, rfl⟩
      rw [take_snoc hs] at hs'
      rcases List.mem_append.mp hs' with h | h
      · exact ht s' h
      · rw [List.mem_singleton.mp h]
        exact Classical.not_not.mp (of_decide_eq_false hb)
  · rintro σ' J' H' w' t' s1 ⟨sj, ht, o3, o4, rfl⟩
    rw [oD_len, List.take_length] at ht
    dsimp only
    refine s_retD (K := K) (d := .bool true) w' ev_bl fun v6 J6 H6 w6 t6 a6 => ?_
    rw [da_bl a6]
    have e : decide (Tells r q As) = true := decide_eq_true fun s hs => ht s hs
    rw [← e]
    exact z J6 H6 (t'.trans t6)
end
end K19

namespace K19
open PySem PySem.Spec
open PyProof.Rows L2 DL
open Classical
local macro_rules | `(tactic| walk_at "rep") => `(tactic| first | assumption | exact Da.int _ | exact Da.bl _ | exact Da.str _ | exact Da.non | exact Sub.da (by assumption) (by assumption) | exact Sub.da (Tr.jj (by assumption)) (by assumption))
local macro_rules | `(tactic| walk_at "arith") => `(tactic| first | assumption | omega | decide | exact cmul_small (by omega) (by omega) | exact cdiv_small (by omega) (by omega))
local macro_rules | `(tactic| walk_at "shp") => `(tactic| first | exact sh_int _ | exact sh_tup _ | exact sh_list _ | assumption)
local macro_rules | `(tactic| walk_at "od") => `(tactic| first
  | with_reducible exact od_plus
  | with_reducible exact od_sub
  | ((with_reducible refine' od_mul ?h1); walk_at "arith")
  | ((with_reducible refine' od_mod ?h1); walk_at "arith")
  | ((with_reducible refine' od_fdiv ?h1); walk_at "arith")
  | ((with_reducible refine' od_pow ?h1); exact ⟨by decide, by decide, by decide⟩)
  | with_reducible exact od_lt | with_reducible exact od_le | with_reducible exact od_gt | with_reducible exact od_ge
  | ((with_reducible refine' od_plusT ?h1); walk_at "arith")
  | ((with_reducible refine' od_plusL ?h1); walk_at "arith")
  | ((with_reducible refine' od_plusS ?h1); walk_at "arith")
  | with_reducible exact od_isN | with_reducible exact od_notN
  | ((with_reducible refine od_eq ?_ ?_) <;> walk_at "shp")
  | ((with_reducible refine od_ne ?_ ?_) <;> walk_at "shp")
  | ((with_reducible refine od_inL ?_ ?_) <;> walk_at "shp")
  | ((with_reducible refine od_ixL ?_); assumption)
  | ((with_reducible refine od_ixT ?_); assumption))
local macro_rules | `(tactic| walk_at "ea") => `(tactic| first | with_reducible exact ea_nil | ((with_reducible refine' ea_consD ?h1 ?h2); (case h1 => walk_at "ev"); (case h2 => walk_at "ea")))
local macro_rules | `(tactic| walk_at "eo") => `(tactic| first | with_reducible exact eo_none | ((with_reducible refine' eo_at ?h1); (case h1 => walk_at "ev")))
local macro_rules | `(tactic| walk_at "cd") => `(tactic| first
  | with_reducible exact cd_lenL | with_reducible exact cd_lenT | with_reducible exact cd_tupL | with_reducible exact cd_tupT | with_reducible exact cd_lstL | with_reducible exact cd_lstT | with_reducible exact cd_abs | with_reducible exact cd_int)
local macro_rules | `(tactic| walk_at "ev") => `(tactic| first
  | with_reducible exact ev_int | with_reducible exact ev_bl | with_reducible exact ev_str | with_reducible exact ev_non
  | ((with_reducible refine' ev_var ?h1 ?h2); (case h1 => exact rfl); (case h2 => walk_at "rep"))
  | ((with_reducible refine' ev_opD ?h1 ?h2 ?h3); (case h1 => walk_at "ev"); (case h2 => walk_at "ev"); (case h3 => walk_at "od"))
  | ((with_reducible refine' ev_tupD ?h1); (case h1 => walk_at "ea"))
  | ((with_reducible refine' ev_lstD ?h1); (case h1 => walk_at "ea"))
  | ((with_reducible refine' ev_revL ?h1); (case h1 => walk_at "ev"))
  | ((with_reducible refine' ev_slD ?h1 ?h2 ?h3 ?h4); (case h1 => walk_at "ev"); (case h2 => walk_at "eo"); (case h3 => walk_at "eo"); (case h4 => first | with_reducible exact sd_tup | with_reducible exact sd_list))
  | ((with_reducible refine' ev_cbD ?h1 ?h2); (case h1 => walk_at "ea"); (case h2 => walk_at "cd"))
  | ((with_reducible refine' ev_notV ?h1); (case h1 => walk_at "ev"))
  | assumption)
local macro_rules | `(tactic| walk_at "et") => `(tactic| first
  | ((with_reducible refine' et_testD ?h1); (case h1 => walk_at "ev"))
  | ((with_reducible refine' et_BD ?h1); (case h1 => walk_at "ev"))
  | ((with_reducible refine' et_notD ?h1); (case h1 => walk_at "et"))
  | ((with_reducible refine' et_andD ?h1 ?h2); (case h1 => walk_at "et"); (case h2 => intro _; walk_at "et"))
  | ((with_reducible refine' et_orD ?h1 ?h2); (case h1 => walk_at "et"); (case h2 => intro _; walk_at "et"))
  | assumption)
abbrev s_law : Stmt := top 16
abbrev N_law : List Str := ["_law_script", "_law_deal_here", "_law_row_here", "_law_end", "_law_stamps", "_law_told", "_law_asked", "_law_seen", "_law_part", "_law_some", "_law_due", "_law_stamp", "_law_version"]
theorem sc_law : FnScope N_law ["_law_script"] (defScope s_law) := ⟨rfl, rfl, rfl, by decide +kernel, rfl, by decide +kernel, by decide +kernel⟩
def spLaw (K : PySem.W.Frag) : Sp := fun vs H Q _ => ∃ (a : Addr) (ns : List Int), vs = [.ref a] ∧ SqL K H a (ns.map V.int) ∧ ∀ H', Q (.bl true) H'
/-! ### what the law asks, one by one -/
section
variable {K : PySem.W.Frag} {M : Md} {σ : L2.St} {J H : Hp} {te ta tb : TE}
theorem et_isTup {ds : List PyData} (h : EvD K M te σ J H (.tuple ds)) : EvT M (tB (tCB (rIsi K) (tCons te (tCons (tC (.ty "tuple")) tNil)))) σ J H (· = true) := fun J1 H1 w t Q q =>
  h J1 H1 w t _ fun v d J2 H2 w2 t2 e a => by
    subst e
    exact ⟨v, .ty "tuple", .type "tuple", .type "tuple", true, rfl, .ty _, ty_tup a w2.jh, kit_self _, true, rfl, q true J2 H2 w2 t2 rfl⟩
/-- a text among texts -/
theorem das_strs {J : Hp} : ∀ {vs : List V} {ss : List Str}, Das K J vs (ss.map PyData.str) → vs = ss.map V.str
  | [], [], _ => rfl
  | [], _ :: _, h => by cases h
  | _ :: _, [], h => by cases h
  | _ :: _, _ :: _, h => by
    cases h with
    | cons a b => rw [da_str a, das_strs b]; rfl
theorem od_niS {x : Str} {ss : List Str} (hx : x ∈ ss) : OpD K M (rIn K true) (.str x) (.list (ss.map PyData.str)) (· = .bool false) := fun a b J H w ax ay Q q => by
  obtain ⟨p, xs, rfl, hl, hd⟩ := da_lst ay
  have e := das_strs hd
  subst e
  rw [da_str ax]
  refine ⟨p, _, rfl, .inl (.of (w.jh _ _ hl)), rfl, ?_, ?_⟩
  · rw [List.all_map]
    exact List.all_eq_true.mpr fun y _ => rfl
  · have e : inV (.str x) (ss.map V.str) = true := List.any_eq_true.mpr ⟨.str x, List.mem_map.mpr ⟨x, hx, rfl⟩, by show eqV (.str x) (.str x) = true; simp [eqV]⟩
    rw [e]
    exact q _ _ J H w w.tr rfl (.bl _)
end
/-- where the law's stamps end -/
def endM (r : List Ver) : Int := (match r.getLast? with | some v => v.1 | none => 0) + 2
theorem endM_hi {r : List Ver} (h : Gd r) : 2 ≤ endM r ∧ endM r ≤ 20 := by
  unfold endM
  cases e : r.getLast? with
  | none => exact ⟨by decide, by decide⟩
  | some v =>
    have gv := h.all v (List.mem_of_getLast? e)
    have l1 := gv.lo
    have l2 := gv.hi
    dsimp only
    omega
theorem endM_all {r : List Ver} (h : Gd r) : ∀ v ∈ r, v.1 ≤ endM r + 5 := by
  intro v hv
  cases hr : r.reverse with
  | nil => rw [List.reverse_eq_nil_iff.mp hr] at hv; cases hv
  | cons u t =>
    have e : r = t.reverse ++ [u] := by rw [← List.reverse_reverse r, hr, List.reverse_cons]
    have e2 : r.getLast? = some u := by rw [e, List.getLast?_append]; rfl
    unfold endM
    rw [e2]
    have ha := h.asc
    rw [e] at ha hv
    rcases List.mem_append.mp hv with hv | hv
    · have := (List.pairwise_append.mp ha).2.2 v hv u (List.mem_singleton.mpr rfl)
      dsimp only
      omega
    · rw [List.mem_singleton.mp hv]
      dsimp only
      omega
theorem eqv_empty (r : List Ver) : PyData.eqv (rD r) (.tuple []) = r.isEmpty := by cases r <;> rfl
theorem any_ver {r p : List Ver} (h : Gd r) (hp : p.Sublist r) {v : Ver} (hv : v ∈ r) : ((p.map vD).any fun z => PyData.eqv z (vD v)) = decide (v ∈ p) := by
  rw [List.any_map, Bool.eq_iff_iff, decide_eq_true_eq]
  constructor
  · intro h1
    obtain ⟨u, hu, e⟩ := List.any_eq_true.mp h1
    have e' : PyData.eqv (vD u) (vD v) = true := e
    rw [eqv_ver h (hp.subset hu) hv] at e'
    rw [← of_decide_eq_true e']
    exact hu
  · intro h1
    exact List.any_eq_true.mpr ⟨v, h1, (sh_ver (h.all v hv)).refl⟩
section
variable {P : Program} {w : World} {K : PySem.W.Frag} {mg : Str → Option Value} {base : Heap} {f : Addr} {fd : FuncData}
theorem ok_law (F : FnP K "law" s_law f fd) (T : Fx mg) (C__law_deal : Ca P w K mg base CX0 1 "_law_deal" ["_law_script", "_law_base"] (spHeap K)) (C__law_row : Ca P w K mg base CX0 3 "_law_row" ["_law_deal_here"] (spRow K))
    (C__law_lot : Ca P w K mg base CX0 2 "_law_lot" ["_law_deal_here", "_law_some"] (spLot K)) (C_kept : Ca P w K mg base CX0 3 "kept" ["row", "stamps"] (spKept K)) (C_kept_Kstamps_row : CaR P w K mg base CX0 3 "kept" ["row", "stamps"] ["stamps", "row"] (spKept K))
    (C__law_sees : Ca P w K mg base CX0 1 "_law_sees" ["_law_row_here", "_law_stamp"] (spSees K)) (C__law_tells : Ca P w K mg base CX0 2 "_law_tells" ["_law_seen", "_law_part", "_law_stamps"] (spTells K)) (C__law_parts : Ca P w K mg base CX0 1 "_law_parts" ["_law_row_here"] (spParts K))
    (C__law_kept : Ca P w K mg base CX0 2 "_law_kept" ["_law_row_here", "_law_stamps"] (spLKept K)) :
    FnG P w K mg base CX0 6 f fd ["_law_script"] (spLaw K) := by
  have nd := sc_law.nd
  refine fn_g F sc_law (fun vs H Q E h => ?_) (fun cdv A outer s H vs Q E hG hr h => ?_)
  · obtain ⟨a, ns, rfl, _⟩ := h
    rfl
  have hu := hr.units
  have hu1 : A.units + 3 + 65 < cLine := by have := hr.un; have e : (A.deeper (envOfC "law" (defScope s_law) s.heap.objs.size f cdv)).units = A.units + 3 := rfl; omega
  refine ⟨_, PSs.nox ((pss_cons (ps_set (i := 1) nd rfl (Or.inl rfl) (xCall C__law_deal (hr.mono (by decide)) pass0 (pa_cons (pv 0) (pa_cons pe_int pa_nil))))
 (pss_cons (ps_set (i := 2) nd rfl (Or.inr rfl) (xCall C__law_row (hr.mono (by decide)) pass0 (pa_cons (pv 1) pa_nil)))
 (pss_cons (ps_set (i := 3) nd rfl (Or.inl rfl) (pe_op op_plus (pe_ifExp (pt_cmpR (op_neD hu) (pv 2) (pe_tup pa_nil) (nomark _)) (xIx (xIx (pv 2) (pe_un un_neg pe_int)) pe_int) pe_int) pe_int))
 (pss_cons (ps_set (i := 4) nd rfl (Or.inl rfl) (xCall C__law_lot (hr.mono (by decide)) pass0 (pa_cons (pv 1) (pa_cons (pe_listRg rfl rfl T.b_list (prg_1 rfl T.b_range (pe_op op_plus (pv 3) pe_int))) pa_nil))))
 (pss_cons (ps_set (i := 5) nd rfl (Or.inl rfl) (xCall C_kept (hr.mono (by decide)) pass0 (pa_cons (pv 2) (pa_cons (pv 4) pa_nil))))
 (pss_cons (ps_set (i := 6) nd rfl (Or.inl rfl) (pe_op op_plus (xT (rLstOf _) cl_lst T.b_list (pa_cons (pv 4) pa_nil)) (pe_lst (pa_cons (pe_op op_plus (pv 3) pe_int) pa_nil))))
 (pss_cons (ps_set (i := 7) nd rfl (Or.inl rfl) (xT (rDictP _) (cl_dictP rfl) T.b_dict (pa_cons (pe_lc (own := [("_law_stamp", 11)]) (g := gName 11) rfl nd (pi_list (pv 6)) (blkOk_by (own := [("_law_stamp", 11)]) (N := N_law) (sc := defScope s_law) (by decide +kernel)) (fun _ _ _ _ _ => (pg_name (i := 11) nd rfl (Or.inl rfl))) (fun _ _ _ _ _ => pts_nil) (fun _ _ _ _ _ => (pe_tup (pa_cons (pv 11) (pa_cons (xCall C__law_sees (hr.mono (by decide)) pass0 (pa_cons (pv 2) (pa_cons (pv 11) pa_nil))) pa_nil))))) pa_nil)))
 (pss_cons (ps_if (PW.pt (pw_or (pt_not (pt_val (xB (rIsi _) call_isi T.b_isinstance (pa_cons (pv 5) (pa_cons (pe_bltn (v := .ty "tuple") rfl T.b_tuple rfl rfl) pa_nil))))) (pw_or (pt_not (pt_val (xCall C__law_tells (hr.mono (by decide)) pass0 (pa_cons (pv 7) (pa_cons (pv 5) (pa_cons (pv 6) pa_nil)))))) (pw_or1 (pt_cmpR op_gt (xB (rLen _) cl_len T.b_len (pa_cons (pv 5) pa_nil)) (pe_op op_plus (xB (rLen _) cl_len T.b_len (pa_cons (pv 4) pa_nil)) pe_int) (nomark _)))))) (pss_one (ps_ret pe_bl))
 pss_nil)
 (pss_cons (ps_if (PW.pt (pw_or (pt_cmpR op_ne (xB (rRepr _) (cl_repr hG hu) T.b_repr (pa_cons (xCallKr C_kept_Kstamps_row (hr.mono (by decide)) pass0 (pk_cons (pv 4) <| pk_cons (pv 2) <| pk_nil)) pa_nil)) (xB (rRepr _) (cl_repr hG hu) T.b_repr (pa_cons (pv 5) pa_nil)) (nomark _)) (pw_or1 (pt_cmpR op_notIn_seq (xB (rRepr _) (cl_repr hG hu) T.b_repr (pa_cons (pv 5) pa_nil)) (pe_lc (own := [("_law_part", 8)]) (g := gName 8) rfl nd (pi_list (xCall C__law_parts (hr.mono (by decide)) pass0 (pa_cons (pv 2) pa_nil))) (blkOk_by (own := [("_law_part", 8)]) (N := N_law) (sc := defScope s_law) (by decide +kernel)) (fun _ _ _ _ _ => (pg_name (i := 8) nd rfl (Or.inl rfl))) (fun _ _ _ _ _ => pts_nil) (fun _ _ _ _ _ => (xB (rRepr K) (cl_reprK K rfl hG hu) T.b_repr (pa_cons (pv 8) pa_nil)))) rfl)))) (pss_one (ps_ret pe_bl))
 pss_nil)
 (pss_cons (ps_for PassesOwn.never rfl (pi_list (xCall C__law_parts (hr.mono (by decide)) pass0 (pa_cons (pv 2) pa_nil))) (pg_name (i := 8) nd rfl (Or.inr rfl))
 (pss_cons (ps_if (PW.pt (pw_and (pt_cmpR op_le (xB (rLen _) cl_len T.b_len (pa_cons (pv 8) pa_nil)) (xB (rLen _) cl_len T.b_len (pa_cons (pv 5) pa_nil)) (nomark _)) (pw_and (pt_cmpR (op_neD hu) (pv 8) (pv 5) (nomark _)) (pw_and1 (pt_val (xCall C__law_tells (hr.mono (by decide)) pass0 (pa_cons (pv 7) (pa_cons (pv 8) (pa_cons (pv 6) pa_nil))))))))) (pss_one (ps_ret pe_bl))
 pss_nil)
 (pss_one (ps_if (PW.pt (pw_and (pt_val (xCall C__law_tells (hr.mono (by decide)) pass0 (pa_cons (pv 7) (pa_cons (pv 8) (pa_cons (pv 6) pa_nil))))) (pw_and1 (pt_cmpR (op_neD hu) (pe_lc (own := [("_law_version", 12)]) (g := gName 12) rfl nd (pi_tup (pv 5)) (blkOk_by (own := [("_law_version", 12)]) (N := N_law) (sc := defScope s_law) (by decide +kernel)) (fun _ _ _ _ _ => (pg_name (i := 12) nd rfl (Or.inl rfl))) (fun _ _ _ _ _ => pts_one (pt_cmpR (op_niTK K rfl hu1) (pv 12) (pv 8) rfl)) (fun _ _ _ _ _ => (pv 12))) (pe_lst pa_nil) (nomark _))))) (pss_one (ps_ret pe_bl))
 pss_nil))))
 (pss_cons (ps_set (i := 9) nd rfl (Or.inl rfl) (xCall C__law_lot (hr.mono (by decide)) pass0 (pa_cons (pv 1) (pa_cons (pv 4) pa_nil))))
 (pss_cons (ps_set (i := 10) nd rfl (Or.inl rfl) (xB (rRepr _) (cl_repr hG hu) T.b_repr (pa_cons (xCall C__law_kept (hr.mono (by decide)) pass0 (pa_cons (pv 2) (pa_cons (pv 9) pa_nil))) pa_nil)))
 (pss_one (ps_ret (pe_and (pe_cmpR op_eq (xB (rRepr _) (cl_repr hG hu) T.b_repr (pa_cons (xCall C_kept (hr.mono (by decide)) pass0 (pa_cons (pv 5) (pa_cons (pv 9) pa_nil))) pa_nil)) (pv 10) (nomark _)) (pe_and (pe_cmpR op_eq (xB (rRepr _) (cl_repr hG hu) T.b_repr (pa_cons (xCall C_kept (hr.mono (by decide)) pass0 (pa_cons (pv 2) (pa_cons (pv 9) pa_nil))) pa_nil)) (pv 10) (nomark _)) (pe_one (pe_cmpR (op_eqD hu) (xCall C_kept (hr.mono (by decide)) pass0 (pa_cons (pe_tup pa_nil) (pa_cons (pv 4) pa_nil))) (pe_tup pa_nil) (nomark _)))))))))))))))))))), ?_⟩
  dsimp only [cxOf]
  obtain ⟨a, ns, rfl, hS, q⟩ := h
  refine ⟨.ref a, rfl, a, ns, 0, rfl, hS, by decide, by decide, fun h g H0 keep hh hg0 ne ok => ?_⟩
  dsimp only
  have hd : HasDr (Md.draw h g) h g := Md.draw_has ne
  have w0 : Wf (Md.draw h g) (fun _ => none) H0 := by
    refine ⟨(fun _ _ e => nomatch e), ok, fun b hb => ⟨rfl, ?_⟩⟩
    obtain ⟨cs, n, e1, e2, _⟩ := ok
    rcases hb with rfl | rfl
    · rw [e1]; exact nofun
    · rw [e2]; exact nofun
  have lim : 2000 < sizeLine := by decide
  refine s_asg (K := K) (P := isRow) w0 (ev_callH (P := isRow) hd rfl ea_nil fun ds e => ⟨e, fun d p => p⟩) fun v2 d2 J2 H2 w2 t2 ⟨r, e2, hg⟩ a2 => ?_
  subst e2
  dsimp only
  have few := hg.few
  obtain ⟨el, eh⟩ := endM_hi hg
  refine s_asgI (K := K) (i := endM r) w2 ?_ fun J3 H3 w3 t3 => ?_
  · unfold endM
    refine ev_opD (dx := .int (match r.getLast? with | some v => v.1 | none => 0)) ?_ ev_int od_plus
    refine ev_if (Pb := (· = !r.isEmpty)) (et_testD (K := K) (ev_eq (ev_opD (dx := rD r) (dy := .tuple []) (ev_var rfl a2) (ev_tupD (ds := []) ea_nil (hl := by decide)) (od_ne ((sh_row hg).shaped (by decide)) (by decide))) (by rw [eqv_empty]))) (fun hb => ?_) fun hb => ?_
    · cases hr' : r.reverse with
      | nil => rw [List.reverse_eq_nil_iff.mp hr'] at hb; cases hb
      | cons u t =>
        have e : r = t.reverse ++ [u] := by rw [← List.reverse_reverse r, hr', List.reverse_cons]
        have e2 : r.getLast? = some u := by rw [e, List.getLast?_append]; rfl
        rw [e2]
        refine ev_fst (v := u) (ev_opD (dx := .tuple (r.map vD)) (ev_var rfl a2) (ev_neg ev_int) (od_ixT (atI_m1 (k := r.length - 1) ?_ ?_)))
        · rw [List.getElem?_map, ← List.getLast?_eq_getElem?, e2]; rfl
        · rw [List.length_map]
          have : 0 < r.length := by rw [e]; simp
          omega
    · have : r = [] := by cases r with | nil => rfl | cons _ _ => cases hb
      rw [this]
      exact ev_int
  dsimp only
  have a3 := t3.jj.da a2
  have en : ((endM r + 1).toNat : Int) = endM r + 1 := Int.toNat_of_nonneg (by omega)
  refine s_asg (K := K) (P := isLot (rg (endM r + 1).toNat)) w3 ?_ fun v4 d4 J4 H4 w4 t4 ⟨st, e4, hst, hsl⟩ a4 => ?_
  · refine ev_callH (P := isLot (rg (endM r + 1).toNat)) hd rfl (ea_consD (ev_listRg (n := (endM r + 1).toNat) ?_ (by omega)) ea_nil) fun ds e => ?_
    · rw [en]
      exact ev_opD (ev_var rfl (.int _)) ev_int od_plus
    · rw [e]
      exact ⟨⟨_, _, rfl, .inl rfl, by rw [rg_len]; omega⟩, fun d p => p _ _ rfl (.inl rfl)⟩
  subst e4
  dsimp only
  rw [rg_len] at hsl
  have hsl2 : st.length ≤ 21 := by omega
  have a5 := t4.jj.da a3
  have hb20 : ∀ v ∈ r, v.1 ≤ 20 := fun v hv => Int.le_trans (hg.all v hv).hi (by decide)
  have hbe := endM_all hg
  -- what the program keeps
  obtain ⟨told, htold⟩ : ∃ t, t = keptM r st := ⟨_, rfl⟩
  have k20 : told = K19.K r (st ++ [20]) := htold.trans (kept_eq hg.asc hb20 st)
  have kA : told = K19.K r (st ++ [endM r + 5]) := htold.trans (kept_eq hg.asc hbe st)
  have FA := kfacts hg.asc (st ++ [endM r + 5])
  rw [← kA] at FA
  have gt := hg.part FA.sub
  refine s_asgD (K := K) (d := rD told) w4 (ev_eq (ev_kept (ev_var rfl a5) (ev_var rfl a4) (by omega) (by omega)) (by rw [htold])) fun v5 J5 H5 w5 t5 b5 => ?_
  dsimp only
  have b4 := t5.jj.da a4
  have c2 := t5.jj.da a5
  obtain ⟨As, hAs⟩ : ∃ A, A = st ++ [endM r + 5] := ⟨_, rfl⟩
  have kAs : told = K19.K r As := by rw [hAs]; exact kA
  refine s_asgD (K := K) (d := .list (oD As)) w5 ?_ fun v6 J6 H6 w6 t6 b6 => ?_
  · refine ev_eq (ev_opD (dx := .list (oD st)) (dy := .list (oD [endM r + 5])) (ev_cbD (ea_consD (ev_var rfl b4) ea_nil) cd_lstT) (ev_lstD (ea_consD (ev_opD (ev_var rfl (.int _)) ev_int od_plus) ea_nil) (hl := by rw [oD_len]; exact (by decide : 1 ≤ 100000))) (od_plusL ?_)) ?_
    · rw [oD_len, oD_len]
      show st.length + 1 ≤ sizeLine
      omega
    · rw [oD_app, hAs]
  dsimp only
  have lA : As.length = st.length + 1 := by rw [hAs, List.length_append]; rfl
  have c2' := t6.jj.da c2
  refine s_dict (K := K) (f := fun s => oV (see r s)) (is := As) w6 ?_ fun p kvs J7 H7 w7 t7 hat hval => ?_
  · refine ev_eq (ev_lcMap (ds := oD As) (f := fun d => match d with | .int s => .tuple [.int s, oV (see r s)] | _ => .none) (ew_listD (ev_var rfl b6)) ?_ (fun x => rfl) ?_) ?_
    · rw [oD_len]; omega
    · intro d x J1 H1 hd' w1 t1 ax
      obtain ⟨n, hn⟩ := List.getElem?_of_mem hd'
      obtain ⟨s, _, rfl⟩ := oD_at hn
      exact ev_tupD (ea_consD (ev_var rfl ax) (ea_consD (ev_sees (ev_var rfl (t1.jj.da c2')) (ev_var rfl ax)) ea_nil))
    · unfold oD
      rw [List.map_map]
      rfl
  dsimp only
  have S : SeenAt K J7 p kvs r As := ⟨hat, hval⟩
  have c3 := t7.jj.da c2'
  have b4' := (t6.trans t7).jj.da b4
  have b5' := (t6.trans t7).jj.da b5
  have b6' := t7.jj.da b6
  have tt : Tells r told As := by rw [kAs]; exact k_tells hg.asc As
  have ll : told.length ≤ st.length + 1 := by
    have := k_len hg.asc As
    rw [← kAs, lA] at this
    exact this
  have shT := (sh_row gt).tells (by decide) (by decide)
  refine s_ifD (b := false) w7 ?_ (fun hb => by cases hb) fun _ J8 H8 w8 t8 => s_next ?_
  · refine et_eq (et_orD (a := false) (b := false) (et_eq (et_notD (et_isTup (ev_var rfl b5'))) rfl) fun _ => et_eq (et_orD (a := false) (b := false) (et_eq (et_notD (et_tells rfl S (ev_var rfl b5') (ev_var rfl b6') hg FA.sub)) (by rw [decide_eq_true tt]; rfl)) fun _ => ?_) rfl) rfl
    refine et_testD (K := K) (ev_eq (ev_opD (dx := .int (told.length : Int)) (dy := .int ((st.length : Int) + 1)) (ev_eq (ev_cbD (ds := [.tuple (told.map vD)]) (ea_consD (ev_var rfl b5') ea_nil) cd_lenT) (by rw [List.length_map])) (ev_opD (ev_eq (ev_cbD (ds := [.tuple (oD st)]) (ea_consD (ev_var rfl b4') ea_nil) cd_lenT) (by rw [oD_len])) ev_int od_plus) od_gt) ?_)
    rw [decide_eq_false (by omega)]
  dsimp only
  have S8 : SeenAt K J8 p kvs r As := ⟨t8.jj _ _ hat, fun s hs => by obtain ⟨v, h1, h2⟩ := hval s hs; exact ⟨v, h1, t8.jj.da h2⟩⟩
  have c4 := t8.jj.da c3
  have b4'' := t8.jj.da b4'
  have b5'' := t8.jj.da b5'
  have b6'' := t8.jj.da b6'
  have pl : (parts r).length ≤ 64 := by
    rw [parts_len]
    exact Nat.le_trans (Nat.pow_le_pow_right (by decide) few) (by decide)
  have evp : ∀ {J9 H9 : Hp} {σ : L2.St}, σ[2]? = some (some v2) → Da K J9 v2 (rD r) → EvD K (Md.draw h g) (tCall (spParts K) [] E0 (tCons (tVar 2) tNil)) σ J9 H9 (.list ((parts r).map rD)) := fun {J9 H9 σ} hs hx =>
    (ev_callD (ds := [rD r]) (ea_consD (ev_var hs hx) ea_nil) (spF_D ⟨r, rfl, few⟩)).mono fun d e => e r rfl
  have mt : told ∈ parts r := (parts_mem r told).mpr FA.sub
  refine s_ifD (b := false) w8 ?_ (fun hb => by cases hb) fun _ J9 H9 w9 t9 => s_next ?_
  · refine et_eq (et_orD (a := false) (b := false) (et_testD (K := K) ?_) fun _ => et_testD (K := K) ?_) rfl
    · refine ev_eq (ev_opD (dx := .str (rD told).shown) (dy := .str (rD told).shown) (ev_cbD (ea_consD (ev_eq (ev_callKr (ea_consD (ev_var rfl b4'') (ea_consD (ev_var rfl c4) ea_nil)) rfl (spF_D ⟨r, st, rfl, by omega, by omega⟩) |>.mono fun d e => e r st rfl) (by rw [← htold])) ea_nil) (cd_repr shT.1 shT.2.1 shT.2.2)) (ev_cbD (ea_consD (ev_var rfl b5'') ea_nil) (cd_repr shT.1 shT.2.1 shT.2.2)) od_neS) ?_
      simp
    · refine ev_opD (dx := .str (rD told).shown) (dy := .list (((parts r).map fun p => (rD p).shown).map PyData.str)) (ev_cbD (ea_consD (ev_var rfl b5'') ea_nil) (cd_repr shT.1 shT.2.1 shT.2.2)) ?_ (od_niS (List.mem_map.mpr ⟨told, mt, rfl⟩))
      refine ev_eq (ev_lcMap (ds := (parts r).map rD) (f := fun d => .str d.shown) (ew_listD (evp rfl c4)) ?_ (fun x => rfl) ?_) ?_
      · rw [List.length_map]; omega
      · intro d x J1 H1 hd' w1 t1 ax
        obtain ⟨pt, hpt, rfl⟩ := List.mem_map.mp hd'
        have sh := (sh_row (hg.part ((parts_mem r pt).mp hpt))).tells (by decide) (by decide)
        exact ev_cbD (ea_consD (ev_var rfl ax) ea_nil) (cd_repr sh.1 sh.2.1 sh.2.2)
      · rw [List.map_map, List.map_map]
        rfl
  dsimp only
  have S9 : SeenAt K J9 p kvs r As := ⟨t9.jj _ _ (t8.jj _ _ hat), fun s hs => by obtain ⟨v, h1, h2⟩ := S8.val s hs; exact ⟨v, h1, t9.jj.da h2⟩⟩
  have c5 := t9.jj.da c4
  have d4 := t9.jj.da b4''
  have d5 := t9.jj.da b5''
  have d6 := t9.jj.da b6''
  refine s_forD (K := K) ((parts r).map rD) (fun i σ' J' H' => ∃ o8, σ' = [some (.ref a), some (.ref h), some v2, some (.int (endM r)), some v4, some v5, some v6, some (.ref p), o8, none, none, none, none]) w9 w9.tr (ew_listD (evp rfl c5)) (fun J2 H2 _ _ => ⟨none, rfl⟩) (fun i σ' J' H' T xs h _ => h) ?_ ?_
  · rintro i d x σ' J2 J' H' hi w' t' s1 s2 ⟨o8, rfl⟩ ax
    obtain ⟨pt, hpt, rfl⟩ := List.mem_map.mp (List.mem_of_getElem? hi)
    have hsub := (parts_mem r pt).mp hpt
    have gp := hg.part hsub
    have ss := s1.trans s2
    have SS : ∀ {J5 : Hp}, DL.Sub J' J5 → SeenAt K J5 p kvs r As := fun {J5} u => ⟨u _ _ (ss _ _ S9.at_), fun s hs => by obtain ⟨v, h1, h2⟩ := S9.val s hs; exact ⟨v, h1, u.da (ss.da h2)⟩⟩
    have e5 := ss.da d5
    have e6 := ss.da d6
    have least : Tells r pt As → ∀ v ∈ told, v ∈ pt := fun ht => by rw [kAs]; exact k_least hg.asc As hsub ht
    refine s_ifD (b := false) w' ?_ (fun hb => by cases hb) fun _ J1 H1 w1 t1 => s_next ?_
    · refine et_eq (et_andD (a := decide ((pt.length : Int) ≤ told.length)) (b := (!PyData.eqv (rD pt) (rD told)) && decide (Tells r pt As)) (et_testD (K := K) ?_) fun _ => et_andD (et_testD (K := K) (ev_opD (dx := rD pt) (dy := rD told) (ev_var rfl ax) (ev_var rfl e5) (od_ne ((sh_row gp).shaped (by decide)) ((sh_row gt).shaped (by decide))))) fun _ => et_tells rfl (SS (DL.Sub.refl _)) (ev_var rfl ax) (ev_var rfl e6) hg hsub) ?_
      · exact ev_opD (ev_eq (ev_cbD (ds := [.tuple (pt.map vD)]) (ea_consD (ev_var rfl ax) ea_nil) cd_lenT) (by rw [List.length_map])) (ev_eq (ev_cbD (ds := [.tuple (told.map vD)]) (ea_consD (ev_var rfl e5) ea_nil) cd_lenT) (by rw [List.length_map])) od_le
      · by_cases hl : (pt.length : Int) ≤ told.length
        · by_cases ht : Tells r pt As
          · have e := part_eq hg.asc hsub FA.sub (least ht) (by omega)
            rw [e, (sh_row gt).refl]
            simp
          · rw [decide_eq_false ht]
            simp
        · rw [decide_eq_false hl]
          rfl
    dsimp only
    have e5' := t1.jj.da e5
    have e6' := t1.jj.da e6
    have ax' := t1.jj.da ax
    refine s_ifD (b := false) w1 ?_ (fun hb => by cases hb) fun _ J3 H3 w3 t3 => s_next ?_
    · refine et_eq (et_andD (a := decide (Tells r pt As)) (b := !(told.filter fun v => !decide (v ∈ pt)).isEmpty) (et_tells rfl (SS t1.jj) (ev_var rfl ax') (ev_var rfl e6') hg hsub) fun _ => et_testD (K := K) ?_) ?_
      · refine ev_eq (ev_opD (dx := .list ((told.filter fun v => !decide (v ∈ pt)).map vD)) (dy := .list []) ?_ (ev_lstD ea_nil) (od_ne (rows_sh (gt.part List.filter_sublist)) (by decide))) ?_
        · refine ev_eq (ev_lcFilter (ds := told.map vD) (f := id) (c := fun d => !((pt.map vD).any fun z => PyData.eqv z d)) (ew_tupD (ev_var rfl e5')) ?_ (fun x => rfl) ?_ ?_) ?_
          · rw [List.length_map]
            have := gt.few
            omega
          · intro d y J4 H4 hd' w4 t4 ay
            obtain ⟨v, hv, rfl⟩ := List.mem_map.mp hd'
            exact et_testD (K := K) (ev_opD (dx := vD v) (dy := .tuple (pt.map vD)) (ev_var rfl ay) (ev_var rfl (t4.jj.da ax')) (od_niT ((sh_ver (gt.all v hv)).shaped (by decide)) ((sh_row gp).shaped (by decide))))
          · intro d y J4 H4 hd' _ w4 t4 ay
            exact ev_var rfl ay
          · rw [List.map_id, List.filter_map]
            refine congrArg PyData.list (congrArg (List.map vD) (List.filter_congr fun v hv => ?_))
            show (!((pt.map vD).any fun z => PyData.eqv z (vD v))) = _
            rw [any_ver hg hsub (FA.sub.subset hv)]
        · rw [eqv_nil, List.isEmpty_map]
      · by_cases ht : Tells r pt As
        · have e : (told.filter fun v => !decide (v ∈ pt)) = [] := List.filter_eq_nil_iff.mpr fun v hv => by rw [decide_eq_true (least ht v hv)]; simp
          rw [e]
          simp
        · rw [decide_eq_false ht]
          rfl
    · exact ⟨J3, w3, (t'.trans t1).trans t3, s2.trans (t1.trans t3).jj, some x, rfl⟩
  · rintro σ' J' H' w' t' s1 ⟨o8, rfl⟩
    dsimp only
    have f4 := s1.da d4
    have f5 := s1.da d5
    have f2 := s1.da c5
    refine s_asg (K := K) (P := isLot st) w' ?_ fun v9 d9 Ja Ha wa ta ⟨so, e9, hso, hsol⟩ a9 => ?_
    · refine ev_callH (P := isLot st) hd rfl (ea_consD (ev_var rfl f4) ea_nil) fun ds e => ?_
      rw [e]
      exact ⟨⟨_, _, rfl, .inr rfl, by omega⟩, fun d p => p _ _ rfl (.inr rfl)⟩
    subst e9
    dsimp only
    have g4 := ta.jj.da f4
    have g5 := ta.jj.da f5
    have g2 := ta.jj.da f2
    obtain ⟨due, hdue⟩ : ∃ t, t = K19.K r (so ++ [20]) := ⟨_, rfl⟩
    have Fd := kfacts hg.asc (so ++ [20])
    rw [← hdue] at Fd
    have shD := (sh_row (hg.part Fd.sub)).tells (by decide) (by decide)
    refine s_asgD (K := K) (d := .str (rD due).shown) wa ?_ fun vb Jb Hb wb tb' ab => ?_
    · refine ev_cbD (ea_consD ((ev_callD (ds := [rD r, .tuple (oD so)]) (ea_consD (ev_var rfl g2) (ea_consD (ev_var rfl a9) ea_nil)) (spF_D ⟨r, so, rfl, hg, by omega⟩)).mono fun d e => (e r so rfl).trans (by rw [hdue])) ea_nil) (cd_repr shD.1 shD.2.1 shD.2.2)
    dsimp only
    have h4 := tb'.jj.da g4
    have h5 := tb'.jj.da g5
    have h2 := tb'.jj.da g2
    have h9 := tb'.jj.da a9
    have k1 : keptM told so = due := by
      have e1 : keptM told so = K19.K told (so ++ [20]) := kept_eq gt.asc (fun v hv => hb20 v (FA.sub.subset hv)) so
      rw [e1, hdue]
      conv => lhs; rw [k20]
      refine k_again hg.asc fun s hs => ?_
      rcases List.mem_append.mp hs with hs | hs
      · exact List.mem_append_left _ (hso s hs)
      · exact List.mem_append_right _ hs
    have k2 : keptM r so = due := (kept_eq hg.asc hb20 so).trans hdue.symm
    refine s_retD (K := K) (d := .bool true) wb ?_ fun vc Jc Hc wc tc ac => by rw [da_bl ac]; exact q Hc
    refine ev_eq (ev_andV (a := true) (b := .bool true) (ev_eq (ev_opD (dx := .str (rD due).shown) (dy := .str (rD due).shown) (ev_cbD (ea_consD (ev_eq (ev_kept (ev_var rfl h5) (ev_var rfl h9) (by have := gt.few; omega) (by omega)) (by rw [k1])) ea_nil) (cd_repr shD.1 shD.2.1 shD.2.2)) (ev_var rfl ab) od_eqS) (by simp)) fun _ =>
      ev_eq (ev_andV (a := true) (b := .bool true) (ev_eq (ev_opD (dx := .str (rD due).shown) (dy := .str (rD due).shown) (ev_cbD (ea_consD (ev_eq (ev_kept (ev_var rfl h2) (ev_var rfl h9) (by omega) (by omega)) (by rw [k2])) ea_nil) (cd_repr shD.1 shD.2.1 shD.2.2)) (ev_var rfl ab) od_eqS) (by simp)) fun _ => ?_) rfl) rfl
    exact ev_eq (ev_opD (dx := .tuple []) (dy := .tuple []) (ev_eq (ev_kept (r := []) (st := st) (ev_tupD (ds := []) ea_nil (hl := by decide)) (ev_var rfl h4) (by decide) (by omega)) rfl) (ev_tupD (ds := []) ea_nil (hl := by decide)) (od_eq (by decide) (by decide))) rfl
end
end K19

namespace K19
open PySem PySem.Spec
open PyProof.Rows L2 DL
/-! ### the head -/
def dd (x : Str) (i : Nat) : He.DefD := ⟨(x, none), x, x, defArgs (top i), defBody (top i), defScope (top i), [], []⟩
def fn : List He.DefD := [dd "spans" 1, dd "in_span" 2, dd "can_be_seen" 4, dd "kept" 5, dd "_law_deal" 7, dd "_law_draw" 8, dd "_law_pick" 9, dd "_law_sees" 10, dd "_law_kept" 11, dd "_law_lot" 12, dd "_law_row" 13, dd "_law_tells" 14, dd "_law_parts" 15, dd "law" 16]
def fa : List He.Fa := [.free "len", .free "tuple", .free "list", .free "dict", .free "range", .free "int", .free "abs", .free "repr", .free "zip", .free "any", .free "sorted", .free "isinstance",
  .glo "spans", .glo "in_span", .glo "can_be_seen", .glo "kept", .glo "_law_deal", .glo "_law_draw", .glo "_law_pick", .glo "_law_sees", .glo "_law_kept", .glo "_law_lot", .glo "_law_row", .glo "_law_tells", .glo "_law_parts", .glo "law"]
abbrev R : PySem.W.OpenRow := PySem.W.OpenLaw.row PySem.Challenge.rw_spelledways_k19_whole_what_has_to_stay_o
def ex (K : PySem.W.Frag) : Bool := true
abbrev hk : PySem.W.Hook := He.hookX 6 fa fn [] [] ex
def ob (s : PySem.W.SharedT) : He.AlX := He.obsX 6 fa fn [] [] ex (HandSHeadRun.getT s)
theorem ob_eq (s : PySem.W.SharedT) : ob s = hk.obs s.abs := He.obsX_eq (HandSHeadRun.getT_eq s)
def loose : List Str := ["spans", "in_span", "can_be_seen", "kept", "_law_deal", "_law_draw", "_law_pick", "_law_sees", "_law_kept", "_law_lot", "_law_row", "_law_tells", "_law_parts"]
theorem run (w : World) : HandSHeadRun.RunEq R (PySem.W.view R.prog [16]) hk ob 4000 loose w := by
  intro os
  kernel_rfl
section
variable {P : Program} {w : World} {K : PySem.W.Frag} {h base : Heap} {mg : Str → Option Value}
theorem bd {x q : Str} {params : Arguments} {body : List Stmt} {scope : Scope} {f : Addr} {fd : FuncData} {ps : List Str} (F : FunD K x q params body scope [] [] f fd)
    (hh : ∀ (kV doc pm : Value) (an : Option Addr) (cdv ct : Value) (us : List Value), us.length = ps.length → bindArgs (PySem.W.fnOf x q params body scope .none kV doc pm an cdv ct) ⟨us, []⟩ = pure (ps.zip us)) : Binds K fd ps [] := F.bindsN hh
theorem facts {f : Addr} (X : K.In h) (G : h.Ns mainGlobals mg) (hfa : mg ("law" : Str) = some (.ref f)) (c : He.SaysD fa fn K) :
    ∃ fd : FuncData, (∀ (s : Shared) (v : Value), BindsTo s fd ⟨[v], []⟩ [("_law_script", v)]) ∧ ∀ base : Heap, K.In base → base.Ns mainGlobals mg → FnG P w K mg base CX0 6 f fd ["_law_script"] (spLaw K) := by
  have gl : ∀ (i : Nat) (x : Str), fa[i]? = some (.glo x) → mg x = some (.ref (He.ga K x)) := fun i x e => He.glo_ok X G (c.fact i e)
  have fr : ∀ (i : Nat) (x : Str), fa[i]? = some (.free x) → mg x = none := fun i x e => He.free_ok X G (c.fact i e)
  have T : Fx mg := ⟨fr 0 _ rfl, fr 1 _ rfl, fr 2 _ rfl, fr 3 _ rfl, fr 4 _ rfl, fr 5 _ rfl, fr 6 _ rfl, fr 7 _ rfl, fr 8 _ rfl, fr 9 _ rfl, fr 10 _ rfl, fr 11 _ rfl⟩
  obtain ⟨fd0, F0⟩ := c.def_ 0 rfl
  obtain ⟨fd1, F1⟩ := c.def_ 1 rfl
  obtain ⟨fd2, F2⟩ := c.def_ 2 rfl
  obtain ⟨fd3, F3⟩ := c.def_ 3 rfl
  obtain ⟨fd4, F4⟩ := c.def_ 4 rfl
  obtain ⟨fd5, F5⟩ := c.def_ 5 rfl
  obtain ⟨fd6, F6⟩ := c.def_ 6 rfl
  obtain ⟨fd7, F7⟩ := c.def_ 7 rfl
  obtain ⟨fd8, F8⟩ := c.def_ 8 rfl
  obtain ⟨fd9, F9⟩ := c.def_ 9 rfl
  obtain ⟨fd10, F10⟩ := c.def_ 10 rfl
  obtain ⟨fd11, F11⟩ := c.def_ 11 rfl
  obtain ⟨fd12, F12⟩ := c.def_ 12 rfl
  obtain ⟨fd13, F13⟩ := c.def_ 13 rfl
  have e := hfa.symm.trans (gl 25 "law" rfl)
  cases e
  have b := FunD.bindsA (ps := ["_law_script"]) F13 fun _ _ _ _ _ _ us hl => match us, hl with | [_], _ => rfl
  refine ⟨fd13, fun s v => b s [v] rfl, fun base XB GB => ?_⟩
  have C0 : Ca P w K mg base CX0 1 "spans" ["row"] (spSpans K) := ⟨_, fd0, ok_spans F0 T, gl 12 _ rfl, F0.kp, bd F0 fun _ _ _ _ _ _ us hl => match us, hl with | [_], _ => rfl⟩
  have C1 : Ca P w K mg base CX0 1 "in_span" ["span", "stamp"] (spIn K) := ⟨_, fd1, ok_in_span F1 T, gl 13 _ rfl, F1.kp, bd F1 fun _ _ _ _ _ _ us hl => match us, hl with | [_, _], _ => rfl⟩
  have C2 : Ca P w K mg base CX0 2 "can_be_seen" ["span", "stamps"] (spSeen K) := ⟨_, fd2, ok_can_be_seen F2 T C1, gl 14 _ rfl, F2.kp, bd F2 fun _ _ _ _ _ _ us hl => match us, hl with | [_, _], _ => rfl⟩
  have O3 := ok_kept (P := P) (w := w) (mg := mg) (base := base) F3 T C0 C2
  have C3 : Ca P w K mg base CX0 3 "kept" ["row", "stamps"] (spKept K) := ⟨_, fd3, O3, gl 15 _ rfl, F3.kp, bd F3 fun _ _ _ _ _ _ us hl => match us, hl with | [_, _], _ => rfl⟩
  have D3 : CaR P w K mg base CX0 3 "kept" ["row", "stamps"] ["stamps", "row"] (spKept K) := ⟨_, fd3, O3, gl 15 _ rfl, F3.kp, fun_kbR F3 ["stamps", "row"] fun _ _ _ _ _ _ ws h2 => match ws, h2 with | [_, _], _ => rfl⟩
  have C4 : Ca P w K mg base CX0 1 "_law_deal" ["_law_script", "_law_base"] (spHeap K) := ⟨_, fd4, ok__law_deal F4 T, gl 16 _ rfl, F4.kp, bd F4 fun _ _ _ _ _ _ us hl => match us, hl with | [_, _], _ => rfl⟩
  have C5 : Ca P w K mg base CX0 1 "_law_draw" ["_law_deal_here", "_law_bound"] (spDr K) := ⟨_, fd5, ok__law_draw F5 T, gl 17 _ rfl, F5.kp, bd F5 fun _ _ _ _ _ _ us hl => match us, hl with | [_, _], _ => rfl⟩
  have C6 : Ca P w K mg base CX0 2 "_law_pick" ["_law_deal_here", "_law_some"] (spPick K) := ⟨_, fd6, ok__law_pick F6 T C5, gl 18 _ rfl, F6.kp, bd F6 fun _ _ _ _ _ _ us hl => match us, hl with | [_, _], _ => rfl⟩
  have C7 : Ca P w K mg base CX0 1 "_law_sees" ["_law_row_here", "_law_stamp"] (spSees K) := ⟨_, fd7, ok__law_sees F7 T, gl 19 _ rfl, F7.kp, bd F7 fun _ _ _ _ _ _ us hl => match us, hl with | [_, _], _ => rfl⟩
  have C8 : Ca P w K mg base CX0 2 "_law_kept" ["_law_row_here", "_law_stamps"] (spLKept K) := ⟨_, fd8, ok__law_kept F8 T C7, gl 20 _ rfl, F8.kp, bd F8 fun _ _ _ _ _ _ us hl => match us, hl with | [_, _], _ => rfl⟩
  have C9 : Ca P w K mg base CX0 2 "_law_lot" ["_law_deal_here", "_law_some"] (spLot K) := ⟨_, fd9, ok__law_lot F9 T C5, gl 21 _ rfl, F9.kp, bd F9 fun _ _ _ _ _ _ us hl => match us, hl with | [_, _], _ => rfl⟩
  have C10 : Ca P w K mg base CX0 3 "_law_row" ["_law_deal_here"] (spRow K) := ⟨_, fd10, ok__law_row F10 T C6, gl 22 _ rfl, F10.kp, bd F10 fun _ _ _ _ _ _ us hl => match us, hl with | [_], _ => rfl⟩
  have C11 : Ca P w K mg base CX0 2 "_law_tells" ["_law_seen", "_law_part", "_law_stamps"] (spTells K) := ⟨_, fd11, ok__law_tells F11 T C7, gl 23 _ rfl, F11.kp, bd F11 fun _ _ _ _ _ _ us hl => match us, hl with | [_, _, _], _ => rfl⟩
  have C12 : Ca P w K mg base CX0 1 "_law_parts" ["_law_row_here"] (spParts K) := ⟨_, fd12, ok__law_parts F12 T, gl 24 _ rfl, F12.kp, bd F12 fun _ _ _ _ _ _ us hl => match us, hl with | [_], _ => rfl⟩
  exact ok_law F13 T C4 C10 C9 C3 D3 C7 C11 C12 C8
end
end K19
open PySem PySem.W PySem.Calls PyProof.Rows
theorem PySem.Challenge.cw_spelledways_k19_whole_what_has_to_stay_o_holds : PySem.Challenge.rw_spelledways_k19_whole_what_has_to_stay_o.Holds := by
  w_on; o_law
  refine HandSHeadRun.head_any (r := OpenLaw.row PySem.Challenge.rw_spelledways_k19_whole_what_has_to_stay_o) (q := view (OpenLaw.row PySem.Challenge.rw_spelledways_k19_whole_what_has_to_stay_o).prog [16]) (H := K19.hk) (ob := K19.ob) (M := 4000) (loose := K19.loose) (d := HandSHeadRun.topDef (OpenLaw.row PySem.Challenge.rw_spelledways_k19_whole_what_has_to_stay_o).prog 16) (kwd := []) K19.ob_eq
    (by kernel_rfl) (fun s => by kernel_rfl) K19.run (by kernel_rfl) (by kernel_rfl) (by kernel_rfl) (by rfl) (by first | assumption | decide +kernel) (by decide +kernel) ⟨rfl, rfl, rfl, rfl, rfl, by decide +kernel⟩ ?hw ?hc
  case hw => w_witness2
  case hc =>
    refine DL.walk_g (l := PySem.Challenge.rw_spelledways_k19_whole_what_has_to_stay_o) (n := 63) (k := 6) (x := "_law_script") (CX := L2.CX0) rfl (by decide) (by kernel_rfl) ⟨rfl, by decide, by decide⟩ ?F (fun _ _ _ _ z => z)
    intro w mg fa h Y G hmg0
    obtain ⟨K, KX, c⟩ := Y
    have hmg : mg ("law" : PySem.Str) = some (.ref fa) := by
      have e : (HandSHeadRun.topDef (OpenLaw.row PySem.Challenge.rw_spelledways_k19_whole_what_has_to_stay_o).prog 16).name = ("law" : PySem.Str) := by kernel_rfl
      rw [← e]
      exact hmg0
    obtain ⟨fd, hb, hF⟩ := K19.facts (P := (PySem.Challenge.rw_spelledways_k19_whole_what_has_to_stay_o).prog) (w := w) KX G hmg c.t.d
    exact ⟨K, fd, K19.spLaw K, KX, hb, fun H a ns hl _ hS => ⟨a, ns, rfl, hS, fun _ => rfl⟩, hF⟩

