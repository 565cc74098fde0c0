import PyProof.Rows.All
import Wide.All
import OpenK.AllK
import Wide.FinOn
import HandS.ForMost
import HandS.ForExc
import HandS.TupAny
import HandS.Wide
import HandS.Deep
import HandS.Style
import HandS.Walk
import HandS.Defaults
import HandS.More
import HandS.EndBits
import HandS.ExcInit
import HandS.ExcField
import HandS.HeadHook1
import HandS.HeadHook2
import PyProof.ExcBaseAll.Exception
import PyProof.ExcBaseAll.LookupError
import HandS.Zip
import KE.GoesZip
import KE.GoesMore
import HandS.IsInst
import HandS.SortInts
import HandS.Conv
import HandS.TryMany
import HandS.ExcIs
import KE.KIsAll
import HandS.TupMul
import HandS.Lambda
import HandS.EndTab
import HandS.HeadHook4
import HandS.HeadWalk
import KE.KStateDown
import KE.KExcIs
import HandS.CallLocal
import HandS.Proxy
import HandS.HeadHook3
import HandS.RaiseMore
import HandS.SetKeys
import HandS.ListItems
import KE.KDictList
import HandS.SetFor
import HandS.Strs
import PySem.Challenge.RW_spelledways_k18_who_looks_at_which_stamp
import HandS.Head0
import HandS.Head1
import HandS.Head2
import HandS.HeadEnd
set_option Elab.async false
set_option linter.all false
set_option maxRecDepth 100000
set_option maxHeartbeats 0
/-! Data upon the hand layer: what an expression comes to, as plain data, while some objects are known for good (J) and the rest of the heap may only grow. -/
namespace DL
open PySem L2

/-- every object of the one heap stands in the other -/
def Sub (J H : Hp) : Prop := ∀ a o, J a = some o → H a = some o
theorem Sub.refl (H : Hp) : Sub H H := fun _ _ h => h
theorem Sub.trans {J H G : Hp} (p : Sub J H) (q : Sub H G) : Sub J G := fun a o h => q a o (p a o h)
theorem Sub.back {J H : Hp} (p : Sub J H) {a : Addr} (h : H a = none) : J a = none := by
  cases e : J a with
  | none => rfl
  | some o => rw [p a o e] at h; cases h
theorem Sub.new {H : Hp} {p : Addr} {o : HO} (h : H p = none) : Sub H (upd H p o) := fun a u e => by
  rw [upd_ne (ne_of_none e h)]; exact e
theorem Sub.both {J H : Hp} (s : Sub J H) {p : Addr} {o : HO} : Sub (upd J p o) (upd H p o) := fun a u e => by
  by_cases h : a = p
  · rw [h, upd_same] at e ⊢; exact e
  · rw [upd_ne h] at e ⊢; exact s a u e
theorem Sub.rd {J H : Hp} (s : Sub J H) {a : Addr} {u : HO} (h : Rd J a u) : Rd H a u := by
  rcases h with h | ⟨o, h⟩
  · exact .inl (s _ _ h)
  · exact .inr ⟨o, s _ _ h⟩
theorem Sub.l {K : PySem.W.Frag} {J H : Hp} (s : Sub J H) {a : Addr} {xs : List V} (h : SqL K J a xs) : SqL K H a xs := by
  rcases h with h | h
  · exact .inl (s.rd h)
  · exact .inr h
theorem Sub.t {K : PySem.W.Frag} {J H : Hp} (s : Sub J H) {a : Addr} {xs : List V} (h : SqT K J a xs) : SqT K H a xs := by
  rcases h with h | h
  · exact .inl (s.rd h)
  · exact .inr h
/-! a value is a datum; lists are such as stand in J itself -/
mutual
inductive Da (K : PySem.W.Frag) (J : Hp) : V → PyData → Prop
  | non : Da K J .non .none
  | bl (b : Bool) : Da K J (.bl b) (.bool b)
  | int (i : Int) : Da K J (.int i) (.int i)
  | str (x : Str) : Da K J (.str x) (.str x)
  | lst {a : Addr} {xs : List V} {ds : List PyData} : J a = some (.lst xs) → Das K J xs ds → Da K J (.ref a) (.list ds)
  | tup {a : Addr} {xs : List V} {ds : List PyData} : SqT K J a xs → Das K J xs ds → Da K J (.ref a) (.tuple ds)
inductive Das (K : PySem.W.Frag) (J : Hp) : List V → List PyData → Prop
  | nil : Das K J [] []
  | cons {v : V} {vs : List V} {d : PyData} {ds : List PyData} : Da K J v d → Das K J vs ds → Das K J (v :: vs) (d :: ds)
end
mutual
theorem Da.dp {K : PySem.W.Frag} {J H : Hp} (s : Sub J H) : ∀ {d : PyData} {v : V}, Da K J v d → Dp K H v d
  | .none, _, h => by cases h; exact .non
  | .bool _, _, h => by cases h; exact .bl _
  | .int _, _, h => by cases h; exact .int _
  | .str _, _, h => by cases h; exact .str _
  | .list ds, _, h => by
    cases h with
    | lst a b => exact .lst (.of (s _ _ a)) (Das.dp s b)
  | .tuple ds, _, h => by
    cases h with
    | tup a b => exact .tup (s.t a) (Das.dp s b)
  | .dict _, _, h => by cases h
theorem Das.dp {K : PySem.W.Frag} {J H : Hp} (s : Sub J H) : ∀ {ds : List PyData} {vs : List V}, Das K J vs ds → DpAll K H vs ds
  | [], _, h => by cases h; exact .nil
  | _ :: _, _, h => by
    cases h with
    | cons a b => exact .cons (Da.dp s a) (Das.dp s b)
end
mutual
theorem Sub.da {K : PySem.W.Frag} {J H : Hp} (s : Sub J H) : ∀ {d : PyData} {v : V}, Da K J v d → Da K H v d
  | .none, _, h => by cases h; exact .non
  | .bool _, _, h => by cases h; exact .bl _
  | .int _, _, h => by cases h; exact .int _
  | .str _, _, h => by cases h; exact .str _
  | .list ds, _, h => by
    cases h with
    | lst a b => exact .lst (s _ _ a) (Sub.das s b)
  | .tuple ds, _, h => by
    cases h with
    | tup a b => exact .tup (s.t a) (Sub.das s b)
  | .dict _, _, h => by cases h
theorem Sub.das {K : PySem.W.Frag} {J H : Hp} (s : Sub J H) : ∀ {ds : List PyData} {vs : List V}, Das K J vs ds → Das K H vs ds
  | [], _, h => by cases h; exact .nil
  | _ :: _, _, h => by
    cases h with
    | cons a b => exact .cons (Sub.da s a) (Sub.das s b)
end
theorem das_len {K : PySem.W.Frag} {J : Hp} : ∀ {vs : List V} {ds : List PyData}, Das K J vs ds → vs.length = ds.length
  | [], _, h => by cases h; rfl
  | _ :: _, _, h => by
    cases h with
    | cons _ b => simp [das_len b]
theorem das_at {K : PySem.W.Frag} {J : Hp} : ∀ {vs : List V} {ds : List PyData} {i : Nat} {v : V}, Das K J vs ds → vs[i]? = some v → ∃ d, ds[i]? = some d ∧ Da K J v d
  | [], _, _, _, _, e => by simp at e
  | _ :: _, _, i, _, h, e => by
    cases h with
    | cons a b =>
      cases i with
      | zero => simp at e; subst e; exact ⟨_, rfl, a⟩
      | succ i => simpa using das_at b (by simpa using e)
theorem das_get {K : PySem.W.Frag} {J : Hp} : ∀ {vs : List V} {ds : List PyData} {i : Nat} {d : PyData}, Das K J vs ds → ds[i]? = some d → ∃ v, vs[i]? = some v ∧ Da K J v d
  | _, [], _, _, _, e => by simp at e
  | _, _ :: _, i, _, h, e => by
    cases h with
    | cons a b =>
      cases i with
      | zero => simp at e; subst e; exact ⟨_, rfl, a⟩
      | succ i => simpa using das_get b (by simpa using e)
theorem das_app {K : PySem.W.Frag} {J : Hp} : ∀ {vs ws : List V} {ds es : List PyData}, Das K J vs ds → Das K J ws es → Das K J (vs ++ ws) (ds ++ es)
  | [], _, _, _, h, g => by cases h; exact g
  | _ :: _, _, _, _, h, g => by
    cases h with
    | cons a b => exact .cons a (das_app b g)
theorem das_drop {K : PySem.W.Frag} {J : Hp} : ∀ {vs : List V} {ds : List PyData} (n : Nat), Das K J vs ds → Das K J (vs.drop n) (ds.drop n)
  | _, _, 0, h => h
  | [], _, n + 1, h => by cases h; exact .nil
  | _ :: _, _, n + 1, h => by
    cases h with
    | cons _ b => exact das_drop n b
theorem das_take {K : PySem.W.Frag} {J : Hp} : ∀ {vs : List V} {ds : List PyData} (n : Nat), Das K J vs ds → Das K J (vs.take n) (ds.take n)
  | _, _, 0, _ => .nil
  | [], _, n + 1, h => by cases h; exact .nil
  | _ :: _, _, n + 1, h => by
    cases h with
    | cons a b => exact .cons a (das_take n b)
theorem das_rev {K : PySem.W.Frag} {J : Hp} : ∀ {vs : List V} {ds : List PyData}, Das K J vs ds → Das K J vs.reverse ds.reverse
  | [], _, h => by cases h; exact .nil
  | _ :: _, _, h => by
    cases h with
    | cons a b =>
      rw [List.reverse_cons, List.reverse_cons]
      exact das_app (das_rev b) (.cons a .nil)
theorem das_ints {K : PySem.W.Frag} {J : Hp} : ∀ ns : List Int, Das K J (ns.map V.int) (ns.map PyData.int)
  | [] => .nil
  | n :: ns => .cons (.int n) (das_ints ns)
theorem da_int {K : PySem.W.Frag} {J : Hp} {v : V} {i : Int} (h : Da K J v (.int i)) : v = .int i := by cases h; rfl
theorem da_bl {K : PySem.W.Frag} {J : Hp} {v : V} {b : Bool} (h : Da K J v (.bool b)) : v = .bl b := by cases h; rfl
theorem da_str {K : PySem.W.Frag} {J : Hp} {v : V} {x : Str} (h : Da K J v (.str x)) : v = .str x := by cases h; rfl
theorem da_non {K : PySem.W.Frag} {J : Hp} {v : V} (h : Da K J v .none) : v = .non := by cases h; rfl
theorem da_lst {K : PySem.W.Frag} {J : Hp} {v : V} {ds : List PyData} (h : Da K J v (.list ds)) : ∃ a xs, v = .ref a ∧ J a = some (.lst xs) ∧ Das K J xs ds := by
  cases h with
  | lst p q => exact ⟨_, _, rfl, p, q⟩
theorem da_tup {K : PySem.W.Frag} {J : Hp} {v : V} {ds : List PyData} (h : Da K J v (.tuple ds)) : ∃ a xs, v = .ref a ∧ SqT K J a xs ∧ Das K J xs ds := by
  cases h with
  | tup p q => exact ⟨_, _, rfl, p, q⟩
theorem das_ints_eq {K : PySem.W.Frag} {J : Hp} : ∀ {vs : List V} {ns : List Int}, Das K J vs (ns.map PyData.int) → vs = ns.map V.int
  | [], [], _ => rfl
  | [], _ :: _, h => by cases h
  | _ :: _, [], h => by cases h
  | _ :: _, _ :: _, h => by
    cases h with
    | cons a b => rw [da_int a, das_ints_eq b]; rfl

/-! ### what may change, and how the heap goes on -/
/-- what may be written -/
def Mu : HO → Prop
  | .lst _ => True
  | .dK _ => True
  | .dT _ => True
  | .ins _ _ _ => True
  | .frz _ _ => True
  | .own _ => True
  | _ => False
/-- fp: the objects that may change; inv: what stays true of them; tb: whether tables of code objects may grow -/
structure Md where
  fp : Addr → Prop
  inv : Hp → Prop
  tb : Bool
  loc : ∀ H H' : Hp, (∀ a, fp a → H' a = H a) → (∀ a o, H a = some o → ¬ Mu o → H' a = some o) → inv H → inv H'
  there : ∀ H : Hp, inv H → ∀ a, fp a → ∃ o, H a = some o ∧ (tb = true → ∀ ps, o ≠ .tbl ps)
/-- no table, where tables may grow -/
abbrev Nt (M : Md) (o : HO) : Prop := M.tb = true → ∀ ps, o ≠ .tbl ps
/-- nothing may change -/
def Md.pure : Md := ⟨fun _ => False, fun _ => True, false, fun _ _ _ _ h => h, fun _ _ _ h => h.elim⟩
structure Wf (M : Md) (J H : Hp) : Prop where
  jh : Sub J H
  inv : M.inv H
  jn : ∀ a, M.fp a → J a = none
  nt : M.tb = true → ∀ a ps, J a ≠ some (.tbl ps)
theorem Wf.out {M : Md} {J H : Hp} (w : Wf M J H) (a : Addr) (h : M.fp a) : J a = none ∧ H a ≠ none := ⟨w.jn a h, by
  obtain ⟨o, e, _⟩ := M.there H w.inv a h
  rw [e]
  exact nofun⟩
structure Tr (M : Md) (J H J' H' : Hp) : Prop where
  jj : Sub J J'
  jh : Sub J' H'
  kept : ∀ a o, ¬ M.fp a → Nt M o → H a = some o → H' a = some o
  inv : M.inv H'
  frn : ∀ a o, Nt M o → H a = some o → J a = none → J' a = none
  aln : ∀ a o, Nt M o → H a = some o → ∃ o', Nt M o' ∧ H' a = some o'
  tn : (∀ a ps, J a ≠ some (.tbl ps)) → ∀ a ps, J' a ≠ some (.tbl ps)
section
variable {M : Md} {J H J1 H1 J2 H2 : Hp} {p : Addr} {o : HO}
theorem Tr.keep (t : Tr M J H J1 H1) (a : Addr) (o : HO) (nf : ¬ M.fp a) (e : H a = some o) (nt : Nt M o := by first | assumption | (intro h; cases h; done) | (intro _ _ z; cases z; done)) : H1 a = some o := t.kept a o nf nt e
theorem Tr.frp (t : Tr Md.pure J H J1 H1) (a : Addr) (e : H a ≠ none) (n : J a = none) : J1 a = none := by
  cases q : H a with
  | none => exact absurd q e
  | some u => exact t.frn a u (fun h => nomatch h) q n
theorem Wf.tr (w : Wf M J H) : Tr M J H J H := ⟨.refl _, w.jh, fun _ _ _ _ h => h, w.inv, fun _ _ _ _ h => h, fun _ o b h => ⟨o, b, h⟩, fun h => h⟩
theorem Tr.wf (t : Tr M J H J1 H1) (w : Wf M J H) : Wf M J1 H1 := ⟨t.jh, t.inv, fun a h => by
  obtain ⟨o, e, b⟩ := M.there H w.inv a h
  exact t.frn a o b e (w.jn a h), fun b => t.tn (w.nt b)⟩
theorem Tr.trans (t : Tr M J H J1 H1) (u : Tr M J1 H1 J2 H2) : Tr M J H J2 H2 :=
  ⟨t.jj.trans u.jj, u.jh, fun a x n b h => u.kept a x n b (t.kept a x n b h), u.inv, fun a x b h n => by
    obtain ⟨y, c, e⟩ := t.aln a x b h
    exact u.frn a y c e (t.frn a x b h n), fun a x b h => by
    obtain ⟨y, c, e⟩ := t.aln a x b h
    exact u.aln a y c e, fun h => u.tn (t.tn h)⟩
theorem al_ne {a p : Addr} {G : Hp} (q : G a ≠ none) (h : G p = none) : a ≠ p := fun e => q (by rw [e]; exact h)
theorem so_ne {a p : Addr} {G : Hp} {x : HO} (q : G a = some x) (h : G p = none) : a ≠ p := fun e => by rw [e, h] at q; cases q
theorem Wf.new (w : Wf M J H) (h : H p = none) (nt : ∀ ps, o ≠ .tbl ps := by first | assumption | (intro _ z; cases z; done)) : Tr M J H (upd J p o) (upd H p o) := by
  have hj : J p = none := w.jh.back h
  refine ⟨.new hj, w.jh.both, fun a x _ _ e => Sub.new h a x e, M.loc _ _ (fun a q => upd_ne (al_ne (w.out a q).2 h)) (fun a x e _ => Sub.new h a x e) w.inv, fun a x _ e n => ?_, fun a x b e => ⟨x, b, Sub.new h a x e⟩, fun g a ps e => ?_⟩
  · rw [upd_ne (so_ne e h)]; exact n
  · by_cases z : a = p
    · rw [z, upd_same] at e
      exact nt ps (Option.some.inj e)
    · rw [upd_ne z] at e
      exact g a ps e
/-- a new object that is not known for good -/
theorem Wf.cell (w : Wf M J H) (h : H p = none) : Tr M J H J (upd H p o) :=
  ⟨.refl _, w.jh.trans (.new h), fun a x _ _ e => Sub.new h a x e, M.loc _ _ (fun a q => upd_ne (al_ne (w.out a q).2 h)) (fun a x e _ => Sub.new h a x e) w.inv, fun _ _ _ _ n => n, fun a x b e => ⟨x, b, Sub.new h a x e⟩, fun g => g⟩
/-- a call that changes nothing -/
theorem Wf.lift (w : Wf M J H) (t : Tr Md.pure J H J1 H1) : Tr M J H J1 H1 := by
  have all : ∀ a x, H a = some x → H1 a = some x := fun a x e => t.keep a x (fun z => z) e
  refine ⟨t.jj, t.jh, fun a x _ _ e => all a x e, M.loc _ _ (fun a q => ?_) (fun a x e _ => all a x e) w.inv, fun a x _ e n => t.frn a x (fun h => nomatch h) e n, fun a x b e => ⟨x, b, all a x e⟩, t.tn⟩
  cases e : H a with
  | none => exact absurd e (w.out a q).2
  | some x => exact all a x e
theorem Wf.mono (w : Wf M J H) : Wf Md.pure J H := ⟨w.jh, trivial, fun _ h => h.elim, fun h => nomatch h⟩
end

/-! ### expressions -/
section
variable (K : PySem.W.Frag) (M : Md)
def EvP (te : TE) (σ : L2.St) (J H : Hp) (P : PyData → Prop) : Prop :=
  ∀ J1 H1, Wf M J1 H1 → Tr M J H J1 H1 → ∀ Q : VK, (∀ v d J2 H2, Wf M J2 H2 → Tr M J1 H1 J2 H2 → P d → Da K J2 v d → Q v H2) → te σ H1 Q
abbrev EvD (te : TE) (σ : L2.St) (J H : Hp) (d : PyData) : Prop := EvP K M te σ J H (· = d)
def EvT (tt : TT) (σ : L2.St) (J H : Hp) (P : Bool → Prop) : Prop :=
  ∀ J1 H1, Wf M J1 H1 → Tr M J H J1 H1 → ∀ Q : Bool → Hp → Prop, (∀ b J2 H2, Wf M J2 H2 → Tr M J1 H1 J2 H2 → P b → Q b H2) → tt σ H1 Q
def EvA (ta : TA) (σ : L2.St) (J H : Hp) (P : List PyData → Prop) : Prop :=
  ∀ J1 H1, Wf M J1 H1 → Tr M J H J1 H1 → ∀ Q : List V → Hp → Prop, (∀ vs ds J2 H2, Wf M J2 H2 → Tr M J1 H1 J2 H2 → P ds → Das K J2 vs ds → Q vs H2) → ta σ H1 Q
def EvO (_K : PySem.W.Frag) (M : Md) (to : TO) (σ : L2.St) (J H : Hp) (P : Option Int → Prop) : Prop :=
  ∀ J1 H1, Wf M J1 H1 → Tr M J H J1 H1 → ∀ Q : Option Int → Hp → Prop, (∀ o J2 H2, Wf M J2 H2 → Tr M J1 H1 J2 H2 → P o → Q o H2) → to σ H1 Q
/-- an operation of two data, of one, of a row of them -/
def OpD (r : R2) (dx dy : PyData) (P : PyData → Prop) : Prop :=
  ∀ x y J H, Wf M J H → Da K J x dx → Da K J y dy → ∀ Q : VK, (∀ v d J2 H2, Wf M J2 H2 → Tr M J H J2 H2 → P d → Da K J2 v d → Q v H2) → r x y H Q
def UnD (r : V → Hp → VK → Prop) (dx : PyData) (P : PyData → Prop) : Prop :=
  ∀ x J H, Wf M J H → Da K J x dx → ∀ Q : VK, (∀ v d J2 H2, Wf M J2 H2 → Tr M J H J2 H2 → P d → Da K J2 v d → Q v H2) → r x H Q
def CbD (r : List V → Hp → VK → Prop) (ds : List PyData) (P : PyData → Prop) : Prop :=
  ∀ vs J H, Wf M J H → Das K J vs ds → ∀ Q : VK, (∀ v d J2 H2, Wf M J2 H2 → Tr M J H J2 H2 → P d → Da K J2 v d → Q v H2) → r vs H Q
def SlD (r : V → Option Int → Option Int → Hp → VK → Prop) (dx : PyData) (lo hi : Option Int) (P : PyData → Prop) : Prop :=
  ∀ x J H, Wf M J H → Da K J x dx → ∀ Q : VK, (∀ v d J2 H2, Wf M J2 H2 → Tr M J H J2 H2 → P d → Da K J2 v d → Q v H2) → r x lo hi H Q
/-- a call of an own def -/
def SpD (sp : Sp) (ds : List PyData) (P : PyData → Prop) (E : XK) : Prop :=
  ∀ vs J H, Wf M J H → Das K J vs ds → ∀ Q : VK, (∀ v d J2 H2, Wf M J2 H2 → Tr M J H J2 H2 → P d → Da K J2 v d → Q v H2) → sp vs H Q E
end
section
variable {K : PySem.W.Frag} {M : Md} {σ : L2.St} {J H J' H' : Hp} {ta tb te tc : TE} {t u : TT} {r : R2} {P P' Px Py Pz : PyData → Prop} {d dx dy : PyData} {v : V} {i j : Int}
theorem EvP.mono (h : EvP K M te σ J H P) (k : ∀ d, P d → P' d) : EvP K M te σ J H P' := fun J1 H1 w t Q q => h J1 H1 w t Q fun v d J2 H2 w2 t2 p a => q v d J2 H2 w2 t2 (k d p) a
theorem EvP.later (h : EvP K M te σ J H P) (t : Tr M J H J' H') : EvP K M te σ J' H' P := fun J1 H1 w t1 Q q => h J1 H1 w (t.trans t1) Q q
theorem EvT.mono {P P' : Bool → Prop} {t : TT} (h : EvT M t σ J H P) (k : ∀ d, P d → P' d) : EvT M t σ J H P' := fun J1 H1 w t Q q => h J1 H1 w t Q fun b J2 H2 w2 t2 p => q b J2 H2 w2 t2 (k b p)
theorem EvT.later {P : Bool → Prop} {t : TT} (h : EvT M t σ J H P) (tr : Tr M J H J' H') : EvT M t σ J' H' P := fun J1 H1 w t1 Q q => h J1 H1 w (tr.trans t1) Q q
theorem EvA.mono {P P' : List PyData → Prop} {t : TA} (h : EvA K M t σ J H P) (k : ∀ d, P d → P' d) : EvA K M t σ J H P' := fun J1 H1 w t Q q => h J1 H1 w t Q fun v d J2 H2 w2 t2 p a => q v d J2 H2 w2 t2 (k d p) a
theorem EvA.later {P : List PyData → Prop} {t : TA} (h : EvA K M t σ J H P) (tr : Tr M J H J' H') : EvA K M t σ J' H' P := fun J1 H1 w t1 Q q => h J1 H1 w (tr.trans t1) Q q
theorem ev_var {i : Nat} (hs : σ[i]? = some (some v)) (h : Da K J v d) : EvD K M (tVar i) σ J H d := fun J1 H1 w t Q q => ⟨v, hs, q v d J1 H1 w w.tr rfl (t.jj.da h)⟩
theorem ev_c (h : ∀ J, Da K J v d) : EvD K M (tC v) σ J H d := fun J1 H1 w t Q q => q v d J1 H1 w w.tr rfl (h _)
theorem ev_int : EvD K M (tC (.int i)) σ J H (.int i) := ev_c fun _ => .int i
theorem ev_bl {b : Bool} : EvD K M (tC (.bl b)) σ J H (.bool b) := ev_c fun _ => .bl b
theorem ev_str {x : Str} : EvD K M (tC (.str x)) σ J H (.str x) := ev_c fun _ => .str x
theorem ev_non : EvD K M (tC .non) σ J H .none := ev_c fun _ => .non
theorem ev_op (ha : EvP K M ta σ J H Px) (hb : EvP K M tb σ J H Py) (ho : ∀ dx dy, Px dx → Py dy → OpD K M r dx dy P) : EvP K M (tOp r ta tb) σ J H P := fun J1 H1 w t Q q =>
  ha J1 H1 w t _ fun x dx J2 H2 w2 t2 px ax => hb J2 H2 w2 (t.trans t2) _ fun y dy J3 H3 w3 t3 py ay =>
    ho dx dy px py x y J3 H3 w3 (t3.jj.da ax) ay Q fun v d J4 H4 w4 t4 p a => q v d J4 H4 w4 ((t2.trans t3).trans t4) p a
theorem ev_opD (ha : EvD K M ta σ J H dx) (hb : EvD K M tb σ J H dy) (ho : OpD K M r dx dy P) : EvP K M (tOp r ta tb) σ J H P := ev_op ha hb fun _ _ e1 e2 => by rw [e1, e2]; exact ho
theorem ev_un {r : V → Hp → VK → Prop} (ha : EvP K M ta σ J H Px) (ho : ∀ dx, Px dx → UnD K M r dx P) : EvP K M (tUn r ta) σ J H P := fun J1 H1 w t Q q =>
  ha J1 H1 w t _ fun x dx J2 H2 w2 t2 px ax => ho dx px x J2 H2 w2 ax Q fun v d J4 H4 w4 t4 p a => q v d J4 H4 w4 (t2.trans t4) p a
/-- an operation that hands back a plain value and leaves the heap -/
theorem od_flat (h : ∀ x y J H, Sub J H → Da K J x dx → Da K J y dy → ∀ Q : VK, Q v H → r x y H Q) (hv : ∀ J, Da K J v d) : OpD K M r dx dy (· = d) := fun x y J H w ax ay Q q => h x y J H w.jh ax ay Q (q v d J H w w.tr rfl (hv J))
theorem od_I0 {g : Int → Int → V} {d : PyData} (hv : ∀ J, Da K J (g i j) d) : OpD K M (rI0 g) (.int i) (.int j) (· = d) :=
  od_flat (v := g i j) (fun x y J H _ ax ay Q q => ⟨i, j, da_int ax, da_int ay, q⟩) hv
theorem od_I {C : Int → Int → Prop} {g : Int → Int → V} {d : PyData} (hc : C i j) (hv : ∀ J, Da K J (g i j) d) : OpD K M (rI C g) (.int i) (.int j) (· = d) :=
  od_flat (v := g i j) (fun x y J H _ ax ay Q q => ⟨i, j, da_int ax, da_int ay, hc, q⟩) hv
theorem od_add : OpD K M (rI0 fun i j => .int (i + j)) (.int i) (.int j) (· = .int (i + j)) := od_I0 fun _ => .int _
theorem od_sub : OpD K M (rI0 fun i j => .int (i - j)) (.int i) (.int j) (· = .int (i - j)) := od_I0 fun _ => .int _
theorem od_mul (h : CMulW i j) : OpD K M (rI CMulW fun i j => .int (i * j)) (.int i) (.int j) (· = .int (i * j)) := od_I h fun _ => .int _
theorem od_mod (h : 0 < j) : OpD K M (rI (fun _ j => 0 < j) fun i j => .int (i % j)) (.int i) (.int j) (· = .int (i % j)) := od_I h fun _ => .int _
theorem od_fdiv (h : CDivW i j) : OpD K M (rI CDivW fun i j => .int (i / j)) (.int i) (.int j) (· = .int (i / j)) := od_I h fun _ => .int _
theorem od_pow (h : CPow i j) : OpD K M (rI CPow fun i j => .int (i ^ j.toNat)) (.int i) (.int j) (· = .int (i ^ j.toNat)) := od_I h fun _ => .int _
theorem od_lt : OpD K M (rI0 fun i j => .bl (decide (i < j))) (.int i) (.int j) (· = .bool (decide (i < j))) := od_I0 fun _ => .bl _
theorem od_le : OpD K M (rI0 fun i j => .bl (decide (i ≤ j))) (.int i) (.int j) (· = .bool (decide (i ≤ j))) := od_I0 fun _ => .bl _
theorem od_gt : OpD K M (rI0 fun i j => .bl (decide (j < i))) (.int i) (.int j) (· = .bool (decide (j < i))) := od_I0 fun _ => .bl _
theorem od_ge : OpD K M (rI0 fun i j => .bl (decide (j ≤ i))) (.int i) (.int j) (· = .bool (decide (j ≤ i))) := od_I0 fun _ => .bl _
theorem od_eq (sx : SeqAt.shaped dx = true) (sy : SeqAt.shaped dy = true) : OpD K M (rEqD K) dx dy (· = .bool (PyData.eqv dx dy)) :=
  od_flat (v := .bl (PyData.eqv dx dy)) (fun x y J H s ax ay Q q => ⟨dx, dy, ax.dp s, ay.dp s, sx, sy, q⟩) fun _ => .bl _
theorem od_ne (sx : SeqAt.shaped dx = true) (sy : SeqAt.shaped dy = true) : OpD K M (rNeD K) dx dy (· = .bool (!PyData.eqv dx dy)) :=
  od_flat (v := .bl (!PyData.eqv dx dy)) (fun x y J H s ax ay Q q => ⟨dx, dy, ax.dp s, ay.dp s, sx, sy, q⟩) fun _ => .bl _
theorem od_inL {ds : List PyData} (sx : SeqAt.shaped dx = true) (sy : SeqAt.shaped (.list ds) = true) : OpD K M (rInD K) dx (.list ds) (· = .bool (ds.any fun z => PyData.eqv z dx)) :=
  od_flat (v := .bl _) (fun x y J H s ax ay Q q => ⟨dx, ds, ax.dp s, ay.dp s, sx, sy, q⟩) fun _ => .bl _
theorem od_niL {ds : List PyData} (sx : SeqAt.shaped dx = true) (sy : SeqAt.shaped (.list ds) = true) : OpD K M (rNotInD K) dx (.list ds) (· = .bool (!ds.any fun z => PyData.eqv z dx)) :=
  od_flat (v := .bl _) (fun x y J H s ax ay Q q => ⟨dx, ds, ax.dp s, ay.dp s, sx, sy, q⟩) fun _ => .bl _
/-- x is None, x is not None -/
def rIsNo : R2 := fun x y H Q => y = .non ∧ Q (.bl (decide (x = .non))) H
def rNotNo : R2 := fun x y H Q => y = .non ∧ Q (.bl (!decide (x = .non))) H
def isNo : PyData → Bool
  | .none => true
  | _ => false
theorem da_isNo {x : V} (h : Da K J x d) : decide (x = .non) = isNo d := by cases h <;> rfl
theorem od_isN : OpD K M rIsNo dx .none (· = .bool (isNo dx)) := fun x y J H w ax ay Q q => ⟨da_non ay, q _ _ J H w w.tr (by rw [← da_isNo ax]) (.bl _)⟩
theorem od_notN : OpD K M rNotNo dx .none (· = .bool (!isNo dx)) := fun x y J H w ax ay Q q => ⟨da_non ay, q _ _ J H w w.tr (by rw [← da_isNo ax]) (.bl _)⟩

/-! places and parts -/
theorem ix_eq {α : Type} {xs : List α} {n : Int} {x : α} (h : atI xs n = some x) : atI xs n = some x := h
theorem das_atI {xs : List V} {ds : List PyData} (h : Das K J xs ds) {n : Int} (e : atI ds n = some d) : ∃ v, atI xs n = some v ∧ Da K J v d := by
  unfold atI at e ⊢
  rw [das_len h]
  cases q : ixN ds.length n with
  | none => rw [q] at e; cases e
  | some k =>
    rw [q] at e
    obtain ⟨v, hv, a⟩ := das_get h e
    exact ⟨v, hv, a⟩
theorem od_ixL {ds : List PyData} (e : atI ds i = some d) : OpD K M (rIx K) (.list ds) (.int i) (· = d) := fun x y J H w ax ay Q q => by
  obtain ⟨a, xs, rfl, hl, hd⟩ := da_lst ax
  obtain ⟨v, hv, av⟩ := das_atI hd e
  exact .inl ⟨a, xs, i, v, rfl, da_int ay, .of (w.jh _ _ hl), hv, q v d J H w w.tr rfl av⟩
theorem od_ixT {ds : List PyData} (e : atI ds i = some d) : OpD K M (rIx K) (.tuple ds) (.int i) (· = d) := fun x y J H w ax ay Q q => by
  obtain ⟨a, xs, rfl, hl, hd⟩ := da_tup ax
  obtain ⟨v, hv, av⟩ := das_atI hd e
  exact .inr (.inl ⟨a, xs, i, v, rfl, da_int ay, w.jh.t hl, hv, q v d J H w w.tr rfl av⟩)
/-- what a slice of ds has -/
def cut (ds : List PyData) (lo hi : Option Int) : List PyData := (ds.drop (HT.sIx ds.length 0 lo)).take (HT.sIx ds.length ds.length hi - HT.sIx ds.length 0 lo)
theorem das_cut {xs : List V} {ds : List PyData} (h : Das K J xs ds) (lo hi : Option Int) : Das K J (cutV xs lo hi) (cut ds lo hi) := by
  unfold cutV cut
  rw [das_len h]
  exact das_take _ (das_drop _ h)
theorem sd_list {ds : List PyData} {lo hi : Option Int} : SlD K M (rSlL K) (.list ds) lo hi (· = .list (cut ds lo hi)) := fun x J H w ax Q q => by
  obtain ⟨a, xs, rfl, hl, hd⟩ := da_lst ax
  refine ⟨a, xs, rfl, .of (w.jh _ _ hl), fun p hp => ?_⟩
  have t := w.new (o := .lst (cutV xs lo hi)) hp
  exact q _ _ _ _ (t.wf w) t rfl (.lst upd_same (t.jj.das (das_cut hd lo hi)))
theorem sd_tup {ds : List PyData} {lo hi : Option Int} : SlD K M (rSlA K) (.tuple ds) lo hi (· = .tuple (cut ds lo hi)) := fun x J H w ax Q q => by
  obtain ⟨a, xs, rfl, hl, hd⟩ := da_tup ax
  have hlen := das_len hd
  refine ⟨a, xs, rfl, w.jh.t hl, fun e => ?_, fun _ p hp => ?_⟩
  · refine q _ _ J H w w.tr rfl ?_
    have ec : cut ds lo hi = ds := by
      unfold cut
      rw [hlen] at e
      rw [e.1, e.2]
      simp
    rw [ec]
    exact ax
  · have t := w.new (o := .tup (cutV xs lo hi)) hp
    exact q _ _ _ _ (t.wf w) t rfl (.tup (.of upd_same) (t.jj.das (das_cut hd lo hi)))
theorem eo_none : EvO K M tNoPart σ J H (· = none) := fun J1 H1 w t Q q => q none J1 H1 w w.tr rfl
theorem eo_some {p : Int → Prop} (h : EvP K M te σ J H fun d => ∃ i, d = .int i ∧ p i) : EvO K M (tPart te) σ J H fun o => ∃ i, o = some i ∧ p i := fun J1 H1 w t Q q =>
  h J1 H1 w t _ fun v d J2 H2 w2 t2 ⟨i, e, hp⟩ a => by
    subst e
    exact ⟨i, da_int a, q _ J2 H2 w2 t2 ⟨i, rfl, hp⟩⟩
theorem eo_at (h : EvD K M te σ J H (.int i)) : EvO K M (tPart te) σ J H (· = some i) := fun J1 H1 w t Q q =>
  h J1 H1 w t _ fun v d J2 H2 w2 t2 e a => by
    subst e
    exact ⟨i, da_int a, q _ J2 H2 w2 t2 rfl⟩
theorem ev_sl {r : V → Option Int → Option Int → Hp → VK → Prop} {tl th : TO} {Pl Ph : Option Int → Prop} (h : EvP K M te σ J H Px) (hl : EvO K M tl σ J H Pl) (hh : EvO K M th σ J H Ph)
    (ho : ∀ dx lo hi, Px dx → Pl lo → Ph hi → SlD K M r dx lo hi P) : EvP K M (tSl r te tl th) σ J H P := fun J1 H1 w t Q q =>
  h J1 H1 w t _ fun x dx J2 H2 w2 t2 px ax => hl J2 H2 w2 (t.trans t2) _ fun lo J3 H3 w3 t3 pl => hh J3 H3 w3 ((t.trans t2).trans t3) _ fun hi J4 H4 w4 t4 ph =>
    ho dx lo hi px pl ph x J4 H4 w4 ((t3.trans t4).jj.da ax) Q fun v d J5 H5 w5 t5 p a => q v d J5 H5 w5 (t2.trans ((t3.trans t4).trans t5)) p a
theorem ev_slD {r : V → Option Int → Option Int → Hp → VK → Prop} {tl th : TO} {lo hi : Option Int} (h : EvD K M te σ J H dx) (hl : EvO K M tl σ J H (· = lo)) (hh : EvO K M th σ J H (· = hi)) (ho : SlD K M r dx lo hi P) : EvP K M (tSl r te tl th) σ J H P :=
  ev_sl h hl hh fun _ _ _ e1 e2 e3 => by rw [e1, e2, e3]; exact ho
/-- x[::-1] -/
theorem ev_revL {ds : List PyData} (h : EvD K M te σ J H (.list ds)) : EvD K M (tRevL K te) σ J H (.list ds.reverse) := fun J1 H1 w t Q q =>
  h J1 H1 w t _ fun x d J2 H2 w2 t2 e ax => by
    subst e
    obtain ⟨a, xs, rfl, hl, hd⟩ := da_lst ax
    refine ⟨a, xs, rfl, .of (w2.jh _ _ hl), fun p hp => ?_⟩
    have t3 := w2.new (o := .lst xs.reverse) hp
    exact q _ _ _ _ (t3.wf w2) (t2.trans t3) rfl (.lst upd_same (t3.jj.das (das_rev hd)))

/-! several at once; displays; calls -/
theorem ea_nil : EvA K M tNil σ J H (· = []) := fun J1 H1 w t Q q => q [] [] J1 H1 w w.tr rfl .nil
theorem ea_cons {tr : TA} {Pr : List PyData → Prop} (h : EvP K M ta σ J H Px) (hr : EvA K M tr σ J H Pr) : EvA K M (tCons ta tr) σ J H fun ds => ∃ d r, ds = d :: r ∧ Px d ∧ Pr r := fun J1 H1 w t Q q =>
  h J1 H1 w t _ fun x dx J2 H2 w2 t2 px ax => hr J2 H2 w2 (t.trans t2) _ fun vs ds J3 H3 w3 t3 pr ar => q _ _ J3 H3 w3 (t2.trans t3) ⟨dx, ds, rfl, px, pr⟩ (.cons (t3.jj.da ax) ar)
theorem ea_consD {tr : TA} {ds : List PyData} (h : EvD K M ta σ J H d) (hr : EvA K M tr σ J H (· = ds)) : EvA K M (tCons ta tr) σ J H (· = d :: ds) := (ea_cons h hr).mono fun _ ⟨_, _, e, e1, e2⟩ => by rw [e, e1, e2]
theorem ev_tup {ta : TA} {Pa : List PyData → Prop} (h : EvA K M ta σ J H Pa) (hl : ∀ ds, Pa ds → ds.length ≤ 100000) : EvP K M (tTup ta) σ J H fun d => ∃ ds, d = .tuple ds ∧ Pa ds := fun J1 H1 w t Q q =>
  h J1 H1 w t _ fun vs ds J2 H2 w2 t2 p a => ⟨by rw [das_len a]; exact Nat.le_trans (hl ds p) (by decide), fun l hn => by
    have t3 := w2.new (o := .tup vs) hn
    exact q _ _ _ _ (t3.wf w2) (t2.trans t3) ⟨ds, rfl, p⟩ (.tup (.of upd_same) (t3.jj.das a))⟩
theorem ev_tupD {ta : TA} {ds : List PyData} (h : EvA K M ta σ J H (· = ds)) (hl : ds.length ≤ 100000 := by simp only [List.length_cons, List.length_nil]; decide) : EvD K M (tTup ta) σ J H (.tuple ds) :=
  (ev_tup h fun _ e => by rw [e]; exact hl).mono fun _ ⟨_, e, e1⟩ => by rw [e, e1]
theorem ev_lst {ta : TA} {Pa : List PyData → Prop} (h : EvA K M ta σ J H Pa) (hl : ∀ ds, Pa ds → ds.length ≤ 100000) : EvP K M (tLst ta) σ J H fun d => ∃ ds, d = .list ds ∧ Pa ds := fun J1 H1 w t Q q =>
  h J1 H1 w t _ fun vs ds J2 H2 w2 t2 p a => ⟨by rw [das_len a]; exact Nat.le_trans (hl ds p) (by decide), fun l hn => by
    have t3 := w2.new (o := .lst vs) hn
    exact q _ _ _ _ (t3.wf w2) (t2.trans t3) ⟨ds, rfl, p⟩ (.lst upd_same (t3.jj.das a))⟩
theorem ev_lstD {ta : TA} {ds : List PyData} (h : EvA K M ta σ J H (· = ds)) (hl : ds.length ≤ 100000 := by simp only [List.length_cons, List.length_nil]; decide) : EvD K M (tLst ta) σ J H (.list ds) :=
  (ev_lst h fun _ e => by rw [e]; exact hl).mono fun _ ⟨_, e, e1⟩ => by rw [e, e1]
theorem ev_cb {r : List V → Hp → VK → Prop} {ta : TA} {Pa : List PyData → Prop} (h : EvA K M ta σ J H Pa) (ho : ∀ ds, Pa ds → CbD K M r ds P) : EvP K M (tCB r ta) σ J H P := fun J1 H1 w t Q q =>
  h J1 H1 w t _ fun vs ds J2 H2 w2 t2 p a => ho ds p vs J2 H2 w2 a Q fun v d J3 H3 w3 t3 p3 a3 => q v d J3 H3 w3 (t2.trans t3) p3 a3
theorem ev_cbD {r : List V → Hp → VK → Prop} {ta : TA} {ds : List PyData} (h : EvA K M ta σ J H (· = ds)) (ho : CbD K M r ds P) : EvP K M (tCB r ta) σ J H P := ev_cb h fun _ e => by rw [e]; exact ho
theorem ev_call {sp : Sp} {E : XK} {ta : TA} {Pa : List PyData → Prop} (h : EvA K M ta σ J H Pa) (ho : ∀ ds, Pa ds → SpD K M sp ds P E) : EvP K M (tCall sp [] E ta) σ J H P := fun J1 H1 w t Q q =>
  h J1 H1 w t _ fun vs ds J2 H2 w2 t2 p a => by
    show sp (vs ++ []) H2 Q E
    rw [List.append_nil]
    exact ho ds p vs J2 H2 w2 a Q fun v d J3 H3 w3 t3 p3 a3 => q v d J3 H3 w3 (t2.trans t3) p3 a3
theorem ev_callD {sp : Sp} {E : XK} {ta : TA} {ds : List PyData} (h : EvA K M ta σ J H (· = ds)) (ho : SpD K M sp ds P E) : EvP K M (tCall sp [] E ta) σ J H P := ev_call h fun _ e => by rw [e]; exact ho
end
/-- what a pure def promises: ds its arguments -/
def spF (K : PySem.W.Frag) (pre : List PyData → Prop) (post : List PyData → PyData → Prop) : Sp := fun vs H Q _ => ∃ J ds, Sub J H ∧ Das K J vs ds ∧ pre ds ∧
  ∀ v d J' H', Tr Md.pure J H J' H' → post ds d → Da K J' v d → Q v H'
theorem spF_D {K : PySem.W.Frag} {M : Md} {pre : List PyData → Prop} {post : List PyData → PyData → Prop} {ds : List PyData} {E : XK} (h : pre ds) : SpD K M (spF K pre post) ds (post ds) E := fun vs J H w a Q q =>
  ⟨J, ds, w.jh, a, h, fun v d J' H' t p a' => q v d J' H' ((w.lift t).wf w) (w.lift t) p a'⟩
end DL

namespace DL
open PySem PySem.Spec
open PyProof.Rows L2
section
variable {K : PySem.W.Frag} {M : Md} {σ : L2.St} {J H J' H' J0 H0 J1 H1 : Hp} {ta tb te tc : TE} {t u : TT} {r r' : R2} {P P' Px Py Pz : PyData → Prop} {d dx dy : PyData} {v : V} {i j : Int} {p : Addr} {o : HO}

theorem Wf.nofp (w : Wf M J H) (h : H p = none) : ¬ M.fp p := fun q => (w.out p q).2 h
/-- a cell of one's own is written, or comes to be known for good -/
theorem Tr.put {xs zs : List V} (w : Wf M J H) (t : Tr M J H J1 H1) (e1 : H1 p = some (.lst xs)) (hp : H p = none) (jp : J1 p = none) : Tr M J H J1 (upd H1 p (.lst zs)) := by
  have st : ∀ a x, H1 a = some x → ¬ Mu x → upd H1 p (.lst zs) a = some x := fun a x e ne => by
    by_cases h : a = p
    · rw [h, e1] at e; exact absurd (by rw [← Option.some.inj e]; exact True.intro) ne
    · rw [upd_ne h]; exact e
  refine ⟨t.jj, fun a x e => ?_, fun a x n b e => ?_, M.loc _ _ (fun a q => upd_ne fun e => w.nofp hp (by rw [← e]; exact q)) st t.inv, t.frn, fun a q b e => ?_, t.tn⟩
  · rw [upd_ne (ne_of_none e jp)]; exact t.jh a x e
  · rw [upd_ne (ne_of_none e hp)]; exact t.kept a x n b e
  · by_cases h : a = p
    · rw [h, hp] at e; cases e
    · rw [upd_ne h]; exact t.aln a q b e
theorem Tr.ice (t : Tr M J H J1 H1) (hp : H p = none) (jp : J1 p = none) (e : H1 p = some o) (nt : ∀ ps, o ≠ .tbl ps := by first | assumption | (intro _ z; cases z; done)) : Tr M J H (upd J1 p o) H1 := by
  refine ⟨t.jj.trans (.new jp), fun a x q => ?_, t.kept, t.inv, fun a x b q n => ?_, t.aln, fun g a ps q => ?_⟩
  · by_cases h : a = p
    · rw [h, upd_same] at q; cases q; rw [h]; exact e
    · rw [upd_ne h] at q; exact t.jh a x q
  · rw [upd_ne (so_ne q hp)]; exact t.frn a x b q n
  · by_cases h : a = p
    · rw [h, upd_same] at q; exact nt ps (Option.some.inj q)
    · rw [upd_ne h] at q; exact t.tn g a ps q
/-- what was learnt may be forgotten -/
theorem Tr.thaw (t : Tr M J0 H0 J H) (u : Tr M J' H J1 H1) (s : Sub J J1) : Tr M J0 H0 J H1 :=
  ⟨t.jj, s.trans u.jh, fun a x n b e => u.kept a x n b (t.kept a x n b e), u.inv, t.frn, fun a x b e => by
    obtain ⟨y, c, e⟩ := t.aln a x b e
    exact u.aln a y c e, t.tn⟩
theorem Tr.fresh (t : Tr M J H J1 H1) (a : Addr) (o : HO) (h : H a = some o) (n : J a = none) (nt : Nt M o := by first | assumption | (intro h; cases h; done) | (intro _ _ z; cases z; done)) : J1 a = none := t.frn a o nt h n
theorem Tr.cellj (t : Tr M J H J1 H1) (h : H p = some o) (n : J p = none) (nt : Nt M o := by first | assumption | (intro h; cases h; done) | (intro _ _ z; cases z; done)) : J1 p = none := t.frn p o nt h n

/-! ### tests -/
theorem et_test {Pb : Bool → Prop} (h : EvP K M te σ J H fun d => ∃ b, d = .bool b ∧ Pb b) : EvT M (tTest te) σ J H Pb := fun J1 H1 w t Q q =>
  h J1 H1 w t _ fun v d J2 H2 w2 t2 ⟨b, e, pb⟩ a => by
    subst e
    exact ⟨b, da_bl a, q b J2 H2 w2 t2 pb⟩
theorem et_testD {b : Bool} (h : EvD K M te σ J H (.bool b)) : EvT M (tTest te) σ J H (· = b) := et_test (h.mono fun _ e => ⟨b, e, rfl⟩)
theorem et_B {Pb : Bool → Prop} (h : EvP K M te σ J H fun d => ∃ b, d = .bool b ∧ Pb b) : EvT M (tB te) σ J H Pb := fun J1 H1 w t Q q =>
  h J1 H1 w t _ fun v d J2 H2 w2 t2 ⟨b, e, pb⟩ a => by
    subst e
    exact ⟨b, da_bl a, q b J2 H2 w2 t2 pb⟩
theorem et_BD {b : Bool} (h : EvD K M te σ J H (.bool b)) : EvT M (tB te) σ J H (· = b) := et_B (h.mono fun _ e => ⟨b, e, rfl⟩)
theorem et_and {Pa Pb : Bool → Prop} {t u : TT} (h : EvT M t σ J H Pa) (g : Pa true → EvT M u σ J H Pb) : EvT M (tAnd t u) σ J H fun c => (c = false ∧ Pa false) ∨ (Pa true ∧ Pb c) := fun J1 H1 w tr Q q =>
  h J1 H1 w tr _ fun b J2 H2 w2 t2 pa => by
    cases b with
    | true => exact g pa J2 H2 w2 (tr.trans t2) Q fun c J3 H3 w3 t3 pb => q c J3 H3 w3 (t2.trans t3) (.inr ⟨pa, pb⟩)
    | false => exact q false J2 H2 w2 t2 (.inl ⟨rfl, pa⟩)
theorem et_or {Pa Pb : Bool → Prop} {t u : TT} (h : EvT M t σ J H Pa) (g : Pa false → EvT M u σ J H Pb) : EvT M (tOr t u) σ J H fun c => (c = true ∧ Pa true) ∨ (Pa false ∧ Pb c) := fun J1 H1 w tr Q q =>
  h J1 H1 w tr _ fun b J2 H2 w2 t2 pa => by
    cases b with
    | false => exact g pa J2 H2 w2 (tr.trans t2) Q fun c J3 H3 w3 t3 pb => q c J3 H3 w3 (t2.trans t3) (.inr ⟨pa, pb⟩)
    | true => exact q true J2 H2 w2 t2 (.inl ⟨rfl, pa⟩)
theorem et_andD {a b : Bool} {t u : TT} (h : EvT M t σ J H (· = a)) (g : a = true → EvT M u σ J H (· = b)) : EvT M (tAnd t u) σ J H (· = (a && b)) :=
  (et_and h fun e => g e.symm).mono fun c hc => by
    rcases hc with ⟨e, ea⟩ | ⟨ea, e⟩
    · rw [e, ← ea]; rfl
    · rw [e, ← ea]; rfl
theorem et_orD {a b : Bool} {t u : TT} (h : EvT M t σ J H (· = a)) (g : a = false → EvT M u σ J H (· = b)) : EvT M (tOr t u) σ J H (· = (a || b)) :=
  (et_or h fun e => g e.symm).mono fun c hc => by
    rcases hc with ⟨e, ea⟩ | ⟨ea, e⟩
    · rw [e, ← ea]; rfl
    · rw [e, ← ea]; rfl
theorem et_not {Pa : Bool → Prop} {t : TT} (h : EvT M t σ J H Pa) : EvT M (tNot t) σ J H fun c => Pa (!c) := fun J1 H1 w tr Q q =>
  h J1 H1 w tr _ fun b J2 H2 w2 t2 pa => q (!b) J2 H2 w2 t2 (by show Pa (!!b); rw [Bool.not_not]; exact pa)
theorem et_notD {a : Bool} {t : TT} (h : EvT M t σ J H (· = a)) : EvT M (tNot t) σ J H (· = !a) := (et_not h).mono fun c e => by rw [← e, Bool.not_not]
theorem et_yes : EvT M tYes σ J H (· = true) := fun J1 H1 w tr Q q => q true J1 H1 w w.tr rfl
/-- truth of a datum -/
def truth : PyData → Bool
  | .none => false
  | .bool b => b
  | .int i => i != 0
  | .str x => (x.length : Int) != 0
  | .list ds => !ds.isEmpty
  | .tuple ds => !ds.isEmpty
  | .dict _ => false
def tTruth (K : PySem.W.Frag) (ta : TE) : TT := fun σ H Q => ta σ H fun x H' => ∃ k, TruV K x H' k ∧ Q k H'
theorem das_empty {xs : List V} {ds : List PyData} (h : Das K J xs ds) : xs.isEmpty = ds.isEmpty := by cases h <;> rfl
theorem et_truth (h : EvP K M te σ J H Px) (hl : ∀ x, Px (.str x) → x.length ≤ sizeLine) : EvT M (tTruth K te) σ J H fun b => ∃ d, Px d ∧ b = truth d := fun J1 H1 w t Q q =>
  h J1 H1 w t _ fun v d J2 H2 w2 t2 px a => by
    refine ⟨truth d, ?_, q _ J2 H2 w2 t2 ⟨d, px, rfl⟩⟩
    cases a with
    | non => rfl
    | bl b => rfl
    | int i => rfl
    | str x => exact ⟨hl x px, rfl⟩
    | lst a b => exact .inl ⟨_, .of (w2.jh _ _ a), by rw [das_empty b]; rfl⟩
    | tup a b => exact .inr (.inl ⟨_, w2.jh.t a, by rw [das_empty b]; rfl⟩)

/-! ### and, or, not as values; a if t else b; chains -/
theorem ev_andV {a : Bool} {b : PyData} (h : EvD K M ta σ J H (.bool a)) (g : a = true → EvD K M tb σ J H b) : EvD K M (tAndV ta tb) σ J H (if a then b else .bool false) := fun J1 H1 w t Q q =>
  h J1 H1 w t _ fun v d J2 H2 w2 t2 e x => by
    subst e
    refine ⟨a, da_bl x, ?_⟩
    cases a with
    | true => exact g rfl J2 H2 w2 (t.trans t2) Q fun v d J3 H3 w3 t3 e3 a3 => q v d J3 H3 w3 (t2.trans t3) e3 a3
    | false => exact q _ _ J2 H2 w2 t2 rfl (.bl false)
theorem ev_orV {a : Bool} {b : PyData} (h : EvD K M ta σ J H (.bool a)) (g : a = false → EvD K M tb σ J H b) : EvD K M (tOrV ta tb) σ J H (if a then .bool true else b) := fun J1 H1 w t Q q =>
  h J1 H1 w t _ fun v d J2 H2 w2 t2 e x => by
    subst e
    refine ⟨a, da_bl x, ?_⟩
    cases a with
    | false => exact g rfl J2 H2 w2 (t.trans t2) Q fun v d J3 H3 w3 t3 e3 a3 => q v d J3 H3 w3 (t2.trans t3) e3 a3
    | true => exact q _ _ J2 H2 w2 t2 rfl (.bl true)
theorem ev_notV {a : Bool} (h : EvD K M ta σ J H (.bool a)) : EvD K M (tNotV ta) σ J H (.bool !a) := fun J1 H1 w t Q q =>
  h J1 H1 w t _ fun v d J2 H2 w2 t2 e x => by
    subst e
    exact ⟨a, da_bl x, q _ _ J2 H2 w2 t2 rfl (.bl _)⟩
theorem ev_if {Pb : Bool → Prop} {t : TT} (h : EvT M t σ J H Pb) (h1 : Pb true → EvP K M ta σ J H P) (h2 : Pb false → EvP K M tb σ J H P) : EvP K M (tIf t ta tb) σ J H P := fun J1 H1 w tr Q q =>
  h J1 H1 w tr _ fun b J2 H2 w2 t2 pb => by
    cases b with
    | true => exact h1 pb J2 H2 w2 (tr.trans t2) Q fun v d J3 H3 w3 t3 e3 a3 => q v d J3 H3 w3 (t2.trans t3) e3 a3
    | false => exact h2 pb J2 H2 w2 (tr.trans t2) Q fun v d J3 H3 w3 t3 e3 a3 => q v d J3 H3 w3 (t2.trans t3) e3 a3
theorem ev_chain {a b : Bool} {dz : PyData} (h1 : EvD K M ta σ J H dx) (h2 : EvD K M tb σ J H dy) (h3 : EvD K M tc σ J H dz) (ho : OpD K M r dx dy (· = .bool a)) (ho' : OpD K M r' dy dz (· = .bool b)) : EvD K M (tChain r r' ta tb tc) σ J H (.bool (a && b)) := fun J1 H1 w t Q q =>
  h1 J1 H1 w t _ fun x dx' J2 H2 w2 t2 ex ax => h2 J2 H2 w2 (t.trans t2) _ fun y dy' J3 H3 w3 t3 ey ay => by
    subst ex
    subst ey
    refine ho x y J3 H3 w3 (t3.jj.da ax) ay _ fun z dz' J4 H4 w4 t4 ez az => ?_
    subst ez
    refine ⟨a, da_bl az, ?_⟩
    cases a with
    | true =>
      refine h3 J4 H4 w4 ((t.trans t2).trans (t3.trans t4)) _ fun z2 dz2 J5 H5 w5 t5 e5 a5 => ?_
      subst e5
      exact ho' y z2 J5 H5 w5 ((t4.trans t5).jj.da ay) a5 Q fun v d J6 H6 w6 t6 e6 a6 => q v d J6 H6 w6 ((t2.trans t3).trans ((t4.trans t5).trans t6)) e6 a6
    | false => exact q _ _ J4 H4 w4 ((t2.trans t3).trans t4) rfl (.bl false)

/-! ### built-in calls -/
theorem das_one {vs : List V} {d : PyData} (h : Das K J vs [d]) : ∃ v, vs = [v] ∧ Da K J v d := by
  cases h with
  | cons a b => cases b; exact ⟨_, rfl, a⟩
theorem cd_lenL {ds : List PyData} : CbD K M (rLen K) [.list ds] (· = .int ds.length) := fun vs J H w a Q q => by
  obtain ⟨v, rfl, av⟩ := das_one a
  obtain ⟨p, xs, rfl, hl, hd⟩ := da_lst av
  exact ⟨_, ds.length, rfl, .inl ⟨xs, .of (w.jh _ _ hl), (das_len hd).symm⟩, q _ _ J H w w.tr rfl (.int _)⟩
theorem cd_lenT {ds : List PyData} : CbD K M (rLen K) [.tuple ds] (· = .int ds.length) := fun vs J H w a Q q => by
  obtain ⟨v, rfl, av⟩ := das_one a
  obtain ⟨p, xs, rfl, hl, hd⟩ := da_tup av
  exact ⟨_, ds.length, rfl, .inr ⟨xs, w.jh.t hl, (das_len hd).symm⟩, q _ _ J H w w.tr rfl (.int _)⟩
theorem cd_lenS {x : Str} (hz : x.length ≤ sizeLine) : CbD K M (rLen K) [.str x] (· = .int x.length) := fun vs J H w a Q q => by
  obtain ⟨v, rfl, av⟩ := das_one a
  exact ⟨_, x.length, rfl, by rw [da_str av]; exact ⟨hz, rfl⟩, q _ _ J H w w.tr rfl (.int _)⟩
def rTupOf (K : PySem.W.Frag) : List V → Hp → VK → Prop := fun xs H Q => ∃ p ys, xs = [.ref p] ∧ ((SqL K H p ys ∧ ∀ l, H l = none → Q (.ref l) (upd H l (.tup ys))) ∨ (SqT K H p ys ∧ Q (.ref p) H))
theorem cd_tupL {ds : List PyData} : CbD K M (rTupOf K) [.list ds] (· = .tuple ds) := fun vs J H w a Q q => by
  obtain ⟨v, rfl, av⟩ := das_one a
  obtain ⟨p, xs, rfl, hl, hd⟩ := da_lst av
  refine ⟨p, xs, rfl, .inl ⟨.of (w.jh _ _ hl), fun l hn => ?_⟩⟩
  have t := w.new (o := .tup xs) hn
  exact q _ _ _ _ (t.wf w) t rfl (.tup (.of upd_same) (t.jj.das hd))
theorem cd_tupT {ds : List PyData} : CbD K M (rTupOf K) [.tuple ds] (· = .tuple ds) := fun vs J H w a Q q => by
  obtain ⟨v, rfl, av⟩ := das_one a
  obtain ⟨p, xs, rfl, hl, hd⟩ := da_tup av
  exact ⟨p, xs, rfl, .inr ⟨w.jh.t hl, q _ _ J H w w.tr rfl av⟩⟩
def rLstOf (K : PySem.W.Frag) : List V → Hp → VK → Prop := fun xs H Q => ∃ p ys, xs = [.ref p] ∧ (SqL K H p ys ∨ SqT K H p ys) ∧ ∀ l, H l = none → Q (.ref l) (upd H l (.lst ys))
theorem cd_lstL {ds : List PyData} : CbD K M (rLstOf K) [.list ds] (· = .list ds) := fun vs J H w a Q q => by
  obtain ⟨v, rfl, av⟩ := das_one a
  obtain ⟨p, xs, rfl, hl, hd⟩ := da_lst av
  refine ⟨p, xs, rfl, .inl (.of (w.jh _ _ hl)), fun l hn => ?_⟩
  have t := w.new (o := .lst xs) hn
  exact q _ _ _ _ (t.wf w) t rfl (.lst upd_same (t.jj.das hd))
theorem cd_lstT {ds : List PyData} : CbD K M (rLstOf K) [.tuple ds] (· = .list ds) := fun vs J H w a Q q => by
  obtain ⟨v, rfl, av⟩ := das_one a
  obtain ⟨p, xs, rfl, hl, hd⟩ := da_tup av
  refine ⟨p, xs, rfl, .inr (w.jh.t hl), fun l hn => ?_⟩
  have t := w.new (o := .lst xs) hn
  exact q _ _ _ _ (t.wf w) t rfl (.lst upd_same (t.jj.das hd))
def rAbs : List V → Hp → VK → Prop := fun xs H Q => ∃ i, xs = [.int i] ∧ Q (.int (if i < 0 then -i else i)) H
theorem cd_abs : CbD K M rAbs [.int i] (· = .int (if i < 0 then -i else i)) := fun vs J H w a Q q => by
  obtain ⟨v, rfl, av⟩ := das_one a
  exact ⟨i, by rw [da_int av], q _ _ J H w w.tr rfl (.int _)⟩
def rInt1 : List V → Hp → VK → Prop := fun xs H Q => (∃ i, xs = [.int i] ∧ Q (.int i) H) ∨ ∃ k, xs = [.bl k] ∧ Q (.int (if k then 1 else 0)) H
theorem cd_int : CbD K M rInt1 [.int i] (· = .int i) := fun vs J H w a Q q => by
  obtain ⟨v, rfl, av⟩ := das_one a
  exact .inl ⟨i, by rw [da_int av], q _ _ J H w w.tr rfl (.int _)⟩
/-- repr -/
def rRepr (K : PySem.W.Frag) : List V → Hp → VK → Prop := fun xs H Q => ∃ x d, xs = [x] ∧ Dp K H x d ∧ d.showable = true ∧ d.shown.length ≤ sizeLine ∧ d.depth ≤ 60 ∧ Q (.str d.shown) H
theorem cd_repr (h1 : d.showable = true) (h2 : d.shown.length ≤ sizeLine) (h3 : d.depth ≤ 60) : CbD K M (rRepr K) [d] (· = .str d.shown) := fun vs J H w a Q q => by
  obtain ⟨v, rfl, av⟩ := das_one a
  exact ⟨v, d, rfl, av.dp w.jh, h1, h2, h3, q _ _ J H w w.tr rfl (.str _)⟩
/-- + of numbers, of tuples, of lists, of texts -/
def rPlus (K : PySem.W.Frag) : R2 := fun x y H Q => (rI0 fun i j => .int (i + j)) x y H Q ∨ rCatA K x y H Q ∨ rCat x y H Q ∨ ∃ i j, x = .str i ∧ y = .str j ∧ i.length + j.length ≤ sizeLine ∧ Q (.str (i ++ j)) H
theorem od_plus : OpD K M (rPlus K) (.int i) (.int j) (· = .int (i + j)) := fun x y J H w ax ay Q q => .inl (od_add x y J H w ax ay Q q)
theorem od_plusT {ds es : List PyData} (h : ds.length + es.length ≤ sizeLine) : OpD K M (rPlus K) (.tuple ds) (.tuple es) (· = .tuple (ds ++ es)) := fun x y J H w ax ay Q q => by
  obtain ⟨a, xs, rfl, hl, hd⟩ := da_tup ax
  obtain ⟨b, ys, rfl, hl2, hd2⟩ := da_tup ay
  refine .inr (.inl ⟨a, b, xs, ys, rfl, rfl, w.jh.t hl, w.jh.t hl2, by rw [das_len hd, das_len hd2]; exact h, fun e => ?_, fun _ e => ?_, fun _ _ l hn => ?_⟩)
  · subst e
    cases hd
    exact q _ _ J H w w.tr rfl ay
  · subst e
    cases hd2
    rw [List.append_nil] at q
    exact q _ _ J H w w.tr rfl ax
  · have t := w.new (o := .tup (xs ++ ys)) hn
    exact q _ _ _ _ (t.wf w) t rfl (.tup (.of upd_same) (t.jj.das (das_app hd hd2)))
theorem od_plusL {ds es : List PyData} (h : ds.length + es.length ≤ sizeLine) : OpD K M (rPlus K) (.list ds) (.list es) (· = .list (ds ++ es)) := fun x y J H w ax ay Q q => by
  obtain ⟨a, xs, rfl, hl, hd⟩ := da_lst ax
  obtain ⟨b, ys, rfl, hl2, hd2⟩ := da_lst ay
  refine .inr (.inr (.inl ⟨a, b, xs, ys, rfl, rfl, w.jh _ _ hl, w.jh _ _ hl2, by rw [das_len hd, das_len hd2]; exact h, fun l hn => ?_⟩))
  have t := w.new (o := .lst (xs ++ ys)) hn
  exact q _ _ _ _ (t.wf w) t rfl (.lst upd_same (t.jj.das (das_app hd hd2)))
theorem od_plusS {x y : Str} (h : x.length + y.length ≤ sizeLine) : OpD K M (rPlus K) (.str x) (.str y) (· = .str (x ++ y)) := fun a b J H w ax ay Q q =>
  .inr (.inr (.inr ⟨x, y, da_str ax, da_str ay, h, q _ _ J H w w.tr rfl (.str _)⟩))

/-! ### what a loop goes over -/
structure WalkD (K : PySem.W.Frag) (A : L2.It) (J : Hp) (ds : List PyData) : Prop where
  go : ∀ i H, i < ds.length → Sub J H → A.go i H
  stop : ∀ H, Sub J H → A.stop ds.length H
  yld : ∀ i H x H' d, ds[i]? = some d → Sub J H → A.yld i H x H' → (H' = H ∧ Da K J x d) ∨ ∃ T xs es, x = .ref T ∧ H T = none ∧ H' = upd H T (.tup xs) ∧ d = .tuple es ∧ Das K J xs es
def EvW (K : PySem.W.Frag) (M : Md) (wi : TI) (σ : L2.St) (J H : Hp) (P : List PyData → Prop) : Prop :=
  ∀ J1 H1, Wf M J1 H1 → Tr M J H J1 H1 → ∀ R : L2.It → Hp → Prop, (∀ A ds J2 H2, Wf M J2 H2 → Tr M J1 H1 J2 H2 → P ds → WalkD K A J2 ds → R A H2) → wi σ H1 R
theorem ew_list {Pl : List PyData → Prop} (h : EvP K M te σ J H fun d => ∃ ds, d = .list ds ∧ Pl ds) : EvW K M (iList K te) σ J H Pl := fun J1 H1 w t R q =>
  h J1 H1 w t _ fun v d J2 H2 w2 t2 ⟨ds, e, pl⟩ a => by
    subst e
    obtain ⟨p, xs, rfl, hl, hd⟩ := da_lst a
    refine ⟨p, rfl, ⟨xs, .of (w2.jh _ _ hl)⟩, q _ ds J2 H2 w2 t2 pl ⟨fun i G hi s => ?_, fun G s => ⟨xs, .of (s _ _ hl), by rw [das_len hd]; exact Nat.le_refl _⟩, fun i G x G' d hd' s y => ?_⟩⟩
    · have hi2 : i < xs.length := by rw [das_len hd]; exact hi
      exact ⟨xs, xs[i], .of (s _ _ hl), List.getElem?_eq_getElem hi2⟩
    · obtain ⟨e, y⟩ := y
      obtain ⟨d2, e2, a2⟩ := das_at hd (y xs (.of (s _ _ hl)))
      rw [hd'] at e2
      cases e2
      exact .inl ⟨e, a2⟩
theorem ew_listD {ds : List PyData} (h : EvD K M te σ J H (.list ds)) : EvW K M (iList K te) σ J H (· = ds) := ew_list (h.mono fun _ e => ⟨ds, e, rfl⟩)
theorem ew_tup {Pl : List PyData → Prop} (h : EvP K M te σ J H fun d => ∃ ds, d = .tuple ds ∧ Pl ds) : EvW K M (iTup K te) σ J H Pl := fun J1 H1 w t R q =>
  h J1 H1 w t _ fun v d J2 H2 w2 t2 ⟨ds, e, pl⟩ a => by
    subst e
    obtain ⟨p, xs, rfl, hl, hd⟩ := da_tup a
    refine ⟨p, rfl, ⟨xs, w2.jh.t hl⟩, q _ ds J2 H2 w2 t2 pl ⟨fun i G hi s => ?_, fun G s => ⟨xs, s.t hl, by rw [das_len hd]; exact Nat.le_refl _⟩, fun i G x G' d hd' s y => ?_⟩⟩
    · have hi2 : i < xs.length := by rw [das_len hd]; exact hi
      exact ⟨xs, xs[i], s.t hl, List.getElem?_eq_getElem hi2⟩
    · obtain ⟨e, y⟩ := y
      obtain ⟨d2, e2, a2⟩ := das_at hd (y xs (s.t hl))
      rw [hd'] at e2
      cases e2
      exact .inl ⟨e, a2⟩
theorem ew_tupD {ds : List PyData} (h : EvD K M te σ J H (.tuple ds)) : EvW K M (iTup K te) σ J H (· = ds) := ew_tup (h.mono fun _ e => ⟨ds, e, rfl⟩)
/-- 0, 1, .. -/
def upTo (n : Nat) : List PyData := (List.range n).map fun k => .int (k : Nat)
theorem upTo_at {n k : Nat} {d : PyData} (h : (upTo n)[k]? = some d) : d = .int k ∧ k < n := by
  unfold upTo at h
  rw [List.getElem?_map] at h
  by_cases hk : k < n
  · rw [List.getElem?_range hk] at h
    exact ⟨(Option.some.inj h).symm, hk⟩
  · rw [List.getElem?_eq_none (by simp; omega)] at h
    cases h
theorem upTo_len {n : Nat} : (upTo n).length = n := by unfold upTo; simp
theorem ew_range {Pn : Nat → Prop} (h : EvP K M te σ J H fun d => ∃ n : Nat, d = .int n ∧ n < 2 ^ 62 ∧ Pn n) : EvW K M (iRng1 (tCons te tNil)) σ J H fun ds => ∃ n : Nat, ds = upTo n ∧ Pn n := fun J1 H1 w t R q =>
  h J1 H1 w t _ fun v d J2 H2 w2 t2 ⟨n, e, hn, pn⟩ a => by
    subst e
    rw [da_int a]
    refine ⟨n, rfl, by omega, by omega, q _ (upTo n) J2 H2 w2 t2 ⟨n, rfl, pn⟩ ⟨fun i G hi s => ?_, fun G s => ?_, fun i G x G' d hd' s y => ?_⟩⟩
    · rw [upTo_len] at hi
      show i < (n : Int).toNat
      omega
    · show (n : Int).toNat ≤ _
      rw [upTo_len]; omega
    · obtain ⟨e1, e2⟩ := y
      obtain ⟨e3, _⟩ := upTo_at hd'
      rw [e3, e2]
      exact .inl ⟨e1, by rw [Int.zero_add]; exact .int _⟩
theorem ew_rangeD {n : Nat} (h : EvD K M te σ J H (.int n)) (hn : n < 2 ^ 62) : EvW K M (iRng1 (tCons te tNil)) σ J H (· = upTo n) := fun J1 H1 w t R q =>
  ew_range (Pn := (· = n)) (h.mono fun _ e => ⟨n, e, hn, rfl⟩) J1 H1 w t R fun A ds J2 H2 w2 t2 ⟨m, e, em⟩ wd => q A ds J2 H2 w2 t2 (by rw [e, em]) wd

/-! ### a comprehension -/
theorem ev_lc {k : Nat} {wi : TI} {tt : TT} {vs : List Nat} {Pw : List PyData → Prop} (I : List PyData → Nat → List PyData → Prop) (hw : EvW K M wi σ J H Pw) (hz : ∀ ds, Pw ds → ds.length < sizeLine) (h0 : ∀ ds, Pw ds → I ds 0 [])
    (hv : ∀ x, wipe ((wipe σ vs).set k (some x)) vs = wipe σ vs)
    (hs : ∀ ds i d acc x J1 H1, Pw ds → ds[i]? = some d → I ds i acc → Wf M J1 H1 → Tr M J H J1 H1 → Da K J1 x d → ∃ Pb : Bool → Prop, EvT M tt ((wipe σ vs).set k (some x)) J1 H1 Pb ∧
      (Pb false → I ds (i + 1) acc) ∧ (Pb true → EvP K M te ((wipe σ vs).set k (some x)) J1 H1 fun e => I ds (i + 1) (acc ++ [e])))
    (hd : ∀ ds acc, Pw ds → I ds ds.length acc → P (.list acc)) : EvP K M (tLc wi (gName k) tt te vs) σ J H P := fun J1 H1 w t Q q =>
  hw J1 H1 w t _ fun A ds J2 H2 w2 t2 pw wd => by
    intro D hD
    have nfD : ¬ M.fp D := w2.nofp hD
    refine ⟨fun i m G => m = ds.length - i ∧ i ≤ ds.length ∧ ∃ J' acc ys, Wf M J' G ∧ Tr M J2 H2 J' G ∧ G D = some (.lst ys) ∧ J' D = none ∧ Das K J' ys acc ∧ ys.length ≤ i ∧ I ds i acc,
      ⟨ds.length, rfl, Nat.zero_le _, J2, [], [], (w2.cell hD).wf w2, w2.cell hD, upd_same, w2.jh.back hD, .nil, Nat.le_refl _, h0 ds pw⟩, ?_⟩
    rintro i m G ⟨rfl, hi, J', acc, ys, w', t', hG, jD, ha, hl, hI⟩
    by_cases hlt : i < ds.length
    · refine .inr ⟨wd.go i G hlt (t'.jj.trans t'.jh), fun G' => ∃ J' acc ys, Wf M J' G' ∧ Tr M J2 H2 J' G' ∧ G' D = some (.lst ys) ∧ J' D = none ∧ Das K J' ys acc ∧ ys.length ≤ i + 1 ∧ I ds (i + 1) acc,
        fun G' h' => ⟨_, by omega, rfl, hlt, h'⟩, fun x G' y => ?_⟩
      have hdi : ds[i]? = some ds[i] := List.getElem?_eq_getElem hlt
      have key : ∀ J3 G3, Wf M J3 G3 → Tr M J2 H2 J3 G3 → G3 D = some (.lst ys) → J3 D = none → Das K J3 ys acc → Da K J3 x ds[i] →
          gName k x (wipe σ vs) G3 fun σ2 H2' => wipe σ2 vs = wipe σ vs ∧ tt σ2 H2' fun b H3 => if b = true then te σ2 H3 fun y H4 => ∃ acc, H4 D = some (.lst acc) ∧ acc.length < sizeLine ∧
            (∃ J' acc' ys, Wf M J' (upd H4 D (.lst (acc ++ [y]))) ∧ Tr M J2 H2 J' (upd H4 D (.lst (acc ++ [y]))) ∧ (upd H4 D (.lst (acc ++ [y]))) D = some (.lst ys) ∧ J' D = none ∧ Das K J' ys acc' ∧ ys.length ≤ i + 1 ∧ I ds (i + 1) acc')
            else ∃ J' acc ys, Wf M J' H3 ∧ Tr M J2 H2 J' H3 ∧ H3 D = some (.lst ys) ∧ J' D = none ∧ Das K J' ys acc ∧ ys.length ≤ i + 1 ∧ I ds (i + 1) acc := by
        intro J3 G3 w3 t3 hG3 jD3 ha3 ax
        obtain ⟨Pb, hb, hf, ht⟩ := hs ds i _ acc x J3 G3 pw hdi hI w3 ((t.trans t2).trans t3) ax
        refine ⟨hv x, hb J3 G3 w3 w3.tr _ fun b J4 G4 w4 t4 pb => ?_⟩
        cases b with
        | false => exact ⟨J4, acc, ys, w4, t3.trans t4, t4.keep D _ nfD hG3, t4.cellj hG3 jD3, t4.jj.das ha3, by omega, hf pb⟩
        | true =>
          refine ht pb J4 G4 w4 t4 _ fun y e J5 G5 w5 t5 pe ae => ?_
          have t35 := t4.trans t5
          have jD5 := t35.cellj hG3 jD3
          have zz := hz ds pw
          refine ⟨ys, t35.keep D _ nfD hG3, by omega, J5, acc ++ [e], ys ++ [y], ((t3.trans t35).put w2 (t35.keep D _ nfD hG3) hD jD5).wf w2, (t3.trans t35).put w2 (t35.keep D _ nfD hG3) hD jD5, upd_same, jD5, das_app (t35.jj.das ha3) (.cons ae .nil), ?_, pe⟩
          rw [List.length_append]; simp only [List.length_cons, List.length_nil]; omega
      rcases wd.yld i G x G' _ hdi (t'.jj.trans t'.jh) y with ⟨rfl, ax⟩ | ⟨T, xs, es, rfl, hT, rfl, ed, hes⟩
      · exact key J' G' w' t' hG jD ha (t'.jj.da ax)
      · have tn := w'.new (o := .tup xs) hT
        refine key _ _ (tn.wf w') (t'.trans tn) (tn.keep D _ nfD hG) (tn.cellj hG jD) (tn.jj.das ha) ?_
        rw [ed]
        exact .tup (.of upd_same) (tn.jj.das (t'.jj.das hes))
    · have e : i = ds.length := by omega
      subst e
      have ti := t'.ice hD jD hG
      exact .inl ⟨wd.stop G (t'.jj.trans t'.jh), q _ _ _ G (ti.wf w2) (t2.trans ti) (hd ds acc pw hI) (.lst upd_same ((Sub.new jD).das ha))⟩
/-- a plain one: each thing makes one, told by f -/
theorem ev_lcMap {k : Nat} {wi : TI} {vs : List Nat} {ds : List PyData} {f : PyData → PyData} (hw : EvW K M wi σ J H (· = ds)) (hz : ds.length < sizeLine)
    (hv : ∀ x, wipe ((wipe σ vs).set k (some x)) vs = wipe σ vs)
    (hs : ∀ d x J1 H1, d ∈ ds → Wf M J1 H1 → Tr M J H J1 H1 → Da K J1 x d → EvD K M te ((wipe σ vs).set k (some x)) J1 H1 (f d)) : EvD K M (tLc wi (gName k) tYes te vs) σ J H (.list (ds.map f)) := by
  refine ev_lc (fun ds' i acc => acc = (ds.take i).map f) hw (fun _ e => by rw [e]; exact hz) (fun _ _ => rfl) hv (fun ds' i d acc x J1 H1 e hdi hI w t a => ⟨(· = true), et_yes, (fun h => by cases h), fun _ => ?_⟩) fun ds' acc e h => ?_
  · subst e
    refine (hs d x J1 H1 (List.mem_of_getElem? hdi) w t a).mono fun e he => ?_
    rw [hI, he, List.take_add_one, hdi]
    simp
  · rw [h, e, List.take_length]
theorem ev_lcFilter {k : Nat} {wi : TI} {tt : TT} {vs : List Nat} {ds : List PyData} {f : PyData → PyData} {c : PyData → Bool} (hw : EvW K M wi σ J H (· = ds)) (hz : ds.length < sizeLine)
    (hv : ∀ x, wipe ((wipe σ vs).set k (some x)) vs = wipe σ vs)
    (hc : ∀ d x J1 H1, d ∈ ds → Wf M J1 H1 → Tr M J H J1 H1 → Da K J1 x d → EvT M tt ((wipe σ vs).set k (some x)) J1 H1 (· = c d))
    (hs : ∀ d x J1 H1, d ∈ ds → c d = true → Wf M J1 H1 → Tr M J H J1 H1 → Da K J1 x d → EvD K M te ((wipe σ vs).set k (some x)) J1 H1 (f d)) : EvD K M (tLc wi (gName k) tt te vs) σ J H (.list ((ds.filter c).map f)) := by
  refine ev_lc (fun ds' i acc => acc = ((ds.take i).filter c).map f) hw (fun _ e => by rw [e]; exact hz) (fun _ _ => rfl) hv (fun ds' i d acc x J1 H1 e hdi hI w t a => ⟨(· = c d), hc d x J1 H1 (by rw [← e]; exact List.mem_of_getElem? hdi) w t a, fun h => ?_, fun h => ?_⟩) fun ds' acc e h => ?_
  · subst e
    rw [hI, List.take_add_one, hdi]
    simp [← h]
  · subst e
    refine (hs d x J1 H1 (List.mem_of_getElem? hdi) h.symm w t a).mono fun e he => ?_
    rw [hI, he, List.take_add_one, hdi]
    simp [← h]
  · rw [h, e, List.take_length]
end
end DL

/-! Statements: (J0, H0) is where the def began, (J, H) where it stands. -/
namespace DL
open PySem PySem.Spec
open PyProof.Rows L2
section
variable {K : PySem.W.Frag} {M : Md} {σ : L2.St} {J H J' H' J0 H0 J1 H1 : Hp} {ta tb te tc : TE} {t u : TT} {ts tu tw : TS} {r r' : R2} {P P' Px Py Pz : PyData → Prop} {d dx dy : PyData} {v : V} {i j : Int} {p : Addr} {o : HO} {D : Ends} {tb' : TS}
theorem s_asg {k : Nat} (w : Wf M J H) (h : EvP K M te σ J H P) (q : ∀ v d J1 H1, Wf M J1 H1 → Tr M J H J1 H1 → P d → Da K J1 v d → D.nx (σ.set k (some v)) H1) : tAsg te (gName k) D σ H := h J H w w.tr _ q
theorem s_ret (w : Wf M J H) (h : EvP K M te σ J H P) (q : ∀ v d J1 H1, Wf M J1 H1 → Tr M J H J1 H1 → P d → Da K J1 v d → D.rt v H1) : tRet te D σ H := h J H w w.tr _ q
theorem s_drop (w : Wf M J H) (h : EvP K M te σ J H P) (q : ∀ J1 H1, Wf M J1 H1 → Tr M J H J1 H1 → D.nx σ H1) : tDrop te D σ H := h J H w w.tr _ fun v d J1 H1 w1 t1 _ _ => q J1 H1 w1 t1
theorem s_if {Pb : Bool → Prop} {c : TT} (w : Wf M J H) (h : EvT M c σ J H Pb) (q1 : Pb true → ∀ J1 H1, Wf M J1 H1 → Tr M J H J1 H1 → tu D σ H1) (q2 : Pb false → ∀ J1 H1, Wf M J1 H1 → Tr M J H J1 H1 → tw D σ H1) : tIfS c tu tw D σ H :=
  h J H w w.tr _ fun b J1 H1 w1 t1 pb => by
    cases b with
    | true => exact q1 pb J1 H1 w1 t1
    | false => exact q2 pb J1 H1 w1 t1
/-- a, b = e1, e2 -/
theorem s_par {k l : Nat} {ta : TA} {Pa : List PyData → Prop} (w : Wf M J H) (h : EvA K M ta σ J H Pa) (q : ∀ ds, Pa ds → ∃ d e, ds = [d, e] ∧ ∀ v u J1 H1, Wf M J1 H1 → Tr M J H J1 H1 → Da K J1 v d → Da K J1 u e → D.nx ((σ.set k (some v)).set l (some u)) H1) : tPar k l ta D σ H :=
  h J H w w.tr _ fun vs ds J1 H1 w1 t1 pa a => by
    obtain ⟨d, e, rfl, q⟩ := q ds pa
    cases a with
    | cons a b =>
      obtain ⟨u, rfl, b2⟩ := das_one b
      exact ⟨_, _, rfl, q _ _ J1 H1 w1 t1 a b2⟩
theorem s_par3 {k l m : Nat} {ta : TA} {Pa : List PyData → Prop} (w : Wf M J H) (h : EvA K M ta σ J H Pa)
    (q : ∀ ds, Pa ds → ∃ d e f, ds = [d, e, f] ∧ ∀ v u x J1 H1, Wf M J1 H1 → Tr M J H J1 H1 → Da K J1 v d → Da K J1 u e → Da K J1 x f → D.nx (((σ.set k (some v)).set l (some u)).set m (some x)) H1) : tPar3 k l m ta D σ H :=
  h J H w w.tr _ fun vs ds J1 H1 w1 t1 pa a => by
    obtain ⟨d, e, f, rfl, q⟩ := q ds pa
    cases a with
    | cons a b =>
      cases b with
      | cons b c =>
        obtain ⟨u, rfl, c2⟩ := das_one c
        exact ⟨_, _, _, rfl, q _ _ _ J1 H1 w1 t1 a b c2⟩
/-- a, b = e, e a tuple -/
theorem s_tup2 {k l : Nat} {ds : List PyData} (w : Wf M J H) (h : EvP K M te σ J H fun d => ∃ x y, d = .tuple [x, y] ∧ P x ∧ P' y) (q : ∀ v u x y J1 H1, Wf M J1 H1 → Tr M J H J1 H1 → P x → P' y → Da K J1 v x → Da K J1 u y → D.nx ((σ.set k (some v)).set l (some u)) H1) :
    tAsg te (gTup K 2 (gCons (gName k) (gCons (gName l) gNil))) D σ H := h J H w w.tr _ fun v d J1 H1 w1 t1 ⟨x, y, e, px, py⟩ a => by
  subst e
  obtain ⟨c, xs, rfl, ht, hd⟩ := da_tup a
  cases hd with
  | cons a1 b =>
    obtain ⟨u, rfl, b2⟩ := das_one b
    exact ⟨c, _, rfl, w1.jh.t ht, rfl, _, _, rfl, _, _, rfl, rfl, q _ _ x y J1 H1 w1 t1 px py a1 b2⟩
/-- xs = [], a list of one's own to be filled -/
theorem s_cell {k : Nat} (w : Wf M J H) (q : ∀ p, H p = none → Wf M J (upd H p (.lst [])) → Tr M J H J (upd H p (.lst [])) → D.nx (σ.set k (some (.ref p))) (upd H p (.lst []))) : tAsg (tLst tNil) (gName k) D σ H :=
  ⟨Nat.zero_le _, fun p hp => q p hp ((w.cell hp).wf w) (w.cell hp)⟩
/-- such a list, e behind it -/
theorem s_app {k : Nat} {ys : List V} (w0 : Wf M J0 H0) (t0 : Tr M J0 H0 J H) (hp : H0 p = none) (jp : J p = none) (hs : σ[k]? = some (some (.ref p))) (hH : H p = some (.lst ys)) (hl : ys.length < sizeLine) (h : EvP K M te σ J H P)
    (q : ∀ v d J1 H1, Wf M J1 H1 → Tr M J0 H0 J1 H1 → Sub J J1 → J1 p = none → H1 p = some (.lst (ys ++ [v])) → (∀ a o, a ≠ p → ¬ M.fp a → Nt M o → H a = some o → H1 a = some o) → (∀ a o, Nt M o → H a = some o → J a = none → J1 a = none) → P d → Da K J1 v d → D.nx σ H1) : tDrop (tBM K "list" rAppend (tVar k) (tCons te tNil)) D σ H := by
  have nf : ¬ M.fp p := w0.nofp hp
  refine ⟨.ref p, hs, .inl ⟨rfl, ys, .of hH⟩, h J H (t0.wf w0) (t0.wf w0).tr _ fun v d J1 H1 w1 t1 pd a => ?_⟩
  have jp1 := t1.cellj hH jp
  have t2 := (t0.trans t1).put (zs := ys ++ [v]) w0 (t1.keep p _ nf hH) hp jp1
  refine ⟨p, ys, v, rfl, rfl, t1.keep p _ nf hH, hl, q v d J1 _ (t2.wf w0) t2 t1.jj jp1 upd_same (fun a o ne n b e => ?_) t1.frn pd a⟩
  rw [upd_ne ne]; exact t1.kept a o n b e
/-- what is reached behind a turn -/
def Nxt (M : Md) (J0 H0 J2 : Hp) (I : L2.St → Hp → Hp → Prop) : L2.St → Hp → Prop := fun σ H => ∃ J, Wf M J H ∧ Tr M J0 H0 J H ∧ Sub J2 J ∧ I σ J H
theorem s_for {k : Nat} {wi : TI} {Pw : List PyData → Prop} (I : List PyData → Nat → L2.St → Hp → Hp → Prop) (w0 : Wf M J0 H0) (t0 : Tr M J0 H0 J H) (hw : EvW K M wi σ J H Pw)
    (h0 : ∀ ds J2 H2, Pw ds → Wf M J2 H2 → Tr M J H J2 H2 → I ds 0 σ J2 H2)
    (hn : ∀ ds i σ' J' H' T xs, I ds i σ' J' H' → H' T = none → I ds i σ' (upd J' T (.tup xs)) (upd H' T (.tup xs)))
    (hs : ∀ ds i d x σ' J2 J' H', Pw ds → ds[i]? = some d → Wf M J' H' → Tr M J0 H0 J' H' → Sub J J2 → Sub J2 J' → I ds i σ' J' H' → Da K J' x d →
      tb' { D with nx := Nxt M J0 H0 J2 (I ds (i + 1)), ct := Nxt M J0 H0 J2 (I ds (i + 1)), bk := D.nx } (σ'.set k (some x)) H')
    (hd : ∀ ds σ' J' H', Pw ds → Wf M J' H' → Tr M J0 H0 J' H' → Sub J J' → I ds ds.length σ' J' H' → D.nx σ' H') : tFor wi (gName k) tb' D σ H :=
  hw J H (t0.wf w0) (t0.wf w0).tr _ fun A ds J2 H2 w2 t2 pw wd => by
    refine ⟨fun i m σ' G => m = ds.length - i ∧ i ≤ ds.length ∧ Nxt M J0 H0 J2 (I ds i) σ' G, ⟨_, rfl, Nat.zero_le _, J2, w2, t0.trans t2, .refl _, h0 ds J2 H2 pw w2 t2⟩, ?_⟩
    rintro i m σ' G ⟨rfl, hi, J', w', t', s', hI⟩
    by_cases hlt : i < ds.length
    · refine .inr ⟨wd.go i G hlt (s'.trans w'.jh), Nxt M J0 H0 J2 (I ds (i + 1)), fun σ2 G' h' => ⟨_, by omega, rfl, hlt, h'⟩, fun x G' y => ?_⟩
      have hdi : ds[i]? = some ds[i] := List.getElem?_eq_getElem hlt
      rcases wd.yld i G x G' _ hdi (s'.trans w'.jh) y with ⟨rfl, ax⟩ | ⟨T, xs, es, rfl, hT, rfl, ed, hes⟩
      · exact hs ds i _ x σ' J2 J' G' pw hdi w' t' t2.jj s' hI (s'.da ax)
      · have tn := w'.new (o := .tup xs) hT
        refine hs ds i _ _ σ' J2 _ _ pw hdi (tn.wf w') (t'.trans tn) t2.jj (s'.trans tn.jj) (hn ds i σ' J' G T xs hI hT) ?_
        rw [ed]
        exact .tup (.of upd_same) (tn.jj.das (s'.das hes))
    · have e : i = ds.length := by omega
      subst e
      exact .inl ⟨wd.stop G (s'.trans w'.jh), hd ds σ' J' G pw w' t' (t2.jj.trans s') hI⟩
theorem s_for2 {k l : Nat} {wi : TI} {Pw : List PyData → Prop} (I : List PyData → Nat → L2.St → Hp → Hp → Prop) (w0 : Wf M J0 H0) (t0 : Tr M J0 H0 J H) (hw : EvW K M wi σ J H Pw)
    (hz : ∀ ds, Pw ds → ∀ d ∈ ds, ∃ x y, d = .tuple [x, y])
    (h0 : ∀ ds J2 H2, Pw ds → Wf M J2 H2 → Tr M J H J2 H2 → I ds 0 σ J2 H2)
    (hn : ∀ ds i σ' J' H' T xs, I ds i σ' J' H' → H' T = none → I ds i σ' (upd J' T (.tup xs)) (upd H' T (.tup xs)))
    (hs : ∀ ds i d e x y σ' J2 J' H', Pw ds → ds[i]? = some (.tuple [d, e]) → Wf M J' H' → Tr M J0 H0 J' H' → Sub J J2 → Sub J2 J' → I ds i σ' J' H' → Da K J' x d → Da K J' y e →
      tb' { D with nx := Nxt M J0 H0 J2 (I ds (i + 1)), ct := Nxt M J0 H0 J2 (I ds (i + 1)), bk := D.nx } ((σ'.set k (some x)).set l (some y)) H')
    (hd : ∀ ds σ' J' H', Pw ds → Wf M J' H' → Tr M J0 H0 J' H' → Sub J J' → I ds ds.length σ' J' H' → D.nx σ' H') : tFor wi (gTup K 2 (gCons (gName k) (gCons (gName l) gNil))) tb' D σ H :=
  hw J H (t0.wf w0) (t0.wf w0).tr _ fun A ds J2 H2 w2 t2 pw wd => by
    refine ⟨fun i m σ' G => m = ds.length - i ∧ i ≤ ds.length ∧ Nxt M J0 H0 J2 (I ds i) σ' G, ⟨_, rfl, Nat.zero_le _, J2, w2, t0.trans t2, .refl _, h0 ds J2 H2 pw w2 t2⟩, ?_⟩
    rintro i m σ' G ⟨rfl, hi, J', w', t', s', hI⟩
    by_cases hlt : i < ds.length
    · refine .inr ⟨wd.go i G hlt (s'.trans w'.jh), Nxt M J0 H0 J2 (I ds (i + 1)), fun σ2 G' h' => ⟨_, by omega, rfl, hlt, h'⟩, fun x G' y => ?_⟩
      have hdi : ds[i]? = some ds[i] := List.getElem?_eq_getElem hlt
      obtain ⟨dx, dy, edi⟩ := hz ds pw _ (List.getElem_mem hlt)
      rw [edi] at hdi
      have key : ∀ J3 G3, Wf M J3 G3 → Tr M J0 H0 J3 G3 → Sub J2 J3 → I ds i σ' J3 G3 → Da K J3 x (.tuple [dx, dy]) →
          gTup K 2 (gCons (gName k) (gCons (gName l) gNil)) x σ' G3 fun σ2 H2 => tb' { D with nx := Nxt M J0 H0 J2 (I ds (i + 1)), ct := Nxt M J0 H0 J2 (I ds (i + 1)), bk := D.nx } σ2 H2 := by
        intro J3 G3 w3 t3 s3 hI3 ax
        obtain ⟨c, ys, rfl, ht, hd⟩ := da_tup ax
        cases hd with
        | cons a1 b =>
          obtain ⟨u, rfl, b2⟩ := das_one b
          exact ⟨c, _, rfl, w3.jh.t ht, rfl, _, _, rfl, _, _, rfl, rfl, hs ds i dx dy _ _ σ' J2 J3 G3 pw hdi w3 t3 t2.jj s3 hI3 a1 b2⟩
      rcases wd.yld i G x G' _ hdi (s'.trans w'.jh) y with ⟨rfl, ax⟩ | ⟨T, xs, es, rfl, hT, rfl, ed, hes⟩
      · exact key J' G' w' t' s' hI (s'.da ax)
      · have tn := w'.new (o := .tup xs) hT
        refine key _ _ (tn.wf w') (t'.trans tn) (s'.trans tn.jj) (hn ds i σ' J' G T xs hI hT) ?_
        rw [ed]
        exact .tup (.of upd_same) (tn.jj.das (s'.das hes))
    · have e : i = ds.length := by omega
      subst e
      exact .inl ⟨wd.stop G (s'.trans w'.jh), hd ds σ' J' G pw w' t' (t2.jj.trans s') hI⟩
/-- while: I by a number that falls -/
theorem s_while {c : TT} (I : Nat → L2.St → Hp → Hp → Prop) (w0 : Wf M J0 H0) (t0 : Tr M J0 H0 J H) (h0 : ∃ m, I m σ J H)
    (hs : ∀ m σ' J' H', Wf M J' H' → Tr M J0 H0 J' H' → Sub J J' → I m σ' J' H' → ∃ Pb : Bool → Prop, EvT M c σ' J' H' Pb ∧
      (Pb true → ∀ J1 H1, Wf M J1 H1 → Tr M J' H' J1 H1 → tb' { D with nx := Nxt M J0 H0 J fun σ J H => ∃ m', m' < m ∧ I m' σ J H, ct := Nxt M J0 H0 J fun σ J H => ∃ m', m' < m ∧ I m' σ J H, bk := D.nx } σ' H1) ∧
      (Pb false → ∀ J1 H1, Wf M J1 H1 → Tr M J' H' J1 H1 → D.nx σ' H1)) : tWhile c tb' D σ H := by
  obtain ⟨m0, i0⟩ := h0
  refine ⟨fun m σ' G => Nxt M J0 H0 J (I m) σ' G, ⟨m0, J, t0.wf w0, t0, .refl _, i0⟩, ?_⟩
  rintro m σ' G ⟨J', w', t', s', hI⟩
  obtain ⟨Pb, hc, h1, h2⟩ := hs m σ' J' G w' t' s' hI
  refine hc J' G w' w'.tr _ fun b J1 H1 w1 t1 pb => ?_
  cases b with
  | true => exact ⟨_, fun σ2 G2 ⟨J2, a1, a2, a3, m', lt, a4⟩ => ⟨m', lt, J2, a1, a2, a3, a4⟩, h1 pb J1 H1 w1 t1⟩
  | false => exact h2 pb J1 H1 w1 t1
end
end DL

/-! Defs that tell texts of objects: they are called where no such text is being told. -/
namespace DL
open PySem PySem.Spec
open PyProof.Rows L2
mutual
theorem dp_nd {K : PySem.W.Frag} {H : Hp} : ∀ {d : PyData} {v : V}, Dp K H v d → d.hasDict = false
  | .none, _, _ => by simp only [PyData.hasDict]
  | .bool _, _, _ => by simp only [PyData.hasDict]
  | .int _, _, _ => by simp only [PyData.hasDict]
  | .str _, _, _ => by simp only [PyData.hasDict]
  | .list ds, _, h => by
    cases h with
    | lst _ b => simp only [PyData.hasDict]; exact dps_nd b
  | .tuple ds, _, h => by
    cases h with
    | tup _ b => simp only [PyData.hasDict]; exact dps_nd b
  | .dict _, _, h => by cases h
theorem dps_nd {K : PySem.W.Frag} {H : Hp} : ∀ {ds : List PyData} {vs : List V}, DpAll K H vs ds → PyData.hasDictAll ds = false
  | [], _, _ => by simp only [PyData.hasDictAll]
  | _ :: _, _, h => by
    cases h with
    | cons a b => simp only [PyData.hasDictAll]; rw [dp_nd a, dps_nd b]; rfl
end
structure FnG (P : Program) (w : World) (K : PySem.W.Frag) (mg : Str → Option Value) (base : Heap) (CX : CXT) (k : Nat) (f : Addr) (fd : FuncData) (ps : List Str) (sp : Sp) : Prop where
  siz : ∀ vs H Q E, sp vs H Q E → vs.length = ps.length
  go : ∀ (A : Around) (out : List Env) (s : Shared) (H : Hp) (ar : Args) (us : List Value) (vs : List V) (Q : VK) (E : XK), A.guards = some [] → Room k A → Env0 P w K mg base A out s H → BindsTo s fd ar (ps.zip us) → Vals vs us → sp vs H Q E → codeAny (model P w) A (.call (.ref f) ar) (CR CX out P w H s Q E) s
section
variable {P : Program} {w : World} {K : PySem.W.Frag} {mg : Str → Option Value} {base : Heap} {CX : CXT} {k : Nat} {f : Addr} {fd : FuncData} {ps : List Str} {sp : Sp}
theorem FnG.of (F : FnOk P w K mg base CX k f fd ps sp) : FnG P w K mg base CX k f fd ps sp := ⟨F.len, fun A out s H ar us vs Q E _ => F.run A out s H ar us vs Q E⟩
theorem FnG.more {j : Nat} (F : FnG P w K mg base CX j f fd ps sp) (h : j ≤ k) : FnG P w K mg base CX k f fd ps sp := ⟨F.siz, fun A out s H ar us vs Q E g hr => F.go A out s H ar us vs Q E g (hr.mono h)⟩
/-- a def by its body -/
theorem fn_g {x qual : Str} {params : Arguments} {body : List Stmt} {scope : Scope} {dvs : List V} {kws : List (Str × V)} {N : List Str} (F : FunD K x qual params body scope dvs kws f fd) (S : FnScope N ps scope) (len : ∀ vs H Q E, sp vs H Q E → vs.length = ps.length)
    (hb : ∀ (cdv : Value) (A : Around) (out : List Env) (s : Shared) (H : Hp) (vs : List V) (Q : VK) (E : XK), A.guards = some [] → Room k (A.deeper (envOfC qual scope s.heap.objs.size f cdv)) → sp vs H Q E →
      ∃ t, PSs (cxOf CX P w K mg base N qual scope f cdv A out s H E) body t ∧ t { nx := fun _ H' => Q .non H', rt := Q } (start N vs) H) : FnG P w K mg base CX (k + 1) f fd ps sp := by
  obtain ⟨oc, od, dV, kV, doc, pm, an, cdv, ct, osl, e, lk, hcd, _, _⟩ := F.ex
  subst e
  refine ⟨len, fun A out s H ar us vs Q E g hr e0 bd r hsp => ?_⟩
  have KX : K.In s.heap := e0.mod.kin.keeps fun b o q => (e0.bs b o q).1
  have nl : s.heap.NoLimit := e0.mod.nolimit.keeps fun b o q => (e0.bs b o q).1
  have nk : ∀ y ∈ ps.zip us, scope.names.lookup y.1 = some .local ∨ (scope.names.lookup y.1 = some .cell ∧ ((cellsFrom (s.heap.objs.size + 1) scope.names []).lookup y.1).isSome = true) := by
    rintro ⟨n, v⟩ hy
    exact (S.par n (List.of_mem_zip hy).1).imp id fun q => ⟨q, PySem.W.cellsFrom_some _ _ _ (.inl q)⟩
  refine codeAny_call_function hr.depth (KX _ _ lk) rfl S.co S.gen rfl (PySem.W.codeRec_of KX hcd) (bd _ _ _ _ (wpAny_newFunctionEnv_cells S.kind nk fun env he s1 x => ?_))
  cases he
  refine ⟨nl.keeps x.toInCall.keep, codeAny_func ?_⟩
  obtain ⟨t, ht, hq⟩ := hb cdv A out s H vs Q E g (hr.deeper _) hsp
  refine wpAny_mono (ht.run [] s1 (start N vs) H _ (inv_start S hr.hd e0 (len _ _ _ _ hsp) r x) hq) (fun fl s' hs => ?_) fun _ _ z => z
  cases fl with
  | ret u => obtain ⟨v, σ', H', I, rv, q⟩ := hs; exact ⟨v, H', I.os, I.bare, I.base, I.hok, rv, q⟩
  | next => obtain ⟨σ', H', I, q⟩ := hs; exact ⟨V.non, H', I.os, I.bare, I.base, I.hok, rfl, q⟩
  | brk => exact hs.elim fun _ h => h.elim fun _ h => h.2.elim
  | cont => exact hs.elim fun _ h => h.elim fun _ h => h.2.elim
end
section
variable {X : Cx} {CX : CXT} {k : Nat} {f : Addr} {fd : FuncData} {ps ks : List Str} {sp : Sp} {E : XK} {x : Str} {p pos : Pos} {e : Expr} {es : List Expr} {t tk : TA}
theorem go_g {pins : List (Addr × Obj)} {σ : L2.St} {H : Hp} {s : Shared} {Q : VK} {ar : Args} {us : List Value} {vs : List V} (F : FnG X.prog X.w X.K X.mg X.base CX k f fd ps sp) (hg : X.A.guards = some []) (hr : Room k X.A) (hx : Passes CX X E) (I : Inv X pins σ H s)
    (bd : BindsTo s fd ar (ps.zip us)) (r : Vals vs us) (h : sp vs H Q E) : wpAny (model X.prog X.w) X.A (call (.ref f) ar.pos ar.kw) (EP X pins σ Q) X.xe s :=
  wpAny_call (codeAny_mono (F.go X.A X.stack s H ar us vs Q E hg hr I.env0 bd r h) fun c s' hq => by
    cases c with
    | error er => exact hx pins σ H s er s' I hq
    | ok fl => cases fl <;> first | exact I.after hq | exact hq.elim)
theorem pe_callG {dvs : List V} {ds : List Value} (F : FnG X.prog X.w X.K X.mg X.base CX k f fd ps sp) (hA : X.A.guards = some []) (hr : Room k X.A) (hg : Gl X x) (hm : X.mg x = some (.ref f)) (hk : PySem.W.keepIn X.K (.ref f) = true) (hb : Binds X.K fd ps ds) (hd : Vals dvs ds)
    (hx : Passes CX X E) (ha : PA X (e :: es) t) (hdb : (x == ("__debug__" : Str)) = false := by decide) (he : starEach (e :: es) X.env = (false, eval e X.env) :: starEach es X.env := by rfl)
    (hpl : (backTo pos (starEach es X.env)).any (·.1) = false := by rfl) : PE X (.Call (.Name x p) (e :: es) [] pos) (tCall sp dvs E t) := by
  refine ⟨fun pins s σ H Q I h => wpAny_Call_Name_kw (ld_glob I hg hm ?_ hdb)⟩
  have args := thn (ha.run pos pins s σ H _ I h) fun ws sh ⟨zs, G, J, rz, told⟩ => (⟨J.kIn, go_g (ar := ⟨ws, []⟩) F hA hr hx J (hb sh ws J.kIn ((rz.append hd).length.symm.trans (F.siz _ _ _ _ told))) (rz.append hd) told⟩ : X.K.In sh.heap ∧ _)
  exact PySem.W.callWith_K (h₀ := X.base) I.ok.mod.kin hk args he hpl
theorem pe_callKG {g : List Value → List Value → List Value} {gV : List V → List V → List V} {kws : List Keyword} (F : FnG X.prog X.w X.K X.mg X.base CX k f fd ps sp) (hA : X.A.guards = some []) (hr : Room k X.A) (hg : Gl X x) (hm : X.mg x = some (.ref f))
    (hk : PySem.W.keepIn X.K (.ref f) = true) (hb : KBinds X.K fd ps ks g gV) (hx : Passes CX X E) (ha : PA X (e :: es) t) (hkw : PK X kws tk) (hall : (backToKw pos (keywordEach kws X.env)).all (·.1.isSome) = true := by rfl)
    (hks : (backToKw pos (keywordEach kws X.env)).filterMap (·.1) = ks := by rfl) (hdb : (x == ("__debug__" : Str)) = false := by decide) (he : starEach (e :: es) X.env = (false, eval e X.env) :: starEach es X.env := by rfl)
    (hpl : ((backTo pos (starEach (e :: es) X.env)).any (·.1) || (backToKw pos (keywordEach kws X.env)).any (·.1.isNone)) = false := by rfl) : PE X (.Call (.Name x p) (e :: es) kws pos) (tCallK sp gV E t tk) := by
  refine ⟨fun pins s σ H Q I h => wpAny_Call_Name_kw (ld_glob I hg hm ?_ hdb)⟩
  refine PySem.W.callWith_KW (h₀ := X.base) I.ok.mod.kin hk hall (thn (ha.run pos pins s σ H _ I h) fun ps' sh ⟨vs, G, J, rv, named⟩ => thn (hkw.run pos pins sh σ G _ J named) fun ks' sh2 ⟨zs, G2, J2, rz, told⟩ => ⟨J2.kIn, ?_⟩) hpl he
  have both := hb.rel rv rz
  rw [hks]
  exact go_g (ar := ⟨ps', ks.zip ks'⟩) F hA hr hx J2 (hb.to sh2 ps' ks' J2.kIn (both.length.symm.trans (F.siz _ _ _ _ told))) both told
theorem cl_repr (hA : X.A.guards = some []) (hu : X.A.units + 64 < cLine) : CallR X (.builtin "repr") (rRepr X.K) := by
  rintro pins s σ H _ _ Q I r ⟨x, d, rfl, hd, h1, h2, h3, q⟩
  obtain ⟨u, eu, rx⟩ := vals1 r
  subst eu
  have hd' := hd
  cases hd with
  | non => cases rx; exact PySem.P.repr_of_none ⟨.str _, H, I.tok _, ⟨_, rfl⟩, by simpa only [PyData.shown] using q⟩
  | bl b => cases rx; exact PySem.P.repr_of_bool ⟨.str _, H, I.tok _, ⟨_, rfl⟩, by simpa only [PyData.shown] using q⟩
  | int i => obtain ⟨t, rfl⟩ := rx; exact PySem.P.repr_of_int (by simpa [PyData.showable] using h1) ⟨.str _, H, I.tok _, ⟨_, rfl⟩, by simpa only [PyData.shown] using q⟩
  | str y => obtain ⟨t, rfl⟩ := rx; exact PySem.P.repr_of_str ⟨.str _, H, I.tok _, ⟨_, rfl⟩, by simpa only [PyData.shown] using q⟩ (by simpa only [PyData.shown] using h2)
  | lst a b =>
    cases rx
    obtain ⟨as, rd⟩ := Dp.reads I _ _ _ hd' rfl
    exact repr_of_reads' rd h1 (fun z => by rw [dp_nd hd'] at z; cases z) hA (by omega) (fun _ _ e => e) (fun h' u tk kk => ⟨.str _, H, I.kept (t' := tk) kk, ⟨_, rfl⟩, q⟩) h2
  | tup a b =>
    cases rx
    obtain ⟨as, rd⟩ := Dp.reads I _ _ _ hd' rfl
    exact repr_of_reads' rd h1 (fun z => by rw [dp_nd hd'] at z; cases z) hA (by omega) (fun _ _ e => e) (fun h' u tk kk => ⟨.str _, H, I.kept (t' := tk) kk, ⟨_, rfl⟩, q⟩) h2
end
/-! ### the law itself -/
/-- what a law's call has to leave -/
def Well (s₀ : Shared) : Result → Shared → Prop := fun out s' => out = .ok (.ret (.bool true)) ∧ OldK s₀.heap s'.heap ∧ s'.os = s₀.os ∧ AllBare s'.gens
/-- the heap that tells of the script alone -/
def lone (a : Addr) (vs : List Value) (ns : List Int) : Hp := fun b => if b = a then some (.frz { cls := .type "list", data := .seq vs.toArray } (.lst (ns.map V.int))) else none
section
variable {P : Program} {w : World} {K : PySem.W.Frag} {mg mb : Str → Option Value} {CX : CXT} {k : Nat} {fa a : Addr} {fd : FuncData} {x : Str} {sp : Sp} {s₀ : Shared} {vs : List Value} {ns : List Int}
theorem law_on {H : Hp} (KX : K.In s₀.heap) (hns : s₀.heap.Ns mainGlobals mg) (hb : s₀.heap.Ns builtinsNs mb) (hbb : ∀ y : Str, y ≠ "__name__" → mb y = bootBuiltins y) (hlim : s₀.heap.NoLimit) (hg : s₀.gens = #[]) (ha : s₀.heap.get? a = some { cls := .type "list", data := .seq vs.toArray }) (hr : Room k callerA)
    (F : ∀ base : Heap, K.In base → base.Ns mainGlobals mg → FnG P w K mg base CX k fa fd [x] sp) (hbind : ∀ (s : Shared) (u : Value), BindsTo s fd ⟨[u], []⟩ [(x, u)]) (hsp : sp [.ref a] H (fun v _ => v = .bl true) fun _ _ _ => False) (hCX : ∀ e s', CX [] H s₀ (fun _ _ _ => False) e s' → False)
    (hO : Only H) (hok : HOk P w H s₀.heap) (alone : ∀ b, b ≠ a ∨ K.lookup a ≠ none → H b = none) : codeAny (model P w) callerA (.call (.ref fa) ⟨[.ref a], []⟩) (Well s₀) s₀ := by
  -- what lies in the part, and what is a dict, is hidden from nobody
  have kn : ∀ {b : Addr} {o : Obj}, K.lookup b = some o → H b = none := fun {b o} e => alone b (by
    by_cases z : b = a
    · exact .inr (by rw [← z, e]; exact nofun)
    · exact .inl z)
  have ns : ∀ {b : Addr} {m : Str → Option Value}, s₀.heap.Ns b m → (hidT s₀.heap H).Ns b m := by
    rintro b m ⟨o, es, ep, e, d, r⟩
    refine ⟨o, es, ep, hidT_get e (alone b (.inl ?_)), d, r⟩
    rintro rfl
    rw [ha] at e
    cases e
    cases d
  have KB : K.In (hidT s₀.heap H) := fun b o e => hidT_get (KX b o e) (kn e)
  have lim : (hidT s₀.heap H).NoLimit := hlim.elim fun mc z => ⟨mc, ns z.1, z.2⟩
  have env : Env0 P w K mg (hidT s₀.heap H) callerA [] s₀ H := ⟨rfl, ⟨KB, ns hns, ⟨mb, ns hb, hbb⟩, lim⟩, fun _ _ => of_hidT, Nat.le_of_eq (hidT_size _ _), trivial, nofun, hok, .of_eq hg⟩
  refine codeAny_mono ((F _ KB (ns hns)).go callerA [] s₀ H ⟨[.ref a], []⟩ [.ref a] [.ref a] _ _ rfl hr env (hbind s₀ (.ref a)) (.cons rfl .nil) hsp) ?_
  rintro (er | fl) s' told
  · exact (hCX er s' told).elim
  match fl, told with
  | .ret u, ⟨v, H', eo, gb, un, hok', rv, (ev : v = .bl true)⟩ =>
    subst ev
    obtain rfl : u = Value.bool true := rv
    refine ⟨rfl, OldK.of_keep fun b o e => ?_, eo, gb⟩
    match hO b with
    | .inl n => exact un.keep b o e n nofun nofun
    | .inr ⟨ob, xs, q⟩ =>
      obtain rfl : o = ob := Option.some.inj (e.symm.trans (hok b _ q).1)
      exact (hok' b _ (un.frzs b o _ q)).1
theorem law_g (KX : K.In s₀.heap) (hns : s₀.heap.Ns mainGlobals mg) (hb : s₀.heap.Ns builtinsNs mb) (hbb : ∀ y : Str, y ≠ "__name__" → mb y = bootBuiltins y) (hlim : s₀.heap.NoLimit) (hg : s₀.gens = #[]) (ha : s₀.heap.get? a = some { cls := .type "list", data := .seq vs.toArray })
    (hi : IntsAre vs ns) (hl : ns.length ≤ sizeLine) (hr : Room k callerA) (F : ∀ base : Heap, K.In base → base.Ns mainGlobals mg → FnG P w K mg base CX k fa fd [x] sp) (hbind : ∀ (s : Shared) (u : Value), BindsTo s fd ⟨[u], []⟩ [(x, u)])
    (hsp : ∀ H : Hp, Only H → SqL K H a (ns.map V.int) → sp [.ref a] H (fun v _ => v = .bl true) fun _ _ _ => False) (hCX : ∀ H e s', CX [] H s₀ (fun _ _ _ => False) e s' → False) : codeAny (model P w) callerA (.call (.ref fa) ⟨[.ref a], []⟩) (Well s₀) s₀ := by
  have rel := vals_ints hi
  cases inK : K.lookup a with
  | some o =>
    obtain rfl : o = { cls := .type "list", data := .seq vs.toArray } := Option.some.inj ((KX a o inK).symm.trans ha)
    have O : Only (fun _ => none) := fun _ => .inl rfl
    exact law_on (H := fun _ => none) KX hns hb hbb hlim hg ha hr F hbind (hsp _ O (.inr ⟨_, vs.toArray, _, inK, rfl, rfl, rfl, by rw [List.size_toArray, hi.length]; exact hl, by simpa using rel⟩)) (hCX _) O nofun fun _ _ => rfl
  | none =>
    have at_ : lone a vs ns a = some (.frz { cls := .type "list", data := .seq vs.toArray } (.lst (ns.map V.int))) := if_pos rfl
    have off : ∀ {b : Addr}, b ≠ a → lone a vs ns b = none := fun z => if_neg z
    have O : Only (lone a vs ns) := fun b => by
      by_cases z : b = a
      · rw [z]; exact .inr ⟨_, _, at_⟩
      · exact .inl (off z)
    refine law_on (H := lone a vs ns) KX hns hb hbb hlim hg ha hr F hbind (hsp _ O (.inl (.inr ⟨_, at_⟩))) (hCX _) O (fun b u z => ?_) fun b z => z.elim off fun y => (y inK).elim
    by_cases e : b = a
    · subst e
      obtain rfl := Option.some.inj (at_.symm.trans z)
      exact ⟨ha, Nat.le_trans (Nat.le_of_eq (List.length_map V.int)) hl, vs, _, rel, ha⟩
    · exact nomatch (off e).symm.trans z
end
theorem walk_g {l : PySem.W.OpenLaw} {n k : Nat} {q : Program} {loose : List Str} {XP : (Str → Option Value) → Heap → Prop} {YP : World → Heap → Prop} {d : DefRec} {CX : CXT} {x : Str} (hn : l.most = some n) (hn2 : n ≤ sizeLine) (hdf : d.params.defaults = []) (hr : Room k callerA)
    (F : ∀ (w : World) (mg : Str → Option Value) (fa : Addr) (h : Heap), YP w h → h.Ns mainGlobals mg → mg d.name = some (.ref fa) → ∃ (K : PySem.W.Frag) (fd : FuncData) (sp : Sp), K.In h ∧ (∀ (s : Shared) (u : Value), BindsTo s fd ⟨[u], []⟩ [(x, u)]) ∧
      (∀ (H : Hp) (a : Addr) (ns : List Int), ns.length ≤ n → Only H → SqL K H a (ns.map V.int) → sp [.ref a] H (fun v _ => v = .bl true) fun _ _ _ => False) ∧ ∀ base : Heap, K.In base → base.Ns mainGlobals mg → FnG l.prog w K mg base CX k fa fd [x] sp)
    (hCX : ∀ (H : Hp) (s : Shared) (e : Value) (s' : Shared), CX [] H s (fun _ _ _ => False) e s' → False) : PySem.W.WalkO q loose XP YP l.row.toRowW d [] (fun f vs => PySem.call f vs) :=
  Att.attach_call hn hdf fun w s₀ s₁ mg mb fa o pm cd doc a vs ns G Y ho hd hcd hmg hobj hints hlen hg => by
    have ⟨K, fd, sp, KX, hb, hsp, hF⟩ := F w mg fa s₁.heap Y G.T.g hmg
    exact law_g KX G.T.g G.T.b G.T.builtins G.T.nolimit hg hobj hints (Nat.le_trans hlen hn2) hr hF hb (fun H hO hS => hsp H a ns hlen hO hS) fun H e s' => hCX H s₁ e s'
end DL

/-! Rules under the names that the derivations use. -/
namespace DL
open PySem PySem.Spec
open PyProof.Rows L2
section
variable {X : Cx} {a b e : Expr} {es : List Expr} {ta tb te : TE} {p pos : Pos} {x : Str} {t : TA}
theorem cl_len : CallR X (.builtin "len") (rLen X.K) := call_len
theorem cl_tup : CallR X (.type "tuple") (rTupOf X.K) := call_tuple_of
theorem cl_lst : CallR X (.type "list") (rLstOf X.K) := call_list_of
theorem cl_abs : CallR X (.builtin "abs") rAbs := call_abs
theorem cl_int : CallR X (.type "int") rInt1 := call_int1
theorem or_op {g : Value → Value → Sem Value} {r r' : R2} (h : OpR X g r) (h' : OpR X g r') : OpR X g (fun x y H Q => r x y H Q ∨ r' x y H Q) := fun pins s σ H x y v u Q I rx ry z => by
  rcases z with z | z
  · exact h pins s σ H x y v u Q I rx ry z
  · exact h' pins s σ H x y v u Q I rx ry z
theorem op_plus : OpR X (binaryOp .Add) (rPlus X.K) := or_op op_add (or_op op_catA (or_op op_cat op_add_str))
theorem op_isNo : OpR X (compareOp .Is) rIsNo := op_isN
theorem op_notNo : OpR X (compareOp .IsNot) rNotNo := op_notN
theorem xGI {i : Int} (h : ∃ t, X.mg x = some (.int i t)) (hg : Gl X x := by rfl) (hd : (x == ("__debug__" : Str)) = false := by decide) : PE X (.Name x pos) (tC (.int i)) := by
  obtain ⟨t, h⟩ := h
  exact pe_glob hg h ⟨t, rfl⟩ hd
theorem xIx (ha : PE X a ta) (hb : PE X b tb) (hs : PlainIx b := by exact fun _ _ => rfl) : PE X (.Subscript a b pos) (tOp (rIx X.K) ta tb) := pe_ix ix_seq ha hb hs
theorem xTruth (ha : PE X a ta) (he : ∀ whole, isTrue a X.env whole = (do let v ← whole; standAt a.pos; holding [v] (truthy v)) := by intro _; rfl) : PT X a (tTruth X.K ta) := pt_truth ha he
theorem xB (r : List V → Hp → VK → Prop) {id : String} (hc : CallR X (.builtin id) r) (hm : X.mg x = none) (ha : PA X (e :: es) t) (hg : Gl X x := by rfl) (hv : bootBuiltins x = some (.builtin id) := by decide +kernel) (hn : x ≠ "__name__" := by decide) (hdb : (x == ("__debug__" : Str)) = false := by decide) (he : starEach (e :: es) X.env = (false, eval e X.env) :: starEach es X.env := by rfl) (hpl : (backTo pos (starEach es X.env)).any (·.1) = false := by rfl) : PE X (.Call (.Name x p) (e :: es) [] pos) (tCB r t) := pe_callB hc hg hm hv ha hn hdb he hpl
theorem xT (r : List V → Hp → VK → Prop) {T : String} (hc : CallR X (.type T) r) (hm : X.mg x = none) (ha : PA X (e :: es) t) (hg : Gl X x := by rfl) (hv : bootBuiltins x = some (.type T) := by decide +kernel) (hn : x ≠ "__name__" := by decide) (hdb : (x == ("__debug__" : Str)) = false := by decide) (he : starEach (e :: es) X.env = (false, eval e X.env) :: starEach es X.env := by rfl) (hpl : (backTo pos (starEach es X.env)).any (·.1) = false := by rfl) : PE X (.Call (.Name x p) (e :: es) [] pos) (tCB r t) := pe_callTy hc hg hm hv ha hn hdb he hpl
end
/-- a def of the text, as its callers know it -/
structure Ca (P : Program) (w : World) (K : PySem.W.Frag) (mg : Str → Option Value) (base : Heap) (CX : CXT) (k : Nat) (x : Str) (ps : List Str) (sp : Sp) : Prop where
  has : ∃ f fd, FnOk P w K mg base CX k f fd ps sp ∧ mg x = some (.ref f) ∧ PySem.W.keepIn K (.ref f) = true ∧ Binds K fd ps []
structure CaG (P : Program) (w : World) (K : PySem.W.Frag) (mg : Str → Option Value) (base : Heap) (CX : CXT) (k : Nat) (x : Str) (ps : List Str) (sp : Sp) : Prop where
  has : ∃ f fd, FnG P w K mg base CX k f fd ps sp ∧ mg x = some (.ref f) ∧ PySem.W.keepIn K (.ref f) = true ∧ Binds K fd ps []
section
variable {X : Cx} {CX : CXT} {k : Nat} {ps : List Str} {sp : Sp} {E : XK} {e : Expr} {es : List Expr} {p pos : Pos} {x : Str} {t : TA}
theorem xCall (C : Ca X.prog X.w X.K X.mg X.base CX k x ps sp) (hr : Room k X.A) (hx : Passes CX X E) (ha : PA X (e :: es) t) (hg : Gl X x := by rfl) (hdb : (x == ("__debug__" : Str)) = false := by decide) (he : starEach (e :: es) X.env = (false, eval e X.env) :: starEach es X.env := by rfl) (hpl : (backTo pos (starEach es X.env)).any (·.1) = false := by rfl) : PE X (.Call (.Name x p) (e :: es) [] pos) (tCall sp [] E t) := by
  obtain ⟨f, fd, F, hm, hk, hb⟩ := C.has
  exact pe_call F hr hg hm hk hb .nil hx ha hdb he hpl
theorem xCallG (C : CaG X.prog X.w X.K X.mg X.base CX k x ps sp) (hA : X.A.guards = some []) (hr : Room k X.A) (hx : Passes CX X E) (ha : PA X (e :: es) t) (hg : Gl X x := by rfl) (hdb : (x == ("__debug__" : Str)) = false := by decide) (he : starEach (e :: es) X.env = (false, eval e X.env) :: starEach es X.env := by rfl) (hpl : (backTo pos (starEach es X.env)).any (·.1) = false := by rfl) : PE X (.Call (.Name x p) (e :: es) [] pos) (tCall sp [] E t) := by
  obtain ⟨f, fd, F, hm, hk, hb⟩ := C.has
  exact pe_callG F hA hr hg hm hk hb .nil hx ha hdb he hpl
end
end DL

/-! New instances of an own class over built-in ones of which the nearest with a __new__ is B. -/
namespace DL
open PySem PySem.Spec PySem.Calls
/-- what such a class's mro tells of the built-in ones -/
structure Over (bm : List Value) (B : String) : Prop where
  isB : bm.contains (.type B) = true
  notA : bm.contains (.type "AttributeError") = false
  notN : bm.contains (.type "NameError") = false
section
variable {prog : Program} {w : World} {A : Around} {E : Value → Shared → Prop} {R : Result → Shared → Prop} {h : Heap} {g : Array GenState} {d : Drawn} {t : Nat} {os : OsState}
variable {nm q : Str} {C N : Addr} {bs bm tl : List Value} {hd : Bool} {sn : List Str} {sub : List Value} {ab : Bool} {col : Option Bool} {dd : Option Addr} {k0 k1 k2 k3 k5 : Option Value} {B nw ini : String} {us : List Value}
theorem over_has (o : Over bm B) : (Value.ref C :: bm).contains (.type B) = true ∧ (Value.ref C :: bm).contains (.type "AttributeError") = false ∧ (Value.ref C :: bm).contains (.type "NameError") = false := by
  refine ⟨?_, ?_, ?_⟩
  · rw [List.contains_cons, o.isB]; simp
  · rw [List.contains_cons, o.notA]; rfl
  · rw [List.contains_cons, o.notN]; rfl
theorem over_new (F : ExcBaseFacts B nw ini tl) (o : Over bm B) (hC : h.get? C = some (excClassObj nm q C N bs bm hd sn sub ab col dd k0 k1 k2 k3 k5 nw)) (few : us.length ≤ sizeLine)
    (k : R (.ok (.ret (.ref (h.objs.size + 1)))) ⟨(h.push (PySem.W.kdv_tup us)).push (HandSPX.excO C h.objs.size), g, d, t, os⟩) : codeAny (model prog w) A (.builtin nw ⟨.ref C :: us, []⟩) R ⟨h, g, d, t, os⟩ := by
  obtain ⟨c1, c2, c3⟩ := over_has (C := C) o
  have c0 := F.canon
  have e0 := F.ends
  refine codeAny_builtinAt F.entry ?_
  unfold Builtin.«BaseException.__new__»
  refine wpAt_bind ?_
  change wpAt _ _ _ (stack >>= _) _ _ _
  refine wpAt_bind (wpAt_stack fun p below => wpAt_of_wpAny ?_)
  wp_walk
  refine wpAt_of_wpAny ?_
  rw [F.owner]
  repeat (first | with_reducible refine wpAny_madeHere_exc c0 hC ?_ | with_reducible refine wpAny_loadPart_at hC ?_ | (with_reducible refine wpAny_isSubtype_exc hC ?_; first | rw [c1] | rw [c2] | rw [c3]) | wp_step)
  change R _ _
  rw [Heap.size_push]
  exact k
theorem over_type (F : ExcBaseFacts B nw ini tl) (o : Over bm B) (hC : h.get? C = some (excClassObj nm q C N bs bm hd sn sub ab col dd k0 k1 k2 k3 k5 nw)) {fI : Addr} {Q : Fin → Shared → Prop}
    (hi : PySem.W.Looks (model prog w) h (typeLookup (.ref C) "__init__") (some (.ref fI))) (hb : ∀ self, PySem.W.Looks (model prog w) h (bindSpecial (.ref fI) self) (.ref fI, [self])) (few : us.length ≤ sizeLine)
    (k : codeAny (model prog w) A (.call (.ref fI) ⟨.ref (h.objs.size + 1) :: us, []⟩)
      (fun r s' => match r with | .ok (.ret v) => v = .none ∧ Q (.done (.ret (.ref (h.objs.size + 1)))) s' | .ok _ => False | .error e => E e s') ⟨(h.push (PySem.W.kdv_tup us)).push (HandSPX.excO C h.objs.size), g, d, t, os⟩) :
    wpAny (model prog w) A (Builtin.«type.__call__» ⟨.ref C :: us, []⟩) Q E ⟨h, g, d, t, os⟩ := by
  obtain ⟨c1, c2, c3⟩ := over_has (C := C) o
  have on : ∀ b x, h.get? b = some x → ((h.push (PySem.W.kdv_tup us)).push (HandSPX.excO C h.objs.size)).get? b = some x := fun b x e => Heap.get?_push_of_some _ (Heap.get?_push_of_some _ e)
  have new : ((h.push (PySem.W.kdv_tup us)).push (HandSPX.excO C h.objs.size)).get? (h.objs.size + 1) = some (HandSPX.excO C h.objs.size) := by heap_get
  have self_ : (Value.ref C :: bm).contains (.ref C) = true := by simp
  have hC1 := on _ _ hC
  have hi1 := hi.keeps on
  have hb1 := (hb (.ref (h.objs.size + 1))).keeps on
  repeat (first | with_reducible refine wpAny_loadPart_at hC ?_ | with_reducible refine wpAny_madeBy_exc hC ?_ | wp_step)
  refine codeAny_call_builtin_code (Code.quiet_builtin _ F.quiet) ?_
  have st := F.noStar
  simp only [checkBuiltinCall, F.newKind, F.newSplit, F.newRow]
  repeat (first | refine wpAny_loadPart_at hC ?_ | (refine wpAny_isSubtype_exc hC ?_; rw [c1]) | refine wpAny_staticBase_exc hC ?_ | refine wpAny_madeBy_exc hC ?_ | simp only [bne_self_eq_false, Bool.false_eq_true, if_false] | wp_step)
  refine over_new F o hC few ?_
  change wpAny _ _ _ _ _ _
  unfold isInstance
  repeat (first | with_reducible refine wpAny_loadPart_at new ?_ | (with_reducible refine wpAny_isSubtype_exc hC1 ?_; rw [self_]) | wp_step)
  change wpAny _ _ (typeLookup (.ref C) _) _ _ _
  refine hi1.at (wpAny_holding (wpAny_bind (hb1.at (wpAny_bind (wpAny_call (codeAny_mono k fun r s' z => ?_))))))
  match r, z with
  | .error e, z => exact z
  | .ok (.ret v), z =>
    obtain ⟨ev, z⟩ := z
    subst ev
    first
      | exact wpAny_pure (wpAny_pure z)
      | (wp_walk; exact z)
  | .ok .next, z => exact z.elim
  | .ok .brk, z => exact z.elim
  | .ok .cont, z => exact z.elim
/-- C(..) of such a class, C's own __init__ at fI -/
theorem over_call (F : ExcBaseFacts B nw ini tl) (o : Over bm B) (hC : h.get? C = some (excClassObj nm q C N bs bm hd sn sub ab col dd k0 k1 k2 k3 k5 nw)) {fI : Addr}
    (hi : PySem.W.Looks (model prog w) h (typeLookup (.ref C) "__init__") (some (.ref fI))) (hb : ∀ self, PySem.W.Looks (model prog w) h (bindSpecial (.ref fI) self) (.ref fI, [self])) (few : us.length ≤ sizeLine)
    (k : codeAny (model prog w) (A.under (.builtin "type.__call__" ⟨.ref C :: us, []⟩)) (.call (.ref fI) ⟨.ref (h.objs.size + 1) :: us, []⟩) (PySem.W.InitBack (h.objs.size + 1) R) ⟨(h.push (PySem.W.kdv_tup us)).push (HandSPX.excO C h.objs.size), g, d, t, os⟩) :
    codeAny (model prog w) A (.call (.ref C) ⟨us, []⟩) R ⟨h, g, d, t, os⟩ := by
  have f1 := tc_lookup
  have f2 := tc_bind (.ref C)
  have ty : (⟨h, g, d, t, os⟩ : Shared).TypeIs (.ref C) "type" := ⟨_, hC, rfl⟩
  refine codeAny_of_tree ?_
  change wpAny _ _ (callAny (.ref C) _) _ _ _
  repeat (any_goals (first | assumption | with_reducible refine wpAny_loadPart_at hC ?_ | wp_step))
  refine ⟨rfl, codeAny_call_builtin_at (Code.quiet_builtin _ (by decide +kernel)) entry_typeCall (wpAny_check_type_call_sub hC (over_type F o hC hi hb few (codeAny_mono k fun r s' z => ?_)))⟩
  match r, z with
  | .error e, z => exact z
  | .ok (.ret v), z => exact z
  | .ok .next, z => exact z
  | .ok .brk, z => exact z
  | .ok .cont, z => exact z
end
end DL

/-! Error classes of the program, over own ones, over a built-in one (its mro: tl), each with an __init__ that keeps one thing. -/
namespace DL
open PySem PySem.Spec
open PyProof.Rows L2
/-- own classes, at most KeyError, then tl -/
def endsIn (tl : List Value) : List Value → Bool
  | .ref _ :: r => endsIn tl r
  | l => decide (l = tl) || decide (l = .type "KeyError" :: tl)
theorem endsIn_cases {tl : List Value} : ∀ l : List Value, endsIn tl l = true → (l = tl ∨ l = .type "KeyError" :: tl) ∨ ∃ c r, l = .ref c :: r ∧ endsIn tl r = true := fun l e => by
  unfold endsIn at e
  split at e
  · exact .inr ⟨_, _, rfl, e⟩
  · rcases Bool.or_eq_true_iff.mp e with e | e
    · exact .inl (.inl (of_decide_eq_true e))
    · exact .inl (.inr (of_decide_eq_true e))
theorem endsIn_has {tl : List Value} (T : String) (hT : T ≠ "KeyError") (l : List Value) : endsIn tl l = true → l.contains (.type T) = tl.contains (.type T) := by
  have key : (Value.type "KeyError" :: tl).contains (.type T) = tl.contains (.type T) := by
    rw [List.contains_cons]
    have : ((Value.type T) == Value.type "KeyError") = false := beq_eq_false_iff_ne.mpr fun e => hT (Value.type.inj e)
    rw [this, Bool.false_or]
  induction l with
  | nil =>
    intro e
    rcases endsIn_cases _ e with (e | e) | ⟨_, _, e, _⟩
    · rw [e]
    · cases e
    · cases e
  | cons x l ih =>
    intro e
    rcases endsIn_cases _ e with (e | e) | ⟨c, r, e1, e2⟩
    · rw [e]
    · rw [e]; exact key
    · obtain ⟨q1, q2⟩ := List.cons.inj e1
      rw [q1, List.contains_cons, ih (by rw [q2]; exact e2)]
      rfl
/-- an attribute of that name may be stored: nothing built in among tl refuses -/
abbrev Passes2 (tl : List Value) : Prop := ∀ self : Value, refuseLoop self "__setattr__" tl = pure () ∧ refuseLoop self "__setattr__" (.type "KeyError" :: tl) = pure ()
theorem endsIn_pass {tl : List Value} (self : Value) (h : Passes2 tl) (l : List Value) : endsIn tl l = true → refuseLoop self "__setattr__" l = pure () := by
  induction l with
  | nil =>
    intro e
    rcases endsIn_cases _ e with (e | e) | ⟨_, _, e, _⟩
    · rw [e]; exact (h self).1
    · cases e
    · cases e
  | cons x l ih =>
    intro e
    rcases endsIn_cases _ e with (e | e) | ⟨c, r, e1, e2⟩
    · rw [e]; exact (h self).1
    · rw [e]; exact (h self).2
    · obtain ⟨q1, q2⟩ := List.cons.inj e1
      rw [q1, refuseLoop_ref]
      exact ih (by rw [q2]; exact e2)
/-- what is written of such a class: nw its __new__ -/
structure OwnE (K : PySem.W.Frag) (C : Addr) (tl : List Value) (nw : String) : Prop where
  cls : ∃ nm q N bs bm sn sub ab col dd k0 k1 k2 k3 k5, K.lookup C = some (excClassObj nm q C N bs bm true sn sub ab col dd k0 k1 k2 k3 k5 nw) ∧ endsIn tl bm = true
  puts : PySem.W.findIn K (.ref C) "__setattr__" = some (some (.builtin "object.__setattr__"))
  sub : PySem.W.subIn K (.ref C) (.type "BaseException") = some true
  typ : PySem.W.typeIn K (.ref C) = some (.type "type")
  keep : PySem.W.keepIn K (.ref C) = true
/-- what a class tells whose new instances take an attribute of a name into a dict of their own -/
structure TakesIn (K : PySem.W.Frag) (C : Addr) (cl : ClassData) (nm : Str) : Prop where
  is : PySem.W.clsIn K C = some cl
  row : cl.mro.isEmpty = false
  root : cl.mro.contains (.type "object") = true
  pass : ∀ self, refuseLoop self "__setattr__" cl.mro = pure ()
  dct : cl.hasDict = true
  lacks : PySem.W.findIn K (.ref C) nm = some none
section
open PySem.W PySem.Calls HandSPX
open Builtin.ObjectAttr Builtin
variable {P : Program} {w : World} {A : Around} {R : Result → Shared → Prop} {h₀ : Heap} {gs : Array GenState} {dr : Drawn} {n : Nat} {os : OsState} {K : W.Frag} {nm : Str} {tk : Tok} {v : Value} {e C : Addr} {parts : Array Value} {cl : ClassData}
/-- e.nm = v, e an exception that has no dict yet -/
theorem exc_put (c : TakesIn K C cl nm) (X : K.In h₀) (he : h₀.get? e = some { cls := .ref C, data := .fields parts })
    (after : ∀ h' t' dx, (∀ b o, b ≠ e → h₀.get? b = some o → h'.get? b = some o) → h₀.objs.size ≤ dx → dx ≠ e → h'.get? e = some { cls := .ref C, dict := some dx, data := .fields parts } → h'.Ns1 dx (fun y => if y = nm then some v else none) → R (.ok (.ret .none)) ⟨h', gs, dr, t', os⟩) :
    codeAny (model P w) A (.call (.builtin "object.__setattr__") ⟨[.ref e, .str nm tk, v], []⟩) R ⟨h₀, gs, dr, n, os⟩ := by
  obtain ⟨is, row, root, pass, dct, lacks⟩ := c
  have inst : W.InstAt h₀ e { cls := .ref C, data := .fields parts } C none := ⟨he, rfl, rfl, trivial⟩
  have old : e < h₀.objs.size := Heap.lt_size he
  have slot := F.store_object
  refine codeAny_call_builtin slot.slot.plain slot.entry (@W.check_slot (model P w) _ _ ⟨h₀, gs, dr, n, os⟩ "object.__setattr__" "object" "__setattr__" (.ref e) [.str nm tk, v] [] _ slot.kind slot.split (inst.type.andThen (W.looks_mroIn X ?_)) (slot.args (.ref e) (.str nm tk) v) ?_)
  · unfold W.mroIn
    rw [is, Option.bind_some, row, root]
    rfl
  have cls : W.Looks (model P w) h₀ (classData C) cl := W.looks_clsIn X is
  rw [W.osa_eq, refuse_eq]
  refine wpAny_bind (wpAny_bind (inst.type.at (wpAny_bind ((cls.andThen .now : W.Looks (model P w) h₀ (mroOf (.ref C)) cl.mro).at ?_))))
  rw [pass]
  refine wpAny_pure (wpAny_bind (inst.type.at (wpAny_bind ((W.looks_findIn X lacks).at (wpAny_bind ((W.Looks.now : W.Looks (model P w) h₀ (storeTaker? none) none).at ?_))))))
  change wpAny (model P w) _ (storeInOwnDict (.ref e) (.ref C) (.str nm tk) nm v false) _ _ _
  cases cl
  dsimp only at dct
  subst dct
  unfold storeInOwnDict
  unfold ownDictForStores
  repeat (first | with_reducible refine store_in_new ?_ ?_ | with_reducible refine wpAny_loadPart_at he ?_ | with_reducible refine cls.at ?_ | wp_step)
  · exact ⟨_, #[], _, (Heap.get?_update_ne _ _ _ _ (Nat.ne_of_gt old)).trans (Heap.get?_push_at rfl rfl), rfl, fun x hx => absurd hx (by simp), fun _ => rfl⟩
  · intro h' t' told stay
    refine after h' t' h₀.objs.size (fun b o hb ho => (stay.2 b (Nat.ne_of_lt (Heap.lt_size ho))).trans ?_) (Nat.le_refl _) (Nat.ne_of_gt old) ((stay.2 e (Nat.ne_of_lt old)).trans (Heap.get?_update_self _ (Heap.get?_push_of_some _ he) rfl)) told
    exact (Heap.get?_update_ne _ _ _ _ hb).trans (Heap.get?_push_of_some _ ho)
end
section
variable {X : Cx} {pins : List (Addr × Obj)} {σ : L2.St} {H : Hp} {s : Shared} {a C dx : Addr} {f : Str} {y : V} {u : Value} {Q : Unit → Shared → Prop} {E : Value → Shared → Prop} {A : Around} {tl : List Value} {nw : String}
/-- the heap behind it -/
def putH (H : Hp) (a C dx : Addr) (f : Str) (y : V) : Hp := upd (upd H dx (exd dx [(f, y)])) a (exo a C (some dx))
theorem exc_st (T : OwnE X.K C tl nw) (pass : Passes2 tl) (root : tl.contains (.type "object") = true) (I : Inv X pins σ H s) (ea : H a = some (exo a C none)) (lacks : PySem.W.findIn X.K (.ref C) f = some none) (ry : RelV y u)
    (after : ∀ dx s', H dx = none → dx ≠ a → Inv X pins σ (putH H a C dx f y) s' → Q () s') : wpAny (model X.prog X.w) A (setAttr (.ref a) f u) Q E s := by
  obtain ⟨c1, c2, c3, c4, tail, c5, c6, c7, c8, c9, x0, x1, x2, x3, x5, there, ends⟩ := T.cls
  have takes : TakesIn X.K C { name := c1, bases := c4, mro := .ref C :: tail, ns := c3, qualname := c2, hasDict := true, slotNames := c5, subclasses := c6, abstract := c7, collection := c8, hasDel := false } f := by
    refine ⟨by unfold PySem.W.clsIn; rw [there], rfl, ?_, fun self => ?_, rfl, lacks⟩
    · show List.contains (.ref C :: tail) _ = true
      rw [List.contains_cons, endsIn_has "object" (by decide) tail ends, root]
      rfl
    · show refuseLoop self _ (.ref C :: tail) = _
      rw [refuseLoop_ref]
      exact endsIn_pass self pass tail ends
  obtain ⟨tb, held⟩ := exo_at I.hok ea
  obtain ⟨h₀, gs, dr, n, os⟩ := s
  refine PySem.W.set_plain I.kIn (ox := { cls := .ref C, dict := none, data := .fields #[.ref tb, .none, .none, .none, .bool false, .none] }) (od := none) ⟨held, rfl, rfl, trivial⟩ T.puts (exc_put takes I.kIn held fun h' t' dx stay new apart now names => ?_)
  -- dx is new, a was there: all else stays
  have fresh : H dx = none := I.hok.fresh new
  have low : ∀ {b : Addr} {o : Obj}, h₀.get? b = some o → b ≠ dx := fun q => Nat.ne_of_lt (Nat.lt_of_lt_of_le (Heap.lt_size q) new)
  have other : ∀ {b : Addr}, H b = none → b ≠ a := fun n z => by rw [z, ea] at n; cases n
  have same : ∀ {b : Addr} {o : HO}, b ≠ a → b ≠ dx → H b = some o → putH H a C dx f y b = some o := fun za zd q => (upd_ne za).trans ((upd_ne zd).trans q)
  have kept : ∀ {b : Addr} {o : HO}, b ≠ a → H b = some o → putH H a C dx f y b = some o := fun za q => same za (ne_of_none q fresh) q
  refine after dx _ fresh apart (I.un (t' := t') ?_ fun b o q => ?_)
  · exact
      { keep := fun b o q n _ _ => stay b o (other n) q
        slot := fun b o q n _ _ => ⟨o.slots, stay b o (other n) q⟩
        free := fun b o q n _ => (upd_ne (other n)).trans ((upd_ne (low q)).trans n)
        there := fun b o q _ => by
          by_cases z : b = a
          · exact ⟨_, by rw [z]; exact now⟩
          · exact ⟨o, stay b o z q⟩
        tups := fun b xs q => kept (at_ne ea q exo_tup) q
        frzs := fun b o v q => kept (at_ne ea q exo_frz) q
        tbls := fun b ps q => ⟨#[], by rw [kept (at_ne ea q exo_tbl) q]; simp⟩ }
  · by_cases za : b = a
    · subst za
      obtain rfl := Option.some.inj (upd_same.symm.trans q)
      exact exo_ok now
    · by_cases zd : b = dx
      · subst zd
        obtain rfl := Option.some.inj (upd_same.symm.trans ((upd_ne za).symm.trans q))
        exact exd_ok names (relO_put (fs := []) ry fun _ => trivial)
      · have was : H b = some o := (upd_ne zd).symm.trans ((upd_ne za).symm.trans q)
        exact (I.hok b o was).stay (fun b' v' hb' z' => stay b' v' (hb'.elim (fun z => by rw [z]; exact za) fun z => at_ne ea z exo_own) z') (fun b' z' => kept (at_ne ea z' exo_own) z') fun b' xs z' => kept (at_ne ea z' exo_tup) z'
end
/-- self.f = y within such an __init__ -/
def tPut (K : PySem.W.Frag) (tl : List Value) (nw : String) (f : Str) (to te : TE) : TS := fun D σ H => te σ H fun y H1 => to σ H1 fun x H2 => ∃ a C : Addr, x = .ref a ∧ OwnE K C tl nw ∧ PySem.W.findIn K (.ref C) f = some none ∧ H2 a = some (exo a C none) ∧
  ∀ dx, H2 dx = none → dx ≠ a → D.nx σ (upd (upd H2 dx (exd dx [(f, y)])) a (exo a C (some dx)))
section
variable {X : Cx} {o e : Expr} {es : List Expr} {to te : TE} {ta : TA} {f : Str} {p p' pos : Pos} {tl : List Value} {nw : String}
theorem ps_put (hp : Passes2 tl) (ho : tl.contains (.type "object") = true) (hO : PE X o to) (he : PE X e te) (hs : swapsWith e (some (.Attribute o f p')) pos.line X.env = pure false := by rfl) :
    PS X (.Assign [.Attribute o f p'] e pos) (tPut X.K tl nw f to te) := ⟨fun pins s σ H D I h =>
  plainObj_wpAny_Assign_Attribute (thn (he.run pins s σ H _ I h) fun v s1 ⟨y, H1, I1, r1, q1⟩ => thn (hO.run pins s1 σ H1 _ I1 q1) fun u s2 ⟨x, H2, I2, r2, a, C, ex, T, hno, ea, q⟩ => by
    subst ex
    cases (show u = Value.ref a from r2)
    exact exc_st T hp ho I2 ea hno r1 fun dx s' n ne J => ⟨σ, _, J, q dx n ne⟩) hs⟩
/-- C(e), C's own __init__ as it is promised -/
theorem pmk_e {B initId : String} {CX : CXT} {x : Str} {C fI : Addr} {k : Nat} {fd : FuncData} {ps : List Str} {sp : Sp} {ds : List Value} {dvs : List V} (FB : ExcBaseFacts B nw initId tl) (nB : B ≠ "KeyError") (T : OwnE X.K C tl nw) (iC : PySem.W.findIn X.K (.ref C) "__init__" = some (some (.ref fI)))
    (tI : PySem.W.typeIn X.K (.ref fI) = some (.type "function")) (F1 : FnOk X.prog X.w X.K X.mg X.base CX k fI fd ps sp) (hr : Room (k + 1) X.A) (hb : Binds X.K fd ps ds) (hd : Vals dvs ds) (hx : Passes CX X (fun _ _ _ => False)) (hm : X.mg x = some (.ref C)) (ha : PA X (e :: es) ta) (hg : Gl X x := by rfl)
    (hdb : (x == ("__debug__" : Str)) = false := by decide) (he : starEach (e :: es) X.env = (false, eval e X.env) :: starEach es X.env := by rfl) (hpl : (backTo pos (starEach es X.env)).any (·.1) = false := by rfl) : PMk X (.Call (.Name x p) (e :: es) [] pos) (tMkO C sp dvs ta) := by
  intro pins s σ H Q I h
  obtain ⟨c1, c2, c3, c4, tail, c5, c6, c7, c8, c9, x0, x1, x2, x3, x5, there, ends⟩ := T.cls
  refine wpAny_Call_Name_kw (ld_glob I hg hm (PySem.W.callWith_K (h₀ := X.base) I.ok.mod.kin T.keep (thn (ha.run pos pins s σ H _ I h) fun us sh ⟨vs, G, J, rv, few, told⟩ => ⟨J.kIn, ?_⟩) he hpl) hdb)
  change wpAny _ _ (call (.ref C) us) _ _ _
  obtain ⟨h₀, gs, dr, n, os⟩ := sh
  -- its arguments' tuple at n0, the object itself behind it
  let n0 := h₀.objs.size
  have up : n0 ≤ n0 + 1 := Nat.le_succ _
  have told := told (n0 + 1) (J.hok.fresh up)
  have stay : ∀ b o, h₀.get? b = some o → ((h₀.push (PySem.W.kdv_tup us)).push (HandSPX.excO C h₀.objs.size)).get? b = some o := fun b o z => Heap.get?_push_of_some _ (Heap.get?_push_of_some _ z)
  have made : ((h₀.push (PySem.W.kdv_tup us)).push (HandSPX.excO C h₀.objs.size)).get? (h₀.objs.size + 1) = some (HandSPX.excO C h₀.objs.size) := by heap_get
  have J1 := J.laid (t' := n) (a := n0 + 1) (o := exo (n0 + 1) C none) stay up (exo_ok made)
  have all : Vals (V.ref (n0 + 1) :: (vs ++ dvs)) (Value.ref (n0 + 1) :: (us ++ ds)) := .cons rfl (rv.append hd)
  have many : (Value.ref (n0 + 1) :: us ++ ds).length = ps.length := all.length.symm.trans (F1.len _ _ _ _ told)
  have short : us.length ≤ sizeLine := by rw [← Paired.length rv, sizeLine_eq]; omega
  refine wpAny_call (over_call FB ⟨(endsIn_has B nB tail ends).trans FB.hasB, (endsIn_has _ (by decide) tail ends).trans FB.noAttr, (endsIn_has _ (by decide) tail ends).trans FB.noName⟩ (J.kIn _ _ there) (PySem.W.looks_findIn J.kIn iC) (fun self => PySem.W.bind_fn J.kIn self tI) short (codeAny_mono (F1.run _ X.stack _ _ ⟨Value.ref (n0 + 1) :: us, []⟩ _ _ _ (fun _ _ _ => False) (hr.make C us []) (J1.env0.make C us []) (hb _ (Value.ref (n0 + 1) :: us) J1.kIn many) all told) ?_))
  rintro (er | fl) s' out
  · exact hx pins σ _ _ er s' J1 out
  match fl, s', out with
  | .ret u, ⟨h2, g2, d2, t2, o2⟩, ⟨v, H2, eo, gb, un, hok, rel, ev, d, fs, ea, ed, fd1, last⟩ =>
    rw [ev] at rel
    exact ⟨rel, mk_end (raises_own T.sub T.typ) J up stay un hok eo gb ea ed fd1 last⟩
end
end DL

/-! raise and try, as data. -/
namespace DL
open PySem PySem.Spec
open PyProof.Rows L2
theorem PS.imp {X : Cx} {st : Stmt} {t t' : TS} (h : PS X st t) (k : ∀ D σ H, t' D σ H → t D σ H) : PS X st t' := ⟨fun pins s σ H D I q => h.run pins s σ H D I (k D σ H q)⟩
/-- the __init__ of such a class -/
def spIni (K : PySem.W.Frag) (C : Addr) (f : Str) : Sp := fun vs H Q _ => ∃ a v, vs = [.ref a, v] ∧ PySem.W.findIn K (.ref C) f = some none ∧ H a = some (exo a C none) ∧ ∀ dx, H dx = none → dx ≠ a → Q .non (upd (upd H dx (exd dx [(f, v)])) a (exo a C (some dx)))
theorem ini_read {K : PySem.W.Frag} {C : Addr} {f : Str} {tl : List Value} {nw : String} {vs : List V} {H : Hp} {Q : VK} {E : XK} (T : OwnE K C tl nw) (h : spIni K C f vs H Q E) : tPut K tl nw f (tVar 0) (tVar 1) { nx := fun _ H' => Q .non H', rt := Q } (vs.map some) H := by
  obtain ⟨a, v, rfl, hno, e, q⟩ := h
  exact ⟨v, rfl, .ref a, rfl, a, C, rfl, T, hno, e, q⟩
/-- all that is known of an error class with one thing kept -/
structure Er (P : Program) (w : World) (K : PySem.W.Frag) (mg : Str → Option Value) (base : Heap) (x : Str) (C : Addr) (f : Str) : Prop where
  own : ∃ (tl : List Value) (nw B initId : String) (fI : Addr) (fd : FuncData) (ps : List Str), ExcBaseFacts B nw initId tl ∧ B ≠ "KeyError" ∧ OwnE K C tl nw ∧ PySem.W.findIn K (.ref C) "__init__" = some (some (.ref fI)) ∧ PySem.W.typeIn K (.ref fI) = some (.type "function") ∧ FnOk P w K mg base CX0 1 fI fd ps (spIni K C f) ∧ Binds K fd ps []
  at_ : mg x = some (.ref C)
  xf : XfC K C
  no : PySem.W.findIn K (.ref C) f = some none
/-- raise C(e) -/
def tRz (K : PySem.W.Frag) (C : Addr) (f : Str) (te : TE) (W : WX) : TS := fun _ σ H => tMkO C (spIni K C f) [] (tCons te tNil) σ H fun cls d H' => W cls d σ H'
theorem xRaise {X : Cx} {W : WX} {x : Str} {C : Addr} {f : Str} {e : Expr} {te : TE} {p pos pos' : Pos} (R : Er X.prog X.w X.K X.mg X.base x C f) (hc : X.calm = true) (tk : Takes X W) (hr : Room 2 X.A) (he : PE X e te) (hg : Gl X x := by rfl)
    (hdb : (x == ("__debug__" : Str)) = false := by decide) (hs : starEach [e] X.env = (false, eval e X.env) :: starEach [] X.env := by rfl) (hs2 : (backTo pos (starEach [] X.env)).any (·.1) = false := by rfl) : PS X (.Raise (some (.Call (.Name x p) [e] [] pos)) none pos') (tRz X.K C f te W) := by
  obtain ⟨tl, nw, B, initId, fI, fd, ps, FB, nB, T, iC, tI, F1, hb⟩ := R.own
  exact ps_raise hc tk (pmk_e (pos := pos) (p := p) FB nB T iC tI F1 hr hb .nil pass0 R.at_ (pa_cons he pa_nil hs) hg hdb hs hs2)
theorem s_raise {K : PySem.W.Frag} {M : Md} {C : Addr} {f : Str} {te : TE} {W : WX} {D : Ends} {σ : L2.St} {J H : Hp} {P : PyData → Prop} (hno : PySem.W.findIn K (.ref C) f = some none) (w : Wf M J H) (h : EvP K M te σ J H P)
    (q : ∀ v d J1 H1 dx, Wf M J1 H1 → Tr M J H J1 H1 → P d → Da K J1 v d → H1 dx = none → Wf M J1 (upd H1 dx (.xd [(f, v)])) → Tr M J H J1 (upd H1 dx (.xd [(f, v)])) → W (.ref C) (some dx) σ (upd H1 dx (.xd [(f, v)]))) : tRz K C f te W D σ H := by
  refine h J H w w.tr _ fun v d J1 H1 w1 t1 pd a => ⟨by show 1 ≤ 1000; decide, fun e he => ⟨e, v, rfl, hno, upd_same, fun dx hx ne => ⟨rfl, dx, [(f, v)], upd_same, ?_, ?_, ?_⟩⟩⟩
  · rw [upd_ne ne, upd_same]
  · rw [upd_ne ne] at hx; exact hx
  · rw [upd_ne ne] at hx
    have e1 : upd (del (upd (upd (upd H1 e (exo e C none)) dx (exd dx [(f, v)])) e (exo e C (some dx))) e) dx (.xd [(f, v)]) = upd H1 dx (.xd [(f, v)]) := by
      funext b
      by_cases hb : b = dx
      · rw [hb, upd_same, upd_same]
      · rw [upd_ne hb, upd_ne hb]
        by_cases hc : b = e
        · rw [hc, del_same, he]
        · rw [del_ne hc, upd_ne hc, upd_ne hb, upd_ne hc]
    rw [e1]
    have t2 := w1.cell (o := .xd [(f, v)]) hx
    exact q v d J1 H1 dx w1 t1 pd a hx (t2.wf w1) (t1.trans t2)
/-- what a def promises that may raise: cl, fl: the error classes and what each keeps -/
def spX (K : PySem.W.Frag) (cl : Str → Addr) (fl : Str → Str) (pre : List PyData → Prop) (post : List PyData → PyData → Prop) (exc : List PyData → Str → PyData → Prop) : Sp := fun vs H Q E => ∃ J ds, Sub J H ∧ Das K J vs ds ∧ pre ds ∧
  (∀ v d J' H', Tr Md.pure J H J' H' → post ds d → Da K J' v d → Q v H') ∧ ∀ c x dx v J' H', Tr Md.pure J H J' H' → exc ds c x → H' dx = some (.xd [(fl c, v)]) → Da K J' v x → E (.ref (cl c)) (some dx) H'
theorem spX_D {K : PySem.W.Frag} {M : Md} {cl : Str → Addr} {fl : Str → Str} {pre : List PyData → Prop} {post : List PyData → PyData → Prop} {exc : List PyData → Str → PyData → Prop} {ds : List PyData} {E : XK} (h : pre ds) (hn : ∀ c x, ¬ exc ds c x) : SpD K M (spX K cl fl pre post exc) ds (post ds) E := fun vs J H w a Q q =>
  ⟨J, ds, w.jh, a, h, fun v d J' H' t p a' => q v d J' H' ((w.lift t).wf w) (w.lift t) p a', fun c x _ _ _ _ _ z => (hn c x z).elim⟩
/-- a call within a try: it may come back or raise -/
theorem ev_callS {K : PySem.W.Frag} {M : Md} {σ : L2.St} {J H : Hp} {cl : Str → Addr} {fl : Str → Str} {pre : List PyData → Prop} {post : List PyData → PyData → Prop} {exc : List PyData → Str → PyData → Prop} {E : L2.St → XK} {ta : TA} {ds : List PyData} {Q : VK} (w : Wf M J H) (h : EvA K M ta σ J H (· = ds)) (hp : pre ds)
    (q : ∀ v d J1 H1, Wf M J1 H1 → Tr M J H J1 H1 → post ds d → Da K J1 v d → Q v H1)
    (qe : ∀ c x dx v J1 H1, Wf M J1 H1 → Tr M J H J1 H1 → exc ds c x → H1 dx = some (.xd [(fl c, v)]) → Da K J1 v x → E σ (.ref (cl c)) (some dx) H1) : tCallS (spX K cl fl pre post exc) E ta σ H Q :=
  h J H w w.tr _ fun vs ds' J1 H1 w1 t1 e a => by
    subst e
    exact ⟨J1, _, w1.jh, a, hp, fun v d J' H' t p a' => q v d J' H' ((w1.lift t).wf w1) (t1.trans (w1.lift t)) p a', fun c x dx v J' H' t z hx a' => qe c x dx v J' H' ((w1.lift t).wf w1) (t1.trans (w1.lift t)) z hx a'⟩
theorem xCallS {X : Cx} {CX : CXT} {k : Nat} {ps : List Str} {sp : Sp} {E : L2.St → XK} {e : Expr} {es : List Expr} {p pos : Pos} {x : Str} {t : TA} (C : Ca X.prog X.w X.K X.mg X.base CX k x ps sp) (hr : Room k X.A) (hx : ∀ σ, PassesAt CX X σ (E σ)) (ha : PA X (e :: es) t) (hg : Gl X x := by rfl) (hdb : (x == ("__debug__" : Str)) = false := by decide) (he : starEach (e :: es) X.env = (false, eval e X.env) :: starEach es X.env := by rfl) (hpl : (backTo pos (starEach es X.env)).any (·.1) = false := by rfl) : PE X (.Call (.Name x p) (e :: es) [] pos) (tCallS sp E t) := by
  obtain ⟨f, fd, F, hm, hk, hb⟩ := C.has
  exact pe_callS F hr hg hm hk hb hx ha hdb he hpl
end DL

/-! Data of told kinds: numbers, rows of numbers. -/
namespace DL
open PySem PySem.Spec
open PyProof.Rows L2
section
variable {K : PySem.W.Frag} {M : Md} {σ : L2.St} {J H J0 H0 : Hp} {te : TE} {tu tw : TS} {d : PyData} {i j : Int} {D : Ends}
theorem s_asgD {k : Nat} (w : Wf M J H) (h : EvD K M te σ J H d) (q : ∀ v J1 H1, Wf M J1 H1 → Tr M J H J1 H1 → Da K J1 v d → D.nx (σ.set k (some v)) H1) : tAsg te (gName k) D σ H := s_asg w h fun v d' J1 H1 w1 t1 e a => by subst e; exact q v J1 H1 w1 t1 a
theorem s_asgI {k : Nat} (w : Wf M J H) (h : EvD K M te σ J H (.int i)) (q : ∀ J1 H1, Wf M J1 H1 → Tr M J H J1 H1 → D.nx (σ.set k (some (.int i))) H1) : tAsg te (gName k) D σ H := s_asg w h fun v d' J1 H1 w1 t1 e a => by subst e; rw [da_int a]; exact q J1 H1 w1 t1
theorem s_retD (w : Wf M J H) (h : EvD K M te σ J H d) (q : ∀ v J1 H1, Wf M J1 H1 → Tr M J H J1 H1 → Da K J1 v d → D.rt v H1) : tRet te D σ H := s_ret w h fun v d' J1 H1 w1 t1 e a => by subst e; exact q v J1 H1 w1 t1 a
theorem s_ifD {b : Bool} {c : TT} (w : Wf M J H) (h : EvT M c σ J H (· = b)) (q1 : b = true → ∀ J1 H1, Wf M J1 H1 → Tr M J H J1 H1 → tu D σ H1) (q2 : b = false → ∀ J1 H1, Wf M J1 H1 → Tr M J H J1 H1 → tw D σ H1) : tIfS c tu tw D σ H :=
  s_if w h (fun e => q1 e.symm) fun e => q2 e.symm
theorem s_forD {k : Nat} {wi : TI} {tb : TS} (ds : List PyData) (I : Nat → L2.St → Hp → Hp → Prop) (w0 : Wf M J0 H0) (t0 : Tr M J0 H0 J H) (hw : EvW K M wi σ J H (· = ds)) (h0 : ∀ J2 H2, Wf M J2 H2 → Tr M J H J2 H2 → I 0 σ J2 H2)
    (hn : ∀ i σ' J' H' T xs, I i σ' J' H' → H' T = none → I i σ' (upd J' T (.tup xs)) (upd H' T (.tup xs)))
    (hs : ∀ i d x σ' J2 J' H', ds[i]? = some d → Wf M J' H' → Tr M J0 H0 J' H' → Sub J J2 → Sub J2 J' → I i σ' J' H' → Da K J' x d → tb { D with nx := Nxt M J0 H0 J2 (I (i + 1)), ct := Nxt M J0 H0 J2 (I (i + 1)), bk := D.nx } (σ'.set k (some x)) H')
    (hd : ∀ σ' J' H', Wf M J' H' → Tr M J0 H0 J' H' → Sub J J' → I ds.length σ' J' H' → D.nx σ' H') : tFor wi (gName k) tb D σ H :=
  s_for (Pw := (· = ds)) (fun _ => I) w0 t0 hw (fun _ J2 H2 _ => h0 J2 H2) (fun _ => hn) (fun ds' i d x σ' J2 J' H' e hdi => hs i d x σ' J2 J' H' (by rw [← e]; exact hdi)) fun ds' σ' J' H' e w t s h => hd σ' J' H' w t s (by rw [e] at h; exact h)
theorem s_next (q : D.nx σ H) : tNext D σ H := q
end
/-- a row of numbers -/
def oD (xs : List Int) : List PyData := xs.map .int
theorem oD_len (xs : List Int) : (oD xs).length = xs.length := by unfold oD; simp
theorem oD_at {xs : List Int} {n : Nat} {d : PyData} (h : (oD xs)[n]? = some d) : ∃ x, xs[n]? = some x ∧ d = .int x := by
  unfold oD at h
  rw [List.getElem?_map] at h
  cases e : xs[n]? with
  | none => rw [e] at h; cases h
  | some x => rw [e] at h; exact ⟨x, rfl, (Option.some.inj h).symm⟩
theorem oD_app (xs ys : List Int) : oD xs ++ oD ys = oD (xs ++ ys) := by unfold oD; simp
theorem oD_rev (xs : List Int) : (oD xs).reverse = oD xs.reverse := by unfold oD; simp
theorem oD_inj {xs ys : List Int} (h : oD xs = oD ys) : xs = ys := by
  induction xs generalizing ys with
  | nil => cases ys with
    | nil => rfl
    | cons _ _ => cases h
  | cons x xs ih => cases ys with
    | nil => cases h
    | cons y ys =>
      have h' : PyData.int x :: oD xs = PyData.int y :: oD ys := h
      obtain ⟨e1, e2⟩ := List.cons.inj h'
      cases e1
      rw [ih e2]
/-- xs[lo:hi] -/
def cutA {α : Type} (xs : List α) (lo hi : Option Int) : List α := (xs.drop (HT.sIx xs.length 0 lo)).take (HT.sIx xs.length xs.length hi - HT.sIx xs.length 0 lo)
theorem cut_map {α : Type} (f : α → PyData) (xs : List α) (lo hi : Option Int) : cut (xs.map f) lo hi = (cutA xs lo hi).map f := by
  unfold cut cutA
  rw [List.length_map, List.map_take, List.map_drop]
theorem cut_oD (xs : List Int) (lo hi : Option Int) : cut (oD xs) lo hi = oD (cutA xs lo hi) := cut_map _ xs lo hi
theorem cutA_nat {α : Type} (xs : List α) (a b : Nat) : cutA xs (some (a : Int)) (some (b : Int)) = (xs.drop a).take (b - a) := by
  unfold cutA
  rw [HT.sIx_nat, HT.sIx_nat]
  rcases Nat.le_total a xs.length with h | h
  · rw [Nat.min_eq_left h]
    rcases Nat.le_total b xs.length with h2 | h2
    · rw [Nat.min_eq_left h2]
    · rw [Nat.min_eq_right h2, List.take_of_length_le (by rw [List.length_drop]; omega), List.take_of_length_le (by rw [List.length_drop]; omega)]
  · rw [Nat.min_eq_right h, List.drop_of_length_le (Nat.le_refl _), List.drop_of_length_le h]; simp
theorem cutA_to {α : Type} (xs : List α) (b : Nat) : cutA xs none (some (b : Int)) = xs.take b := by
  unfold cutA
  rw [HT.sIx_none, HT.sIx_nat, List.drop_zero, Nat.sub_zero]
  rcases Nat.le_total b xs.length with h | h
  · rw [Nat.min_eq_left h]
  · rw [Nat.min_eq_right h, List.take_of_length_le h, List.take_length]
theorem cutA_from {α : Type} (xs : List α) (a : Nat) : cutA xs (some (a : Int)) none = xs.drop a := by
  unfold cutA
  rw [HT.sIx_nat, HT.sIx_none]
  rcases Nat.le_total a xs.length with h | h
  · rw [Nat.min_eq_left h, List.take_of_length_le (by rw [List.length_drop]; exact Nat.le_refl _)]
  · rw [Nat.min_eq_right h, List.drop_of_length_le (Nat.le_refl _), List.drop_of_length_le h]; simp
theorem ints_shaped : ∀ xs : List Int, PyData.canLayAll0 (oD xs) = true
  | [] => by simp [oD, PyData.canLayAll0]
  | x :: xs => by
    have h := ints_shaped xs
    unfold oD at h ⊢
    simp [PyData.canLayAll0, PyData.canLay0, h]
theorem ints_depth : ∀ xs : List Int, PyData.depthAll (oD xs) = 0
  | [] => by simp [oD, PyData.depthAll]
  | x :: xs => by
    have h := ints_depth xs
    unfold oD at h ⊢
    simp [PyData.depthAll, PyData.depth, h]
theorem sh_int (i : Int) : SeqAt.shaped (.int i) = true := by simp [SeqAt.shaped, PyData.canLay0, PyData.depth]
theorem sh_list (xs : List Int) : SeqAt.shaped (.list (oD xs)) = true := by simp [SeqAt.shaped, PyData.canLay0, PyData.depth, ints_shaped, ints_depth]
theorem sh_tup (xs : List Int) : SeqAt.shaped (.tuple (oD xs)) = true := by simp [SeqAt.shaped, PyData.canLay0, PyData.depth, ints_shaped, ints_depth]
theorem eqv_int (i j : Int) : PyData.eqv (.int i) (.int j) = decide (i = j) := by
  unfold PyData.eqv
  by_cases h : i = j
  · simp [h]
  · simp [h]
theorem eqvAll_ints : ∀ xs ys : List Int, PyData.eqvAll (oD xs) (oD ys) = decide (xs = ys)
  | [], [] => by simp [oD, PyData.eqvAll]
  | [], _ :: _ => by simp [oD, PyData.eqvAll]
  | _ :: _, [] => by simp [oD, PyData.eqvAll]
  | x :: xs, y :: ys => by
    have h := eqvAll_ints xs ys
    unfold oD at h ⊢
    simp only [List.map_cons, PyData.eqvAll, h, eqv_int]
    by_cases h1 : x = y <;> by_cases h2 : xs = ys <;> simp [h1, h2]
theorem eqv_list (xs ys : List Int) : PyData.eqv (.list (oD xs)) (.list (oD ys)) = decide (xs = ys) := by
  unfold PyData.eqv
  exact eqvAll_ints xs ys
theorem eqv_tup (xs ys : List Int) : PyData.eqv (.tuple (oD xs)) (.tuple (oD ys)) = decide (xs = ys) := by
  unfold PyData.eqv
  exact eqvAll_ints xs ys
theorem log2_le {n k : Nat} (h : n < 2 ^ (k + 1)) : n.log2 ≤ k := by
  by_cases z : n = 0
  · subst z; simp
  · exact Nat.le_of_lt_succ ((Nat.log2_lt z).mpr h)
theorem cmul_small {i j : Int} (h1 : i.natAbs < 2 ^ 64) (h2 : j.natAbs < 2 ^ 64) : CMulW i j := by
  have a := log2_le (k := 63) h1
  have b := log2_le (k := 63) h2
  show i.natAbs.log2 + j.natAbs.log2 < 1000000
  omega
theorem cdiv_small {i j : Int} (h1 : 0 < j) (h2 : j < 2 ^ 64) : CDivW i j := ⟨h1, Nat.lt_of_le_of_lt (log2_le (k := 63) (by omega)) (by decide)⟩
end DL

/-! Where a law's draws come from: a list of a list of numbers and a number, which changes with each draw. -/
namespace DL
open PySem PySem.Spec
open PyProof.Rows L2
/-- h: the list; g: the list of great numbers within it -/
def drOk (h g : Addr) (H : Hp) : Prop := ∃ (cs : List Int) (n : Int), H h = some (.lst [.ref g, .int n]) ∧ H g = some (.lst (cs.map V.int)) ∧ (∀ c ∈ cs, 0 ≤ c) ∧ cs.length ≤ 63 ∧ 0 ≤ n ∧ n < 2147483647
structure HasDr (M : Md) (h g : Addr) : Prop where
  ne : h ≠ g
  fh : M.fp h
  fg : M.fp g
  ok : ∀ H, M.inv H → drOk h g H
  put : ∀ H H', M.inv H → (∀ a, M.fp a → a ≠ h → a ≠ g → H' a = H a) → (∀ a o, H a = some o → ¬ Mu o → H' a = some o) → drOk h g H' → M.inv H'
/-- nothing but these two changes -/
def Md.draw (h g : Addr) : Md := ⟨fun a => a = h ∨ a = g, drOk h g, false, fun H H' e _ ⟨cs, n, h1, h2, h3⟩ => ⟨cs, n, by rw [e h (.inl rfl)]; exact h1, by rw [e g (.inr rfl)]; exact h2, h3⟩, fun H ⟨cs, n, h1, h2, _⟩ a e => by
  rcases e with e | e
  · rw [e]; exact ⟨_, h1, (fun _ _ z => by cases z)⟩
  · rw [e]; exact ⟨_, h2, (fun _ _ z => by cases z)⟩⟩
theorem Md.draw_has {h g : Addr} (ne : h ≠ g) : HasDr (Md.draw h g) h g := ⟨ne, .inl rfl, .inr rfl, fun _ x => x, fun _ _ _ _ _ x => x⟩
/-- what a draw below n promises -/
def spDraw : Sp := fun vs H Q _ => ∃ M h g J n, vs = [.ref h, .int n] ∧ HasDr M h g ∧ Wf M J H ∧ 0 < n ∧ n < 2 ^ 64 ∧ ∀ i H', Wf M J H' → Tr M J H J H' → 0 ≤ i → i < n → Q (.int i) H'
section
variable {K : PySem.W.Frag} {M : Md} {h g : Addr} {J H : Hp}
/-- the two are written: nothing else changes but what is new -/
theorem dr_tr (hd : HasDr M h g) (w : Wf M J H) {H' : Hp} (k : ∀ a o, a ≠ h → a ≠ g → H a = some o → H' a = some o) (x : drOk h g H') : Tr M J H J H' := by
  have nj : ∀ {a o}, J a = some o → a ≠ h ∧ a ≠ g := fun {a o} e => ⟨(fun z => by rw [z, (w.out h hd.fh).1] at e; cases e), (fun z => by rw [z, (w.out g hd.fg).1] at e; cases e)⟩
  obtain ⟨cs0, n0, y1, y2, _⟩ := hd.ok H w.inv
  obtain ⟨cs, n, x1, x2, x3⟩ := x
  have nl : ∀ a o, H a = some o → ¬ Mu o → H' a = some o := fun a o e ne => k a o (fun z => by rw [z, y1] at e; exact ne (by rw [← Option.some.inj e]; exact True.intro)) (fun z => by rw [z, y2] at e; exact ne (by rw [← Option.some.inj e]; exact True.intro)) e
  refine ⟨.refl _, fun a o e => k a o (nj e).1 (nj e).2 (w.jh a o e), fun a o nf _ e => k a o (fun z => nf (by rw [z]; exact hd.fh)) (fun z => nf (by rw [z]; exact hd.fg)) e, hd.put H H' w.inv (fun a fa n1 n2 => ?_) nl ⟨cs, n, x1, x2, x3⟩, fun _ _ _ _ z => z, fun a o b e => ?_, fun z => z⟩
  · cases q : H a with
    | none => exact absurd q (w.out a fa).2
    | some o => exact k a o n1 n2 q
  · by_cases n1 : a = h
    · rw [n1]; exact ⟨.lst [.ref g, .int n], (fun _ _ z => by cases z), x1⟩
    by_cases n2 : a = g
    · rw [n2]; exact ⟨.lst (cs.map V.int), (fun _ _ z => by cases z), x2⟩
    exact ⟨o, b, k a o n1 n2 e⟩
/-- h and g as they stand -/
structure DrAt (h g : Addr) (cs : List Int) (n : Int) (H : Hp) : Prop where
  hh : H h = some (.lst [.ref g, .int n])
  hg : H g = some (.lst (cs.map V.int))
  pos : ∀ c ∈ cs, 0 ≤ c
  few : cs.length ≤ 63
  n0 : 0 ≤ n
  n1 : n < 2147483647
theorem DrAt.ok {cs : List Int} {n : Int} (x : DrAt h g cs n H) : drOk h g H := ⟨cs, n, x.hh, x.hg, x.pos, x.few, x.n0, x.n1⟩
theorem drAt_of (x : drOk h g H) : ∃ cs n, DrAt h g cs n H := by
  obtain ⟨cs, n, a, b, c, d, e, f⟩ := x
  exact ⟨cs, n, a, b, c, d, e, f⟩
abbrev tH0 (K : PySem.W.Frag) : TE := tOp (rIx K) (tVar 0) (tC (.int 0))
abbrev tH1 (K : PySem.W.Frag) : TE := tOp (rIx K) (tVar 0) (tC (.int 1))
abbrev rMod : R2 := rI (fun _ j => 0 < j) fun i j => .int (i % j)
abbrev rDiv : R2 := rI CDivW fun i j => .int (i / j)
abbrev rMul : R2 := rI CMulW fun i j => .int (i * j)
/-- a draw, as the laws write it (c: what their numbers are mixed with) -/
def tDraw (K : PySem.W.Frag) (c : Int) : TS :=
  tSeq (tWhile (tAnd (tTest (tOp (rNeD K) (tH0 K) (tLst tNil))) (tTest (tOp (rEqD K) (tOp (rIx K) (tH0 K) (tUn (rU fun i => .int (-i)) (tC (.int 1)))) (tC (.int 0))))) (tDrop (tBM0 K "list" rPop (tH0 K))))
  (tSeq (tIfS (tTest (tOp (rNeD K) (tH0 K) (tLst tNil))) (tSeq (tAsg (tCB rInt1 (tCons (tBM0 K "list" rPop (tH0 K)) tNil)) (gName 2)) (tSeq (tDrop (tBM K "list" rAppend (tH0 K) (tCons (tOp rDiv (tVar 2) (tVar 1)) tNil))) (tRet (tOp rMod (tVar 2) (tVar 1))))) tNext)
  (tSeq (tAsg (tOp rMod (tCB rInt1 (tCons (tOp (rPlus K) (tOp rMul (tH1 K) (tC (.int 48271))) (tC (.int c))) tNil)) (tC (.int 2147483647))) (gSub (tVar 0) (tC (.int 1)) rSetL)) (tRet (tOp rMod (tCB rInt1 (tCons (tOp rDiv (tH1 K) (tC (.int 64))) tNil)) (tVar 1)))))
variable {σ : L2.St} {Q : VK} {cs : List Int} {n : Int}
theorem rd_h0 (hs : σ[0]? = some (some (.ref h))) (x : DrAt h g cs n H) (q : Q (.ref g) H) : tH0 K σ H Q := ⟨_, hs, .inl ⟨h, _, 0, _, rfl, rfl, .of x.hh, rfl, q⟩⟩
theorem rd_h1 (hs : σ[0]? = some (some (.ref h))) (x : DrAt h g cs n H) (q : Q (.int n) H) : tH1 K σ H Q := ⟨_, hs, .inl ⟨h, _, 1, _, rfl, rfl, .of x.hh, rfl, q⟩⟩
theorem DrAt.new {p : Addr} {o : HO} (x : DrAt h g cs n H) (hp : H p = none) : DrAt h g cs n (upd H p o) :=
  ⟨(upd_ne (ne_of_none x.hh hp)).trans x.hh, (upd_ne (ne_of_none x.hg hp)).trans x.hg, x.pos, x.few, x.n0, x.n1⟩
theorem dp_ints {p : Addr} (e : H p = some (.lst (cs.map V.int))) : Dp K H (.ref p) (.list (oD cs)) := by
  refine .lst (.of e) ?_
  clear e
  induction cs with
  | nil => exact .nil
  | cons c cs ih => exact .cons (.int c) ih
theorem rd_full {Qb : Bool → Hp → Prop} (hs : σ[0]? = some (some (.ref h))) (x : DrAt h g cs n H) (q : ∀ p, H p = none → Qb (!decide (cs = [])) (upd H p (.lst []))) : tTest (tOp (rNeD K) (tH0 K) (tLst tNil)) σ H Qb := by
  refine rd_h0 hs x ⟨Nat.zero_le _, fun p hp => ?_⟩
  refine ⟨.list (oD cs), .list (oD []), dp_ints (x.new hp).hg, dp_ints (cs := []) upd_same, sh_list _, sh_list _, _, rfl, ?_⟩
  rw [eqv_list]
  exact q p hp
theorem atI_last {xs : List Int} {c : Int} : atI ((xs ++ [c]).map V.int) (-1) = some (.int c) := by
  unfold atI ixN
  rw [List.length_map, List.length_append, List.length_singleton, if_neg (by omega), if_pos (by omega)]
  have e : (-1 + ((xs.length + 1 : Nat) : Int)).toNat = xs.length := by omega
  rw [e]
  simp
theorem rd_draw (hd : HasDr M h g) (w : Wf M J H) (hn : 0 < n) (hn2 : n < 2 ^ 64) {c : Int} (hc : 0 ≤ c ∧ c < 2 ^ 60) (q : ∀ i H', Wf M J H' → Tr M J H J H' → 0 ≤ i → i < n → Q (.int i) H') :
    tDraw K c { nx := fun _ H' => Q .non H', rt := Q } [some (.ref h), some (.int n), none] H := by
  obtain ⟨cs0, m0, x0⟩ := drAt_of (hd.ok H w.inv)
  have go : ∀ {G : Hp} {cs m}, (∀ a o, a ≠ h → a ≠ g → H a = some o → G a = some o) → DrAt h g cs m G → Tr M J H J G := fun k x => dr_tr hd w k x.ok
  refine ⟨fun m σ G => σ = [some (.ref h), some (.int n), none] ∧ (∀ a o, a ≠ h → a ≠ g → H a = some o → G a = some o) ∧ ∃ cs k, DrAt h g cs k G ∧ cs.length = m, ⟨_, rfl, fun _ _ _ _ e => e, cs0, m0, x0, rfl⟩, ?_⟩
  rintro m σ G ⟨rfl, kp, cs, k, x, rfl⟩
  have kn : ∀ {G : Hp} {p : Addr} {o : HO}, (∀ a o, a ≠ h → a ≠ g → H a = some o → G a = some o) → G p = none → ∀ a u, a ≠ h → a ≠ g → H a = some u → upd G p o a = some u := fun {G p o} kp hp a u n1 n2 e => by
    rw [upd_ne (ne_of_none (kp a u n1 n2 e) hp)]; exact kp a u n1 n2 e
  have kg : ∀ {G : Hp} {o : HO}, (∀ a o, a ≠ h → a ≠ g → H a = some o → G a = some o) → ∀ a u, a ≠ h → a ≠ g → H a = some u → upd G g o a = some u := fun {G o} kp a u n1 n2 e => by
    rw [upd_ne n2]; exact kp a u n1 n2 e
  have kh : ∀ {G : Hp} {o : HO}, (∀ a o, a ≠ h → a ≠ g → H a = some o → G a = some o) → ∀ a u, a ≠ h → a ≠ g → H a = some u → upd G h o a = some u := fun {G o} kp a u n1 n2 e => by
    rw [upd_ne n1]; exact kp a u n1 n2 e
  -- behind the while
  have rest : ∀ {G : Hp} {cs : List Int} {k : Int}, (∀ a o, a ≠ h → a ≠ g → H a = some o → G a = some o) → DrAt h g cs k G →
      tSeq (tIfS (tTest (tOp (rNeD K) (tH0 K) (tLst tNil))) (tSeq (tAsg (tCB rInt1 (tCons (tBM0 K "list" rPop (tH0 K)) tNil)) (gName 2)) (tSeq (tDrop (tBM K "list" rAppend (tH0 K) (tCons (tOp rDiv (tVar 2) (tVar 1)) tNil))) (tRet (tOp rMod (tVar 2) (tVar 1))))) tNext)
        (tSeq (tAsg (tOp rMod (tCB rInt1 (tCons (tOp (rPlus K) (tOp rMul (tH1 K) (tC (.int 48271))) (tC (.int c))) tNil)) (tC (.int 2147483647))) (gSub (tVar 0) (tC (.int 1)) rSetL)) (tRet (tOp rMod (tCB rInt1 (tCons (tOp rDiv (tH1 K) (tC (.int 64))) tNil)) (tVar 1))))
        { nx := fun _ H' => Q .non H', rt := Q } [some (.ref h), some (.int n), none] G := by
    intro G cs k kp x
    refine rd_full rfl x fun p hp => ?_
    have x1 := x.new (o := .lst []) hp
    have kp1 := kn (o := .lst []) kp hp
    by_cases hcs : cs = []
    · rw [decide_eq_true hcs]
      refine rd_h1 rfl x1 ⟨k, 48271, rfl, rfl, cmul_small (by have := x1.n0; have := x1.n1; omega) (by decide), ?_⟩
      refine .inl ⟨_, c, rfl, rfl, .inl ⟨_, rfl, _, 2147483647, rfl, rfl, (by show (0 : Int) < 2147483647; decide), .ref h, rfl, ?_⟩⟩
      refine ⟨h, _, 1, 1, rfl, rfl, x1.hh, rfl, ?_⟩
      have x2 : DrAt h g cs ((k * 48271 + c) % 2147483647) (upd (upd G p (.lst [])) h (.lst [.ref g, .int ((k * 48271 + c) % 2147483647)])) :=
        ⟨upd_same, (upd_ne hd.ne.symm).trans x1.hg, x1.pos, x1.few, by omega, by omega⟩
      have t := go (kh kp1) x2
      refine rd_h1 rfl x2 ⟨_, 64, rfl, rfl, cdiv_small (by decide) (by decide), .inl ⟨_, rfl, .int n, rfl, _, n, rfl, rfl, hn, ?_⟩⟩
      exact q _ _ (t.wf w) t (Int.emod_nonneg _ (by omega)) (Int.emod_lt_of_pos _ hn)
    · rw [decide_eq_false hcs]
      obtain ⟨ds, z, rfl⟩ : ∃ ds z, cs = ds ++ [z] := ⟨cs.dropLast, cs.getLast hcs, (List.dropLast_concat_getLast hcs).symm⟩
      refine rd_h0 rfl x1 ⟨.inl ⟨rfl, _, .of x1.hg⟩, g, _, .int z, rfl, rfl, x1.hg, by simp, ?_⟩
      have z0 : 0 ≤ z := x1.pos z (by simp)
      have x2 : DrAt h g ds k (upd (upd G p (.lst [])) g (.lst (ds.map V.int))) :=
        ⟨(upd_ne hd.ne).trans x1.hh, upd_same, fun y hy => x1.pos y (by simp [hy]), by have := x1.few; rw [List.length_append] at this; omega, x1.n0, x1.n1⟩
      have e1 : ((ds ++ [z]).map V.int).dropLast = ds.map V.int := by rw [List.map_append]; simp
      rw [e1]
      refine .inl ⟨z, rfl, ?_⟩
      refine rd_h0 rfl x2 ⟨.inl ⟨rfl, _, .of x2.hg⟩, _, rfl, _, rfl, z, n, rfl, rfl, cdiv_small hn hn2, g, _, .int (z / n), rfl, rfl, x2.hg, ?_, ?_⟩
      · have := x2.few
        rw [List.length_map]
        exact Nat.lt_of_le_of_lt this (by decide)
      · have x3 : DrAt h g (ds ++ [z / n]) k (upd (upd (upd G p (.lst [])) g (.lst (ds.map V.int))) g (.lst (ds.map V.int ++ [.int (z / n)]))) :=
          ⟨(upd_ne hd.ne).trans x2.hh, by rw [upd_same, List.map_append]; rfl, fun y hy => by
            rcases List.mem_append.mp hy with hy | hy
            · exact x2.pos y hy
            · rw [List.mem_singleton.mp hy]; exact Int.ediv_nonneg z0 (by omega), by have := x1.few; rw [List.length_append] at this ⊢; exact this, x1.n0, x1.n1⟩
        have t := go (kg (kg kp1)) x3
        exact ⟨.int z, rfl, .int n, rfl, z, n, rfl, rfl, hn, q _ _ (t.wf w) t (Int.emod_nonneg _ (by omega)) (Int.emod_lt_of_pos _ hn)⟩
  refine rd_full rfl x fun p hp => ?_
  have x1 := x.new (o := .lst []) hp
  have kp1 := kn (o := .lst []) kp hp
  by_cases hcs : cs = []
  · rw [decide_eq_true hcs]
    exact rest kp1 x1
  · rw [decide_eq_false hcs]
    obtain ⟨ds, z, rfl⟩ : ∃ ds z, cs = ds ++ [z] := ⟨cs.dropLast, cs.getLast hcs, (List.dropLast_concat_getLast hcs).symm⟩
    refine rd_h0 rfl x1 ⟨1, rfl, .inl ⟨g, _, -1, .int z, rfl, rfl, .of x1.hg, atI_last, .int z, .int 0, .int z, .int 0, sh_int z, sh_int 0, _, rfl, ?_⟩⟩
    rw [eqv_int]
    by_cases hz : z = 0
    · rw [decide_eq_true hz]
      have x2 : DrAt h g ds k (upd (upd G p (.lst [])) g (.lst (ds.map V.int))) :=
        ⟨(upd_ne hd.ne).trans x1.hh, upd_same, fun y hy => x1.pos y (by simp [hy]), by have := x1.few; rw [List.length_append] at this; omega, x1.n0, x1.n1⟩
      refine ⟨fun σ' G' => σ' = [some (.ref h), some (.int n), none] ∧ (∀ a o, a ≠ h → a ≠ g → H a = some o → G' a = some o) ∧ ∃ k, DrAt h g ds k G', fun σ' G' ⟨e, b, k', b2⟩ => ⟨ds.length, by rw [List.length_append]; exact Nat.lt_succ_self _, e, b, ds, k', b2, rfl⟩, ?_⟩
      refine rd_h0 rfl x1 ⟨.inl ⟨rfl, _, .of x1.hg⟩, g, _, .int z, rfl, rfl, x1.hg, by simp, rfl, ?_⟩
      have e1 : ((ds ++ [z]).map V.int).dropLast = ds.map V.int := by rw [List.map_append]; simp
      rw [e1]
      exact ⟨kg kp1, k, x2⟩
    · rw [decide_eq_false hz]
      exact rest kp1 x1
end
/-! ### how it is made -/
def absI (i : Int) : Int := if i < 0 then -i else i
theorem absI_pos (i : Int) : 0 ≤ absI i := by unfold absI; split <;> omega
def dAbs : PyData → PyData
  | .int i => .int (absI i)
  | d => d
theorem dAbs_map (ns : List Int) : (oD ns).map dAbs = oD (ns.map absI) := by unfold oD; simp [dAbs, Function.comp_def]
def dBig : PyData → Bool
  | .int i => decide ((10 : Int) ^ 18 ≤ i)
  | _ => false
theorem dBig_filter (ns : List Int) : (oD ns).filter dBig = oD (ns.filter fun i => decide ((10 : Int) ^ 18 ≤ i)) := by
  unfold oD
  rw [List.filter_map]
  rfl
theorem Tr.sql {K : PySem.W.Frag} {J H J1 H1 : Hp} (t : Tr Md.pure J H J1 H1) {a : Addr} {xs : List V} (h : SqL K H a xs) : SqL K H1 a xs := by
  rcases h with (h | ⟨o, h⟩) | h
  · exact .inl (.inl (t.keep _ _ (fun z => z) h))
  · exact .inl (.inr ⟨o, t.keep _ _ (fun z => z) h⟩)
  · exact .inr h
theorem das_intsV {K : PySem.W.Frag} {J : Hp} (ns : List Int) : Das K J (ns.map V.int) (oD ns) := das_ints ns
theorem cutV_ints (ns : List Int) (lo hi : Option Int) : cutV (ns.map V.int) lo hi = (cutA ns lo hi).map V.int := by
  unfold cutV cutA
  rw [List.length_map, List.map_take, List.map_drop]
/-- a part of the script -/
theorem ev_script {K : PySem.W.Frag} {J H : Hp} {σ : L2.St} {i : Nat} {a : Addr} {ns : List Int} {tl th : TO} {lo hi : Option Int} (hs : σ[i]? = some (some (.ref a))) (hS : SqL K H a (ns.map V.int)) (h1 : EvO K Md.pure tl σ J H (· = lo)) (h2 : EvO K Md.pure th σ J H (· = hi)) :
    EvD K Md.pure (tSl (rSlL K) (tVar i) tl th) σ J H (.list (oD (cutA ns lo hi))) := fun J1 H1 w t Q q => ⟨.ref a, hs, h1 J1 H1 w t _ fun lo' J2 H2 w2 t2 e => by
  subst e
  refine h2 J2 H2 w2 (t.trans t2) _ fun hi' J3 H3 w3 t3 e => ?_
  subst e
  refine ⟨a, _, rfl, ((t.trans t2).trans t3).sql hS, fun p hp => ?_⟩
  have t4 := w3.new (o := .lst (cutV (ns.map V.int) lo' hi')) hp
  refine q _ _ _ _ (t4.wf w3) ((t2.trans t3).trans t4) rfl (.lst upd_same ?_)
  rw [cutV_ints]
  exact das_intsV _⟩
/-- the list of draws, as the laws make it -/
def tHeap (K : PySem.W.Frag) (p q m c : Int) : TS :=
  tSeq (tAsg (tLc (iList K (tSl (rSlL K) (tVar 0) tNoPart (tPart (tC (.int 63))))) (gName 4) tYes (tCB rAbs (tCons (tCB rInt1 (tCons (tVar 4) tNil)) tNil)) [4]) (gName 2))
  (tSeq (tAsg (tOp (rPlus K) (tC (.int p)) (tOp rMul (tC (.int q)) (tVar 1))) (gName 3))
  (tSeq (tFor (iList K (tVar 2)) (gName 4) (tAsg (tOp rMod (tCB rInt1 (tCons (tOp (rPlus K) (tOp (rPlus K) (tOp rMul (tVar 3) (tC (.int 48271))) (tOp rMod (tVar 4) (tC (.int m)))) (tC (.int c))) tNil)) (tC (.int 2147483647))) (gName 3)))
  (tRet (tLst (tCons (tRevL K (tLc (iList K (tVar 2)) (gName 4) (tTest (tOp (rI0 fun i j => .bl (decide (j ≤ i))) (tVar 4) (tOp (rI CPow fun i j => .int (i ^ j.toNat)) (tC (.int 10)) (tC (.int 18))))) (tVar 4) [4])) (tCons (tVar 3) tNil))))))
/-- what it promises: nothing that stood has changed, the two lists are new -/
def spHeap (K : PySem.W.Frag) : Sp := fun vs H Q _ => ∃ (a : Addr) (ns : List Int) (b : Int), vs = [.ref a, .int b] ∧ SqL K H a (ns.map V.int) ∧ 0 ≤ b ∧ b < 1000 ∧
  ∀ h g H', (∀ a o, H a = some o → H' a = some o) → H h = none → H g = none → h ≠ g → drOk h g H' → Q (.ref h) H'
end DL

namespace DL
open PySem PySem.Spec
open PyProof.Rows L2
local macro_rules | `(tactic| walk_at "rep") => `(tactic| first | assumption | exact Da.int _ | exact Da.bl _ | exact Da.str _ | exact Da.non | exact Sub.da (by assumption) (by assumption) | exact Sub.da (Tr.jj (by assumption)) (by assumption))
local macro_rules | `(tactic| walk_at "arith") => `(tactic| first | assumption | omega | decide | exact cmul_small (by omega) (by omega) | exact cdiv_small (by omega) (by omega))
local macro_rules | `(tactic| walk_at "shp") => `(tactic| first | exact sh_int _ | exact sh_tup _ | exact sh_list _ | assumption)
local macro_rules | `(tactic| walk_at "od") => `(tactic| first
  | with_reducible exact od_plus
  | with_reducible exact od_sub
  | ((with_reducible refine' od_mul ?h1); walk_at "arith")
  | ((with_reducible refine' od_mod ?h1); walk_at "arith")
  | ((with_reducible refine' od_fdiv ?h1); walk_at "arith")
  | ((with_reducible refine' od_pow ?h1); exact ⟨by decide, by decide, by decide⟩)
  | with_reducible exact od_lt | with_reducible exact od_le | with_reducible exact od_gt | with_reducible exact od_ge
  | ((with_reducible refine' od_plusT ?h1); walk_at "arith")
  | ((with_reducible refine' od_plusL ?h1); walk_at "arith")
  | ((with_reducible refine' od_plusS ?h1); walk_at "arith")
  | with_reducible exact od_isN | with_reducible exact od_notN
  | ((with_reducible refine od_eq ?_ ?_) <;> walk_at "shp")
  | ((with_reducible refine od_ne ?_ ?_) <;> walk_at "shp")
  | ((with_reducible refine od_inL ?_ ?_) <;> walk_at "shp")
  | ((with_reducible refine od_ixL ?_); assumption)
  | ((with_reducible refine od_ixT ?_); assumption))
local macro_rules | `(tactic| walk_at "ea") => `(tactic| first | with_reducible exact ea_nil | ((with_reducible refine' ea_consD ?h1 ?h2); (case h1 => walk_at "ev"); (case h2 => walk_at "ea")))
local macro_rules | `(tactic| walk_at "eo") => `(tactic| first | with_reducible exact eo_none | ((with_reducible refine' eo_at ?h1); (case h1 => walk_at "ev")))
local macro_rules | `(tactic| walk_at "cd") => `(tactic| first
  | with_reducible exact cd_lenL | with_reducible exact cd_lenT | with_reducible exact cd_tupL | with_reducible exact cd_tupT | with_reducible exact cd_lstL | with_reducible exact cd_lstT | with_reducible exact cd_abs | with_reducible exact cd_int)
local macro_rules | `(tactic| walk_at "ev") => `(tactic| first
  | with_reducible exact ev_int | with_reducible exact ev_bl | with_reducible exact ev_str | with_reducible exact ev_non
  | ((with_reducible refine' ev_var ?h1 ?h2); (case h1 => exact rfl); (case h2 => walk_at "rep"))
  | ((with_reducible refine' ev_opD ?h1 ?h2 ?h3); (case h1 => walk_at "ev"); (case h2 => walk_at "ev"); (case h3 => walk_at "od"))
  | ((with_reducible refine' ev_tupD ?h1); (case h1 => walk_at "ea"))
  | ((with_reducible refine' ev_lstD ?h1); (case h1 => walk_at "ea"))
  | ((with_reducible refine' ev_revL ?h1); (case h1 => walk_at "ev"))
  | ((with_reducible refine' ev_slD ?h1 ?h2 ?h3 ?h4); (case h1 => walk_at "ev"); (case h2 => walk_at "eo"); (case h3 => walk_at "eo"); (case h4 => first | with_reducible exact sd_tup | with_reducible exact sd_list))
  | ((with_reducible refine' ev_cbD ?h1 ?h2); (case h1 => walk_at "ea"); (case h2 => walk_at "cd"))
  | ((with_reducible refine' ev_notV ?h1); (case h1 => walk_at "ev"))
  | assumption)
local macro_rules | `(tactic| walk_at "et") => `(tactic| first
  | ((with_reducible refine' et_testD ?h1); (case h1 => walk_at "ev"))
  | ((with_reducible refine' et_BD ?h1); (case h1 => walk_at "ev"))
  | ((with_reducible refine' et_notD ?h1); (case h1 => walk_at "et"))
  | ((with_reducible refine' et_andD ?h1 ?h2); (case h1 => walk_at "et"); (case h2 => intro _; walk_at "et"))
  | ((with_reducible refine' et_orD ?h1 ?h2); (case h1 => walk_at "et"); (case h2 => intro _; walk_at "et"))
  | assumption)

theorem rd_heap {K : PySem.W.Frag} {H : Hp} {Q : VK} {a : Addr} {ns : List Int} {b p q m c : Int} (hS : SqL K H a (ns.map V.int)) (hp : 0 ≤ p ∧ p < 1000000) (hq : 0 ≤ q ∧ q < 1000) (hb : 0 ≤ b ∧ b < 1000) (hm : 0 < m ∧ m < 2 ^ 32) (hc : 0 ≤ c ∧ c < 1000)
    (k : ∀ h g H', (∀ a o, H a = some o → H' a = some o) → H h = none → H g = none → h ≠ g → drOk h g H' → Q (.ref h) H') : tHeap K p q m c { nx := fun _ H' => Q .non H', rt := Q } [some (.ref a), some (.int b), none, none, none] H := by
  have w0 : Wf Md.pure (fun _ => none) H := ⟨(fun _ _ e => by cases e), trivial, nofun, nofun⟩
  have l63 : (cutA ns none (some 63)).length ≤ 63 := by
    have e := cutA_to ns 63
    rw [show ((63 : Nat) : Int) = 63 from rfl] at e
    rw [e, List.length_take]
    omega
  refine s_asgD (K := K) (d := .list (oD ((cutA ns none (some 63)).map absI))) w0 ?_ fun v1 J1 H1 w1 t1 a1 => ?_
  · rw [← dAbs_map]
    refine ev_lcMap (ew_listD (ev_script rfl hS (by walk_at "eo") (by walk_at "eo"))) (by rw [oD_len]; exact Nat.lt_of_le_of_lt l63 (by decide)) (fun x => rfl) fun d x J1 H1 hd w t ax => ?_
    obtain ⟨n, hn⟩ := List.getElem?_of_mem hd
    obtain ⟨i, _, rfl⟩ := oD_at hn
    show EvD K Md.pure _ _ _ _ (.int (absI i))
    unfold absI
    walk_at "ev"
  generalize hcs : (cutA ns none (some 63)).map absI = cs at a1
  have cpos : ∀ x ∈ cs, 0 ≤ x := fun x hx => by
    rw [← hcs] at hx
    obtain ⟨y, _, rfl⟩ := List.mem_map.mp hx
    exact absI_pos y
  have clen : cs.length ≤ 63 := by rw [← hcs, List.length_map]; exact l63
  dsimp only
  refine s_asgI (K := K) w1 (i := p + q * b) ?_ fun J2 H2 w2 t2 => ?_
  · walk_at "ev"
  have a2 := t2.jj.da a1
  dsimp only
  have z1 : 0 ≤ q * b := Int.mul_nonneg hq.1 hb.1
  have z2 : q * b ≤ 1000 * 1000 := Int.mul_le_mul (by omega) (by omega) hb.1 (by decide)
  refine s_forD (K := K) (oD cs) (fun i σ' J' H' => ∃ n o, σ' = [some (.ref a), some (.int b), some v1, some (.int n), o] ∧ 0 ≤ n ∧ n < 2147483647) w0 (t1.trans t2) ?_ (fun J2 H2 _ _ => ⟨p + q * b, none, rfl, by omega, by omega⟩) (fun i σ' J' H' T xs h _ => h) ?_ ?_
  · exact ew_listD (by walk_at "ev")
  · rintro i d x σ' J2 J' H' hdi w' t' s1 s2 ⟨n, o, rfl, n0, n1⟩ ax
    obtain ⟨y, hy, rfl⟩ := oD_at hdi
    rw [da_int ax]
    have m0 : 0 ≤ y % m := Int.emod_nonneg _ (by omega)
    have m1 : y % m < m := Int.emod_lt_of_pos _ (by omega)
    refine s_asgI (K := K) w' (i := (n * 48271 + y % m + c) % 2147483647) ?_ fun J1 H1 w1 t1 => ⟨J1, w1, t'.trans t1, s2.trans t1.jj, (n * 48271 + y % m + c) % 2147483647, some (.int y), rfl, by omega, by omega⟩
    walk_at "ev"
  rintro σ' J' H' w' t' s1 ⟨n, o, rfl, n0, n1⟩
  have a3 := s1.da a2
  dsimp only
  refine s_retD (K := K) (d := .list [.list (oD (cs.filter fun i => decide ((10 : Int) ^ 18 ≤ i)).reverse), .int n]) w' ?_ fun v J3 H3 w3 t3 a3 => ?_
  · refine ev_lstD (ea_consD ?_ (by walk_at "ea"))
    rw [← oD_rev, ← dBig_filter]
    refine ev_revL ?_
    have e : (oD cs).filter dBig = ((oD cs).filter dBig).map id := by simp
    rw [e]
    refine ev_lcFilter (ew_listD (by walk_at "ev")) (by rw [oD_len]; exact Nat.lt_of_le_of_lt clen (by decide)) (fun x => rfl) (fun d x J1 H1 hd w t ax => ?_) fun d x J1 H1 hd _ w t ax => ?_
    · obtain ⟨k, hk⟩ := List.getElem?_of_mem hd
      obtain ⟨i, _, rfl⟩ := oD_at hk
      show EvT Md.pure _ _ _ _ (· = decide ((10 : Int) ^ (18 : Int).toNat ≤ i))
      walk_at "et"
    · show EvD K Md.pure _ _ _ _ d
      walk_at "ev"
  have tt := t'.trans t3
  obtain ⟨h, xs, rfl, jh, ha⟩ := da_lst a3
  cases ha with
  | cons b1 b2 =>
    obtain ⟨u, rfl, b3⟩ := das_one b2
    obtain ⟨g, ys, rfl, jg, hb⟩ := da_lst b1
    have eu := da_int b3
    subst eu
    have ey := das_ints_eq (ns := (cs.filter fun i => decide ((10 : Int) ^ 18 ≤ i)).reverse) hb
    subst ey
    have fresh : ∀ {x o}, J3 x = some o → H x = none := fun {x o} e => by
      cases q : H x with
      | none => rfl
      | some u => rw [tt.frp x (by rw [q]; exact nofun) rfl] at e; cases e
    refine k h g H3 (fun a o e => tt.keep a o (fun z => z) e) (fresh jh) (fresh jg) (fun e => ?_) ⟨_, n, tt.jh _ _ jh, tt.jh _ _ jg, fun x hx => ?_, ?_, n0, n1⟩
    · rw [e, jg] at jh
      have z := HO.lst.inj (Option.some.inj jh)
      cases hl : (cs.filter fun i => decide ((10 : Int) ^ 18 ≤ i)).reverse with
      | nil => rw [hl] at z; cases z
      | cons i is => rw [hl] at z; cases z
    · exact cpos x (List.mem_filter.mp (List.mem_reverse.mp hx)).1
    · rw [List.length_reverse]
      exact Nat.le_trans (List.length_filter_le _ _) clen
end DL

namespace DL
open PySem PySem.Spec
open PyProof.Rows L2
local macro_rules | `(tactic| walk_at "rep") => `(tactic| first | assumption | exact Da.int _ | exact Da.bl _ | exact Da.str _ | exact Da.non | exact Sub.da (by assumption) (by assumption) | exact Sub.da (Tr.jj (by assumption)) (by assumption))
local macro_rules | `(tactic| walk_at "arith") => `(tactic| first | assumption | omega | decide | exact cmul_small (by omega) (by omega) | exact cdiv_small (by omega) (by omega))
local macro_rules | `(tactic| walk_at "shp") => `(tactic| first | exact sh_int _ | exact sh_tup _ | exact sh_list _ | assumption)
local macro_rules | `(tactic| walk_at "od") => `(tactic| first
  | with_reducible exact od_plus
  | with_reducible exact od_sub
  | ((with_reducible refine' od_mul ?h1); walk_at "arith")
  | ((with_reducible refine' od_mod ?h1); walk_at "arith")
  | ((with_reducible refine' od_fdiv ?h1); walk_at "arith")
  | ((with_reducible refine' od_pow ?h1); exact ⟨by decide, by decide, by decide⟩)
  | with_reducible exact od_lt | with_reducible exact od_le | with_reducible exact od_gt | with_reducible exact od_ge
  | ((with_reducible refine' od_plusT ?h1); walk_at "arith")
  | ((with_reducible refine' od_plusL ?h1); walk_at "arith")
  | ((with_reducible refine' od_plusS ?h1); walk_at "arith")
  | with_reducible exact od_isN | with_reducible exact od_notN
  | ((with_reducible refine od_eq ?_ ?_) <;> walk_at "shp")
  | ((with_reducible refine od_ne ?_ ?_) <;> walk_at "shp")
  | ((with_reducible refine od_inL ?_ ?_) <;> walk_at "shp")
  | ((with_reducible refine od_ixL ?_); assumption)
  | ((with_reducible refine od_ixT ?_); assumption))
local macro_rules | `(tactic| walk_at "ea") => `(tactic| first | with_reducible exact ea_nil | ((with_reducible refine' ea_consD ?h1 ?h2); (case h1 => walk_at "ev"); (case h2 => walk_at "ea")))
local macro_rules | `(tactic| walk_at "eo") => `(tactic| first | with_reducible exact eo_none | ((with_reducible refine' eo_at ?h1); (case h1 => walk_at "ev")))
local macro_rules | `(tactic| walk_at "cd") => `(tactic| first
  | with_reducible exact cd_lenL | with_reducible exact cd_lenT | with_reducible exact cd_tupL | with_reducible exact cd_tupT | with_reducible exact cd_lstL | with_reducible exact cd_lstT | with_reducible exact cd_abs | with_reducible exact cd_int)
local macro_rules | `(tactic| walk_at "ev") => `(tactic| first
  | with_reducible exact ev_int | with_reducible exact ev_bl | with_reducible exact ev_str | with_reducible exact ev_non
  | ((with_reducible refine' ev_var ?h1 ?h2); (case h1 => exact rfl); (case h2 => walk_at "rep"))
  | ((with_reducible refine' ev_opD ?h1 ?h2 ?h3); (case h1 => walk_at "ev"); (case h2 => walk_at "ev"); (case h3 => walk_at "od"))
  | ((with_reducible refine' ev_tupD ?h1); (case h1 => walk_at "ea"))
  | ((with_reducible refine' ev_lstD ?h1); (case h1 => walk_at "ea"))
  | ((with_reducible refine' ev_revL ?h1); (case h1 => walk_at "ev"))
  | ((with_reducible refine' ev_slD ?h1 ?h2 ?h3 ?h4); (case h1 => walk_at "ev"); (case h2 => walk_at "eo"); (case h3 => walk_at "eo"); (case h4 => first | with_reducible exact sd_tup | with_reducible exact sd_list))
  | ((with_reducible refine' ev_cbD ?h1 ?h2); (case h1 => walk_at "ea"); (case h2 => walk_at "cd"))
  | ((with_reducible refine' ev_notV ?h1); (case h1 => walk_at "ev"))
  | assumption)
local macro_rules | `(tactic| walk_at "et") => `(tactic| first
  | ((with_reducible refine' et_testD ?h1); (case h1 => walk_at "ev"))
  | ((with_reducible refine' et_BD ?h1); (case h1 => walk_at "ev"))
  | ((with_reducible refine' et_notD ?h1); (case h1 => walk_at "et"))
  | ((with_reducible refine' et_andD ?h1 ?h2); (case h1 => walk_at "et"); (case h2 => intro _; walk_at "et"))
  | ((with_reducible refine' et_orD ?h1 ?h2); (case h1 => walk_at "et"); (case h2 => intro _; walk_at "et"))
  | assumption)
/-- what a law's helper promises whose first argument is the list of draws -/
def spH (K : PySem.W.Frag) (pre : List PyData → Prop) (post : List PyData → PyData → Prop) : Sp := fun vs H Q _ => ∃ M h g J us ds, vs = .ref h :: us ∧ HasDr M h g ∧ Wf M J H ∧ Das K J us ds ∧ pre ds ∧
  ∀ v d J' H', Wf M J' H' → Tr M J H J' H' → post ds d → Da K J' v d → Q v H'
theorem ev_callH {K : PySem.W.Frag} {M : Md} {σ : L2.St} {J H : Hp} {h g : Addr} {i : Nat} {ta : TA} {E : XK} {pre : List PyData → Prop} {post : List PyData → PyData → Prop} {Pa : List PyData → Prop} {P : PyData → Prop} (hd : HasDr M h g) (hs : σ[i]? = some (some (.ref h))) (ha : EvA K M ta σ J H Pa)
    (hp : ∀ ds, Pa ds → pre ds ∧ ∀ d, post ds d → P d) : EvP K M (tCall (spH K pre post) [] E (tCons (tVar i) ta)) σ J H P := fun J1 H1 w t Q q =>
  ⟨.ref h, hs, ha J1 H1 w t _ fun vs ds J2 H2 w2 t2 p a => by
    show spH K pre post ((V.ref h :: vs) ++ []) H2 Q E
    rw [List.append_nil]
    exact ⟨M, h, g, J2, vs, ds, rfl, hd, w2, a, (hp ds p).1, fun v d J3 H3 w3 t3 pd ad => q v d J3 H3 w3 (t2.trans t3) ((hp ds p).2 d pd) ad⟩⟩
def preDraw (ds : List PyData) : Prop := ∃ n, ds = [.int n] ∧ 0 < n ∧ n < 2 ^ 64
def postDraw (ds : List PyData) (d : PyData) : Prop := ∀ n, ds = [.int n] → ∃ i, d = .int i ∧ 0 ≤ i ∧ i < n
def spDr (K : PySem.W.Frag) : Sp := spH K preDraw postDraw
theorem rd_drawH {K : PySem.W.Frag} {vs : List V} {H : Hp} {Q : VK} {E : XK} {c : Int} (hc : 0 ≤ c ∧ c < 2 ^ 60) (h : spDr K vs H Q E) : tDraw K c { nx := fun _ H' => Q .non H', rt := Q } (vs.map some ++ [none]) H := by
  obtain ⟨M, h, g, J, us, ds, rfl, hd, w, a, ⟨n, rfl, n0, n1⟩, q⟩ := h
  obtain ⟨v, rfl, av⟩ := das_one a
  rw [da_int av]
  exact rd_draw hd w n0 n1 hc fun i H' w' t i0 i1 => q _ (.int i) J H' w' t (fun m e => by cases e; exact ⟨i, rfl, i0, i1⟩) (.int i)
theorem spH_len {K : PySem.W.Frag} {pre : List PyData → Prop} {post : List PyData → PyData → Prop} {vs : List V} {H : Hp} {Q : VK} {E : XK} (h : spH K pre post vs H Q E) : ∃ ds, pre ds ∧ vs.length = ds.length + 1 := by
  obtain ⟨M, h, g, J, us, ds, rfl, hd, w, a, p, q⟩ := h
  exact ⟨ds, p, by rw [List.length_cons, das_len a]⟩
/-- a draw below a number that is reckoned -/
theorem ev_draw {K : PySem.W.Frag} {M : Md} {σ : L2.St} {J H : Hp} {h g : Addr} {i : Nat} {te : TE} {E : XK} {n : Int} (hd : HasDr M h g) (hs : σ[i]? = some (some (.ref h))) (he : EvD K M te σ J H (.int n)) (n0 : 0 < n ∧ n < 2 ^ 64) :
    EvP K M (tCall (spDr K) [] E (tCons (tVar i) (tCons te tNil))) σ J H fun d => ∃ i, d = .int i ∧ 0 ≤ i ∧ i < n :=
  ev_callH hd hs (ea_consD he ea_nil) fun ds e => by rw [e]; exact ⟨⟨n, rfl, n0⟩, fun d p => p n rfl⟩
theorem atI_mem {ds : List PyData} {i : Int} (h0 : 0 ≤ i) (h1 : i < ds.length) : ∃ d, atI ds i = some d ∧ d ∈ ds := by
  have hk : i.toNat < ds.length := by omega
  refine ⟨ds[i.toNat], ?_, List.getElem_mem hk⟩
  unfold atI ixN
  rw [if_pos h0, if_pos h1]
  exact List.getElem?_eq_getElem hk
/-- one of some things, a list -/
def prePick (ds : List PyData) : Prop := ∃ xs, ds = [.list xs] ∧ xs ≠ [] ∧ xs.length < 2 ^ 62
def postPick (ds : List PyData) (d : PyData) : Prop := ∀ xs, ds = [.list xs] → d ∈ xs
def spPick (K : PySem.W.Frag) : Sp := spH K prePick postPick
def tPick (K : PySem.W.Frag) : TS := tRet (tOp (rIx K) (tVar 1) (tCall (spDr K) [] E0 (tCons (tVar 0) (tCons (tCB (rLen K) (tCons (tVar 1) tNil)) tNil))))
theorem rd_pick {K : PySem.W.Frag} {vs : List V} {H : Hp} {Q : VK} {E : XK} (h : spPick K vs H Q E) : tPick K { nx := fun _ H' => Q .non H', rt := Q } (vs.map some) H := by
  obtain ⟨M, h, g, J, us, ds, rfl, hd, w, a, ⟨xs, rfl, x0, x1⟩, q⟩ := h
  obtain ⟨v, rfl, av⟩ := das_one a
  have l0 : 0 < xs.length := List.length_pos_iff.mpr x0
  refine s_ret (K := K) (P := (· ∈ xs)) w ?_ fun v d J1 H1 w1 t1 p ad => q v d J1 H1 w1 t1 (fun ys e => by cases e; exact p) ad
  refine ev_op (Px := (· = .list xs)) (Py := fun d => ∃ i, d = .int i ∧ 0 ≤ i ∧ i < (xs.length : Int)) (by walk_at "ev") (ev_draw hd rfl (by walk_at "ev") (by omega)) ?_
  rintro dx dy rfl ⟨i, rfl, i0, i1⟩
  obtain ⟨d, e, m⟩ := atI_mem i0 i1
  intro x y J H w ax ay Q q
  exact od_ixL e x y J H w ax ay Q fun v d' J2 H2 w2 t2 e' a => q v d' J2 H2 w2 t2 (by rw [e']; exact m) a
theorem ev_pick {K : PySem.W.Frag} {M : Md} {σ : L2.St} {J H : Hp} {h g : Addr} {i : Nat} {te : TE} {E : XK} {Pa : PyData → Prop} {P : PyData → Prop} (hd : HasDr M h g) (hs : σ[i]? = some (some (.ref h))) (he : EvP K M te σ J H Pa) (hp : ∀ d, Pa d → ∃ xs, d = .list xs ∧ xs ≠ [] ∧ xs.length < 2 ^ 62 ∧ ∀ x ∈ xs, P x) :
    EvP K M (tCall (spPick K) [] E (tCons (tVar i) (tCons te tNil))) σ J H P :=
  ev_callH hd hs (ea_cons he ea_nil) fun ds ⟨d, r, e, pd, pr⟩ => by
    obtain ⟨xs, rfl, x0, x1, x2⟩ := hp d pd
    rw [e, pr]
    exact ⟨⟨xs, rfl, x0, x1⟩, fun d p => x2 d (p xs rfl)⟩
end DL

/-! What k06 and k07 wanted besides, for every law. -/
namespace DL
open PySem PySem.Spec
open PyProof.Rows
open L2
theorem cutI {xs : List Int} {i j : Int} {a b : Nat} (h1 : i = a) (h2 : j = b) : cutA xs (some i) (some j) = (xs.drop a).take (b - a) := by rw [h1, h2]; exact cutA_nat xs a b
theorem ev_eq {K : PySem.W.Frag} {M : Md} {te : TE} {σ : L2.St} {J H : Hp} {d d' : PyData} (h : EvD K M te σ J H d) (e : d = d') : EvD K M te σ J H d' := by rw [← e]; exact h
theorem et_eq {M : Md} {tt : TT} {σ : L2.St} {J H : Hp} {b b' : Bool} (h : EvT M tt σ J H (· = b)) (e : b = b') : EvT M tt σ J H (· = b') := by rw [← e]; exact h

theorem ev_xf {K : PySem.W.Frag} {M : Md} {σ : L2.St} {J H : Hp} {a dx C : Addr} {i : Nat} {f : Str} {v : V} {d : PyData} (hs : σ[i]? = some (some (.ref a))) (hx : H dx = some (.xd [(f, v)])) (nf : ¬ M.fp dx) (h : Da K J v d) :
    EvD K M (tXf a (.ref C) (some dx) C f (tVar i)) σ J H d := fun J1 H1 w t Q q => ⟨.ref a, hs, rfl, rfl, dx, _, v, rfl, t.keep dx _ nf hx, by simp [List.lookup], q v d J1 H1 w w.tr rfl (t.jj.da h)⟩

/-! ### calls with keywords that stand in the sequence of the parameters -/
theorem fun_kbN {K : PySem.W.Frag} {x qual : Str} {params : Arguments} {body : List Stmt} {scope : Scope} {f : Addr} {fd : FuncData} {ps : List Str} (F : FunD K x qual params body scope [] [] f fd) (n : Nat) (ks : List Str)
    (h : ∀ (kV doc pm : Value) (an : Option Addr) (cdv ct : Value) (us ws : List Value), us.length = n → ws.length = ks.length → bindArgs (PySem.W.fnOf x qual params body scope .none kV doc pm an cdv ct) ⟨us, ks.zip ws⟩ = pure (ps.zip (us ++ ws))) :
    KBn K fd ps n ks (fun us ws => us ++ ws) (fun vs zs => vs ++ zs) := by
  obtain ⟨_, _, _, k1, d1, m1, a1, c1, t1, _, e, _, _, dfl, _⟩ := F.ex
  subst e
  match dfl with
  | .inl ⟨_, none_⟩ => subst none_; exact ⟨fun s us ws _ l1 l2 => .of_eq (h k1 d1 m1 a1 c1 t1 us ws l1 l2), fun r1 r2 => r1.append r2⟩
  | .inr ⟨some_, _⟩ => exact absurd rfl some_
structure CaK (P : Program) (w : World) (K : PySem.W.Frag) (mg : Str → Option Value) (base : Heap) (CX : CXT) (k : Nat) (x : Str) (ps : List Str) (n : Nat) (ks : List Str) (sp : Sp) : Prop where
  has : ∃ f fd, FnOk P w K mg base CX k f fd ps sp ∧ mg x = some (.ref f) ∧ PySem.W.keepIn K (.ref f) = true ∧ KBn K fd ps n ks (fun us ws => us ++ ws) (fun vs zs => vs ++ zs)
theorem xCallK0 {X : Cx} {CX : CXT} {k : Nat} {ps ks : List Str} {sp : Sp} {E : XK} {kws : List Keyword} {p pos : Pos} {x : Str} {tk : TA} (C : CaK X.prog X.w X.K X.mg X.base CX k x ps 0 ks sp) (hr : Room k X.A) (hx : Passes CX X E) (hkw : PK X kws tk) (hg : Gl X x := by rfl) (hdb : (x == ("__debug__" : Str)) = false := by decide)
    (hall : (backToKw pos (keywordEach kws X.env)).all (·.1.isSome) = true := by rfl) (hks : (backToKw pos (keywordEach kws X.env)).filterMap (·.1) = ks := by rfl) (hpl : ((backTo pos (starEach [] X.env)).any (·.1) || (backToKw pos (keywordEach kws X.env)).any (·.1.isNone)) = false := by rfl) :
    PE X (.Call (.Name x p) [] kws pos) (fun σ H Q => tk σ H fun zs H2 => zs.length = ks.length ∧ sp zs H2 Q E) := by
  obtain ⟨f, fd, F, hm, hk, hb⟩ := C.has
  refine ⟨fun pins s σ H Q I h => wpAny_Call_Name_kw (ld_glob I hg hm ?_ hdb)⟩
  refine PySem.W.callWith_KW0 (h₀ := X.base) I.ok.mod.kin hk hall (thn (hkw.run pos pins s σ H _ I h) fun ws s2 ⟨zs, H2, I2, rz, l1, q2⟩ => ⟨I2.kIn, ?_⟩) hpl
  rw [hks]
  exact run_fnN (us := []) (vs := []) F hr hb hx I2 .nil rz rfl l1 q2
theorem ev_callK0 {K : PySem.W.Frag} {M : Md} {σ : L2.St} {J H : Hp} {sp : Sp} {E : XK} {m : Nat} {ta : TA} {ds : List PyData} {P : PyData → Prop} (h : EvA K M ta σ J H (· = ds)) (hm : ds.length = m) (ho : SpD K M sp ds P E) : EvP K M (fun σ H Q => ta σ H fun zs H2 => zs.length = m ∧ sp zs H2 Q E) σ J H P := fun J1 H1 w t Q q =>
  h J1 H1 w t _ fun vs ds' J2 H2 w2 t2 e a => by
    subst e
    exact ⟨by rw [das_len a]; exact hm, ho vs J2 H2 w2 a Q fun v d J3 H3 w3 t3 p a3 => q v d J3 H3 w3 (t2.trans t3) p a3⟩
theorem ev_neg {K : PySem.W.Frag} {M : Md} {σ : L2.St} {J H : Hp} {te : TE} {i : Int} (h : EvD K M te σ J H (.int i)) : EvD K M (tUn (rU fun i => .int (-i)) te) σ J H (.int (-i)) :=
  ev_un h fun dx e x J H w a Q q => by
    subst e
    exact ⟨i, da_int a, q _ _ J H w w.tr rfl (.int _)⟩
theorem ev_ixC {K : PySem.W.Frag} {M : Md} {σ : L2.St} {J H : Hp} {te : TE} {k : Nat} {p : Addr} {ys : List V} {i : Int} {v : V} {d : PyData} (hs : σ[k]? = some (some (.ref p))) (hH : H p = some (.lst ys)) (nf : ¬ M.fp p) (he : EvD K M te σ J H (.int i)) (hv : atI ys i = some v) (ha : ∀ J, Da K J v d) :
    EvD K M (tOp (rIx K) (tVar k) te) σ J H d := fun J1 H1 w t Q q => ⟨.ref p, hs, he J1 H1 w t _ fun x d' J2 H2 w2 t2 e a => by
      subst e
      exact .inl ⟨p, ys, i, v, rfl, da_int a, .of ((t.trans t2).keep p _ nf hH), hv, q v d J2 H2 w2 t2 rfl (ha _)⟩⟩
theorem od_neS {K : PySem.W.Frag} {M : Md} {x y : Str} : OpD K M rNe (.str x) (.str y) (· = .bool (!decide (x = y))) := fun a b J H w ax ay Q q => by
  rw [da_str ax, da_str ay]
  have e : decide (V.str x = V.str y) = decide (x = y) := decide_eq_decide.mpr ⟨fun e => V.str.inj e, fun e => by rw [e]⟩
  refine ⟨rfl, ?_⟩
  rw [e]
  exact q _ _ J H w w.tr rfl (.bl _)
theorem od_eqS {K : PySem.W.Frag} {M : Md} {x y : Str} : OpD K M rEq (.str x) (.str y) (· = .bool (decide (x = y))) := fun a b J H w ax ay Q q => by
  rw [da_str ax, da_str ay]
  have e : decide (V.str x = V.str y) = decide (x = y) := decide_eq_decide.mpr ⟨fun e => V.str.inj e, fun e => by rw [e]⟩
  refine ⟨rfl, ?_⟩
  rw [e]
  exact q _ _ J H w w.tr rfl (.bl _)

theorem any_ints (xs : List Int) (c : Int) : ((oD xs).any fun z => PyData.eqv z (.int c)) = decide (c ∈ xs) := by
  induction xs with
  | nil => rfl
  | cons x xs ih =>
    show (PyData.eqv (.int x) (.int c) || (oD xs).any fun z => PyData.eqv z (.int c)) = _
    rw [ih, eqv_int, Bool.eq_iff_iff]
    simp only [Bool.or_eq_true, decide_eq_true_eq, List.mem_cons]
    exact ⟨fun h => h.imp Eq.symm id, fun h => h.imp Eq.symm id⟩
theorem atI_nat {α : Type} {xs : List α} {k : Nat} {x : α} (h : xs[k]? = some x) : atI xs (k : Int) = some x := by
  obtain ⟨hk, _⟩ := List.getElem?_eq_some_iff.mp h
  unfold atI ixN
  rw [if_pos (by omega), if_pos (by omega)]
  show xs[((k : Nat) : Int).toNat]? = some x
  rw [Int.toNat_natCast]
  exact h
theorem atI_m1 {α : Type} {xs : List α} {k : Nat} {x : α} (h : xs[k]? = some x) (hl : xs.length = k + 1) : atI xs (-1) = some x := by
  unfold atI ixN
  rw [if_neg (by omega), if_pos (by omega), hl, show (-1 + ((k + 1 : Nat) : Int)).toNat = k by omega]
  exact h
theorem oD_get {xs : List Int} {k : Nat} {x : Int} (h : xs[k]? = some x) : (oD xs)[k]? = some (.int x) := by unfold oD; rw [List.getElem?_map, h]; rfl

theorem take_snoc {α : Type} {xs : List α} {i : Nat} {x : α} (h : xs[i]? = some x) : xs.take (i + 1) = xs.take i ++ [x] := by rw [List.take_add_one, h]; rfl

/-! ### rules: enumerate, a list many times, a changed row, what is read of what is drawn -/
def enumD (ds : List PyData) : List PyData := (List.range ds.length).map fun i => .tuple [.int (i : Nat), ds.getD i .none]
theorem enumD_len (ds : List PyData) : (enumD ds).length = ds.length := by unfold enumD; simp
theorem enumD_at {ds : List PyData} {i : Nat} {d : PyData} (h : (enumD ds)[i]? = some d) : ∃ x, ds[i]? = some x ∧ d = .tuple [.int (i : Nat), x] := by
  unfold enumD at h
  rw [List.getElem?_map] at h
  by_cases hi : i < ds.length
  · rw [List.getElem?_range hi] at h
    refine ⟨ds[i], List.getElem?_eq_getElem hi, ?_⟩
    rw [← Option.some.inj h]
    show PyData.tuple [PyData.int (i : Nat), ds.getD i PyData.none] = _
    rw [List.getD_eq_getElem?_getD, List.getElem?_eq_getElem hi]
    rfl
  · rw [List.getElem?_eq_none (by simp; omega)] at h
    cases h
section
variable {K : PySem.W.Frag} {M : Md} {σ : L2.St} {J H : Hp} {ta tb tc te : TE} {E : XK} {ds : List PyData}
theorem ew_enum (h : EvD K M te σ J H (.list ds)) : EvW K M (iEnum K (tCons te tNil)) σ J H (· = enumD ds) := fun J1 H1 w t R q =>
  h J1 H1 w t _ fun v d J2 H2 w2 t2 e a => by
    subst e
    obtain ⟨p, xs, rfl, hl, hd⟩ := da_lst a
    refine ⟨p, xs, rfl, .of (w2.jh _ _ hl), q _ _ J2 H2 w2 t2 rfl ⟨fun i G hi s => ?_, fun G s => ⟨xs, .of (s _ _ hl), by rw [das_len hd, enumD_len]; exact Nat.le_refl _⟩, fun i G x G' d hd' s y => ?_⟩⟩
    · rw [enumD_len] at hi
      have hi2 : i < xs.length := by rw [das_len hd]; exact hi
      exact ⟨xs, xs[i], .of (s _ _ hl), List.getElem?_eq_getElem hi2⟩
    · obtain ⟨T, z, ev, hT, eG, y⟩ := y
      obtain ⟨d2, e2, a2⟩ := das_at hd (y xs (.of (s _ _ hl)))
      obtain ⟨d3, e3, rfl⟩ := enumD_at hd'
      rw [e2] at e3
      cases e3
      exact .inr ⟨T, _, _, ev, hT, eG, rfl, .cons (.int _) (.cons a2 .nil)⟩
theorem od_rep {n : Nat} (h1 : n < 2 ^ 60) (h2 : ds.length * n ≤ sizeLine) : OpD K M rRep (.list ds) (.int (n : Int)) (· = .list (List.replicate n ds).flatten) := fun x y J H w ax ay Q q => by
  obtain ⟨a, xs, rfl, hl, hd⟩ := da_lst ax
  have en : ((n : Nat) : Int).toNat = n := Int.toNat_natCast n
  refine ⟨a, n, xs, rfl, da_int ay, w.jh _ _ hl, by omega, by omega, by rw [en, das_len hd]; exact h2, fun p hp => ?_⟩
  rw [en]
  have t := w.new (o := .lst (List.replicate n xs).flatten) hp
  refine q _ _ _ _ (t.wf w) t rfl (.lst upd_same (t.jj.das ?_))
  have key : ∀ m : Nat, Das K J (List.replicate m xs).flatten (List.replicate m ds).flatten := by
    intro m
    induction m with
    | zero => exact .nil
    | succ m ih => rw [List.replicate_succ, List.replicate_succ, List.flatten_cons, List.flatten_cons]; exact das_app hd ih
  exact key n

end

theorem OpD.mono {K : PySem.W.Frag} {M : Md} {r : R2} {dx dy : PyData} {P P' : PyData → Prop} (h : OpD K M r dx dy P) (k : ∀ d, P d → P' d) : OpD K M r dx dy P' := fun x y J H w ax ay Q q => h x y J H w ax ay Q fun v d J2 H2 w2 t2 p a => q v d J2 H2 w2 t2 (k d p) a
abbrev exTl : List Value := [.type "Exception", .type "BaseException", .type "object"]
theorem exTl_pass : Passes2 exTl := fun self => ⟨by rfl, by rfl⟩
/-- an own class over own ones over Exception, off the heap: its parts, put together again -/
def ownB (K : PySem.W.Frag) (C : Addr) (tl : List Value) (nw : String) : Bool := match K.lookup C with
  | some ⟨.type ty, _, .cls ⟨_, _, .ref C' :: tail, _, _, dct, _, _, _, _, gone⟩, ⟨[_, _, _, _, some (.builtin made), _]⟩⟩ => decide (ty = "type") && (decide (C' = C) && (decide (made = nw) && (dct && (!gone && endsIn tl tail))))
  | _ => false
theorem ownB_ok {K : PySem.W.Frag} {C : Addr} {tl : List Value} {nw : String} (told : ownB K C tl nw = true) : ∃ nm q N bs bm sn sub ab col dd k0 k1 k2 k3 k5, K.lookup C = some (excClassObj nm q C N bs bm true sn sub ab col dd k0 k1 k2 k3 k5 nw) ∧ endsIn tl bm = true := by
  unfold ownB at told
  split at told
  · rename_i at_
    obtain ⟨p1, r1⟩ := He.ba told
    obtain ⟨p2, r2⟩ := He.ba r1
    obtain ⟨p3, r3⟩ := He.ba r2
    obtain ⟨p4, r4⟩ := He.ba r3
    obtain ⟨p5, r5⟩ := He.ba r4
    have e1 := of_decide_eq_true p1
    have e2 := of_decide_eq_true p2
    have e3 := of_decide_eq_true p3
    have e5 : _ = false := Bool.not_eq_eq_eq_not.mp p5
    subst e1 e2 e3 p4 e5
    exact ⟨_, _, _, _, _, _, _, _, _, _, _, _, _, _, _, at_, r5⟩
  · exact nomatch told
/-- over LookupError, KeyError among them or not -/
abbrev lkTl : List Value := [.type "LookupError", .type "Exception", .type "BaseException", .type "object"]
theorem lkTl_pass : Passes2 lkTl := fun self => ⟨by rfl, by rfl⟩
/-- all that Er wants of the class x that keeps f: tl its built-in ones, nw its __new__ -/
def erG (K : PySem.W.Frag) (tl : List Value) (nw : String) (x f : Str) : Bool :=
  ownB K (He.ga K x) tl nw && (He.eqO (PySem.W.findIn K (.ref (He.ga K x)) "__setattr__") (some (some (.builtin "object.__setattr__"))) && (decide (PySem.W.subIn K (.ref (He.ga K x)) (.type "BaseException") = some true) &&
  (decide (PySem.W.typeIn K (.ref (He.ga K x)) = some (.type "type")) && (PySem.W.keepIn K (.ref (He.ga K x)) && (He.eqO (PySem.W.findIn K (.ref (He.ga K x)) "__init__") (some (some (.ref (He.ma K (He.ga K x) "__init__")))) &&
  (decide (PySem.W.typeIn K (.ref (He.ma K (He.ga K x) "__init__")) = some (.type "function")) && (xfB K (He.ga K x) && (He.eqO (PySem.W.findIn K (.ref (He.ga K x)) f) (some none) && He.eqO (PySem.W.nsIn K mainGlobals x) (some (some (.ref (He.ga K x))))))))))))
abbrev erB (K : PySem.W.Frag) (x f : Str) : Bool := erG K exTl "Exception.__new__" x f
abbrev erK (K : PySem.W.Frag) (x f : Str) : Bool := erG K lkTl "LookupError.__new__" x f
theorem erG_own {K : PySem.W.Frag} {tl : List Value} {nw : String} {x f : Str} (h : erG K tl nw x f = true) : OwnE K (He.ga K x) tl nw := by
  obtain ⟨h1, h⟩ := He.ba h
  obtain ⟨h2, h⟩ := He.ba h
  obtain ⟨h3, h⟩ := He.ba h
  obtain ⟨h4, h⟩ := He.ba h
  obtain ⟨h5, h⟩ := He.ba h
  exact ⟨ownB_ok h1, He.eqO_ok h2, of_decide_eq_true h3, of_decide_eq_true h4, h5⟩
theorem erB_own {K : PySem.W.Frag} {x f : Str} (h : erB K x f = true) : OwnE K (He.ga K x) exTl "Exception.__new__" := erG_own h
theorem erK_own {K : PySem.W.Frag} {x f : Str} (h : erK K x f = true) : OwnE K (He.ga K x) lkTl "LookupError.__new__" := erG_own h
section
variable {P : Program} {w : World} {K : PySem.W.Frag} {mg : Str → Option Value} {base h : Heap} {x f : Str} {fd : FuncData} {ps : List Str}
theorem erG_of {tl : List Value} {nw B ini : String} (FB : ExcBaseFacts B nw ini tl) (nB : B ≠ "KeyError") (c : erG K tl nw x f = true) (X : K.In h) (G : h.Ns mainGlobals mg) (F : FnOk P w K mg base CX0 1 (He.ma K (He.ga K x) "__init__") fd ps (spIni K (He.ga K x) f)) (hb : Binds K fd ps []) : Er P w K mg base x (He.ga K x) f := by
  have T := erG_own c
  obtain ⟨h1, c⟩ := He.ba c
  obtain ⟨h2, c⟩ := He.ba c
  obtain ⟨h3, c⟩ := He.ba c
  obtain ⟨h4, c⟩ := He.ba c
  obtain ⟨h5, c⟩ := He.ba c
  obtain ⟨h6, c⟩ := He.ba c
  obtain ⟨h7, c⟩ := He.ba c
  obtain ⟨h8, c⟩ := He.ba c
  obtain ⟨h9, c⟩ := He.ba c
  exact ⟨⟨tl, nw, B, ini, _, fd, ps, FB, nB, T, He.eqO_ok h6, of_decide_eq_true h7, F, hb⟩, PySem.W.mg_of X G (He.eqO_ok c), xfB_ok h8, He.eqO_ok h9⟩
theorem er_of (c : erB K x f = true) (X : K.In h) (G : h.Ns mainGlobals mg) (F : FnOk P w K mg base CX0 1 (He.ma K (He.ga K x) "__init__") fd ps (spIni K (He.ga K x) f)) (hb : Binds K fd ps []) : Er P w K mg base x (He.ga K x) f := erG_of PySem.F.excBase_Exception (by decide) c X G F hb
theorem erK_of (c : erK K x f = true) (X : K.In h) (G : h.Ns mainGlobals mg) (F : FnOk P w K mg base CX0 1 (He.ma K (He.ga K x) "__init__") fd ps (spIni K (He.ga K x) f)) (hb : Binds K fd ps []) : Er P w K mg base x (He.ga K x) f := erG_of PySem.F.excBase_LookupError (by decide) c X G F hb
end
end DL

/-! zip of a tuple and a list: the pairs that it makes, as data. -/
namespace DL
open PySem PySem.Spec
open PyProof.Rows L2
theorem neN {x y : Nat} (h : x < y ∨ y < x) : (show Addr from x) ≠ (show Addr from y) := fun e => by
  have e' : x = y := e
  omega
theorem no2 {x y z : Nat} (h : x < y ∨ y < x) (g : x < z ∨ z < x) : (show Addr from x) ∉ [(show Addr from y), (show Addr from z)] := fun m => by
  rcases List.mem_cons.mp m with e | m
  · exact neN h e
  · exact neN g (List.mem_singleton.mp m)
theorem in5 {n c : Addr} (h : c ∈ [n + 4, n + 2, n + 3, n, n + 1]) : c = n + 4 ∨ c = n + 2 ∨ c = n + 3 ∨ c = n ∨ c = n + 1 := by simpa using h
/-- the cells of such a zip, told by the place of the first one -/
theorem apart5 (n a b : Nat) (ha : a < n) (hb : b < n) : ZipSep2 (n + 4) (n + 2) (n + 3) n (n + 1) [n, a] [n + 1, b] where
  TIz := neN (by omega)
  TOz := neN (by omega)
  TITO := neN (by omega)
  TIi1 := neN (by omega)
  mem1 := List.mem_cons_self
  zf1 := no2 (by omega) (by omega)
  Tf1 := no2 (by omega) (by omega)
  TIi2 := neN (by omega)
  mem2 := List.mem_cons_self
  zf2 := no2 (by omega) (by omega)
  Tf2 := no2 (by omega) (by omega)
  sep1_2 := no2 (by omega) (by omega)
  sep2_1 := no2 (by omega) (by omega)
/-- five objects behind the heap, as zip lays them -/
def zq1 (h : Heap) (a : Addr) : Heap := h.push ⟨.type "tuple_iterator", none, .fields #[.ref a, .int 0 0], #[]⟩
def zq2 (h : Heap) (a b : Addr) : Heap := (zq1 h a).push ⟨.type "list_iterator", none, .fields #[.ref b, .int 0 0], #[]⟩
def zq3 (h : Heap) (a b : Addr) : Heap := (zq2 h a b).push ⟨.type "tuple", none, .seq #[.ref h.objs.size, .ref (zq1 h a).objs.size], #[]⟩
def zq4 (h : Heap) (a b : Addr) : Heap := (zq3 h a b).push ⟨.type "tuple", none, .seq #[.none, .none], #[]⟩
def zq5 (h : Heap) (a b : Addr) : Heap := (zq4 h a b).push ⟨.type "zip", none, .fields #[.none, .bool false, .bool false, .ref (zq2 h a b).objs.size, .ref (zq3 h a b).objs.size], #[]⟩
theorem zq_new (a b : Addr) (us ws : Array Value) : Meets (Builtin.«zip.__new__» ⟨[.type "zip", .ref a, .ref b], []⟩) (fun _ R s =>
    s.heap.IsTuple a us ∧ s.heap.IsList b ws ∧ R (.ok (.ret (.ref (zq4 s.heap a b).objs.size))) { s with heap := zq5 s.heap a b }) :=
  .of_wp fun prog w A R s told => by
    obtain ⟨hp, gs, dr, tk, os⟩ := s
    obtain ⟨ta, lb, r⟩ := told
    have hsub := sub_zip
    have e1 : Heap.IsTuple (Shared.heap ⟨hp, gs, dr, tk, os⟩) a us := ta
    have e2 : Heap.IsList (Shared.heap ⟨hp.push { cls := .type "tuple_iterator", data := .fields #[.ref a, .int 0 0] }, gs, dr, tk, os⟩) b ws := Heap.IsList.push lb _
    wp_walk using wpAny_pyIter_tuple e1, wpAny_pyIter_list e2
    exact ⟨_, rfl, r⟩
theorem call_zq {prog : Program} {w : World} {A : Around} {E : Value → Shared → Prop} {s : Shared} {a b : Addr} {us ws : Array Value} {Q : Value → Shared → Prop} (ta : s.heap.IsTuple a us) (lb : s.heap.IsList b ws)
    (q : ∀ g n, n = s.heap.objs.size → IsZip g (n + 4) (n + 2) (n + 3) .none → IsTupOf2 g (n + 2) (.ref n) (.ref (n + 1)) → IsTupOf2 g (n + 3) .none .none → g.IsTupleIter n a 0 → g.IsListIter (n + 1) b 0 →
      (∀ c o, s.heap.get? c = some o → g.get? c = some o) → Q (.ref (n + 4)) { s with heap := g }) : wpAny (model prog w) A (call (.type "zip") [.ref a, .ref b]) Q E s := by
  refine callType_new F.called_zip (by decide) (F.typeCall_zip_2 _ _) (F.newCall_zip_2 _ _) (fun o => F.args_object_init_3 o _ _) F.entry_zip_new (zq_new a b us ws) ⟨ta, lb, ?_⟩
  generalize hn : s.heap.objs.size = n at q
  have n1 : (zq1 s.heap a).objs.size = n + 1 := by rw [← hn]; exact Heap.size_push ..
  have n2 : (zq2 s.heap a b).objs.size = n + 2 := by unfold zq2; rw [Heap.size_push, n1]
  have n3 : (zq3 s.heap a b).objs.size = n + 3 := by unfold zq3; rw [Heap.size_push, n2]
  have n4 : (zq4 s.heap a b).objs.size = n + 4 := by unfold zq4; rw [Heap.size_push, n3]
  have k0 : ∀ c o, s.heap.get? c = some o → (zq1 s.heap a).get? c = some o := fun c o e => Heap.get?_push_of_some _ e
  have k1 : ∀ c o, (zq1 s.heap a).get? c = some o → (zq2 s.heap a b).get? c = some o := fun c o e => Heap.get?_push_of_some _ e
  have k2 : ∀ c o, (zq2 s.heap a b).get? c = some o → (zq3 s.heap a b).get? c = some o := fun c o e => Heap.get?_push_of_some _ e
  have k3 : ∀ c o, (zq3 s.heap a b).get? c = some o → (zq4 s.heap a b).get? c = some o := fun c o e => Heap.get?_push_of_some _ e
  have k4 : ∀ c o, (zq4 s.heap a b).get? c = some o → (zq5 s.heap a b).get? c = some o := fun c o e => Heap.get?_push_of_some _ e
  have o0 : (zq1 s.heap a).get? n = some ⟨.type "tuple_iterator", none, .fields #[.ref a, .int 0 0], #[]⟩ := by rw [← hn]; exact Heap.get?_push_size _ rfl
  have o1 : (zq2 s.heap a b).get? (n + 1) = some ⟨.type "list_iterator", none, .fields #[.ref b, .int 0 0], #[]⟩ := by rw [← n1]; exact Heap.get?_push_size _ rfl
  have o2 : (zq3 s.heap a b).get? (n + 2) = some ⟨.type "tuple", none, .seq #[.ref n, .ref (n + 1)], #[]⟩ := by
    have e := Heap.get?_push_size (zq2 s.heap a b) (o := ⟨.type "tuple", none, .seq #[.ref s.heap.objs.size, .ref (zq1 s.heap a).objs.size], #[]⟩) rfl
    rw [n2, n1, hn] at e
    unfold zq3
    rw [n1, hn]
    exact e
  have o3 : (zq4 s.heap a b).get? (n + 3) = some ⟨.type "tuple", none, .seq #[.none, .none], #[]⟩ := by rw [← n3]; exact Heap.get?_push_size _ rfl
  have o4 : (zq5 s.heap a b).get? (n + 4) = some ⟨.type "zip", none, .fields #[.none, .bool false, .bool false, .ref (n + 2), .ref (n + 3)], #[]⟩ := by
    have e := Heap.get?_push_size (zq4 s.heap a b) (o := ⟨.type "zip", none, .fields #[.none, .bool false, .bool false, .ref (zq2 s.heap a b).objs.size, .ref (zq3 s.heap a b).objs.size], #[]⟩) rfl
    rw [n4, n2, n3] at e
    unfold zq5
    rw [n2, n3]
    exact e
  show _ ∧ _
  rw [n4]
  exact ⟨⟨_, o4, rfl⟩, q _ n rfl o4 (k4 _ _ (k3 _ _ o2)) (k4 _ _ o3) ⟨_, k4 _ _ (k3 _ _ (k2 _ _ (k1 _ _ o0))), rfl, rfl⟩ ⟨_, k4 _ _ (k3 _ _ (k2 _ _ o1)), rfl, rfl⟩ fun c o e => k4 _ _ (k3 _ _ (k2 _ _ (k1 _ _ (k0 _ _ e))))⟩
/-- the pairs of a tuple's and a list's things -/
def Itm (K : PySem.W.Frag) (a b : Addr) : L2.It where
  go := fun i H => ∃ xs ys x y, (SqT K H a xs ∧ xs[i]? = some x) ∧ (SqL K H b ys ∧ ys[i]? = some y)
  yld := fun i H v H' => ∃ T x y, (v = V.ref T ∧ H T = none ∧ H' = upd H T (.tup [x, y])) ∧ (∀ xs, SqT K H a xs → xs[i]? = some x) ∧ (∀ ys, SqL K H b ys → ys[i]? = some y)
  stop := fun i H => ∃ xs ys : List V, (SqT K H a xs ∧ SqL K H b ys) ∧ i ≤ xs.length ∧ i ≤ ys.length ∧ (i = xs.length ∨ i = ys.length)
theorem turn_m {P : Program} {w : World} {K : PySem.W.Frag} {els : List Expr} {kk : Nat} {tp : Pos} {a b n : Nat} (ha : a < n) (hb : b < n) :
    Turn P w K (.Tuple els kk tp) (Itm K a b) [n + 4, n + 2, n + 3, n, n + 1] (n + 4) (fun i h => (IsZip h (n + 4) (n + 2) (n + 3) .none ∧ IsTupOf2 h (n + 2) (.ref n) (.ref (n + 1))) ∧ (∃ x y, IsTupOf2 h (n + 3) x y) ∧ h.IsTupleIter n a i ∧ h.IsListIter (n + 1) b i) where
  mem := List.mem_cons_self
  obj := fun i h ⟨⟨z, t⟩, ⟨x, y, u⟩, ⟨o1, e1, _, d1⟩, ⟨o2, e2, _, d2⟩⟩ c hc => by
    rcases in5 hc with rfl | rfl | rfl | rfl | rfl
    · exact ⟨_, z, nofun⟩
    · exact ⟨_, t, nofun⟩
    · exact ⟨_, u, nofun⟩
    · exact ⟨o1, e1, fun v e => by rw [d1] at e; cases e⟩
    · exact ⟨o2, e2, fun v e => by rw [d2] at e; cases e⟩
  keep := fun i h g ⟨⟨z, t⟩, ⟨x, y, u⟩, i1, i2⟩ k => ⟨⟨k _ (by simp) _ z, k _ (by simp) _ t⟩, ⟨x, y, k _ (by simp) _ u⟩, i1.at fun o e => k n (by simp) o e, i2.at fun o e => k (n + 1) (by simp) o e⟩
  item := by
    rintro X rfl rfl rfl calm i pins s σ H E I free ⟨⟨z, t⟩, ⟨x0, y0, u⟩, i1, i2⟩ ⟨xs, ys, x, y, ⟨qx, ex⟩, qy, ey⟩
    obtain ⟨us, ru, pu, _⟩ := I.tuple qx
    obtain ⟨ws, rw_, pw, _⟩ := I.list qy
    obtain ⟨v1, g1, r1⟩ := ru.get ex
    obtain ⟨v2, g2, r2⟩ := rw_.get ey
    have hd := I.ok.hd calm
    have lz : n + 4 < s.heap.objs.size := Heap.lt_size z
    have S := apart5 n a b ha hb
    refine wpAny_pyNext_zipD2_item S (Draws.tuple (A := X.A.in1) hd n a (neN (by omega)) us.toArray) (Draws.list (A := X.A.in1) hd (n + 1) b (neN (by omega)) ws.toArray) z t u ⟨i1, pu⟩ ⟨i2, pw.isList⟩
      (by obtain ⟨l, _⟩ := List.getElem?_eq_some_iff.mp g1; simpa using l) (by obtain ⟨l, _⟩ := List.getElem?_eq_some_iff.mp g2; simpa using l) fun w1 w2 g tk p1 p2 z' u' s1 s2 nt _ kp => ?_
    have q1 : w1 = v1 := by have e : us[i]? = some w1 := by simpa using p1
                            rw [g1] at e; exact (Option.some.inj e).symm
    have q2 : w2 = v2 := by have e : ws[i]? = some w2 := by simpa using p2
                            rw [g2] at e; exact (Option.some.inj e).symm
    subst q1 q2
    refine ⟨_, rfl, wpAny_letOwnedTupleGo_zip (s := { s with heap := g, toks := tk }) z' fun g2' z2 sb => ?_⟩
    have far : ∀ {c}, c ∉ [n + 4, n + 2, n + 3, n, n + 1] → c ≠ n + 4 ∧ c ≠ n + 3 ∧ c ≠ n ∧ c ≠ n + 1 := fun {c} h => ⟨fun e => h (by simp [e]), fun e => h (by simp [e]), fun e => h (by simp [e]), fun e => h (by simp [e])⟩
    have all : ∀ c o, c ∉ [n + 4, n + 2, n + 3, n, n + 1] → s.heap.get? c = some o → g2'.get? c = some o := fun c o h e => by
      obtain ⟨f1, f2, f3, f4⟩ := far h
      exact (sb.2 c f1).trans (kp c o f1 f2 f3 f4 e)
    have at_ : g2'.get? s.heap.objs.size = some { cls := .type "tuple", data := .seq #[w1, w2] } := (sb.2 _ (Nat.ne_of_gt lz)).trans nt
    have ob : ObjOk X.prog X.w (upd H s.heap.objs.size (.tup [x, y])) g2' s.heap.objs.size (.tup [x, y]) := ⟨(by decide : 2 ≤ sizeLine), [w1, w2], .cons r1 (.cons r2 .nil), _, at_, rfl, _, rfl⟩
    refine ⟨.ref s.heap.objs.size, _, I.turnedNew (t' := tk) (ch := [n + 4, n + 2, n + 3, n, n + 1]) all free (Nat.le_refl _) ob, rfl, ⟨_, x, y, ⟨rfl, I.hok.fresh (Nat.le_refl _), rfl⟩, fun l hl => by rw [I.tuple_inj hl qx]; exact ex, fun l hl => by rw [I.list_inj hl qy]; exact ey⟩,
      ⟨⟨z2, (sb.2 _ (neN (by omega))).trans (kp _ _ (neN (by omega)) (neN (by omega)) (neN (by omega)) (neN (by omega)) t)⟩, ⟨w1, w2, (sb.2 _ (neN (by omega))).trans u'⟩, s1.1.at fun o e => (sb.2 n (neN (by omega))).trans e, s2.1.at fun o e => (sb.2 (n + 1) (neN (by omega))).trans e⟩, fun c hc => ?_⟩
    have lc : c < s.heap.objs.size := by
      refine Nat.lt_of_le_of_lt ?_ lz
      rcases in5 hc with e | e | e | e | e
      · rw [e]; exact Nat.le_refl _
      · rw [e]; exact Nat.add_le_add_left (by decide) n
      · rw [e]; exact Nat.add_le_add_left (by decide) n
      · rw [e]; exact Nat.le_add_right n 4
      · rw [e]; exact Nat.add_le_add_left (by decide) n
    rw [upd_ne (Nat.ne_of_lt lc)]
    exact (free c hc).1
  done := by
    rintro X rfl rfl rfl calm i pins s σ H E I free ⟨⟨z, t⟩, ⟨x0, y0, u⟩, i1, i2⟩ ⟨xs, ys, ⟨qx, qy⟩, last⟩
    obtain ⟨us, ru, pu, _⟩ := I.tuple qx
    obtain ⟨ws, rw_, pw, _⟩ := I.list qy
    have hd := I.ok.hd calm
    have l1 := ru.length
    have l2 := rw_.length
    exact wpAny_pyNext_zipD2_end (apart5 n a b ha hb) (Draws.tuple (A := X.A.in1) hd n a (neN (by omega)) us.toArray) (Draws.list (A := X.A.in1) hd (n + 1) b (neN (by omega)) ws.toArray) z t u ⟨i1, pu⟩ ⟨i2, pw.isList⟩
      (by rw [List.size_toArray, ← l1]; exact last.1) (by rw [List.size_toArray, ← l2]; exact last.2.1) (by rw [List.size_toArray, List.size_toArray, ← l1, ← l2]; exact last.2.2)
      fun g tk kp => ⟨rfl, I.turnedL (t' := tk) (ch := [n + 4, n + 2, n + 3, n, n + 1]) (fun c o h e => kp c o (fun e => h (by simp [e])) (fun e => h (by simp [e])) (fun e => h (by simp [e])) (fun e => h (by simp [e])) e) free⟩
  self := fun A i s Q E st q => wpAny_pyIter_zip st.1.1 q
def iZm (K : PySem.W.Frag) (ta : TA) : TI := fun σ H R => ta σ H fun vs G => ∃ a b xs ys, (vs = [V.ref a, V.ref b] ∧ SqT K G a xs) ∧ SqL K G b ys ∧ R (Itm K a b) G
/-- zip of a tuple and a list is walked -/
theorem pi_zm {X : Cx} {x y : Expr} {ta : TA} {p pos tp : Pos} {els : List Expr} {kk : Nat} (hg : Gl X "zip") (hm : X.mg "zip" = none) (ha : PA X [x, y] ta) (hs : starEach [x, y] X.env = (false, eval x X.env) :: starEach [y] X.env := by rfl)
    (hp : (backTo pos (starEach [y] X.env)).any (·.1) = false := by rfl) : PI X (.Tuple els kk tp) (.Call (.Name "zip" p) [x, y] [] pos) (iZm X.K ta) := by
  refine ⟨fun pins s σ H R I h => ?_⟩
  have hr := ha.run pos pins s σ H _ I h
  refine Call_ (ld_blt I hg hm PyProof.Rows.boot_zip (PyProof.Rows.callWith_type1 (thn hr fun us s1 ⟨vs, G, I1, r1, told⟩ => ?_) hs hp))
  obtain ⟨a, b, xs, ys, ⟨e, qx⟩, qy, r⟩ := told
  subst e
  cases r1 with
  | cons ra rs =>
    cases rs with
    | cons rb rs =>
    cases rs
    cases ra
    cases rb
    obtain ⟨ts, _, pt, _⟩ := I1.tuple qx
    obtain ⟨ls, _, pl, _⟩ := I1.list qy
    obtain ⟨o1, e1, _⟩ := id pt
    refine call_zq (show s1.heap.IsTuple a ts.toArray from pt) pl.isList fun g n hn z t u i1 i2 kp => wpAny_pyIter_zip z ?_
    have J : Inv X pins σ G { s1 with heap := g } := I1.kept (t' := s1.toks) kp
    refine ⟨n + 4, [n + 4, n + 2, n + 3, n, n + 1], _, _, G, rfl, J, turn_m (by rw [hn]; exact Heap.lt_size e1) (by rw [hn]; exact pl.lt), ⟨⟨z, t⟩, ⟨_, _, u⟩, i1, i2⟩, fun c hc => ?_, r⟩
    have le : s1.heap.objs.size ≤ c := by
      rw [← hn]
      rcases in5 hc with e | e | e | e | e
      · rw [e]; exact Nat.le_add_right n 4
      · rw [e]; exact Nat.le_add_right n 2
      · rw [e]; exact Nat.le_add_right n 3
      · rw [e]; exact Nat.le_refl _
      · rw [e]; exact Nat.le_add_right n 1
    exact I1.fpOk le (I1.hok.fresh le)
/-- as data -/
def zipD (ds es : List PyData) : List PyData := (ds.zip es).map fun p => .tuple [p.1, p.2]
theorem zipD_at {ds es : List PyData} {i : Nat} {d : PyData} (h : (zipD ds es)[i]? = some d) : ∃ x y, ds[i]? = some x ∧ es[i]? = some y ∧ d = .tuple [x, y] := by
  unfold zipD at h
  rw [List.getElem?_map] at h
  cases e : (ds.zip es)[i]? with
  | none => rw [e] at h; cases h
  | some p =>
    rw [e] at h
    obtain ⟨h1, h2⟩ := List.getElem?_zip_eq_some.mp e
    exact ⟨p.1, p.2, h1, h2, (Option.some.inj h).symm⟩
theorem zipD_len {ds es : List PyData} (h : ds.length ≤ es.length) : (zipD ds es).length = ds.length := by unfold zipD; simp; omega
section
variable {K : PySem.W.Frag} {M : Md} {σ : L2.St} {J H : Hp} {ta tb : TE} {ds es : List PyData}
theorem ew_zm (h : EvD K M ta σ J H (.tuple ds)) (g : EvD K M tb σ J H (.list es)) (hl : ds.length ≤ es.length) : EvW K M (iZm K (tCons ta (tCons tb tNil))) σ J H (· = zipD ds es) := fun J1 H1 w t R q =>
  h J1 H1 w t _ fun v d J2 H2 w2 t2 e a => g J2 H2 w2 (t.trans t2) _ fun v' d' J3 H3 w3 t3 e' a' => by
    subst e
    subst e'
    obtain ⟨x, xs, rfl, lx, dx⟩ := da_tup (t3.jj.da a)
    obtain ⟨y, ys, rfl, ly, dy⟩ := da_lst a'
    have hx := das_len dx
    have hy := das_len dy
    refine ⟨x, y, xs, ys, ⟨rfl, w3.jh.t lx⟩, .of (w3.jh _ _ ly), q _ _ J3 H3 w3 (t2.trans t3) rfl ⟨fun i G hi s => ?_, fun G s => ?_, fun i G z G' d hd s yl => ?_⟩⟩
    · rw [zipD_len hl] at hi
      have i1 : i < xs.length := by omega
      have i2 : i < ys.length := by omega
      exact ⟨xs, ys, xs[i], ys[i], ⟨s.t lx, List.getElem?_eq_getElem i1⟩, .of (s _ _ ly), List.getElem?_eq_getElem i2⟩
    · rw [zipD_len hl]
      exact ⟨xs, ys, ⟨s.t lx, .of (s _ _ ly)⟩, by omega, by omega, by omega⟩
    · obtain ⟨T, u, u', ⟨rfl, hT, rfl⟩, y1, y2⟩ := yl
      obtain ⟨p, p', e1, e2, rfl⟩ := zipD_at hd
      obtain ⟨c, g1, a1⟩ := das_at dx (y1 xs (s.t lx))
      obtain ⟨c', g2, a2⟩ := das_at dy (y2 ys (.of (s _ _ ly)))
      rw [e1] at g1
      rw [e2] at g2
      cases g1
      cases g2
      exact .inr ⟨T, _, _, rfl, hT, rfl, rfl, .cons a1 (.cons a2 .nil)⟩
theorem ew_zt (h : EvD K M ta σ J H (.tuple ds)) (g : EvD K M tb σ J H (.tuple es)) (hl : ds.length ≤ es.length) : EvW K M (RZ.iZipA K (tCons ta (tCons tb tNil))) σ J H (· = zipD ds es) := fun J1 H1 w t R q =>
  h J1 H1 w t _ fun v d J2 H2 w2 t2 e a => g J2 H2 w2 (t.trans t2) _ fun v' d' J3 H3 w3 t3 e' a' => by
    subst e
    subst e'
    obtain ⟨x, xs, rfl, lx, dx⟩ := da_tup (t3.jj.da a)
    obtain ⟨y, ys, rfl, ly, dy⟩ := da_tup a'
    have hx := das_len dx
    have hy := das_len dy
    refine ⟨x, y, xs, ys, rfl, .inr ⟨w3.jh.t lx, w3.jh.t ly, q _ _ J3 H3 w3 (t2.trans t3) rfl ⟨fun i G hi s => ?_, fun G s => ?_, fun i G z G' d hd s yl => ?_⟩⟩⟩
    · rw [zipD_len hl] at hi
      have i1 : i < xs.length := by omega
      have i2 : i < ys.length := by omega
      exact ⟨xs, ys, xs[i], ys[i], s.t lx, s.t ly, List.getElem?_eq_getElem i1, List.getElem?_eq_getElem i2⟩
    · rw [zipD_len hl]
      exact ⟨xs, ys, s.t lx, s.t ly, by omega⟩
    · obtain ⟨T, u, u', rfl, hT, rfl, y1, y2⟩ := yl
      obtain ⟨p, p', e1, e2, rfl⟩ := zipD_at hd
      obtain ⟨c, g1, a1⟩ := das_at dx (y1 xs (s.t lx))
      obtain ⟨c', g2, a2⟩ := das_at dy (y2 ys (s.t ly))
      rw [e1] at g1
      rw [e2] at g2
      cases g1
      cases g2
      exact .inr ⟨T, _, _, rfl, hT, rfl, rfl, .cons a1 (.cons a2 .nil)⟩
end
end DL

/-! The draws of other laws: int() stands elsewhere, and a part of the script is taken. -/
namespace DL
open PySem PySem.Spec
open PyProof.Rows L2
local macro_rules | `(tactic| walk_at "rep") => `(tactic| first | assumption | exact Da.int _ | exact Da.bl _ | exact Da.str _ | exact Da.non | exact Sub.da (by assumption) (by assumption) | exact Sub.da (Tr.jj (by assumption)) (by assumption))
local macro_rules | `(tactic| walk_at "arith") => `(tactic| first | assumption | omega | decide | exact cmul_small (by omega) (by omega) | exact cdiv_small (by omega) (by omega))
local macro_rules | `(tactic| walk_at "shp") => `(tactic| first | exact sh_int _ | exact sh_tup _ | exact sh_list _ | assumption)
local macro_rules | `(tactic| walk_at "od") => `(tactic| first
  | with_reducible exact od_plus
  | with_reducible exact od_sub
  | ((with_reducible refine' od_mul ?h1); walk_at "arith")
  | ((with_reducible refine' od_mod ?h1); walk_at "arith")
  | ((with_reducible refine' od_fdiv ?h1); walk_at "arith")
  | ((with_reducible refine' od_pow ?h1); exact ⟨by decide, by decide, by decide⟩)
  | with_reducible exact od_lt | with_reducible exact od_le | with_reducible exact od_gt | with_reducible exact od_ge
  | ((with_reducible refine' od_plusT ?h1); walk_at "arith")
  | ((with_reducible refine' od_plusL ?h1); walk_at "arith")
  | ((with_reducible refine' od_plusS ?h1); walk_at "arith")
  | with_reducible exact od_isN | with_reducible exact od_notN
  | ((with_reducible refine od_eq ?_ ?_) <;> walk_at "shp")
  | ((with_reducible refine od_ne ?_ ?_) <;> walk_at "shp")
  | ((with_reducible refine od_inL ?_ ?_) <;> walk_at "shp")
  | ((with_reducible refine od_ixL ?_); assumption)
  | ((with_reducible refine od_ixT ?_); assumption))
local macro_rules | `(tactic| walk_at "ea") => `(tactic| first | with_reducible exact ea_nil | ((with_reducible refine' ea_consD ?h1 ?h2); (case h1 => walk_at "ev"); (case h2 => walk_at "ea")))
local macro_rules | `(tactic| walk_at "eo") => `(tactic| first | with_reducible exact eo_none | ((with_reducible refine' eo_at ?h1); (case h1 => walk_at "ev")))
local macro_rules | `(tactic| walk_at "cd") => `(tactic| first
  | with_reducible exact cd_lenL | with_reducible exact cd_lenT | with_reducible exact cd_tupL | with_reducible exact cd_tupT | with_reducible exact cd_lstL | with_reducible exact cd_lstT | with_reducible exact cd_abs | with_reducible exact cd_int)
local macro_rules | `(tactic| walk_at "ev") => `(tactic| first
  | with_reducible exact ev_int | with_reducible exact ev_bl | with_reducible exact ev_str | with_reducible exact ev_non
  | ((with_reducible refine' ev_var ?h1 ?h2); (case h1 => exact rfl); (case h2 => walk_at "rep"))
  | ((with_reducible refine' ev_opD ?h1 ?h2 ?h3); (case h1 => walk_at "ev"); (case h2 => walk_at "ev"); (case h3 => walk_at "od"))
  | ((with_reducible refine' ev_tupD ?h1); (case h1 => walk_at "ea"))
  | ((with_reducible refine' ev_lstD ?h1); (case h1 => walk_at "ea"))
  | ((with_reducible refine' ev_revL ?h1); (case h1 => walk_at "ev"))
  | ((with_reducible refine' ev_slD ?h1 ?h2 ?h3 ?h4); (case h1 => walk_at "ev"); (case h2 => walk_at "eo"); (case h3 => walk_at "eo"); (case h4 => first | with_reducible exact sd_tup | with_reducible exact sd_list))
  | ((with_reducible refine' ev_cbD ?h1 ?h2); (case h1 => walk_at "ea"); (case h2 => walk_at "cd"))
  | ((with_reducible refine' ev_notV ?h1); (case h1 => walk_at "ev"))
  | assumption)
local macro_rules | `(tactic| walk_at "et") => `(tactic| first
  | ((with_reducible refine' et_testD ?h1); (case h1 => walk_at "ev"))
  | ((with_reducible refine' et_BD ?h1); (case h1 => walk_at "ev"))
  | ((with_reducible refine' et_notD ?h1); (case h1 => walk_at "et"))
  | ((with_reducible refine' et_andD ?h1 ?h2); (case h1 => walk_at "et"); (case h2 => intro _; walk_at "et"))
  | ((with_reducible refine' et_orD ?h1 ?h2); (case h1 => walk_at "et"); (case h2 => intro _; walk_at "et"))
  | assumption)
section
variable {K : PySem.W.Frag} {M : Md} {h g : Addr} {J H : Hp}
/-- a draw, as other laws write it: the number is made one behind the pop (c: what their numbers are mixed with) -/
def tDraw2 (K : PySem.W.Frag) (c : Int) : TS :=
  tSeq (tWhile (tAnd (tTest (tOp (rNeD K) (tH0 K) (tLst tNil))) (tTest (tOp (rEqD K) (tOp (rIx K) (tH0 K) (tUn (rU fun i => .int (-i)) (tC (.int 1)))) (tC (.int 0))))) (tDrop (tBM0 K "list" rPop (tH0 K))))
  (tSeq (tIfS (tTest (tOp (rNeD K) (tH0 K) (tLst tNil))) (tSeq (tAsg (tBM0 K "list" rPop (tH0 K)) (gName 2)) (tSeq (tDrop (tBM K "list" rAppend (tH0 K) (tCons (tOp rDiv (tVar 2) (tVar 1)) tNil))) (tRet (tOp rMod (tCB rInt1 (tCons (tVar 2) tNil)) (tVar 1))))) tNext)
  (tSeq (tAsg (tOp rMod (tCB rInt1 (tCons (tOp (rPlus K) (tOp rMul (tH1 K) (tC (.int 48271))) (tC (.int c))) tNil)) (tC (.int 2147483647))) (gSub (tVar 0) (tC (.int 1)) rSetL)) (tRet (tOp rMod (tCB rInt1 (tCons (tOp rDiv (tH1 K) (tC (.int 64))) tNil)) (tVar 1)))))
variable {σ : L2.St} {Q : VK} {cs : List Int} {n : Int}
theorem rd_draw2 (hd : HasDr M h g) (w : Wf M J H) (hn : 0 < n) (hn2 : n < 2 ^ 64) {c : Int} (hc : 0 ≤ c ∧ c < 2 ^ 60) (q : ∀ i H', Wf M J H' → Tr M J H J H' → 0 ≤ i → i < n → Q (.int i) H') :
    tDraw2 K c { nx := fun _ H' => Q .non H', rt := Q } [some (.ref h), some (.int n), none] H := by
  obtain ⟨cs0, m0, x0⟩ := drAt_of (hd.ok H w.inv)
  have go : ∀ {G : Hp} {cs m}, (∀ a o, a ≠ h → a ≠ g → H a = some o → G a = some o) → DrAt h g cs m G → Tr M J H J G := fun k x => dr_tr hd w k x.ok
  refine ⟨fun m σ G => σ = [some (.ref h), some (.int n), none] ∧ (∀ a o, a ≠ h → a ≠ g → H a = some o → G a = some o) ∧ ∃ cs k, DrAt h g cs k G ∧ cs.length = m, ⟨_, rfl, fun _ _ _ _ e => e, cs0, m0, x0, rfl⟩, ?_⟩
  rintro m σ G ⟨rfl, kp, cs, k, x, rfl⟩
  have kn : ∀ {G : Hp} {p : Addr} {o : HO}, (∀ a o, a ≠ h → a ≠ g → H a = some o → G a = some o) → G p = none → ∀ a u, a ≠ h → a ≠ g → H a = some u → upd G p o a = some u := fun {G p o} kp hp a u n1 n2 e => by
    rw [upd_ne (ne_of_none (kp a u n1 n2 e) hp)]; exact kp a u n1 n2 e
  have kg : ∀ {G : Hp} {o : HO}, (∀ a o, a ≠ h → a ≠ g → H a = some o → G a = some o) → ∀ a u, a ≠ h → a ≠ g → H a = some u → upd G g o a = some u := fun {G o} kp a u n1 n2 e => by
    rw [upd_ne n2]; exact kp a u n1 n2 e
  have kh : ∀ {G : Hp} {o : HO}, (∀ a o, a ≠ h → a ≠ g → H a = some o → G a = some o) → ∀ a u, a ≠ h → a ≠ g → H a = some u → upd G h o a = some u := fun {G o} kp a u n1 n2 e => by
    rw [upd_ne n1]; exact kp a u n1 n2 e
  -- behind the while
  have rest : ∀ {G : Hp} {cs : List Int} {k : Int}, (∀ a o, a ≠ h → a ≠ g → H a = some o → G a = some o) → DrAt h g cs k G →
      tSeq (tIfS (tTest (tOp (rNeD K) (tH0 K) (tLst tNil))) (tSeq (tAsg (tBM0 K "list" rPop (tH0 K)) (gName 2)) (tSeq (tDrop (tBM K "list" rAppend (tH0 K) (tCons (tOp rDiv (tVar 2) (tVar 1)) tNil))) (tRet (tOp rMod (tCB rInt1 (tCons (tVar 2) tNil)) (tVar 1))))) tNext)
        (tSeq (tAsg (tOp rMod (tCB rInt1 (tCons (tOp (rPlus K) (tOp rMul (tH1 K) (tC (.int 48271))) (tC (.int c))) tNil)) (tC (.int 2147483647))) (gSub (tVar 0) (tC (.int 1)) rSetL)) (tRet (tOp rMod (tCB rInt1 (tCons (tOp rDiv (tH1 K) (tC (.int 64))) tNil)) (tVar 1))))
        { nx := fun _ H' => Q .non H', rt := Q } [some (.ref h), some (.int n), none] G := by
    intro G cs k kp x
    refine rd_full rfl x fun p hp => ?_
    have x1 := x.new (o := .lst []) hp
    have kp1 := kn (o := .lst []) kp hp
    by_cases hcs : cs = []
    · rw [decide_eq_true hcs]
      refine rd_h1 rfl x1 ⟨k, 48271, rfl, rfl, cmul_small (by have := x1.n0; have := x1.n1; omega) (by decide), ?_⟩
      refine .inl ⟨_, c, rfl, rfl, .inl ⟨_, rfl, _, 2147483647, rfl, rfl, (by show (0 : Int) < 2147483647; decide), .ref h, rfl, ?_⟩⟩
      refine ⟨h, _, 1, 1, rfl, rfl, x1.hh, rfl, ?_⟩
      have x2 : DrAt h g cs ((k * 48271 + c) % 2147483647) (upd (upd G p (.lst [])) h (.lst [.ref g, .int ((k * 48271 + c) % 2147483647)])) :=
        ⟨upd_same, (upd_ne hd.ne.symm).trans x1.hg, x1.pos, x1.few, by omega, by omega⟩
      have t := go (kh kp1) x2
      refine rd_h1 rfl x2 ⟨_, 64, rfl, rfl, cdiv_small (by decide) (by decide), .inl ⟨_, rfl, .int n, rfl, _, n, rfl, rfl, hn, ?_⟩⟩
      exact q _ _ (t.wf w) t (Int.emod_nonneg _ (by omega)) (Int.emod_lt_of_pos _ hn)
    · rw [decide_eq_false hcs]
      obtain ⟨ds, z, rfl⟩ : ∃ ds z, cs = ds ++ [z] := ⟨cs.dropLast, cs.getLast hcs, (List.dropLast_concat_getLast hcs).symm⟩
      refine rd_h0 rfl x1 ⟨.inl ⟨rfl, _, .of x1.hg⟩, g, _, .int z, rfl, rfl, x1.hg, by simp, ?_⟩
      have z0 : 0 ≤ z := x1.pos z (by simp)
      have x2 : DrAt h g ds k (upd (upd G p (.lst [])) g (.lst (ds.map V.int))) :=
        ⟨(upd_ne hd.ne).trans x1.hh, upd_same, fun y hy => x1.pos y (by simp [hy]), by have := x1.few; rw [List.length_append] at this; omega, x1.n0, x1.n1⟩
      have e1 : ((ds ++ [z]).map V.int).dropLast = ds.map V.int := by rw [List.map_append]; simp
      rw [e1]
      refine rd_h0 rfl x2 ⟨.inl ⟨rfl, _, .of x2.hg⟩, _, rfl, _, rfl, z, n, rfl, rfl, cdiv_small hn hn2, g, _, .int (z / n), rfl, rfl, x2.hg, ?_, ?_⟩
      · have := x2.few
        rw [List.length_map]
        exact Nat.lt_of_le_of_lt this (by decide)
      · have x3 : DrAt h g (ds ++ [z / n]) k (upd (upd (upd G p (.lst [])) g (.lst (ds.map V.int))) g (.lst (ds.map V.int ++ [.int (z / n)]))) :=
          ⟨(upd_ne hd.ne).trans x2.hh, by rw [upd_same, List.map_append]; rfl, fun y hy => by
            rcases List.mem_append.mp hy with hy | hy
            · exact x2.pos y hy
            · rw [List.mem_singleton.mp hy]; exact Int.ediv_nonneg z0 (by omega), by have := x1.few; rw [List.length_append] at this ⊢; exact this, x1.n0, x1.n1⟩
        have t := go (kg (kg kp1)) x3
        exact ⟨.int z, rfl, .inl ⟨z, rfl, .int n, rfl, z, n, rfl, rfl, hn, q _ _ (t.wf w) t (Int.emod_nonneg _ (by omega)) (Int.emod_lt_of_pos _ hn)⟩⟩
  refine rd_full rfl x fun p hp => ?_
  have x1 := x.new (o := .lst []) hp
  have kp1 := kn (o := .lst []) kp hp
  by_cases hcs : cs = []
  · rw [decide_eq_true hcs]
    exact rest kp1 x1
  · rw [decide_eq_false hcs]
    obtain ⟨ds, z, rfl⟩ : ∃ ds z, cs = ds ++ [z] := ⟨cs.dropLast, cs.getLast hcs, (List.dropLast_concat_getLast hcs).symm⟩
    refine rd_h0 rfl x1 ⟨1, rfl, .inl ⟨g, _, -1, .int z, rfl, rfl, .of x1.hg, atI_last, .int z, .int 0, .int z, .int 0, sh_int z, sh_int 0, _, rfl, ?_⟩⟩
    rw [eqv_int]
    by_cases hz : z = 0
    · rw [decide_eq_true hz]
      have x2 : DrAt h g ds k (upd (upd G p (.lst [])) g (.lst (ds.map V.int))) :=
        ⟨(upd_ne hd.ne).trans x1.hh, upd_same, fun y hy => x1.pos y (by simp [hy]), by have := x1.few; rw [List.length_append] at this; omega, x1.n0, x1.n1⟩
      refine ⟨fun σ' G' => σ' = [some (.ref h), some (.int n), none] ∧ (∀ a o, a ≠ h → a ≠ g → H a = some o → G' a = some o) ∧ ∃ k, DrAt h g ds k G', fun σ' G' ⟨e, b, k', b2⟩ => ⟨ds.length, by rw [List.length_append]; exact Nat.lt_succ_self _, e, b, ds, k', b2, rfl⟩, ?_⟩
      refine rd_h0 rfl x1 ⟨.inl ⟨rfl, _, .of x1.hg⟩, g, _, .int z, rfl, rfl, x1.hg, by simp, rfl, ?_⟩
      have e1 : ((ds ++ [z]).map V.int).dropLast = ds.map V.int := by rw [List.map_append]; simp
      rw [e1]
      exact ⟨kg kp1, k, x2⟩
    · rw [decide_eq_false hz]
      exact rest kp1 x1
end
/-- the list of draws, as the laws make it -/
def tHeap2 (K : PySem.W.Frag) (p q m c : Int) : TS :=
  tSeq (tAsg (tLc (iList K (tSl (rSlL K) (tVar 0) (tPart (tVar 1)) (tPart (tOp (rPlus K) (tVar 1) (tC (.int 50)))))) (gName 4) tYes (tCB rAbs (tCons (tVar 4) tNil)) [4]) (gName 2))
  (tSeq (tAsg (tOp (rPlus K) (tC (.int p)) (tOp rMul (tC (.int q)) (tVar 1))) (gName 3))
  (tSeq (tFor (iList K (tVar 2)) (gName 4) (tAsg (tOp rMod (tCB rInt1 (tCons (tOp (rPlus K) (tOp (rPlus K) (tOp rMul (tVar 3) (tC (.int 48271))) (tOp rMod (tCB rInt1 (tCons (tVar 4) tNil)) (tC (.int m)))) (tC (.int c))) tNil)) (tC (.int 2147483647))) (gName 3)))
  (tRet (tLst (tCons (tRevL K (tLc (iList K (tVar 2)) (gName 4) (tTest (tOp (rI0 fun i j => .bl (decide (j ≤ i))) (tVar 4) (tOp (rI CPow fun i j => .int (i ^ j.toNat)) (tC (.int 10)) (tC (.int 18))))) (tVar 4) [4])) (tCons (tVar 3) tNil))))))
theorem rd_heap2 {K : PySem.W.Frag} {H : Hp} {Q : VK} {a : Addr} {ns : List Int} {b p q m c : Int} (hS : SqL K H a (ns.map V.int)) (hp : 0 ≤ p ∧ p < 1000000000) (hq : 0 ≤ q ∧ q < 1000) (hb : 0 ≤ b ∧ b < 1000) (hm : 0 < m ∧ m < 2 ^ 32) (hc : 0 ≤ c ∧ c < 1000)
    (k : ∀ h g H', (∀ a o, H a = some o → H' a = some o) → H h = none → H g = none → h ≠ g → drOk h g H' → Q (.ref h) H') : tHeap2 K p q m c { nx := fun _ H' => Q .non H', rt := Q } [some (.ref a), some (.int b), none, none, none] H := by
  have w0 : Wf Md.pure (fun _ => none) H := ⟨(fun _ _ e => by cases e), trivial, nofun, nofun⟩
  have l63 : (cutA ns (some b) (some (b + 50))).length ≤ 63 := by
    obtain ⟨m, rfl⟩ : ∃ m : Nat, b = m := ⟨b.toNat, by omega⟩
    have e := cutA_nat ns m (m + 50)
    rw [show ((m + 50 : Nat) : Int) = (m : Int) + 50 by omega] at e
    rw [e, List.length_take]
    omega
  refine s_asgD (K := K) (d := .list (oD ((cutA ns (some b) (some (b + 50))).map absI))) w0 ?_ fun v1 J1 H1 w1 t1 a1 => ?_
  · rw [← dAbs_map]
    refine ev_lcMap (ew_listD (ev_script rfl hS (by walk_at "eo") (by walk_at "eo"))) (by rw [oD_len]; exact Nat.lt_of_le_of_lt l63 (by decide)) (fun x => rfl) fun d x J1 H1 hd w t ax => ?_
    obtain ⟨n, hn⟩ := List.getElem?_of_mem hd
    obtain ⟨i, _, rfl⟩ := oD_at hn
    show EvD K Md.pure _ _ _ _ (.int (absI i))
    unfold absI
    walk_at "ev"
  generalize hcs : (cutA ns (some b) (some (b + 50))).map absI = cs at a1
  have cpos : ∀ x ∈ cs, 0 ≤ x := fun x hx => by
    rw [← hcs] at hx
    obtain ⟨y, _, rfl⟩ := List.mem_map.mp hx
    exact absI_pos y
  have clen : cs.length ≤ 63 := by rw [← hcs, List.length_map]; exact l63
  dsimp only
  refine s_asgI (K := K) w1 (i := p + q * b) ?_ fun J2 H2 w2 t2 => ?_
  · walk_at "ev"
  have a2 := t2.jj.da a1
  dsimp only
  have z1 : 0 ≤ q * b := Int.mul_nonneg hq.1 hb.1
  have z2 : q * b ≤ 1000 * 1000 := Int.mul_le_mul (by omega) (by omega) hb.1 (by decide)
  refine s_forD (K := K) (oD cs) (fun i σ' J' H' => ∃ n o, σ' = [some (.ref a), some (.int b), some v1, some (.int n), o] ∧ 0 ≤ n ∧ n < 2147483647) w0 (t1.trans t2) ?_ (fun J2 H2 _ _ => ⟨p + q * b, none, rfl, by omega, by omega⟩) (fun i σ' J' H' T xs h _ => h) ?_ ?_
  · exact ew_listD (by walk_at "ev")
  · rintro i d x σ' J2 J' H' hdi w' t' s1 s2 ⟨n, o, rfl, n0, n1⟩ ax
    obtain ⟨y, hy, rfl⟩ := oD_at hdi
    rw [da_int ax]
    have m0 : 0 ≤ y % m := Int.emod_nonneg _ (by omega)
    have m1 : y % m < m := Int.emod_lt_of_pos _ (by omega)
    refine s_asgI (K := K) w' (i := (n * 48271 + y % m + c) % 2147483647) ?_ fun J1 H1 w1 t1 => ⟨J1, w1, t'.trans t1, s2.trans t1.jj, (n * 48271 + y % m + c) % 2147483647, some (.int y), rfl, by omega, by omega⟩
    walk_at "ev"
  rintro σ' J' H' w' t' s1 ⟨n, o, rfl, n0, n1⟩
  have a3 := s1.da a2
  dsimp only
  refine s_retD (K := K) (d := .list [.list (oD (cs.filter fun i => decide ((10 : Int) ^ 18 ≤ i)).reverse), .int n]) w' ?_ fun v J3 H3 w3 t3 a3 => ?_
  · refine ev_lstD (ea_consD ?_ (by walk_at "ea"))
    rw [← oD_rev, ← dBig_filter]
    refine ev_revL ?_
    have e : (oD cs).filter dBig = ((oD cs).filter dBig).map id := by simp
    rw [e]
    refine ev_lcFilter (ew_listD (by walk_at "ev")) (by rw [oD_len]; exact Nat.lt_of_le_of_lt clen (by decide)) (fun x => rfl) (fun d x J1 H1 hd w t ax => ?_) fun d x J1 H1 hd _ w t ax => ?_
    · obtain ⟨k, hk⟩ := List.getElem?_of_mem hd
      obtain ⟨i, _, rfl⟩ := oD_at hk
      show EvT Md.pure _ _ _ _ (· = decide ((10 : Int) ^ (18 : Int).toNat ≤ i))
      walk_at "et"
    · show EvD K Md.pure _ _ _ _ d
      walk_at "ev"
  have tt := t'.trans t3
  obtain ⟨h, xs, rfl, jh, ha⟩ := da_lst a3
  cases ha with
  | cons b1 b2 =>
    obtain ⟨u, rfl, b3⟩ := das_one b2
    obtain ⟨g, ys, rfl, jg, hb⟩ := da_lst b1
    have eu := da_int b3
    subst eu
    have ey := das_ints_eq (ns := (cs.filter fun i => decide ((10 : Int) ^ 18 ≤ i)).reverse) hb
    subst ey
    have fresh : ∀ {x o}, J3 x = some o → H x = none := fun {x o} e => by
      cases q : H x with
      | none => rfl
      | some u => rw [tt.frp x (by rw [q]; exact nofun) rfl] at e; cases e
    refine k h g H3 (fun a o e => tt.keep a o (fun z => z) e) (fresh jh) (fresh jg) (fun e => ?_) ⟨_, n, tt.jh _ _ jh, tt.jh _ _ jg, fun x hx => ?_, ?_, n0, n1⟩
    · rw [e, jg] at jh
      have z := HO.lst.inj (Option.some.inj jh)
      cases hl : (cs.filter fun i => decide ((10 : Int) ^ 18 ≤ i)).reverse with
      | nil => rw [hl] at z; cases z
      | cons i is => rw [hl] at z; cases z
    · exact cpos x (List.mem_filter.mp (List.mem_reverse.mp hx)).1
    · rw [List.length_reverse]
      exact Nat.le_trans (List.length_filter_le _ _) clen
end DL

/-! More rules over data: comprehensions over pairs, any, sorted, isinstance, dicts that are only read, lists of one's own looked at while they grow. -/
namespace DL
open PySem PySem.Spec
open PyProof.Rows L2
local macro_rules | `(tactic| walk_at "rep") => `(tactic| first | assumption | exact Da.int _ | exact Da.bl _ | exact Da.str _ | exact Da.non | exact Sub.da (by assumption) (by assumption) | exact Sub.da (Tr.jj (by assumption)) (by assumption))
local macro_rules | `(tactic| walk_at "arith") => `(tactic| first | assumption | omega | decide | exact cmul_small (by omega) (by omega) | exact cdiv_small (by omega) (by omega))
local macro_rules | `(tactic| walk_at "shp") => `(tactic| first | exact sh_int _ | exact sh_tup _ | exact sh_list _ | assumption)
local macro_rules | `(tactic| walk_at "od") => `(tactic| first
  | with_reducible exact od_plus
  | with_reducible exact od_sub
  | ((with_reducible refine' od_mul ?h1); walk_at "arith")
  | ((with_reducible refine' od_mod ?h1); walk_at "arith")
  | ((with_reducible refine' od_fdiv ?h1); walk_at "arith")
  | ((with_reducible refine' od_pow ?h1); exact ⟨by decide, by decide, by decide⟩)
  | with_reducible exact od_lt | with_reducible exact od_le | with_reducible exact od_gt | with_reducible exact od_ge
  | ((with_reducible refine' od_plusT ?h1); walk_at "arith")
  | ((with_reducible refine' od_plusL ?h1); walk_at "arith")
  | ((with_reducible refine' od_plusS ?h1); walk_at "arith")
  | with_reducible exact od_isN | with_reducible exact od_notN
  | ((with_reducible refine od_eq ?_ ?_) <;> walk_at "shp")
  | ((with_reducible refine od_ne ?_ ?_) <;> walk_at "shp")
  | ((with_reducible refine od_inL ?_ ?_) <;> walk_at "shp")
  | ((with_reducible refine od_ixL ?_); assumption)
  | ((with_reducible refine od_ixT ?_); assumption))
local macro_rules | `(tactic| walk_at "ea") => `(tactic| first | with_reducible exact ea_nil | ((with_reducible refine' ea_consD ?h1 ?h2); (case h1 => walk_at "ev"); (case h2 => walk_at "ea")))
local macro_rules | `(tactic| walk_at "eo") => `(tactic| first | with_reducible exact eo_none | ((with_reducible refine' eo_at ?h1); (case h1 => walk_at "ev")))
local macro_rules | `(tactic| walk_at "cd") => `(tactic| first
  | with_reducible exact cd_lenL | with_reducible exact cd_lenT | with_reducible exact cd_tupL | with_reducible exact cd_tupT | with_reducible exact cd_lstL | with_reducible exact cd_lstT | with_reducible exact cd_abs | with_reducible exact cd_int)
local macro_rules | `(tactic| walk_at "ev") => `(tactic| first
  | with_reducible exact ev_int | with_reducible exact ev_bl | with_reducible exact ev_str | with_reducible exact ev_non
  | ((with_reducible refine' ev_var ?h1 ?h2); (case h1 => exact rfl); (case h2 => walk_at "rep"))
  | ((with_reducible refine' ev_opD ?h1 ?h2 ?h3); (case h1 => walk_at "ev"); (case h2 => walk_at "ev"); (case h3 => walk_at "od"))
  | ((with_reducible refine' ev_tupD ?h1); (case h1 => walk_at "ea"))
  | ((with_reducible refine' ev_lstD ?h1); (case h1 => walk_at "ea"))
  | ((with_reducible refine' ev_revL ?h1); (case h1 => walk_at "ev"))
  | ((with_reducible refine' ev_slD ?h1 ?h2 ?h3 ?h4); (case h1 => walk_at "ev"); (case h2 => walk_at "eo"); (case h3 => walk_at "eo"); (case h4 => first | with_reducible exact sd_tup | with_reducible exact sd_list))
  | ((with_reducible refine' ev_cbD ?h1 ?h2); (case h1 => walk_at "ea"); (case h2 => walk_at "cd"))
  | ((with_reducible refine' ev_notV ?h1); (case h1 => walk_at "ev"))
  | assumption)
local macro_rules | `(tactic| walk_at "et") => `(tactic| first
  | ((with_reducible refine' et_testD ?h1); (case h1 => walk_at "ev"))
  | ((with_reducible refine' et_BD ?h1); (case h1 => walk_at "ev"))
  | ((with_reducible refine' et_notD ?h1); (case h1 => walk_at "et"))
  | ((with_reducible refine' et_andD ?h1 ?h2); (case h1 => walk_at "et"); (case h2 => intro _; walk_at "et"))
  | ((with_reducible refine' et_orD ?h1 ?h2); (case h1 => walk_at "et"); (case h2 => intro _; walk_at "et"))
  | assumption)
section
variable {K : PySem.W.Frag} {M : Md} {σ : L2.St} {J H J' H' J0 H0 J1 H1 : Hp} {ta tb te tc : TE} {P P' Px : PyData → Prop} {d dx dy : PyData} {v : V} {i j : Int}
/-- a comprehension over pairs -/
theorem ev_lc2 {k l : Nat} {wi : TI} {tt : TT} {vs : List Nat} {Pw : List PyData → Prop} (I : List PyData → Nat → List PyData → Prop) (hw : EvW K M wi σ J H Pw) (hz : ∀ ds, Pw ds → ds.length < sizeLine) (hp : ∀ ds, Pw ds → ∀ d ∈ ds, ∃ x y, d = .tuple [x, y]) (h0 : ∀ ds, Pw ds → I ds 0 [])
    (hv : ∀ x y, wipe (((wipe σ vs).set k (some x)).set l (some y)) vs = wipe σ vs)
    (hs : ∀ ds i d e acc x y J1 H1, Pw ds → ds[i]? = some (.tuple [d, e]) → I ds i acc → Wf M J1 H1 → Tr M J H J1 H1 → Da K J1 x d → Da K J1 y e → ∃ Pb : Bool → Prop, EvT M tt (((wipe σ vs).set k (some x)).set l (some y)) J1 H1 Pb ∧
      (Pb false → I ds (i + 1) acc) ∧ (Pb true → EvP K M te (((wipe σ vs).set k (some x)).set l (some y)) J1 H1 fun e => I ds (i + 1) (acc ++ [e])))
    (hd : ∀ ds acc, Pw ds → I ds ds.length acc → P (.list acc)) : EvP K M (tLc wi (gTup K 2 (gCons (gName k) (gCons (gName l) gNil))) tt te vs) σ J H P := fun Ja Ha wa ta' Q q =>
  hw Ja Ha wa ta' _ fun A ds J2 H2 w2 t2 pw wd D hD => by
    have nfD : ¬ M.fp D := w2.nofp hD
    refine ⟨fun i m G => m = ds.length - i ∧ i ≤ ds.length ∧ ∃ J' acc ys, (Wf M J' G ∧ Tr M J2 H2 J' G) ∧ (G D = some (.lst ys) ∧ J' D = none) ∧ Das K J' ys acc ∧ ys.length ≤ i ∧ I ds i acc,
      ⟨ds.length, rfl, Nat.zero_le _, J2, [], [], ⟨(w2.cell hD).wf w2, w2.cell hD⟩, ⟨upd_same, w2.jh.back hD⟩, .nil, Nat.le_refl _, h0 ds pw⟩, ?_⟩
    rintro i m G ⟨rfl, hi, J', acc, ys, ⟨w', t'⟩, ⟨hG, jD⟩, ha, hl, hI⟩
    by_cases hlt : i < ds.length
    · refine .inr ⟨wd.go i G hlt (t'.jj.trans t'.jh), fun G' => ∃ J' acc ys, (Wf M J' G' ∧ Tr M J2 H2 J' G') ∧ (G' D = some (.lst ys) ∧ J' D = none) ∧ Das K J' ys acc ∧ ys.length ≤ i + 1 ∧ I ds (i + 1) acc,
        fun G' h' => ⟨_, by omega, rfl, hlt, h'⟩, fun z G' yl => ?_⟩
      have hdi : ds[i]? = some ds[i] := List.getElem?_eq_getElem hlt
      obtain ⟨d, e, ede⟩ := hp ds pw _ (List.getElem_mem hlt)
      rw [ede] at hdi
      -- the pair's things are known: the turn
      have turn : ∀ J3 G3, Wf M J3 G3 → Tr M J2 H2 J3 G3 → G3 D = some (.lst ys) → J3 D = none → Das K J3 ys acc → Da K J3 z (.tuple [d, e]) →
          gTup K 2 (gCons (gName k) (gCons (gName l) gNil)) z (wipe σ vs) G3 fun σ2 H2' => wipe σ2 vs = wipe σ vs ∧ tt σ2 H2' fun b H3 => if b = true then te σ2 H3 fun y H4 => ∃ acc, H4 D = some (.lst acc) ∧ acc.length < sizeLine ∧
            (∃ J' acc' ys, (Wf M J' (upd H4 D (.lst (acc ++ [y]))) ∧ Tr M J2 H2 J' (upd H4 D (.lst (acc ++ [y])))) ∧ ((upd H4 D (.lst (acc ++ [y]))) D = some (.lst ys) ∧ J' D = none) ∧ Das K J' ys acc' ∧ ys.length ≤ i + 1 ∧ I ds (i + 1) acc')
            else ∃ J' acc ys, (Wf M J' H3 ∧ Tr M J2 H2 J' H3) ∧ (H3 D = some (.lst ys) ∧ J' D = none) ∧ Das K J' ys acc ∧ ys.length ≤ i + 1 ∧ I ds (i + 1) acc := by
        intro J3 G3 w3 t3 hG3 jD3 ha3 ax
        obtain ⟨c, us, rfl, ht, hdd⟩ := da_tup ax
        cases hdd with
        | cons a1 rest =>
        obtain ⟨u, rfl, a2⟩ := das_one rest
        refine ⟨c, _, rfl, w3.jh.t ht, rfl, _, _, rfl, _, _, rfl, rfl, hv _ _, ?_⟩
        obtain ⟨Pb, hb, hf, ht2⟩ := hs ds i d e acc _ _ J3 G3 pw hdi hI w3 ((ta'.trans t2).trans t3) a1 a2
        refine hb J3 G3 w3 w3.tr _ fun b J4 G4 w4 t4 pb => ?_
        cases b with
        | false => exact ⟨J4, acc, ys, ⟨w4, t3.trans t4⟩, ⟨t4.keep D _ nfD hG3, t4.cellj hG3 jD3⟩, t4.jj.das ha3, by omega, hf pb⟩
        | true =>
          refine ht2 pb J4 G4 w4 t4 _ fun y e J5 G5 w5 t5 pe ae => ?_
          have t35 := t4.trans t5
          have jD5 := t35.cellj hG3 jD3
          have zz := hz ds pw
          have tp := (t3.trans t35).put (zs := ys ++ [y]) w2 (t35.keep D _ nfD hG3) hD jD5
          refine ⟨ys, t35.keep D _ nfD hG3, by omega, J5, acc ++ [e], ys ++ [y], ⟨tp.wf w2, tp⟩, ⟨upd_same, jD5⟩, das_app (t35.jj.das ha3) (.cons ae .nil), ?_, pe⟩
          rw [List.length_append]; simp only [List.length_cons, List.length_nil]; omega
      rcases wd.yld i G z G' _ hdi (t'.jj.trans t'.jh) yl with ⟨rfl, ax⟩ | ⟨T, xs, es, rfl, hT, rfl, ed, hes⟩
      · exact turn J' G' w' t' hG jD ha (t'.jj.da ax)
      · have tn := w'.new (o := .tup xs) hT
        refine turn _ _ (tn.wf w') (t'.trans tn) (tn.keep D _ nfD hG) (tn.cellj hG jD) (tn.jj.das ha) ?_
        rw [ed]
        exact .tup (.of upd_same) (tn.jj.das (t'.jj.das hes))
    · have e : i = ds.length := by omega
      subst e
      have ti := t'.ice hD jD hG
      exact .inl ⟨wd.stop G (t'.jj.trans t'.jh), q _ _ _ G (ti.wf w2) (t2.trans ti) (hd ds acc pw hI) (.lst upd_same ((Sub.new jD).das ha))⟩
/-- any of a list of bools; sorted numbers -/
theorem das_bls {J : Hp} : ∀ {vs : List V} {bs : List Bool}, Das K J vs (bs.map PyData.bool) → vs = bs.map V.bl
  | [], [], _ => rfl
  | [], _ :: _, h => by cases h
  | _ :: _, [], h => by cases h
  | _ :: _, _ :: _, h => by
    cases h with
    | cons a b => rw [da_bl a, das_bls b]; rfl
theorem cd_any {bs : List Bool} : CbD K M (rAny K) [.list (bs.map PyData.bool)] (· = .bool (bs.any id)) := fun vs J H w a Q q => by
  obtain ⟨v, rfl, av⟩ := das_one a
  obtain ⟨p, xs, rfl, hl, hd⟩ := da_lst av
  have e := das_bls hd
  subst e
  exact ⟨p, bs, rfl, .of (w.jh _ _ hl), q _ _ J H w w.tr rfl (.bl _)⟩
theorem cd_sorted {ns : List Int} : CbD K M (rSortedI K) [.list (oD ns)] (fun d => ∃ ms, d = .list (oD ms) ∧ ms.Perm ns ∧ ms.Pairwise (· ≤ ·)) := fun vs J H w a Q q => by
  obtain ⟨v, rfl, av⟩ := das_one a
  obtain ⟨p, xs, rfl, hl, hd⟩ := da_lst av
  have e := das_ints_eq hd
  subst e
  refine ⟨p, ns, rfl, .of (w.jh _ _ hl), fun ms l h1 h2 hn => ?_⟩
  have t := w.new (o := .lst (ms.map V.int)) hn
  exact q _ _ _ _ (t.wf w) t ⟨ms, rfl, h1, h2⟩ (.lst upd_same (das_intsV ms))
/-- range(n) as a value, made a list -/
theorem ty_tup {ds : List PyData} (h : Da K J v (.tuple ds)) (s : Sub J H) : TyX K H v (.type "tuple") := by
  obtain ⟨a, xs, rfl, ht, _⟩ := da_tup h
  rcases s.t ht with (h | ⟨o, h⟩) | ⟨o, its, n, h, c, _⟩
  · exact .base (.tup h)
  · exact .fTuple h
  · exact .kTuple h c
theorem kit_self (t : Value) : PySem.W.kitOne K t t = some true := by
  unfold PySem.W.kitOne
  rw [if_pos (beq_self_eq_true t)]
/-- a list or a tuple, walked -/
def iSeq (K : PySem.W.Frag) (tl : TE) : TI := fun σ H R => tl σ H fun x G => ∃ a xs, x = .ref a ∧ ((SqL K G a xs ∧ R (Itl K a) G) ∨ (SqT K G a xs ∧ R (Itt K a) G))
theorem pi_seq {X : Cx} {tg l : Expr} {tl : TE} (hl : PE X l tl) : PI X tg l (iSeq X.K tl) := ⟨fun pins s σ H R I h =>
  thn (hl.run pins s σ H _ I h) fun v s1 ⟨x, G, I1, r1, a, xs, e, told⟩ => by
    subst e
    cases r1
    have one : ∀ {o : Obj} {b : Addr}, b ∈ [s1.heap.objs.size] → FpOk X pins G b := fun {o b} hb => by
      rw [List.mem_singleton.mp hb]
      exact I1.fpOk (Nat.le_refl _) (I1.hok.fresh (Nat.le_refl _))
    rcases told with ⟨hq, r⟩ | ⟨hq, r⟩
    · obtain ⟨its, _, p, _⟩ := I1.list hq
      exact wpAny_pyIter_list p.isList ⟨s1.heap.objs.size, [s1.heap.objs.size], _, _, G, rfl, I1.kept (t' := s1.toks) fun b o e => Heap.get?_push_of_some _ e, turn_list a _, ⟨_, Heap.get?_push_size _ rfl, rfl, rfl⟩, fun b hb => one (o := ⟨.none, none, .plain, #[]⟩) hb, r⟩
    · obtain ⟨its, _, p, _⟩ := I1.tuple hq
      exact wpAny_pyIter_tuple (show s1.heap.IsTuple a its.toArray from p) ⟨s1.heap.objs.size, [s1.heap.objs.size], _, _, G, rfl, I1.kept (t' := s1.toks) fun b o e => Heap.get?_push_of_some _ e, turn_tuple a _, ⟨_, Heap.get?_push_size _ rfl, rfl, rfl⟩, fun b hb => one (o := ⟨.none, none, .plain, #[]⟩) hb, r⟩⟩
theorem ew_seq {ds : List PyData} (h : EvP K M te σ J H fun d => d = .list ds ∨ d = .tuple ds) : EvW K M (iSeq K te) σ J H (· = ds) := fun J1 H1 w t R q =>
  h J1 H1 w t _ fun v d J2 H2 w2 t2 e a => by
    rcases e with e | e
    · subst e
      obtain ⟨p, xs, rfl, hl, hd⟩ := da_lst a
      refine ⟨p, xs, rfl, .inl ⟨.of (w2.jh _ _ hl), q _ ds J2 H2 w2 t2 rfl ⟨fun i G hi s => ?_, fun G s => ⟨xs, .of (s _ _ hl), by rw [das_len hd]; exact Nat.le_refl _⟩, fun i G x G' d hd' s y => ?_⟩⟩⟩
      · have hi2 : i < xs.length := by rw [das_len hd]; exact hi
        exact ⟨xs, xs[i], .of (s _ _ hl), List.getElem?_eq_getElem hi2⟩
      · obtain ⟨e, y⟩ := y
        obtain ⟨d2, e2, a2⟩ := das_at hd (y xs (.of (s _ _ hl)))
        rw [hd'] at e2
        cases e2
        exact .inl ⟨e, a2⟩
    · subst e
      obtain ⟨p, xs, rfl, hl, hd⟩ := da_tup a
      refine ⟨p, xs, rfl, .inr ⟨w2.jh.t hl, q _ ds J2 H2 w2 t2 rfl ⟨fun i G hi s => ?_, fun G s => ⟨xs, s.t hl, by rw [das_len hd]; exact Nat.le_refl _⟩, fun i G x G' d hd' s y => ?_⟩⟩⟩
      · have hi2 : i < xs.length := by rw [das_len hd]; exact hi
        exact ⟨xs, xs[i], s.t hl, List.getElem?_eq_getElem hi2⟩
      · obtain ⟨e, y⟩ := y
        obtain ⟨d2, e2, a2⟩ := das_at hd (y xs (s.t hl))
        rw [hd'] at e2
        cases e2
        exact .inl ⟨e, a2⟩
/-! ### a list of one's own that still grows: is it empty -/
theorem et_full {k : Nat} {p : Addr} {ys : List V} (hs : σ[k]? = some (some (.ref p))) (hH : H p = some (.lst ys)) (nf : ¬ M.fp p) : EvT M (tTruth K (tVar k)) σ J H (· = !ys.isEmpty) := fun J1 H1 w t Q q =>
  ⟨.ref p, hs, _, .inl ⟨ys, .of (t.keep p _ nf hH), rfl⟩, q _ J1 H1 w w.tr rfl⟩
theorem dp_cell {p : Addr} {ys : List V} {ds : List PyData} (hH : H p = some (.lst ys)) (a : Das K J ys ds) (s : Sub J H) : Dp K H (.ref p) (.list ds) := .lst (.of hH) (a.dp s)
/-- x != [] of such a list -/
theorem ev_neNil {k : Nat} {p : Addr} {ys : List V} {ds : List PyData} (hs : σ[k]? = some (some (.ref p))) (hH : H p = some (.lst ys)) (nf : ¬ M.fp p) (a : Das K J ys ds) (hsh : SeqAt.shaped (.list ds) = true) : EvD K M (tOp (rNeD K) (tVar k) (tLst tNil)) σ J H (.bool (!PyData.eqv (.list ds) (.list []))) := fun J1 H1 w t Q q =>
  ⟨.ref p, hs, Nat.zero_le _, fun l hl => by
    have t2 := w.new (o := .lst []) hl
    have w2 := t2.wf w
    have tt := t.trans t2
    exact ⟨.list ds, .list [], dp_cell (tt.keep p _ nf hH) (tt.jj.das a) w2.jh, .lst (.of (w2.jh _ _ upd_same)) .nil, hsh, by decide, q _ _ _ _ w2 t2 rfl (.bl _)⟩⟩
/-! ### dicts with numbers as keys, only read -/
def rDictP (K : PySem.W.Frag) : List V → Hp → VK → Prop := fun xs H Q => ∃ (a : Addr) (ps : List Addr) (kvs : List (Key × V)), xs = [.ref a] ∧ SqL K H a (ps.map V.ref) ∧ Paired (fun p kv => SqT K H p [kV kv.1, kv.2]) ps kvs ∧ ∀ p, H p = none → Q (.ref p) (upd H p (.dK (mergeK [] kvs)))
theorem cl_dictP {X : Cx} (hc : X.calm = true) : CallR X (.type "dict") (rDictP X.K) := call_dictP hc
abbrev kI (i : Int) : Key := .inl i
theorem merge_val {f : Int → PyData} : ∀ (more acc : List (Key × V)), (∀ kv ∈ more, ∃ i, kv.1 = .inl i ∧ Da K J kv.2 (f i)) → (∀ k v, valV acc k = some v → ∃ i, k = .inl i ∧ Da K J v (f i)) →
    ∀ i, (kI i ∈ more.map (·.1) ∨ (valV acc (.inl i)).isSome = true) → ∃ v, valV (mergeK acc more) (.inl i) = some v ∧ Da K J v (f i)
  | [], acc, _, h, i, hi => by
    rcases hi with hi | hi
    · cases hi
    · obtain ⟨v, e⟩ := Option.isSome_iff_exists.mp hi
      obtain ⟨j, ej, a⟩ := h _ v e
      cases ej
      exact ⟨v, e, a⟩
  | (k, v) :: more, acc, g, h, i, hi => by
    obtain ⟨j, ej, a⟩ := g (k, v) List.mem_cons_self
    have ej : k = .inl j := ej
    subst ej
    refine merge_val more (putK acc (.inl j) v) (fun kv hkv => g kv (List.mem_cons_of_mem _ hkv)) (fun k' v' e => ?_) i ?_
    · rw [L2.valV_put] at e
      by_cases hk : k' = kI j
      · rw [if_pos hk] at e
        cases e
        exact ⟨j, hk, a⟩
      · rw [if_neg hk] at e
        exact h k' v' e
    · rw [L2.valV_put]
      by_cases hk : kI i = .inl j
      · exact .inr (by rw [if_pos hk]; rfl)
      · rw [if_neg hk]
        rcases hi with hi | hi
        · rcases List.mem_cons.mp hi with e | e
          · exact (hk e).elim
          · exact .inl e
        · exact .inr hi
/-- a list of pairs (number, datum), as dict wants it -/
theorem das_pairs {f : Int → PyData} {G : Hp} (s : Sub J G) : ∀ {is : List Int} {vs : List V}, Das K J vs (is.map fun i => .tuple [.int i, f i]) → ∃ (ps : List Addr) (kvs : List (Key × V)), vs = ps.map V.ref ∧ Paired (fun p kv => SqT K G p [kV kv.1, kv.2]) ps kvs ∧ kvs.map (·.1) = is.map kI ∧ ∀ kv ∈ kvs, ∃ i, kv.1 = .inl i ∧ Da K J kv.2 (f i)
  | [], _, h => by cases h; exact ⟨[], [], rfl, .nil, rfl, nofun⟩
  | i :: is, _, h => by
    cases h with
    | cons a b =>
    obtain ⟨ps, kvs, e1, e2, e3, e4⟩ := das_pairs s b
    obtain ⟨p, us, rfl, ht, hd⟩ := da_tup a
    cases hd with
    | cons a1 a2 =>
    obtain ⟨u, rfl, a3⟩ := das_one a2
    rw [da_int a1] at ht
    refine ⟨p :: ps, (.inl i, u) :: kvs, by rw [e1]; rfl, .cons (s.t ht) e2, by rw [List.map_cons, List.map_cons, e3], fun kv hkv => ?_⟩
    rcases List.mem_cons.mp hkv with e | e
    · rw [e]; exact ⟨i, rfl, a3⟩
    · exact e4 kv e
/-- xs = dict(pairs) -/
theorem s_dict {k : Nat} {f : Int → PyData} {is : List Int} {D : Ends} (w : Wf M J H) (h : EvD K M te σ J H (.list (is.map fun i => .tuple [.int i, f i])))
    (q : ∀ p kvs J1 H1, Wf M J1 H1 → Tr M J H J1 H1 → J1 p = some (.dK kvs) → (∀ i ∈ is, ∃ v, valV kvs (.inl i) = some v ∧ Da K J1 v (f i)) → D.nx (σ.set k (some (.ref p))) H1) : tAsg (tCB (rDictP K) (tCons te tNil)) (gName k) D σ H :=
  h J H w w.tr _ fun v d J1 H1 w1 t1 e a => by
    subst e
    obtain ⟨p, xs, rfl, hl, hd⟩ := da_lst a
    obtain ⟨ps, kvs, e1, e2, e3, e4⟩ := das_pairs w1.jh hd
    subst e1
    refine ⟨p, ps, kvs, rfl, .of (w1.jh _ _ hl), e2, fun l hn => ?_⟩
    have t2 := w1.new (o := .dK (mergeK [] kvs)) hn
    refine q l (mergeK [] kvs) _ _ (t2.wf w1) (t1.trans t2) upd_same fun i hi => ?_
    obtain ⟨v, h1, h2⟩ := merge_val kvs [] e4 (fun k v e => by cases e) i (.inl (by rw [e3]; exact List.mem_map.mpr ⟨i, hi, rfl⟩))
    exact ⟨v, h1, t2.jj.da h2⟩
theorem ev_dget {k : Nat} {p : Addr} {kvs : List (Key × V)} (hs : σ[k]? = some (some (.ref p))) (hJ : J p = some (.dK kvs)) (hi : EvD K M te σ J H (.int i)) (hv : valV kvs (.inl i) = some v) (ha : Da K J v d) : EvD K M (tDGet (tVar k) te) σ J H d := fun J1 H1 w t Q q =>
  ⟨.ref p, hs, hi J1 H1 w t _ fun x d' J2 H2 w2 t2 e a => by
    subst e
    rw [da_int a]
    exact ⟨p, v, rfl, .inl ⟨kvs, .inl i, .of (w2.jh _ _ ((t.trans t2).jj _ _ hJ)), rfl, hv.symm⟩, q v d J2 H2 w2 t2 rfl ((t.trans t2).jj.da ha)⟩⟩
end
end DL

/-! in, not in of a tuple of data; list(range(n)); keywords the other way round. -/
namespace DL
open PySem PySem.Spec
open PyProof.Rows L2
local macro_rules | `(tactic| walk_at "rep") => `(tactic| first | assumption | exact Da.int _ | exact Da.bl _ | exact Da.str _ | exact Da.non | exact Sub.da (by assumption) (by assumption) | exact Sub.da (Tr.jj (by assumption)) (by assumption))
local macro_rules | `(tactic| walk_at "arith") => `(tactic| first | assumption | omega | decide | exact cmul_small (by omega) (by omega) | exact cdiv_small (by omega) (by omega))
local macro_rules | `(tactic| walk_at "shp") => `(tactic| first | exact sh_int _ | exact sh_tup _ | exact sh_list _ | assumption)
local macro_rules | `(tactic| walk_at "od") => `(tactic| first
  | with_reducible exact od_plus
  | with_reducible exact od_sub
  | ((with_reducible refine' od_mul ?h1); walk_at "arith")
  | ((with_reducible refine' od_mod ?h1); walk_at "arith")
  | ((with_reducible refine' od_fdiv ?h1); walk_at "arith")
  | ((with_reducible refine' od_pow ?h1); exact ⟨by decide, by decide, by decide⟩)
  | with_reducible exact od_lt | with_reducible exact od_le | with_reducible exact od_gt | with_reducible exact od_ge
  | ((with_reducible refine' od_plusT ?h1); walk_at "arith")
  | ((with_reducible refine' od_plusL ?h1); walk_at "arith")
  | ((with_reducible refine' od_plusS ?h1); walk_at "arith")
  | with_reducible exact od_isN | with_reducible exact od_notN
  | ((with_reducible refine od_eq ?_ ?_) <;> walk_at "shp")
  | ((with_reducible refine od_ne ?_ ?_) <;> walk_at "shp")
  | ((with_reducible refine od_inL ?_ ?_) <;> walk_at "shp")
  | ((with_reducible refine od_ixL ?_); assumption)
  | ((with_reducible refine od_ixT ?_); assumption))
local macro_rules | `(tactic| walk_at "ea") => `(tactic| first | with_reducible exact ea_nil | ((with_reducible refine' ea_consD ?h1 ?h2); (case h1 => walk_at "ev"); (case h2 => walk_at "ea")))
local macro_rules | `(tactic| walk_at "eo") => `(tactic| first | with_reducible exact eo_none | ((with_reducible refine' eo_at ?h1); (case h1 => walk_at "ev")))
local macro_rules | `(tactic| walk_at "cd") => `(tactic| first
  | with_reducible exact cd_lenL | with_reducible exact cd_lenT | with_reducible exact cd_tupL | with_reducible exact cd_tupT | with_reducible exact cd_lstL | with_reducible exact cd_lstT | with_reducible exact cd_abs | with_reducible exact cd_int)
local macro_rules | `(tactic| walk_at "ev") => `(tactic| first
  | with_reducible exact ev_int | with_reducible exact ev_bl | with_reducible exact ev_str | with_reducible exact ev_non
  | ((with_reducible refine' ev_var ?h1 ?h2); (case h1 => exact rfl); (case h2 => walk_at "rep"))
  | ((with_reducible refine' ev_opD ?h1 ?h2 ?h3); (case h1 => walk_at "ev"); (case h2 => walk_at "ev"); (case h3 => walk_at "od"))
  | ((with_reducible refine' ev_tupD ?h1); (case h1 => walk_at "ea"))
  | ((with_reducible refine' ev_lstD ?h1); (case h1 => walk_at "ea"))
  | ((with_reducible refine' ev_revL ?h1); (case h1 => walk_at "ev"))
  | ((with_reducible refine' ev_slD ?h1 ?h2 ?h3 ?h4); (case h1 => walk_at "ev"); (case h2 => walk_at "eo"); (case h3 => walk_at "eo"); (case h4 => first | with_reducible exact sd_tup | with_reducible exact sd_list))
  | ((with_reducible refine' ev_cbD ?h1 ?h2); (case h1 => walk_at "ea"); (case h2 => walk_at "cd"))
  | ((with_reducible refine' ev_notV ?h1); (case h1 => walk_at "ev"))
  | assumption)
local macro_rules | `(tactic| walk_at "et") => `(tactic| first
  | ((with_reducible refine' et_testD ?h1); (case h1 => walk_at "ev"))
  | ((with_reducible refine' et_BD ?h1); (case h1 => walk_at "ev"))
  | ((with_reducible refine' et_notD ?h1); (case h1 => walk_at "et"))
  | ((with_reducible refine' et_andD ?h1 ?h2); (case h1 => walk_at "et"); (case h2 => intro _; walk_at "et"))
  | ((with_reducible refine' et_orD ?h1 ?h2); (case h1 => walk_at "et"); (case h2 => intro _; walk_at "et"))
  | assumption)
def rInDT (K : PySem.W.Frag) (neg : Bool) : R2 := fun x y H Q => ∃ d ds, (Dp K H x d ∧ SeqAt.shaped d = true) ∧ (Dp K H y (.tuple ds) ∧ SeqAt.shaped (.tuple ds) = true) ∧ Q (.bl (if neg then !(ds.any fun z => PyData.eqv z d) else ds.any fun z => PyData.eqv z d)) H
theorem op_notInDT {X : Cx} (hu : X.A.units + 65 < cLine) : OpR X (compareOp .NotIn) (rInDT X.K true) := fun pins s σ H x y v u Q I rx ry ⟨d, ds, ⟨hd, sd⟩, ⟨he, se⟩, q⟩ => by
  obtain ⟨as, r1⟩ := Dp.reads I d x v hd rx
  obtain ⟨bs, r2⟩ := Dp.reads I (.tuple ds) y u he ry
  exact SeqAt.notIn_tuple_reads r2 r1 (SeqAt.canLay_of_shaped se) (SeqAt.canLay_of_shaped sd) (room_in_shaped sd hu) ⟨.bl _, H, I, rfl, q⟩
theorem op_inDT {X : Cx} (hu : X.A.units + 65 < cLine) : OpR X (compareOp .In) (rInDT X.K false) := fun pins s σ H x y v u Q I rx ry ⟨d, ds, ⟨hd, sd⟩, ⟨he, se⟩, q⟩ => by
  obtain ⟨as, r1⟩ := Dp.reads I d x v hd rx
  obtain ⟨bs, r2⟩ := Dp.reads I (.tuple ds) y u he ry
  exact SeqAt.in_tuple_reads r2 r1 (SeqAt.canLay_of_shaped se) (SeqAt.canLay_of_shaped sd) (room_in_shaped sd hu) ⟨.bl _, H, I, rfl, q⟩
section
variable {K : PySem.W.Frag} {M : Md} {σ : L2.St} {J H : Hp} {ta te : TE} {dx : PyData} {ds : List PyData}
theorem od_niT (sx : SeqAt.shaped dx = true) (sy : SeqAt.shaped (.tuple ds) = true) : OpD K M (rInDT K true) dx (.tuple ds) (· = .bool (!ds.any fun z => PyData.eqv z dx)) :=
  od_flat (v := .bl _) (fun x y J H s ax ay Q q => ⟨dx, ds, ⟨ax.dp s, sx⟩, ⟨ay.dp s, sy⟩, q⟩) fun _ => .bl _
theorem od_inT (sx : SeqAt.shaped dx = true) (sy : SeqAt.shaped (.tuple ds) = true) : OpD K M (rInDT K false) dx (.tuple ds) (· = .bool (ds.any fun z => PyData.eqv z dx)) :=
  od_flat (v := .bl _) (fun x y J H s ax ay Q q => ⟨dx, ds, ⟨ax.dp s, sx⟩, ⟨ay.dp s, sy⟩, q⟩) fun _ => .bl _
/-- 0, 1, .. below n, as numbers -/
def rg (n : Nat) : List Int := (List.range n).map fun i : Nat => (i : Int)
theorem rg_mem {n : Nat} {x : Int} (h : x ∈ rg n) : 0 ≤ x ∧ x < n := by
  obtain ⟨i, hi, rfl⟩ := List.mem_map.mp h
  have := List.mem_range.mp hi
  omega
theorem rg_len (n : Nat) : (rg n).length = n := by unfold rg; simp
theorem ev_listRg {n : Nat} (h : EvD K M te σ J H (.int (n : Int))) (hn : n ≤ 2 ^ 20) : EvD K M (tLstRg (tRg1 te)) σ J H (.list (oD (rg n))) := fun J1 H1 w t Q q =>
  h J1 H1 w t _ fun v d J2 H2 w2 t2 e a => by
    subst e
    refine ⟨(n : Int), da_int a, RgOk.of_le (by decide) (by omega) (by decide) (by omega), fun p hp => ?_⟩
    have e1 : rgV 0 (n : Int) = (rg n).map V.int := by
      unfold rgV rg
      rw [List.map_map, show ((n : Int) - 0).toNat = n by omega]
      refine List.map_congr_left fun i _ => ?_
      show V.int (0 + (i : Int)) = V.int (i : Int)
      rw [Int.zero_add]
    rw [e1]
    have t3 := w2.new (o := .lst ((rg n).map V.int)) hp
    exact q _ _ _ _ (t3.wf w2) (t2.trans t3) rfl (.lst upd_same (t3.jj.das (das_intsV _)))
end
/-! ### f(b=.., a=..): the keywords the other way round -/
theorem fun_kbR {K : PySem.W.Frag} {x qual : Str} {params : Arguments} {body : List Stmt} {scope : Scope} {f : Addr} {fd : FuncData} {ps : List Str} (F : FunD K x qual params body scope [] [] f fd) (ks : List Str)
    (h : ∀ (kV doc pm : Value) (an : Option Addr) (cdv ct : Value) (ws : List Value), ws.length = ks.length → bindArgs (PySem.W.fnOf x qual params body scope .none kV doc pm an cdv ct) ⟨[], ks.zip ws⟩ = pure (ps.zip ws.reverse)) :
    KBn K fd ps 0 ks (fun _ ws => ws.reverse) (fun _ zs => zs.reverse) := by
  obtain ⟨_, _, _, k1, d1, m1, a1, c1, t1, _, e, _, _, dfl, _⟩ := F.ex
  subst e
  have rv : ∀ {zs : List V} {ws : List Value}, Vals zs ws → Vals zs.reverse ws.reverse := by
    intro zs ws r
    induction r with
    | nil => exact .nil
    | cons a b ih => rw [List.reverse_cons, List.reverse_cons]; exact ih.append (.cons a .nil)
  match dfl with
  | .inl ⟨_, none_⟩ =>
    subst none_
    refine ⟨fun s us ws _ l1 l2 => ?_, fun _ r2 => rv r2⟩
    have e : us = [] := List.eq_nil_of_length_eq_zero l1
    subst e
    exact .of_eq (h k1 d1 m1 a1 c1 t1 ws l2)
  | .inr ⟨some_, _⟩ => exact absurd rfl some_
structure CaR (P : Program) (w : World) (K : PySem.W.Frag) (mg : Str → Option Value) (base : Heap) (CX : CXT) (k : Nat) (x : Str) (ps : List Str) (ks : List Str) (sp : Sp) : Prop where
  has : ∃ f fd, FnOk P w K mg base CX k f fd ps sp ∧ mg x = some (.ref f) ∧ PySem.W.keepIn K (.ref f) = true ∧ KBn K fd ps 0 ks (fun _ ws => ws.reverse) (fun _ zs => zs.reverse)
theorem xCallKr {X : Cx} {CX : CXT} {k : Nat} {ps ks : List Str} {sp : Sp} {E : XK} {kws : List Keyword} {p pos : Pos} {x : Str} {tk : TA} (C : CaR X.prog X.w X.K X.mg X.base CX k x ps ks sp) (hr : Room k X.A) (hx : Passes CX X E) (hkw : PK X kws tk) (hg : Gl X x := by rfl) (hdb : (x == ("__debug__" : Str)) = false := by decide)
    (hall : (backToKw pos (keywordEach kws X.env)).all (·.1.isSome) = true := by rfl) (hks : (backToKw pos (keywordEach kws X.env)).filterMap (·.1) = ks := by rfl) (hpl : ((backTo pos (starEach [] X.env)).any (·.1) || (backToKw pos (keywordEach kws X.env)).any (·.1.isNone)) = false := by rfl) :
    PE X (.Call (.Name x p) [] kws pos) (fun σ H Q => tk σ H fun zs H2 => zs.length = ks.length ∧ sp zs.reverse H2 Q E) := by
  obtain ⟨f, fd, F, hm, hk, hb⟩ := C.has
  refine ⟨fun pins s σ H Q I h => wpAny_Call_Name_kw (ld_glob I hg hm ?_ hdb)⟩
  refine PySem.W.callWith_KW0 (h₀ := X.base) I.ok.mod.kin hk hall (thn (hkw.run pos pins s σ H _ I h) fun ws s2 ⟨zs, H2, I2, rz, l1, q2⟩ => ⟨I2.kIn, ?_⟩) hpl
  rw [hks]
  exact run_fnN (us := []) (vs := []) F hr hb hx I2 .nil rz rfl l1 q2
theorem das_revV {K : PySem.W.Frag} {J : Hp} {vs : List V} {ds : List PyData} (h : Das K J vs ds) : Das K J vs.reverse ds.reverse := das_rev h
theorem ev_callKr {K : PySem.W.Frag} {M : Md} {σ : L2.St} {J H : Hp} {sp : Sp} {E : XK} {m : Nat} {ta : TA} {ds : List PyData} {P : PyData → Prop} (h : EvA K M ta σ J H (· = ds)) (hm : ds.length = m) (ho : SpD K M sp ds.reverse P E) : EvP K M (fun σ H Q => ta σ H fun zs H2 => zs.length = m ∧ sp zs.reverse H2 Q E) σ J H P := fun J1 H1 w t Q q =>
  h J1 H1 w t _ fun vs ds' J2 H2 w2 t2 e a => by
    subst e
    exact ⟨by rw [das_len a]; exact hm, ho vs.reverse J2 H2 w2 (das_revV a) Q fun v d J3 H3 w3 t3 p a3 => q v d J3 H3 w3 (t2.trans t3) p a3⟩
end DL

/-! Rules within a comprehension: what is known of the text is named. -/
namespace DL
open PySem PySem.Spec
open PyProof.Rows L2
local macro_rules | `(tactic| walk_at "rep") => `(tactic| first | assumption | exact Da.int _ | exact Da.bl _ | exact Da.str _ | exact Da.non | exact Sub.da (by assumption) (by assumption) | exact Sub.da (Tr.jj (by assumption)) (by assumption))
local macro_rules | `(tactic| walk_at "arith") => `(tactic| first | assumption | omega | decide | exact cmul_small (by omega) (by omega) | exact cdiv_small (by omega) (by omega))
local macro_rules | `(tactic| walk_at "shp") => `(tactic| first | exact sh_int _ | exact sh_tup _ | exact sh_list _ | assumption)
local macro_rules | `(tactic| walk_at "od") => `(tactic| first
  | with_reducible exact od_plus
  | with_reducible exact od_sub
  | ((with_reducible refine' od_mul ?h1); walk_at "arith")
  | ((with_reducible refine' od_mod ?h1); walk_at "arith")
  | ((with_reducible refine' od_fdiv ?h1); walk_at "arith")
  | ((with_reducible refine' od_pow ?h1); exact ⟨by decide, by decide, by decide⟩)
  | with_reducible exact od_lt | with_reducible exact od_le | with_reducible exact od_gt | with_reducible exact od_ge
  | ((with_reducible refine' od_plusT ?h1); walk_at "arith")
  | ((with_reducible refine' od_plusL ?h1); walk_at "arith")
  | ((with_reducible refine' od_plusS ?h1); walk_at "arith")
  | with_reducible exact od_isN | with_reducible exact od_notN
  | ((with_reducible refine od_eq ?_ ?_) <;> walk_at "shp")
  | ((with_reducible refine od_ne ?_ ?_) <;> walk_at "shp")
  | ((with_reducible refine od_inL ?_ ?_) <;> walk_at "shp")
  | ((with_reducible refine od_ixL ?_); assumption)
  | ((with_reducible refine od_ixT ?_); assumption))
local macro_rules | `(tactic| walk_at "ea") => `(tactic| first | with_reducible exact ea_nil | ((with_reducible refine' ea_consD ?h1 ?h2); (case h1 => walk_at "ev"); (case h2 => walk_at "ea")))
local macro_rules | `(tactic| walk_at "eo") => `(tactic| first | with_reducible exact eo_none | ((with_reducible refine' eo_at ?h1); (case h1 => walk_at "ev")))
local macro_rules | `(tactic| walk_at "cd") => `(tactic| first
  | with_reducible exact cd_lenL | with_reducible exact cd_lenT | with_reducible exact cd_tupL | with_reducible exact cd_tupT | with_reducible exact cd_lstL | with_reducible exact cd_lstT | with_reducible exact cd_abs | with_reducible exact cd_int)
local macro_rules | `(tactic| walk_at "ev") => `(tactic| first
  | with_reducible exact ev_int | with_reducible exact ev_bl | with_reducible exact ev_str | with_reducible exact ev_non
  | ((with_reducible refine' ev_var ?h1 ?h2); (case h1 => exact rfl); (case h2 => walk_at "rep"))
  | ((with_reducible refine' ev_opD ?h1 ?h2 ?h3); (case h1 => walk_at "ev"); (case h2 => walk_at "ev"); (case h3 => walk_at "od"))
  | ((with_reducible refine' ev_tupD ?h1); (case h1 => walk_at "ea"))
  | ((with_reducible refine' ev_lstD ?h1); (case h1 => walk_at "ea"))
  | ((with_reducible refine' ev_revL ?h1); (case h1 => walk_at "ev"))
  | ((with_reducible refine' ev_slD ?h1 ?h2 ?h3 ?h4); (case h1 => walk_at "ev"); (case h2 => walk_at "eo"); (case h3 => walk_at "eo"); (case h4 => first | with_reducible exact sd_tup | with_reducible exact sd_list))
  | ((with_reducible refine' ev_cbD ?h1 ?h2); (case h1 => walk_at "ea"); (case h2 => walk_at "cd"))
  | ((with_reducible refine' ev_notV ?h1); (case h1 => walk_at "ev"))
  | assumption)
local macro_rules | `(tactic| walk_at "et") => `(tactic| first
  | ((with_reducible refine' et_testD ?h1); (case h1 => walk_at "ev"))
  | ((with_reducible refine' et_BD ?h1); (case h1 => walk_at "ev"))
  | ((with_reducible refine' et_notD ?h1); (case h1 => walk_at "et"))
  | ((with_reducible refine' et_andD ?h1 ?h2); (case h1 => walk_at "et"); (case h2 => intro _; walk_at "et"))
  | ((with_reducible refine' et_orD ?h1 ?h2); (case h1 => walk_at "et"); (case h2 => intro _; walk_at "et"))
  | assumption)
section
variable {X : Cx} {a b e : Expr} {es : List Expr} {ta tb te : TE} {p pos : Pos} {x : Str} {t : TA}
theorem xIxK (K' : PySem.W.Frag) (hK : X.K = K') (ha : PE X a ta) (hb : PE X b tb) (hs : PlainIx b := by exact fun _ _ => rfl) : PE X (.Subscript a b pos) (tOp (rIx K') ta tb) := by
  subst hK
  exact xIx ha hb hs
theorem xTruthK (K' : PySem.W.Frag) (hK : X.K = K') (ha : PE X a ta) (he : ∀ whole, isTrue a X.env whole = (do let v ← whole; standAt a.pos; holding [v] (truthy v)) := by intro _; rfl) : PT X a (tTruth K' ta) := by
  subst hK
  exact xTruth ha he
theorem op_plusK (K' : PySem.W.Frag) (hK : X.K = K') : OpR X (binaryOp .Add) (rPlus K') := by subst hK; exact op_plus
theorem op_eqK (K' : PySem.W.Frag) (hK : X.K = K') (hu : X.A.units + 64 < cLine) : OpR X (compareOp .Eq) (rEqD K') := by subst hK; exact op_eqD hu
theorem op_neK (K' : PySem.W.Frag) (hK : X.K = K') (hu : X.A.units + 64 < cLine) : OpR X (compareOp .NotEq) (rNeD K') := by subst hK; exact op_neD hu
theorem op_inK (K' : PySem.W.Frag) (hK : X.K = K') (hu : X.A.units + 65 < cLine) : OpR X (compareOp .In) (rInD K') := by subst hK; exact op_inD hu
theorem op_niK (K' : PySem.W.Frag) (hK : X.K = K') (hu : X.A.units + 65 < cLine) : OpR X (compareOp .NotIn) (rNotInD K') := by subst hK; exact op_notInD hu
theorem op_inTK (K' : PySem.W.Frag) (hK : X.K = K') (hu : X.A.units + 65 < cLine) : OpR X (compareOp .In) (rInDT K' false) := by subst hK; exact op_inDT hu
theorem op_niTK (K' : PySem.W.Frag) (hK : X.K = K') (hu : X.A.units + 65 < cLine) : OpR X (compareOp .NotIn) (rInDT K' true) := by subst hK; exact op_notInDT hu
theorem cl_reprK (K' : PySem.W.Frag) (hK : X.K = K') (hA : X.A.guards = some []) (hu : X.A.units + 64 < cLine) : CallR X (.builtin "repr") (rRepr K') := by subst hK; exact cl_repr hA hu
theorem cl_lenK (K' : PySem.W.Frag) (hK : X.K = K') : CallR X (.builtin "len") (rLen K') := by subst hK; exact cl_len
theorem cl_tupK (K' : PySem.W.Frag) (hK : X.K = K') : CallR X (.type "tuple") (rTupOf K') := by subst hK; exact cl_tup
theorem cl_lstK (K' : PySem.W.Frag) (hK : X.K = K') : CallR X (.type "list") (rLstOf K') := by subst hK; exact cl_lst
theorem cr_anyK (K' : PySem.W.Frag) (hK : X.K = K') (hc : X.calm = true) : CallR X (.builtin "any") (rAny K') := by subst hK; exact cr_any hc
end
end DL

/-! Several except clauses that name what they caught; isinstance of what was caught, where it is one. -/
namespace DL
open PySem PySem.Spec
open PyProof.Rows L2
local macro_rules | `(tactic| walk_at "rep") => `(tactic| first | assumption | exact Da.int _ | exact Da.bl _ | exact Da.str _ | exact Da.non | exact Sub.da (by assumption) (by assumption) | exact Sub.da (Tr.jj (by assumption)) (by assumption))
local macro_rules | `(tactic| walk_at "arith") => `(tactic| first | assumption | omega | decide | exact cmul_small (by omega) (by omega) | exact cdiv_small (by omega) (by omega))
local macro_rules | `(tactic| walk_at "shp") => `(tactic| first | exact sh_int _ | exact sh_tup _ | exact sh_list _ | assumption)
local macro_rules | `(tactic| walk_at "od") => `(tactic| first
  | with_reducible exact od_plus
  | with_reducible exact od_sub
  | ((with_reducible refine' od_mul ?h1); walk_at "arith")
  | ((with_reducible refine' od_mod ?h1); walk_at "arith")
  | ((with_reducible refine' od_fdiv ?h1); walk_at "arith")
  | ((with_reducible refine' od_pow ?h1); exact ⟨by decide, by decide, by decide⟩)
  | with_reducible exact od_lt | with_reducible exact od_le | with_reducible exact od_gt | with_reducible exact od_ge
  | ((with_reducible refine' od_plusT ?h1); walk_at "arith")
  | ((with_reducible refine' od_plusL ?h1); walk_at "arith")
  | ((with_reducible refine' od_plusS ?h1); walk_at "arith")
  | with_reducible exact od_isN | with_reducible exact od_notN
  | ((with_reducible refine od_eq ?_ ?_) <;> walk_at "shp")
  | ((with_reducible refine od_ne ?_ ?_) <;> walk_at "shp")
  | ((with_reducible refine od_inL ?_ ?_) <;> walk_at "shp")
  | ((with_reducible refine od_ixL ?_); assumption)
  | ((with_reducible refine od_ixT ?_); assumption))
local macro_rules | `(tactic| walk_at "ea") => `(tactic| first | with_reducible exact ea_nil | ((with_reducible refine' ea_consD ?h1 ?h2); (case h1 => walk_at "ev"); (case h2 => walk_at "ea")))
local macro_rules | `(tactic| walk_at "eo") => `(tactic| first | with_reducible exact eo_none | ((with_reducible refine' eo_at ?h1); (case h1 => walk_at "ev")))
local macro_rules | `(tactic| walk_at "cd") => `(tactic| first
  | with_reducible exact cd_lenL | with_reducible exact cd_lenT | with_reducible exact cd_tupL | with_reducible exact cd_tupT | with_reducible exact cd_lstL | with_reducible exact cd_lstT | with_reducible exact cd_abs | with_reducible exact cd_int)
local macro_rules | `(tactic| walk_at "ev") => `(tactic| first
  | with_reducible exact ev_int | with_reducible exact ev_bl | with_reducible exact ev_str | with_reducible exact ev_non
  | ((with_reducible refine' ev_var ?h1 ?h2); (case h1 => exact rfl); (case h2 => walk_at "rep"))
  | ((with_reducible refine' ev_opD ?h1 ?h2 ?h3); (case h1 => walk_at "ev"); (case h2 => walk_at "ev"); (case h3 => walk_at "od"))
  | ((with_reducible refine' ev_tupD ?h1); (case h1 => walk_at "ea"))
  | ((with_reducible refine' ev_lstD ?h1); (case h1 => walk_at "ea"))
  | ((with_reducible refine' ev_revL ?h1); (case h1 => walk_at "ev"))
  | ((with_reducible refine' ev_slD ?h1 ?h2 ?h3 ?h4); (case h1 => walk_at "ev"); (case h2 => walk_at "eo"); (case h3 => walk_at "eo"); (case h4 => first | with_reducible exact sd_tup | with_reducible exact sd_list))
  | ((with_reducible refine' ev_cbD ?h1 ?h2); (case h1 => walk_at "ea"); (case h2 => walk_at "cd"))
  | ((with_reducible refine' ev_notV ?h1); (case h1 => walk_at "ev"))
  | assumption)
local macro_rules | `(tactic| walk_at "et") => `(tactic| first
  | ((with_reducible refine' et_testD ?h1); (case h1 => walk_at "ev"))
  | ((with_reducible refine' et_BD ?h1); (case h1 => walk_at "ev"))
  | ((with_reducible refine' et_notD ?h1); (case h1 => walk_at "et"))
  | ((with_reducible refine' et_andD ?h1 ?h2); (case h1 => walk_at "et"); (case h2 => intro _; walk_at "et"))
  | ((with_reducible refine' et_orD ?h1 ?h2); (case h1 => walk_at "et"); (case h2 => intro _; walk_at "et"))
  | assumption)
/-- how a clause with a name ends: its slot is empty again -/
def offE (D : Ends) (i : Nat) : Ends := { nx := fun σ H => D.nx (σ.set i none) H, rt := D.rt, bk := fun σ H => D.bk (σ.set i none) H, ct := fun σ H => D.ct (σ.set i none) H }
/-- clauses: the class, the name's slot, the suite -/
abbrev Cls3 : Type := Value × Nat × (Addr → Value → Option Addr → TS)
def wNamed (K : PySem.W.Frag) (Wo : WX) (D : Ends) : List Cls3 → WX
  | [] => Wo
  | (c, i, ts) :: more => fun cls d σ H => ∃ yes, PySem.W.exmOne K cls c = some yes ∧ (yes = true → ∀ a, H a = none → ts a cls d (offE D i) (σ.set i (some (.ref a))) H) ∧ (yes = false → wNamed K Wo D more cls d σ H)
inductive HdsN (X : Cx) : List ExceptHandler → List Cls3 → Prop
  | nil : HdsN X [] []
  | cons {x n : Str} {c : Value} {i : Nat} {ts : Addr → Value → Option Addr → TS} {b : Stmt} {bs : List Stmt} {p p' : Pos} {hds : List ExceptHandler} {l : List Cls3} (hc : Names X x c) (hi : X.N[i]? = some n) (hl : X.env.kindOf n = some .local)
      (hs : ∀ (a : Addr) (oe : Obj) (cls : Value) (d : Option Addr) (pn : List (Addr × Obj)), Zc cls d oe → (∃ vs, oe.data = .fields vs) → PSs (X.suite a ((a, oe) :: pn)) (b :: bs) (ts a cls d)) (more : HdsN X hds l) :
      HdsN X (.ExceptHandler (some (.Name x p)) (some n) (b :: bs) p' :: hds) ((c, i, ts) :: l)
section
variable {X : Cx} {body : List Stmt} {h₀ : ExceptHandler} {hds : List ExceptHandler} {l : List Cls3} {pos : Pos} {tb : WX → TS} {Wo : WX}
theorem ps_try_named (hs : X.stack = X.env :: X.outer) (hf : X.env.frame = some X.env.locals) (nd : X.N.Nodup) (tk : Takes X Wo) (hb : ∀ (W : WX) (pn : List (Addr × Obj)) (xe : Value → Shared → Prop), Takes (X.tr pn xe) W → PassesOwn (model X.prog X.w) X.A X.env xe → PSs (X.tr pn xe) body (tb W))
    (hh : HdsN X (h₀ :: hds) l) : PS X (.Try body (h₀ :: hds) [] [] pos) (fun D σ H => tb (wNamed X.K Wo D l) D σ H) := by
  constructor
  intro pins s σ H D I told
  have ok := I.ok
  have fr : X.A.frames = some (X.env :: X.outer) := ok.frames.trans (by rw [hs])
  let catch_ : Value → Shared → Prop := fun e t => wpAny (model X.prog X.w) X.A (noteFrame e X.env) (fun _ t => wpAny (model X.prog X.w) X.A (setFlight e none) (fun _ t => wpAny (model X.prog X.w) X.A (handleBy e X.env (h₀ :: hds)) (SP X pins D) X.xe t) X.xe t) X.xe t
  have runs := hb (wNamed X.K Wo D l) (X.pn ++ pins) catch_ (fun u t came => ?caught) PassesOwn.looking
  case caught =>
    obtain ⟨a, B, sI, pins', σ', H', cls, d, rfl, J', nb, up, sky, na, os, ag, wish⟩ := came
    have J : Inv X pins σ' H' sI := J'.ofTry ok
    refine Sky.land Zc.steady fr hf (by rw [← hs]; exact sky) fun g fly up1 => ?_
    obtain ⟨oe, fs, at_, hz, dat⟩ := fly.there
    have J1 : Inv X pins σ' H' { t with heap := g } := J.landed nb fly.1 (up.trans up1) os ag
    have off : a ∉ frs (X.env :: X.outer) := fun m => by
      obtain ⟨_, o', e', nf⟩ := fly.2.2.1.mem m
      rw [at_] at e'
      cases e'
      exact nf _ dat
    have nL : a ≠ X.env.locals := fun z => off (List.mem_filterMap.mpr ⟨X.env, List.mem_cons_self, by rw [hf, z]⟩)
    have nF : a ∉ X.fs := fun m => by
      obtain ⟨v, hv, q⟩ := List.mem_filterMap.mp m
      exact off (List.mem_filterMap.mpr ⟨v, List.mem_cons_of_mem _ hv, q⟩)
    have T := J1.suite at_ dat na nL nF
    have ty : PySem.W.Looks (model X.prog X.w) g (typeOf (.ref a)) cls := fun A Q E s k q => wpAny_typeOf_ref (k _ _ at_) (by rw [hz.1]; exact q)
    have each : ∀ {hs' : List ExceptHandler} {l' : List Cls3}, HdsN X hs' l' → wNamed X.K Wo D l' cls d σ' H' → wpAny (model X.prog X.w) X.A (handleBy (.ref a) X.env hs') (SP X pins D) X.xe { t with heap := g } := by
      intro hs' l' ck
      induction ck with
      | nil =>
        intro wo
        obtain ⟨_, _, _, oe', fs', _, _, _, at', _, dat', f1, _⟩ := id fly
        refine wpAny_handleBy_nil ?_
        have up_ : wpAny (model X.prog X.w) X.A (setFlight (.ref a) X.env.frame) (fun _ t => wpAny (model X.prog X.w) X.A (throw (.ref a) : Sem Flow) (SP X pins D) X.xe t) X.xe { t with heap := g } := by
          rw [hf]
          exact HandSPX.setFlight_upZ fly fun g2 hold up2 => wpAny_throw (tk _ _ ⟨a, B, sI, pins, σ', H', cls, d, rfl, J, nb, (up.trans up1).trans up2, .inr (.inr (by rw [hs]; exact hold)), na, os, ag, wo⟩)
        unfold PySem.passOn
        refine wpAny_bind (wpAny_field at' dat' f1 ?_)
        rw [if_neg (by simp : ¬ ((Value.ref _ == Value.none) = true))]
        first
          | exact wpAny_bind (wpAny_pure (wpAny_bind up_))
          | exact wpAny_bind up_
      | @cons x n c i ts b bs p p' hds2 l2 hc hi hl hsu more ih =>
        rintro ⟨yes, hm, w1, w2⟩
        refine wpAny_handleBy_cons (codeAny_handlers_test ?_) (by intro q; cases q)
        have is_ := PySem.W.exm_one (M := model X.prog X.w) J1.kIn ty hm
        have read : ∀ {Q E : Value → Shared → Prop}, Q c { t with heap := g } → wpAny (model X.prog X.w) (X.A.mark (some (.ref a))) (eval (.Name x p) X.env) Q E { t with heap := g } := fun {Q E} q => by
          obtain ⟨hg, hd, hm' | ⟨hm', hv, hn⟩⟩ := hc
          · exact ld_glob (X := X.suite a ((a, oe) :: (X.pn ++ pins))) T hg hm' q hd
          · exact ld_blt (X := X.suite a ((a, oe) :: (X.pn ++ pins))) T hg hm' hv q hn hd
        refine read (is_.here ?_)
        match yes, w1, w2 with
        | false, _, w2 =>
          show wpAny _ X.A (handleBy (.ref a) X.env hds2) _ _ _
          exact ih (w2 rfl)
        | true, w1, _ =>
          refine codeAny_handlers_suite_as (HandSPX.lands_againZ fly fun g2 fly2 up2 => ?_)
          obtain ⟨oe2, fs2, at2, hz2, dat2⟩ := fly2.there
          have J2 : Inv X pins σ' H' { t with heap := g2 } := J.landed nb fly2.1 ((up.trans up1).trans up2) os ag
          have T2 := J2.suite at2 dat2 na nL nF
          refine store_ok (X := X.suite a ((a, oe2) :: (X.pn ++ pins))) (v := .ref a) T2 nd hi (.inl hl) rfl (fun s5 T5 => ?_) (.inr hl)
          refine wpAny_mono ((hsu a oe2 cls d (X.pn ++ pins) hz2 ⟨_, dat2⟩).run [] s5 _ H' _ T5 (w1 rfl a na)) (fun fl s6 out => ?_) fun _ _ z => False.elim z
          have fin : ∀ {σ6 : L2.St} {H6 : Hp} {Q : Shared → Prop}, Inv (X.suite a ((a, oe2) :: (X.pn ++ pins))) [] σ6 H6 s6 → (∀ s7, Inv X pins (σ6.set i none) H6 s7 → Q s7) →
              wpAny (model X.prog X.w) X.A (do bindName X.env n .none; unbindBehindTheSuite X.env n p') (fun _ s7 => Q s7) X.xe s6 := fun {σ6 H6 Q} T6 q => gone_ok (T6.unsuite ok) nd hi hl q
          match fl, out with
          | .next, ⟨σ6, H6, T6, q6⟩ => exact fin T6 fun s7 J7 => ⟨_, _, J7, q6⟩
          | .brk, ⟨σ6, H6, T6, q6⟩ => exact fin T6 fun s7 J7 => ⟨_, _, J7, q6⟩
          | .cont, ⟨σ6, H6, T6, q6⟩ => exact fin T6 fun s7 J7 => ⟨_, _, J7, q6⟩
          | .ret u, ⟨v6, σ6, H6, T6, r6, q6⟩ => exact fin T6 fun s7 J7 => ⟨_, _, _, J7, r6, q6⟩
    exact each hh wish
  refine wpAny_Try_except (wpAny_mono (runs.run [] s σ H D (I.toTry _) told) (fun fl t out => ?_) fun _ _ he => he)
  match fl, out with
  | .next, ⟨σ', H', J, q⟩ => exact wpAny_execs_nil ⟨σ', H', J.ofTry ok, q⟩
  | .brk, ⟨σ', H', J, q⟩ => exact ⟨σ', H', J.ofTry ok, q⟩
  | .cont, ⟨σ', H', J, q⟩ => exact ⟨σ', H', J.ofTry ok, q⟩
  | .ret u, ⟨v, σ', H', J, r, q⟩ => exact ⟨v, σ', H', J.ofTry ok, r, q⟩
end
/-! ### isinstance of what was caught: yes -/
theorem ans_yes {K : PySem.W.Frag} {x t c : Value} {P : Heap → Prop} (ty : ∀ (M : Model) (h : Heap), K.In h → P h → PySem.W.Looks M h (typeOf x) t) (ne : (t == c) = false) (e : PySem.W.kitCls K t c = some true) : PySem.Answers (fun s => K.In s.heap ∧ P s.heap) x c true := by
  intro dep tk prog w A R s told
  obtain ⟨h0, g, d, tt, os⟩ := s
  obtain ⟨⟨X, p⟩, q⟩ := told
  obtain ⟨k1, k2, k3⟩ := PySem.W.kit_cls (M := model prog w) X e
  unfold Builtin.«isinstance.nested»
  refine wpAny_bind ((ty (model prog w) h0 X p).at ?_)
  rw [if_neg (by rw [ne]; exact Bool.false_ne_true)]
  refine wpAny_bind (k1.at ?_)
  rw [if_pos (by decide)]
  k_delta "plainIsInstance"
  refine wpAny_bind (wpAny_bind (k2.at ?_))
  simp only [Bool.not_true, Bool.false_eq_true, if_false]
  refine wpAny_bind (((ty (model prog w) h0 X p).andThen k3).at ?_)
  first
    | exact wpAny_pure (wpAny_pure (q tt))
    | (simp only [if_true]; first | exact wpAny_pure (wpAny_pure (q tt)) | exact wpAny_pure (q tt) | exact wpAny_bind (wpAny_pure (wpAny_pure (q tt))))
/-- isinstance(e, C), where e, the one that the suite holds, is one -/
def rIsY (K : PySem.W.Frag) (D : Value) (a : Addr) : List V → Hp → VK → Prop := fun xs H Q => ∃ C : Addr, xs = [.ref a, .ref C] ∧ ((D == .ref C) = false ∧ PySem.W.kitCls K D (.ref C) = some true) ∧ Q (.bl true) H
theorem call_isY {X : Cx} {a : Addr} {D : Value} {d : Option Addr} {oe : Obj} {pn : List (Addr × Obj)} (hz : Zc D d oe) : CallR (X.suite a ((a, oe) :: pn)) (.builtin "isinstance") (rIsY X.K D a) := by
  rintro pins s σ H xs us Q I r ⟨C, rfl, ⟨ne, e⟩, q⟩
  obtain ⟨u1, u2, rfl, r1, r2⟩ := vals2 r
  cases (show u1 = Value.ref a from r1)
  cases (show u2 = Value.ref C from r2)
  obtain ⟨at_, _⟩ := I.pin (a, oe) (List.mem_append.mpr (.inl List.mem_cons_self))
  exact PySem.call_isinstance (S := fun _ R s => (X.K.In s.heap ∧ s.heap.get? a = some oe) ∧ ∀ tk, R (.ok (.ret (.bool true))) { s with toks := tk })
    (fun prog w A R s told => PySem.isinstance_outer (ans_yes (P := fun h => h.get? a = some oe) (fun M h X' p A Q E s k z => wpAny_typeOf_ref (k _ _ p) (by rw [hz.1]; exact z)) ne e 0 _ prog w A R s told) (fun z => nomatch z)) ⟨⟨I.kIn, at_⟩, fun tk => ⟨.bl true, H, I.tok tk, rfl, q⟩⟩
end DL

/-! A tuple so many times, any number of times. -/
namespace DL
open PySem PySem.Spec
open PyProof.Rows L2
local macro_rules | `(tactic| walk_at "rep") => `(tactic| first | assumption | exact Da.int _ | exact Da.bl _ | exact Da.str _ | exact Da.non | exact Sub.da (by assumption) (by assumption) | exact Sub.da (Tr.jj (by assumption)) (by assumption))
local macro_rules | `(tactic| walk_at "arith") => `(tactic| first | assumption | omega | decide | exact cmul_small (by omega) (by omega) | exact cdiv_small (by omega) (by omega))
local macro_rules | `(tactic| walk_at "shp") => `(tactic| first | exact sh_int _ | exact sh_tup _ | exact sh_list _ | assumption)
local macro_rules | `(tactic| walk_at "od") => `(tactic| first
  | with_reducible exact od_plus
  | with_reducible exact od_sub
  | ((with_reducible refine' od_mul ?h1); walk_at "arith")
  | ((with_reducible refine' od_mod ?h1); walk_at "arith")
  | ((with_reducible refine' od_fdiv ?h1); walk_at "arith")
  | ((with_reducible refine' od_pow ?h1); exact ⟨by decide, by decide, by decide⟩)
  | with_reducible exact od_lt | with_reducible exact od_le | with_reducible exact od_gt | with_reducible exact od_ge
  | ((with_reducible refine' od_plusT ?h1); walk_at "arith")
  | ((with_reducible refine' od_plusL ?h1); walk_at "arith")
  | ((with_reducible refine' od_plusS ?h1); walk_at "arith")
  | with_reducible exact od_isN | with_reducible exact od_notN
  | ((with_reducible refine od_eq ?_ ?_) <;> walk_at "shp")
  | ((with_reducible refine od_ne ?_ ?_) <;> walk_at "shp")
  | ((with_reducible refine od_inL ?_ ?_) <;> walk_at "shp")
  | ((with_reducible refine od_ixL ?_); assumption)
  | ((with_reducible refine od_ixT ?_); assumption))
local macro_rules | `(tactic| walk_at "ea") => `(tactic| first | with_reducible exact ea_nil | ((with_reducible refine' ea_consD ?h1 ?h2); (case h1 => walk_at "ev"); (case h2 => walk_at "ea")))
local macro_rules | `(tactic| walk_at "eo") => `(tactic| first | with_reducible exact eo_none | ((with_reducible refine' eo_at ?h1); (case h1 => walk_at "ev")))
local macro_rules | `(tactic| walk_at "cd") => `(tactic| first
  | with_reducible exact cd_lenL | with_reducible exact cd_lenT | with_reducible exact cd_tupL | with_reducible exact cd_tupT | with_reducible exact cd_lstL | with_reducible exact cd_lstT | with_reducible exact cd_abs | with_reducible exact cd_int)
local macro_rules | `(tactic| walk_at "ev") => `(tactic| first
  | with_reducible exact ev_int | with_reducible exact ev_bl | with_reducible exact ev_str | with_reducible exact ev_non
  | ((with_reducible refine' ev_var ?h1 ?h2); (case h1 => exact rfl); (case h2 => walk_at "rep"))
  | ((with_reducible refine' ev_opD ?h1 ?h2 ?h3); (case h1 => walk_at "ev"); (case h2 => walk_at "ev"); (case h3 => walk_at "od"))
  | ((with_reducible refine' ev_tupD ?h1); (case h1 => walk_at "ea"))
  | ((with_reducible refine' ev_lstD ?h1); (case h1 => walk_at "ea"))
  | ((with_reducible refine' ev_revL ?h1); (case h1 => walk_at "ev"))
  | ((with_reducible refine' ev_slD ?h1 ?h2 ?h3 ?h4); (case h1 => walk_at "ev"); (case h2 => walk_at "eo"); (case h3 => walk_at "eo"); (case h4 => first | with_reducible exact sd_tup | with_reducible exact sd_list))
  | ((with_reducible refine' ev_cbD ?h1 ?h2); (case h1 => walk_at "ea"); (case h2 => walk_at "cd"))
  | ((with_reducible refine' ev_notV ?h1); (case h1 => walk_at "ev"))
  | assumption)
local macro_rules | `(tactic| walk_at "et") => `(tactic| first
  | ((with_reducible refine' et_testD ?h1); (case h1 => walk_at "ev"))
  | ((with_reducible refine' et_BD ?h1); (case h1 => walk_at "ev"))
  | ((with_reducible refine' et_notD ?h1); (case h1 => walk_at "et"))
  | ((with_reducible refine' et_andD ?h1 ?h2); (case h1 => walk_at "et"); (case h2 => intro _; walk_at "et"))
  | ((with_reducible refine' et_orD ?h1 ?h2); (case h1 => walk_at "et"); (case h2 => intro _; walk_at "et"))
  | assumption)
theorem tmul_one (l : Addr) (items : Array Value) (n : Nat) (dd : Option Addr) (sl : Array (Option Value)) (u : Tok) :
    Meets (Builtin.«tuple.__mul__» ⟨[.ref l, .int 1 u], []⟩) (fun _ R s => s.heap.get? l = some { cls := .type "tuple", dict := dd, data := .seq items n, slots := sl } ∧ R (.ok (.ret (.ref l))) s) :=
  .of_wp fun prog w A R s h => by
    obtain ⟨hp, g, d, tk, os⟩ := s
    obtain ⟨hl, h⟩ := h
    have f1 := AutoSeq1.idx_int
    have c1 : (items.isEmpty || (1 : Int) == 1) = true := by simp
    wp_walk using wpAny_loadPart' hl
    repeat (first
      | (refine wpAny_ite_false (decide_eq_false (by decide)) ?_; wp_walk using wpAny_loadPart' hl)
      | (refine wpAny_ite_true (decide_eq_true c1) ?_; wp_walk using wpAny_loadPart' hl))
    exact ⟨_, rfl, h⟩
theorem tmul_none (l : Addr) (items : Array Value) (n : Nat) (dd : Option Addr) (sl : Array (Option Value)) (x : Int) (u : Tok) (c0 : (decide (x < -(2 ^ 63)) || decide (x ≥ 2 ^ 63)) = false) (c1 : (items.isEmpty || x == 1) = false) (c2 : (decide (x ≤ 0) || items.isEmpty) = true) :
    Meets (Builtin.«tuple.__mul__» ⟨[.ref l, .int x u], []⟩) (fun _ R s => s.heap.get? l = some { cls := .type "tuple", dict := dd, data := .seq items n, slots := sl } ∧
      R (.ok (.ret (Value.ref s.heap.objs.size))) { s with heap := s.heap.push { cls := Value.type "tuple", data := Data.seq #[] }, toks := s.toks }) :=
  .of_wp fun prog w A R s h => by
    obtain ⟨hp, g, d, tk, os⟩ := s
    obtain ⟨hl, h⟩ := h
    have f1 := AutoSeq1.idx_int
    wp_walk using wpAny_loadPart' hl
    repeat (first
      | (refine wpAny_ite_false (decide_eq_false (by rw [c0]; exact Bool.false_ne_true)) ?_; wp_walk using wpAny_loadPart' hl)
      | (refine wpAny_ite_false (decide_eq_false (by rw [c1]; exact Bool.false_ne_true)) ?_; wp_walk using wpAny_loadPart' hl)
      | (refine wpAny_ite_true (decide_eq_true c2) ?_; wp_walk using wpAny_loadPart' hl))
    exact ⟨_, rfl, h⟩
/-- a tuple that is not empty, k times -/
def rRepW (K : PySem.W.Frag) : R2 := fun x y H Q => ∃ l k xs, x = .ref l ∧ y = .int k ∧ SqT K H l xs ∧ xs ≠ [] ∧ -(2 ^ 60) < k ∧ k < 2 ^ 60 ∧ xs.length * k.toNat ≤ 100000 ∧ (k = 1 → Q (.ref l) H) ∧
  (k ≠ 1 → ∀ p, H p = none → Q (.ref p) (upd H p (.tup (List.replicate k.toNat xs).flatten)))
section
variable {X : Cx}
theorem op_repW : OpR X (binaryOp .Mult) (rRepW X.K) := by
  intro pins s σ H x y v u Q I rx ry h
  obtain ⟨l, k, xs, rfl, rfl, hT, hne, h1, h2, hz, q1, q⟩ := h
  cases rx
  obtain ⟨t, rfl⟩ := ry
  obtain ⟨its, r, ⟨⟨cls, dd, data, sl⟩, ho, hc, n, hd⟩, hs⟩ := I.tuple hT
  simp only at hc hd
  subst hc hd
  have hle : its.length = xs.length := r.length.symm
  have hn : its ≠ [] := fun e => hne (by
    rw [e] at hle
    exact List.eq_nil_of_length_eq_zero hle.symm)
  have hi : its.toArray.isEmpty = false := by
    cases its with
    | nil => exact absurd rfl hn
    | cons a b => rfl
  have hsz0 : its.toArray.size = xs.length := by rw [List.size_toArray, hle]
  have len0 : 0 < xs.length := List.length_pos_iff.mpr hne
  have c0 : (decide (k < -(2 ^ 63)) || decide (k ≥ 2 ^ 63)) = false := by
    rw [decide_eq_false (by omega), decide_eq_false (by omega)] <;> rfl
  have flen : (List.replicate k.toNat its).flatten.length ≤ sizeLine := by
    rw [PyProof.Rows.lm_len_rep_flat, hle, Nat.mul_comm]
    exact Nat.le_trans hz (by decide)
  have lay : k ≠ 1 → ∀ h', (∀ b ob, s.heap.get? b = some ob → h'.get? b = some ob) → IsTup h' s.heap.objs.size (List.replicate k.toNat its).flatten.toArray →
      EP X pins σ Q (.ref s.heap.objs.size) { s with heap := h' } := fun hk h' kp ob => by
    refine ⟨.ref s.heap.objs.size, _, I.laid (t' := s.toks) (o := .tup (List.replicate k.toNat xs).flatten) kp (Nat.le_refl _) ?_, rfl, q hk _ (I.hok.fresh (Nat.le_refl _))⟩
    exact ⟨by rw [PyProof.Rows.lm_len_rep_flat, Nat.mul_comm]; exact Nat.le_trans hz (by decide), _, r.rep k.toNat, ob⟩
  refine wpAny_binaryOp_repeat_ref (T := "tuple") (U := "int") (by decide) ⟨_, ho, rfl⟩ (fun s' => typeIs_int s' k t) noFill_tuple_mul F.fills_int_mul F.slot_int_rmul repeat_tuple F.slot_int_index.lookup
    (call_meets F.slot_int_rmul (typeIs_int s k t) F.entry_int_rmul (F.args_int_rmul_2 _ _) (int_rmul_tuple k t l its.toArray n dd sl) ⟨ho, rfl, ⟨_, ho, rfl⟩, ?_⟩)
  by_cases e1 : k = 1
  · subst e1
    exact call_meets F.slot_tuple_mul ⟨_, ho, rfl⟩ F.entry_tuple_mul (F.args_tuple_mul_2 _ _) (tmul_one l its.toArray n dd sl t) ⟨ho, ⟨.ref l, H, I, rfl, q1 rfl⟩⟩
  have c1 : (its.toArray.isEmpty || k == 1) = false := by
    rw [hi, Bool.false_or]
    exact beq_eq_false_iff_ne.mpr e1
  by_cases e2 : k ≤ 0
  · have z0 : k.toNat = 0 := by omega
    refine call_meets F.slot_tuple_mul ⟨_, ho, rfl⟩ F.entry_tuple_mul (F.args_tuple_mul_2 _ _) (tmul_none l its.toArray n dd sl k t c0 c1 (by rw [decide_eq_true e2]; rfl)) ⟨ho, ?_⟩
    refine lay e1 _ (fun b ob q => Heap.get?_push_of_some _ q) ?_
    rw [z0]
    exact IsTup.new _ _
  · have hm : ((its.toArray.size : Nat) : Int) * k ≤ 100000 := by
      rw [hsz0]
      have e3 : ((xs.length : Nat) : Int) * k = ((xs.length * k.toNat : Nat) : Int) := by
        rw [Int.natCast_mul, Int.toNat_of_nonneg (by omega)]
      rw [e3]
      exact Int.ofNat_le.mpr hz
    have c2 : (decide (k ≤ 0) || its.toArray.isEmpty) = false := by
      rw [hi, Bool.or_false]
      exact decide_eq_false e2
    have c4 : Builtin.Tuple.tupleTooMany (((its.toArray.size : Nat) : Int) * k) = false := by
      unfold Builtin.Tuple.tupleTooMany
      refine decide_eq_false ?_
      have : (100000 : Int) ≤ (sizeLine : Int) := by decide
      omega
    refine call_meets F.slot_tuple_mul ⟨_, ho, rfl⟩ F.entry_tuple_mul (F.args_tuple_mul_2 _ _) (tuple_mulW l its.toArray n dd sl k t c0 c1 c2 (by omega) c4 (by rw [size_rep, List.size_toArray]; exact flen)) ⟨ho, ?_⟩
    rw [size_rep]
    exact lay e1 _ (fun b ob q => Heap.get?_push_of_some _ q) (IsTup.new _ _)
end
theorem od_repW {K : PySem.W.Frag} {M : Md} {ds : List PyData} {k : Int} (hne : ds ≠ []) (h1 : -(2 ^ 60) < k) (h2 : k < 2 ^ 60) (hl : ds.length * k.toNat ≤ 100000) : OpD K M (rRepW K) (.tuple ds) (.int k) (· = .tuple (List.replicate k.toNat ds).flatten) := fun x y J H w ax ay Q q => by
  obtain ⟨a, xs, rfl, ht, hd⟩ := da_tup ax
  have rep : ∀ (m : Nat) {J : Hp}, Das K J xs ds → Das K J (List.replicate m xs).flatten (List.replicate m ds).flatten := fun m => by
    intro J hd
    induction m with
    | zero => exact .nil
    | succ m ih => rw [List.replicate_succ, List.replicate_succ, List.flatten_cons, List.flatten_cons]; exact das_app hd ih
  refine ⟨a, k, xs, rfl, da_int ay, w.jh.t ht, fun e => hne ?_, h1, h2, by rw [das_len hd]; exact hl, fun e => ?_, fun _ p hp => ?_⟩
  · rw [e] at hd
    cases hd
    rfl
  · refine q _ _ J H w w.tr rfl ?_
    rw [e]
    have e1 : (List.replicate (Int.toNat 1) ds).flatten = ds := by simp
    rw [e1]
    exact ax
  · have t := w.new (o := .tup (List.replicate k.toNat xs).flatten) hp
    exact q _ _ _ _ (t.wf w) t rfl (.tup (.of upd_same) (t.jj.das (rep _ hd)))
end DL

/-! A lambda handed to a def that hears what it raises; the mode in which tables of code objects grow; a law's end with tables. -/
namespace DL
open PySem PySem.Spec
open PyProof.Rows L2
local macro_rules | `(tactic| walk_at "rep") => `(tactic| first | assumption | exact Da.int _ | exact Da.bl _ | exact Da.str _ | exact Da.non | exact Sub.da (by assumption) (by assumption) | exact Sub.da (Tr.jj (by assumption)) (by assumption))
local macro_rules | `(tactic| walk_at "arith") => `(tactic| first | assumption | omega | decide | exact cmul_small (by omega) (by omega) | exact cdiv_small (by omega) (by omega))
local macro_rules | `(tactic| walk_at "shp") => `(tactic| first | exact sh_int _ | exact sh_tup _ | exact sh_list _ | assumption)
local macro_rules | `(tactic| walk_at "od") => `(tactic| first
  | with_reducible exact od_plus
  | with_reducible exact od_sub
  | ((with_reducible refine' od_mul ?h1); walk_at "arith")
  | ((with_reducible refine' od_mod ?h1); walk_at "arith")
  | ((with_reducible refine' od_fdiv ?h1); walk_at "arith")
  | ((with_reducible refine' od_pow ?h1); exact ⟨by decide, by decide, by decide⟩)
  | with_reducible exact od_lt | with_reducible exact od_le | with_reducible exact od_gt | with_reducible exact od_ge
  | ((with_reducible refine' od_plusT ?h1); walk_at "arith")
  | ((with_reducible refine' od_plusL ?h1); walk_at "arith")
  | ((with_reducible refine' od_plusS ?h1); walk_at "arith")
  | with_reducible exact od_isN | with_reducible exact od_notN
  | ((with_reducible refine od_eq ?_ ?_) <;> walk_at "shp")
  | ((with_reducible refine od_ne ?_ ?_) <;> walk_at "shp")
  | ((with_reducible refine od_inL ?_ ?_) <;> walk_at "shp")
  | ((with_reducible refine od_ixL ?_); assumption)
  | ((with_reducible refine od_ixT ?_); assumption))
local macro_rules | `(tactic| walk_at "ea") => `(tactic| first | with_reducible exact ea_nil | ((with_reducible refine' ea_consD ?h1 ?h2); (case h1 => walk_at "ev"); (case h2 => walk_at "ea")))
local macro_rules | `(tactic| walk_at "eo") => `(tactic| first | with_reducible exact eo_none | ((with_reducible refine' eo_at ?h1); (case h1 => walk_at "ev")))
local macro_rules | `(tactic| walk_at "cd") => `(tactic| first
  | with_reducible exact cd_lenL | with_reducible exact cd_lenT | with_reducible exact cd_tupL | with_reducible exact cd_tupT | with_reducible exact cd_lstL | with_reducible exact cd_lstT | with_reducible exact cd_abs | with_reducible exact cd_int)
local macro_rules | `(tactic| walk_at "ev") => `(tactic| first
  | with_reducible exact ev_int | with_reducible exact ev_bl | with_reducible exact ev_str | with_reducible exact ev_non
  | ((with_reducible refine' ev_var ?h1 ?h2); (case h1 => exact rfl); (case h2 => walk_at "rep"))
  | ((with_reducible refine' ev_opD ?h1 ?h2 ?h3); (case h1 => walk_at "ev"); (case h2 => walk_at "ev"); (case h3 => walk_at "od"))
  | ((with_reducible refine' ev_tupD ?h1); (case h1 => walk_at "ea"))
  | ((with_reducible refine' ev_lstD ?h1); (case h1 => walk_at "ea"))
  | ((with_reducible refine' ev_revL ?h1); (case h1 => walk_at "ev"))
  | ((with_reducible refine' ev_slD ?h1 ?h2 ?h3 ?h4); (case h1 => walk_at "ev"); (case h2 => walk_at "eo"); (case h3 => walk_at "eo"); (case h4 => first | with_reducible exact sd_tup | with_reducible exact sd_list))
  | ((with_reducible refine' ev_cbD ?h1 ?h2); (case h1 => walk_at "ea"); (case h2 => walk_at "cd"))
  | ((with_reducible refine' ev_notV ?h1); (case h1 => walk_at "ev"))
  | assumption)
local macro_rules | `(tactic| walk_at "et") => `(tactic| first
  | ((with_reducible refine' et_testD ?h1); (case h1 => walk_at "ev"))
  | ((with_reducible refine' et_BD ?h1); (case h1 => walk_at "ev"))
  | ((with_reducible refine' et_notD ?h1); (case h1 => walk_at "et"))
  | ((with_reducible refine' et_andD ?h1 ?h2); (case h1 => walk_at "et"); (case h2 => intro _; walk_at "et"))
  | ((with_reducible refine' et_orD ?h1 ?h2); (case h1 => walk_at "et"); (case h2 => intro _; walk_at "et"))
  | assumption)
theorem tabs_stay {T : List (Addr × Str)} {H H' : Hp} (k : ∀ a o, H a = some o → ¬ Mu o → H' a = some o) (t : LamX.Tabs T H) : LamX.Tabs T H' := fun p hp => by
  obtain ⟨ps, h1, h2, h3⟩ := t p hp
  refine ⟨ps, k _ _ h1 (fun z => z), h2, fun pos cv hc => ?_⟩
  obtain ⟨c, e1, e2⟩ := h3 pos cv hc
  exact ⟨c, e1, k _ _ e2 (fun z => by unfold LamX.CodeO at z; exact z)⟩
/-- the draws' two lists, the tables of code objects -/
def Md.law (h g : Addr) (T : List (Addr × Str)) : Md where
  fp := fun a => a = h ∨ a = g
  inv := fun H => drOk h g H ∧ LamX.Tabs T H
  tb := true
  loc := fun H H' e k ⟨d, t⟩ => ⟨(Md.draw h g).loc H H' e k d, tabs_stay k t⟩
  there := fun H ⟨⟨cs, n, h1, h2, _⟩, _⟩ a e => by
    rcases e with e | e
    · rw [e]; exact ⟨_, h1, (fun _ _ z => by cases z)⟩
    · rw [e]; exact ⟨_, h2, (fun _ _ z => by cases z)⟩
theorem Md.law_has {h g : Addr} {T : List (Addr × Str)} (ne : h ≠ g) : HasDr (Md.law h g T) h g :=
  ⟨ne, .inl rfl, .inr rfl, fun _ x => x.1, fun _ _ x _ k d => ⟨d, tabs_stay k x.2⟩⟩
/-- a mode in which the tables T may grow -/
structure HasTb (M : Md) (T : List (Addr × Str)) : Prop where
  tb : M.tb = true
  tabs : ∀ H, M.inv H → LamX.Tabs T H
  ext : ∀ H H', M.inv H → LamX.ExtN H H' → LamX.Tabs T H' → M.inv H'
theorem Md.law_tb {h g : Addr} {T : List (Addr × Str)} : HasTb (Md.law h g T) T :=
  ⟨rfl, fun _ x => x.2, fun H H' ⟨⟨cs, n, h1, h2, h3⟩, _⟩ e t => ⟨⟨cs, n, e _ _ h1 nofun, e _ _ h2 nofun, h3⟩, t⟩⟩
section
variable {K : PySem.W.Frag} {M : Md} {T : List (Addr × Str)} {σ : L2.St} {J H H1 : Hp} {P : PyData → Prop}
theorem tr_ext (hb : HasTb M T) (w : Wf M J H) (e : LamX.ExtN H H1) (t : LamX.Tabs T H1) : Tr M J H J H1 :=
  ⟨.refl _, fun a o h => e a o (w.jh a o h) fun ps z => w.nt hb.tb a ps (by rw [← z]; exact h), fun a o _ b h => e a o h (b hb.tb), hb.ext _ _ w.inv e t, fun _ _ _ _ n => n, fun a o b h => ⟨o, b, e a o h (b hb.tb)⟩, fun z => z⟩
/-- what a def makes of a lambda that it calls in a try: rows: the classes caught, what is told of each; "told" stands ahead of what comes back -/
def THeard (rows : List (Addr × Str)) : (XK → Hp → VK → Prop) → Hp → VK → Prop := fun tl H Q => ∃ Ech : XK,
  (∀ cls d H', Ech cls d H' → ∃ C s, (C, s) ∈ rows ∧ cls = .ref C ∧ ∃ dx v, d = some dx ∧ H' dx = some (.xd [("word", v)]) ∧ ∀ l, H' l = none → Q (.ref l) (upd H' l (.lst [.str s, v, .bl true]))) ∧
  tl Ech H fun v H' => ([.str "told", v] : List V).length ≤ sizeLine ∧ ∀ l, H' l = none → Q (.ref l) (upd H' l (.lst [.str "told", v]))
/-- such a call, where the lambda raises -/
theorem ev_heard {rows : List (Addr × Str)} {t : XK → TE} {Pe : Addr → Str → PyData → Prop} (hb : HasTb M T)
    (h : ∀ J1 H1, Wf M J1 H1 → Tr M J H J1 H1 → ∀ (E : XK) (Q : VK), (∀ C s dx v x J2 H2, Wf M J2 H2 → Tr M J1 H1 J2 H2 → (C, s) ∈ rows → Pe C s x → H2 dx = some (.xd [("word", v)]) → Da K J2 v x → E (.ref C) (some dx) H2) → t E σ H1 Q)
    (hP : ∀ C s x, Pe C s x → P (.list [.str s, x, .bool true])) : EvP K M (LamX.tLam T (THeard rows) t) σ J H P := fun J1 H1 w tr Q q => by
  refine ⟨hb.tabs _ w.inv, fun H2 e t2 => ?_⟩
  have tx := tr_ext hb w e t2
  have w2 := tx.wf w
  let Ech : XK := fun cls d H' => ∃ C s, (C, s) ∈ rows ∧ cls = .ref C ∧ ∃ dx v, d = some dx ∧ H' dx = some (.xd [("word", v)]) ∧ ∀ l, H' l = none → Q (.ref l) (upd H' l (.lst [.str s, v, .bl true]))
  refine ⟨Ech, fun _ _ _ z => z, h J1 H2 w2 (tr.trans tx) Ech _ fun C s dx v x J3 H3 w3 t3 hm hp hx a => ?_⟩
  refine ⟨C, s, hm, rfl, dx, v, rfl, hx, fun l hl => ?_⟩
  have t4 := w3.new (o := .lst [.str s, v, .bl true]) hl
  exact q _ _ _ _ (t4.wf w3) (tx.trans (t3.trans t4)) (hP C s x hp) (.lst upd_same (.cons (.str _) (.cons (t4.jj.da a) (.cons (.bl _) .nil))))
/-- a call that raises -/
theorem rd_callE {cl : Str → Addr} {fl : Str → Str} {pre : List PyData → Prop} {post : List PyData → PyData → Prop} {exc : List PyData → Str → PyData → Prop} {E : XK} {ta : TA} {ds : List PyData} {Q : VK} (w : Wf M J H) (h : EvA K M ta σ J H (· = ds)) (hp : pre ds) (hn : ∀ d, ¬ post ds d)
    (qe : ∀ c x dx v J1 H1, Wf M J1 H1 → Tr M J H J1 H1 → exc ds c x → H1 dx = some (.xd [(fl c, v)]) → Da K J1 v x → E (.ref (cl c)) (some dx) H1) : tCall (spX K cl fl pre post exc) [] E ta σ H Q :=
  h J H w w.tr _ fun vs ds' J1 H1 w1 t1 e a => by
    subst e
    show spX K cl fl pre post exc (vs ++ []) H1 Q E
    rw [List.append_nil]
    exact ⟨J1, _, w1.jh, a, hp, fun v d J' H' t p a' => (hn d p).elim, fun c x dx v J' H' t z hx a' => qe c x dx v J' H' ((w1.lift t).wf w1) (t1.trans (w1.lift t)) z hx a'⟩
end
/-! ### the def that hears -/
theorem passLam {X : Cx} {A : Around} {outer : List Env} {s : Shared} {H : Hp} {E : XK} {scope : Scope} {f c' : Addr} : Passes (L2.CX X.prog X.w) (LamX.lamCx X A outer s H E scope f c') E :=
  passes_call (takes_of rfl rfl rfl rfl) fun _ _ _ _ h => h
/-- all that a call of such a def with a lambda wants of it -/
structure Hears (X : Cx) (T : List (Addr × Str)) (k : Nat) (x a : Str) (TT : (XK → Hp → VK → Prop) → Hp → VK → Prop) : Prop where
  has : ∃ (g c P : Addr) (pg : Arguments) (bg : List Stmt) (sg : Scope) (dV kV doc pm cdv ct oc : Value) (an od : Option Addr) (osl : Array (Option Value)) (Ng : List Str), X.mg x = some (.ref g) ∧ PySem.W.keepIn X.K (.ref g) = true ∧
    X.K.lookup g = some ⟨oc, od, .func (PySem.W.fnOf x x pg bg sg dV kV doc pm an cdv ct), osl⟩ ∧ PySem.W.codeIn X.K cdv x = true ∧ L2.Binds X.K (PySem.W.fnOf x x pg bg sg dV kV doc pm an cdv ct) [a] [] ∧ FnScope Ng [a] sg ∧ Ng[0]? = some a ∧ Vis sg a ∧
    LamX.GivesTo X Ng x sg g cdv bg a (X.env.qual ++ "<lambda>") TT ∧ LamX.TabB X.base X.mg c P ∧ X.env.code = .ref c ∧ (P, X.env.qual ++ "<lambda>") ∈ T ∧ ∀ p ∈ T, p.1 = P → p.2 = X.env.qual ++ "<lambda>"
theorem xHears {X : Cx} {T : List (Addr × Str)} {k : Nat} {x a : Str} {TT : (XK → Hp → VK → Prop) → Hp → VK → Prop} {params : Arguments} {body : Expr} {scope : Scope} {t : XK → TE} {p lpos pos : Pos} (C : Hears X T k x a TT) (hr : Room (k + 2) X.A)
    (hbody : ∀ (A : Around) (outer : List Env) (s : Shared) (H : Hp) (E : XK) (f c' : Addr), Room k (A.deeper (LamX.lamEnv X scope s.heap.objs.size f c')) → PE (LamX.lamCx X A outer s H E scope f c') body (t E))
    (hg : Gl X x := by rfl) (L : LamX.lamSB X.env.scope scope = true := by decide +kernel) (hdef : defaultsOf params X.env = ([], []) := by rfl)
    (hbind : ∀ (q : Str) (cl : List (Str × Addr)) (pm cv ctv : Value), bindArgs (PySem.W.kla_fn "<lambda>" q params body scope cl pm cv ctv) ⟨[], []⟩ = pure [] := by intros; rfl)
    (hdb : (x == ("__debug__" : Str)) = false := by decide) (hd : (a == ("__debug__" : Str)) = false := by decide) (hcd : (a == ("__classdict__" : Str)) = false := by decide) : PE X (.Call (.Name x p) [.Lambda params body scope lpos] [] pos) (LamX.tLam T TT t) := by
  obtain ⟨g, c, P, pg, bg, sg, dV, kV, doc, pm, cdv, ct, oc, an, od, osl, Ng, hm, hk, lk, hcg, hb, Sg, hNg, hva, hG, TB, hcode, hmT, hu⟩ := C.has
  exact LamX.pe_lamcall hg hm hk lk hcg hb Sg hNg hva hG TB hcode hmT hu hr (LamX.lamS_by L) hdef hbind hbody hdb hd hcd
end DL

/-! A law's end where tables of code objects may grow; a def whose code object is known. -/
namespace DL
open PySem PySem.Spec
open PyProof.Rows L2
local macro_rules | `(tactic| walk_at "rep") => `(tactic| first | assumption | exact Da.int _ | exact Da.bl _ | exact Da.str _ | exact Da.non | exact Sub.da (by assumption) (by assumption) | exact Sub.da (Tr.jj (by assumption)) (by assumption))
local macro_rules | `(tactic| walk_at "arith") => `(tactic| first | assumption | omega | decide | exact cmul_small (by omega) (by omega) | exact cdiv_small (by omega) (by omega))
local macro_rules | `(tactic| walk_at "shp") => `(tactic| first | exact sh_int _ | exact sh_tup _ | exact sh_list _ | assumption)
local macro_rules | `(tactic| walk_at "od") => `(tactic| first
  | with_reducible exact od_plus
  | with_reducible exact od_sub
  | ((with_reducible refine' od_mul ?h1); walk_at "arith")
  | ((with_reducible refine' od_mod ?h1); walk_at "arith")
  | ((with_reducible refine' od_fdiv ?h1); walk_at "arith")
  | ((with_reducible refine' od_pow ?h1); exact ⟨by decide, by decide, by decide⟩)
  | with_reducible exact od_lt | with_reducible exact od_le | with_reducible exact od_gt | with_reducible exact od_ge
  | ((with_reducible refine' od_plusT ?h1); walk_at "arith")
  | ((with_reducible refine' od_plusL ?h1); walk_at "arith")
  | ((with_reducible refine' od_plusS ?h1); walk_at "arith")
  | with_reducible exact od_isN | with_reducible exact od_notN
  | ((with_reducible refine od_eq ?_ ?_) <;> walk_at "shp")
  | ((with_reducible refine od_ne ?_ ?_) <;> walk_at "shp")
  | ((with_reducible refine od_inL ?_ ?_) <;> walk_at "shp")
  | ((with_reducible refine od_ixL ?_); assumption)
  | ((with_reducible refine od_ixT ?_); assumption))
local macro_rules | `(tactic| walk_at "ea") => `(tactic| first | with_reducible exact ea_nil | ((with_reducible refine' ea_consD ?h1 ?h2); (case h1 => walk_at "ev"); (case h2 => walk_at "ea")))
local macro_rules | `(tactic| walk_at "eo") => `(tactic| first | with_reducible exact eo_none | ((with_reducible refine' eo_at ?h1); (case h1 => walk_at "ev")))
local macro_rules | `(tactic| walk_at "cd") => `(tactic| first
  | with_reducible exact cd_lenL | with_reducible exact cd_lenT | with_reducible exact cd_tupL | with_reducible exact cd_tupT | with_reducible exact cd_lstL | with_reducible exact cd_lstT | with_reducible exact cd_abs | with_reducible exact cd_int)
local macro_rules | `(tactic| walk_at "ev") => `(tactic| first
  | with_reducible exact ev_int | with_reducible exact ev_bl | with_reducible exact ev_str | with_reducible exact ev_non
  | ((with_reducible refine' ev_var ?h1 ?h2); (case h1 => exact rfl); (case h2 => walk_at "rep"))
  | ((with_reducible refine' ev_opD ?h1 ?h2 ?h3); (case h1 => walk_at "ev"); (case h2 => walk_at "ev"); (case h3 => walk_at "od"))
  | ((with_reducible refine' ev_tupD ?h1); (case h1 => walk_at "ea"))
  | ((with_reducible refine' ev_lstD ?h1); (case h1 => walk_at "ea"))
  | ((with_reducible refine' ev_revL ?h1); (case h1 => walk_at "ev"))
  | ((with_reducible refine' ev_slD ?h1 ?h2 ?h3 ?h4); (case h1 => walk_at "ev"); (case h2 => walk_at "eo"); (case h3 => walk_at "eo"); (case h4 => first | with_reducible exact sd_tup | with_reducible exact sd_list))
  | ((with_reducible refine' ev_cbD ?h1 ?h2); (case h1 => walk_at "ea"); (case h2 => walk_at "cd"))
  | ((with_reducible refine' ev_notV ?h1); (case h1 => walk_at "ev"))
  | assumption)
local macro_rules | `(tactic| walk_at "et") => `(tactic| first
  | ((with_reducible refine' et_testD ?h1); (case h1 => walk_at "ev"))
  | ((with_reducible refine' et_BD ?h1); (case h1 => walk_at "ev"))
  | ((with_reducible refine' et_notD ?h1); (case h1 => walk_at "et"))
  | ((with_reducible refine' et_andD ?h1 ?h2); (case h1 => walk_at "et"); (case h2 => intro _; walk_at "et"))
  | ((with_reducible refine' et_orD ?h1 ?h2); (case h1 => walk_at "et"); (case h2 => intro _; walk_at "et"))
  | assumption)
/-- what is known of a heap at the law's start: the script and empty tables -/
def OnlyT (tb : List Addr) (H : Hp) : Prop := (∀ P ∈ tb, H P = some (.tbl #[])) ∧ ∀ b, b ∉ tb → H b = none ∨ ∃ o xs, H b = some (.frz o (.lst xs))
section
variable {P : Program} {w : World} {K : PySem.W.Frag} {mg mb : Str → Option Value} {CX : CXT} {k : Nat} {fa a : Addr} {fd : FuncData} {x : Str} {sp : Sp} {s₀ : Shared} {vs : List Value} {ns : List Int} {cs : List (Addr × Addr)}
theorem law_onT {H : Hp} (KX : K.In s₀.heap) (hns : s₀.heap.Ns mainGlobals mg) (hb : s₀.heap.Ns builtinsNs mb) (hbb : ∀ y : Str, y ≠ "__name__" → mb y = bootBuiltins y) (hlim : s₀.heap.NoLimit) (hg : s₀.gens = #[])
    (hbm : ∃ (bm : Addr) (ob : Obj), mg "__builtins__" = some (.ref bm) ∧ bm ≠ builtinsNs ∧ s₀.heap.get? bm = some ob ∧ ob.cls = .type "module" ∧ ob.dict = some builtinsNs ∧ ob.data = .plain)
    (hT : ∀ p ∈ cs, s₀.heap.get? p.2 = some { cls := .none, data := .fields #[] }) (nT : ∀ p ∈ cs, K.lookup p.2 = none) (hC : ∀ p ∈ cs, PySem.W.codeHdIn K p.1 p.2 = true)
    (ha : s₀.heap.get? a = some { cls := .type "list", data := .seq vs.toArray }) (hr : Room k callerA)
    (F : ∀ base : Heap, K.In base → base.Ns mainGlobals mg → (∀ p ∈ cs, LamX.TabB base mg p.1 p.2) → FnG P w K mg base CX k fa fd [x] sp) (hbind : ∀ (s : Shared) (u : Value), BindsTo s fd ⟨[u], []⟩ [(x, u)]) (hsp : sp [.ref a] H (fun v _ => v = .bl true) fun _ _ _ => False) (hCX : ∀ e s', CX [] H s₀ (fun _ _ _ => False) e s' → False)
    (hO : OnlyT (cs.map (·.2)) H) (hok : HOk P w H s₀.heap) (alone : ∀ b, b ∉ cs.map (·.2) → b ≠ a ∨ K.lookup a ≠ none → H b = none) : codeAny (model P w) callerA (.call (.ref fa) ⟨[.ref a], []⟩) (Well s₀) s₀ := by
  have isT : ∀ b, b ∈ cs.map (·.2) → s₀.heap.get? b = some { cls := .none, data := .fields #[] } ∧ K.lookup b = none := fun b hb => by
    obtain ⟨p, hp, e⟩ := List.mem_map.mp hb
    exact ⟨by rw [← e]; exact hT p hp, by rw [← e]; exact nT p hp⟩
  have kn : ∀ {b : Addr} {o : Obj}, K.lookup b = some o → H b = none := fun {b o} e => by
    refine alone b (fun hb => ?_) ?_
    · rw [(isT b hb).2] at e; cases e
    · by_cases z : b = a
      · exact .inr (by rw [← z, e]; exact nofun)
      · exact .inl z
  -- what is neither a list nor a table is hidden from nobody
  have off : ∀ {b : Addr} {o : Obj}, s₀.heap.get? b = some o → (∀ u n, o.data ≠ .seq u n) → o.data ≠ .fields #[] → H b = none := fun {b o} e n1 n2 => by
    refine alone b (fun hb => ?_) (.inl fun z => ?_)
    · rw [(isT b hb).1] at e; cases e; exact n2 rfl
    · rw [z, ha] at e; cases e; exact n1 _ _ rfl
  have ns : ∀ {b : Addr} {m : Str → Option Value}, s₀.heap.Ns b m → (hidT s₀.heap H).Ns b m := by
    rintro b m ⟨o, es, ep, e, d, r⟩
    exact ⟨o, es, ep, hidT_get e (off e (fun u n z => by rw [d] at z; cases z) fun z => by rw [d] at z; cases z), d, r⟩
  have KB : K.In (hidT s₀.heap H) := fun b o e => hidT_get (KX b o e) (kn e)
  have TB : ∀ p ∈ cs, LamX.TabB (hidT s₀.heap H) mg p.1 p.2 := fun p hp => by
    have gm : ∀ {b : Addr}, s₀.heap.Ns b mg → b ≠ p.2 := fun {b} ⟨o, es, ep, e, d, _⟩ z => by
      rw [z, hT p hp] at e; cases e; cases d
    obtain ⟨bm, ob, b1, b2, b3, b4, b5, b6⟩ := hbm
    refine ⟨PySem.W.codeHd_of_K KB (hC p hp), ⟨bm, ob, b1, b2, fun z => ?_, fun z => ?_, hidT_get b3 (off b3 (fun u n z => by rw [b6] at z; cases z) fun z => by rw [b6] at z; cases z), b4, b5, b6⟩, gm hns⟩
    · obtain ⟨o, es, ep, e, d, _⟩ := hns
      rw [z, e] at b3; cases b3; rw [d] at b6; cases b6
    · rw [z, hT p hp] at b3; cases b3; cases b6
  have lim : (hidT s₀.heap H).NoLimit := hlim.elim fun mc z => ⟨mc, ns z.1, z.2⟩
  have env : Env0 P w K mg (hidT s₀.heap H) callerA [] s₀ H := ⟨rfl, ⟨KB, ns hns, ⟨mb, ns hb, hbb⟩, lim⟩, fun _ _ => of_hidT, Nat.le_of_eq (hidT_size _ _), trivial, nofun, hok, .of_eq hg⟩
  refine codeAny_mono ((F _ KB (ns hns) TB).go callerA [] s₀ H ⟨[.ref a], []⟩ [.ref a] [.ref a] _ _ rfl hr env (hbind s₀ (.ref a)) (.cons rfl .nil) hsp) ?_
  rintro (er | fl) s' told
  · exact (hCX er s' told).elim
  match fl, told with
  | .ret u, ⟨v, H', eo, gb, un, hok', rv, (ev : v = .bl true)⟩ =>
    subst ev
    obtain rfl : u = Value.bool true := rv
    have tabs : ∀ p ∈ cs, ∃ more : Array Value, s'.heap.get? p.2 = some { cls := .none, data := .fields more } := fun p hp => by
      obtain ⟨more, z⟩ := un.tbls p.2 #[] (hO.1 p.2 (List.mem_map.mpr ⟨p, hp, rfl⟩))
      exact ⟨_, hok' p.2 _ z⟩
    have rest : ∀ b o, b ∉ cs.map (·.2) → s₀.heap.get? b = some o → s'.heap.get? b = some o := fun b o nb e =>
      match hO.2 b nb with
      | .inl n => un.keep b o e n nofun nofun
      | .inr ⟨ob, xs, q⟩ => by
        obtain rfl : o = ob := Option.some.inj (e.symm.trans (hok b _ q).1)
        exact (hok' b _ (un.frzs b o _ q)).1
    refine ⟨rfl, ⟨fun b o e => ?_, fun b o e => ?_⟩, eo, gb⟩
    · by_cases hb : b ∈ cs.map (·.2)
      · obtain ⟨p, hp, ep⟩ := List.mem_map.mp hb
        obtain ⟨more, hm⟩ := tabs p hp
        rw [← ep] at e ⊢
        rw [hT p hp] at e
        cases e
        exact .inr (.inl ⟨((PySem.W.codeHd_of_K KX (hC p hp)).tab (hT p hp)).isCodeTable, rfl, #[], more, rfl, by rw [Array.empty_append]; exact hm⟩)
      · exact .inl (rest b o hb e)
    · by_cases hb : b ∈ cs.map (·.2)
      · obtain ⟨p, hp, ep⟩ := List.mem_map.mp hb
        obtain ⟨more, hm⟩ := tabs p hp
        rw [← ep]
        exact ⟨_, hm⟩
      · exact ⟨o, rest b o hb e⟩
/-- tables, and the script where it isn't known else -/
def loneT (tb : List Addr) (a : Addr) (r : Option HO) : Hp := fun b => if b ∈ tb then some (.tbl #[]) else if b = a then r else none
theorem law_gT (KX : K.In s₀.heap) (hns : s₀.heap.Ns mainGlobals mg) (hb : s₀.heap.Ns builtinsNs mb) (hbb : ∀ y : Str, y ≠ "__name__" → mb y = bootBuiltins y) (hlim : s₀.heap.NoLimit) (hg : s₀.gens = #[])
    (hbm : ∃ (bm : Addr) (ob : Obj), mg "__builtins__" = some (.ref bm) ∧ bm ≠ builtinsNs ∧ s₀.heap.get? bm = some ob ∧ ob.cls = .type "module" ∧ ob.dict = some builtinsNs ∧ ob.data = .plain)
    (hT : ∀ p ∈ cs, s₀.heap.get? p.2 = some { cls := .none, data := .fields #[] }) (nT : ∀ p ∈ cs, K.lookup p.2 = none) (hC : ∀ p ∈ cs, PySem.W.codeHdIn K p.1 p.2 = true)
    (ha : s₀.heap.get? a = some { cls := .type "list", data := .seq vs.toArray })
    (hi : IntsAre vs ns) (hl : ns.length ≤ sizeLine) (hr : Room k callerA) (F : ∀ base : Heap, K.In base → base.Ns mainGlobals mg → (∀ p ∈ cs, LamX.TabB base mg p.1 p.2) → FnG P w K mg base CX k fa fd [x] sp) (hbind : ∀ (s : Shared) (u : Value), BindsTo s fd ⟨[u], []⟩ [(x, u)])
    (hsp : ∀ H : Hp, OnlyT (cs.map (·.2)) H → SqL K H a (ns.map V.int) → sp [.ref a] H (fun v _ => v = .bl true) fun _ _ _ => False) (hCX : ∀ H e s', CX [] H s₀ (fun _ _ _ => False) e s' → False) : codeAny (model P w) callerA (.call (.ref fa) ⟨[.ref a], []⟩) (Well s₀) s₀ := by
  have rel := vals_ints hi
  have aT : a ∉ cs.map (·.2) := fun z => by
    obtain ⟨p, hp, e⟩ := List.mem_map.mp z
    have q := hT p hp
    have e' : p.2 = a := e
    rw [e', ha] at q
    cases q
  have inT : ∀ {r : Option HO} {b : Addr}, b ∈ cs.map (·.2) → loneT (cs.map (·.2)) a r b = some (.tbl #[]) := fun h => if_pos h
  have outT : ∀ {r : Option HO} {b : Addr}, b ∉ cs.map (·.2) → b ≠ a → loneT (cs.map (·.2)) a r b = none := fun h h2 => (if_neg h).trans (if_neg h2)
  have atA : ∀ {r : Option HO}, loneT (cs.map (·.2)) a r a = r := (if_neg aT).trans (if_pos rfl)
  have okT : ∀ {r : Option HO}, (∀ u, r = some u → ObjOk P w (loneT (cs.map (·.2)) a r) s₀.heap a u) → HOk P w (loneT (cs.map (·.2)) a r) s₀.heap := fun {r} hr b u z => by
    by_cases hb : b ∈ cs.map (·.2)
    · obtain rfl := Option.some.inj ((inT hb).symm.trans z)
      obtain ⟨p, hp, e⟩ := List.mem_map.mp hb
      rw [← e]
      exact hT p hp
    · by_cases e : b = a
      · subst e
        exact hr u (atA.symm.trans z)
      · exact nomatch (outT hb e).symm.trans z
  cases inK : K.lookup a with
  | some o =>
    obtain rfl : o = { cls := .type "list", data := .seq vs.toArray } := Option.some.inj ((KX a o inK).symm.trans ha)
    have O : OnlyT (cs.map (·.2)) (loneT (cs.map (·.2)) a none) := ⟨fun b hb => inT hb, fun b hb => by
      by_cases e : b = a
      · rw [e]; exact .inl atA
      · exact .inl (outT hb e)⟩
    refine law_onT KX hns hb hbb hlim hg hbm hT nT hC ha hr F hbind (hsp _ O (.inr ⟨_, vs.toArray, _, inK, rfl, rfl, rfl, by rw [List.size_toArray, hi.length]; exact hl, by simpa using rel⟩)) (hCX _) O (okT nofun) fun b hb _ => ?_
    by_cases e : b = a
    · rw [e]; exact atA
    · exact outT hb e
  | none =>
    have O : OnlyT (cs.map (·.2)) (loneT (cs.map (·.2)) a (some (.frz { cls := .type "list", data := .seq vs.toArray } (.lst (ns.map V.int))))) := ⟨fun b hb => inT hb, fun b hb => by
      by_cases e : b = a
      · rw [e]; exact .inr ⟨_, _, atA⟩
      · exact .inl (outT hb e)⟩
    refine law_onT KX hns hb hbb hlim hg hbm hT nT hC ha hr F hbind (hsp _ O (.inl (.inr ⟨_, atA⟩))) (hCX _) O (okT fun u z => ?_) fun b hb z => z.elim (outT hb) fun y => (y inK).elim
    obtain rfl := Option.some.inj z
    exact ⟨ha, Nat.le_trans (Nat.le_of_eq (List.length_map V.int)) hl, vs, _, rel, ha⟩
end
theorem walk_gT {l : PySem.W.OpenLaw} {n k : Nat} {q : Program} {loose : List Str} {XP : (Str → Option Value) → Heap → Prop} {YP : World → Heap → Prop} {d : DefRec} {CX : CXT} {x : Str} (hn : l.most = some n) (hn2 : n ≤ sizeLine) (hdf : d.params.defaults = []) (hr : Room k callerA)
    (F : ∀ (w : World) (mg : Str → Option Value) (fa : Addr) (h : Heap), YP w h → h.Ns mainGlobals mg → mg d.name = some (.ref fa) → ∃ (K : PySem.W.Frag) (fd : FuncData) (sp : Sp) (cs : List (Addr × Addr)), K.In h ∧ (∀ p ∈ cs, h.get? p.2 = some { cls := .none, data := .fields #[] }) ∧ (∀ p ∈ cs, K.lookup p.2 = none) ∧
      (∀ p ∈ cs, PySem.W.codeHdIn K p.1 p.2 = true) ∧ (∀ (s : Shared) (u : Value), BindsTo s fd ⟨[u], []⟩ [(x, u)]) ∧
      (∀ (H : Hp) (a : Addr) (ns : List Int), ns.length ≤ n → OnlyT (cs.map (·.2)) H → SqL K H a (ns.map V.int) → sp [.ref a] H (fun v _ => v = .bl true) fun _ _ _ => False) ∧ ∀ base : Heap, K.In base → base.Ns mainGlobals mg → (∀ p ∈ cs, LamX.TabB base mg p.1 p.2) → FnG l.prog w K mg base CX k fa fd [x] sp)
    (hCX : ∀ (H : Hp) (s : Shared) (e : Value) (s' : Shared), CX [] H s (fun _ _ _ => False) e s' → False) : PySem.W.WalkO q loose XP YP l.row.toRowW d [] (fun f vs => PySem.call f vs) :=
  Att.attach_call hn hdf fun w s₀ s₁ mg mb fa o pm cd doc a vs ns G Y ho hd hcd hmg hobj hints hlen hg => by
    have ⟨K, fd, sp, cs, KX, hT, nT, hC, hb, hsp, hF⟩ := F w mg fa s₁.heap Y G.T.g hmg
    exact law_gT KX G.T.g G.T.b G.T.builtins G.T.nolimit hg G.T.bmain hT nT hC hobj hints (Nat.le_trans hlen hn2) hr hF hb (fun H hO hS => hsp H a ns hlen hO hS) fun H e s' => hCX H s₁ e s'
/-- a def whose code object is known -/
theorem fn_gc {P : Program} {w : World} {K : PySem.W.Frag} {mg : Str → Option Value} {base : Heap} {CX : CXT} {k : Nat} {p : He.Defn} {fd : FuncData} {ps : List Str} {sp : Sp} {x qual : Str} {params : Arguments} {body : List Stmt} {scope : Scope} {dvs : List V} {kws : List (Str × V)} {N : List Str}
    (F : FunD K x qual params body scope dvs kws (He.fAd K p) fd) (S : FnScope N ps scope) (len : ∀ vs H Q E, sp vs H Q E → vs.length = ps.length)
    (hb : ∀ (A : Around) (out : List Env) (s : Shared) (H : Hp) (vs : List V) (Q : VK) (E : XK), A.guards = some [] → Room k (A.deeper (envOfC qual scope s.heap.objs.size (He.fAd K p) (.ref (He.codeOf K p)))) → sp vs H Q E →
      ∃ t, PSs (cxOf CX P w K mg base N qual scope (He.fAd K p) (.ref (He.codeOf K p)) A out s H E) body t ∧ t { nx := fun _ H' => Q .non H', rt := Q } (start N vs) H) : FnG P w K mg base CX (k + 1) (He.fAd K p) fd ps sp := by
  obtain ⟨oc, od, dV, kV, doc, pm, an, cdv, ct, osl, e, lk, hcd, _, _⟩ := F.ex
  subst e
  obtain ⟨c, rfl⟩ := He.codeIn_ref hcd
  have ec := He.codeOf_eq lk rfl
  subst ec
  refine ⟨len, fun A out s H ar us vs Q E g hr e0 bd r hsp => ?_⟩
  have KX : K.In s.heap := e0.mod.kin.keeps fun b o q => (e0.bs b o q).1
  have nl : s.heap.NoLimit := e0.mod.nolimit.keeps fun b o q => (e0.bs b o q).1
  have nk : ∀ y ∈ ps.zip us, scope.names.lookup y.1 = some .local ∨ (scope.names.lookup y.1 = some .cell ∧ ((cellsFrom (s.heap.objs.size + 1) scope.names []).lookup y.1).isSome = true) := by
    rintro ⟨n, v⟩ hy
    exact (S.par n (List.of_mem_zip hy).1).imp id fun q => ⟨q, PySem.W.cellsFrom_some _ _ _ (.inl q)⟩
  refine codeAny_call_function hr.depth (KX _ _ lk) rfl S.co S.gen rfl (PySem.W.codeRec_of KX hcd) (bd _ _ _ _ (wpAny_newFunctionEnv_cells S.kind nk fun env he s1 x => ?_))
  cases he
  refine ⟨nl.keeps x.toInCall.keep, codeAny_func ?_⟩
  obtain ⟨t, ht, hq⟩ := hb A out s H vs Q E g (hr.deeper _) hsp
  refine wpAny_mono (ht.run [] s1 (start N vs) H _ (inv_start S hr.hd e0 (len _ _ _ _ hsp) r x) hq) (fun fl s' hs => ?_) fun _ _ z => z
  cases fl with
  | ret u => obtain ⟨v, σ', H', I, rv, q⟩ := hs; exact ⟨v, H', I.os, I.bare, I.base, I.hok, rv, q⟩
  | next => obtain ⟨σ', H', I, q⟩ := hs; exact ⟨V.non, H', I.os, I.bare, I.base, I.hok, rfl, q⟩
  | brk => exact hs.elim fun _ h => h.elim fun _ h => h.2.elim
  | cont => exact hs.elim fun _ h => h.elim fun _ h => h.2.elim
theorem hears_of {X : Cx} {T : List (Addr × Str)} {k : Nat} {x a : Str} {TT : (XK → Hp → VK → Prop) → Hp → VK → Prop} {g c P : Addr} {pg : Arguments} {bg : List Stmt} {sg : Scope} {fd : FuncData} {Ng : List Str} (F : FunD X.K x x pg bg sg [] [] g fd) (hm : X.mg x = some (.ref g)) (hb : L2.Binds X.K fd [a] [])
    (Sg : FnScope Ng [a] sg) (hNg : Ng[0]? = some a) (hva : Vis sg a) (hG : ∀ cdg : Value, LamX.GivesTo X Ng x sg g cdg bg a (X.env.qual ++ "<lambda>") TT) (TB : LamX.TabB X.base X.mg c P) (hcode : X.env.code = .ref c) (hmT : (P, X.env.qual ++ "<lambda>") ∈ T)
    (hu : ∀ p ∈ T, p.1 = P → p.2 = X.env.qual ++ "<lambda>") : Hears X T k x a TT := by
  obtain ⟨oc, od, dV, kV, doc, pm, an, cdv, ct, osl, e, lk, hcd, _, _⟩ := F.ex
  subst e
  exact ⟨g, c, P, pg, bg, sg, dV, kV, doc, pm, cdv, ct, oc, an, od, osl, Ng, hm, F.kp, lk, hcd, hb, Sg, hNg, hva, hG cdv, TB, hcode, hmT, hu⟩
end DL

/-! isinstance of what was caught, yes or no. -/
namespace DL
open PySem PySem.Spec
open PyProof.Rows L2
local macro_rules | `(tactic| walk_at "rep") => `(tactic| first | assumption | exact Da.int _ | exact Da.bl _ | exact Da.str _ | exact Da.non | exact Sub.da (by assumption) (by assumption) | exact Sub.da (Tr.jj (by assumption)) (by assumption))
local macro_rules | `(tactic| walk_at "arith") => `(tactic| first | assumption | omega | decide | exact cmul_small (by omega) (by omega) | exact cdiv_small (by omega) (by omega))
local macro_rules | `(tactic| walk_at "shp") => `(tactic| first | exact sh_int _ | exact sh_tup _ | exact sh_list _ | assumption)
local macro_rules | `(tactic| walk_at "od") => `(tactic| first
  | with_reducible exact od_plus
  | with_reducible exact od_sub
  | ((with_reducible refine' od_mul ?h1); walk_at "arith")
  | ((with_reducible refine' od_mod ?h1); walk_at "arith")
  | ((with_reducible refine' od_fdiv ?h1); walk_at "arith")
  | ((with_reducible refine' od_pow ?h1); exact ⟨by decide, by decide, by decide⟩)
  | with_reducible exact od_lt | with_reducible exact od_le | with_reducible exact od_gt | with_reducible exact od_ge
  | ((with_reducible refine' od_plusT ?h1); walk_at "arith")
  | ((with_reducible refine' od_plusL ?h1); walk_at "arith")
  | ((with_reducible refine' od_plusS ?h1); walk_at "arith")
  | with_reducible exact od_isN | with_reducible exact od_notN
  | ((with_reducible refine od_eq ?_ ?_) <;> walk_at "shp")
  | ((with_reducible refine od_ne ?_ ?_) <;> walk_at "shp")
  | ((with_reducible refine od_inL ?_ ?_) <;> walk_at "shp")
  | ((with_reducible refine od_ixL ?_); assumption)
  | ((with_reducible refine od_ixT ?_); assumption))
local macro_rules | `(tactic| walk_at "ea") => `(tactic| first | with_reducible exact ea_nil | ((with_reducible refine' ea_consD ?h1 ?h2); (case h1 => walk_at "ev"); (case h2 => walk_at "ea")))
local macro_rules | `(tactic| walk_at "eo") => `(tactic| first | with_reducible exact eo_none | ((with_reducible refine' eo_at ?h1); (case h1 => walk_at "ev")))
local macro_rules | `(tactic| walk_at "cd") => `(tactic| first
  | with_reducible exact cd_lenL | with_reducible exact cd_lenT | with_reducible exact cd_tupL | with_reducible exact cd_tupT | with_reducible exact cd_lstL | with_reducible exact cd_lstT | with_reducible exact cd_abs | with_reducible exact cd_int)
local macro_rules | `(tactic| walk_at "ev") => `(tactic| first
  | with_reducible exact ev_int | with_reducible exact ev_bl | with_reducible exact ev_str | with_reducible exact ev_non
  | ((with_reducible refine' ev_var ?h1 ?h2); (case h1 => exact rfl); (case h2 => walk_at "rep"))
  | ((with_reducible refine' ev_opD ?h1 ?h2 ?h3); (case h1 => walk_at "ev"); (case h2 => walk_at "ev"); (case h3 => walk_at "od"))
  | ((with_reducible refine' ev_tupD ?h1); (case h1 => walk_at "ea"))
  | ((with_reducible refine' ev_lstD ?h1); (case h1 => walk_at "ea"))
  | ((with_reducible refine' ev_revL ?h1); (case h1 => walk_at "ev"))
  | ((with_reducible refine' ev_slD ?h1 ?h2 ?h3 ?h4); (case h1 => walk_at "ev"); (case h2 => walk_at "eo"); (case h3 => walk_at "eo"); (case h4 => first | with_reducible exact sd_tup | with_reducible exact sd_list))
  | ((with_reducible refine' ev_cbD ?h1 ?h2); (case h1 => walk_at "ea"); (case h2 => walk_at "cd"))
  | ((with_reducible refine' ev_notV ?h1); (case h1 => walk_at "ev"))
  | assumption)
local macro_rules | `(tactic| walk_at "et") => `(tactic| first
  | ((with_reducible refine' et_testD ?h1); (case h1 => walk_at "ev"))
  | ((with_reducible refine' et_BD ?h1); (case h1 => walk_at "ev"))
  | ((with_reducible refine' et_notD ?h1); (case h1 => walk_at "et"))
  | ((with_reducible refine' et_andD ?h1 ?h2); (case h1 => walk_at "et"); (case h2 => intro _; walk_at "et"))
  | ((with_reducible refine' et_orD ?h1 ?h2); (case h1 => walk_at "et"); (case h2 => intro _; walk_at "et"))
  | assumption)
/-- isinstance(e, c), e what the suite holds: its class D keeps a dict -/
def rIsA (K : PySem.W.Frag) (cls : Value) (d : Option Addr) (a : Addr) : List V → Hp → VK → Prop := fun xs H Q => ∃ (D dx : Addr) (fs : List (Str × V)) (c : V) (cv : Value) (b : Bool), cls = .ref D ∧ d = some dx ∧ H dx = some (.xd fs) ∧ L2.ExcC K D ∧ xs = [.ref a, c] ∧ (∀ u, RelV c u → u = cv) ∧ PySem.W.kitOne K (.ref D) cv = some b ∧ Q (.bl b) H
theorem call_isA {X : Cx} {a : Addr} {cls : Value} {d : Option Addr} {oe : Obj} {pn : List (Addr × Obj)} (hz : Zc cls d oe) (hf : ∃ vs, oe.data = .fields vs) : CallR (X.suite a ((a, oe) :: pn)) (.builtin "isinstance") (rIsA X.K cls d a) := by
  rintro pins s σ H xs us Q I r ⟨D, dx, fs, c, cv, b, rfl, rfl, hx, C, rfl, hcv, e, q⟩
  obtain ⟨u1, u2, rfl, r1, r2⟩ := vals2 r
  cases (show u1 = Value.ref a from r1)
  obtain rfl := hcv _ r2
  obtain ⟨at_, _⟩ := I.pin (a, oe) (List.mem_append.mpr (.inl List.mem_cons_self))
  obtain ⟨vs, hv⟩ := hf
  obtain ⟨mA, ⟨od, es, ep, eo, _⟩, _⟩ := (I.hok dx _ hx : ∃ mA, s.heap.Ns1 dx mA ∧ ∀ f, RelO (fs.lookup f) (mA f))
  have J : PySem.W.InstAt s.heap a oe D (some od) := by
    obtain ⟨oc, odi, oda, osl⟩ := oe
    obtain ⟨h1, h2⟩ := hz
    dsimp only at h1 h2 hv
    subst h1 h2 hv
    exact ⟨at_, rfl, rfl, eo⟩
  have hcl : (PySem.W.clsIn X.K D).isSome = true := by
    obtain ⟨cd, hc, _⟩ := PySem.W.any_some C.hd
    rw [hc]; rfl
  exact PySem.W.kia_one (PySem.W.kitx_exc hcl C.hg C.hk C.hs C.ha C.hn C.ht C.hm) I.kIn J e (fun z => nomatch z) fun tk => ⟨.bl b, H, I.kept (t' := tk) fun _ _ z => z, rfl, q⟩
end DL

/-! A dict of defs that stands in the module: what it holds at a text; a call of a local name that holds one of several defs. -/
namespace DL
open PySem PySem.Spec
open PyProof.Rows L2
local macro_rules | `(tactic| walk_at "rep") => `(tactic| first | assumption | exact Da.int _ | exact Da.bl _ | exact Da.str _ | exact Da.non | exact Sub.da (by assumption) (by assumption) | exact Sub.da (Tr.jj (by assumption)) (by assumption))
local macro_rules | `(tactic| walk_at "arith") => `(tactic| first | assumption | omega | decide | exact cmul_small (by omega) (by omega) | exact cdiv_small (by omega) (by omega))
local macro_rules | `(tactic| walk_at "shp") => `(tactic| first | exact sh_int _ | exact sh_tup _ | exact sh_list _ | assumption)
local macro_rules | `(tactic| walk_at "od") => `(tactic| first
  | with_reducible exact od_plus
  | with_reducible exact od_sub
  | ((with_reducible refine' od_mul ?h1); walk_at "arith")
  | ((with_reducible refine' od_mod ?h1); walk_at "arith")
  | ((with_reducible refine' od_fdiv ?h1); walk_at "arith")
  | ((with_reducible refine' od_pow ?h1); exact ⟨by decide, by decide, by decide⟩)
  | with_reducible exact od_lt | with_reducible exact od_le | with_reducible exact od_gt | with_reducible exact od_ge
  | ((with_reducible refine' od_plusT ?h1); walk_at "arith")
  | ((with_reducible refine' od_plusL ?h1); walk_at "arith")
  | ((with_reducible refine' od_plusS ?h1); walk_at "arith")
  | with_reducible exact od_isN | with_reducible exact od_notN
  | ((with_reducible refine od_eq ?_ ?_) <;> walk_at "shp")
  | ((with_reducible refine od_ne ?_ ?_) <;> walk_at "shp")
  | ((with_reducible refine od_inL ?_ ?_) <;> walk_at "shp")
  | ((with_reducible refine od_ixL ?_); assumption)
  | ((with_reducible refine od_ixT ?_); assumption))
local macro_rules | `(tactic| walk_at "ea") => `(tactic| first | with_reducible exact ea_nil | ((with_reducible refine' ea_consD ?h1 ?h2); (case h1 => walk_at "ev"); (case h2 => walk_at "ea")))
local macro_rules | `(tactic| walk_at "eo") => `(tactic| first | with_reducible exact eo_none | ((with_reducible refine' eo_at ?h1); (case h1 => walk_at "ev")))
local macro_rules | `(tactic| walk_at "cd") => `(tactic| first
  | with_reducible exact cd_lenL | with_reducible exact cd_lenT | with_reducible exact cd_tupL | with_reducible exact cd_tupT | with_reducible exact cd_lstL | with_reducible exact cd_lstT | with_reducible exact cd_abs | with_reducible exact cd_int)
local macro_rules | `(tactic| walk_at "ev") => `(tactic| first
  | with_reducible exact ev_int | with_reducible exact ev_bl | with_reducible exact ev_str | with_reducible exact ev_non
  | ((with_reducible refine' ev_var ?h1 ?h2); (case h1 => exact rfl); (case h2 => walk_at "rep"))
  | ((with_reducible refine' ev_opD ?h1 ?h2 ?h3); (case h1 => walk_at "ev"); (case h2 => walk_at "ev"); (case h3 => walk_at "od"))
  | ((with_reducible refine' ev_tupD ?h1); (case h1 => walk_at "ea"))
  | ((with_reducible refine' ev_lstD ?h1); (case h1 => walk_at "ea"))
  | ((with_reducible refine' ev_revL ?h1); (case h1 => walk_at "ev"))
  | ((with_reducible refine' ev_slD ?h1 ?h2 ?h3 ?h4); (case h1 => walk_at "ev"); (case h2 => walk_at "eo"); (case h3 => walk_at "eo"); (case h4 => first | with_reducible exact sd_tup | with_reducible exact sd_list))
  | ((with_reducible refine' ev_cbD ?h1 ?h2); (case h1 => walk_at "ea"); (case h2 => walk_at "cd"))
  | ((with_reducible refine' ev_notV ?h1); (case h1 => walk_at "ev"))
  | assumption)
local macro_rules | `(tactic| walk_at "et") => `(tactic| first
  | ((with_reducible refine' et_testD ?h1); (case h1 => walk_at "ev"))
  | ((with_reducible refine' et_BD ?h1); (case h1 => walk_at "ev"))
  | ((with_reducible refine' et_notD ?h1); (case h1 => walk_at "et"))
  | ((with_reducible refine' et_andD ?h1 ?h2); (case h1 => walk_at "et"); (case h2 => intro _; walk_at "et"))
  | ((with_reducible refine' et_orD ?h1 ?h2); (case h1 => walk_at "et"); (case h2 => intro _; walk_at "et"))
  | assumption)
section
variable {X : Cx} {d : Addr} {es : Array DictEntry} {n : Nat}
def rIxD (K : PySem.W.Frag) (d : Addr) : R2 := fun x y H Q => ∃ (z : Str) (u0 : Value) (v0 : V), x = .ref d ∧ y = .str z ∧ PySem.W.nsIn K d z = some (some u0) ∧ RelV v0 u0 ∧ Q v0 H
theorem ix_kd (D : KDict X.K X.w d es n) : IxR X (rIxD X.K d) := by
  intro value slice pins s σ H x y v u Q I rx ry h hs
  obtain ⟨z, u0, v0, rfl, rfl, e, r, q⟩ := h
  cases rx
  obtain ⟨t, rfl⟩ := ry
  exact tail_any (kd_type D I) PySem.F.slot_dict_getitem.lookup (wpAny_getItem_of (PySem.strKind_is X.prog X.w z t) (PySem.W.mapOf_K (prog := X.prog) I.kIn D.at_ D.lit) (PySem.W.find_K D.at_ e) ⟨v0, H, I.tok _, r, q⟩) hs
end
/-- a call of the def that the i-th slot holds, one of those that S knows -/
def tCallV (i : Nat) (S : Addr → Sp → Prop) (E : XK) (t : TA) : TE := fun σ H Q => ∃ f sp, σ[i]? = some (some (.ref f)) ∧ S f sp ∧ t σ H fun vs H1 => sp vs H1 Q E
theorem xCallV {X : Cx} {CX : CXT} {k i : Nat} {S : Addr → Sp → Prop} {E : XK} {x : Str} {p pos : Pos} {e : Expr} {es : List Expr} {t : TA} (A : ∀ f sp, S f sp → ∃ (fd : FuncData) (ps : List Str), FnOk X.prog X.w X.K X.mg X.base CX k f fd ps sp ∧ PySem.W.keepIn X.K (.ref f) = true ∧ Binds X.K fd ps []) (hr : Room k X.A) (hx : Passes CX X E)
    (hN : X.N[i]? = some x) (hv : Vis X.env.scope x) (ha : PA X (e :: es) t) (hdb : (x == ("__debug__" : Str)) = false := by decide) (hcd : (x == ("__classdict__" : Str)) = false := by decide)
    (he : starEach (e :: es) X.env = (false, eval e X.env) :: starEach es X.env := by rfl) (hpl : (backTo pos (starEach es X.env)).any (·.1) = false := by rfl) : PE X (.Call (.Name x p) (e :: es) [] pos) (tCallV i S E t) := by
  refine ⟨fun pins s σ H Q I h => ?_⟩
  obtain ⟨f, sp, hs, hS, ht⟩ := h
  obtain ⟨fd, ps, F, hk, hb⟩ := A f sp hS
  refine (pe_callL (dvs := []) (ds := []) F hr hN hv hk hb .nil hx ha hdb hcd he hpl).run pins s σ H Q I ⟨hs, ?_⟩
  have e0 : (fun (vs : List V) (H1 : Hp) => sp (vs ++ []) H1 Q E) = fun vs H1 => sp vs H1 Q E := by
    funext vs H1
    rw [List.append_nil]
  show t σ H (fun vs H1 => sp (vs ++ []) H1 Q E)
  rw [e0]
  exact ht
end DL

/-! Things that may be written, as trees: lists, dicts, instances, each with the address where it stands. -/
namespace DW
open PySem PySem.Spec
open PyProof.Rows L2 DL
/-- an own class: where it stands, and the names of its fields as they come to be -/
structure ClsD where
  ad : Addr
  fl : List Str
inductive Kd where
  | lst | dct (ks : List Key) | lck (o : Obj) (ks : List Key) | obj (dx : Addr) (c : ClsD)
inductive MV where
  | d (x : PyData)
  | nd (p : Addr) (k : Kd) (ms : List MV)
  | hole (p : Addr)
def hoOf : Kd → List V → HO
  | .lst, vs => .lst vs
  | .dct ks, vs => .dK (ks.zip vs)
  | .lck o ks, vs => .frz o (.dK (ks.zip vs))
  | .obj dx c, vs => .ins c.ad dx (c.fl.zip vs)
def exA : Kd → List Addr
  | .obj dx _ => [dx]
  | _ => []
def exH : Kd → Addr → Hp → Prop
  | .obj dx _, p, H => H dx = some (.own p)
  | _, _, _ => True
def fits : Kd → Nat → Prop
  | .lst, _ => True
  | .dct ks, n => ks.length = n ∧ ks.Nodup
  | .lck _ ks, n => ks.length = n ∧ ks.Nodup
  | .obj _ c, n => n ≤ c.fl.length ∧ c.fl.Nodup
theorem hoOf_mu (k : Kd) (vs : List V) : Mu (hoOf k vs) := by cases k <;> exact True.intro
theorem hoOf_nt (k : Kd) (vs : List V) (ps : Array Value) : hoOf k vs ≠ .tbl ps := by cases k <;> (intro h; cases h)
mutual
def fpM : MV → List Addr
  | .d _ => []
  | .hole _ => []
  | .nd p k ms => p :: (exA k ++ fpMs ms)
def fpMs : List MV → List Addr
  | [] => []
  | m :: ms => fpM m ++ fpMs ms
end
mutual
inductive Ow (K : PySem.W.Frag) (J H : Hp) : V → MV → Prop
  | d {v : V} {x : PyData} : Da K J v x → Ow K J H v (.d x)
  | hole {p : Addr} : Ow K J H (.ref p) (.hole p)
  | nd {p : Addr} {k : Kd} {vs : List V} {ms : List MV} : H p = some (hoOf k vs) → exH k p H → fits k vs.length → Ows K J H vs ms → Ow K J H (.ref p) (.nd p k ms)
inductive Ows (K : PySem.W.Frag) (J H : Hp) : List V → List MV → Prop
  | nil : Ows K J H [] []
  | cons {v : V} {vs : List V} {m : MV} {ms : List MV} : Ow K J H v m → Ows K J H vs ms → Ows K J H (v :: vs) (m :: ms)
end
theorem exH_keep {k : Kd} {p : Addr} {H H' : Hp} (h : exH k p H) (e : ∀ a ∈ exA k, H' a = H a) : exH k p H' := by
  cases k with
  | obj dx c => show H' dx = _; rw [e dx (List.mem_singleton.mpr rfl)]; exact h
  | _ => exact True.intro
mutual
theorem Ow.frame {K : PySem.W.Frag} {J J' H H' : Hp} (s : Sub J J') : ∀ {m : MV} {v : V}, (∀ a ∈ fpM m, H' a = H a) → Ow K J H v m → Ow K J' H' v m
  | .d x, _, _, h => by
    cases h with
    | d a => exact .d (s.da a)
  | .hole p, _, _, h => by
    cases h
    exact .hole
  | .nd p k ms, _, e, h => by
    have e0 : H' p = H p := e p (by unfold fpM; exact List.mem_cons_self ..)
    have e1 : ∀ a ∈ exA k, H' a = H a := fun a q => e a (by unfold fpM; exact List.mem_cons_of_mem _ (List.mem_append_left _ q))
    have e2 : ∀ a ∈ fpMs ms, H' a = H a := fun a q => e a (by unfold fpM; exact List.mem_cons_of_mem _ (List.mem_append_right _ q))
    cases h with
    | nd a b c d => exact .nd (by rw [e0]; exact a) (exH_keep b e1) c (Ows.frame s e2 d)
theorem Ows.frame {K : PySem.W.Frag} {J J' H H' : Hp} (s : Sub J J') : ∀ {ms : List MV} {vs : List V}, (∀ a ∈ fpMs ms, H' a = H a) → Ows K J H vs ms → Ows K J' H' vs ms
  | [], _, _, h => by cases h; exact .nil
  | m :: ms, _, e, h => by
    have e1 : ∀ a ∈ fpM m, H' a = H a := fun a q => e a (by unfold fpMs; exact List.mem_append_left _ q)
    have e2 : ∀ a ∈ fpMs ms, H' a = H a := fun a q => e a (by unfold fpMs; exact List.mem_append_right _ q)
    cases h with
    | cons a b => exact .cons (Ow.frame s e1 a) (Ows.frame s e2 b)
end
mutual
theorem Ow.there {K : PySem.W.Frag} {J H : Hp} {a : Addr} : ∀ {m : MV} {v : V}, Ow K J H v m → a ∈ fpM m → ∃ o, H a = some o ∧ ∀ ps, o ≠ .tbl ps
  | .d x, _, _, q => by unfold fpM at q; cases q
  | .hole p, _, _, q => by unfold fpM at q; cases q
  | .nd p k ms, _, h, q => by
    unfold fpM at q
    cases h with
    | nd e b c d =>
      rcases List.mem_cons.mp q with rfl | q
      · exact ⟨_, e, hoOf_nt k _⟩
      rcases List.mem_append.mp q with q | q
      · cases k with
        | obj dx c =>
          rcases List.mem_singleton.mp q with rfl
          exact ⟨_, b, fun ps z => by cases z⟩
        | _ => cases q
      · exact Ows.there d q
theorem Ows.there {K : PySem.W.Frag} {J H : Hp} {a : Addr} : ∀ {ms : List MV} {vs : List V}, Ows K J H vs ms → a ∈ fpMs ms → ∃ o, H a = some o ∧ ∀ ps, o ≠ .tbl ps
  | [], _, _, q => by unfold fpMs at q; cases q
  | m :: ms, _, h, q => by
    unfold fpMs at q
    cases h with
    | cons x y =>
      rcases List.mem_append.mp q with q | q
      · exact Ow.there x q
      · exact Ows.there y q
end
theorem ows_len {K : PySem.W.Frag} {J H : Hp} : ∀ {vs : List V} {ms : List MV}, Ows K J H vs ms → vs.length = ms.length
  | [], _, h => by cases h; rfl
  | _ :: _, _, h => by
    cases h with
    | cons _ b => simp [ows_len b]
theorem ows_split {K : PySem.W.Frag} {J H : Hp} {m : MV} {m2 : List MV} : ∀ {m1 : List MV} {vs : List V}, Ows K J H vs (m1 ++ m :: m2) → ∃ v1 v v2, vs = v1 ++ v :: v2 ∧ Ows K J H v1 m1 ∧ Ow K J H v m ∧ Ows K J H v2 m2
  | [], _, h => by
    cases h with
    | cons a b => exact ⟨[], _, _, rfl, .nil, a, b⟩
  | _ :: m1, _, h => by
    cases h with
    | cons a b =>
      obtain ⟨v1, v, v2, rfl, x, y, z⟩ := ows_split b
      exact ⟨_ :: v1, v, v2, rfl, .cons a x, y, z⟩
theorem ows_join {K : PySem.W.Frag} {J H : Hp} : ∀ {v1 v2 : List V} {m1 m2 : List MV}, Ows K J H v1 m1 → Ows K J H v2 m2 → Ows K J H (v1 ++ v2) (m1 ++ m2)
  | [], _, _, _, h, g => by cases h; exact g
  | _ :: _, _, _, _, h, g => by
    cases h with
    | cons a b => exact .cons a (ows_join b g)
theorem ows_das {K : PySem.W.Frag} {J H : Hp} : ∀ {vs : List V} {xs : List PyData}, Das K J vs xs → Ows K J H vs (xs.map MV.d)
  | [], _, h => by cases h; exact .nil
  | _ :: _, _, h => by
    cases h with
    | cons a b => exact .cons (.d a) (ows_das b)
theorem das_ows {K : PySem.W.Frag} {J H : Hp} : ∀ {vs : List V} {xs : List PyData}, Ows K J H vs (xs.map MV.d) → Das K J vs xs
  | _, [], h => by cases h; exact .nil
  | _, x :: xs, h => by
    cases h with
    | cons a b =>
      cases a with
      | d a => exact .cons a (das_ows b)
theorem fpMs_nil : fpMs [] = [] := by rw [fpMs]
theorem fpMs_cons (m : MV) (ms : List MV) : fpMs (m :: ms) = fpM m ++ fpMs ms := by rw [fpMs]
theorem fpM_hole (p : Addr) : fpM (.hole p) = [] := by rw [fpM]
theorem fpM_d (x : PyData) : fpM (.d x) = [] := by rw [fpM]
theorem fpM_nd (p : Addr) (k : Kd) (ms : List MV) : fpM (.nd p k ms) = p :: (exA k ++ fpMs ms) := by rw [fpM]
theorem fpMs_app : ∀ (m1 m2 : List MV), fpMs (m1 ++ m2) = fpMs m1 ++ fpMs m2
  | [], m2 => by rw [fpMs_nil]; rfl
  | m :: m1, m2 => by rw [List.cons_append, fpMs_cons, fpMs_cons, fpMs_app m1 m2, List.append_assoc]
theorem fpMs_data : ∀ xs : List PyData, fpMs (xs.map MV.d) = []
  | [] => fpMs_nil
  | x :: xs => by rw [List.map_cons, fpMs_cons, fpMs_data xs, fpM_d]; rfl
/-! ### a place within -/
def getM : List Nat → MV → Option MV
  | [], m => some m
  | i :: π, .nd _ _ ms => match ms[i]? with
    | some m => getM π m
    | none => none
  | _ :: _, .d _ => none
  | _ :: _, .hole _ => none
def setM : List Nat → MV → MV → MV
  | [], y, _ => y
  | i :: π, y, .nd p k ms => match ms[i]? with
    | some m => .nd p k (ms.set i (setM π y m))
    | none => .nd p k ms
  | _ :: _, _, .d x => .d x
  | _ :: _, _, .hole p => .hole p
theorem at_split {α : Type} {l : List α} {i : Nat} {x : α} (h : l[i]? = some x) : ∃ l1 l2, l = l1 ++ x :: l2 ∧ l1.length = i ∧ ∀ y, l.set i y = l1 ++ y :: l2 := by
  obtain ⟨hi, e⟩ := List.getElem?_eq_some_iff.mp h
  refine ⟨l.take i, l.drop (i + 1), ?_, by simp; omega, fun y => ?_⟩
  · rw [← e, List.getElem_cons_drop, List.take_append_drop]
  · rw [List.set_eq_take_append_cons_drop, if_pos hi]
/-- what stands at a place may be put anew; the rest stays -/
theorem ow_focus : ∀ {π : List Nat} {m y : MV}, getM π m = some y → ∃ R, (fpM m).Perm (fpM y ++ R) ∧ (∀ y', (fpM (setM π y' m)).Perm (fpM y' ++ R)) ∧
    ∀ K J H v, Ow K J H v m → ∃ u, Ow K J H u y ∧ ∀ J' H' y', Sub J J' → (∀ a ∈ R, H' a = H a) → Ow K J' H' u y' → Ow K J' H' v (setM π y' m)
  | [], m, y, h => by
    cases h
    exact ⟨[], by simp, fun y' => by simp [setM], fun K J H v o => ⟨v, o, fun J' H' y' _ _ o' => o'⟩⟩
  | i :: π, .d x, y, h => by simp [getM] at h
  | i :: π, .hole p, y, h => by simp [getM] at h
  | i :: π, .nd p k ms, y, h => by
    unfold getM at h
    cases q : ms[i]? with
    | none => rw [q] at h; simp at h
    | some m =>
      rw [q] at h
      dsimp only at h
      obtain ⟨R, p1, p2, ih⟩ := ow_focus h
      obtain ⟨m1, m2, rfl, hl, hs⟩ := at_split q
      have e : ∀ z : MV, fpM (.nd p k (m1 ++ z :: m2)) = p :: (exA k ++ (fpMs m1 ++ (fpM z ++ fpMs m2))) := fun z => by
        rw [fpM_nd, fpMs_app, fpMs_cons]
      have pm : ∀ A B C D E : List Addr, (p :: (A ++ (B ++ ((C ++ D) ++ E)))).Perm (C ++ (p :: (A ++ B ++ D ++ E))) := fun A B C D E => by
        refine List.Perm.trans ?_ List.perm_middle.symm
        refine List.Perm.cons p ?_
        have : (A ++ (B ++ ((C ++ D) ++ E))).Perm ((A ++ B) ++ (C ++ (D ++ E))) := by simp
        refine this.trans ?_
        refine (List.perm_append_comm_assoc (A ++ B) C (D ++ E)).trans ?_
        simp
      have es : ∀ y', setM (i :: π) y' (.nd p k (m1 ++ m :: m2)) = .nd p k (m1 ++ setM π y' m :: m2) := fun y' => by
        rw [setM, q]
        dsimp only
        rw [hs]
      refine ⟨p :: (exA k ++ fpMs m1 ++ R ++ fpMs m2), ?_, fun y' => ?_, fun K J H v o => ?_⟩
      · rw [e]
        refine List.Perm.trans ?_ (pm (exA k) (fpMs m1) (fpM y) R (fpMs m2))
        exact .cons p (.append_left _ (.append_left _ (.append_right _ p1)))
      · rw [es, e]
        refine List.Perm.trans ?_ (pm (exA k) (fpMs m1) (fpM y') R (fpMs m2))
        exact .cons p (.append_left _ (.append_left _ (.append_right _ (p2 y'))))
      · cases o with
        | nd a b c d =>
          obtain ⟨v1, w, v2, rfl, x, o, z⟩ := ows_split d
          obtain ⟨u, ou, hu⟩ := ih K J H w o
          refine ⟨u, ou, fun J' H' y' s er o' => ?_⟩
          rw [es]
          have hn := hu J' H' y' s (fun a q => er a (by simp [q])) o'
          refine .nd (vs := v1 ++ w :: v2) (by rw [er p (List.mem_cons_self ..)]; exact a) (exH_keep b fun a q => er a (by simp [q])) c ?_
          exact ows_join (Ows.frame s (fun a q => er a (by simp [q])) x) (.cons hn (Ows.frame s (fun a q => er a (by simp [q])) z))
end DW

/-! What a def does, told in data alone: the heap is hidden. -/
namespace DW
open PySem PySem.Spec
open PyProof.Rows L2 DL
/-- what a slot holds: a datum; a list of one's own, which may still grow; the draws; anything else; a thing of one's own that may be written -/
inductive SV where
  | d (x : PyData) | own (xs : List PyData) | drw | raw (v : V) | mv (m : MV) | exc (a dx : Addr) (f : Str) (x : PyData)
abbrev Sl := List (Option SV)
/-- what an expression gives: a datum; what the i-th slot holds; anything else; what stands within the i-th slot, at p -/
inductive EV where
  | d (x : PyData) | at (i : Nat) | raw (v : V) | pl (i : Nat) (π : List Nat) (p : Addr)
/-- at p nothing stood that is kept -/
def NewP (M : Md) (H0 : Hp) (p : Addr) : Prop := ∀ o, Nt M o → H0 p ≠ some o
section
variable {M : Md} {J H J1 H1 : Hp} {p : Addr}
theorem nofp' (w : Wf M J H) (h : NewP M H p) : ¬ M.fp p := fun q => by
  obtain ⟨o, e, b⟩ := M.there H w.inv p q
  exact h o b e
/-- what may be written is written -/
theorem putM {o : HO} (w : Wf M J H) (t : Tr M J H J1 H1) (e1 : ∃ x, H1 p = some x ∧ Mu x) (hp : NewP M H p) (jp : J1 p = none) : Tr M J H J1 (upd H1 p o) := by
  obtain ⟨x0, e1, mx⟩ := e1
  have st : ∀ a x, H1 a = some x → ¬ Mu x → upd H1 p o a = some x := fun a x e ne => by
    by_cases h : a = p
    · rw [h, e1] at e; exact absurd (by rw [← Option.some.inj e]; exact mx) ne
    · rw [upd_ne h]; exact e
  have ne : ∀ {a x}, Nt M x → H a = some x → a ≠ p := fun {a x} b e z => hp x b (by rw [← z]; exact e)
  refine ⟨t.jj, fun a x e => ?_, fun a x n b e => ?_, M.loc _ _ (fun a q => upd_ne fun e => nofp' w hp (by rw [← e]; exact q)) st t.inv, t.frn, fun a q b e => ?_, t.tn⟩
  · rw [upd_ne (ne_of_none e jp)]; exact t.jh a x e
  · rw [upd_ne (ne b e)]; exact t.kept a x n b e
  · rw [upd_ne (ne b e)]; exact t.aln a q b e
theorem put' {xs zs : List V} (w : Wf M J H) (t : Tr M J H J1 H1) (e1 : H1 p = some (.lst xs)) (hp : NewP M H p) (jp : J1 p = none) : Tr M J H J1 (upd H1 p (.lst zs)) := putM w t ⟨_, e1, True.intro⟩ hp jp
theorem ice' {o : HO} (t : Tr M J H J1 H1) (hp : NewP M H p) (jp : J1 p = none) (e : H1 p = some o) (nt : ∀ ps, o ≠ .tbl ps := by first | assumption | (intro _ z; cases z; done)) : Tr M J H (upd J1 p o) H1 := by
  refine ⟨t.jj.trans (.new jp), fun a x q => ?_, t.kept, t.inv, fun a x b q n => ?_, t.aln, fun g a ps q => ?_⟩
  · by_cases h : a = p
    · rw [h, upd_same] at q; cases q; rw [h]; exact e
    · rw [upd_ne h] at q; exact t.jh a x q
  · rw [upd_ne fun z => hp x b (by rw [← z]; exact q)]; exact t.frn a x b q n
  · by_cases h : a = p
    · rw [h, upd_same] at q; exact nt ps (Option.some.inj q)
    · rw [upd_ne h] at q; exact t.tn g a ps q
end
/-- where what a slot holds stands -/
def fpS : SV → V → List Addr
  | .own _, .ref p => [p]
  | .mv m, _ => fpM m
  | _, _ => []
/-- no slot has it -/
def FreeA (Pr : List (Addr × HO)) (s : Sl) (σ : L2.St) (a : Addr) : Prop := (∀ (i : Nat) (x : SV) (u : V), s[i]? = some (some x) → σ[i]? = some (some u) → a ∉ fpS x u) ∧ ∀ q ∈ Pr, q.1 ≠ a
section
variable (K : PySem.W.Frag) (M : Md)
def Vs (H0 J H : Hp) (v : V) : SV → Prop
  | .d x => Da K J v x
  | .own xs => ∃ p vs, v = .ref p ∧ H p = some (.lst vs) ∧ Das K J vs xs ∧ J p = none ∧ NewP M H0 p
  | .drw => ∃ h g, v = .ref h ∧ HasDr M h g
  | .raw u => v = u
  | .mv m => Ow K J H v m ∧ (fpM m).Nodup ∧ ∀ a ∈ fpM m, J a = none ∧ NewP M H0 a
  | .exc a dx f x => v = .ref a ∧ ∃ u, J dx = some (.xd [(f, u)]) ∧ Da K J u x
structure Fr (J0 H0 : Hp) (Pr : List (Addr × HO)) (s : Sl) (σ : L2.St) (J H : Hp) : Prop where
  w0 : Wf M J0 H0
  tr : Tr M J0 H0 J H
  len : σ.length = s.length
  at_ : ∀ (i : Nat) (x : SV), s[i]? = some (some x) → ∃ v, σ[i]? = some (some v) ∧ Vs K M H0 J H v x
  sep : ∀ (i j : Nat) (x y : SV) (u v : V) (p : Addr), s[i]? = some (some x) → s[j]? = some (some y) → σ[i]? = some (some u) → σ[j]? = some (some v) → p ∈ fpS x u → p ∈ fpS y v → i = j
  prt : ∀ q ∈ Pr, H q.1 = some q.2 ∧ J q.1 = none ∧ NewP M H0 q.1 ∧ (∃ xs, q.2 = .lst xs) ∧ ∀ (i : Nat) (x : SV) (u : V), s[i]? = some (some x) → σ[i]? = some (some u) → q.1 ∉ fpS x u
  pn : (Pr.map Prod.fst).Nodup
def Ve (J : Hp) (σ : L2.St) (v : V) : EV → Prop
  | .d x => Da K J v x
  | .at i => σ[i]? = some (some v)
  | .raw u => v = u
  | .pl _ _ p => v = .ref p
/-- v is read as x now -/
def Dq (J H : Hp) (v : V) (x : PyData) : Prop := Da K J v x ∨ ∃ p vs xs, v = .ref p ∧ x = .list xs ∧ H p = some (.lst vs) ∧ Das K J vs xs
end
section
variable {K : PySem.W.Frag} {M : Md} {J0 H0 J H J1 H1 J' H' : Hp} {Pr : List (Addr × HO)} {s : Sl} {σ : L2.St} {v : V} {x : PyData} {y : SV} {i k : Nat} {p : Addr}
theorem Vs.frame (h : Vs K M H0 J H v y) (b : Sub J J') (e : ∀ a ∈ fpS y v, H' a = H a ∧ J' a = none) : Vs K M H0 J' H' v y := by
  cases y with
  | d x => exact b.da h
  | own xs =>
    obtain ⟨p, vs, rfl, hp, a, jp, h0⟩ := h
    obtain ⟨e1, e2⟩ := e p (List.mem_singleton.mpr rfl)
    exact ⟨p, vs, rfl, by rw [e1]; exact hp, b.das a, e2, h0⟩
  | drw => exact h
  | raw u => exact h
  | exc a dx f x => exact ⟨h.1, h.2.choose, b _ _ h.2.choose_spec.1, b.da h.2.choose_spec.2⟩
  | mv m => exact ⟨h.1.frame b fun a q => (e a q).1, h.2.1, fun a q => ⟨(e a q).2, (h.2.2 a q).2⟩⟩
theorem Vs.live {a : Addr} (h : Vs K M H0 J H v y) (q : a ∈ fpS y v) : (∃ o, H a = some o ∧ ∀ ps, o ≠ .tbl ps) ∧ J a = none ∧ NewP M H0 a := by
  cases y with
  | d x => cases q
  | own xs =>
    obtain ⟨p, vs, rfl, hp, a, jp, h0⟩ := h
    rcases List.mem_singleton.mp q with rfl
    exact ⟨⟨_, hp, fun ps z => by cases z⟩, jp, h0⟩
  | drw => cases v <;> cases q
  | raw u => cases v <;> cases q
  | exc _ _ _ _ => cases v <;> cases q
  | mv m => exact ⟨h.1.there q, h.2.2 a q⟩
theorem Fr.wf (f : Fr K M J0 H0 Pr s σ J H) : Wf M J H := f.tr.wf f.w0
theorem Fr.vs (f : Fr K M J0 H0 Pr s σ J H) (e : s[i]? = some (some y)) (hv : σ[i]? = some (some v)) : Vs K M H0 J H v y := by
  obtain ⟨u, hu, h⟩ := f.at_ i y e
  rw [hv] at hu; cases hu
  exact h
theorem set_get {α : Type} {l : List (Option α)} {k j : Nat} {o : Option α} {x : α} (e : (l.set k o)[j]? = some (some x)) : (j = k ∧ o = some x) ∨ (j ≠ k ∧ l[j]? = some (some x)) := by
  by_cases h : j = k
  · subst h
    rw [List.getElem?_set_self'] at e
    cases q : l[j]? with
    | none => rw [q] at e; cases e
    | some y => rw [q] at e; exact .inl ⟨rfl, Option.some.inj e⟩
  · rw [List.getElem?_set_ne (Ne.symm h)] at e
    exact .inr ⟨h, e⟩
theorem set_lt {α : Type} {l : List α} {k j : Nat} {o y : α} (e : (l.set k o)[j]? = some y) : j < l.length := by
  have := (List.getElem?_eq_some_iff.mp e).1
  rwa [List.length_set] at this
theorem set_id {α : Type} {l : List (Option α)} {k : Nat} {x : α} (h : l[k]? = some (some x)) : l.set k (some x) = l := by
  obtain ⟨h1, h2⟩ := List.getElem?_eq_some_iff.mp h
  rw [← h2]
  exact List.set_getElem_self h1
/-- the heap goes on, and the k-th slot is given something -/
theorem Fr.go (f : Fr K M J0 H0 Pr s σ J H) (t : Tr M J0 H0 J' H') (b : Sub J J') (k : Nat) (o : Option SV) (ov : Option V)
    (hk : ∀ y, o = some y → ∃ v, ov = some v ∧ Vs K M H0 J' H' v y)
    (ho : ∀ i x v, i ≠ k → s[i]? = some (some x) → σ[i]? = some (some v) → ∀ a ∈ fpS x v, H' a = H a ∧ J' a = none ∧ ∀ y v', o = some y → ov = some v' → a ∉ fpS y v')
    (hp : ∀ q ∈ Pr, H' q.1 = H q.1 ∧ J' q.1 = none ∧ ∀ y v', o = some y → ov = some v' → q.1 ∉ fpS y v') : Fr K M J0 H0 Pr (s.set k o) (σ.set k ov) J' H' := by
  refine ⟨f.w0, t, by simp [f.len], fun i x e => ?_, fun i j x y u v p e1 e2 e3 e4 q1 q2 => ?_, fun q hq => ?_, f.pn⟩
  · have hl := set_lt e
    rcases set_get e with ⟨rfl, e'⟩ | ⟨n, e'⟩
    · obtain ⟨v, rfl, h⟩ := hk x e'
      exact ⟨v, by rw [List.getElem?_set_self (by rw [f.len]; exact hl)], h⟩
    · obtain ⟨v, hv, h⟩ := f.at_ i x e'
      exact ⟨v, by rw [List.getElem?_set_ne (Ne.symm n)]; exact hv, h.frame b fun a q => ⟨(ho i x v n e' hv a q).1, (ho i x v n e' hv a q).2.1⟩⟩
  · rcases set_get e1 with ⟨z1, e1'⟩ | ⟨n1, e1'⟩ <;> rcases set_get e2 with ⟨z2, e2'⟩ | ⟨n2, e2'⟩ <;> rcases set_get e3 with ⟨y1, e3'⟩ | ⟨m1, e3'⟩ <;> rcases set_get e4 with ⟨y2, e4'⟩ | ⟨m2, e4'⟩
    all_goals first | (exact z1.trans z2.symm) | (exact absurd z1 m1) | (exact absurd z2 m2) | (exact absurd y1 n1) | (exact absurd y2 n2) | skip
    · exact absurd q1 ((ho j y v n2 e2' e4' p q2).2.2 x u e1' e3')
    · exact absurd q2 ((ho i x u n1 e1' e3' p q1).2.2 y v e2' e4')
    · exact f.sep i j x y u v p e1' e2' e3' e4' q1 q2
  · obtain ⟨h1, h2, h3, h4, h5⟩ := f.prt q hq
    obtain ⟨g1, g2, g3⟩ := hp q hq
    refine ⟨by rw [g1]; exact h1, g2, h3, h4, fun i x u e1 e2 => ?_⟩
    rcases set_get e1 with ⟨z1, e1'⟩ | ⟨n1, e1'⟩ <;> rcases set_get e2 with ⟨y1, e2'⟩ | ⟨m1, e2'⟩
    · exact g3 x u e1' e2'
    · exact absurd z1 m1
    · exact absurd y1 n1
    · exact h5 i x u e1' e2'
theorem Fr.step (f : Fr K M J0 H0 Pr s σ J H) (t : Tr M J H J1 H1) : Fr K M J0 H0 Pr s σ J1 H1 := by
  have key : ∀ {a : Addr}, (∃ o, H a = some o ∧ ∀ ps, o ≠ .tbl ps) → J a = none → NewP M H0 a → H1 a = H a ∧ J1 a = none := fun {a} ⟨o, e, nt⟩ ja na => by
    have nt' : Nt M o := fun _ => nt
    exact ⟨by rw [e]; exact t.keep a o (nofp' f.w0 na) e nt', t.cellj e ja nt'⟩
  refine ⟨f.w0, f.tr.trans t, f.len, fun i x e => ?_, f.sep, fun q hq => ?_, f.pn⟩
  · obtain ⟨v, hv, h⟩ := f.at_ i x e
    exact ⟨v, hv, h.frame t.jj fun a q => by
      obtain ⟨l1, l2, l3⟩ := h.live q
      exact key l1 l2 l3⟩
  · obtain ⟨h1, h2, h3, ⟨xs, h4⟩, h5⟩ := f.prt q hq
    obtain ⟨g1, g2⟩ := key ⟨_, h1, by rw [h4]; intro ps z; cases z⟩ h2 h3
    exact ⟨by rw [g1]; exact h1, g2, h3, ⟨xs, h4⟩, h5⟩
theorem Fr.none_ (f : Fr K M J0 H0 Pr s σ J H) (h : s.length ≤ i) : σ[i]? = none := List.getElem?_eq_none_iff.mpr (by rw [f.len]; exact h)
theorem Fr.jn (f : Fr K M J0 H0 Pr s σ J H) (e : s[i]? = some (some y)) (hv : σ[i]? = some (some v)) {a : Addr} (q : a ∈ fpS y v) : J a = none := ((f.vs e hv).live q).2.1
/-- a slot is given what owns nothing -/
theorem Fr.put0 (f : Fr K M J0 H0 Pr s σ J H) (h : Vs K M H0 J H v y) (no : fpS y v = []) : Fr K M J0 H0 Pr (s.set k (some y)) (σ.set k (some v)) J H :=
  f.go f.tr (.refl _) k (some y) (some v) (fun y' e => by cases e; exact ⟨v, rfl, h⟩) (fun i x u n e hv a q => ⟨rfl, f.jn e hv q, fun y' v' e1 e2 => by cases e1; cases e2; rw [no]; exact List.not_mem_nil⟩)
    fun q hq => ⟨rfl, (f.prt q hq).2.1, fun y' v' e1 e2 => by cases e1; cases e2; rw [no]; exact List.not_mem_nil⟩
theorem Fr.set (f : Fr K M J0 H0 Pr s σ J H) (h : Da K J v x) : Fr K M J0 H0 Pr (s.set k (some (.d x))) (σ.set k (some v)) J H := f.put0 (y := .d x) h rfl
/-- a slot is emptied, as far as is known -/
theorem Fr.drop (f : Fr K M J0 H0 Pr s σ J H) (o : Option V) : Fr K M J0 H0 Pr (s.set k none) (σ.set k o) J H :=
  f.go f.tr (.refl _) k none o (fun y e => by cases e) (fun i x u n e hv a q => ⟨rfl, f.jn e hv q, fun y' v' e1 => by cases e1⟩) fun q hq => ⟨rfl, (f.prt q hq).2.1, fun y' v' e1 => by cases e1⟩
theorem Fr.own (f : Fr K M J0 H0 Pr s σ J H) {xs : List PyData} (e : s[i]? = some (some (.own xs))) : ∃ p vs, σ[i]? = some (some (.ref p)) ∧ H p = some (.lst vs) ∧ Das K J vs xs ∧ J p = none ∧ NewP M H0 p := by
  obtain ⟨v, hv, p, vs, rfl, h⟩ := f.at_ i _ e
  exact ⟨p, vs, hv, h⟩
/-- what stands in a slot stands in no other -/
theorem Fr.other (f : Fr K M J0 H0 Pr s σ J H) {x : SV} {u : V} {a : Addr} (n : k ≠ i) (e : s[i]? = some (some y)) (hv : σ[i]? = some (some v)) (qa : a ∈ fpS y v) (e2 : s[k]? = some (some x)) (hu : σ[k]? = some (some u)) : a ∉ fpS x u := fun q => n (f.sep k i x y u v a e2 e hu hv q qa)
/-- a list of one's own is left as it is for good -/
theorem Fr.ice (f : Fr K M J0 H0 Pr s σ J H) {xs : List PyData} (e : s[i]? = some (some (.own xs))) : ∃ J' v, σ[i]? = some (some v) ∧ Sub J J' ∧ Da K J' v (.list xs) ∧ Fr K M J0 H0 Pr (s.set i (some (.d (.list xs)))) σ J' H := by
  obtain ⟨p, vs, hp, hH, a, jp, h0⟩ := f.own e
  have t := ice' f.tr h0 jp hH
  have sb : Sub J (upd J p (.lst vs)) := .new jp
  have da : Da K (upd J p (.lst vs)) (.ref p) (.list xs) := .lst upd_same (sb.das a)
  have m : p ∈ fpS (.own xs) (.ref p) := List.mem_singleton.mpr rfl
  have := f.go t sb i (some (.d (.list xs))) (some (.ref p)) (fun y q => by cases q; exact ⟨_, rfl, da⟩)
    (fun k x u n e2 hu a q => ⟨rfl, by rw [upd_ne fun z => f.other n e hp m e2 hu (by rw [← z]; exact q)]; exact f.jn e2 hu q, fun y' v' e1 e2 => by cases e1; cases e2; exact List.not_mem_nil⟩)
    fun q hq => ⟨rfl, by rw [upd_ne fun z => (f.prt q hq).2.2.2.2 i _ _ e hp (by rw [z]; exact m)]; exact (f.prt q hq).2.1, fun y' v' e1 e2 => by cases e1; cases e2; exact List.not_mem_nil⟩
  rw [set_id hp] at this
  exact ⟨_, _, hp, sb, da, this⟩
/-- what a list of one's own has is changed -/
theorem Fr.write (f : Fr K M J0 H0 Pr s σ J H) {xs zs : List PyData} {ws : List V} (e : s[i]? = some (some (.own xs))) (hp : σ[i]? = some (some (.ref p))) (a : Das K J ws zs) : Fr K M J0 H0 Pr (s.set i (some (.own zs))) σ J (upd H p (.lst ws)) := by
  obtain ⟨p', vs, hp', hH, a', jp, h0⟩ := f.own e
  rw [hp] at hp'
  cases hp'
  have t := put' (zs := ws) f.w0 f.tr hH h0 jp
  have m : p ∈ fpS (.own xs) (.ref p) := List.mem_singleton.mpr rfl
  have := f.go t (.refl _) i (some (.own zs)) (some (.ref p)) (fun y q => by cases q; exact ⟨_, rfl, p, ws, rfl, upd_same, a, jp, h0⟩)
    (fun k x u n e2 hu a q => by
      have ne : a ≠ p := fun z => f.other n e hp m e2 hu (by rw [← z]; exact q)
      exact ⟨upd_ne ne, f.jn e2 hu q, fun y' v' e1 e2 => by cases e1; cases e2; exact fun z => ne (List.mem_singleton.mp z)⟩)
    fun q hq => by
      have ne : q.1 ≠ p := fun z => (f.prt q hq).2.2.2.2 i _ _ e hp (by rw [z]; exact m)
      exact ⟨upd_ne ne, (f.prt q hq).2.1, fun y' v' e1 e2 => by cases e1; cases e2; exact fun z => ne (List.mem_singleton.mp z)⟩
  rwa [set_id hp] at this
theorem Fr.new0 (f : Fr K M J0 H0 Pr s σ J H) (hp : H p = none) : NewP M H0 p := fun o b e => by
  obtain ⟨o', _, e'⟩ := f.tr.aln p o b e
  rw [hp] at e'; cases e'
theorem Fr.ne (f : Fr K M J0 H0 Pr s σ J H) (hp : H p = none) (e : s[i]? = some (some y)) (hv : σ[i]? = some (some v)) {a : Addr} (q : a ∈ fpS y v) : a ≠ p := fun z => by
  obtain ⟨⟨o, h, _⟩, _⟩ := (f.vs e hv).live q
  rw [z, hp] at h; cases h
theorem Fr.nep (f : Fr K M J0 H0 Pr s σ J H) (hp : H p = none) {q : Addr × HO} (hq : q ∈ Pr) : q.1 ≠ p := fun z => by
  obtain ⟨g1, _⟩ := f.prt q hq
  rw [z, hp] at g1; cases g1
theorem Fr.free (f : Fr K M J0 H0 Pr s σ J H) (hp : ∀ o, (∀ ps, o ≠ .tbl ps) → H p ≠ some o) : FreeA Pr s σ p := ⟨fun i x u e hu q => by
    obtain ⟨⟨o, h, nt⟩, _⟩ := (f.vs e hu).live q
    exact hp o nt h, fun q hq z => by
    obtain ⟨h1, _, _, ⟨xs, h4⟩, _⟩ := f.prt q hq
    rw [z] at h1
    exact hp _ (by rw [h4]; intro ps z; cases z) h1⟩
/-- a new list of one's own -/
theorem Fr.new (f : Fr K M J0 H0 Pr s σ J H) {xs : List PyData} {vs : List V} (hp : H p = none) (a : Das K J vs xs) : Fr K M J0 H0 Pr (s.set k (some (.own xs))) (σ.set k (some (.ref p))) J (upd H p (.lst vs)) := by
  have t := f.tr.trans (f.wf.cell (o := .lst vs) hp)
  refine f.go t (.refl _) k (some (.own xs)) (some (.ref p)) (fun y q => by cases q; exact ⟨_, rfl, p, vs, rfl, upd_same, a, f.wf.jh.back hp, f.new0 hp⟩) (fun i x u n e2 hu a q => ?_) fun q hq => ?_
  · have ne := f.ne hp e2 hu q
    exact ⟨upd_ne ne, f.jn e2 hu q, fun y' v' e1 e2 => by cases e1; cases e2; exact fun z => ne (List.mem_singleton.mp z)⟩
  · have ne := f.nep hp hq
    exact ⟨upd_ne ne, (f.prt q hq).2.1, fun y' v' e1 e2 => by cases e1; cases e2; exact fun z => ne (List.mem_singleton.mp z)⟩
/-- a new list, known to none, that stays as it is -/
theorem Fr.prot (f : Fr K M J0 H0 Pr s σ J H) {vs : List V} (hp : H p = none) : Fr K M J0 H0 ((p, .lst vs) :: Pr) s σ J (upd H p (.lst vs)) := by
  have t := f.wf.cell (o := .lst vs) hp
  have f1 := f.step t
  refine ⟨f1.w0, f1.tr, f1.len, f1.at_, f1.sep, fun q hq => ?_, ?_⟩
  · rcases List.mem_cons.mp hq with rfl | hq
    · exact ⟨upd_same, f.wf.jh.back hp, f.new0 hp, ⟨vs, rfl⟩, fun i x u e hu z => f.ne hp e hu z rfl⟩
    · exact f1.prt q hq
  · rw [List.map_cons, List.nodup_cons]
    refine ⟨fun z => ?_, f.pn⟩
    obtain ⟨q, hq, e⟩ := List.mem_map.mp z
    exact f.nep hp hq e
theorem Fr.unp {q : Addr × HO} (f : Fr K M J0 H0 (q :: Pr) s σ J H) : Fr K M J0 H0 Pr s σ J H :=
  ⟨f.w0, f.tr, f.len, f.at_, f.sep, fun r hr => f.prt r (List.mem_cons_of_mem _ hr), (List.nodup_cons.mp f.pn).2⟩
theorem Fr.pne {q : Addr × HO} {o : HO} (f : Fr K M J0 H0 ((p, o) :: Pr) s σ J H) (hq : q ∈ Pr) : q.1 ≠ p := fun z => (List.nodup_cons.mp f.pn).1 (List.mem_map.mpr ⟨q, hq, z⟩)
theorem Fr.reprot {o : HO} (f : Fr K M J0 H0 ((p, o) :: Pr) s σ J H) {zs : List V} : Fr K M J0 H0 ((p, .lst zs) :: Pr) s σ J (upd H p (.lst zs)) := by
  obtain ⟨h1, h2, h3, ⟨ys, h4⟩, h5⟩ := f.prt _ (List.mem_cons_self ..)
  have h4' : o = .lst ys := h4
  subst h4'
  have t := put' (zs := zs) f.w0 f.tr h1 h3 h2
  refine ⟨f.w0, t, f.len, fun k x e1 => ?_, f.sep, fun q hq => ?_, f.pn⟩
  · obtain ⟨u, hu, h⟩ := f.at_ k x e1
    exact ⟨u, hu, h.frame (.refl _) fun a q => ⟨upd_ne fun z => h5 k x u e1 hu (by rw [← z]; exact q), (h.live q).2.1⟩⟩
  · rcases List.mem_cons.mp hq with rfl | hq
    · exact ⟨upd_same, h2, h3, ⟨zs, rfl⟩, h5⟩
    · obtain ⟨g1, g2, g3, g4, g5⟩ := f.prt q (List.mem_cons_of_mem _ hq)
      exact ⟨by rw [upd_ne (f.pne hq)]; exact g1, g2, g3, g4, g5⟩
/-- such a list comes to be known for good -/
theorem Fr.tell {ys : List V} {xs : List PyData} (f : Fr K M J0 H0 ((p, .lst ys) :: Pr) s σ J H) (a : Das K J ys xs) : ∃ J', Sub J J' ∧ Da K J' (.ref p) (.list xs) ∧ Fr K M J0 H0 Pr s σ J' H := by
  obtain ⟨h1, h2, h3, _, h5⟩ := f.prt _ (List.mem_cons_self ..)
  have t := ice' f.tr h3 h2 h1
  have sb : Sub J (upd J p (.lst ys)) := .new h2
  refine ⟨_, sb, .lst upd_same (sb.das a), f.w0, t, f.len, fun k x e1 => ?_, f.sep, fun q hq => ?_, (List.nodup_cons.mp f.pn).2⟩
  · obtain ⟨u, hu, h⟩ := f.at_ k x e1
    exact ⟨u, hu, h.frame sb fun a q => ⟨rfl, by rw [upd_ne fun z => h5 k x u e1 hu (by rw [← z]; exact q)]; exact (h.live q).2.1⟩⟩
  · obtain ⟨g1, g2, g3, g4, g5⟩ := f.prt q (List.mem_cons_of_mem _ hq)
    exact ⟨g1, by rw [upd_ne (f.pne hq)]; exact g2, g3, g4, g5⟩
/-- such a list comes to be a slot's own -/
theorem Fr.give {ys : List V} {xs : List PyData} (f : Fr K M J0 H0 ((p, .lst ys) :: Pr) s σ J H) (a : Das K J ys xs) : Fr K M J0 H0 Pr (s.set k (some (.own xs))) (σ.set k (some (.ref p))) J H := by
  obtain ⟨h1, h2, h3, _, h5⟩ := f.prt _ (List.mem_cons_self ..)
  refine f.unp.go f.tr (.refl _) k (some (.own xs)) (some (.ref p)) (fun y q => by cases q; exact ⟨_, rfl, p, ys, rfl, h1, a, h2, h3⟩) (fun i x u n e2 hu a q => ?_) fun q hq => ?_
  · exact ⟨rfl, f.jn e2 hu q, fun y' v' e1 e3 => by cases e1; cases e3; exact fun z => h5 i x u e2 hu (by rw [← List.mem_singleton.mp z]; exact q)⟩
  · exact ⟨rfl, (f.prt q (List.mem_cons_of_mem _ hq)).2.1, fun y' v' e1 e3 => by cases e1; cases e3; exact fun z => f.pne hq (List.mem_singleton.mp z)⟩
/-! ### things that may be written -/
theorem Fr.mv (f : Fr K M J0 H0 Pr s σ J H) {m : MV} (e : s[i]? = some (some (.mv m))) : ∃ v, σ[i]? = some (some v) ∧ Ow K J H v m ∧ (fpM m).Nodup ∧ ∀ a ∈ fpM m, J a = none ∧ NewP M H0 a := f.at_ i _ e
/-- a slot's thing goes on, from what stands at a place -/
theorem Fr.focus (f : Fr K M J0 H0 Pr s σ J H) {m y : MV} {π : List Nat} (e : s[i]? = some (some (.mv m))) (g : getM π m = some y) : ∃ u, Ow K J H u y ∧ (fpM y).Nodup ∧ (∀ a ∈ fpM y, J a = none ∧ NewP M H0 a ∧ ¬ FreeA Pr s σ a) ∧
    ∀ J' H' y', Tr M J0 H0 J' H' → Sub J J' → (∀ a o, H a = some o → (∀ ps, o ≠ .tbl ps) → a ∉ fpM y → NewP M H0 a → H' a = some o) → (∀ a o, H a = some o → (∀ ps, o ≠ .tbl ps) → a ∉ fpM y → J a = none → J' a = none) →
      Ow K J' H' u y' → (fpM y').Nodup → (∀ a ∈ fpM y', J' a = none ∧ NewP M H0 a ∧ (a ∈ fpM y ∨ FreeA Pr s σ a)) → Fr K M J0 H0 Pr (s.set i (some (.mv (setM π y' m)))) σ J' H' := by
  obtain ⟨v, hv, o, nd, hn⟩ := f.mv e
  obtain ⟨R, p1, p2, hf⟩ := ow_focus g
  obtain ⟨u, ou, hu⟩ := hf K J H v o
  have nd' : (fpM y ++ R).Nodup := p1.nodup_iff.mp nd
  have my : ∀ a ∈ fpM y, a ∈ fpM m := fun a q => p1.mem_iff.mpr (List.mem_append_left _ q)
  have mR : ∀ a ∈ R, a ∈ fpM m := fun a q => p1.mem_iff.mpr (List.mem_append_right _ q)
  refine ⟨u, ou, (List.nodup_append.mp nd').1, fun a q => ⟨(hn a (my a q)).1, (hn a (my a q)).2, fun z => z.1 i _ _ e hv (my a q)⟩, fun J' H' y' t b kH kJ o' nd2 hn2 => ?_⟩
  have hR : ∀ a ∈ R, a ∉ fpM y := fun a q q' => (List.nodup_append.mp nd').2.2 a q' a q rfl
  have keep : ∀ a, (∃ o, H a = some o ∧ ∀ ps, o ≠ .tbl ps) → J a = none → NewP M H0 a → a ∉ fpM y → H' a = H a ∧ J' a = none := fun a ⟨o, h, nt⟩ ja na q => ⟨by rw [h]; exact kH a o h nt q na, kJ a o h nt q ja⟩
  have kR : ∀ a ∈ R, H' a = H a ∧ J' a = none := fun a q => keep a (o.there (mR a q)) (hn a (mR a q)).1 (hn a (mR a q)).2 (hR a q)
  have fin := hu J' H' y' b (fun a q => (kR a q).1) o'
  have ndf : (fpM (setM π y' m)).Nodup := (p2 y').nodup_iff.mpr (List.nodup_append.mpr ⟨nd2, (List.nodup_append.mp nd').2.1, fun a q1 c q2 z => by
    subst z
    rcases (hn2 a q1).2.2 with h | h
    · exact hR a q2 h
    · exact h.1 i _ _ e hv (mR a q2)⟩)
  have hnf : ∀ a ∈ fpM (setM π y' m), J' a = none ∧ NewP M H0 a := fun a q => by
    rcases List.mem_append.mp ((p2 y').mem_iff.mp q) with q | q
    · exact ⟨(hn2 a q).1, (hn2 a q).2.1⟩
    · exact ⟨(kR a q).2, (hn a (mR a q)).2⟩
  have go := f.go t b i (some (.mv (setM π y' m))) (some v) (fun z q => by cases q; exact ⟨v, rfl, fin, ndf, hnf⟩)
    (fun k x w n e2 hw a q => by
      have l := (f.vs e2 hw).live q
      have nm : a ∉ fpM m := fun q' => f.other n e hv q' e2 hw q
      obtain ⟨k1, k2⟩ := keep a l.1 l.2.1 l.2.2 fun q' => nm (my a q')
      refine ⟨k1, k2, fun z v' e1 e3 => ?_⟩
      cases e1; cases e3
      intro q'
      rcases List.mem_append.mp ((p2 y').mem_iff.mp q') with q' | q'
      · rcases (hn2 a q').2.2 with h | h
        · exact nm (my a h)
        · exact h.1 k x w e2 hw q
      · exact nm (mR a q'))
    fun q hq => by
      obtain ⟨h1, h2, h3, ⟨xs, h4⟩, h5⟩ := f.prt q hq
      have nm : q.1 ∉ fpM m := h5 i _ _ e hv
      obtain ⟨k1, k2⟩ := keep q.1 ⟨_, h1, by rw [h4]; intro ps z; cases z⟩ h2 h3 fun q' => nm (my _ q')
      refine ⟨k1, k2, fun z v' e1 e3 => ?_⟩
      cases e1; cases e3
      intro q'
      rcases List.mem_append.mp ((p2 y').mem_iff.mp q') with q' | q'
      · rcases (hn2 _ q').2.2 with h | h
        · exact nm (my _ h)
        · exact h.2 q hq rfl
      · exact nm (mR _ q')
  rwa [set_id hv] at go
end
end DW

/-! Expressions, told in data. -/
namespace DW
open PySem PySem.Spec
open PyProof.Rows L2 DL
abbrev EK := Str → PyData → Sl → Prop
abbrev WE := Sl → (EV → Sl → Prop) → EK → Prop
abbrev WT := Sl → (Bool → Sl → Prop) → EK → Prop
abbrev WA := Sl → (List PyData → Sl → Prop) → EK → Prop
/-- the error classes, and what each keeps -/
structure Ers where
  cl : Str → Addr
  fl : Str → Str
/-- what is wanted where an error is raised -/
def ErO (K : PySem.W.Frag) (er : Ers) (W : WX) (M : Md) (J0 H0 : Hp) (Pr : List (Addr × HO)) (e : EK) : Prop :=
  ∀ c x s σ dx v J H, Fr K M J0 H0 Pr s σ J H → e c x s → H dx = some (.xd [(er.fl c, v)]) → Da K J v x → NewP M H0 dx ∧ J dx = none → W (.ref (er.cl c)) (some dx) σ H
section
variable (K : PySem.W.Frag) (er : Ers) (W : WX) (O : Md → Prop)
def SE (te : TE) (we : WE) : Prop := ∀ M, O M → ∀ J0 H0 Pr s σ J H, Fr K M J0 H0 Pr s σ J H → ∀ Q e, we s Q e → ErO K er W M J0 H0 Pr e →
  ∀ Qv : VK, (∀ v r s' J' H', Fr K M J0 H0 Pr s' σ J' H' → Sub J J' → Ve K J' σ v r → Q r s' → Qv v H') → te σ H Qv
def ST (tt : TT) (wt : WT) : Prop := ∀ M, O M → ∀ J0 H0 Pr s σ J H, Fr K M J0 H0 Pr s σ J H → ∀ Q e, wt s Q e → ErO K er W M J0 H0 Pr e →
  ∀ Qb : Bool → Hp → Prop, (∀ b s' J' H', Fr K M J0 H0 Pr s' σ J' H' → Sub J J' → Q b s' → Qb b H') → tt σ H Qb
def SA (ta : TA) (wa : WA) : Prop := ∀ M, O M → ∀ J0 H0 Pr s σ J H, Fr K M J0 H0 Pr s σ J H → ∀ Q e, wa s Q e → ErO K er W M J0 H0 Pr e →
  ∀ Qa : List V → Hp → Prop, (∀ vs ds s' J' H', Fr K M J0 H0 Pr s' σ J' H' → Sub J J' → Das K J' vs ds → Q ds s' → Qa vs H') → ta σ H Qa
end
/-! ### what is given, as a datum -/
def allD : List MV → Option (List PyData)
  | [] => some []
  | .d x :: ms => match allD ms with
    | some xs => some (x :: xs)
    | none => none
  | .nd _ _ _ :: _ => none
  | .hole _ :: _ => none
theorem allD_map : ∀ xs : List PyData, allD (xs.map MV.d) = some xs
  | [] => rfl
  | x :: xs => by rw [List.map_cons, allD, allD_map xs]
theorem allD_eq : ∀ {ms : List MV} {xs : List PyData}, allD ms = some xs → ms = xs.map MV.d
  | [], _, h => by rw [allD] at h; cases h; rfl
  | .d x :: ms, _, h => by
    rw [allD] at h
    cases q : allD ms with
    | none => rw [q] at h; cases h
    | some ys => rw [q] at h; cases h; rw [allD_eq q]; rfl
  | .nd _ _ _ :: _, _, h => by rw [allD] at h; cases h
  | .hole _ :: _, _, h => by rw [allD] at h; cases h
/-- a list that may be written, read now -/
def rdM (m : MV) (p : Addr) (k : PyData → Prop) : Prop := match m with
  | .nd q .lst ms => match allD ms with
    | some xs => q = p ∧ k (.list xs)
    | none => False
  | _ => False
def rdq (r : EV) (s : Sl) (k : PyData → Prop) : Prop := match r with
  | .d x => k x
  | .at i => match s[i]? with
    | some (some (.own xs)) => k (.list xs)
    | _ => False
  | .raw _ => False
  | .pl i π p => match s[i]? with
    | some (some (.mv m)) => match getM π m with
      | some y => rdM y p k
      | none => False
    | _ => False
/-- .. for good -/
def frz (r : EV) (s : Sl) (k : PyData → Sl → Prop) : Prop := match r with
  | .d x => k x s
  | .at i => match s[i]? with
    | some (some (.own xs)) => k (.list xs) (s.set i (some (.d (.list xs))))
    | _ => False
  | .raw _ => False
  | .pl _ _ _ => False
section
variable {K : PySem.W.Frag} {M : Md} {J0 H0 J H J1 H1 J' H' : Hp} {Pr : List (Addr × HO)} {s : Sl} {σ : L2.St} {v : V} {r : EV}
theorem Dq.dp {x : PyData} (w : Wf M J H) (h : Dq K J H v x) : Dp K H v x := by
  rcases h with h | ⟨p, vs, xs, rfl, rfl, hp, a⟩
  · exact h.dp w.jh
  · exact .lst (.of hp) (Das.dp w.jh a)
theorem Ve.sub {J J' : Hp} (h : Ve K J σ v r) (s : Sub J J') : Ve K J' σ v r := by
  cases r with
  | d x => exact s.da h
  | «at» i => exact h
  | raw u => exact h
  | pl i π p => exact h
theorem rdq_use {k : PyData → Prop} (f : Fr K M J0 H0 Pr s σ J H) (h : Ve K J σ v r) (q : rdq r s k) : ∃ x, k x ∧ Dq K J H v x := by
  cases r with
  | d x => exact ⟨x, q, .inl h⟩
  | «at» i =>
    unfold rdq at q
    dsimp only at q
    split at q
    · rename_i xs e
      obtain ⟨p, vs, hp, hH, a, _⟩ := f.own e
      rw [show σ[i]? = some (some v) from h] at hp
      cases hp
      exact ⟨_, q, .inr ⟨p, vs, xs, rfl, rfl, hH, a⟩⟩
    · exact q.elim
  | raw u => exact q.elim
  | pl i π p =>
    unfold rdq at q
    dsimp only at q
    split at q
    · rename_i m e
      split at q
      · rename_i y g
        obtain ⟨u, ou, _⟩ := f.focus e g
        unfold rdM at q
        split at q
        · rename_i p' ms
          split at q
          · rename_i xs ea
            obtain ⟨rfl, q⟩ := q
            rw [allD_eq ea] at ou
            cases ou with
            | nd a b c d => exact ⟨_, q, .inr ⟨_, _, xs, h, rfl, a, das_ows d⟩⟩
          · exact q.elim
        · exact q.elim
      · exact q.elim
    · exact q.elim
theorem frz_use {k : PyData → Sl → Prop} (f : Fr K M J0 H0 Pr s σ J H) (h : Ve K J σ v r) (q : frz r s k) : ∃ x s' J', k x s' ∧ Sub J J' ∧ Da K J' v x ∧ Fr K M J0 H0 Pr s' σ J' H := by
  cases r with
  | d x => exact ⟨x, s, J, q, .refl _, h, f⟩
  | «at» i =>
    unfold frz at q
    dsimp only at q
    split at q
    · rename_i xs e
      obtain ⟨J', u, hu, sb, a, f'⟩ := f.ice e
      rw [show σ[i]? = some (some v) from h] at hu
      cases hu
      exact ⟨_, _, J', q, sb, a, f'⟩
    · exact q.elim
  | raw u => exact q.elim
  | pl i π p => exact q.elim
end
/-! ### names, constants -/
def wVar (i : Nat) (s : Sl) (Q : EV → Sl → Prop) (_ : EK) : Prop := match s[i]? with
  | some (some (.d x)) => Q (.d x) s
  | some (some (.raw u)) => Q (.raw u) s
  | some (some _) => Q (.at i) s
  | _ => False
def wC (x : PyData) (s : Sl) (Q : EV → Sl → Prop) (_ : EK) : Prop := Q (.d x) s
def wRaw (u : V) (s : Sl) (Q : EV → Sl → Prop) (_ : EK) : Prop := Q (.raw u) s
section
variable {K : PySem.W.Frag} {er : Ers} {W : WX} {O : Md → Prop} {ta tb tc te : TE} {tt tu : TT} {t : TA} {wa wb wc we : WE} {wt wu : WT} {wl : WA}
theorem se_var {i : Nat} : SE K er W O (tVar i) (wVar i) := fun M mo J0 H0 Pr s σ J H f Q e q he Qv k => by
  unfold wVar at q
  split at q
  · rename_i x hx
    obtain ⟨v, hv, a⟩ := f.at_ i _ hx
    exact ⟨v, hv, k v (.d x) s J H f (.refl _) a q⟩
  · rename_i x hx
    obtain ⟨v, hv, a⟩ := f.at_ i _ hx
    exact ⟨v, hv, k v (.raw x) s J H f (.refl _) a q⟩
  · rename_i x _ _ hx
    obtain ⟨v, hv, _⟩ := f.at_ i x hx
    exact ⟨v, hv, k v (.at i) s J H f (.refl _) hv q⟩
  · exact q.elim
theorem se_c {v : V} {x : PyData} (h : ∀ J, Da K J v x) : SE K er W O (tC v) (wC x) := fun M mo J0 H0 Pr s σ J H f Q e q he Qv k => k v (.d x) s J H f (.refl _) (h J) q
theorem se_raw {v : V} : SE K er W O (tC v) (wRaw v) := fun M mo J0 H0 Pr s σ J H f Q e q he Qv k => k v (.raw v) s J H f (.refl _) rfl q
theorem se_int {i : Int} : SE K er W O (tC (.int i)) (wC (.int i)) := se_c fun _ => .int i
theorem se_bl {b : Bool} : SE K er W O (tC (.bl b)) (wC (.bool b)) := se_c fun _ => .bl b
theorem se_str {x : Str} : SE K er W O (tC (.str x)) (wC (.str x)) := se_c fun _ => .str x
theorem se_non : SE K er W O (tC .non) (wC .none) := se_c fun _ => .non
end
/-! ### operations -/
abbrev G1 := PyData → (PyData → Prop) → Prop
abbrev G2 := PyData → PyData → (PyData → Prop) → Prop
/-- an operation of two values, told by g -/
def OpS (K : PySem.W.Frag) (r : R2) (g : G2) : Prop := ∀ M J H x y dx dy, Wf M J H → Dq K J H x dx → Dq K J H y dy → ∀ P, g dx dy P → ∀ Q : VK, (∀ v d J2 H2, Tr M J H J2 H2 → P d → Da K J2 v d → Q v H2) → r x y H Q
def UnS (K : PySem.W.Frag) (r : V → Hp → VK → Prop) (g : G1) : Prop := ∀ M J H x dx, Wf M J H → Dq K J H x dx → ∀ P, g dx P → ∀ Q : VK, (∀ v d J2 H2, Tr M J H J2 H2 → P d → Da K J2 v d → Q v H2) → r x H Q
def wOp (g : G2) (wa wb : WE) (s : Sl) (Q : EV → Sl → Prop) (e : EK) : Prop := wa s (fun a s1 => wb s1 (fun b s2 => rdq a s2 fun x => rdq b s2 fun y => g x y fun z => Q (.d z) s2) e) e
def wUn (g : G1) (wa : WE) (s : Sl) (Q : EV → Sl → Prop) (e : EK) : Prop := wa s (fun a s1 => rdq a s1 fun x => g x fun z => Q (.d z) s1) e
section
variable {K : PySem.W.Frag} {er : Ers} {W : WX} {O : Md → Prop} {ta tb tc te : TE} {tt tu : TT} {t : TA} {wa wb wc we : WE} {wt wu : WT} {wl : WA}
theorem se_op {r : R2} {g : G2} (o : OpS K r g) (ha : SE K er W O ta wa) (hb : SE K er W O tb wb) : SE K er W O (tOp r ta tb) (wOp g wa wb) := fun M mo J0 H0 Pr s σ J H f Q e q he Qv k =>
  ha M mo J0 H0 Pr s σ J H f _ e q he _ fun x a s1 J1 H1 f1 b1 va q1 => hb M mo J0 H0 Pr s1 σ J1 H1 f1 _ e q1 he _ fun y b s2 J2 H2 f2 b2 vb q2 => by
    obtain ⟨dx, q3, ax⟩ := rdq_use f2 (va.sub b2) q2
    obtain ⟨dy, q4, ay⟩ := rdq_use f2 vb q3
    exact o M J2 H2 x y dx dy f2.wf ax ay _ q4 _ fun v d J3 H3 t3 p3 a3 => k v (.d d) s2 J3 H3 (f2.step t3) ((b1.trans b2).trans t3.jj) a3 p3
theorem se_un {r : V → Hp → VK → Prop} {g : G1} (o : UnS K r g) (ha : SE K er W O ta wa) : SE K er W O (tUn r ta) (wUn g wa) := fun M mo J0 H0 Pr s σ J H f Q e q he Qv k =>
  ha M mo J0 H0 Pr s σ J H f _ e q he _ fun x a s1 J1 H1 f1 b1 va q1 => by
    obtain ⟨dx, q2, ax⟩ := rdq_use f1 va q1
    exact o M J1 H1 x dx f1.wf ax _ q2 _ fun v d J3 H3 t3 p3 a3 => k v (.d d) s1 J3 H3 (f1.step t3) (b1.trans t3.jj) a3 p3
/-- a built-in of one value, which may be a list of one's own -/
theorem se_cb1 {r : List V → Hp → VK → Prop} {g : G1} (o : UnS K (fun x H Q => r [x] H Q) g) (ha : SE K er W O ta wa) : SE K er W O (tCB r (tCons ta tNil)) (wUn g wa) := fun M mo J0 H0 Pr s σ J H f Q e q he Qv k =>
  ha M mo J0 H0 Pr s σ J H f _ e q he _ fun x a s1 J1 H1 f1 b1 va q1 => by
    obtain ⟨dx, q2, ax⟩ := rdq_use f1 va q1
    exact o M J1 H1 x dx f1.wf ax _ q2 _ fun v d J3 H3 t3 p3 a3 => k v (.d d) s1 J3 H3 (f1.step t3) (b1.trans t3.jj) a3 p3
end
/-! several at once: for good -/
def waNil (s : Sl) (Q : List PyData → Sl → Prop) (_ : EK) : Prop := Q [] s
def waCons (wa : WE) (wr : WA) (s : Sl) (Q : List PyData → Sl → Prop) (e : EK) : Prop := wa s (fun a s1 => frz a s1 fun x s2 => wr s2 (fun xs s3 => Q (x :: xs) s3) e) e
def GL := List PyData → (PyData → Prop) → Prop
def CbS (K : PySem.W.Frag) (r : List V → Hp → VK → Prop) (g : List PyData → (PyData → Prop) → Prop) : Prop := ∀ M J H vs ds, Wf M J H → Das K J vs ds → ∀ P, g ds P → ∀ Q : VK, (∀ v d J2 H2, Tr M J H J2 H2 → P d → Da K J2 v d → Q v H2) → r vs H Q
def wCB (g : List PyData → (PyData → Prop) → Prop) (wl : WA) (s : Sl) (Q : EV → Sl → Prop) (e : EK) : Prop := wl s (fun xs s1 => g xs fun z => Q (.d z) s1) e
def wTup (wl : WA) (s : Sl) (Q : EV → Sl → Prop) (e : EK) : Prop := wl s (fun xs s1 => xs.length ≤ sizeLine ∧ Q (.d (.tuple xs)) s1) e
def wLst (wl : WA) (s : Sl) (Q : EV → Sl → Prop) (e : EK) : Prop := wl s (fun xs s1 => xs.length ≤ sizeLine ∧ Q (.d (.list xs)) s1) e
section
variable {K : PySem.W.Frag} {er : Ers} {W : WX} {O : Md → Prop} {ta tb tc te : TE} {tt tu : TT} {t : TA} {wa wb wc we : WE} {wt wu : WT} {wl : WA}
theorem sa_nil : SA K er W O tNil waNil := fun M mo J0 H0 Pr s σ J H f Q e q he Qa k => k [] [] s J H f (.refl _) .nil q
theorem sa_cons (ha : SE K er W O ta wa) (hr : SA K er W O t wl) : SA K er W O (tCons ta t) (waCons wa wl) := fun M mo J0 H0 Pr s σ J H f Q e q he Qa k =>
  ha M mo J0 H0 Pr s σ J H f _ e q he _ fun x a s1 J1 H1 f1 b1 va q1 => by
    obtain ⟨dx, s2, J2, q2, b2, ax, f2⟩ := frz_use f1 va q1
    exact hr M mo J0 H0 Pr s2 σ J2 H1 f2 _ e q2 he _ fun vs ds s3 J3 H3 f3 b3 a3 q3 => k _ _ s3 J3 H3 f3 ((b1.trans b2).trans b3) (.cons (b3.da ax) a3) q3
theorem se_cb {r : List V → Hp → VK → Prop} {g : List PyData → (PyData → Prop) → Prop} (o : CbS K r g) (ha : SA K er W O t wl) : SE K er W O (tCB r t) (wCB g wl) := fun M mo J0 H0 Pr s σ J H f Q e q he Qv k =>
  ha M mo J0 H0 Pr s σ J H f _ e q he _ fun vs ds s1 J1 H1 f1 b1 a1 q1 => o M J1 H1 vs ds f1.wf a1 _ q1 _ fun v d J3 H3 t3 p3 a3 => k v (.d d) s1 J3 H3 (f1.step t3) (b1.trans t3.jj) a3 p3
theorem se_tup (ha : SA K er W O t wl) : SE K er W O (tTup t) (wTup wl) := fun M mo J0 H0 Pr s σ J H f Q e q he Qv k =>
  ha M mo J0 H0 Pr s σ J H f _ e q he _ fun vs ds s1 J1 H1 f1 b1 a1 ⟨hl, q1⟩ => ⟨by rw [das_len a1]; exact hl, fun l hn => by
    have t3 := f1.wf.new (o := .tup vs) hn
    exact k _ (.d (.tuple ds)) s1 _ _ (f1.step t3) (b1.trans t3.jj) (.tup (.of upd_same) (t3.jj.das a1)) q1⟩
theorem se_lst (ha : SA K er W O t wl) : SE K er W O (tLst t) (wLst wl) := fun M mo J0 H0 Pr s σ J H f Q e q he Qv k =>
  ha M mo J0 H0 Pr s σ J H f _ e q he _ fun vs ds s1 J1 H1 f1 b1 a1 ⟨hl, q1⟩ => ⟨by rw [das_len a1]; exact hl, fun l hn => by
    have t3 := f1.wf.new (o := .lst vs) hn
    exact k _ (.d (.list ds)) s1 _ _ (f1.step t3) (b1.trans t3.jj) (.lst upd_same (t3.jj.das a1)) q1⟩
end
/-! ### tests -/
def wTest (wa : WE) (s : Sl) (Q : Bool → Sl → Prop) (e : EK) : Prop := wa s (fun a s1 => match a with
  | .d (.bool b) => Q b s1
  | _ => False) e
def wYes (s : Sl) (Q : Bool → Sl → Prop) (_ : EK) : Prop := Q true s
def wAnd (wt wu : WT) (s : Sl) (Q : Bool → Sl → Prop) (e : EK) : Prop := wt s (fun b s1 => if b = true then wu s1 Q e else Q false s1) e
def wOr (wt wu : WT) (s : Sl) (Q : Bool → Sl → Prop) (e : EK) : Prop := wt s (fun b s1 => if b = true then Q true s1 else wu s1 Q e) e
def wNot (wt : WT) (s : Sl) (Q : Bool → Sl → Prop) (e : EK) : Prop := wt s (fun b s1 => Q (!b) s1) e
/-- truth, of what has one that is known -/
def gTr (x : PyData) (k : Bool → Prop) : Prop := match x with
  | .str z => z.length ≤ sizeLine ∧ k (truth (.str z))
  | .dict _ => False
  | x => k (truth x)
def wTr (wa : WE) (s : Sl) (Q : Bool → Sl → Prop) (e : EK) : Prop := wa s (fun a s1 => rdq a s1 fun x => gTr x fun b => Q b s1) e
def wAndV (wa wb : WE) (s : Sl) (Q : EV → Sl → Prop) (e : EK) : Prop := wTest wa s (fun b s1 => if b = true then wb s1 Q e else Q (.d (.bool false)) s1) e
def wOrV (wa wb : WE) (s : Sl) (Q : EV → Sl → Prop) (e : EK) : Prop := wTest wa s (fun b s1 => if b = true then Q (.d (.bool true)) s1 else wb s1 Q e) e
def wNotV (wa : WE) (s : Sl) (Q : EV → Sl → Prop) (e : EK) : Prop := wTest wa s (fun b s1 => Q (.d (.bool !b)) s1) e
def wIf (wt : WT) (wa wb : WE) (s : Sl) (Q : EV → Sl → Prop) (e : EK) : Prop := wt s (fun b s1 => if b = true then wa s1 Q e else wb s1 Q e) e
section
variable {K : PySem.W.Frag} {er : Ers} {W : WX} {O : Md → Prop} {ta tb tc te : TE} {tt tu : TT} {t : TA} {wa wb wc we : WE} {wt wu : WT} {wl : WA} {J : Hp} {σ : L2.St} {v : V} {a : EV} {s : Sl} {Q : Bool → Sl → Prop}
theorem test_use (va : Ve K J σ v a) (q : match (generalizing := false) a with | .d (.bool b) => Q b s | _ => False) : ∃ b, v = .bl b ∧ Q b s := by
  split at q
  · exact ⟨_, da_bl va, q⟩
  · exact q.elim
theorem st_test (ha : SE K er W O ta wa) : ST K er W O (tTest ta) (wTest wa) := fun M mo J0 H0 Pr s σ J H f Q e q he Qb k =>
  ha M mo J0 H0 Pr s σ J H f _ e q he _ fun x a s1 J1 H1 f1 b1 va q1 => by
    obtain ⟨b, rfl, q2⟩ := test_use va q1
    exact ⟨b, rfl, k b s1 J1 H1 f1 b1 q2⟩
theorem st_B (ha : SE K er W O ta wa) : ST K er W O (tB ta) (wTest wa) := fun M mo J0 H0 Pr s σ J H f Q e q he Qb k =>
  ha M mo J0 H0 Pr s σ J H f _ e q he _ fun x a s1 J1 H1 f1 b1 va q1 => by
    obtain ⟨b, rfl, q2⟩ := test_use va q1
    exact ⟨b, rfl, k b s1 J1 H1 f1 b1 q2⟩
theorem st_yes : ST K er W O tYes wYes := fun M mo J0 H0 Pr s σ J H f Q e q he Qb k => k true s J H f (.refl _) q
theorem st_and (ha : ST K er W O tt wt) (hb : ST K er W O tu wu) : ST K er W O (tAnd tt tu) (wAnd wt wu) := fun M mo J0 H0 Pr s σ J H f Q e q he Qb k =>
  ha M mo J0 H0 Pr s σ J H f _ e q he _ fun b s1 J1 H1 f1 b1 q1 => by
    cases b with
    | true => exact hb M mo J0 H0 Pr s1 σ J1 H1 f1 _ e q1 he _ fun c s2 J2 H2 f2 b2 q2 => k c s2 J2 H2 f2 (b1.trans b2) q2
    | false => exact k false s1 J1 H1 f1 b1 q1
theorem st_or (ha : ST K er W O tt wt) (hb : ST K er W O tu wu) : ST K er W O (tOr tt tu) (wOr wt wu) := fun M mo J0 H0 Pr s σ J H f Q e q he Qb k =>
  ha M mo J0 H0 Pr s σ J H f _ e q he _ fun b s1 J1 H1 f1 b1 q1 => by
    cases b with
    | false => exact hb M mo J0 H0 Pr s1 σ J1 H1 f1 _ e q1 he _ fun c s2 J2 H2 f2 b2 q2 => k c s2 J2 H2 f2 (b1.trans b2) q2
    | true => exact k true s1 J1 H1 f1 b1 q1
theorem st_not (ha : ST K er W O tt wt) : ST K er W O (tNot tt) (wNot wt) := fun M mo J0 H0 Pr s σ J H f Q e q he Qb k =>
  ha M mo J0 H0 Pr s σ J H f _ e q he _ fun b s1 J1 H1 f1 b1 q1 => k (!b) s1 J1 H1 f1 b1 q1
theorem st_tr (ha : SE K er W O ta wa) : ST K er W O (tTruth K ta) (wTr wa) := fun M mo J0 H0 Pr s σ J H f Q e q he Qb k =>
  ha M mo J0 H0 Pr s σ J H f _ e q he _ fun x a s1 J1 H1 f1 b1 va q1 => by
    obtain ⟨dx, q2, ax⟩ := rdq_use f1 va q1
    have fin : gTr dx (fun b => Q b s1) → (∀ z, dx = .str z → z.length ≤ sizeLine) ∧ Q (truth dx) s1 := fun h => by
      cases dx with
      | str z => exact ⟨fun z' e => by cases e; exact h.1, h.2⟩
      | dict _ => exact h.elim
      | none => exact ⟨nofun, h⟩
      | bool b => exact ⟨nofun, h⟩
      | int i => exact ⟨nofun, h⟩
      | list xs => exact ⟨nofun, h⟩
      | tuple xs => exact ⟨nofun, h⟩
    obtain ⟨hz, q3⟩ := fin q2
    refine ⟨truth dx, ?_, k _ s1 J1 H1 f1 b1 q3⟩
    rcases ax with ax | ⟨p, vs, xs, rfl, rfl, hp, ad⟩
    · cases ax with
      | non => rfl
      | bl b => rfl
      | int i => rfl
      | str x => exact ⟨hz x rfl, rfl⟩
      | lst a b => exact .inl ⟨_, .of (f1.wf.jh _ _ a), by rw [das_empty b]; rfl⟩
      | tup a b => exact .inr (.inl ⟨_, f1.wf.jh.t a, by rw [das_empty b]; rfl⟩)
    · exact .inl ⟨_, .of hp, by rw [das_empty ad]; rfl⟩
theorem se_andV (ha : SE K er W O ta wa) (hb : SE K er W O tb wb) : SE K er W O (tAndV ta tb) (wAndV wa wb) := fun M mo J0 H0 Pr s σ J H f Q e q he Qv k =>
  ha M mo J0 H0 Pr s σ J H f _ e q he _ fun x a s1 J1 H1 f1 b1 va q1 => by
    obtain ⟨b, rfl, q2⟩ := test_use (s := s1) (Q := fun b s1 => if b = true then wb s1 Q e else Q (.d (.bool false)) s1) va q1
    refine ⟨b, rfl, ?_⟩
    cases b with
    | true => exact hb M mo J0 H0 Pr s1 σ J1 H1 f1 _ e q2 he _ fun v r s2 J2 H2 f2 b2 v2 q3 => k v r s2 J2 H2 f2 (b1.trans b2) v2 q3
    | false => exact k _ (.d (.bool false)) s1 J1 H1 f1 b1 (.bl false) q2
theorem se_orV (ha : SE K er W O ta wa) (hb : SE K er W O tb wb) : SE K er W O (tOrV ta tb) (wOrV wa wb) := fun M mo J0 H0 Pr s σ J H f Q e q he Qv k =>
  ha M mo J0 H0 Pr s σ J H f _ e q he _ fun x a s1 J1 H1 f1 b1 va q1 => by
    obtain ⟨b, rfl, q2⟩ := test_use (s := s1) (Q := fun b s1 => if b = true then Q (.d (.bool true)) s1 else wb s1 Q e) va q1
    refine ⟨b, rfl, ?_⟩
    cases b with
    | false => exact hb M mo J0 H0 Pr s1 σ J1 H1 f1 _ e q2 he _ fun v r s2 J2 H2 f2 b2 v2 q3 => k v r s2 J2 H2 f2 (b1.trans b2) v2 q3
    | true => exact k _ (.d (.bool true)) s1 J1 H1 f1 b1 (.bl true) q2
theorem se_notV (ha : SE K er W O ta wa) : SE K er W O (tNotV ta) (wNotV wa) := fun M mo J0 H0 Pr s σ J H f Q e q he Qv k =>
  ha M mo J0 H0 Pr s σ J H f _ e q he _ fun x a s1 J1 H1 f1 b1 va q1 => by
    obtain ⟨b, rfl, q2⟩ := test_use (s := s1) (Q := fun b s1 => Q (.d (.bool !b)) s1) va q1
    exact ⟨b, rfl, k _ (.d (.bool !b)) s1 J1 H1 f1 b1 (.bl _) q2⟩
theorem se_if (hc : ST K er W O tt wt) (ha : SE K er W O ta wa) (hb : SE K er W O tb wb) : SE K er W O (tIf tt ta tb) (wIf wt wa wb) := fun M mo J0 H0 Pr s σ J H f Q e q he Qv k =>
  hc M mo J0 H0 Pr s σ J H f _ e q he _ fun b s1 J1 H1 f1 b1 q1 => by
    cases b with
    | true => exact ha M mo J0 H0 Pr s1 σ J1 H1 f1 _ e q1 he _ fun v r s2 J2 H2 f2 b2 v2 q3 => k v r s2 J2 H2 f2 (b1.trans b2) v2 q3
    | false => exact hb M mo J0 H0 Pr s1 σ J1 H1 f1 _ e q1 he _ fun v r s2 J2 H2 f2 b2 v2 q3 => k v r s2 J2 H2 f2 (b1.trans b2) v2 q3
end
end DW

/-! What operations make of data. -/
namespace DW
open PySem PySem.Spec
open PyProof.Rows L2 DL
def sLt (x y : Str) : Bool := decide (x.cps.toList < y.cps.toList)
def gAdd : G2
  | .int i, .int j, k => k (.int (i + j))
  | .tuple xs, .tuple ys, k => xs.length + ys.length ≤ sizeLine ∧ k (.tuple (xs ++ ys))
  | .list xs, .list ys, k => xs.length + ys.length ≤ sizeLine ∧ k (.list (xs ++ ys))
  | .str x, .str y, k => x.length + y.length ≤ sizeLine ∧ k (.str (x ++ y))
  | _, _, _ => False
def gSub : G2
  | .int i, .int j, k => k (.int (i - j))
  | _, _, _ => False
def gMul : G2
  | .int i, .int j, k => CMulW i j ∧ k (.int (i * j))
  | _, _, _ => False
def gMod : G2
  | .int i, .int j, k => 0 < j ∧ k (.int (i % j))
  | _, _, _ => False
def gDiv : G2
  | .int i, .int j, k => CDivW i j ∧ k (.int (i / j))
  | _, _, _ => False
def gPow : G2
  | .int i, .int j, k => CPow i j ∧ k (.int (i ^ j.toNat))
  | _, _, _ => False
def gLt : G2
  | .int i, .int j, k => k (.bool (decide (i < j)))
  | .str i, .str j, k => k (.bool (sLt i j))
  | _, _, _ => False
def gLe : G2
  | .int i, .int j, k => k (.bool (decide (i ≤ j)))
  | .str i, .str j, k => k (.bool (!sLt j i))
  | _, _, _ => False
def gGt : G2
  | .int i, .int j, k => k (.bool (decide (j < i)))
  | .str i, .str j, k => k (.bool (sLt j i))
  | _, _, _ => False
def gGe : G2
  | .int i, .int j, k => k (.bool (decide (j ≤ i)))
  | .str i, .str j, k => k (.bool (!sLt i j))
  | _, _, _ => False
def gEq : G2 := fun x y k => SeqAt.shaped x = true ∧ SeqAt.shaped y = true ∧ k (.bool (PyData.eqv x y))
def gNe : G2 := fun x y k => SeqAt.shaped x = true ∧ SeqAt.shaped y = true ∧ k (.bool (!PyData.eqv x y))
/-- x in y: b says whether it is asked so, or the other way -/
def gInB (b : Bool) : G2 := fun x y k => match y with
  | .list ys => SeqAt.shaped x = true ∧ SeqAt.shaped (.list ys) = true ∧ k (.bool (xor (!b) (ys.any fun z => PyData.eqv z x)))
  | .tuple ys => SeqAt.shaped x = true ∧ SeqAt.shaped (.tuple ys) = true ∧ k (.bool (xor (!b) (ys.any fun z => PyData.eqv z x)))
  | .str z => ∃ c, x = .str ⟨#[c]⟩ ∧ k (.bool (xor (!b) (decide (c ∈ z.cps.toList))))
  | _ => False
abbrev gIn : G2 := gInB true
abbrev gNotIn : G2 := gInB false
def gIs : G2
  | x, .none, k => k (.bool (isNo x))
  | _, _, _ => False
def gIsNot : G2
  | x, .none, k => k (.bool (!isNo x))
  | _, _, _ => False
def gIx : G2
  | .list xs, .int i, k => ∃ d, atI xs i = some d ∧ k d
  | .tuple xs, .int i, k => ∃ d, atI xs i = some d ∧ k d
  | .str z, .int i, k => z.length ≤ sizeLine ∧ ∃ c, atI z.cps.toList i = some c ∧ k (.str ⟨#[c]⟩)
  | _, _, _ => False
def gNeg : G1
  | .int i, k => k (.int (-i))
  | _, _ => False
def gLen : G1
  | .list xs, k => k (.int xs.length)
  | .tuple xs, k => k (.int xs.length)
  | .str z, k => z.length ≤ sizeLine ∧ k (.int z.length)
  | _, _ => False
def gToT : G1
  | .list xs, k => k (.tuple xs)
  | .tuple xs, k => k (.tuple xs)
  | _, _ => False
def gToL : G1
  | .list xs, k => k (.list xs)
  | .tuple xs, k => k (.list xs)
  | _, _ => False
def gInt : G1
  | .int i, k => k (.int i)
  | .bool b, k => k (.int (if b then 1 else 0))
  | _, _ => False
def gAbs : G1
  | .int i, k => k (.int (if i < 0 then -i else i))
  | _, _ => False
def gRepr : G1 := fun d k => d.showable = true ∧ d.shown.length ≤ sizeLine ∧ d.depth ≤ 60 ∧ k (.str d.shown)
section
variable {K : PySem.W.Frag} {M : Md} {J H : Hp} {v : V} {x : PyData}
theorem dq_int {i : Int} (h : Dq K J H v (.int i)) : v = .int i := by
  rcases h with h | ⟨_, _, _, _, e, _⟩
  · exact da_int h
  · cases e
theorem dq_bl {b : Bool} (h : Dq K J H v (.bool b)) : v = .bl b := by
  rcases h with h | ⟨_, _, _, _, e, _⟩
  · exact da_bl h
  · cases e
theorem dq_str {z : Str} (h : Dq K J H v (.str z)) : v = .str z := by
  rcases h with h | ⟨_, _, _, _, e, _⟩
  · exact da_str h
  · cases e
theorem dq_non (h : Dq K J H v .none) : v = .non := by
  rcases h with h | ⟨_, _, _, _, e, _⟩
  · exact da_non h
  · cases e
theorem dq_tup {xs : List PyData} (w : Sub J H) (h : Dq K J H v (.tuple xs)) : ∃ a vs, v = .ref a ∧ SqT K H a vs ∧ Das K J vs xs ∧ Da K J v (.tuple xs) := by
  rcases h with h | ⟨_, _, _, _, e, _⟩
  · obtain ⟨a, vs, e, h1, h2⟩ := da_tup h
    exact ⟨a, vs, e, w.t h1, h2, h⟩
  · cases e
theorem dq_lst {xs : List PyData} (w : Sub J H) (h : Dq K J H v (.list xs)) : ∃ a vs, v = .ref a ∧ H a = some (.lst vs) ∧ Das K J vs xs := by
  rcases h with h | ⟨p, vs, ys, e, e2, hp, a⟩
  · obtain ⟨a, vs, e, h1, h2⟩ := da_lst h
    exact ⟨a, vs, e, w _ _ h1, h2⟩
  · cases e2
    exact ⟨p, vs, e, hp, a⟩
theorem dq_isNo (h : Dq K J H v x) : decide (v = .non) = isNo x := by
  rcases h with h | ⟨_, _, _, e, e2, _⟩
  · exact da_isNo h
  · rw [e, e2]; rfl
theorem Wf.trr (w : Wf M J H) : Tr M J H J H := w.tr
end
section
variable {K : PySem.W.Frag}
theorem or_ops {r r' : R2} {g g' : G2} (h : OpS K r g) (h' : OpS K r' g') : OpS K (fun x y H Q => r x y H Q ∨ r' x y H Q) (fun x y k => g x y k ∨ g' x y k) := fun M J H x y dx dy w ax ay P hg Q q => by
  rcases hg with hg | hg
  · exact .inl (h M J H x y dx dy w ax ay P hg Q q)
  · exact .inr (h' M J H x y dx dy w ax ay P hg Q q)
theorem os_add : OpS K (rPlus K) gAdd := fun M J H x y dx dy w ax ay P hg Q q => by
  unfold gAdd at hg
  split at hg
  · rw [dq_int ax, dq_int ay]
    exact .inl ⟨_, _, rfl, rfl, q _ _ J H w.tr hg (.int _)⟩
  · rename_i xs ys
    obtain ⟨a, vs, rfl, hl, hd, fx⟩ := dq_tup w.jh ax
    obtain ⟨b, ws, rfl, hl2, hd2, fy⟩ := dq_tup w.jh ay
    refine .inr (.inl ⟨a, b, vs, ws, rfl, rfl, hl, hl2, by rw [das_len hd, das_len hd2]; exact hg.1, fun e => ?_, fun _ e => ?_, fun _ _ l hn => ?_⟩)
    · subst e
      cases hd
      exact q _ _ J H w.tr hg.2 fy
    · subst e
      cases hd2
      have h2 := hg.2
      rw [List.append_nil] at h2
      exact q _ _ J H w.tr h2 fx
    · have t := w.new (o := .tup (vs ++ ws)) hn
      exact q _ _ _ _ t hg.2 (.tup (.of upd_same) (t.jj.das (das_app hd hd2)))
  · rename_i xs ys
    obtain ⟨a, vs, rfl, hl, hd⟩ := dq_lst w.jh ax
    obtain ⟨b, ws, rfl, hl2, hd2⟩ := dq_lst w.jh ay
    refine .inr (.inr (.inl ⟨a, b, vs, ws, rfl, rfl, hl, hl2, by rw [das_len hd, das_len hd2]; exact hg.1, fun l hn => ?_⟩))
    have t := w.new (o := .lst (vs ++ ws)) hn
    exact q _ _ _ _ t hg.2 (.lst upd_same (t.jj.das (das_app hd hd2)))
  · exact .inr (.inr (.inr ⟨_, _, dq_str ax, dq_str ay, hg.1, q _ _ J H w.tr hg.2 (.str _)⟩))
  · exact hg.elim
theorem os_I0 {f : Int → Int → Int} {g : G2} (hg : ∀ dx dy P, g dx dy P → ∃ i j, dx = .int i ∧ dy = .int j ∧ P (.int (f i j))) : OpS K (rI0 fun i j => .int (f i j)) g := fun M J H x y dx dy w ax ay P h Q q => by
  obtain ⟨i, j, rfl, rfl, h1⟩ := hg _ _ _ h
  exact ⟨i, j, dq_int ax, dq_int ay, q _ _ J H w.tr h1 (.int _)⟩
theorem os_I {C : Int → Int → Prop} {f : Int → Int → Int} {g : G2} (hg : ∀ dx dy P, g dx dy P → ∃ i j, dx = .int i ∧ dy = .int j ∧ C i j ∧ P (.int (f i j))) : OpS K (rI C fun i j => .int (f i j)) g := fun M J H x y dx dy w ax ay P h Q q => by
  obtain ⟨i, j, rfl, rfl, hc, h1⟩ := hg _ _ _ h
  exact ⟨i, j, dq_int ax, dq_int ay, hc, q _ _ J H w.tr h1 (.int _)⟩
theorem os_sub : OpS K (rI0 fun i j => .int (i - j)) gSub := os_I0 fun dx dy P h => by
  unfold gSub at h; split at h
  · exact ⟨_, _, rfl, rfl, h⟩
  · exact h.elim
theorem os_mul : OpS K (rI CMulW fun i j => .int (i * j)) gMul := os_I fun dx dy P h => by
  unfold gMul at h; split at h
  · exact ⟨_, _, rfl, rfl, h⟩
  · exact h.elim
theorem os_mod : OpS K (rI (fun _ j => 0 < j) fun i j => .int (i % j)) gMod := os_I fun dx dy P h => by
  unfold gMod at h; split at h
  · exact ⟨_, _, rfl, rfl, h⟩
  · exact h.elim
theorem os_div : OpS K (rI CDivW fun i j => .int (i / j)) gDiv := os_I fun dx dy P h => by
  unfold gDiv at h; split at h
  · exact ⟨_, _, rfl, rfl, h⟩
  · exact h.elim
theorem os_pow : OpS K (rI CPow fun i j => .int (i ^ j.toNat)) gPow := os_I fun dx dy P h => by
  unfold gPow at h; split at h
  · exact ⟨_, _, rfl, rfl, h⟩
  · exact h.elim
def rB0 (f : Int → Int → Bool) (g : Str → Str → Bool) : R2 := fun x y H Q => (rI0 fun i j => .bl (f i j)) x y H Q ∨ (∃ i j, x = .str i ∧ y = .str j ∧ Q (.bl (g i j)) H)
theorem os_B {f : Int → Int → Bool} {g : Str → Str → Bool} {gg : G2} (hg : ∀ dx dy P, gg dx dy P → (∃ i j, dx = .int i ∧ dy = .int j ∧ P (.bool (f i j))) ∨ ∃ i j, dx = .str i ∧ dy = .str j ∧ P (.bool (g i j))) : OpS K (rB0 f g) gg := fun M J H x y dx dy w ax ay P h Q q => by
  rcases hg _ _ _ h with ⟨i, j, rfl, rfl, h1⟩ | ⟨i, j, rfl, rfl, h1⟩
  · exact .inl ⟨i, j, dq_int ax, dq_int ay, q _ _ J H w.tr h1 (.bl _)⟩
  · exact .inr ⟨i, j, dq_str ax, dq_str ay, q _ _ J H w.tr h1 (.bl _)⟩
theorem os_lt : OpS K (rB0 (fun i j => decide (i < j)) fun i j => decide (i.cps.toList < j.cps.toList)) gLt := os_B fun dx dy P h => by
  unfold gLt at h; split at h
  · exact .inl ⟨_, _, rfl, rfl, h⟩
  · exact .inr ⟨_, _, rfl, rfl, h⟩
  · exact h.elim
theorem os_le : OpS K (rB0 (fun i j => decide (i ≤ j)) fun i j => !decide (j.cps.toList < i.cps.toList)) gLe := os_B fun dx dy P h => by
  unfold gLe at h; split at h
  · exact .inl ⟨_, _, rfl, rfl, h⟩
  · exact .inr ⟨_, _, rfl, rfl, h⟩
  · exact h.elim
theorem os_gt : OpS K (rB0 (fun i j => decide (j < i)) fun i j => decide (j.cps.toList < i.cps.toList)) gGt := os_B fun dx dy P h => by
  unfold gGt at h; split at h
  · exact .inl ⟨_, _, rfl, rfl, h⟩
  · exact .inr ⟨_, _, rfl, rfl, h⟩
  · exact h.elim
theorem os_ge : OpS K (rB0 (fun i j => decide (j ≤ i)) fun i j => !decide (i.cps.toList < j.cps.toList)) gGe := os_B fun dx dy P h => by
  unfold gGe at h; split at h
  · exact .inl ⟨_, _, rfl, rfl, h⟩
  · exact .inr ⟨_, _, rfl, rfl, h⟩
  · exact h.elim
theorem os_eq : OpS K (rEqD K) gEq := fun M J H x y dx dy w ax ay P ⟨h1, h2, h3⟩ Q q => ⟨dx, dy, ax.dp w, ay.dp w, h1, h2, q _ _ J H w.tr h3 (.bl _)⟩
theorem os_ne : OpS K (rNeD K) gNe := fun M J H x y dx dy w ax ay P ⟨h1, h2, h3⟩ Q q => ⟨dx, dy, ax.dp w, ay.dp w, h1, h2, q _ _ J H w.tr h3 (.bl _)⟩
def rInU (K : PySem.W.Frag) : R2 := fun x y H Q => rInD K x y H Q ∨ rInDT K false x y H Q ∨ ∃ (c : Nat) (z : Str), x = .str ⟨#[c]⟩ ∧ y = .str z ∧ Q (.bl (decide (c ∈ z.cps.toList))) H
def rNotInU (K : PySem.W.Frag) : R2 := fun x y H Q => rNotInD K x y H Q ∨ rInDT K true x y H Q ∨ ∃ (c : Nat) (z : Str), x = .str ⟨#[c]⟩ ∧ y = .str z ∧ Q (.bl (!decide (c ∈ z.cps.toList))) H
theorem os_in : OpS K (rInU K) gIn := fun M J H x y dx dy w ax ay P hg Q q => by
  unfold gIn gInB at hg
  split at hg
  · exact .inl ⟨dx, _, ax.dp w, ay.dp w, hg.1, hg.2.1, q _ _ J H w.tr hg.2.2 (by rw [Bool.not_true, Bool.false_xor]; exact .bl _)⟩
  · exact .inr (.inl ⟨dx, _, ⟨ax.dp w, hg.1⟩, ⟨ay.dp w, hg.2.1⟩, q _ _ J H w.tr hg.2.2 (by rw [Bool.not_true, Bool.false_xor]; exact .bl _)⟩)
  · obtain ⟨c, rfl, h⟩ := hg
    exact .inr (.inr ⟨c, _, dq_str ax, dq_str ay, q _ _ J H w.tr h (by rw [Bool.not_true, Bool.false_xor]; exact .bl _)⟩)
  · exact hg.elim
theorem os_notIn : OpS K (rNotInU K) gNotIn := fun M J H x y dx dy w ax ay P hg Q q => by
  unfold gNotIn gInB at hg
  split at hg
  · exact .inl ⟨dx, _, ax.dp w, ay.dp w, hg.1, hg.2.1, q _ _ J H w.tr hg.2.2 (by rw [Bool.not_false, Bool.true_xor]; exact .bl _)⟩
  · exact .inr (.inl ⟨dx, _, ⟨ax.dp w, hg.1⟩, ⟨ay.dp w, hg.2.1⟩, q _ _ J H w.tr hg.2.2 (by rw [Bool.not_false, Bool.true_xor]; exact .bl _)⟩)
  · obtain ⟨c, rfl, h⟩ := hg
    exact .inr (.inr ⟨c, _, dq_str ax, dq_str ay, q _ _ J H w.tr h (by rw [Bool.not_false, Bool.true_xor]; exact .bl _)⟩)
  · exact hg.elim
theorem os_is : OpS K rIsNo gIs := fun M J H x y dx dy w ax ay P hg Q q => by
  unfold gIs at hg
  split at hg
  · exact ⟨dq_non ay, q _ _ J H w.tr hg (by rw [← dq_isNo ax]; exact .bl _)⟩
  · exact hg.elim
theorem os_isNot : OpS K rNotNo gIsNot := fun M J H x y dx dy w ax ay P hg Q q => by
  unfold gIsNot at hg
  split at hg
  · exact ⟨dq_non ay, q _ _ J H w.tr hg (by rw [← dq_isNo ax]; exact .bl _)⟩
  · exact hg.elim
theorem os_ix : OpS K (rIx K) gIx := fun M J H x y dx dy w ax ay P hg Q q => by
  unfold gIx at hg
  split at hg
  · obtain ⟨d, e, h⟩ := hg
    obtain ⟨a, vs, rfl, hl, hd⟩ := dq_lst w.jh ax
    obtain ⟨v, hv, av⟩ := das_atI hd e
    exact .inl ⟨a, vs, _, v, rfl, dq_int ay, .of hl, hv, q v d J H w.tr h av⟩
  · obtain ⟨d, e, h⟩ := hg
    obtain ⟨a, vs, rfl, hl, hd, _⟩ := dq_tup w.jh ax
    obtain ⟨v, hv, av⟩ := das_atI hd e
    exact .inr (.inl ⟨a, vs, _, v, rfl, dq_int ay, hl, hv, q v d J H w.tr h av⟩)
  · obtain ⟨hz, c, e, h⟩ := hg
    exact .inr (.inr ⟨_, _, c, dq_str ax, dq_int ay, hz, e, q _ _ J H w.tr h (.str _)⟩)
  · exact hg.elim
theorem us_neg : UnS K (rU fun i => .int (-i)) gNeg := fun M J H x dx w ax P hg Q q => by
  unfold gNeg at hg; split at hg
  · exact ⟨_, dq_int ax, q _ _ J H w.tr hg (.int _)⟩
  · exact hg.elim
theorem us_len : UnS K (fun x H Q => rLen K [x] H Q) gLen := fun M J H x dx w ax P hg Q q => by
  unfold gLen at hg; split at hg
  · obtain ⟨a, vs, rfl, hl, hd⟩ := dq_lst w.jh ax
    exact ⟨_, _, rfl, .inl ⟨vs, .of hl, (das_len hd).symm⟩, q _ _ J H w.tr hg (.int _)⟩
  · obtain ⟨a, vs, rfl, hl, hd, _⟩ := dq_tup w.jh ax
    exact ⟨_, _, rfl, .inr ⟨vs, hl, (das_len hd).symm⟩, q _ _ J H w.tr hg (.int _)⟩
  · exact ⟨_, _, rfl, by rw [dq_str ax]; exact ⟨hg.1, rfl⟩, q _ _ J H w.tr hg.2 (.int _)⟩
  · exact hg.elim
theorem us_tup : UnS K (fun x H Q => rTupOf K [x] H Q) gToT := fun M J H x dx w ax P hg Q q => by
  unfold gToT at hg; split at hg
  · obtain ⟨a, vs, rfl, hl, hd⟩ := dq_lst w.jh ax
    refine ⟨a, vs, rfl, .inl ⟨.of hl, fun l hn => ?_⟩⟩
    have t := w.new (o := .tup vs) hn
    exact q _ _ _ _ t hg (.tup (.of upd_same) (t.jj.das hd))
  · obtain ⟨a, vs, rfl, hl, hd, fx⟩ := dq_tup w.jh ax
    exact ⟨a, vs, rfl, .inr ⟨hl, q _ _ J H w.tr hg fx⟩⟩
  · exact hg.elim
theorem us_lst : UnS K (fun x H Q => rLstOf K [x] H Q) gToL := fun M J H x dx w ax P hg Q q => by
  unfold gToL at hg; split at hg
  · obtain ⟨a, vs, rfl, hl, hd⟩ := dq_lst w.jh ax
    refine ⟨a, vs, rfl, .inl (.of hl), fun l hn => ?_⟩
    have t := w.new (o := .lst vs) hn
    exact q _ _ _ _ t hg (.lst upd_same (t.jj.das hd))
  · obtain ⟨a, vs, rfl, hl, hd, fx⟩ := dq_tup w.jh ax
    refine ⟨a, vs, rfl, .inr hl, fun l hn => ?_⟩
    have t := w.new (o := .lst vs) hn
    exact q _ _ _ _ t hg (.lst upd_same (t.jj.das hd))
  · exact hg.elim
theorem us_int : UnS K (fun x H Q => rInt1 [x] H Q) gInt := fun M J H x dx w ax P hg Q q => by
  unfold gInt at hg; split at hg
  · exact .inl ⟨_, by rw [dq_int ax], q _ _ J H w.tr hg (.int _)⟩
  · exact .inr ⟨_, by rw [dq_bl ax], q _ _ J H w.tr hg (.int _)⟩
  · exact hg.elim
theorem us_abs : UnS K (fun x H Q => rAbs [x] H Q) gAbs := fun M J H x dx w ax P hg Q q => by
  unfold gAbs at hg; split at hg
  · exact ⟨_, by rw [dq_int ax], q _ _ J H w.tr hg (.int _)⟩
  · exact hg.elim
theorem us_repr : UnS K (fun x H Q => rRepr K [x] H Q) gRepr := fun M J H x dx w ax P ⟨h1, h2, h3, h⟩ Q q => ⟨x, dx, rfl, ax.dp w, h1, h2, h3, q _ _ J H w.tr h (.str _)⟩
end
/-! ### parts of lists, tuples, texts -/
abbrev WO := Sl → (Option Int → Sl → Prop) → EK → Prop
def SO (K : PySem.W.Frag) (er : Ers) (W : WX) (O : Md → Prop) (to : TO) (wo : WO) : Prop := ∀ M, O M → ∀ J0 H0 Pr s σ J H, Fr K M J0 H0 Pr s σ J H → ∀ Q e, wo s Q e → ErO K er W M J0 H0 Pr e →
  ∀ Qo : Option Int → Hp → Prop, (∀ o s' J' H', Fr K M J0 H0 Pr s' σ J' H' → Sub J J' → Q o s' → Qo o H') → to σ H Qo
def woNone (s : Sl) (Q : Option Int → Sl → Prop) (_ : EK) : Prop := Q none s
def woSome (wa : WE) (s : Sl) (Q : Option Int → Sl → Prop) (e : EK) : Prop := wa s (fun a s1 => match a with
  | .d (.int i) => Q (some i) s1
  | _ => False) e
def gSl (x : PyData) (lo hi : Option Int) (k : PyData → Prop) : Prop := match x with
  | .list xs => k (.list (cut xs lo hi))
  | .tuple xs => k (.tuple (cut xs lo hi))
  | .str z => z.length ≤ sizeLine ∧ k (.str (cutS z lo hi))
  | _ => False
def rSlU (K : PySem.W.Frag) : V → Option Int → Option Int → Hp → VK → Prop := fun x lo hi H Q => rSlL K x lo hi H Q ∨ rSlA K x lo hi H Q ∨ rSlS x lo hi H Q
def wSl (wa : WE) (wl wh : WO) (s : Sl) (Q : EV → Sl → Prop) (e : EK) : Prop := wa s (fun a s1 => wl s1 (fun lo s2 => wh s2 (fun hi s3 => rdq a s3 fun x => gSl x lo hi fun z => Q (.d z) s3) e) e) e
def gRev : G1
  | .list xs, k => k (.list xs.reverse)
  | _, _ => False
section
variable {K : PySem.W.Frag} {er : Ers} {W : WX} {O : Md → Prop} {ta tb tc te : TE} {wa wb wc we : WE} {wl wh : WO} {tl th : TO}
theorem so_none : SO K er W O tNoPart woNone := fun M mo J0 H0 Pr s σ J H f Q e q he Qo k => k none s J H f (.refl _) q
theorem so_some (ha : SE K er W O ta wa) : SO K er W O (tPart ta) (woSome wa) := fun M mo J0 H0 Pr s σ J H f Q e q he Qo k =>
  ha M mo J0 H0 Pr s σ J H f _ e q he _ fun x a s1 J1 H1 f1 b1 va q1 => by
    split at q1
    · exact ⟨_, da_int va, k _ s1 J1 H1 f1 b1 q1⟩
    · exact q1.elim
theorem se_sl (ha : SE K er W O ta wa) (hl : SO K er W O tl wl) (hh : SO K er W O th wh) : SE K er W O (tSl (rSlU K) ta tl th) (wSl wa wl wh) := fun M mo J0 H0 Pr s σ J H f Q e q he Qv k =>
  ha M mo J0 H0 Pr s σ J H f _ e q he _ fun x a s1 J1 H1 f1 b1 va q1 => hl M mo J0 H0 Pr s1 σ J1 H1 f1 _ e q1 he _ fun lo s2 J2 H2 f2 b2 q2 => hh M mo J0 H0 Pr s2 σ J2 H2 f2 _ e q2 he _ fun hi s3 J3 H3 f3 b3 q3 => by
    obtain ⟨dx, q4, ax⟩ := rdq_use f3 (va.sub (b2.trans b3)) q3
    have bb := b1.trans (b2.trans b3)
    have w := f3.wf
    unfold gSl at q4
    split at q4
    · obtain ⟨a, vs, rfl, hl, hd⟩ := dq_lst w.jh ax
      refine .inl ⟨a, vs, rfl, .of hl, fun p hp => ?_⟩
      have t := w.new (o := .lst (cutV vs lo hi)) hp
      exact k _ (.d _) s3 _ _ (f3.step t) (bb.trans t.jj) (.lst upd_same (t.jj.das (das_cut hd lo hi))) q4
    · rename_i xs
      obtain ⟨a, vs, rfl, hl, hd, fx⟩ := dq_tup w.jh ax
      have hlen := das_len hd
      refine .inr (.inl ⟨a, vs, rfl, hl, fun ee => ?_, fun _ p hp => ?_⟩)
      · have ec : cut xs lo hi = xs := by
          unfold cut
          rw [hlen] at ee
          rw [ee.1, ee.2]
          simp
        rw [ec] at q4
        exact k _ (.d _) s3 _ _ f3 bb fx q4
      · have t := w.new (o := .tup (cutV vs lo hi)) hp
        exact k _ (.d _) s3 _ _ (f3.step t) (bb.trans t.jj) (.tup (.of upd_same) (t.jj.das (das_cut hd lo hi))) q4
    · exact .inr (.inr ⟨_, dq_str ax, q4.1, k _ (.d _) s3 _ _ f3 bb (.str _) q4.2⟩)
    · exact q4.elim
theorem se_rev (ha : SE K er W O ta wa) : SE K er W O (tRevL K ta) (wUn gRev wa) := fun M mo J0 H0 Pr s σ J H f Q e q he Qv k =>
  ha M mo J0 H0 Pr s σ J H f _ e q he _ fun x a s1 J1 H1 f1 b1 va q1 => by
    obtain ⟨dx, q2, ax⟩ := rdq_use f1 va q1
    unfold gRev at q2; split at q2
    · obtain ⟨a, vs, rfl, hl, hd⟩ := dq_lst f1.wf.jh ax
      refine ⟨a, vs, rfl, .of hl, fun p hp => ?_⟩
      have t := f1.wf.new (o := .lst vs.reverse) hp
      exact k _ (.d _) s1 _ _ (f1.step t) (b1.trans t.jj) (.lst upd_same (t.jj.das (das_rev hd))) q2
    · exact q2.elim
/-- a < b < c -/
def wChain (g g' : G2) (wa wb wc : WE) (s : Sl) (Q : EV → Sl → Prop) (e : EK) : Prop := wa s (fun a s1 => wb s1 (fun b s2 => rdq a s2 fun x => rdq b s2 fun y => g x y fun z => match z with
  | .bool true => wc s2 (fun c s3 => rdq b s3 fun y => rdq c s3 fun z => g' y z fun u => Q (.d u) s3) e
  | .bool false => Q (.d (.bool false)) s2
  | _ => False) e) e
theorem se_chain {r r' : R2} {g g' : G2} (o : OpS K r g) (o' : OpS K r' g') (ha : SE K er W O ta wa) (hb : SE K er W O tb wb) (hc : SE K er W O tc wc) : SE K er W O (tChain r r' ta tb tc) (wChain g g' wa wb wc) := fun M mo J0 H0 Pr s σ J H f Q e q he Qv k =>
  ha M mo J0 H0 Pr s σ J H f _ e q he _ fun x a s1 J1 H1 f1 b1 va q1 => hb M mo J0 H0 Pr s1 σ J1 H1 f1 _ e q1 he _ fun y b s2 J2 H2 f2 b2 vb q2 => by
    obtain ⟨dx, q3, ax⟩ := rdq_use f2 (va.sub b2) q2
    obtain ⟨dy, q4, ay⟩ := rdq_use f2 vb q3
    refine o M J2 H2 x y dx dy f2.wf ax ay _ q4 _ fun v d J3 H3 t3 p3 a3 => ?_
    have bb := (b1.trans b2).trans t3.jj
    split at p3
    · refine ⟨true, da_bl a3, ?_⟩
      refine hc M mo J0 H0 Pr s2 σ J3 H3 (f2.step t3) _ e p3 he _ fun z c s3 J4 H4 f4 b4 vc q5 => ?_
      obtain ⟨dy2, q6, ay2⟩ := rdq_use f4 (vb.sub (t3.jj.trans b4)) q5
      obtain ⟨dz, q7, az⟩ := rdq_use f4 vc q6
      exact o' M J4 H4 y z dy2 dz f4.wf ay2 az _ q7 _ fun v d J5 H5 t5 p5 a5 => k v (.d d) s3 J5 H5 (f4.step t5) ((bb.trans b4).trans t5.jj) a5 p5
    · exact ⟨false, da_bl a3, k _ (.d (.bool false)) s2 J3 H3 (f2.step t3) bb (.bl false) p3⟩
    · exact p3.elim
end
/-! ### isinstance with built-in classes -/
def tyOf : PyData → String
  | .none => "NoneType"
  | .bool _ => "bool"
  | .int _ => "int"
  | .str _ => "str"
  | .list _ => "list"
  | .tuple _ => "tuple"
  | .dict _ => "dict"
def isTy (d : PyData) (n : String) : Bool := decide (tyOf d = n) || (decide (tyOf d = "bool") && decide (n = "int"))
def tys : List String := ["int", "bool", "str", "list", "tuple", "dict"]
def wIsi (n : String) (wa : WE) (s : Sl) (Q : EV → Sl → Prop) (e : EK) : Prop := wa s (fun a s1 => rdq a s1 fun x => Q (.d (.bool (isTy x n))) s1) e
def wIsi2 (n m : String) (wa : WE) (s : Sl) (Q : EV → Sl → Prop) (e : EK) : Prop := wa s (fun a s1 => rdq a s1 fun x => Q (.d (.bool (isTy x n || isTy x m))) s1) e
section
variable {K : PySem.W.Frag} {er : Ers} {W : WX} {O : Md → Prop} {ta tb tc te : TE} {wa wb wc we : WE} {J H : Hp} {v : V} {d : PyData}
theorem ty_dq (w : Sub J H) (h : Dq K J H v d) : TyX K H v (.type (tyOf d)) := by
  rcases h with h | ⟨p, vs, xs, rfl, rfl, hp, a⟩
  · cases h with
    | non => exact .base .non
    | bl b => exact .base (.bl b)
    | int i => exact .base (.int i)
    | str x => exact .base (.str x)
    | lst a b => exact .base (.lst (w _ _ a))
    | tup a b => exact ty_tup (.tup a b) w
  · exact .base (.lst hp)
theorem kit_key : ∀ t ∈ ["NoneType", "bool", "int", "str", "list", "tuple", "dict"], ∀ n ∈ tys, kitB t n = some (decide (t = n) || (decide (t = "bool") && decide (n = "int"))) := by decide +kernel
theorem kit_one (n : String) (hn : n ∈ tys) : PySem.W.kitOne K (.type (tyOf d)) (.type n) = some (isTy d n) := by
  refine kit_ty (kit_key _ ?_ n hn)
  cases d <;> simp [tyOf]
theorem se_isi {n : String} (hn : n ∈ tys) (ha : SE K er W O ta wa) : SE K er W O (tCB (rIsi K) (tCons ta (tCons (tC (.ty n)) tNil))) (wIsi n wa) := fun M mo J0 H0 Pr s σ J H f Q e q he Qv k =>
  ha M mo J0 H0 Pr s σ J H f _ e q he _ fun x a s1 J1 H1 f1 b1 va q1 => by
    obtain ⟨dx, q2, ax⟩ := rdq_use f1 va q1
    exact ⟨x, .ty n, .type (tyOf dx), .type n, _, rfl, .ty _, ty_dq f1.wf.jh ax, kit_one n hn, k _ (.d _) s1 J1 H1 f1 b1 (.bl _) q2⟩
theorem kit_any {n m : String} (hn : n ∈ tys) (hm : m ∈ tys) : PySem.W.kitAny K (.type (tyOf d)) [.type n, .type m] = some (isTy d n || isTy d m) := by
  unfold PySem.W.kitAny
  rw [kit_one n hn]
  cases h : isTy d n with
  | true => rfl
  | false =>
    dsimp only
    unfold PySem.W.kitAny
    rw [kit_one m hm]
    cases h2 : isTy d m <;> rfl
theorem se_isi2 {n m : String} (hn : n ∈ tys) (hm : m ∈ tys) (ha : SE K er W O ta wa) : SE K er W O (tCB (rIsiT K) (tCons ta (tCons (tTup (tCons (tC (.ty n)) (tCons (tC (.ty m)) tNil))) tNil))) (wIsi2 n m wa) := fun M mo J0 H0 Pr s σ J H f Q e q he Qv k =>
  ha M mo J0 H0 Pr s σ J H f _ e q he _ fun x a s1 J1 H1 f1 b1 va q1 => by
    refine ⟨by show 2 ≤ sizeLine; decide, fun p hp => ?_⟩
    have t := f1.wf.new (o := .tup [.ty n, .ty m]) hp
    have f2 := f1.step t
    obtain ⟨dx, q2, ax⟩ := rdq_use f2 (va.sub t.jj) q1
    exact ⟨x, p, [.ty n, .ty m], .type (tyOf dx), [.type n, .type m], _, rfl, upd_same, .cons (.ty _) (.cons (.ty _) .nil), ty_dq f2.wf.jh ax, kit_any hn hm, k _ (.d _) s1 _ _ f2 (b1.trans t.jj) (.bl _) q2⟩
end
end DW

/-! Statements, told in data. -/
namespace DW
open PySem PySem.Spec
open PyProof.Rows L2 DL
/-- what is wanted behind a statement -/
structure EW where
  nx : Sl → Prop
  rt : PyData → Sl → Prop
  bk : Sl → Prop
  ct : Sl → Prop
  er : EK
abbrev WS := Sl → EW → Prop
structure EndOk (K : PySem.W.Frag) (M : Md) (J0 H0 : Hp) (Pr : List (Addr × HO)) (Jb : Hp) (D : Ends) (E : EW) : Prop where
  nx : ∀ s σ J H, Fr K M J0 H0 Pr s σ J H → Sub Jb J → E.nx s → D.nx σ H
  rt : ∀ v d s σ J H, Fr K M J0 H0 Pr s σ J H → Sub Jb J → E.rt d s → Da K J v d → D.rt v H
  bk : ∀ s σ J H, Fr K M J0 H0 Pr s σ J H → Sub Jb J → E.bk s → D.bk σ H
  ct : ∀ s σ J H, Fr K M J0 H0 Pr s σ J H → Sub Jb J → E.ct s → D.ct σ H
theorem EndOk.sub {K : PySem.W.Frag} {M : Md} {J0 H0 Jb J : Hp} {Pr : List (Addr × HO)} {D : Ends} {E : EW} (h : EndOk K M J0 H0 Pr Jb D E) (s : Sub Jb J) : EndOk K M J0 H0 Pr J D E :=
  ⟨fun a b c d f z => h.nx a b c d f (s.trans z), fun u a b c d e f z => h.rt u a b c d e f (s.trans z), fun a b c d f z => h.bk a b c d f (s.trans z), fun a b c d f z => h.ct a b c d f (s.trans z)⟩
def SS (K : PySem.W.Frag) (er : Ers) (W : WX) (O : Md → Prop) (ts : TS) (ws : WS) : Prop := ∀ M, O M → ∀ J0 H0 Pr s σ J H, Fr K M J0 H0 Pr s σ J H → ∀ E D, ws s E → EndOk K M J0 H0 Pr J D E → ErO K er W M J0 H0 Pr E.er → ts D σ H
/-- a target -/
abbrev WG := PyData → Sl → (Sl → Prop) → Prop
abbrev WGs := List PyData → Sl → (Sl → Prop) → Prop
def SG (K : PySem.W.Frag) (tg : TG) (wg : WG) : Prop := ∀ M J0 H0 Pr s σ J H v x, Fr K M J0 H0 Pr s σ J H → Da K J v x → ∀ Q, wg x s Q → ∀ Qt : L2.St → Hp → Prop, (∀ s' σ', Fr K M J0 H0 Pr s' σ' J H → Q s' → Qt σ' H) → tg v σ H Qt
def SGs (K : PySem.W.Frag) (tg : TGs) (wg : WGs) : Prop := ∀ M J0 H0 Pr s σ J H vs xs, Fr K M J0 H0 Pr s σ J H → Das K J vs xs → ∀ Q, wg xs s Q → ∀ Qt : L2.St → Hp → Prop, (∀ s' σ', Fr K M J0 H0 Pr s' σ' J H → Q s' → Qt σ' H) → tg vs σ H Qt
def wgName (k : Nat) (x : PyData) (s : Sl) (Q : Sl → Prop) : Prop := Q (s.set k (some (.d x)))
def wgNil (xs : List PyData) (s : Sl) (Q : Sl → Prop) : Prop := xs = [] ∧ Q s
def wgCons (g : WG) (gs : WGs) (xs : List PyData) (s : Sl) (Q : Sl → Prop) : Prop := match xs with
  | x :: xs => g x s fun s1 => gs xs s1 Q
  | [] => False
def wgTup (n : Nat) (gs : WGs) (x : PyData) (s : Sl) (Q : Sl → Prop) : Prop := match x with
  | .tuple xs => xs.length = n ∧ gs xs s Q
  | _ => False
section
variable {K : PySem.W.Frag} {g : TG} {gs : TGs} {wg : WG} {wgs : WGs}
theorem sg_name {k : Nat} : SG K (gName k) (wgName k) := fun M J0 H0 Pr s σ J H v x f a Q q Qt k => k _ _ (f.set a) q
theorem sg_nil : SGs K gNil wgNil := fun M J0 H0 Pr s σ J H vs xs f a Q q Qt k => by
  obtain ⟨rfl, q⟩ := q
  cases a
  exact ⟨rfl, k s σ f q⟩
theorem sg_cons (h : SG K g wg) (h2 : SGs K gs wgs) : SGs K (gCons g gs) (wgCons wg wgs) := fun M J0 H0 Pr s σ J H vs xs f a Q q Qt k => by
  cases a with
  | nil => exact q.elim
  | cons a b => exact ⟨_, _, rfl, h M J0 H0 Pr s σ J H _ _ f a _ q _ fun s1 σ1 f1 q1 => h2 M J0 H0 Pr s1 σ1 J H _ _ f1 b Q q1 Qt k⟩
theorem sg_tup {n : Nat} (h : SGs K gs wgs) : SG K (gTup K n gs) (wgTup n wgs) := fun M J0 H0 Pr s σ J H v x f a Q q Qt k => by
  unfold wgTup at q; split at q
  · obtain ⟨p, vs, rfl, ht, hd⟩ := da_tup a
    exact ⟨p, vs, rfl, f.wf.jh.t ht, by rw [das_len hd]; exact q.1, h M J0 H0 Pr s σ J H vs _ f hd Q q.2 Qt k⟩
  · exact q.elim
end
/-! ### plain statements -/
def wNext (s : Sl) (E : EW) : Prop := E.nx s
/-- what follows, kept shut -/
def Kt (w : WS) (E : EW) (s : Sl) : Prop := w s E
def wSeq (wa wb : WS) (s : Sl) (E : EW) : Prop := wa s { E with nx := Kt wb E }
/-- a name is given what came -/
def asg (k : Nat) (r : EV) (s : Sl) (Q : Sl → Prop) : Prop := match r with
  | .d x => Q (s.set k (some (.d x)))
  | .raw u => Q (s.set k (some (.raw u)))
  | .at i => match s[i]? with
    | some (some (.own xs)) => Q ((s.set i (some (.d (.list xs)))).set k (some (.d (.list xs))))
    | some (some .drw) => Q (s.set k (some .drw))
    | _ => False
  | .pl _ _ _ => False
def wSet (k : Nat) (we : WE) (s : Sl) (E : EW) : Prop := we s (fun r s1 => asg k r s1 E.nx) E.er
def wAsg (we : WE) (g : WG) (s : Sl) (E : EW) : Prop := we s (fun r s1 => frz r s1 fun x s2 => g x s2 E.nx) E.er
def wNew (k : Nat) (s : Sl) (E : EW) : Prop := E.nx (s.set k (some (.own [])))
def wNewL (k : Nat) (wl : WA) (s : Sl) (E : EW) : Prop := wl s (fun xs s1 => xs.length ≤ sizeLine ∧ E.nx (s1.set k (some (.own xs)))) E.er
/-- x = list(e), a list of one's own -/
def wNewC (k : Nat) (we : WE) (s : Sl) (E : EW) : Prop := we s (fun r s1 => rdq r s1 fun x => match x with
  | .list xs => E.nx (s1.set k (some (.own xs)))
  | .tuple xs => E.nx (s1.set k (some (.own xs)))
  | _ => False) E.er
def wPar (k l : Nat) (wl : WA) (s : Sl) (E : EW) : Prop := wl s (fun xs s1 => match xs with
  | [x, y] => E.nx ((s1.set k (some (.d x))).set l (some (.d y)))
  | _ => False) E.er
def wPar3 (k l m : Nat) (wl : WA) (s : Sl) (E : EW) : Prop := wl s (fun xs s1 => match xs with
  | [x, y, z] => E.nx (((s1.set k (some (.d x))).set l (some (.d y))).set m (some (.d z)))
  | _ => False) E.er
def wExpr (we : WE) (s : Sl) (E : EW) : Prop := we s (fun _ s1 => E.nx s1) E.er
def wApp (k : Nat) (we : WE) (s : Sl) (E : EW) : Prop := (∃ xs, s[k]? = some (some (.own xs))) ∧ we s (fun r s1 => frz r s1 fun x s2 => match s2[k]? with
  | some (some (.own xs)) => xs.length < sizeLine ∧ E.nx (s2.set k (some (.own (xs ++ [x]))))
  | _ => False) E.er
def wPop (k : Nat) (s : Sl) (Q : EV → Sl → Prop) (_ : EK) : Prop := match s[k]? with
  | some (some (.own xs)) => ∃ ys y, xs = ys ++ [y] ∧ Q (.d y) (s.set k (some (.own ys)))
  | _ => False
def wExt (k : Nat) (we : WE) (s : Sl) (E : EW) : Prop := (∃ xs, s[k]? = some (some (.own xs))) ∧ we s (fun r s1 => rdq r s1 fun x => match s1[k]? with
  | some (some (.own xs)) => (match x with
    | .list ys => xs.length + ys.length ≤ sizeLine ∧ E.nx (s1.set k (some (.own (xs ++ ys))))
    | _ => False)
  | _ => False) E.er
def wIfS (wt : WT) (wa wb : WS) (s : Sl) (E : EW) : Prop := wt s (fun b s1 => if b = true then wa s1 E else wb s1 E) E.er
def wRet (we : WE) (s : Sl) (E : EW) : Prop := we s (fun r s1 => frz r s1 fun x s2 => E.rt x s2) E.er
def wRetN (s : Sl) (E : EW) : Prop := E.rt .none s
def wBreak (s : Sl) (E : EW) : Prop := E.bk s
def wCont (s : Sl) (E : EW) : Prop := E.ct s
def wAug (k : Nat) (g : G2) (we : WE) (s : Sl) (E : EW) : Prop := match s[k]? with
  | some (some (.d x)) => we s (fun r s1 => rdq r s1 fun y => g x y fun z => E.nx (s1.set k (some (.d z)))) E.er
  | _ => False
def wWhile (wt : WT) (wb : WS) (s : Sl) (E : EW) : Prop := ∃ I : Nat → Sl → Prop, (∃ m, I m s) ∧ ∀ m s1, I m s1 → wt s1 (fun b s2 => if b = true then wb s2 { E with nx := fun s3 => ∃ m', m' < m ∧ I m' s3, ct := fun s3 => ∃ m', m' < m ∧ I m' s3, bk := E.nx } else E.nx s2) E.er
def wRaise (c : Str) (we : WE) (s : Sl) (E : EW) : Prop := we s (fun r s1 => frz r s1 fun x s2 => E.er c x s2) E.er
section
variable {K : PySem.W.Frag} {er : Ers} {W : WX} {O : Md → Prop} {ta tb tc te : TE} {tt tu : TT} {t : TA} {wa wb wc we : WE} {wt wu : WT} {wl : WA} {ts us : TS} {ws vs : WS} {M : Md} {J0 H0 J H : Hp} {Pr : List (Addr × HO)} {s : Sl} {σ : L2.St} {v : V} {r : EV}
theorem ss_nil : SS K er W O tNext wNext := fun M mo J0 H0 Pr s σ J H f E D q k he => k.nx s σ J H f (.refl _) q
theorem ss_seq (h : SS K er W O ts ws) (h2 : SS K er W O us vs) : SS K er W O (tSeq ts us) (wSeq ws vs) := fun M mo J0 H0 Pr s σ J H f E D q k he =>
  h M mo J0 H0 Pr s σ J H f { E with nx := Kt vs E } _ q ⟨fun s1 σ1 J1 H1 f1 b1 q1 => h2 M mo J0 H0 Pr s1 σ1 J1 H1 f1 E D q1 (k.sub b1) he, k.rt, k.bk, k.ct⟩ he
theorem asg_use {k : Nat} {Q : Sl → Prop} (f : Fr K M J0 H0 Pr s σ J H) (h : Ve K J σ v r) (q : asg k r s Q) : ∃ s' J', Q s' ∧ Sub J J' ∧ Fr K M J0 H0 Pr s' (σ.set k (some v)) J' H := by
  cases r with
  | d x => exact ⟨_, J, q, .refl _, f.set h⟩
  | raw u => exact ⟨_, J, q, .refl _, f.put0 (y := .raw u) (show v = u from h) (by cases v <;> rfl)⟩
  | pl i π p => exact q.elim
  | «at» i =>
    unfold asg at q
    dsimp only at q
    split at q
    · rename_i xs e
      obtain ⟨J', u, hu, sb, a, f'⟩ := f.ice e
      rw [show σ[i]? = some (some v) from h] at hu
      cases hu
      exact ⟨_, J', q, sb, f'.set a⟩
    · rename_i e
      obtain ⟨u, hu, a⟩ := f.at_ i _ e
      rw [show σ[i]? = some (some v) from h] at hu
      cases hu
      exact ⟨_, J, q, .refl _, f.put0 (y := .drw) a (by cases v <;> rfl)⟩
    · exact q.elim
theorem ss_set {k : Nat} (h : SE K er W O te we) : SS K er W O (tAsg te (gName k)) (wSet k we) := fun M mo J0 H0 Pr s σ J H f E D q kk he =>
  h M mo J0 H0 Pr s σ J H f _ _ q he _ fun v r s1 J1 H1 f1 b1 va q1 => by
    obtain ⟨s2, J2, q2, b2, f2⟩ := asg_use f1 va q1
    exact kk.nx _ _ _ _ f2 (b1.trans b2) q2
theorem ss_asg {g : TG} {wg : WG} (h : SE K er W O te we) (hg : SG K g wg) : SS K er W O (tAsg te g) (wAsg we wg) := fun M mo J0 H0 Pr s σ J H f E D q kk he =>
  h M mo J0 H0 Pr s σ J H f _ _ q he _ fun v r s1 J1 H1 f1 b1 va q1 => by
    obtain ⟨x, s2, J2, q2, b2, a2, f2⟩ := frz_use f1 va q1
    exact hg M J0 H0 Pr s2 σ J2 H1 v x f2 a2 _ q2 _ fun s3 σ3 f3 q3 => kk.nx _ _ _ _ f3 (b1.trans b2) q3
theorem ss_new {k : Nat} : SS K er W O (tAsg (tLst tNil) (gName k)) (wNew k) := fun M mo J0 H0 Pr s σ J H f E D q kk he =>
  ⟨Nat.zero_le _, fun p hp => kk.nx _ _ _ _ (f.new hp .nil) (.refl _) q⟩
theorem ss_newL {k : Nat} (h : SA K er W O t wl) : SS K er W O (tAsg (tLst t) (gName k)) (wNewL k wl) := fun M mo J0 H0 Pr s σ J H f E D q kk he =>
  h M mo J0 H0 Pr s σ J H f _ _ q he _ fun vs ds s1 J1 H1 f1 b1 a1 ⟨hl, q1⟩ => ⟨by rw [das_len a1]; exact hl, fun p hp => kk.nx _ _ _ _ (f1.new hp a1) b1 q1⟩
theorem ss_newC {k : Nat} (h : SE K er W O te we) : SS K er W O (tAsg (tCB (rLstOf K) (tCons te tNil)) (gName k)) (wNewC k we) := fun M mo J0 H0 Pr s σ J H f E D q kk he =>
  h M mo J0 H0 Pr s σ J H f _ _ q he _ fun v r s1 J1 H1 f1 b1 va q1 => by
    obtain ⟨x, q2, ax⟩ := rdq_use f1 va q1
    split at q2
    · obtain ⟨a, vs, rfl, hl, hd⟩ := dq_lst f1.wf.jh ax
      exact ⟨a, vs, rfl, .inl (.of hl), fun l hn => kk.nx _ _ _ _ (f1.new hn hd) b1 q2⟩
    · obtain ⟨a, vs, rfl, hl, hd, _⟩ := dq_tup f1.wf.jh ax
      exact ⟨a, vs, rfl, .inr hl, fun l hn => kk.nx _ _ _ _ (f1.new hn hd) b1 q2⟩
    · exact q2.elim
theorem ss_par {k l : Nat} (h : SA K er W O t wl) : SS K er W O (tPar k l t) (wPar k l wl) := fun M mo J0 H0 Pr s σ J H f E D q kk he =>
  h M mo J0 H0 Pr s σ J H f _ _ q he _ fun vs ds s1 J1 H1 f1 b1 a1 q1 => by
    split at q1
    · cases a1 with
      | cons a b =>
        obtain ⟨u, rfl, b2⟩ := das_one b
        exact ⟨_, _, rfl, kk.nx _ _ _ _ ((f1.set a).set b2) b1 q1⟩
    · exact q1.elim
theorem ss_par3 {k l m : Nat} (h : SA K er W O t wl) : SS K er W O (tPar3 k l m t) (wPar3 k l m wl) := fun M mo J0 H0 Pr s σ J H f E D q kk he =>
  h M mo J0 H0 Pr s σ J H f _ _ q he _ fun vs ds s1 J1 H1 f1 b1 a1 q1 => by
    split at q1
    · cases a1 with
      | cons a b =>
        cases b with
        | cons b c =>
          obtain ⟨u, rfl, c2⟩ := das_one c
          exact ⟨_, _, _, rfl, kk.nx _ _ _ _ (((f1.set a).set b).set c2) b1 q1⟩
    · exact q1.elim
theorem ss_expr (h : SE K er W O te we) : SS K er W O (tDrop te) (wExpr we) := fun M mo J0 H0 Pr s σ J H f E D q kk he =>
  h M mo J0 H0 Pr s σ J H f _ _ q he _ fun v r s1 J1 H1 f1 b1 va q1 => kk.nx _ _ _ _ f1 b1 q1
theorem ss_app {k : Nat} (h : SE K er W O te we) : SS K er W O (tDrop (tBM K "list" rAppend (tVar k) (tCons te tNil))) (wApp k we) := fun M mo J0 H0 Pr s σ J H f E D ⟨⟨xs, hk⟩, q⟩ kk he => by
  obtain ⟨p, vs, hp, hH, _⟩ := f.own hk
  refine ⟨.ref p, hp, .inl ⟨rfl, vs, .of hH⟩, h M mo J0 H0 Pr s σ J H f _ _ q he _ fun v r s1 J1 H1 f1 b1 va q1 => ?_⟩
  obtain ⟨x, s2, J2, q2, b2, a2, f2⟩ := frz_use f1 va q1
  split at q2
  · rename_i ys e
    obtain ⟨p', us, hp', hH', a', _⟩ := f2.own e
    rw [hp] at hp'
    cases hp'
    exact ⟨p, us, v, rfl, rfl, hH', by rw [das_len a']; exact q2.1, kk.nx _ _ _ _ (f2.write e hp (das_app a' (.cons a2 .nil))) (b1.trans b2) q2.2⟩
  · exact q2.elim
theorem se_pop {k : Nat} : SE K er W O (tBM0 K "list" rPop (tVar k)) (wPop k) := fun M mo J0 H0 Pr s σ J H f Q e q he Qv kk => by
  unfold wPop at q
  split at q
  · rename_i xs hk
    obtain ⟨ys, y, rfl, q⟩ := q
    obtain ⟨p, vs, hp, hH, a, _⟩ := f.own hk
    obtain ⟨u, hu, au⟩ := das_get (i := ys.length) (d := y) a (by simp)
    have hl : vs.length = ys.length + 1 := by rw [das_len a]; simp
    have ad : Das K J vs.dropLast ys := by
      have e : vs.dropLast = vs.take ys.length := by rw [List.dropLast_eq_take, hl]; rfl
      have e2 : ys = (ys ++ [y]).take ys.length := by simp
      rw [e, e2]
      have := das_take ys.length a
      simpa using this
    refine ⟨.ref p, hp, .inl ⟨rfl, vs, .of hH⟩, p, vs, u, rfl, rfl, hH, by rw [hl]; exact hu, kk u (.d y) _ J _ (f.write hk hp ad) (.refl _) au q⟩
  · exact q.elim
theorem ss_ext {k : Nat} (h : SE K er W O te we) : SS K er W O (tDrop (tBM K "list" rExtend (tVar k) (tCons te tNil))) (wExt k we) := fun M mo J0 H0 Pr s σ J H f E D ⟨⟨xs, hk⟩, q⟩ kk he => by
  obtain ⟨p, vs, hp, hH, _⟩ := f.own hk
  refine ⟨.ref p, hp, .inl ⟨rfl, vs, .of hH⟩, h M mo J0 H0 Pr s σ J H f _ _ q he _ fun v r s1 J1 H1 f1 b1 va q1 => ?_⟩
  obtain ⟨x, q2, ax⟩ := rdq_use f1 va q1
  split at q2
  · rename_i xs e
    obtain ⟨p', us, hp', hH', a', _⟩ := f1.own e
    rw [hp] at hp'
    cases hp'
    split at q2
    · obtain ⟨b, ws, rfl, hl, hd⟩ := dq_lst f1.wf.jh ax
      exact ⟨p, b, us, ws, rfl, rfl, hH', hl, by rw [das_len a', das_len hd]; exact q2.1, kk.nx _ _ _ _ (f1.write e hp (das_app a' hd)) b1 q2.2⟩
    · exact q2.elim
  · exact q2.elim
theorem ss_if (hc : ST K er W O tt wt) (h : SS K er W O ts ws) (h2 : SS K er W O us vs) : SS K er W O (tIfS tt ts us) (wIfS wt ws vs) := fun M mo J0 H0 Pr s σ J H f E D q kk he =>
  hc M mo J0 H0 Pr s σ J H f _ _ q he _ fun b s1 J1 H1 f1 b1 q1 => by
    cases b with
    | true => exact h M mo J0 H0 Pr s1 σ J1 H1 f1 E D q1 (kk.sub b1) he
    | false => exact h2 M mo J0 H0 Pr s1 σ J1 H1 f1 E D q1 (kk.sub b1) he
theorem ss_ret (h : SE K er W O te we) : SS K er W O (tRet te) (wRet we) := fun M mo J0 H0 Pr s σ J H f E D q kk he =>
  h M mo J0 H0 Pr s σ J H f _ _ q he _ fun v r s1 J1 H1 f1 b1 va q1 => by
    obtain ⟨x, s2, J2, q2, b2, a2, f2⟩ := frz_use f1 va q1
    exact kk.rt _ _ _ _ _ _ f2 (b1.trans b2) q2 a2
theorem ss_retN : SS K er W O tRetN wRetN := fun M mo J0 H0 Pr s σ J H f E D q kk he => kk.rt _ _ _ _ _ _ f (.refl _) q .non
theorem ss_brk : SS K er W O tBreak wBreak := fun M mo J0 H0 Pr s σ J H f E D q kk he => kk.bk _ _ _ _ f (.refl _) q
theorem ss_cont : SS K er W O tCont wCont := fun M mo J0 H0 Pr s σ J H f E D q kk he => kk.ct _ _ _ _ f (.refl _) q
theorem ss_aug {k : Nat} {ti : TIp} {g : G2} (o : OpS K ti g) (h : SE K er W O te we) : SS K er W O (tAug k te ti) (wAug k g we) := fun M mo J0 H0 Pr s σ J H f E D q kk he => by
  unfold wAug at q
  split at q
  · rename_i x hk
    obtain ⟨u, hu, a⟩ := f.at_ k _ hk
    refine ⟨u, hu, h M mo J0 H0 Pr s σ J H f _ _ q he _ fun v r s1 J1 H1 f1 b1 va q1 => ?_⟩
    obtain ⟨y, q2, ay⟩ := rdq_use f1 va q1
    exact o M J1 H1 u v x y f1.wf (.inl (b1.da a)) ay _ q2 _ fun z d J2 H2 t2 p2 a2 => kk.nx _ _ _ _ ((f1.step t2).set a2) (b1.trans t2.jj) p2
  · exact q.elim
theorem ss_while (hc : ST K er W O tt wt) (h : SS K er W O ts ws) : SS K er W O (tWhile tt ts) (wWhile wt ws) := fun M mo J0 H0 Pr s σ J H f E D ⟨I, ⟨m0, i0⟩, q⟩ kk he => by
  refine ⟨fun m σ' G => ∃ s' J', Fr K M J0 H0 Pr s' σ' J' G ∧ Sub J J' ∧ I m s', ⟨m0, s, J, f, .refl _, i0⟩, ?_⟩
  rintro m σ' G ⟨s', J', f', b', hI⟩
  refine hc M mo J0 H0 Pr s' σ' J' G f' _ _ (q m s' hI) he _ fun b s1 J1 H1 f1 b1 q1 => ?_
  cases b with
  | true =>
    refine ⟨fun σ2 G2 => ∃ m', m' < m ∧ ∃ s' J', Fr K M J0 H0 Pr s' σ2 J' G2 ∧ Sub J J' ∧ I m' s', fun σ2 G2 ⟨m', lt, r⟩ => ⟨m', lt, r⟩, ?_⟩
    exact h M mo J0 H0 Pr s1 σ' J1 H1 f1 _ _ q1 ⟨fun s2 σ2 J2 H2 f2 b2 ⟨m', lt, i2⟩ => ⟨m', lt, s2, J2, f2, (b'.trans b1).trans b2, i2⟩, fun v d s2 σ2 J2 H2 f2 b2 => kk.rt v d s2 σ2 J2 H2 f2 ((b'.trans b1).trans b2),
      fun s2 σ2 J2 H2 f2 b2 => kk.nx s2 σ2 J2 H2 f2 ((b'.trans b1).trans b2), fun s2 σ2 J2 H2 f2 b2 ⟨m', lt, i2⟩ => ⟨m', lt, s2, J2, f2, (b'.trans b1).trans b2, i2⟩⟩ he
  | false => exact kk.nx _ _ _ _ f1 (b'.trans b1) q1
end
/-! ### what is walked -/
abbrev WI := Sl → (List PyData → Sl → Prop) → EK → Prop
def SI (K : PySem.W.Frag) (er : Ers) (W : WX) (O : Md → Prop) (wi : TI) (ww : WI) : Prop := ∀ M, O M → ∀ J0 H0 Pr s σ J H, Fr K M J0 H0 Pr s σ J H → ∀ Q e, ww s Q e → ErO K er W M J0 H0 Pr e →
  ∀ R : L2.It → Hp → Prop, (∀ A ds s' J' H', Fr K M J0 H0 Pr s' σ J' H' → Sub J J' → WalkD K A J' ds → Q ds s' → R A H') → wi σ H R
theorem walk_lst {K : PySem.W.Frag} {J : Hp} {p : Addr} {xs : List V} {ds : List PyData} (hl : J p = some (.lst xs)) (hd : Das K J xs ds) : WalkD K (Itl K p) J ds := by
  refine ⟨fun i G hi s => ?_, fun G s => ⟨xs, .of (s _ _ hl), by rw [das_len hd]; exact Nat.le_refl _⟩, fun i G x G' d hd' s y => ?_⟩
  · have hi2 : i < xs.length := by rw [das_len hd]; exact hi
    exact ⟨xs, xs[i], .of (s _ _ hl), List.getElem?_eq_getElem hi2⟩
  · obtain ⟨e, y⟩ := y
    obtain ⟨d2, e2, a2⟩ := das_at hd (y xs (.of (s _ _ hl)))
    rw [hd'] at e2
    cases e2
    exact .inl ⟨e, a2⟩
theorem walk_tup {K : PySem.W.Frag} {J : Hp} {p : Addr} {xs : List V} {ds : List PyData} (hl : SqT K J p xs) (hd : Das K J xs ds) : WalkD K (Itt K p) J ds := by
  refine ⟨fun i G hi s => ?_, fun G s => ⟨xs, s.t hl, by rw [das_len hd]; exact Nat.le_refl _⟩, fun i G x G' d hd' s y => ?_⟩
  · have hi2 : i < xs.length := by rw [das_len hd]; exact hi
    exact ⟨xs, xs[i], s.t hl, List.getElem?_eq_getElem hi2⟩
  · obtain ⟨e, y⟩ := y
    obtain ⟨d2, e2, a2⟩ := das_at hd (y xs (s.t hl))
    rw [hd'] at e2
    cases e2
    exact .inl ⟨e, a2⟩
/-- the things of a list or a tuple, the signs of a text -/
def signsD (z : Str) : List PyData := z.cps.toList.map fun c => .str ⟨#[c]⟩
def iSeqS (K : PySem.W.Frag) (te : TE) : TI := fun σ H R => te σ H fun x G => (∃ a xs, x = .ref a ∧ ((SqL K G a xs ∧ R (Itl K a) G) ∨ (SqT K G a xs ∧ R (Itt K a) G))) ∨ ∃ z, x = .str z ∧ R (Its z) G
def wiSeq (we : WE) (s : Sl) (Q : List PyData → Sl → Prop) (e : EK) : Prop := we s (fun r s1 => frz r s1 fun x s2 => match x with
  | .list xs => Q xs s2
  | .tuple xs => Q xs s2
  | .str z => Q (signsD z) s2
  | _ => False) e
/-- i, i + 1, .. below j -/
def rngD (i j : Int) : List PyData := (List.range (j - i).toNat).map fun k => .int (i + (k : Nat))
def wiRng1 (wl : WA) (s : Sl) (Q : List PyData → Sl → Prop) (e : EK) : Prop := wl s (fun xs s1 => match xs with
  | [.int j] => (-(2 ^ 62) ≤ j ∧ j < 2 ^ 62) ∧ Q (rngD 0 j) s1
  | _ => False) e
def wiRng2 (wl : WA) (s : Sl) (Q : List PyData → Sl → Prop) (e : EK) : Prop := wl s (fun xs s1 => match xs with
  | [.int i, .int j] => (-(2 ^ 62) ≤ i ∧ i < 2 ^ 62 ∧ -(2 ^ 62) ≤ j ∧ j < 2 ^ 62) ∧ Q (rngD i j) s1
  | _ => False) e
def wiEnum (wl : WA) (s : Sl) (Q : List PyData → Sl → Prop) (e : EK) : Prop := wl s (fun xs s1 => match xs with
  | [.list ds] => Q (enumD ds) s1
  | _ => False) e
theorem rngD_len (i j : Int) : (rngD i j).length = (j - i).toNat := by unfold rngD; simp
theorem rngD_at {i j : Int} {k : Nat} {d : PyData} (h : (rngD i j)[k]? = some d) : d = .int (i + k) ∧ (k : Int) < j - i := by
  unfold rngD at h
  rw [List.getElem?_map] at h
  by_cases hk : k < (j - i).toNat
  · rw [List.getElem?_range hk] at h
    exact ⟨(Option.some.inj h).symm, by omega⟩
  · rw [List.getElem?_eq_none (by simp; omega)] at h
    cases h
theorem signsD_len (z : Str) : (signsD z).length = z.cps.size := by unfold signsD; simp
theorem signsD_at {z : Str} {k : Nat} {d : PyData} (h : (signsD z)[k]? = some d) : ∃ c, z.cps.toList[k]? = some c ∧ d = .str ⟨#[c]⟩ := by
  unfold signsD at h
  rw [List.getElem?_map] at h
  cases q : z.cps.toList[k]? with
  | none => rw [q] at h; cases h
  | some c => rw [q] at h; exact ⟨c, rfl, (Option.some.inj h).symm⟩
section
variable {K : PySem.W.Frag} {er : Ers} {W : WX} {O : Md → Prop} {te : TE} {t : TA} {we : WE} {wl : WA}
theorem si_seq (h : SE K er W O te we) : SI K er W O (iSeqS K te) (wiSeq we) := fun M mo J0 H0 Pr s σ J H f Q e q he R k =>
  h M mo J0 H0 Pr s σ J H f _ e q he _ fun v r s1 J1 H1 f1 b1 va q1 => by
    obtain ⟨x, s2, J2, q2, b2, a2, f2⟩ := frz_use f1 va q1
    have bb := b1.trans b2
    split at q2
    · obtain ⟨p, xs, rfl, hl, hd⟩ := da_lst a2
      exact .inl ⟨p, xs, rfl, .inl ⟨.of (f2.wf.jh _ _ hl), k _ _ s2 J2 H1 f2 bb (walk_lst hl hd) q2⟩⟩
    · obtain ⟨p, xs, rfl, hl, hd⟩ := da_tup a2
      exact .inl ⟨p, xs, rfl, .inr ⟨f2.wf.jh.t hl, k _ _ s2 J2 H1 f2 bb (walk_tup hl hd) q2⟩⟩
    · rename_i z
      refine .inr ⟨z, da_str a2, k _ _ s2 J2 H1 f2 bb ⟨fun i G hi _ => ?_, fun G _ => ?_, fun i G x G' d hd' _ y => ?_⟩ q2⟩
      · rw [signsD_len] at hi; exact hi
      · rw [signsD_len]; exact Nat.le_refl _
      · obtain ⟨e1, c, ec, rfl⟩ := y
        obtain ⟨c', ec', rfl⟩ := signsD_at hd'
        rw [Array.getElem?_toList, ec] at ec'
        cases ec'
        exact .inl ⟨e1, .str _⟩
    · exact q2.elim
theorem si_rng1 (h : SA K er W O t wl) : SI K er W O (iRng1 t) (wiRng1 wl) := fun M mo J0 H0 Pr s σ J H f Q e q he R k =>
  h M mo J0 H0 Pr s σ J H f _ e q he _ fun vs ds s1 J1 H1 f1 b1 a1 q1 => by
    split at q1
    · rename_i j
      obtain ⟨u, rfl, a⟩ := das_one a1
      refine ⟨j, by rw [da_int a], q1.1.1, q1.1.2, k _ _ s1 J1 H1 f1 b1 ⟨fun i G hi _ => ?_, fun G _ => ?_, fun i G x G' d hd' _ y => ?_⟩ q1.2⟩
      · rw [rngD_len] at hi
        show i < j.toNat
        omega
      · show j.toNat ≤ _
        rw [rngD_len]; omega
      · obtain ⟨e1, e2⟩ := y
        obtain ⟨e3, _⟩ := rngD_at hd'
        rw [e3, e2]
        exact .inl ⟨e1, .int _⟩
    · exact q1.elim
theorem si_rng2 (h : SA K er W O t wl) : SI K er W O (iRng2 t) (wiRng2 wl) := fun M mo J0 H0 Pr s σ J H f Q e q he R k =>
  h M mo J0 H0 Pr s σ J H f _ e q he _ fun vs ds s1 J1 H1 f1 b1 a1 q1 => by
    split at q1
    · rename_i i0 j
      cases a1 with
      | cons a b =>
      obtain ⟨u, rfl, b2⟩ := das_one b
      refine ⟨i0, j, by rw [da_int a, da_int b2], q1.1, k _ _ s1 J1 H1 f1 b1 ⟨fun i G hi _ => ?_, fun G _ => ?_, fun i G x G' d hd' _ y => ?_⟩ q1.2⟩
      · rw [rngD_len] at hi
        exact hi
      · show (j - i0).toNat ≤ _
        rw [rngD_len]; omega
      · obtain ⟨e1, e2⟩ := y
        obtain ⟨e3, _⟩ := rngD_at hd'
        rw [e3, e2]
        exact .inl ⟨e1, .int _⟩
    · exact q1.elim
theorem si_enum (h : SA K er W O t wl) : SI K er W O (iEnum K t) (wiEnum wl) := fun M mo J0 H0 Pr s σ J H f Q e q he R k =>
  h M mo J0 H0 Pr s σ J H f _ e q he _ fun vs ds s1 J1 H1 f1 b1 a1 q1 => by
    split at q1
    · rename_i ds
      obtain ⟨u, rfl, a⟩ := das_one a1
      obtain ⟨p, xs, rfl, hl, hd⟩ := da_lst a
      refine ⟨p, xs, rfl, .of (f1.wf.jh _ _ hl), k _ _ s1 J1 H1 f1 b1 ⟨fun i G hi s => ?_, fun G s => ⟨xs, .of (s _ _ hl), by rw [das_len hd, enumD_len]; exact Nat.le_refl _⟩, fun i G x G' d hd' s y => ?_⟩ q1⟩
      · rw [enumD_len] at hi
        have hi2 : i < xs.length := by rw [das_len hd]; exact hi
        exact ⟨xs, xs[i], .of (s _ _ hl), List.getElem?_eq_getElem hi2⟩
      · obtain ⟨T, z, ev, hT, eG, y⟩ := y
        obtain ⟨d2, e2, a2⟩ := das_at hd (y xs (.of (s _ _ hl)))
        obtain ⟨d3, e3, rfl⟩ := enumD_at hd'
        rw [e2] at e3
        cases e3
        exact .inr ⟨T, _, _, ev, hT, eG, rfl, .cons (.int _) (.cons a2 .nil)⟩
    · exact q1.elim
end
/-! ### for, comprehensions -/
def wFor (ww : WI) (wg : WG) (wb : WS) (s : Sl) (E : EW) : Prop := ww s (fun ds s1 => ∃ I : Nat → Sl → Prop, I 0 s1 ∧ (∀ i d s2, ds[i]? = some d → I i s2 → wg d s2 fun s3 => wb s3 { E with nx := I (i + 1), ct := I (i + 1), bk := E.nx }) ∧ ∀ s2, I ds.length s2 → E.nx s2) E.er
/-- the slots vs are emptied -/
def wipeS (s : Sl) : List Nat → Sl
  | [] => s
  | i :: r => (wipeS s r).set i none
/-- within a comprehension nothing is raised -/
def W0 : WX := fun _ _ _ _ => False
def nE : EK := fun _ _ _ => False
def wLc (ww : WI) (wg : WG) (wt : WT) (we : WE) (vs : List Nat) (s : Sl) (Q : EV → Sl → Prop) (e : EK) : Prop := ww s (fun ds s1 => ds.length < sizeLine ∧ ∃ I : Nat → List PyData → Sl → Prop, I 0 [] (wipeS s1 vs) ∧
  (∀ i d acc s2, ds[i]? = some d → I i acc s2 → wg d (wipeS s2 vs) fun s3 => wt s3 (fun b s4 => if b = true then we s4 (fun r s5 => frz r s5 fun x s6 => I (i + 1) (acc ++ [x]) (wipeS s6 vs)) nE else I (i + 1) acc (wipeS s4 vs)) nE) ∧
  ∀ acc s2, I ds.length acc s2 → Q (.d (.list acc)) (wipeS s2 vs)) e
section
variable {K : PySem.W.Frag} {er : Ers} {W : WX} {O : Md → Prop} {te : TE} {t : TA} {we : WE} {wl : WA} {wi : TI} {ww : WI} {g : TG} {wg : WG} {ts : TS} {ws : WS} {M : Md} {J0 H0 J H : Hp} {Pr : List (Addr × HO)} {s : Sl} {σ : L2.St} {v : V} {tt : TT} {wt : WT} {vs : List Nat}
theorem ss_for (hi : SI K er W O wi ww) (hg : SG K g wg) (h : SS K er W O ts ws) : SS K er W O (tFor wi g ts) (wFor ww wg ws) := fun M mo J0 H0 Pr s σ J H f E D q kk he =>
  hi M mo J0 H0 Pr s σ J H f _ _ q he _ fun A ds s1 J1 H1 f1 b1 wd ⟨I, i0, hs, hd⟩ => by
    refine ⟨fun i m σ' G => m = ds.length - i ∧ i ≤ ds.length ∧ ∃ s' J', Fr K M J0 H0 Pr s' σ' J' G ∧ Sub J1 J' ∧ I i s', ⟨_, rfl, Nat.zero_le _, s1, J1, f1, .refl _, i0⟩, ?_⟩
    rintro i m σ' G ⟨rfl, hi, s', J', f', b', hI⟩
    by_cases hlt : i < ds.length
    · refine .inr ⟨wd.go i G hlt (b'.trans f'.wf.jh), fun σ2 G2 => ∃ s' J', Fr K M J0 H0 Pr s' σ2 J' G2 ∧ Sub J1 J' ∧ I (i + 1) s', fun σ2 G' h' => ⟨_, by omega, rfl, hlt, h'⟩, fun x G' y => ?_⟩
      have hdi : ds[i]? = some ds[i] := List.getElem?_eq_getElem hlt
      have key : ∀ J2 G2, Fr K M J0 H0 Pr s' σ' J2 G2 → Sub J1 J2 → Da K J2 x ds[i] → g x σ' G2 fun σ2 H2 => ts { D with nx := fun σ2 G2 => ∃ s' J', Fr K M J0 H0 Pr s' σ2 J' G2 ∧ Sub J1 J' ∧ I (i + 1) s', ct := fun σ2 G2 => ∃ s' J', Fr K M J0 H0 Pr s' σ2 J' G2 ∧ Sub J1 J' ∧ I (i + 1) s', bk := D.nx } σ2 H2 := by
        intro J2 G2 f2 b2 ax
        exact hg M J0 H0 Pr s' σ' J2 G2 x _ f2 ax _ (hs i _ s' hdi hI) _ fun s3 σ3 f3 q3 => h M mo J0 H0 Pr s3 σ3 J2 G2 f3 _ _ q3
          ⟨fun s4 σ4 J4 H4 f4 b4 i4 => ⟨s4, J4, f4, b2.trans b4, i4⟩, fun v d s4 σ4 J4 H4 f4 b4 => kk.rt v d s4 σ4 J4 H4 f4 ((b1.trans b2).trans b4), fun s4 σ4 J4 H4 f4 b4 => kk.nx s4 σ4 J4 H4 f4 ((b1.trans b2).trans b4), fun s4 σ4 J4 H4 f4 b4 i4 => ⟨s4, J4, f4, b2.trans b4, i4⟩⟩ he
      rcases wd.yld i G x G' _ hdi (b'.trans f'.wf.jh) y with ⟨rfl, ax⟩ | ⟨T, xs, es, rfl, hT, rfl, ed, hes⟩
      · exact key J' G' f' b' (b'.da ax)
      · have tn := f'.wf.new (o := .tup xs) hT
        refine key _ _ (f'.step tn) (b'.trans tn.jj) ?_
        rw [ed]
        exact .tup (.of upd_same) (tn.jj.das (b'.das hes))
    · have e : i = ds.length := by omega
      subst e
      exact .inl ⟨wd.stop G (b'.trans f'.wf.jh), kk.nx _ _ _ _ f' (b1.trans b') (hd s' hI)⟩
theorem Fr.forget (f : Fr K M J0 H0 Pr s σ J H) {i : Nat} : Fr K M J0 H0 Pr (s.set i none) σ J H := by
  have := f.drop (k := i) (σ[i]?.getD none)
  have e : σ.set i (σ[i]?.getD none) = σ := by
    cases q : σ[i]? with
    | none => exact List.set_eq_of_length_le (List.getElem?_eq_none_iff.mp q)
    | some o =>
      obtain ⟨h1, h2⟩ := List.getElem?_eq_some_iff.mp q
      show σ.set i o = σ
      rw [← h2]
      exact List.set_getElem_self h1
  rwa [e] at this
theorem Fr.wiped (f : Fr K M J0 H0 Pr s σ J H) (vs : List Nat) : Fr K M J0 H0 Pr (wipeS s vs) (wipe σ vs) J H := by
  induction vs with
  | nil => exact f
  | cons i r ih => exact ih.drop none
theorem Fr.wipedS (f : Fr K M J0 H0 Pr s σ J H) (vs : List Nat) : Fr K M J0 H0 Pr (wipeS s vs) σ J H := by
  induction vs with
  | nil => exact f
  | cons i r ih => exact ih.forget
/-- a target whose slots are among vs -/
def Tin (vs : List Nat) (g : TG) : Prop := ∀ v σ H Q Q', (∀ σ' H', wipe σ' vs = wipe σ vs → Q σ' H' → Q' σ' H') → g v σ H Q → g v σ H Q'
def Tins (vs : List Nat) (g : TGs) : Prop := ∀ v σ H Q Q', (∀ σ' H', wipe σ' vs = wipe σ vs → Q σ' H' → Q' σ' H') → g v σ H Q → g v σ H Q'
theorem wipe_get (vs : List Nat) (σ : L2.St) (i : Nat) : (wipe σ vs)[i]? = if i ∈ vs then σ[i]?.map fun _ => none else σ[i]? := by
  induction vs with
  | nil => simp [wipe]
  | cons v r ih =>
    unfold wipe
    by_cases h : i = v
    · subst h
      rw [List.getElem?_set_self', ih, if_pos (List.mem_cons_self ..)]
      by_cases h2 : i ∈ r
      · rw [if_pos h2]; cases σ[i]? <;> rfl
      · rw [if_neg h2]; cases σ[i]? <;> rfl
    · rw [List.getElem?_set_ne (Ne.symm h), ih]
      by_cases h2 : i ∈ r
      · rw [if_pos h2, if_pos (List.mem_cons_of_mem _ h2)]
      · rw [if_neg h2, if_neg (by intro z; rcases List.mem_cons.mp z with z | z; exact h z; exact h2 z)]
theorem wipe_set {vs : List Nat} {k : Nat} (hk : k ∈ vs) (σ : L2.St) (o : Option V) : wipe (σ.set k o) vs = wipe σ vs := by
  apply List.ext_getElem?
  intro i
  rw [wipe_get, wipe_get]
  by_cases h : i = k
  · subst h
    rw [if_pos hk, if_pos hk, List.getElem?_set_self']
    cases σ[i]? <;> rfl
  · rw [List.getElem?_set_ne (Ne.symm h)]
theorem wipe_wipe (vs : List Nat) (σ : L2.St) : wipe (wipe σ vs) vs = wipe σ vs := by
  apply List.ext_getElem?
  intro i
  rw [wipe_get, wipe_get]
  by_cases h : i ∈ vs
  · rw [if_pos h, if_pos h]; cases σ[i]? <;> rfl
  · rw [if_neg h, if_neg h]
theorem tin_name {k : Nat} (hk : k ∈ vs) : Tin vs (gName k) := fun v σ H Q Q' h q => h _ _ (wipe_set hk σ _) q
theorem tins_nil : Tins vs gNil := fun v σ H Q Q' h ⟨e, q⟩ => ⟨e, h _ _ rfl q⟩
theorem tins_cons {gs : TGs} (h : Tin vs g) (h2 : Tins vs gs) : Tins vs (gCons g gs) := fun v σ H Q Q' hq ⟨x, r, e, q⟩ => ⟨x, r, e, h _ _ _ _ _ (fun σ1 H1 e1 q1 => h2 _ _ _ _ _ (fun σ2 H2 e2 q2 => hq σ2 H2 (e2.trans e1) q2) q1) q⟩
theorem tin_tup {gs : TGs} {n : Nat} (h : Tins vs gs) : Tin vs (gTup K n gs) := fun v σ H Q Q' hq ⟨a, xs, e1, e2, e3, q⟩ => ⟨a, xs, e1, e2, e3, h _ _ _ _ _ hq q⟩
theorem wipeS_get (vs : List Nat) (s : Sl) (i : Nat) : (wipeS s vs)[i]? = if i ∈ vs then s[i]?.map fun _ => none else s[i]? := by
  induction vs with
  | nil => simp [wipeS]
  | cons v r ih =>
    unfold wipeS
    by_cases h : i = v
    · subst h
      rw [List.getElem?_set_self', ih, if_pos (List.mem_cons_self ..)]
      by_cases h2 : i ∈ r
      · rw [if_pos h2]; cases s[i]? <;> rfl
      · rw [if_neg h2]; cases s[i]? <;> rfl
    · rw [List.getElem?_set_ne (Ne.symm h), ih]
      by_cases h2 : i ∈ r
      · rw [if_pos h2, if_pos (List.mem_cons_of_mem _ h2)]
      · rw [if_neg h2, if_neg (by intro z; rcases List.mem_cons.mp z with z | z; exact h z; exact h2 z)]
theorem wipeS_wipe (vs : List Nat) (s : Sl) : wipeS (wipeS s vs) vs = wipeS s vs := by
  apply List.ext_getElem?
  intro i
  rw [wipeS_get, wipeS_get]
  by_cases h : i ∈ vs
  · rw [if_pos h, if_pos h]; cases s[i]? <;> rfl
  · rw [if_neg h, if_neg h]
theorem Fr.unwipe {s4 : Sl} {σ2 : L2.St} (f4 : Fr K M J0 H0 Pr s4 σ2 J H) (e2 : wipe σ2 vs = wipe σ vs) : Fr K M J0 H0 Pr (wipeS s4 vs) σ J H := by
  have h2 := f4.wiped vs
  rw [e2] at h2
  refine ⟨h2.w0, h2.tr, ?_, fun k x e => ?_, fun k j x y u w0 p e1 e2 e3 e4 => ?_, fun q hq => ?_, h2.pn⟩
  · rw [← wipe_length σ vs]; exact h2.len
  · obtain ⟨v, hv, h⟩ := h2.at_ k x e
    exact ⟨v, (wipe_some hv).1, h⟩
  · obtain ⟨v, hv, _⟩ := h2.at_ k _ e1
    obtain ⟨w, hw, _⟩ := h2.at_ j _ e2
    have e3' := (wipe_some hv).1.symm.trans e3
    have e4' := (wipe_some hw).1.symm.trans e4
    cases e3'
    cases e4'
    exact h2.sep k j x y _ _ p e1 e2 hv hw
  · obtain ⟨g1, g2, g3, g4, g5⟩ := h2.prt q hq
    refine ⟨g1, g2, g3, g4, fun k x u e z => ?_⟩
    obtain ⟨v, hv, _⟩ := h2.at_ k _ e
    have e' := (wipe_some hv).1.symm.trans z
    cases e'
    exact g5 k x _ e hv
/-- the turns of a comprehension: fin says what comes of the list at its end -/
theorem lc_run {Qd : Addr → Hp → Prop} {A : L2.It} {ds : List PyData} {s1 : Sl} {J1 H1 : Hp} {I : Nat → List PyData → Sl → Prop} {D : Addr} (mo : O M) (hg : SG K g wg) (tin : Tin vs g) (hc : ST K er W0 O tt wt) (he : SE K er W0 O te we) (f1 : Fr K M J0 H0 Pr s1 σ J1 H1) (hD : H1 D = none)
    (wd : WalkD K A J1 ds) (hz : ds.length < sizeLine) (i0 : I 0 [] (wipeS s1 vs)) (hs : ∀ i d acc s2, ds[i]? = some d → I i acc s2 → wg d (wipeS s2 vs) fun s3 => wt s3 (fun b s4 => if b = true then we s4 (fun r s5 => frz r s5 fun x s6 => I (i + 1) (acc ++ [x]) (wipeS s6 vs)) nE else I (i + 1) acc (wipeS s4 vs)) nE)
    (fin : ∀ s2 J2 H2 acc ys, Fr K M J0 H0 ((D, .lst ys) :: Pr) (wipeS s2 vs) σ J2 H2 → Sub J1 J2 → Das K J2 ys acc → I ds.length acc s2 → Qd D H2) :
    ∃ W : Nat → Nat → Hp → Prop, (∃ m, W 0 m (upd H1 D (.lst []))) ∧ ∀ i m H, W i m H →
      (A.stop i H ∧ Qd D H) ∨ (A.go i H ∧ ∃ Nx : Hp → Prop, (∀ H', Nx H' → ∃ m', m' < m ∧ W (i + 1) m' H') ∧ ∀ x H', A.yld i H x H' → g x (wipe σ vs) H' fun σ2 H2 => wipe σ2 vs = wipe σ vs ∧ tt σ2 H2 fun b H3 =>
        if b = true then te σ2 H3 fun y H4 => ∃ acc, H4 D = some (.lst acc) ∧ acc.length < sizeLine ∧ Nx (upd H4 D (.lst (acc ++ [y]))) else Nx H3) := by
  let St : Nat → Hp → Prop := fun i G => ∃ s' J' acc ys, Fr K M J0 H0 ((D, .lst ys) :: Pr) (wipeS s' vs) σ J' G ∧ Sub J1 J' ∧ Das K J' ys acc ∧ ys.length ≤ i ∧ I i acc s'
  refine ⟨fun i m G => m = ds.length - i ∧ i ≤ ds.length ∧ St i G, ⟨_, rfl, Nat.zero_le _, wipeS s1 vs, J1, [], [], ((f1.prot hD).wipedS vs).wipedS vs, .refl _, .nil, Nat.le_refl _, i0⟩, ?_⟩
  rintro i m G ⟨rfl, hi, s', J', acc, ys, f', b', ha, hl, hI⟩
  by_cases hlt : i < ds.length
  · refine .inr ⟨wd.go i G hlt (b'.trans f'.wf.jh), St (i + 1), fun G' h' => ⟨_, by omega, rfl, hlt, h'⟩, fun x G' y => ?_⟩
    have hdi : ds[i]? = some ds[i] := List.getElem?_eq_getElem hlt
    have key : ∀ J3 G3, Fr K M J0 H0 ((D, .lst ys) :: Pr) (wipeS s' vs) σ J3 G3 → Sub J1 J3 → Das K J3 ys acc → Da K J3 x ds[i] → g x (wipe σ vs) G3 fun σ2 H2 => wipe σ2 vs = wipe σ vs ∧ tt σ2 H2 fun b H3 =>
        if b = true then te σ2 H3 fun y H4 => ∃ acc, H4 D = some (.lst acc) ∧ acc.length < sizeLine ∧ St (i + 1) (upd H4 D (.lst (acc ++ [y]))) else St (i + 1) H3 := by
      intro J3 G3 f3 b3 a3 ax
      have fw := f3.wiped vs
      rw [wipeS_wipe] at fw
      have he2 : ErO K er W0 M J0 H0 ((D, .lst ys) :: Pr) nE := fun c x s σ dx v J H f z => z.elim
      refine tin _ _ _ (fun σ2 H2 => wipe σ2 vs = wipe σ vs → tt σ2 H2 fun b H3 =>
        if b = true then te σ2 H3 fun y H4 => ∃ acc, H4 D = some (.lst acc) ∧ acc.length < sizeLine ∧ St (i + 1) (upd H4 D (.lst (acc ++ [y]))) else St (i + 1) H3) _ (fun σ2 H2 e2 q2 => ⟨by rw [e2, wipe_wipe], q2 (by rw [e2, wipe_wipe])⟩)
        (hg M J0 H0 _ _ _ J3 G3 x _ fw ax _ (hs i _ acc s' hdi hI) _ fun s3 σ3 f4 q4 e3 => ?_)
      refine hc M mo J0 H0 _ s3 σ3 J3 G3 f4 _ nE q4 he2 _ fun b s4 J4 G4 f5 b5 q5 => ?_
      cases b with
      | false => exact ⟨wipeS s4 vs, J4, acc, ys, by rw [wipeS_wipe]; exact f5.unwipe e3, b3.trans b5, b5.das a3, Nat.le_succ_of_le hl, q5⟩
      | true =>
        refine he M mo J0 H0 _ s4 σ3 J4 G4 f5 _ nE q5 he2 _ fun y r s5 J5 G5 f6 b6 vr q6 => ?_
        obtain ⟨d, s6, J6, q7, b7, ad, f7⟩ := frz_use f6 vr q6
        have bb := (b5.trans b6).trans b7
        obtain ⟨g1, _⟩ := f7.prt _ (List.mem_cons_self ..)
        exact ⟨ys, g1, by omega, wipeS s6 vs, J6, acc ++ [d], ys ++ [y], by rw [wipeS_wipe]; exact f7.reprot.unwipe e3, b3.trans bb, das_app (bb.das a3) (.cons ad .nil), by rw [List.length_append]; simp only [List.length_cons, List.length_nil]; omega, q7⟩
    rcases wd.yld i G x G' _ hdi (b'.trans f'.wf.jh) y with ⟨rfl, ax⟩ | ⟨T, xs, es, rfl, hT, rfl, ed, hes⟩
    · exact key J' G' f' b' ha (b'.da ax)
    · have tn := f'.wf.new (o := .tup xs) hT
      refine key _ _ (f'.step tn) (b'.trans tn.jj) (tn.jj.das ha) ?_
      rw [ed]
      exact .tup (.of upd_same) (tn.jj.das (b'.das hes))
  · have e : i = ds.length := by omega
    subst e
    exact .inl ⟨wd.stop G (b'.trans f'.wf.jh), fin s' J' G acc ys f' b' ha hI⟩
theorem se_lc (hi : SI K er W O wi ww) (hg : SG K g wg) (tin : Tin vs g) (hc : ST K er W0 O tt wt) (he : SE K er W0 O te we) : SE K er W O (tLc wi g tt te vs) (wLc ww wg wt we vs) := fun M mo J0 H0 Pr s σ J H f Q e q he' Qv kk =>
  hi M mo J0 H0 Pr s σ J H f _ _ q he' _ fun A ds s1 J1 H1 f1 b1 wd ⟨hz, I, i0, hs, hd⟩ => fun D hD =>
    lc_run (Qd := fun D H => Qv (.ref D) H) mo hg tin hc he f1 hD wd hz i0 hs fun s2 J2 H2 acc ys f2 b2 a2 i2 => by
      obtain ⟨J3, b3, a3, f3⟩ := f2.tell a2
      exact kk _ (.d (.list acc)) _ J3 H2 f3 ((b1.trans b2).trans b3) a3 (hd acc s2 i2)
/-- x = [..], a list of one's own made by a comprehension -/
def wNewLc (k : Nat) (ww : WI) (wg : WG) (wt : WT) (we : WE) (vs : List Nat) (s : Sl) (E : EW) : Prop := ww s (fun ds s1 => ds.length < sizeLine ∧ ∃ I : Nat → List PyData → Sl → Prop, I 0 [] (wipeS s1 vs) ∧
  (∀ i d acc s2, ds[i]? = some d → I i acc s2 → wg d (wipeS s2 vs) fun s3 => wt s3 (fun b s4 => if b = true then we s4 (fun r s5 => frz r s5 fun x s6 => I (i + 1) (acc ++ [x]) (wipeS s6 vs)) nE else I (i + 1) acc (wipeS s4 vs)) nE) ∧
  ∀ acc s2, I ds.length acc s2 → E.nx ((wipeS s2 vs).set k (some (.own acc)))) E.er
theorem ss_newLc {k : Nat} (hi : SI K er W O wi ww) (hg : SG K g wg) (tin : Tin vs g) (hc : ST K er W0 O tt wt) (he : SE K er W0 O te we) : SS K er W O (tAsg (tLc wi g tt te vs) (gName k)) (wNewLc k ww wg wt we vs) := fun M mo J0 H0 Pr s σ J H f E Dn q kk he' =>
  hi M mo J0 H0 Pr s σ J H f _ _ q he' _ fun A ds s1 J1 H1 f1 b1 wd ⟨hz, I, i0, hs, hd⟩ => fun p hD =>
    lc_run (Qd := fun p H => gName k (.ref p) σ H Dn.nx) mo hg tin hc he f1 hD wd hz i0 hs fun s2 J2 H2 acc ys f2 b2 a2 i2 => kk.nx _ _ _ _ (f2.give a2) (b1.trans b2) (hd acc s2 i2)
end
end DW

/-! Defs, told in data; what is called. -/
namespace DW
open PySem PySem.Spec
open PyProof.Rows L2 DL
/-- an argument -/
inductive AV where
  | d (x : PyData) | drw
def Av (K : PySem.W.Frag) (M : Md) (J : Hp) (v : V) : AV → Prop
  | .d x => Da K J v x
  | .drw => ∃ h g, v = .ref h ∧ HasDr M h g
inductive Avs (K : PySem.W.Frag) (M : Md) (J : Hp) : List V → List AV → Prop
  | nil : Avs K M J [] []
  | cons {v : V} {a : AV} {vs : List V} {as : List AV} : Av K M J v a → Avs K M J vs as → Avs K M J (v :: vs) (a :: as)
section
variable {K : PySem.W.Frag} {M : Md} {J J' : Hp}
theorem Av.sub {v : V} {a : AV} (s : Sub J J') (h : Av K M J v a) : Av K M J' v a := by
  cases a with
  | d x => exact s.da h
  | drw => exact h
theorem Avs.sub (s : Sub J J') {vs : List V} {as : List AV} (h : Avs K M J vs as) : Avs K M J' vs as := by
  induction h with
  | nil => exact .nil
  | cons a _ ih => exact .cons (a.sub s) ih
theorem avs_len {vs : List V} {as : List AV} (h : Avs K M J vs as) : vs.length = as.length := by
  induction h with
  | nil => rfl
  | cons _ _ ih => rw [List.length_cons, List.length_cons, ih]
theorem avs_app {vs us : List V} {as bs : List AV} (h : Avs K M J vs as) (g : Avs K M J us bs) : Avs K M J (vs ++ us) (as ++ bs) := by
  induction h with
  | nil => exact g
  | cons a _ ih => exact .cons a ih
theorem avs_get {vs : List V} {as : List AV} (h : Avs K M J vs as) (i : Nat) : (vs[i]? = none ∧ as[i]? = none) ∨ ∃ v a, vs[i]? = some v ∧ as[i]? = some a ∧ Av K M J v a := by
  induction h generalizing i with
  | nil => exact .inl ⟨rfl, rfl⟩
  | cons a _ ih =>
    cases i with
    | zero => exact .inr ⟨_, _, rfl, rfl, a⟩
    | succ i => simpa using ih i
/-- some of a list, by their places -/
def pick {α : Type} (π : List Nat) (l : List α) : List α := π.filterMap fun i => l[i]?
theorem avs_pick {vs : List V} {as : List AV} (h : Avs K M J vs as) (π : List Nat) : Avs K M J (pick π vs) (pick π as) := by
  induction π with
  | nil => exact .nil
  | cons i π ih =>
    unfold pick at ih ⊢
    rcases avs_get h i with ⟨e1, e2⟩ | ⟨v, a, e1, e2, r⟩
    · rw [List.filterMap_cons_none e1, List.filterMap_cons_none e2]; exact ih
    · rw [List.filterMap_cons_some e1, List.filterMap_cons_some e2]; exact .cons r ih
theorem vals_pick {vs : List V} {us : List Value} (h : Vals vs us) (π : List Nat) : Vals (pick π vs) (pick π us) := by
  induction π with
  | nil => exact .nil
  | cons i π ih =>
    unfold pick at ih ⊢
    cases q : vs[i]? with
    | none => rw [List.filterMap_cons_none q, List.filterMap_cons_none (h.none_of q)]; exact ih
    | some v =>
      obtain ⟨u, e, r⟩ := h.get q
      rw [List.filterMap_cons_some q, List.filterMap_cons_some e]; exact .cons r ih
end
/-- what a def promises -/
def spU (K : PySem.W.Frag) (er : Ers) (O : Md → Prop) (pre : List AV → Prop) (post : List AV → PyData → Prop) (exc : List AV → Str → PyData → Prop) : Sp := fun vs H Q E => ∃ M J as, O M ∧ Wf M J H ∧ Avs K M J vs as ∧ pre as ∧
  (∀ v d J' H', Tr M J H J' H' → post as d → Da K J' v d → Q v H') ∧ ∀ c x dx v J' H', Tr M J H J' H' → exc as c x → H' dx = some (.xd [(er.fl c, v)]) → Da K J' v x → NewP M H dx ∧ J' dx = none → E (.ref (er.cl c)) (some dx) H'
def noE : List AV → Str → PyData → Prop := fun _ _ _ => False
def anyM : Md → Prop := fun _ => True
/-! ### arguments -/
abbrev WU := Sl → (List AV → Sl → Prop) → EK → Prop
def SU (K : PySem.W.Frag) (er : Ers) (W : WX) (O : Md → Prop) (ta : TA) (wu : WU) : Prop := ∀ M, O M → ∀ J0 H0 Pr s σ J H, Fr K M J0 H0 Pr s σ J H → ∀ Q e, wu s Q e → ErO K er W M J0 H0 Pr e →
  ∀ Qa : List V → Hp → Prop, (∀ vs as s' J' H', Fr K M J0 H0 Pr s' σ J' H' → Sub J J' → Avs K M J' vs as → Q as s' → Qa vs H') → ta σ H Qa
def avf (r : EV) (s : Sl) (k : AV → Sl → Prop) : Prop := match r with
  | .d x => k (.d x) s
  | .at i => match s[i]? with
    | some (some (.own xs)) => k (.d (.list xs)) (s.set i (some (.d (.list xs))))
    | some (some .drw) => k .drw s
    | _ => False
  | .raw _ => False
  | .pl _ _ _ => False
def wuNil (s : Sl) (Q : List AV → Sl → Prop) (_ : EK) : Prop := Q [] s
def wuCons (wa : WE) (wr : WU) (s : Sl) (Q : List AV → Sl → Prop) (e : EK) : Prop := wa s (fun a s1 => avf a s1 fun x s2 => wr s2 (fun xs s3 => Q (x :: xs) s3) e) e
def wCall (pre : List AV → Prop) (post : List AV → PyData → Prop) (exc : List AV → Str → PyData → Prop) (wu : WU) (s : Sl) (Q : EV → Sl → Prop) (e : EK) : Prop :=
  wu s (fun as s1 => pre as ∧ (∀ d, post as d → Q (.d d) s1) ∧ ∀ c x, exc as c x → e c x s1) e
def wCallK (pre : List AV → Prop) (post : List AV → PyData → Prop) (exc : List AV → Str → PyData → Prop) (π : List Nat) (n m : Nat) (wu wk : WU) (s : Sl) (Q : EV → Sl → Prop) (e : EK) : Prop :=
  wu s (fun as s1 => wk s1 (fun bs s2 => as.length = n ∧ bs.length = m ∧ pre (pick π (as ++ bs)) ∧ (∀ d, post (pick π (as ++ bs)) d → Q (.d d) s2) ∧ ∀ c x, exc (pick π (as ++ bs)) c x → e c x s2) e) e
def tCallW (sp : Sp) (π : List Nat) (n m : Nat) (E : L2.St → XK) (t tk : TA) : TE := fun σ H Q => t σ H fun vs H1 => tk σ H1 fun zs H2 => vs.length = n ∧ zs.length = m ∧ sp (pick π (vs ++ zs)) H2 Q (E σ)
section
variable {K : PySem.W.Frag} {er : Ers} {W : WX} {O O' : Md → Prop} {ta te : TE} {t tk : TA} {wa : WE} {wu wk : WU} {M : Md} {J0 H0 J H : Hp} {Pr : List (Addr × HO)} {s : Sl} {σ : L2.St} {v : V} {r : EV} {pre : List AV → Prop} {post : List AV → PyData → Prop} {exc : List AV → Str → PyData → Prop}
theorem avf_use {k : AV → Sl → Prop} (f : Fr K M J0 H0 Pr s σ J H) (h : Ve K J σ v r) (q : avf r s k) : ∃ a s' J', k a s' ∧ Sub J J' ∧ Av K M J' v a ∧ Fr K M J0 H0 Pr s' σ J' H := by
  cases r with
  | d x => exact ⟨.d x, s, J, q, .refl _, h, f⟩
  | «at» i =>
    unfold avf at q
    dsimp only at q
    split at q
    · rename_i xs e
      obtain ⟨J', u, hu, sb, a, f'⟩ := f.ice e
      rw [show σ[i]? = some (some v) from h] at hu
      cases hu
      exact ⟨.d _, _, J', q, sb, a, f'⟩
    · rename_i e
      obtain ⟨u, hu, a⟩ := f.at_ i _ e
      rw [show σ[i]? = some (some v) from h] at hu
      cases hu
      exact ⟨.drw, s, J, q, .refl _, a, f⟩
    · exact q.elim
  | raw u => exact q.elim
  | pl i π p => exact q.elim
theorem su_nil : SU K er W O tNil wuNil := fun M mo J0 H0 Pr s σ J H f Q e q he Qa k => k [] [] s J H f (.refl _) .nil q
theorem su_cons (ha : SE K er W O ta wa) (hr : SU K er W O t wu) : SU K er W O (tCons ta t) (wuCons wa wu) := fun M mo J0 H0 Pr s σ J H f Q e q he Qa k =>
  ha M mo J0 H0 Pr s σ J H f _ e q he _ fun x a s1 J1 H1 f1 b1 va q1 => by
    obtain ⟨dx, s2, J2, q2, b2, ax, f2⟩ := avf_use f1 va q1
    exact hr M mo J0 H0 Pr s2 σ J2 H1 f2 _ e q2 he _ fun vs ds s3 J3 H3 f3 b3 a3 q3 => k _ _ s3 J3 H3 f3 ((b1.trans b2).trans b3) (.cons (ax.sub b3) a3) q3
theorem sp_use {vs : List V} {as : List AV} {Q : EV → Sl → Prop} {e : EK} {Qv : VK} (hO : ∀ M, O M → O' M) (mo : O M) (he : ErO K er W M J0 H0 Pr e) (f : Fr K M J0 H0 Pr s σ J H) (a : Avs K M J vs as) (hp : pre as) (h1 : ∀ d, post as d → Q (.d d) s) (h2 : ∀ c x, exc as c x → e c x s)
    (k : ∀ v r s' J' H', Fr K M J0 H0 Pr s' σ J' H' → Sub J J' → Ve K J' σ v r → Q r s' → Qv v H') : spU K er O' pre post exc vs H Qv (L2.WE W σ) :=
  ⟨M, J, as, hO M mo, f.wf, a, hp, fun v d J' H' t p a' => k v (.d d) s J' H' (f.step t) t.jj a' (h1 d p), fun c x dx v J' H' t z hx a' nn => he c x s σ dx v J' H' (f.step t) (h2 c x z) hx a' ⟨fun o b e => by
    obtain ⟨o', c', e'⟩ := f.tr.aln dx o b e
    exact nn.1 o' c' e', nn.2⟩⟩
theorem se_call (hO : ∀ M, O M → O' M) (h : SU K er W O t wu) : SE K er W O (tCallS (spU K er O' pre post exc) (L2.WE W) t) (wCall pre post exc wu) := fun M mo J0 H0 Pr s σ J H f Q e q he Qv k =>
  h M mo J0 H0 Pr s σ J H f _ e q he _ fun vs as s1 J1 H1 f1 b1 a1 ⟨hp, h1, h2⟩ => sp_use hO mo he f1 a1 hp h1 h2 fun v r s' J' H' f' b' => k v r s' J' H' f' (b1.trans b')
theorem se_callK {π : List Nat} {n m : Nat} (hO : ∀ M, O M → O' M) (h : SU K er W O t wu) (h' : SU K er W O tk wk) :
    SE K er W O (tCallW (spU K er O' pre post exc) π n m (L2.WE W) t tk) (wCallK pre post exc π n m wu wk) := fun M mo J0 H0 Pr s σ J H f Q e q he Qv k =>
  h M mo J0 H0 Pr s σ J H f _ e q he _ fun vs as s1 J1 H1 f1 b1 a1 q1 => h' M mo J0 H0 Pr s1 σ J1 H1 f1 _ e q1 he _ fun zs bs s2 J2 H2 f2 b2 a2 ⟨l1, l2, hp, h1, h2⟩ =>
    ⟨(avs_len a1).trans l1, (avs_len a2).trans l2, sp_use hO mo he f2 (avs_pick (avs_app (a1.sub b2) a2) π) hp h1 h2 fun v r s' J' H' f' b' => k v r s' J' H' f' ((b1.trans b2).trans b')⟩
end
/-! ### the judgements: the reading, and what it is in data -/
structure Ca5 (P : Program) (w : World) (K : PySem.W.Frag) (mg : Str → Option Value) (base : Heap) (CX : CXT) (k : Nat) (x : Str) (ps : List Str) (sp : Sp) : Prop where
  has : ∃ f fd, FnG P w K mg base CX k f fd ps sp ∧ mg x = some (.ref f) ∧ PySem.W.keepIn K (.ref f) = true ∧ Binds K fd ps []
structure CaN (P : Program) (w : World) (K : PySem.W.Frag) (mg : Str → Option Value) (base : Heap) (CX : CXT) (k : Nat) (x : Str) (ps : List Str) (n : Nat) (ks : List Str) (π : List Nat) (sp : Sp) : Prop where
  has : ∃ f fd, FnG P w K mg base CX k f fd ps sp ∧ mg x = some (.ref f) ∧ PySem.W.keepIn K (.ref f) = true ∧ KBn K fd ps n ks (fun us ws => pick π (us ++ ws)) (fun vs zs => pick π (vs ++ zs))
section
variable {X : Cx} {CX : CXT} {k n : Nat} {f : Addr} {fd : FuncData} {ps ks : List Str} {sp : Sp} {E : L2.St → XK} {x : Str} {p pos : Pos} {e : Expr} {es : List Expr} {t tk : TA} {kws : List Keyword} {π : List Nat}
theorem go_w {pins : List (Addr × Obj)} {σ : L2.St} {H : Hp} {s : Shared} {Q : VK} {ar : Args} {us : List Value} {vs : List V} (F : FnG X.prog X.w X.K X.mg X.base CX k f fd ps sp) (hg : X.A.guards = some []) (hr : Room k X.A) (hx : PassesAt CX X σ (E σ)) (I : Inv X pins σ H s)
    (hb : BindsTo s fd ar (ps.zip us)) (r : Vals vs us) (h : sp vs H Q (E σ)) : wpAny (model X.prog X.w) X.A (PySem.call (.ref f) ar.pos ar.kw) (EP X pins σ Q) X.xe s := by
  refine wpAny_call (codeAny_mono (F.go X.A X.stack s H ar us vs Q (E σ) hg hr I.env0 hb r h) fun r s' hq => ?_)
  cases r with
  | error e => exact hx pins H s e s' I hq
  | ok fl =>
    cases fl with
    | ret u => exact I.after hq
    | next => exact False.elim hq
    | brk => exact False.elim hq
    | cont => exact False.elim hq
theorem pe_callW (C : Ca5 X.prog X.w X.K X.mg X.base CX k x ps sp) (hA : X.A.guards = some []) (hr : Room k X.A) (hx : ∀ σ, PassesAt CX X σ (E σ)) (ha : PA X (e :: es) t) (hg : Gl X x := by rfl) (hdb : (x == ("__debug__" : Str)) = false := by decide)
    (he : starEach (e :: es) X.env = (false, eval e X.env) :: starEach es X.env := by rfl) (hpl : (backTo pos (starEach es X.env)).any (·.1) = false := by rfl) : PE X (.Call (.Name x p) (e :: es) [] pos) (tCallS sp E t) := by
  obtain ⟨f, fd, F, hm, hk, hb⟩ := C.has
  refine ⟨fun pins s σ H Q I h => wpAny_Call_Name_kw (ld_glob I hg hm ?_ hdb)⟩
  refine PySem.W.callWith_K (h₀ := X.base) I.ok.mod.kin hk (thn (ha.run pos pins s σ H _ I h) fun us s1 ⟨vs, H1, I1, r, q⟩ => ⟨I1.kIn, ?_⟩) he hpl
  have b := hb s1 us I1.kIn (by rw [List.append_nil]; exact r.length.symm.trans (F.siz _ _ _ _ q))
  rw [List.append_nil] at b
  exact go_w (ar := ⟨us, []⟩) F hA hr (hx σ) I1 b r q
theorem pe_callWK (C : CaN X.prog X.w X.K X.mg X.base CX k x ps n ks π sp) (hA : X.A.guards = some []) (hr : Room k X.A) (hx : ∀ σ, PassesAt CX X σ (E σ)) (ha : PA X (e :: es) t) (hkw : PK X kws tk) (hg : Gl X x := by rfl) (hdb : (x == ("__debug__" : Str)) = false := by decide)
    (hall : (backToKw pos (keywordEach kws X.env)).all (·.1.isSome) = true := by rfl) (hks : (backToKw pos (keywordEach kws X.env)).filterMap (·.1) = ks := by rfl) (he : starEach (e :: es) X.env = (false, eval e X.env) :: starEach es X.env := by rfl)
    (hpl : ((backTo pos (starEach (e :: es) X.env)).any (·.1) || (backToKw pos (keywordEach kws X.env)).any (·.1.isNone)) = false := by rfl) : PE X (.Call (.Name x p) (e :: es) kws pos) (tCallW sp π n ks.length E t tk) := by
  obtain ⟨f, fd, F, hm, hk, hb⟩ := C.has
  refine ⟨fun pins s σ H Q I h => wpAny_Call_Name_kw (ld_glob I hg hm ?_ hdb)⟩
  refine PySem.W.callWith_KW (h₀ := X.base) I.ok.mod.kin hk hall (thn (ha.run pos pins s σ H _ I h) fun us s1 ⟨vs, H1, I1, rv, named⟩ => thn (hkw.run pos pins s1 σ H1 _ I1 named) fun ws s2 ⟨zs, H2, I2, rz, l1, l2, told⟩ => ⟨I2.kIn, ?_⟩) hpl he
  rw [hks]
  exact go_w (ar := ⟨us, ks.zip ws⟩) F hA hr (hx σ) I2 (hb.to s2 us ws I2.kIn (rv.length.symm.trans l1) (rz.length.symm.trans l2)) (hb.rel rv rz) told
theorem pe_callW0 (C : CaN X.prog X.w X.K X.mg X.base CX k x ps 0 ks π sp) (hA : X.A.guards = some []) (hr : Room k X.A) (hx : ∀ σ, PassesAt CX X σ (E σ)) (hkw : PK X kws tk) (hg : Gl X x := by rfl) (hdb : (x == ("__debug__" : Str)) = false := by decide)
    (hall : (backToKw pos (keywordEach kws X.env)).all (·.1.isSome) = true := by rfl) (hks : (backToKw pos (keywordEach kws X.env)).filterMap (·.1) = ks := by rfl)
    (hpl : ((backTo pos (starEach [] X.env)).any (·.1) || (backToKw pos (keywordEach kws X.env)).any (·.1.isNone)) = false := by rfl) : PE X (.Call (.Name x p) [] kws pos) (tCallW sp π 0 ks.length E tNil tk) := by
  obtain ⟨f, fd, F, hm, hk, hb⟩ := C.has
  refine ⟨fun pins s σ H Q I h => wpAny_Call_Name_kw (ld_glob I hg hm ?_ hdb)⟩
  refine PySem.W.callWith_KW0 (h₀ := X.base) I.ok.mod.kin hk hall (thn (hkw.run pos pins s σ H _ I h) fun ws s2 ⟨zs, H2, I2, rz, l1, l2, told⟩ => ⟨I2.kIn, ?_⟩) hpl
  rw [hks]
  exact go_w (ar := ⟨[], ks.zip ws⟩) F hA hr (hx σ) I2 (hb.to s2 [] ws I2.kIn rfl (rz.length.symm.trans l2)) (hb.rel .nil rz) told
end
/-! ### a def -/
def AV.sv : AV → SV
  | .d x => .d x
  | .drw => .drw
/-- the slots at a def's start -/
def startS (n : Nat) (as : List AV) : Sl := as.map (fun a => some a.sv) ++ List.replicate (n - as.length) none
section
variable {K : PySem.W.Frag} {M : Md} {J H : Hp} {er : Ers} {O : Md → Prop} {pre : List AV → Prop} {post : List AV → PyData → Prop} {exc : List AV → Str → PyData → Prop}
theorem fr_start {N : List Str} {vs : List V} {as : List AV} (w : Wf M J H) (a : Avs K M J vs as) (hl : as.length ≤ N.length) (e : start N vs = vs.map some ++ List.replicate (N.length - vs.length) none) : Fr K M J H [] (startS N.length as) (start N vs) J H := by
  have le := avs_len a
  have key : ∀ (i : Nat) (x : SV), (startS N.length as)[i]? = some (some x) → ∃ v b, vs[i]? = some v ∧ as[i]? = some b ∧ x = b.sv ∧ (start N vs)[i]? = some (some v) ∧ Av K M J v b := fun i x h => by
    unfold startS at h
    by_cases hi : i < as.length
    · rw [List.getElem?_append_left (by simpa using hi), List.getElem?_map] at h
      rcases avs_get a i with ⟨_, e2⟩ | ⟨v, b, e1, e2, r⟩
      · rw [e2] at h; cases h
      · rw [e2] at h
        refine ⟨v, b, e1, e2, (Option.some.inj (Option.some.inj h)).symm, ?_, r⟩
        rw [e, List.getElem?_append_left (by simp; omega), List.getElem?_map, e1]
        rfl
    · rw [List.getElem?_append_right (by simp; omega), List.getElem?_replicate] at h
      split at h <;> cases h
  refine ⟨w, w.tr, ?_, fun i x h => ?_, fun i j x y u w0 p h _ _ _ q1 _ => ?_, nofun, List.nodup_nil⟩
  · rw [e]
    unfold startS
    simp; omega
  · obtain ⟨v, b, e1, e2, rfl, e3, r⟩ := key i x h
    refine ⟨v, e3, ?_⟩
    cases b with
    | d x => exact r
    | drw => exact r
  · obtain ⟨v, b, _, _, z, _⟩ := key i _ h
    rw [z] at q1
    cases b <;> cases u <;> cases q1
end
section
variable {P : Program} {w : World} {K : PySem.W.Frag} {mg : Str → Option Value} {base : Heap} {CX : CXT} {k : Nat} {f : Addr} {fd : FuncData} {ps : List Str} {x qual : Str} {params : Arguments} {body : List Stmt} {scope : Scope} {N : List Str} {er : Ers} {O : Md → Prop} {pre : List AV → Prop} {post : List AV → PyData → Prop} {exc : List AV → Str → PyData → Prop} {ws : WS}
/-- a def by what it is in data -/
theorem fn_w (F : FunD K x qual params body scope [] [] f fd) (S : FnScope N ps scope) (hl : ∀ as, pre as → as.length = ps.length) (hN : ps.length ≤ N.length)
    (der : ∀ (cdv : Value) (A : Around) (out : List Env) (s : Shared) (H : Hp) (E : XK), A.guards = some [] → Room k (A.deeper (envOfC qual scope s.heap.objs.size f cdv)) → ∃ t, PSs (cxOf CX P w K mg base N qual scope f cdv A out s H E) body t ∧ SS K er (fun c d _ H => E c d H) O t ws)
    (go : ∀ as, pre as → ws (startS N.length as) { nx := fun _ => post as .none, rt := fun d _ => post as d, bk := fun _ => False, ct := fun _ => False, er := fun c x _ => exc as c x }) : FnG P w K mg base CX (k + 1) f fd ps (spU K er O pre post exc) := by
  refine fn_g F S (fun vs H Q E h => ?_) fun cdv A out s H vs Q E hG hr h => ?_
  · obtain ⟨M, J, as, _, _, a, hp, _⟩ := h
    rw [avs_len a]; exact hl as hp
  · obtain ⟨M, J, as, mo, wf, a, hp, q, qe⟩ := h
    obtain ⟨t, ht, hs⟩ := der cdv A out s H E hG hr
    refine ⟨t, ht, ?_⟩
    have la := hl as hp
    have f0 := fr_start (N := N) wf a (by omega) rfl
    exact hs M mo J H [] _ _ J H f0 _ _ (go as hp) ⟨fun s' σ' J' H' f' _ z => q _ _ _ _ f'.tr z .non, fun v d s' σ' J' H' f' _ z a' => q v d _ _ f'.tr z a', fun _ _ _ _ _ _ z => z.elim, fun _ _ _ _ _ _ z => z.elim⟩
      fun c x s' σ' dx v J' H' f' z hx a' nn => qe c x dx v J' H' f'.tr z hx a' nn
end
end DW

/-! The judgements: a piece of syntax, its reading, what it is in data. -/
namespace DW
open PySem PySem.Spec
open PyProof.Rows L2 DL
section
variable (K : PySem.W.Frag) (er : Ers) (W : WX) (O : Md → Prop) (X : Cx)
abbrev DE (e : Expr) (te : TE) (we : WE) : Prop := PE X e te ∧ SE K er W O te we
abbrev DT (e : Expr) (tt : TT) (wt : WT) : Prop := PT X e tt ∧ ST K er W O tt wt
abbrev DTw (e : Expr) (tt : TT) (wt : WT) : Prop := PW X e tt ∧ ST K er W O tt wt
abbrev DTs (es : List Expr) (tt : TT) (wt : WT) : Prop := PTs X es tt ∧ ST K er W O tt wt
abbrev DA (es : List Expr) (t : TA) (wl : WA) : Prop := PA X es t ∧ SA K er W O t wl
abbrev DU (es : List Expr) (t : TA) (wu : WU) : Prop := PA X es t ∧ SU K er W O t wu
abbrev DK (ks : List Keyword) (t : TA) (wu : WU) : Prop := PK X ks t ∧ SU K er W O t wu
abbrev DO (e : Option Expr) (t : TO) (wo : WO) : Prop := PO X e t ∧ SO K er W O t wo
abbrev DI (tg e : Expr) (t : TI) (wi : WI) : Prop := PI X tg e t ∧ SI K er W O t wi
abbrev DS (st : Stmt) (t : TS) (ws : WS) : Prop := PS X st t ∧ SS K er W O t ws
abbrev DSs (st : List Stmt) (t : TS) (ws : WS) : Prop := PSs X st t ∧ SS K er W O t ws
end
abbrev DG (K : PySem.W.Frag) (X : Cx) (e : Expr) (t : TG) (wg : WG) : Prop := PG X e t ∧ SG K t wg
abbrev DGs (K : PySem.W.Frag) (X : Cx) (es : List Expr) (t : TGs) (wg : WGs) : Prop := PGs X es t ∧ SGs K t wg
section
variable {K : PySem.W.Frag} {er : Ers} {W : WX} {O : Md → Prop} {X : Cx} {e a b c : Expr} {es rest : List Expr} {ta tb tc te : TE} {wa wb wc we : WE} {tt tu : TT} {wt wu : WT} {t : TA} {wl : WA} {p p' pos : Pos} {x : Str}
theorem de_var {i : Nat} (h : PE X e (tVar i)) : DE K er W O X e (tVar i) (wVar i) := ⟨h, se_var⟩
theorem de_int {i : Int} (h : PE X e (tC (.int i))) : DE K er W O X e (tC (.int i)) (wC (.int i)) := ⟨h, se_int⟩
theorem de_bl {z : Bool} (h : PE X e (tC (.bl z))) : DE K er W O X e (tC (.bl z)) (wC (.bool z)) := ⟨h, se_bl⟩
theorem de_str {z : Str} (h : PE X e (tC (.str z))) : DE K er W O X e (tC (.str z)) (wC (.str z)) := ⟨h, se_str⟩
theorem de_non (h : PE X e (tC .non)) : DE K er W O X e (tC .non) (wC .none) := ⟨h, se_non⟩
theorem de_raw {v : V} (h : PE X e (tC v)) : DE K er W O X e (tC v) (wRaw v) := ⟨h, se_raw⟩
theorem de_op {op : Operator} {r : R2} {g : G2} (ho : OpR X (binaryOp op) r) (o : OpS K r g) (A : DE K er W O X a ta wa) (B : DE K er W O X b tb wb) : DE K er W O X (.BinOp a op b pos) (tOp r ta tb) (wOp g wa wb) := ⟨pe_op ho A.1 B.1, se_op o A.2 B.2⟩
theorem de_cmp {op : CmpOp} {r : R2} {g : G2} (ho : OpR X (compareOp op) r) (o : OpS K r g) (hm : behindInMarks op b = false) (A : DE K er W O X a ta wa) (B : DE K er W O X b tb wb) : DE K er W O X (.Compare a [op] [b] pos) (tOp r ta tb) (wOp g wa wb) := ⟨pe_cmpR ho A.1 B.1 hm, se_op o A.2 B.2⟩
theorem dt_cmp {op : CmpOp} {r : R2} {g : G2} (ho : OpR X (compareOp op) r) (o : OpS K r g) (hm : behindInMarks op b = false) (A : DE K er W O X a ta wa) (B : DE K er W O X b tb wb) : DT K er W O X (.Compare a [op] [b] pos) (tTest (tOp r ta tb)) (wTest (wOp g wa wb)) := ⟨pt_cmpR ho A.1 B.1 hm, st_test (se_op o A.2 B.2)⟩
theorem de_chain {op op' : CmpOp} {r r' : R2} {g g' : G2} (ho : OpR X (compareOp op) r) (ho' : OpR X (compareOp op') r') (o : OpS K r g) (o' : OpS K r' g') (A : DE K er W O X a ta wa) (B : DE K er W O X b tb wb) (C : DE K er W O X c tc wc) (hm : lastMarks [op, op'] [b, c] = false := by rfl) : DE K er W O X (.Compare a [op, op'] [b, c] pos) (tChain r r' ta tb tc) (wChain g g' wa wb wc) := ⟨pe_chain ho ho' A.1 B.1 C.1 hm, se_chain o o' A.2 B.2 C.2⟩
theorem dt_chain {op op' : CmpOp} {r r' : R2} {g g' : G2} (ho : OpR X (compareOp op) r) (ho' : OpR X (compareOp op') r') (o : OpS K r g) (o' : OpS K r' g') (A : DE K er W O X a ta wa) (B : DE K er W O X b tb wb) (C : DE K er W O X c tc wc) (hm : lastMarks [op, op'] [b, c] = false := by rfl) : DT K er W O X (.Compare a [op, op'] [b, c] pos) (tTest (tChain r r' ta tb tc)) (wTest (wChain g g' wa wb wc)) := ⟨pt_chain ho ho' A.1 B.1 C.1 hm, st_test (se_chain o o' A.2 B.2 C.2)⟩
theorem de_un {op : UnaryOp} {r : V → Hp → VK → Prop} {g : G1} (ho : UnR X (unaryOp op) r) (o : UnS K r g) (A : DE K er W O X a ta wa) : DE K er W O X (.UnaryOp op a pos) (tUn r ta) (wUn g wa) := ⟨pe_un ho A.1, se_un o A.2⟩
theorem de_not (A : DE K er W O X a ta wa) : DE K er W O X (.UnaryOp .Not a pos) (tNotV ta) (wNotV wa) := ⟨pe_not A.1, se_notV A.2⟩
theorem de_and (A : DE K er W O X a ta wa) (B : DE K er W O X (.BoolOp .And (b :: rest) pos) tb wb) : DE K er W O X (.BoolOp .And (a :: b :: rest) pos) (tAndV ta tb) (wAndV wa wb) := ⟨pe_and A.1 B.1, se_andV A.2 B.2⟩
theorem de_or (A : DE K er W O X a ta wa) (B : DE K er W O X (.BoolOp .Or (b :: rest) pos) tb wb) : DE K er W O X (.BoolOp .Or (a :: b :: rest) pos) (tOrV ta tb) (wOrV wa wb) := ⟨pe_or A.1 B.1, se_orV A.2 B.2⟩
theorem de_one {op : PySem.BoolOp} (A : DE K er W O X a ta wa) : DE K er W O X (.BoolOp op [a] pos) ta wa := ⟨pe_one A.1, A.2⟩
theorem de_ifx (C : DT K er W O X c tt wt) (A : DE K er W O X a ta wa) (B : DE K er W O X b tb wb) : DE K er W O X (.IfExp c a b pos) (tIf tt ta tb) (wIf wt wa wb) := ⟨pe_ifExp C.1 A.1 B.1, se_if C.2 A.2 B.2⟩
theorem da_nil' : DA K er W O X [] tNil waNil := ⟨pa_nil, sa_nil⟩
theorem da_cons' (A : DE K er W O X e te we) (R : DA K er W O X es t wl) (hs : starEach (e :: es) X.env = (false, eval e X.env) :: starEach es X.env := by rfl) : DA K er W O X (e :: es) (tCons te t) (waCons we wl) := ⟨pa_cons A.1 R.1 hs, sa_cons A.2 R.2⟩
theorem du_nil : DU K er W O X [] tNil wuNil := ⟨pa_nil, su_nil⟩
theorem du_cons {wu : WU} (A : DE K er W O X e te we) (R : DU K er W O X es t wu) (hs : starEach (e :: es) X.env = (false, eval e X.env) :: starEach es X.env := by rfl) : DU K er W O X (e :: es) (tCons te t) (wuCons we wu) := ⟨pa_cons A.1 R.1 hs, su_cons A.2 R.2⟩
theorem dk_nil : DK K er W O X [] tNil wuNil := ⟨pk_nil, su_nil⟩
theorem dk_cons {wu : WU} {kws : List Keyword} {nm : Option Str} {kpos : Pos} (A : DE K er W O X e te we) (R : DK K er W O X kws t wu) : DK K er W O X (⟨nm, e, kpos⟩ :: kws) (tCons te t) (wuCons we wu) := ⟨pk_cons A.1 R.1, su_cons A.2 R.2⟩
theorem de_tup {y} (R : DA K er W O X es t wl) : DE K er W O X (.Tuple es y pos) (tTup t) (wTup wl) := ⟨pe_tup R.1, se_tup R.2⟩
theorem de_lst (R : DA K er W O X es t wl) : DE K er W O X (.List es pos) (tLst t) (wLst wl) := ⟨pe_lst R.1, se_lst R.2⟩
theorem de_ix (hK : X.K = K) (A : DE K er W O X a ta wa) (B : DE K er W O X b tb wb) (hs : PlainIx b := by exact fun _ _ => rfl) : DE K er W O X (.Subscript a b pos) (tOp (rIx K) ta tb) (wOp gIx wa wb) := ⟨xIxK K hK A.1 B.1 hs, se_op os_ix A.2 B.2⟩
theorem do_none : DO K er W O X none tNoPart woNone := ⟨po_none, so_none⟩
theorem do_some (A : DE K er W O X a ta wa) : DO K er W O X (some a) (tPart ta) (woSome wa) := ⟨po_some A.1, so_some A.2⟩
theorem sl_u : SlR X (rSlU X.K) := fun pins s σ H x v vl vu lo hi sl Q I rx hs pl pu h => by
  rcases h with h | h | h
  · exact sl_list pins s σ H x v vl vu lo hi sl Q I rx hs pl pu h
  · exact sl_tupA pins s σ H x v vl vu lo hi sl Q I rx hs pl pu h
  · exact sl_str pins s σ H x v vl vu lo hi sl Q I rx hs pl pu h
theorem de_sl {lo hi : Option Expr} {tl th : TO} {wlo whi : WO} (hK : X.K = K) (A : DE K er W O X a ta wa) (L : DO K er W O X lo tl wlo) (U : DO K er W O X hi th whi) : DE K er W O X (.Subscript a (.Slice lo hi none p) pos) (tSl (rSlU K) ta tl th) (wSl wa wlo whi) := by
  subst hK
  exact ⟨pe_slice sl_u A.1 L.1 U.1, se_sl A.2 L.2 U.2⟩
theorem de_rev {k : Nat} {p1 p2 p3 : Pos} (hK : X.K = K) (A : DE K er W O X a ta wa) : DE K er W O X (.Subscript a (.Slice none none (some (.UnaryOp .USub (.Constant (.int 1) k p1) p2)) p3) pos) (tRevL K ta) (wUn gRev wa) := by
  subst hK
  exact ⟨pe_revL A.1, se_rev A.2⟩
/-! the operators' rules -/
theorem op_addW (hK : X.K = K) : OpR X (binaryOp .Add) (rPlus K) := op_plusK K hK
theorem op_eqW (hK : X.K = K) (hu : X.A.units + 64 < cLine) : OpR X (compareOp .Eq) (rEqD K) := op_eqK K hK hu
theorem op_neW (hK : X.K = K) (hu : X.A.units + 64 < cLine) : OpR X (compareOp .NotEq) (rNeD K) := op_neK K hK hu
theorem op_ltW : OpR X (compareOp .Lt) (rB0 (fun i j => decide (i < j)) fun i j => decide (i.cps.toList < j.cps.toList)) := or_op op_lt op_lt_str
theorem op_leW : OpR X (compareOp .LtE) (rB0 (fun i j => decide (i ≤ j)) fun i j => !decide (j.cps.toList < i.cps.toList)) := or_op op_le op_le_str
theorem op_gtW : OpR X (compareOp .Gt) (rB0 (fun i j => decide (j < i)) fun i j => decide (j.cps.toList < i.cps.toList)) := or_op op_gt op_gt_str
theorem op_geW : OpR X (compareOp .GtE) (rB0 (fun i j => decide (j ≤ i)) fun i j => !decide (i.cps.toList < j.cps.toList)) := or_op op_ge op_ge_str
theorem op_inW (hK : X.K = K) (hu : X.A.units + 65 < cLine) : OpR X (compareOp .In) (rInU K) := or_op (op_inK K hK hu) (or_op (op_inTK K hK hu) op_in_sign)
theorem op_niW (hK : X.K = K) (hu : X.A.units + 65 < cLine) : OpR X (compareOp .NotIn) (rNotInU K) := or_op (op_niK K hK hu) (or_op (op_niTK K hK hu) op_notIn_sign)
/-! tests -/
theorem dt_val (A : DE K er W O X a ta wa) (he : ∀ whole, isTrue a X.env whole = (do let v ← whole; standAt a.pos; holding [v] (truthy v)) := by intro _; rfl) : DT K er W O X a (tB ta) (wTest wa) := ⟨pt_val A.1 he, st_B A.2⟩
theorem dt_tr (hK : X.K = K) (A : DE K er W O X a ta wa) (he : ∀ whole, isTrue a X.env whole = (do let v ← whole; standAt a.pos; holding [v] (truthy v)) := by intro _; rfl) : DT K er W O X a (tTruth K ta) (wTr wa) := ⟨xTruthK K hK A.1 he, st_tr A.2⟩
theorem dt_not (A : DT K er W O X a tt wt) : DT K er W O X (.UnaryOp .Not a pos) (tNot tt) (wNot wt) := ⟨pt_not A.1, st_not A.2⟩
theorem dt_w (A : DTw K er W O X a tt wt) : DT K er W O X a tt wt := ⟨A.1.pt, A.2⟩
theorem dw_and1 (A : DT K er W O X a tt wt) : DTw K er W O X (.BoolOp .And [a] pos) tt wt := ⟨pw_and1 A.1, A.2⟩
theorem dw_or1 (A : DT K er W O X a tt wt) : DTw K er W O X (.BoolOp .Or [a] pos) tt wt := ⟨pw_or1 A.1, A.2⟩
theorem dw_and (A : DT K er W O X a tt wt) (B : DTw K er W O X (.BoolOp .And (b :: rest) pos) tu wu) : DTw K er W O X (.BoolOp .And (a :: b :: rest) pos) (tAnd tt tu) (wAnd wt wu) := ⟨pw_and A.1 B.1, st_and A.2 B.2⟩
theorem dw_or (A : DT K er W O X a tt wt) (B : DTw K er W O X (.BoolOp .Or (b :: rest) pos) tu wu) : DTw K er W O X (.BoolOp .Or (a :: b :: rest) pos) (tOr tt tu) (wOr wt wu) := ⟨pw_or A.1 B.1, st_or A.2 B.2⟩
theorem dts_nil : DTs K er W O X [] tYes wYes := ⟨pts_nil, st_yes⟩
theorem dts_one (A : DT K er W O X a tt wt) : DTs K er W O X [a] tt wt := ⟨pts_one A.1, A.2⟩
/-! built-in calls -/
theorem de_b1 {id : String} {r : List V → Hp → VK → Prop} {g : G1} (hc : CallR X (.builtin id) r) (o : UnS K (fun x H Q => r [x] H Q) g) (hm : X.mg x = none) (A : DE K er W O X a ta wa) (hg : Gl X x := by rfl) (hv : bootBuiltins x = some (.builtin id) := by decide +kernel) (hn : x ≠ "__name__" := by decide) (hdb : (x == ("__debug__" : Str)) = false := by decide)
    (he : starEach [a] X.env = (false, eval a X.env) :: starEach [] X.env := by rfl) (hpl : (backTo pos (starEach [] X.env)).any (·.1) = false := by rfl) : DE K er W O X (.Call (.Name x p) [a] [] pos) (tCB r (tCons ta tNil)) (wUn g wa) := ⟨xB r hc hm (pa_cons A.1 pa_nil he) hg hv hn hdb he hpl, se_cb1 o A.2⟩
theorem de_t1 {T : String} {r : List V → Hp → VK → Prop} {g : G1} (hc : CallR X (.type T) r) (o : UnS K (fun x H Q => r [x] H Q) g) (hm : X.mg x = none) (A : DE K er W O X a ta wa) (hg : Gl X x := by rfl) (hv : bootBuiltins x = some (.type T) := by decide +kernel) (hn : x ≠ "__name__" := by decide) (hdb : (x == ("__debug__" : Str)) = false := by decide)
    (he : starEach [a] X.env = (false, eval a X.env) :: starEach [] X.env := by rfl) (hpl : (backTo pos (starEach [] X.env)).any (·.1) = false := by rfl) : DE K er W O X (.Call (.Name x p) [a] [] pos) (tCB r (tCons ta tNil)) (wUn g wa) := ⟨xT r hc hm (pa_cons A.1 pa_nil he) hg hv hn hdb he hpl, se_cb1 o A.2⟩
theorem de_bn {id : String} {r : List V → Hp → VK → Prop} {g : List PyData → (PyData → Prop) → Prop} (hc : CallR X (.builtin id) r) (o : CbS K r g) (hm : X.mg x = none) (A : DA K er W O X (e :: es) t wl) (hg : Gl X x := by rfl) (hv : bootBuiltins x = some (.builtin id) := by decide +kernel) (hn : x ≠ "__name__" := by decide) (hdb : (x == ("__debug__" : Str)) = false := by decide)
    (he : starEach (e :: es) X.env = (false, eval e X.env) :: starEach es X.env := by rfl) (hpl : (backTo pos (starEach es X.env)).any (·.1) = false := by rfl) : DE K er W O X (.Call (.Name x p) (e :: es) [] pos) (tCB r t) (wCB g wl) := ⟨xB r hc hm A.1 hg hv hn hdb he hpl, se_cb o A.2⟩
theorem callW_isi (hK : X.K = K) : CallR X (.builtin "isinstance") (rIsi K) := by subst hK; exact call_isi
theorem callW_isiT (hK : X.K = K) : CallR X (.builtin "isinstance") (rIsiT K) := by subst hK; exact call_isiT
theorem de_isi {n : String} {y : Str} {p2 : Pos} (hK : X.K = K) (hn : n ∈ tys) (hm : X.mg "isinstance" = none) (A : DE K er W O X a ta wa) (B : PE X (.Name y p2) (tC (.ty n))) (hg : Gl X "isinstance" := by rfl)
    (he : starEach [a, .Name y p2] X.env = (false, eval a X.env) :: starEach [.Name y p2] X.env := by rfl) (he2 : starEach [.Name y p2] X.env = (false, eval (.Name y p2) X.env) :: starEach [] X.env := by rfl) (hpl : (backTo pos (starEach [.Name y p2] X.env)).any (·.1) = false := by rfl) :
    DE K er W O X (.Call (.Name "isinstance" p) [a, .Name y p2] [] pos) (tCB (rIsi K) (tCons ta (tCons (tC (.ty n)) tNil))) (wIsi n wa) := ⟨xB _ (callW_isi hK) hm (pa_cons A.1 (pa_cons B pa_nil he2) he) hg (by decide +kernel) (by decide) (by decide) he hpl, se_isi hn A.2⟩
theorem de_isi2 {n m : String} {c : Expr} (hK : X.K = K) (hn : n ∈ tys) (hn2 : m ∈ tys) (hm : X.mg "isinstance" = none) (A : DE K er W O X a ta wa) (B : PE X c (tTup (tCons (tC (.ty n)) (tCons (tC (.ty m)) tNil)))) (hg : Gl X "isinstance" := by rfl)
    (he : starEach [a, c] X.env = (false, eval a X.env) :: starEach [c] X.env := by rfl) (he2 : starEach [c] X.env = (false, eval c X.env) :: starEach [] X.env := by rfl) (hpl : (backTo pos (starEach [c] X.env)).any (·.1) = false := by rfl) :
    DE K er W O X (.Call (.Name "isinstance" p) [a, c] [] pos) (tCB (rIsiT K) (tCons ta (tCons (tTup (tCons (tC (.ty n)) (tCons (tC (.ty m)) tNil))) tNil))) (wIsi2 n m wa) := ⟨xB _ (callW_isiT hK) hm (pa_cons A.1 (pa_cons B pa_nil he2) he) hg (by decide +kernel) (by decide) (by decide) he hpl, se_isi2 hn hn2 A.2⟩
end
/-! calls of defs -/
theorem passW {X : Cx} {W : WX} (tk : Takes X W) : ∀ σ, PassesAt (L2.CX X.prog X.w) X σ (L2.WE W σ) := fun σ => passAt tk σ
theorem passN {X : Cx} : ∀ σ, PassesAt (L2.CX X.prog X.w) X σ (L2.WE W0 σ) := fun σ pins H s e s' I h => by
  obtain ⟨_, _, _, _, _, _, _, _, _, _, _, _, z⟩ := h
  exact z.elim
section
variable {K : PySem.W.Frag} {er : Ers} {W : WX} {O O' : Md → Prop} {X : Cx} {e a b c : Expr} {es rest : List Expr} {ta tb tc te : TE} {wa wb wc we : WE} {tt tu : TT} {wt : WT} {t tk : TA} {wu wk : WU} {p p' pos : Pos} {x : Str} {k n : Nat} {ps ks : List Str} {π : List Nat} {kws : List Keyword} {pre : List AV → Prop} {post : List AV → PyData → Prop} {exc : List AV → Str → PyData → Prop}
theorem de_call (C : Ca5 X.prog X.w X.K X.mg X.base (L2.CX X.prog X.w) k x ps (spU K er O' pre post exc)) (hA : X.A.guards = some []) (hr : Room k X.A) (hx : ∀ σ, PassesAt (L2.CX X.prog X.w) X σ (L2.WE W σ)) (hO : ∀ M, O M → O' M) (A : DU K er W O X (e :: es) t wu) (hg : Gl X x := by rfl) (hdb : (x == ("__debug__" : Str)) = false := by decide)
    (he : starEach (e :: es) X.env = (false, eval e X.env) :: starEach es X.env := by rfl) (hpl : (backTo pos (starEach es X.env)).any (·.1) = false := by rfl) : DE K er W O X (.Call (.Name x p) (e :: es) [] pos) (tCallS (spU K er O' pre post exc) (L2.WE W) t) (wCall pre post exc wu) := ⟨pe_callW C hA hr hx A.1 hg hdb he hpl, se_call hO A.2⟩
theorem de_callK (C : CaN X.prog X.w X.K X.mg X.base (L2.CX X.prog X.w) k x ps n ks π (spU K er O' pre post exc)) (hA : X.A.guards = some []) (hr : Room k X.A) (hx : ∀ σ, PassesAt (L2.CX X.prog X.w) X σ (L2.WE W σ)) (hO : ∀ M, O M → O' M) (A : DU K er W O X (e :: es) t wu) (B : DK K er W O X kws tk wk) (hg : Gl X x := by rfl) (hdb : (x == ("__debug__" : Str)) = false := by decide)
    (hall : (backToKw pos (keywordEach kws X.env)).all (·.1.isSome) = true := by rfl) (hks : (backToKw pos (keywordEach kws X.env)).filterMap (·.1) = ks := by rfl) (he : starEach (e :: es) X.env = (false, eval e X.env) :: starEach es X.env := by rfl)
    (hpl : ((backTo pos (starEach (e :: es) X.env)).any (·.1) || (backToKw pos (keywordEach kws X.env)).any (·.1.isNone)) = false := by rfl) : DE K er W O X (.Call (.Name x p) (e :: es) kws pos) (tCallW (spU K er O' pre post exc) π n ks.length (L2.WE W) t tk) (wCallK pre post exc π n ks.length wu wk) := ⟨pe_callWK C hA hr hx A.1 B.1 hg hdb hall hks he hpl, se_callK hO A.2 B.2⟩
theorem de_call0 (C : CaN X.prog X.w X.K X.mg X.base (L2.CX X.prog X.w) k x ps 0 ks π (spU K er O' pre post exc)) (hA : X.A.guards = some []) (hr : Room k X.A) (hx : ∀ σ, PassesAt (L2.CX X.prog X.w) X σ (L2.WE W σ)) (hO : ∀ M, O M → O' M) (B : DK K er W O X kws tk wk) (hg : Gl X x := by rfl) (hdb : (x == ("__debug__" : Str)) = false := by decide)
    (hall : (backToKw pos (keywordEach kws X.env)).all (·.1.isSome) = true := by rfl) (hks : (backToKw pos (keywordEach kws X.env)).filterMap (·.1) = ks := by rfl)
    (hpl : ((backTo pos (starEach [] X.env)).any (·.1) || (backToKw pos (keywordEach kws X.env)).any (·.1.isNone)) = false := by rfl) : DE K er W O X (.Call (.Name x p) [] kws pos) (tCallW (spU K er O' pre post exc) π 0 ks.length (L2.WE W) tNil tk) (wCallK pre post exc π 0 ks.length wuNil wk) := ⟨pe_callW0 C hA hr hx B.1 hg hdb hall hks hpl, se_callK hO su_nil B.2⟩
end
/-! targets, what is walked, comprehensions -/
section
variable {K : PySem.W.Frag} {er : Ers} {W : WX} {O : Md → Prop} {X : Cx} {e a b c tg : Expr} {es rest : List Expr} {ta tb tc te : TE} {wa wb wc we : WE} {tt tu : TT} {wt wu : WT} {t : TA} {wl : WA} {p p' pos pos' : Pos} {x : Str} {i : Nat} {g : TG} {gs : TGs} {wg : WG} {wgs : WGs} {wi : TI} {ww : WI}
theorem dg_name (h : PG X a (gName i)) : DG K X a (gName i) (wgName i) := ⟨h, sg_name⟩
theorem dgs_nil : DGs K X [] gNil wgNil := ⟨pgs_nil, sg_nil⟩
theorem dgs_cons (A : DG K X a g wg) (B : DGs K X es gs wgs) (hs : (assignEach (a :: es) X.env).map (·.2) = assign a X.env :: (assignEach es X.env).map (·.2) := by rfl) : DGs K X (a :: es) (gCons g gs) (wgCons wg wgs) := ⟨pgs_cons A.1 B.1 hs, sg_cons A.2 B.2⟩
theorem di_seq (hK : X.K = K) (A : DE K er W O X a ta wa) : DI K er W O X tg a (iSeqS K ta) (wiSeq wa) := ⟨⟨fun pins s σ H R I h => thn (A.1.run pins s σ H _ I h) fun v s1 ⟨x, G, I1, r1, told⟩ => by
    subst hK
    have one : ∀ {o : Obj} {b : Addr}, b ∈ [s1.heap.objs.size] → FpOk X pins G b := fun {o b} hb => by
      rw [List.mem_singleton.mp hb]
      exact I1.fpOk (Nat.le_refl _) (I1.hok.fresh (Nat.le_refl _))
    rcases told with ⟨a, xs, e, told⟩ | ⟨z, e, r⟩
    · subst e
      cases r1
      rcases told with ⟨hq, r⟩ | ⟨hq, r⟩
      · obtain ⟨its, _, p, _⟩ := I1.list hq
        exact wpAny_pyIter_list p.isList ⟨s1.heap.objs.size, [s1.heap.objs.size], _, _, G, rfl, I1.kept (t' := s1.toks) fun b o e => Heap.get?_push_of_some _ e, turn_list a _, ⟨_, Heap.get?_push_size _ rfl, rfl, rfl⟩, fun b hb => one (o := ⟨.none, none, .plain, #[]⟩) hb, r⟩
      · obtain ⟨its, _, p, _⟩ := I1.tuple hq
        exact wpAny_pyIter_tuple (show s1.heap.IsTuple a its.toArray from p) ⟨s1.heap.objs.size, [s1.heap.objs.size], _, _, G, rfl, I1.kept (t' := s1.toks) fun b o e => Heap.get?_push_of_some _ e, turn_tuple a _, ⟨_, Heap.get?_push_size _ rfl, rfl, rfl⟩, fun b hb => one (o := ⟨.none, none, .plain, #[]⟩) hb, r⟩
    · subst e
      obtain ⟨t, rfl⟩ := r1
      cases ha : z.cps.all (· < 128)
      · exact wpAny_pyIter_wide ha (pi_one (tk := s1.toks) I1 _ (turn_str _ z t "str_iterator" (.inr rfl)) ⟨_, Heap.get?_push_size _ rfl, rfl, rfl⟩ r)
      · exact wpAny_pyIter_ascii ha (pi_one (tk := s1.toks) I1 _ (turn_str _ z t "str_ascii_iterator" (.inl rfl)) ⟨_, Heap.get?_push_size _ rfl, rfl, rfl⟩ r)⟩, si_seq A.2⟩
theorem dg_tup (hK : X.K = K) {n : Nat} {y} (hc : X.calm = true) (A : DGs K X es gs wgs) (hn : (assignEach es X.env).length = n := by rfl) (hst : (assignEach es X.env).findIdx? (·.1) = none := by rfl) : DG K X (.Tuple es y pos) (gTup K n gs) (wgTup n wgs) := by
  subst hK
  exact ⟨pg_tup hc A.1 hn hst, sg_tup A.2⟩
theorem di_rng1 (hg : Gl X "range") (hm : X.mg "range" = none) (A : DA K er W O X [a] t wl) (hs : starEach [a] X.env = [(false, eval a X.env)] := by rfl) : DI K er W O X tg (.Call (.Name "range" p) [a] [] pos) (iRng1 t) (wiRng1 wl) := ⟨pi_range1 hg hm A.1 hs, si_rng1 A.2⟩
theorem di_rng2 (hg : Gl X "range") (hm : X.mg "range" = none) (A : DA K er W O X [a, b] t wl) (hs : starEach [a, b] X.env = [(false, eval a X.env), (false, eval b X.env)] := by rfl) (hs2 : starEach [b] X.env = [(false, eval b X.env)] := by rfl) : DI K er W O X tg (.Call (.Name "range" p) [a, b] [] pos) (iRng2 t) (wiRng2 wl) := ⟨pi_range2 hg hm A.1 hs hs2, si_rng2 A.2⟩
theorem de_lc {elt iter : Expr} {ifs : List Expr} {scope : Scope} {own : List (Str × Nat)} (hc : X.calm = true) (hN : X.N.Nodup) (hi : DI K er W O X tg iter wi ww) (ok : BlkOk X.N X.env.scope scope own) (tin : Tin (own.map (·.2)) g)
    (hg : ∀ (s : Shared) (H : Hp) (C : Addr) (cl : List (Str × Addr)) (fp : List Addr), DG K (X.blk s H scope (compEnvC scope cl C X.env) fp) tg g wg) (ht : ∀ (s : Shared) (H : Hp) (C : Addr) (cl : List (Str × Addr)) (fp : List Addr), DTs K er W0 O (X.blk s H scope (compEnvC scope cl C X.env) fp) ifs tt wt)
    (he : ∀ (s : Shared) (H : Hp) (C : Addr) (cl : List (Str × Addr)) (fp : List Addr), DE K er W0 O (X.blk s H scope (compEnvC scope cl C X.env) fp) elt te we) (hs : ∀ x, foldedSetIterable iter X.env x = pure x := by intro _; rfl) :
    DE K er W O X (.ListComp elt [⟨tg, iter, ifs, 0⟩] scope pos) (tLc wi g tt te (own.map (·.2))) (wLc ww wg wt we (own.map (·.2))) :=
  ⟨pe_lc hc hN hi.1 ok (fun s H C cl fp => (hg s H C cl fp).1) (fun s H C cl fp => (ht s H C cl fp).1) (fun s H C cl fp => (he s H C cl fp).1) hs,
    se_lc hi.2 (hg {} (fun _ => none) 0 [] []).2 tin (ht {} (fun _ => none) 0 [] []).2 (he {} (fun _ => none) 0 [] []).2⟩
theorem di_enum {x1 : Expr} (hK : X.K = K) (hg : Gl X "enumerate") (hm : X.mg "enumerate" = none) (A : DA K er W O X [x1] t wl) (h : PI X tg (.Call (.Name "enumerate" p) [x1] [] pos) (iEnum K t)) : DI K er W O X tg (.Call (.Name "enumerate" p) [x1] [] pos) (iEnum K t) (wiEnum wl) := ⟨h, si_enum A.2⟩
end
/-! statements -/
section
variable {K : PySem.W.Frag} {er : Ers} {W : WX} {O : Md → Prop} {X : Cx} {e a b c tg iter : Expr} {es : List Expr} {ta tb tc te : TE} {wa wb wc we : WE} {tt tu : TT} {wt wu : WT} {t : TA} {wl : WA} {p p' p2 pos pos' : Pos} {x y : Str} {i j : Nat} {g : TG} {gs : TGs} {wg : WG} {wgs : WGs} {wi : TI} {ww : WI} {st : Stmt} {rest body els : List Stmt} {ts us : TS} {ws vs : WS}
theorem dss_nil : DSs K er W O X [] tNext wNext := ⟨pss_nil, ss_nil⟩
theorem dss_cons (A : DS K er W O X st ts ws) (B : DSs K er W O X rest us vs) : DSs K er W O X (st :: rest) (tSeq ts us) (wSeq ws vs) := ⟨pss_cons A.1 B.1, ss_seq A.2 B.2⟩
theorem dss_one (A : DS K er W O X st ts ws) : DSs K er W O X [st] ts ws := ⟨pss_one A.1, A.2⟩
theorem ds_set (hN : X.N.Nodup) (hi : X.N[i]? = some x) (hx : Loc X.env.scope x) (A : DE K er W O X e te we) (hs : swapsWith e (some (.Name x p)) pos.line X.env = pure false := by rfl) (hf : X.fn x = true ∨ X.env.scope.names.lookup x = some .local := by first | exact .inl rfl | exact .inr rfl | assumption) : DS K er W O X (.Assign [.Name x p] e pos) (tAsg te (gName i)) (wSet i we) := ⟨ps_set hN hi hx A.1 hs hf, ss_set A.2⟩
theorem ds_new (hN : X.N.Nodup) (hi : X.N[i]? = some x) (hx : Loc X.env.scope x) (hs : swapsWith (.List [] p2) (some (.Name x p)) pos.line X.env = pure false := by rfl) (hf : X.fn x = true ∨ X.env.scope.names.lookup x = some .local := by first | exact .inl rfl | exact .inr rfl | assumption) : DS K er W O X (.Assign [.Name x p] (.List [] p2) pos) (tAsg (tLst tNil) (gName i)) (wNew i) := ⟨ps_set hN hi hx (pe_lst pa_nil) hs hf, ss_new⟩
theorem ds_newL (hN : X.N.Nodup) (hi : X.N[i]? = some x) (hx : Loc X.env.scope x) (A : DA K er W O X es t wl) (hs : swapsWith (.List es p2) (some (.Name x p)) pos.line X.env = pure false := by rfl) (hf : X.fn x = true ∨ X.env.scope.names.lookup x = some .local := by first | exact .inl rfl | exact .inr rfl | assumption) : DS K er W O X (.Assign [.Name x p] (.List es p2) pos) (tAsg (tLst t) (gName i)) (wNewL i wl) := ⟨ps_set hN hi hx (pe_lst A.1) hs hf, ss_newL A.2⟩
theorem ds_newC (hN : X.N.Nodup) (hi : X.N[i]? = some x) (hx : Loc X.env.scope x) (hc : CallR X (.type "list") (rLstOf K)) (hm : X.mg "list" = none) (A : DE K er W O X a ta wa) (hg : Gl X "list" := by rfl) (he : starEach [a] X.env = (false, eval a X.env) :: starEach [] X.env := by rfl) (hpl : (backTo pos' (starEach [] X.env)).any (·.1) = false := by rfl)
    (hs : swapsWith (.Call (.Name "list" p2) [a] [] pos') (some (.Name x p)) pos.line X.env = pure false := by rfl) (hf : X.fn x = true ∨ X.env.scope.names.lookup x = some .local := by first | exact .inl rfl | exact .inr rfl | assumption) : DS K er W O X (.Assign [.Name x p] (.Call (.Name "list" p2) [a] [] pos') pos) (tAsg (tCB (rLstOf K) (tCons ta tNil)) (gName i)) (wNewC i wa) := ⟨ps_set hN hi hx (xT _ hc hm (pa_cons A.1 pa_nil he) hg (by decide +kernel) (by decide) (by decide) he hpl) hs hf, ss_newC A.2⟩
theorem ds_asg (A : DE K er W O X e te we) (B : DG K X tg g wg) (hs : swapsWithSole [tg] e pos.line X.env = pure false := by rfl) (hw : swappedStores [tg] e X.env = pure none := by rfl) (h1 : (assignEach [tg] X.env).map (·.2) = [assign tg X.env] := by rfl) : DS K er W O X (.Assign [tg] e pos) (tAsg te g) (wAsg we wg) := ⟨ps_asg A.1 B.1 hs hw h1, ss_asg A.2 B.2⟩
theorem ds_par (h : PS X st (tPar i j t)) (A : SA K er W O t wl) : DS K er W O X st (tPar i j t) (wPar i j wl) := ⟨h, ss_par A⟩
theorem ds_par3 {k : Nat} (h : PS X st (tPar3 i j k t)) (A : SA K er W O t wl) : DS K er W O X st (tPar3 i j k t) (wPar3 i j k wl) := ⟨h, ss_par3 A⟩
theorem ds_expr (A : DE K er W O X e te we) (hs : swapsWith e none pos.line X.env = pure false := by rfl) : DS K er W O X (.Expr e pos) (tDrop te) (wExpr we) := ⟨ps_expr A.1 hs, ss_expr A.2⟩
theorem ds_app (h : PS X st (tDrop (tBM K "list" rAppend (tVar i) (tCons te tNil)))) (A : SE K er W O te we) : DS K er W O X st (tDrop (tBM K "list" rAppend (tVar i) (tCons te tNil))) (wApp i we) := ⟨h, ss_app A⟩
theorem ds_ext (h : PS X st (tDrop (tBM K "list" rExtend (tVar i) (tCons te tNil)))) (A : SE K er W O te we) : DS K er W O X st (tDrop (tBM K "list" rExtend (tVar i) (tCons te tNil))) (wExt i we) := ⟨h, ss_ext A⟩
theorem de_pop (h : PE X e (tBM0 K "list" rPop (tVar i))) : DE K er W O X e (tBM0 K "list" rPop (tVar i)) (wPop i) := ⟨h, se_pop⟩
theorem ds_if (C : DT K er W O X c tt wt) (A : DSs K er W O X body ts ws) (B : DSs K er W O X els us vs) : DS K er W O X (.If c body els pos) (tIfS tt ts us) (wIfS wt ws vs) := ⟨ps_if C.1 A.1 B.1, ss_if C.2 A.2 B.2⟩
theorem ds_ret (A : DE K er W O X e te we) : DS K er W O X (.Return (some e) pos) (tRet te) (wRet we) := ⟨ps_ret A.1, ss_ret A.2⟩
theorem ds_retN : DS K er W O X (.Return none pos) tRetN wRetN := ⟨ps_retN, ss_retN⟩
theorem ds_brk : DS K er W O X (.Break pos) tBreak wBreak := ⟨ps_break, ss_brk⟩
theorem ds_cont : DS K er W O X (.Continue pos) tCont wCont := ⟨ps_continue, ss_cont⟩
theorem ds_pass : DS K er W O X (.Pass pos) tNext wNext := ⟨ps_pass, ss_nil⟩
theorem ds_aug {op : Operator} {ti : TIp} {g : G2} (hN : X.N.Nodup) (hi : X.N[i]? = some x) (hx : Loc X.env.scope x) (ho : PIp X op ti) (o : OpS K ti g) (A : DE K er W O X e te we) (h : PS X st (tAug i te ti)) : DS K er W O X st (tAug i te ti) (wAug i g we) := ⟨h, ss_aug o A.2⟩
theorem ds_while (hp : PassesOwn (model X.prog X.w) X.A X.env X.xe) (C : DT K er W O X c tt wt) (A : DSs K er W O X body ts ws) : DS K er W O X (.While c body [] pos) (tWhile tt ts) (wWhile wt ws) := ⟨ps_while hp C.1 A.1, ss_while C.2 A.2⟩
theorem ds_for (hp : PassesOwn (model X.prog X.w) X.A X.env X.xe) (hc : X.calm = true) (hi : DI K er W O X tg iter wi ww) (hg : DG K X tg g wg) (A : DSs K er W O X body ts ws) (hs : ∀ x, foldedSetIterable iter X.env x = pure x := by intro _; rfl) : DS K er W O X (.For tg iter body [] pos) (tFor wi g ts) (wFor ww wg ws) := ⟨ps_for hp hc hi.1 hg.1 A.1 hs, ss_for hi.2 hg.2 A.2⟩
/-- raise C(e) -/
theorem ss_raise {f : Str} (hno : PySem.W.findIn K (.ref (er.cl x)) f = some none) (hf : er.fl x = f) (h : SE K er W O te we) : SS K er W O (tRz K (er.cl x) f te W) (wRaise x we) := fun M mo J0 H0 Pr s σ J H f' E D q kk he => by
  subst hf
  refine h M mo J0 H0 Pr s σ J H f' _ _ q he _ fun v r s1 J1 H1 f1 b1 va q1 => ?_
  obtain ⟨d, s2, J2, q2, b2, a2, f2⟩ := frz_use f1 va q1
  refine ⟨by show 1 ≤ 1000; decide, fun e he' => ⟨e, v, rfl, hno, upd_same, fun dx hx ne => ⟨rfl, dx, [(er.fl x, v)], upd_same, ?_, ?_, ?_⟩⟩⟩
  · rw [upd_ne ne, upd_same]
  · rw [upd_ne ne] at hx; exact hx
  · rw [upd_ne ne] at hx
    have e1 : upd (del (upd (upd (upd H1 e (exo e (er.cl x) none)) dx (exd dx [(er.fl x, v)])) e (exo e (er.cl x) (some dx))) e) dx (.xd [(er.fl x, v)]) = upd H1 dx (.xd [(er.fl x, v)]) := by
      funext b
      by_cases hb : b = dx
      · rw [hb, upd_same, upd_same]
      · rw [upd_ne hb, upd_ne hb]
        by_cases hc : b = e
        · rw [hc, del_same, he']
        · rw [del_ne hc, upd_ne hc, upd_ne hb, upd_ne hc]
    rw [e1]
    exact he x d s2 σ dx v J2 _ (f2.step (f2.wf.cell hx)) q2 upd_same a2 ⟨f2.new0 hx, f2.wf.jh.back hx⟩
theorem ds_raise {f : Str} (R : Er X.prog X.w X.K X.mg X.base x (er.cl x) f) (hK : X.K = K) (hf : er.fl x = f) (hc : X.calm = true) (tk : Takes X W) (hr : Room 2 X.A) (A : DE K er W O X e te we) (hg : Gl X x := by rfl) (hdb : (x == ("__debug__" : Str)) = false := by decide)
    (hs : starEach [e] X.env = (false, eval e X.env) :: starEach [] X.env := by rfl) (hs2 : (backTo pos (starEach [] X.env)).any (·.1) = false := by rfl) : DS K er W O X (.Raise (some (.Call (.Name x p) [e] [] pos)) none pos') (tRz K (er.cl x) f te W) (wRaise x we) := by
  subst hK
  exact ⟨xRaise R hc tk hr A.1 hg hdb hs hs2, ss_raise R.no hf A.2⟩
end
end DW

/-! Several names at once, lists of one's own among them; a module's constants. -/
namespace DW
open PySem PySem.Spec
open PyProof.Rows L2 DL
inductive NV where
  | d (x : PyData) | new (xs : List PyData)
abbrev WN := Sl → (List NV → Sl → Prop) → EK → Prop
inductive NVs (K : PySem.W.Frag) (J : Hp) : List (Addr × HO) → List V → List NV → Prop
  | nil : NVs K J [] [] []
  | d {v : V} {x : PyData} {L : List (Addr × HO)} {vs : List V} {ns : List NV} : Da K J v x → NVs K J L vs ns → NVs K J L (v :: vs) (.d x :: ns)
  | new {p : Addr} {us : List V} {xs : List PyData} {L : List (Addr × HO)} {vs : List V} {ns : List NV} : Das K J us xs → NVs K J L vs ns → NVs K J ((p, .lst us) :: L) (.ref p :: vs) (.new xs :: ns)
def SN (K : PySem.W.Frag) (er : Ers) (W : WX) (O : Md → Prop) (ta : TA) (wn : WN) : Prop := ∀ M, O M → ∀ J0 H0 Pr s σ J H, Fr K M J0 H0 Pr s σ J H → ∀ Q e, wn s Q e → ErO K er W M J0 H0 Pr e →
  ∀ Qa : List V → Hp → Prop, (∀ L vs ns s' J' H', Fr K M J0 H0 (L ++ Pr) s' σ J' H' → Sub J J' → NVs K J' L vs ns → Q ns s' → Qa vs H') → ta σ H Qa
def wnNil (s : Sl) (Q : List NV → Sl → Prop) (_ : EK) : Prop := Q [] s
def wnD (wa : WE) (wr : WN) (s : Sl) (Q : List NV → Sl → Prop) (e : EK) : Prop := wa s (fun a s1 => frz a s1 fun x s2 => wr s2 (fun xs s3 => Q (.d x :: xs) s3) e) e
def wnNew (wl : WA) (wr : WN) (s : Sl) (Q : List NV → Sl → Prop) (e : EK) : Prop := wl s (fun xs s1 => xs.length ≤ sizeLine ∧ wr s1 (fun ns s2 => Q (.new xs :: ns) s2) e) e
def asgN (s : Sl) : List Nat → List NV → Sl
  | k :: ks, .d x :: ns => asgN (s.set k (some (.d x))) ks ns
  | k :: ks, .new xs :: ns => asgN (s.set k (some (.own xs))) ks ns
  | _, _ => s
def asgV (σ : L2.St) : List Nat → List V → L2.St
  | k :: ks, v :: vs => asgV (σ.set k (some v)) ks vs
  | _, _ => σ
def wParN (ks : List Nat) (wn : WN) (s : Sl) (E : EW) : Prop := wn s (fun ns s1 => ns.length = ks.length ∧ E.nx (asgN s1 ks ns)) E.er
section
variable {K : PySem.W.Frag} {er : Ers} {W : WX} {O : Md → Prop} {ta te : TE} {t t' : TA} {wa : WE} {wl : WA} {wn : WN} {M : Md} {J0 H0 J H J' : Hp} {Pr : List (Addr × HO)} {s : Sl} {σ : L2.St}
theorem NVs.sub (b : Sub J J') {L : List (Addr × HO)} {vs : List V} {ns : List NV} (h : NVs K J L vs ns) : NVs K J' L vs ns := by
  induction h with
  | nil => exact .nil
  | d a _ ih => exact .d (b.da a) ih
  | new a _ ih => exact .new (b.das a) ih
theorem nvs_len {L : List (Addr × HO)} {vs : List V} {ns : List NV} (h : NVs K J L vs ns) : vs.length = ns.length := by
  induction h with
  | nil => rfl
  | d _ _ ih => simp [ih]
  | new _ _ ih => simp [ih]
theorem Fr.perm {Pr' : List (Addr × HO)} (f : Fr K M J0 H0 Pr s σ J H) (h : ∀ q ∈ Pr', q ∈ Pr) (n : (Pr'.map Prod.fst).Nodup) : Fr K M J0 H0 Pr' s σ J H := ⟨f.w0, f.tr, f.len, f.at_, f.sep, fun q hq => f.prt q (h q hq), n⟩
theorem fr_giveN {L : List (Addr × HO)} {vs : List V} {ns : List NV} (a : NVs K J L vs ns) : ∀ {ks : List Nat} {s : Sl} {σ : L2.St}, Fr K M J0 H0 (L ++ Pr) s σ J H → ns.length = ks.length → Fr K M J0 H0 Pr (asgN s ks ns) (asgV σ ks vs) J H := by
  induction a with
  | nil =>
    intro ks s σ f hl
    cases ks with
    | nil => exact f
    | cons k ks => cases hl
  | d a _ ih =>
    intro ks s σ f hl
    cases ks with
    | nil => cases hl
    | cons k ks => exact ih (f.set a) (by simpa using hl)
  | new a _ ih =>
    intro ks s σ f hl
    cases ks with
    | nil => cases hl
    | cons k ks => exact ih (f.give a) (by simpa using hl)
theorem sn_nil : SN K er W O tNil wnNil := fun M mo J0 H0 Pr s σ J H f Q e q he Qa k => k [] [] [] s J H f (.refl _) .nil q
theorem sn_d (ha : SE K er W O ta wa) (hr : SN K er W O t wn) : SN K er W O (tCons ta t) (wnD wa wn) := fun M mo J0 H0 Pr s σ J H f Q e q he Qa k =>
  ha M mo J0 H0 Pr s σ J H f _ e q he _ fun x a s1 J1 H1 f1 b1 va q1 => by
    obtain ⟨dx, s2, J2, q2, b2, ax, f2⟩ := frz_use f1 va q1
    exact hr M mo J0 H0 Pr s2 σ J2 H1 f2 _ e q2 he _ fun L vs ds s3 J3 H3 f3 b3 a3 q3 => k _ _ _ s3 J3 H3 f3 ((b1.trans b2).trans b3) (.d (b3.da ax) a3) q3
theorem sn_new (hl : SA K er W O t' wl) (hr : SN K er W O t wn) : SN K er W O (tCons (tLst t') t) (wnNew wl wn) := fun M mo J0 H0 Pr s σ J H f Q e q he Qa k =>
  hl M mo J0 H0 Pr s σ J H f _ e q he _ fun us xs s1 J1 H1 f1 b1 a1 ⟨l1, q1⟩ => ⟨by rw [das_len a1]; exact l1, fun p hp => by
    have f2 := f1.prot (vs := us) hp
    refine hr M mo J0 H0 _ s1 σ J1 _ f2 _ e q1 (fun c x s σ dx v J H f => he c x s σ dx v J H f.unp) _ fun L vs ns s3 J3 H3 f3 b3 a3 q3 => ?_
    have hn := f3.pn
    refine k ((p, .lst us) :: L) _ _ s3 J3 H3 (f3.perm (fun q hq => ?_) ?_) (b1.trans b3) (.new (b3.das a1) a3) q3
    · rcases List.mem_cons.mp hq with rfl | hq
      · exact List.mem_append_right _ (List.mem_cons_self ..)
      · rcases List.mem_append.mp hq with hq | hq
        · exact List.mem_append_left _ hq
        · exact List.mem_append_right _ (List.mem_cons_of_mem _ hq)
    · rw [List.map_append, List.map_cons] at hn
      rw [List.cons_append, List.map_cons, List.map_append]
      exact List.perm_middle.nodup_iff.mp hn⟩
theorem ss_parN {k l : Nat} (h : SN K er W O t wn) : SS K er W O (tPar k l t) (wParN [k, l] wn) := fun M mo J0 H0 Pr s σ J H f E D q kk he =>
  h M mo J0 H0 Pr s σ J H f _ _ q he _ fun L vs ns s1 J1 H1 f1 b1 a1 ⟨hl, q1⟩ => by
    have f2 := fr_giveN a1 f1 hl
    have hv := (nvs_len a1).trans hl
    match vs, hv with
    | [v, w], _ => exact ⟨v, w, rfl, kk.nx _ _ _ _ f2 b1 q1⟩
theorem ss_parN3 {k l m : Nat} (h : SN K er W O t wn) : SS K er W O (tPar3 k l m t) (wParN [k, l, m] wn) := fun M mo J0 H0 Pr s σ J H f E D q kk he =>
  h M mo J0 H0 Pr s σ J H f _ _ q he _ fun L vs ns s1 J1 H1 f1 b1 a1 ⟨hl, q1⟩ => by
    have f2 := fr_giveN a1 f1 hl
    have hv := (nvs_len a1).trans hl
    match vs, hv with
    | [u, v, w], _ => exact ⟨u, v, w, rfl, kk.nx _ _ _ _ f2 b1 q1⟩
end
abbrev DN (K : PySem.W.Frag) (er : Ers) (W : WX) (O : Md → Prop) (X : Cx) (es : List Expr) (t : TA) (wn : WN) : Prop := PA X es t ∧ SN K er W O t wn
section
variable {K : PySem.W.Frag} {er : Ers} {W : WX} {O : Md → Prop} {X : Cx} {e : Expr} {es ls : List Expr} {te : TE} {we : WE} {t t' : TA} {wl : WA} {wn : WN} {p pos : Pos} {st : Stmt} {i j k : Nat}
theorem dn_nil : DN K er W O X [] tNil wnNil := ⟨pa_nil, sn_nil⟩
theorem dn_d (A : DE K er W O X e te we) (R : DN K er W O X es t wn) (hs : starEach (e :: es) X.env = (false, eval e X.env) :: starEach es X.env := by rfl) : DN K er W O X (e :: es) (tCons te t) (wnD we wn) := ⟨pa_cons A.1 R.1 hs, sn_d A.2 R.2⟩
theorem dn_new (L : DA K er W O X ls t' wl) (R : DN K er W O X es t wn) (hs : starEach (.List ls p :: es) X.env = (false, eval (.List ls p) X.env) :: starEach es X.env := by rfl) : DN K er W O X (.List ls p :: es) (tCons (tLst t') t) (wnNew wl wn) := ⟨pa_cons (pe_lst L.1) R.1 hs, sn_new L.2 R.2⟩
theorem ds_parN (h : PA X es t → PS X st (tPar i j t)) (A : DN K er W O X es t wn) : DS K er W O X st (tPar i j t) (wParN [i, j] wn) := ⟨h A.1, ss_parN A.2⟩
theorem ds_parN3 (h : PA X es t → PS X st (tPar3 i j k t)) (A : DN K er W O X es t wn) : DS K er W O X st (tPar3 i j k t) (wParN [i, j, k] wn) := ⟨h A.1, ss_parN3 A.2⟩
theorem ds_appD (hK : X.K = K) (h : ∀ {tt : TA}, PA X [e] tt → PS X st (tDrop (tBM X.K "list" rAppend (tVar i) tt))) (A : DE K er W O X e te we) (hs : starEach [e] X.env = (false, eval e X.env) :: starEach [] X.env := by rfl) : DS K er W O X st (tDrop (tBM K "list" rAppend (tVar i) (tCons te tNil))) (wApp i we) := by
  subst hK
  exact ds_app (h (pa_cons A.1 pa_nil hs)) A.2
theorem ds_extD (hK : X.K = K) (h : ∀ {tt : TA}, PA X [e] tt → PS X st (tDrop (tBM X.K "list" rExtend (tVar i) tt))) (A : DE K er W O X e te we) (hs : starEach [e] X.env = (false, eval e X.env) :: starEach [] X.env := by rfl) : DS K er W O X st (tDrop (tBM K "list" rExtend (tVar i) (tCons te tNil))) (wExt i we) := by
  subst hK
  exact ds_ext (h (pa_cons A.1 pa_nil hs)) A.2
theorem xGS {x z : Str} {pos : Pos} (h : ∃ t, X.mg x = some (.str z t)) (hg : Gl X x := by rfl) (hd : (x == ("__debug__" : Str)) = false := by decide) : PE X (.Name x pos) (tC (.str z)) := by
  obtain ⟨t, h⟩ := h
  exact pe_glob hg h ⟨t, rfl⟩ hd
theorem hu64 {A : Around} {k : Nat} (h : Room k A) : A.units + 64 < cLine := by have := h.un; omega
theorem hu65 {A : Around} {k : Nat} (h : Room k A) : A.units + 65 < cLine := by have := h.un; omega
end
end DW

/-! More operations. -/
namespace DW
open PySem PySem.Spec
open PyProof.Rows L2 DL
def gMin2 (xs : List PyData) (k : PyData → Prop) : Prop := match xs with
  | [.int i, .int j] => k (.int (if j < i then j else i))
  | _ => False
def gMax2 (xs : List PyData) (k : PyData → Prop) : Prop := match xs with
  | [.int i, .int j] => k (.int (if j > i then j else i))
  | _ => False
def gRep : G2
  | .tuple xs, .int n, k => xs ≠ [] ∧ -(2 ^ 60) < n ∧ n < 2 ^ 60 ∧ xs.length * n.toNat ≤ 100000 ∧ k (.tuple (List.replicate n.toNat xs).flatten)
  | .list xs, .int n, k => 0 ≤ n ∧ n < 2 ^ 60 ∧ xs.length * n.toNat ≤ sizeLine ∧ k (.list (List.replicate n.toNat xs).flatten)
  | _, _, _ => False
def gIsB : G2
  | .bool a, .bool b, k => k (.bool (decide (a = b)))
  | _, _, _ => False
def gIsntB : G2
  | .bool a, .bool b, k => k (.bool (!decide (a = b)))
  | _, _, _ => False
/-- the texts of a list -/
def strsOf : List PyData → Option (List Str)
  | [] => some []
  | .str z :: r => (strsOf r).map (z :: ·)
  | _ => none
/-- the ints, the truth values of a list -/
def intsOf : List PyData → Option (List Int)
  | [] => some []
  | .int z :: r => (intsOf r).map (z :: ·)
  | _ => none
def blsOf : List PyData → Option (List Bool)
  | [] => some []
  | .bool z :: r => (blsOf r).map (z :: ·)
  | _ => none
def gJoin : G2 := fun x y k => ∃ a ys zs, x = .str a ∧ (y = .list ys ∨ y = .tuple ys) ∧ strsOf ys = some zs ∧ (zs.map (·.length)).sum + zs.length * a.length ≤ 16777216 ∧ k (.str (Txt.join a zs))
def wJoin (wa wb : WE) (s : Sl) (Q : EV → Sl → Prop) (e : EK) : Prop := wa s (fun a s1 => match a with
  | .d (.str x) => wb s1 (fun b s2 => rdq b s2 fun y => gJoin (.str x) y fun z => Q (.d z) s2) e
  | _ => False) e
def gIndex : G2 := fun x y k => ∃ xs j z, x = .list xs ∧ SeqAt.shaped (.list xs) = true ∧ SeqAt.shaped y = true ∧ xs[j]? = some z ∧ PyData.eqv z y = true ∧ (∀ m z', m < j → xs[m]? = some z' → PyData.eqv z' y = false) ∧ k (.int (j : Nat))
def wIndex (wa wb : WE) (s : Sl) (Q : EV → Sl → Prop) (e : EK) : Prop := wa s (fun a s1 => (∃ xs, rdq a s1 fun x => x = .list xs) ∧ wb s1 (fun b s2 => rdq a s2 fun x => rdq b s2 fun y => gIndex x y fun z => Q (.d z) s2) e) e
def gAddI : G2
  | .int i, .int j, k => k (.int (i + j))
  | _, _, _ => False
def gSubI : G2
  | .int i, .int j, k => k (.int (i - j))
  | _, _, _ => False
def gSum : G1 := fun x k => ∃ xs ns, x = .list xs ∧ intsOf xs = some ns ∧ k (.int ns.sum)
def gAny : G1 := fun x k => ∃ xs bs, x = .list xs ∧ blsOf xs = some bs ∧ k (.bool (bs.any id))
def gAll : G1 := fun x k => ∃ xs bs, x = .list xs ∧ blsOf xs = some bs ∧ k (.bool (bs.all id))
def gMax1 : G1 := fun x k => ∃ xs ns, x = .list xs ∧ intsOf xs = some ns ∧ 0 < ns.length ∧ ∀ m, m ∈ ns → (∀ y ∈ ns, y ≤ m) → k (.int m)
def gMin1 : G1 := fun x k => ∃ xs ns, x = .list xs ∧ intsOf xs = some ns ∧ 0 < ns.length ∧ ∀ m, m ∈ ns → (∀ y ∈ ns, m ≤ y) → k (.int m)
/-- ints, or fewer than 64 texts -/
def gSorted : G1 := fun x k => ∃ xs, x = .list xs ∧ ((∃ ns, intsOf xs = some ns ∧ ∀ ns' : List Int, ns'.Perm ns → ns'.Pairwise (· ≤ ·) → k (.list (ns'.map .int))) ∨
  ∃ zs, strsOf xs = some zs ∧ zs.length < 64 ∧ ∀ zs' : List Str, zs'.Perm zs → sortedS zs' = true → k (.list (zs'.map .str)))
def gStr : G1
  | .int i, k => i.natAbs.log2 < 1920 ∧ k (.str (toString i))
  | .str z, k => k (.str z)
  | _, _ => False
def gOrd : G1
  | .str z, k => z.length = 1 ∧ k (.int (z.cps.getD 0 0 : Nat))
  | _, _ => False
section
variable {K : PySem.W.Frag} {J H : Hp} {vs : List V} {xs : List PyData}
theorem das_strs : ∀ {xs : List PyData} {vs : List V} {zs : List Str}, Das K J vs xs → strsOf xs = some zs → vs = zs.map V.str
  | [], _, _, .nil, e => by cases e; rfl
  | .str z :: ds, _, zs, .cons a b, e => by
    simp only [strsOf] at e
    cases q : strsOf ds with
    | none => rw [q] at e; cases e
    | some zs' => rw [q] at e; cases e; rw [da_str a, das_strs b q]; rfl
  | .int _ :: _, _, _, _, e => nomatch e
  | .bool _ :: _, _, _, _, e => nomatch e
  | .none :: _, _, _, _, e => nomatch e
  | .list _ :: _, _, _, _, e => nomatch e
  | .tuple _ :: _, _, _, _, e => nomatch e
  | .dict _ :: _, _, _, _, e => nomatch e
theorem das_intsO : ∀ {xs : List PyData} {vs : List V} {zs : List Int}, Das K J vs xs → intsOf xs = some zs → vs = zs.map V.int
  | [], _, _, .nil, e => by cases e; rfl
  | .int z :: ds, _, zs, .cons a b, e => by
    simp only [intsOf] at e
    cases q : intsOf ds with
    | none => rw [q] at e; cases e
    | some zs' => rw [q] at e; cases e; rw [da_int a, das_intsO b q]; rfl
  | .str _ :: _, _, _, _, e => nomatch e
  | .bool _ :: _, _, _, _, e => nomatch e
  | .none :: _, _, _, _, e => nomatch e
  | .list _ :: _, _, _, _, e => nomatch e
  | .tuple _ :: _, _, _, _, e => nomatch e
  | .dict _ :: _, _, _, _, e => nomatch e
theorem das_bls : ∀ {xs : List PyData} {vs : List V} {zs : List Bool}, Das K J vs xs → blsOf xs = some zs → vs = zs.map V.bl
  | [], _, _, .nil, e => by cases e; rfl
  | .bool z :: ds, _, zs, .cons a b, e => by
    simp only [blsOf] at e
    cases q : blsOf ds with
    | none => rw [q] at e; cases e
    | some zs' => rw [q] at e; cases e; rw [da_bl a, das_bls b q]; rfl
  | .str _ :: _, _, _, _, e => nomatch e
  | .int _ :: _, _, _, _, e => nomatch e
  | .none :: _, _, _, _, e => nomatch e
  | .list _ :: _, _, _, _, e => nomatch e
  | .tuple _ :: _, _, _, _, e => nomatch e
  | .dict _ :: _, _, _, _, e => nomatch e
theorem das_strV : ∀ zs : List Str, Das K J (zs.map V.str) (zs.map PyData.str)
  | [] => .nil
  | z :: zs => .cons (.str z) (das_strV zs)
end
section
variable {K : PySem.W.Frag}
theorem cs_min2 : CbS K (fun xs H Q => ∃ i j, xs = [.int i, .int j] ∧ Q (.int (if j < i then j else i)) H) gMin2 := fun M J H vs ds w a P hg Q q => by
  unfold gMin2 at hg; split at hg
  · cases a with
    | cons a b => obtain ⟨u, rfl, b2⟩ := das_one b; exact ⟨_, _, by rw [da_int a, da_int b2], q _ _ J H w.tr hg (.int _)⟩
  · exact hg.elim
theorem cs_max2 : CbS K (fun xs H Q => ∃ i j, xs = [.int i, .int j] ∧ Q (.int (if j > i then j else i)) H) gMax2 := fun M J H vs ds w a P hg Q q => by
  unfold gMax2 at hg; split at hg
  · cases a with
    | cons a b => obtain ⟨u, rfl, b2⟩ := das_one b; exact ⟨_, _, by rw [da_int a, da_int b2], q _ _ J H w.tr hg (.int _)⟩
  · exact hg.elim
def rRepU (K : PySem.W.Frag) : R2 := fun x y H Q => rRepW K x y H Q ∨ rRep x y H Q
theorem os_rep : OpS K (rRepU K) gRep := fun M J H x y dx dy w ax ay P hg Q q => by
  have rep : ∀ (m : Nat) {J : Hp} {vs : List V} {xs : List PyData}, Das K J vs xs → Das K J (List.replicate m vs).flatten (List.replicate m xs).flatten := fun m => by
    intro J vs xs hd
    induction m with
    | zero => exact .nil
    | succ m ih => rw [List.replicate_succ, List.replicate_succ, List.flatten_cons, List.flatten_cons]; exact das_app hd ih
  unfold gRep at hg; split at hg
  · rename_i xs n
    obtain ⟨h1, h2, h3, h4, hg⟩ := hg
    obtain ⟨a, vs, rfl, hl, hd, fx⟩ := dq_tup w.jh ax
    refine .inl ⟨a, n, vs, rfl, dq_int ay, hl, fun e => h1 (by subst e; cases hd; rfl), h2, h3, by rw [das_len hd]; exact h4, fun e => ?_, fun _ p hp => ?_⟩
    · subst e
      have e1 : (List.replicate (1 : Int).toNat xs).flatten = xs := by show (List.replicate 1 xs).flatten = xs; simp
      rw [e1] at hg
      exact q _ _ J H w.tr hg fx
    · have t := w.new (o := .tup (List.replicate n.toNat vs).flatten) hp
      exact q _ _ _ _ t hg (.tup (.of upd_same) (t.jj.das (rep _ hd)))
  · rename_i xs n
    obtain ⟨h1, h2, h3, hg⟩ := hg
    obtain ⟨a, vs, rfl, hl, hd⟩ := dq_lst w.jh ax
    refine .inr ⟨a, n, vs, rfl, dq_int ay, hl, by omega, by omega, by rw [das_len hd]; exact h3, fun p hp => ?_⟩
    have t := w.new (o := .lst (List.replicate n.toNat vs).flatten) hp
    exact q _ _ _ _ t hg (.lst upd_same (t.jj.das (rep _ hd)))
  · exact hg.elim
theorem os_isB : OpS K rIsB gIsB := fun M J H x y dx dy w ax ay P hg Q q => by
  unfold gIsB at hg; split at hg
  · exact ⟨_, _, dq_bl ax, dq_bl ay, q _ _ J H w.tr hg (.bl _)⟩
  · exact hg.elim
theorem os_isntB : OpS K rNotB gIsntB := fun M J H x y dx dy w ax ay P hg Q q => by
  unfold gIsntB at hg; split at hg
  · exact ⟨_, _, dq_bl ax, dq_bl ay, q _ _ J H w.tr hg (.bl _)⟩
  · exact hg.elim
theorem os_ipadd : OpS K (ipI fun i j => i + j) gAddI := fun M J H x y dx dy w ax ay P hg Q q => by
  unfold gAddI at hg; split at hg
  · exact ⟨_, _, dq_int ax, dq_int ay, q _ _ J H w.tr hg (.int _)⟩
  · exact hg.elim
theorem os_ipsub : OpS K (ipI fun i j => i - j) gSubI := fun M J H x y dx dy w ax ay P hg Q q => by
  unfold gSubI at hg; split at hg
  · exact ⟨_, _, dq_int ax, dq_int ay, q _ _ J H w.tr hg (.int _)⟩
  · exact hg.elim
theorem us_sum : UnS K (fun x H Q => rSum K [x] H Q) gSum := fun M J H x dx w ax P ⟨xs, ns, e, e2, hg⟩ Q q => by
  subst e
  obtain ⟨a, vs, rfl, hl, hd⟩ := dq_lst w.jh ax
  exact ⟨a, ns, rfl, by rw [← das_intsO hd e2]; exact .of hl, q _ _ J H w.tr hg (.int _)⟩
theorem us_any : UnS K (fun x H Q => rAny K [x] H Q) gAny := fun M J H x dx w ax P ⟨xs, ns, e, e2, hg⟩ Q q => by
  subst e
  obtain ⟨a, vs, rfl, hl, hd⟩ := dq_lst w.jh ax
  exact ⟨a, ns, rfl, by rw [← das_bls hd e2]; exact .of hl, q _ _ J H w.tr hg (.bl _)⟩
theorem us_all : UnS K (fun x H Q => rAll K [x] H Q) gAll := fun M J H x dx w ax P ⟨xs, ns, e, e2, hg⟩ Q q => by
  subst e
  obtain ⟨a, vs, rfl, hl, hd⟩ := dq_lst w.jh ax
  exact ⟨a, ns, rfl, by rw [← das_bls hd e2]; exact .of hl, q _ _ J H w.tr hg (.bl _)⟩
theorem us_max : UnS K (fun x H Q => rMax K [x] H Q) gMax1 := fun M J H x dx w ax P ⟨xs, ns, e, e2, h0, hg⟩ Q q => by
  subst e
  obtain ⟨a, vs, rfl, hl, hd⟩ := dq_lst w.jh ax
  exact ⟨a, ns, rfl, by rw [← das_intsO hd e2]; exact .of hl, h0, fun m h1 h2 => q _ _ J H w.tr (hg m h1 h2) (.int _)⟩
theorem us_min : UnS K (fun x H Q => rMin K [x] H Q) gMin1 := fun M J H x dx w ax P ⟨xs, ns, e, e2, h0, hg⟩ Q q => by
  subst e
  obtain ⟨a, vs, rfl, hl, hd⟩ := dq_lst w.jh ax
  exact ⟨a, ns, rfl, by rw [← das_intsO hd e2]; exact .of hl, h0, fun m h1 h2 => q _ _ J H w.tr (hg m h1 h2) (.int _)⟩
def rSortedU (K : PySem.W.Frag) : List V → Hp → VK → Prop := fun xs H Q => rSortedI K xs H Q ∨ rSortedS K xs H Q
theorem us_sorted : UnS K (fun x H Q => rSortedU K [x] H Q) gSorted := fun M J H x dx w ax P ⟨xs, e, hg⟩ Q q => by
  subst e
  obtain ⟨a, vs, rfl, hl, hd⟩ := dq_lst w.jh ax
  rcases hg with ⟨ns, e2, hg⟩ | ⟨zs, e2, h64, hg⟩
  · refine .inl ⟨a, ns, rfl, by rw [← das_intsO hd e2]; exact .of hl, fun ns' p h1 h2 hp => ?_⟩
    have t := w.new (o := .lst (ns'.map V.int)) hp
    exact q _ _ _ _ t (hg ns' h1 h2) (.lst upd_same (das_ints ns'))
  · refine .inr ⟨a, zs, rfl, by rw [← das_strs hd e2]; exact .of hl, h64, fun zs' p h1 h2 hp => ?_⟩
    have t := w.new (o := .lst (zs'.map V.str)) hp
    exact q _ _ _ _ t (hg zs' h1 h2) (.lst upd_same (das_strV zs'))
def rStrX : List V → Hp → VK → Prop := fun xs H Q => (∃ i, xs = [.int i] ∧ i.natAbs.log2 < 1920 ∧ Q (.str (toString i)) H) ∨ ∃ a, xs = [.str a] ∧ Q (.str a) H
theorem us_str : UnS K (fun x H Q => rStrX [x] H Q) gStr := fun M J H x dx w ax P hg Q q => by
  unfold gStr at hg; split at hg
  · exact .inl ⟨_, by rw [dq_int ax], hg.1, q _ _ J H w.tr hg.2 (.str _)⟩
  · exact .inr ⟨_, by rw [dq_str ax], q _ _ J H w.tr hg (.str _)⟩
  · exact hg.elim
theorem us_ord : UnS K (fun x H Q => (fun xs H Q => ∃ x : Str, xs = [V.str x] ∧ x.length = 1 ∧ Q (V.int (x.cps.getD 0 0 : Nat)) H) [x] H Q) gOrd := fun M J H x dx w ax P hg Q q => by
  unfold gOrd at hg; split at hg
  · exact ⟨_, by rw [dq_str ax], hg.1, q _ _ J H w.tr hg.2 (.int _)⟩
  · exact hg.elim
end
section
variable {K : PySem.W.Frag} {er : Ers} {W : WX} {O : Md → Prop} {X : Cx} {a b e tg : Expr} {es : List Expr} {ta tb te : TE} {wa wb we : WE} {t : TA} {wl : WA} {p p' p2 pos pos' apos tpos : Pos} {x : Str} {i : Nat} {st : Stmt}
theorem or_cb {f : Value} {r r' : List V → Hp → VK → Prop} (h : CallR X f r) (h' : CallR X f r') : CallR X f (fun xs H Q => r xs H Q ∨ r' xs H Q) := fun pins s σ H xs us Q I rx z => by
  rcases z with z | z
  · exact h pins s σ H xs us Q I rx z
  · exact h' pins s σ H xs us Q I rx z
theorem cr_sortedX (hK : X.K = K) : CallR X (.builtin "sorted") (rSortedU K) := by subst hK; exact or_cb cr_sortedI cr_sortedS
theorem cr_sumX (hK : X.K = K) (hc : X.calm = true) : CallR X (.builtin "sum") (rSum K) := by subst hK; exact cr_sum hc
theorem cr_anyX (hK : X.K = K) (hc : X.calm = true) : CallR X (.builtin "any") (rAny K) := by subst hK; exact cr_any hc
theorem cr_allX (hK : X.K = K) (hc : X.calm = true) : CallR X (.builtin "all") (rAll K) := by subst hK; exact cr_all hc
theorem cr_maxX (hK : X.K = K) (hc : X.calm = true) : CallR X (.builtin "max") (rMax K) := by subst hK; exact cr_max hc
theorem cr_minX (hK : X.K = K) (hc : X.calm = true) : CallR X (.builtin "min") (rMin K) := by subst hK; exact cr_min hc
theorem op_repX (hK : X.K = K) : OpR X (binaryOp .Mult) (rRepU K) := by subst hK; exact or_op op_repW op_rep
theorem op_isntBl : OpR X (compareOp .IsNot) rNotB := op_notBl
theorem se_join (ha : SE K er W O ta wa) (hb : SE K er W O tb wb) : SE K er W O (tM1 (fun x xs H Q => ∃ a p, ∃ ys : List Str, x = .str a ∧ xs = [.ref p] ∧ (SqL K H p (ys.map V.str) ∨ SqT K H p (ys.map V.str)) ∧ (ys.map (·.length)).sum + ys.length * a.length ≤ 16777216 ∧ Q (.str (Txt.join a ys)) H) ta tb) (wJoin wa wb) := fun M mo J0 H0 Pr s σ J H f Q e q he Qv k =>
  ha M mo J0 H0 Pr s σ J H f _ e q he _ fun x a s1 J1 H1 f1 b1 va q1 => by
    split at q1
    · rename_i z
      refine ⟨⟨z, da_str va⟩, hb M mo J0 H0 Pr s1 σ J1 H1 f1 _ e q1 he _ fun y b s2 J2 H2 f2 b2 vb q2 => ?_⟩
      obtain ⟨dy, ⟨a', ys, zs, ea, ey, es, hl, q3⟩, ay⟩ := rdq_use f2 vb q2
      cases ea
      rcases ey with rfl | rfl
      · obtain ⟨p, vs, rfl, hl2, hd⟩ := dq_lst f2.wf.jh ay
        exact ⟨z, p, zs, da_str va, rfl, .inl (by rw [← das_strs hd es]; exact .of hl2), hl, k _ (.d _) s2 J2 H2 f2 (b1.trans b2) (.str _) q3⟩
      · obtain ⟨p, vs, rfl, hl2, hd, _⟩ := dq_tup f2.wf.jh ay
        exact ⟨z, p, zs, da_str va, rfl, .inr (by rw [← das_strs hd es]; exact hl2), hl, k _ (.d _) s2 J2 H2 f2 (b1.trans b2) (.str _) q3⟩
    · exact q1.elim
theorem de_join (hK : X.K = K) (A : DE K er W O X a ta wa) (B : DE K er W O X b tb wb) (hs : starEach [b] X.env = [(false, eval b X.env)] := by rfl) (hbase : attributeBase a "join" X.env (eval a X.env) = eval a X.env := by rfl) (hline : (apos.endLine == pos.line) = true := by rfl) :
    DE K er W O X (.Call (.Attribute a "join" apos) [b] [] pos) (tM1 (fun x xs H Q => ∃ a p, ∃ ys : List Str, x = .str a ∧ xs = [.ref p] ∧ (SqL K H p (ys.map V.str) ∨ SqT K H p (ys.map V.str)) ∧ (ys.map (·.length)).sum + ys.length * a.length ≤ 16777216 ∧ Q (.str (Txt.join a ys)) H) ta tb) (wJoin wa wb) := by
  subst hK
  exact ⟨pe_join A.1 B.1 hs hbase hline, se_join A.2 B.2⟩
theorem se_index (ha : SE K er W O ta wa) (hb : SE K er W O tb wb) : SE K er W O (tBM K "list" (rIndexD K) ta (tCons tb tNil)) (wIndex wa wb) := fun M mo J0 H0 Pr s σ J H f Q e q he Qv k =>
  ha M mo J0 H0 Pr s σ J H f _ e q he _ fun x a s1 J1 H1 f1 b1 va ⟨⟨xs, q0⟩, q1⟩ => by
    obtain ⟨dx, e0, ax0⟩ := rdq_use f1 va q0
    subst e0
    obtain ⟨p, vs, rfl, hl, hd⟩ := dq_lst f1.wf.jh ax0
    refine ⟨.inl ⟨rfl, vs, .of hl⟩, hb M mo J0 H0 Pr s1 σ J1 H1 f1 _ e q1 he _ fun y b s2 J2 H2 f2 b2 vb q2 => ?_⟩
    obtain ⟨dx, q3, ax⟩ := rdq_use f2 (va.sub b2) q2
    obtain ⟨dy, ⟨ds, j, z, rfl, hs1, hs2, hj, hz, hno, q4⟩, ay⟩ := rdq_use f2 vb q3
    exact ⟨p, y, dy, ds, j, z, rfl, rfl, ax.dp f2.wf, ay.dp f2.wf, hs1, hs2, hj, hz, hno, k _ (.d _) s2 J2 H2 f2 (b1.trans b2) (.int _) q4⟩
theorem de_index (hK : X.K = K) (hu : X.A.units + 65 < cLine) (A : DE K er W O X a ta wa) (B : DE K er W O X b tb wb) (h : ∀ {to : TE} {tt : TA}, PE X a to → PA X [b] tt → PE X e (tBM X.K "list" (rIndexD X.K) to tt)) (hs : starEach [b] X.env = (false, eval b X.env) :: starEach [] X.env := by rfl) :
    DE K er W O X e (tBM K "list" (rIndexD K) ta (tCons tb tNil)) (wIndex wa wb) := by
  subst hK
  exact ⟨h A.1 (pa_cons B.1 pa_nil hs), se_index A.2 B.2⟩
/-! list(range(..)), tuple(range(..)) -/
inductive LT where | list | tuple
def LT.mk : LT → List PyData → PyData
  | .list, xs => .list xs
  | .tuple, xs => .tuple xs
def wRg1 (c : LT) (wa : WE) (s : Sl) (Q : EV → Sl → Prop) (e : EK) : Prop := wa s (fun a s1 => rdq a s1 fun x => ∃ n, x = .int n ∧ RgOk 0 n ∧ Q (.d (c.mk (rngD 0 n))) s1) e
def wRg2 (c : LT) (wa wb : WE) (s : Sl) (Q : EV → Sl → Prop) (e : EK) : Prop := wa s (fun a s1 => wb s1 (fun b s2 => rdq a s2 fun x => rdq b s2 fun y => ∃ i j, x = .int i ∧ y = .int j ∧ RgOk i j ∧ Q (.d (c.mk (rngD i j))) s2) e) e
theorem das_rgV {J : Hp} (i j : Int) : Das K J (rgV i j) (rngD i j) := by
  unfold rgV rngD
  generalize (List.range (j - i).toNat) = l
  induction l with
  | nil => exact .nil
  | cons x l ih => exact .cons (.int _) ih
theorem se_lstRg1 (ha : SE K er W O ta wa) : SE K er W O (tLstRg (tRg1 ta)) (wRg1 .list wa) := fun M mo J0 H0 Pr s σ J H f Q e q he Qv k =>
  ha M mo J0 H0 Pr s σ J H f _ e q he _ fun x a s1 J1 H1 f1 b1 va q1 => by
    obtain ⟨dx, ⟨n, rfl, ok, q2⟩, ax⟩ := rdq_use f1 va q1
    refine ⟨n, dq_int ax, ok, fun p hp => ?_⟩
    have t := f1.wf.new (o := .lst (rgV 0 n)) hp
    exact k _ (.d _) s1 _ _ (f1.step t) (b1.trans t.jj) (.lst upd_same (das_rgV 0 n)) q2
theorem se_tupRg1 (ha : SE K er W O ta wa) : SE K er W O (tTupRg (tRg1 ta)) (wRg1 .tuple wa) := fun M mo J0 H0 Pr s σ J H f Q e q he Qv k =>
  ha M mo J0 H0 Pr s σ J H f _ e q he _ fun x a s1 J1 H1 f1 b1 va q1 => by
    obtain ⟨dx, ⟨n, rfl, ok, q2⟩, ax⟩ := rdq_use f1 va q1
    refine ⟨n, dq_int ax, ok, fun p hp => ?_⟩
    have t := f1.wf.new (o := .tup (rgV 0 n)) hp
    exact k _ (.d _) s1 _ _ (f1.step t) (b1.trans t.jj) (.tup (.of upd_same) (das_rgV 0 n)) q2
theorem se_lstRg2 (ha : SE K er W O ta wa) (hb : SE K er W O tb wb) : SE K er W O (tLstRg (tRg2 ta tb)) (wRg2 .list wa wb) := fun M mo J0 H0 Pr s σ J H f Q e q he Qv k =>
  ha M mo J0 H0 Pr s σ J H f _ e q he _ fun x a s1 J1 H1 f1 b1 va q1 => hb M mo J0 H0 Pr s1 σ J1 H1 f1 _ e q1 he _ fun y b s2 J2 H2 f2 b2 vb q2 => by
    obtain ⟨dx, q3, ax⟩ := rdq_use f2 (va.sub b2) q2
    obtain ⟨dy, ⟨i, j, rfl, rfl, ok, q4⟩, ay⟩ := rdq_use f2 vb q3
    refine ⟨i, j, dq_int ax, dq_int ay, ok, fun p hp => ?_⟩
    have t := f2.wf.new (o := .lst (rgV i j)) hp
    exact k _ (.d _) s2 _ _ (f2.step t) ((b1.trans b2).trans t.jj) (.lst upd_same (das_rgV i j)) q4
theorem de_listRg1 (hK : X.K = K) (hc : X.calm = true) (hm : X.mg "list" = none) (hm2 : X.mg "range" = none) (A : DE K er W O X a ta wa) (hg : Gl X "list" := by rfl) (hg2 : Gl X "range" := by rfl) (na : starEach [a] X.env = (false, eval a X.env) :: starEach [] X.env := by rfl) (na2 : starEach [.Call (.Name "range" p2) [a] [] pos'] X.env = (false, eval (.Call (.Name "range" p2) [a] [] pos') X.env) :: starEach [] X.env := by rfl) :
    DE K er W O X (.Call (.Name "list" p) [.Call (.Name "range" p2) [a] [] pos'] [] pos) (tLstRg (tRg1 ta)) (wRg1 .list wa) := ⟨pe_listRg hc hg hm (prg_1 hg2 hm2 A.1 na) na2, se_lstRg1 A.2⟩
theorem de_tupleRg1 (hK : X.K = K) (hc : X.calm = true) (hm : X.mg "tuple" = none) (hm2 : X.mg "range" = none) (A : DE K er W O X a ta wa) (hg : Gl X "tuple" := by rfl) (hg2 : Gl X "range" := by rfl) (na : starEach [a] X.env = (false, eval a X.env) :: starEach [] X.env := by rfl) (na2 : starEach [.Call (.Name "range" p2) [a] [] pos'] X.env = (false, eval (.Call (.Name "range" p2) [a] [] pos') X.env) :: starEach [] X.env := by rfl) :
    DE K er W O X (.Call (.Name "tuple" p) [.Call (.Name "range" p2) [a] [] pos'] [] pos) (tTupRg (tRg1 ta)) (wRg1 .tuple wa) := ⟨pe_tupRg hc hg hm (prg_1 hg2 hm2 A.1 na) na2, se_tupRg1 A.2⟩
theorem de_listRg2 (hK : X.K = K) (hc : X.calm = true) (hm : X.mg "list" = none) (hm2 : X.mg "range" = none) (A : DE K er W O X a ta wa) (B : DE K er W O X b tb wb) (hg : Gl X "list" := by rfl) (hg2 : Gl X "range" := by rfl) (na : starEach [a, b] X.env = (false, eval a X.env) :: starEach [b] X.env := by rfl)
    (nb : starEach [b] X.env = (false, eval b X.env) :: starEach [] X.env := by rfl) (hp : (backTo pos' (starEach [b] X.env)).any (·.1) = false := by rfl) (na2 : starEach [.Call (.Name "range" p2) [a, b] [] pos'] X.env = (false, eval (.Call (.Name "range" p2) [a, b] [] pos') X.env) :: starEach [] X.env := by rfl) :
    DE K er W O X (.Call (.Name "list" p) [.Call (.Name "range" p2) [a, b] [] pos'] [] pos) (tLstRg (tRg2 ta tb)) (wRg2 .list wa wb) := ⟨pe_listRg hc hg hm (prg_2 hg2 hm2 A.1 B.1 na nb hp) na2, se_lstRg2 A.2 B.2⟩
/-! enumerate of a list, zip -/
def wiEnumX (wa : WE) : WI := wiEnum (waCons wa waNil)
theorem di_enumX {elts : List Expr} {kk : Nat} (hK : X.K = K) (hm : X.mg "enumerate" = none) (A : DE K er W O X a ta wa) (hg : Gl X "enumerate" := by rfl) (hs : starEach [a] X.env = [(false, eval a X.env)] := by rfl) :
    DI K er W O X (.Tuple elts kk tpos) (.Call (.Name "enumerate" p) [a] [] pos) (iEnum K (tCons ta tNil)) (wiEnumX wa) := by
  subst hK
  exact ⟨pi_enum hg hm (pa_cons A.1 pa_nil hs) hs, si_enum (sa_cons A.2 sa_nil)⟩
/-! statements -/
variable {iter elt : Expr} {ifs : List Expr} {scope : Scope} {own : List (Str × Nat)} {wi : TI} {ww : WI} {g : TG} {wg : WG} {tt : TT} {wt : WT} {y : Str} {py spos : Pos}
theorem ds_setLc (hc : X.calm = true) (hN : X.N.Nodup) (hy : X.N[i]? = some y) (hyl : X.env.scope.names.lookup y = some .local) (hsw : swapsWith (.ListComp elt [⟨tg, iter, ifs, 0⟩] scope pos) (some (.Name y py)) spos.line X.env = pure true)
    (hi : DI K er W O X tg iter wi ww) (ok : BlkOk X.N X.env.scope scope own) (tin : Tin (own.map (·.2)) g)
    (hg : ∀ (s : Shared) (H : Hp) (C : Addr) (cl : List (Str × Addr)) (fp : List Addr), DG K (X.blk s H scope (compEnvC scope cl C X.env) fp) tg g wg) (ht : ∀ (s : Shared) (H : Hp) (C : Addr) (cl : List (Str × Addr)) (fp : List Addr), DTs K er W0 O (X.blk s H scope (compEnvC scope cl C X.env) fp) ifs tt wt)
    (he : ∀ (s : Shared) (H : Hp) (C : Addr) (cl : List (Str × Addr)) (fp : List Addr), DE K er W0 O (X.blk s H scope (compEnvC scope cl C X.env) fp) elt te we) (hs : ∀ x, foldedSetIterable iter X.env x = pure x := by intro _; rfl) :
    DS K er W O X (.Assign [.Name y py] (.ListComp elt [⟨tg, iter, ifs, 0⟩] scope pos) spos) (tAsg (tLc wi g tt te (own.map (·.2))) (gName i)) (wSet i (wLc ww wg wt we (own.map (·.2)))) :=
  ⟨ps_setLc hc hN hy hyl hsw hi.1 ok (fun s H C cl fp => (hg s H C cl fp).1) (fun s H C cl fp => (ht s H C cl fp).1) (fun s H C cl fp => (he s H C cl fp).1) hs,
    ss_set (se_lc hi.2 (hg {} (fun _ => none) 0 [] []).2 tin (ht {} (fun _ => none) 0 [] []).2 (he {} (fun _ => none) 0 [] []).2)⟩
theorem ds_newLc (hc : X.calm = true) (hN : X.N.Nodup) (hy : X.N[i]? = some y) (hyl : X.env.scope.names.lookup y = some .local) (hsw : swapsWith (.ListComp elt [⟨tg, iter, ifs, 0⟩] scope pos) (some (.Name y py)) spos.line X.env = pure true)
    (hi : DI K er W O X tg iter wi ww) (ok : BlkOk X.N X.env.scope scope own) (tin : Tin (own.map (·.2)) g)
    (hg : ∀ (s : Shared) (H : Hp) (C : Addr) (cl : List (Str × Addr)) (fp : List Addr), DG K (X.blk s H scope (compEnvC scope cl C X.env) fp) tg g wg) (ht : ∀ (s : Shared) (H : Hp) (C : Addr) (cl : List (Str × Addr)) (fp : List Addr), DTs K er W0 O (X.blk s H scope (compEnvC scope cl C X.env) fp) ifs tt wt)
    (he : ∀ (s : Shared) (H : Hp) (C : Addr) (cl : List (Str × Addr)) (fp : List Addr), DE K er W0 O (X.blk s H scope (compEnvC scope cl C X.env) fp) elt te we) (hs : ∀ x, foldedSetIterable iter X.env x = pure x := by intro _; rfl) :
    DS K er W O X (.Assign [.Name y py] (.ListComp elt [⟨tg, iter, ifs, 0⟩] scope pos) spos) (tAsg (tLc wi g tt te (own.map (·.2))) (gName i)) (wNewLc i ww wg wt we (own.map (·.2))) :=
  ⟨ps_setLc hc hN hy hyl hsw hi.1 ok (fun s H C cl fp => (hg s H C cl fp).1) (fun s H C cl fp => (ht s H C cl fp).1) (fun s H C cl fp => (he s H C cl fp).1) hs,
    ss_newLc hi.2 (hg {} (fun _ => none) 0 [] []).2 tin (ht {} (fun _ => none) 0 [] []).2 (he {} (fun _ => none) 0 [] []).2⟩
theorem ds_augD {op : Operator} {ti : TIp} {gg : G2} (hN : X.N.Nodup) (hi : X.N[i]? = some x) (hx : Loc X.env.scope x) (ho : PIp X op ti) (o : OpS K ti gg) (A : DE K er W O X e te we) (hf : X.fn x = true ∨ X.env.scope.names.lookup x = some .local := by first | exact .inl rfl | exact .inr rfl | assumption) :
    DS K er W O X (.AugAssign (.Name x pos') op e pos) (tAug i te ti) (wAug i gg we) := ⟨ps_aug hN hi hx A.1 ho hf, ss_aug o A.2⟩
theorem call_strX : CallR X (.type "str") rStrX := or_cb call_str_int SkE.call_str_str
end
end DW

/-! The steps over data. -/
namespace DW
open PySem PySem.Spec
open PyProof.Rows L2 DL
theorem startS_0 {n : Nat} : startS n [] = List.replicate n none := by unfold startS; simp
/-- what is told of an int comparison, of texts -/
theorem eqv_int (i j : Int) : PyData.eqv (.int i) (.int j) = decide (i = j) := by
  by_cases h : i = j
  · subst h; simp [PyData.eqv]
  · simp [PyData.eqv, h]
theorem sh_intT (i : Int) : SeqAt.shaped (.int i) = true := rfl
/-! loops, shut until the invariant is known -/
def LoopF (wg : WG) (wb : WS) (ds : List PyData) (s1 : Sl) (E : EW) : Prop := ∃ I : Nat → Sl → Prop, I 0 s1 ∧ (∀ i d s2, ds[i]? = some d → I i s2 → wg d s2 fun s3 => wb s3 { E with nx := I (i + 1), ct := I (i + 1), bk := E.nx }) ∧ ∀ s2, I ds.length s2 → E.nx s2
theorem wFor_eq {ww : WI} {wg : WG} {wb : WS} {s : Sl} {E : EW} : wFor ww wg wb s E = ww s (fun ds s1 => LoopF wg wb ds s1 E) E.er := rfl
def LoopC (wg : WG) (wt : WT) (we : WE) (vs : List Nat) (ds : List PyData) (s1 : Sl) (Q : List PyData → Sl → Prop) : Prop := ∃ I : Nat → List PyData → Sl → Prop, I 0 [] (wipeS s1 vs) ∧
  (∀ i d acc s2, ds[i]? = some d → I i acc s2 → wg d (wipeS s2 vs) fun s3 => wt s3 (fun b s4 => if b = true then we s4 (fun r s5 => frz r s5 fun x s6 => I (i + 1) (acc ++ [x]) (wipeS s6 vs)) nE else I (i + 1) acc (wipeS s4 vs)) nE) ∧
  ∀ acc s2, I ds.length acc s2 → Q acc (wipeS s2 vs)
theorem wLc_eq {ww : WI} {wg : WG} {wt : WT} {we : WE} {vs : List Nat} {s : Sl} {Q : EV → Sl → Prop} {e : EK} : wLc ww wg wt we vs s Q e = ww s (fun ds s1 => ds.length < sizeLine ∧ LoopC wg wt we vs ds s1 fun acc s2 => Q (.d (.list acc)) s2) e := rfl
theorem wNewLc_eq {k : Nat} {ww : WI} {wg : WG} {wt : WT} {we : WE} {vs : List Nat} {s : Sl} {E : EW} : wNewLc k ww wg wt we vs s E = ww s (fun ds s1 => ds.length < sizeLine ∧ LoopC wg wt we vs ds s1 fun acc s2 => E.nx (s2.set k (some (.own acc)))) E.er := rfl
theorem Kt_i {w : WS} {E : EW} {s : Sl} (h : w s E) : Kt w E s := h
theorem one_ord (c : Nat) : (⟨#[c]⟩ : Str).cps.getD 0 0 = c := rfl
theorem one_len (c : Nat) : (⟨#[c]⟩ : Str).length = 1 := rfl
end DW

/-! A range up to 2^63. -/
namespace DW
open PySem PySem.Spec
open PyProof.Rows L2 DL
theorem small_63 {b : Int} (h : 0 ≤ b) (h' : b < 2 ^ 63) : Builtin.Range.small 0 b 1 = true := by
  unfold Builtin.Range.small
  rw [rangeSize_one]
  have p : (2 : Int) ^ 63 = 9223372036854775808 := by decide
  rw [p] at h'
  simp only [Builtin.Range.rangeFitsLong, Bool.and_eq_true, Bool.or_eq_true, decide_eq_true_eq, beq_iff_eq, p]
  by_cases c : (0 : Int) < b
  · rw [if_pos c]; simp; omega
  · rw [if_neg c]; simp; omega
def iRngB (ta : TA) : TI := fun σ H R => ta σ H fun vs H1 => ∃ j : Int, vs = [.int j] ∧ (0 ≤ j ∧ j < 2 ^ 63) ∧ R (Itr 0 j.toNat) H1
section
variable {X : Cx} {tg : Expr}
theorem pi_rngB {a : Expr} {ta : TA} {p pos : Pos} (hg : Gl X "range") (hm : X.mg "range" = none) (ha : PA X [a] ta) (hs : starEach [a] X.env = [(false, eval a X.env)] := by rfl) : PI X tg (.Call (.Name "range" p) [a] [] pos) (iRngB ta) := by
  refine ⟨fun pins s σ H R I h => Call_ (ld_blt I hg hm boot_range (PyProof.Rows.callWith_type1 (thn (ha.run pos pins s σ H _ I h) fun us s1 ⟨vs, G, I1, rv, j, e, ⟨j0, j1⟩, q⟩ => ?_) hs rfl))⟩
  subst e
  obtain ⟨u, rfl, t, rfl⟩ := vals1 rv
  refine call_range_1 ?_
  refine wpAny_pyIter_range (IsRange.new ..) (small_63 j0 j1) ?_
  generalize eh : s1.heap.push { cls := .type "range", data := .fields #[.int 0 s1.toks, .int j t, .int 1 (s1.toks + 1)] } = h1
  have I2 : Inv X pins σ G { s1 with heap := h1, toks := s1.toks + 1 + 1 } := I1.kept fun b o e => by rw [← eh]; exact Heap.get?_push_of_some _ e
  refine ⟨h1.objs.size, [h1.objs.size], _, _, G, rfl, I2.kept (t' := s1.toks + 1 + 1) fun b o e => Heap.get?_push_of_some _ e, turn_range _ 0 j.toNat, ?_, fun b hb => ?_, q⟩
  · show IsRangeIter _ _ ((0 : Int) + ((0 : Nat) : Int) * 1) (((j.toNat : Nat) : Int) - ((0 : Nat) : Int)) 1
    have e2 : ((j.toNat : Nat) : Int) - ((0 : Nat) : Int) = Builtin.Range.rangeSize 0 j 1 := by rw [rangeSize_one]; split <;> omega
    rw [e2]
    exact Heap.get?_push_size _ rfl
  · rw [List.mem_singleton.mp hb]
    exact I2.fpOk (Nat.le_refl _) (I2.hok.fresh (Nat.le_refl _))
end
def wiRngB (wl : WA) (s : Sl) (Q : List PyData → Sl → Prop) (e : EK) : Prop := wl s (fun xs s1 => match xs with
  | [.int j] => (0 ≤ j ∧ j < 2 ^ 63) ∧ Q (rngD 0 j) s1
  | _ => False) e
section
variable {K : PySem.W.Frag} {er : Ers} {W : WX} {O : Md → Prop} {t : TA} {wl : WA} {X : Cx} {tg a : Expr} {p pos : Pos}
theorem si_rngB (h : SA K er W O t wl) : SI K er W O (iRngB t) (wiRngB wl) := fun M mo J0 H0 Pr s σ J H f Q e q he R k =>
  h M mo J0 H0 Pr s σ J H f _ e q he _ fun vs ds s1 J1 H1 f1 b1 a1 q1 => by
    split at q1
    · rename_i j
      obtain ⟨u, rfl, a⟩ := das_one a1
      refine ⟨j, by rw [da_int a], q1.1, k _ _ s1 J1 H1 f1 b1 ⟨fun i G hi _ => ?_, fun G _ => ?_, fun i G x G' d hd' _ y => ?_⟩ q1.2⟩
      · rw [rngD_len] at hi
        show i < j.toNat
        omega
      · show j.toNat ≤ _
        rw [rngD_len]; omega
      · obtain ⟨e1, e2⟩ := y
        obtain ⟨e3, _⟩ := rngD_at hd'
        rw [e3, e2]
        exact .inl ⟨e1, .int _⟩
    · exact q1.elim
theorem di_rngB (hg : Gl X "range") (hm : X.mg "range" = none) (A : DA K er W O X [a] t wl) (hs : starEach [a] X.env = [(false, eval a X.env)] := by rfl) : DI K er W O X tg (.Call (.Name "range" p) [a] [] pos) (iRngB t) (wiRngB wl) := ⟨pi_rngB hg hm A.1 hs, si_rngB A.2⟩
end
end DW

/-! extend by a tuple. -/
namespace DW
open PySem PySem.Spec
open PyProof.Rows L2 DL
theorem ext_tup (l : Addr) (xs : Array Value) (n : Nat) (b : Addr) (ys : Array Value) (m : Nat) (dd : Option Addr) (sl : Array (Option Value)) (h0 : ¬(!xs.isEmpty && Builtin.List.listTooLong (xs.size + ys.size)) = true) (h1 : xs.size ≤ sizeLine) (h2 : xs.size + ys.size ≤ sizeLine + 1) :
    Meets (Builtin.«list.extend» ⟨[.ref l, .ref b], []⟩) (fun _ R s => s.heap.get? l = some { cls := .type "list", dict := none, data := .seq xs n, slots := #[] } ∧ s.heap.get? b = some { cls := .type "tuple", dict := dd, data := .seq ys m, slots := sl } ∧ R (.ok (.ret Value.none)) { s with heap := s.heap.update l (Obj.mapSeq fun x => x ++ ys), toks := s.toks }) :=
  .of_wp fun prog w A R s h => by
    obtain ⟨hp, g, d, tk, os⟩ := s
    obtain ⟨hl, hb, h⟩ := h
    have f1 := AutoSeq1.idx_int; have f2 := AutoSeq1.sub_tuple_tuple; have f3 := AutoSeq1.sub_list_list; have f4 := AutoSeq1.sub_tuple_list; have f5 := AutoSeq1.sub_list_tuple
    have hz' : (xs ++ ys).size ≤ sizeLine + 1 := by rw [Array.size_append]; exact h2
    wp_walk using (wpAny_updateSeq hl rfl (hz := h1) (_hz' := hz')), AutoSeq1.wpAny_loadPart' hl, AutoSeq1.wpAny_loadPart' hb
    exact ⟨_, rfl, h⟩
def rExtA (K : PySem.W.Frag) : V → List V → Hp → VK → Prop := fun x vs H Q => ∃ l b xs zs, x = .ref l ∧ vs = [.ref b] ∧ H l = some (.lst xs) ∧ (H b = some (.lst zs) ∨ SqT K H b zs) ∧ xs.length + zs.length ≤ sizeLine ∧ Q .non (upd H l (.lst (xs ++ zs)))
theorem mt_extA {X : Cx} : MtR X "list.extend" (rExtA X.K) := by
  intro pins s σ H x vs v us Q I rx rv h
  obtain ⟨l, b, xs, zs, rfl, rfl, hH, hB | hB, hz, q⟩ := h
  · exact mt_extend pins s σ H _ _ v us Q I rx rv ⟨l, b, xs, zs, rfl, rfl, hH, hB, hz, q⟩
  · cases rx
    obtain ⟨u, rfl, ru⟩ := rv.one
    cases ru
    obtain ⟨z, its, n, r, hl, e⟩ := I.lstM hH
    obtain ⟨its2, r2, ⟨o, e2, hc, m, hd⟩, _⟩ := I.tuple hB
    have hl2 := r2.length
    obtain ⟨cls, dd, data, sl⟩ := o
    simp only at hc hd
    subst hc hd
    have hsz : its.toArray.size + its2.toArray.size ≤ sizeLine := by rw [List.size_toArray, List.size_toArray]; omega
    have hlong : ¬ (!its.toArray.isEmpty && Builtin.List.listTooLong (its.toArray.size + its2.toArray.size)) = true := by
      rw [notLongL hsz, Bool.and_false]
      exact Bool.false_ne_true
    refine call_meets F.slot_list_extend ⟨_, e, rfl⟩ F.entry_list_extend (F.args_list_extend_2 _ _)
      (ext_tup l its.toArray n b its2.toArray m dd sl hlong (by rw [List.size_toArray]; omega) (by omega)) ⟨e, e2, ?_⟩
    refine ⟨.non, _, I.lset (its' := its ++ its2) hH e (by simp) (r.append r2) (by rw [List.length_append]; omega), rfl, q⟩
/-- x.extend(e), e a list or a tuple -/
def wExtA (k : Nat) (we : WE) (s : Sl) (E : EW) : Prop := (∃ xs, s[k]? = some (some (.own xs))) ∧ we s (fun r s1 => rdq r s1 fun x => match s1[k]? with
  | some (some (.own xs)) => (match x with
    | .list ys => xs.length + ys.length ≤ sizeLine ∧ E.nx (s1.set k (some (.own (xs ++ ys))))
    | .tuple ys => xs.length + ys.length ≤ sizeLine ∧ E.nx (s1.set k (some (.own (xs ++ ys))))
    | _ => False)
  | _ => False) E.er
section
variable {K : PySem.W.Frag} {er : Ers} {W : WX} {O : Md → Prop} {te : TE} {we : WE} {X : Cx} {e : Expr} {st : Stmt} {i : Nat}
theorem ss_extA {k : Nat} (h : SE K er W O te we) : SS K er W O (tDrop (tBM K "list" (rExtA K) (tVar k) (tCons te tNil))) (wExtA k we) := fun M mo J0 H0 Pr s σ J H f E D ⟨⟨xs, hk⟩, q⟩ kk he => by
  obtain ⟨p, vs, hp, hH, _⟩ := f.own hk
  refine ⟨.ref p, hp, .inl ⟨rfl, vs, .of hH⟩, h M mo J0 H0 Pr s σ J H f _ _ q he _ fun v r s1 J1 H1 f1 b1 va q1 => ?_⟩
  obtain ⟨x, q2, ax⟩ := rdq_use f1 va q1
  split at q2
  · rename_i xs e
    obtain ⟨p', us, hp', hH', a', _⟩ := f1.own e
    rw [hp] at hp'
    cases hp'
    split at q2
    · obtain ⟨b, ws, rfl, hl, hd⟩ := dq_lst f1.wf.jh ax
      exact ⟨p, b, us, ws, rfl, rfl, hH', .inl hl, by rw [das_len a', das_len hd]; exact q2.1, kk.nx _ _ _ _ (f1.write e hp (das_app a' hd)) b1 q2.2⟩
    · obtain ⟨b, ws, rfl, hl, hd, _⟩ := dq_tup f1.wf.jh ax
      exact ⟨p, b, us, ws, rfl, rfl, hH', .inr hl, by rw [das_len a', das_len hd]; exact q2.1, kk.nx _ _ _ _ (f1.write e hp (das_app a' hd)) b1 q2.2⟩
    · exact q2.elim
  · exact q2.elim
theorem ds_extA (hK : X.K = K) (h : ∀ {tt : TA}, PA X [e] tt → PS X st (tDrop (tBM X.K "list" (rExtA X.K) (tVar i) tt))) (A : DE K er W O X e te we) (hs : starEach [e] X.env = (false, eval e X.env) :: starEach [] X.env := by rfl) : DS K er W O X st (tDrop (tBM K "list" (rExtA K) (tVar i) (tCons te tNil))) (wExtA i we) := by
  subst hK
  exact ⟨h (pa_cons A.1 pa_nil hs), ss_extA A.2⟩
end
end DW

/-! Texts compared. -/
namespace DW
open PySem PySem.Spec
open PyProof.Rows L2 DL
def gEqS : G2
  | .str a, .str b, k => k (.bool (decide (a = b)))
  | _, _, _ => False
def gNeS : G2
  | .str a, .str b, k => k (.bool (!decide (a = b)))
  | _, _, _ => False
section
variable {K : PySem.W.Frag}
theorem dec_strV (a b : Str) : decide (V.str a = V.str b) = decide (a = b) := by
  by_cases h : a = b
  · subst h; simp
  · simp [h]
theorem os_eqS : OpS K rEq gEqS := fun M J H x y dx dy w ax ay P hg Q q => by
  unfold gEqS at hg; split at hg
  · rw [dq_str ax, dq_str ay]
    exact ⟨rfl, by rw [dec_strV]; exact q _ _ J H w.tr hg (.bl _)⟩
  · exact hg.elim
theorem os_neS : OpS K rNe gNeS := fun M J H x y dx dy w ax ay P hg Q q => by
  unfold gNeS at hg; split at hg
  · rw [dq_str ax, dq_str ay]
    exact ⟨rfl, by rw [dec_strV]; exact q _ _ J H w.tr hg (.bl _)⟩
  · exact hg.elim
end
end DW

/-! A lambda heard, where what is around it keeps no repr. -/
namespace DW
open PySem PySem.Spec
open PyProof.Rows L2 DL LamX
section
variable {X : Cx} {s : Shared} {σ : L2.St} {H : Hp} {pins : List (Addr × Obj)}
theorem actG {CXg : CXT} {Eg : XK} {Ng : List Str} {qg : Str} {sg : Scope} {g f c' : Addr} {cdg pm ctv : Value} {params : Arguments} {body : Expr} {scope : Scope} {k i : Nat} {a : Str} {pn : List (Addr × Obj)} {xe : Value → Shared → Prop} {W : WX} {E : XK} {tb : TE} {p1 p2 : Pos}
    (I : Inv X pins σ H s) (L : LamS X.env.scope scope) (hf : s.heap.get? f = some (PySem.W.kla_obj "<lambda>" (X.env.qual ++ "<lambda>") params body scope (cloFrom X.env.cells scope.names []) pm c' ctv)) (hfn : H f = none) (hfr : f ∉ frs X.stack)
    (hbind : bindArgs (PySem.W.kla_fn "<lambda>" (X.env.qual ++ "<lambda>") params body scope (cloFrom X.env.cells scope.names []) pm (.ref c') ctv) ⟨[], []⟩ = pure [])
    (tk : Takes ((cxOf CXg X.prog X.w X.K X.mg X.base Ng qg sg g cdg X.A X.stack s H Eg).tr pn xe) W) (hW : ∀ cls d σ' H', E cls d H' → W cls d σ' H') (hr : Room (k + 1) (X.A.deeper (envOfC qg sg s.heap.objs.size g cdg)))
    (hbody : ∀ (outer : List Env) (s' : Shared) (H' : Hp), Room k ((X.A.deeper (envOfC qg sg s.heap.objs.size g cdg)).deeper (lamEnv X scope s'.heap.objs.size f c')) → PE (lamCx X (X.A.deeper (envOfC qg sg s.heap.objs.size g cdg)) outer s' H' E scope f c') body tb)
    (hN : Ng[i]? = some a) (hv : Vis sg a) (hd : (a == ("__debug__" : Str)) = false := by decide) (hcd : (a == ("__classdict__" : Str)) = false := by decide) :
    PE ((cxOf CXg X.prog X.w X.K X.mg X.base Ng qg sg g cdg X.A X.stack s H Eg).tr pn xe) (.Call (.Name a p1) [] [] p2)
      (fun σZ HZ Q => σZ[i]? = some (some (.ref f)) ∧ HZ c' = some (CodeO c' (X.env.qual ++ "<lambda>")) ∧ tb σ HZ Q) := by
  constructor
  intro pinsZ sZ σZ HZ Q IZ ⟨hs, hc, ht⟩
  have name := (pe_var (pos := p1) (i := i) hN hv hd hcd).run pinsZ sZ σZ HZ (fun v H1 => v = .ref f ∧ H1 = HZ) IZ ⟨.ref f, hs, rfl, rfl⟩
  refine wpAny_Call_Name_kw (thn name fun u s1 h1 => ?_)
  obtain ⟨v, H1, I1, r1, rfl, rfl⟩ := h1
  cases (show u = Value.ref f from r1)
  have fo := I1.base.keep f _ hf hfn hfr (fun z => nomatch (show f ∈ ([] : List Addr) from z))
  obtain ⟨⟨oc, vs, t, hoc, hdc, hvc⟩, _, _⟩ := I1.hok c' _ hc
  have rc : codeAny (model X.prog X.w) (X.A.deeper (envOfC qg sg s.heap.objs.size g cdg)) (.call (.ref f) ⟨[], []⟩) (CR (L2.CX X.prog X.w) (envOfC qg sg s.heap.objs.size g cdg :: X.stack) X.prog X.w H1 s1 Q E) s1 := by
    refine PySem.W.kla_callFunE hr.depth fo rfl L.co L.gen rfl ⟨c', oc, vs, t, rfl, hoc, hdc, hvc⟩ ?_
    rw [hbind]
    refine wpAny_pure (wpAny_newFunctionEnv (fun y hy => (L.own y hy).2) (fun y hy => absurd hy (by simp)) (fun h₁ hns hsb => ⟨I1.nolimit.fresh _ hsb, ?_⟩) L.kind)
    show codeAny _ _ (.expr body (lamEnv X scope s1.heap.objs.size f c')) _ _
    have J := lam_start2 (A := X.A.deeper (envOfC qg sg s.heap.objs.size g cdg)) (outer := envOfC qg sg s.heap.objs.size g cdg :: X.stack) (E := E) (f := f) (c' := c') (tk := s1.toks + ([] : List (Str × Value)).length) I L I1.env0 hr.hd I1.base hns fun b o e => hsb.extBut b o (Nat.ne_of_lt (Heap.lt_size e)) (Heap.get?_push_of_some _ e)
    exact PySem.W.kla_codeExpr (wpAny_mono ((hbody _ s1 H1 (hr.deeper _)).run [] _ _ H1 Q J ht) (fun v s' ⟨w', H', J', rv, q⟩ => ⟨w', H', J'.os, J'.bare, J'.base, J'.hok, rv, q⟩) fun e s' hq => hq)
  refine PySem.W.callWith_F0 ⟨_, _, _, _, fo⟩ (wpAny_call (codeAny_mono rc fun r s' hq => ?_))
  cases r with
  | error e => exact passes_call tk hW pinsZ σZ H1 s1 e s' I1 hq
  | ok fl => cases fl <;> first | exact I1.after hq | exact False.elim hq
theorem lamcallG {T : List (Addr × Str)} {TT : (XK → Hp → VK → Prop) → Hp → VK → Prop} {x a : Str} {k : Nat} {params : Arguments} {body : Expr} {scope : Scope} {t : XK → TE} {p lpos pos : Pos} (C : Hears X T k x a TT) (hA : X.A.guards = some []) (hr : Room (k + 2) X.A)
    (hbody : ∀ (A : Around) (outer : List Env) (s : Shared) (H : Hp) (E : XK) (f c' : Addr), A.guards = some [] → Room k (A.deeper (lamEnv X scope s.heap.objs.size f c')) → PE (lamCx X A outer s H E scope f c') body (t E))
    (hg : Gl X x := by rfl) (L : LamX.lamSB X.env.scope scope = true := by decide +kernel) (hdef : defaultsOf params X.env = ([], []) := by rfl)
    (hbind : ∀ (q : Str) (cl : List (Str × Addr)) (pm cv ctv : Value), bindArgs (PySem.W.kla_fn "<lambda>" q params body scope cl pm cv ctv) ⟨[], []⟩ = pure [] := by intros; rfl)
    (hdb : (x == ("__debug__" : Str)) = false := by decide) (hd : (a == ("__debug__" : Str)) = false := by decide) (hcd : (a == ("__classdict__" : Str)) = false := by decide) : PE X (.Call (.Name x p) [.Lambda params body scope lpos] [] pos) (LamX.tLam T TT t) := by
  obtain ⟨g, c, P, pg, bg, sg, dV, kV, doc, pm, cdv, ct, oc, an, od, osl, Ng, hm, hk, lk, hcg, hb, Sg, hNg, hva, hG, TB, hcode, hmT, hu⟩ := C.has
  have L := LamX.lamS_by L
  constructor
  intro pins s σ H Q I ⟨hT, h⟩
  refine wpAny_Call_Name_kw (ld_glob I hg hm (PySem.W.callWith_K (h₀ := X.base) I.ok.mod.kin hk ?_ (by rfl) (by rfl)) hdb)
  show wpAny _ _ (spliced ((false, eval (.Lambda params body scope lpos) X.env) :: backTo pos (starEach [] X.env))) _ _ s
  refine Calls.spliced_cons (lam_make2 I TB hcode hmT hu hT hdef (L.has I.ok) fun f c' pm' ctv H1 s' I1 eN T1 hf hfn hfr hco => ?_)
  refine Calls.spliced_nil ⟨I1.kIn, ?_⟩
  have rc : codeAny (model X.prog X.w) X.A (.call (.ref g) ⟨[.ref f], []⟩) (CR C8.CX0 X.stack X.prog X.w H1 s' Q C8.E0) s' := by
    refine run_ofS (N := Ng) (ps := [a]) (us := [.ref f]) (vs := [.ref f]) lk hcg Sg hr I1.env0 (hb s' [.ref f] I1.kIn rfl) (.cons rfl .nil) rfl fun hr' => ?_
    obtain ⟨t', ht', hq'⟩ := hG f c' s' H1 Q (fun E H' Q' => t E σ H' Q') (fun W pn xe E p1 p2 tk hW => actG (i := 0) I1 L hf hfn hfr (hbind _ _ _ _ _) tk hW hr' (fun outer s H hr2 => hbody _ outer s H E f c' hA hr2) hNg hva hd hcd) hco (h H1 eN T1)
    exact ⟨t', ht'.nox, hq'⟩
  refine wpAny_call (codeAny_mono rc fun r s2 hq => ?_)
  cases r with
  | error e => exact (show False from hq).elim
  | ok fl => cases fl <;> first | exact I1.after hq | exact False.elim hq
end
end DW

/-! A lambda heard, told in data. -/
namespace DW
open PySem PySem.Spec
open PyProof.Rows L2 DL LamX
/-- what a def makes of a lambda that it calls in a try: rows: the class caught, the text told, the field told -/
def THear (rows : List (Addr × Str × Str)) : (XK → Hp → VK → Prop) → Hp → VK → Prop := fun tl H Q => ∃ Ech : XK,
  (∀ cls d H', Ech cls d H' → ∃ C s f, (C, s, f) ∈ rows ∧ cls = .ref C ∧ ∃ dx v, d = some dx ∧ H' dx = some (.xd [(f, v)]) ∧ ∀ l, H' l = none → Q (.ref l) (upd H' l (.lst [.str s, v, .bl true]))) ∧
  tl Ech H fun v H' => ([.str "told", v] : List V).length ≤ sizeLine ∧ ∀ l, H' l = none → Q (.ref l) (upd H' l (.lst [.str "told", v]))
def rowsOf (er : Ers) (rows : List (Str × Str)) : List (Addr × Str × Str) := rows.map fun r => (er.cl r.1, r.2, er.fl r.1)
def wHear (rows : List (Str × Str)) (pre : List AV → Prop) (post : List AV → PyData → Prop) (exc : List AV → Str → PyData → Prop) (wu : WU) (s : Sl) (Q : EV → Sl → Prop) (_ : EK) : Prop :=
  wu s (fun as s1 => pre as ∧ (∀ d, post as d → Q (.d (.list [.str "told", d])) s1) ∧ ∀ c x, exc as c x → ∃ z, (c, z) ∈ rows ∧ Q (.d (.list [.str z, x, .bool true])) s1) nE
section
variable {K : PySem.W.Frag} {er : Ers} {W : WX} {O O' : Md → Prop} {t : TA} {wu : WU} {T : List (Addr × Str)} {rows : List (Str × Str)} {pre : List AV → Prop} {post : List AV → PyData → Prop} {exc : List AV → Str → PyData → Prop}
theorem se_hear (hT : ∀ M, O M → HasTb M T) (hO : ∀ M, O M → O' M) (h : SU K er W0 O t wu) : SE K er W O (LamX.tLam T (THear (rowsOf er rows)) fun E => tCallS (spU K er O' pre post exc) (fun _ => E) t) (wHear rows pre post exc wu) := fun M mo J0 H0 Pr s σ J H f Q e q he Qv k => by
  have hb := hT M mo
  refine ⟨hb.tabs _ f.wf.inv, fun H2 ex t2 => ?_⟩
  have tx := tr_ext hb f.wf ex t2
  let Ech : XK := fun cls d H' => ∃ C z fl, (C, z, fl) ∈ rowsOf er rows ∧ cls = .ref C ∧ ∃ dx v, d = some dx ∧ H' dx = some (.xd [(fl, v)]) ∧ ∀ l, H' l = none → Qv (.ref l) (upd H' l (.lst [.str z, v, .bl true]))
  refine ⟨Ech, fun _ _ _ z => z, h M mo J0 H0 Pr s σ J H2 (f.step tx) _ nE q (fun c x s σ dx v J H _ z => z.elim) _ fun vs as s1 J1 H1 f1 b1 a1 ⟨hp, q1, q2⟩ => ?_⟩
  refine ⟨M, J1, as, hO M mo, f1.wf, a1, hp, fun v d J' H' tr pd a => ⟨by show 2 ≤ sizeLine; decide, fun l hl => ?_⟩, fun c x dx v J' H' tr pe hx a _ => ?_⟩
  · have t4 := (tr.wf f1.wf).new (o := .lst [.str "told", v]) hl
    exact k _ (.d _) s1 _ _ (f1.step (tr.trans t4)) (b1.trans (tr.trans t4).jj) (.lst upd_same (.cons (.str _) (.cons (t4.jj.da a) .nil))) (q1 d pd)
  · obtain ⟨z, hz, q3⟩ := q2 c x pe
    refine ⟨er.cl c, z, er.fl c, List.mem_map_of_mem (f := fun r : Str × Str => (er.cl r.1, r.2, er.fl r.1)) hz, rfl, dx, v, rfl, hx, fun l hl => ?_⟩
    have t4 := (tr.wf f1.wf).new (o := .lst [.str z, v, .bl true]) hl
    exact k _ (.d _) s1 _ _ (f1.step (tr.trans t4)) (b1.trans (tr.trans t4).jj) (.lst upd_same (.cons (.str _) (.cons (t4.jj.da a) (.cons (.bl _) .nil)))) q3
end
section
variable {K : PySem.W.Frag} {er : Ers} {W : WX} {O O' : Md → Prop} {t : TA} {wu : WU} {T : List (Addr × Str)} {rows : List (Str × Str)} {pre : List AV → Prop} {post : List AV → PyData → Prop} {exc : List AV → Str → PyData → Prop} {X : Cx} {x y a : Str} {k kh : Nat} {ps : List Str} {p p2 lpos pos pos2 : Pos} {e : Expr} {es : List Expr} {params : Arguments} {scope : Scope}
theorem de_hear (Hh : Hears X T kh x a (THear (rowsOf er rows))) (hA : X.A.guards = some []) (hr : Room (kh + 2) X.A) (hT : ∀ M, O M → HasTb M T) (C : Ca5 X.prog X.w X.K X.mg X.base (L2.CX X.prog X.w) k y ps (spU K er O' pre post exc)) (hk : k ≤ kh) (hO : ∀ M, O M → O' M)
    (A : ∀ (A' : Around) (outer : List Env) (s : Shared) (H : Hp) (E : XK) (f c' : Addr), A'.guards = some [] → Room kh (A'.deeper (lamEnv X scope s.heap.objs.size f c')) → DU K er W0 O (lamCx X A' outer s H E scope f c') (e :: es) t wu) (S : SU K er W0 O t wu)
    (hg2 : ∀ (A' : Around) (outer : List Env) (s : Shared) (H : Hp) (E : XK) (f c' : Addr), Gl (lamCx X A' outer s H E scope f c') y := by intros; rfl) (hdb2 : (y == ("__debug__" : Str)) = false := by decide)
    (he : ∀ (A' : Around) (outer : List Env) (s : Shared) (H : Hp) (E : XK) (f c' : Addr), starEach (e :: es) (lamCx X A' outer s H E scope f c').env = (false, eval e (lamCx X A' outer s H E scope f c').env) :: starEach es (lamCx X A' outer s H E scope f c').env := by intros; rfl)
    (hpl : ∀ (A' : Around) (outer : List Env) (s : Shared) (H : Hp) (E : XK) (f c' : Addr), (backTo pos2 (starEach es (lamCx X A' outer s H E scope f c').env)).any (·.1) = false := by intros; rfl)
    (hg : Gl X x := by rfl) (L : LamX.lamSB X.env.scope scope = true := by decide +kernel) (hdef : defaultsOf params X.env = ([], []) := by rfl)
    (hbind : ∀ (q : Str) (cl : List (Str × Addr)) (pm cv ctv : Value), bindArgs (PySem.W.kla_fn "<lambda>" q params (.Call (.Name y p2) (e :: es) [] pos2) scope cl pm cv ctv) ⟨[], []⟩ = pure [] := by intros; rfl)
    (hdb : (x == ("__debug__" : Str)) = false := by decide) (hd : (a == ("__debug__" : Str)) = false := by decide) (hcd : (a == ("__classdict__" : Str)) = false := by decide) :
    DE K er W O X (.Call (.Name x p) [.Lambda params (.Call (.Name y p2) (e :: es) [] pos2) scope lpos] [] pos) (LamX.tLam T (THear (rowsOf er rows)) fun E => tCallS (spU K er O' pre post exc) (fun _ => E) t) (wHear rows pre post exc wu) :=
  ⟨lamcallG Hh hA hr (fun A' outer s H E f c' hA' hr' => pe_callW (X := lamCx X A' outer s H E scope f c') (E := fun _ => E) C hA' (hr'.mono hk) (fun σ pins H s e s' I h => passLam pins σ H s e s' I h) (A A' outer s H E f c' hA' hr').1 (hg2 ..) hdb2 (he ..) (hpl ..)) hg L hdef hbind hdb hd hcd, se_hear hT hO S⟩
end
end DW

/-! A module's dict of defs; a call of what a name holds. -/
namespace DW
open PySem PySem.Spec
open PyProof.Rows L2 DL
def rNotKD (K : PySem.W.Frag) (d : Addr) : R2 := fun x y H Q => ∃ (z : Str) (r : Option Value), x = .str z ∧ y = .ref d ∧ PySem.W.nsIn K d z = some r ∧ Q (.bl (!r.isSome)) H
/-- e not in D, of a name that D has -/
def wNotKD (tab : List (Str × Addr)) (wa : WE) (s : Sl) (Q : EV → Sl → Prop) (e : EK) : Prop := wa s (fun a s1 => rdq a s1 fun x => ∃ z f, x = .str z ∧ (z, f) ∈ tab ∧ Q (.d (.bool false)) s1) e
/-- D[e] -/
def wIxKD (tab : List (Str × Addr)) (wa : WE) (s : Sl) (Q : EV → Sl → Prop) (e : EK) : Prop := wa s (fun a s1 => rdq a s1 fun x => ∃ z f, x = .str z ∧ (z, f) ∈ tab ∧ Q (.raw (.ref f)) s1) e
/-- what the defs of a dict promise -/
abbrev RdT := Addr → (List AV → Prop) → (List AV → PyData → Prop) → (List AV → Str → PyData → Prop) → Prop
def wCallV (i : Nat) (R : RdT) (wu : WU) (s : Sl) (Q : EV → Sl → Prop) (e : EK) : Prop := ∃ f pre post exc, s[i]? = some (some (.raw (.ref f))) ∧ R f pre post exc ∧ wu s (fun as s1 => pre as ∧ (∀ d, post as d → Q (.d d) s1) ∧ ∀ c x, exc as c x → e c x s1) e
def tCallVW (i : Nat) (S : Addr → Sp → Prop) (E : L2.St → XK) (t : TA) : TE := fun σ H Q => ∃ f sp, σ[i]? = some (some (.ref f)) ∧ S f sp ∧ t σ H fun vs H1 => sp vs H1 Q (E σ)
def SpR (K : PySem.W.Frag) (er : Ers) (O : Md → Prop) (R : RdT) (f : Addr) (sp : Sp) : Prop := ∃ pre post exc, R f pre post exc ∧ sp = spU K er O pre post exc
section
variable {K : PySem.W.Frag} {er : Ers} {W : WX} {O O' : Md → Prop} {ta : TE} {wa : WE} {t : TA} {wu : WU} {tab : List (Str × Addr)} {RD : Addr} {R : RdT} {i : Nat}
theorem se_notKD (hd : ∀ z f, (z, f) ∈ tab → PySem.W.nsIn K RD z = some (some (.ref f))) (ha : SE K er W O ta wa) : SE K er W O (tOp (rNotKD K RD) ta (tC (.ref RD))) (wNotKD tab wa) := fun M mo J0 H0 Pr s σ J H f Q e q he Qv k =>
  ha M mo J0 H0 Pr s σ J H f _ e q he _ fun x a s1 J1 H1 f1 b1 va q1 => by
    obtain ⟨dx, ⟨z, g, rfl, hm, q2⟩, ax⟩ := rdq_use f1 va q1
    exact ⟨z, _, dq_str ax, rfl, hd z g hm, k _ (.d (.bool false)) s1 J1 H1 f1 b1 (.bl false) q2⟩
theorem se_ixKD (hd : ∀ z f, (z, f) ∈ tab → PySem.W.nsIn K RD z = some (some (.ref f))) (ha : SE K er W O ta wa) : SE K er W O (tOp (DL.rIxD K RD) (tC (.ref RD)) ta) (wIxKD tab wa) := fun M mo J0 H0 Pr s σ J H f Q e q he Qv k =>
  ha M mo J0 H0 Pr s σ J H f _ e q he _ fun x a s1 J1 H1 f1 b1 va q1 => by
    obtain ⟨dx, ⟨z, g, rfl, hm, q2⟩, ax⟩ := rdq_use f1 va q1
    exact ⟨z, .ref g, .ref g, rfl, dq_str ax, hd z g hm, rfl, k _ (.raw (.ref g)) s1 J1 H1 f1 b1 rfl q2⟩
theorem se_callV (hO : ∀ M, O M → O' M) (h : SU K er W O t wu) : SE K er W O (tCallVW i (SpR K er O' R) (L2.WE W) t) (wCallV i R wu) := fun M mo J0 H0 Pr s σ J H f Q e ⟨g, pre, post, exc, hi, hR, q⟩ he Qv k => by
  obtain ⟨v, hv, a⟩ := f.at_ i _ hi
  cases (show v = V.ref g from a)
  exact ⟨g, _, hv, ⟨pre, post, exc, hR, rfl⟩, h M mo J0 H0 Pr s σ J H f _ e q he _ fun vs as s1 J1 H1 f1 b1 a1 ⟨hp, h1, h2⟩ => sp_use hO mo he f1 a1 hp h1 h2 fun v r s' J' H' f' b' => k v r s' J' H' f' (b1.trans b')⟩
end
section
variable {K : PySem.W.Frag} {er : Ers} {W : WX} {O O' : Md → Prop} {X : Cx} {a e : Expr} {es : List Expr} {ta : TE} {wa : WE} {t : TA} {wu : WU} {tab : List (Str × Addr)} {RD : Addr} {R : RdT} {i k : Nat} {x y : Str} {p p2 pos : Pos} {ds : Array DictEntry} {n : Nat}
theorem de_notKD (hK : X.K = K) (D : KDict X.K X.w RD ds n) (hd : ∀ z f, (z, f) ∈ tab → PySem.W.nsIn K RD z = some (some (.ref f))) (A : DE K er W O X a ta wa) (h : ∀ {tb : TE}, PE X a ta → PE X e (tOp (rNotKD X.K RD) ta (tC (.ref RD)))) : DE K er W O X e (tOp (rNotKD K RD) ta (tC (.ref RD))) (wNotKD tab wa) := by
  subst hK
  exact ⟨h (tb := ta) A.1, se_notKD hd A.2⟩
theorem de_ixKD (hK : X.K = K) (D : KDict X.K X.w RD ds n) (hm : X.mg x = some (.ref RD)) (hd : ∀ z f, (z, f) ∈ tab → PySem.W.nsIn K RD z = some (some (.ref f))) (A : DE K er W O X a ta wa) (hg : Gl X x := by rfl) (hdb : (x == ("__debug__" : Str)) = false := by decide) (hs : PlainIx a := by exact fun _ _ => rfl) :
    DE K er W O X (.Subscript (.Name x p) a pos) (tOp (DL.rIxD K RD) (tC (.ref RD)) ta) (wIxKD tab wa) := by
  subst hK
  exact ⟨pe_ix (ix_kd D) (pe_glob (v := .ref RD) hg hm rfl hdb) A.1 hs, se_ixKD hd A.2⟩
theorem callVW {CX : CXT} {S : Addr → Sp → Prop} {E : L2.St → XK} (A : ∀ f sp, S f sp → ∃ (fd : FuncData) (ps : List Str), FnG X.prog X.w X.K X.mg X.base CX k f fd ps sp ∧ PySem.W.keepIn X.K (.ref f) = true ∧ Binds X.K fd ps []) (hA : X.A.guards = some []) (hr : Room k X.A) (hx : ∀ σ, PassesAt CX X σ (E σ))
    (hN : X.N[i]? = some x) (hv : Vis X.env.scope x) (ha : PA X (e :: es) t) (hdb : (x == ("__debug__" : Str)) = false := by decide) (hcd : (x == ("__classdict__" : Str)) = false := by decide)
    (he : starEach (e :: es) X.env = (false, eval e X.env) :: starEach es X.env := by rfl) (hpl : (backTo pos (starEach es X.env)).any (·.1) = false := by rfl) : PE X (.Call (.Name x p) (e :: es) [] pos) (tCallVW i S E t) := by
  constructor
  intro pins s σ H Q I ⟨f, sp, hs, hS, ht⟩
  obtain ⟨fd, ps, F, hk, hb⟩ := A f sp hS
  refine wpAny_Call_Name_kw (thn ((pe_var (pos := p) (i := i) hN hv hdb hcd).run pins s σ H (fun v H1 => v = .ref f ∧ H1 = H) I ⟨.ref f, hs, rfl, rfl⟩) fun u s0 h0 => ?_)
  obtain ⟨v, H1, I0, r0, rfl, rfl⟩ := h0
  cases (show u = Value.ref f from r0)
  refine PySem.W.callWith_K (h₀ := X.base) I0.ok.mod.kin hk (thn (ha.run pos pins s0 σ H1 _ I0 ht) fun us s1 ⟨vs, H2, I1, r, q⟩ => ⟨I1.kIn, ?_⟩) he hpl
  have b := hb s1 us I1.kIn (by rw [List.append_nil]; exact r.length.symm.trans (F.siz _ _ _ _ q))
  rw [List.append_nil] at b
  exact go_w (ar := ⟨us, []⟩) F hA hr (hx σ) I1 b r q
theorem de_callV (A : ∀ f sp, SpR X.K er O' R f sp → ∃ (fd : FuncData) (ps : List Str), FnG X.prog X.w X.K X.mg X.base (L2.CX X.prog X.w) k f fd ps sp ∧ PySem.W.keepIn X.K (.ref f) = true ∧ Binds X.K fd ps []) (hK : X.K = K) (hA : X.A.guards = some []) (hr : Room k X.A) (hx : ∀ σ, PassesAt (L2.CX X.prog X.w) X σ (L2.WE W σ)) (hO : ∀ M, O M → O' M)
    (hN : X.N[i]? = some x) (hv : Vis X.env.scope x) (U : DU K er W O X (e :: es) t wu) (hdb : (x == ("__debug__" : Str)) = false := by decide) (hcd : (x == ("__classdict__" : Str)) = false := by decide)
    (he : starEach (e :: es) X.env = (false, eval e X.env) :: starEach es X.env := by rfl) (hpl : (backTo pos (starEach es X.env)).any (·.1) = false := by rfl) : DE K er W O X (.Call (.Name x p) (e :: es) [] pos) (tCallVW i (SpR K er O' R) (L2.WE W) t) (wCallV i R wu) := by
  subst hK
  exact ⟨callVW A hA hr hx hN hv U.1 hdb hcd he hpl, se_callV hO U.2⟩
end
end DW

/-! Places that may be written: fields, dicts. -/
namespace DW
open PySem PySem.Spec
open PyProof.Rows L2 DL
/-- a place that may be written, with what stands there -/
def plc (r : EV) (s : Sl) (k : Nat → List Nat → Addr → Kd → List MV → Prop) : Prop := match r with
  | .at i => match s[i]? with
    | some (some (.mv (.nd p kd ms))) => k i [] p kd ms
    | _ => False
  | .pl i π p => match s[i]? with
    | some (some (.mv m)) => match getM π m with
      | some (.nd q kd ms) => q = p ∧ k i π q kd ms
      | _ => False
    | _ => False
  | _ => False
/-- what stands there is put anew -/
def putAt (s : Sl) (i : Nat) (π : List Nat) (y : MV) : Sl := match s[i]? with
  | some (some (.mv m)) => s.set i (some (.mv (setM π y m)))
  | _ => s
/-- a thing's part: a datum, or a place -/
def chld (i : Nat) (π : List Nat) (n : Nat) (m : MV) (k : EV → Prop) : Prop := match m with
  | .d x => k (.d x)
  | .nd p _ _ => k (.pl i (π ++ [n]) p)
  | .hole p => k (.raw (.ref p))
theorem zip_at {α β : Type} : ∀ {l : List α} {k : List β} {n : Nat} {a : α} {b : β}, l[n]? = some a → k[n]? = some b → (l.zip k)[n]? = some (a, b)
  | [], _, _, _, _, h, _ => by simp at h
  | _ :: _, [], _, _, _, _, h => by simp at h
  | x :: l, y :: k, 0, _, _, h, g => by simp at h g; simp [h, g]
  | x :: l, y :: k, n + 1, _, _, h, g => by
    rw [List.getElem?_cons_succ] at h g
    rw [List.zip_cons_cons, List.getElem?_cons_succ]
    exact zip_at h g
theorem look_zip {β : Type} : ∀ {l : List Str} {k : List β} {n : Nat} {a : Str} {b : β}, l.Nodup → l[n]? = some a → k[n]? = some b → (l.zip k).lookup a = some b
  | [], _, _, _, _, _, h, _ => by simp at h
  | _ :: _, [], _, _, _, _, _, h => by simp at h
  | x :: l, y :: k, 0, _, _, nd, h, g => by simp at h g; subst h g; simp [List.lookup]
  | x :: l, y :: k, n + 1, a, b, nd, h, g => by
    rw [List.getElem?_cons_succ] at h g
    rw [List.nodup_cons] at nd
    have ne : a ≠ x := fun z => nd.1 (by rw [← z]; exact List.mem_of_getElem? h)
    rw [List.zip_cons_cons, List.lookup_cons, beq_false_of_ne ne]
    exact look_zip nd.2 h g
theorem look_none {β : Type} : ∀ {l : List Str} {k : List β} {a : Str}, (∀ n : Nat, l[n]? = some a → k.length ≤ n) → (l.zip k).lookup a = none
  | [], _, _, _ => rfl
  | _ :: _, [], _, _ => by rw [List.zip_nil_right]; rfl
  | x :: l, y :: k, a, h => by
    have ne : a ≠ x := fun z => by
      have := h 0 (by rw [z]; rfl)
      simp at this
    rw [List.zip_cons_cons, List.lookup_cons, beq_false_of_ne ne]
    exact look_none fun n e => by
      have := h (n + 1) (by rw [List.getElem?_cons_succ]; exact e)
      simpa using this
/-- the n-th is put anew, or comes at the end -/
def setC {α : Type} (n : Nat) (m : α) (ms : List α) : List α := match ms[n]? with
  | some _ => ms.set n m
  | none => ms ++ [m]
theorem putF_zip (f : Str) (v : V) : ∀ {l : List Str} {k : List V} {n : Nat}, l.Nodup → l[n]? = some f → n ≤ k.length → putF f v (l.zip k) = l.zip (setC n v k)
  | [], _, _, _, h, _ => by simp at h
  | x :: l, [], n, nd, h, g => by
    have e : n = 0 := by simpa using g
    subst e
    simp at h
    subst h
    simp [putF, setC]
  | x :: l, y :: k, 0, nd, h, g => by
    simp at h
    subst h
    simp [putF, setC]
  | x :: l, y :: k, n + 1, nd, h, g => by
    rw [List.getElem?_cons_succ] at h
    rw [List.nodup_cons] at nd
    have ne : ¬ x = f := fun z => nd.1 (by rw [z]; exact List.mem_of_getElem? h)
    rw [List.zip_cons_cons, putF, if_neg ne, putF_zip f v nd.2 h (by simpa using g)]
    unfold setC
    rw [List.getElem?_cons_succ]
    cases k[n]? <;> simp
theorem setC_len {α : Type} {n : Nat} {m : α} {ms : List α} {b : Nat} (h : ms.length ≤ b) (hn : n < b) (hm : n ≤ ms.length) : (setC n m ms).length ≤ b := by
  unfold setC
  split
  · rw [List.length_set]; exact h
  · rename_i e
    have : ms.length ≤ n := List.getElem?_eq_none_iff.mp e
    rw [List.length_append, List.length_singleton]
    omega
section
variable {K : PySem.W.Frag} {J H : Hp}
theorem ows_get : ∀ {vs : List V} {ms : List MV} {n : Nat} {m : MV}, Ows K J H vs ms → ms[n]? = some m → ∃ v, vs[n]? = some v ∧ Ow K J H v m
  | _, [], _, _, _, e => by simp at e
  | _, _ :: _, 0, _, h, e => by
    cases h with
    | cons a b => simp at e; subst e; exact ⟨_, rfl, a⟩
  | _, _ :: _, n + 1, _, h, e => by
    cases h with
    | cons a b => simpa using ows_get b (by simpa using e)
theorem ows_set : ∀ {vs : List V} {ms : List MV} {n : Nat} {v : V} {m : MV}, Ows K J H vs ms → Ow K J H v m → Ows K J H (vs.set n v) (ms.set n m)
  | _, [], _, _, _, h, _ => by cases h; exact .nil
  | _, _ :: _, 0, _, _, h, o => by
    cases h with
    | cons a b => exact .cons o b
  | _, _ :: _, n + 1, _, _, h, o => by
    cases h with
    | cons a b => exact .cons a (ows_set b o)
theorem ows_era : ∀ {vs : List V} {ms : List MV} {n : Nat}, Ows K J H vs ms → Ows K J H (vs.eraseIdx n) (ms.eraseIdx n)
  | _, [], _, h => by cases h; exact .nil
  | _, _ :: _, 0, h => by
    cases h with
    | cons a b => exact b
  | _, _ :: _, n + 1, h => by
    cases h with
    | cons a b => exact .cons a (ows_era b)
theorem ows_setC {vs : List V} {ms : List MV} {n : Nat} {v : V} {m : MV} (h : Ows K J H vs ms) (o : Ow K J H v m) : Ows K J H (setC n v vs) (setC n m ms) := by
  unfold setC
  have hl := ows_len h
  cases q : ms[n]? with
  | none =>
    have : vs[n]? = none := List.getElem?_eq_none_iff.mpr (by rw [hl]; exact List.getElem?_eq_none_iff.mp q)
    rw [this]
    exact ows_join h (.cons o .nil)
  | some m' =>
    obtain ⟨v', hv, _⟩ := ows_get h q
    rw [hv]
    exact ows_set h o
end
theorem fpMs_set {m' : MV} : ∀ {ms : List MV} {n : Nat} {a : Addr}, a ∈ fpMs (ms.set n m') → a ∈ fpMs ms ∨ a ∈ fpM m'
  | [], _, _, h => .inl h
  | m :: ms, 0, a, h => by
    rw [List.set_cons_zero, fpMs_cons] at h
    rw [fpMs_cons]
    rcases List.mem_append.mp h with h | h
    · exact .inr h
    · exact .inl (List.mem_append_right _ h)
  | m :: ms, n + 1, a, h => by
    rw [List.set_cons_succ, fpMs_cons] at h
    rw [fpMs_cons]
    rcases List.mem_append.mp h with h | h
    · exact .inl (List.mem_append_left _ h)
    · rcases fpMs_set h with h | h
      · exact .inl (List.mem_append_right _ h)
      · exact .inr h
theorem fpMs_one (m : MV) : fpMs [m] = fpM m := by rw [fpMs_cons, fpMs_nil, List.append_nil]
theorem nd_set {m' : MV} (hn : (fpM m').Nodup) : ∀ {ms : List MV} {n : Nat}, (fpMs ms).Nodup → (∀ a ∈ fpM m', a ∉ fpMs ms) → (fpMs (ms.set n m')).Nodup
  | [], _, h, _ => h
  | m :: ms, 0, h, g => by
    rw [List.set_cons_zero, fpMs_cons]
    rw [fpMs_cons] at h
    exact List.nodup_append.mpr ⟨hn, (List.nodup_append.mp h).2.1, fun a q b q2 z => g a q (by rw [fpMs_cons, z]; exact List.mem_append_right _ q2)⟩
  | m :: ms, n + 1, h, g => by
    rw [List.set_cons_succ, fpMs_cons]
    rw [fpMs_cons] at h
    obtain ⟨h1, h2, h3⟩ := List.nodup_append.mp h
    refine List.nodup_append.mpr ⟨h1, nd_set hn h2 fun a q q2 => g a q (by rw [fpMs_cons]; exact List.mem_append_right _ q2), fun a q b q2 z => ?_⟩
    rcases fpMs_set q2 with q2 | q2
    · exact h3 a q b q2 z
    · exact g b q2 (by rw [fpMs_cons, ← z]; exact List.mem_append_left _ q)
theorem fpMs_setC {m' : MV} {ms : List MV} {n : Nat} {a : Addr} (h : a ∈ fpMs (setC n m' ms)) : a ∈ fpMs ms ∨ a ∈ fpM m' := by
  unfold setC at h
  split at h
  · exact fpMs_set h
  · rw [fpMs_app, fpMs_one] at h
    exact List.mem_append.mp h
theorem nd_setC {m' : MV} {ms : List MV} {n : Nat} (hn : (fpM m').Nodup) (h : (fpMs ms).Nodup) (g : ∀ a ∈ fpM m', a ∉ fpMs ms) : (fpMs (setC n m' ms)).Nodup := by
  unfold setC
  split
  · exact nd_set hn h g
  · rw [fpMs_app, fpMs_one]
    exact List.nodup_append.mpr ⟨h, hn, fun a q b q2 z => g b q2 (by rw [← z]; exact q)⟩
theorem fpMs_era : ∀ {ms : List MV} {n : Nat}, (fpMs (ms.eraseIdx n)).Sublist (fpMs ms)
  | [], _ => by simp
  | m :: ms, 0 => by rw [List.eraseIdx_cons_zero, fpMs_cons]; exact List.sublist_append_right _ _
  | m :: ms, n + 1 => by rw [List.eraseIdx_cons_succ, fpMs_cons, fpMs_cons]; exact List.Sublist.append_left fpMs_era _
section
variable {K : PySem.W.Frag} {M : Md} {J0 H0 J H J1 H1 J' H' : Hp} {Pr : List (Addr × HO)} {s : Sl} {σ : L2.St} {v : V} {r : EV} {i : Nat} {p : Addr}
/-- a new thing of one's own, that no slot has yet -/
structure OwF (K : PySem.W.Frag) (M : Md) (H0 : Hp) (Pr : List (Addr × HO)) (s : Sl) (σ : L2.St) (J H : Hp) (v : V) (m : MV) : Prop where
  ow : Ow K J H v m
  nd : (fpM m).Nodup
  fr : ∀ a ∈ fpM m, J a = none ∧ NewP M H0 a ∧ FreeA Pr s σ a
theorem OwF.d {x : PyData} (a : Da K J v x) : OwF K M H0 Pr s σ J H v (.d x) := ⟨.d a, by rw [fpM_d]; exact List.nodup_nil, fun a q => by rw [fpM_d] at q; cases q⟩
theorem plc_use {k : Nat → List Nat → Addr → Kd → List MV → Prop} (f : Fr K M J0 H0 Pr s σ J H) (h : Ve K J σ v r) (q : plc r s k) : ∃ i π p kd ms m, v = .ref p ∧ s[i]? = some (some (.mv m)) ∧ getM π m = some (.nd p kd ms) ∧ k i π p kd ms := by
  cases r with
  | d x => exact q.elim
  | «at» i =>
    unfold plc at q
    dsimp only at q
    split at q
    · rename_i p kd ms e
      have o : Ow K J H v (.nd p kd ms) := (f.vs e h).1
      cases o with
      | nd a b c d => exact ⟨i, [], p, kd, ms, _, rfl, e, rfl, q⟩
    · exact q.elim
  | raw u => exact q.elim
  | pl i π p =>
    unfold plc at q
    dsimp only at q
    split at q
    · rename_i m e
      split at q
      · rename_i q0 kd ms g
        obtain ⟨rfl, q⟩ := q
        exact ⟨i, π, _, kd, ms, m, h, e, g, q⟩
      · exact q.elim
    · exact q.elim
/-- what stands at a place is put anew -/
theorem Fr.wr (f : Fr K M J0 H0 Pr s σ J H) {m : MV} {π : List Nat} {kd kd' : Kd} {ms ms' : List MV} {vs' : List V} (e : s[i]? = some (some (.mv m))) (g : getM π m = some (.nd p kd ms)) (hk : exA kd' = exA kd) (hx : exH kd p H → exH kd' p H) (o : Ows K J H vs' ms') (hf : fits kd' vs'.length)
    (nd : (fpMs ms').Nodup) (hm : ∀ a ∈ fpMs ms', a ∈ fpMs ms ∨ (J a = none ∧ NewP M H0 a ∧ FreeA Pr s σ a)) : Fr K M J0 H0 Pr (putAt s i π (.nd p kd' ms')) σ J (upd H p (hoOf kd' vs')) := by
  obtain ⟨u, ou, n1, n2, go⟩ := f.focus e g
  have ep : putAt s i π (.nd p kd' ms') = s.set i (some (.mv (setM π (.nd p kd' ms') m))) := by unfold putAt; rw [e]
  rw [ep]
  rw [fpM_nd] at n1 n2
  obtain ⟨n3, n4⟩ := List.nodup_cons.mp n1
  obtain ⟨n5, n6, n7⟩ := List.nodup_append.mp n4
  obtain ⟨jp, np, nf⟩ := n2 p (List.mem_cons_self ..)
  have sub : ∀ a ∈ fpMs ms, a ∈ p :: (exA kd ++ fpMs ms) := fun a q => List.mem_cons_of_mem _ (List.mem_append_right _ q)
  have subx : ∀ a ∈ exA kd, a ∈ p :: (exA kd ++ fpMs ms) := fun a q => List.mem_cons_of_mem _ (List.mem_append_left _ q)
  have ne : ∀ a ∈ fpMs ms', a ≠ p := fun a q z => by
    rcases hm a q with q | ⟨_, _, q⟩
    · exact n3 (List.mem_append_right _ (by rw [← z]; exact q))
    · exact nf (by rw [← z]; exact q)
  have nex : ∀ a ∈ exA kd, a ≠ p := fun a q z => n3 (List.mem_append_left _ (by rw [← z]; exact q))
  have nxm : ∀ a ∈ exA kd, a ∉ fpMs ms' := fun a q q2 => by
    rcases hm a q2 with q2 | ⟨_, _, q2⟩
    · exact n7 a q a q2 rfl
    · exact (n2 a (subx a q)).2.2 q2
  cases ou with
  | nd a b c d =>
    refine go J _ (.nd p kd' ms') (putM f.w0 f.tr ⟨_, a, hoOf_mu _ _⟩ np jp) (.refl _) (fun a o e nt na _ => ?_) (fun _ _ _ _ _ z => z) ?_ ?_ fun a q => ?_
    · rw [upd_ne fun z => na (by rw [fpM_nd, z]; exact List.mem_cons_self ..)]; exact e
    · exact .nd upd_same (exH_keep (hx b) fun a q => upd_ne (nex a (by rw [← hk]; exact q))) hf (o.frame (.refl _) fun a q => upd_ne (ne a q))
    · rw [fpM_nd, hk]
      refine List.nodup_cons.mpr ⟨fun q => ?_, List.nodup_append.mpr ⟨n5, nd, fun a q b q2 z => nxm a q (by rw [z]; exact q2)⟩⟩
      rcases List.mem_append.mp q with q | q
      · exact nex p q rfl
      · exact ne p q rfl
    · rw [fpM_nd, hk] at q
      rcases List.mem_cons.mp q with rfl | q
      · exact ⟨jp, np, .inl (by rw [fpM_nd]; exact List.mem_cons_self ..)⟩
      rcases List.mem_append.mp q with q | q
      · exact ⟨(n2 a (subx a q)).1, (n2 a (subx a q)).2.1, .inl (by rw [fpM_nd]; exact subx a q)⟩
      · rcases hm a q with q | q
        · exact ⟨(n2 a (sub a q)).1, (n2 a (sub a q)).2.1, .inl (by rw [fpM_nd]; exact sub a q)⟩
        · exact ⟨q.1, q.2.1, .inr q.2.2⟩
/-- what is known of a place -/
theorem Fr.nd (f : Fr K M J0 H0 Pr s σ J H) {m : MV} {π : List Nat} {kd : Kd} {ms : List MV} (e : s[i]? = some (some (.mv m))) (g : getM π m = some (.nd p kd ms)) : ∃ vs, H p = some (hoOf kd vs) ∧ exH kd p H ∧ fits kd vs.length ∧ Ows K J H vs ms ∧ (fpMs ms).Nodup ∧ ∀ a ∈ fpMs ms, J a = none ∧ NewP M H0 a ∧ ¬ FreeA Pr s σ a := by
  obtain ⟨u, ou, n1, n2, _⟩ := f.focus e g
  rw [fpM_nd] at n1 n2
  cases ou with
  | nd a b c d => exact ⟨_, a, b, c, d, (List.nodup_append.mp (List.nodup_cons.mp n1).2).2.1, fun a q => n2 a (List.mem_cons_of_mem _ (List.mem_append_right _ q))⟩
theorem chld_use {n : Nat} {m : MV} {π : List Nat} {k : EV → Prop} (o : Ow K J H v m) (q : chld i π n m k) : ∃ r, Ve K J σ v r ∧ k r := by
  cases m with
  | d x =>
    cases o with
    | d a => exact ⟨.d x, a, q⟩
  | nd p kd ms =>
    cases o with
    | nd a b c d => exact ⟨.pl i (π ++ [n]) p, rfl, q⟩
  | hole p =>
    cases o
    exact ⟨.raw (.ref p), rfl, q⟩
end
/-! ### what is read without a change -/
abbrev WR := Sl → (EV → Prop) → Prop
def SR (K : PySem.W.Frag) (te : TE) (wr : WR) : Prop := ∀ M J0 H0 Pr s σ J H, Fr K M J0 H0 Pr s σ J H → ∀ Q, wr s Q → ∃ v r, Ve K J σ v r ∧ Q r ∧ ∀ Qv : VK, Qv v H → te σ H Qv
theorem SR.go {K : PySem.W.Frag} {te : TE} {wr : WR} (h : SR K te wr) : ∀ M J0 H0 Pr s σ J H, Fr K M J0 H0 Pr s σ J H → ∀ Q, wr s Q → ∀ Qv : VK, (∀ v r, Ve K J σ v r → Q r → Qv v H) → te σ H Qv := fun M J0 H0 Pr s σ J H f Q q Qv k => by
  obtain ⟨v, r, a, q2, g⟩ := h M J0 H0 Pr s σ J H f Q q
  exact g Qv (k v r a q2)
def wrVar (i : Nat) (s : Sl) (Q : EV → Prop) : Prop := match s[i]? with
  | some (some (.d x)) => Q (.d x)
  | some (some (.raw u)) => Q (.raw u)
  | some (some _) => Q (.at i)
  | _ => False
def wrC (x : PyData) (_ : Sl) (Q : EV → Prop) : Prop := Q (.d x)
/-- a class is known -/
structure CF (K : PySem.W.Frag) (c : ClsD) : Prop where
  cls : L2.Cls K c.ad
  no : ∀ f ∈ c.fl, NoAttr K c.ad f
  few : c.fl.length < 1000
def wrFld (c : ClsD) (n : Nat) (wr : WR) (s : Sl) (Q : EV → Prop) : Prop := wr s fun r => plc r s fun i π _ kd ms => match kd with
  | .obj _ c' => c' = c ∧ (match ms[n]? with
    | some m => chld i π n m Q
    | none => False)
  | _ => False
def wR (wr : WR) (s : Sl) (Q : EV → Sl → Prop) (_ : EK) : Prop := wr s fun r => Q r s
section
variable {K : PySem.W.Frag} {er : Ers} {W : WX} {O : Md → Prop} {ta tb tc te : TE} {wr : WR} {c : ClsD} {n : Nat} {x : Str}
theorem sr_var {i : Nat} : SR K (tVar i) (wrVar i) := fun M J0 H0 Pr s σ J H f Q q => by
  unfold wrVar at q
  split at q
  · rename_i x hx
    obtain ⟨v, hv, a⟩ := f.at_ i _ hx
    exact ⟨v, .d x, a, q, fun Qv h => ⟨v, hv, h⟩⟩
  · rename_i x hx
    obtain ⟨v, hv, a⟩ := f.at_ i _ hx
    exact ⟨v, .raw x, a, q, fun Qv h => ⟨v, hv, h⟩⟩
  · rename_i x _ _ hx
    obtain ⟨v, hv, _⟩ := f.at_ i x hx
    exact ⟨v, .at i, hv, q, fun Qv h => ⟨v, hv, h⟩⟩
  · exact q.elim
theorem sr_c {v : V} {x : PyData} (h : ∀ J, Da K J v x) : SR K (tC v) (wrC x) := fun M J0 H0 Pr s σ J H f Q q => ⟨v, .d x, h J, q, fun Qv h => h⟩
theorem sr_fld (C : CF K c) (hn : c.fl[n]? = some x) (h : SR K ta wr) : SR K (tFld K ta x) (wrFld c n wr) := fun M J0 H0 Pr s σ J H f Q q => by
  obtain ⟨v, r, va, q1, run⟩ := h M J0 H0 Pr s σ J H f _ q
  obtain ⟨i, π, p, kd, ms, m, rfl, e, g, q2⟩ := plc_use f va q1
  split at q2
  · rename_i dx c'
    obtain ⟨rfl, q2⟩ := q2
    split at q2
    · rename_i y ey
      obtain ⟨vs, hp, hx, hf, ov, _⟩ := f.nd e g
      obtain ⟨v, hv, oy⟩ := ows_get ov ey
      obtain ⟨r', ve, q3⟩ := chld_use (σ := σ) oy q2
      exact ⟨v, r', ve, q3, fun Qv h => run _ ⟨p, c'.ad, dx, _, v, rfl, hp, C.cls, C.no x (List.mem_of_getElem? hn), look_zip hf.2 hn hv, h⟩⟩
    · exact q2.elim
  · exact q2.elim
theorem se_r (h : SR K te wr) : SE K er W O te (wR wr) := fun M mo J0 H0 Pr s σ J H f Q e q he Qv k => h.go M J0 H0 Pr s σ J H f _ q _ fun v r va q1 => k v r s J H f (.refl _) va q1
end
/-! ### what is made -/
abbrev WM := Sl → (MV → Sl → Prop) → EK → Prop
def SM (K : PySem.W.Frag) (er : Ers) (W : WX) (O : Md → Prop) (te : TE) (wm : WM) : Prop := ∀ M, O M → ∀ J0 H0 Pr s σ J H, Fr K M J0 H0 Pr s σ J H → ∀ Q e, wm s Q e → ErO K er W M J0 H0 Pr e →
  ∀ Qv : VK, (∀ v m s' J' H', Fr K M J0 H0 Pr s' σ J' H' → Sub J J' → OwF K M H0 Pr s' σ J' H' v m → Q m s' → Qv v H') → te σ H Qv
def wmD (we : WE) (s : Sl) (Q : MV → Sl → Prop) (e : EK) : Prop := we s (fun r s1 => frz r s1 fun x s2 => Q (.d x) s2) e
def wmDct (s : Sl) (Q : MV → Sl → Prop) (_ : EK) : Prop := ∀ p, Q (.nd p (.dct []) []) s
def wmLst (wl : WA) (s : Sl) (Q : MV → Sl → Prop) (e : EK) : Prop := wl s (fun xs s1 => xs.length ≤ sizeLine ∧ ∀ p, Q (.nd p .lst (xs.map .d)) s1) e
/-- a new object comes -/
theorem owf_new {K : PySem.W.Frag} {M : Md} {J0 H0 J H : Hp} {Pr : List (Addr × HO)} {s : Sl} {σ : L2.St} {p : Addr} {kd : Kd} {vs : List V} {ms : List MV} (f : Fr K M J0 H0 Pr s σ J H) (hp : H p = none) (hx : exA kd = []) (hh : exH kd p (upd H p (hoOf kd vs))) (hf : fits kd vs.length) (o : Ows K J H vs ms) (hm : fpMs ms = []) :
    Fr K M J0 H0 Pr s σ J (upd H p (hoOf kd vs)) ∧ OwF K M H0 Pr s σ J (upd H p (hoOf kd vs)) (.ref p) (.nd p kd ms) := by
  refine ⟨f.step (f.wf.cell hp), .nd upd_same hh hf (o.frame (.refl _) fun a q => ?_), ?_, fun a q => ?_⟩
  · rw [hm] at q; cases q
  · rw [fpM_nd, hx, hm]; exact List.nodup_cons.mpr ⟨List.not_mem_nil, List.nodup_nil⟩
  · rw [fpM_nd, hx, hm] at q
    rcases List.mem_singleton.mp q with rfl
    exact ⟨f.wf.jh.back hp, f.new0 hp, f.free fun o _ z => by rw [hp] at z; cases z⟩
section
variable {K : PySem.W.Frag} {er : Ers} {W : WX} {O : Md → Prop} {ta tb tc te : TE} {t : TA} {we : WE} {wl : WA} {wr : WR} {wm : WM} {c : ClsD} {n : Nat} {x : Str}
theorem sm_d (h : SE K er W O te we) : SM K er W O te (wmD we) := fun M mo J0 H0 Pr s σ J H f Q e q he Qv k =>
  h M mo J0 H0 Pr s σ J H f _ e q he _ fun v r s1 J1 H1 f1 b1 va q1 => by
    obtain ⟨y, s2, J2, q2, b2, a2, f2⟩ := frz_use f1 va q1
    exact k v (.d y) s2 J2 H1 f2 (b1.trans b2) (.d a2) q2
theorem sm_dct : SM K er W O tDNewK wmDct := fun M mo J0 H0 Pr s σ J H f Q e q he Qv k => fun p hp => by
  obtain ⟨f1, o⟩ := owf_new (kd := .dct []) (vs := []) (ms := []) f hp rfl True.intro ⟨rfl, List.nodup_nil⟩ .nil fpMs_nil
  exact k _ _ s J _ f1 (.refl _) o (q p)
theorem sm_lst (h : SA K er W O t wl) : SM K er W O (tLst t) (wmLst wl) := fun M mo J0 H0 Pr s σ J H f Q e q he Qv k =>
  h M mo J0 H0 Pr s σ J H f _ e q he _ fun vs ds s1 J1 H1 f1 b1 a1 ⟨hl, q1⟩ => ⟨by rw [das_len a1]; exact hl, fun p hp => by
    obtain ⟨f2, o⟩ := owf_new (kd := .lst) (vs := vs) (ms := ds.map .d) f1 hp rfl True.intro True.intro (ows_das a1) (fpMs_data ds)
    exact k _ _ s1 J1 _ f2 b1 o (q1 p)⟩
/-! ### statements -/
/-- x = a new thing -/
def wSetM (k : Nat) (wm : WM) (s : Sl) (E : EW) : Prop := wm s (fun m s1 => E.nx (s1.set k (some (.mv m)))) E.er
/-- a slot is given a new thing -/
theorem Fr.take {M : Md} {J0 H0 J H : Hp} {Pr : List (Addr × HO)} {s : Sl} {σ : L2.St} {v : V} {m : MV} {k : Nat} (f : Fr K M J0 H0 Pr s σ J H) (o : OwF K M H0 Pr s σ J H v m) : Fr K M J0 H0 Pr (s.set k (some (.mv m))) (σ.set k (some v)) J H :=
  f.go f.tr (.refl _) k (some (.mv m)) (some v) (fun y e => by cases e; exact ⟨v, rfl, o.ow, o.nd, fun a q => ⟨(o.fr a q).1, (o.fr a q).2.1⟩⟩)
    (fun i x u n e hu a q => ⟨rfl, f.jn e hu q, fun y v' e1 e2 => by cases e1; cases e2; exact fun z => (o.fr a z).2.2.1 i x u e hu q⟩)
    fun q hq => ⟨rfl, (f.prt q hq).2.1, fun y v' e1 e2 => by cases e1; cases e2; exact fun z => (o.fr _ z).2.2.2 q hq rfl⟩
theorem ss_setM {k : Nat} (h : SM K er W O te wm) : SS K er W O (tAsg te (gName k)) (wSetM k wm) := fun M mo J0 H0 Pr s σ J H f E D q kk he =>
  h M mo J0 H0 Pr s σ J H f _ _ q he _ fun v m s1 J1 H1 f1 b1 o q1 => kk.nx _ _ _ _ (f1.take o) b1 q1
/-- o.f = a thing -/
def wFld (c : ClsD) (n : Nat) (wr : WR) (wm : WM) (s : Sl) (E : EW) : Prop := wm s (fun m s1 => wr s1 fun r => plc r s1 fun i π p kd ms => match kd with
  | .obj dx c' => c' = c ∧ n ≤ ms.length ∧ E.nx (putAt s1 i π (.nd p (.obj dx c) (setC n m ms)))
  | _ => False) E.er
theorem ss_fld (C : CF K c) (hn : c.fl[n]? = some x) (h : SM K er W O tb wm) (hr : SR K ta wr) : SS K er W O (sFld K ta tb x) (wFld c n wr wm) := fun M mo J0 H0 Pr s σ J H f E D q kk he =>
  h M mo J0 H0 Pr s σ J H f _ _ q he _ fun v m s1 J1 H1 f1 b1 o q1 => hr.go M J0 H0 Pr s1 σ J1 H1 f1 _ q1 _ fun u r va q2 => by
    obtain ⟨i, π, p, kd, ms, m0, rfl, e, g, q3⟩ := plc_use f1 va q2
    split at q3
    · rename_i dx c'
      obtain ⟨rfl, hl, q3⟩ := q3
      obtain ⟨vs, hp, hx, hf, ov, nd, hfr⟩ := f1.nd e g
      have lv := ows_len ov
      have hn' := (List.getElem?_eq_some_iff.mp hn).1
      refine ⟨p, c'.ad, dx, _, rfl, hp, C.cls, C.no x (List.mem_of_getElem? hn), ?_, ?_⟩
      · have := C.few
        rw [List.length_zip]; omega
      · rw [putF_zip x v hf.2 hn (by omega)]
        have fw := f1.wr (kd' := .obj dx c') (ms' := setC n m ms) (vs' := setC n v vs) e g rfl (fun z => z) (ows_setC ov o.ow) ⟨setC_len hf.1 hn' (by omega), hf.2⟩ (nd_setC o.nd nd fun a qa z => (hfr a z).2.2 (o.fr a qa).2.2)
          fun a qa => (fpMs_setC qa).imp id fun z => o.fr a z
        exact kk.nx _ _ _ _ fw b1 q3
    · exact q3.elim
end
end DW

/-! Dicts of one's own. -/
namespace DW
open PySem PySem.Spec
open PyProof.Rows L2 DL
def keyD : PyData → Option Key
  | .int i => some (.inl i)
  | .str x => some (.inr x)
  | _ => none
def dKey : Key → PyData
  | .inl i => .int i
  | .inr x => .str x
theorem key_use {K : PySem.W.Frag} {J : Hp} {v : V} {x : PyData} {k : Key} (a : Da K J v x) (e : keyD x = some k) : v = kV k := by
  cases x with
  | int i => cases e; exact da_int a
  | str z => cases e; exact da_str a
  | none => cases e
  | bool b => cases e
  | list xs => cases e
  | tuple xs => cases e
  | dict kvs => cases e
theorem key_da {K : PySem.W.Frag} {J : Hp} (k : Key) : Da K J (kV k) (dKey k) := by
  cases k with
  | inl i => exact .int i
  | inr x => exact .str x
def posK : List Key → Key → Option Nat
  | [], _ => none
  | k0 :: ks, k => if k0 = k then some 0 else (posK ks k).map (· + 1)
theorem posK_some : ∀ {ks : List Key} {k : Key} {n : Nat}, posK ks k = some n → ks[n]? = some k
  | [], _, _, h => by cases h
  | k0 :: ks, k, n, h => by
    unfold posK at h
    split at h
    · rename_i e; cases h; rw [e]; rfl
    · cases q : posK ks k with
      | none => rw [q] at h; cases h
      | some m => rw [q] at h; cases h; simpa using posK_some q
theorem posK_none : ∀ {ks : List Key} {k : Key}, posK ks k = none → k ∉ ks
  | [], _, _ => List.not_mem_nil
  | k0 :: ks, k, h => by
    unfold posK at h
    split at h
    · cases h
    · rename_i ne
      cases q : posK ks k with
      | some m => rw [q] at h; cases h
      | none => exact fun z => (List.mem_cons.mp z).elim (fun e => ne e.symm) (posK_none q)
theorem valV_zip (k : Key) : ∀ {ks : List Key} {vs : List V}, ks.length = vs.length → valV (ks.zip vs) k = (posK ks k).bind fun n => vs[n]?
  | [], vs, h => by cases vs with
    | nil => rfl
    | cons _ _ => cases h
  | k0 :: ks, [], h => by cases h
  | k0 :: ks, v :: vs, h => by
    rw [List.zip_cons_cons]
    unfold posK
    by_cases e : k0 = k
    · rw [valV_pos e, if_pos e]; rfl
    · rw [valV_neg e, if_neg e, valV_zip k (by simpa using h)]
      cases posK ks k <;> simp
theorem map_zip_same (k : Key) (v : V) : ∀ {ks : List Key} {vs : List V}, k ∉ ks → (ks.zip vs).map (fun kv => if kv.1 = k then (kv.1, v) else kv) = ks.zip vs
  | [], _, _ => rfl
  | _ :: _, [], _ => by rw [List.zip_nil_right]; rfl
  | k0 :: ks, w :: vs, h => by
    rw [List.zip_cons_cons, List.map_cons, if_neg (fun z => h (by rw [← z]; exact List.mem_cons_self ..)), map_zip_same k v fun z => h (List.mem_cons_of_mem _ z)]
theorem putK_zip (k : Key) (v : V) {ks : List Key} {vs : List V} (hl : ks.length = vs.length) (nd : ks.Nodup) : putK (ks.zip vs) k v = match posK ks k with
    | some n => ks.zip (vs.set n v)
    | none => (ks ++ [k]).zip (vs ++ [v]) := by
  have hv := valV_any k (ks.zip vs)
  rw [valV_zip k hl] at hv
  unfold putK
  cases q : posK ks k with
  | none =>
    rw [q] at hv
    rw [hv]
    show _ ++ _ = _
    rw [List.zip_append hl]; rfl
  | some n =>
    rw [q] at hv
    have hn : n < vs.length := by
      have := (List.getElem?_eq_some_iff.mp (posK_some q)).1
      omega
    have : vs[n]? = some vs[n] := List.getElem?_eq_getElem hn
    rw [show (some n).bind (fun n => vs[n]?) = vs[n]? from rfl, this] at hv
    rw [hv]
    show List.map _ _ = _
    clear this hv
    induction ks generalizing vs n with
    | nil => cases q
    | cons k0 ks ih =>
      cases vs with
      | nil => cases hl
      | cons w vs =>
        rw [List.nodup_cons] at nd
        unfold posK at q
        rw [List.zip_cons_cons, List.map_cons]
        split at q
        · rename_i e
          cases q
          rw [if_pos e]
          show _ = (k0 :: ks).zip ((w :: vs).set 0 v)
          rw [List.set_cons_zero, List.zip_cons_cons, map_zip_same k v (by rw [← e]; exact nd.1)]
        · rename_i e
          cases q2 : posK ks k with
          | none => rw [q2] at q; cases q
          | some m =>
            rw [q2] at q
            cases q
            rw [if_neg e]
            show _ = (k0 :: ks).zip ((w :: vs).set (m + 1) v)
            rw [List.set_cons_succ, List.zip_cons_cons, ih (by simpa using hl) nd.2 m q2 (by simpa using hn)]
theorem dropK_zip (k : Key) : ∀ {ks : List Key} {vs : List V} {n : Nat}, ks.length = vs.length → ks.Nodup → posK ks k = some n → dropK (ks.zip vs) k = (ks.eraseIdx n).zip (vs.eraseIdx n)
  | [], _, _, _, _, h => by cases h
  | _ :: _, [], _, h, _, _ => by cases h
  | k0 :: ks, w :: vs, n, hl, nd, q => by
    rw [List.nodup_cons] at nd
    unfold posK at q
    unfold dropK
    rw [List.zip_cons_cons, List.filter_cons]
    split at q
    · rename_i e
      cases q
      rw [if_neg (by simp [e]), List.eraseIdx_cons_zero, List.eraseIdx_cons_zero]
      refine List.filter_eq_self.mpr fun a ha => ?_
      have : a.1 ∈ ks := (List.of_mem_zip (show (a.1, a.2) ∈ ks.zip vs from ha)).1
      simp only [decide_eq_true_eq]
      exact fun z => nd.1 (by rw [e, ← z]; exact this)
    · rename_i e
      cases q2 : posK ks k with
      | none => rw [q2] at q; cases q
      | some m =>
        rw [q2] at q
        cases q
        rw [if_pos (by simp [e])]
        show _ = ((k0 :: ks).eraseIdx (m + 1)).zip ((w :: vs).eraseIdx (m + 1))
        rw [List.eraseIdx_cons_succ, List.eraseIdx_cons_succ, List.zip_cons_cons]
        exact congrArg _ (dropK_zip k (by simpa using hl) nd.2 q2)
/-- what stands at a key -/
def dAt (ks : List Key) (ms : List MV) (k : Key) (yes : Nat → MV → Prop) (no : Prop) : Prop := match posK ks k with
  | some n => (match ms[n]? with
    | some m => yes n m
    | none => False)
  | none => no
/-- a dict with one more, or one changed -/
def dPut (p : Addr) (ks : List Key) (ms : List MV) (k : Key) (m : MV) : MV := match posK ks k with
  | some n => .nd p (.dct ks) (ms.set n m)
  | none => .nd p (.dct (ks ++ [k])) (ms ++ [m])
def dDel (p : Addr) (ks : List Key) (ms : List MV) (k : Key) : MV := match posK ks k with
  | some n => .nd p (.dct (ks.eraseIdx n)) (ms.eraseIdx n)
  | none => .nd p (.dct ks) ms
/-- d[k] -/
def wDGet (wr : WR) (wy : WE) (s : Sl) (Q : EV → Sl → Prop) (e : EK) : Prop := wr s fun r => wy s (fun y s1 => frz y s1 fun kx s2 => plc r s2 fun i π _ kd ms => match kd with
  | .dct ks => (match keyD kx with
    | some k => dAt ks ms k (fun n m => chld i π n m fun r' => Q r' s2) False
    | none => False)
  | _ => False) e
/-- k in d -/
def wDIn (neg : Bool) (wy : WE) (wr : WR) (s : Sl) (Q : EV → Sl → Prop) (e : EK) : Prop := wy s (fun y s1 => frz y s1 fun kx s2 => wr s2 fun r => plc r s2 fun _ _ _ kd _ => match kd with
  | .dct ks => (match keyD kx with
    | some k => Q (.d (.bool (if neg then !(posK ks k).isSome else (posK ks k).isSome))) s2
    | none => False)
  | _ => False) e
def wDPut (wr wk : WR) (wm : WM) (s : Sl) (E : EW) : Prop := wm s (fun m s1 => wr s1 fun r => wk s1 fun y => plc r s1 fun i π p kd ms => match kd, y with
  | .dct ks, .d kx => (match keyD kx with
    | some k => ks.length < sizeLine ∧ E.nx (putAt s1 i π (dPut p ks ms k m))
    | none => False)
  | _, _ => False) E.er
def wDDel (wr wk : WR) (s : Sl) (E : EW) : Prop := wr s fun r => wk s fun y => plc r s fun i π p kd ms => match kd, y with
  | .dct ks, .d kx => (match keyD kx with
    | some k => (posK ks k).isSome = true ∧ E.nx (putAt s i π (dDel p ks ms k))
    | none => False)
  | _, _ => False
/-- list(d.values()) -/
def wDVals (wr : WR) (s : Sl) (Q : EV → Sl → Prop) (_ : EK) : Prop := wr s fun r => plc r s fun _ _ _ kd ms => match kd with
  | .dct _ => (match allD ms with
    | some xs => Q (.d (.list xs)) s
    | none => False)
  | _ => False
def rVals : V → Hp → VK → Prop := fun x H Q => ∃ (d : Addr) (kvs : List (Key × V)), x = .ref d ∧ H d = some (.dK kvs) ∧ ∀ p, H p = none → Q (.ref p) (upd H p (.lst (kvs.map (·.2))))
def tListVals (te : TE) : TE := fun σ H Q => te σ H fun x H1 => rVals x H1 Q
/-- o.f op= e -/
def wFldAug (c : ClsD) (n : Nat) (g : G2) (wr : WR) (we : WE) (s : Sl) (E : EW) : Prop := wr s fun r => plc r s fun _ _ _ kd ms => match kd with
  | .obj dx c' => c' = c ∧ (match ms[n]? with
    | some (.d x) => we s (fun y s1 => rdq y s1 fun yd => g x yd fun z => plc r s1 fun i π p kd1 ms1 => kd1 = .obj dx c ∧ n < ms1.length ∧ E.nx (putAt s1 i π (.nd p kd1 (ms1.set n (.d z))))) E.er
    | _ => False)
  | _ => False
section
variable {K : PySem.W.Frag} {er : Ers} {W : WX} {O : Md → Prop} {ta tb tc te : TE} {t : TA} {we wy : WE} {wl : WA} {wr wk : WR} {wm : WM} {c : ClsD} {n : Nat} {x : Str}
theorem se_dget (h : SR K ta wr) (hy : SE K er W O tb wy) : SE K er W O (tDGet ta tb) (wDGet wr wy) := fun M mo J0 H0 Pr s σ J H f Q e q he Qv k =>
  h.go M J0 H0 Pr s σ J H f _ q _ fun u r va q1 => hy M mo J0 H0 Pr s σ J H f _ e q1 he _ fun y ry s1 J1 H1 f1 b1 vy q2 => by
    obtain ⟨kx, s2, J2, q3, b2, ay, f2⟩ := frz_use f1 vy q2
    obtain ⟨i, π, p, kd, ms, m, rfl, e, g, q4⟩ := plc_use f2 (va.sub (b1.trans b2)) q3
    split at q4
    · rename_i ks
      split at q4
      · rename_i kk ek
        obtain ⟨vs, hp, hx, hf, ov, _⟩ := f2.nd e g
        unfold dAt at q4
        split at q4
        · rename_i j ej
          split at q4
          · rename_i mm em
            obtain ⟨w, hw, ow⟩ := ows_get ov em
            obtain ⟨r', ve, q5⟩ := chld_use (σ := σ) ow q4
            have dg := DGet.k (k := kk) hp
            rw [valV_zip kk hf.1, ej] at dg
            rw [show (some j).bind (fun n => vs[n]?) = vs[j]? from rfl, hw] at dg
            exact ⟨p, w, rfl, by rw [key_use ay ek]; exact dg, k w r' s2 J2 H1 f2 (b1.trans b2) ve q5⟩
          · exact q4.elim
        · exact q4.elim
      · exact q4.elim
    · exact q4.elim
theorem din_use {M : Md} {J0 H0 J H : Hp} {Pr : List (Addr × HO)} {s : Sl} {σ : L2.St} {v u : V} {r : EV} {kx : PyData} {P : Bool → Prop} (f : Fr K M J0 H0 Pr s σ J H) (va : Ve K J σ u r) (ay : Da K J v kx)
    (q : plc r s fun _ _ _ kd _ => match kd with
      | .dct ks => (match keyD kx with
        | some k => P (posK ks k).isSome
        | none => False)
      | _ => False) : ∃ a o, u = .ref a ∧ DGet H a v o ∧ P o.isSome := by
  obtain ⟨i, π, p, kd, ms, m, rfl, e, g, q4⟩ := plc_use f va q
  split at q4
  · rename_i ks
    split at q4
    · rename_i kk ek
      obtain ⟨vs, hp, hx, hf, ov, _⟩ := f.nd e g
      have dg := DGet.k (k := kk) hp
      rw [valV_zip kk hf.1] at dg
      refine ⟨p, _, rfl, by rw [key_use ay ek]; exact dg, ?_⟩
      have : ((posK ks kk).bind fun n => vs[n]?).isSome = (posK ks kk).isSome := by
        cases ej : posK ks kk with
        | none => rfl
        | some j =>
          have hj := (List.getElem?_eq_some_iff.mp (posK_some ej)).1
          have h1 := hf.1
          show (vs[j]?).isSome = true
          rw [List.getElem?_eq_getElem (by omega)]; rfl
      rw [this]
      exact q4
    · exact q4.elim
  · exact q4.elim
theorem se_din (hy : SE K er W O tb wy) (h : SR K ta wr) : SE K er W O (tDIn tb ta) (wDIn false wy wr) := fun M mo J0 H0 Pr s σ J H f Q e q he Qv k =>
  hy M mo J0 H0 Pr s σ J H f _ e q he _ fun y ry s1 J1 H1 f1 b1 vy q2 => by
    obtain ⟨kx, s2, J2, q3, b2, ay, f2⟩ := frz_use f1 vy q2
    refine h.go M J0 H0 Pr s2 σ J2 H1 f2 _ q3 _ fun u r va q1 => ?_
    obtain ⟨a, o, rfl, dg, q5⟩ := din_use (P := fun b => Q (.d (.bool b)) s2) f2 va ay q1
    exact ⟨a, o, rfl, dg, k _ (.d _) s2 J2 H1 f2 (b1.trans b2) (.bl _) q5⟩
theorem se_dni (hy : SE K er W O tb wy) (h : SR K ta wr) : SE K er W O (tDNotIn tb ta) (wDIn true wy wr) := fun M mo J0 H0 Pr s σ J H f Q e q he Qv k =>
  hy M mo J0 H0 Pr s σ J H f _ e q he _ fun y ry s1 J1 H1 f1 b1 vy q2 => by
    obtain ⟨kx, s2, J2, q3, b2, ay, f2⟩ := frz_use f1 vy q2
    refine h.go M J0 H0 Pr s2 σ J2 H1 f2 _ q3 _ fun u r va q1 => ?_
    obtain ⟨a, o, rfl, dg, q5⟩ := din_use (P := fun b => Q (.d (.bool (!b))) s2) f2 va ay q1
    exact ⟨a, o, rfl, dg, k _ (.d _) s2 J2 H1 f2 (b1.trans b2) (.bl _) q5⟩
theorem ss_dput (h : SM K er W O te wm) (hr : SR K ta wr) (hk : SR K tb wk) : SS K er W O (sDPut ta tb te) (wDPut wr wk wm) := fun M mo J0 H0 Pr s σ J H f E D q kk he =>
  h M mo J0 H0 Pr s σ J H f _ _ q he _ fun v m s1 J1 H1 f1 b1 o q1 => hr.go M J0 H0 Pr s1 σ J1 H1 f1 _ q1 _ fun u r va q2 => hk.go M J0 H0 Pr s1 σ J1 H1 f1 _ q2 _ fun y ry vy q3 => by
    obtain ⟨i, π, p, kd, ms, m0, rfl, e, g, q4⟩ := plc_use f1 va q3
    split at q4
    · rename_i ks kx
      split at q4
      · rename_i k ek
        obtain ⟨hl, q4⟩ := q4
        obtain ⟨vs, hp, hx, hf, ov, nd, hfr⟩ := f1.nd e g
        have lv := ows_len ov
        have ef : ∀ a ∈ fpM m, a ∉ fpMs ms := fun a qa z => (hfr a z).2.2 (o.fr a qa).2.2
        refine ⟨p, _, rfl, by rw [key_use vy ek]; exact DPut.k hp (by rw [List.length_zip]; omega), ?_⟩
        rw [putK_zip k v hf.1 hf.2]
        unfold dPut at q4
        cases ej : posK ks k with
        | some j =>
          rw [ej] at q4
          exact kk.nx _ _ _ _ (f1.wr (kd' := .dct ks) (ms' := ms.set j m) (vs' := vs.set j v) e g rfl (fun z => z) (ows_set ov o.ow) ⟨by rw [List.length_set]; exact hf.1, hf.2⟩ (nd_set o.nd nd ef) fun a qa => (fpMs_set qa).imp id fun z => o.fr a z) b1 q4
        | none =>
          rw [ej] at q4
          refine kk.nx _ _ _ _ (f1.wr (kd' := .dct (ks ++ [k])) (ms' := ms ++ [m]) (vs' := vs ++ [v]) e g rfl (fun z => z) (ows_join ov (.cons o.ow .nil)) ⟨by have := hf.1; simp [this], ?_⟩ ?_ fun a qa => ?_) b1 q4
          · exact List.nodup_append.mpr ⟨hf.2, List.nodup_cons.mpr ⟨List.not_mem_nil, List.nodup_nil⟩, fun a q1 b q2 z => posK_none ej (by rw [← List.mem_singleton.mp q2, ← z]; exact q1)⟩
          · rw [fpMs_app, fpMs_one]
            exact List.nodup_append.mpr ⟨nd, o.nd, fun a q1 b q2 z => ef b q2 (by rw [← z]; exact q1)⟩
          · rw [fpMs_app, fpMs_one] at qa
            exact (List.mem_append.mp qa).imp id fun z => o.fr a z
      · exact q4.elim
    · exact q4.elim
theorem ss_ddel (hr : SR K ta wr) (hk : SR K tb wk) : SS K er W O (sDDel ta tb) (wDDel wr wk) := fun M mo J0 H0 Pr s σ J H f E D q kk he =>
  hr.go M J0 H0 Pr s σ J H f _ q _ fun u r va q2 => hk.go M J0 H0 Pr s σ J H f _ q2 _ fun y ry vy q3 => by
    obtain ⟨i, π, p, kd, ms, m0, rfl, e, g, q4⟩ := plc_use f va q3
    split at q4
    · rename_i ks kx
      split at q4
      · rename_i k ek
        obtain ⟨hs, q4⟩ := q4
        obtain ⟨vs, hp, hx, hf, ov, nd, hfr⟩ := f.nd e g
        unfold dDel at q4
        cases ej : posK ks k with
        | none => rw [ej] at hs; cases hs
        | some j =>
          rw [ej] at q4
          have hj := (List.getElem?_eq_some_iff.mp (posK_some ej)).1
          have h1 := hf.1
          refine ⟨p, _, k, rfl, hp, key_use vy ek, ?_, ?_⟩
          · rw [valV_zip k hf.1, ej]
            show (vs[j]?).isSome = true
            rw [List.getElem?_eq_getElem (by omega)]; rfl
          · rw [dropK_zip k hf.1 hf.2 ej]
            refine kk.nx _ _ _ _ (f.wr (kd' := .dct (ks.eraseIdx j)) (ms' := ms.eraseIdx j) (vs' := vs.eraseIdx j) e g rfl (fun z => z) (ows_era ov) ⟨?_, hf.2.sublist (List.eraseIdx_sublist ..)⟩ (nd.sublist fpMs_era) fun a qa => .inl (fpMs_era.subset qa)) (.refl _) q4
            rw [List.length_eraseIdx_of_lt hj, List.length_eraseIdx_of_lt (by omega), h1]
      · exact q4.elim
    · exact q4.elim
theorem map_snd_zip : ∀ {ks : List Key} {vs : List V}, ks.length = vs.length → (ks.zip vs).map (·.2) = vs
  | [], [], _ => rfl
  | [], _ :: _, h => by cases h
  | _ :: _, [], h => by cases h
  | k :: ks, v :: vs, h => by rw [List.zip_cons_cons, List.map_cons, map_snd_zip (by simpa using h)]
theorem se_dvals (h : SR K ta wr) : SE K er W O (tListVals ta) (wDVals wr) := fun M mo J0 H0 Pr s σ J H f Q e q he Qv k =>
  h.go M J0 H0 Pr s σ J H f _ q _ fun u r va q1 => by
    obtain ⟨i, π, p, kd, ms, m0, rfl, e, g, q4⟩ := plc_use f va q1
    split at q4
    · rename_i ks
      split at q4
      · rename_i xs ea
        obtain ⟨vs, hp, hx, hf, ov, nd, hfr⟩ := f.nd e g
        rw [allD_eq ea] at ov
        refine ⟨p, _, rfl, hp, fun l hl => ?_⟩
        rw [map_snd_zip hf.1]
        have t3 := f.wf.new (o := .lst vs) hl
        exact k _ (.d (.list xs)) s _ _ (f.step t3) t3.jj (.lst upd_same (t3.jj.das (das_ows ov))) q4
      · exact q4.elim
    · exact q4.elim
theorem ss_fldaug {rd : V → V → Hp → VK → Prop} {g : G2} (o : OpS K rd g) (C : CF K c) (hn : c.fl[n]? = some x) (hr : SR K ta wr) (h : SE K er W O te we) : SS K er W O (sFldAug K ta te rd x) (wFldAug c n g wr we) := fun M mo J0 H0 Pr s σ J H f E D q kk he =>
  hr.go M J0 H0 Pr s σ J H f _ q _ fun u r va q1 => by
    obtain ⟨i, π, p, kd, ms, m0, rfl, e, gm, q2⟩ := plc_use f va q1
    split at q2
    · rename_i dx c'
      obtain ⟨rfl, q2⟩ := q2
      split at q2
      · rename_i y ey
        obtain ⟨vs, hp, hx, hf, ov, _⟩ := f.nd e gm
        obtain ⟨v, hv, oy⟩ := ows_get ov ey
        cases oy with
        | d ax =>
        refine ⟨p, c'.ad, dx, _, v, rfl, hp, C.cls, C.no x (List.mem_of_getElem? hn), look_zip hf.2 hn hv, h M mo J0 H0 Pr s σ J H f _ _ q2 he _ fun w rw_ s1 J1 H1 f1 b1 vw q3 => ?_⟩
        obtain ⟨yd, q4, ay⟩ := rdq_use f1 vw q3
        refine o M J1 H1 v w y yd f1.wf (.inl (b1.da ax)) ay _ q4 _ fun z dz J2 H2 t2 q5 az => ?_
        have f2 := f1.step t2
        obtain ⟨i2, π2, p2, kd2, ms2, m2, ep, e2, g2, rfl, hl, q6⟩ := plc_use f2 (va.sub (b1.trans t2.jj)) q5
        cases ep
        obtain ⟨vs2, hp2, hx2, hf2, ov2, nd2, hfr2⟩ := f2.nd e2 g2
        have lv := ows_len ov2
        have hn' := (List.getElem?_eq_some_iff.mp hn).1
        refine ⟨dx, _, hp2, ?_, ?_⟩
        · have := C.few
          rw [List.length_zip]; omega
        · have es : setC n z vs2 = vs2.set n z := by
            unfold setC
            rw [List.getElem?_eq_getElem (by omega)]
          rw [putF_zip x z hf2.2 hn (by omega), es]
          have em : fpM (.d dz) = [] := fpM_d _
          exact kk.nx _ _ _ _ (f2.wr (kd' := .obj dx c') (ms' := ms2.set n (.d dz)) (vs' := vs2.set n z) e2 g2 rfl (fun z => z) (ows_set ov2 (.d az)) ⟨by rw [List.length_set]; exact hf2.1, hf2.2⟩ (nd_set (by rw [em]; exact List.nodup_nil) nd2 fun a qa => by rw [em] at qa; cases qa)
            fun a qa => (fpMs_set qa).imp id fun z => by rw [em] at z; cases z) (b1.trans t2.jj) q6
      · exact q2.elim
    · exact q2.elim
end
/-! ### list(e.values()) -/
section
variable {X : Cx} {e : Expr} {te : TE} {p apos cpos pos : Pos}
theorem pe_listVals (hc : X.calm = true) (he : PE X e te) (hg : Gl X "list") (hm : X.mg "list" = none) (hv : bootBuiltins "list" = some (.type "list") := by rfl) (hbase : attributeBase e "values" X.env (eval e X.env) = eval e X.env := by rfl) (hline : (apos.endLine == cpos.line) = true := by rfl)
    (hs : starEach [.Call (.Attribute e "values" apos) [] [] cpos] X.env = (false, eval (.Call (.Attribute e "values" apos) [] [] cpos) X.env) :: starEach [] X.env := by rfl) :
    PE X (.Call (.Name "list" p) [.Call (.Attribute e "values" apos) [] [] cpos] [] pos) (tListVals te) := by
  refine ⟨fun pins s σ H Q I hq => ?_⟩
  refine wpAny_Call_Name_kw (ld_blt I hg hm hv ?_)
  refine PyProof.Rows.callWith_type1 ?_ hs rfl
  rw [hs]
  show wpAny _ _ (spliced ((false, eval (.Call (.Attribute e "values" apos) [] [] cpos) X.env) :: backTo pos (starEach [] X.env))) _ _ s
  refine Calls.spliced_cons ?_
  refine wpAny_Call_method (T := "dict") (id := "dict.values") hbase rfl hline F.plainAttrs_dict F.slot_dict_values F.type_dict_values (thn (he.run pins s σ H _ I hq) fun u s1 ⟨x, H1, I1, rx, d, kvs, ex, hd, q⟩ => ?_)
  subst ex
  obtain rfl : u = Value.ref d := rx
  obtain ⟨hz, hs0, vs, kv, hdo⟩ := I1.hok d _ hd
  obtain ⟨ep, hat⟩ := hdo.dictAt
  have lk : kvs.length = vs.length := Paired.length kv
  have I2 : Inv X pins σ H1 { s1 with heap := s1.heap.push { cls := .type "dict_values", data := .fields #[.ref d] } } := I1.kept (t' := s1.toks) fun b ob q => Heap.get?_push_of_some _ q
  refine ⟨hdo.typeIs, hdo.mapOf.noDict, ?_⟩
  show wpAny _ _ (callWith cpos (.builtin "dict.values") [.ref d] [] []) _ X.xe s1
  refine method_meetsIn F.slot_dict_values F.entry_dict_values rfl (PySem.evalArgs_none ⟨rfl, hdo.typeIs, F.args_dict_values_1 _, _, meets_dict_values (mixKind X.prog X.w) d hs0, ⟨vs, hdo⟩, ?_⟩)
  refine Calls.spliced_nil ?_
  refine PySem.W.kdl_call (PySem.W.kdl_values (knd := mixKind X.prog X.w) (r := s1.heap.objs.size) (d := d) (kvs := vs) (ep := ep)) (I1.ok.hd hc) ⟨⟨_, Heap.get?_push_size _ rfl, rfl, rfl⟩, hat.push _⟩ (by rw [← lk]; exact hz) fun h' tk acc' c' hkeep hS hacc => ?_
  have fr : H1 (s1.heap.push { cls := .type "dict_values", data := .fields #[.ref d] }).objs.size = none := I2.hok.fresh (Nat.le_refl _)
  refine ⟨.ref _, upd H1 _ (.lst (kvs.map (·.2))), I2.laid hkeep (Nat.le_refl _) (show ObjOk X.prog X.w _ _ _ (.lst (kvs.map (·.2))) from ⟨by rw [List.length_map]; exact hz, acc'.toList, c', ?_, by rw [Array.toArray_toList]; exact hS⟩), rfl, q _ fr⟩
  have el : acc'.toList.length = acc'.size := by simp
  refine vals_of_at (by rw [List.length_map, el, hacc.1, lk]) fun j x w h1 h2 => ?_
  obtain ⟨k, hky⟩ := hacc.2 j w (by rw [← Array.getElem?_toList]; exact h2)
  rw [List.getElem?_map] at h1
  cases q2 : kvs[j]? with
  | none => rw [q2] at h1; cases h1
  | some kx =>
    rw [q2] at h1
    cases h1
    obtain ⟨y, g1, g2⟩ := LiI.paired_get kv q2
    rw [hky] at g1
    cases g1
    exact g2.2
end
end DW

/-! sorted(set(..)) of a list of numbers. -/
namespace DW
open PySem PySem.Spec
open PyProof.Rows L2 DL
/-- a set with nothing in it -/
abbrev bare (w : World) : Obj := ⟨.type "set", none, .set #[] 0 (.fresh 0 0 (!w.params.followText "set-order")), #[]⟩
abbrev withBare (w : World) (s : Shared) : Shared := { s with heap := s.heap.push (bare w) }
section
variable {P : Program} {w : World} {A : Around} {E : Value → Shared → Prop} {s : Shared}
/-- what a set of such numbers is, behind all that stood -/
def Came (w : World) (s : Shared) (ns : List Int) (h' : Heap) (c : Nat) : Prop := SetR w h' s.heap.objs.size (fun j => decide (j ∈ ns)) c ∧ c ≤ ns.length ∧ ∀ b o, s.heap.get? b = some o → h'.get? b = some o
abbrev Fills (w : World) (s : Shared) (ns : List Int) (E : Value → Shared → Prop) : Result → Shared → Prop := wants (fun r s2 => r = .none ∧ ∃ h' tk c, s2 = { s with heap := h', toks := tk } ∧ Came w s ns h' c) E
theorem fill_set {l : Addr} {items : Array Value} (ns : List Int) (calm : A.handled = none) (isl : s.heap.IsList l items) (are : IntsAre items.toList ns) (few : ns.length + 1 < scanBound) :
    wpAny (model P w) A.in1 (Builtin.«set.__init__» ⟨[.ref s.heap.objs.size, .ref l], []⟩) (fun fin s2 => match fin with
      | .done f => Fills w s ns E (.ok f) s2
      | .again c => c.quiet = true ∧ codeAny (model P w) A c (Fills w s ns E) s2) (fun e s2 => Fills w s ns E (.error e) s2) (withBare w s) := by
  have sz : items.size = ns.length := by
    have := IntsAre.length are
    rwa [Array.length_toList] at this
  have low := isl
  obtain ⟨⟨cl, di, da, sl⟩, at0, k1, n0, k2⟩ := isl
  cases (show cl = _ from k1); cases (show da = _ from k2)
  have at1 : (withBare w s).heap.get? l = some ⟨.type "list", di, .seq items n0, sl⟩ := Heap.get?_push_of_some _ at0
  have is1 : (withBare w s).heap.IsList l items := ⟨_, at1, rfl, n0, rfl⟩
  have t1 := F.sub_list_set
  have t2 := F.sub_list_frozenset
  have t3 : (Value.type "list" == Value.type "dict") = false := by decide
  have lt := Heap.lt_size at0
  have sz1 : (withBare w s).heap.objs.size = s.heap.objs.size + 1 := Heap.size_push ..
  unfold Builtin.«set.__init__» noKeywords Builtin.Frozenset.updateFrom
  generalize eI : pyIter = itr
  wp_walk
  subst eI
  refine wpAny_pyIter_list is1 (wpAny_bind (wpAny_runValue ?_))
  refine set_update_ints ((Walks.list (A := A.in1.in1) (by simp [calm]) (withBare w s).heap.objs.size l (by rw [sz1]; exact Nat.ne_of_lt (Nat.lt_succ_of_lt lt)) items).toS) s.heap.objs.size (by rw [sz1]; simp only [List.mem_cons, List.not_mem_nil, or_false, not_or]; exact ⟨Nat.ne_of_lt (Nat.lt_succ_self _), Nat.ne_of_gt lt⟩) ns sz few (fun i v hv => ?_) (items.size - 0) 0 _ (by omega) (Nat.zero_le _) ⟨⟨_, Heap.get?_push_size _ rfl, rfl, rfl⟩, is1.push _⟩ ⟨0, Nat.le_refl 0, setR_new_at (Heap.get?_push_of_some _ (Heap.get?_push_size _ rfl))⟩ ?_
  · have hi : i < ns.length := by rw [← sz]; exact (Array.getElem?_eq_some_iff.mp hv).1
    obtain ⟨t, e⟩ := IntsAre.int_at are i v (by rw [Array.getElem?_toList]; exact hv)
    exact ⟨ns[i], t, List.getElem?_eq_getElem hi, by rw [e, List.getD_eq_getElem?_getD, List.getElem?_eq_getElem hi]; rfl⟩
  · rintro ⟨h', g2, d2, tk, os2⟩ c mv hc R
    cases (show g2 = s.gens from mv.gens); cases (show d2 = s.drawn from mv.drawn); cases (show os2 = s.os from mv.os)
    refine wpAny_pure (wpAny_pure ⟨rfl, h', tk, c, rfl, R, by omega, fun b o e => ?_⟩)
    have hb := Heap.lt_size e
    refine mv.heap b o ?_ (Heap.get?_push_of_some _ (Heap.get?_push_of_some _ e))
    rw [sz1]
    simp only [List.mem_cons, List.not_mem_nil, or_false, not_or]
    exact ⟨Nat.ne_of_lt hb, Nat.ne_of_lt (Nat.lt_succ_of_lt hb)⟩
/-- set(l) -/
theorem call_set_of {l : Addr} {items : Array Value} (ns : List Int) {Q : Value → Shared → Prop} (calm : A.handled = none) (isl : s.heap.IsList l items) (are : IntsAre items.toList ns) (few : ns.length + 1 < scanBound)
    (back : ∀ (h' : Heap) (tk c : Nat), Came w s ns h' c → Q (.ref s.heap.objs.size) { s with heap := h', toks := tk }) : wpAny (model P w) A (call (.type "set") [.ref l]) Q E s := by
  have ⟨cc, tl, mro⟩ := F.called_set.mro
  have m1 := F.called_set.made; have m2 := F.called_set.sub; have m3 := F.called_set.notType; have m4 := F.called_set.canCreate
  have m5 := F.typeCall_set_1 (.ref l)
  refine wpAny_call (codeAny_of_tree (show wpAny _ _ (callAny (.type "set") _) _ _ _ from wpAny_pure ⟨Code.quiet_builtin _ (by decide +kernel), codeAny_builtin F.entry_type_call ?_⟩))
  rw [Around.under_plain (weight_type_call_type "set" [.ref l] []) rfl]
  repeat (any_goals first | assumption | wp_step)
  refine codeAny_mono (code_set_led1 (.ref l) (E := E) (Q₁ := fun v s1 => v = .ref s.heap.objs.size ∧ s1 = withBare w s) ⟨rfl, rfl⟩) fun r s1 hr => ?_
  rcases r with e | fl
  · exact hr
  cases fl with
  | ret v =>
    obtain ⟨rfl, rfl⟩ := hr
    have ty : Shared.TypeIs (withBare w s) (.ref s.heap.objs.size) "set" := ⟨_, Heap.get?_push_size _ rfl, rfl⟩
    have i1 := F.called_set.init.lookup
    have i2 := F.called_set.init.bind (.ref s.heap.objs.size)
    repeat (any_goals first | assumption | wp_step)
    refine codeAny_mono (codeAny_call_builtin (R := Fills w s ns E) F.called_set.init.plain F.entry_set_init (check_set_init_1 ty ?_)) fun r s2 hr => ?_
    · exact fill_set (A := A.in1) ns (by simp [calm]) isl are few
    rcases r with e | fl
    · exact hr
    cases fl with
    | ret v =>
      obtain ⟨rfl, h', tk, c, rfl, R⟩ := hr
      repeat (any_goals first | assumption | wp_step)
      exact back _ _ _ R
    | next => exact hr.elim
    | brk => exact hr.elim
    | cont => exact hr.elim
  | next => exact hr.elim
  | brk => exact hr.elim
  | cont => exact hr.elim
end
end DW
namespace DW
open PySem PySem.Spec
open PyProof.Rows L2 DL
def rSetI (K : PySem.W.Frag) (w : World) : List V → Hp → VK → Prop := fun xs H Q => ∃ (l : Addr) (ns : List Int), xs = [V.ref l] ∧ SqL K H l (ns.map V.int) ∧ ns.length < 64 ∧
  ∀ p c, H p = none → c ≤ ns.length → Q (.ref p) (upd H p (SetO w p (fun j => decide (j ∈ ns)) c))
theorem cr_setI {X : Cx} (hc : X.calm = true) : CallR X (.type "set") (rSetI X.K X.w) := by
  intro pins s σ H xs us Q I r h
  obtain ⟨l, ns, rfl, hq, hl, q⟩ := h
  rw [Vals.ref1 r]
  obtain ⟨its, rv, pl, hz⟩ := I.list hq
  refine call_set_of ns (I.ok.hd hc) pl.isList (by simpa using RZ.intsAre_vals rv) (by unfold scanBound; omega) fun h' tk c ⟨R, hcn, hk⟩ => ?_
  exact ⟨.ref _, upd H s.heap.objs.size (SetO X.w s.heap.objs.size (fun j => decide (j ∈ ns)) c), I.laid hk (Nat.le_refl _) (setO_new R), rfl, q _ c (I.hok.fresh (Nat.le_refl _)) hcn⟩
/-- sorted(set(x)) -/
def gSSet : G1 := fun x P => match x with
  | .list ds => ∃ ns : List Int, ds = ns.map PyData.int ∧ ns.length < 64 ∧ ∀ ms : List Int, ms.Pairwise (· < ·) → (∀ k, k ∈ ms ↔ k ∈ ns) → P (.list (ms.map PyData.int))
  | _ => False
theorem se_sset {K : PySem.W.Frag} {er : Ers} {W : WX} {O : Md → Prop} {w : World} {ta : TE} {we : WE} (h : SE K er W O ta we) : SE K er W O (tCB (rSortedSet w) (tCons (tCB (rSetI K w) (tCons ta tNil)) tNil)) (wUn gSSet we) := fun M mo J0 H0 Pr s σ J H f Q e q he Qv k =>
  h M mo J0 H0 Pr s σ J H f _ e q he _ fun v r s1 J1 H1 f1 b1 va q1 => by
    obtain ⟨x, q2, ax⟩ := rdq_use f1 va q1
    unfold gSSet at q2
    split at q2
    · obtain ⟨ns, rfl, hl, q3⟩ := q2
      obtain ⟨a, vs, rfl, hq, hd⟩ := dq_lst f1.wf.jh ax
      rw [das_ints_eq hd] at hq
      refine ⟨a, ns, rfl, .of hq, hl, fun p c hp hc => ⟨p, _, c, rfl, upd_same, by omega, fun ms l hs hm _ hn => ?_⟩⟩
      have t1 := f1.wf.cell (o := SetO w p (fun j => decide (j ∈ ns)) c) hp
      have f2 := f1.step t1
      have t2 := f2.wf.new (o := .lst (ms.map V.int)) hn (fun ps z => by cases z)
      exact k _ (.d (.list (ms.map PyData.int))) s1 _ _ (f2.step t2) (b1.trans t2.jj) (.lst upd_same (das_ints ms)) (q3 ms hs fun j => by rw [hm]; simp)
    · exact q2.elim
end DW

/-! What is lent out for a while: walks over a dict, calls that write. -/
namespace DW
open PySem PySem.Spec
open PyProof.Rows L2 DL
theorem putAt_eq {s : Sl} {i : Nat} {m y : MV} {π : List Nat} (e : s[i]? = some (some (.mv m))) : putAt s i π y = s.set i (some (.mv (setM π y m))) := by unfold putAt; rw [e]
theorem set_at {α : Type} {l : List α} {i : Nat} {x y : α} (h : l[i]? = some y) : (l.set i x)[i]? = some x := List.getElem?_set_self (List.getElem?_eq_some_iff.mp h).1
theorem get_setM : ∀ {π : List Nat} {m y z : MV}, getM π m = some z → getM π (setM π y m) = some y
  | [], _, _, _, _ => rfl
  | i :: π, .d x, _, _, h => by simp [getM] at h
  | i :: π, .hole p, _, _, h => by simp [getM] at h
  | i :: π, .nd p k ms, y, z, h => by
    rw [getM] at h
    cases q : ms[i]? with
    | none => rw [q] at h; simp at h
    | some m =>
      rw [q] at h
      rw [setM, q]
      dsimp only
      rw [getM, set_at q]
      exact get_setM h
section
variable {K : PySem.W.Frag} {M : Md} {J0 H0 J H J1 H1 J' H' : Hp} {Pr : List (Addr × HO)} {s : Sl} {σ : L2.St} {v : V} {r : EV} {i : Nat} {p : Addr}
/-- what stands at a place is lent out -/
theorem Fr.lend (f : Fr K M J0 H0 Pr s σ J H) {m : MV} {π : List Nat} {kd : Kd} {ms : List MV} (e : s[i]? = some (some (.mv m))) (g : getM π m = some (.nd p kd ms)) :
    Fr K M J0 H0 Pr (putAt s i π (.hole p)) σ J H ∧ OwF K M H0 Pr (putAt s i π (.hole p)) σ J H (.ref p) (.nd p kd ms) := by
  obtain ⟨u, ou, n1, n2, go⟩ := f.focus e g
  have f' := go J H (.hole p) f.tr (.refl _) (fun a o e _ _ _ => e) (fun _ _ _ _ _ z => z) (by cases ou; exact .hole) (by rw [fpM_hole]; exact List.nodup_nil) fun a q => by rw [fpM_hole] at q; cases q
  rw [← putAt_eq e] at f'
  have eu : u = .ref p := by cases ou; rfl
  subst eu
  refine ⟨f', ou, n1, fun a q => ⟨(n2 a q).1, (n2 a q).2.1, fun j x w e1 hw q2 => ?_, fun r hr z => ?_⟩⟩
  · obtain ⟨v0, hv0, o0, nd0, _⟩ := f.mv e
    obtain ⟨R, p1, p2, _⟩ := ow_focus g
    have am : a ∈ fpM m := p1.mem_iff.mpr (List.mem_append_left _ q)
    have aR : a ∉ R := fun z => (List.nodup_append.mp (p1.nodup_iff.mp nd0)).2.2 a q a z rfl
    rw [putAt_eq e] at e1
    rcases set_get e1 with ⟨rfl, e2⟩ | ⟨n, e2⟩
    · cases e2
      have := (p2 (.hole p)).mem_iff.mp q2
      rw [fpM_hole] at this
      exact aR this
    · exact f.other n e hv0 am e2 hw q2
  · obtain ⟨v0, hv0, _⟩ := f.mv e
    obtain ⟨R, p1, _⟩ := ow_focus g
    exact (f.prt r hr).2.2.2.2 i _ _ e hv0 (by rw [z]; exact p1.mem_iff.mpr (List.mem_append_left _ q))
/-- .. and comes back -/
theorem Fr.back (f : Fr K M J0 H0 Pr s σ J H) {m y : MV} {π : List Nat} (e : s[i]? = some (some (.mv m))) (g : getM π m = some (.hole p)) (o : OwF K M H0 Pr s σ J H (.ref p) y) : Fr K M J0 H0 Pr (putAt s i π y) σ J H := by
  obtain ⟨u, ou, n1, n2, go⟩ := f.focus e g
  have eu : u = .ref p := by cases ou; rfl
  subst eu
  rw [putAt_eq e]
  exact go J H y f.tr (.refl _) (fun a o e _ _ _ => e) (fun _ _ _ _ _ z => z) o.ow o.nd fun a q => ⟨(o.fr a q).1, (o.fr a q).2.1, .inr (o.fr a q).2.2⟩
/-- what no slot has is written -/
theorem Fr.wrF {o : HO} (f : Fr K M J0 H0 Pr s σ J H) (x : ∃ x, H p = some x ∧ Mu x) (jp : J p = none) (np : NewP M H0 p) (fp : FreeA Pr s σ p) : Fr K M J0 H0 Pr s σ J (upd H p o) := by
  refine ⟨f.w0, putM f.w0 f.tr x np jp, f.len, fun k y e => ?_, f.sep, fun q hq => ?_, f.pn⟩
  · obtain ⟨v, hv, h⟩ := f.at_ k y e
    exact ⟨v, hv, h.frame (.refl _) fun a qa => ⟨upd_ne fun z => fp.1 k y v e hv (by rw [← z]; exact qa), (h.live qa).2.1⟩⟩
  · obtain ⟨h1, h2, h3, h4, h5⟩ := f.prt q hq
    exact ⟨by rw [upd_ne (fp.2 q hq)]; exact h1, h2, h3, h4, h5⟩
/-- .. is known for good -/
theorem Fr.iceF {o : HO} (f : Fr K M J0 H0 Pr s σ J H) (e : H p = some o) (nt : ∀ ps, o ≠ .tbl ps) (jp : J p = none) (np : NewP M H0 p) (fp : FreeA Pr s σ p) : Fr K M J0 H0 Pr s σ (upd J p o) H := by
  have sb : Sub J (upd J p o) := .new jp
  refine ⟨f.w0, ice' f.tr np jp e nt, f.len, fun k y e => ?_, f.sep, fun q hq => ?_, f.pn⟩
  · obtain ⟨v, hv, h⟩ := f.at_ k y e
    exact ⟨v, hv, h.frame sb fun a qa => ⟨rfl, by rw [upd_ne fun z => fp.1 k y v e hv (by rw [← z]; exact qa)]; exact (h.live qa).2.1⟩⟩
  · obtain ⟨h1, h2, h3, h4, h5⟩ := f.prt q hq
    exact ⟨h1, by rw [upd_ne (fp.2 q hq)]; exact h2, h3, h4, h5⟩
/-- all but p -/
def but (J : Hp) (p : Addr) : Hp := fun a => if a = p then none else J a
theorem but_ne {J : Hp} {a p : Addr} (h : a ≠ p) : but J p a = J a := if_neg h
theorem but_same {J : Hp} {p : Addr} : but J p p = none := if_pos rfl
theorem but_sub {J : Hp} {p : Addr} : Sub (but J p) J := fun a o e => by
  unfold but at e
  split at e
  · cases e
  · exact e
mutual
theorem da_but {d : Addr} {o : Obj} {u : HO} (h : J d = some (.frz o u)) (nl : ∀ xs, u ≠ .lst xs) (nt : ∀ xs, u ≠ .tup xs) : ∀ {x : PyData} {v : V}, Da K J v x → Da K (but J d) v x
  | .none, _, a => by cases a; exact .non
  | .bool _, _, a => by cases a; exact .bl _
  | .int _, _, a => by cases a; exact .int _
  | .str _, _, a => by cases a; exact .str _
  | .list ds, _, a => by
    cases a with
    | lst b c => exact .lst (by rw [but_ne fun z => by rw [z, h] at b; cases b]; exact b) (das_but h nl nt c)
  | .tuple ds, _, a => by
    cases a with
    | tup b c =>
      refine .tup ?_ (das_but h nl nt c)
      rcases b with (b | ⟨o2, b⟩) | b
      · exact .inl (.inl (by rw [but_ne fun z => by rw [z, h] at b; cases b]; exact b))
      · exact .inl (.inr ⟨o2, by rw [but_ne fun z => by rw [z, h] at b; cases b; exact nt _ rfl]; exact b⟩)
      · exact .inr b
  | .dict _, _, a => by cases a
theorem das_but {d : Addr} {o : Obj} {u : HO} (h : J d = some (.frz o u)) (nl : ∀ xs, u ≠ .lst xs) (nt : ∀ xs, u ≠ .tup xs) : ∀ {xs : List PyData} {vs : List V}, Das K J vs xs → Das K (but J d) vs xs
  | [], _, a => by cases a; exact .nil
  | _ :: _, _, a => by
    cases a with
    | cons b c => exact .cons (da_but h nl nt b) (das_but h nl nt c)
end
mutual
theorem ow_but {d : Addr} {o : Obj} {u : HO} (h : J d = some (.frz o u)) (nl : ∀ xs, u ≠ .lst xs) (nt : ∀ xs, u ≠ .tup xs) : ∀ {m : MV} {v : V}, Ow K J H v m → Ow K (but J d) H v m
  | .d x, _, a => by
    cases a with
    | d a => exact .d (da_but h nl nt a)
  | .hole p, _, a => by cases a; exact .hole
  | .nd p k ms, _, a => by
    cases a with
    | nd a b c e => exact .nd a b c (ows_but h nl nt e)
theorem ows_but {d : Addr} {o : Obj} {u : HO} (h : J d = some (.frz o u)) (nl : ∀ xs, u ≠ .lst xs) (nt : ∀ xs, u ≠ .tup xs) : ∀ {ms : List MV} {vs : List V}, Ows K J H vs ms → Ows K (but J d) H vs ms
  | [], _, a => by cases a; exact .nil
  | _ :: _, _, a => by
    cases a with
    | cons b c => exact .cons (ow_but h nl nt b) (ows_but h nl nt c)
end
theorem but_none {a d : Addr} (h : J a = none) : but J d a = none := by
  unfold but; split
  · rfl
  · exact h
/-- what was known for a while is forgotten -/
theorem Fr.thaw {o : Obj} {u : HO} (f : Fr K M J0 H0 Pr s σ J H) (h : J p = some (.frz o u)) (nl : ∀ xs, u ≠ .lst xs) (nt : ∀ xs, u ≠ .tup xs) (j0 : J0 p = none) : Fr K M J0 H0 Pr s σ (but J p) H := by
  refine ⟨f.w0, ⟨fun a x e => by rw [but_ne fun z => by rw [z, j0] at e; cases e]; exact f.tr.jj a x e, but_sub.trans f.tr.jh, f.tr.kept, f.tr.inv, fun a x b e n => but_none (f.tr.frn a x b e n), f.tr.aln, fun g a ps e => f.tr.tn g a ps (but_sub a _ e)⟩, f.len, fun k y e => ?_, f.sep, fun q hq => ?_, f.pn⟩
  · obtain ⟨v, hv, x⟩ := f.at_ k y e
    refine ⟨v, hv, ?_⟩
    cases y with
    | d x => exact da_but h nl nt (show Da K J v _ from x)
    | own xs =>
      obtain ⟨q, vs, rfl, hp, a, jp, h0⟩ := x
      exact ⟨q, vs, rfl, hp, das_but h nl nt a, but_none jp, h0⟩
    | drw => exact x
    | raw w => exact x
    | exc a dx f z =>
      obtain ⟨e1, u, e2, e3⟩ := x
      exact ⟨e1, u, by rw [but_ne fun z => by rw [z, h] at e2; cases e2]; exact e2, da_but h nl nt e3⟩
    | mv m => exact ⟨ow_but h nl nt x.1, x.2.1, fun a qa => ⟨but_none (x.2.2 a qa).1, (x.2.2 a qa).2⟩⟩
  · obtain ⟨h1, h2, h3, h4, h5⟩ := f.prt q hq
    exact ⟨h1, but_none h2, h3, h4, h5⟩
end
end DW

/-! Comprehensions over a dict. -/
namespace DW
open PySem PySem.Spec
open PyProof.Rows L2 DL
theorem fpM_dat {p : Addr} {k : Kd} {xs : List PyData} (h : exA k = []) : fpM (.nd p k (xs.map .d)) = [p] := by rw [fpM_nd, fpMs_data, h]; rfl
def isHole (r : EV) (s : Sl) (p : Addr) : Prop := match r with
  | .raw u => u = .ref p
  | .at i => s[i]? = some (some (.mv (.hole p)))
  | _ => False
def holeAt (s : Sl) (i : Nat) (π : List Nat) (p : Addr) : Prop := match s[i]? with
  | some (some (.mv m)) => getM π m = some (.hole p)
  | _ => False
inductive Md3 where
  | items | values | keys
def md3 : Md3 → List Key → List PyData → List PyData
  | .items, ks, xs => List.zipWith (fun k x => .tuple [dKey k, x]) ks xs
  | .values, _, xs => xs
  | .keys, ks, _ => ks.map dKey
def iMd3 : Md3 → TE → TI
  | .items, td => iItems td
  | .values, td => iVals td
  | .keys, td => iKeys td
def wLcD (md : Md3) (wr : WR) (wg : WG) (wt : WT) (we : WE) (vs : List Nat) (s : Sl) (Q : EV → Sl → Prop) (_ : EK) : Prop := wr s fun r => plc r s fun i π p kd ms => match kd with
  | .dct ks => (match allD ms with
    | some xs => (wr (putAt s i π (.hole p)) fun r1 => isHole r1 (putAt s i π (.hole p)) p) ∧ (md3 md ks xs).length < sizeLine ∧
        LoopC wg wt we vs (md3 md ks xs) (putAt s i π (.hole p)) fun acc s2 => holeAt s2 i π p ∧ Q (.d (.list acc)) (putAt s2 i π (.nd p (.dct ks) ms))
    | none => False)
  | _ => False
section
variable {K : PySem.W.Frag} {M : Md} {J0 H0 J H J1 H1 J' H' : Hp} {Pr : List (Addr × HO)} {s : Sl} {σ : L2.St} {v : V} {r : EV} {i : Nat} {p : Addr}
theorem isHole_use {r : EV} (f : Fr K M J0 H0 Pr s σ J H) (va : Ve K J σ v r) (q : isHole r s p) : v = .ref p := by
  cases r with
  | d x => exact q.elim
  | «at» i =>
    have o : Ow K J H v (.hole p) := (f.vs q va).1
    cases o; rfl
  | raw u => exact (show v = u from va).trans q
  | pl i π p => exact q.elim
theorem zw_at {ks : List Key} {xs : List PyData} {i : Nat} {d : PyData} (h : (List.zipWith (fun k x => PyData.tuple [dKey k, x]) ks xs)[i]? = some d) : ∃ k x, ks[i]? = some k ∧ xs[i]? = some x ∧ d = .tuple [dKey k, x] := by
  rw [List.getElem?_zipWith] at h
  cases q1 : ks[i]? with
  | none => rw [q1] at h; simp at h
  | some k =>
    cases q2 : xs[i]? with
    | none => rw [q1, q2] at h; simp at h
    | some x => rw [q1, q2] at h; exact ⟨k, x, rfl, rfl, by simpa using h.symm⟩
/-- the walk over a dict that is shut -/
theorem walk_md {md : Md3} {d : Addr} {od : Obj} {ks : List Key} {vs : List V} {xs : List PyData} {td : TE} {R : L2.It → Hp → Prop} (hl : ks.length = vs.length) (hJ : J d = some (.frz od (.dK (ks.zip vs)))) (ad : Das K J vs xs) (run : ∀ Qv : VK, Qv (.ref d) H → td σ H Qv) (jh : Sub J H)
    (k : ∀ A, WalkD K A J (md3 md ks xs) → R A H) : iMd3 md td σ H R := by
  have lx := das_len ad
  have lz : (ks.zip vs).length = ks.length := by rw [List.length_zip]; omega
  have at_ : ∀ {i : Nat} {k : Key} {v : V}, (ks.zip vs)[i]? = some (k, v) → ks[i]? = some k ∧ vs[i]? = some v := fun {i k v} h => by
    rw [List.getElem?_zip_eq_some] at h; exact h
  cases md with
  | items =>
    have ln : (List.zipWith (fun k x => PyData.tuple [dKey k, x]) ks xs).length = ks.length := by rw [List.length_zipWith]; omega
    refine run _ ⟨d, od, _, rfl, jh _ _ hJ, k _ ⟨fun i G hi sb => ⟨sb _ _ hJ, by rw [lz, ← ln]; exact hi⟩, fun G sb => ⟨sb _ _ hJ, by rw [lz]; show ks.length ≤ (List.zipWith _ ks xs).length; rw [ln]; exact Nat.le_refl _⟩, fun i G x G' dd hd sb y => ?_⟩⟩
    obtain ⟨T, k, v, e1, ex, hT, eG⟩ := y
    obtain ⟨k2, x2, a1, a2, rfl⟩ := zw_at hd
    obtain ⟨b1, b2⟩ := at_ e1
    rw [a1] at b1; cases b1
    obtain ⟨x3, a3, a4⟩ := das_at ad b2
    rw [a2] at a3; cases a3
    exact .inr ⟨T, _, _, ex, hT, eG, rfl, .cons (key_da k) (.cons a4 .nil)⟩
  | values =>
    refine run _ ⟨d, od, _, rfl, jh _ _ hJ, k _ ⟨fun i G hi sb => ⟨sb _ _ hJ, by rw [lz, hl, lx]; exact hi⟩, fun G sb => ⟨sb _ _ hJ, by rw [lz]; show ks.length ≤ xs.length; omega⟩, fun i G x G' dd hd sb y => ?_⟩⟩
    obtain ⟨eG, k, e1⟩ := y
    obtain ⟨x3, a3, a4⟩ := das_at ad (at_ e1).2
    rw [show xs[i]? = some dd from hd] at a3; cases a3
    exact .inl ⟨eG, a4⟩
  | keys =>
    refine run _ ⟨d, od, rfl, .inl ⟨_, jh _ _ hJ, k _ ⟨fun i G hi sb => ⟨sb _ _ hJ, ?_⟩, fun G sb => ⟨sb _ _ hJ, ?_⟩, fun i G x G' dd hd sb y => ?_⟩⟩⟩
    · rw [lz]; simpa [md3] using hi
    · rw [lz]; simp [md3]
    · obtain ⟨eG, k, v, e1, e2⟩ := y
      have hd' : (ks.map dKey)[i]? = some dd := hd
      rw [List.getElem?_map, (at_ e1).1] at hd'
      cases hd'
      exact .inl ⟨eG, by rw [e2]; exact key_da k⟩
end
section
variable {K : PySem.W.Frag} {er : Ers} {W : WX} {O : Md → Prop} {te td : TE} {we : WE} {wr : WR} {g : TG} {wg : WG} {tt : TT} {wt : WT} {vs : List Nat} {md : Md3}
theorem se_lcD (hr : SR K td wr) (hg : SG K g wg) (tin : Tin vs g) (hc : ST K er W0 O tt wt) (he : SE K er W0 O te we) : SE K er W O (tLockE (tLc (iMd3 md td) g tt te vs)) (wLcD md wr wg wt we vs) := fun M mo J0 H0 Pr s σ J H f Q e q he' Qv kk => by
  obtain ⟨u, r, va, q1, _⟩ := hr M J0 H0 Pr s σ J H f _ q
  obtain ⟨i, π, p, kd, ms, m0, rfl, es, g0, q2⟩ := plc_use f va q1
  split at q2
  · rename_i ks
    split at q2
    · rename_i xs ea
      obtain ⟨q3, hz, I, i0, hs, hd⟩ := q2
      obtain ⟨ws, hp, hx, hf, ov, nd, hfr⟩ := f.nd es g0
      obtain ⟨f1, o1⟩ := f.lend es g0
      obtain ⟨jp, np, fp⟩ := o1.fr p (by rw [fpM_nd]; exact List.mem_cons_self ..)
      have em := allD_eq ea
      subst em
      have ad := das_ows ov
      refine ⟨p, _, hp, True.intro, fun od => ?_⟩
      have f2 := f1.wrF (o := .frz od (.dK (ks.zip ws))) ⟨_, hp, True.intro⟩ jp np fp
      have f3 := f2.iceF upd_same (fun ps z => by cases z) jp np fp
      have hJ : upd J p (.frz od (.dK (ks.zip ws))) p = some (.frz od (.dK (ks.zip ws))) := upd_same
      have sb : Sub J (upd J p (.frz od (.dK (ks.zip ws)))) := .new jp
      obtain ⟨v1, r1, va1, h1, run⟩ := hr M J0 H0 Pr _ σ _ _ f3 _ q3
      have ev := isHole_use f3 va1 h1
      subst ev
      refine walk_md hf.1 hJ (sb.das ad) run f3.wf.jh fun A wd D hD => ?_
      refine lc_run (Qd := fun D H => H p = some (.frz od (.dK (ks.zip ws))) ∧ Qv (.ref D) (upd H p (.dK (ks.zip ws)))) mo hg tin hc he f3 hD wd hz i0 hs fun s2 J2 H2 acc ys f4 b2 a2 i2 => ?_
      obtain ⟨J3, b3, a3, f5⟩ := f4.tell a2
      have h3 : J3 p = some (.frz od (.dK (ks.zip ws))) := (b2.trans b3) _ _ hJ
      have fr : FreeA Pr (wipeS s2 vs) σ p := by
        refine ⟨fun k x w e hw qa => ?_, fun q hq z => ?_⟩
        · have := ((f5.vs e hw).live qa).2.1
          rw [h3] at this; cases this
        · have := (f5.prt q hq).2.1
          rw [z, h3] at this; cases this
      have j0 : J0 p = none := by
        cases q : J0 p with
        | none => rfl
        | some o => rw [f.tr.jj _ _ q] at jp; cases jp
      have f6 := f5.thaw h3 (fun xs z => by cases z) (fun xs z => by cases z) j0
      have f7 := f6.wrF (o := .dK (ks.zip ws)) ⟨_, f5.wf.jh _ _ h3, True.intro⟩ but_same np fr
      have sj : Sub J (but J3 p) := fun a o e => by
        rw [but_ne fun z => by rw [z, jp] at e; cases e]
        exact b3 _ _ (b2 _ _ (sb _ _ e))
      obtain ⟨gh, q6⟩ := hd acc s2 i2
      unfold holeAt at gh
      split at gh
      · rename_i m2 e2
        have f8 := f7.back e2 gh ⟨.nd upd_same hx hf (ows_das (sj.das ad)), by rw [fpM_dat rfl]; exact List.nodup_cons.mpr ⟨List.not_mem_nil, List.nodup_nil⟩, fun a qa => by
          rw [fpM_dat rfl] at qa
          rcases List.mem_singleton.mp qa with rfl
          exact ⟨but_same, np, fr⟩⟩
        exact ⟨f5.wf.jh _ _ h3, kk _ (.d (.list acc)) _ _ _ f8 sj (da_but h3 (fun xs z => by cases z) (fun xs z => by cases z) a3) q6⟩
      · exact gh.elim
    · exact q2.elim
  · exact q2.elim
end
end DW

/-! Defs that are lent what may be written. -/
namespace DW
open PySem PySem.Spec
open PyProof.Rows L2 DL
/-- an argument -/
inductive BV where
  | d (x : PyData) | drw | raw (v : V) | mv (m : MV)
def Bv (K : PySem.W.Frag) (M : Md) (J H : Hp) (v : V) : BV → Prop
  | .d x => Da K J v x
  | .drw => ∃ h g, v = .ref h ∧ HasDr M h g
  | .raw u => v = u
  | .mv m => Ow K J H v m
inductive Bvs (K : PySem.W.Frag) (M : Md) (J H : Hp) : List V → List BV → Prop
  | nil : Bvs K M J H [] []
  | cons {v : V} {a : BV} {vs : List V} {as : List BV} : Bv K M J H v a → Bvs K M J H vs as → Bvs K M J H (v :: vs) (a :: as)
def fpB : BV → List Addr
  | .mv m => fpM m
  | _ => []
def fpBs : List BV → List Addr
  | [] => []
  | a :: as => fpB a ++ fpBs as
theorem fpBs_cons (a : BV) (as : List BV) : fpBs (a :: as) = fpB a ++ fpBs as := rfl
/-- all but some -/
def ers (L : List Addr) (H : Hp) : Hp := fun a => if a ∈ L then none else H a
theorem ers_in {L : List Addr} {H : Hp} {a : Addr} (h : a ∈ L) : ers L H a = none := if_pos h
theorem ers_out {L : List Addr} {H : Hp} {a : Addr} (h : a ∉ L) : ers L H a = H a := if_neg h
theorem ers_some {L : List Addr} {H : Hp} {a : Addr} {o : HO} (h : ers L H a = some o) : a ∉ L ∧ H a = some o := by
  unfold ers at h
  split at h
  · cases h
  · rename_i n; exact ⟨n, h⟩
mutual
theorem Ow.mu {K : PySem.W.Frag} {J H : Hp} {a : Addr} : ∀ {m : MV} {v : V}, Ow K J H v m → a ∈ fpM m → ∃ o, H a = some o ∧ Mu o
  | .d x, _, _, q => by rw [fpM_d] at q; cases q
  | .hole p, _, _, q => by rw [fpM_hole] at q; cases q
  | .nd p k ms, _, h, q => by
    rw [fpM_nd] at q
    cases h with
    | nd e b c d =>
      rcases List.mem_cons.mp q with rfl | q
      · exact ⟨_, e, hoOf_mu k _⟩
      rcases List.mem_append.mp q with q | q
      · cases k with
        | obj dx c =>
          rcases List.mem_singleton.mp q with rfl
          exact ⟨_, b, True.intro⟩
        | _ => cases q
      · exact Ows.mu d q
theorem Ows.mu {K : PySem.W.Frag} {J H : Hp} {a : Addr} : ∀ {ms : List MV} {vs : List V}, Ows K J H vs ms → a ∈ fpMs ms → ∃ o, H a = some o ∧ Mu o
  | [], _, _, q => by rw [fpMs_nil] at q; cases q
  | m :: ms, _, h, q => by
    rw [fpMs_cons] at q
    cases h with
    | cons x y =>
      rcases List.mem_append.mp q with q | q
      · exact Ow.mu x q
      · exact Ows.mu y q
end
theorem mu_nt {o : HO} (h : Mu o) (ps : Array Value) : o ≠ .tbl ps := fun z => by subst z; exact h
section
variable {K : PySem.W.Frag} {M : Md} {J0 H0 J H J1 H1 J' H' : Hp} {Pr : List (Addr × HO)} {s : Sl} {σ : L2.St} {v : V} {r : EV} {i : Nat} {p : Addr} {L : List Addr}
theorem Bvs.mu {a : Addr} {vs : List V} {as : List BV} (h : Bvs K M J H vs as) (q : a ∈ fpBs as) : ∃ o, H a = some o ∧ Mu o := by
  induction h with
  | nil => cases q
  | @cons v b vs as x _ ih =>
    rw [fpBs_cons] at q
    rcases List.mem_append.mp q with q | q
    · cases b with
      | mv m => exact Ow.mu x q
      | _ => cases q
    · exact ih q
theorem bvs_len {vs : List V} {as : List BV} (h : Bvs K M J H vs as) : vs.length = as.length := by
  induction h with
  | nil => rfl
  | cons _ _ ih => simp [ih]
theorem bvs_get {vs : List V} {as : List BV} (h : Bvs K M J H vs as) (i : Nat) : (vs[i]? = none ∧ as[i]? = none) ∨ ∃ v a, vs[i]? = some v ∧ as[i]? = some a ∧ Bv K M J H v a := by
  induction h generalizing i with
  | nil => exact .inl ⟨rfl, rfl⟩
  | cons a _ ih =>
    cases i with
    | zero => exact .inr ⟨_, _, rfl, rfl, a⟩
    | succ i => simpa using ih i
theorem fpBs_at {as : List BV} {i : Nat} {a : BV} {p : Addr} (h : as[i]? = some a) (q : p ∈ fpB a) : p ∈ fpBs as := by
  induction as generalizing i with
  | nil => simp at h
  | cons b as ih =>
    rw [fpBs_cons]
    cases i with
    | zero => simp at h; subst h; exact List.mem_append_left _ q
    | succ i => exact List.mem_append_right _ (ih (by simpa using h))
theorem fpBs_one {as : List BV} (nd : (fpBs as).Nodup) {i j : Nat} {a b : BV} {p : Addr} (h1 : as[i]? = some a) (h2 : as[j]? = some b) (q1 : p ∈ fpB a) (q2 : p ∈ fpB b) : i = j := by
  induction as generalizing i j with
  | nil => simp at h1
  | cons c as ih =>
    rw [fpBs_cons] at nd
    obtain ⟨n1, n2, n3⟩ := List.nodup_append.mp nd
    cases i with
    | zero =>
      cases j with
      | zero => rfl
      | succ j =>
        simp at h1 h2
        subst h1
        exact absurd rfl (n3 p q1 p (fpBs_at h2 q2))
    | succ i =>
      cases j with
      | zero =>
        simp at h1 h2
        subst h2
        exact absurd rfl (n3 p q2 p (fpBs_at h1 q1))
      | succ j => exact congrArg (· + 1) (ih n2 (by simpa using h1) (by simpa using h2))
theorem fpBs_nd {as : List BV} (nd : (fpBs as).Nodup) {i : Nat} {a : BV} (h : as[i]? = some a) : (fpB a).Nodup := by
  induction as generalizing i with
  | nil => simp at h
  | cons c as ih =>
    rw [fpBs_cons] at nd
    obtain ⟨n1, n2, n3⟩ := List.nodup_append.mp nd
    cases i with
    | zero => simp at h; subst h; exact n1
    | succ i => exact ih n2 (by simpa using h)
/-- what a call leaves of what is not lent -/
theorem Fr.stepE (f : Fr K M J0 H0 Pr s σ J H) (hL : ∀ a ∈ L, NewP M H0 a ∧ FreeA Pr s σ a) (t : Tr M J (ers L H) J1 H1) : Fr K M J0 H0 Pr s σ J1 H1 := by
  have nl : ∀ {a o}, Nt M o → H0 a = some o → a ∉ L := fun {a o} b e q => (hL a q).1 o b e
  have key : ∀ {a : Addr}, a ∉ L → (∃ o, H a = some o ∧ ∀ ps, o ≠ .tbl ps) → J a = none → NewP M H0 a → H1 a = H a ∧ J1 a = none := fun {a} n ⟨o, e, nt⟩ ja na => by
    have nt' : Nt M o := fun _ => nt
    have e' : ers L H a = some o := by rw [ers_out n]; exact e
    exact ⟨by rw [e]; exact t.keep a o (nofp' f.w0 na) e' nt', t.cellj e' ja nt'⟩
  refine ⟨f.w0, ⟨f.tr.jj.trans t.jj, t.jh, fun a x n b e => t.kept a x n b (by rw [ers_out (nl b e)]; exact f.tr.kept a x n b e), t.inv, fun a x b e n => ?_, fun a x b e => ?_, fun g => t.tn (f.tr.tn g)⟩, f.len, fun i x e => ?_, f.sep, fun q hq => ?_, f.pn⟩
  · obtain ⟨y, c, e'⟩ := f.tr.aln a x b e
    exact t.frn a y c (by rw [ers_out (nl b e)]; exact e') (f.tr.frn a x b e n)
  · obtain ⟨y, c, e'⟩ := f.tr.aln a x b e
    exact t.aln a y c (by rw [ers_out (nl b e)]; exact e')
  · obtain ⟨v, hv, h⟩ := f.at_ i x e
    exact ⟨v, hv, h.frame t.jj fun a q => by
      obtain ⟨l1, l2, l3⟩ := h.live q
      exact key (fun z => (hL a z).2.1 i x v e hv q) l1 l2 l3⟩
  · obtain ⟨h1, h2, h3, ⟨xs, h4⟩, h5⟩ := f.prt q hq
    obtain ⟨g1, g2⟩ := key (fun z => (hL _ z).2.2 q hq rfl) ⟨_, h1, by rw [h4]; intro ps z; cases z⟩ h2 h3
    exact ⟨by rw [g1]; exact h1, g2, h3, ⟨xs, h4⟩, h5⟩
theorem newP_later (f : Fr K M J0 H0 Pr s σ J H) {a : Addr} (h : NewP M H a) : NewP M H0 a := fun o b e => by
  obtain ⟨o', c, e'⟩ := f.tr.aln a o b e
  exact h o' c e'
theorem free_later (f : Fr K M J0 H0 Pr s σ J H) {a : Addr} (h : NewP M H a) : FreeA Pr s σ a := f.free fun o nt e => h o (fun _ => nt) e
theorem FreeA.put {m y : MV} {π : List Nat} {z : MV} {a : Addr} (h : FreeA Pr s σ a) (e : s[i]? = some (some (.mv m))) (g : getM π m = some z) (hy : a ∉ fpM y) (hv : ∃ v, σ[i]? = some (some v)) : FreeA Pr (putAt s i π y) σ a := by
  refine ⟨fun j x w e1 hw q2 => ?_, h.2⟩
  rw [putAt_eq e] at e1
  rcases set_get e1 with ⟨rfl, e2⟩ | ⟨n, e2⟩
  · cases e2
    obtain ⟨R, p1, p2, _⟩ := ow_focus g
    rcases List.mem_append.mp ((p2 y).mem_iff.mp q2) with q | q
    · exact hy q
    · exact h.1 _ _ w e hw (p1.mem_iff.mpr (List.mem_append_right _ q))
  · exact h.1 j x w e2 hw q2
end
/-! ### the promise -/
def spB (K : PySem.W.Frag) (er : Ers) (O : Md → Prop) (pre : List BV → Prop) (post : List BV → MV → List BV → Prop) (exc : List BV → Str → PyData → List BV → Prop) : Sp := fun vs H Q E => ∃ M J as, O M ∧ Wf M J H ∧ Bvs K M J H vs as ∧ (fpBs as).Nodup ∧ (∀ a ∈ fpBs as, J a = none ∧ ¬ M.fp a) ∧ pre as ∧
  (∀ v r as' J' H', Tr M J (ers (fpBs as) H) J' H' → post as r as' → Ow K J' H' v r → Bvs K M J' H' vs as' → (fpM r ++ fpBs as').Nodup → (∀ a ∈ fpM r ++ fpBs as', J' a = none ∧ (a ∈ fpBs as ∨ NewP M H a)) → Q v H') ∧
  ∀ c x as' dx v J' H', Tr M J (ers (fpBs as) H) J' H' → exc as c x as' → H' dx = some (.xd [(er.fl c, v)]) → Da K J' v x → NewP M (ers (fpBs as) H) dx ∧ J' dx = none → Bvs K M J' H' vs as' → (fpBs as').Nodup → (∀ a ∈ fpBs as', J' a = none ∧ (a ∈ fpBs as ∨ NewP M H a)) → E (.ref (er.cl c)) (some dx) H'
def noB : List BV → Str → PyData → List BV → Prop := fun _ _ _ _ => False
/-! ### within -/
def BV.sv : BV → SV
  | .d x => .d x
  | .drw => .drw
  | .raw v => .raw v
  | .mv m => .mv m
def startB (n : Nat) (as : List BV) : Sl := as.map (fun a => some a.sv) ++ List.replicate (n - as.length) none
/-- what is left of the arguments at the end -/
def finK : List BV → Sl → (List BV → Prop) → Prop
  | [], _, k => k []
  | .mv (.nd p _ _) :: as, s, k => (match s with
    | some (.mv (.nd q kd ms)) :: s => q = p ∧ finK as s fun r => k (.mv (.nd q kd ms) :: r)
    | _ => False)
  | .mv _ :: _, _, _ => False
  | .d x :: as, s, k => finK as s.tail fun r => k (.d x :: r)
  | .drw :: as, s, k => finK as s.tail fun r => k (.drw :: r)
  | .raw v :: as, s, k => finK as s.tail fun r => k (.raw v :: r)
section
variable {K : PySem.W.Frag} {M : Md} {J0 H0 J H J1 H1 J' H' : Hp} {Pr : List (Addr × HO)} {s : Sl} {σ : L2.St} {v : V} {r : EV} {i : Nat} {p : Addr} {L : List Addr}
theorem fpS_sv {a : BV} {v : V} {p : Addr} (h : p ∈ fpS a.sv v) : p ∈ fpB a := by
  cases a with
  | mv m => exact h
  | d x => cases v <;> cases h
  | drw => cases v <;> cases h
  | raw u => cases v <;> cases h
theorem fr_startB {N : List Str} {vs : List V} {as : List BV} (w : Wf M J H) (a : Bvs K M J H vs as) (nd : (fpBs as).Nodup) (hL : ∀ a ∈ fpBs as, J a = none ∧ ¬ M.fp a) (hl : as.length ≤ N.length) (e : start N vs = vs.map some ++ List.replicate (N.length - vs.length) none) :
    Fr K M J (ers (fpBs as) H) [] (startB N.length as) (start N vs) J H := by
  have le := bvs_len a
  have key : ∀ (i : Nat) (x : SV), (startB N.length as)[i]? = some (some x) → ∃ v b, vs[i]? = some v ∧ as[i]? = some b ∧ x = b.sv ∧ (start N vs)[i]? = some (some v) ∧ Bv K M J H v b := fun i x h => by
    unfold startB at h
    by_cases hi : i < as.length
    · rw [List.getElem?_append_left (by simpa using hi), List.getElem?_map] at h
      rcases bvs_get a i with ⟨_, e2⟩ | ⟨v, b, e1, e2, r⟩
      · rw [e2] at h; cases h
      · rw [e2] at h
        refine ⟨v, b, e1, e2, (Option.some.inj (Option.some.inj h)).symm, ?_, r⟩
        rw [e, List.getElem?_append_left (by simp; omega), List.getElem?_map, e1]
        rfl
    · rw [List.getElem?_append_right (by simp; omega), List.getElem?_replicate] at h
      split at h <;> cases h
  have w0 : Wf M J (ers (fpBs as) H) := ⟨fun a o e => by rw [ers_out fun z => by rw [(hL a z).1] at e; cases e]; exact w.jh a o e, M.loc H _ (fun a q => ers_out fun z => (hL a z).2 q) (fun b o e ne => by
    rw [ers_out fun z => ?_]
    · exact e
    · obtain ⟨o2, e2, m2⟩ := a.mu z
      rw [e] at e2; cases e2; exact ne m2) w.inv, w.jn, w.nt⟩
  refine ⟨w0, ⟨.refl _, w.jh, fun a o _ _ e => (ers_some e).2, w.inv, fun _ _ _ _ n => n, fun a o b e => ⟨o, b, (ers_some e).2⟩, fun z => z⟩, ?_, fun i x h => ?_, fun i j x y u w0 p e1 e2 e3 e4 q1 q2 => ?_, nofun, List.nodup_nil⟩
  · rw [e]
    unfold startB
    simp; omega
  · obtain ⟨v, b, e1, e2, rfl, e3, r⟩ := key i x h
    refine ⟨v, e3, ?_⟩
    cases b with
    | d x => exact r
    | drw => exact r
    | raw u => exact r
    | mv m =>
      refine ⟨r, fpBs_nd nd e2, fun a q => ?_⟩
      have qa := fpBs_at (p := a) e2 q
      exact ⟨(hL a qa).1, fun o _ z => by rw [ers_in qa] at z; cases z⟩
  · obtain ⟨_, b, _, f2, rfl, _⟩ := key i x e1
    obtain ⟨_, c, _, g2, rfl, _⟩ := key j y e2
    exact fpBs_one nd f2 g2 (fpS_sv q1) (fpS_sv q2)
theorem tail_drop {α : Type} (l : List α) (n : Nat) : (l.drop n).tail = l.drop (n + 1) := by rw [List.tail_drop]
theorem drop_head {α : Type} {l r : List α} {n : Nat} {x : α} (h : l.drop n = x :: r) : l[n]? = some x ∧ r = l.drop (n + 1) := by
  have h1 : (l.drop n)[0]? = some x := by rw [h]; rfl
  rw [List.getElem?_drop] at h1
  refine ⟨by simpa using h1, ?_⟩
  rw [← tail_drop, h]; rfl
/-- what is left of the arguments, by what the slots hold -/
theorem fin_use {J H : Hp} {s' : Sl} {σ' : L2.St} (f : Fr K M J (ers L H) Pr s' σ' J' H') {vs : List V} {as : List BV} (a : Bvs K M J H vs as) : ∀ {n : Nat} {k : List BV → Prop}, finK as (s'.drop n) k →
    ∃ as', k as' ∧ Bvs K M J' H' vs as' ∧ (fpBs as').Nodup ∧ (∀ p ∈ fpBs as', ∃ j x u, n ≤ j ∧ s'[j]? = some (some x) ∧ σ'[j]? = some (some u) ∧ p ∈ fpS x u) := by
  induction a with
  | nil => exact fun h => ⟨[], h, .nil, List.nodup_nil, fun p q => by cases q⟩
  | @cons v b vs as hb _ ih =>
    intro n k h
    have flat : ∀ {b : BV}, fpB b = [] → Bv K M J' H' v b → finK as (s'.drop n).tail (fun r => k (b :: r)) → ∃ as', k as' ∧ Bvs K M J' H' (v :: vs) as' ∧ (fpBs as').Nodup ∧ (∀ p ∈ fpBs as', ∃ j x u, n ≤ j ∧ s'[j]? = some (some x) ∧ σ'[j]? = some (some u) ∧ p ∈ fpS x u) := fun {b} hf hb h => by
      rw [tail_drop] at h
      obtain ⟨as', k1, k2, k3, k4⟩ := ih h
      refine ⟨_, k1, .cons hb k2, by rw [fpBs_cons, hf]; exact k3, fun p q => ?_⟩
      rw [fpBs_cons, hf] at q
      obtain ⟨j, x, u, h1, h2⟩ := k4 p q
      exact ⟨j, x, u, by omega, h2⟩
    cases b with
    | d x => exact flat (b := .d x) rfl (show Da K J' v x from f.tr.jj.da hb) h
    | drw => exact flat (b := .drw) rfl (show ∃ h g, v = .ref h ∧ HasDr M h g from hb) h
    | raw u => exact flat (b := .raw u) rfl (show v = u from hb) h
    | mv m =>
      cases m with
      | d x => exact h.elim
      | hole p => exact h.elim
      | nd p kd0 ms0 =>
        unfold finK at h
        split at h
        · rename_i q kd ms s2 es
          obtain ⟨rfl, h⟩ := h
          obtain ⟨e1, rfl⟩ := drop_head es
          obtain ⟨as', k1, k2, k3, k4⟩ := ih h
          obtain ⟨w, hw, o, nd, hn⟩ := f.mv e1
          have ew : w = v := by
            cases o with
            | nd _ _ _ _ =>
              cases (show Ow K _ _ v _ from hb) with
              | nd _ _ _ _ => rfl
          subst ew
          refine ⟨_, k1, .cons o k2, ?_, fun a qa => ?_⟩
          · rw [fpBs_cons]
            refine List.nodup_append.mpr ⟨nd, k3, fun a q1 b q2 z => ?_⟩
            obtain ⟨j, x, u, h1, h2, h3, h4⟩ := k4 b q2
            have := f.sep n j _ x _ u a e1 h2 hw h3 q1 (by rw [z]; exact h4)
            omega
          · rw [fpBs_cons] at qa
            rcases List.mem_append.mp qa with qa | qa
            · exact ⟨n, _, _, Nat.le_refl _, e1, hw, qa⟩
            · obtain ⟨j, x, u, h1, h2⟩ := k4 a qa
              exact ⟨j, x, u, by omega, h2⟩
        · exact h.elim
end
end DW

/-! Calls that are lent what may be written; methods; what is made. -/
namespace DW
open PySem PySem.Spec
open PyProof.Rows L2 DL
section
variable {P : Program} {w : World} {K : PySem.W.Frag} {mg : Str → Option Value} {base : Heap} {CX : CXT} {k : Nat} {f : Addr} {fd : FuncData} {ps : List Str} {x qual : Str} {params : Arguments} {body : List Stmt} {scope : Scope} {N : List Str} {er : Ers} {O : Md → Prop} {pre : List BV → Prop} {post : List BV → MV → List BV → Prop} {exc : List BV → Str → PyData → List BV → Prop} {ws : WS}
/-- a def by what it is in data -/
theorem fn_wB (F : FunD K x qual params body scope [] [] f fd) (S : FnScope N ps scope) (hl : ∀ as, pre as → as.length = ps.length) (hN : ps.length ≤ N.length)
    (der : ∀ (cdv : Value) (A : Around) (out : List Env) (s : Shared) (H : Hp) (E : XK), A.guards = some [] → Room k (A.deeper (envOfC qual scope s.heap.objs.size f cdv)) → ∃ t, PSs (cxOf CX P w K mg base N qual scope f cdv A out s H E) body t ∧ SS K er (fun c d _ H => E c d H) O t ws)
    (go : ∀ as, pre as → ws (startB N.length as) { nx := fun s => finK as s fun as' => post as (.d .none) as', rt := fun d s => finK as s fun as' => post as (.d d) as', bk := fun _ => False, ct := fun _ => False, er := fun c x s => finK as s fun as' => exc as c x as' }) : FnG P w K mg base CX (k + 1) f fd ps (spB K er O pre post exc) := by
  refine fn_g F S (fun vs H Q E h => ?_) fun cdv A out s H vs Q E hG hr h => ?_
  · obtain ⟨M, J, as, _, _, a, _, _, hp, _⟩ := h
    rw [bvs_len a]; exact hl as hp
  · obtain ⟨M, J, as, mo, wf, a, nd, hL, hp, q, qe⟩ := h
    obtain ⟨t, ht, hs⟩ := der cdv A out s H E hG hr
    refine ⟨t, ht, ?_⟩
    have la := hl as hp
    have f0 := fr_startB (N := N) wf a nd hL (by omega) rfl
    have out : ∀ {s' : Sl} {σ' : L2.St} {J' H' : Hp} {as' : List BV}, Fr K M J (ers (fpBs as) H) [] s' σ' J' H' → (∀ p ∈ fpBs as', ∃ j x u, 0 ≤ j ∧ s'[j]? = some (some x) ∧ σ'[j]? = some (some u) ∧ p ∈ fpS x u) → ∀ a ∈ fpBs as', J' a = none ∧ (a ∈ fpBs as ∨ NewP M H a) := fun {s' σ' J' H' as'} f' hl a qa => by
      obtain ⟨j, x, u, _, h2, h3, h4⟩ := hl a qa
      obtain ⟨_, l2, l3⟩ := (f'.vs h2 h3).live h4
      refine ⟨l2, ?_⟩
      by_cases h : a ∈ fpBs as
      · exact .inl h
      · exact .inr fun o b e => l3 o b (by rw [ers_out h]; exact e)
    have ret : ∀ (v : V) (d : PyData) (s' : Sl) (σ' : L2.St) (J' H' : Hp), Fr K M J (ers (fpBs as) H) [] s' σ' J' H' → (finK as s' fun as' => post as (.d d) as') → Da K J' v d → Q v H' := fun v d s' σ' J' H' f' z a' => by
      obtain ⟨as', k1, k2, k3, k4⟩ := fin_use f' a (n := 0) (by rw [List.drop_zero]; exact z)
      exact q v _ as' J' H' f'.tr k1 (.d a') k2 (by rw [fpM_d]; exact k3) fun b qb => out f' k4 b (by rw [fpM_d] at qb; exact qb)
    exact hs M mo J _ [] _ _ J H f0 _ _ (go as hp) ⟨fun s' σ' J' H' f' _ z => ret .non .none s' σ' J' H' f' z .non, fun v d s' σ' J' H' f' _ z a' => ret v d s' σ' J' H' f' z a', fun _ _ _ _ _ _ z => z.elim, fun _ _ _ _ _ _ z => z.elim⟩
      fun c x s' σ' dx v J' H' f' z hx a' nn => by
        obtain ⟨as', k1, k2, k3, k4⟩ := fin_use f' a (n := 0) (by rw [List.drop_zero]; exact z)
        exact qe c x as' dx v J' H' f'.tr k1 hx a' nn k2 k3 (out f' k4)
end
/-! ### arguments -/
inductive BA where
  | d (x : PyData) | drw | raw (v : V) | pl (i : Nat) (π : List Nat) (p : Addr)
def Bav (K : PySem.W.Frag) (M : Md) (J : Hp) (v : V) : BA → Prop
  | .d x => Da K J v x
  | .drw => ∃ h g, v = .ref h ∧ HasDr M h g
  | .raw u => v = u
  | .pl _ _ p => v = .ref p
inductive Bavs (K : PySem.W.Frag) (M : Md) (J : Hp) : List V → List BA → Prop
  | nil : Bavs K M J [] []
  | cons {v : V} {a : BA} {vs : List V} {as : List BA} : Bav K M J v a → Bavs K M J vs as → Bavs K M J (v :: vs) (a :: as)
abbrev WB := Sl → (List BA → Sl → Prop) → EK → Prop
def SB (K : PySem.W.Frag) (er : Ers) (W : WX) (O : Md → Prop) (ta : TA) (wb : WB) : Prop := ∀ M, O M → ∀ J0 H0 Pr s σ J H, Fr K M J0 H0 Pr s σ J H → ∀ Q e, wb s Q e → ErO K er W M J0 H0 Pr e →
  ∀ Qa : List V → Hp → Prop, (∀ vs bs s' J' H', Fr K M J0 H0 Pr s' σ J' H' → Sub J J' → Bavs K M J' vs bs → Q bs s' → Qa vs H') → ta σ H Qa
def avB (r : EV) (s : Sl) (k : BA → Sl → Prop) : Prop := match r with
  | .d x => k (.d x) s
  | .at i => match s[i]? with
    | some (some (.own xs)) => k (.d (.list xs)) (s.set i (some (.d (.list xs))))
    | some (some .drw) => k .drw s
    | some (some (.mv (.nd p _ _))) => k (.pl i [] p) s
    | _ => False
  | .raw u => k (.raw u) s
  | .pl i π p => k (.pl i π p) s
def wbNil (s : Sl) (Q : List BA → Sl → Prop) (_ : EK) : Prop := Q [] s
def wbCons (wa : WE) (wr : WB) (s : Sl) (Q : List BA → Sl → Prop) (e : EK) : Prop := wa s (fun a s1 => avB a s1 fun x s2 => wr s2 (fun xs s3 => Q (x :: xs) s3) e) e
def lendK : List BA → Sl → (List BV → Sl → Prop) → Prop
  | [], s, k => k [] s
  | .d x :: bs, s, k => lendK bs s fun as s' => k (.d x :: as) s'
  | .drw :: bs, s, k => lendK bs s fun as s' => k (.drw :: as) s'
  | .raw v :: bs, s, k => lendK bs s fun as s' => k (.raw v :: as) s'
  | .pl i π p :: bs, s, k => match s[i]? with
    | some (some (.mv m)) => (match getM π m with
      | some (.nd q kd ms) => q = p ∧ lendK bs (putAt s i π (.hole p)) fun as s' => k (.mv (.nd q kd ms) :: as) s'
      | _ => False)
    | _ => False
def backK : List BA → List BV → Sl → (Sl → Prop) → Prop
  | [], _, s, k => k s
  | .d _ :: bs, _ :: as, s, k => backK bs as s k
  | .drw :: bs, _ :: as, s, k => backK bs as s k
  | .raw _ :: bs, _ :: as, s, k => backK bs as s k
  | .pl i π p :: bs, a :: as, s, k => (match a with
    | .mv m => holeAt s i π p ∧ backK bs as (putAt s i π m) k
    | _ => False)
  | _ :: _, [], _, _ => False
section
variable {K : PySem.W.Frag} {M : Md} {J0 H0 J H J1 H1 J' H' : Hp} {Pr : List (Addr × HO)} {s : Sl} {σ : L2.St} {v : V} {r : EV} {i : Nat} {p : Addr}
theorem Bav.sub {a : BA} (s : Sub J J') (h : Bav K M J v a) : Bav K M J' v a := by
  cases a with
  | d x => exact s.da h
  | _ => exact h
theorem Bavs.sub (s : Sub J J') {vs : List V} {as : List BA} (h : Bavs K M J vs as) : Bavs K M J' vs as := by
  induction h with
  | nil => exact .nil
  | cons a _ ih => exact .cons (a.sub s) ih
theorem bavs_len {vs : List V} {as : List BA} (h : Bavs K M J vs as) : vs.length = as.length := by
  induction h with
  | nil => rfl
  | cons _ _ ih => simp [ih]
theorem bavs_app {vs us : List V} {as bs : List BA} (h : Bavs K M J vs as) (g : Bavs K M J us bs) : Bavs K M J (vs ++ us) (as ++ bs) := by
  induction h with
  | nil => exact g
  | cons a _ ih => exact .cons a ih
theorem bavs_get {vs : List V} {as : List BA} (h : Bavs K M J vs as) (i : Nat) : (vs[i]? = none ∧ as[i]? = none) ∨ ∃ v a, vs[i]? = some v ∧ as[i]? = some a ∧ Bav K M J v a := by
  induction h generalizing i with
  | nil => exact .inl ⟨rfl, rfl⟩
  | cons a _ ih =>
    cases i with
    | zero => exact .inr ⟨_, _, rfl, rfl, a⟩
    | succ i => simpa using ih i
theorem bavs_pick {vs : List V} {as : List BA} (h : Bavs K M J vs as) (π : List Nat) : Bavs K M J (pick π vs) (pick π as) := by
  induction π with
  | nil => exact .nil
  | cons i π ih =>
    unfold pick at ih ⊢
    rcases bavs_get h i with ⟨e1, e2⟩ | ⟨v, a, e1, e2, r⟩
    · rw [List.filterMap_cons_none e1, List.filterMap_cons_none e2]; exact ih
    · rw [List.filterMap_cons_some e1, List.filterMap_cons_some e2]; exact .cons r ih
theorem avB_use {k : BA → Sl → Prop} (f : Fr K M J0 H0 Pr s σ J H) (h : Ve K J σ v r) (q : avB r s k) : ∃ a s' J', k a s' ∧ Sub J J' ∧ Bav K M J' v a ∧ Fr K M J0 H0 Pr s' σ J' H := by
  cases r with
  | d x => exact ⟨.d x, s, J, q, .refl _, h, f⟩
  | raw u => exact ⟨.raw u, s, J, q, .refl _, h, f⟩
  | pl i π p => exact ⟨.pl i π p, s, J, q, .refl _, h, f⟩
  | «at» i =>
    unfold avB at q
    dsimp only at q
    split at q
    · rename_i xs e
      obtain ⟨J', u, hu, sb, a, f'⟩ := f.ice e
      rw [show σ[i]? = some (some v) from h] at hu
      cases hu
      exact ⟨.d _, _, J', q, sb, a, f'⟩
    · rename_i e
      obtain ⟨u, hu, a⟩ := f.at_ i _ e
      rw [show σ[i]? = some (some v) from h] at hu
      cases hu
      exact ⟨.drw, s, J, q, .refl _, a, f⟩
    · rename_i p kd ms e
      have o : Ow K J H v (.nd p kd ms) := (f.vs e h).1
      cases o with
      | nd a b c d => exact ⟨.pl i [] p, s, J, q, .refl _, rfl, f⟩
    · exact q.elim
theorem lend_use : ∀ {bs : List BA} {vs : List V} {s : Sl} {k : List BV → Sl → Prop}, Fr K M J0 H0 Pr s σ J H → Bavs K M J vs bs → lendK bs s k →
    ∃ as s', k as s' ∧ Fr K M J0 H0 Pr s' σ J H ∧ Bvs K M J H vs as ∧ (fpBs as).Nodup ∧ (∀ a ∈ fpBs as, J a = none ∧ NewP M H0 a ∧ FreeA Pr s' σ a ∧ ¬ FreeA Pr s σ a) ∧ ∀ a, FreeA Pr s σ a → FreeA Pr s' σ a
  | [], _, s, k, f, b, q => by
    cases b
    exact ⟨[], s, q, f, .nil, List.nodup_nil, (fun a z => by cases z), fun _ z => z⟩
  | c :: bs, _, s, k, f, b, q => by
    cases b with
    | @cons v _ vs _ hb b =>
    have flat : ∀ (a : BV), fpB a = [] → Bv K M J H v a → lendK bs s (fun as s' => k (a :: as) s') → ∃ as s', k as s' ∧ Fr K M J0 H0 Pr s' σ J H ∧ Bvs K M J H (v :: vs) as ∧ (fpBs as).Nodup ∧ (∀ a ∈ fpBs as, J a = none ∧ NewP M H0 a ∧ FreeA Pr s' σ a ∧ ¬ FreeA Pr s σ a) ∧ ∀ a, FreeA Pr s σ a → FreeA Pr s' σ a := fun a ha hv q => by
      obtain ⟨as, s', k1, k2, k3, k4, k5, k6⟩ := lend_use f b q
      exact ⟨_, s', k1, k2, .cons hv k3, by rw [fpBs_cons, ha]; exact k4, fun p qp => k5 p (by rw [fpBs_cons, ha] at qp; exact qp), k6⟩
    cases c with
    | d x => exact flat (.d x) rfl hb q
    | drw => exact flat .drw rfl hb q
    | raw u => exact flat (.raw u) rfl hb q
    | pl i π p =>
      unfold lendK at q
      split at q
      · rename_i m e
        split at q
        · rename_i q0 kd ms g
          obtain ⟨rfl, q⟩ := q
          obtain ⟨f1, o1⟩ := f.lend e g
          obtain ⟨u, _, _, n2, _⟩ := f.focus e g
          obtain ⟨v0, hv0, _⟩ := f.mv e
          have up : ∀ a, FreeA Pr s σ a → FreeA Pr (putAt s i π (.hole q0)) σ a := fun a h => h.put e g (by rw [fpM_hole]; exact List.not_mem_nil) ⟨v0, hv0⟩
          obtain ⟨as, s', k1, k2, k3, k4, k5, k6⟩ := lend_use f1 b q
          have ev : v = .ref q0 := hb
          refine ⟨_, s', k1, k2, .cons (by rw [ev]; exact o1.ow) k3, ?_, fun a qa => ?_, fun a h => k6 a (up a h)⟩
          · rw [fpBs_cons]
            exact List.nodup_append.mpr ⟨o1.nd, k4, fun a q1 c q2 z => (k5 c q2).2.2.2 (by rw [← z]; exact (o1.fr a q1).2.2)⟩
          · rw [fpBs_cons] at qa
            rcases List.mem_append.mp qa with qa | qa
            · exact ⟨(o1.fr a qa).1, (o1.fr a qa).2.1, k6 a (o1.fr a qa).2.2, (n2 a qa).2.2⟩
            · exact ⟨(k5 a qa).1, (k5 a qa).2.1, (k5 a qa).2.2.1, fun z => (k5 a qa).2.2.2 (up a z)⟩
        · exact q.elim
      · exact q.elim
theorem back_use : ∀ {bs : List BA} {as : List BV} {vs : List V} {s : Sl} {k : Sl → Prop}, Fr K M J0 H0 Pr s σ J H → Bavs K M J vs bs → Bvs K M J H vs as → (fpBs as).Nodup → (∀ a ∈ fpBs as, J a = none ∧ NewP M H0 a ∧ FreeA Pr s σ a) → backK bs as s k →
    ∃ s', k s' ∧ Fr K M J0 H0 Pr s' σ J H ∧ ∀ a, FreeA Pr s σ a → a ∉ fpBs as → FreeA Pr s' σ a
  | [], _, _, s, k, f, _, _, _, _, q => ⟨s, q, f, fun _ z _ => z⟩
  | c :: bs, [], _, s, k, f, _, _, _, _, q => by cases c <;> exact q.elim
  | c :: bs, a :: as, _, s, k, f, b, c', nd, hfr, q => by
    cases b with
    | @cons v _ vs _ hb b =>
    cases c' with
    | cons hc c' =>
    rw [fpBs_cons] at nd hfr
    obtain ⟨n1, n2, n3⟩ := List.nodup_append.mp nd
    have flat : backK bs as s k → ∃ s', k s' ∧ Fr K M J0 H0 Pr s' σ J H ∧ ∀ x, FreeA Pr s σ x → x ∉ fpBs (a :: as) → FreeA Pr s' σ x := fun q => by
      obtain ⟨s', k1, k2, k3⟩ := back_use f b c' n2 (fun x qx => hfr x (List.mem_append_right _ qx)) q
      exact ⟨s', k1, k2, fun x h h2 => k3 x h fun z => h2 (List.mem_append_right _ z)⟩
    cases c with
    | d x => exact flat q
    | drw => exact flat q
    | raw u => exact flat q
    | pl i π p =>
      unfold backK at q
      split at q
      · rename_i m
        obtain ⟨gh, q⟩ := q
        unfold holeAt at gh
        split at gh
        · rename_i m0 e
          have ev : v = .ref p := hb
          subst ev
          have f1 := f.back e gh ⟨hc, n1, fun x qx => hfr x (List.mem_append_left _ qx)⟩
          obtain ⟨v0, hv0, _⟩ := f.mv e
          obtain ⟨s', k1, k2, k3⟩ := back_use f1 b c' n2 (fun x qx => ⟨(hfr x (List.mem_append_right _ qx)).1, (hfr x (List.mem_append_right _ qx)).2.1, (hfr x (List.mem_append_right _ qx)).2.2.put e gh (fun z => n3 x z x qx rfl) ⟨v0, hv0⟩⟩) q
          exact ⟨s', k1, k2, fun x h h2 => k3 x (h.put e gh (fun z => h2 (List.mem_append_left _ z)) ⟨v0, hv0⟩) fun z => h2 (List.mem_append_right _ z)⟩
        · exact gh.elim
      · exact q.elim
end
section
variable {K : PySem.W.Frag} {er : Ers} {W : WX} {O O' : Md → Prop} {ta te : TE} {t tk : TA} {wa : WE} {wb wk : WB} {wm : WM} {M : Md} {J0 H0 J H : Hp} {Pr : List (Addr × HO)} {s : Sl} {σ : L2.St} {v : V} {r : EV} {pre : List BV → Prop} {post : List BV → MV → List BV → Prop} {exc : List BV → Str → PyData → List BV → Prop}
theorem sb_nil : SB K er W O tNil wbNil := fun M mo J0 H0 Pr s σ J H f Q e q he Qa k => k [] [] s J H f (.refl _) .nil q
theorem sb_cons (ha : SE K er W O ta wa) (hr : SB K er W O t wb) : SB K er W O (tCons ta t) (wbCons wa wb) := fun M mo J0 H0 Pr s σ J H f Q e q he Qa k =>
  ha M mo J0 H0 Pr s σ J H f _ e q he _ fun x a s1 J1 H1 f1 b1 va q1 => by
    obtain ⟨dx, s2, J2, q2, b2, ax, f2⟩ := avB_use f1 va q1
    exact hr M mo J0 H0 Pr s2 σ J2 H1 f2 _ e q2 he _ fun vs ds s3 J3 H3 f3 b3 a3 q3 => k _ _ s3 J3 H3 f3 ((b1.trans b2).trans b3) (.cons (ax.sub b3) a3) q3
/-- what is wanted of a call -/
def callK (pre : List BV → Prop) (post : List BV → MV → List BV → Prop) (exc : List BV → Str → PyData → List BV → Prop) (bs : List BA) (s : Sl) (Q : MV → Sl → Prop) (e : EK) : Prop := lendK bs s fun as s1 => pre as ∧ (∀ r as', post as r as' → backK bs as' s1 fun s2 => Q r s2) ∧ ∀ c x as', exc as c x as' → backK bs as' s1 fun s2 => e c x s2
theorem spB_use {vs : List V} {bs : List BA} {Q : MV → Sl → Prop} {e : EK} {Qv : VK} (hO : ∀ M, O M → O' M) (mo : O M) (he : ErO K er W M J0 H0 Pr e) (f : Fr K M J0 H0 Pr s σ J H) (a : Bavs K M J vs bs) (q : callK pre post exc bs s Q e)
    (k : ∀ v r s' J' H', Fr K M J0 H0 Pr s' σ J' H' → Sub J J' → OwF K M H0 Pr s' σ J' H' v r → Q r s' → Qv v H') : spB K er O' pre post exc vs H Qv (L2.WE W σ) := by
  obtain ⟨as, s1, ⟨hp, h1, h2⟩, f1, b1, nd, hf, _⟩ := lend_use f a q
  have hL : ∀ x ∈ fpBs as, NewP M H0 x ∧ FreeA Pr s1 σ x := fun x qx => ⟨(hf x qx).2.1, (hf x qx).2.2.1⟩
  have nw : ∀ {x : Addr} {J' : Hp}, (J' x = none ∧ (x ∈ fpBs as ∨ NewP M H x)) → J' x = none ∧ NewP M H0 x ∧ FreeA Pr s1 σ x := fun {x J'} h => ⟨h.1, h.2.elim (fun z => (hL x z).1) fun z => newP_later f1 z, h.2.elim (fun z => (hL x z).2) fun z => free_later f1 z⟩
  refine ⟨M, J, as, hO M mo, f.wf, b1, nd, fun x qx => ⟨(hf x qx).1, nofp' f.w0 (hf x qx).2.1⟩, hp, fun v r as' J' H' t p o b2 nd2 hf2 => ?_, fun c x as' dx v J' H' t z hx a' nn b2 nd2 hf2 => ?_⟩
  · have f2 := f1.stepE hL t
    obtain ⟨m1, m2, m3⟩ := List.nodup_append.mp nd2
    obtain ⟨s3, k1, k2, k3⟩ := back_use f2 (a.sub t.jj) b2 m2 (fun x qx => nw (hf2 x (List.mem_append_right _ qx))) (h1 r as' p)
    exact k v r s3 J' H' k2 t.jj ⟨o, m1, fun x qx => ⟨(hf2 x (List.mem_append_left _ qx)).1, (nw (hf2 x (List.mem_append_left _ qx))).2.1, k3 x (nw (hf2 x (List.mem_append_left _ qx))).2.2 fun z => m3 x qx x z rfl⟩⟩ k1
  · have f2 := f1.stepE hL t
    obtain ⟨s3, k1, k2, k3⟩ := back_use f2 (a.sub t.jj) b2 nd2 (fun x qx => nw (hf2 x qx)) (h2 c x as' z)
    exact he c x s3 σ dx v J' H' k2 k1 hx a' ⟨fun o b e => by
      obtain ⟨o', c', e'⟩ := f1.tr.aln dx o b e
      exact nn.1 o' c' (by rw [ers_out fun z => (hL dx z).1 o b e]; exact e'), nn.2⟩
def wmCall (pre : List BV → Prop) (post : List BV → MV → List BV → Prop) (exc : List BV → Str → PyData → List BV → Prop) (wb : WB) (s : Sl) (Q : MV → Sl → Prop) (e : EK) : Prop := wb s (fun bs s1 => callK pre post exc bs s1 Q e) e
def wmCallK (pre : List BV → Prop) (post : List BV → MV → List BV → Prop) (exc : List BV → Str → PyData → List BV → Prop) (π : List Nat) (n m : Nat) (wb wk : WB) (s : Sl) (Q : MV → Sl → Prop) (e : EK) : Prop := wb s (fun bs s1 => wk s1 (fun cs s2 => bs.length = n ∧ cs.length = m ∧ callK pre post exc (pick π (bs ++ cs)) s2 Q e) e) e
theorem sm_call (hO : ∀ M, O M → O' M) (h : SB K er W O t wb) : SM K er W O (tCallS (spB K er O' pre post exc) (L2.WE W) t) (wmCall pre post exc wb) := fun M mo J0 H0 Pr s σ J H f Q e q he Qv k =>
  h M mo J0 H0 Pr s σ J H f _ e q he _ fun vs bs s1 J1 H1 f1 b1 a1 q1 => spB_use hO mo he f1 a1 q1 fun v r s' J' H' f' b' => k v r s' J' H' f' (b1.trans b')
theorem sm_callK {π : List Nat} {n m : Nat} (hO : ∀ M, O M → O' M) (h : SB K er W O t wb) (h' : SB K er W O tk wk) : SM K er W O (tCallW (spB K er O' pre post exc) π n m (L2.WE W) t tk) (wmCallK pre post exc π n m wb wk) := fun M mo J0 H0 Pr s σ J H f Q e q he Qv k =>
  h M mo J0 H0 Pr s σ J H f _ e q he _ fun vs bs s1 J1 H1 f1 b1 a1 q1 => h' M mo J0 H0 Pr s1 σ J1 H1 f1 _ e q1 he _ fun zs cs s2 J2 H2 f2 b2 a2 ⟨l1, l2, q2⟩ =>
    ⟨(bavs_len a1).trans l1, (bavs_len a2).trans l2, spB_use hO mo he f2 (bavs_pick (bavs_app (a1.sub b2) a2) π) q2 fun v r s' J' H' f' b' => k v r s' J' H' f' ((b1.trans b2).trans b')⟩
/-- what gives data -/
def wM (wm : WM) (s : Sl) (Q : EV → Sl → Prop) (e : EK) : Prop := wm s (fun m s1 => match m with
  | .d x => Q (.d x) s1
  | _ => False) e
theorem se_m (h : SM K er W O te wm) : SE K er W O te (wM wm) := fun M mo J0 H0 Pr s σ J H f Q e q he Qv k =>
  h M mo J0 H0 Pr s σ J H f _ e q he _ fun v m s1 J1 H1 f1 b1 o q1 => by
    split at q1
    · cases o.ow with
      | d a => exact k v (.d _) s1 J1 H1 f1 b1 a q1
    · exact q1.elim
end
/-! ### methods -/
/-- a method of a class, told -/
structure MthN (P : Program) (w : World) (K : PySem.W.Frag) (mg : Str → Option Value) (base : Heap) (CX : CXT) (k : Nat) (C : Addr) (m : Str) (ps : List Str) (n : Nat) (ks : List Str) (π : List Nat) (sp : Sp) : Prop where
  has : L2.Cls K C ∧ ∃ f fd, Meth K C m f ∧ FnG P w K mg base CX k f fd ps sp ∧ KBn K fd ps (n + 1) ks (fun us ws => pick π (us ++ ws)) (fun vs zs => pick π (vs ++ zs))
def tMethW (C : Addr) (m : Str) (sp : Sp) (π : List Nat) (n k : Nat) (E : L2.St → XK) (ta : TE) (t tk : TA) : TE := fun σ H Q => ta σ H fun x H1 => (∃ a dx fs, x = .ref a ∧ H1 a = some (.ins C dx fs) ∧ fs.lookup m = none) ∧ t σ H1 fun vs H2 => tk σ H2 fun zs H3 => vs.length = n ∧ zs.length = k ∧ sp (pick π ((x :: vs) ++ zs)) H3 Q (E σ)
section
variable {X : Cx} {CX : CXT} {k n : Nat} {C : Addr} {ps ks : List Str} {sp : Sp} {E : L2.St → XK} {m : Str} {p pos apos : Pos} {o e : Expr} {es : List Expr} {ta : TE} {t tk : TA} {kws : List Keyword} {π : List Nat}
theorem pe_methW {pl : Sem Bool} (he : PE X o ta) (C0 : MthN X.prog X.w X.K X.mg X.base CX k C m ps n ks π sp) (hA : X.A.guards = some []) (hr : Room k X.A) (hx : ∀ σ, PassesAt CX X σ (E σ)) (ha : PA X (e :: es) t) (hkw : PK X kws tk)
    (hall : (backToKw pos (keywordEach kws X.env)).all (·.1.isSome) = true := by rfl) (hks : (backToKw pos (keywordEach kws X.env)).filterMap (·.1) = ks := by rfl) (hst : starEach (e :: es) X.env = (false, eval e X.env) :: starEach es X.env := by rfl)
    (hpl : ((backTo pos (starEach (e :: es) X.env)).any (·.1) || (backToKw pos (keywordEach kws X.env)).any (·.1.isNone)) = false := by rfl)
    (ht : eval (.Call (.Attribute o m apos) (e :: es) kws pos) X.env = (do
      let ov ← eval o X.env
      standAt apos.atName
      let (f, first) ← holding [ov] (getMethod ov m pl)
      callWith pos f first (backTo pos (starEach (e :: es) X.env)) (backToKw pos (keywordEach kws X.env))) := by rfl) :
    PE X (.Call (.Attribute o m apos) (e :: es) kws pos) (tMethW C m sp π n ks.length E ta t tk) := by
  obtain ⟨c, f, fd, hm, F, hb⟩ := C0.has
  refine ⟨fun pins s σ H Q I h => ?_⟩
  refine PySem.W.methodCall_KW (pl := pl) (thn (he.run pins s σ H _ I h) fun u s1 ⟨x, H1, I1, rx, ⟨a, dx, fs, ex, ea, l⟩, q⟩ => ?_) ht
  subst ex
  cases (show u = Value.ref a from rx)
  refine getmeth_ok I1 ea c hm l ?_
  refine PySem.W.callWith_KW (first := [.ref a]) (h₀ := X.base) I1.ok.mod.kin hm.kp hall (thn (ha.run pos pins s1 σ H1 _ I1 q) fun us s2 ⟨vs, H2, I2, rv, named⟩ => thn (hkw.run pos pins s2 σ H2 _ I2 named) fun ws s3 ⟨zs, H3, I3, rz, l1, l2, told⟩ => ⟨I3.kIn, ?_⟩) hpl hst
  rw [hks]
  exact go_w (ar := ⟨.ref a :: us, ks.zip ws⟩) F hA hr (hx σ) I3 (hb.to s3 (.ref a :: us) ws I3.kIn (by rw [List.length_cons, ← l1, rv.length]) (rz.length.symm.trans l2)) (hb.rel (vs := .ref a :: vs) (.cons rfl rv) rz) told
theorem pe_methW0 {pl : Sem Bool} (he : PE X o ta) (C0 : MthN X.prog X.w X.K X.mg X.base CX k C m ps 0 ks π sp) (hA : X.A.guards = some []) (hr : Room k X.A) (hx : ∀ σ, PassesAt CX X σ (E σ)) (hkw : PK X kws tk)
    (hall : (backToKw pos (keywordEach kws X.env)).all (·.1.isSome) = true := by rfl) (hks : (backToKw pos (keywordEach kws X.env)).filterMap (·.1) = ks := by rfl)
    (hpl : ((backTo pos (starEach [] X.env)).any (·.1) || (backToKw pos (keywordEach kws X.env)).any (·.1.isNone)) = false := by rfl)
    (ht : eval (.Call (.Attribute o m apos) [] kws pos) X.env = (do
      let ov ← eval o X.env
      standAt apos.atName
      let (f, first) ← holding [ov] (getMethod ov m pl)
      callWith pos f first (backTo pos (starEach [] X.env)) (backToKw pos (keywordEach kws X.env))) := by rfl) :
    PE X (.Call (.Attribute o m apos) [] kws pos) (tMethW C m sp π 0 ks.length E ta tNil tk) := by
  obtain ⟨c, f, fd, hm, F, hb⟩ := C0.has
  refine ⟨fun pins s σ H Q I h => ?_⟩
  refine PySem.W.methodCall_KW (pl := pl) (thn (he.run pins s σ H _ I h) fun u s1 ⟨x, H1, I1, rx, ⟨a, dx, fs, ex, ea, l⟩, q⟩ => ?_) ht
  subst ex
  cases (show u = Value.ref a from rx)
  refine getmeth_ok I1 ea c hm l ?_
  refine PySem.W.callWith_KW0 (first := [.ref a]) (h₀ := X.base) I1.ok.mod.kin hm.kp hall (thn (hkw.run pos pins s1 σ H1 _ I1 q) fun ws s3 ⟨zs, H3, I3, rz, l1, l2, told⟩ => ⟨I3.kIn, ?_⟩) hpl
  rw [hks]
  exact go_w (ar := ⟨[.ref a], ks.zip ws⟩) F hA hr (hx σ) I3 (hb.to s3 [.ref a] ws I3.kIn rfl (rz.length.symm.trans l2)) (hb.rel (vs := [.ref a]) (.cons rfl .nil) rz) told
end
/-- o.m(..) -/
def wmMeth (c : ClsD) (pre : List BV → Prop) (post : List BV → MV → List BV → Prop) (exc : List BV → Str → PyData → List BV → Prop) (π : List Nat) (n k : Nat) (wr : WR) (wb wk : WB) (s : Sl) (Q : MV → Sl → Prop) (e : EK) : Prop := wr s fun r => plc r s fun i ρ p kd _ => (match kd with
  | .obj _ c' => c' = c
  | _ => False) ∧ wb s (fun bs s1 => wk s1 (fun cs s2 => bs.length = n ∧ cs.length = k ∧ callK pre post exc (pick π (.pl i ρ p :: (bs ++ cs))) s2 Q e) e) e
section
variable {K : PySem.W.Frag} {er : Ers} {W : WX} {O O' : Md → Prop} {ta : TE} {t tk : TA} {wr : WR} {wb wk : WB} {c : ClsD} {pre : List BV → Prop} {post : List BV → MV → List BV → Prop} {exc : List BV → Str → PyData → List BV → Prop} {m : Str}
theorem sm_meth {π : List Nat} {n k0 : Nat} (hO : ∀ M, O M → O' M) (hm : m ∉ c.fl) (hr : SR K ta wr) (h : SB K er W O t wb) (h' : SB K er W O tk wk) : SM K er W O (tMethW c.ad m (spB K er O' pre post exc) π n k0 (L2.WE W) ta t tk) (wmMeth c pre post exc π n k0 wr wb wk) := fun M mo J0 H0 Pr s σ J H f Q e q he Qv k =>
  hr.go M J0 H0 Pr s σ J H f _ q _ fun v r va q1 => by
    obtain ⟨i, ρ, p, kd, ms, m0, rfl, es, g, hk, q2⟩ := plc_use f va q1
    split at hk
    · rename_i dx c'
      subst hk
      obtain ⟨vs0, hp, hx, hf, ov, _⟩ := f.nd es g
      refine ⟨⟨p, dx, _, rfl, hp, look_none fun j ej => absurd (List.mem_of_getElem? ej) hm⟩, h M mo J0 H0 Pr s σ J H f _ e q2 he _ fun vs bs s1 J1 H1 f1 b1 a1 q3 => h' M mo J0 H0 Pr s1 σ J1 H1 f1 _ e q3 he _ fun zs cs s2 J2 H2 f2 b2 a2 ⟨l1, l2, q4⟩ => ?_⟩
      exact ⟨(bavs_len a1).trans l1, (bavs_len a2).trans l2, spB_use hO mo he f2 (bavs_pick (vs := .ref p :: (vs ++ zs)) (Bavs.cons (a := .pl i ρ p) (show Bav K M J2 (.ref p) (.pl i ρ p) from rfl) (bavs_app (a1.sub b2) a2)) π) q4 fun v r s' J' H' f' b' => k v r s' J' H' f' ((b1.trans b2).trans b')⟩
    · exact hk.elim
end
end DW

/-! try .. except X as n; what is made. -/
namespace DW
open PySem PySem.Spec
open PyProof.Rows L2 DL
/-- a clause: which classes it catches, its name's slot, its suite -/
structure HW where
  rows : List (Str × Bool)
  i : Nat
  wh : Addr → Addr → Value → Option Addr → WS
def offW (E : EW) (i : Nat) : EW := { nx := fun s => E.nx (s.set i none), rt := E.rt, bk := fun s => E.bk (s.set i none), ct := fun s => E.ct (s.set i none), er := nE }
def wTryK (er : Ers) : List HW → Str → PyData → Sl → EW → Prop
  | [], c, x, s, E => E.er c x s
  | h :: more, c, x, s, E => ((c, true) ∈ h.rows ∧ ∀ a dx, h.wh a dx (.ref (er.cl c)) (some dx) (s.set h.i (some (.exc a dx (er.fl c) x))) (offW E h.i)) ∨ ((c, false) ∈ h.rows ∧ wTryK er more c x s E)
def wTry (er : Ers) (wb : WS) (hs : List HW) (s : Sl) (E : EW) : Prop := wb s { E with er := fun c x s1 => wTryK er hs c x s1 E }
inductive HdR (K : PySem.W.Frag) (er : Ers) (O : Md → Prop) : List Cls3 → List HW → Prop
  | nil : HdR K er O [] []
  | cons {cv : Value} {ts : Addr → Value → Option Addr → TS} {h : HW} {l : List Cls3} {hs : List HW} : (∀ r ∈ h.rows, PySem.W.exmOne K (.ref (er.cl r.1)) cv = some r.2) → (∀ a cls d dx, SS K er W0 O (ts a cls d) (h.wh a dx cls d)) → HdR K er O l hs → HdR K er O ((cv, h.i, ts) :: l) (h :: hs)
/-- e.f, e what was caught -/
def wXf (a dx : Addr) (cls : Value) (d : Option Addr) (C : Addr) (i : Nat) (f : Str) (s : Sl) (Q : EV → Sl → Prop) (_ : EK) : Prop := cls = .ref C ∧ d = some dx ∧ (match s[i]? with
  | some (some (.exc a' dx' g x)) => a' = a ∧ dx' = dx ∧ g = f ∧ Q (.d x) s
  | _ => False)
/-- isinstance(e, ..) of it -/
def wIsX (a dx : Addr) (cls : Value) (d : Option Addr) (C : Addr) (i : Nat) (b : Bool) (s : Sl) (Q : EV → Sl → Prop) (_ : EK) : Prop := cls = .ref C ∧ d = some dx ∧ (match s[i]? with
  | some (some (.exc a' dx' _ _)) => a' = a ∧ dx' = dx ∧ Q (.d (.bool b)) s
  | _ => False)
section
variable {K : PySem.W.Frag} {er : Ers} {W : WX} {O O' : Md → Prop} {M : Md} {J0 H0 J H : Hp} {Pr : List (Addr × HO)} {s : Sl} {σ : L2.St} {a dx C : Addr} {cls : Value} {d : Option Addr} {i : Nat} {f : Str} {cv : Value} {c : V} {b : Bool}
theorem se_xf : SE K er W O (tXf a cls d C f (tVar i)) (wXf a dx cls d C i f) := fun M mo J0 H0 Pr s σ J H fr Q e ⟨h1, h2, q⟩ he Qv k => by
  split at q
  · rename_i a' dx' g x es
    obtain ⟨rfl, rfl, rfl, q⟩ := q
    obtain ⟨v, hv, e1, u, e2, e3⟩ := fr.at_ i _ es
    subst e1
    exact ⟨_, hv, rfl, h1, _, _, u, h2, fr.wf.jh _ _ e2, by simp [List.lookup], k u (.d x) s J H fr (.refl _) e3 q⟩
  · exact q.elim
theorem se_isX (hC : L2.ExcC K C) (hcv : ∀ u, RelV c u → u = cv) (hk : PySem.W.kitOne K (.ref C) cv = some b) : SE K er W O (tCB (rIsA K cls d a) (tCons (tVar i) (tCons (tC c) tNil))) (wIsX a dx cls d C i b) := fun M mo J0 H0 Pr s σ J H fr Q e ⟨h1, h2, q⟩ he Qv k => by
  split at q
  · rename_i a' dx' g x es
    obtain ⟨rfl, rfl, q⟩ := q
    obtain ⟨v, hv, e1, u, e2, e3⟩ := fr.at_ i _ es
    subst e1
    exact ⟨_, hv, C, _, _, c, cv, b, h1, h2, fr.wf.jh _ _ e2, hC, rfl, hcv, hk, k _ (.d (.bool b)) s J H fr (.refl _) (.bl b) q⟩
  · exact q.elim
theorem xd_free {x : HO} (fr : Fr K M J0 H0 Pr s σ J H) (h : H dx = some x) (nm : ¬ Mu x) : FreeA Pr s σ dx := by
  refine ⟨fun k y u e hu q => ?_, fun q hq z => ?_⟩
  · have v := fr.vs e hu
    cases y with
    | d x => cases u <;> cases q
    | drw => cases u <;> cases q
    | raw w => cases u <;> cases q
    | exc _ _ _ _ => cases u <;> cases q
    | own xs =>
      obtain ⟨p, vs, rfl, hp, _⟩ := v
      rcases List.mem_singleton.mp q with rfl
      rw [h] at hp; cases hp; exact nm True.intro
    | mv m =>
      obtain ⟨o, ho, mo⟩ := v.1.mu q
      rw [h] at ho; cases ho; exact nm mo
  · obtain ⟨h1, _, _, ⟨xs, h4⟩, _⟩ := fr.prt q hq
    rw [z, h, h4] at h1
    cases h1; exact nm True.intro
/-- all that the slots have, and what is kept for the while -/
def allA (Pr : List (Addr × HO)) (s : Sl) (σ : L2.St) : List Addr := Pr.map Prod.fst ++ (s.zip σ).flatMap fun q => match q.1, q.2 with
  | some x, some v => fpS x v
  | _, _ => []
theorem allA_in {x : SV} {v : V} {p : Addr} (e : s[i]? = some (some x)) (hv : σ[i]? = some (some v)) (q : p ∈ fpS x v) : p ∈ allA Pr s σ :=
  List.mem_append_right _ (List.mem_flatMap.mpr ⟨(some x, some v), List.mem_of_getElem? (i := i) (by rw [List.getElem?_zip_eq_some]; exact ⟨e, hv⟩), q⟩)
theorem allA_of {p : Addr} (h : p ∈ allA Pr s σ) : (∃ q ∈ Pr, q.1 = p) ∨ ∃ (i : Nat) (x : SV) (v : V), s[i]? = some (some x) ∧ σ[i]? = some (some v) ∧ p ∈ fpS x v := by
  rcases List.mem_append.mp h with h | h
  · exact .inl (List.mem_map.mp h)
  · obtain ⟨⟨ox, ov⟩, hz, hp⟩ := List.mem_flatMap.mp h
    obtain ⟨j, hj⟩ := List.mem_iff_getElem?.mp hz
    obtain ⟨e1, e2⟩ := List.getElem?_zip_eq_some.mp hj
    cases ox with
    | none => cases hp
    | some x =>
      cases ov with
      | none => cases hp
      | some v => exact .inr ⟨j, x, v, e1, e2, hp⟩
theorem Fr.allL (fr : Fr K M J0 H0 Pr s σ J H) {p : Addr} (h : p ∈ allA Pr s σ) : (∃ o, H p = some o ∧ Mu o) ∧ J p = none ∧ NewP M H0 p := by
  rcases allA_of h with ⟨q, hq, rfl⟩ | ⟨j, x, v, e, hv, hp⟩
  · obtain ⟨h1, h2, h3, ⟨xs, h4⟩, _⟩ := fr.prt q hq
    exact ⟨⟨_, h1, by rw [h4]; exact True.intro⟩, h2, h3⟩
  · have vv := fr.vs e hv
    refine ⟨?_, (vv.live hp).2⟩
    cases x with
    | d x => cases v <;> cases hp
    | drw => cases v <;> cases hp
    | raw w => cases v <;> cases hp
    | exc _ _ _ _ => cases v <;> cases hp
    | own xs =>
      obtain ⟨p, vs, rfl, hh, _⟩ := vv
      rcases List.mem_singleton.mp hp with rfl
      exact ⟨_, hh, True.intro⟩
    | mv m => exact vv.1.mu hp
theorem newP_ers {L : List Addr} {p : Addr} (fr : Fr K M J0 H0 Pr s σ J H) (hL : ∀ a ∈ L, NewP M H0 a) (h : NewP M (ers L H) p) : NewP M H0 p := by
  by_cases q : p ∈ L
  · exact hL p q
  · exact newP_later fr fun o b e => h o b (by rw [ers_out q]; exact e)
/-- as if all began here -/
theorem Fr.rebase (fr : Fr K M J0 H0 Pr s σ J H) : Fr K M J (ers (allA Pr s σ) H) Pr s σ J H := by
  have nw : ∀ a ∈ allA Pr s σ, NewP M (ers (allA Pr s σ) H) a := fun a q o _ z => by rw [ers_in q] at z; cases z
  refine ⟨⟨fun a o e => by rw [ers_out fun z => by rw [(fr.allL z).2.1] at e; cases e]; exact fr.wf.jh a o e, M.loc H _ (fun a q => ers_out fun z => nofp' fr.w0 (fr.allL z).2.2 q) (fun a o e ne => ?_) fr.wf.inv, fr.wf.jn, fr.wf.nt⟩,
    ⟨.refl _, fr.wf.jh, fun a o _ _ e => (ers_some e).2, fr.wf.inv, fun _ _ _ _ n => n, fun a o b e => ⟨o, b, (ers_some e).2⟩, fun z => z⟩, fr.len, fun k x e => ?_, fr.sep, fun q hq => ?_, fr.pn⟩
  · rw [ers_out fun z => ?_]
    · exact e
    · obtain ⟨o2, e2, m2⟩ := (fr.allL z).1
      rw [e] at e2; cases e2; exact ne m2
  · obtain ⟨v, hv, h⟩ := fr.at_ k x e
    refine ⟨v, hv, ?_⟩
    cases x with
    | d x => exact h
    | drw => exact h
    | raw w => exact h
    | exc _ _ _ _ => exact h
    | own xs =>
      obtain ⟨p, vs, rfl, h1, h2, h3, _⟩ := h
      exact ⟨p, vs, rfl, h1, h2, h3, nw p (allA_in e hv (List.mem_singleton.mpr rfl))⟩
    | mv m => exact ⟨h.1, h.2.1, fun a q => ⟨(h.2.2 a q).1, nw a (allA_in e hv q)⟩⟩
  · obtain ⟨h1, h2, h3, h4, h5⟩ := fr.prt q hq
    exact ⟨h1, h2, nw _ (List.mem_append_left _ (List.mem_map.mpr ⟨q, hq, rfl⟩)), h4, h5⟩
theorem Fr.unbase {s1 : Sl} {σ1 : L2.St} {J1 H1 : Hp} (fr : Fr K M J0 H0 Pr s σ J H) (g : Fr K M J (ers (allA Pr s σ) H) Pr s1 σ1 J1 H1) : Fr K M J0 H0 Pr s1 σ1 J1 H1 := by
  have hL : ∀ a ∈ allA Pr s σ, NewP M H0 a := fun a q => (fr.allL q).2.2
  have nl : ∀ {a o}, Nt M o → H0 a = some o → a ∉ allA Pr s σ := fun {a o} b e q => hL a q o b e
  have t := g.tr
  refine ⟨fr.w0, ⟨fr.tr.jj.trans t.jj, t.jh, fun a x n b e => t.kept a x n b (by rw [ers_out (nl b e)]; exact fr.tr.kept a x n b e), t.inv, fun a x b e n => ?_, fun a x b e => ?_, fun z => t.tn (fr.tr.tn z)⟩, g.len, fun k x e => ?_, g.sep, fun q hq => ?_, g.pn⟩
  · obtain ⟨y, c, e'⟩ := fr.tr.aln a x b e
    exact t.frn a y c (by rw [ers_out (nl b e)]; exact e') (fr.tr.frn a x b e n)
  · obtain ⟨y, c, e'⟩ := fr.tr.aln a x b e
    exact t.aln a y c (by rw [ers_out (nl b e)]; exact e')
  · obtain ⟨v, hv, h⟩ := g.at_ k x e
    refine ⟨v, hv, ?_⟩
    cases x with
    | d x => exact h
    | drw => exact h
    | raw w => exact h
    | exc _ _ _ _ => exact h
    | own xs =>
      obtain ⟨p, vs, rfl, h1, h2, h3, h4⟩ := h
      exact ⟨p, vs, rfl, h1, h2, h3, newP_ers fr hL h4⟩
    | mv m => exact ⟨h.1, h.2.1, fun a q => ⟨(h.2.2 a q).1, newP_ers fr hL (h.2.2 a q).2⟩⟩
  · obtain ⟨h1, h2, h3, h4, h5⟩ := g.prt q hq
    exact ⟨h1, h2, newP_ers fr hL h3, h4, h5⟩
theorem ss_try {tb : WX → TS} {ws : WS} {l : List Cls3} {hs : List HW} (hb : ∀ W, SS K er W O (tb W) ws) (hd : HdR K er O l hs) : SS K er W O (fun D σ H => tb (wNamed K W D l) D σ H) (wTry er ws hs) := fun M mo J0 H0 Pr s σ J H fr E D q kk he => by
  have hL : ∀ a ∈ allA Pr s σ, NewP M H0 a := fun a q => (fr.allL q).2.2
  refine hb _ M mo J _ Pr s σ J H fr.rebase _ D q ⟨fun s1 σ1 J1 H1 f b z => kk.nx s1 σ1 J1 H1 (fr.unbase f) b z, fun v d s1 σ1 J1 H1 f b z => kk.rt v d s1 σ1 J1 H1 (fr.unbase f) b z, fun s1 σ1 J1 H1 f b z => kk.bk s1 σ1 J1 H1 (fr.unbase f) b z, fun s1 σ1 J1 H1 f b z => kk.ct s1 σ1 J1 H1 (fr.unbase f) b z⟩ fun c x s1 σ1 dx v J1 H1 f0 z hx av np => ?_
  have f1 := fr.unbase f0
  have sj := f0.tr.jj
  have np' := newP_ers fr hL np.1
  clear q
  induction hd with
  | nil => exact he c x s1 σ1 dx v J1 H1 f1 z hx av ⟨np', np.2⟩
  | @cons cv ts h l hs hrow hsu _ ih =>
    rcases z with ⟨hm, z⟩ | ⟨hm, z⟩
    · refine ⟨true, hrow _ hm, fun _ a na => ?_, nofun⟩
      have fre := xd_free f1 hx (fun z => z)
      have f2 := f1.iceF hx (fun ps z => by cases z) np.2 np' fre
      have sb : Sub J1 (upd J1 dx (.xd [(er.fl c, v)])) := .new np.2
      have f3 := f2.put0 (k := h.i) (v := .ref a) (y := .exc a dx (er.fl c) x) ⟨rfl, v, upd_same, sb.da av⟩ rfl
      have sub : ∀ {J2}, Sub (upd J1 dx (.xd [(er.fl c, v)])) J2 → Sub J J2 := fun b => (sj.trans sb).trans b
      exact hsu a (.ref (er.cl c)) (some dx) dx M mo J0 H0 Pr _ _ _ _ f3 (offW E h.i) (offE D h.i) (z a dx)
        ⟨fun s2 σ2 J2 H2 f b z => kk.nx _ _ J2 H2 (f.drop none) (sub b) z, fun v d s2 σ2 J2 H2 f b z => kk.rt v d s2 σ2 J2 H2 f (sub b) z, fun s2 σ2 J2 H2 f b z => kk.bk _ _ J2 H2 (f.drop none) (sub b) z, fun s2 σ2 J2 H2 f b z => kk.ct _ _ J2 H2 (f.drop none) (sub b) z⟩
        fun c x s σ dx v J H _ z => z.elim
    · exact ⟨false, hrow _ hm, nofun, fun _ => ih z⟩
end
/-! ### what is made -/
structure MkN (P : Program) (w : World) (K : PySem.W.Frag) (mg : Str → Option Value) (base : Heap) (CX : CXT) (k : Nat) (x : Str) (C : Addr) (ps : List Str) (sp : Sp) : Prop where
  has : ∃ f fd, Mk K C f ∧ FnG P w K mg base CX k f fd ps sp ∧ mg x = some (.ref C) ∧ Binds K fd ps []
def tMakeW (C : Addr) (sp : Sp) (E : L2.St → XK) (t : TA) : TE := fun σ H Q => t σ H fun vs H1 => ∀ y dx, H1 y = none → H1 dx = none → dx ≠ y → sp (.ref y :: vs) (upd (upd H1 dx (.own y)) y (.ins C dx [])) (fun v H2 => v = .non ∧ Q (.ref y) H2) (E σ)
section
variable {X : Cx} {CX : CXT} {k : Nat} {C : Addr} {ps : List Str} {sp : Sp} {E : L2.St → XK} {x : Str} {p pos : Pos} {e : Expr} {es : List Expr} {t : TA}
theorem go_make {pins : List (Addr × Obj)} {σ : L2.St} {H : Hp} {s : Shared} {Q : VK} {us : List Value} {vs : List V} {f : Addr} {fd : FuncData} (Mx : Mk X.K C f) (F : FnG X.prog X.w X.K X.mg X.base CX k f fd ps sp) (hA : X.A.guards = some []) (hr : Room (k + 1) X.A) (hb : Binds X.K fd ps []) (hx : PassesAt CX X σ (E σ)) (I : Inv X pins σ H s) (r : Vals vs us)
    (h : ∀ y dx, H y = none → H dx = none → dx ≠ y → sp (.ref y :: vs) (upd (upd H dx (.own y)) y (.ins C dx [])) (fun v H2 => v = .non ∧ Q (.ref y) H2) (E σ)) : wpAny (model X.prog X.w) X.A (call (.ref C) us) (EP X pins σ Q) X.xe s := by
  have told := h (s.heap.objs.size + 1) s.heap.objs.size (I.hok.fresh (Nat.le_succ _)) (I.hok.fresh (Nat.le_refl _)) (Nat.ne_of_lt (Nat.lt_succ_self _))
  have I2 := Inv.made (C := C) I
  have rv : Vals (V.ref (s.heap.objs.size + 1) :: vs) (Value.ref (s.heap.objs.size + 1) :: us) := .cons rfl r
  have hl : (Value.ref (s.heap.objs.size + 1) :: us).length = ps.length := by rw [← rv.length]; exact F.siz _ _ _ _ told
  have bd := hb _ (Value.ref (s.heap.objs.size + 1) :: us) I2.kIn (by rw [List.append_nil]; exact hl)
  rw [List.append_nil] at bd
  refine wpAny_call (make_map (f := f) I.kIn Mx.makes Mx.init (beq_iff_eq.mp Mx.fn) (codeAny_mono (F.go _ X.stack _ _ ⟨Value.ref (s.heap.objs.size + 1) :: us, []⟩ _ _ _ (E σ) hA (hr.make C us []) (I2.env0.make C us []) bd rv told) fun r s' came => ?_))
  rcases r with e | fl
  · exact hx pins _ _ e s' I2 came
  · cases fl with
    | ret u =>
      obtain ⟨v, H', I3, rr, ev, q3⟩ := I2.after came
      subst ev
      exact ⟨rr, V.ref (s.heap.objs.size + 1), H', I3, rfl, q3⟩
    | next => exact came.elim
    | brk => exact came.elim
    | cont => exact came.elim
theorem pe_makeW (C0 : MkN X.prog X.w X.K X.mg X.base CX k x C ps sp) (hA : X.A.guards = some []) (hr : Room (k + 1) X.A) (hx : ∀ σ, PassesAt CX X σ (E σ)) (ha : PA X (e :: es) t) (hg : Gl X x := by rfl) (hdb : (x == ("__debug__" : Str)) = false := by decide)
    (he : starEach (e :: es) X.env = (false, eval e X.env) :: starEach es X.env := by rfl) (hpl : (backTo pos (starEach es X.env)).any (·.1) = false := by rfl) : PE X (.Call (.Name x p) (e :: es) [] pos) (tMakeW C sp E t) := by
  obtain ⟨f, fd, Mx, F, hm, hb⟩ := C0.has
  refine ⟨fun pins s σ H Q I h => wpAny_Call_Name_kw (ld_glob I hg hm ?_ hdb)⟩
  exact PySem.W.callWith_K (h₀ := X.base) I.ok.mod.kin Mx.kp (thn (ha.run pos pins s σ H _ I h) fun us s1 ⟨vs, H1, I1, r, q⟩ => ⟨I1.kIn, go_make Mx F hA hr hb (hx σ) I1 r q⟩) he hpl
theorem pe_makeW0 (C0 : MkN X.prog X.w X.K X.mg X.base CX k x C ps sp) (hA : X.A.guards = some []) (hr : Room (k + 1) X.A) (hx : ∀ σ, PassesAt CX X σ (E σ)) (hg : Gl X x := by rfl) (hdb : (x == ("__debug__" : Str)) = false := by decide) : PE X (.Call (.Name x p) [] [] pos) (tMakeW C sp E tNil) := by
  obtain ⟨f, fd, Mx, F, hm, hb⟩ := C0.has
  refine ⟨fun pins s σ H Q I h => wpAny_Call_Name_kw (ld_glob I hg hm ?_ hdb)⟩
  exact PySem.W.callWith_K0 I.kIn Mx.kp (go_make (us := []) Mx F hA hr hb (hx σ) I .nil h)
end
def wmMake (c : ClsD) (pre : List BV → Prop) (post : List BV → MV → List BV → Prop) (exc : List BV → Str → PyData → List BV → Prop) (wb : WB) (s : Sl) (Q : MV → Sl → Prop) (e : EK) : Prop := wb s (fun bs s1 => ∀ y dx, lendK bs s1 fun as s2 => pre (.mv (.nd y (.obj dx c) []) :: as) ∧
  (∀ r as', post (.mv (.nd y (.obj dx c) []) :: as) r as' → ∃ m as'', as' = .mv m :: as'' ∧ r = .d .none ∧ backK bs as'' s2 fun s3 => Q m s3) ∧ ∀ z x as', exc (.mv (.nd y (.obj dx c) []) :: as) z x as' → ∃ b as'', as' = b :: as'' ∧ backK bs as'' s2 fun s3 => e z x s3) e
section
variable {K : PySem.W.Frag} {er : Ers} {W : WX} {O O' : Md → Prop} {t : TA} {wb : WB} {c : ClsD} {pre : List BV → Prop} {post : List BV → MV → List BV → Prop} {exc : List BV → Str → PyData → List BV → Prop}
theorem sm_make (hO : ∀ M, O M → O' M) (nd : c.fl.Nodup) (h : SB K er W O t wb) : SM K er W O (tMakeW c.ad (spB K er O' pre post exc) (L2.WE W) t) (wmMake c pre post exc wb) := fun M mo J0 H0 Pr s σ J H f Q e q he Qv k =>
  h M mo J0 H0 Pr s σ J H f _ e q he _ fun vs bs s1 J1 H1 f1 b1 a1 q1 => fun y dx hy hdx ne => by
    have t1 := f1.wf.cell (o := .own y) hdx
    have f2 := f1.step t1
    have hy2 : upd H1 dx (.own y) y = none := by rw [upd_ne (Ne.symm ne)]; exact hy
    have t2 := f2.wf.cell (o := .ins c.ad dx []) hy2
    have f3 := f2.step t2
    have hH : upd (upd H1 dx (.own y)) y (.ins c.ad dx []) = upd (upd H1 dx (.own y)) y (hoOf (.obj dx c) []) := by
      show _ = upd (upd H1 dx (.own y)) y (.ins c.ad dx (c.fl.zip []))
      rw [List.zip_nil_right]
    have o : OwF K M H0 Pr s1 σ J1 (upd (upd H1 dx (.own y)) y (.ins c.ad dx [])) (.ref y) (.nd y (.obj dx c) []) := by
      refine ⟨.nd (by rw [hH]; exact upd_same) (show _ = _ by rw [upd_ne ne]; exact upd_same) ⟨Nat.zero_le _, nd⟩ .nil, ?_, fun a qa => ?_⟩
      · rw [fpM_nd, fpMs_nil]
        show [y, dx].Nodup
        simp [Ne.symm ne]
      · rw [fpM_nd, fpMs_nil] at qa
        have qa : a ∈ [y, dx] := qa
        rcases List.mem_cons.mp qa with rfl | qa
        · exact ⟨f1.wf.jh.back hy, f1.new0 hy, f1.free fun o _ z => by rw [hy] at z; cases z⟩
        · rcases List.mem_singleton.mp qa with rfl
          exact ⟨f1.wf.jh.back hdx, f1.new0 hdx, f1.free fun o _ z => by rw [hdx] at z; cases z⟩
    obtain ⟨as, s2, ⟨hp, h1, h2⟩, f4, bv, ndA, hf, mono⟩ := lend_use f3 a1 (q1 y dx)
    have disj : ∀ a ∈ fpM (.nd y (.obj dx c) []), a ∉ fpBs as := fun a q1 q2 => (hf a q2).2.2.2 (o.fr a q1).2.2
    have eL : fpBs (.mv (.nd y (.obj dx c) []) :: as) = fpM (.nd y (.obj dx c) []) ++ fpBs as := rfl
    have hL : ∀ x ∈ fpBs (.mv (.nd y (.obj dx c) []) :: as), J1 x = none ∧ NewP M H0 x ∧ FreeA Pr s2 σ x := fun x qx => by
      rw [eL] at qx
      rcases List.mem_append.mp qx with qx | qx
      · exact ⟨(o.fr x qx).1, (o.fr x qx).2.1, mono x (o.fr x qx).2.2⟩
      · exact ⟨(hf x qx).1, (hf x qx).2.1, (hf x qx).2.2.1⟩
    have nw : ∀ {x : Addr} {J' : Hp}, (J' x = none ∧ (x ∈ fpBs (.mv (.nd y (.obj dx c) []) :: as) ∨ NewP M _ x)) → J' x = none ∧ NewP M H0 x ∧ FreeA Pr s2 σ x := fun {x J'} h => ⟨h.1, h.2.elim (fun z => (hL x z).2.1) fun z => newP_later f4 z, h.2.elim (fun z => (hL x z).2.2) fun z => free_later f4 z⟩
    refine ⟨M, J1, _, hO M mo, f3.wf, .cons (show Bv K M _ _ _ (.mv _) from o.ow) bv, ?_, fun x qx => ⟨(hL x qx).1, nofp' f.w0 (hL x qx).2.1⟩, hp, fun v r as' J' H' tt p ow b2 nd2 hf2 => ?_, fun z x as' dx2 v J' H' tt zz hx a' nn b2 nd2 hf2 => ?_⟩
    · rw [eL]
      exact List.nodup_append.mpr ⟨o.nd, ndA, fun a q1 b q2 z => disj a q1 (by rw [z]; exact q2)⟩
    · have f5 := f4.stepE (fun a qa => (hL a qa).2) tt
      obtain ⟨m, as'', rfl, rfl, hb⟩ := h1 r as' p
      cases b2 with
      | cons bm b2 =>
      rw [fpM_d] at nd2 hf2
      obtain ⟨m1, m2, m3⟩ := List.nodup_append.mp (show (fpM m ++ fpBs as'').Nodup from nd2)
      have hf3 : ∀ a ∈ fpM m ++ fpBs as'', J' a = none ∧ NewP M H0 a ∧ FreeA Pr s2 σ a := fun a qa => nw (hf2 a qa)
      obtain ⟨s3, k1, k2, k3⟩ := back_use f5 (a1.sub tt.jj) b2 m2 (fun x qx => hf3 x (List.mem_append_right _ qx)) hb
      refine ⟨by cases ow with | d a => exact da_non a, k _ m s3 J' H' k2 (b1.trans tt.jj) ⟨bm, m1, fun x qx => ?_⟩ k1⟩
      obtain ⟨g1, g2, g3⟩ := hf3 x (List.mem_append_left _ qx)
      exact ⟨g1, g2, k3 x g3 fun z => m3 x qx x z rfl⟩
    · have f5 := f4.stepE (fun a qa => (hL a qa).2) tt
      obtain ⟨b, as'', rfl, hb⟩ := h2 z x as' zz
      cases b2 with
      | cons bm b2 =>
      obtain ⟨m1, m2, m3⟩ := List.nodup_append.mp (show (fpB b ++ fpBs as'').Nodup from nd2)
      obtain ⟨s3, k1, k2, k3⟩ := back_use f5 (a1.sub tt.jj) b2 m2 (fun x qx => nw (hf2 x (List.mem_append_right _ qx))) hb
      exact he z x s3 σ dx2 v J' H' k2 k1 hx a' ⟨fun o b e => by
        obtain ⟨o', c', e'⟩ := f4.tr.aln dx2 o b e
        exact nn.1 o' c' (by rw [ers_out fun z => (hL dx2 z).2.1 o b e]; exact e'), nn.2⟩
end
end DW

/-! The pairs for what may be written. -/
namespace DW
open PySem PySem.Spec
open PyProof.Rows L2 DL
section
variable {K : PySem.W.Frag} {er : Ers} {W : WX} {O : Md → Prop} {M : Md} {J0 H0 J H J1 H1 : Hp} {Pr Pr' : List (Addr × HO)} {s s1 : Sl} {σ σ1 : L2.St} {v : V} {m : MV}
theorem Fr.unbase' (fr : Fr K M J0 H0 Pr s σ J H) (g : Fr K M J (ers (allA Pr s σ) H) Pr' s1 σ1 J1 H1) : Fr K M J0 H0 Pr' s1 σ1 J1 H1 := by
  have hL : ∀ a ∈ allA Pr s σ, NewP M H0 a := fun a q => (fr.allL q).2.2
  have z : Fr K M J0 H0 [] s1 σ1 J1 H1 := by
    have fr0 : Fr K M J0 H0 Pr s σ J H := fr
    have nl : ∀ {a o}, Nt M o → H0 a = some o → a ∉ allA Pr s σ := fun {a o} b e q => hL a q o b e
    have t := g.tr
    refine ⟨fr.w0, ⟨fr.tr.jj.trans t.jj, t.jh, fun a x n b e => t.kept a x n b (by rw [ers_out (nl b e)]; exact fr.tr.kept a x n b e), t.inv, fun a x b e n => ?_, fun a x b e => ?_, fun z => t.tn (fr.tr.tn z)⟩, g.len, fun k x e => ?_, g.sep, nofun, List.nodup_nil⟩
    · obtain ⟨y, c, e'⟩ := fr.tr.aln a x b e
      exact t.frn a y c (by rw [ers_out (nl b e)]; exact e') (fr.tr.frn a x b e n)
    · obtain ⟨y, c, e'⟩ := fr.tr.aln a x b e
      exact t.aln a y c (by rw [ers_out (nl b e)]; exact e')
    · obtain ⟨v, hv, h⟩ := g.at_ k x e
      refine ⟨v, hv, ?_⟩
      cases x with
      | d x => exact h
      | drw => exact h
      | raw w => exact h
      | exc _ _ _ _ => exact h
      | own xs =>
        obtain ⟨p, vs, rfl, h1, h2, h3, h4⟩ := h
        exact ⟨p, vs, rfl, h1, h2, h3, newP_ers fr hL h4⟩
      | mv m => exact ⟨h.1, h.2.1, fun a q => ⟨(h.2.2 a q).1, newP_ers fr hL (h.2.2 a q).2⟩⟩
  exact ⟨z.w0, z.tr, z.len, z.at_, z.sep, fun q hq => by
    obtain ⟨h1, h2, h3, h4, h5⟩ := g.prt q hq
    exact ⟨h1, h2, newP_ers fr hL h3, h4, h5⟩, g.pn⟩
/-- a new thing stays while more is read -/
theorem OwF.keep (fr : Fr K M J0 H0 Pr s σ J H) (o : OwF K M H0 Pr s σ J H v m) (g : Fr K M J (ers (allA Pr s σ) H) Pr' s1 σ1 J1 H1) : OwF K M H0 Pr' s1 σ1 J1 H1 v m := by
  have out : ∀ a ∈ fpM m, a ∉ allA Pr s σ := fun a q z => by
    rcases allA_of z with ⟨r, hr, e⟩ | ⟨j, x, u, e, hu, hp⟩
    · exact (o.fr a q).2.2.2 r hr e
    · exact (o.fr a q).2.2.1 j x u e hu hp
  have at_ : ∀ a ∈ fpM m, ∃ ob, ers (allA Pr s σ) H a = some ob ∧ H a = some ob ∧ Mu ob := fun a q => by
    obtain ⟨ob, e, mo⟩ := o.ow.mu q
    exact ⟨ob, by rw [ers_out (out a q)]; exact e, e, mo⟩
  have nt : ∀ {ob : HO}, Mu ob → Nt M ob := fun h _ => mu_nt h
  have kp : ∀ a ∈ fpM m, H1 a = H a ∧ J1 a = none := fun a q => by
    obtain ⟨ob, e1, e2, mo⟩ := at_ a q
    exact ⟨by rw [e2]; exact g.tr.kept a ob (nofp' fr.w0 (o.fr a q).2.1) (nt mo) e1, g.tr.frn a ob (nt mo) e1 (o.fr a q).1⟩
  refine ⟨o.ow.frame g.tr.jj fun a q => (kp a q).1, o.nd, fun a q => ⟨(kp a q).2, (o.fr a q).2.1, fun j x u e hu hp => ?_, fun r hr z => ?_⟩⟩
  · obtain ⟨ob, e1, _, mo⟩ := at_ a q
    exact ((g.vs e hu).live hp).2.2 ob (nt mo) e1
  · obtain ⟨ob, e1, _, mo⟩ := at_ a q
    exact (g.prt r hr).2.2.1 ob (nt mo) (by rw [z]; exact e1)
theorem ero_re {e : EK} (fr : Fr K M J0 H0 Pr s σ J H) (he : ErO K er W M J0 H0 Pr e) : ErO K er W M J (ers (allA Pr s σ) H) Pr e := fun c x s1 σ1 dx v J1 H1 g z hx av np =>
  he c x s1 σ1 dx v J1 H1 (fr.unbase' g) z hx av ⟨newP_ers fr (fun a q => (fr.allL q).2.2) np.1, np.2⟩
/-- several names, the first for a new thing -/
def wParM (k : Nat) (ks : List Nat) (wm : WM) (wn : WN) (s : Sl) (E : EW) : Prop := wm s (fun m s1 => wn s1 (fun ns s2 => ns.length = ks.length ∧ E.nx (asgN (s2.set k (some (.mv m))) ks ns)) E.er) E.er
theorem parM_go {ta : TE} {t : TA} {wm : WM} {wn : WN} {k : Nat} {ks : List Nat} (h : SM K er W O ta wm) (h2 : SN K er W O t wn) (mo : O M) (f : Fr K M J0 H0 Pr s σ J H) {E : EW} (q : wParM k ks wm wn s E) (he : ErO K er W M J0 H0 Pr E.er) {Qa : List V → Hp → Prop}
    (kk : ∀ v vs s2 J2 H2, vs.length = ks.length → Fr K M J0 H0 Pr s2 (asgV (σ.set k (some v)) ks vs) J2 H2 → Sub J J2 → E.nx s2 → Qa (v :: vs) H2) : tCons ta t σ H Qa :=
  h M mo J0 H0 Pr s σ J H f _ _ q he _ fun v m s1 J1 H1 f1 b1 o q1 => h2 M mo J1 _ Pr s1 σ J1 H1 f1.rebase _ _ q1 (ero_re f1 he) _ fun L vs ns s2 J2 H2 g b2 a2 ⟨hl, q2⟩ => by
    have f2 := f1.unbase' g
    have f3 := f2.take (k := k) (o.keep f1 g)
    exact kk v vs _ J2 H2 ((nvs_len a2).trans hl) (fr_giveN a2 f3 hl) (b1.trans b2) q2
theorem ss_parM2 {ta : TE} {t : TA} {wm : WM} {wn : WN} {k l : Nat} (h : SM K er W O ta wm) (h2 : SN K er W O t wn) : SS K er W O (tPar k l (tCons ta t)) (wParM k [l] wm wn) := fun M mo J0 H0 Pr s σ J H f E D q kk he =>
  parM_go h h2 mo f q he fun v vs s2 J2 H2 hl f2 b2 q2 => by
    match vs, hl with
    | [w], _ => exact ⟨v, w, rfl, kk.nx _ _ _ _ f2 b2 q2⟩
theorem ss_parM3 {ta : TE} {t : TA} {wm : WM} {wn : WN} {k l n : Nat} (h : SM K er W O ta wm) (h2 : SN K er W O t wn) : SS K er W O (tPar3 k l n (tCons ta t)) (wParM k [l, n] wm wn) := fun M mo J0 H0 Pr s σ J H f E D q kk he =>
  parM_go h h2 mo f q he fun v vs s2 J2 H2 hl f2 b2 q2 => by
    match vs, hl with
    | [w, u], _ => exact ⟨v, w, u, rfl, kk.nx _ _ _ _ f2 b2 q2⟩
end
/-! ### pairs -/
section
variable (K : PySem.W.Frag) (er : Ers) (W : WX) (O : Md → Prop) (X : Cx)
abbrev DR (e : Expr) (te : TE) (wr : WR) : Prop := PE X e te ∧ SR K te wr
abbrev DM (e : Expr) (te : TE) (wm : WM) : Prop := PE X e te ∧ SM K er W O te wm
abbrev DB (es : List Expr) (t : TA) (wb : WB) : Prop := PA X es t ∧ SB K er W O t wb
abbrev DKB (ks : List Keyword) (t : TA) (wb : WB) : Prop := PK X ks t ∧ SB K er W O t wb
end
section
variable {K : PySem.W.Frag} {er : Ers} {W : WX} {O O' : Md → Prop} {X : Cx} {e a b o i value tg elt iter : Expr} {es ls rest : List Expr} {ta tb tc te : TE} {wa wb wc we wy : WE} {wr wk : WR} {wm : WM} {bb bk : WB} {t tk : TA} {wl : WA} {wn : WN} {p p' p2 pos pos' tpos apos cpos : Pos} {x f : Str} {c : ClsD} {n k j l : Nat} {ks ps : List Str} {kws : List Keyword} {π : List Nat} {pre : List BV → Prop} {post : List BV → MV → List BV → Prop} {exc : List BV → Str → PyData → List BV → Prop} {st : Stmt} {CX : CXT}
theorem dr_var {i : Nat} (h : PE X e (tVar i)) : DR K X e (tVar i) (wrVar i) := ⟨h, sr_var⟩
theorem dr_int {z : Int} (h : PE X e (tC (.int z))) : DR K X e (tC (.int z)) (wrC (.int z)) := ⟨h, sr_c fun _ => .int z⟩
theorem dr_str {z : Str} (h : PE X e (tC (.str z))) : DR K X e (tC (.str z)) (wrC (.str z)) := ⟨h, sr_c fun _ => .str z⟩
theorem dr_fld (hK : X.K = K) (C : CF K c) (hn : c.fl[n]? = some x) (A : DR K X e ta wr) (hb : attributeBase e x X.env (eval e X.env) = eval e X.env := by rfl) : DR K X (.Attribute e x pos) (tFld K ta x) (wrFld c n wr) := by
  subst hK
  exact ⟨pe_fld A.1 hb, sr_fld C hn A.2⟩
theorem de_r (A : DR K X e te wr) : DE K er W O X e te (wR wr) := ⟨A.1, se_r A.2⟩
theorem dm_d (A : DE K er W O X e te we) : DM K er W O X e te (wmD we) := ⟨A.1, sm_d A.2⟩
theorem dm_dct : DM K er W O X (.Dict [] [] pos) tDNewK wmDct := ⟨pe_dnewK, sm_dct⟩
theorem dm_lst (A : DA K er W O X es t wl) : DM K er W O X (.List es pos) (tLst t) (wmLst wl) := ⟨pe_lst A.1, sm_lst A.2⟩
theorem de_m (A : DM K er W O X e te wm) : DE K er W O X e te (wM wm) := ⟨A.1, se_m A.2⟩
theorem db_nil : DB K er W O X [] tNil wbNil := ⟨pa_nil, sb_nil⟩
theorem db_cons (A : DE K er W O X e te we) (R : DB K er W O X es t bb) (hs : starEach (e :: es) X.env = (false, eval e X.env) :: starEach es X.env := by rfl) : DB K er W O X (e :: es) (tCons te t) (wbCons we bb) := ⟨pa_cons A.1 R.1 hs, sb_cons A.2 R.2⟩
theorem dkb_nil : DKB K er W O X [] tNil wbNil := ⟨pk_nil, sb_nil⟩
theorem dkb_cons {nm : Option Str} {kpos : Pos} (A : DE K er W O X e te we) (R : DKB K er W O X kws t bb) : DKB K er W O X (⟨nm, e, kpos⟩ :: kws) (tCons te t) (wbCons we bb) := ⟨pk_cons A.1 R.1, sb_cons A.2 R.2⟩
/-! calls -/
theorem dm_call (C : Ca5 X.prog X.w X.K X.mg X.base (L2.CX X.prog X.w) k x ps (spB K er O' pre post exc)) (hA : X.A.guards = some []) (hr : Room k X.A) (hx : ∀ σ, PassesAt (L2.CX X.prog X.w) X σ (L2.WE W σ)) (hO : ∀ M, O M → O' M) (A : DB K er W O X (e :: es) t bb) (hg : Gl X x := by rfl) (hdb : (x == ("__debug__" : Str)) = false := by decide)
    (he : starEach (e :: es) X.env = (false, eval e X.env) :: starEach es X.env := by rfl) (hpl : (backTo pos (starEach es X.env)).any (·.1) = false := by rfl) : DM K er W O X (.Call (.Name x p) (e :: es) [] pos) (tCallS (spB K er O' pre post exc) (L2.WE W) t) (wmCall pre post exc bb) := ⟨pe_callW C hA hr hx A.1 hg hdb he hpl, sm_call hO A.2⟩
theorem dm_callK (C : CaN X.prog X.w X.K X.mg X.base (L2.CX X.prog X.w) k x ps n ks π (spB K er O' pre post exc)) (hA : X.A.guards = some []) (hr : Room k X.A) (hx : ∀ σ, PassesAt (L2.CX X.prog X.w) X σ (L2.WE W σ)) (hO : ∀ M, O M → O' M) (A : DB K er W O X (e :: es) t bb) (B : DKB K er W O X kws tk bk) (hg : Gl X x := by rfl) (hdb : (x == ("__debug__" : Str)) = false := by decide)
    (hall : (backToKw pos (keywordEach kws X.env)).all (·.1.isSome) = true := by rfl) (hks : (backToKw pos (keywordEach kws X.env)).filterMap (·.1) = ks := by rfl) (he : starEach (e :: es) X.env = (false, eval e X.env) :: starEach es X.env := by rfl)
    (hpl : ((backTo pos (starEach (e :: es) X.env)).any (·.1) || (backToKw pos (keywordEach kws X.env)).any (·.1.isNone)) = false := by rfl) : DM K er W O X (.Call (.Name x p) (e :: es) kws pos) (tCallW (spB K er O' pre post exc) π n ks.length (L2.WE W) t tk) (wmCallK pre post exc π n ks.length bb bk) := ⟨pe_callWK C hA hr hx A.1 B.1 hg hdb hall hks he hpl, sm_callK hO A.2 B.2⟩
theorem dm_meth {m : Str} {pl : Sem Bool} (C0 : MthN X.prog X.w X.K X.mg X.base (L2.CX X.prog X.w) k c.ad m ps n ks π (spB K er O' pre post exc)) (hA : X.A.guards = some []) (hr : Room k X.A) (hx : ∀ σ, PassesAt (L2.CX X.prog X.w) X σ (L2.WE W σ)) (hO : ∀ M, O M → O' M) (hm : m ∉ c.fl) (R : DR K X o ta wr) (A : DB K er W O X (e :: es) t bb) (B : DKB K er W O X kws tk bk)
    (hall : (backToKw pos (keywordEach kws X.env)).all (·.1.isSome) = true := by rfl) (hks : (backToKw pos (keywordEach kws X.env)).filterMap (·.1) = ks := by rfl) (hst : starEach (e :: es) X.env = (false, eval e X.env) :: starEach es X.env := by rfl)
    (hpl : ((backTo pos (starEach (e :: es) X.env)).any (·.1) || (backToKw pos (keywordEach kws X.env)).any (·.1.isNone)) = false := by rfl)
    (ht : eval (.Call (.Attribute o m apos) (e :: es) kws pos) X.env = (do
      let ov ← eval o X.env
      standAt apos.atName
      let (f, first) ← holding [ov] (getMethod ov m pl)
      callWith pos f first (backTo pos (starEach (e :: es) X.env)) (backToKw pos (keywordEach kws X.env))) := by rfl) :
    DM K er W O X (.Call (.Attribute o m apos) (e :: es) kws pos) (tMethW c.ad m (spB K er O' pre post exc) π n ks.length (L2.WE W) ta t tk) (wmMeth c pre post exc π n ks.length wr bb bk) :=
  ⟨pe_methW (pl := pl) R.1 C0 hA hr hx A.1 B.1 hall hks hst hpl ht, sm_meth hO hm R.2 A.2 B.2⟩
theorem dm_meth0 {m : Str} {pl : Sem Bool} (C0 : MthN X.prog X.w X.K X.mg X.base (L2.CX X.prog X.w) k c.ad m ps 0 ks π (spB K er O' pre post exc)) (hA : X.A.guards = some []) (hr : Room k X.A) (hx : ∀ σ, PassesAt (L2.CX X.prog X.w) X σ (L2.WE W σ)) (hO : ∀ M, O M → O' M) (hm : m ∉ c.fl) (R : DR K X o ta wr) (B : DKB K er W O X kws tk bk)
    (hall : (backToKw pos (keywordEach kws X.env)).all (·.1.isSome) = true := by rfl) (hks : (backToKw pos (keywordEach kws X.env)).filterMap (·.1) = ks := by rfl)
    (hpl : ((backTo pos (starEach [] X.env)).any (·.1) || (backToKw pos (keywordEach kws X.env)).any (·.1.isNone)) = false := by rfl)
    (ht : eval (.Call (.Attribute o m apos) [] kws pos) X.env = (do
      let ov ← eval o X.env
      standAt apos.atName
      let (f, first) ← holding [ov] (getMethod ov m pl)
      callWith pos f first (backTo pos (starEach [] X.env)) (backToKw pos (keywordEach kws X.env))) := by rfl) :
    DM K er W O X (.Call (.Attribute o m apos) [] kws pos) (tMethW c.ad m (spB K er O' pre post exc) π 0 ks.length (L2.WE W) ta tNil tk) (wmMeth c pre post exc π 0 ks.length wr wbNil bk) :=
  ⟨pe_methW0 (pl := pl) R.1 C0 hA hr hx B.1 hall hks hpl ht, sm_meth hO hm R.2 sb_nil B.2⟩
theorem dm_make (C0 : MkN X.prog X.w X.K X.mg X.base (L2.CX X.prog X.w) k x c.ad ps (spB K er O' pre post exc)) (hA : X.A.guards = some []) (hr : Room (k + 1) X.A) (hx : ∀ σ, PassesAt (L2.CX X.prog X.w) X σ (L2.WE W σ)) (hO : ∀ M, O M → O' M) (nd : c.fl.Nodup) (A : DB K er W O X (e :: es) t bb) (hg : Gl X x := by rfl) (hdb : (x == ("__debug__" : Str)) = false := by decide)
    (he : starEach (e :: es) X.env = (false, eval e X.env) :: starEach es X.env := by rfl) (hpl : (backTo pos (starEach es X.env)).any (·.1) = false := by rfl) : DM K er W O X (.Call (.Name x p) (e :: es) [] pos) (tMakeW c.ad (spB K er O' pre post exc) (L2.WE W) t) (wmMake c pre post exc bb) := ⟨pe_makeW C0 hA hr hx A.1 hg hdb he hpl, sm_make hO nd A.2⟩
theorem dm_make0 (C0 : MkN X.prog X.w X.K X.mg X.base (L2.CX X.prog X.w) k x c.ad ps (spB K er O' pre post exc)) (hA : X.A.guards = some []) (hr : Room (k + 1) X.A) (hx : ∀ σ, PassesAt (L2.CX X.prog X.w) X σ (L2.WE W σ)) (hO : ∀ M, O M → O' M) (nd : c.fl.Nodup) (hg : Gl X x := by rfl) (hdb : (x == ("__debug__" : Str)) = false := by decide) :
    DM K er W O X (.Call (.Name x p) [] [] pos) (tMakeW c.ad (spB K er O' pre post exc) (L2.WE W) tNil) (wmMake c pre post exc wbNil) := ⟨pe_makeW0 C0 hA hr hx hg hdb, sm_make hO nd sb_nil⟩
/-! dicts, sets -/
theorem de_dget (hu : X.A.units + 1 < cLine) (A : DR K X o ta wr) (B : DE K er W O X i tb wy) (hs : NoSl i := by exact fun _ _ => rfl) : DE K er W O X (.Subscript o i pos) (tDGet ta tb) (wDGet wr wy) := ⟨pe_dget hu A.1 B.1 hs, se_dget A.2 B.2⟩
theorem de_din (hu : X.A.units + 1 < cLine) (B : DE K er W O X i tb wy) (A : DR K X o ta wr) (h1 : behindInMarks .In o = false := by first | exact nobehind _ (by decide) (by decide) | rfl) : DE K er W O X (.Compare i [.In] [o] pos) (tDIn tb ta) (wDIn false wy wr) := ⟨pe_cmp (pc_din hu B.1 A.1) h1, se_din B.2 A.2⟩
theorem de_dni (hu : X.A.units + 1 < cLine) (B : DE K er W O X i tb wy) (A : DR K X o ta wr) (h1 : behindInMarks .NotIn o = false := by first | exact nobehind _ (by decide) (by decide) | rfl) : DE K er W O X (.Compare i [.NotIn] [o] pos) (tDNotIn tb ta) (wDIn true wy wr) := ⟨pe_cmp (pc_dnotin hu B.1 A.1) h1, se_dni B.2 A.2⟩
theorem de_dvals (hc : X.calm = true) (hm : X.mg "list" = none) (A : DR K X e ta wr) (hg : Gl X "list" := by rfl) (hbase : attributeBase e "values" X.env (eval e X.env) = eval e X.env := by rfl) (hline : (apos.endLine == cpos.line) = true := by rfl)
    (hs : starEach [.Call (.Attribute e "values" apos) [] [] cpos] X.env = (false, eval (.Call (.Attribute e "values" apos) [] [] cpos) X.env) :: starEach [] X.env := by rfl) :
    DE K er W O X (.Call (.Name "list" p) [.Call (.Attribute e "values" apos) [] [] cpos] [] pos) (tListVals ta) (wDVals wr) := ⟨pe_listVals hc A.1 hg hm rfl hbase hline hs, se_dvals A.2⟩
theorem de_sset (hK : X.K = K) (hc : X.calm = true) (hm1 : X.mg "sorted" = none) (hm2 : X.mg "set" = none) (A : DE K er W O X a ta wa) (hg1 : Gl X "sorted" := by rfl) (hg2 : Gl X "set" := by rfl) (he : starEach [a] X.env = (false, eval a X.env) :: starEach [] X.env := by rfl) (hpl : (backTo p2 (starEach [] X.env)).any (·.1) = false := by rfl)
    (he2 : starEach [.Call (.Name "set" p') [a] [] p2] X.env = (false, eval (.Call (.Name "set" p') [a] [] p2) X.env) :: starEach [] X.env := by rfl) (hpl2 : (backTo pos (starEach [] X.env)).any (·.1) = false := by rfl) :
    DE K er W O X (.Call (.Name "sorted" p) [.Call (.Name "set" p') [a] [] p2] [] pos) (tCB (rSortedSet X.w) (tCons (tCB (rSetI K X.w) (tCons ta tNil)) tNil)) (wUn gSSet wa) := by
  subst hK
  exact ⟨xB _ (cr_sortedSet hc) hm1 (pa_cons (xT _ (cr_setI hc) hm2 (pa_cons A.1 pa_nil he) hg2 (by decide +kernel) (by decide) (by decide) he hpl) pa_nil he2) hg1 (by decide +kernel) (by decide) (by decide) he2 hpl2, se_sset A.2⟩
theorem de_lcItems {ifs : List Expr} {scope : Scope} {own : List (Str × Nat)} {elts : List Expr} {kk : Nat} {g : TG} {wg : WG} {tt : TT} {wt : WT} (hc : X.calm = true) (hN : X.N.Nodup) (A : DR K X o ta wr) (ok : BlkOk X.N X.env.scope scope own) (tin : Tin (own.map (·.2)) g)
    (hg : ∀ (s : Shared) (H : Hp) (C : Addr) (cl : List (Str × Addr)) (fp : List Addr), DG K (X.blk s H scope (compEnvC scope cl C X.env) fp) (.Tuple elts kk tpos) g wg) (ht : ∀ (s : Shared) (H : Hp) (C : Addr) (cl : List (Str × Addr)) (fp : List Addr), DTs K er W0 O (X.blk s H scope (compEnvC scope cl C X.env) fp) ifs tt wt)
    (he : ∀ (s : Shared) (H : Hp) (C : Addr) (cl : List (Str × Addr)) (fp : List Addr), DE K er W0 O (X.blk s H scope (compEnvC scope cl C X.env) fp) elt te we) (hbase : attributeBase o "items" X.env (eval o X.env) = eval o X.env := by rfl) (hline : (apos.endLine == cpos.line) = true := by rfl) (hs : ∀ x, foldedSetIterable (.Call (.Attribute o "items" apos) [] [] cpos) X.env x = pure x := by intro _; rfl) :
    DE K er W O X (.ListComp elt [⟨.Tuple elts kk tpos, .Call (.Attribute o "items" apos) [] [] cpos, ifs, 0⟩] scope pos) (tLockE (tLc (iMd3 .items ta) g tt te (own.map (·.2)))) (wLcD .items wr wg wt we (own.map (·.2))) :=
  ⟨pe_lock (pe_lc hc hN (pi_items A.1 hbase hline) ok (fun s H C cl fp => (hg s H C cl fp).1) (fun s H C cl fp => (ht s H C cl fp).1) (fun s H C cl fp => (he s H C cl fp).1) hs),
    se_lcD A.2 (hg {} (fun _ => none) 0 [] []).2 tin (ht {} (fun _ => none) 0 [] []).2 (he {} (fun _ => none) 0 [] []).2⟩
/-! statements -/
theorem ds_setM {i : Nat} (hN : X.N.Nodup) (hi : X.N[i]? = some x) (hx : Loc X.env.scope x) (A : DM K er W O X e te wm) (hs : swapsWith e (some (.Name x p)) pos.line X.env = pure false := by rfl) (hf : X.fn x = true ∨ X.env.scope.names.lookup x = some .local := by first | exact .inl rfl | exact .inr rfl) :
    DS K er W O X (.Assign [.Name x p] e pos) (tAsg te (gName i)) (wSetM i wm) := ⟨(ds_set (K := K) (er := er) (W := W) (O := O) (we := fun _ _ _ => False) hN hi hx ⟨A.1, fun _ _ _ _ _ _ _ _ _ _ _ _ q => q.elim⟩ hs hf).1, ss_setM A.2⟩
theorem ds_fld (hK : X.K = K) (C : CF K c) (hn : c.fl[n]? = some x) (A : DR K X o ta wr) (B : DM K er W O X value tb wm) (hs : swapsWith value (some (.Attribute o x pos')) pos.line X.env = pure false := by rfl) : DS K er W O X (.Assign [.Attribute o x pos'] value pos) (sFld K ta tb x) (wFld c n wr wm) := by
  subst hK
  exact ⟨ps_fld A.1 B.1 hs, ss_fld C hn B.2 A.2⟩
theorem ds_fldaug {op : Operator} {rd : V → V → Hp → VK → Prop} {g : G2} (hK : X.K = K) (C : CF K c) (hn : c.fl[n]? = some x) (hop : InOp X op rd) (og : OpS K rd g) (A : DR K X o ta wr) (B : DE K er W O X value tb we) (h : PE X o ta → PE X value tb → PS X (.AugAssign (.Attribute o x tpos) op value pos) (sFldAug X.K ta tb rd x)) : DS K er W O X (.AugAssign (.Attribute o x tpos) op value pos) (sFldAug K ta tb rd x) (wFldAug c n g wr we) := by
  subst hK
  exact ⟨h A.1 B.1, ss_fldaug og C hn A.2 B.2⟩
theorem ds_dput (hu : X.A.units + 1 < cLine) (A : DR K X o ta wr) (I : DR K X i tb wk) (B : DM K er W O X value tc wm) (hs : swapsWith value (some (.Subscript o i pos')) pos.line X.env = pure false := by rfl) : DS K er W O X (.Assign [.Subscript o i pos'] value pos) (sDPut ta tb tc) (wDPut wr wk wm) := ⟨ps_dput hu A.1 I.1 B.1 hs, ss_dput B.2 A.2 I.2⟩
theorem ds_ddel (A : DR K X o ta wr) (I : DR K X i tb wk) : DS K er W O X (.Delete [.Subscript o i tpos] pos) (sDDel ta tb) (wDDel wr wk) := ⟨ps_ddel A.1 I.1, ss_ddel A.2 I.2⟩
theorem ds_parM3 (h : PA X (e :: es) (tCons te t) → PS X st (tPar3 j k l (tCons te t))) (A : DM K er W O X e te wm) (R : DN K er W O X es t wn) (hs : starEach (e :: es) X.env = (false, eval e X.env) :: starEach es X.env := by rfl) : DS K er W O X st (tPar3 j k l (tCons te t)) (wParM j [k, l] wm wn) := ⟨h (pa_cons A.1 R.1 hs), ss_parM3 A.2 R.2⟩
theorem ds_parM2 (h : PA X (e :: es) (tCons te t) → PS X st (tPar j k (tCons te t))) (A : DM K er W O X e te wm) (R : DN K er W O X es t wn) (hs : starEach (e :: es) X.env = (false, eval e X.env) :: starEach es X.env := by rfl) : DS K er W O X st (tPar j k (tCons te t)) (wParM j [k] wm wn) := ⟨h (pa_cons A.1 R.1 hs), ss_parM2 A.2 R.2⟩
/-! try -/
abbrev DHd (K : PySem.W.Frag) (er : Ers) (O : Md → Prop) (X : Cx) (hds : List ExceptHandler) (l : List Cls3) (hs : List HW) : Prop := HdsN X hds l ∧ HdR K er O l hs
theorem dh_nil : DHd K er O X [] [] [] := ⟨.nil, .nil⟩
theorem dh_cons {nm : Str} {cv : Value} {ts : Addr → Value → Option Addr → TS} {h : HW} {b : Stmt} {bs : List Stmt} {hds : List ExceptHandler} {l : List Cls3} {hs : List HW} (hc : Names X x cv) (hi : X.N[h.i]? = some nm) (hl : X.env.kindOf nm = some .local) (rows : ∀ r ∈ h.rows, PySem.W.exmOne K (.ref (er.cl r.1)) cv = some r.2)
    (su : ∀ (a : Addr) (oe : Obj) (cls : Value) (d : Option Addr) (pn : List (Addr × Obj)) (dx : Addr), Zc cls d oe → (∃ vs, oe.data = .fields vs) → DSs K er W0 O (X.suite a ((a, oe) :: pn)) (b :: bs) (ts a cls d) (h.wh a dx cls d)) (R : DHd K er O X hds l hs) :
    DHd K er O X (.ExceptHandler (some (.Name x p)) (some nm) (b :: bs) p' :: hds) ((cv, h.i, ts) :: l) (h :: hs) :=
  ⟨.cons hc hi hl (fun a oe cls d pn hz hf => (su a oe cls d pn 0 hz hf).1) R.1, .cons rows (fun a cls d dx => (su a ⟨cls, d, .fields #[], #[]⟩ cls d [] dx ⟨rfl, rfl⟩ ⟨_, rfl⟩).2) R.2⟩
theorem ds_try {body : List Stmt} {h0 : ExceptHandler} {hds : List ExceptHandler} {l : List Cls3} {hs : List HW} {tb : WX → TS} {ws : WS} (hK : X.K = K) (h1 : X.stack = X.env :: X.outer) (h2 : X.env.frame = some X.env.locals) (nd : X.N.Nodup) (tk : Takes X W)
    (hb : ∀ (W : WX) (pn : List (Addr × Obj)) (xe : Value → Shared → Prop), Takes (X.tr pn xe) W → DSs K er W O (X.tr pn xe) body (tb W) ws) (H : DHd K er O X (h0 :: hds) l hs) :
    DS K er W O X (.Try body (h0 :: hds) [] [] pos) (fun D σ H => tb (wNamed K W D l) D σ H) (wTry er ws hs) := by
  subst hK
  exact ⟨ps_try_named h1 h2 nd tk (fun W pn xe tk _ => (hb W pn xe tk).1) H.1, ss_try (fun W => (hb W [] (fun _ _ => True) (fun _ _ _ => True.intro)).2) H.2⟩
theorem os_rAdd : OpS K rAdd gAddI := fun M J H x y dx dy w ax ay P hg Q q => by
  unfold gAddI at hg; split at hg
  · exact ⟨_, _, dq_int ax, dq_int ay, q _ _ J H w.tr hg (.int _)⟩
  · exact hg.elim
theorem de_xf {a C : Addr} {oe : Obj} {cls : Value} {d : Option Addr} {pn : List (Addr × Obj)} {nm : Str} {i : Nat} {dx : Addr} (hK : X.K = K) (T : XfC X.K C) (hno : PySem.W.findIn X.K (.ref C) nm = some none) (hz : Zc cls d oe) (hf : ∃ vs, oe.data = .fields vs) (he : PE (X.suite a ((a, oe) :: pn)) e (tVar i)) (hb : attributeBase e nm X.env (eval e X.env) = eval e X.env := by rfl) :
    DE K er W O (X.suite a ((a, oe) :: pn)) (.Attribute e nm pos) (tXf a cls d C nm (tVar i)) (wXf a dx cls d C i nm) := ⟨pe_xf T hno hz hf he hb, se_xf⟩
theorem de_isX {a C : Addr} {oe : Obj} {cls cv : Value} {d : Option Addr} {pn : List (Addr × Obj)} {i : Nat} {dx : Addr} {c : V} {bo : Bool} {e2 : Expr} (hK : X.K = K) (hC : L2.ExcC K C) (hcv : ∀ u, RelV c u → u = cv) (hk : PySem.W.kitOne K (.ref C) cv = some bo) (hz : Zc cls d oe) (hf : ∃ vs, oe.data = .fields vs) (hm : X.mg "isinstance" = none) (he : PE (X.suite a ((a, oe) :: pn)) e (tVar i)) (he2 : PE (X.suite a ((a, oe) :: pn)) e2 (tC c)) (hg : Gl (X.suite a ((a, oe) :: pn)) "isinstance" := by rfl)
    (s1 : starEach [e, e2] X.env = (false, eval e X.env) :: starEach [e2] X.env := by rfl) (s2 : starEach [e2] X.env = (false, eval e2 X.env) :: starEach [] X.env := by rfl) (hpl : (backTo pos (starEach [e2] X.env)).any (·.1) = false := by rfl) :
    DE K er W O (X.suite a ((a, oe) :: pn)) (.Call (.Name "isinstance" p) [e, e2] [] pos) (tCB (rIsA K cls d a) (tCons (tVar i) (tCons (tC c) tNil))) (wIsX a dx cls d C i bo) := by
  subst hK
  exact ⟨xB (X := X.suite a ((a, oe) :: pn)) (rIsA _ _ _ _) (call_isA hz hf) hm (pa_cons he (pa_cons he2 pa_nil s2) s1) hg (by decide +kernel) (by decide) (by decide) s1 hpl, se_isX hC hcv hk⟩
end
end DW

/-! Calls where something is handled: of defs that raise nothing. -/
namespace DW
open PySem PySem.Spec
open PyProof.Rows L2 DL
/-- room, whatever is handled -/
structure RoomQ (k : Nat) (A : Around) : Prop where
  dp : A.depth + 3 * k + 5 < recursionLimit
  un : A.units + 16 * k + 200 < cLine
theorem RoomQ.deeper {k : Nat} {A : Around} (r : RoomQ (k + 1) A) (env : Env) : RoomQ k (A.deeper env) :=
  ⟨by have := r.dp; show A.depth + 1 + 3 * k + 5 < _; omega, by have := r.un; show A.units + 3 + 16 * k + 200 < _; omega⟩
theorem RoomQ.depth {k : Nat} {A : Around} (r : RoomQ k A) : A.depth < recursionLimit := by have := r.dp; omega
theorem roomQ {j k : Nat} {A : Around} {a : Addr} (r : Room k A) (h : j ≤ k) : RoomQ j (A.mark (some (.ref a))) := ⟨by have := r.dp; show A.depth + _ + 5 < _; omega, by have := r.un; show A.units + _ + 200 < _; omega⟩
structure FnQ (P : Program) (w : World) (K : PySem.W.Frag) (mg : Str → Option Value) (base : Heap) (CX : CXT) (k : Nat) (f : Addr) (fd : FuncData) (ps : List Str) (sp : Sp) : Prop where
  siz : ∀ vs H Q E, sp vs H Q E → vs.length = ps.length
  go : ∀ (A : Around) (out : List Env) (s : Shared) (H : Hp) (ar : Args) (us : List Value) (vs : List V) (Q : VK) (E : XK), A.guards = some [] → RoomQ k A → Env0 P w K mg base A out s H → BindsTo s fd ar (ps.zip us) → Vals vs us → sp vs H Q E → codeAny (model P w) A (.call (.ref f) ar) (CR CX out P w H s Q E) s
def cxQ (CX : CXT) (P : Program) (w : World) (K : PySem.W.Frag) (mg : Str → Option Value) (base : Heap) (N : List Str) (qual : Str) (scope : Scope) (f : Addr) (cd : Value) (A : Around) (out : List Env) (s : Shared) (H : Hp) (E : XK) : Cx := { cxOf CX P w K mg base N qual scope f cd A out s H E with calm := false }
section
variable {P : Program} {w : World} {K : PySem.W.Frag} {mg : Str → Option Value} {base : Heap} {CX : CXT} {k : Nat} {f : Addr} {fd : FuncData} {ps : List Str} {sp : Sp}
theorem inv_q {N : List Str} {qual : Str} {scope : Scope} {cd : Value} {A : Around} {outer : List Env} {s s1 : Shared} {H : Hp} {E : XK} {us : List Value} {vs : List V} (S : FnScope N ps scope) (e0 : Env0 P w K mg base A outer s H) (hl : vs.length = ps.length) (r : Vals vs us)
    (x : InCallC s s.heap.objs.size (bindL (envOfC qual scope s.heap.objs.size f cd).kindOf (ps.zip us) fun _ => none) (cellsFrom (s.heap.objs.size + 1) scope.names []) (bindC (envOfC qual scope s.heap.objs.size f cd).kindOf (ps.zip us) fun _ => none) s1) :
    Inv (cxQ CX P w K mg base N qual scope f cd A outer s H E) [] (start N vs) H s1 := by
  have e1 : Env0 P w K mg base { A with handled := none } outer s H := ⟨e0.frames, e0.mod, e0.bs, e0.bsz, e0.funs, e0.frf, e0.hok, e0.bare⟩
  have I := inv_start (CX := CX) (E := E) S rfl e1 hl r x
  have o := I.ok
  exact ⟨⟨o.mod, o.kind, o.glob, o.blt, o.above, o.inj, o.has, o.cab, (fun z => nomatch z), o.frames, o.stk, o.exf, o.bs, o.bsz, o.noex, o.exfs, o.funs, o.frf⟩, I.os, I.bare, I.base, I.loc, I.cell, I.free, I.freeC, I.pin, I.hok, I.len⟩
theorem fn_q {x qual : Str} {params : Arguments} {body : List Stmt} {scope : Scope} {dvs : List V} {kws : List (Str × V)} {N : List Str} (F : FunD K x qual params body scope dvs kws f fd) (S : FnScope N ps scope) (len : ∀ vs H Q E, sp vs H Q E → vs.length = ps.length)
    (hb : ∀ (cdv : Value) (A : Around) (out : List Env) (s : Shared) (H : Hp) (vs : List V) (Q : VK) (E : XK), A.guards = some [] → RoomQ k (A.deeper (envOfC qual scope s.heap.objs.size f cdv)) → sp vs H Q E →
      ∃ t, PSs (cxQ CX P w K mg base N qual scope f cdv A out s H E) body t ∧ t { nx := fun _ H' => Q .non H', rt := Q } (start N vs) H) : FnQ P w K mg base CX (k + 1) f fd ps sp := by
  obtain ⟨oc, od, dV, kV, doc, pm, an, cdv, ct, osl, e, lk, hcd, _, _⟩ := F.ex
  subst e
  refine ⟨len, fun A out s H ar us vs Q E g hr e0 bd r hsp => ?_⟩
  have KX : K.In s.heap := e0.mod.kin.keeps fun b o q => (e0.bs b o q).1
  have nl : s.heap.NoLimit := e0.mod.nolimit.keeps fun b o q => (e0.bs b o q).1
  have nk : ∀ y ∈ ps.zip us, scope.names.lookup y.1 = some .local ∨ (scope.names.lookup y.1 = some .cell ∧ ((cellsFrom (s.heap.objs.size + 1) scope.names []).lookup y.1).isSome = true) := by
    rintro ⟨n, v⟩ hy
    exact (S.par n (List.of_mem_zip hy).1).imp id fun q => ⟨q, PySem.W.cellsFrom_some _ _ _ (.inl q)⟩
  refine codeAny_call_function hr.depth (KX _ _ lk) rfl S.co S.gen rfl (PySem.W.codeRec_of KX hcd) (bd _ _ _ _ (wpAny_newFunctionEnv_cells S.kind nk fun env he s1 x => ?_))
  cases he
  refine ⟨nl.keeps x.toInCall.keep, codeAny_func ?_⟩
  obtain ⟨t, ht, hq⟩ := hb cdv A out s H vs Q E g (hr.deeper _) hsp
  refine wpAny_mono (ht.run [] s1 (start N vs) H _ (inv_q S e0 (len _ _ _ _ hsp) r x) hq) (fun fl s' hs => ?_) fun _ _ z => z
  cases fl with
  | ret u => obtain ⟨v, σ', H', I, rv, q⟩ := hs; exact ⟨v, H', I.os, I.bare, I.base, I.hok, rv, q⟩
  | next => obtain ⟨σ', H', I, q⟩ := hs; exact ⟨V.non, H', I.os, I.bare, I.base, I.hok, rfl, q⟩
  | brk => exact hs.elim fun _ h => h.elim fun _ h => h.2.elim
  | cont => exact hs.elim fun _ h => h.elim fun _ h => h.2.elim
end
section
variable {P : Program} {w : World} {K : PySem.W.Frag} {mg : Str → Option Value} {base : Heap} {CX : CXT} {k : Nat} {f : Addr} {fd : FuncData} {ps : List Str} {x qual : Str} {params : Arguments} {body : List Stmt} {scope : Scope} {N : List Str} {er : Ers} {O : Md → Prop} {pre : List AV → Prop} {post : List AV → PyData → Prop} {exc : List AV → Str → PyData → Prop} {ws : WS}
/-- such a def by what it is in data -/
theorem fn_wQ (F : FunD K x qual params body scope [] [] f fd) (S : FnScope N ps scope) (hl : ∀ as, pre as → as.length = ps.length) (hN : ps.length ≤ N.length)
    (der : ∀ (cdv : Value) (A : Around) (out : List Env) (s : Shared) (H : Hp) (E : XK), A.guards = some [] → RoomQ k (A.deeper (envOfC qual scope s.heap.objs.size f cdv)) → ∃ t, PSs (cxQ CX P w K mg base N qual scope f cdv A out s H E) body t ∧ SS K er (fun c d _ H => E c d H) O t ws)
    (go : ∀ as, pre as → ws (startS N.length as) { nx := fun _ => post as .none, rt := fun d _ => post as d, bk := fun _ => False, ct := fun _ => False, er := fun c x _ => exc as c x }) : FnQ P w K mg base CX (k + 1) f fd ps (spU K er O pre post exc) := by
  refine fn_q F S (fun vs H Q E h => ?_) fun cdv A out s H vs Q E hG hr h => ?_
  · obtain ⟨M, J, as, _, _, a, hp, _⟩ := h
    rw [avs_len a]; exact hl as hp
  · obtain ⟨M, J, as, mo, wf, a, hp, q, qe⟩ := h
    obtain ⟨t, ht, hs⟩ := der cdv A out s H E hG hr
    refine ⟨t, ht, ?_⟩
    have la := hl as hp
    have f0 := fr_start (N := N) wf a (by omega) rfl
    exact hs M mo J H [] _ _ J H f0 _ _ (go as hp) ⟨fun s' σ' J' H' f' _ z => q _ _ _ _ f'.tr z .non, fun v d s' σ' J' H' f' _ z a' => q v d _ _ f'.tr z a', fun _ _ _ _ _ _ z => z.elim, fun _ _ _ _ _ _ z => z.elim⟩
      fun c x s' σ' dx v J' H' f' z hx a' nn => qe c x dx v J' H' f'.tr z hx a' nn
end
structure Ca5Q (P : Program) (w : World) (K : PySem.W.Frag) (mg : Str → Option Value) (base : Heap) (CX : CXT) (k : Nat) (x : Str) (ps : List Str) (sp : Sp) : Prop where
  has : ∃ f fd, FnQ P w K mg base CX k f fd ps sp ∧ mg x = some (.ref f) ∧ PySem.W.keepIn K (.ref f) = true ∧ Binds K fd ps []
section
variable {X : Cx} {CX : CXT} {k n : Nat} {f : Addr} {fd : FuncData} {ps ks : List Str} {sp : Sp} {E : L2.St → XK} {x : Str} {p pos : Pos} {e : Expr} {es : List Expr} {t tk : TA}
theorem go_wQ {pins : List (Addr × Obj)} {σ : L2.St} {H : Hp} {s : Shared} {Q : VK} {ar : Args} {us : List Value} {vs : List V} (F : FnQ X.prog X.w X.K X.mg X.base CX k f fd ps sp) (hg : X.A.guards = some []) (hr : RoomQ k X.A) (hx : PassesAt CX X σ (E σ)) (I : Inv X pins σ H s)
    (hb : BindsTo s fd ar (ps.zip us)) (r : Vals vs us) (h : sp vs H Q (E σ)) : wpAny (model X.prog X.w) X.A (PySem.call (.ref f) ar.pos ar.kw) (EP X pins σ Q) X.xe s := by
  refine wpAny_call (codeAny_mono (F.go X.A X.stack s H ar us vs Q (E σ) hg hr I.env0 hb r h) fun r s' hq => ?_)
  cases r with
  | error e => exact hx pins H s e s' I hq
  | ok fl =>
    cases fl with
    | ret u => exact I.after hq
    | next => exact False.elim hq
    | brk => exact False.elim hq
    | cont => exact False.elim hq
theorem pe_callWQ (C : Ca5Q X.prog X.w X.K X.mg X.base CX k x ps sp) (hA : X.A.guards = some []) (hr : RoomQ k X.A) (hx : ∀ σ, PassesAt CX X σ (E σ)) (ha : PA X (e :: es) t) (hg : Gl X x := by rfl) (hdb : (x == ("__debug__" : Str)) = false := by decide)
    (he : starEach (e :: es) X.env = (false, eval e X.env) :: starEach es X.env := by rfl) (hpl : (backTo pos (starEach es X.env)).any (·.1) = false := by rfl) : PE X (.Call (.Name x p) (e :: es) [] pos) (tCallS sp E t) := by
  obtain ⟨f, fd, F, hm, hk, hb⟩ := C.has
  refine ⟨fun pins s σ H Q I h => wpAny_Call_Name_kw (ld_glob I hg hm ?_ hdb)⟩
  refine PySem.W.callWith_K (h₀ := X.base) I.ok.mod.kin hk (thn (ha.run pos pins s σ H _ I h) fun us s1 ⟨vs, H1, I1, r, q⟩ => ⟨I1.kIn, ?_⟩) he hpl
  have b := hb s1 us I1.kIn (by rw [List.append_nil]; exact r.length.symm.trans (F.siz _ _ _ _ q))
  rw [List.append_nil] at b
  exact go_wQ (ar := ⟨us, []⟩) F hA hr (hx σ) I1 b r q
end
theorem de_callQ {K : PySem.W.Frag} {er : Ers} {W : WX} {O O' : Md → Prop} {X : Cx} {k : Nat} {x : Str} {ps : List Str} {p pos : Pos} {e : Expr} {es : List Expr} {t : TA} {wu : WU} {pre : List AV → Prop} {post : List AV → PyData → Prop} {exc : List AV → Str → PyData → Prop}
    (C : Ca5Q X.prog X.w X.K X.mg X.base (L2.CX X.prog X.w) k x ps (spU K er O' pre post exc)) (hA : X.A.guards = some []) (hr : RoomQ k X.A) (hx : ∀ σ, PassesAt (L2.CX X.prog X.w) X σ (L2.WE W σ)) (hO : ∀ M, O M → O' M) (A : DU K er W O X (e :: es) t wu) (hg : Gl X x := by rfl) (hdb : (x == ("__debug__" : Str)) = false := by decide)
    (he : starEach (e :: es) X.env = (false, eval e X.env) :: starEach es X.env := by rfl) (hpl : (backTo pos (starEach es X.env)).any (·.1) = false := by rfl) : DE K er W O X (.Call (.Name x p) (e :: es) [] pos) (tCallS (spU K er O' pre post exc) (L2.WE W) t) (wCall pre post exc wu) := ⟨pe_callWQ C hA hr hx A.1 hg hdb he hpl, se_call hO A.2⟩
end DW

/-! Lists of one's own that are lent and read, and go on growing. -/
namespace DW
open PySem PySem.Spec
open PyProof.Rows L2 DL
section
variable {K : PySem.W.Frag} {M : Md} {J0 H0 J H J1 H1 : Hp} {Pr : List (Addr × HO)} {s : Sl} {σ : L2.St} {v : V} {x y : SV} {i k : Nat} {p : Addr}
theorem Fr.relab (f : Fr K M J0 H0 Pr s σ J H) (e : s[k]? = some (some x)) (hv : σ[k]? = some (some v)) (h : Vs K M H0 J H v y) (hf : fpS y v = fpS x v) : Fr K M J0 H0 Pr (s.set k (some y)) σ J H := by
  have old : ∀ {i : Nat} {x' : SV} {u : V}, (s.set k (some y))[i]? = some (some x') → σ[i]? = some (some u) → ∃ x0, s[i]? = some (some x0) ∧ fpS x' u = fpS x0 u := fun {i x' u} e1 e2 => by
    rcases set_get e1 with ⟨rfl, e'⟩ | ⟨n, e'⟩
    · cases e'
      rw [hv] at e2; cases e2
      exact ⟨_, e, hf⟩
    · exact ⟨_, e', rfl⟩
  refine ⟨f.w0, f.tr, by simp [f.len], fun i x' e1 => ?_, fun i j x' y' u w p e1 e2 e3 e4 q1 q2 => ?_, fun q hq => ?_, f.pn⟩
  · rcases set_get e1 with ⟨rfl, e'⟩ | ⟨n, e'⟩
    · cases e'; exact ⟨v, hv, h⟩
    · exact f.at_ i x' e'
  · obtain ⟨x0, a1, a2⟩ := old e1 e3
    obtain ⟨y0, b1, b2⟩ := old e2 e4
    rw [a2] at q1; rw [b2] at q2
    exact f.sep i j x0 y0 u w p a1 b1 e3 e4 q1 q2
  · obtain ⟨h1, h2, h3, h4, h5⟩ := f.prt q hq
    refine ⟨h1, h2, h3, h4, fun i x' u e1 e2 => ?_⟩
    obtain ⟨x0, a1, a2⟩ := old e1 e2
    rw [a2]
    exact h5 i x0 u a1 e2
theorem Fr.asM {xs : List PyData} (f : Fr K M J0 H0 Pr s σ J H) (e : s[k]? = some (some (.own xs))) : ∃ p, Fr K M J0 H0 Pr (s.set k (some (.mv (.nd p .lst (xs.map .d))))) σ J H := by
  obtain ⟨v, hv, p, vs, rfl, h1, h2, h3, h4⟩ := f.at_ k _ e
  have ef : fpM (.nd p .lst (xs.map .d)) = [p] := fpM_dat rfl
  refine ⟨p, f.relab e hv (y := .mv (.nd p .lst (xs.map .d))) ⟨.nd h1 True.intro True.intro (ows_das h2), by rw [ef]; exact List.nodup_cons.mpr ⟨List.not_mem_nil, List.nodup_nil⟩, fun a q => ?_⟩ ef⟩
  rw [ef] at q
  rcases List.mem_singleton.mp q with rfl
  exact ⟨h3, h4⟩
theorem Fr.asO {xs : List PyData} (f : Fr K M J0 H0 Pr s σ J H) (e : s[k]? = some (some (.mv (.nd p .lst (xs.map .d))))) : Fr K M J0 H0 Pr (s.set k (some (.own xs))) σ J H := by
  obtain ⟨v, hv, h1, h2, h3⟩ := f.at_ k _ e
  have ef : fpM (.nd p .lst (xs.map .d)) = [p] := fpM_dat rfl
  rw [ef] at h3
  cases h1 with
  | nd a b c d =>
    obtain ⟨g1, g2⟩ := h3 p (List.mem_singleton.mpr rfl)
    exact f.relab e hv (y := .own xs) ⟨p, _, rfl, a, das_ows d, g1, g2⟩ ef.symm
end
/-- while ws is done the k-th slot's own list stands as a thing that may be lent -/
def wAsM (k : Nat) (ws : WS) (s : Sl) (E : EW) : Prop := match s[k]? with
  | some (some (.own xs)) => ∀ p, ws (s.set k (some (.mv (.nd p .lst (xs.map .d))))) { E with nx := fun s1 => match s1[k]? with
    | some (some (.mv (.nd _ .lst ms))) => (match allD ms with
      | some ys => E.nx (s1.set k (some (.own ys)))
      | none => False)
    | _ => False }
  | _ => False
section
variable {K : PySem.W.Frag} {er : Ers} {W : WX} {O : Md → Prop} {ts : TS} {ws : WS} {k : Nat} {X : Cx} {st : Stmt}
theorem ss_asM (h : SS K er W O ts ws) : SS K er W O ts (wAsM k ws) := fun M mo J0 H0 Pr s σ J H f E D q kk he => by
  unfold wAsM at q
  split at q
  · rename_i xs e
    obtain ⟨p, f1⟩ := f.asM e
    refine h M mo J0 H0 Pr _ σ J H f1 _ D (q p) ⟨fun s2 σ2 J2 H2 f2 b2 q2 => ?_, kk.rt, kk.bk, kk.ct⟩ he
    dsimp only at q2
    split at q2
    · rename_i p2 ms e2
      split at q2
      · rename_i ys ey
        have em := allD_eq ey
        subst em
        exact kk.nx _ _ _ _ (f2.asO e2) b2 q2
      · exact q2.elim
    · exact q2.elim
  · exact q.elim
theorem ds_asM (k : Nat) (A : DS K er W O X st ts ws) : DS K er W O X st ts (wAsM k ws) := ⟨A.1, ss_asM A.2⟩
end
/-! ### comprehensions over such a list -/
def wLcM (wr : WR) (wg : WG) (wt : WT) (we : WE) (vs : List Nat) (s : Sl) (Q : EV → Sl → Prop) (_ : EK) : Prop := wr s fun r => plc r s fun i π p kd ms => match kd with
  | .lst => (match allD ms with
    | some xs => xs.length < sizeLine ∧ LoopC wg wt we vs xs (putAt s i π (.hole p)) fun acc s2 => holeAt s2 i π p ∧ Q (.d (.list acc)) (putAt s2 i π (.nd p .lst ms))
    | none => False)
  | _ => False
section
variable {K : PySem.W.Frag} {er : Ers} {W : WX} {O : Md → Prop} {te td : TE} {we : WE} {wr : WR} {g : TG} {wg : WG} {tt : TT} {wt : WT} {vs : List Nat} {M : Md} {J0 H0 J H J1 H1 : Hp} {Pr : List (Addr × HO)} {s : Sl} {σ : L2.St} {v : V}
theorem lc_runM {Qd : Addr → Hp → Prop} {p : Addr} {zs : List V} {ds : List PyData} {s1 : Sl} {J1 H1 : Hp} {I : Nat → List PyData → Sl → Prop} {D : Addr} (mo : O M) (hg : SG K g wg) (tin : Tin vs g) (hc : ST K er W0 O tt wt) (he : SE K er W0 O te we) (f1 : Fr K M J0 H0 ((p, .lst zs) :: Pr) s1 σ J1 H1) (hD : H1 D = none)
    (hd : Das K J1 zs ds) (hz : ds.length < sizeLine) (i0 : I 0 [] (wipeS s1 vs)) (hs : ∀ i d acc s2, ds[i]? = some d → I i acc s2 → wg d (wipeS s2 vs) fun s3 => wt s3 (fun b s4 => if b = true then we s4 (fun r s5 => frz r s5 fun x s6 => I (i + 1) (acc ++ [x]) (wipeS s6 vs)) nE else I (i + 1) acc (wipeS s4 vs)) nE)
    (fin : ∀ s2 J2 H2 acc ys, Fr K M J0 H0 ((D, .lst ys) :: (p, .lst zs) :: Pr) (wipeS s2 vs) σ J2 H2 → Sub J1 J2 → Das K J2 ys acc → I ds.length acc s2 → Qd D H2) :
    ∃ W : Nat → Nat → Hp → Prop, (∃ m, W 0 m (upd H1 D (.lst []))) ∧ ∀ i m H, W i m H →
      ((Itl K p).stop i H ∧ Qd D H) ∨ ((Itl K p).go i H ∧ ∃ Nx : Hp → Prop, (∀ H', Nx H' → ∃ m', m' < m ∧ W (i + 1) m' H') ∧ ∀ x H', (Itl K p).yld i H x H' → g x (wipe σ vs) H' fun σ2 H2 => wipe σ2 vs = wipe σ vs ∧ tt σ2 H2 fun b H3 =>
        if b = true then te σ2 H3 fun y H4 => ∃ acc, H4 D = some (.lst acc) ∧ acc.length < sizeLine ∧ Nx (upd H4 D (.lst (acc ++ [y]))) else Nx H3) := by
  let St : Nat → Hp → Prop := fun i G => ∃ s' J' acc ys, Fr K M J0 H0 ((D, .lst ys) :: (p, .lst zs) :: Pr) (wipeS s' vs) σ J' G ∧ Sub J1 J' ∧ Das K J' ys acc ∧ ys.length ≤ i ∧ I i acc s'
  refine ⟨fun i m G => m = ds.length - i ∧ i ≤ ds.length ∧ St i G, ⟨_, rfl, Nat.zero_le _, wipeS s1 vs, J1, [], [], ((f1.prot hD).wipedS vs).wipedS vs, .refl _, .nil, Nat.le_refl _, i0⟩, ?_⟩
  rintro i m G ⟨rfl, hi, s', J', acc, ys, f', b', ha, hl, hI⟩
  have hp : G p = some (.lst zs) := (f'.prt _ (List.mem_cons_of_mem _ (List.mem_cons_self ..))).1
  have lz := das_len hd
  by_cases hlt : i < ds.length
  · have hi2 : i < zs.length := by omega
    refine .inr ⟨⟨zs, zs[i], .of hp, List.getElem?_eq_getElem hi2⟩, St (i + 1), fun G' h' => ⟨_, by omega, rfl, hlt, h'⟩, fun x G' y => ?_⟩
    have hdi : ds[i]? = some ds[i] := List.getElem?_eq_getElem hlt
    have key : ∀ J3 G3, Fr K M J0 H0 ((D, .lst ys) :: (p, .lst zs) :: Pr) (wipeS s' vs) σ J3 G3 → Sub J1 J3 → Das K J3 ys acc → Da K J3 x ds[i] → g x (wipe σ vs) G3 fun σ2 H2 => wipe σ2 vs = wipe σ vs ∧ tt σ2 H2 fun b H3 =>
        if b = true then te σ2 H3 fun y H4 => ∃ acc, H4 D = some (.lst acc) ∧ acc.length < sizeLine ∧ St (i + 1) (upd H4 D (.lst (acc ++ [y]))) else St (i + 1) H3 := by
      intro J3 G3 f3 b3 a3 ax
      have fw := f3.wiped vs
      rw [wipeS_wipe] at fw
      have he2 : ErO K er W0 M J0 H0 ((D, .lst ys) :: (p, .lst zs) :: Pr) nE := fun c x s σ dx v J H f z => z.elim
      refine tin _ _ _ (fun σ2 H2 => wipe σ2 vs = wipe σ vs → tt σ2 H2 fun b H3 =>
        if b = true then te σ2 H3 fun y H4 => ∃ acc, H4 D = some (.lst acc) ∧ acc.length < sizeLine ∧ St (i + 1) (upd H4 D (.lst (acc ++ [y]))) else St (i + 1) H3) _ (fun σ2 H2 e2 q2 => ⟨by rw [e2, wipe_wipe], q2 (by rw [e2, wipe_wipe])⟩)
        (hg M J0 H0 _ _ _ J3 G3 x _ fw ax _ (hs i _ acc s' hdi hI) _ fun s3 σ3 f4 q4 e3 => ?_)
      refine hc M mo J0 H0 _ s3 σ3 J3 G3 f4 _ nE q4 he2 _ fun b s4 J4 G4 f5 b5 q5 => ?_
      cases b with
      | false => exact ⟨wipeS s4 vs, J4, acc, ys, by rw [wipeS_wipe]; exact f5.unwipe e3, b3.trans b5, b5.das a3, Nat.le_succ_of_le hl, q5⟩
      | true =>
        refine he M mo J0 H0 _ s4 σ3 J4 G4 f5 _ nE q5 he2 _ fun y r s5 J5 G5 f6 b6 vr q6 => ?_
        obtain ⟨d, s6, J6, q7, b7, ad, f7⟩ := frz_use f6 vr q6
        have bb := (b5.trans b6).trans b7
        obtain ⟨g1, _⟩ := f7.prt _ (List.mem_cons_self ..)
        exact ⟨ys, g1, by omega, wipeS s6 vs, J6, acc ++ [d], ys ++ [y], by rw [wipeS_wipe]; exact f7.reprot.unwipe e3, b3.trans bb, das_app (bb.das a3) (.cons ad .nil), by rw [List.length_append]; simp only [List.length_cons, List.length_nil]; omega, q7⟩
    obtain ⟨rfl, y⟩ := y
    obtain ⟨d2, e2, a2⟩ := das_at hd (y zs (.of hp))
    rw [hdi] at e2
    cases e2
    exact key J' G' f' b' ha (b'.da a2)
  · have e : i = ds.length := by omega
    subst e
    exact .inl ⟨⟨zs, .of hp, by omega⟩, fin s' J' G acc ys f' b' ha hI⟩
theorem se_lcM (hr : SR K td wr) (hg : SG K g wg) (tin : Tin vs g) (hc : ST K er W0 O tt wt) (he : SE K er W0 O te we) : SE K er W O (tLc (iSeqS K td) g tt te vs) (wLcM wr wg wt we vs) := fun M mo J0 H0 Pr s σ J H f Q e q he' Qv kk =>
  hr.go M J0 H0 Pr s σ J H f _ q _ fun u r va q1 => by
    obtain ⟨i, π, p, kd, ms, m0, rfl, es, g0, q2⟩ := plc_use f va q1
    split at q2
    · split at q2
      · rename_i xs ea
        obtain ⟨hz, I, i0, hs, hd⟩ := q2
        obtain ⟨ws, hp, hx, hf, ov, nd, hfr⟩ := f.nd es g0
        obtain ⟨f1, o1⟩ := f.lend es g0
        obtain ⟨jp, np, fp⟩ := o1.fr p (by rw [fpM_nd]; exact List.mem_cons_self ..)
        have em := allD_eq ea
        subst em
        have ad := das_ows ov
        have f2 : Fr K M J0 H0 ((p, .lst ws) :: Pr) (putAt s i π (.hole p)) σ J H := ⟨f1.w0, f1.tr, f1.len, f1.at_, f1.sep, fun q hq => by
          rcases List.mem_cons.mp hq with rfl | hq
          · exact ⟨hp, jp, np, ⟨_, rfl⟩, fun k x w e hw => fp.1 k x w e hw⟩
          · exact f1.prt q hq, List.nodup_cons.mpr ⟨fun z => by obtain ⟨q, hq, e⟩ := List.mem_map.mp z; exact fp.2 q hq e, f1.pn⟩⟩
        refine .inl ⟨p, ws, rfl, .inl ⟨.of hp, fun D hD => ?_⟩⟩
        refine lc_runM (Qd := fun D H => Qv (.ref D) H) mo hg tin hc he f2 hD ad hz i0 hs fun s2 J2 H2 acc ys f4 b2 a2 i2 => ?_
        obtain ⟨J3, b3, a3, f5⟩ := f4.tell a2
        obtain ⟨h1, h2, h3, _, h5⟩ := f5.prt _ (List.mem_cons_self ..)
        have f6 : Fr K M J0 H0 Pr (wipeS s2 vs) σ J3 H2 := ⟨f5.w0, f5.tr, f5.len, f5.at_, f5.sep, fun q hq => f5.prt q (List.mem_cons_of_mem _ hq), (List.nodup_cons.mp f5.pn).2⟩
        have fr : FreeA Pr (wipeS s2 vs) σ p := ⟨fun k x w e hw => h5 k x w e hw, fun q hq z => (List.nodup_cons.mp f5.pn).1 (List.mem_map.mpr ⟨q, hq, z⟩)⟩
        obtain ⟨gh, q6⟩ := hd acc s2 i2
        unfold holeAt at gh
        split at gh
        · rename_i m2 e2
          have f8 := f6.back e2 gh ⟨.nd (k := .lst) (show H2 p = some (hoOf .lst ws) from h1) hx hf (ows_das ((b2.trans b3).das ad)), by rw [fpM_dat rfl]; exact List.nodup_cons.mpr ⟨List.not_mem_nil, List.nodup_nil⟩, fun a qa => by
            rw [fpM_dat rfl] at qa
            rcases List.mem_singleton.mp qa with rfl
            exact ⟨h2, h3, fr⟩⟩
          exact kk _ (.d (.list acc)) _ _ _ f8 (b2.trans b3) a3 q6
        · exact gh.elim
      · exact q2.elim
    · exact q2.elim
end
section
variable {K : PySem.W.Frag} {er : Ers} {W : WX} {O : Md → Prop} {X : Cx} {elt iter tg : Expr} {te td : TE} {we : WE} {wr : WR} {pos : Pos}
theorem de_lcM {ifs : List Expr} {scope : Scope} {own : List (Str × Nat)} {g : TG} {wg : WG} {tt : TT} {wt : WT} (hc : X.calm = true) (hN : X.N.Nodup) (hK : X.K = K) (A : DR K X iter td wr) (ok : BlkOk X.N X.env.scope scope own) (tin : Tin (own.map (·.2)) g)
    (hg : ∀ (s : Shared) (H : Hp) (C : Addr) (cl : List (Str × Addr)) (fp : List Addr), DG K (X.blk s H scope (compEnvC scope cl C X.env) fp) tg g wg) (ht : ∀ (s : Shared) (H : Hp) (C : Addr) (cl : List (Str × Addr)) (fp : List Addr), DTs K er W0 O (X.blk s H scope (compEnvC scope cl C X.env) fp) ifs tt wt)
    (he : ∀ (s : Shared) (H : Hp) (C : Addr) (cl : List (Str × Addr)) (fp : List Addr), DE K er W0 O (X.blk s H scope (compEnvC scope cl C X.env) fp) elt te we) (hs : ∀ x, foldedSetIterable iter X.env x = pure x := by intro _; rfl) :
    DE K er W O X (.ListComp elt [⟨tg, iter, ifs, 0⟩] scope pos) (tLc (iSeqS K td) g tt te (own.map (·.2))) (wLcM wr wg wt we (own.map (·.2))) :=
  ⟨pe_lc hc hN (di_seq (er := er) (W := W) (O := O) hK (de_r A)).1 ok (fun s H C cl fp => (hg s H C cl fp).1) (fun s H C cl fp => (ht s H C cl fp).1) (fun s H C cl fp => (he s H C cl fp).1) hs,
    se_lcM A.2 (hg {} (fun _ => none) 0 [] []).2 tin (ht {} (fun _ => none) 0 [] []).2 (he {} (fun _ => none) 0 [] []).2⟩
end
/-! a key that is asked for, as a test -/
def wTB (wa : WE) (s : Sl) (Q : Bool → Sl → Prop) (e : EK) : Prop := wa s (fun r s1 => match r with
  | .d (.bool b) => Q b s1
  | _ => False) e
section
variable {K : PySem.W.Frag} {er : Ers} {W : WX} {O : Md → Prop} {X : Cx} {i o : Expr} {ta tb : TE} {wa wy : WE} {wr : WR} {pos : Pos}
theorem st_tB (h : SE K er W O ta wa) : ST K er W O (tB ta) (wTB wa) := fun M mo J0 H0 Pr s σ J H f Q e q he Qv k =>
  h M mo J0 H0 Pr s σ J H f _ e q he _ fun v r s1 J1 H1 f1 b1 va q1 => by
    split at q1
    · exact ⟨_, da_bl va, k _ s1 J1 H1 f1 b1 q1⟩
    · exact q1.elim
theorem dt_dni (hu : X.A.units + 1 < cLine) (B : DE K er W O X i tb wy) (A : DR K X o ta wr) (h1 : behindInMarks .NotIn o = false := by first | exact nobehind _ (by decide) (by decide) | rfl) : DT K er W O X (.Compare i [.NotIn] [o] pos) (tB (tDNotIn tb ta)) (wTB (wDIn true wy wr)) := ⟨pt_cmp (pc_dnotin hu B.1 A.1) h1, st_tB (se_dni B.2 A.2)⟩
theorem dt_din (hu : X.A.units + 1 < cLine) (B : DE K er W O X i tb wy) (A : DR K X o ta wr) (h1 : behindInMarks .In o = false := by first | exact nobehind _ (by decide) (by decide) | rfl) : DT K er W O X (.Compare i [.In] [o] pos) (tB (tDIn tb ta)) (wTB (wDIn false wy wr)) := ⟨pt_cmp (pc_din hu B.1 A.1) h1, st_tB (se_din B.2 A.2)⟩
end
/-! what is done with what is raised, kept shut -/
def TryK (er : Ers) (hs : List HW) (c : Str) (x : PyData) (s : Sl) (E : EW) : Prop := wTryK er hs c x s E
theorem wTry_eq {er : Ers} {wb : WS} {hs : List HW} {s : Sl} {E : EW} : wTry er wb hs s E = wb s { E with er := fun c x s1 => TryK er hs c x s1 E } := rfl
theorem TryK_i {er : Ers} {hs : List HW} {c : Str} {x : PyData} {s : Sl} {E : EW} (h : wTryK er hs c x s E) : TryK er hs c x s E := h
end DW

namespace K18
open PySem PySem.Spec
open PyProof.Rows L2 DL DW
def top (i : Nat) : Stmt := PySem.Challenge.pw_spelledways_k18_who_looks_at_which_stamp.main.body.getD i (.Pass ⟨0, 0, 0, 0⟩)
abbrev FnP (K : PySem.W.Frag) (x : Str) (st : Stmt) (f : Addr) (fd : FuncData) : Prop := FunD K x x (defArgs st) (defBody st) (defScope st) [] [] f fd
abbrev FnM (K : PySem.W.Frag) (x q : Str) (st : Stmt) (f : Addr) (fd : FuncData) : Prop := FunD K x q (defArgs st) (defBody st) (defScope st) [] [] f fd
structure Fx (mg : Str → Option Value) : Prop where
  b_isinstance : mg "isinstance" = none
  b_int : mg "int" = none
  b_bool : mg "bool" = none
  b_list : mg "list" = none
  b_sorted : mg "sorted" = none
  b_set : mg "set" = none
  b_tuple : mg "tuple" = none
  b_len : mg "len" = none
  b_repr : mg "repr" = none
  b_range : mg "range" = none
  b_abs : mg "abs" = none
def erL (K : PySem.W.Frag) : Ers := ⟨fun c => He.ga K c, fun c => bif c == "InvalidSize" then "word" else "name"⟩
def c_Snapshots (K : PySem.W.Frag) : ClsD := ⟨He.ga K "Snapshots", ["_stamps", "_last"]⟩
theorem nd_Snapshots {K : PySem.W.Frag} : (c_Snapshots K).fl.Nodup := by show (["_stamps", "_last"] : List Str).Nodup; decide
abbrev rows_InvalidSize : List (Str × Bool) := [("InvalidSize", true)]
abbrev rows_NoName : List (Str × Bool) := [("NoName", true)]
theorem hu1 {A : Around} {k : Nat} (h : Room k A) : A.units + 1 < cLine := by have := h.un; omega
/-- snapshots: the open numbers with their stamps, the last number -/
abbrev Sn (K : PySem.W.Frag) (p dx q : Addr) (kvs : List (Int × Int)) (n : Int) : MV := .nd p (.obj dx (c_Snapshots K)) [.nd q (.dct (kvs.map fun x => Sum.inl x.1)) (kvs.map fun x => .d (.int x.2)), .d (.int n)]
structure SnOk (kvs : List (Int × Int)) (n : Int) : Prop where
  up : (kvs.map (·.1)).Pairwise (· < ·)
  le : ∀ x ∈ kvs, 1 ≤ x.1 ∧ x.1 ≤ n
  st : ∀ x ∈ kvs, 0 ≤ x.2 ∧ x.2 < 10 ^ 31
  few : kvs.length ≤ n.toNat
  n0 : 0 ≤ n
  n1 : n ≤ 40
end K18

namespace K18
open PySem PySem.Spec
open PyProof.Rows L2 DL DW
local macro_rules | `(tactic| walk_at "dw0") => `(tactic| simp only [DW.startS, DW.AV.sv, DW.startB, DW.BV.sv, List.map_cons, List.map_nil, List.length_cons, List.length_nil, List.replicate_succ, List.replicate_zero, List.cons_append, List.nil_append, Nat.reduceAdd, Nat.reduceSub])
local macro_rules | `(tactic| walk_at "dw") => `(tactic| simp (maxSteps := 2000000) only [DW.wSeq, DW.wNext, DW.wSetM, DW.wFld, DW.wrFld, DW.wrVar, DW.wrC, DW.wR, DW.plc, DW.putAt, DW.chld, DW.getM, DW.setM, DW.setC, DW.wDGet, DW.wDIn, DW.wTB, DW.wAsM, DW.wLcM, DW.wDPut, DW.wDDel, DW.wDVals, DW.keyD, DW.allD_map, DW.wFldAug, DW.wM, DW.wmD, DW.wmDct, DW.wmLst, DW.wmCall, DW.wmCallK, DW.callK, DW.lendK, DW.backK, DW.holeAt, DW.avB, DW.wbNil, DW.wbCons, DW.wmMeth, DW.wmMake, DW.finK, DW.wTry_eq, DW.wXf, DW.wIsX, DW.gSSet, DW.wLcD, DW.isHole, DW.wParM, List.tail_cons, List.append_nil, DW.wIfS, DW.wRet, DW.wRetN, DW.wBreak, DW.wCont, DW.wSet, DW.wAsg, DW.wNew, DW.wNewL, DW.wNewC, DW.wExpr, DW.wApp, DW.wExt, DW.wExtA, DW.wPop, DW.wAug, DW.wRaise, DW.wVar, DW.wC, DW.wRaw, DW.wOp, DW.wUn, DW.waNil, DW.waCons, DW.wCB, DW.wTup, DW.wLst, DW.wTest, DW.wYes, DW.wAnd, DW.wOr, DW.wNot, DW.wTr, DW.gTr, DW.wAndV, DW.wOrV, DW.wNotV, DW.wIf, DW.rdq, DW.frz, DW.asg, DW.avf, DW.wuNil, DW.wuCons, DW.wCall, DW.wCallK, DW.wNotKD, DW.wIxKD, DW.wCallV, DW.wHear, DW.wgName, DW.wgTup, DW.wgCons, DW.wgNil,
  DW.wParN, DW.wnNil, DW.wnD, DW.wnNew, DW.asgN, DW.gAdd, DW.gSub, DW.gMul, DW.gMod, DW.gDiv, DW.gPow, DW.gLt, DW.gLe, DW.gGt, DW.gGe, DW.gEq, DW.gNe, DW.gEqS, DW.gNeS, DW.pick, List.filterMap_cons, List.filterMap_nil, DW.gInB, DW.gIs, DW.gIsNot, DW.gIx, DW.gNeg, DW.gLen, DW.gToT, DW.gToL, DW.gInt, DW.gAbs, DW.gRepr, DW.gMin2, DW.gMax2, DW.gOrd, DW.gStr, DW.gAddI, DW.gSubI, DW.gIsB, DW.gIsntB, DW.gRep, DW.gSorted, DW.wJoin, DW.gJoin, DW.wIndex, DW.gIndex, DW.wRg1, DW.wRg2, DW.LT.mk, DW.wiSeq, DW.wiRng1, DW.wiRng2, DW.wiRngB, DW.wiEnumX, DW.wiEnum, DW.wipeS, DL.truth, DL.isNo, DW.wIsi, DW.wChain, DW.wSl, DW.gSl, DW.gRev, DW.woNone, DW.woSome, DW.wFor_eq, DW.wLc_eq, DW.wNewLc_eq, DW.one_ord, DW.one_len, DL.oD_len,
  DW.eqv_int, DW.sh_intT, true_and, List.getElem?_nil, List.getElem?_cons_zero, List.getElem?_cons_succ, List.set_cons_zero, List.set_cons_succ, List.length_cons, List.length_nil, if_true, if_false, decide_eq_true_eq, Bool.false_eq_true, reduceIte, List.cons_append, List.nil_append, Nat.reduceAdd, Bool.not_true, Bool.not_false])
local macro_rules | `(tactic| walk_at "ds") => `(tactic| repeat ((with_reducible refine DW.Kt_i ?_); (walk_at "dw")))
local macro_rules | `(tactic| walk_at "go") => `(tactic| ((walk_at "dw0"); (walk_at "dw"); (walk_at "ds")))
local macro_rules | `(tactic| walk_at "dt") => `(tactic| ((try walk_at "dw"); (walk_at "ds")))
local macro_rules | `(tactic| walk_at "ex") => `(tactic| ((with_reducible refine DW.TryK_i ?_); (simp only [DW.wTryK, DW.offW]); (walk_at "dw")))
def wholeD (x : PyData) : Bool := isTy x "int" && !isTy x "bool"
theorem whole_int (i : Int) : wholeD (.int i) = true := rfl
theorem whole_inv {x : PyData} (h : wholeD x = true) : ∃ i, x = .int i := by
  cases x <;> first | exact ⟨_, rfl⟩ | (simp [wholeD, isTy, tyOf] at h)
def pre_is_whole (as : List AV) : Prop := ∃ x, as = [.d x]
def post_is_whole (as : List AV) (d : PyData) : Prop := ∃ x, as = [.d x] ∧ d = .bool (wholeD x)
abbrev exc_is_whole := noE
theorem len_is_whole : ∀ as, pre_is_whole as → as.length = 1 := by rintro as ⟨_, rfl⟩; rfl
def pre__law_whole (as : List AV) : Prop := ∃ x, as = [.d x]
def post__law_whole (as : List AV) (d : PyData) : Prop := ∃ x, as = [.d x] ∧ d = .bool (wholeD x)
abbrev exc__law_whole := noE
theorem len__law_whole : ∀ as, pre__law_whole as → as.length = 1 := by rintro as ⟨_, rfl⟩; rfl
/-- a number: a whole one, not below 0 -/
def numD : PyData → Bool
  | .int i => decide (0 ≤ i)
  | _ => false
theorem num_inv {x : PyData} (h : numD x = true) : ∃ i, x = .int i ∧ 0 ≤ i := by
  cases x <;> first | exact ⟨_, rfl, of_decide_eq_true h⟩ | cases h
theorem num_not {x : PyData} (h : wholeD x = false) : numD x = false := by
  cases x <;> first | rfl | (simp [wholeD, isTy, tyOf] at h)
def pre_is_number (as : List AV) : Prop := ∃ x, as = [.d x]
def post_is_number (as : List AV) (d : PyData) : Prop := ∃ x, as = [.d x] ∧ d = .bool (numD x)
abbrev exc_is_number := noE
theorem len_is_number : ∀ as, pre_is_number as → as.length = 1 := by rintro as ⟨_, rfl⟩; rfl
section
variable {P : Program} {w : World} {K : PySem.W.Frag} {mg : Str → Option Value} {base : Heap} {f : Addr} {fd : FuncData}
abbrev s_is_whole : Stmt := top 5
abbrev N_is_whole : List Str := ["value"]
theorem sc_is_whole : FnScope N_is_whole ["value"] (defScope s_is_whole) := ⟨rfl, rfl, rfl, by decide +kernel, rfl, by decide +kernel, by decide +kernel⟩
def w_is_whole (K : PySem.W.Frag) : WS := (wRet (wAndV (wIsi "int" (wVar 0)) (wNotV (wIsi "bool" (wVar 0)))))
def Go_is_whole (K : PySem.W.Frag) : Prop := ∀ as, pre_is_whole as → w_is_whole K (startS 1 as) ⟨fun _ => post_is_whole as .none, fun d _ => post_is_whole as d, fun _ => False, fun _ => False, fun c x _ => exc_is_whole as c x⟩
theorem ok_is_whole (go : Go_is_whole K) (F : FnP K "is_whole" s_is_whole f fd) (T : Fx mg)  : FnG P w K mg base (L2.CX P w) 1 f fd ["value"] (spU K (erL K) anyM pre_is_whole post_is_whole exc_is_whole) := by
  have nd := sc_is_whole.nd
  refine fn_w (ws := w_is_whole K) F sc_is_whole len_is_whole (by decide) (fun cdv A out s H E hG hr => ?_) go
  exact ⟨_, (dss_one (ds_ret (de_and (de_isi (n := "int") rfl (by decide) T.b_isinstance (de_var (pv 0)) (pe_bltn (v := .ty "int") rfl T.b_int rfl rfl)) (de_one (de_not (de_isi (n := "bool") rfl (by decide) T.b_isinstance (de_var (pv 0)) (pe_bltn (v := .ty "bool") rfl T.b_bool rfl rfl)))))))⟩


abbrev s_is_number : Stmt := top 6
abbrev N_is_number : List Str := ["value"]
theorem sc_is_number : FnScope N_is_number ["value"] (defScope s_is_number) := ⟨rfl, rfl, rfl, by decide +kernel, rfl, by decide +kernel, by decide +kernel⟩
def w_is_number (K : PySem.W.Frag) : WS := (wRet (wAndV (wCall pre_is_whole post_is_whole exc_is_whole (wuCons (wVar 0) wuNil)) (wOp gGe (wVar 0) (wC (.int 0)))))
def Go_is_number (K : PySem.W.Frag) : Prop := ∀ as, pre_is_number as → w_is_number K (startS 1 as) ⟨fun _ => post_is_number as .none, fun d _ => post_is_number as d, fun _ => False, fun _ => False, fun c x _ => exc_is_number as c x⟩
theorem ok_is_number (go : Go_is_number K) (F : FnP K "is_number" s_is_number f fd) (T : Fx mg) (C_is_whole : Ca5 P w K mg base (L2.CX P w) 1 "is_whole" ["value"] (spU K (erL K) anyM pre_is_whole post_is_whole exc_is_whole)) : FnG P w K mg base (L2.CX P w) 2 f fd ["value"] (spU K (erL K) anyM pre_is_number post_is_number exc_is_number) := by
  have nd := sc_is_number.nd
  refine fn_w (ws := w_is_number K) F sc_is_number len_is_number (by decide) (fun cdv A out s H E hG hr => ?_) go
  exact ⟨_, (dss_one (ds_ret (de_and (de_call C_is_whole hG (hr.mono (by decide)) (passW (takes_of rfl rfl rfl rfl)) (fun _ _ => trivial) (du_cons (de_var (pv 0)) du_nil)) (de_one (de_cmp op_geW os_ge (nomark _) (de_var (pv 0)) (de_int pe_int))))))⟩


abbrev s__law_whole : Stmt := top 13
abbrev N__law_whole : List Str := ["_law_value"]
theorem sc__law_whole : FnScope N__law_whole ["_law_value"] (defScope s__law_whole) := ⟨rfl, rfl, rfl, by decide +kernel, rfl, by decide +kernel, by decide +kernel⟩
def w__law_whole (K : PySem.W.Frag) : WS := (wRet (wAndV (wIsi "int" (wVar 0)) (wNotV (wIsi "bool" (wVar 0)))))
def Go__law_whole (K : PySem.W.Frag) : Prop := ∀ as, pre__law_whole as → w__law_whole K (startS 1 as) ⟨fun _ => post__law_whole as .none, fun d _ => post__law_whole as d, fun _ => False, fun _ => False, fun c x _ => exc__law_whole as c x⟩
theorem ok__law_whole (go : Go__law_whole K) (F : FnP K "_law_whole" s__law_whole f fd) (T : Fx mg)  : FnG P w K mg base (L2.CX P w) 1 f fd ["_law_value"] (spU K (erL K) anyM pre__law_whole post__law_whole exc__law_whole) := by
  have nd := sc__law_whole.nd
  refine fn_w (ws := w__law_whole K) F sc__law_whole len__law_whole (by decide) (fun cdv A out s H E hG hr => ?_) go
  exact ⟨_, (dss_one (ds_ret (de_and (de_isi (n := "int") rfl (by decide) T.b_isinstance (de_var (pv 0)) (pe_bltn (v := .ty "int") rfl T.b_int rfl rfl)) (de_one (de_not (de_isi (n := "bool") rfl (by decide) T.b_isinstance (de_var (pv 0)) (pe_bltn (v := .ty "bool") rfl T.b_bool rfl rfl)))))))⟩


end
theorem go_is_whole {K : PySem.W.Frag} : Go_is_whole K := by
  rintro as ⟨x, rfl⟩
  unfold w_is_whole
  walk_at "go"
  split
  · rename_i h; exact ⟨x, rfl, by unfold wholeD; rw [h]; rfl⟩
  · rename_i h; exact ⟨x, rfl, by unfold wholeD; rw [Bool.eq_false_iff.mpr h]; rfl⟩
theorem go__law_whole {K : PySem.W.Frag} : Go__law_whole K := by
  rintro as ⟨x, rfl⟩
  unfold w__law_whole
  walk_at "go"
  split
  · rename_i h; exact ⟨x, rfl, by unfold wholeD; rw [h]; rfl⟩
  · rename_i h; exact ⟨x, rfl, by unfold wholeD; rw [Bool.eq_false_iff.mpr h]; rfl⟩
theorem whole_use {x : PyData} {Q : PyData → Prop} (h : Q (.bool (wholeD x))) : ∀ d, post_is_whole [.d x] d → Q d := by
  rintro d ⟨y, e, rfl⟩
  cases AV.d.inj (List.cons.inj e).1
  exact h
theorem lwhole_use {x : PyData} {Q : PyData → Prop} (h : Q (.bool (wholeD x))) : ∀ d, post__law_whole [.d x] d → Q d := by
  rintro d ⟨y, e, rfl⟩
  cases AV.d.inj (List.cons.inj e).1
  exact h
theorem go_is_number {K : PySem.W.Frag} : Go_is_number K := by
  rintro as ⟨x, rfl⟩
  unfold w_is_number
  walk_at "go"
  refine ⟨⟨_, rfl⟩, whole_use ?_, fun _ _ z => z⟩
  walk_at "dw"
  split
  · rename_i h
    obtain ⟨i, rfl⟩ := whole_inv h
    exact ⟨_, rfl, rfl⟩
  · rename_i h
    exact ⟨_, rfl, by rw [num_not (Bool.eq_false_iff.mpr h)]⟩
theorem num_use {x : PyData} {Q : PyData → Prop} (h : Q (.bool (numD x))) : ∀ d, post_is_number [.d x] d → Q d := by
  rintro d ⟨y, e, rfl⟩
  cases AV.d.inj (List.cons.inj e).1
  exact h
end K18

namespace K18
open PySem PySem.Spec
open PyProof.Rows L2 DL DW
local macro_rules | `(tactic| walk_at "dw0") => `(tactic| simp only [DW.startS, DW.AV.sv, DW.startB, DW.BV.sv, List.map_cons, List.map_nil, List.length_cons, List.length_nil, List.replicate_succ, List.replicate_zero, List.cons_append, List.nil_append, Nat.reduceAdd, Nat.reduceSub])
local macro_rules | `(tactic| walk_at "dw") => `(tactic| simp (maxSteps := 2000000) only [DW.wSeq, DW.wNext, DW.wSetM, DW.wFld, DW.wrFld, DW.wrVar, DW.wrC, DW.wR, DW.plc, DW.putAt, DW.chld, DW.getM, DW.setM, DW.setC, DW.wDGet, DW.wDIn, DW.wTB, DW.wAsM, DW.wLcM, DW.wDPut, DW.wDDel, DW.wDVals, DW.keyD, DW.allD_map, DW.wFldAug, DW.wM, DW.wmD, DW.wmDct, DW.wmLst, DW.wmCall, DW.wmCallK, DW.callK, DW.lendK, DW.backK, DW.holeAt, DW.avB, DW.wbNil, DW.wbCons, DW.wmMeth, DW.wmMake, DW.finK, DW.wTry_eq, DW.wXf, DW.wIsX, DW.gSSet, DW.wLcD, DW.isHole, DW.wParM, List.tail_cons, List.append_nil, DW.wIfS, DW.wRet, DW.wRetN, DW.wBreak, DW.wCont, DW.wSet, DW.wAsg, DW.wNew, DW.wNewL, DW.wNewC, DW.wExpr, DW.wApp, DW.wExt, DW.wExtA, DW.wPop, DW.wAug, DW.wRaise, DW.wVar, DW.wC, DW.wRaw, DW.wOp, DW.wUn, DW.waNil, DW.waCons, DW.wCB, DW.wTup, DW.wLst, DW.wTest, DW.wYes, DW.wAnd, DW.wOr, DW.wNot, DW.wTr, DW.gTr, DW.wAndV, DW.wOrV, DW.wNotV, DW.wIf, DW.rdq, DW.frz, DW.asg, DW.avf, DW.wuNil, DW.wuCons, DW.wCall, DW.wCallK, DW.wNotKD, DW.wIxKD, DW.wCallV, DW.wHear, DW.wgName, DW.wgTup, DW.wgCons, DW.wgNil,
  DW.wParN, DW.wnNil, DW.wnD, DW.wnNew, DW.asgN, DW.gAdd, DW.gSub, DW.gMul, DW.gMod, DW.gDiv, DW.gPow, DW.gLt, DW.gLe, DW.gGt, DW.gGe, DW.gEq, DW.gNe, DW.gEqS, DW.gNeS, DW.pick, List.filterMap_cons, List.filterMap_nil, DW.gInB, DW.gIs, DW.gIsNot, DW.gIx, DW.gNeg, DW.gLen, DW.gToT, DW.gToL, DW.gInt, DW.gAbs, DW.gRepr, DW.gMin2, DW.gMax2, DW.gOrd, DW.gStr, DW.gAddI, DW.gSubI, DW.gIsB, DW.gIsntB, DW.gRep, DW.gSorted, DW.wJoin, DW.gJoin, DW.wIndex, DW.gIndex, DW.wRg1, DW.wRg2, DW.LT.mk, DW.wiSeq, DW.wiRng1, DW.wiRng2, DW.wiRngB, DW.wiEnumX, DW.wiEnum, DW.wipeS, DL.truth, DL.isNo, DW.wIsi, DW.wChain, DW.wSl, DW.gSl, DW.gRev, DW.woNone, DW.woSome, DW.wFor_eq, DW.wLc_eq, DW.wNewLc_eq, DW.one_ord, DW.one_len, DL.oD_len,
  DW.eqv_int, DW.sh_intT, true_and, List.getElem?_nil, List.getElem?_cons_zero, List.getElem?_cons_succ, List.set_cons_zero, List.set_cons_succ, List.length_cons, List.length_nil, if_true, if_false, decide_eq_true_eq, Bool.false_eq_true, reduceIte, List.cons_append, List.nil_append, Nat.reduceAdd, Bool.not_true, Bool.not_false])
local macro_rules | `(tactic| walk_at "ds") => `(tactic| repeat ((with_reducible refine DW.Kt_i ?_); (walk_at "dw")))
local macro_rules | `(tactic| walk_at "go") => `(tactic| ((walk_at "dw0"); (walk_at "dw"); (walk_at "ds")))
local macro_rules | `(tactic| walk_at "dt") => `(tactic| ((try walk_at "dw"); (walk_at "ds")))
local macro_rules | `(tactic| walk_at "ex") => `(tactic| ((with_reducible refine DW.TryK_i ?_); (simp only [DW.wTryK, DW.offW]); (walk_at "dw")))
abbrev KV := List (Int × Int)
abbrev kk (kvs : KV) : List Key := kvs.map fun x => Sum.inl x.1
abbrev vv (kvs : KV) : List MV := kvs.map fun x => MV.d (.int x.2)
/-- the stamp told under a number -/
def findS (kvs : KV) : PyData → Option Int
  | .int i => ((kvs.filter fun y => y.1 == i).map (·.2)).head?
  | _ => none
theorem findS_int (kvs : KV) (i : Int) : findS kvs (.int i) = ((kvs.filter fun y => y.1 == i).map (·.2)).head? := rfl
def offS (kvs : KV) : PyData → KV
  | .int i => kvs.filter fun y => !(y.1 == i)
  | _ => kvs
theorem pos_find {kvs : KV} {i : Int} (up : (kvs.map (·.1)).Pairwise (· < ·)) : (posK (kk kvs) (.inl i) = none ∧ findS kvs (.int i) = none) ∨ ∃ j s, posK (kk kvs) (.inl i) = some j ∧ kvs[j]? = some (i, s) ∧ findS kvs (.int i) = some s ∧ (kvs.filter fun y => !(y.1 == i)) = kvs.eraseIdx j := by
  induction kvs with
  | nil => exact .inl ⟨rfl, rfl⟩
  | cons x kvs ih =>
    obtain ⟨a, b⟩ := x
    rw [List.map_cons, List.pairwise_cons] at up
    by_cases h : a = i
    · subst h
      refine .inr ⟨0, b, by simp [kk, posK], rfl, by simp [findS], ?_⟩
      have : ∀ y ∈ kvs, (!(y.1 == a)) = true := fun y hy => by
        have := up.1 y.1 (List.mem_map_of_mem hy)
        have ne : y.1 ≠ a := by simp only at this; omega
        simp [ne]
      rw [List.filter_cons, if_neg (by simp)]
      rw [List.filter_eq_self.mpr this]; rfl
    · have e : ¬ (Sum.inl a : Key) = .inl i := fun z => h (Sum.inl.inj z)
      have h2 : (a == i) = false := by simpa using h
      rcases ih up.2 with ⟨h3, h4⟩ | ⟨j, s, h3, h4, h5, h6⟩
      · refine .inl ⟨?_, ?_⟩
        · show posK (Sum.inl a :: kk kvs) _ = none
          rw [posK, if_neg e, h3]; rfl
        · rw [findS_int] at h4 ⊢
          rw [List.filter_cons, if_neg (by simp [h2])]; exact h4
      · refine .inr ⟨j + 1, s, ?_, by simpa using h4, ?_, ?_⟩
        · show posK (Sum.inl a :: kk kvs) _ = _
          rw [posK, if_neg e, h3]; rfl
        · rw [findS_int] at h5 ⊢
          rw [List.filter_cons, if_neg (by simp [h2])]; exact h5
        · rw [List.filter_cons, if_pos (by simp [h2]), h6]; rfl
theorem pos_new {kvs : KV} {n : Int} (h : ∀ x ∈ kvs, x.1 ≤ n) : posK (kk kvs) (.inl (n + 1)) = none := by
  cases q : posK (kk kvs) (.inl (n + 1)) with
  | none => rfl
  | some j =>
    have := List.mem_of_getElem? (posK_some q)
    obtain ⟨x, hx, e⟩ := List.mem_map.mp this
    have := h x hx
    have := Sum.inl.inj e
    omega
theorem nd_kk {kvs : KV} (up : (kvs.map (·.1)).Pairwise (· < ·)) : (kk kvs).Nodup := by
  have : kk kvs = (kvs.map (·.1)).map Sum.inl := by simp [kk]
  rw [this]
  exact (List.Pairwise.imp (fun h => by omega) up : (kvs.map (·.1)).Nodup).map (f := Sum.inl) (fun a b h e => h (Sum.inl.inj e))
theorem all_vv (kvs : KV) : allD (vv kvs) = some (oD (kvs.map (·.2))) := by
  have : vv kvs = (oD (kvs.map (·.2))).map MV.d := by simp [vv, oD]
  rw [this, allD_map]
theorem find_mem {kvs : KV} {x : PyData} {s : Int} (h : findS kvs x = some s) : ∃ i, x = .int i ∧ (i, s) ∈ kvs := by
  cases x <;> first | cases h | skip
  rename_i i
  refine ⟨i, rfl, ?_⟩
  rw [findS_int] at h
  have := List.mem_of_mem_head? h
  obtain ⟨y, hy, e⟩ := List.mem_map.mp this
  obtain ⟨h1, h2⟩ := List.mem_filter.mp hy
  have : y.1 = i := by simpa using h2
  rw [← this, ← e]; exact h1
theorem snOk_off {kvs : KV} {n : Int} (h : SnOk kvs n) (x : PyData) : SnOk (offS kvs x) n := by
  cases x <;> first | exact h | skip
  rename_i i
  have sb : ∀ y ∈ kvs.filter (fun y => !(y.1 == i)), y ∈ kvs := fun y hy => (List.mem_filter.mp hy).1
  exact ⟨h.up.sublist (List.filter_sublist.map _), fun y hy => h.le y (sb y hy), fun y hy => h.st y (sb y hy), Nat.le_trans (List.length_filter_le _ _) h.few, h.n0, h.n1⟩
theorem snOk_new {kvs : KV} {n s : Int} (h : SnOk kvs n) (hn : n < 40) (hs : 0 ≤ s ∧ s < 10 ^ 31) : SnOk (kvs ++ [(n + 1, s)]) (n + 1) := by
  refine ⟨?_, fun y hy => ?_, fun y hy => ?_, ?_, by have := h.n0; omega, by omega⟩
  · rw [List.map_append, List.pairwise_append]
    refine ⟨h.up, by simp, fun a ha b hb => ?_⟩
    obtain ⟨y, hy, rfl⟩ := List.mem_map.mp ha
    have := (h.le y hy).2
    simp at hb
    omega
  · rcases List.mem_append.mp hy with hy | hy
    · have := h.le y hy; omega
    · rw [List.mem_singleton.mp hy]; have := h.n0; exact ⟨by simp; omega, by simp⟩
  · rcases List.mem_append.mp hy with hy | hy
    · exact h.st y hy
    · rw [List.mem_singleton.mp hy]; exact hs
  · have := h.few; have := h.n0; rw [List.length_append, List.length_singleton]; omega
def lastD (l : List Int) : PyData := match l.getLast? with
  | some i => .int i
  | none => .none
/-- the stamps that are looked at, each once, going up -/
structure Live (kvs : KV) (ms : List Int) : Prop where
  up : ms.Pairwise (· < ·)
  mem : ∀ k, k ∈ ms ↔ k ∈ kvs.map (·.2)
theorem up_ext : ∀ {l m : List Int}, l.Pairwise (· < ·) → m.Pairwise (· < ·) → (∀ k, k ∈ l ↔ k ∈ m) → l = m
  | [], [], _, _, _ => rfl
  | [], y :: m, _, _, h => absurd ((h y).mpr (List.mem_cons_self ..)) List.not_mem_nil
  | x :: l, [], _, _, h => absurd ((h x).mp (List.mem_cons_self ..)) List.not_mem_nil
  | x :: l, y :: m, hl, hm, h => by
    rw [List.pairwise_cons] at hl hm
    have e : x = y := by
      rcases List.mem_cons.mp ((h x).mp (List.mem_cons_self ..)) with e | e
      · exact e
      · rcases List.mem_cons.mp ((h y).mpr (List.mem_cons_self ..)) with e2 | e2
        · exact e2.symm
        · have := hl.1 y e2; have := hm.1 x e; omega
    subst e
    rw [up_ext hl.2 hm.2 fun k => ⟨fun hk => (List.mem_cons.mp ((h k).mp (List.mem_cons_of_mem _ hk))).resolve_left fun e => by have := hl.1 k hk; omega, fun hk => (List.mem_cons.mp ((h k).mpr (List.mem_cons_of_mem _ hk))).resolve_left fun e => by have := hm.1 k hk; omega⟩]
theorem Live.eq {kvs : KV} {l m : List Int} (h : Live kvs l) (h' : Live kvs m) : l = m := up_ext h.up h'.up fun k => (h.mem k).trans (h'.mem k).symm
def pre_Snapshots___init__ (K : PySem.W.Frag) (as : List BV) : Prop := ∃ p dx, as = [.mv (.nd p (.obj dx (c_Snapshots K)) [])]
def post_Snapshots___init__ (K : PySem.W.Frag) (as : List BV) (r : MV) (as' : List BV) : Prop := r = .d .none ∧ ∃ p dx q, as = [.mv (.nd p (.obj dx (c_Snapshots K)) [])] ∧ as' = [.mv (Sn K p dx q [] 0)]
abbrev exc_Snapshots___init__ (_ : PySem.W.Frag) := noB
def pre_Snapshots_begin (K : PySem.W.Frag) (as : List BV) : Prop := ∃ p dx q kvs n x, as = [.mv (Sn K p dx q kvs n), .d x] ∧ SnOk kvs n ∧ n < 40
def post_Snapshots_begin (K : PySem.W.Frag) (as : List BV) (r : MV) (as' : List BV) : Prop := ∃ p dx q kvs n i, as = [.mv (Sn K p dx q kvs n), .d (.int i)] ∧ 0 ≤ i ∧ r = .d (.int (n + 1)) ∧ as' = [.mv (Sn K p dx q (kvs ++ [(n + 1, i)]) (n + 1)), .d (.int i)]
def exc_Snapshots_begin (K : PySem.W.Frag) (as : List BV) (c : Str) (y : PyData) (as' : List BV) : Prop := ∃ p dx q kvs n x, as = [.mv (Sn K p dx q kvs n), .d x] ∧ c = "InvalidSize" ∧ y = .str "stamp" ∧ numD x = false ∧ as' = as
def pre_Snapshots_stamp_of (K : PySem.W.Frag) (as : List BV) : Prop := ∃ p dx q kvs n x, as = [.mv (Sn K p dx q kvs n), .d x] ∧ SnOk kvs n
def post_Snapshots_stamp_of (K : PySem.W.Frag) (as : List BV) (r : MV) (as' : List BV) : Prop := ∃ p dx q kvs n x s, as = [.mv (Sn K p dx q kvs n), .d x] ∧ findS kvs x = some s ∧ r = .d (.int s) ∧ as' = as
def exc_Snapshots_stamp_of (K : PySem.W.Frag) (as : List BV) (c : Str) (y : PyData) (as' : List BV) : Prop := ∃ p dx q kvs n x, as = [.mv (Sn K p dx q kvs n), .d x] ∧ c = "NoName" ∧ y = x ∧ findS kvs x = none ∧ as' = as
def pre_Snapshots_close (K : PySem.W.Frag) (as : List BV) : Prop := ∃ p dx q kvs n x, as = [.mv (Sn K p dx q kvs n), .d x] ∧ SnOk kvs n
def post_Snapshots_close (K : PySem.W.Frag) (as : List BV) (r : MV) (as' : List BV) : Prop := ∃ p dx q kvs n x s, as = [.mv (Sn K p dx q kvs n), .d x] ∧ findS kvs x = some s ∧ r = .d (.int s) ∧ as' = [.mv (Sn K p dx q (offS kvs x) n), .d x]
def exc_Snapshots_close (K : PySem.W.Frag) (as : List BV) (c : Str) (y : PyData) (as' : List BV) : Prop := ∃ p dx q kvs n x, as = [.mv (Sn K p dx q kvs n), .d x] ∧ c = "NoName" ∧ y = x ∧ findS kvs x = none ∧ as' = as
def pre_Snapshots_live (K : PySem.W.Frag) (as : List BV) : Prop := ∃ p dx q kvs n, as = [.mv (Sn K p dx q kvs n)] ∧ SnOk kvs n
def post_Snapshots_live (K : PySem.W.Frag) (as : List BV) (r : MV) (as' : List BV) : Prop := ∃ p dx q kvs n ms, as = [.mv (Sn K p dx q kvs n)] ∧ Live kvs ms ∧ r = .d (.tuple (oD ms)) ∧ as' = as
abbrev exc_Snapshots_live (_ : PySem.W.Frag) := noB
def pre_Snapshots_holders (K : PySem.W.Frag) (as : List BV) : Prop := ∃ p dx q kvs n t, as = [.mv (Sn K p dx q kvs n), .d (.int t)] ∧ SnOk kvs n
def post_Snapshots_holders (K : PySem.W.Frag) (as : List BV) (r : MV) (as' : List BV) : Prop := ∃ p dx q kvs n t, as = [.mv (Sn K p dx q kvs n), .d (.int t)] ∧ r = .d (.tuple (oD ((kvs.filter fun y => y.2 == t).map (·.1)))) ∧ as' = as
abbrev exc_Snapshots_holders (_ : PySem.W.Frag) := noB
def pre_Snapshots_last_within (K : PySem.W.Frag) (as : List BV) : Prop := ∃ p dx q kvs n a b, as = [.mv (Sn K p dx q kvs n), .d (.int a), .d (.int b)] ∧ SnOk kvs n
def post_Snapshots_last_within (K : PySem.W.Frag) (as : List BV) (r : MV) (as' : List BV) : Prop := ∃ p dx q kvs n a b ms, as = [.mv (Sn K p dx q kvs n), .d (.int a), .d (.int b)] ∧ Live kvs ms ∧ r = .d (lastD (ms.filter fun k => decide (a ≤ k) && decide (k ≤ b))) ∧ as' = as
abbrev exc_Snapshots_last_within (_ : PySem.W.Frag) := noB
theorem len_Snapshots___init__ {K : PySem.W.Frag} : ∀ as, pre_Snapshots___init__ K as → as.length = 1 := by rintro as ⟨_, _, rfl⟩; rfl
theorem len_Snapshots_begin {K : PySem.W.Frag} : ∀ as, pre_Snapshots_begin K as → as.length = 2 := by rintro as ⟨_, _, _, _, _, _, rfl, _⟩; rfl
theorem len_Snapshots_stamp_of {K : PySem.W.Frag} : ∀ as, pre_Snapshots_stamp_of K as → as.length = 2 := by rintro as ⟨_, _, _, _, _, _, rfl, _⟩; rfl
theorem len_Snapshots_close {K : PySem.W.Frag} : ∀ as, pre_Snapshots_close K as → as.length = 2 := by rintro as ⟨_, _, _, _, _, _, rfl, _⟩; rfl
theorem len_Snapshots_live {K : PySem.W.Frag} : ∀ as, pre_Snapshots_live K as → as.length = 1 := by rintro as ⟨_, _, _, _, _, rfl, _⟩; rfl
theorem len_Snapshots_holders {K : PySem.W.Frag} : ∀ as, pre_Snapshots_holders K as → as.length = 2 := by rintro as ⟨_, _, _, _, _, _, rfl, _⟩; rfl
theorem len_Snapshots_last_within {K : PySem.W.Frag} : ∀ as, pre_Snapshots_last_within K as → as.length = 3 := by rintro as ⟨_, _, _, _, _, _, _, rfl, _⟩; rfl
section
variable {P : Program} {w : World} {K : PySem.W.Frag} {mg : Str → Option Value} {base : Heap} {f : Addr} {fd : FuncData}
abbrev s_Snapshots___init__ : Stmt := inClass (top 8) 0
abbrev N_Snapshots___init__ : List Str := ["self"]
theorem sc_Snapshots___init__ : FnScope N_Snapshots___init__ ["self"] (defScope s_Snapshots___init__) := ⟨rfl, rfl, rfl, by decide +kernel, rfl, by decide +kernel, by decide +kernel⟩
def w_Snapshots___init__ (K : PySem.W.Frag) : WS := (wSeq (wFld (c_Snapshots K) 0 (wrVar 0) wmDct)
 (wFld (c_Snapshots K) 1 (wrVar 0) (wmD (wC (.int 0)))))
def Go_Snapshots___init__ (K : PySem.W.Frag) : Prop := ∀ as, pre_Snapshots___init__ K as → w_Snapshots___init__ K (startB 1 as) ⟨fun s => finK as s fun as' => post_Snapshots___init__ K as (.d .none) as', fun d s => finK as s fun as' => post_Snapshots___init__ K as (.d d) as', fun _ => False, fun _ => False, fun c x s => finK as s fun as' => exc_Snapshots___init__ K as c x as'⟩
theorem ok_Snapshots___init__ (go : Go_Snapshots___init__ K) (F : FnM K "__init__" "Snapshots.__init__" s_Snapshots___init__ f fd) (T : Fx mg) (CF_Snapshots : CF K (c_Snapshots K)) : FnG P w K mg base (L2.CX P w) 1 f fd ["self"] (spB K (erL K) anyM (pre_Snapshots___init__ K) (post_Snapshots___init__ K) (exc_Snapshots___init__ K)) := by
  have nd := sc_Snapshots___init__.nd
  refine fn_wB (ws := w_Snapshots___init__ K) F sc_Snapshots___init__ len_Snapshots___init__ (by decide) (fun cdv A out s H E hG hr => ?_) go
  exact ⟨_, (dss_cons (ds_fld rfl CF_Snapshots (n := 0) rfl (dr_var (pv 0)) dm_dct)
 (dss_one (ds_fld rfl CF_Snapshots (n := 1) rfl (dr_var (pv 0)) (dm_d (de_int pe_int)))))⟩


abbrev s_Snapshots_begin : Stmt := inClass (top 8) 1
abbrev N_Snapshots_begin : List Str := ["self", "stamp"]
theorem sc_Snapshots_begin : FnScope N_Snapshots_begin ["self", "stamp"] (defScope s_Snapshots_begin) := ⟨rfl, rfl, rfl, by decide +kernel, rfl, by decide +kernel, by decide +kernel⟩
def w_Snapshots_begin (K : PySem.W.Frag) : WS := (wSeq (wIfS (wNot (wTest (wCall pre_is_number post_is_number exc_is_number (wuCons (wVar 1) wuNil)))) (wRaise "InvalidSize" (wC (.str "stamp")))
 wNext)
 (wSeq (wFldAug (c_Snapshots K) 1 gAddI (wrVar 0) (wC (.int 1)))
 (wSeq (wDPut (wrFld (c_Snapshots K) 0 (wrVar 0)) (wrFld (c_Snapshots K) 1 (wrVar 0)) (wmD (wVar 1)))
 (wRet (wR (wrFld (c_Snapshots K) 1 (wrVar 0)))))))
def Go_Snapshots_begin (K : PySem.W.Frag) : Prop := ∀ as, pre_Snapshots_begin K as → w_Snapshots_begin K (startB 2 as) ⟨fun s => finK as s fun as' => post_Snapshots_begin K as (.d .none) as', fun d s => finK as s fun as' => post_Snapshots_begin K as (.d d) as', fun _ => False, fun _ => False, fun c x s => finK as s fun as' => exc_Snapshots_begin K as c x as'⟩
theorem ok_Snapshots_begin (go : Go_Snapshots_begin K) (F : FnM K "begin" "Snapshots.begin" s_Snapshots_begin f fd) (T : Fx mg) (C_is_number : Ca5 P w K mg base (L2.CX P w) 2 "is_number" ["value"] (spU K (erL K) anyM pre_is_number post_is_number exc_is_number)) (CF_Snapshots : CF K (c_Snapshots K)) (R_InvalidSize : Er P w K mg base "InvalidSize" ((erL K).cl "InvalidSize") "word") : FnG P w K mg base (L2.CX P w) 3 f fd ["self", "stamp"] (spB K (erL K) anyM (pre_Snapshots_begin K) (post_Snapshots_begin K) (exc_Snapshots_begin K)) := by
  have nd := sc_Snapshots_begin.nd
  refine fn_wB (ws := w_Snapshots_begin K) F sc_Snapshots_begin len_Snapshots_begin (by decide) (fun cdv A out s H E hG hr => ?_) go
  exact ⟨_, (dss_cons (ds_if (dt_not (dt_val (de_call C_is_number hG (hr.mono (by decide)) (passW (takes_of rfl rfl rfl rfl)) (fun _ _ => trivial) (du_cons (de_var (pv 1)) du_nil)))) (dss_one (ds_raise R_InvalidSize rfl rfl rfl (takes_of rfl rfl rfl rfl) (hr.mono (by decide)) (de_str pe_str)))
 dss_nil)
 (dss_cons (ds_fldaug rfl CF_Snapshots (n := 1) rfl in_add os_rAdd (dr_var (pv 0)) (de_int pe_int) (fun h1 h2 => ps_fldaug h1 h2 in_add))
 (dss_cons (ds_dput (hu1 hr) (dr_fld rfl CF_Snapshots (n := 0) rfl (dr_var (pv 0))) (dr_fld rfl CF_Snapshots (n := 1) rfl (dr_var (pv 0))) (dm_d (de_var (pv 1))))
 (dss_one (ds_ret (de_r (dr_fld rfl CF_Snapshots (n := 1) rfl (dr_var (pv 0)))))))))⟩


abbrev s_Snapshots_stamp_of : Stmt := inClass (top 8) 2
abbrev N_Snapshots_stamp_of : List Str := ["self", "number"]
theorem sc_Snapshots_stamp_of : FnScope N_Snapshots_stamp_of ["self", "number"] (defScope s_Snapshots_stamp_of) := ⟨rfl, rfl, rfl, by decide +kernel, rfl, by decide +kernel, by decide +kernel⟩
def w_Snapshots_stamp_of (K : PySem.W.Frag) : WS := (wSeq (wIfS (wOr (wNot (wTest (wCall pre_is_number post_is_number exc_is_number (wuCons (wVar 1) wuNil)))) (wTB (wDIn true (wVar 1) (wrFld (c_Snapshots K) 0 (wrVar 0))))) (wRaise "NoName" (wVar 1))
 wNext)
 (wRet (wDGet (wrFld (c_Snapshots K) 0 (wrVar 0)) (wVar 1))))
def Go_Snapshots_stamp_of (K : PySem.W.Frag) : Prop := ∀ as, pre_Snapshots_stamp_of K as → w_Snapshots_stamp_of K (startB 2 as) ⟨fun s => finK as s fun as' => post_Snapshots_stamp_of K as (.d .none) as', fun d s => finK as s fun as' => post_Snapshots_stamp_of K as (.d d) as', fun _ => False, fun _ => False, fun c x s => finK as s fun as' => exc_Snapshots_stamp_of K as c x as'⟩
theorem ok_Snapshots_stamp_of (go : Go_Snapshots_stamp_of K) (F : FnM K "stamp_of" "Snapshots.stamp_of" s_Snapshots_stamp_of f fd) (T : Fx mg) (C_is_number : Ca5 P w K mg base (L2.CX P w) 2 "is_number" ["value"] (spU K (erL K) anyM pre_is_number post_is_number exc_is_number)) (CF_Snapshots : CF K (c_Snapshots K)) (R_NoName : Er P w K mg base "NoName" ((erL K).cl "NoName") "name") : FnG P w K mg base (L2.CX P w) 3 f fd ["self", "number"] (spB K (erL K) anyM (pre_Snapshots_stamp_of K) (post_Snapshots_stamp_of K) (exc_Snapshots_stamp_of K)) := by
  have nd := sc_Snapshots_stamp_of.nd
  refine fn_wB (ws := w_Snapshots_stamp_of K) F sc_Snapshots_stamp_of len_Snapshots_stamp_of (by decide) (fun cdv A out s H E hG hr => ?_) go
  exact ⟨_, (dss_cons (ds_if (dt_w (dw_or (dt_not (dt_val (de_call C_is_number hG (hr.mono (by decide)) (passW (takes_of rfl rfl rfl rfl)) (fun _ _ => trivial) (du_cons (de_var (pv 1)) du_nil)))) (dw_or1 (dt_dni (hu1 hr) (de_var (pv 1)) (dr_fld rfl CF_Snapshots (n := 0) rfl (dr_var (pv 0))))))) (dss_one (ds_raise R_NoName rfl rfl rfl (takes_of rfl rfl rfl rfl) (hr.mono (by decide)) (de_var (pv 1))))
 dss_nil)
 (dss_one (ds_ret (de_dget (hu1 hr) (dr_fld rfl CF_Snapshots (n := 0) rfl (dr_var (pv 0))) (de_var (pv 1))))))⟩


abbrev s_Snapshots_close : Stmt := inClass (top 8) 3
abbrev N_Snapshots_close : List Str := ["self", "number", "stamp"]
theorem sc_Snapshots_close : FnScope N_Snapshots_close ["self", "number"] (defScope s_Snapshots_close) := ⟨rfl, rfl, rfl, by decide +kernel, rfl, by decide +kernel, by decide +kernel⟩
def w_Snapshots_close (K : PySem.W.Frag) : WS := (wSeq (wSet 2 (wM (wmMeth (c_Snapshots K) (pre_Snapshots_stamp_of K) (post_Snapshots_stamp_of K) (exc_Snapshots_stamp_of K) [0, 1] 1 (List.length ([] : List Str)) (wrVar 0) (wbCons (wVar 1) wbNil) wbNil)))
 (wSeq (wDDel (wrFld (c_Snapshots K) 0 (wrVar 0)) (wrVar 1))
 (wRet (wVar 2))))
def Go_Snapshots_close (K : PySem.W.Frag) : Prop := ∀ as, pre_Snapshots_close K as → w_Snapshots_close K (startB 3 as) ⟨fun s => finK as s fun as' => post_Snapshots_close K as (.d .none) as', fun d s => finK as s fun as' => post_Snapshots_close K as (.d d) as', fun _ => False, fun _ => False, fun c x s => finK as s fun as' => exc_Snapshots_close K as c x as'⟩
theorem ok_Snapshots_close (go : Go_Snapshots_close K) (F : FnM K "close" "Snapshots.close" s_Snapshots_close f fd) (T : Fx mg) (C_Snapshots_stamp_of_K1_ : MthN P w K mg base (L2.CX P w) 3 (c_Snapshots K).ad "stamp_of" ["self", "number"] 1 [] [0, 1] (spB K (erL K) anyM (pre_Snapshots_stamp_of K) (post_Snapshots_stamp_of K) (exc_Snapshots_stamp_of K))) (CF_Snapshots : CF K (c_Snapshots K)) : FnG P w K mg base (L2.CX P w) 4 f fd ["self", "number"] (spB K (erL K) anyM (pre_Snapshots_close K) (post_Snapshots_close K) (exc_Snapshots_close K)) := by
  have nd := sc_Snapshots_close.nd
  refine fn_wB (ws := w_Snapshots_close K) F sc_Snapshots_close len_Snapshots_close (by decide) (fun cdv A out s H E hG hr => ?_) go
  exact ⟨_, (dss_cons (ds_set (i := 2) nd rfl (Or.inl rfl) (de_m (dm_meth C_Snapshots_stamp_of_K1_ hG (hr.mono (by decide)) (passW (takes_of rfl rfl rfl rfl)) (fun _ _ => trivial) (by show _ ∉ (["_stamps", "_last"] : List Str); decide) (dr_var (pv 0)) (db_cons (de_var (pv 1)) db_nil) dkb_nil)))
 (dss_cons (ds_ddel (dr_fld rfl CF_Snapshots (n := 0) rfl (dr_var (pv 0))) (dr_var (pv 1)))
 (dss_one (ds_ret (de_var (pv 2))))))⟩


abbrev s_Snapshots_live : Stmt := inClass (top 8) 4
abbrev N_Snapshots_live : List Str := ["self"]
theorem sc_Snapshots_live : FnScope N_Snapshots_live ["self"] (defScope s_Snapshots_live) := ⟨rfl, rfl, rfl, by decide +kernel, rfl, by decide +kernel, by decide +kernel⟩
def w_Snapshots_live (K : PySem.W.Frag) : WS := (wRet (wUn gToT (wUn gSSet (wDVals (wrFld (c_Snapshots K) 0 (wrVar 0))))))
def Go_Snapshots_live (K : PySem.W.Frag) : Prop := ∀ as, pre_Snapshots_live K as → w_Snapshots_live K (startB 1 as) ⟨fun s => finK as s fun as' => post_Snapshots_live K as (.d .none) as', fun d s => finK as s fun as' => post_Snapshots_live K as (.d d) as', fun _ => False, fun _ => False, fun c x s => finK as s fun as' => exc_Snapshots_live K as c x as'⟩
theorem ok_Snapshots_live (go : Go_Snapshots_live K) (F : FnM K "live" "Snapshots.live" s_Snapshots_live f fd) (T : Fx mg) (CF_Snapshots : CF K (c_Snapshots K)) : FnG P w K mg base (L2.CX P w) 1 f fd ["self"] (spB K (erL K) anyM (pre_Snapshots_live K) (post_Snapshots_live K) (exc_Snapshots_live K)) := by
  have nd := sc_Snapshots_live.nd
  refine fn_wB (ws := w_Snapshots_live K) F sc_Snapshots_live len_Snapshots_live (by decide) (fun cdv A out s H E hG hr => ?_) go
  exact ⟨_, (dss_one (ds_ret (de_t1 (cl_tupK K rfl) us_tup T.b_tuple (de_sset rfl rfl T.b_sorted T.b_set (de_dvals rfl T.b_list (dr_fld rfl CF_Snapshots (n := 0) rfl (dr_var (pv 0))))))))⟩


abbrev s_Snapshots_holders : Stmt := inClass (top 8) 5
abbrev N_Snapshots_holders : List Str := ["self", "stamp", "number", "looked_at"]
theorem sc_Snapshots_holders : FnScope N_Snapshots_holders ["self", "stamp"] (defScope s_Snapshots_holders) := ⟨rfl, rfl, rfl, by decide +kernel, rfl, by decide +kernel, by decide +kernel⟩
def w_Snapshots_holders (K : PySem.W.Frag) : WS := (wRet (wUn gToT (wUn gSorted (wLcD .items (wrFld (c_Snapshots K) 0 (wrVar 0)) (wgTup 2 (wgCons (wgName 2) (wgCons (wgName 3) wgNil))) (wTest (wOp gEq (wVar 3) (wVar 1))) (wVar 2) [2, 3]))))
def Go_Snapshots_holders (K : PySem.W.Frag) : Prop := ∀ as, pre_Snapshots_holders K as → w_Snapshots_holders K (startB 4 as) ⟨fun s => finK as s fun as' => post_Snapshots_holders K as (.d .none) as', fun d s => finK as s fun as' => post_Snapshots_holders K as (.d d) as', fun _ => False, fun _ => False, fun c x s => finK as s fun as' => exc_Snapshots_holders K as c x as'⟩
theorem ok_Snapshots_holders (go : Go_Snapshots_holders K) (F : FnM K "holders" "Snapshots.holders" s_Snapshots_holders f fd) (T : Fx mg) (CF_Snapshots : CF K (c_Snapshots K)) : FnG P w K mg base (L2.CX P w) 1 f fd ["self", "stamp"] (spB K (erL K) anyM (pre_Snapshots_holders K) (post_Snapshots_holders K) (exc_Snapshots_holders K)) := by
  have nd := sc_Snapshots_holders.nd
  refine fn_wB (ws := w_Snapshots_holders K) F sc_Snapshots_holders len_Snapshots_holders (by decide) (fun cdv A out s H E hG hr => ?_) go
  exact ⟨_, (dss_one (ds_ret (de_t1 (cl_tupK K rfl) us_tup T.b_tuple (de_b1 (cr_sortedX rfl) us_sorted T.b_sorted (de_lcItems (own := [("number", 2), ("looked_at", 3)]) (g := (gTup K 2 (gCons (gName 2) (gCons (gName 3) gNil)))) rfl nd (dr_fld rfl CF_Snapshots (n := 0) rfl (dr_var (pv 0))) (blkOk_by (own := [("number", 2), ("looked_at", 3)]) (N := N_Snapshots_holders) (sc := defScope s_Snapshots_holders) (by decide +kernel)) (tin_tup (tins_cons (tin_name (by decide)) (tins_cons (tin_name (by decide)) tins_nil))) (fun _ _ _ _ _ => (dg_tup rfl rfl (dgs_cons (dg_name (pg_name (i := 2) nd rfl (Or.inl rfl))) (dgs_cons (dg_name (pg_name (i := 3) nd rfl (Or.inl rfl))) dgs_nil)))) (fun _ _ _ _ _ => dts_one (dt_cmp (op_eqW rfl (hu64 hr)) os_eq (nomark _) (de_var (pv 3)) (de_var (pv 1)))) (fun _ _ _ _ _ => (de_var (pv 2))))))))⟩


abbrev s_Snapshots_last_within : Stmt := inClass (top 8) 6
abbrev N_Snapshots_last_within : List Str := ["self", "first", "last", "within", "stamp"]
theorem sc_Snapshots_last_within : FnScope N_Snapshots_last_within ["self", "first", "last"] (defScope s_Snapshots_last_within) := ⟨rfl, rfl, rfl, by decide +kernel, rfl, by decide +kernel, by decide +kernel⟩
def w_Snapshots_last_within (K : PySem.W.Frag) : WS := (wSeq (wSet 3 (wLc (wiSeq (wM (wmMeth (c_Snapshots K) (pre_Snapshots_live K) (post_Snapshots_live K) (exc_Snapshots_live K) [0] 0 (List.length ([] : List Str)) (wrVar 0) wbNil wbNil))) (wgName 4) (wTest (wChain gLe gLe (wVar 1) (wVar 4) (wVar 2))) (wVar 4) [4]))
 (wRet (wIf (wTr (wVar 3)) (wOp gIx (wVar 3) (wUn gNeg (wC (.int 1)))) (wC .none))))
def Go_Snapshots_last_within (K : PySem.W.Frag) : Prop := ∀ as, pre_Snapshots_last_within K as → w_Snapshots_last_within K (startB 5 as) ⟨fun s => finK as s fun as' => post_Snapshots_last_within K as (.d .none) as', fun d s => finK as s fun as' => post_Snapshots_last_within K as (.d d) as', fun _ => False, fun _ => False, fun c x s => finK as s fun as' => exc_Snapshots_last_within K as c x as'⟩
theorem ok_Snapshots_last_within (go : Go_Snapshots_last_within K) (F : FnM K "last_within" "Snapshots.last_within" s_Snapshots_last_within f fd) (T : Fx mg) (C_Snapshots_live_K0_ : MthN P w K mg base (L2.CX P w) 1 (c_Snapshots K).ad "live" ["self"] 0 [] [0] (spB K (erL K) anyM (pre_Snapshots_live K) (post_Snapshots_live K) (exc_Snapshots_live K))) : FnG P w K mg base (L2.CX P w) 2 f fd ["self", "first", "last"] (spB K (erL K) anyM (pre_Snapshots_last_within K) (post_Snapshots_last_within K) (exc_Snapshots_last_within K)) := by
  have nd := sc_Snapshots_last_within.nd
  refine fn_wB (ws := w_Snapshots_last_within K) F sc_Snapshots_last_within len_Snapshots_last_within (by decide) (fun cdv A out s H E hG hr => ?_) go
  exact ⟨_, (dss_cons (ds_setLc (i := 3) (own := [("stamp", 4)]) (g := (gName 4)) rfl nd rfl rfl (sw_true rfl rfl rfl (by decide +kernel)) (di_seq rfl (de_m (dm_meth0 C_Snapshots_live_K0_ hG (hr.mono (by decide)) (passW (takes_of rfl rfl rfl rfl)) (fun _ _ => trivial) (by show _ ∉ (["_stamps", "_last"] : List Str); decide) (dr_var (pv 0)) dkb_nil))) (blkOk_by (own := [("stamp", 4)]) (N := N_Snapshots_last_within) (sc := defScope s_Snapshots_last_within) (by decide +kernel)) (tin_name (by decide)) (fun _ _ _ _ _ => (dg_name (pg_name (i := 4) nd rfl (Or.inl rfl)))) (fun _ _ _ _ _ => dts_one (dt_chain op_leW op_leW os_le os_le (de_var (pv 1)) (de_var (pv 4)) (de_var (pv 2)))) (fun _ _ _ _ _ => (de_var (pv 4))))
 (dss_one (ds_ret (de_ifx (dt_tr rfl (de_var (pv 3))) (de_ix rfl (de_var (pv 3)) (de_un un_neg us_neg (de_int pe_int))) (de_non pe_non)))))⟩


end
theorem go_Snapshots___init__ {K : PySem.W.Frag} : Go_Snapshots___init__ K := by
  rintro as ⟨p, dx, rfl⟩
  unfold w_Snapshots___init__
  walk_at "go"
  refine fun q => ⟨by decide, ?_⟩
  walk_at "dt"
  refine ⟨by decide, ?_⟩
  exact ⟨rfl, p, dx, q, rfl, rfl⟩
theorem go_Snapshots_begin {K : PySem.W.Frag} : Go_Snapshots_begin K := by
  rintro as ⟨p, dx, q, kvs, n, x, rfl, ok, hn⟩
  unfold w_Snapshots_begin
  walk_at "go"
  refine ⟨⟨_, rfl⟩, num_use ?_, fun _ _ z => z.elim⟩
  walk_at "dw"
  split
  · rename_i h
    exact ⟨p, dx, q, kvs, n, x, rfl, rfl, rfl, by simpa using h, rfl⟩
  · rename_i h
    obtain ⟨i, rfl, hi⟩ := num_inv (x := x) (by simpa using h)
    walk_at "ds"
    refine ⟨by decide, ?_⟩
    walk_at "dt"
    have hz := sizeLine_eq
    have l1 := ok.few
    have l2 := ok.n0
    refine ⟨by rw [List.length_map]; omega, ?_⟩
    have e : dPut q (kk kvs) (vv kvs) (.inl (n + 1)) (.d (.int i)) = .nd q (.dct (kk (kvs ++ [(n + 1, i)]))) (vv (kvs ++ [(n + 1, i)])) := by
      unfold dPut
      rw [pos_new fun x hx => (ok.le x hx).2]
      simp [kk, vv]
    rw [e]
    walk_at "dt"
    exact ⟨p, dx, q, kvs, n, i, rfl, hi, rfl, rfl⟩
theorem go_Snapshots_stamp_of {K : PySem.W.Frag} : Go_Snapshots_stamp_of K := by
  rintro as ⟨p, dx, q, kvs, n, x, rfl, ok⟩
  unfold w_Snapshots_stamp_of
  walk_at "go"
  refine ⟨⟨_, rfl⟩, num_use ?_, fun _ _ z => z.elim⟩
  walk_at "dw"
  split
  · rename_i h
    refine ⟨p, dx, q, kvs, n, x, rfl, rfl, rfl, ?_, rfl⟩
    have h2 : numD x = false := by simpa using h
    cases x <;> first | rfl | skip
    rename_i i
    rcases pos_find (kvs := kvs) (i := i) ok.up with ⟨_, e⟩ | ⟨j, s, _, e, _⟩
    · exact e
    · have := (ok.le _ (List.mem_of_getElem? e)).1
      have h3 : ¬ 0 ≤ i := by simpa [numD] using h2
      simp only at this
      omega
  · rename_i h
    obtain ⟨i, rfl, hi⟩ := num_inv (x := x) (by simpa using h)
    walk_at "dw"
    rcases pos_find (kvs := kvs) (i := i) ok.up with ⟨e1, e2⟩ | ⟨j, s, e1, e2, e3, _⟩
    · rw [if_pos (by rw [e1]; rfl)]
      exact ⟨p, dx, q, kvs, n, _, rfl, rfl, rfl, e2, rfl⟩
    · rw [if_neg (by rw [e1]; simp)]
      walk_at "ds"
      unfold dAt
      rw [e1]
      have e4 : (vv kvs)[j]? = some (.d (.int s)) := by rw [List.getElem?_map, e2]; rfl
      dsimp only
      rw [e4]
      exact ⟨p, dx, q, kvs, n, _, s, rfl, e3, rfl, rfl⟩
theorem up_len : ∀ {l m : List Int}, l.Pairwise (· < ·) → (∀ k ∈ l, k ∈ m) → l.length ≤ m.length
  | [], m, _, _ => Nat.zero_le _
  | x :: l, m, hl, h => by
    rw [List.pairwise_cons] at hl
    have hx := h x (List.mem_cons_self ..)
    have := up_len (l := l) (m := m.erase x) hl.2 fun k hk => (List.mem_erase_of_ne (by have := hl.1 k hk; omega)).mpr (h k (List.mem_cons_of_mem _ hk))
    rw [List.length_erase_of_mem hx] at this
    have := List.length_pos_of_mem hx
    rw [List.length_cons]; omega
theorem Live.len {kvs : KV} {ms : List Int} (h : Live kvs ms) : ms.length ≤ kvs.length := by
  have := up_len h.up fun k hk => (h.mem k).mp hk
  rwa [List.length_map] at this
theorem lastD_at {l : List Int} (h : l ≠ []) : ∃ i, (oD l)[l.length - 1]? = some (.int i) ∧ lastD l = .int i := by
  have hl : 0 < l.length := List.length_pos_iff.mpr h
  refine ⟨l[l.length - 1], ?_, ?_⟩
  · unfold oD; rw [List.getElem?_map, List.getElem?_eq_getElem (by omega)]; rfl
  · unfold lastD; rw [List.getLast?_eq_getElem?, List.getElem?_eq_getElem (by omega)]
theorem intsOf_oD : ∀ ns : List Int, intsOf (oD ns) = some ns
  | [] => rfl
  | x :: ns => by show (intsOf (oD ns)).map (x :: ·) = _; rw [intsOf_oD ns]; rfl
theorem at_last {l : List Int} (h : l ≠ []) : L2.atI (oD l) (-1) = some (lastD l) := by
  obtain ⟨i, h1, h2⟩ := lastD_at h
  rw [h2]
  have hl : 0 < l.length := List.length_pos_iff.mpr h
  exact DL.atI_m1 h1 (by rw [oD_len]; omega)
theorem erase_map {α β : Type} (f : α → β) : ∀ (l : List α) (j : Nat), (l.map f).eraseIdx j = (l.eraseIdx j).map f
  | [], _ => rfl
  | _ :: _, 0 => rfl
  | x :: l, j + 1 => by rw [List.map_cons, List.eraseIdx_cons_succ, List.eraseIdx_cons_succ, List.map_cons, erase_map f l j]
theorem kv_at {kvs : KV} {i : Nat} {d : PyData} (h : (md3 .items (kvs.map fun x => (Sum.inl x.1 : Key)) (oD (kvs.map fun x => x.2)))[i]? = some d) : ∃ a b, kvs[i]? = some (a, b) ∧ d = .tuple [.int a, .int b] := by
  obtain ⟨k, x, h1, h2, rfl⟩ := zw_at h
  unfold oD at h2
  rw [List.getElem?_map] at h1
  rw [List.getElem?_map, List.getElem?_map] at h2
  cases e : kvs[i]? with
  | none => rw [e] at h1; cases h1
  | some y =>
    rw [e] at h1 h2
    cases h1
    cases h2
    exact ⟨y.1, y.2, rfl, rfl⟩
theorem kv_inj : ∀ {l m : KV}, (l.map fun x => (Sum.inl x.1 : Key)) = m.map (fun x => Sum.inl x.1) → (l.map fun x => MV.d (.int x.2)) = m.map (fun x => MV.d (.int x.2)) → l = m
  | [], [], _, _ => rfl
  | [], _ :: _, h, _ => by cases h
  | _ :: _, [], h, _ => by cases h
  | (a, b) :: l, (c, d) :: m, h1, h2 => by
    rw [List.map_cons, List.map_cons] at h1 h2
    obtain ⟨e1, e2⟩ := List.cons.inj h1
    obtain ⟨e3, e4⟩ := List.cons.inj h2
    have e1 := Sum.inl.inj e1
    have e3 := PyData.int.inj (MV.d.inj e3)
    dsimp only at e1 e3
    rw [e1, e3, kv_inj e2 e4]
theorem sn_inj {K : PySem.W.Frag} {p dx q p' dx' q' : Addr} {kvs kvs' : KV} {n n' : Int} (h : Sn K p dx q kvs n = Sn K p' dx' q' kvs' n') : p = p' ∧ dx = dx' ∧ q = q' ∧ kvs = kvs' ∧ n = n' := by
  obtain ⟨h1, h2, h3⟩ := MV.nd.inj h
  obtain ⟨h4, h5⟩ := List.cons.inj h3
  obtain ⟨h6, h7, h8⟩ := MV.nd.inj h4
  exact ⟨h1, (Kd.obj.inj h2).1, h6, kv_inj (Kd.dct.inj h7) h8, PyData.int.inj (MV.d.inj (List.cons.inj h5).1)⟩
section
variable {K : PySem.W.Frag} {p dx q p' dx' q' : Addr} {kvs kvs' : KV} {n n' : Int} {x x' : PyData}
theorem sn1 (h : [BV.mv (Sn K p dx q kvs n)] = [BV.mv (Sn K p' dx' q' kvs' n')]) : p = p' ∧ dx = dx' ∧ q = q' ∧ kvs = kvs' ∧ n = n' := sn_inj (BV.mv.inj (List.cons.inj h).1)
theorem sn2 (h : [BV.mv (Sn K p dx q kvs n), .d x] = [BV.mv (Sn K p' dx' q' kvs' n'), .d x']) : p = p' ∧ dx = dx' ∧ q = q' ∧ kvs = kvs' ∧ n = n' ∧ x = x' := by
  obtain ⟨h1, h2⟩ := List.cons.inj h
  obtain ⟨a, b, c, d, e⟩ := sn_inj (BV.mv.inj h1)
  exact ⟨a, b, c, d, e, BV.d.inj (List.cons.inj h2).1⟩
theorem stamp_use {P : MV → List BV → Prop} (h : ∀ s, findS kvs x = some s → P (.d (.int s)) [.mv (Sn K p dx q kvs n), .d x]) : ∀ r as', post_Snapshots_stamp_of K [.mv (Sn K p dx q kvs n), .d x] r as' → P r as' := by
  rintro r as' ⟨p', dx', q', kvs', n', x', s, e, hs, rfl, rfl⟩
  obtain ⟨rfl, rfl, rfl, rfl, rfl, rfl⟩ := sn2 e
  exact h s hs
theorem stamp_err {P : Str → PyData → List BV → Prop} (h : findS kvs x = none → P "NoName" x [.mv (Sn K p dx q kvs n), .d x]) : ∀ c y as', exc_Snapshots_stamp_of K [.mv (Sn K p dx q kvs n), .d x] c y as' → P c y as' := by
  rintro c y as' ⟨p', dx', q', kvs', n', x', e, rfl, rfl, hs, rfl⟩
  obtain ⟨rfl, rfl, rfl, rfl, rfl, rfl⟩ := sn2 e
  exact h hs
theorem close_use {P : MV → List BV → Prop} (h : ∀ s, findS kvs x = some s → P (.d (.int s)) [.mv (Sn K p dx q (offS kvs x) n), .d x]) : ∀ r as', post_Snapshots_close K [.mv (Sn K p dx q kvs n), .d x] r as' → P r as' := by
  rintro r as' ⟨p', dx', q', kvs', n', x', s, e, hs, rfl, rfl⟩
  obtain ⟨rfl, rfl, rfl, rfl, rfl, rfl⟩ := sn2 e
  exact h s hs
theorem close_err {P : Str → PyData → List BV → Prop} (h : findS kvs x = none → P "NoName" x [.mv (Sn K p dx q kvs n), .d x]) : ∀ c y as', exc_Snapshots_close K [.mv (Sn K p dx q kvs n), .d x] c y as' → P c y as' := by
  rintro c y as' ⟨p', dx', q', kvs', n', x', e, rfl, rfl, hs, rfl⟩
  obtain ⟨rfl, rfl, rfl, rfl, rfl, rfl⟩ := sn2 e
  exact h hs
theorem begin_use {P : MV → List BV → Prop} (h : ∀ i, x = .int i → 0 ≤ i → P (.d (.int (n + 1))) [.mv (Sn K p dx q (kvs ++ [(n + 1, i)]) (n + 1)), .d (.int i)]) : ∀ r as', post_Snapshots_begin K [.mv (Sn K p dx q kvs n), .d x] r as' → P r as' := by
  rintro r as' ⟨p', dx', q', kvs', n', i, e, hi, rfl, rfl⟩
  obtain ⟨rfl, rfl, rfl, rfl, rfl, e2⟩ := sn2 e
  exact h i e2 hi
theorem begin_err {P : Str → PyData → List BV → Prop} (h : numD x = false → P "InvalidSize" (.str "stamp") [.mv (Sn K p dx q kvs n), .d x]) : ∀ c y as', exc_Snapshots_begin K [.mv (Sn K p dx q kvs n), .d x] c y as' → P c y as' := by
  rintro c y as' ⟨p', dx', q', kvs', n', x', e, rfl, rfl, hs, rfl⟩
  obtain ⟨rfl, rfl, rfl, rfl, rfl, rfl⟩ := sn2 e
  exact h hs
theorem live_use {P : MV → List BV → Prop} (h : ∀ ms, Live kvs ms → P (.d (.tuple (oD ms))) [.mv (Sn K p dx q kvs n)]) : ∀ r as', post_Snapshots_live K [.mv (Sn K p dx q kvs n)] r as' → P r as' := by
  rintro r as' ⟨p', dx', q', kvs', n', ms, e, hl, rfl, rfl⟩
  obtain ⟨rfl, rfl, rfl, rfl, rfl⟩ := sn1 e
  exact h ms hl
theorem holders_use {t : Int} {P : MV → List BV → Prop} (h : P (.d (.tuple (oD ((kvs.filter fun y => y.2 == t).map (·.1))))) [.mv (Sn K p dx q kvs n), .d (.int t)]) : ∀ r as', post_Snapshots_holders K [.mv (Sn K p dx q kvs n), .d (.int t)] r as' → P r as' := by
  rintro r as' ⟨p', dx', q', kvs', n', t', e, rfl, rfl⟩
  obtain ⟨rfl, rfl, rfl, rfl, rfl, e2⟩ := sn2 e
  cases PyData.int.inj e2
  exact h
theorem within_use {a b : Int} {P : MV → List BV → Prop} (h : ∀ ms, Live kvs ms → P (.d (lastD (ms.filter fun k => decide (a ≤ k) && decide (k ≤ b)))) [.mv (Sn K p dx q kvs n), .d (.int a), .d (.int b)]) : ∀ r as', post_Snapshots_last_within K [.mv (Sn K p dx q kvs n), .d (.int a), .d (.int b)] r as' → P r as' := by
  rintro r as' ⟨p', dx', q', kvs', n', a', b', ms, e, hl, rfl, rfl⟩
  obtain ⟨e1, e2⟩ := List.cons.inj e
  obtain ⟨rfl, rfl, rfl, rfl, rfl⟩ := sn_inj (BV.mv.inj e1)
  obtain ⟨e3, e4⟩ := List.cons.inj e2
  cases PyData.int.inj (BV.d.inj e3)
  cases PyData.int.inj (BV.d.inj (List.cons.inj e4).1)
  exact h ms hl
end
theorem go_Snapshots_close {K : PySem.W.Frag} : Go_Snapshots_close K := by
  rintro as ⟨p, dx, q, kvs, n, x, rfl, ok⟩
  unfold w_Snapshots_close
  walk_at "go"
  refine ⟨⟨_, _, _, _, _, _, rfl, ok⟩, stamp_use fun s hs => ?_, stamp_err fun hs => ?_⟩
  · obtain ⟨i, rfl, hm⟩ := find_mem hs
    walk_at "dt"
    rcases pos_find (kvs := kvs) (i := i) ok.up with ⟨e1, e2⟩ | ⟨j, s', e1, e2, e3, e4⟩
    · rw [e2] at hs; cases hs
    · refine ⟨by rw [e1]; rfl, ?_⟩
      have e : dDel q (kk kvs) (vv kvs) (.inl i) = .nd q (.dct (kk (offS kvs (.int i)))) (vv (offS kvs (.int i))) := by
        unfold dDel
        rw [e1]
        show MV.nd q (.dct ((kk kvs).eraseIdx j)) ((vv kvs).eraseIdx j) = MV.nd q (.dct (kk (kvs.filter fun y => !(y.1 == i)))) (vv (kvs.filter fun y => !(y.1 == i)))
        rw [e4]
        simp only [kk, vv, erase_map]
      rw [e]
      walk_at "dt"
      exact ⟨p, dx, q, kvs, n, _, s, rfl, hs, rfl, rfl⟩
  · walk_at "dt"
    exact ⟨p, dx, q, kvs, n, x, rfl, rfl, rfl, hs, rfl⟩
theorem go_Snapshots_live {K : PySem.W.Frag} : Go_Snapshots_live K := by
  rintro as ⟨p, dx, q, kvs, n, rfl, ok⟩
  unfold w_Snapshots_live
  walk_at "go"
  rw [show allD (List.map (fun x => MV.d (.int x.snd)) kvs) = _ from all_vv kvs]
  walk_at "dw"
  have l1 := ok.few
  have l2 := ok.n0
  have l3 := ok.n1
  refine ⟨kvs.map (·.2), rfl, by rw [List.length_map]; omega, fun ms hs hm => ?_⟩
  exact ⟨p, dx, q, kvs, n, ms, rfl, ⟨hs, hm⟩, rfl, rfl⟩
theorem go_Snapshots_holders {K : PySem.W.Frag} : Go_Snapshots_holders K := by
  rintro as ⟨p, dx, q, kvs, n, t, rfl, ok⟩
  unfold w_Snapshots_holders
  walk_at "go"
  rw [show allD (List.map (fun x => MV.d (.int x.snd)) kvs) = _ from all_vv kvs]
  walk_at "dw"
  have l1 := ok.few
  have l2 := ok.n0
  have l3 := ok.n1
  have hz := sizeLine_eq
  have ln : (md3 Md3.items (kk kvs) (oD (kvs.map (·.2)))).length = kvs.length := by simp [md3, kk, oD]
  refine ⟨by rw [ln]; omega, fun i acc s => s = [some (.mv (.nd p (.obj dx (c_Snapshots K)) [.hole q, .d (.int n)])), some (.d (.int t)), none, none] ∧ acc = oD (((kvs.take i).filter fun y => y.2 == t).map (·.1)), ⟨rfl, rfl⟩, ?_, ?_⟩
  · rintro i d acc s2 hd ⟨rfl, rfl⟩
    obtain ⟨a, b, hk, rfl⟩ := kv_at hd
    walk_at "dw"
    split
    · rename_i h
      rw [List.take_add_one, hk, List.filter_append, List.map_append]
      simp [oD, h]
    · rename_i h
      rw [List.take_add_one, hk, List.filter_append, List.map_append]
      simp [oD, h]
  · rintro acc s2 ⟨rfl, rfl⟩
    rw [ln, List.take_length]
    have up : ((kvs.filter fun y => y.2 == t).map (·.1)).Pairwise (· < ·) := ok.up.sublist (List.filter_sublist.map _)
    refine ⟨rfl, _, rfl, .inl ⟨_, intsOf_oD _, fun ns' hp hs => ?_⟩⟩
    have e : ns' = (kvs.filter fun y => y.2 == t).map (·.1) := hp.eq_of_pairwise (fun a b _ _ h1 h2 => Int.le_antisymm h1 h2) hs (up.imp Int.le_of_lt)
    subst e
    walk_at "dw"
    exact ⟨p, dx, q, kvs, n, t, rfl, rfl, rfl⟩
theorem go_Snapshots_last_within {K : PySem.W.Frag} : Go_Snapshots_last_within K := by
  rintro as ⟨p, dx, q, kvs, n, a, b, rfl, ok⟩
  unfold w_Snapshots_last_within
  walk_at "go"
  refine ⟨⟨_, _, _, _, _, rfl, ok⟩, live_use fun ms hm => ?_, fun _ _ _ z => z.elim⟩
  walk_at "dw"
  have l1 := ok.few
  have l2 := ok.n0
  have l3 := ok.n1
  have l4 := hm.len
  have hz := sizeLine_eq
  refine ⟨by omega, fun i acc s => s = [some (.mv (Sn K p dx q kvs n)), some (.d (.int a)), some (.d (.int b)), none, none] ∧ acc = oD ((ms.take i).filter fun k => decide (a ≤ k) && decide (k ≤ b)), ⟨rfl, rfl⟩, ?_, ?_⟩
  · rintro i d acc s2 hd ⟨rfl, rfl⟩
    obtain ⟨y, hy, rfl⟩ := oD_at hd
    walk_at "dw"
    have e : ∀ c : Bool, (decide (a ≤ y) && decide (y ≤ b)) = c → oD (((ms.take (i + 1)).filter fun k => decide (a ≤ k) && decide (k ≤ b))) = oD ((ms.take i).filter fun k => decide (a ≤ k) && decide (k ≤ b)) ++ if c = true then [.int y] else [] := fun c hc => by
      rw [List.take_add_one, hy, List.filter_append]
      subst hc
      cases h : (decide (a ≤ y) && decide (y ≤ b)) <;> simp [oD, List.filter_cons, h]
    by_cases h1 : a ≤ y
    · rw [decide_eq_true h1]
      dsimp only
      by_cases h2 : y ≤ b
      · rw [if_pos h2, e true (by rw [decide_eq_true h1, decide_eq_true h2]; rfl)]; rfl
      · rw [if_neg h2, e false (by rw [decide_eq_true h1, decide_eq_false h2]; rfl)]; simp
    · rw [decide_eq_false h1]
      show oD _ = oD _
      rw [e false (by rw [decide_eq_false h1]; rfl)]; simp
  · rintro acc s2 ⟨rfl, rfl⟩
    rw [oD_len, List.take_length]
    walk_at "ds"
    generalize hf : ms.filter (fun k => decide (a ≤ k) && decide (k ≤ b)) = fs
    have done : ∀ d, d = lastD fs → post_Snapshots_last_within K [.mv (Sn K p dx q kvs n), .d (.int a), .d (.int b)] (.d d) [.mv (Sn K p dx q kvs n), .d (.int a), .d (.int b)] := fun d hd => ⟨p, dx, q, kvs, n, a, b, ms, rfl, hm, by rw [hd, hf], rfl⟩
    cases fs with
    | nil => exact done _ rfl
    | cons x fs => exact ⟨_, at_last (by simp), done _ rfl⟩
end K18

namespace K18
open PySem PySem.Spec
open PyProof.Rows L2 DL DW
local macro_rules | `(tactic| walk_at "dw0") => `(tactic| simp only [DW.startS, DW.AV.sv, DW.startB, DW.BV.sv, List.map_cons, List.map_nil, List.length_cons, List.length_nil, List.replicate_succ, List.replicate_zero, List.cons_append, List.nil_append, Nat.reduceAdd, Nat.reduceSub])
local macro_rules | `(tactic| walk_at "dw") => `(tactic| simp (maxSteps := 2000000) only [DW.wSeq, DW.wNext, DW.wSetM, DW.wFld, DW.wrFld, DW.wrVar, DW.wrC, DW.wR, DW.plc, DW.putAt, DW.chld, DW.getM, DW.setM, DW.setC, DW.wDGet, DW.wDIn, DW.wTB, DW.wAsM, DW.wLcM, DW.wDPut, DW.wDDel, DW.wDVals, DW.keyD, DW.allD_map, DW.wFldAug, DW.wM, DW.wmD, DW.wmDct, DW.wmLst, DW.wmCall, DW.wmCallK, DW.callK, DW.lendK, DW.backK, DW.holeAt, DW.avB, DW.wbNil, DW.wbCons, DW.wmMeth, DW.wmMake, DW.finK, DW.wTry_eq, DW.wXf, DW.wIsX, DW.gSSet, DW.wLcD, DW.isHole, DW.wParM, List.tail_cons, List.append_nil, DW.wIfS, DW.wRet, DW.wRetN, DW.wBreak, DW.wCont, DW.wSet, DW.wAsg, DW.wNew, DW.wNewL, DW.wNewC, DW.wExpr, DW.wApp, DW.wExt, DW.wExtA, DW.wPop, DW.wAug, DW.wRaise, DW.wVar, DW.wC, DW.wRaw, DW.wOp, DW.wUn, DW.waNil, DW.waCons, DW.wCB, DW.wTup, DW.wLst, DW.wTest, DW.wYes, DW.wAnd, DW.wOr, DW.wNot, DW.wTr, DW.gTr, DW.wAndV, DW.wOrV, DW.wNotV, DW.wIf, DW.rdq, DW.frz, DW.asg, DW.avf, DW.wuNil, DW.wuCons, DW.wCall, DW.wCallK, DW.wNotKD, DW.wIxKD, DW.wCallV, DW.wHear, DW.wgName, DW.wgTup, DW.wgCons, DW.wgNil,
  DW.wParN, DW.wnNil, DW.wnD, DW.wnNew, DW.asgN, DW.gAdd, DW.gSub, DW.gMul, DW.gMod, DW.gDiv, DW.gPow, DW.gLt, DW.gLe, DW.gGt, DW.gGe, DW.gEq, DW.gNe, DW.gEqS, DW.gNeS, DW.pick, List.filterMap_cons, List.filterMap_nil, DW.gInB, DW.gIs, DW.gIsNot, DW.gIx, DW.gNeg, DW.gLen, DW.gToT, DW.gToL, DW.gInt, DW.gAbs, DW.gRepr, DW.gMin2, DW.gMax2, DW.gOrd, DW.gStr, DW.gAddI, DW.gSubI, DW.gIsB, DW.gIsntB, DW.gRep, DW.gSorted, DW.wJoin, DW.gJoin, DW.wIndex, DW.gIndex, DW.wRg1, DW.wRg2, DW.LT.mk, DW.wiSeq, DW.wiRng1, DW.wiRng2, DW.wiRngB, DW.wiEnumX, DW.wiEnum, DW.wipeS, DL.truth, DL.isNo, DW.wIsi, DW.wChain, DW.wSl, DW.gSl, DW.gRev, DW.woNone, DW.woSome, DW.wFor_eq, DW.wLc_eq, DW.wNewLc_eq, DW.one_ord, DW.one_len, DL.oD_len,
  DW.eqv_int, DW.sh_intT, true_and, List.getElem?_nil, List.getElem?_cons_zero, List.getElem?_cons_succ, List.set_cons_zero, List.set_cons_succ, List.length_cons, List.length_nil, if_true, if_false, decide_eq_true_eq, Bool.false_eq_true, reduceIte, List.cons_append, List.nil_append, Nat.reduceAdd, Bool.not_true, Bool.not_false])
local macro_rules | `(tactic| walk_at "ds") => `(tactic| repeat ((with_reducible refine DW.Kt_i ?_); (walk_at "dw")))
local macro_rules | `(tactic| walk_at "go") => `(tactic| ((walk_at "dw0"); (walk_at "dw"); (walk_at "ds")))
local macro_rules | `(tactic| walk_at "dt") => `(tactic| ((try walk_at "dw"); (walk_at "ds")))
local macro_rules | `(tactic| walk_at "ex") => `(tactic| ((with_reducible refine DW.TryK_i ?_); (simp only [DW.wTryK, DW.offW]); (walk_at "dw")))
/-! ### the draws -/
theorem fng_conv {P : Program} {w : World} {K : PySem.W.Frag} {mg : Str → Option Value} {base : Heap} {CX : CXT} {k : Nat} {f : Addr} {fd : FuncData} {ps : List Str} {sp sp' : Sp} (F : FnG P w K mg base CX k f fd ps sp) (h : ∀ vs H Q E, sp' vs H Q E → sp vs H Q E) : FnG P w K mg base CX k f fd ps sp' :=
  ⟨fun vs H Q E z => F.siz vs H Q E (h vs H Q E z), fun A out s H ar us vs Q E g hr e0 bd r hs => F.go A out s H ar us vs Q E g hr e0 bd r (h vs H Q E hs)⟩
def pre__law_draw (as : List AV) : Prop := ∃ n : Int, as = [.drw, .d (.int n)] ∧ 0 < n ∧ n < 2 ^ 60
def post__law_draw (as : List AV) (d : PyData) : Prop := ∃ n i : Int, as = [.drw, .d (.int n)] ∧ d = .int i ∧ 0 ≤ i ∧ i < n
abbrev exc__law_draw := noE
abbrev s__law_draw : Stmt := top 11
abbrev N__law_draw : List Str := ["_law_deal_here", "_law_bound", "_law_rest"]
theorem sc__law_draw : FnScope N__law_draw ["_law_deal_here", "_law_bound"] (defScope s__law_draw) := ⟨rfl, rfl, rfl, by decide +kernel, rfl, by decide +kernel, by decide +kernel⟩
abbrev s__law_deal : Stmt := top 10
abbrev N__law_deal : List Str := ["_law_script", "_law_base", "_law_cells", "_law_blend", "_law_cell"]
theorem sc__law_deal : FnScope N__law_deal ["_law_script", "_law_base"] (defScope s__law_deal) := ⟨rfl, rfl, rfl, by decide +kernel, rfl, by decide +kernel, by decide +kernel⟩
theorem drw_inv {K : PySem.W.Frag} {er : Ers} {pre : List AV → Prop} {post : List AV → PyData → Prop} {exc : List AV → Str → PyData → Prop} (hp : ∀ as, pre as → ∃ n : Int, as = [.drw, .d (.int n)] ∧ 0 < n ∧ n < 2 ^ 60) (hq : ∀ (n i : Int), 0 ≤ i → i < n → post [.drw, .d (.int n)] (.int i)) {vs : List V} {H : Hp} {Q : VK} {E : XK} (h : spU K er anyM pre post exc vs H Q E) : spDr K vs H Q E := by
  obtain ⟨M, J, as, _, wf, av, p, q, _⟩ := h
  obtain ⟨n, rfl, n0, n1⟩ := hp as p
  cases av with
  | cons a1 b1 =>
    cases b1 with
    | cons a2 b2 =>
      cases b2
      obtain ⟨h, g, rfl, hd⟩ := a1
      exact ⟨M, h, g, J, _, [.int n], rfl, hd, wf, .cons a2 .nil, ⟨n, rfl, n0, by omega⟩, fun v d J' H' w' t pd ad => by
        obtain ⟨i, rfl, i0, i1⟩ := pd n rfl
        exact q v (.int i) J' H' t (hq n i i0 i1) ad⟩
section
variable {P : Program} {w : World} {K : PySem.W.Frag} {mg : Str → Option Value} {base : Heap} {f : Addr} {fd : FuncData}
theorem ok__law_draw (F : FnP K "_law_draw" s__law_draw f fd) (T : Fx mg) : FnG P w K mg base (L2.CX P w) 1 f fd ["_law_deal_here", "_law_bound"] (spU K (erL K) anyM pre__law_draw post__law_draw exc__law_draw) := by
  have nd := sc__law_draw.nd
  refine fng_conv (sp := spDr K) ?_ (fun vs H Q E h => drw_inv (fun as h => h) (fun n i h1 h2 => ⟨n, i, rfl, rfl, h1, h2⟩) h)
  refine fn_g F sc__law_draw (fun vs H Q E h => ?_) (fun cdv A outer s H vs Q E hG hr h => ?_)
  · obtain ⟨ds, ⟨n, rfl, _⟩, e⟩ := spH_len h
    exact e
  have hu := hr.units
  refine ⟨_, (pss_cons (ps_while (passes_of rfl) (PW.pt (pw_and (pt_cmpR (op_neD hu) (xIx (pv 0) pe_int) (pe_lst pa_nil) (nomark _)) (pw_and1 (pt_cmpR (op_eqD hu) (xIx (xIx (pv 0) pe_int) (pe_un un_neg pe_int)) pe_int (nomark _)))))
 (pss_one (ps_expr (pe_bm0 PySem.F.plainAttrs_list PySem.F.slot_list_pop PySem.F.type_list_pop mt_pop (xIx (pv 0) pe_int)))))
 (pss_cons (ps_if (pt_cmpR (op_neD hu) (xIx (pv 0) pe_int) (pe_lst pa_nil) (nomark _)) (pss_cons (ps_set (i := 2) nd rfl (Or.inl rfl) (pe_bm0 PySem.F.plainAttrs_list PySem.F.slot_list_pop PySem.F.type_list_pop mt_pop (xIx (pv 0) pe_int)))
 (pss_cons (ps_expr (pe_bm PySem.F.plainAttrs_list PySem.F.slot_list_append PySem.F.type_list_append mt_append (xIx (pv 0) pe_int) (pa_cons (pe_op op_fdivW (pv 2) (pv 1)) pa_nil)))
 (pss_one (ps_ret (pe_op op_mod (xT (rInt1) cl_int T.b_int (pa_cons (pv 2) pa_nil)) (pv 1))))))
 pss_nil)
 (pss_cons (ps_asg (pe_op op_mod (xT (rInt1) cl_int T.b_int (pa_cons (pe_op op_plus (pe_op op_mulW (xIx (pv 0) pe_int) pe_int) pe_int) pa_nil)) pe_int) (pg_sub (pv 0) pe_int set_list))
 (pss_one (ps_ret (pe_op op_mod (xT (rInt1) cl_int T.b_int (pa_cons (pe_op op_fdivW (xIx (pv 0) pe_int) pe_int) pa_nil)) (pv 1))))))), ?_⟩
  have hs : start N__law_draw vs = vs.map some ++ [none] := by
    obtain ⟨ds, ⟨n, rfl, _⟩, e⟩ := spH_len h
    match vs, e with
    | [_, _], _ => rfl
  rw [hs]
  obtain ⟨M, h, g, J, us, ds, rfl, hd, w, a, ⟨n, rfl, n0, n1⟩, q⟩ := h
  obtain ⟨v, rfl, av⟩ := das_one a
  rw [da_int av]
  exact rd_draw2 hd w n0 n1 (by omega) fun i H' w' t i0 i1 => q _ (.int i) J H' w' t (fun m e => by cases e; exact ⟨i, rfl, i0, i1⟩) (.int i)
theorem ok__law_deal (F : FnP K "_law_deal" s__law_deal f fd) (T : Fx mg) : FnG P w K mg base (L2.CX P w) 1 f fd ["_law_script", "_law_base"] (spHeap K) := by
  have nd := sc__law_deal.nd
  refine fn_g F sc__law_deal (fun vs H Q E h => ?_) (fun cdv A outer s H vs Q E hG hr h => ?_)
  · obtain ⟨a, ns, b, rfl, _⟩ := h
    rfl
  refine ⟨_, (pss_cons (ps_setLc (i := 2) (own := [("_law_cell", 4)]) (g := gName 4) rfl nd rfl rfl (sw_true rfl rfl rfl (by decide +kernel)) (pi_list (pe_slice sl_list (pv 0) (po_some (pv 1)) (po_some (pe_op op_plus (pv 1) pe_int)))) (blkOk_by (own := [("_law_cell", 4)]) (N := N__law_deal) (sc := defScope s__law_deal) (by decide +kernel)) (fun _ _ _ _ _ => (pg_name (i := 4) nd rfl (Or.inl rfl))) (fun _ _ _ _ _ => pts_nil) (fun _ _ _ _ _ => (xB (rAbs) cl_abs T.b_abs (pa_cons (pv 4) pa_nil))))
 (pss_cons (ps_set (i := 3) nd rfl (Or.inl rfl) (pe_op op_plus pe_int (pe_op op_mulW pe_int (pv 1))))
 (pss_cons (ps_for (passes_of rfl) rfl (pi_list (pv 2)) (pg_name (i := 4) nd rfl (Or.inl rfl))
 (pss_one (ps_set (i := 3) nd rfl (Or.inl rfl) (pe_op op_mod (xT (rInt1) cl_int T.b_int (pa_cons (pe_op op_plus (pe_op op_plus (pe_op op_mulW (pv 3) pe_int) (pe_op op_mod (xT (rInt1) cl_int T.b_int (pa_cons (pv 4) pa_nil)) pe_int)) pe_int) pa_nil)) pe_int))))
 (pss_one (ps_ret (pe_lst (pa_cons (pe_revL (pe_lc (own := [("_law_cell", 4)]) (g := gName 4) rfl nd (pi_list (pv 2)) (blkOk_by (own := [("_law_cell", 4)]) (N := N__law_deal) (sc := defScope s__law_deal) (by decide +kernel)) (fun _ _ _ _ _ => (pg_name (i := 4) nd rfl (Or.inl rfl))) (fun _ _ _ _ _ => pts_one (pt_cmpR op_ge (pv 4) (pe_op op_pow pe_int pe_int) (nomark _))) (fun _ _ _ _ _ => (pv 4)))) (pa_cons (pv 3) pa_nil)))))))), ?_⟩
  obtain ⟨a, ns, b, rfl, hS, b0, b1, q⟩ := h
  exact rd_heap2 hS (by omega) (by omega) ⟨b0, b1⟩ (by omega) (by omega) q
end
def PickX (x : PyData) : Prop := (∃ l, x = .list l ∧ l ≠ [] ∧ l.length < 2 ^ 20) ∨ ∃ z : Str, x = .str z ∧ z.length ≠ 0 ∧ z.length < 2 ^ 20
def pre__law_pick (as : List AV) : Prop := ∃ x, as = [.drw, .d x] ∧ PickX x
def post__law_pick (as : List AV) (d : PyData) : Prop := ∃ x, as = [.drw, .d x] ∧ ((∃ l, x = .list l ∧ d ∈ l) ∨ ∃ (z : Str) (c : Nat), x = .str z ∧ c ∈ z.cps.toList ∧ d = .str ⟨#[c]⟩)
abbrev exc__law_pick := noE
theorem len__law_pick : ∀ as, pre__law_pick as → as.length = 2 := by rintro as ⟨_, rfl, _⟩; rfl
section
variable {P : Program} {w : World} {K : PySem.W.Frag} {mg : Str → Option Value} {base : Heap} {f : Addr} {fd : FuncData}
abbrev s__law_pick : Stmt := top 12
abbrev N__law_pick : List Str := ["_law_deal_here", "_law_some"]
theorem sc__law_pick : FnScope N__law_pick ["_law_deal_here", "_law_some"] (defScope s__law_pick) := ⟨rfl, rfl, rfl, by decide +kernel, rfl, by decide +kernel, by decide +kernel⟩
def w__law_pick (K : PySem.W.Frag) : WS := (wRet (wOp gIx (wVar 1) (wCall pre__law_draw post__law_draw exc__law_draw (wuCons (wVar 0) (wuCons (wUn gLen (wVar 1)) wuNil)))))
def Go__law_pick (K : PySem.W.Frag) : Prop := ∀ as, pre__law_pick as → w__law_pick K (startS 2 as) ⟨fun _ => post__law_pick as .none, fun d _ => post__law_pick as d, fun _ => False, fun _ => False, fun c x _ => exc__law_pick as c x⟩
theorem ok__law_pick (go : Go__law_pick K) (F : FnP K "_law_pick" s__law_pick f fd) (T : Fx mg) (C__law_draw : Ca5 P w K mg base (L2.CX P w) 1 "_law_draw" ["_law_deal_here", "_law_bound"] (spU K (erL K) anyM pre__law_draw post__law_draw exc__law_draw)) : FnG P w K mg base (L2.CX P w) 2 f fd ["_law_deal_here", "_law_some"] (spU K (erL K) anyM pre__law_pick post__law_pick exc__law_pick) := by
  have nd := sc__law_pick.nd
  refine fn_w (ws := w__law_pick K) F sc__law_pick len__law_pick (by decide) (fun cdv A out s H E hG hr => ?_) go
  exact ⟨_, (dss_one (ds_ret (de_ix rfl (de_var (pv 1)) (de_call C__law_draw hG (hr.mono (by decide)) (passW (takes_of rfl rfl rfl rfl)) (fun _ _ => trivial) (du_cons (de_var (pv 0)) (du_cons (de_b1 (cl_lenK K rfl) us_len T.b_len (de_var (pv 1))) du_nil))))))⟩


end
theorem go__law_pick {K : PySem.W.Frag} : Go__law_pick K := by
  rintro as ⟨x, rfl, hx⟩
  unfold w__law_pick
  have hz := sizeLine_eq
  rcases hx with ⟨l, rfl, hl, hn⟩ | ⟨z, rfl, hl, hn⟩
  · walk_at "go"
    have hl2 : 0 < l.length := List.length_pos_iff.mpr hl
    refine ⟨⟨_, rfl, by omega, by omega⟩, ?_, fun _ _ z => z.elim⟩
    rintro d ⟨n, i, e, rfl, i0, i1⟩
    walk_at "dw"
    cases PyData.int.inj (AV.d.inj (List.cons.inj (List.cons.inj e).2).1)
    obtain ⟨d, e1, e2⟩ := atI_mem (ds := l) i0 i1
    exact ⟨d, e1, _, rfl, .inl ⟨l, rfl, e2⟩⟩
  · walk_at "go"
    refine ⟨by omega, ⟨_, rfl, by omega, by omega⟩, ?_, fun _ _ z => z.elim⟩
    rintro d ⟨n, i, e, rfl, i0, i1⟩
    walk_at "dw"
    cases PyData.int.inj (AV.d.inj (List.cons.inj (List.cons.inj e).2).1)
    obtain ⟨j, rfl⟩ := Int.eq_ofNat_of_zero_le i0
    have hj : j < z.cps.toList.length := by
      have : z.cps.toList.length = z.length := by simp; rfl
      omega
    exact ⟨by omega, _, L2.atI_nat (List.getElem?_eq_getElem hj), _, rfl, .inr ⟨z, _, rfl, List.getElem_mem hj, rfl⟩⟩
theorem draw_ok {n : Int} (h : 0 < n) (h' : n < 2 ^ 60) : pre__law_draw [.drw, .d (.int n)] := ⟨n, rfl, h, h'⟩
theorem draw_use {n : Int} {P : PyData → Prop} (h : ∀ i : Int, 0 ≤ i → i < n → P (.int i)) : ∀ d, post__law_draw [.drw, .d (.int n)] d → P d := by
  rintro d ⟨n', i, e, rfl, i0, i1⟩
  cases PyData.int.inj (AV.d.inj (List.cons.inj (List.cons.inj e).2).1)
  exact h i i0 i1
theorem pick_ok {l : List PyData} (h : l ≠ []) (h' : l.length < 2 ^ 20) : pre__law_pick [.drw, .d (.list l)] := ⟨_, rfl, .inl ⟨l, rfl, h, h'⟩⟩
theorem pick_use {l : List PyData} {P : PyData → Prop} (h : ∀ x ∈ l, P x) : ∀ d, post__law_pick [.drw, .d (.list l)] d → P d := by
  rintro d ⟨x, e, ⟨l', rfl, hm⟩ | ⟨z, c, rfl, _⟩⟩
  · cases PyData.list.inj (AV.d.inj (List.cons.inj (List.cons.inj e).2).1)
    exact h d hm
  · exact nomatch (AV.d.inj (List.cons.inj (List.cons.inj e).2).1)
theorem pick_okS {z : Str} (h : z.length ≠ 0) (h' : z.length < 2 ^ 20) : pre__law_pick [.drw, .d (.str z)] := ⟨_, rfl, .inr ⟨z, rfl, h, h'⟩⟩
theorem pick_useS {z : Str} {P : PyData → Prop} (h : ∀ c ∈ z.cps.toList, P (.str ⟨#[c]⟩)) : ∀ d, post__law_pick [.drw, .d (.str z)] d → P d := by
  rintro d ⟨x, e, ⟨l', rfl, hm⟩ | ⟨z', c, rfl, hc, rfl⟩⟩
  · exact nomatch (AV.d.inj (List.cons.inj (List.cons.inj e).2).1)
  · cases PyData.str.inj (AV.d.inj (List.cons.inj (List.cons.inj e).2).1)
    exact h c hc
end K18

namespace K18
open PySem PySem.Spec
open PyProof.Rows L2 DL DW
local macro_rules | `(tactic| walk_at "dw0") => `(tactic| simp only [DW.startS, DW.AV.sv, DW.startB, DW.BV.sv, List.map_cons, List.map_nil, List.length_cons, List.length_nil, List.replicate_succ, List.replicate_zero, List.cons_append, List.nil_append, Nat.reduceAdd, Nat.reduceSub])
local macro_rules | `(tactic| walk_at "dw") => `(tactic| simp (maxSteps := 2000000) only [DW.wSeq, DW.wNext, DW.wSetM, DW.wFld, DW.wrFld, DW.wrVar, DW.wrC, DW.wR, DW.plc, DW.putAt, DW.chld, DW.getM, DW.setM, DW.setC, DW.wDGet, DW.wDIn, DW.wTB, DW.wAsM, DW.wLcM, DW.wDPut, DW.wDDel, DW.wDVals, DW.keyD, DW.allD_map, DW.wFldAug, DW.wM, DW.wmD, DW.wmDct, DW.wmLst, DW.wmCall, DW.wmCallK, DW.callK, DW.lendK, DW.backK, DW.holeAt, DW.avB, DW.wbNil, DW.wbCons, DW.wmMeth, DW.wmMake, DW.finK, DW.wTry_eq, DW.wXf, DW.wIsX, DW.gSSet, DW.wLcD, DW.isHole, DW.wParM, List.tail_cons, List.append_nil, DW.wIfS, DW.wRet, DW.wRetN, DW.wBreak, DW.wCont, DW.wSet, DW.wAsg, DW.wNew, DW.wNewL, DW.wNewC, DW.wExpr, DW.wApp, DW.wExt, DW.wExtA, DW.wPop, DW.wAug, DW.wRaise, DW.wVar, DW.wC, DW.wRaw, DW.wOp, DW.wUn, DW.waNil, DW.waCons, DW.wCB, DW.wTup, DW.wLst, DW.wTest, DW.wYes, DW.wAnd, DW.wOr, DW.wNot, DW.wTr, DW.gTr, DW.wAndV, DW.wOrV, DW.wNotV, DW.wIf, DW.rdq, DW.frz, DW.asg, DW.avf, DW.wuNil, DW.wuCons, DW.wCall, DW.wCallK, DW.wNotKD, DW.wIxKD, DW.wCallV, DW.wHear, DW.wgName, DW.wgTup, DW.wgCons, DW.wgNil,
  DW.wParN, DW.wnNil, DW.wnD, DW.wnNew, DW.asgN, DW.gAdd, DW.gSub, DW.gMul, DW.gMod, DW.gDiv, DW.gPow, DW.gLt, DW.gLe, DW.gGt, DW.gGe, DW.gEq, DW.gNe, DW.gEqS, DW.gNeS, DW.pick, List.filterMap_cons, List.filterMap_nil, DW.gInB, DW.gIs, DW.gIsNot, DW.gIx, DW.gNeg, DW.gLen, DW.gToT, DW.gToL, DW.gInt, DW.gAbs, DW.gRepr, DW.gMin2, DW.gMax2, DW.gOrd, DW.gStr, DW.gAddI, DW.gSubI, DW.gIsB, DW.gIsntB, DW.gRep, DW.gSorted, DW.wJoin, DW.gJoin, DW.wIndex, DW.gIndex, DW.wRg1, DW.wRg2, DW.LT.mk, DW.wiSeq, DW.wiRng1, DW.wiRng2, DW.wiRngB, DW.wiEnumX, DW.wiEnum, DW.wipeS, DL.truth, DL.isNo, DW.wIsi, DW.wChain, DW.wSl, DW.gSl, DW.gRev, DW.woNone, DW.woSome, DW.wFor_eq, DW.wLc_eq, DW.wNewLc_eq, DW.one_ord, DW.one_len, DL.oD_len,
  DW.eqv_int, DW.sh_intT, true_and, List.getElem?_nil, List.getElem?_cons_zero, List.getElem?_cons_succ, List.set_cons_zero, List.set_cons_succ, List.length_cons, List.length_nil, if_true, if_false, decide_eq_true_eq, Bool.false_eq_true, reduceIte, List.cons_append, List.nil_append, Nat.reduceAdd, Bool.not_true, Bool.not_false])
local macro_rules | `(tactic| walk_at "ds") => `(tactic| repeat ((with_reducible refine DW.Kt_i ?_); (walk_at "dw")))
local macro_rules | `(tactic| walk_at "go") => `(tactic| ((walk_at "dw0"); (walk_at "dw"); (walk_at "ds")))
local macro_rules | `(tactic| walk_at "dt") => `(tactic| ((try walk_at "dw"); (walk_at "ds")))
local macro_rules | `(tactic| walk_at "ex") => `(tactic| ((with_reducible refine DW.TryK_i ?_); (simp only [DW.wTryK, DW.offW]); (walk_at "dw")))
/-! what is shown -/
theorem sh_big {i : Int} (h : i.natAbs < 10 ^ 31) : (PyData.int i).shown.length ≤ 32 := by
  have e := int_text_length_le10 (k := 31) (by decide) h
  show (Str.ofString (toString i)).length ≤ 32
  rw [PySem.ofString_length]
  exact e
def Fz (d : PyData) (w k : Nat) : Prop := d.showable = true ∧ d.leavesShort 32 = true ∧ d.weight ≤ w ∧ d.depth ≤ k
def FzL (ds : List PyData) (w k : Nat) : Prop := PyData.showableAll ds = true ∧ PyData.leavesShortAll 32 ds = true ∧ PyData.weightAll ds ≤ w ∧ PyData.depthAll ds ≤ k
theorem fz_int {i : Int} (h : i.natAbs < 10 ^ 31) (k : Nat) : Fz (.int i) 128 k := by
  have l : i.natAbs.log2 ≤ 127 := log2_le (k := 127) (Nat.lt_trans h (by decide))
  refine ⟨decide_eq_true (by omega), decide_eq_true (sh_big h), ?_, Nat.zero_le _⟩
  show (if i == 0 then 0 else i.natAbs.log2 + 1) ≤ 128
  split <;> omega
theorem fz_none (k : Nat) : Fz .none 128 k := ⟨rfl, rfl, Nat.zero_le _, Nat.zero_le _⟩
theorem fz_str {z : Str} (h : PyData.strOk z = true) (hl : z.length ≤ 128) (k : Nat) : Fz (.str z) 128 k := by
  refine ⟨rfl, ?_, hl, Nat.zero_le _⟩
  show (z.cps.toList.all fun c => decide (c < 16 ^ 8)) = true
  unfold PyData.strOk at h
  rw [List.all_eq_true]
  intro c hc
  rw [← Array.all_toList, List.all_eq_true] at h
  have := h c hc
  simp only [decide_eq_true_eq] at this ⊢
  omega
theorem fzl_nil (k : Nat) : FzL [] 0 k := ⟨rfl, rfl, Nat.le_refl _, Nat.zero_le _⟩
theorem fzl_cons {d : PyData} {ds : List PyData} {w w' k : Nat} (h : Fz d w k) (g : FzL ds w' k) : FzL (d :: ds) (w + 1 + w') k := by
  obtain ⟨h1, h2, h3, h4⟩ := h
  obtain ⟨g1, g2, g3, g4⟩ := g
  refine ⟨by rw [PyData.showableAll, h1, g1]; rfl, by rw [PyData.leavesShortAll, h2, g2]; rfl, ?_, ?_⟩
  · rw [PyData.weightAll]; omega
  · rw [PyData.depthAll]; omega
theorem fz_tup {ds : List PyData} {w k : Nat} (h : FzL ds w k) : Fz (.tuple ds) w (k + 1) := by
  obtain ⟨h1, h2, h3, h4⟩ := h
  refine ⟨by rw [PyData.showable, h1], by rw [PyData.leavesShort, h2], by rw [PyData.weight]; exact h3, by rw [PyData.depth]; omega⟩
theorem fz_lst {ds : List PyData} {w k : Nat} (h : FzL ds w k) : Fz (.list ds) w (k + 1) := by
  obtain ⟨h1, h2, h3, h4⟩ := h
  refine ⟨by rw [PyData.showable, h1], by rw [PyData.leavesShort, h2], by rw [PyData.weight]; exact h3, by rw [PyData.depth]; omega⟩
theorem fzl_map {α : Type} {f : α → PyData} {w k : Nat} : ∀ {l : List α}, (∀ x ∈ l, Fz (f x) w k) → FzL (l.map f) ((w + 1) * l.length) k
  | [], _ => fzl_nil k
  | x :: l, h => by
    have := fzl_cons (h x (List.mem_cons_self ..)) (fzl_map (l := l) fun y hy => h y (List.mem_cons_of_mem _ hy))
    rw [List.map_cons, List.length_cons, Nat.mul_succ, Nat.add_comm]
    exact this
/-- what repr takes -/
def Fit (d : PyData) : Prop := d.showable = true ∧ d.shown.length ≤ sizeLine ∧ d.depth ≤ 60
theorem Fz.fit {d : PyData} {w k : Nat} (h : Fz d w k) (hw : w ≤ 2 ^ 18) (hk : k ≤ 50) : Fit d := by
  have h1 := PyData.shown_le 32 (by decide) d h.2.1
  have h2 := h.2.2.1
  have h3 := sizeLine_eq
  have h4 : (2 : Nat) ^ 18 = 262144 := by decide
  exact ⟨h.1, by omega, by have := h.2.2.2; omega⟩
theorem fit_ints {l : List Int} (h : ∀ i ∈ l, i.natAbs < 10 ^ 31) (hl : l.length ≤ 64) : Fit (.tuple (oD l)) := (fz_tup (fzl_map (f := PyData.int) (w := 128) (k := 0) fun i hi => fz_int (h i hi) 0)).fit (by omega) (by decide)
theorem offS_none {kvs : KV} {n : Int} {x : PyData} (ok : SnOk kvs n) (h : findS kvs x = none) : offS kvs x = kvs := by
  cases x <;> first | rfl | skip
  rename_i i
  show kvs.filter _ = kvs
  refine List.filter_eq_self.mpr fun y hy => ?_
  rw [findS_int, List.head?_eq_none_iff, List.map_eq_nil_iff, List.filter_eq_nil_iff] at h
  simpa using h y hy
def dueD (kvs : KV) (x : PyData) : PyData := match findS kvs x with
  | some s => .tuple [.int s, .str "told"]
  | none => .tuple [x, .str "refused"]
def pre__law_closed (K : PySem.W.Frag) (as : List BV) : Prop := ∃ p dx q kvs n x w, as = [.mv (Sn K p dx q kvs n), .d x, .d (.str w)] ∧ SnOk kvs n
def post__law_closed (K : PySem.W.Frag) (as : List BV) (r : MV) (as' : List BV) : Prop := ∃ p dx q kvs n x w, as = [.mv (Sn K p dx q kvs n), .d x, .d (.str w)] ∧ r = .d (dueD kvs x) ∧ as' = [.mv (Sn K p dx q (if w = "close" then offS kvs x else kvs) n), .d x, .d (.str w)]
abbrev exc__law_closed (_ : PySem.W.Frag) := noB
theorem len__law_closed {K : PySem.W.Frag} : ∀ as, pre__law_closed K as → as.length = 3 := by rintro as ⟨_, _, _, _, _, _, _, rfl, _⟩; rfl
def tupD (y : Int × Int) : PyData := .tuple [.int y.1, .int y.2]
abbrev LH (h : Addr) (kvs : KV) : MV := .nd h .lst ((kvs.map tupD).map .d)
def pre__law_looked (K : PySem.W.Frag) (as : List BV) : Prop := ∃ p dx q kvs n h, as = [.drw, .mv (Sn K p dx q kvs n), .mv (LH h kvs)] ∧ SnOk kvs n
def post__law_looked (K : PySem.W.Frag) (as : List BV) (r : MV) (as' : List BV) : Prop := ∃ p dx q kvs n h, as = [.drw, .mv (Sn K p dx q kvs n), .mv (LH h kvs)] ∧ r = .d (.bool true) ∧ as' = as
abbrev exc__law_looked (_ : PySem.W.Frag) := noB
theorem len__law_looked {K : PySem.W.Frag} : ∀ as, pre__law_looked K as → as.length = 3 := by rintro as ⟨_, _, _, _, _, _, rfl, _⟩; rfl
section
variable {P : Program} {w : World} {K : PySem.W.Frag} {mg : Str → Option Value} {base : Heap} {f : Addr} {fd : FuncData}
abbrev s__law_closed : Stmt := top 14
abbrev N__law_closed : List Str := ["_law_snapshots", "_law_number", "_law_word", "error"]
theorem sc__law_closed : FnScope N__law_closed ["_law_snapshots", "_law_number", "_law_word"] (defScope s__law_closed) := ⟨rfl, rfl, rfl, by decide +kernel, rfl, by decide +kernel, by decide +kernel⟩
def w__law_closed (K : PySem.W.Frag) : WS := (wTry (erL K) (wRet (wTup (waCons (wIf (wTest (wOp gEqS (wVar 2) (wC (.str "close")))) (wM (wmMeth (c_Snapshots K) (pre_Snapshots_close K) (post_Snapshots_close K) (exc_Snapshots_close K) [0, 1] 0 (List.length [("number" : Str)]) (wrVar 0) wbNil (wbCons (wVar 1) wbNil))) (wM (wmMeth (c_Snapshots K) (pre_Snapshots_stamp_of K) (post_Snapshots_stamp_of K) (exc_Snapshots_stamp_of K) [0, 1] 0 (List.length [("number" : Str)]) (wrVar 0) wbNil (wbCons (wVar 1) wbNil)))) (waCons (wC (.str "told")) waNil)))) (⟨rows_NoName, 3, (fun a dx cls d => (wRet (wIf (wTest (wIsX a dx cls d ((erL K).cl "NoName") 3 true)) (wTup (waCons (wXf a dx cls d ((erL K).cl "NoName") 3 "name") (waCons (wC (.str "refused")) waNil))) (wTup (waCons (wC (.str "another")) (waCons (wC (.str "error")) waNil))))))⟩ :: []))
def Go__law_closed (K : PySem.W.Frag) : Prop := ∀ as, pre__law_closed K as → w__law_closed K (startB 4 as) ⟨fun s => finK as s fun as' => post__law_closed K as (.d .none) as', fun d s => finK as s fun as' => post__law_closed K as (.d d) as', fun _ => False, fun _ => False, fun c x s => finK as s fun as' => exc__law_closed K as c x as'⟩
theorem ok__law_closed (go : Go__law_closed K) (F : FnP K "_law_closed" s__law_closed f fd) (T : Fx mg) (C_Snapshots_close_K0_number : MthN P w K mg base (L2.CX P w) 4 (c_Snapshots K).ad "close" ["self", "number"] 0 ["number"] [0, 1] (spB K (erL K) anyM (pre_Snapshots_close K) (post_Snapshots_close K) (exc_Snapshots_close K))) (C_Snapshots_stamp_of_K0_number : MthN P w K mg base (L2.CX P w) 3 (c_Snapshots K).ad "stamp_of" ["self", "number"] 0 ["number"] [0, 1] (spB K (erL K) anyM (pre_Snapshots_stamp_of K) (post_Snapshots_stamp_of K) (exc_Snapshots_stamp_of K))) (R_NoName : Er P w K mg base "NoName" ((erL K).cl "NoName") "name") (HR_NoName : ∀ r ∈ rows_NoName, PySem.W.exmOne K (.ref ((erL K).cl r.1)) (.ref ((erL K).cl "NoName")) = some r.2) (IX_NoName_KeyError : L2.ExcC K ((erL K).cl "NoName") ∧ PySem.W.kitOne K (.ref ((erL K).cl "NoName")) (.type "KeyError") = some true ∧ mg "KeyError" = none) : FnG P w K mg base (L2.CX P w) 5 f fd ["_law_snapshots", "_law_number", "_law_word"] (spB K (erL K) anyM (pre__law_closed K) (post__law_closed K) (exc__law_closed K)) := by
  have nd := sc__law_closed.nd
  refine fn_wB (ws := w__law_closed K) F sc__law_closed len__law_closed (by decide) (fun cdv A out s H E hG hr => ?_) go
  exact ⟨_, (dss_one (ds_try rfl rfl rfl nd (takes_of rfl rfl rfl rfl) (fun W pn xe tk => (dss_one (ds_ret (de_tup (da_cons' (de_ifx (dt_cmp op_eq os_eqS (nomark _) (de_var (pv 2)) (de_str pe_str)) (de_m (dm_meth0 C_Snapshots_close_K0_number hG (hr.mono (by decide)) (passW tk) (fun _ _ => trivial) (by show _ ∉ (["_stamps", "_last"] : List Str); decide) (dr_var (pv 0)) (dkb_cons (de_var (pv 1)) dkb_nil))) (de_m (dm_meth0 C_Snapshots_stamp_of_K0_number hG (hr.mono (by decide)) (passW tk) (fun _ _ => trivial) (by show _ ∉ (["_stamps", "_last"] : List Str); decide) (dr_var (pv 0)) (dkb_cons (de_var (pv 1)) dkb_nil)))) (da_cons' (de_str pe_str) da_nil')))))) (dh_cons (h := ⟨rows_NoName, 3, (fun a dx cls d => (wRet (wIf (wTest (wIsX a dx cls d ((erL K).cl "NoName") 3 true)) (wTup (waCons (wXf a dx cls d ((erL K).cl "NoName") 3 "name") (waCons (wC (.str "refused")) waNil))) (wTup (waCons (wC (.str "another")) (waCons (wC (.str "error")) waNil))))))⟩) ⟨rfl, by decide, .inl R_NoName.at_⟩ rfl rfl HR_NoName (fun a oe cls d pn dx hz hf => (dss_one (ds_ret (de_ifx (dt_val (de_isX (dx := dx) (c := .ty "KeyError") (cv := .type "KeyError") rfl IX_NoName_KeyError.1 (fun _ h => h) IX_NoName_KeyError.2.1 hz hf T.b_isinstance (pv 3) (by exact pe_bltn (v := .ty "KeyError") rfl IX_NoName_KeyError.2.2 rfl rfl))) (de_tup (da_cons' (de_xf (dx := dx) rfl R_NoName.xf R_NoName.no hz hf (pv 3)) (da_cons' (de_str pe_str) da_nil'))) (de_tup (da_cons' (de_str pe_str) (da_cons' (de_str pe_str) da_nil'))))))) dh_nil)))⟩


abbrev s__law_looked : Stmt := top 15
abbrev N__law_looked : List Str := ["_law_deal_here", "_law_snapshots", "_law_here", "_law_live", "_law_stamp", "_law_first", "_law_last", "_law_within", "_law_due", "_law_number", "_law_at"]
theorem sc__law_looked : FnScope N__law_looked ["_law_deal_here", "_law_snapshots", "_law_here"] (defScope s__law_looked) := ⟨rfl, rfl, rfl, by decide +kernel, rfl, by decide +kernel, by decide +kernel⟩
def w__law_looked (K : PySem.W.Frag) : WS := (wSeq (wSet 3 (wUn gSSet (wLcM (wrVar 2) (wgTup 2 (wgCons (wgName 9) (wgCons (wgName 4) wgNil))) wYes (wVar 4) [9, 4])))
 (wSeq (wIfS (wTest (wOp gNeS (wUn gRepr (wM (wmMeth (c_Snapshots K) (pre_Snapshots_live K) (post_Snapshots_live K) (exc_Snapshots_live K) [0] 0 (List.length ([] : List Str)) (wrVar 1) wbNil wbNil))) (wUn gRepr (wUn gToT (wVar 3))))) (wRet (wC (.bool false)))
 wNext)
 (wSeq (wFor (wiSeq (wUn gSSet (wOp gAdd (wVar 3) (wLst (waCons (wCall pre__law_draw post__law_draw exc__law_draw (wuCons (wVar 0) (wuCons (wC (.int 12)) wuNil))) waNil))))) (wgName 4)
 (wIfS (wTest (wOp gNeS (wUn gRepr (wM (wmMeth (c_Snapshots K) (pre_Snapshots_holders K) (post_Snapshots_holders K) (exc_Snapshots_holders K) [0, 1] 0 (List.length [("stamp" : Str)]) (wrVar 1) wbNil (wbCons (wVar 4) wbNil)))) (wUn gRepr (wUn gToT (wLcM (wrVar 2) (wgTup 2 (wgCons (wgName 9) (wgCons (wgName 10) wgNil))) (wTest (wOp gEq (wVar 10) (wVar 4))) (wVar 9) [9, 10]))))) (wRet (wC (.bool false)))
 wNext))
 (wSeq (wSet 5 (wCall pre__law_draw post__law_draw exc__law_draw (wuCons (wVar 0) (wuCons (wC (.int 12)) wuNil))))
 (wSeq (wSet 6 (wOp gSub (wOp gAdd (wVar 5) (wCall pre__law_draw post__law_draw exc__law_draw (wuCons (wVar 0) (wuCons (wC (.int 6)) wuNil)))) (wC (.int 1))))
 (wSeq (wSet 7 (wLc (wiSeq (wVar 3)) (wgName 4) (wTest (wChain gLe gLe (wVar 5) (wVar 4) (wVar 6))) (wVar 4) [4]))
 (wSeq (wSet 8 (wIf (wTest (wOp gNe (wVar 7) (wLst waNil))) (wOp gIx (wVar 7) (wUn gNeg (wC (.int 1)))) (wC .none)))
 (wRet (wOp gEqS (wUn gRepr (wLst (waCons (wM (wmMeth (c_Snapshots K) (pre_Snapshots_last_within K) (post_Snapshots_last_within K) (exc_Snapshots_last_within K) [0, 1, 2] 2 (List.length ([] : List Str)) (wrVar 1) (wbCons (wVar 5) (wbCons (wVar 6) wbNil)) wbNil)) (waCons (wM (wmMeth (c_Snapshots K) (pre_Snapshots_last_within K) (post_Snapshots_last_within K) (exc_Snapshots_last_within K) [0, 2, 1] 0 (List.length [("last" : Str), ("first" : Str)]) (wrVar 1) wbNil (wbCons (wVar 6) (wbCons (wVar 5) wbNil)))) waNil)))) (wUn gRepr (wLst (waCons (wVar 8) (waCons (wVar 8) waNil)))))))))))))
def Go__law_looked (K : PySem.W.Frag) : Prop := ∀ as, pre__law_looked K as → w__law_looked K (startB 11 as) ⟨fun s => finK as s fun as' => post__law_looked K as (.d .none) as', fun d s => finK as s fun as' => post__law_looked K as (.d d) as', fun _ => False, fun _ => False, fun c x s => finK as s fun as' => exc__law_looked K as c x as'⟩
theorem ok__law_looked (go : Go__law_looked K) (F : FnP K "_law_looked" s__law_looked f fd) (T : Fx mg) (C__law_draw : Ca5 P w K mg base (L2.CX P w) 1 "_law_draw" ["_law_deal_here", "_law_bound"] (spU K (erL K) anyM pre__law_draw post__law_draw exc__law_draw)) (C_Snapshots_live_K0_ : MthN P w K mg base (L2.CX P w) 1 (c_Snapshots K).ad "live" ["self"] 0 [] [0] (spB K (erL K) anyM (pre_Snapshots_live K) (post_Snapshots_live K) (exc_Snapshots_live K))) (C_Snapshots_holders_K0_stamp : MthN P w K mg base (L2.CX P w) 1 (c_Snapshots K).ad "holders" ["self", "stamp"] 0 ["stamp"] [0, 1] (spB K (erL K) anyM (pre_Snapshots_holders K) (post_Snapshots_holders K) (exc_Snapshots_holders K))) (C_Snapshots_last_within_K0_last_first : MthN P w K mg base (L2.CX P w) 2 (c_Snapshots K).ad "last_within" ["self", "first", "last"] 0 ["last", "first"] [0, 2, 1] (spB K (erL K) anyM (pre_Snapshots_last_within K) (post_Snapshots_last_within K) (exc_Snapshots_last_within K))) (C_Snapshots_last_within_K2_ : MthN P w K mg base (L2.CX P w) 2 (c_Snapshots K).ad "last_within" ["self", "first", "last"] 2 [] [0, 1, 2] (spB K (erL K) anyM (pre_Snapshots_last_within K) (post_Snapshots_last_within K) (exc_Snapshots_last_within K))) : FnG P w K mg base (L2.CX P w) 3 f fd ["_law_deal_here", "_law_snapshots", "_law_here"] (spB K (erL K) anyM (pre__law_looked K) (post__law_looked K) (exc__law_looked K)) := by
  have nd := sc__law_looked.nd
  refine fn_wB (ws := w__law_looked K) F sc__law_looked len__law_looked (by decide) (fun cdv A out s H E hG hr => ?_) go
  exact ⟨_, (dss_cons (ds_set (i := 3) nd rfl (Or.inl rfl) (de_sset rfl rfl T.b_sorted T.b_set (de_lcM (own := [("_law_number", 9), ("_law_stamp", 4)]) (g := (gTup K 2 (gCons (gName 9) (gCons (gName 4) gNil)))) rfl nd rfl (dr_var (pv 2)) (blkOk_by (own := [("_law_number", 9), ("_law_stamp", 4)]) (N := N__law_looked) (sc := defScope s__law_looked) (by decide +kernel)) (tin_tup (tins_cons (tin_name (by decide)) (tins_cons (tin_name (by decide)) tins_nil))) (fun _ _ _ _ _ => (dg_tup rfl rfl (dgs_cons (dg_name (pg_name (i := 9) nd rfl (Or.inl rfl))) (dgs_cons (dg_name (pg_name (i := 4) nd rfl (Or.inl rfl))) dgs_nil)))) (fun _ _ _ _ _ => dts_nil) (fun _ _ _ _ _ => (de_var (pv 4))))))
 (dss_cons (ds_if (dt_cmp op_ne os_neS (nomark _) (de_b1 (cl_reprK K rfl hG (hu64 hr)) us_repr T.b_repr (de_m (dm_meth0 C_Snapshots_live_K0_ hG (hr.mono (by decide)) (passW (takes_of rfl rfl rfl rfl)) (fun _ _ => trivial) (by show _ ∉ (["_stamps", "_last"] : List Str); decide) (dr_var (pv 1)) dkb_nil))) (de_b1 (cl_reprK K rfl hG (hu64 hr)) us_repr T.b_repr (de_t1 (cl_tupK K rfl) us_tup T.b_tuple (de_var (pv 3))))) (dss_one (ds_ret (de_bl pe_bl)))
 dss_nil)
 (dss_cons (ds_for (passes_of rfl) rfl (di_seq rfl (de_sset rfl rfl T.b_sorted T.b_set (de_op (op_addW rfl) os_add (de_var (pv 3)) (de_lst (da_cons' (de_call C__law_draw hG (hr.mono (by decide)) (passW (takes_of rfl rfl rfl rfl)) (fun _ _ => trivial) (du_cons (de_var (pv 0)) (du_cons (de_int pe_int) du_nil))) da_nil'))))) (dg_name (pg_name (i := 4) nd rfl (Or.inr rfl)))
 (dss_one (ds_if (dt_cmp op_ne os_neS (nomark _) (de_b1 (cl_reprK K rfl hG (hu64 hr)) us_repr T.b_repr (de_m (dm_meth0 C_Snapshots_holders_K0_stamp hG (hr.mono (by decide)) (passW (takes_of rfl rfl rfl rfl)) (fun _ _ => trivial) (by show _ ∉ (["_stamps", "_last"] : List Str); decide) (dr_var (pv 1)) (dkb_cons (de_var (pv 4)) dkb_nil)))) (de_b1 (cl_reprK K rfl hG (hu64 hr)) us_repr T.b_repr (de_t1 (cl_tupK K rfl) us_tup T.b_tuple (de_lcM (own := [("_law_number", 9), ("_law_at", 10)]) (g := (gTup K 2 (gCons (gName 9) (gCons (gName 10) gNil)))) rfl nd rfl (dr_var (pv 2)) (blkOk_by (own := [("_law_number", 9), ("_law_at", 10)]) (N := N__law_looked) (sc := defScope s__law_looked) (by decide +kernel)) (tin_tup (tins_cons (tin_name (by decide)) (tins_cons (tin_name (by decide)) tins_nil))) (fun _ _ _ _ _ => (dg_tup rfl rfl (dgs_cons (dg_name (pg_name (i := 9) nd rfl (Or.inl rfl))) (dgs_cons (dg_name (pg_name (i := 10) nd rfl (Or.inl rfl))) dgs_nil)))) (fun _ _ _ _ _ => dts_one (dt_cmp (op_eqW rfl (hu64 hr)) os_eq (nomark _) (de_var (pv 10)) (de_var (pv 4)))) (fun _ _ _ _ _ => (de_var (pv 9))))))) (dss_one (ds_ret (de_bl pe_bl)))
 dss_nil)))
 (dss_cons (ds_set (i := 5) nd rfl (Or.inr rfl) (de_call C__law_draw hG (hr.mono (by decide)) (passW (takes_of rfl rfl rfl rfl)) (fun _ _ => trivial) (du_cons (de_var (pv 0)) (du_cons (de_int pe_int) du_nil))))
 (dss_cons (ds_set (i := 6) nd rfl (Or.inr rfl) (de_op op_sub os_sub (de_op (op_addW rfl) os_add (de_var (pv 5)) (de_call C__law_draw hG (hr.mono (by decide)) (passW (takes_of rfl rfl rfl rfl)) (fun _ _ => trivial) (du_cons (de_var (pv 0)) (du_cons (de_int pe_int) du_nil)))) (de_int pe_int)))
 (dss_cons (ds_setLc (i := 7) (own := [("_law_stamp", 4)]) (g := (gName 4)) rfl nd rfl rfl (sw_true rfl rfl rfl (by decide +kernel)) (di_seq rfl (de_var (pv 3))) (blkOk_by (own := [("_law_stamp", 4)]) (N := N__law_looked) (sc := defScope s__law_looked) (by decide +kernel)) (tin_name (by decide)) (fun _ _ _ _ _ => (dg_name (pg_name (i := 4) nd rfl (Or.inl rfl)))) (fun _ _ _ _ _ => dts_one (dt_chain op_leW op_leW os_le os_le (de_var (pv 5)) (de_var (pv 4)) (de_var (pv 6)))) (fun _ _ _ _ _ => (de_var (pv 4))))
 (dss_cons (ds_set (i := 8) nd rfl (Or.inl rfl) (de_ifx (dt_cmp (op_neW rfl (hu64 hr)) os_ne (nomark _) (de_var (pv 7)) (de_lst da_nil')) (de_ix rfl (de_var (pv 7)) (de_un un_neg us_neg (de_int pe_int))) (de_non pe_non)))
 (dss_one (ds_ret (de_cmp op_eq os_eqS (nomark _) (de_b1 (cl_reprK K rfl hG (hu64 hr)) us_repr T.b_repr (de_lst (da_cons' (de_m (dm_meth C_Snapshots_last_within_K2_ hG (hr.mono (by decide)) (passW (takes_of rfl rfl rfl rfl)) (fun _ _ => trivial) (by show _ ∉ (["_stamps", "_last"] : List Str); decide) (dr_var (pv 1)) (db_cons (de_var (pv 5)) (db_cons (de_var (pv 6)) db_nil)) dkb_nil)) (da_cons' (de_m (dm_meth0 C_Snapshots_last_within_K0_last_first hG (hr.mono (by decide)) (passW (takes_of rfl rfl rfl rfl)) (fun _ _ => trivial) (by show _ ∉ (["_stamps", "_last"] : List Str); decide) (dr_var (pv 1)) (dkb_cons (de_var (pv 6)) (dkb_cons (de_var (pv 5)) dkb_nil)))) da_nil')))) (de_b1 (cl_reprK K rfl hG (hu64 hr)) us_repr T.b_repr (de_lst (da_cons' (de_var (pv 8)) (da_cons' (de_var (pv 8)) da_nil'))))))))))))))⟩


end
section
variable {P : Program} {w : World} {K : PySem.W.Frag} {mg : Str → Option Value} {base : Heap} {f : Addr} {fd : FuncData}
theorem okQ__law_whole (go : Go__law_whole K) (F : FnP K "_law_whole" s__law_whole f fd) (T : Fx mg) : FnQ P w K mg base (L2.CX P w) 1 f fd ["_law_value"] (spU K (erL K) anyM pre__law_whole post__law_whole exc__law_whole) := by
  have nd := sc__law_whole.nd
  refine fn_wQ (ws := w__law_whole K) F sc__law_whole len__law_whole (by decide) (fun cdv A out s H E hG hr => ?_) go
  exact ⟨_, (dss_one (ds_ret (de_and (de_isi (n := "int") rfl (by decide) T.b_isinstance (de_var (pv 0)) (pe_bltn (v := .ty "int") rfl T.b_int rfl rfl)) (de_one (de_not (de_isi (n := "bool") rfl (by decide) T.b_isinstance (de_var (pv 0)) (pe_bltn (v := .ty "bool") rfl T.b_bool rfl rfl)))))))⟩
end
theorem due_told {kvs : KV} {x : PyData} {s : Int} (h : findS kvs x = some s) : dueD kvs x = .tuple [.int s, .str "told"] := by unfold dueD; rw [h]
theorem due_ref {kvs : KV} {x : PyData} (h : findS kvs x = none) : dueD kvs x = .tuple [x, .str "refused"] := by unfold dueD; rw [h]
theorem go__law_closed {K : PySem.W.Frag} : Go__law_closed K := by
  rintro as ⟨p, dx, q, kvs, n, x, w, rfl, ok⟩
  unfold w__law_closed
  walk_at "go"
  split
  · rename_i hw
    subst hw
    refine ⟨⟨_, _, _, _, _, _, rfl, ok⟩, close_use fun s hs => ?_, close_err fun hs => ?_⟩
    · walk_at "dw"
      exact ⟨by decide, p, dx, q, kvs, n, x, _, rfl, by rw [due_told hs], by rw [if_pos rfl]⟩
    · walk_at "dw"
      walk_at "ex"
      exact .inl ⟨List.mem_singleton.mpr rfl, fun a dx' => ⟨rfl, by decide, p, dx, q, kvs, n, x, _, rfl, by rw [due_ref hs], by rw [if_pos rfl, offS_none ok hs]⟩⟩
  · rename_i hw
    refine ⟨⟨_, _, _, _, _, _, rfl, ok⟩, stamp_use fun s hs => ?_, stamp_err fun hs => ?_⟩
    · walk_at "dw"
      exact ⟨by decide, p, dx, q, kvs, n, x, _, rfl, by rw [due_told hs], by rw [if_neg hw]⟩
    · walk_at "dw"
      walk_at "ex"
      exact .inl ⟨List.mem_singleton.mpr rfl, fun a dx' => ⟨rfl, by decide, p, dx, q, kvs, n, x, _, rfl, by rw [due_ref hs], by rw [if_neg hw]⟩⟩
theorem tup_at {kvs : KV} {i : Nat} {d : PyData} (h : (kvs.map tupD)[i]? = some d) : ∃ a b, kvs[i]? = some (a, b) ∧ d = .tuple [.int a, .int b] := by
  rw [List.getElem?_map] at h
  cases e : kvs[i]? with
  | none => rw [e] at h; cases h
  | some y => rw [e] at h; cases h; exact ⟨y.1, y.2, rfl, rfl⟩
theorem last_if {fs : List Int} {P : PyData → Prop} (h : P (lastD fs)) : if (!(PyData.list (oD fs)).eqv (.list [])) = true then ∃ d, L2.atI (oD fs) (-1) = some d ∧ P d else P .none := by
  rw [show PyData.eqv (.list (oD fs)) (.list []) = decide (fs = []) from eqv_list fs []]
  by_cases hn : fs = []
  · subst hn; rw [if_neg (by simp)]; exact h
  · rw [if_pos (by simp [hn])]; exact ⟨_, at_last hn, h⟩
theorem fz_last {fs : List Int} (h : ∀ i ∈ fs, i.natAbs < 10 ^ 31) (k : Nat) : Fz (lastD fs) 128 k := by
  unfold lastD
  cases e : fs.getLast? with
  | none => exact fz_none k
  | some i => exact fz_int (h i (List.mem_of_getLast? e)) k
theorem go__law_looked {K : PySem.W.Frag} : Go__law_looked K := by
  rintro as ⟨p, dx, q, kvs, n, h, rfl, ok⟩
  unfold w__law_looked
  walk_at "go"
  have l1 := ok.few
  have l2 := ok.n0
  have l3 := ok.n1
  have hz := sizeLine_eq
  have l4 : kvs.length ≤ 40 := by omega
  refine ⟨by rw [List.length_map]; omega, fun i acc s => s = [some .drw, some (.mv (Sn K p dx q kvs n)), some (.mv (.hole h)), none, none, none, none, none, none, none, none] ∧ acc = oD ((kvs.take i).map (·.2)), ⟨rfl, rfl⟩, ?_, ?_⟩
  · rintro i d acc s2 hd ⟨rfl, rfl⟩
    obtain ⟨a, b, hk, rfl⟩ := tup_at hd
    walk_at "dw"
    rw [List.take_add_one, hk, List.map_append]
    simp [oD]
  rintro acc s2 ⟨rfl, rfl⟩
  rw [List.length_map, List.take_length]
  refine ⟨rfl, _, rfl, by rw [List.length_map]; omega, fun ms hs hm => ?_⟩
  have hL : Live kvs ms := ⟨hs, hm⟩
  walk_at "dt"
  refine ⟨⟨_, _, _, _, _, rfl, ok⟩, live_use fun ms' hL' => ?_, fun _ _ _ z => z.elim⟩
  obtain rfl := hL.eq hL'
  walk_at "dw"
  have small : ∀ i ∈ ms, i.natAbs < 10 ^ 31 := fun i hi => by
    obtain ⟨y, hy, rfl⟩ := List.mem_map.mp ((hm i).mp hi)
    have := ok.st y hy
    omega
  have ft := fit_ints small (Nat.le_trans hL.len (by omega))
  refine ⟨ft.1, ft.2.1, ft.2.2, ft.1, ft.2.1, ft.2.2, ?_⟩
  rw [if_neg (by simp [oD])]
  walk_at "ds"
  refine ⟨draw_ok (by decide) (by decide), draw_use fun t t0 t1 => ?_, fun _ _ z => z⟩
  have l5 := hL.len
  refine ⟨by omega, by rw [List.length_map]; omega, ms ++ [t], by simp, by rw [List.length_append, List.length_singleton]; omega, fun zs zu zm => ?_⟩
  refine ⟨fun _ s => ∃ v, s = [some .drw, some (.mv (Sn K p dx q kvs n)), some (.mv (LH h kvs)), some (.d (.list (oD ms))), v, none, none, none, none, none, none], ⟨_, rfl⟩, ?_, ?_⟩
  · rintro i d s2 hd ⟨v, rfl⟩
    obtain ⟨y, hy, rfl⟩ := oD_at hd
    walk_at "dw"
    refine ⟨⟨_, _, _, _, _, _, rfl, ok⟩, holders_use ?_, fun _ _ _ z => z.elim⟩
    walk_at "dw"
    have ft2 : Fit (.tuple (oD ((kvs.filter fun z => z.2 == y).map (·.1)))) := fit_ints (fun i hi => by
      obtain ⟨z, hz, rfl⟩ := List.mem_map.mp hi
      have := ok.le z (List.mem_filter.mp hz).1
      omega) (by rw [List.length_map]; have := List.length_filter_le (fun z : Int × Int => z.2 == y) kvs; omega)
    refine ⟨ft2.1, ft2.2.1, ft2.2.2, by rw [List.length_map]; omega, fun i acc s => s = [some .drw, some (.mv (Sn K p dx q kvs n)), some (.mv (.hole h)), some (.d (.list (oD ms))), some (.d (.int y)), none, none, none, none, none, none] ∧ acc = oD (((kvs.take i).filter fun z => z.2 == y).map (·.1)), ⟨rfl, rfl⟩, ?_, ?_⟩
    · rintro i d acc s2 hd ⟨rfl, rfl⟩
      obtain ⟨a, b, hk, rfl⟩ := tup_at hd
      walk_at "dw"
      split
      · rename_i h
        rw [List.take_add_one, hk, List.filter_append, List.map_append]
        simp [oD, h]
      · rename_i h
        rw [List.take_add_one, hk, List.filter_append, List.map_append]
        simp [oD, h]
    · rintro acc s2 ⟨rfl, rfl⟩
      rw [List.length_map, List.take_length]
      refine ⟨rfl, ft2.1, ft2.2.1, ft2.2.2, ?_⟩
      rw [if_neg (by simp)]
      exact ⟨_, rfl⟩
  · rintro s2 ⟨v, rfl⟩
    walk_at "ds"
    refine ⟨draw_ok (by decide) (by decide), draw_use fun a a0 a1 => ?_, fun _ _ z => z⟩
    walk_at "ds"
    refine ⟨draw_ok (by decide) (by decide), draw_use fun b b0 b1 => ?_, fun _ _ z => z⟩
    walk_at "dt"
    refine ⟨by omega, fun i acc s => s = [some .drw, some (.mv (Sn K p dx q kvs n)), some (.mv (LH h kvs)), some (.d (.list (oD ms))), none, some (.d (.int a)), some (.d (.int (a + b - 1))), none, none, none, none] ∧ acc = oD ((ms.take i).filter fun k => decide (a ≤ k) && decide (k ≤ a + b - 1)), ⟨rfl, rfl⟩, ?_, ?_⟩
    · rintro i d acc s2 hd ⟨rfl, rfl⟩
      obtain ⟨y, hy, rfl⟩ := oD_at hd
      walk_at "dw"
      generalize a + b - 1 = c
      have e : ∀ o : Bool, (decide (a ≤ y) && decide (y ≤ c)) = o → oD (((ms.take (i + 1)).filter fun k => decide (a ≤ k) && decide (k ≤ c))) = oD ((ms.take i).filter fun k => decide (a ≤ k) && decide (k ≤ c)) ++ if o = true then [.int y] else [] := fun o hc => by
        rw [List.take_add_one, hy, List.filter_append]
        subst hc
        cases h : (decide (a ≤ y) && decide (y ≤ c)) <;> simp [oD, List.filter_cons, h]
      by_cases h1 : a ≤ y
      · rw [decide_eq_true h1]
        dsimp only
        by_cases h2 : y ≤ c
        · rw [if_pos h2, e true (by rw [decide_eq_true h1, decide_eq_true h2]; rfl)]; rfl
        · rw [if_neg h2, e false (by rw [decide_eq_true h1, decide_eq_false h2]; rfl)]; simp
      · rw [decide_eq_false h1]
        show oD _ = oD _
        rw [e false (by rw [decide_eq_false h1]; rfl)]; simp
    · rintro acc s2 ⟨rfl, rfl⟩
      rw [oD_len, List.take_length]
      generalize hc : a + b - 1 = c
      generalize hf : ms.filter (fun k => decide (a ≤ k) && decide (k ≤ c)) = fs
      walk_at "ds"
      refine ⟨by omega, sh_list fs, sh_list [], last_if ?_⟩
      refine DW.Kt_i ?_
      walk_at "dw"
      refine ⟨⟨_, _, _, _, _, _, _, rfl, ok⟩, within_use fun m1 h1 => ?_, fun _ _ _ z => z.elim⟩
      obtain rfl := hL.eq h1
      walk_at "dw"
      refine ⟨⟨_, _, _, _, _, _, _, rfl, ok⟩, within_use fun m2 h2 => ?_, fun _ _ _ z => z.elim⟩
      obtain rfl := hL.eq h2
      rw [hf]
      walk_at "dw"
      have sm : ∀ i ∈ fs, i.natAbs < 10 ^ 31 := fun i hi => small i (by rw [← hf] at hi; exact (List.mem_filter.mp hi).1)
      have ft3 : Fit (.list [lastD fs, lastD fs]) := (fz_lst (fzl_cons (fz_last sm 0) (fzl_cons (fz_last sm 0) (fzl_nil 0)))).fit (by decide) (by decide)
      exact ⟨by omega, ft3.1, ft3.2.1, ft3.2.2, by omega, ft3.1, ft3.2.1, ft3.2.2, p, dx, q, kvs, n, h, rfl, rfl, rfl⟩
theorem closed_use {K : PySem.W.Frag} {p dx q : Addr} {kvs : KV} {n : Int} {x : PyData} {w : Str} {P : MV → List BV → Prop} (h : P (.d (dueD kvs x)) [.mv (Sn K p dx q (if w = "close" then offS kvs x else kvs) n), .d x, .d (.str w)]) : ∀ r as', post__law_closed K [.mv (Sn K p dx q kvs n), .d x, .d (.str w)] r as' → P r as' := by
  rintro r as' ⟨p', dx', q', kvs', n', x', w', e, rfl, rfl⟩
  obtain ⟨e1, e2⟩ := List.cons.inj e
  obtain ⟨rfl, rfl, rfl, rfl, rfl⟩ := sn_inj (BV.mv.inj e1)
  obtain ⟨e3, e4⟩ := List.cons.inj e2
  cases BV.d.inj e3
  cases PyData.str.inj (BV.d.inj (List.cons.inj e4).1)
  exact h
theorem looked_use {K : PySem.W.Frag} {as : List BV} {P : MV → List BV → Prop} (h : P (.d (.bool true)) as) : ∀ r as', post__law_looked K as r as' → P r as' := by
  rintro r as' ⟨p', dx', q', kvs', n', h', e, rfl, rfl⟩
  exact h
end K18

namespace K18
open PySem PySem.Spec
open PyProof.Rows L2 DL DW
local macro_rules | `(tactic| walk_at "dw0") => `(tactic| simp only [DW.startS, DW.AV.sv, DW.startB, DW.BV.sv, List.map_cons, List.map_nil, List.length_cons, List.length_nil, List.replicate_succ, List.replicate_zero, List.cons_append, List.nil_append, Nat.reduceAdd, Nat.reduceSub])
local macro_rules | `(tactic| walk_at "dw") => `(tactic| simp (maxSteps := 2000000) only [DW.wSeq, DW.wNext, DW.wSetM, DW.wFld, DW.wrFld, DW.wrVar, DW.wrC, DW.wR, DW.plc, DW.putAt, DW.chld, DW.getM, DW.setM, DW.setC, DW.wDGet, DW.wDIn, DW.wTB, DW.wAsM, DW.wLcM, DW.wDPut, DW.wDDel, DW.wDVals, DW.keyD, DW.allD_map, DW.wFldAug, DW.wM, DW.wmD, DW.wmDct, DW.wmLst, DW.wmCall, DW.wmCallK, DW.callK, DW.lendK, DW.backK, DW.holeAt, DW.avB, DW.wbNil, DW.wbCons, DW.wmMeth, DW.wmMake, DW.finK, DW.wTry_eq, DW.wXf, DW.wIsX, DW.gSSet, DW.wLcD, DW.isHole, DW.wParM, List.tail_cons, List.append_nil, DW.wIfS, DW.wRet, DW.wRetN, DW.wBreak, DW.wCont, DW.wSet, DW.wAsg, DW.wNew, DW.wNewL, DW.wNewC, DW.wExpr, DW.wApp, DW.wExt, DW.wExtA, DW.wPop, DW.wAug, DW.wRaise, DW.wVar, DW.wC, DW.wRaw, DW.wOp, DW.wUn, DW.waNil, DW.waCons, DW.wCB, DW.wTup, DW.wLst, DW.wTest, DW.wYes, DW.wAnd, DW.wOr, DW.wNot, DW.wTr, DW.gTr, DW.wAndV, DW.wOrV, DW.wNotV, DW.wIf, DW.rdq, DW.frz, DW.asg, DW.avf, DW.wuNil, DW.wuCons, DW.wCall, DW.wCallK, DW.wNotKD, DW.wIxKD, DW.wCallV, DW.wHear, DW.wgName, DW.wgTup, DW.wgCons, DW.wgNil,
  DW.wParN, DW.wnNil, DW.wnD, DW.wnNew, DW.asgN, DW.gAdd, DW.gSub, DW.gMul, DW.gMod, DW.gDiv, DW.gPow, DW.gLt, DW.gLe, DW.gGt, DW.gGe, DW.gEq, DW.gNe, DW.gEqS, DW.gNeS, DW.pick, List.filterMap_cons, List.filterMap_nil, DW.gInB, DW.gIs, DW.gIsNot, DW.gIx, DW.gNeg, DW.gLen, DW.gToT, DW.gToL, DW.gInt, DW.gAbs, DW.gRepr, DW.gMin2, DW.gMax2, DW.gOrd, DW.gStr, DW.gAddI, DW.gSubI, DW.gIsB, DW.gIsntB, DW.gRep, DW.gSorted, DW.wJoin, DW.gJoin, DW.wIndex, DW.gIndex, DW.wRg1, DW.wRg2, DW.LT.mk, DW.wiSeq, DW.wiRng1, DW.wiRng2, DW.wiRngB, DW.wiEnumX, DW.wiEnum, DW.wipeS, DL.truth, DL.isNo, DW.wIsi, DW.wChain, DW.wSl, DW.gSl, DW.gRev, DW.woNone, DW.woSome, DW.wFor_eq, DW.wLc_eq, DW.wNewLc_eq, DW.one_ord, DW.one_len, DL.oD_len,
  DW.eqv_int, DW.sh_intT, true_and, List.getElem?_nil, List.getElem?_cons_zero, List.getElem?_cons_succ, List.set_cons_zero, List.set_cons_succ, List.length_cons, List.length_nil, if_true, if_false, decide_eq_true_eq, Bool.false_eq_true, reduceIte, List.cons_append, List.nil_append, Nat.reduceAdd, Bool.not_true, Bool.not_false])
local macro_rules | `(tactic| walk_at "ds") => `(tactic| repeat ((with_reducible refine DW.Kt_i ?_); (walk_at "dw")))
local macro_rules | `(tactic| walk_at "go") => `(tactic| ((walk_at "dw0"); (walk_at "dw"); (walk_at "ds")))
local macro_rules | `(tactic| walk_at "dt") => `(tactic| ((try walk_at "dw"); (walk_at "ds")))
local macro_rules | `(tactic| walk_at "ex") => `(tactic| ((with_reducible refine DW.TryK_i ?_); (simp only [DW.wTryK, DW.offW]); (walk_at "dw")))
/-! ### the law itself -/
abbrev s_law : Stmt := top 16
abbrev N_law : List Str := ["_law_script", "_law_deal_here", "_law_snapshots", "_law_here", "_law_many", "_law_turn", "_law_stamp", "_law_number", "_law_stamps", "_law_due", "error", "_law_one", "_law_at"]
theorem sc_law : FnScope N_law ["_law_script"] (defScope s_law) := ⟨rfl, rfl, rfl, by decide +kernel, rfl, by decide +kernel, by decide +kernel⟩
def w_law (K : PySem.W.Frag) : WS := (wSeq (wParM 2 [3, 4] (wmMake (c_Snapshots K) (pre_Snapshots___init__ K) (post_Snapshots___init__ K) (exc_Snapshots___init__ K) wbNil) (wnNew waNil (wnD (wC (.int 0)) wnNil)))
 (wSeq (wFor (wiRng1 (waCons (wOp gAdd (wC (.int 10)) (wCall pre__law_draw post__law_draw exc__law_draw (wuCons (wVar 1) (wuCons (wC (.int 21)) wuNil)))) waNil)) (wgName 5)
 (wSeq (wIfS (wTest (wOp gLt (wCall pre__law_draw post__law_draw exc__law_draw (wuCons (wVar 1) (wuCons (wC (.int 5)) wuNil))) (wC (.int 3)))) (wSeq (wSet 6 (wIf (wTest (wOp gGt (wCall pre__law_draw post__law_draw exc__law_draw (wuCons (wVar 1) (wuCons (wC (.int 5)) wuNil))) (wC (.int 0)))) (wCall pre__law_draw post__law_draw exc__law_draw (wuCons (wVar 1) (wuCons (wC (.int 10)) wuNil))) (wCall pre__law_pick post__law_pick exc__law_pick (wuCons (wVar 1) (wuCons (wLst (waCons (wUn gNeg (wC (.int 1))) (waCons (wC .none) (waCons (wC (.bool true)) (waCons (wC (.str "1")) (waCons (wTup waNil) (waCons (wOp gPow (wC (.int 10)) (wC (.int 30))) waNil))))))) wuNil)))))
 (wTry (erL K) (wSeq (wSet 7 (wM (wmMeth (c_Snapshots K) (pre_Snapshots_begin K) (post_Snapshots_begin K) (exc_Snapshots_begin K) [0, 1] 0 (List.length [("stamp" : Str)]) (wrVar 2) wbNil (wbCons (wVar 6) wbNil))))
 (wSeq (wSet 4 (wOp gAdd (wVar 4) (wC (.int 1))))
 (wSeq (wApp 3 (wTup (waCons (wVar 4) (waCons (wVar 6) waNil))))
 (wIfS (wOr (wTest (wOp gNeS (wUn gRepr (wVar 7)) (wUn gRepr (wVar 4)))) (wOr (wNot (wTest (wCall pre__law_whole post__law_whole exc__law_whole (wuCons (wVar 6) wuNil)))) (wTest (wOp gLt (wVar 6) (wC (.int 0)))))) (wRet (wC (.bool false)))
 wNext)))) (⟨rows_InvalidSize, 10, (fun a dx cls d => (wIfS (wOr (wTest (wOp gNeS (wXf a dx cls d ((erL K).cl "InvalidSize") 10 "word") (wC (.str "stamp")))) (wAnd (wTest (wCall pre__law_whole post__law_whole exc__law_whole (wuCons (wVar 6) wuNil))) (wTest (wOp gGe (wVar 6) (wC (.int 0)))))) (wRet (wC (.bool false)))
 wNext))⟩ :: [])))
 (wSeq (wSet 7 (wCall pre__law_pick post__law_pick exc__law_pick (wuCons (wVar 1) (wuCons (wOp gAdd (wLc (wiSeq (wVar 3)) (wgTup 2 (wgCons (wgName 11) (wgCons (wgName 12) wgNil))) wYes (wVar 11) [11, 12]) (wLst (waCons (wC (.int 0)) (waCons (wOp gAdd (wVar 4) (wC (.int 1))) (waCons (wC .none) (waCons (wC (.bool true)) (waCons (wC (.str "1")) (waCons (wUn gNeg (wC (.int 1))) (waCons (wCall pre__law_draw post__law_draw exc__law_draw (wuCons (wVar 1) (wuCons (wOp gAdd (wVar 4) (wC (.int 1))) wuNil))) waNil))))))))) wuNil))))
 (wSeq (wSet 8 (wLc (wiSeq (wVar 3)) (wgTup 2 (wgCons (wgName 11) (wgCons (wgName 12) wgNil))) (wAnd (wTest (wCall pre__law_whole post__law_whole exc__law_whole (wuCons (wVar 7) wuNil))) (wTest (wOp gEq (wVar 11) (wVar 7)))) (wVar 12) [11, 12]))
 (wSeq (wSet 9 (wIf (wTest (wOp gNe (wVar 8) (wLst waNil))) (wTup (waCons (wOp gIx (wVar 8) (wC (.int 0))) (waCons (wC (.str "told")) waNil))) (wTup (waCons (wVar 7) (waCons (wC (.str "refused")) waNil)))))
 (wSeq (wIfS (wOr (wTest (wOp gNeS (wUn gRepr (wM (wmCall (pre__law_closed K) (post__law_closed K) (exc__law_closed K) (wbCons (wR (wrVar 2)) (wbCons (wVar 7) (wbCons (wC (.str "ask")) wbNil)))))) (wUn gRepr (wVar 9)))) (wTest (wOp gNeS (wUn gRepr (wM (wmCall (pre__law_closed K) (post__law_closed K) (exc__law_closed K) (wbCons (wR (wrVar 2)) (wbCons (wVar 7) (wbCons (wC (.str "close")) wbNil)))))) (wUn gRepr (wVar 9))))) (wRet (wC (.bool false)))
 wNext)
 (wNewLc 3 (wiSeq (wVar 3)) (wgTup 2 (wgCons (wgName 11) (wgCons (wgName 12) wgNil))) (wOr (wTest (wOp gEq (wVar 8) (wLst waNil))) (wTest (wOp gNe (wVar 11) (wVar 7)))) (wTup (waCons (wVar 11) (waCons (wVar 12) waNil))) [11, 12]))))))
 (wAsM 3 (wIfS (wNot (wTest (wM (wmCall (pre__law_looked K) (post__law_looked K) (exc__law_looked K) (wbCons (wVar 1) (wbCons (wR (wrVar 2)) (wbCons (wR (wrVar 3)) wbNil))))))) (wRet (wC (.bool false)))
 wNext))))
 (wRet (wC (.bool true)))))
def Go_law (K : PySem.W.Frag) : Prop := w_law K [none, some .drw, none, none, none, none, none, none, none, none, none, none, none] ⟨fun _ => False, fun x _ => x = .bool true, fun _ => False, fun _ => False, fun _ _ _ => False⟩
def spLaw (K : PySem.W.Frag) : Sp := fun vs H Q _ => ∃ (a : Addr) (ns : List Int), vs = [.ref a] ∧ SqL K H a (ns.map V.int) ∧ ∀ H', Q (.bl true) H'
section
variable {P : Program} {w : World} {K : PySem.W.Frag} {mg : Str → Option Value} {base : Heap} {f : Addr} {fd : FuncData}
theorem ok_law (go : Go_law K) (F : FnP K "law" s_law f fd) (T : Fx mg) (C__law_deal : CaG P w K mg base (L2.CX P w) 1 "_law_deal" ["_law_script", "_law_base"] (spHeap K)) (C__law_draw : Ca5 P w K mg base (L2.CX P w) 1 "_law_draw" ["_law_deal_here", "_law_bound"] (spU K (erL K) anyM pre__law_draw post__law_draw exc__law_draw)) (C__law_pick : Ca5 P w K mg base (L2.CX P w) 2 "_law_pick" ["_law_deal_here", "_law_some"] (spU K (erL K) anyM pre__law_pick post__law_pick exc__law_pick)) (C__law_whole : Ca5 P w K mg base (L2.CX P w) 1 "_law_whole" ["_law_value"] (spU K (erL K) anyM pre__law_whole post__law_whole exc__law_whole)) (C__law_closed : Ca5 P w K mg base (L2.CX P w) 5 "_law_closed" ["_law_snapshots", "_law_number", "_law_word"] (spB K (erL K) anyM (pre__law_closed K) (post__law_closed K) (exc__law_closed K))) (C__law_looked : Ca5 P w K mg base (L2.CX P w) 3 "_law_looked" ["_law_deal_here", "_law_snapshots", "_law_here"] (spB K (erL K) anyM (pre__law_looked K) (post__law_looked K) (exc__law_looked K))) (Q__law_whole : Ca5Q P w K mg base (L2.CX P w) 1 "_law_whole" ["_law_value"] (spU K (erL K) anyM pre__law_whole post__law_whole exc__law_whole)) (C_Snapshots_begin_K0_stamp : MthN P w K mg base (L2.CX P w) 3 (c_Snapshots K).ad "begin" ["self", "stamp"] 0 ["stamp"] [0, 1] (spB K (erL K) anyM (pre_Snapshots_begin K) (post_Snapshots_begin K) (exc_Snapshots_begin K))) (K_Snapshots : MkN P w K mg base (L2.CX P w) 1 "Snapshots" (c_Snapshots K).ad ["self"] (spB K (erL K) anyM (pre_Snapshots___init__ K) (post_Snapshots___init__ K) (exc_Snapshots___init__ K))) (R_InvalidSize : Er P w K mg base "InvalidSize" ((erL K).cl "InvalidSize") "word") (HR_InvalidSize : ∀ r ∈ rows_InvalidSize, PySem.W.exmOne K (.ref ((erL K).cl r.1)) (.ref ((erL K).cl "InvalidSize")) = some r.2) : FnG P w K mg base CX0 6 f fd ["_law_script"] (spLaw K) := by
  have nd := sc_law.nd
  refine fn_g F sc_law (fun vs H Q E h => ?_) (fun cdv A out s H vs Q E hG hr h => ?_)
  · obtain ⟨a, ns, rfl, _⟩ := h
    rfl
  obtain ⟨ts, dR⟩ : ∃ ts, DSs K (erL K) W0 anyM (cxOf CX0 P w K mg base N_law "law" (defScope s_law) f cdv A out s H E).nox ((defBody s_law).drop 1) ts (w_law K) := ⟨_, (dss_cons (ds_parM3 (fun h => ps_par3 (i := 2) (j := 3) (l := 4) (by rfl) nd rfl rfl rfl (by decide) (by decide) (by decide) rfl rfl rfl h (by rfl)) (dm_make0 K_Snapshots hG (hr.mono (by decide)) passN (fun _ _ => trivial) nd_Snapshots) (dn_new da_nil' (dn_d (de_int pe_int) dn_nil)))
 (dss_cons (ds_for PassesOwn.never rfl (di_rng1 rfl T.b_range (da_cons' (de_op (op_addW rfl) os_add (de_int pe_int) (de_call C__law_draw hG (hr.mono (by decide)) passN (fun _ _ => trivial) (du_cons (de_var (pv 1)) (du_cons (de_int pe_int) du_nil)))) da_nil')) (dg_name (pg_name (i := 5) nd rfl (Or.inl rfl)))
 (dss_cons (ds_if (dt_cmp op_ltW os_lt (nomark _) (de_call C__law_draw hG (hr.mono (by decide)) passN (fun _ _ => trivial) (du_cons (de_var (pv 1)) (du_cons (de_int pe_int) du_nil))) (de_int pe_int)) (dss_cons (ds_set (i := 6) nd rfl (Or.inl rfl) (de_ifx (dt_cmp op_gtW os_gt (nomark _) (de_call C__law_draw hG (hr.mono (by decide)) passN (fun _ _ => trivial) (du_cons (de_var (pv 1)) (du_cons (de_int pe_int) du_nil))) (de_int pe_int)) (de_call C__law_draw hG (hr.mono (by decide)) passN (fun _ _ => trivial) (du_cons (de_var (pv 1)) (du_cons (de_int pe_int) du_nil))) (de_call C__law_pick hG (hr.mono (by decide)) passN (fun _ _ => trivial) (du_cons (de_var (pv 1)) (du_cons (de_lst (da_cons' (de_un un_neg us_neg (de_int pe_int)) (da_cons' (de_non pe_non) (da_cons' (de_bl pe_bl) (da_cons' (de_str pe_str) (da_cons' (de_tup da_nil') (da_cons' (de_op op_pow os_pow (de_int pe_int) (de_int pe_int)) da_nil'))))))) du_nil)))))
 (dss_one (ds_try rfl rfl rfl nd takes0 (fun W pn xe tk => (dss_cons (ds_set (i := 7) nd rfl (Or.inr rfl) (de_m (dm_meth0 C_Snapshots_begin_K0_stamp hG (hr.mono (by decide)) (passW tk) (fun _ _ => trivial) (by show _ ∉ (["_stamps", "_last"] : List Str); decide) (dr_var (pv 2)) (dkb_cons (de_var (pv 6)) dkb_nil))))
 (dss_cons (ds_set (i := 4) nd rfl (Or.inl rfl) (de_op (op_addW rfl) os_add (de_var (pv 4)) (de_int pe_int)))
 (dss_cons (ds_appD rfl (fun h => ps_expr (pe_bm PySem.F.plainAttrs_list PySem.F.slot_list_append PySem.F.type_list_append mt_append (pv 3) h)) (de_tup (da_cons' (de_var (pv 4)) (da_cons' (de_var (pv 6)) da_nil'))))
 (dss_one (ds_if (dt_w (dw_or (dt_cmp op_ne os_neS (nomark _) (de_b1 (cl_reprK K rfl hG (hu64 hr)) us_repr T.b_repr (de_var (pv 7))) (de_b1 (cl_reprK K rfl hG (hu64 hr)) us_repr T.b_repr (de_var (pv 4)))) (dw_or (dt_not (dt_val (de_call C__law_whole hG (hr.mono (by decide)) (passW tk) (fun _ _ => trivial) (du_cons (de_var (pv 6)) du_nil)))) (dw_or1 (dt_cmp op_ltW os_lt (nomark _) (de_var (pv 6)) (de_int pe_int)))))) (dss_one (ds_ret (de_bl pe_bl)))
 dss_nil)))))) (dh_cons (h := ⟨rows_InvalidSize, 10, (fun a dx cls d => (wIfS (wOr (wTest (wOp gNeS (wXf a dx cls d ((erL K).cl "InvalidSize") 10 "word") (wC (.str "stamp")))) (wAnd (wTest (wCall pre__law_whole post__law_whole exc__law_whole (wuCons (wVar 6) wuNil))) (wTest (wOp gGe (wVar 6) (wC (.int 0)))))) (wRet (wC (.bool false)))
 wNext))⟩) ⟨rfl, by decide, .inl R_InvalidSize.at_⟩ rfl rfl HR_InvalidSize (fun a oe cls d pn dx hz hf => (dss_one (ds_if (dt_w (dw_or (dt_cmp op_ne os_neS (nomark _) (de_xf (dx := dx) rfl R_InvalidSize.xf R_InvalidSize.no hz hf (pv 10)) (de_str pe_str)) (dw_or1 (dt_w (dw_and (dt_val (de_callQ Q__law_whole (by exact hG) (by exact roomQ hr (by decide)) passN (fun _ _ => trivial) (du_cons (de_var (pv 6)) du_nil))) (dw_and1 (dt_cmp op_geW os_ge (nomark _) (de_var (pv 6)) (de_int pe_int)))))))) (dss_one (ds_ret (de_bl pe_bl)))
 dss_nil))) dh_nil))))
 (dss_cons (ds_set (i := 7) nd rfl (Or.inr rfl) (de_call C__law_pick hG (hr.mono (by decide)) passN (fun _ _ => trivial) (du_cons (de_var (pv 1)) (du_cons (de_op (op_addW rfl) os_add (de_lc (own := [("_law_one", 11), ("_law_at", 12)]) (g := (gTup K 2 (gCons (gName 11) (gCons (gName 12) gNil)))) rfl nd (di_seq rfl (de_var (pv 3))) (blkOk_by (own := [("_law_one", 11), ("_law_at", 12)]) (N := N_law) (sc := defScope s_law) (by decide +kernel)) (tin_tup (tins_cons (tin_name (by decide)) (tins_cons (tin_name (by decide)) tins_nil))) (fun _ _ _ _ _ => (dg_tup rfl rfl (dgs_cons (dg_name (pg_name (i := 11) nd rfl (Or.inl rfl))) (dgs_cons (dg_name (pg_name (i := 12) nd rfl (Or.inl rfl))) dgs_nil)))) (fun _ _ _ _ _ => dts_nil) (fun _ _ _ _ _ => (de_var (pv 11)))) (de_lst (da_cons' (de_int pe_int) (da_cons' (de_op (op_addW rfl) os_add (de_var (pv 4)) (de_int pe_int)) (da_cons' (de_non pe_non) (da_cons' (de_bl pe_bl) (da_cons' (de_str pe_str) (da_cons' (de_un un_neg us_neg (de_int pe_int)) (da_cons' (de_call C__law_draw hG (hr.mono (by decide)) passN (fun _ _ => trivial) (du_cons (de_var (pv 1)) (du_cons (de_op (op_addW rfl) os_add (de_var (pv 4)) (de_int pe_int)) du_nil))) da_nil'))))))))) du_nil))))
 (dss_cons (ds_set (i := 8) nd rfl (Or.inr rfl) (de_lc (own := [("_law_one", 11), ("_law_at", 12)]) (g := (gTup K 2 (gCons (gName 11) (gCons (gName 12) gNil)))) rfl nd (di_seq rfl (de_var (pv 3))) (blkOk_by (own := [("_law_one", 11), ("_law_at", 12)]) (N := N_law) (sc := defScope s_law) (by decide +kernel)) (tin_tup (tins_cons (tin_name (by decide)) (tins_cons (tin_name (by decide)) tins_nil))) (fun _ _ _ _ _ => (dg_tup rfl rfl (dgs_cons (dg_name (pg_name (i := 11) nd rfl (Or.inl rfl))) (dgs_cons (dg_name (pg_name (i := 12) nd rfl (Or.inl rfl))) dgs_nil)))) (fun _ _ _ _ _ => dts_one (dt_w (dw_and (dt_val (de_call C__law_whole hG (hr.mono (by decide)) passN (fun _ _ => trivial) (du_cons (de_var (pv 7)) du_nil))) (dw_and1 (dt_cmp (op_eqW rfl (hu64 hr)) os_eq (nomark _) (de_var (pv 11)) (de_var (pv 7))))))) (fun _ _ _ _ _ => (de_var (pv 12)))))
 (dss_cons (ds_set (i := 9) nd rfl (Or.inl rfl) (de_ifx (dt_cmp (op_neW rfl (hu64 hr)) os_ne (nomark _) (de_var (pv 8)) (de_lst da_nil')) (de_tup (da_cons' (de_ix rfl (de_var (pv 8)) (de_int pe_int)) (da_cons' (de_str pe_str) da_nil'))) (de_tup (da_cons' (de_var (pv 7)) (da_cons' (de_str pe_str) da_nil')))))
 (dss_cons (ds_if (dt_w (dw_or (dt_cmp op_ne os_neS (nomark _) (de_b1 (cl_reprK K rfl hG (hu64 hr)) us_repr T.b_repr (de_m (dm_call C__law_closed hG (hr.mono (by decide)) passN (fun _ _ => trivial) (db_cons (de_r (dr_var (pv 2))) (db_cons (de_var (pv 7)) (db_cons (de_str pe_str) db_nil)))))) (de_b1 (cl_reprK K rfl hG (hu64 hr)) us_repr T.b_repr (de_var (pv 9)))) (dw_or1 (dt_cmp op_ne os_neS (nomark _) (de_b1 (cl_reprK K rfl hG (hu64 hr)) us_repr T.b_repr (de_m (dm_call C__law_closed hG (hr.mono (by decide)) passN (fun _ _ => trivial) (db_cons (de_r (dr_var (pv 2))) (db_cons (de_var (pv 7)) (db_cons (de_str pe_str) db_nil)))))) (de_b1 (cl_reprK K rfl hG (hu64 hr)) us_repr T.b_repr (de_var (pv 9))))))) (dss_one (ds_ret (de_bl pe_bl)))
 dss_nil)
 (dss_one (ds_newLc (i := 3) (own := [("_law_one", 11), ("_law_at", 12)]) (g := (gTup K 2 (gCons (gName 11) (gCons (gName 12) gNil)))) rfl nd rfl rfl (sw_true rfl rfl rfl (by decide +kernel)) (di_seq rfl (de_var (pv 3))) (blkOk_by (own := [("_law_one", 11), ("_law_at", 12)]) (N := N_law) (sc := defScope s_law) (by decide +kernel)) (tin_tup (tins_cons (tin_name (by decide)) (tins_cons (tin_name (by decide)) tins_nil))) (fun _ _ _ _ _ => (dg_tup rfl rfl (dgs_cons (dg_name (pg_name (i := 11) nd rfl (Or.inl rfl))) (dgs_cons (dg_name (pg_name (i := 12) nd rfl (Or.inl rfl))) dgs_nil)))) (fun _ _ _ _ _ => dts_one (dt_w (dw_or (dt_cmp (op_eqW rfl (hu64 hr)) os_eq (nomark _) (de_var (pv 8)) (de_lst da_nil')) (dw_or1 (dt_cmp (op_neW rfl (hu64 hr)) os_ne (nomark _) (de_var (pv 11)) (de_var (pv 7))))))) (fun _ _ _ _ _ => (de_tup (da_cons' (de_var (pv 11)) (da_cons' (de_var (pv 12)) da_nil')))))))))))
 (dss_one (ds_asM 3 (ds_if (dt_not (dt_val (de_m (dm_call C__law_looked hG (hr.mono (by decide)) passN (fun _ _ => trivial) (db_cons (de_var (pv 1)) (db_cons (de_r (dr_var (pv 2))) (db_cons (de_r (dr_var (pv 3))) db_nil))))))) (dss_one (ds_ret (de_bl pe_bl)))
 dss_nil)))))
 (dss_one (ds_ret (de_bl pe_bl)))))⟩
  refine ⟨_, PSs.nox (pss_cons (ps_set (i := 1) nd rfl (Or.inl rfl) (xCallG (E := fun _ _ _ => False) C__law_deal hG (hr.mono (by decide)) (fun pins σ H s e s' I h => by
    obtain ⟨_, _, _, _, _, _, _, _, _, _, _, _, z⟩ := h
    exact z.elim) (pa_cons (pv 0) (pa_cons pe_int pa_nil)))) dR.1), ?_⟩
  obtain ⟨a, ns, rfl, hS, q⟩ := h
  refine ⟨.ref a, rfl, a, ns, 0, rfl, hS, by decide, by decide, fun h g H0 keep hh hg0 ne ok => ?_⟩
  have w0 : Wf (Md.law h g []) (fun _ => none) H0 := ⟨(fun _ _ e => nomatch e), ⟨ok, fun p hp => nomatch hp⟩, fun _ _ => rfl, fun _ _ _ => nofun⟩
  have f0 : Fr K (Md.law h g []) (fun _ => none) H0 [] [none, some .drw, none, none, none, none, none, none, none, none, none, none, none] [some (.ref a), some (.ref h), none, none, none, none, none, none, none, none, none, none, none] (fun _ => none) H0 := by
    have key : ∀ (i : Nat) (x : SV), ([none, some .drw, none, none, none, none, none, none, none, none, none, none, none] : Sl)[i]? = some (some x) → i = 1 ∧ x = .drw := fun i x e => by
      rcases i with _ | _ | i
      · cases e
      · cases e; exact ⟨rfl, rfl⟩
      · exfalso
        have e : (List.replicate 11 (none : Option SV))[i]? = some (some x) := e
        rw [List.getElem?_replicate] at e
        split at e <;> cases e
    refine ⟨w0, w0.tr, rfl, fun i x e => ?_, fun i j x y u v p e1 e2 e3 e4 q1 q2 => ?_, nofun, List.nodup_nil⟩
    · obtain ⟨rfl, rfl⟩ := key i x e
      exact ⟨_, rfl, h, g, rfl, Md.law_has ne⟩
    · obtain ⟨rfl, rfl⟩ := key i _ e1
      cases u <;> cases q1
  exact dR.2 _ trivial _ _ _ _ _ _ _ f0 _ _ go ⟨fun _ _ _ _ _ _ z => z.elim, fun v d s σ J H _ _ z a => by
    subst z
    rw [da_bl a]
    exact q H, fun _ _ _ _ _ _ z => z.elim, fun _ _ _ _ _ _ z => z.elim⟩ fun _ _ _ _ _ _ _ _ _ z => z.elim
end
def w_tail (K : PySem.W.Frag) : WS := (wAsM 3 (wIfS (wNot (wTest (wM (wmCall (pre__law_looked K) (post__law_looked K) (exc__law_looked K) (wbCons (wVar 1) (wbCons (wR (wrVar 2)) (wbCons (wR (wrVar 3)) wbNil))))))) (wRet (wC (.bool false)))
 wNext))
theorem looked_step {K : PySem.W.Frag} {E : EW} {p dx q : Addr} {kvs : KV} {n : Int} {m v5 v6 v7 v8 v9 v10 v11 v12 : Option SV} (ok : SnOk kvs n) (h : E.nx [none, some .drw, some (.mv (Sn K p dx q kvs n)), some (.own (kvs.map tupD)), m, v5, v6, v7, v8, v9, v10, v11, v12]) : w_tail K [none, some .drw, some (.mv (Sn K p dx q kvs n)), some (.own (kvs.map tupD)), m, v5, v6, v7, v8, v9, v10, v11, v12] E := by
  unfold w_tail
  walk_at "dw"
  refine fun a => ⟨⟨_, _, _, _, _, _, rfl, ok⟩, looked_use ?_, fun _ _ _ z => z.elim⟩
  walk_at "dw"
  exact h
def w_try (K : PySem.W.Frag) : WS := (wTry (erL K) (wSeq (wSet 7 (wM (wmMeth (c_Snapshots K) (pre_Snapshots_begin K) (post_Snapshots_begin K) (exc_Snapshots_begin K) [0, 1] 0 (List.length [("stamp" : Str)]) (wrVar 2) wbNil (wbCons (wVar 6) wbNil))))
 (wSeq (wSet 4 (wOp gAdd (wVar 4) (wC (.int 1))))
 (wSeq (wApp 3 (wTup (waCons (wVar 4) (waCons (wVar 6) waNil))))
 (wIfS (wOr (wTest (wOp gNeS (wUn gRepr (wVar 7)) (wUn gRepr (wVar 4)))) (wOr (wNot (wTest (wCall pre__law_whole post__law_whole exc__law_whole (wuCons (wVar 6) wuNil)))) (wTest (wOp gLt (wVar 6) (wC (.int 0)))))) (wRet (wC (.bool false)))
 wNext)))) (⟨rows_InvalidSize, 10, (fun a dx cls d => (wIfS (wOr (wTest (wOp gNeS (wXf a dx cls d ((erL K).cl "InvalidSize") 10 "word") (wC (.str "stamp")))) (wAnd (wTest (wCall pre__law_whole post__law_whole exc__law_whole (wuCons (wVar 6) wuNil))) (wTest (wOp gGe (wVar 6) (wC (.int 0)))))) (wRet (wC (.bool false)))
 wNext))⟩ :: []))
theorem try_step {K : PySem.W.Frag} {E : EW} {p dx q : Addr} {kvs : KV} {n : Int} {x : PyData} {v5 v7 v8 v9 v11 v12 : Option SV} (ok : SnOk kvs n) (hn : n < 40)
    (h1 : ∀ i, x = .int i → 0 ≤ i → E.nx [none, some .drw, some (.mv (Sn K p dx q (kvs ++ [(n + 1, i)]) (n + 1))), some (.own ((kvs ++ [(n + 1, i)]).map tupD)), some (.d (.int (n + 1))), v5, some (.d x), some (.d (.int (n + 1))), v8, v9, none, v11, v12])
    (h2 : numD x = false → E.nx [none, some .drw, some (.mv (Sn K p dx q kvs n)), some (.own (kvs.map tupD)), some (.d (.int n)), v5, some (.d x), v7, v8, v9, none, v11, v12]) :
    w_try K [none, some .drw, some (.mv (Sn K p dx q kvs n)), some (.own (kvs.map tupD)), some (.d (.int n)), v5, some (.d x), v7, v8, v9, none, v11, v12] E := by
  unfold w_try
  walk_at "dw"
  have hz := sizeLine_eq
  refine ⟨⟨_, _, _, _, _, _, rfl, ok, hn⟩, begin_use fun i hi i0 => ?_, begin_err fun hx => ?_⟩
  · subst hi
    walk_at "dt"
    have l1 := ok.few
    have l2 := ok.n0
    have ft : Fit (.int (n + 1)) := (fz_int (by omega) 0).fit (by decide) (by decide)
    refine ⟨⟨_, rfl⟩, by omega, by rw [List.length_map]; omega, ?_⟩
    walk_at "ds"
    refine ⟨ft.1, ft.2.1, ft.2.2, ft.1, ft.2.1, ft.2.2, ?_⟩
    rw [if_neg (by simp)]
    refine ⟨⟨_, rfl⟩, lwhole_use ?_, fun _ _ z => z.elim⟩
    show if (!true) = true then _ else _
    rw [if_neg (by decide), if_neg (by omega)]
    have := h1 i rfl i0
    rw [List.map_append] at this
    exact this
  · walk_at "dt"
    walk_at "ex"
    refine .inl ⟨List.mem_singleton.mpr rfl, fun a dx' => ⟨rfl, ?_⟩⟩
    rw [if_neg (by simp)]
    refine ⟨⟨_, rfl⟩, lwhole_use ?_, fun _ _ z => z.elim⟩
    show if wholeD x = true then _ else _
    by_cases hw : wholeD x = true
    · rw [if_pos hw]
      obtain ⟨i, rfl⟩ := whole_inv hw
      have hi : ¬ 0 ≤ i := by simpa [numD] using hx
      show if decide (0 ≤ i) = true then _ else _
      rw [if_neg (by simpa using hi)]
      exact h2 hx
    · rw [if_neg hw]
      exact h2 hx
theorem begin_turn {K : PySem.W.Frag} {E E2 : EW} {p dx q : Addr} {kvs : KV} {n : Int} {x : PyData} {v5 v7 v8 v9 v11 v12 : Option SV} (ok : SnOk kvs n) (hn : n < 40) (hx : ∀ i, x = .int i → i < 10 ^ 31) (hE : E.nx = Kt (w_tail K) E2)
    (hI : ∀ kvs' n' v7', SnOk kvs' n' → n' ≤ n + 1 → E2.nx [none, some .drw, some (.mv (Sn K p dx q kvs' n')), some (.own (kvs'.map tupD)), some (.d (.int n')), v5, some (.d x), v7', v8, v9, none, v11, v12]) :
    w_try K [none, some .drw, some (.mv (Sn K p dx q kvs n)), some (.own (kvs.map tupD)), some (.d (.int n)), v5, some (.d x), v7, v8, v9, none, v11, v12] E := by
  refine try_step ok hn (fun i hi i0 => ?_) fun h => ?_
  · rw [hE]
    exact looked_step (snOk_new ok hn ⟨i0, hx i hi⟩) (hI _ _ _ (snOk_new ok hn ⟨i0, hx i hi⟩) (Int.le_refl _))
  · rw [hE]
    exact looked_step ok (hI _ _ _ ok (by omega))
def AskX (x : PyData) : Prop := x = .none ∨ x = .bool true ∨ x = .str "1" ∨ ∃ i : Int, x = .int i ∧ i.natAbs < 10 ^ 31
def w_close (K : PySem.W.Frag) : WS := (wSeq (wSet 8 (wLc (wiSeq (wVar 3)) (wgTup 2 (wgCons (wgName 11) (wgCons (wgName 12) wgNil))) (wAnd (wTest (wCall pre__law_whole post__law_whole exc__law_whole (wuCons (wVar 7) wuNil))) (wTest (wOp gEq (wVar 11) (wVar 7)))) (wVar 12) [11, 12]))
 (wSeq (wSet 9 (wIf (wTest (wOp gNe (wVar 8) (wLst waNil))) (wTup (waCons (wOp gIx (wVar 8) (wC (.int 0))) (waCons (wC (.str "told")) waNil))) (wTup (waCons (wVar 7) (waCons (wC (.str "refused")) waNil)))))
 (wSeq (wIfS (wOr (wTest (wOp gNeS (wUn gRepr (wM (wmCall (pre__law_closed K) (post__law_closed K) (exc__law_closed K) (wbCons (wR (wrVar 2)) (wbCons (wVar 7) (wbCons (wC (.str "ask")) wbNil)))))) (wUn gRepr (wVar 9)))) (wTest (wOp gNeS (wUn gRepr (wM (wmCall (pre__law_closed K) (post__law_closed K) (exc__law_closed K) (wbCons (wR (wrVar 2)) (wbCons (wVar 7) (wbCons (wC (.str "close")) wbNil)))))) (wUn gRepr (wVar 9))))) (wRet (wC (.bool false)))
 wNext)
 (wNewLc 3 (wiSeq (wVar 3)) (wgTup 2 (wgCons (wgName 11) (wgCons (wgName 12) wgNil))) (wOr (wTest (wOp gEq (wVar 8) (wLst waNil))) (wTest (wOp gNe (wVar 11) (wVar 7)))) (wTup (waCons (wVar 11) (waCons (wVar 12) waNil))) [11, 12]))))
def stL (kvs : KV) : PyData → List Int
  | .int i => (kvs.filter fun y => y.1 == i).map (·.2)
  | _ => []
theorem find_stL (kvs : KV) (x : PyData) : findS kvs x = (stL kvs x).head? := by cases x <;> rfl
def w_rest (K : PySem.W.Frag) : WS := (wSeq (wIfS (wOr (wTest (wOp gNeS (wUn gRepr (wM (wmCall (pre__law_closed K) (post__law_closed K) (exc__law_closed K) (wbCons (wR (wrVar 2)) (wbCons (wVar 7) (wbCons (wC (.str "ask")) wbNil)))))) (wUn gRepr (wVar 9)))) (wTest (wOp gNeS (wUn gRepr (wM (wmCall (pre__law_closed K) (post__law_closed K) (exc__law_closed K) (wbCons (wR (wrVar 2)) (wbCons (wVar 7) (wbCons (wC (.str "close")) wbNil)))))) (wUn gRepr (wVar 9))))) (wRet (wC (.bool false)))
 wNext)
 (wNewLc 3 (wiSeq (wVar 3)) (wgTup 2 (wgCons (wgName 11) (wgCons (wgName 12) wgNil))) (wOr (wTest (wOp gEq (wVar 8) (wLst waNil))) (wTest (wOp gNe (wVar 11) (wVar 7)))) (wTup (waCons (wVar 11) (waCons (wVar 12) waNil))) [11, 12]))
theorem fz_bool (b : Bool) (k : Nat) : Fz (.bool b) 128 k := ⟨rfl, rfl, Nat.zero_le _, Nat.zero_le _⟩
theorem ask_fz {x : PyData} (h : AskX x) (k : Nat) : Fz x 128 k := by
  rcases h with rfl | rfl | rfl | ⟨i, rfl, h⟩
  · exact fz_none k
  · exact fz_bool true k
  · exact fz_str (by decide +kernel) (by decide) k
  · exact fz_int h k
theorem ask_sh {x : PyData} (h : AskX x) : SeqAt.shaped x = true := by
  rcases h with rfl | rfl | rfl | ⟨i, rfl, h⟩
  · rfl
  · rfl
  · decide +kernel
  · rfl
theorem due_fit {kvs : KV} {n : Int} {x : PyData} (ok : SnOk kvs n) (h : AskX x) : Fit (dueD kvs x) := by
  unfold dueD
  split
  · rename_i s hs
    obtain ⟨i, _, hm⟩ := find_mem hs
    have := ok.st _ hm
    exact (fz_tup (fzl_cons (fz_int (by simp only at this; omega) 0) (fzl_cons (fz_str (by decide +kernel) (by decide) 0) (fzl_nil 0)))).fit (by decide) (by decide)
  · exact (fz_tup (fzl_cons (ask_fz h 0) (fzl_cons (fz_str (by decide +kernel) (by decide) 0) (fzl_nil 0)))).fit (by decide) (by decide)
theorem closed_ask {K : PySem.W.Frag} {p dx q : Addr} {kvs : KV} {n : Int} {x : PyData} {P : MV → List BV → Prop} (h : P (.d (dueD kvs x)) [.mv (Sn K p dx q kvs n), .d x, .d (.str "ask")]) : ∀ r as', post__law_closed K [.mv (Sn K p dx q kvs n), .d x, .d (.str "ask")] r as' → P r as' := closed_use (by rw [if_neg (by decide)]; exact h)
theorem closed_close {K : PySem.W.Frag} {p dx q : Addr} {kvs : KV} {n : Int} {x : PyData} {P : MV → List BV → Prop} (h : P (.d (dueD kvs x)) [.mv (Sn K p dx q (offS kvs x) n), .d x, .d (.str "close")]) : ∀ r as', post__law_closed K [.mv (Sn K p dx q kvs n), .d x, .d (.str "close")] r as' → P r as' := closed_use (by rw [if_pos rfl]; exact h)
def keepX (kvs : KV) (x : PyData) (y : Int × Int) : Bool := decide (stL kvs x = []) || !(PyData.eqv (.int y.1) x)
theorem keep_off {kvs : KV} {n : Int} {x : PyData} (ok : SnOk kvs n) : kvs.filter (keepX kvs x) = offS kvs x := by
  by_cases h : stL kvs x = []
  · rw [offS_none ok (by rw [find_stL, h]; rfl)]
    exact List.filter_eq_self.mpr fun y _ => by unfold keepX; rw [decide_eq_true h]; rfl
  · cases x <;> first | exact absurd rfl h | skip
    rename_i i
    show _ = kvs.filter _
    refine List.filter_congr fun y _ => ?_
    unfold keepX
    rw [decide_eq_false h, DL.eqv_int]
    by_cases e : y.1 = i <;> simp [e]
theorem close_rest {K : PySem.W.Frag} {E E2 : EW} {p dx q : Addr} {kvs : KV} {n : Int} {x : PyData} {v5 v6 : Option SV} (ok : SnOk kvs n) (ax : AskX x) (hE : E.nx = Kt (w_tail K) E2)
    (hI : ∀ kvs' v8' v9', SnOk kvs' n → E2.nx [none, some .drw, some (.mv (Sn K p dx q kvs' n)), some (.own (kvs'.map tupD)), some (.d (.int n)), v5, v6, some (.d x), v8', v9', none, none, none]) :
    w_rest K [none, some .drw, some (.mv (Sn K p dx q kvs n)), some (.d (.list (kvs.map tupD))), some (.d (.int n)), v5, v6, some (.d x), some (.d (.list (oD (stL kvs x)))), some (.d (dueD kvs x)), none, none, none] E := by
  unfold w_rest
  walk_at "dw"
  have hz := sizeLine_eq
  have l1 := ok.few
  have l2 := ok.n0
  have l3 := ok.n1
  have ft := due_fit ok ax
  refine ⟨⟨_, _, _, _, _, _, _, rfl, ok⟩, closed_ask ?_, fun _ _ _ z => z.elim⟩
  walk_at "dw"
  refine ⟨ft.1, ft.2.1, ft.2.2, ft.1, ft.2.1, ft.2.2, ?_⟩
  rw [if_neg (by simp)]
  refine ⟨⟨_, _, _, _, _, _, _, rfl, ok⟩, closed_close ?_, fun _ _ _ z => z.elim⟩
  walk_at "dw"
  refine ⟨ft.1, ft.2.1, ft.2.2, ft.1, ft.2.1, ft.2.2, ?_⟩
  rw [if_neg (by simp)]
  walk_at "ds"
  refine ⟨by rw [List.length_map]; omega, fun i' acc s => s = [none, some .drw, some (.mv (Sn K p dx q (offS kvs x) n)), some (.d (.list (kvs.map tupD))), some (.d (.int n)), v5, v6, some (.d x), some (.d (.list (oD (stL kvs x)))), some (.d (dueD kvs x)), none, none, none] ∧ acc = ((kvs.take i').filter (keepX kvs x)).map tupD, ⟨rfl, rfl⟩, ?_, ?_⟩
  · rintro i' d acc s2 hd' ⟨rfl, rfl⟩
    obtain ⟨a, b, hk, rfl⟩ := tup_at hd'
    walk_at "dw"
    refine ⟨by omega, sh_list _, sh_list [], ?_⟩
    rw [show PyData.eqv (.list (oD (stL kvs x))) (.list []) = decide (stL kvs x = []) from eqv_list (stL kvs x) []]
    have yes : keepX kvs x (a, b) = true → List.map tupD (List.filter (keepX kvs x) (List.take i' kvs)) ++ [PyData.tuple [PyData.int a, PyData.int b]] = List.map tupD (List.filter (keepX kvs x) (List.take (i' + 1) kvs)) := fun h => by
      rw [List.take_add_one, hk, List.filter_append, List.map_append, Option.toList_some, List.filter_cons, if_pos h]; rfl
    have no : keepX kvs x (a, b) = false → List.map tupD (List.filter (keepX kvs x) (List.take i' kvs)) = List.map tupD (List.filter (keepX kvs x) (List.take (i' + 1) kvs)) := fun h => by
      rw [List.take_add_one, hk, List.filter_append, List.map_append, Option.toList_some, List.filter_cons, if_neg (by rw [h]; decide)]; simp
    split
    · rename_i h
      exact ⟨by omega, yes (by unfold keepX; rw [h]; rfl)⟩
    · rename_i h
      refine ⟨ask_sh ax, ?_⟩
      split
      · rename_i h2
        exact ⟨by omega, yes (by unfold keepX; rw [h2, Bool.or_true])⟩
      · rename_i h2
        exact no (by unfold keepX; rw [Bool.eq_false_iff.mpr h, Bool.eq_false_iff.mpr h2]; rfl)
  rintro acc s2 ⟨rfl, rfl⟩
  rw [List.length_map, List.take_length, keep_off ok]
  walk_at "dw"
  rw [hE]
  exact looked_step (snOk_off ok x) (hI _ _ _ (snOk_off ok x))
theorem close_turn {K : PySem.W.Frag} {E E2 : EW} {p dx q : Addr} {kvs : KV} {n : Int} {x : PyData} {v5 v6 v8 v9 : Option SV} (ok : SnOk kvs n) (ax : AskX x) (hE : E.nx = Kt (w_tail K) E2)
    (hI : ∀ kvs' v8' v9', SnOk kvs' n → E2.nx [none, some .drw, some (.mv (Sn K p dx q kvs' n)), some (.own (kvs'.map tupD)), some (.d (.int n)), v5, v6, some (.d x), v8', v9', none, none, none]) :
    w_close K [none, some .drw, some (.mv (Sn K p dx q kvs n)), some (.d (.list (kvs.map tupD))), some (.d (.int n)), v5, v6, some (.d x), v8, v9, none, none, none] E := by
  unfold w_close
  walk_at "dw"
  have hz := sizeLine_eq
  have l1 := ok.few
  have l2 := ok.n0
  have l3 := ok.n1
  refine ⟨by rw [List.length_map]; omega, fun i' acc s => s = [none, some .drw, some (.mv (Sn K p dx q kvs n)), some (.d (.list (kvs.map tupD))), some (.d (.int n)), v5, v6, some (.d x), v8, v9, none, none, none] ∧ acc = oD (stL (kvs.take i') x), ⟨rfl, ?_⟩, ?_, ?_⟩
  · cases x <;> rfl
  · rintro i' d acc s2 hd' ⟨rfl, rfl⟩
    obtain ⟨a, b, hk, rfl⟩ := tup_at hd'
    walk_at "dw"
    refine ⟨⟨_, rfl⟩, lwhole_use ?_, fun _ _ z => z.elim⟩
    show if wholeD x = true then _ else _
    by_cases hw : wholeD x = true
    · rw [if_pos hw]
      obtain ⟨y, rfl⟩ := whole_inv hw
      refine ⟨rfl, ?_⟩
      rw [DL.eqv_int]
      unfold stL
      dsimp only
      rw [List.take_add_one, hk, List.filter_append, List.map_append]
      by_cases h : a = y
      · rw [if_pos (by simpa using h)]; simp [oD, h]
      · rw [if_neg (by simpa using h)]; simp [oD, h]
    · rw [if_neg hw]
      cases x <;> first | rfl | exact absurd rfl hw
  rintro acc s2 ⟨rfl, rfl⟩
  rw [List.length_map, List.take_length]
  walk_at "ds"
  refine ⟨by omega, sh_list _, sh_list [], ?_⟩
  rw [show PyData.eqv (.list (oD (stL kvs x))) (.list []) = decide (stL kvs x = []) from eqv_list (stL kvs x) []]
  have fe := find_stL kvs x
  cases es : stL kvs x with
  | nil =>
    rw [es] at fe
    rw [if_neg (by simp)]
    refine ⟨by omega, ?_⟩
    rw [← due_ref fe, ← es]
    exact close_rest ok ax hE hI
  | cons s r =>
    rw [es] at fe
    rw [if_pos (by simp)]
    refine ⟨.int s, L2.atI_nat (j := 0) rfl, by omega, ?_⟩
    rw [← due_told (x := x) (kvs := kvs) (s := s) fe, ← es]
    exact close_rest ok ax hE hI
theorem go_law {K : PySem.W.Frag} : Go_law K := by
  unfold Go_law w_law
  walk_at "go"
  refine fun p dx => ⟨⟨p, dx, rfl⟩, ?_, fun _ _ _ z => z.elim⟩
  rintro r as' ⟨rfl, p', dx', q, e, rfl⟩
  obtain ⟨rfl, e2, _⟩ := MV.nd.inj (BV.mv.inj (List.cons.inj e).1)
  obtain ⟨rfl, _⟩ := Kd.obj.inj e2
  have hz := sizeLine_eq
  refine ⟨_, _, rfl, rfl, by omega, ?_⟩
  walk_at "ds"
  refine ⟨draw_ok (by decide) (by decide), draw_use fun k k0 k1 => ?_, fun _ _ z => z⟩
  walk_at "dw"
  refine ⟨⟨by omega, by omega⟩, fun i s => ∃ kvs n v5 v6 v7 v8 v9, s = [none, some .drw, some (.mv (Sn K p dx q kvs n)), some (.own (kvs.map tupD)), some (.d (.int n)), v5, v6, v7, v8, v9, none, none, none] ∧ SnOk kvs n ∧ n ≤ i, ⟨[], 0, none, none, none, none, none, rfl, ⟨by simp, by simp, by simp, by simp, by simp, by simp⟩, by simp⟩, ?_, ?_⟩
  · rintro i d s2 hd ⟨kvs, n, v5, v6, v7, v8, v9, rfl, ok, hn⟩
    obtain ⟨rfl, hi⟩ := rngD_at hd
    walk_at "dw"
    refine ⟨draw_ok (by decide) (by decide), draw_use fun c c0 c1 => ?_, fun _ _ z => z⟩
    walk_at "dw"
    split
    · walk_at "ds"
      refine ⟨draw_ok (by decide) (by decide), draw_use fun c' c0' c1' => ?_, fun _ _ z => z⟩
      walk_at "dw"
      split
      · refine ⟨draw_ok (by decide) (by decide), draw_use fun b b0 b1 => ?_, fun _ _ z => z⟩
        exact begin_turn ok (by omega) (fun i hi => by cases hi; omega) rfl fun kvs' n' v7' ok' hn' => ⟨kvs', n', _, _, _, _, _, rfl, ok', by omega⟩
      · refine ⟨by omega, ⟨by decide, by decide, by decide⟩, by omega, pick_ok (by simp) (by simp), pick_use fun x hx => ?_, fun _ _ z => z⟩
        refine begin_turn ok (by omega) (fun i hi => ?_) rfl fun kvs' n' v7' ok' hn' => ⟨kvs', n', _, _, _, _, _, rfl, ok', by omega⟩
        subst hi
        have h3 : i = -1 ∨ i = 10 ^ Int.toNat 30 := by simpa using hx
        rcases h3 with rfl | rfl <;> decide
    · walk_at "ds"
      have l1 := ok.few
      have l2 := ok.n0
      have l3 := ok.n1
      refine ⟨by rw [List.length_map]; omega, fun i' acc s => s = [none, some .drw, some (.mv (Sn K p dx q kvs n)), some (.d (.list (kvs.map tupD))), some (.d (.int n)), some (.d (.int (0 + (i : Int)))), v6, v7, v8, v9, none, none, none] ∧ acc = oD ((kvs.take i').map (·.1)), ⟨rfl, rfl⟩, ?_, ?_⟩
      · rintro i' d acc s2 hd' ⟨rfl, rfl⟩
        obtain ⟨a, b, hk, rfl⟩ := tup_at hd'
        walk_at "dw"
        rw [List.take_add_one, hk, List.map_append]
        simp [oD]
      rintro acc s2 ⟨rfl, rfl⟩
      rw [List.length_map, List.take_length]
      walk_at "dw"
      refine ⟨draw_ok (by omega) (by omega), draw_use fun m m0 m1 => ?_, fun _ _ z => z⟩
      refine ⟨by omega, by rw [List.length_map]; omega, pick_ok (by simp) (by simp [oD_len]; omega), pick_use fun x hx => ?_, fun _ _ z => z⟩
      have ax : AskX x := by
        rcases List.mem_append.mp hx with hx | hx
        · obtain ⟨j, hj, rfl⟩ := List.mem_map.mp hx
          obtain ⟨y, hy, rfl⟩ := List.mem_map.mp hj
          have := ok.le y hy
          exact .inr (.inr (.inr ⟨_, rfl, by omega⟩))
        · simp only [List.mem_cons, List.not_mem_nil, or_false] at hx
          rcases hx with rfl | rfl | rfl | rfl | rfl | rfl | rfl
          · exact .inr (.inr (.inr ⟨_, rfl, by omega⟩))
          · exact .inr (.inr (.inr ⟨_, rfl, by omega⟩))
          · exact .inl rfl
          · exact .inr (.inl rfl)
          · exact .inr (.inr (.inl rfl))
          · exact .inr (.inr (.inr ⟨_, rfl, by omega⟩))
          · exact .inr (.inr (.inr ⟨_, rfl, by omega⟩))
      exact close_turn ok ax rfl fun kvs' v8' v9' ok' => ⟨kvs', n, _, _, _, _, _, rfl, ok', by omega⟩
  · rintro s2 ⟨kvs, n, v5, v6, v7, v8, v9, rfl, ok, hn⟩
    walk_at "ds"
end K18

namespace K18
open PySem PySem.Spec
open PyProof.Rows L2 DL DW
def bodyC : Stmt → List Stmt
  | .ClassDef _ _ _ b _ _ _ _ _ _ _ => b
  | _ => []
abbrev ini (i : Nat) : Stmt := (bodyC (top i)).getD 0 (.Pass ⟨0, 0, 0, 0⟩)
theorem sc_ok_ini2 : FnScope ["self", "word"] ["self", "word"] (defScope (ini 2)) := ⟨rfl, rfl, rfl, by decide +kernel, rfl, by decide +kernel, by decide +kernel⟩
theorem sc_ok_ini3 : FnScope ["self", "name"] ["self", "name"] (defScope (ini 3)) := ⟨rfl, rfl, rfl, by decide +kernel, rfl, by decide +kernel, by decide +kernel⟩
section
variable {P : Program} {w : World} {K : PySem.W.Frag} {mg : Str → Option Value} {base : Heap} {f C : Addr} {fd : FuncData}
theorem ok_ini2 (F : FunD K "__init__" "InvalidSize.__init__" (defArgs (ini 2)) (defBody (ini 2)) (defScope (ini 2)) [] [] f fd) (T : OwnE K C exTl "Exception.__new__") : FnOk P w K mg base CX0 1 f fd ["self", "word"] (spIni K C "word") := by
  refine F.ok sc_ok_ini2 (fun vs H Q E h => ?_) (fun cdv A outer s H vs Q E hr h => ?_)
  · obtain ⟨b, v, rfl, _⟩ := h
    rfl
  refine ⟨_, PSs.nox (pss_one (ps_put (nw := "Exception.__new__") exTl_pass rfl (pv 0) (pv 1))), ?_⟩
  have e : start ["self", "word"] vs = vs.map some := by
    obtain ⟨b, v, rfl, _⟩ := h
    rfl
  rw [e]
  exact ini_read T h
theorem ok_ini3 (F : FunD K "__init__" "NoName.__init__" (defArgs (ini 3)) (defBody (ini 3)) (defScope (ini 3)) [] [] f fd) (T : OwnE K C lkTl "LookupError.__new__") : FnOk P w K mg base CX0 1 f fd ["self", "name"] (spIni K C "name") := by
  refine F.ok sc_ok_ini3 (fun vs H Q E h => ?_) (fun cdv A outer s H vs Q E hr h => ?_)
  · obtain ⟨b, v, rfl, _⟩ := h
    rfl
  refine ⟨_, PSs.nox (pss_one (ps_put (nw := "LookupError.__new__") lkTl_pass rfl (pv 0) (pv 1))), ?_⟩
  have e : start ["self", "name"] vs = vs.map some := by
    obtain ⟨b, v, rfl, _⟩ := h
    rfl
  rw [e]
  exact ini_read T h
end
/-! ### the head -/
theorem fun_kbP {K : PySem.W.Frag} {x qual : Str} {params : Arguments} {body : List Stmt} {scope : Scope} {f : Addr} {fd : FuncData} {ps : List Str} (F : FunD K x qual params body scope [] [] f fd) (n : Nat) (ks : List Str) (π : List Nat)
    (h : ∀ (kV doc pm : Value) (an : Option Addr) (cdv ct : Value) (us ws : List Value), us.length = n → ws.length = ks.length → bindArgs (PySem.W.fnOf x qual params body scope .none kV doc pm an cdv ct) ⟨us, ks.zip ws⟩ = pure (ps.zip (pick π (us ++ ws)))) :
    KBn K fd ps n ks (fun us ws => pick π (us ++ ws)) (fun vs zs => pick π (vs ++ zs)) := by
  obtain ⟨_, _, _, k1, d1, m1, a1, c1, t1, _, e, _, _, dfl, _⟩ := F.ex
  subst e
  match dfl with
  | .inl ⟨_, none_⟩ => subst none_; exact ⟨fun s us ws _ l1 l2 => .of_eq (h k1 d1 m1 a1 c1 t1 us ws l1 l2), fun r1 r2 => vals_pick (r1.append r2) π⟩
  | .inr ⟨some_, _⟩ => exact absurd rfl some_
def dd (x : Str) (i : Nat) : He.DefD := ⟨(x, none), x, x, defArgs (top i), defBody (top i), defScope (top i), [], []⟩
def fn : List He.DefD := [⟨("InvalidSize", some "__init__"), "__init__", "InvalidSize.__init__", defArgs (ini 2), defBody (ini 2), defScope (ini 2), [], []⟩, ⟨("NoName", some "__init__"), "__init__", "NoName.__init__", defArgs (ini 3), defBody (ini 3), defScope (ini 3), [], []⟩, dd "is_whole" 5, dd "is_number" 6, ⟨("Snapshots", some "__init__"), "__init__", "Snapshots.__init__", defArgs (inClass (top 8) 0), defBody (inClass (top 8) 0), defScope (inClass (top 8) 0), [], []⟩, ⟨("Snapshots", some "begin"), "begin", "Snapshots.begin", defArgs (inClass (top 8) 1), defBody (inClass (top 8) 1), defScope (inClass (top 8) 1), [], []⟩, ⟨("Snapshots", some "stamp_of"), "stamp_of", "Snapshots.stamp_of", defArgs (inClass (top 8) 2), defBody (inClass (top 8) 2), defScope (inClass (top 8) 2), [], []⟩, ⟨("Snapshots", some "close"), "close", "Snapshots.close", defArgs (inClass (top 8) 3), defBody (inClass (top 8) 3), defScope (inClass (top 8) 3), [], []⟩, ⟨("Snapshots", some "live"), "live", "Snapshots.live", defArgs (inClass (top 8) 4), defBody (inClass (top 8) 4), defScope (inClass (top 8) 4), [], []⟩, ⟨("Snapshots", some "holders"), "holders", "Snapshots.holders", defArgs (inClass (top 8) 5), defBody (inClass (top 8) 5), defScope (inClass (top 8) 5), [], []⟩, ⟨("Snapshots", some "last_within"), "last_within", "Snapshots.last_within", defArgs (inClass (top 8) 6), defBody (inClass (top 8) 6), defScope (inClass (top 8) 6), [], []⟩, dd "_law_deal" 10, dd "_law_draw" 11, dd "_law_pick" 12, dd "_law_whole" 13, dd "_law_closed" 14, dd "_law_looked" 15, dd "law" 16]
def fa : List He.Fa := ([.free "isinstance", .free "int", .free "bool", .free "list", .free "sorted", .free "set", .free "tuple", .free "len", .free "repr", .free "range", .free "abs", .free "KeyError", .glo "is_whole", .glo "is_number", .glo "_law_deal", .glo "_law_draw", .glo "_law_pick", .glo "_law_whole", .glo "_law_closed", .glo "_law_looked", .glo "law", .glo "Snapshots", .exm "InvalidSize" "InvalidSize" true, .exm "NoName" "NoName" true] : List He.Fa) ++ ([.cls "Snapshots", .noat "Snapshots" "_stamps", .noat "Snapshots" "_last", .mkr "Snapshots", .meth "Snapshots" "begin", .meth "Snapshots" "stamp_of", .meth "Snapshots" "close", .meth "Snapshots" "live", .meth "Snapshots" "holders", .meth "Snapshots" "last_within"] : List He.Fa)
def excB (K : PySem.W.Frag) (D : Addr) : Bool := He.eqO (PySem.W.findIn K (.ref D) "__getattribute__") (some (some (.builtin "BaseException.__getattribute__"))) && (He.eqO (PySem.W.findIn K (.ref D) "__getattr__") (some none) && (decide (PySem.W.subIn K (.ref D) (.type "BaseException") = some true) && (PySem.W.hasDictIn K D && (He.eqO (PySem.W.findIn K (.ref D) "__class__") (some (some (.builtin "object.__class__"))) &&
  (He.eqO (PySem.W.specialIn K (.builtin "object.__class__") "__get__") (some (some (.builtin "getset_descriptor.__get__"))) && (decide (PySem.W.takesIn K (.builtin "object.__class__") = some true) && decide (PySem.W.mroIn K D (.type "object") = some true)))))))
theorem excB_ok {K : PySem.W.Frag} {D : Addr} (c : excB K D = true) : L2.ExcC K D := by
  obtain ⟨h1, c⟩ := He.ba c
  obtain ⟨h2, c⟩ := He.ba c
  obtain ⟨h3, c⟩ := He.ba c
  obtain ⟨h4, c⟩ := He.ba c
  obtain ⟨h5, c⟩ := He.ba c
  obtain ⟨h6, c⟩ := He.ba c
  obtain ⟨h7, h8⟩ := He.ba c
  exact ⟨He.eqO_ok h1, He.eqO_ok h2, of_decide_eq_true h3, h4, He.eqO_ok h5, He.eqO_ok h6, of_decide_eq_true h7, of_decide_eq_true h8⟩
def ixB (K : PySem.W.Frag) : Bool := excB K (He.ga K "NoName") && decide (PySem.W.kitOne K (.ref (He.ga K "NoName")) (.type "KeyError") = some true)
def ex (K : PySem.W.Frag) : Bool := erB K "InvalidSize" "word" && (erK K "NoName" "name" && ixB K)
abbrev R : PySem.W.OpenRow := PySem.W.OpenLaw.row PySem.Challenge.rw_spelledways_k18_who_looks_at_which_stamp
abbrev hk : PySem.W.Hook := He.hookX 6 fa fn [] [] ex
def ob (s : PySem.W.SharedT) : He.AlX := He.obsX 6 fa fn [] [] ex (HandSHeadRun.getT s)
theorem ob_eq (s : PySem.W.SharedT) : ob s = hk.obs s.abs := He.obsX_eq (HandSHeadRun.getT_eq s)
def loose : List Str := ["StoreError", "InvalidSize", "NoName", "Snapshots", "is_whole", "is_number", "_law_deal", "_law_draw", "_law_pick", "_law_whole", "_law_closed", "_law_looked"]
theorem run (w : World) : HandSHeadRun.RunEq R (PySem.W.view R.prog [16]) hk ob 4000 loose w := by
  intro os
  kernel_rfl
section
variable {P : Program} {w : World} {K : PySem.W.Frag} {h base : Heap} {mg : Str → Option Value}
theorem bd {x q : Str} {params : Arguments} {body : List Stmt} {scope : Scope} {f : Addr} {fd : FuncData} {ps : List Str} (F : FunD K x q params body scope [] [] f fd)
    (hh : ∀ (kV doc pm : Value) (an : Option Addr) (cdv ct : Value) (us : List Value), us.length = ps.length → bindArgs (PySem.W.fnOf x q params body scope .none kV doc pm an cdv ct) ⟨us, []⟩ = pure (ps.zip us)) : Binds K fd ps [] := F.bindsN hh
theorem facts {f : Addr} (X : K.In h) (G : h.Ns mainGlobals mg) (hfa : mg ("law" : Str) = some (.ref f)) (c : He.SaysD fa fn K) (ce : ex K = true) :
    ∃ fd : FuncData, (∀ (s : Shared) (v : Value), BindsTo s fd ⟨[v], []⟩ [("_law_script", v)]) ∧ ∀ base : Heap, K.In base → base.Ns mainGlobals mg → FnG P w K mg base CX0 6 f fd ["_law_script"] (spLaw K) := by
  obtain ⟨ce1, ce⟩ := He.ba ce
  obtain ⟨ce2, ce3⟩ := He.ba ce
  obtain ⟨i1, i2⟩ := He.ba ce3
  have gl : ∀ (i : Nat) (x : Str), fa[i]? = some (.glo x) → mg x = some (.ref (He.ga K x)) := fun i x e => He.glo_ok X G (c.fact i e)
  have fr : ∀ (i : Nat) (x : Str), fa[i]? = some (.free x) → mg x = none := fun i x e => He.free_ok X G (c.fact i e)
  have T : Fx mg := ⟨fr 0 _ rfl, fr 1 _ rfl, fr 2 _ rfl, fr 3 _ rfl, fr 4 _ rfl, fr 5 _ rfl, fr 6 _ rfl, fr 7 _ rfl, fr 8 _ rfl, fr 9 _ rfl, fr 10 _ rfl⟩
  obtain ⟨fd0, F0⟩ := c.def_ 0 rfl
  obtain ⟨fd1, F1⟩ := c.def_ 1 rfl
  obtain ⟨fd2, F2⟩ := c.def_ 2 rfl
  obtain ⟨fd3, F3⟩ := c.def_ 3 rfl
  obtain ⟨fd4, F4⟩ := c.def_ 4 rfl
  obtain ⟨fd5, F5⟩ := c.def_ 5 rfl
  obtain ⟨fd6, F6⟩ := c.def_ 6 rfl
  obtain ⟨fd7, F7⟩ := c.def_ 7 rfl
  obtain ⟨fd8, F8⟩ := c.def_ 8 rfl
  obtain ⟨fd9, F9⟩ := c.def_ 9 rfl
  obtain ⟨fd10, F10⟩ := c.def_ 10 rfl
  obtain ⟨fd11, F11⟩ := c.def_ 11 rfl
  obtain ⟨fd12, F12⟩ := c.def_ 12 rfl
  obtain ⟨fd13, F13⟩ := c.def_ 13 rfl
  obtain ⟨fd14, F14⟩ := c.def_ 14 rfl
  obtain ⟨fd15, F15⟩ := c.def_ 15 rfl
  obtain ⟨fd16, F16⟩ := c.def_ 16 rfl
  obtain ⟨fd17, F17⟩ := c.def_ 17 rfl
  have e := hfa.symm.trans (gl 20 "law" rfl)
  cases e
  have b := FunD.bindsA (ps := ["_law_script"]) F17 fun _ _ _ _ _ _ us hl => match us, hl with | [_], _ => rfl
  refine ⟨fd17, fun s v => b s [v] rfl, fun base XB GB => ?_⟩
  have b0 : Binds K fd0 ["self", "word"] [] := bd F0 fun _ _ _ _ _ _ us hl => match us, hl with | [_, _], _ => rfl
  have b1 : Binds K fd1 ["self", "name"] [] := bd F1 fun _ _ _ _ _ _ us hl => match us, hl with | [_, _], _ => rfl
  have R_InvalidSize : Er P w K mg base "InvalidSize" ((erL K).cl "InvalidSize") "word" := er_of ce1 X G (ok_ini2 F0 (erB_own ce1)) b0
  have R_NoName : Er P w K mg base "NoName" ((erL K).cl "NoName") "name" := erK_of ce2 X G (ok_ini3 F1 (erK_own ce2)) b1
  have HR_InvalidSize : ∀ r ∈ rows_InvalidSize, PySem.W.exmOne K (.ref ((erL K).cl r.1)) (.ref ((erL K).cl "InvalidSize")) = some r.2 := fun r hr => by
    rw [List.mem_singleton.mp hr]; exact He.exm_ok (c.fact 22 (f := .exm "InvalidSize" "InvalidSize" true) rfl)
  have HR_NoName : ∀ r ∈ rows_NoName, PySem.W.exmOne K (.ref ((erL K).cl r.1)) (.ref ((erL K).cl "NoName")) = some r.2 := fun r hr => by
    rw [List.mem_singleton.mp hr]; exact He.exm_ok (c.fact 23 (f := .exm "NoName" "NoName" true) rfl)
  have IX_NoName_KeyError : L2.ExcC K ((erL K).cl "NoName") ∧ PySem.W.kitOne K (.ref ((erL K).cl "NoName")) (.type "KeyError") = some true ∧ mg "KeyError" = none := ⟨excB_ok i1, of_decide_eq_true i2, fr 11 _ rfl⟩
  have cls : L2.Cls K (c_Snapshots K).ad := He.cls_ok (c.fact 24 (f := .cls "Snapshots") rfl)
  have CF_Snapshots : CF K (c_Snapshots K) := ⟨cls, fun f hf => by
    rcases List.mem_cons.mp hf with rfl | hf
    · exact He.noat_ok (c.fact 25 (f := .noat "Snapshots" "_stamps") rfl)
    · rw [List.mem_singleton.mp hf]; exact He.noat_ok (c.fact 26 (f := .noat "Snapshots" "_last") rfl), by show 2 < 1000; decide⟩
  have O_is_whole := ok_is_whole (P := P) (w := w) (mg := mg) (base := base) go_is_whole F2 T 
  have B_is_whole : Binds K fd2 ["value"] [] := bd F2 fun _ _ _ _ _ _ us hl => match us, hl with | [_], _ => rfl
  have C_is_whole : Ca5 P w K mg base (L2.CX P w) 1 "is_whole" ["value"] (spU K (erL K) anyM pre_is_whole post_is_whole exc_is_whole) := ⟨_, fd2, O_is_whole, gl 12 _ rfl, F2.kp, B_is_whole⟩
  have O_is_number := ok_is_number (P := P) (w := w) (mg := mg) (base := base) go_is_number F3 T C_is_whole
  have B_is_number : Binds K fd3 ["value"] [] := bd F3 fun _ _ _ _ _ _ us hl => match us, hl with | [_], _ => rfl
  have C_is_number : Ca5 P w K mg base (L2.CX P w) 2 "is_number" ["value"] (spU K (erL K) anyM pre_is_number post_is_number exc_is_number) := ⟨_, fd3, O_is_number, gl 13 _ rfl, F3.kp, B_is_number⟩
  have O_Snapshots___init__ := ok_Snapshots___init__ (P := P) (w := w) (mg := mg) (base := base) go_Snapshots___init__ F4 T CF_Snapshots
  have B_Snapshots___init__ : Binds K fd4 ["self"] [] := bd F4 fun _ _ _ _ _ _ us hl => match us, hl with | [_], _ => rfl
  have K_Snapshots : MkN P w K mg base (L2.CX P w) 1 "Snapshots" (c_Snapshots K).ad ["self"] (spB K (erL K) anyM (pre_Snapshots___init__ K) (post_Snapshots___init__ K) (exc_Snapshots___init__ K)) := ⟨_, fd4, He.mkr_ok (c.fact 27 (f := .mkr "Snapshots") rfl), O_Snapshots___init__, gl 21 _ rfl, B_Snapshots___init__⟩
  have O_Snapshots_begin := ok_Snapshots_begin (P := P) (w := w) (mg := mg) (base := base) go_Snapshots_begin F5 T C_is_number CF_Snapshots R_InvalidSize
  have B_Snapshots_begin : Binds K fd5 ["self", "stamp"] [] := bd F5 fun _ _ _ _ _ _ us hl => match us, hl with | [_, _], _ => rfl
  have C_Snapshots_begin_K0_stamp : MthN P w K mg base (L2.CX P w) 3 (c_Snapshots K).ad "begin" ["self", "stamp"] 0 ["stamp"] [0, 1] (spB K (erL K) anyM (pre_Snapshots_begin K) (post_Snapshots_begin K) (exc_Snapshots_begin K)) := ⟨cls, _, fd5, He.meth_ok (c.fact 28 (f := .meth "Snapshots" "begin") rfl), O_Snapshots_begin, fun_kbP F5 1 ["stamp"] [0, 1] fun _ _ _ _ _ _ us ws h1 h2 => match us, ws, h1, h2 with | [_], [_], _, _ => rfl⟩
  have O_Snapshots_stamp_of := ok_Snapshots_stamp_of (P := P) (w := w) (mg := mg) (base := base) go_Snapshots_stamp_of F6 T C_is_number CF_Snapshots R_NoName
  have B_Snapshots_stamp_of : Binds K fd6 ["self", "number"] [] := bd F6 fun _ _ _ _ _ _ us hl => match us, hl with | [_, _], _ => rfl
  have C_Snapshots_stamp_of_K1_ : MthN P w K mg base (L2.CX P w) 3 (c_Snapshots K).ad "stamp_of" ["self", "number"] 1 [] [0, 1] (spB K (erL K) anyM (pre_Snapshots_stamp_of K) (post_Snapshots_stamp_of K) (exc_Snapshots_stamp_of K)) := ⟨cls, _, fd6, He.meth_ok (c.fact 29 (f := .meth "Snapshots" "stamp_of") rfl), O_Snapshots_stamp_of, fun_kbP F6 2 [] [0, 1] fun _ _ _ _ _ _ us ws h1 h2 => match us, ws, h1, h2 with | [_, _], [], _, _ => rfl⟩
  have C_Snapshots_stamp_of_K0_number : MthN P w K mg base (L2.CX P w) 3 (c_Snapshots K).ad "stamp_of" ["self", "number"] 0 ["number"] [0, 1] (spB K (erL K) anyM (pre_Snapshots_stamp_of K) (post_Snapshots_stamp_of K) (exc_Snapshots_stamp_of K)) := ⟨cls, _, fd6, He.meth_ok (c.fact 29 (f := .meth "Snapshots" "stamp_of") rfl), O_Snapshots_stamp_of, fun_kbP F6 1 ["number"] [0, 1] fun _ _ _ _ _ _ us ws h1 h2 => match us, ws, h1, h2 with | [_], [_], _, _ => rfl⟩
  have O_Snapshots_close := ok_Snapshots_close (P := P) (w := w) (mg := mg) (base := base) go_Snapshots_close F7 T C_Snapshots_stamp_of_K1_ CF_Snapshots
  have B_Snapshots_close : Binds K fd7 ["self", "number"] [] := bd F7 fun _ _ _ _ _ _ us hl => match us, hl with | [_, _], _ => rfl
  have C_Snapshots_close_K0_number : MthN P w K mg base (L2.CX P w) 4 (c_Snapshots K).ad "close" ["self", "number"] 0 ["number"] [0, 1] (spB K (erL K) anyM (pre_Snapshots_close K) (post_Snapshots_close K) (exc_Snapshots_close K)) := ⟨cls, _, fd7, He.meth_ok (c.fact 30 (f := .meth "Snapshots" "close") rfl), O_Snapshots_close, fun_kbP F7 1 ["number"] [0, 1] fun _ _ _ _ _ _ us ws h1 h2 => match us, ws, h1, h2 with | [_], [_], _, _ => rfl⟩
  have O_Snapshots_live := ok_Snapshots_live (P := P) (w := w) (mg := mg) (base := base) go_Snapshots_live F8 T CF_Snapshots
  have B_Snapshots_live : Binds K fd8 ["self"] [] := bd F8 fun _ _ _ _ _ _ us hl => match us, hl with | [_], _ => rfl
  have C_Snapshots_live_K0_ : MthN P w K mg base (L2.CX P w) 1 (c_Snapshots K).ad "live" ["self"] 0 [] [0] (spB K (erL K) anyM (pre_Snapshots_live K) (post_Snapshots_live K) (exc_Snapshots_live K)) := ⟨cls, _, fd8, He.meth_ok (c.fact 31 (f := .meth "Snapshots" "live") rfl), O_Snapshots_live, fun_kbP F8 1 [] [0] fun _ _ _ _ _ _ us ws h1 h2 => match us, ws, h1, h2 with | [_], [], _, _ => rfl⟩
  have O_Snapshots_holders := ok_Snapshots_holders (P := P) (w := w) (mg := mg) (base := base) go_Snapshots_holders F9 T CF_Snapshots
  have B_Snapshots_holders : Binds K fd9 ["self", "stamp"] [] := bd F9 fun _ _ _ _ _ _ us hl => match us, hl with | [_, _], _ => rfl
  have C_Snapshots_holders_K0_stamp : MthN P w K mg base (L2.CX P w) 1 (c_Snapshots K).ad "holders" ["self", "stamp"] 0 ["stamp"] [0, 1] (spB K (erL K) anyM (pre_Snapshots_holders K) (post_Snapshots_holders K) (exc_Snapshots_holders K)) := ⟨cls, _, fd9, He.meth_ok (c.fact 32 (f := .meth "Snapshots" "holders") rfl), O_Snapshots_holders, fun_kbP F9 1 ["stamp"] [0, 1] fun _ _ _ _ _ _ us ws h1 h2 => match us, ws, h1, h2 with | [_], [_], _, _ => rfl⟩
  have O_Snapshots_last_within := ok_Snapshots_last_within (P := P) (w := w) (mg := mg) (base := base) go_Snapshots_last_within F10 T C_Snapshots_live_K0_
  have B_Snapshots_last_within : Binds K fd10 ["self", "first", "last"] [] := bd F10 fun _ _ _ _ _ _ us hl => match us, hl with | [_, _, _], _ => rfl
  have C_Snapshots_last_within_K0_last_first : MthN P w K mg base (L2.CX P w) 2 (c_Snapshots K).ad "last_within" ["self", "first", "last"] 0 ["last", "first"] [0, 2, 1] (spB K (erL K) anyM (pre_Snapshots_last_within K) (post_Snapshots_last_within K) (exc_Snapshots_last_within K)) := ⟨cls, _, fd10, He.meth_ok (c.fact 33 (f := .meth "Snapshots" "last_within") rfl), O_Snapshots_last_within, fun_kbP F10 1 ["last", "first"] [0, 2, 1] fun _ _ _ _ _ _ us ws h1 h2 => match us, ws, h1, h2 with | [_], [_, _], _, _ => rfl⟩
  have C_Snapshots_last_within_K2_ : MthN P w K mg base (L2.CX P w) 2 (c_Snapshots K).ad "last_within" ["self", "first", "last"] 2 [] [0, 1, 2] (spB K (erL K) anyM (pre_Snapshots_last_within K) (post_Snapshots_last_within K) (exc_Snapshots_last_within K)) := ⟨cls, _, fd10, He.meth_ok (c.fact 33 (f := .meth "Snapshots" "last_within") rfl), O_Snapshots_last_within, fun_kbP F10 3 [] [0, 1, 2] fun _ _ _ _ _ _ us ws h1 h2 => match us, ws, h1, h2 with | [_, _, _], [], _, _ => rfl⟩
  have O__law_deal := ok__law_deal (P := P) (w := w) (mg := mg) (base := base) F11 T
  have B__law_deal : Binds K fd11 ["_law_script", "_law_base"] [] := bd F11 fun _ _ _ _ _ _ us hl => match us, hl with | [_, _], _ => rfl
  have C__law_deal : CaG P w K mg base (L2.CX P w) 1 "_law_deal" ["_law_script", "_law_base"] (spHeap K) := ⟨_, fd11, O__law_deal, gl 14 _ rfl, F11.kp, B__law_deal⟩
  have O__law_draw := ok__law_draw (P := P) (w := w) (mg := mg) (base := base) F12 T
  have B__law_draw : Binds K fd12 ["_law_deal_here", "_law_bound"] [] := bd F12 fun _ _ _ _ _ _ us hl => match us, hl with | [_, _], _ => rfl
  have C__law_draw : Ca5 P w K mg base (L2.CX P w) 1 "_law_draw" ["_law_deal_here", "_law_bound"] (spU K (erL K) anyM pre__law_draw post__law_draw exc__law_draw) := ⟨_, fd12, O__law_draw, gl 15 _ rfl, F12.kp, B__law_draw⟩
  have O__law_pick := ok__law_pick (P := P) (w := w) (mg := mg) (base := base) go__law_pick F13 T C__law_draw
  have B__law_pick : Binds K fd13 ["_law_deal_here", "_law_some"] [] := bd F13 fun _ _ _ _ _ _ us hl => match us, hl with | [_, _], _ => rfl
  have C__law_pick : Ca5 P w K mg base (L2.CX P w) 2 "_law_pick" ["_law_deal_here", "_law_some"] (spU K (erL K) anyM pre__law_pick post__law_pick exc__law_pick) := ⟨_, fd13, O__law_pick, gl 16 _ rfl, F13.kp, B__law_pick⟩
  have O__law_whole := ok__law_whole (P := P) (w := w) (mg := mg) (base := base) go__law_whole F14 T 
  have B__law_whole : Binds K fd14 ["_law_value"] [] := bd F14 fun _ _ _ _ _ _ us hl => match us, hl with | [_], _ => rfl
  have C__law_whole : Ca5 P w K mg base (L2.CX P w) 1 "_law_whole" ["_law_value"] (spU K (erL K) anyM pre__law_whole post__law_whole exc__law_whole) := ⟨_, fd14, O__law_whole, gl 17 _ rfl, F14.kp, B__law_whole⟩
  have Q__law_whole : Ca5Q P w K mg base (L2.CX P w) 1 "_law_whole" ["_law_value"] (spU K (erL K) anyM pre__law_whole post__law_whole exc__law_whole) := ⟨_, fd14, okQ__law_whole (P := P) (w := w) (mg := mg) (base := base) go__law_whole F14 T, gl 17 _ rfl, F14.kp, B__law_whole⟩
  have O__law_closed := ok__law_closed (P := P) (w := w) (mg := mg) (base := base) go__law_closed F15 T C_Snapshots_close_K0_number C_Snapshots_stamp_of_K0_number R_NoName HR_NoName IX_NoName_KeyError
  have B__law_closed : Binds K fd15 ["_law_snapshots", "_law_number", "_law_word"] [] := bd F15 fun _ _ _ _ _ _ us hl => match us, hl with | [_, _, _], _ => rfl
  have C__law_closed : Ca5 P w K mg base (L2.CX P w) 5 "_law_closed" ["_law_snapshots", "_law_number", "_law_word"] (spB K (erL K) anyM (pre__law_closed K) (post__law_closed K) (exc__law_closed K)) := ⟨_, fd15, O__law_closed, gl 18 _ rfl, F15.kp, B__law_closed⟩
  have O__law_looked := ok__law_looked (P := P) (w := w) (mg := mg) (base := base) go__law_looked F16 T C__law_draw C_Snapshots_live_K0_ C_Snapshots_holders_K0_stamp C_Snapshots_last_within_K0_last_first C_Snapshots_last_within_K2_
  have B__law_looked : Binds K fd16 ["_law_deal_here", "_law_snapshots", "_law_here"] [] := bd F16 fun _ _ _ _ _ _ us hl => match us, hl with | [_, _, _], _ => rfl
  have C__law_looked : Ca5 P w K mg base (L2.CX P w) 3 "_law_looked" ["_law_deal_here", "_law_snapshots", "_law_here"] (spB K (erL K) anyM (pre__law_looked K) (post__law_looked K) (exc__law_looked K)) := ⟨_, fd16, O__law_looked, gl 19 _ rfl, F16.kp, B__law_looked⟩
  exact ok_law go_law F17 T C__law_deal C__law_draw C__law_pick C__law_whole C__law_closed C__law_looked Q__law_whole C_Snapshots_begin_K0_stamp K_Snapshots R_InvalidSize HR_InvalidSize
end
end K18
open PySem PySem.W PySem.Calls PyProof.Rows
theorem PySem.Challenge.cw_spelledways_k18_who_looks_at_which_stamp_holds : PySem.Challenge.rw_spelledways_k18_who_looks_at_which_stamp.Holds := by
  w_on; o_law
  refine HandSHeadRun.head_any (r := OpenLaw.row PySem.Challenge.rw_spelledways_k18_who_looks_at_which_stamp) (q := view (OpenLaw.row PySem.Challenge.rw_spelledways_k18_who_looks_at_which_stamp).prog [16]) (H := K18.hk) (ob := K18.ob) (M := 4000) (loose := K18.loose) (d := HandSHeadRun.topDef (OpenLaw.row PySem.Challenge.rw_spelledways_k18_who_looks_at_which_stamp).prog 16) (kwd := []) K18.ob_eq
    (by kernel_rfl) (fun s => by kernel_rfl) K18.run (by kernel_rfl) (by kernel_rfl) (by kernel_rfl) (by rfl) (by first | assumption | decide +kernel) (by decide +kernel) ⟨rfl, rfl, rfl, rfl, rfl, by decide +kernel⟩ ?hw ?hc
  case hw => w_witness2
  case hc =>
    refine DL.walk_g (l := PySem.Challenge.rw_spelledways_k18_who_looks_at_which_stamp) (n := 63) (k := 6) (x := "_law_script") (CX := L2.CX0) rfl (by decide) (by kernel_rfl) ⟨rfl, by decide, by decide⟩ ?F (fun _ _ _ _ z => z)
    intro w mg fa h Y G hmg0
    obtain ⟨K, KX, c⟩ := Y
    have hmg : mg ("law" : PySem.Str) = some (.ref fa) := by
      have e : (HandSHeadRun.topDef (OpenLaw.row PySem.Challenge.rw_spelledways_k18_who_looks_at_which_stamp).prog 16).name = ("law" : PySem.Str) := by kernel_rfl
      rw [← e]
      exact hmg0
    obtain ⟨fd, hb, hF⟩ := K18.facts (P := (PySem.Challenge.rw_spelledways_k18_who_looks_at_which_stamp).prog) (w := w) KX G hmg c.t.d c.more
    exact ⟨K, fd, K18.spLaw K, KX, hb, fun H a ns hl _ hS => ⟨a, ns, rfl, hS, fun _ => rfl⟩, hF⟩

