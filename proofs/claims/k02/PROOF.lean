import PyProof.Rows.All
import Wide.All
import OpenK.AllK
import Wide.FinOn
import HandS.ForMost
import HandS.ForExc
import HandS.TupAny
import HandS.Wide
import HandS.Deep
import HandS.Style
import HandS.Walk
import HandS.Defaults
import HandS.More
import HandS.EndBits
import HandS.ExcInit
import HandS.ExcField
import HandS.HeadHook1
import HandS.HeadHook2
import PyProof.ExcBaseAll.Exception
import PyProof.ExcBaseAll.LookupError
import HandS.Zip
import KE.GoesZip
import KE.GoesMore
import HandS.IsInst
import HandS.SortInts
import HandS.Conv
import HandS.TryMany
import HandS.ExcIs
import KE.KIsAll
import HandS.TupMul
import HandS.Lambda
import HandS.EndTab
import HandS.HeadHook4
import HandS.HeadWalk
import KE.KStateDown
import KE.KExcIs
import HandS.CallLocal
import HandS.Proxy
import HandS.HeadHook3
import PySem.Challenge.RW_spelledways_k02_whole_numbers_as_octets
import HandS.Head0
import HandS.Head1
import HandS.Head2
import HandS.HeadEnd
set_option Elab.async false
set_option linter.all false
set_option maxRecDepth 100000
set_option maxHeartbeats 0
/-! Data upon the hand layer: what an expression comes to, as plain data, while some objects are known for good (J) and the rest of the heap may only grow. -/
namespace DL
open PySem L2

/-- every object of the one heap stands in the other -/
def Sub (J H : Hp) : Prop := ∀ a o, J a = some o → H a = some o
theorem Sub.refl (H : Hp) : Sub H H := fun _ _ h => h
theorem Sub.trans {J H G : Hp} (p : Sub J H) (q : Sub H G) : Sub J G := fun a o h => q a o (p a o h)
theorem Sub.back {J H : Hp} (p : Sub J H) {a : Addr} (h : H a = none) : J a = none := by
  cases e : J a with
  | none => rfl
  | some o => rw [p a o e] at h; cases h
theorem Sub.new {H : Hp} {p : Addr} {o : HO} (h : H p = none) : Sub H (upd H p o) := fun a u e => by
  rw [upd_ne (ne_of_none e h)]; exact e
theorem Sub.both {J H : Hp} (s : Sub J H) {p : Addr} {o : HO} : Sub (upd J p o) (upd H p o) := fun a u e => by
  by_cases h : a = p
  · rw [h, upd_same] at e ⊢; exact e
  · rw [upd_ne h] at e ⊢; exact s a u e
theorem Sub.rd {J H : Hp} (s : Sub J H) {a : Addr} {u : HO} (h : Rd J a u) : Rd H a u := by
  rcases h with h | ⟨o, h⟩
  · exact .inl (s _ _ h)
  · exact .inr ⟨o, s _ _ h⟩
theorem Sub.l {K : PySem.W.Frag} {J H : Hp} (s : Sub J H) {a : Addr} {xs : List V} (h : SqL K J a xs) : SqL K H a xs := by
  rcases h with h | h
  · exact .inl (s.rd h)
  · exact .inr h
theorem Sub.t {K : PySem.W.Frag} {J H : Hp} (s : Sub J H) {a : Addr} {xs : List V} (h : SqT K J a xs) : SqT K H a xs := by
  rcases h with h | h
  · exact .inl (s.rd h)
  · exact .inr h
/-! a value is a datum; lists are such as stand in J itself -/
mutual
inductive Da (K : PySem.W.Frag) (J : Hp) : V → PyData → Prop
  | non : Da K J .non .none
  | bl (b : Bool) : Da K J (.bl b) (.bool b)
  | int (i : Int) : Da K J (.int i) (.int i)
  | str (x : Str) : Da K J (.str x) (.str x)
  | lst {a : Addr} {xs : List V} {ds : List PyData} : J a = some (.lst xs) → Das K J xs ds → Da K J (.ref a) (.list ds)
  | tup {a : Addr} {xs : List V} {ds : List PyData} : SqT K J a xs → Das K J xs ds → Da K J (.ref a) (.tuple ds)
inductive Das (K : PySem.W.Frag) (J : Hp) : List V → List PyData → Prop
  | nil : Das K J [] []
  | cons {v : V} {vs : List V} {d : PyData} {ds : List PyData} : Da K J v d → Das K J vs ds → Das K J (v :: vs) (d :: ds)
end
mutual
theorem Da.dp {K : PySem.W.Frag} {J H : Hp} (s : Sub J H) : ∀ {d : PyData} {v : V}, Da K J v d → Dp K H v d
  | .none, _, h => by cases h; exact .non
  | .bool _, _, h => by cases h; exact .bl _
  | .int _, _, h => by cases h; exact .int _
  | .str _, _, h => by cases h; exact .str _
  | .list ds, _, h => by
    cases h with
    | lst a b => exact .lst (.of (s _ _ a)) (Das.dp s b)
  | .tuple ds, _, h => by
    cases h with
    | tup a b => exact .tup (s.t a) (Das.dp s b)
  | .dict _, _, h => by cases h
theorem Das.dp {K : PySem.W.Frag} {J H : Hp} (s : Sub J H) : ∀ {ds : List PyData} {vs : List V}, Das K J vs ds → DpAll K H vs ds
  | [], _, h => by cases h; exact .nil
  | _ :: _, _, h => by
    cases h with
    | cons a b => exact .cons (Da.dp s a) (Das.dp s b)
end
mutual
theorem Sub.da {K : PySem.W.Frag} {J H : Hp} (s : Sub J H) : ∀ {d : PyData} {v : V}, Da K J v d → Da K H v d
  | .none, _, h => by cases h; exact .non
  | .bool _, _, h => by cases h; exact .bl _
  | .int _, _, h => by cases h; exact .int _
  | .str _, _, h => by cases h; exact .str _
  | .list ds, _, h => by
    cases h with
    | lst a b => exact .lst (s _ _ a) (Sub.das s b)
  | .tuple ds, _, h => by
    cases h with
    | tup a b => exact .tup (s.t a) (Sub.das s b)
  | .dict _, _, h => by cases h
theorem Sub.das {K : PySem.W.Frag} {J H : Hp} (s : Sub J H) : ∀ {ds : List PyData} {vs : List V}, Das K J vs ds → Das K H vs ds
  | [], _, h => by cases h; exact .nil
  | _ :: _, _, h => by
    cases h with
    | cons a b => exact .cons (Sub.da s a) (Sub.das s b)
end
theorem das_len {K : PySem.W.Frag} {J : Hp} : ∀ {vs : List V} {ds : List PyData}, Das K J vs ds → vs.length = ds.length
  | [], _, h => by cases h; rfl
  | _ :: _, _, h => by
    cases h with
    | cons _ b => simp [das_len b]
theorem das_at {K : PySem.W.Frag} {J : Hp} : ∀ {vs : List V} {ds : List PyData} {i : Nat} {v : V}, Das K J vs ds → vs[i]? = some v → ∃ d, ds[i]? = some d ∧ Da K J v d
  | [], _, _, _, _, e => by simp at e
  | _ :: _, _, i, _, h, e => by
    cases h with
    | cons a b =>
      cases i with
      | zero => simp at e; subst e; exact ⟨_, rfl, a⟩
      | succ i => simpa using das_at b (by simpa using e)
theorem das_get {K : PySem.W.Frag} {J : Hp} : ∀ {vs : List V} {ds : List PyData} {i : Nat} {d : PyData}, Das K J vs ds → ds[i]? = some d → ∃ v, vs[i]? = some v ∧ Da K J v d
  | _, [], _, _, _, e => by simp at e
  | _, _ :: _, i, _, h, e => by
    cases h with
    | cons a b =>
      cases i with
      | zero => simp at e; subst e; exact ⟨_, rfl, a⟩
      | succ i => simpa using das_get b (by simpa using e)
theorem das_app {K : PySem.W.Frag} {J : Hp} : ∀ {vs ws : List V} {ds es : List PyData}, Das K J vs ds → Das K J ws es → Das K J (vs ++ ws) (ds ++ es)
  | [], _, _, _, h, g => by cases h; exact g
  | _ :: _, _, _, _, h, g => by
    cases h with
    | cons a b => exact .cons a (das_app b g)
theorem das_drop {K : PySem.W.Frag} {J : Hp} : ∀ {vs : List V} {ds : List PyData} (n : Nat), Das K J vs ds → Das K J (vs.drop n) (ds.drop n)
  | _, _, 0, h => h
  | [], _, n + 1, h => by cases h; exact .nil
  | _ :: _, _, n + 1, h => by
    cases h with
    | cons _ b => exact das_drop n b
theorem das_take {K : PySem.W.Frag} {J : Hp} : ∀ {vs : List V} {ds : List PyData} (n : Nat), Das K J vs ds → Das K J (vs.take n) (ds.take n)
  | _, _, 0, _ => .nil
  | [], _, n + 1, h => by cases h; exact .nil
  | _ :: _, _, n + 1, h => by
    cases h with
    | cons a b => exact .cons a (das_take n b)
theorem das_rev {K : PySem.W.Frag} {J : Hp} : ∀ {vs : List V} {ds : List PyData}, Das K J vs ds → Das K J vs.reverse ds.reverse
  | [], _, h => by cases h; exact .nil
  | _ :: _, _, h => by
    cases h with
    | cons a b =>
      rw [List.reverse_cons, List.reverse_cons]
      exact das_app (das_rev b) (.cons a .nil)
theorem das_ints {K : PySem.W.Frag} {J : Hp} : ∀ ns : List Int, Das K J (ns.map V.int) (ns.map PyData.int)
  | [] => .nil
  | n :: ns => .cons (.int n) (das_ints ns)
theorem da_int {K : PySem.W.Frag} {J : Hp} {v : V} {i : Int} (h : Da K J v (.int i)) : v = .int i := by cases h; rfl
theorem da_bl {K : PySem.W.Frag} {J : Hp} {v : V} {b : Bool} (h : Da K J v (.bool b)) : v = .bl b := by cases h; rfl
theorem da_str {K : PySem.W.Frag} {J : Hp} {v : V} {x : Str} (h : Da K J v (.str x)) : v = .str x := by cases h; rfl
theorem da_non {K : PySem.W.Frag} {J : Hp} {v : V} (h : Da K J v .none) : v = .non := by cases h; rfl
theorem da_lst {K : PySem.W.Frag} {J : Hp} {v : V} {ds : List PyData} (h : Da K J v (.list ds)) : ∃ a xs, v = .ref a ∧ J a = some (.lst xs) ∧ Das K J xs ds := by
  cases h with
  | lst p q => exact ⟨_, _, rfl, p, q⟩
theorem da_tup {K : PySem.W.Frag} {J : Hp} {v : V} {ds : List PyData} (h : Da K J v (.tuple ds)) : ∃ a xs, v = .ref a ∧ SqT K J a xs ∧ Das K J xs ds := by
  cases h with
  | tup p q => exact ⟨_, _, rfl, p, q⟩
theorem das_ints_eq {K : PySem.W.Frag} {J : Hp} : ∀ {vs : List V} {ns : List Int}, Das K J vs (ns.map PyData.int) → vs = ns.map V.int
  | [], [], _ => rfl
  | [], _ :: _, h => by cases h
  | _ :: _, [], h => by cases h
  | _ :: _, _ :: _, h => by
    cases h with
    | cons a b => rw [da_int a, das_ints_eq b]; rfl

/-! ### what may change, and how the heap goes on -/
/-- fp: the objects that may change; inv: what stays true of them; tb: whether tables of code objects may grow -/
structure Md where
  fp : Addr → Prop
  inv : Hp → Prop
  tb : Bool
  loc : ∀ H H' : Hp, (∀ a, fp a → H' a = H a) → (∀ a o, H a = some o → (∀ ys, o ≠ .lst ys) → H' a = some o) → inv H → inv H'
  there : ∀ H : Hp, inv H → ∀ a, fp a → ∃ o, H a = some o ∧ (tb = true → ∀ ps, o ≠ .tbl ps)
/-- no table, where tables may grow -/
abbrev Nt (M : Md) (o : HO) : Prop := M.tb = true → ∀ ps, o ≠ .tbl ps
/-- nothing may change -/
def Md.pure : Md := ⟨fun _ => False, fun _ => True, false, fun _ _ _ _ h => h, fun _ _ _ h => h.elim⟩
structure Wf (M : Md) (J H : Hp) : Prop where
  jh : Sub J H
  inv : M.inv H
  jn : ∀ a, M.fp a → J a = none
  nt : M.tb = true → ∀ a ps, J a ≠ some (.tbl ps)
theorem Wf.out {M : Md} {J H : Hp} (w : Wf M J H) (a : Addr) (h : M.fp a) : J a = none ∧ H a ≠ none := ⟨w.jn a h, by
  obtain ⟨o, e, _⟩ := M.there H w.inv a h
  rw [e]
  exact nofun⟩
structure Tr (M : Md) (J H J' H' : Hp) : Prop where
  jj : Sub J J'
  jh : Sub J' H'
  kept : ∀ a o, ¬ M.fp a → Nt M o → H a = some o → H' a = some o
  inv : M.inv H'
  frn : ∀ a o, Nt M o → H a = some o → J a = none → J' a = none
  aln : ∀ a o, Nt M o → H a = some o → ∃ o', Nt M o' ∧ H' a = some o'
  tn : (∀ a ps, J a ≠ some (.tbl ps)) → ∀ a ps, J' a ≠ some (.tbl ps)
section
variable {M : Md} {J H J1 H1 J2 H2 : Hp} {p : Addr} {o : HO}
theorem Tr.keep (t : Tr M J H J1 H1) (a : Addr) (o : HO) (nf : ¬ M.fp a) (e : H a = some o) (nt : Nt M o := by first | assumption | (intro h; cases h; done) | (intro _ _ z; cases z; done)) : H1 a = some o := t.kept a o nf nt e
theorem Tr.frp (t : Tr Md.pure J H J1 H1) (a : Addr) (e : H a ≠ none) (n : J a = none) : J1 a = none := by
  cases q : H a with
  | none => exact absurd q e
  | some u => exact t.frn a u (fun h => nomatch h) q n
theorem Wf.tr (w : Wf M J H) : Tr M J H J H := ⟨.refl _, w.jh, fun _ _ _ _ h => h, w.inv, fun _ _ _ _ h => h, fun _ o b h => ⟨o, b, h⟩, fun h => h⟩
theorem Tr.wf (t : Tr M J H J1 H1) (w : Wf M J H) : Wf M J1 H1 := ⟨t.jh, t.inv, fun a h => by
  obtain ⟨o, e, b⟩ := M.there H w.inv a h
  exact t.frn a o b e (w.jn a h), fun b => t.tn (w.nt b)⟩
theorem Tr.trans (t : Tr M J H J1 H1) (u : Tr M J1 H1 J2 H2) : Tr M J H J2 H2 :=
  ⟨t.jj.trans u.jj, u.jh, fun a x n b h => u.kept a x n b (t.kept a x n b h), u.inv, fun a x b h n => by
    obtain ⟨y, c, e⟩ := t.aln a x b h
    exact u.frn a y c e (t.frn a x b h n), fun a x b h => by
    obtain ⟨y, c, e⟩ := t.aln a x b h
    exact u.aln a y c e, fun h => u.tn (t.tn h)⟩
theorem al_ne {a p : Addr} {G : Hp} (q : G a ≠ none) (h : G p = none) : a ≠ p := fun e => q (by rw [e]; exact h)
theorem so_ne {a p : Addr} {G : Hp} {x : HO} (q : G a = some x) (h : G p = none) : a ≠ p := fun e => by rw [e, h] at q; cases q
theorem Wf.new (w : Wf M J H) (h : H p = none) (nt : ∀ ps, o ≠ .tbl ps := by first | assumption | (intro _ z; cases z; done)) : Tr M J H (upd J p o) (upd H p o) := by
  have hj : J p = none := w.jh.back h
  refine ⟨.new hj, w.jh.both, fun a x _ _ e => Sub.new h a x e, M.loc _ _ (fun a q => upd_ne (al_ne (w.out a q).2 h)) (fun a x e _ => Sub.new h a x e) w.inv, fun a x _ e n => ?_, fun a x b e => ⟨x, b, Sub.new h a x e⟩, fun g a ps e => ?_⟩
  · rw [upd_ne (so_ne e h)]; exact n
  · by_cases z : a = p
    · rw [z, upd_same] at e
      exact nt ps (Option.some.inj e)
    · rw [upd_ne z] at e
      exact g a ps e
/-- a new object that is not known for good -/
theorem Wf.cell (w : Wf M J H) (h : H p = none) : Tr M J H J (upd H p o) :=
  ⟨.refl _, w.jh.trans (.new h), fun a x _ _ e => Sub.new h a x e, M.loc _ _ (fun a q => upd_ne (al_ne (w.out a q).2 h)) (fun a x e _ => Sub.new h a x e) w.inv, fun _ _ _ _ n => n, fun a x b e => ⟨x, b, Sub.new h a x e⟩, fun g => g⟩
/-- a call that changes nothing -/
theorem Wf.lift (w : Wf M J H) (t : Tr Md.pure J H J1 H1) : Tr M J H J1 H1 := by
  have all : ∀ a x, H a = some x → H1 a = some x := fun a x e => t.keep a x (fun z => z) e
  refine ⟨t.jj, t.jh, fun a x _ _ e => all a x e, M.loc _ _ (fun a q => ?_) (fun a x e _ => all a x e) w.inv, fun a x _ e n => t.frn a x (fun h => nomatch h) e n, fun a x b e => ⟨x, b, all a x e⟩, t.tn⟩
  cases e : H a with
  | none => exact absurd e (w.out a q).2
  | some x => exact all a x e
theorem Wf.mono (w : Wf M J H) : Wf Md.pure J H := ⟨w.jh, trivial, fun _ h => h.elim, fun h => nomatch h⟩
end

/-! ### expressions -/
section
variable (K : PySem.W.Frag) (M : Md)
def EvP (te : TE) (σ : L2.St) (J H : Hp) (P : PyData → Prop) : Prop :=
  ∀ J1 H1, Wf M J1 H1 → Tr M J H J1 H1 → ∀ Q : VK, (∀ v d J2 H2, Wf M J2 H2 → Tr M J1 H1 J2 H2 → P d → Da K J2 v d → Q v H2) → te σ H1 Q
abbrev EvD (te : TE) (σ : L2.St) (J H : Hp) (d : PyData) : Prop := EvP K M te σ J H (· = d)
def EvT (tt : TT) (σ : L2.St) (J H : Hp) (P : Bool → Prop) : Prop :=
  ∀ J1 H1, Wf M J1 H1 → Tr M J H J1 H1 → ∀ Q : Bool → Hp → Prop, (∀ b J2 H2, Wf M J2 H2 → Tr M J1 H1 J2 H2 → P b → Q b H2) → tt σ H1 Q
def EvA (ta : TA) (σ : L2.St) (J H : Hp) (P : List PyData → Prop) : Prop :=
  ∀ J1 H1, Wf M J1 H1 → Tr M J H J1 H1 → ∀ Q : List V → Hp → Prop, (∀ vs ds J2 H2, Wf M J2 H2 → Tr M J1 H1 J2 H2 → P ds → Das K J2 vs ds → Q vs H2) → ta σ H1 Q
def EvO (_K : PySem.W.Frag) (M : Md) (to : TO) (σ : L2.St) (J H : Hp) (P : Option Int → Prop) : Prop :=
  ∀ J1 H1, Wf M J1 H1 → Tr M J H J1 H1 → ∀ Q : Option Int → Hp → Prop, (∀ o J2 H2, Wf M J2 H2 → Tr M J1 H1 J2 H2 → P o → Q o H2) → to σ H1 Q
/-- an operation of two data, of one, of a row of them -/
def OpD (r : R2) (dx dy : PyData) (P : PyData → Prop) : Prop :=
  ∀ x y J H, Wf M J H → Da K J x dx → Da K J y dy → ∀ Q : VK, (∀ v d J2 H2, Wf M J2 H2 → Tr M J H J2 H2 → P d → Da K J2 v d → Q v H2) → r x y H Q
def UnD (r : V → Hp → VK → Prop) (dx : PyData) (P : PyData → Prop) : Prop :=
  ∀ x J H, Wf M J H → Da K J x dx → ∀ Q : VK, (∀ v d J2 H2, Wf M J2 H2 → Tr M J H J2 H2 → P d → Da K J2 v d → Q v H2) → r x H Q
def CbD (r : List V → Hp → VK → Prop) (ds : List PyData) (P : PyData → Prop) : Prop :=
  ∀ vs J H, Wf M J H → Das K J vs ds → ∀ Q : VK, (∀ v d J2 H2, Wf M J2 H2 → Tr M J H J2 H2 → P d → Da K J2 v d → Q v H2) → r vs H Q
def SlD (r : V → Option Int → Option Int → Hp → VK → Prop) (dx : PyData) (lo hi : Option Int) (P : PyData → Prop) : Prop :=
  ∀ x J H, Wf M J H → Da K J x dx → ∀ Q : VK, (∀ v d J2 H2, Wf M J2 H2 → Tr M J H J2 H2 → P d → Da K J2 v d → Q v H2) → r x lo hi H Q
/-- a call of an own def -/
def SpD (sp : Sp) (ds : List PyData) (P : PyData → Prop) (E : XK) : Prop :=
  ∀ vs J H, Wf M J H → Das K J vs ds → ∀ Q : VK, (∀ v d J2 H2, Wf M J2 H2 → Tr M J H J2 H2 → P d → Da K J2 v d → Q v H2) → sp vs H Q E
end
section
variable {K : PySem.W.Frag} {M : Md} {σ : L2.St} {J H J' H' : Hp} {ta tb te tc : TE} {t u : TT} {r : R2} {P P' Px Py Pz : PyData → Prop} {d dx dy : PyData} {v : V} {i j : Int}
theorem EvP.mono (h : EvP K M te σ J H P) (k : ∀ d, P d → P' d) : EvP K M te σ J H P' := fun J1 H1 w t Q q => h J1 H1 w t Q fun v d J2 H2 w2 t2 p a => q v d J2 H2 w2 t2 (k d p) a
theorem EvP.later (h : EvP K M te σ J H P) (t : Tr M J H J' H') : EvP K M te σ J' H' P := fun J1 H1 w t1 Q q => h J1 H1 w (t.trans t1) Q q
theorem EvT.mono {P P' : Bool → Prop} {t : TT} (h : EvT M t σ J H P) (k : ∀ d, P d → P' d) : EvT M t σ J H P' := fun J1 H1 w t Q q => h J1 H1 w t Q fun b J2 H2 w2 t2 p => q b J2 H2 w2 t2 (k b p)
theorem EvT.later {P : Bool → Prop} {t : TT} (h : EvT M t σ J H P) (tr : Tr M J H J' H') : EvT M t σ J' H' P := fun J1 H1 w t1 Q q => h J1 H1 w (tr.trans t1) Q q
theorem EvA.mono {P P' : List PyData → Prop} {t : TA} (h : EvA K M t σ J H P) (k : ∀ d, P d → P' d) : EvA K M t σ J H P' := fun J1 H1 w t Q q => h J1 H1 w t Q fun v d J2 H2 w2 t2 p a => q v d J2 H2 w2 t2 (k d p) a
theorem EvA.later {P : List PyData → Prop} {t : TA} (h : EvA K M t σ J H P) (tr : Tr M J H J' H') : EvA K M t σ J' H' P := fun J1 H1 w t1 Q q => h J1 H1 w (tr.trans t1) Q q
theorem ev_var {i : Nat} (hs : σ[i]? = some (some v)) (h : Da K J v d) : EvD K M (tVar i) σ J H d := fun J1 H1 w t Q q => ⟨v, hs, q v d J1 H1 w w.tr rfl (t.jj.da h)⟩
theorem ev_c (h : ∀ J, Da K J v d) : EvD K M (tC v) σ J H d := fun J1 H1 w t Q q => q v d J1 H1 w w.tr rfl (h _)
theorem ev_int : EvD K M (tC (.int i)) σ J H (.int i) := ev_c fun _ => .int i
theorem ev_bl {b : Bool} : EvD K M (tC (.bl b)) σ J H (.bool b) := ev_c fun _ => .bl b
theorem ev_str {x : Str} : EvD K M (tC (.str x)) σ J H (.str x) := ev_c fun _ => .str x
theorem ev_non : EvD K M (tC .non) σ J H .none := ev_c fun _ => .non
theorem ev_op (ha : EvP K M ta σ J H Px) (hb : EvP K M tb σ J H Py) (ho : ∀ dx dy, Px dx → Py dy → OpD K M r dx dy P) : EvP K M (tOp r ta tb) σ J H P := fun J1 H1 w t Q q =>
  ha J1 H1 w t _ fun x dx J2 H2 w2 t2 px ax => hb J2 H2 w2 (t.trans t2) _ fun y dy J3 H3 w3 t3 py ay =>
    ho dx dy px py x y J3 H3 w3 (t3.jj.da ax) ay Q fun v d J4 H4 w4 t4 p a => q v d J4 H4 w4 ((t2.trans t3).trans t4) p a
theorem ev_opD (ha : EvD K M ta σ J H dx) (hb : EvD K M tb σ J H dy) (ho : OpD K M r dx dy P) : EvP K M (tOp r ta tb) σ J H P := ev_op ha hb fun _ _ e1 e2 => by rw [e1, e2]; exact ho
theorem ev_un {r : V → Hp → VK → Prop} (ha : EvP K M ta σ J H Px) (ho : ∀ dx, Px dx → UnD K M r dx P) : EvP K M (tUn r ta) σ J H P := fun J1 H1 w t Q q =>
  ha J1 H1 w t _ fun x dx J2 H2 w2 t2 px ax => ho dx px x J2 H2 w2 ax Q fun v d J4 H4 w4 t4 p a => q v d J4 H4 w4 (t2.trans t4) p a
/-- an operation that hands back a plain value and leaves the heap -/
theorem od_flat (h : ∀ x y J H, Sub J H → Da K J x dx → Da K J y dy → ∀ Q : VK, Q v H → r x y H Q) (hv : ∀ J, Da K J v d) : OpD K M r dx dy (· = d) := fun x y J H w ax ay Q q => h x y J H w.jh ax ay Q (q v d J H w w.tr rfl (hv J))
theorem od_I0 {g : Int → Int → V} {d : PyData} (hv : ∀ J, Da K J (g i j) d) : OpD K M (rI0 g) (.int i) (.int j) (· = d) :=
  od_flat (v := g i j) (fun x y J H _ ax ay Q q => ⟨i, j, da_int ax, da_int ay, q⟩) hv
theorem od_I {C : Int → Int → Prop} {g : Int → Int → V} {d : PyData} (hc : C i j) (hv : ∀ J, Da K J (g i j) d) : OpD K M (rI C g) (.int i) (.int j) (· = d) :=
  od_flat (v := g i j) (fun x y J H _ ax ay Q q => ⟨i, j, da_int ax, da_int ay, hc, q⟩) hv
theorem od_add : OpD K M (rI0 fun i j => .int (i + j)) (.int i) (.int j) (· = .int (i + j)) := od_I0 fun _ => .int _
theorem od_sub : OpD K M (rI0 fun i j => .int (i - j)) (.int i) (.int j) (· = .int (i - j)) := od_I0 fun _ => .int _
theorem od_mul (h : CMulW i j) : OpD K M (rI CMulW fun i j => .int (i * j)) (.int i) (.int j) (· = .int (i * j)) := od_I h fun _ => .int _
theorem od_mod (h : 0 < j) : OpD K M (rI (fun _ j => 0 < j) fun i j => .int (i % j)) (.int i) (.int j) (· = .int (i % j)) := od_I h fun _ => .int _
theorem od_fdiv (h : CDivW i j) : OpD K M (rI CDivW fun i j => .int (i / j)) (.int i) (.int j) (· = .int (i / j)) := od_I h fun _ => .int _
theorem od_pow (h : CPow i j) : OpD K M (rI CPow fun i j => .int (i ^ j.toNat)) (.int i) (.int j) (· = .int (i ^ j.toNat)) := od_I h fun _ => .int _
theorem od_lt : OpD K M (rI0 fun i j => .bl (decide (i < j))) (.int i) (.int j) (· = .bool (decide (i < j))) := od_I0 fun _ => .bl _
theorem od_le : OpD K M (rI0 fun i j => .bl (decide (i ≤ j))) (.int i) (.int j) (· = .bool (decide (i ≤ j))) := od_I0 fun _ => .bl _
theorem od_gt : OpD K M (rI0 fun i j => .bl (decide (j < i))) (.int i) (.int j) (· = .bool (decide (j < i))) := od_I0 fun _ => .bl _
theorem od_ge : OpD K M (rI0 fun i j => .bl (decide (j ≤ i))) (.int i) (.int j) (· = .bool (decide (j ≤ i))) := od_I0 fun _ => .bl _
theorem od_eq (sx : SeqAt.shaped dx = true) (sy : SeqAt.shaped dy = true) : OpD K M (rEqD K) dx dy (· = .bool (PyData.eqv dx dy)) :=
  od_flat (v := .bl (PyData.eqv dx dy)) (fun x y J H s ax ay Q q => ⟨dx, dy, ax.dp s, ay.dp s, sx, sy, q⟩) fun _ => .bl _
theorem od_ne (sx : SeqAt.shaped dx = true) (sy : SeqAt.shaped dy = true) : OpD K M (rNeD K) dx dy (· = .bool (!PyData.eqv dx dy)) :=
  od_flat (v := .bl (!PyData.eqv dx dy)) (fun x y J H s ax ay Q q => ⟨dx, dy, ax.dp s, ay.dp s, sx, sy, q⟩) fun _ => .bl _
theorem od_inL {ds : List PyData} (sx : SeqAt.shaped dx = true) (sy : SeqAt.shaped (.list ds) = true) : OpD K M (rInD K) dx (.list ds) (· = .bool (ds.any fun z => PyData.eqv z dx)) :=
  od_flat (v := .bl _) (fun x y J H s ax ay Q q => ⟨dx, ds, ax.dp s, ay.dp s, sx, sy, q⟩) fun _ => .bl _
theorem od_niL {ds : List PyData} (sx : SeqAt.shaped dx = true) (sy : SeqAt.shaped (.list ds) = true) : OpD K M (rNotInD K) dx (.list ds) (· = .bool (!ds.any fun z => PyData.eqv z dx)) :=
  od_flat (v := .bl _) (fun x y J H s ax ay Q q => ⟨dx, ds, ax.dp s, ay.dp s, sx, sy, q⟩) fun _ => .bl _
/-- x is None, x is not None -/
def rIsNo : R2 := fun x y H Q => y = .non ∧ Q (.bl (decide (x = .non))) H
def rNotNo : R2 := fun x y H Q => y = .non ∧ Q (.bl (!decide (x = .non))) H
def isNo : PyData → Bool
  | .none => true
  | _ => false
theorem da_isNo {x : V} (h : Da K J x d) : decide (x = .non) = isNo d := by cases h <;> rfl
theorem od_isN : OpD K M rIsNo dx .none (· = .bool (isNo dx)) := fun x y J H w ax ay Q q => ⟨da_non ay, q _ _ J H w w.tr (by rw [← da_isNo ax]) (.bl _)⟩
theorem od_notN : OpD K M rNotNo dx .none (· = .bool (!isNo dx)) := fun x y J H w ax ay Q q => ⟨da_non ay, q _ _ J H w w.tr (by rw [← da_isNo ax]) (.bl _)⟩

/-! places and parts -/
theorem ix_eq {α : Type} {xs : List α} {n : Int} {x : α} (h : atI xs n = some x) : atI xs n = some x := h
theorem das_atI {xs : List V} {ds : List PyData} (h : Das K J xs ds) {n : Int} (e : atI ds n = some d) : ∃ v, atI xs n = some v ∧ Da K J v d := by
  unfold atI at e ⊢
  rw [das_len h]
  cases q : ixN ds.length n with
  | none => rw [q] at e; cases e
  | some k =>
    rw [q] at e
    obtain ⟨v, hv, a⟩ := das_get h e
    exact ⟨v, hv, a⟩
theorem od_ixL {ds : List PyData} (e : atI ds i = some d) : OpD K M (rIx K) (.list ds) (.int i) (· = d) := fun x y J H w ax ay Q q => by
  obtain ⟨a, xs, rfl, hl, hd⟩ := da_lst ax
  obtain ⟨v, hv, av⟩ := das_atI hd e
  exact .inl ⟨a, xs, i, v, rfl, da_int ay, .of (w.jh _ _ hl), hv, q v d J H w w.tr rfl av⟩
theorem od_ixT {ds : List PyData} (e : atI ds i = some d) : OpD K M (rIx K) (.tuple ds) (.int i) (· = d) := fun x y J H w ax ay Q q => by
  obtain ⟨a, xs, rfl, hl, hd⟩ := da_tup ax
  obtain ⟨v, hv, av⟩ := das_atI hd e
  exact .inr (.inl ⟨a, xs, i, v, rfl, da_int ay, w.jh.t hl, hv, q v d J H w w.tr rfl av⟩)
/-- what a slice of ds has -/
def cut (ds : List PyData) (lo hi : Option Int) : List PyData := (ds.drop (HT.sIx ds.length 0 lo)).take (HT.sIx ds.length ds.length hi - HT.sIx ds.length 0 lo)
theorem das_cut {xs : List V} {ds : List PyData} (h : Das K J xs ds) (lo hi : Option Int) : Das K J (cutV xs lo hi) (cut ds lo hi) := by
  unfold cutV cut
  rw [das_len h]
  exact das_take _ (das_drop _ h)
theorem sd_list {ds : List PyData} {lo hi : Option Int} : SlD K M (rSlL K) (.list ds) lo hi (· = .list (cut ds lo hi)) := fun x J H w ax Q q => by
  obtain ⟨a, xs, rfl, hl, hd⟩ := da_lst ax
  refine ⟨a, xs, rfl, .of (w.jh _ _ hl), fun p hp => ?_⟩
  have t := w.new (o := .lst (cutV xs lo hi)) hp
  exact q _ _ _ _ (t.wf w) t rfl (.lst upd_same (t.jj.das (das_cut hd lo hi)))
theorem sd_tup {ds : List PyData} {lo hi : Option Int} : SlD K M (rSlA K) (.tuple ds) lo hi (· = .tuple (cut ds lo hi)) := fun x J H w ax Q q => by
  obtain ⟨a, xs, rfl, hl, hd⟩ := da_tup ax
  have hlen := das_len hd
  refine ⟨a, xs, rfl, w.jh.t hl, fun e => ?_, fun _ p hp => ?_⟩
  · refine q _ _ J H w w.tr rfl ?_
    have ec : cut ds lo hi = ds := by
      unfold cut
      rw [hlen] at e
      rw [e.1, e.2]
      simp
    rw [ec]
    exact ax
  · have t := w.new (o := .tup (cutV xs lo hi)) hp
    exact q _ _ _ _ (t.wf w) t rfl (.tup (.of upd_same) (t.jj.das (das_cut hd lo hi)))
theorem eo_none : EvO K M tNoPart σ J H (· = none) := fun J1 H1 w t Q q => q none J1 H1 w w.tr rfl
theorem eo_some {p : Int → Prop} (h : EvP K M te σ J H fun d => ∃ i, d = .int i ∧ p i) : EvO K M (tPart te) σ J H fun o => ∃ i, o = some i ∧ p i := fun J1 H1 w t Q q =>
  h J1 H1 w t _ fun v d J2 H2 w2 t2 ⟨i, e, hp⟩ a => by
    subst e
    exact ⟨i, da_int a, q _ J2 H2 w2 t2 ⟨i, rfl, hp⟩⟩
theorem eo_at (h : EvD K M te σ J H (.int i)) : EvO K M (tPart te) σ J H (· = some i) := fun J1 H1 w t Q q =>
  h J1 H1 w t _ fun v d J2 H2 w2 t2 e a => by
    subst e
    exact ⟨i, da_int a, q _ J2 H2 w2 t2 rfl⟩
theorem ev_sl {r : V → Option Int → Option Int → Hp → VK → Prop} {tl th : TO} {Pl Ph : Option Int → Prop} (h : EvP K M te σ J H Px) (hl : EvO K M tl σ J H Pl) (hh : EvO K M th σ J H Ph)
    (ho : ∀ dx lo hi, Px dx → Pl lo → Ph hi → SlD K M r dx lo hi P) : EvP K M (tSl r te tl th) σ J H P := fun J1 H1 w t Q q =>
  h J1 H1 w t _ fun x dx J2 H2 w2 t2 px ax => hl J2 H2 w2 (t.trans t2) _ fun lo J3 H3 w3 t3 pl => hh J3 H3 w3 ((t.trans t2).trans t3) _ fun hi J4 H4 w4 t4 ph =>
    ho dx lo hi px pl ph x J4 H4 w4 ((t3.trans t4).jj.da ax) Q fun v d J5 H5 w5 t5 p a => q v d J5 H5 w5 (t2.trans ((t3.trans t4).trans t5)) p a
theorem ev_slD {r : V → Option Int → Option Int → Hp → VK → Prop} {tl th : TO} {lo hi : Option Int} (h : EvD K M te σ J H dx) (hl : EvO K M tl σ J H (· = lo)) (hh : EvO K M th σ J H (· = hi)) (ho : SlD K M r dx lo hi P) : EvP K M (tSl r te tl th) σ J H P :=
  ev_sl h hl hh fun _ _ _ e1 e2 e3 => by rw [e1, e2, e3]; exact ho
/-- x[::-1] -/
theorem ev_revL {ds : List PyData} (h : EvD K M te σ J H (.list ds)) : EvD K M (tRevL K te) σ J H (.list ds.reverse) := fun J1 H1 w t Q q =>
  h J1 H1 w t _ fun x d J2 H2 w2 t2 e ax => by
    subst e
    obtain ⟨a, xs, rfl, hl, hd⟩ := da_lst ax
    refine ⟨a, xs, rfl, .of (w2.jh _ _ hl), fun p hp => ?_⟩
    have t3 := w2.new (o := .lst xs.reverse) hp
    exact q _ _ _ _ (t3.wf w2) (t2.trans t3) rfl (.lst upd_same (t3.jj.das (das_rev hd)))

/-! several at once; displays; calls -/
theorem ea_nil : EvA K M tNil σ J H (· = []) := fun J1 H1 w t Q q => q [] [] J1 H1 w w.tr rfl .nil
theorem ea_cons {tr : TA} {Pr : List PyData → Prop} (h : EvP K M ta σ J H Px) (hr : EvA K M tr σ J H Pr) : EvA K M (tCons ta tr) σ J H fun ds => ∃ d r, ds = d :: r ∧ Px d ∧ Pr r := fun J1 H1 w t Q q =>
  h J1 H1 w t _ fun x dx J2 H2 w2 t2 px ax => hr J2 H2 w2 (t.trans t2) _ fun vs ds J3 H3 w3 t3 pr ar => q _ _ J3 H3 w3 (t2.trans t3) ⟨dx, ds, rfl, px, pr⟩ (.cons (t3.jj.da ax) ar)
theorem ea_consD {tr : TA} {ds : List PyData} (h : EvD K M ta σ J H d) (hr : EvA K M tr σ J H (· = ds)) : EvA K M (tCons ta tr) σ J H (· = d :: ds) := (ea_cons h hr).mono fun _ ⟨_, _, e, e1, e2⟩ => by rw [e, e1, e2]
theorem ev_tup {ta : TA} {Pa : List PyData → Prop} (h : EvA K M ta σ J H Pa) (hl : ∀ ds, Pa ds → ds.length ≤ 100000) : EvP K M (tTup ta) σ J H fun d => ∃ ds, d = .tuple ds ∧ Pa ds := fun J1 H1 w t Q q =>
  h J1 H1 w t _ fun vs ds J2 H2 w2 t2 p a => ⟨by rw [das_len a]; exact Nat.le_trans (hl ds p) (by decide), fun l hn => by
    have t3 := w2.new (o := .tup vs) hn
    exact q _ _ _ _ (t3.wf w2) (t2.trans t3) ⟨ds, rfl, p⟩ (.tup (.of upd_same) (t3.jj.das a))⟩
theorem ev_tupD {ta : TA} {ds : List PyData} (h : EvA K M ta σ J H (· = ds)) (hl : ds.length ≤ 100000 := by simp only [List.length_cons, List.length_nil]; decide) : EvD K M (tTup ta) σ J H (.tuple ds) :=
  (ev_tup h fun _ e => by rw [e]; exact hl).mono fun _ ⟨_, e, e1⟩ => by rw [e, e1]
theorem ev_lst {ta : TA} {Pa : List PyData → Prop} (h : EvA K M ta σ J H Pa) (hl : ∀ ds, Pa ds → ds.length ≤ 100000) : EvP K M (tLst ta) σ J H fun d => ∃ ds, d = .list ds ∧ Pa ds := fun J1 H1 w t Q q =>
  h J1 H1 w t _ fun vs ds J2 H2 w2 t2 p a => ⟨by rw [das_len a]; exact Nat.le_trans (hl ds p) (by decide), fun l hn => by
    have t3 := w2.new (o := .lst vs) hn
    exact q _ _ _ _ (t3.wf w2) (t2.trans t3) ⟨ds, rfl, p⟩ (.lst upd_same (t3.jj.das a))⟩
theorem ev_lstD {ta : TA} {ds : List PyData} (h : EvA K M ta σ J H (· = ds)) (hl : ds.length ≤ 100000 := by simp only [List.length_cons, List.length_nil]; decide) : EvD K M (tLst ta) σ J H (.list ds) :=
  (ev_lst h fun _ e => by rw [e]; exact hl).mono fun _ ⟨_, e, e1⟩ => by rw [e, e1]
theorem ev_cb {r : List V → Hp → VK → Prop} {ta : TA} {Pa : List PyData → Prop} (h : EvA K M ta σ J H Pa) (ho : ∀ ds, Pa ds → CbD K M r ds P) : EvP K M (tCB r ta) σ J H P := fun J1 H1 w t Q q =>
  h J1 H1 w t _ fun vs ds J2 H2 w2 t2 p a => ho ds p vs J2 H2 w2 a Q fun v d J3 H3 w3 t3 p3 a3 => q v d J3 H3 w3 (t2.trans t3) p3 a3
theorem ev_cbD {r : List V → Hp → VK → Prop} {ta : TA} {ds : List PyData} (h : EvA K M ta σ J H (· = ds)) (ho : CbD K M r ds P) : EvP K M (tCB r ta) σ J H P := ev_cb h fun _ e => by rw [e]; exact ho
theorem ev_call {sp : Sp} {E : XK} {ta : TA} {Pa : List PyData → Prop} (h : EvA K M ta σ J H Pa) (ho : ∀ ds, Pa ds → SpD K M sp ds P E) : EvP K M (tCall sp [] E ta) σ J H P := fun J1 H1 w t Q q =>
  h J1 H1 w t _ fun vs ds J2 H2 w2 t2 p a => by
    show sp (vs ++ []) H2 Q E
    rw [List.append_nil]
    exact ho ds p vs J2 H2 w2 a Q fun v d J3 H3 w3 t3 p3 a3 => q v d J3 H3 w3 (t2.trans t3) p3 a3
theorem ev_callD {sp : Sp} {E : XK} {ta : TA} {ds : List PyData} (h : EvA K M ta σ J H (· = ds)) (ho : SpD K M sp ds P E) : EvP K M (tCall sp [] E ta) σ J H P := ev_call h fun _ e => by rw [e]; exact ho
end
/-- what a pure def promises: ds its arguments -/
def spF (K : PySem.W.Frag) (pre : List PyData → Prop) (post : List PyData → PyData → Prop) : Sp := fun vs H Q _ => ∃ J ds, Sub J H ∧ Das K J vs ds ∧ pre ds ∧
  ∀ v d J' H', Tr Md.pure J H J' H' → post ds d → Da K J' v d → Q v H'
theorem spF_D {K : PySem.W.Frag} {M : Md} {pre : List PyData → Prop} {post : List PyData → PyData → Prop} {ds : List PyData} {E : XK} (h : pre ds) : SpD K M (spF K pre post) ds (post ds) E := fun vs J H w a Q q =>
  ⟨J, ds, w.jh, a, h, fun v d J' H' t p a' => q v d J' H' ((w.lift t).wf w) (w.lift t) p a'⟩
end DL

namespace DL
open PySem PySem.Spec
open PyProof.Rows L2
section
variable {K : PySem.W.Frag} {M : Md} {σ : L2.St} {J H J' H' J0 H0 J1 H1 : Hp} {ta tb te tc : TE} {t u : TT} {r r' : R2} {P P' Px Py Pz : PyData → Prop} {d dx dy : PyData} {v : V} {i j : Int} {p : Addr} {o : HO}

theorem Wf.nofp (w : Wf M J H) (h : H p = none) : ¬ M.fp p := fun q => (w.out p q).2 h
/-- a cell of one's own is written, or comes to be known for good -/
theorem Tr.put {xs zs : List V} (w : Wf M J H) (t : Tr M J H J1 H1) (e1 : H1 p = some (.lst xs)) (hp : H p = none) (jp : J1 p = none) : Tr M J H J1 (upd H1 p (.lst zs)) := by
  have st : ∀ a x, H1 a = some x → (∀ ys, x ≠ .lst ys) → upd H1 p (.lst zs) a = some x := fun a x e ne => by
    by_cases h : a = p
    · rw [h, e1] at e; exact absurd (Option.some.inj e).symm (ne _)
    · rw [upd_ne h]; exact e
  refine ⟨t.jj, fun a x e => ?_, fun a x n b e => ?_, M.loc _ _ (fun a q => upd_ne fun e => w.nofp hp (by rw [← e]; exact q)) st t.inv, t.frn, fun a q b e => ?_, t.tn⟩
  · rw [upd_ne (ne_of_none e jp)]; exact t.jh a x e
  · rw [upd_ne (ne_of_none e hp)]; exact t.kept a x n b e
  · by_cases h : a = p
    · rw [h, hp] at e; cases e
    · rw [upd_ne h]; exact t.aln a q b e
theorem Tr.ice (t : Tr M J H J1 H1) (hp : H p = none) (jp : J1 p = none) (e : H1 p = some o) (nt : ∀ ps, o ≠ .tbl ps := by first | assumption | (intro _ z; cases z; done)) : Tr M J H (upd J1 p o) H1 := by
  refine ⟨t.jj.trans (.new jp), fun a x q => ?_, t.kept, t.inv, fun a x b q n => ?_, t.aln, fun g a ps q => ?_⟩
  · by_cases h : a = p
    · rw [h, upd_same] at q; cases q; rw [h]; exact e
    · rw [upd_ne h] at q; exact t.jh a x q
  · rw [upd_ne (so_ne q hp)]; exact t.frn a x b q n
  · by_cases h : a = p
    · rw [h, upd_same] at q; exact nt ps (Option.some.inj q)
    · rw [upd_ne h] at q; exact t.tn g a ps q
/-- what was learnt may be forgotten -/
theorem Tr.thaw (t : Tr M J0 H0 J H) (u : Tr M J' H J1 H1) (s : Sub J J1) : Tr M J0 H0 J H1 :=
  ⟨t.jj, s.trans u.jh, fun a x n b e => u.kept a x n b (t.kept a x n b e), u.inv, t.frn, fun a x b e => by
    obtain ⟨y, c, e⟩ := t.aln a x b e
    exact u.aln a y c e, t.tn⟩
theorem Tr.fresh (t : Tr M J H J1 H1) (a : Addr) (o : HO) (h : H a = some o) (n : J a = none) (nt : Nt M o := by first | assumption | (intro h; cases h; done) | (intro _ _ z; cases z; done)) : J1 a = none := t.frn a o nt h n
theorem Tr.cellj (t : Tr M J H J1 H1) (h : H p = some o) (n : J p = none) (nt : Nt M o := by first | assumption | (intro h; cases h; done) | (intro _ _ z; cases z; done)) : J1 p = none := t.frn p o nt h n

/-! ### tests -/
theorem et_test {Pb : Bool → Prop} (h : EvP K M te σ J H fun d => ∃ b, d = .bool b ∧ Pb b) : EvT M (tTest te) σ J H Pb := fun J1 H1 w t Q q =>
  h J1 H1 w t _ fun v d J2 H2 w2 t2 ⟨b, e, pb⟩ a => by
    subst e
    exact ⟨b, da_bl a, q b J2 H2 w2 t2 pb⟩
theorem et_testD {b : Bool} (h : EvD K M te σ J H (.bool b)) : EvT M (tTest te) σ J H (· = b) := et_test (h.mono fun _ e => ⟨b, e, rfl⟩)
theorem et_B {Pb : Bool → Prop} (h : EvP K M te σ J H fun d => ∃ b, d = .bool b ∧ Pb b) : EvT M (tB te) σ J H Pb := fun J1 H1 w t Q q =>
  h J1 H1 w t _ fun v d J2 H2 w2 t2 ⟨b, e, pb⟩ a => by
    subst e
    exact ⟨b, da_bl a, q b J2 H2 w2 t2 pb⟩
theorem et_BD {b : Bool} (h : EvD K M te σ J H (.bool b)) : EvT M (tB te) σ J H (· = b) := et_B (h.mono fun _ e => ⟨b, e, rfl⟩)
theorem et_and {Pa Pb : Bool → Prop} {t u : TT} (h : EvT M t σ J H Pa) (g : Pa true → EvT M u σ J H Pb) : EvT M (tAnd t u) σ J H fun c => (c = false ∧ Pa false) ∨ (Pa true ∧ Pb c) := fun J1 H1 w tr Q q =>
  h J1 H1 w tr _ fun b J2 H2 w2 t2 pa => by
    cases b with
    | true => exact g pa J2 H2 w2 (tr.trans t2) Q fun c J3 H3 w3 t3 pb => q c J3 H3 w3 (t2.trans t3) (.inr ⟨pa, pb⟩)
    | false => exact q false J2 H2 w2 t2 (.inl ⟨rfl, pa⟩)
theorem et_or {Pa Pb : Bool → Prop} {t u : TT} (h : EvT M t σ J H Pa) (g : Pa false → EvT M u σ J H Pb) : EvT M (tOr t u) σ J H fun c => (c = true ∧ Pa true) ∨ (Pa false ∧ Pb c) := fun J1 H1 w tr Q q =>
  h J1 H1 w tr _ fun b J2 H2 w2 t2 pa => by
    cases b with
    | false => exact g pa J2 H2 w2 (tr.trans t2) Q fun c J3 H3 w3 t3 pb => q c J3 H3 w3 (t2.trans t3) (.inr ⟨pa, pb⟩)
    | true => exact q true J2 H2 w2 t2 (.inl ⟨rfl, pa⟩)
theorem et_andD {a b : Bool} {t u : TT} (h : EvT M t σ J H (· = a)) (g : a = true → EvT M u σ J H (· = b)) : EvT M (tAnd t u) σ J H (· = (a && b)) :=
  (et_and h fun e => g e.symm).mono fun c hc => by
    rcases hc with ⟨e, ea⟩ | ⟨ea, e⟩
    · rw [e, ← ea]; rfl
    · rw [e, ← ea]; rfl
theorem et_orD {a b : Bool} {t u : TT} (h : EvT M t σ J H (· = a)) (g : a = false → EvT M u σ J H (· = b)) : EvT M (tOr t u) σ J H (· = (a || b)) :=
  (et_or h fun e => g e.symm).mono fun c hc => by
    rcases hc with ⟨e, ea⟩ | ⟨ea, e⟩
    · rw [e, ← ea]; rfl
    · rw [e, ← ea]; rfl
theorem et_not {Pa : Bool → Prop} {t : TT} (h : EvT M t σ J H Pa) : EvT M (tNot t) σ J H fun c => Pa (!c) := fun J1 H1 w tr Q q =>
  h J1 H1 w tr _ fun b J2 H2 w2 t2 pa => q (!b) J2 H2 w2 t2 (by show Pa (!!b); rw [Bool.not_not]; exact pa)
theorem et_notD {a : Bool} {t : TT} (h : EvT M t σ J H (· = a)) : EvT M (tNot t) σ J H (· = !a) := (et_not h).mono fun c e => by rw [← e, Bool.not_not]
theorem et_yes : EvT M tYes σ J H (· = true) := fun J1 H1 w tr Q q => q true J1 H1 w w.tr rfl
/-- truth of a datum -/
def truth : PyData → Bool
  | .none => false
  | .bool b => b
  | .int i => i != 0
  | .str x => (x.length : Int) != 0
  | .list ds => !ds.isEmpty
  | .tuple ds => !ds.isEmpty
  | .dict _ => false
def tTruth (K : PySem.W.Frag) (ta : TE) : TT := fun σ H Q => ta σ H fun x H' => ∃ k, TruV K x H' k ∧ Q k H'
theorem das_empty {xs : List V} {ds : List PyData} (h : Das K J xs ds) : xs.isEmpty = ds.isEmpty := by cases h <;> rfl
theorem et_truth (h : EvP K M te σ J H Px) (hl : ∀ x, Px (.str x) → x.length ≤ sizeLine) : EvT M (tTruth K te) σ J H fun b => ∃ d, Px d ∧ b = truth d := fun J1 H1 w t Q q =>
  h J1 H1 w t _ fun v d J2 H2 w2 t2 px a => by
    refine ⟨truth d, ?_, q _ J2 H2 w2 t2 ⟨d, px, rfl⟩⟩
    cases a with
    | non => rfl
    | bl b => rfl
    | int i => rfl
    | str x => exact ⟨hl x px, rfl⟩
    | lst a b => exact .inl ⟨_, .of (w2.jh _ _ a), by rw [das_empty b]; rfl⟩
    | tup a b => exact .inr (.inl ⟨_, w2.jh.t a, by rw [das_empty b]; rfl⟩)

/-! ### and, or, not as values; a if t else b; chains -/
theorem ev_andV {a : Bool} {b : PyData} (h : EvD K M ta σ J H (.bool a)) (g : a = true → EvD K M tb σ J H b) : EvD K M (tAndV ta tb) σ J H (if a then b else .bool false) := fun J1 H1 w t Q q =>
  h J1 H1 w t _ fun v d J2 H2 w2 t2 e x => by
    subst e
    refine ⟨a, da_bl x, ?_⟩
    cases a with
    | true => exact g rfl J2 H2 w2 (t.trans t2) Q fun v d J3 H3 w3 t3 e3 a3 => q v d J3 H3 w3 (t2.trans t3) e3 a3
    | false => exact q _ _ J2 H2 w2 t2 rfl (.bl false)
theorem ev_orV {a : Bool} {b : PyData} (h : EvD K M ta σ J H (.bool a)) (g : a = false → EvD K M tb σ J H b) : EvD K M (tOrV ta tb) σ J H (if a then .bool true else b) := fun J1 H1 w t Q q =>
  h J1 H1 w t _ fun v d J2 H2 w2 t2 e x => by
    subst e
    refine ⟨a, da_bl x, ?_⟩
    cases a with
    | false => exact g rfl J2 H2 w2 (t.trans t2) Q fun v d J3 H3 w3 t3 e3 a3 => q v d J3 H3 w3 (t2.trans t3) e3 a3
    | true => exact q _ _ J2 H2 w2 t2 rfl (.bl true)
theorem ev_notV {a : Bool} (h : EvD K M ta σ J H (.bool a)) : EvD K M (tNotV ta) σ J H (.bool !a) := fun J1 H1 w t Q q =>
  h J1 H1 w t _ fun v d J2 H2 w2 t2 e x => by
    subst e
    exact ⟨a, da_bl x, q _ _ J2 H2 w2 t2 rfl (.bl _)⟩
theorem ev_if {Pb : Bool → Prop} {t : TT} (h : EvT M t σ J H Pb) (h1 : Pb true → EvP K M ta σ J H P) (h2 : Pb false → EvP K M tb σ J H P) : EvP K M (tIf t ta tb) σ J H P := fun J1 H1 w tr Q q =>
  h J1 H1 w tr _ fun b J2 H2 w2 t2 pb => by
    cases b with
    | true => exact h1 pb J2 H2 w2 (tr.trans t2) Q fun v d J3 H3 w3 t3 e3 a3 => q v d J3 H3 w3 (t2.trans t3) e3 a3
    | false => exact h2 pb J2 H2 w2 (tr.trans t2) Q fun v d J3 H3 w3 t3 e3 a3 => q v d J3 H3 w3 (t2.trans t3) e3 a3
theorem ev_chain {a b : Bool} {dz : PyData} (h1 : EvD K M ta σ J H dx) (h2 : EvD K M tb σ J H dy) (h3 : EvD K M tc σ J H dz) (ho : OpD K M r dx dy (· = .bool a)) (ho' : OpD K M r' dy dz (· = .bool b)) : EvD K M (tChain r r' ta tb tc) σ J H (.bool (a && b)) := fun J1 H1 w t Q q =>
  h1 J1 H1 w t _ fun x dx' J2 H2 w2 t2 ex ax => h2 J2 H2 w2 (t.trans t2) _ fun y dy' J3 H3 w3 t3 ey ay => by
    subst ex
    subst ey
    refine ho x y J3 H3 w3 (t3.jj.da ax) ay _ fun z dz' J4 H4 w4 t4 ez az => ?_
    subst ez
    refine ⟨a, da_bl az, ?_⟩
    cases a with
    | true =>
      refine h3 J4 H4 w4 ((t.trans t2).trans (t3.trans t4)) _ fun z2 dz2 J5 H5 w5 t5 e5 a5 => ?_
      subst e5
      exact ho' y z2 J5 H5 w5 ((t4.trans t5).jj.da ay) a5 Q fun v d J6 H6 w6 t6 e6 a6 => q v d J6 H6 w6 ((t2.trans t3).trans ((t4.trans t5).trans t6)) e6 a6
    | false => exact q _ _ J4 H4 w4 ((t2.trans t3).trans t4) rfl (.bl false)

/-! ### built-in calls -/
theorem das_one {vs : List V} {d : PyData} (h : Das K J vs [d]) : ∃ v, vs = [v] ∧ Da K J v d := by
  cases h with
  | cons a b => cases b; exact ⟨_, rfl, a⟩
theorem cd_lenL {ds : List PyData} : CbD K M (rLen K) [.list ds] (· = .int ds.length) := fun vs J H w a Q q => by
  obtain ⟨v, rfl, av⟩ := das_one a
  obtain ⟨p, xs, rfl, hl, hd⟩ := da_lst av
  exact ⟨_, ds.length, rfl, .inl ⟨xs, .of (w.jh _ _ hl), (das_len hd).symm⟩, q _ _ J H w w.tr rfl (.int _)⟩
theorem cd_lenT {ds : List PyData} : CbD K M (rLen K) [.tuple ds] (· = .int ds.length) := fun vs J H w a Q q => by
  obtain ⟨v, rfl, av⟩ := das_one a
  obtain ⟨p, xs, rfl, hl, hd⟩ := da_tup av
  exact ⟨_, ds.length, rfl, .inr ⟨xs, w.jh.t hl, (das_len hd).symm⟩, q _ _ J H w w.tr rfl (.int _)⟩
theorem cd_lenS {x : Str} (hz : x.length ≤ sizeLine) : CbD K M (rLen K) [.str x] (· = .int x.length) := fun vs J H w a Q q => by
  obtain ⟨v, rfl, av⟩ := das_one a
  exact ⟨_, x.length, rfl, by rw [da_str av]; exact ⟨hz, rfl⟩, q _ _ J H w w.tr rfl (.int _)⟩
def rTupOf (K : PySem.W.Frag) : List V → Hp → VK → Prop := fun xs H Q => ∃ p ys, xs = [.ref p] ∧ ((SqL K H p ys ∧ ∀ l, H l = none → Q (.ref l) (upd H l (.tup ys))) ∨ (SqT K H p ys ∧ Q (.ref p) H))
theorem cd_tupL {ds : List PyData} : CbD K M (rTupOf K) [.list ds] (· = .tuple ds) := fun vs J H w a Q q => by
  obtain ⟨v, rfl, av⟩ := das_one a
  obtain ⟨p, xs, rfl, hl, hd⟩ := da_lst av
  refine ⟨p, xs, rfl, .inl ⟨.of (w.jh _ _ hl), fun l hn => ?_⟩⟩
  have t := w.new (o := .tup xs) hn
  exact q _ _ _ _ (t.wf w) t rfl (.tup (.of upd_same) (t.jj.das hd))
theorem cd_tupT {ds : List PyData} : CbD K M (rTupOf K) [.tuple ds] (· = .tuple ds) := fun vs J H w a Q q => by
  obtain ⟨v, rfl, av⟩ := das_one a
  obtain ⟨p, xs, rfl, hl, hd⟩ := da_tup av
  exact ⟨p, xs, rfl, .inr ⟨w.jh.t hl, q _ _ J H w w.tr rfl av⟩⟩
def rLstOf (K : PySem.W.Frag) : List V → Hp → VK → Prop := fun xs H Q => ∃ p ys, xs = [.ref p] ∧ (SqL K H p ys ∨ SqT K H p ys) ∧ ∀ l, H l = none → Q (.ref l) (upd H l (.lst ys))
theorem cd_lstL {ds : List PyData} : CbD K M (rLstOf K) [.list ds] (· = .list ds) := fun vs J H w a Q q => by
  obtain ⟨v, rfl, av⟩ := das_one a
  obtain ⟨p, xs, rfl, hl, hd⟩ := da_lst av
  refine ⟨p, xs, rfl, .inl (.of (w.jh _ _ hl)), fun l hn => ?_⟩
  have t := w.new (o := .lst xs) hn
  exact q _ _ _ _ (t.wf w) t rfl (.lst upd_same (t.jj.das hd))
theorem cd_lstT {ds : List PyData} : CbD K M (rLstOf K) [.tuple ds] (· = .list ds) := fun vs J H w a Q q => by
  obtain ⟨v, rfl, av⟩ := das_one a
  obtain ⟨p, xs, rfl, hl, hd⟩ := da_tup av
  refine ⟨p, xs, rfl, .inr (w.jh.t hl), fun l hn => ?_⟩
  have t := w.new (o := .lst xs) hn
  exact q _ _ _ _ (t.wf w) t rfl (.lst upd_same (t.jj.das hd))
def rAbs : List V → Hp → VK → Prop := fun xs H Q => ∃ i, xs = [.int i] ∧ Q (.int (if i < 0 then -i else i)) H
theorem cd_abs : CbD K M rAbs [.int i] (· = .int (if i < 0 then -i else i)) := fun vs J H w a Q q => by
  obtain ⟨v, rfl, av⟩ := das_one a
  exact ⟨i, by rw [da_int av], q _ _ J H w w.tr rfl (.int _)⟩
def rInt1 : List V → Hp → VK → Prop := fun xs H Q => (∃ i, xs = [.int i] ∧ Q (.int i) H) ∨ ∃ k, xs = [.bl k] ∧ Q (.int (if k then 1 else 0)) H
theorem cd_int : CbD K M rInt1 [.int i] (· = .int i) := fun vs J H w a Q q => by
  obtain ⟨v, rfl, av⟩ := das_one a
  exact .inl ⟨i, by rw [da_int av], q _ _ J H w w.tr rfl (.int _)⟩
/-- repr -/
def rRepr (K : PySem.W.Frag) : List V → Hp → VK → Prop := fun xs H Q => ∃ x d, xs = [x] ∧ Dp K H x d ∧ d.showable = true ∧ d.shown.length ≤ sizeLine ∧ d.depth ≤ 60 ∧ Q (.str d.shown) H
theorem cd_repr (h1 : d.showable = true) (h2 : d.shown.length ≤ sizeLine) (h3 : d.depth ≤ 60) : CbD K M (rRepr K) [d] (· = .str d.shown) := fun vs J H w a Q q => by
  obtain ⟨v, rfl, av⟩ := das_one a
  exact ⟨v, d, rfl, av.dp w.jh, h1, h2, h3, q _ _ J H w w.tr rfl (.str _)⟩
/-- + of numbers, of tuples, of lists, of texts -/
def rPlus (K : PySem.W.Frag) : R2 := fun x y H Q => (rI0 fun i j => .int (i + j)) x y H Q ∨ rCatA K x y H Q ∨ rCat x y H Q ∨ ∃ i j, x = .str i ∧ y = .str j ∧ i.length + j.length ≤ sizeLine ∧ Q (.str (i ++ j)) H
theorem od_plus : OpD K M (rPlus K) (.int i) (.int j) (· = .int (i + j)) := fun x y J H w ax ay Q q => .inl (od_add x y J H w ax ay Q q)
theorem od_plusT {ds es : List PyData} (h : ds.length + es.length ≤ sizeLine) : OpD K M (rPlus K) (.tuple ds) (.tuple es) (· = .tuple (ds ++ es)) := fun x y J H w ax ay Q q => by
  obtain ⟨a, xs, rfl, hl, hd⟩ := da_tup ax
  obtain ⟨b, ys, rfl, hl2, hd2⟩ := da_tup ay
  refine .inr (.inl ⟨a, b, xs, ys, rfl, rfl, w.jh.t hl, w.jh.t hl2, by rw [das_len hd, das_len hd2]; exact h, fun e => ?_, fun _ e => ?_, fun _ _ l hn => ?_⟩)
  · subst e
    cases hd
    exact q _ _ J H w w.tr rfl ay
  · subst e
    cases hd2
    rw [List.append_nil] at q
    exact q _ _ J H w w.tr rfl ax
  · have t := w.new (o := .tup (xs ++ ys)) hn
    exact q _ _ _ _ (t.wf w) t rfl (.tup (.of upd_same) (t.jj.das (das_app hd hd2)))
theorem od_plusL {ds es : List PyData} (h : ds.length + es.length ≤ sizeLine) : OpD K M (rPlus K) (.list ds) (.list es) (· = .list (ds ++ es)) := fun x y J H w ax ay Q q => by
  obtain ⟨a, xs, rfl, hl, hd⟩ := da_lst ax
  obtain ⟨b, ys, rfl, hl2, hd2⟩ := da_lst ay
  refine .inr (.inr (.inl ⟨a, b, xs, ys, rfl, rfl, w.jh _ _ hl, w.jh _ _ hl2, by rw [das_len hd, das_len hd2]; exact h, fun l hn => ?_⟩))
  have t := w.new (o := .lst (xs ++ ys)) hn
  exact q _ _ _ _ (t.wf w) t rfl (.lst upd_same (t.jj.das (das_app hd hd2)))
theorem od_plusS {x y : Str} (h : x.length + y.length ≤ sizeLine) : OpD K M (rPlus K) (.str x) (.str y) (· = .str (x ++ y)) := fun a b J H w ax ay Q q =>
  .inr (.inr (.inr ⟨x, y, da_str ax, da_str ay, h, q _ _ J H w w.tr rfl (.str _)⟩))

/-! ### what a loop goes over -/
structure WalkD (K : PySem.W.Frag) (A : L2.It) (J : Hp) (ds : List PyData) : Prop where
  go : ∀ i H, i < ds.length → Sub J H → A.go i H
  stop : ∀ H, Sub J H → A.stop ds.length H
  yld : ∀ i H x H' d, ds[i]? = some d → Sub J H → A.yld i H x H' → (H' = H ∧ Da K J x d) ∨ ∃ T xs es, x = .ref T ∧ H T = none ∧ H' = upd H T (.tup xs) ∧ d = .tuple es ∧ Das K J xs es
def EvW (K : PySem.W.Frag) (M : Md) (wi : TI) (σ : L2.St) (J H : Hp) (P : List PyData → Prop) : Prop :=
  ∀ J1 H1, Wf M J1 H1 → Tr M J H J1 H1 → ∀ R : L2.It → Hp → Prop, (∀ A ds J2 H2, Wf M J2 H2 → Tr M J1 H1 J2 H2 → P ds → WalkD K A J2 ds → R A H2) → wi σ H1 R
theorem ew_list {Pl : List PyData → Prop} (h : EvP K M te σ J H fun d => ∃ ds, d = .list ds ∧ Pl ds) : EvW K M (iList K te) σ J H Pl := fun J1 H1 w t R q =>
  h J1 H1 w t _ fun v d J2 H2 w2 t2 ⟨ds, e, pl⟩ a => by
    subst e
    obtain ⟨p, xs, rfl, hl, hd⟩ := da_lst a
    refine ⟨p, rfl, ⟨xs, .of (w2.jh _ _ hl)⟩, q _ ds J2 H2 w2 t2 pl ⟨fun i G hi s => ?_, fun G s => ⟨xs, .of (s _ _ hl), by rw [das_len hd]; exact Nat.le_refl _⟩, fun i G x G' d hd' s y => ?_⟩⟩
    · have hi2 : i < xs.length := by rw [das_len hd]; exact hi
      exact ⟨xs, xs[i], .of (s _ _ hl), List.getElem?_eq_getElem hi2⟩
    · obtain ⟨e, y⟩ := y
      obtain ⟨d2, e2, a2⟩ := das_at hd (y xs (.of (s _ _ hl)))
      rw [hd'] at e2
      cases e2
      exact .inl ⟨e, a2⟩
theorem ew_listD {ds : List PyData} (h : EvD K M te σ J H (.list ds)) : EvW K M (iList K te) σ J H (· = ds) := ew_list (h.mono fun _ e => ⟨ds, e, rfl⟩)
theorem ew_tup {Pl : List PyData → Prop} (h : EvP K M te σ J H fun d => ∃ ds, d = .tuple ds ∧ Pl ds) : EvW K M (iTup K te) σ J H Pl := fun J1 H1 w t R q =>
  h J1 H1 w t _ fun v d J2 H2 w2 t2 ⟨ds, e, pl⟩ a => by
    subst e
    obtain ⟨p, xs, rfl, hl, hd⟩ := da_tup a
    refine ⟨p, rfl, ⟨xs, w2.jh.t hl⟩, q _ ds J2 H2 w2 t2 pl ⟨fun i G hi s => ?_, fun G s => ⟨xs, s.t hl, by rw [das_len hd]; exact Nat.le_refl _⟩, fun i G x G' d hd' s y => ?_⟩⟩
    · have hi2 : i < xs.length := by rw [das_len hd]; exact hi
      exact ⟨xs, xs[i], s.t hl, List.getElem?_eq_getElem hi2⟩
    · obtain ⟨e, y⟩ := y
      obtain ⟨d2, e2, a2⟩ := das_at hd (y xs (s.t hl))
      rw [hd'] at e2
      cases e2
      exact .inl ⟨e, a2⟩
theorem ew_tupD {ds : List PyData} (h : EvD K M te σ J H (.tuple ds)) : EvW K M (iTup K te) σ J H (· = ds) := ew_tup (h.mono fun _ e => ⟨ds, e, rfl⟩)
/-- 0, 1, .. -/
def upTo (n : Nat) : List PyData := (List.range n).map fun k => .int (k : Nat)
theorem upTo_at {n k : Nat} {d : PyData} (h : (upTo n)[k]? = some d) : d = .int k ∧ k < n := by
  unfold upTo at h
  rw [List.getElem?_map] at h
  by_cases hk : k < n
  · rw [List.getElem?_range hk] at h
    exact ⟨(Option.some.inj h).symm, hk⟩
  · rw [List.getElem?_eq_none (by simp; omega)] at h
    cases h
theorem upTo_len {n : Nat} : (upTo n).length = n := by unfold upTo; simp
theorem ew_range {Pn : Nat → Prop} (h : EvP K M te σ J H fun d => ∃ n : Nat, d = .int n ∧ n < 2 ^ 62 ∧ Pn n) : EvW K M (iRng1 (tCons te tNil)) σ J H fun ds => ∃ n : Nat, ds = upTo n ∧ Pn n := fun J1 H1 w t R q =>
  h J1 H1 w t _ fun v d J2 H2 w2 t2 ⟨n, e, hn, pn⟩ a => by
    subst e
    rw [da_int a]
    refine ⟨n, rfl, by omega, by omega, q _ (upTo n) J2 H2 w2 t2 ⟨n, rfl, pn⟩ ⟨fun i G hi s => ?_, fun G s => ?_, fun i G x G' d hd' s y => ?_⟩⟩
    · rw [upTo_len] at hi
      show i < (n : Int).toNat
      omega
    · show (n : Int).toNat ≤ _
      rw [upTo_len]; omega
    · obtain ⟨e1, e2⟩ := y
      obtain ⟨e3, _⟩ := upTo_at hd'
      rw [e3, e2]
      exact .inl ⟨e1, by rw [Int.zero_add]; exact .int _⟩
theorem ew_rangeD {n : Nat} (h : EvD K M te σ J H (.int n)) (hn : n < 2 ^ 62) : EvW K M (iRng1 (tCons te tNil)) σ J H (· = upTo n) := fun J1 H1 w t R q =>
  ew_range (Pn := (· = n)) (h.mono fun _ e => ⟨n, e, hn, rfl⟩) J1 H1 w t R fun A ds J2 H2 w2 t2 ⟨m, e, em⟩ wd => q A ds J2 H2 w2 t2 (by rw [e, em]) wd

/-! ### a comprehension -/
theorem ev_lc {k : Nat} {wi : TI} {tt : TT} {vs : List Nat} {Pw : List PyData → Prop} (I : List PyData → Nat → List PyData → Prop) (hw : EvW K M wi σ J H Pw) (hz : ∀ ds, Pw ds → ds.length < sizeLine) (h0 : ∀ ds, Pw ds → I ds 0 [])
    (hv : ∀ x, wipe ((wipe σ vs).set k (some x)) vs = wipe σ vs)
    (hs : ∀ ds i d acc x J1 H1, Pw ds → ds[i]? = some d → I ds i acc → Wf M J1 H1 → Tr M J H J1 H1 → Da K J1 x d → ∃ Pb : Bool → Prop, EvT M tt ((wipe σ vs).set k (some x)) J1 H1 Pb ∧
      (Pb false → I ds (i + 1) acc) ∧ (Pb true → EvP K M te ((wipe σ vs).set k (some x)) J1 H1 fun e => I ds (i + 1) (acc ++ [e])))
    (hd : ∀ ds acc, Pw ds → I ds ds.length acc → P (.list acc)) : EvP K M (tLc wi (gName k) tt te vs) σ J H P := fun J1 H1 w t Q q =>
  hw J1 H1 w t _ fun A ds J2 H2 w2 t2 pw wd => by
    intro D hD
    have nfD : ¬ M.fp D := w2.nofp hD
    refine ⟨fun i m G => m = ds.length - i ∧ i ≤ ds.length ∧ ∃ J' acc ys, Wf M J' G ∧ Tr M J2 H2 J' G ∧ G D = some (.lst ys) ∧ J' D = none ∧ Das K J' ys acc ∧ ys.length ≤ i ∧ I ds i acc,
      ⟨ds.length, rfl, Nat.zero_le _, J2, [], [], (w2.cell hD).wf w2, w2.cell hD, upd_same, w2.jh.back hD, .nil, Nat.le_refl _, h0 ds pw⟩, ?_⟩
    rintro i m G ⟨rfl, hi, J', acc, ys, w', t', hG, jD, ha, hl, hI⟩
    by_cases hlt : i < ds.length
    · refine .inr ⟨wd.go i G hlt (t'.jj.trans t'.jh), fun G' => ∃ J' acc ys, Wf M J' G' ∧ Tr M J2 H2 J' G' ∧ G' D = some (.lst ys) ∧ J' D = none ∧ Das K J' ys acc ∧ ys.length ≤ i + 1 ∧ I ds (i + 1) acc,
        fun G' h' => ⟨_, by omega, rfl, hlt, h'⟩, fun x G' y => ?_⟩
      have hdi : ds[i]? = some ds[i] := List.getElem?_eq_getElem hlt
      have key : ∀ J3 G3, Wf M J3 G3 → Tr M J2 H2 J3 G3 → G3 D = some (.lst ys) → J3 D = none → Das K J3 ys acc → Da K J3 x ds[i] →
          gName k x (wipe σ vs) G3 fun σ2 H2' => wipe σ2 vs = wipe σ vs ∧ tt σ2 H2' fun b H3 => if b = true then te σ2 H3 fun y H4 => ∃ acc, H4 D = some (.lst acc) ∧ acc.length < sizeLine ∧
            (∃ J' acc' ys, Wf M J' (upd H4 D (.lst (acc ++ [y]))) ∧ Tr M J2 H2 J' (upd H4 D (.lst (acc ++ [y]))) ∧ (upd H4 D (.lst (acc ++ [y]))) D = some (.lst ys) ∧ J' D = none ∧ Das K J' ys acc' ∧ ys.length ≤ i + 1 ∧ I ds (i + 1) acc')
            else ∃ J' acc ys, Wf M J' H3 ∧ Tr M J2 H2 J' H3 ∧ H3 D = some (.lst ys) ∧ J' D = none ∧ Das K J' ys acc ∧ ys.length ≤ i + 1 ∧ I ds (i + 1) acc := by
        intro J3 G3 w3 t3 hG3 jD3 ha3 ax
        obtain ⟨Pb, hb, hf, ht⟩ := hs ds i _ acc x J3 G3 pw hdi hI w3 ((t.trans t2).trans t3) ax
        refine ⟨hv x, hb J3 G3 w3 w3.tr _ fun b J4 G4 w4 t4 pb => ?_⟩
        cases b with
        | false => exact ⟨J4, acc, ys, w4, t3.trans t4, t4.keep D _ nfD hG3, t4.cellj hG3 jD3, t4.jj.das ha3, by omega, hf pb⟩
        | true =>
          refine ht pb J4 G4 w4 t4 _ fun y e J5 G5 w5 t5 pe ae => ?_
          have t35 := t4.trans t5
          have jD5 := t35.cellj hG3 jD3
          have zz := hz ds pw
          refine ⟨ys, t35.keep D _ nfD hG3, by omega, J5, acc ++ [e], ys ++ [y], ((t3.trans t35).put w2 (t35.keep D _ nfD hG3) hD jD5).wf w2, (t3.trans t35).put w2 (t35.keep D _ nfD hG3) hD jD5, upd_same, jD5, das_app (t35.jj.das ha3) (.cons ae .nil), ?_, pe⟩
          rw [List.length_append]; simp only [List.length_cons, List.length_nil]; omega
      rcases wd.yld i G x G' _ hdi (t'.jj.trans t'.jh) y with ⟨rfl, ax⟩ | ⟨T, xs, es, rfl, hT, rfl, ed, hes⟩
      · exact key J' G' w' t' hG jD ha (t'.jj.da ax)
      · have tn := w'.new (o := .tup xs) hT
        refine key _ _ (tn.wf w') (t'.trans tn) (tn.keep D _ nfD hG) (tn.cellj hG jD) (tn.jj.das ha) ?_
        rw [ed]
        exact .tup (.of upd_same) (tn.jj.das (t'.jj.das hes))
    · have e : i = ds.length := by omega
      subst e
      have ti := t'.ice hD jD hG
      exact .inl ⟨wd.stop G (t'.jj.trans t'.jh), q _ _ _ G (ti.wf w2) (t2.trans ti) (hd ds acc pw hI) (.lst upd_same ((Sub.new jD).das ha))⟩
/-- a plain one: each thing makes one, told by f -/
theorem ev_lcMap {k : Nat} {wi : TI} {vs : List Nat} {ds : List PyData} {f : PyData → PyData} (hw : EvW K M wi σ J H (· = ds)) (hz : ds.length < sizeLine)
    (hv : ∀ x, wipe ((wipe σ vs).set k (some x)) vs = wipe σ vs)
    (hs : ∀ d x J1 H1, d ∈ ds → Wf M J1 H1 → Tr M J H J1 H1 → Da K J1 x d → EvD K M te ((wipe σ vs).set k (some x)) J1 H1 (f d)) : EvD K M (tLc wi (gName k) tYes te vs) σ J H (.list (ds.map f)) := by
  refine ev_lc (fun ds' i acc => acc = (ds.take i).map f) hw (fun _ e => by rw [e]; exact hz) (fun _ _ => rfl) hv (fun ds' i d acc x J1 H1 e hdi hI w t a => ⟨(· = true), et_yes, (fun h => by cases h), fun _ => ?_⟩) fun ds' acc e h => ?_
  · subst e
    refine (hs d x J1 H1 (List.mem_of_getElem? hdi) w t a).mono fun e he => ?_
    rw [hI, he, List.take_add_one, hdi]
    simp
  · rw [h, e, List.take_length]
theorem ev_lcFilter {k : Nat} {wi : TI} {tt : TT} {vs : List Nat} {ds : List PyData} {f : PyData → PyData} {c : PyData → Bool} (hw : EvW K M wi σ J H (· = ds)) (hz : ds.length < sizeLine)
    (hv : ∀ x, wipe ((wipe σ vs).set k (some x)) vs = wipe σ vs)
    (hc : ∀ d x J1 H1, d ∈ ds → Wf M J1 H1 → Tr M J H J1 H1 → Da K J1 x d → EvT M tt ((wipe σ vs).set k (some x)) J1 H1 (· = c d))
    (hs : ∀ d x J1 H1, d ∈ ds → c d = true → Wf M J1 H1 → Tr M J H J1 H1 → Da K J1 x d → EvD K M te ((wipe σ vs).set k (some x)) J1 H1 (f d)) : EvD K M (tLc wi (gName k) tt te vs) σ J H (.list ((ds.filter c).map f)) := by
  refine ev_lc (fun ds' i acc => acc = ((ds.take i).filter c).map f) hw (fun _ e => by rw [e]; exact hz) (fun _ _ => rfl) hv (fun ds' i d acc x J1 H1 e hdi hI w t a => ⟨(· = c d), hc d x J1 H1 (by rw [← e]; exact List.mem_of_getElem? hdi) w t a, fun h => ?_, fun h => ?_⟩) fun ds' acc e h => ?_
  · subst e
    rw [hI, List.take_add_one, hdi]
    simp [← h]
  · subst e
    refine (hs d x J1 H1 (List.mem_of_getElem? hdi) h.symm w t a).mono fun e he => ?_
    rw [hI, he, List.take_add_one, hdi]
    simp [← h]
  · rw [h, e, List.take_length]
end
end DL

/-! Statements: (J0, H0) is where the def began, (J, H) where it stands. -/
namespace DL
open PySem PySem.Spec
open PyProof.Rows L2
section
variable {K : PySem.W.Frag} {M : Md} {σ : L2.St} {J H J' H' J0 H0 J1 H1 : Hp} {ta tb te tc : TE} {t u : TT} {ts tu tw : TS} {r r' : R2} {P P' Px Py Pz : PyData → Prop} {d dx dy : PyData} {v : V} {i j : Int} {p : Addr} {o : HO} {D : Ends} {tb' : TS}
theorem s_asg {k : Nat} (w : Wf M J H) (h : EvP K M te σ J H P) (q : ∀ v d J1 H1, Wf M J1 H1 → Tr M J H J1 H1 → P d → Da K J1 v d → D.nx (σ.set k (some v)) H1) : tAsg te (gName k) D σ H := h J H w w.tr _ q
theorem s_ret (w : Wf M J H) (h : EvP K M te σ J H P) (q : ∀ v d J1 H1, Wf M J1 H1 → Tr M J H J1 H1 → P d → Da K J1 v d → D.rt v H1) : tRet te D σ H := h J H w w.tr _ q
theorem s_drop (w : Wf M J H) (h : EvP K M te σ J H P) (q : ∀ J1 H1, Wf M J1 H1 → Tr M J H J1 H1 → D.nx σ H1) : tDrop te D σ H := h J H w w.tr _ fun v d J1 H1 w1 t1 _ _ => q J1 H1 w1 t1
theorem s_if {Pb : Bool → Prop} {c : TT} (w : Wf M J H) (h : EvT M c σ J H Pb) (q1 : Pb true → ∀ J1 H1, Wf M J1 H1 → Tr M J H J1 H1 → tu D σ H1) (q2 : Pb false → ∀ J1 H1, Wf M J1 H1 → Tr M J H J1 H1 → tw D σ H1) : tIfS c tu tw D σ H :=
  h J H w w.tr _ fun b J1 H1 w1 t1 pb => by
    cases b with
    | true => exact q1 pb J1 H1 w1 t1
    | false => exact q2 pb J1 H1 w1 t1
/-- a, b = e1, e2 -/
theorem s_par {k l : Nat} {ta : TA} {Pa : List PyData → Prop} (w : Wf M J H) (h : EvA K M ta σ J H Pa) (q : ∀ ds, Pa ds → ∃ d e, ds = [d, e] ∧ ∀ v u J1 H1, Wf M J1 H1 → Tr M J H J1 H1 → Da K J1 v d → Da K J1 u e → D.nx ((σ.set k (some v)).set l (some u)) H1) : tPar k l ta D σ H :=
  h J H w w.tr _ fun vs ds J1 H1 w1 t1 pa a => by
    obtain ⟨d, e, rfl, q⟩ := q ds pa
    cases a with
    | cons a b =>
      obtain ⟨u, rfl, b2⟩ := das_one b
      exact ⟨_, _, rfl, q _ _ J1 H1 w1 t1 a b2⟩
theorem s_par3 {k l m : Nat} {ta : TA} {Pa : List PyData → Prop} (w : Wf M J H) (h : EvA K M ta σ J H Pa)
    (q : ∀ ds, Pa ds → ∃ d e f, ds = [d, e, f] ∧ ∀ v u x J1 H1, Wf M J1 H1 → Tr M J H J1 H1 → Da K J1 v d → Da K J1 u e → Da K J1 x f → D.nx (((σ.set k (some v)).set l (some u)).set m (some x)) H1) : tPar3 k l m ta D σ H :=
  h J H w w.tr _ fun vs ds J1 H1 w1 t1 pa a => by
    obtain ⟨d, e, f, rfl, q⟩ := q ds pa
    cases a with
    | cons a b =>
      cases b with
      | cons b c =>
        obtain ⟨u, rfl, c2⟩ := das_one c
        exact ⟨_, _, _, rfl, q _ _ _ J1 H1 w1 t1 a b c2⟩
/-- a, b = e, e a tuple -/
theorem s_tup2 {k l : Nat} {ds : List PyData} (w : Wf M J H) (h : EvP K M te σ J H fun d => ∃ x y, d = .tuple [x, y] ∧ P x ∧ P' y) (q : ∀ v u x y J1 H1, Wf M J1 H1 → Tr M J H J1 H1 → P x → P' y → Da K J1 v x → Da K J1 u y → D.nx ((σ.set k (some v)).set l (some u)) H1) :
    tAsg te (gTup K 2 (gCons (gName k) (gCons (gName l) gNil))) D σ H := h J H w w.tr _ fun v d J1 H1 w1 t1 ⟨x, y, e, px, py⟩ a => by
  subst e
  obtain ⟨c, xs, rfl, ht, hd⟩ := da_tup a
  cases hd with
  | cons a1 b =>
    obtain ⟨u, rfl, b2⟩ := das_one b
    exact ⟨c, _, rfl, w1.jh.t ht, rfl, _, _, rfl, _, _, rfl, rfl, q _ _ x y J1 H1 w1 t1 px py a1 b2⟩
/-- xs = [], a list of one's own to be filled -/
theorem s_cell {k : Nat} (w : Wf M J H) (q : ∀ p, H p = none → Wf M J (upd H p (.lst [])) → Tr M J H J (upd H p (.lst [])) → D.nx (σ.set k (some (.ref p))) (upd H p (.lst []))) : tAsg (tLst tNil) (gName k) D σ H :=
  ⟨Nat.zero_le _, fun p hp => q p hp ((w.cell hp).wf w) (w.cell hp)⟩
/-- such a list, e behind it -/
theorem s_app {k : Nat} {ys : List V} (w0 : Wf M J0 H0) (t0 : Tr M J0 H0 J H) (hp : H0 p = none) (jp : J p = none) (hs : σ[k]? = some (some (.ref p))) (hH : H p = some (.lst ys)) (hl : ys.length < sizeLine) (h : EvP K M te σ J H P)
    (q : ∀ v d J1 H1, Wf M J1 H1 → Tr M J0 H0 J1 H1 → Sub J J1 → J1 p = none → H1 p = some (.lst (ys ++ [v])) → (∀ a o, a ≠ p → ¬ M.fp a → Nt M o → H a = some o → H1 a = some o) → (∀ a o, Nt M o → H a = some o → J a = none → J1 a = none) → P d → Da K J1 v d → D.nx σ H1) : tDrop (tBM K "list" rAppend (tVar k) (tCons te tNil)) D σ H := by
  have nf : ¬ M.fp p := w0.nofp hp
  refine ⟨.ref p, hs, .inl ⟨rfl, ys, .of hH⟩, h J H (t0.wf w0) (t0.wf w0).tr _ fun v d J1 H1 w1 t1 pd a => ?_⟩
  have jp1 := t1.cellj hH jp
  have t2 := (t0.trans t1).put (zs := ys ++ [v]) w0 (t1.keep p _ nf hH) hp jp1
  refine ⟨p, ys, v, rfl, rfl, t1.keep p _ nf hH, hl, q v d J1 _ (t2.wf w0) t2 t1.jj jp1 upd_same (fun a o ne n b e => ?_) t1.frn pd a⟩
  rw [upd_ne ne]; exact t1.kept a o n b e
/-- what is reached behind a turn -/
def Nxt (M : Md) (J0 H0 J2 : Hp) (I : L2.St → Hp → Hp → Prop) : L2.St → Hp → Prop := fun σ H => ∃ J, Wf M J H ∧ Tr M J0 H0 J H ∧ Sub J2 J ∧ I σ J H
theorem s_for {k : Nat} {wi : TI} {Pw : List PyData → Prop} (I : List PyData → Nat → L2.St → Hp → Hp → Prop) (w0 : Wf M J0 H0) (t0 : Tr M J0 H0 J H) (hw : EvW K M wi σ J H Pw)
    (h0 : ∀ ds J2 H2, Pw ds → Wf M J2 H2 → Tr M J H J2 H2 → I ds 0 σ J2 H2)
    (hn : ∀ ds i σ' J' H' T xs, I ds i σ' J' H' → H' T = none → I ds i σ' (upd J' T (.tup xs)) (upd H' T (.tup xs)))
    (hs : ∀ ds i d x σ' J2 J' H', Pw ds → ds[i]? = some d → Wf M J' H' → Tr M J0 H0 J' H' → Sub J J2 → Sub J2 J' → I ds i σ' J' H' → Da K J' x d →
      tb' { D with nx := Nxt M J0 H0 J2 (I ds (i + 1)), ct := Nxt M J0 H0 J2 (I ds (i + 1)), bk := D.nx } (σ'.set k (some x)) H')
    (hd : ∀ ds σ' J' H', Pw ds → Wf M J' H' → Tr M J0 H0 J' H' → Sub J J' → I ds ds.length σ' J' H' → D.nx σ' H') : tFor wi (gName k) tb' D σ H :=
  hw J H (t0.wf w0) (t0.wf w0).tr _ fun A ds J2 H2 w2 t2 pw wd => by
    refine ⟨fun i m σ' G => m = ds.length - i ∧ i ≤ ds.length ∧ Nxt M J0 H0 J2 (I ds i) σ' G, ⟨_, rfl, Nat.zero_le _, J2, w2, t0.trans t2, .refl _, h0 ds J2 H2 pw w2 t2⟩, ?_⟩
    rintro i m σ' G ⟨rfl, hi, J', w', t', s', hI⟩
    by_cases hlt : i < ds.length
    · refine .inr ⟨wd.go i G hlt (s'.trans w'.jh), Nxt M J0 H0 J2 (I ds (i + 1)), fun σ2 G' h' => ⟨_, by omega, rfl, hlt, h'⟩, fun x G' y => ?_⟩
      have hdi : ds[i]? = some ds[i] := List.getElem?_eq_getElem hlt
      rcases wd.yld i G x G' _ hdi (s'.trans w'.jh) y with ⟨rfl, ax⟩ | ⟨T, xs, es, rfl, hT, rfl, ed, hes⟩
      · exact hs ds i _ x σ' J2 J' G' pw hdi w' t' t2.jj s' hI (s'.da ax)
      · have tn := w'.new (o := .tup xs) hT
        refine hs ds i _ _ σ' J2 _ _ pw hdi (tn.wf w') (t'.trans tn) t2.jj (s'.trans tn.jj) (hn ds i σ' J' G T xs hI hT) ?_
        rw [ed]
        exact .tup (.of upd_same) (tn.jj.das (s'.das hes))
    · have e : i = ds.length := by omega
      subst e
      exact .inl ⟨wd.stop G (s'.trans w'.jh), hd ds σ' J' G pw w' t' (t2.jj.trans s') hI⟩
theorem s_for2 {k l : Nat} {wi : TI} {Pw : List PyData → Prop} (I : List PyData → Nat → L2.St → Hp → Hp → Prop) (w0 : Wf M J0 H0) (t0 : Tr M J0 H0 J H) (hw : EvW K M wi σ J H Pw)
    (hz : ∀ ds, Pw ds → ∀ d ∈ ds, ∃ x y, d = .tuple [x, y])
    (h0 : ∀ ds J2 H2, Pw ds → Wf M J2 H2 → Tr M J H J2 H2 → I ds 0 σ J2 H2)
    (hn : ∀ ds i σ' J' H' T xs, I ds i σ' J' H' → H' T = none → I ds i σ' (upd J' T (.tup xs)) (upd H' T (.tup xs)))
    (hs : ∀ ds i d e x y σ' J2 J' H', Pw ds → ds[i]? = some (.tuple [d, e]) → Wf M J' H' → Tr M J0 H0 J' H' → Sub J J2 → Sub J2 J' → I ds i σ' J' H' → Da K J' x d → Da K J' y e →
      tb' { D with nx := Nxt M J0 H0 J2 (I ds (i + 1)), ct := Nxt M J0 H0 J2 (I ds (i + 1)), bk := D.nx } ((σ'.set k (some x)).set l (some y)) H')
    (hd : ∀ ds σ' J' H', Pw ds → Wf M J' H' → Tr M J0 H0 J' H' → Sub J J' → I ds ds.length σ' J' H' → D.nx σ' H') : tFor wi (gTup K 2 (gCons (gName k) (gCons (gName l) gNil))) tb' D σ H :=
  hw J H (t0.wf w0) (t0.wf w0).tr _ fun A ds J2 H2 w2 t2 pw wd => by
    refine ⟨fun i m σ' G => m = ds.length - i ∧ i ≤ ds.length ∧ Nxt M J0 H0 J2 (I ds i) σ' G, ⟨_, rfl, Nat.zero_le _, J2, w2, t0.trans t2, .refl _, h0 ds J2 H2 pw w2 t2⟩, ?_⟩
    rintro i m σ' G ⟨rfl, hi, J', w', t', s', hI⟩
    by_cases hlt : i < ds.length
    · refine .inr ⟨wd.go i G hlt (s'.trans w'.jh), Nxt M J0 H0 J2 (I ds (i + 1)), fun σ2 G' h' => ⟨_, by omega, rfl, hlt, h'⟩, fun x G' y => ?_⟩
      have hdi : ds[i]? = some ds[i] := List.getElem?_eq_getElem hlt
      obtain ⟨dx, dy, edi⟩ := hz ds pw _ (List.getElem_mem hlt)
      rw [edi] at hdi
      have key : ∀ J3 G3, Wf M J3 G3 → Tr M J0 H0 J3 G3 → Sub J2 J3 → I ds i σ' J3 G3 → Da K J3 x (.tuple [dx, dy]) →
          gTup K 2 (gCons (gName k) (gCons (gName l) gNil)) x σ' G3 fun σ2 H2 => tb' { D with nx := Nxt M J0 H0 J2 (I ds (i + 1)), ct := Nxt M J0 H0 J2 (I ds (i + 1)), bk := D.nx } σ2 H2 := by
        intro J3 G3 w3 t3 s3 hI3 ax
        obtain ⟨c, ys, rfl, ht, hd⟩ := da_tup ax
        cases hd with
        | cons a1 b =>
          obtain ⟨u, rfl, b2⟩ := das_one b
          exact ⟨c, _, rfl, w3.jh.t ht, rfl, _, _, rfl, _, _, rfl, rfl, hs ds i dx dy _ _ σ' J2 J3 G3 pw hdi w3 t3 t2.jj s3 hI3 a1 b2⟩
      rcases wd.yld i G x G' _ hdi (s'.trans w'.jh) y with ⟨rfl, ax⟩ | ⟨T, xs, es, rfl, hT, rfl, ed, hes⟩
      · exact key J' G' w' t' s' hI (s'.da ax)
      · have tn := w'.new (o := .tup xs) hT
        refine key _ _ (tn.wf w') (t'.trans tn) (s'.trans tn.jj) (hn ds i σ' J' G T xs hI hT) ?_
        rw [ed]
        exact .tup (.of upd_same) (tn.jj.das (s'.das hes))
    · have e : i = ds.length := by omega
      subst e
      exact .inl ⟨wd.stop G (s'.trans w'.jh), hd ds σ' J' G pw w' t' (t2.jj.trans s') hI⟩
/-- while: I by a number that falls -/
theorem s_while {c : TT} (I : Nat → L2.St → Hp → Hp → Prop) (w0 : Wf M J0 H0) (t0 : Tr M J0 H0 J H) (h0 : ∃ m, I m σ J H)
    (hs : ∀ m σ' J' H', Wf M J' H' → Tr M J0 H0 J' H' → Sub J J' → I m σ' J' H' → ∃ Pb : Bool → Prop, EvT M c σ' J' H' Pb ∧
      (Pb true → ∀ J1 H1, Wf M J1 H1 → Tr M J' H' J1 H1 → tb' { D with nx := Nxt M J0 H0 J fun σ J H => ∃ m', m' < m ∧ I m' σ J H, ct := Nxt M J0 H0 J fun σ J H => ∃ m', m' < m ∧ I m' σ J H, bk := D.nx } σ' H1) ∧
      (Pb false → ∀ J1 H1, Wf M J1 H1 → Tr M J' H' J1 H1 → D.nx σ' H1)) : tWhile c tb' D σ H := by
  obtain ⟨m0, i0⟩ := h0
  refine ⟨fun m σ' G => Nxt M J0 H0 J (I m) σ' G, ⟨m0, J, t0.wf w0, t0, .refl _, i0⟩, ?_⟩
  rintro m σ' G ⟨J', w', t', s', hI⟩
  obtain ⟨Pb, hc, h1, h2⟩ := hs m σ' J' G w' t' s' hI
  refine hc J' G w' w'.tr _ fun b J1 H1 w1 t1 pb => ?_
  cases b with
  | true => exact ⟨_, fun σ2 G2 ⟨J2, a1, a2, a3, m', lt, a4⟩ => ⟨m', lt, J2, a1, a2, a3, a4⟩, h1 pb J1 H1 w1 t1⟩
  | false => exact h2 pb J1 H1 w1 t1
end
end DL

/-! Defs that tell texts of objects: they are called where no such text is being told. -/
namespace DL
open PySem PySem.Spec
open PyProof.Rows L2
mutual
theorem dp_nd {K : PySem.W.Frag} {H : Hp} : ∀ {d : PyData} {v : V}, Dp K H v d → d.hasDict = false
  | .none, _, _ => by simp only [PyData.hasDict]
  | .bool _, _, _ => by simp only [PyData.hasDict]
  | .int _, _, _ => by simp only [PyData.hasDict]
  | .str _, _, _ => by simp only [PyData.hasDict]
  | .list ds, _, h => by
    cases h with
    | lst _ b => simp only [PyData.hasDict]; exact dps_nd b
  | .tuple ds, _, h => by
    cases h with
    | tup _ b => simp only [PyData.hasDict]; exact dps_nd b
  | .dict _, _, h => by cases h
theorem dps_nd {K : PySem.W.Frag} {H : Hp} : ∀ {ds : List PyData} {vs : List V}, DpAll K H vs ds → PyData.hasDictAll ds = false
  | [], _, _ => by simp only [PyData.hasDictAll]
  | _ :: _, _, h => by
    cases h with
    | cons a b => simp only [PyData.hasDictAll]; rw [dp_nd a, dps_nd b]; rfl
end
structure FnG (P : Program) (w : World) (K : PySem.W.Frag) (mg : Str → Option Value) (base : Heap) (CX : CXT) (k : Nat) (f : Addr) (fd : FuncData) (ps : List Str) (sp : Sp) : Prop where
  siz : ∀ vs H Q E, sp vs H Q E → vs.length = ps.length
  go : ∀ (A : Around) (out : List Env) (s : Shared) (H : Hp) (ar : Args) (us : List Value) (vs : List V) (Q : VK) (E : XK), A.guards = some [] → Room k A → Env0 P w K mg base A out s H → BindsTo s fd ar (ps.zip us) → Vals vs us → sp vs H Q E → codeAny (model P w) A (.call (.ref f) ar) (CR CX out P w H s Q E) s
section
variable {P : Program} {w : World} {K : PySem.W.Frag} {mg : Str → Option Value} {base : Heap} {CX : CXT} {k : Nat} {f : Addr} {fd : FuncData} {ps : List Str} {sp : Sp}
theorem FnG.of (F : FnOk P w K mg base CX k f fd ps sp) : FnG P w K mg base CX k f fd ps sp := ⟨F.len, fun A out s H ar us vs Q E _ => F.run A out s H ar us vs Q E⟩
theorem FnG.more {j : Nat} (F : FnG P w K mg base CX j f fd ps sp) (h : j ≤ k) : FnG P w K mg base CX k f fd ps sp := ⟨F.siz, fun A out s H ar us vs Q E g hr => F.go A out s H ar us vs Q E g (hr.mono h)⟩
/-- a def by its body -/
theorem fn_g {x qual : Str} {params : Arguments} {body : List Stmt} {scope : Scope} {dvs : List V} {kws : List (Str × V)} {N : List Str} (F : FunD K x qual params body scope dvs kws f fd) (S : FnScope N ps scope) (len : ∀ vs H Q E, sp vs H Q E → vs.length = ps.length)
    (hb : ∀ (cdv : Value) (A : Around) (out : List Env) (s : Shared) (H : Hp) (vs : List V) (Q : VK) (E : XK), A.guards = some [] → Room k (A.deeper (envOfC qual scope s.heap.objs.size f cdv)) → sp vs H Q E →
      ∃ t, PSs (cxOf CX P w K mg base N qual scope f cdv A out s H E) body t ∧ t { nx := fun _ H' => Q .non H', rt := Q } (start N vs) H) : FnG P w K mg base CX (k + 1) f fd ps sp := by
  obtain ⟨oc, od, dV, kV, doc, pm, an, cdv, ct, osl, e, lk, hcd, _, _⟩ := F.ex
  subst e
  refine ⟨len, fun A out s H ar us vs Q E g hr e0 bd r hsp => ?_⟩
  have KX : K.In s.heap := e0.mod.kin.keeps fun b o q => (e0.bs b o q).1
  have nl : s.heap.NoLimit := e0.mod.nolimit.keeps fun b o q => (e0.bs b o q).1
  have nk : ∀ y ∈ ps.zip us, scope.names.lookup y.1 = some .local ∨ (scope.names.lookup y.1 = some .cell ∧ ((cellsFrom (s.heap.objs.size + 1) scope.names []).lookup y.1).isSome = true) := by
    rintro ⟨n, v⟩ hy
    exact (S.par n (List.of_mem_zip hy).1).imp id fun q => ⟨q, PySem.W.cellsFrom_some _ _ _ (.inl q)⟩
  refine codeAny_call_function hr.depth (KX _ _ lk) rfl S.co S.gen rfl (PySem.W.codeRec_of KX hcd) (bd _ _ _ _ (wpAny_newFunctionEnv_cells S.kind nk fun env he s1 x => ?_))
  cases he
  refine ⟨nl.keeps x.toInCall.keep, codeAny_func ?_⟩
  obtain ⟨t, ht, hq⟩ := hb cdv A out s H vs Q E g (hr.deeper _) hsp
  refine wpAny_mono (ht.run [] s1 (start N vs) H _ (inv_start S hr.hd e0 (len _ _ _ _ hsp) r x) hq) (fun fl s' hs => ?_) fun _ _ z => z
  cases fl with
  | ret u => obtain ⟨v, σ', H', I, rv, q⟩ := hs; exact ⟨v, H', I.os, I.bare, I.base, I.hok, rv, q⟩
  | next => obtain ⟨σ', H', I, q⟩ := hs; exact ⟨V.non, H', I.os, I.bare, I.base, I.hok, rfl, q⟩
  | brk => exact hs.elim fun _ h => h.elim fun _ h => h.2.elim
  | cont => exact hs.elim fun _ h => h.elim fun _ h => h.2.elim
end
section
variable {X : Cx} {CX : CXT} {k : Nat} {f : Addr} {fd : FuncData} {ps ks : List Str} {sp : Sp} {E : XK} {x : Str} {p pos : Pos} {e : Expr} {es : List Expr} {t tk : TA}
theorem go_g {pins : List (Addr × Obj)} {σ : L2.St} {H : Hp} {s : Shared} {Q : VK} {ar : Args} {us : List Value} {vs : List V} (F : FnG X.prog X.w X.K X.mg X.base CX k f fd ps sp) (hg : X.A.guards = some []) (hr : Room k X.A) (hx : Passes CX X E) (I : Inv X pins σ H s)
    (bd : BindsTo s fd ar (ps.zip us)) (r : Vals vs us) (h : sp vs H Q E) : wpAny (model X.prog X.w) X.A (call (.ref f) ar.pos ar.kw) (EP X pins σ Q) X.xe s :=
  wpAny_call (codeAny_mono (F.go X.A X.stack s H ar us vs Q E hg hr I.env0 bd r h) fun c s' hq => by
    cases c with
    | error er => exact hx pins σ H s er s' I hq
    | ok fl => cases fl <;> first | exact I.after hq | exact hq.elim)
theorem pe_callG {dvs : List V} {ds : List Value} (F : FnG X.prog X.w X.K X.mg X.base CX k f fd ps sp) (hA : X.A.guards = some []) (hr : Room k X.A) (hg : Gl X x) (hm : X.mg x = some (.ref f)) (hk : PySem.W.keepIn X.K (.ref f) = true) (hb : Binds X.K fd ps ds) (hd : Vals dvs ds)
    (hx : Passes CX X E) (ha : PA X (e :: es) t) (hdb : (x == ("__debug__" : Str)) = false := by decide) (he : starEach (e :: es) X.env = (false, eval e X.env) :: starEach es X.env := by rfl)
    (hpl : (backTo pos (starEach es X.env)).any (·.1) = false := by rfl) : PE X (.Call (.Name x p) (e :: es) [] pos) (tCall sp dvs E t) := by
  refine ⟨fun pins s σ H Q I h => wpAny_Call_Name_kw (ld_glob I hg hm ?_ hdb)⟩
  have args := thn (ha.run pos pins s σ H _ I h) fun ws sh ⟨zs, G, J, rz, told⟩ => (⟨J.kIn, go_g (ar := ⟨ws, []⟩) F hA hr hx J (hb sh ws J.kIn ((rz.append hd).length.symm.trans (F.siz _ _ _ _ told))) (rz.append hd) told⟩ : X.K.In sh.heap ∧ _)
  exact PySem.W.callWith_K (h₀ := X.base) I.ok.mod.kin hk args he hpl
theorem pe_callKG {g : List Value → List Value → List Value} {gV : List V → List V → List V} {kws : List Keyword} (F : FnG X.prog X.w X.K X.mg X.base CX k f fd ps sp) (hA : X.A.guards = some []) (hr : Room k X.A) (hg : Gl X x) (hm : X.mg x = some (.ref f))
    (hk : PySem.W.keepIn X.K (.ref f) = true) (hb : KBinds X.K fd ps ks g gV) (hx : Passes CX X E) (ha : PA X (e :: es) t) (hkw : PK X kws tk) (hall : (backToKw pos (keywordEach kws X.env)).all (·.1.isSome) = true := by rfl)
    (hks : (backToKw pos (keywordEach kws X.env)).filterMap (·.1) = ks := by rfl) (hdb : (x == ("__debug__" : Str)) = false := by decide) (he : starEach (e :: es) X.env = (false, eval e X.env) :: starEach es X.env := by rfl)
    (hpl : ((backTo pos (starEach (e :: es) X.env)).any (·.1) || (backToKw pos (keywordEach kws X.env)).any (·.1.isNone)) = false := by rfl) : PE X (.Call (.Name x p) (e :: es) kws pos) (tCallK sp gV E t tk) := by
  refine ⟨fun pins s σ H Q I h => wpAny_Call_Name_kw (ld_glob I hg hm ?_ hdb)⟩
  refine PySem.W.callWith_KW (h₀ := X.base) I.ok.mod.kin hk hall (thn (ha.run pos pins s σ H _ I h) fun ps' sh ⟨vs, G, J, rv, named⟩ => thn (hkw.run pos pins sh σ G _ J named) fun ks' sh2 ⟨zs, G2, J2, rz, told⟩ => ⟨J2.kIn, ?_⟩) hpl he
  have both := hb.rel rv rz
  rw [hks]
  exact go_g (ar := ⟨ps', ks.zip ks'⟩) F hA hr hx J2 (hb.to sh2 ps' ks' J2.kIn (both.length.symm.trans (F.siz _ _ _ _ told))) both told
theorem cl_repr (hA : X.A.guards = some []) (hu : X.A.units + 64 < cLine) : CallR X (.builtin "repr") (rRepr X.K) := by
  rintro pins s σ H _ _ Q I r ⟨x, d, rfl, hd, h1, h2, h3, q⟩
  obtain ⟨u, eu, rx⟩ := vals1 r
  subst eu
  have hd' := hd
  cases hd with
  | non => cases rx; exact PySem.P.repr_of_none ⟨.str _, H, I.tok _, ⟨_, rfl⟩, by simpa only [PyData.shown] using q⟩
  | bl b => cases rx; exact PySem.P.repr_of_bool ⟨.str _, H, I.tok _, ⟨_, rfl⟩, by simpa only [PyData.shown] using q⟩
  | int i => obtain ⟨t, rfl⟩ := rx; exact PySem.P.repr_of_int (by simpa [PyData.showable] using h1) ⟨.str _, H, I.tok _, ⟨_, rfl⟩, by simpa only [PyData.shown] using q⟩
  | str y => obtain ⟨t, rfl⟩ := rx; exact PySem.P.repr_of_str ⟨.str _, H, I.tok _, ⟨_, rfl⟩, by simpa only [PyData.shown] using q⟩ (by simpa only [PyData.shown] using h2)
  | lst a b =>
    cases rx
    obtain ⟨as, rd⟩ := Dp.reads I _ _ _ hd' rfl
    exact repr_of_reads' rd h1 (fun z => by rw [dp_nd hd'] at z; cases z) hA (by omega) (fun _ _ e => e) (fun h' u tk kk => ⟨.str _, H, I.kept (t' := tk) kk, ⟨_, rfl⟩, q⟩) h2
  | tup a b =>
    cases rx
    obtain ⟨as, rd⟩ := Dp.reads I _ _ _ hd' rfl
    exact repr_of_reads' rd h1 (fun z => by rw [dp_nd hd'] at z; cases z) hA (by omega) (fun _ _ e => e) (fun h' u tk kk => ⟨.str _, H, I.kept (t' := tk) kk, ⟨_, rfl⟩, q⟩) h2
end
/-! ### the law itself -/
/-- what a law's call has to leave -/
def Well (s₀ : Shared) : Result → Shared → Prop := fun out s' => out = .ok (.ret (.bool true)) ∧ OldK s₀.heap s'.heap ∧ s'.os = s₀.os ∧ AllBare s'.gens
/-- the heap that tells of the script alone -/
def lone (a : Addr) (vs : List Value) (ns : List Int) : Hp := fun b => if b = a then some (.frz { cls := .type "list", data := .seq vs.toArray } (.lst (ns.map V.int))) else none
section
variable {P : Program} {w : World} {K : PySem.W.Frag} {mg mb : Str → Option Value} {CX : CXT} {k : Nat} {fa a : Addr} {fd : FuncData} {x : Str} {sp : Sp} {s₀ : Shared} {vs : List Value} {ns : List Int}
theorem law_on {H : Hp} (KX : K.In s₀.heap) (hns : s₀.heap.Ns mainGlobals mg) (hb : s₀.heap.Ns builtinsNs mb) (hbb : ∀ y : Str, y ≠ "__name__" → mb y = bootBuiltins y) (hlim : s₀.heap.NoLimit) (hg : s₀.gens = #[]) (ha : s₀.heap.get? a = some { cls := .type "list", data := .seq vs.toArray }) (hr : Room k callerA)
    (F : ∀ base : Heap, K.In base → base.Ns mainGlobals mg → FnG P w K mg base CX k fa fd [x] sp) (hbind : ∀ (s : Shared) (u : Value), BindsTo s fd ⟨[u], []⟩ [(x, u)]) (hsp : sp [.ref a] H (fun v _ => v = .bl true) fun _ _ _ => False) (hCX : ∀ e s', CX [] H s₀ (fun _ _ _ => False) e s' → False)
    (hO : Only H) (hok : HOk P w H s₀.heap) (alone : ∀ b, b ≠ a ∨ K.lookup a ≠ none → H b = none) : codeAny (model P w) callerA (.call (.ref fa) ⟨[.ref a], []⟩) (Well s₀) s₀ := by
  -- what lies in the part, and what is a dict, is hidden from nobody
  have kn : ∀ {b : Addr} {o : Obj}, K.lookup b = some o → H b = none := fun {b o} e => alone b (by
    by_cases z : b = a
    · exact .inr (by rw [← z, e]; exact nofun)
    · exact .inl z)
  have ns : ∀ {b : Addr} {m : Str → Option Value}, s₀.heap.Ns b m → (hidT s₀.heap H).Ns b m := by
    rintro b m ⟨o, es, ep, e, d, r⟩
    refine ⟨o, es, ep, hidT_get e (alone b (.inl ?_)), d, r⟩
    rintro rfl
    rw [ha] at e
    cases e
    cases d
  have KB : K.In (hidT s₀.heap H) := fun b o e => hidT_get (KX b o e) (kn e)
  have lim : (hidT s₀.heap H).NoLimit := hlim.elim fun mc z => ⟨mc, ns z.1, z.2⟩
  have env : Env0 P w K mg (hidT s₀.heap H) callerA [] s₀ H := ⟨rfl, ⟨KB, ns hns, ⟨mb, ns hb, hbb⟩, lim⟩, fun _ _ => of_hidT, Nat.le_of_eq (hidT_size _ _), trivial, nofun, hok, .of_eq hg⟩
  refine codeAny_mono ((F _ KB (ns hns)).go callerA [] s₀ H ⟨[.ref a], []⟩ [.ref a] [.ref a] _ _ rfl hr env (hbind s₀ (.ref a)) (.cons rfl .nil) hsp) ?_
  rintro (er | fl) s' told
  · exact (hCX er s' told).elim
  match fl, told with
  | .ret u, ⟨v, H', eo, gb, un, hok', rv, (ev : v = .bl true)⟩ =>
    subst ev
    obtain rfl : u = Value.bool true := rv
    refine ⟨rfl, OldK.of_keep fun b o e => ?_, eo, gb⟩
    match hO b with
    | .inl n => exact un.keep b o e n nofun nofun
    | .inr ⟨ob, xs, q⟩ =>
      obtain rfl : o = ob := Option.some.inj (e.symm.trans (hok b _ q).1)
      exact (hok' b _ (un.frzs b o _ q)).1
theorem law_g (KX : K.In s₀.heap) (hns : s₀.heap.Ns mainGlobals mg) (hb : s₀.heap.Ns builtinsNs mb) (hbb : ∀ y : Str, y ≠ "__name__" → mb y = bootBuiltins y) (hlim : s₀.heap.NoLimit) (hg : s₀.gens = #[]) (ha : s₀.heap.get? a = some { cls := .type "list", data := .seq vs.toArray })
    (hi : IntsAre vs ns) (hl : ns.length ≤ sizeLine) (hr : Room k callerA) (F : ∀ base : Heap, K.In base → base.Ns mainGlobals mg → FnG P w K mg base CX k fa fd [x] sp) (hbind : ∀ (s : Shared) (u : Value), BindsTo s fd ⟨[u], []⟩ [(x, u)])
    (hsp : ∀ H : Hp, Only H → SqL K H a (ns.map V.int) → sp [.ref a] H (fun v _ => v = .bl true) fun _ _ _ => False) (hCX : ∀ H e s', CX [] H s₀ (fun _ _ _ => False) e s' → False) : codeAny (model P w) callerA (.call (.ref fa) ⟨[.ref a], []⟩) (Well s₀) s₀ := by
  have rel := vals_ints hi
  cases inK : K.lookup a with
  | some o =>
    obtain rfl : o = { cls := .type "list", data := .seq vs.toArray } := Option.some.inj ((KX a o inK).symm.trans ha)
    have O : Only (fun _ => none) := fun _ => .inl rfl
    exact law_on (H := fun _ => none) KX hns hb hbb hlim hg ha hr F hbind (hsp _ O (.inr ⟨_, vs.toArray, _, inK, rfl, rfl, rfl, by rw [List.size_toArray, hi.length]; exact hl, by simpa using rel⟩)) (hCX _) O nofun fun _ _ => rfl
  | none =>
    have at_ : lone a vs ns a = some (.frz { cls := .type "list", data := .seq vs.toArray } (.lst (ns.map V.int))) := if_pos rfl
    have off : ∀ {b : Addr}, b ≠ a → lone a vs ns b = none := fun z => if_neg z
    have O : Only (lone a vs ns) := fun b => by
      by_cases z : b = a
      · rw [z]; exact .inr ⟨_, _, at_⟩
      · exact .inl (off z)
    refine law_on (H := lone a vs ns) KX hns hb hbb hlim hg ha hr F hbind (hsp _ O (.inl (.inr ⟨_, at_⟩))) (hCX _) O (fun b u z => ?_) fun b z => z.elim off fun y => (y inK).elim
    by_cases e : b = a
    · subst e
      obtain rfl := Option.some.inj (at_.symm.trans z)
      exact ⟨ha, Nat.le_trans (Nat.le_of_eq (List.length_map V.int)) hl, vs, _, rel, ha⟩
    · exact nomatch (off e).symm.trans z
end
theorem walk_g {l : PySem.W.OpenLaw} {n k : Nat} {q : Program} {loose : List Str} {XP : (Str → Option Value) → Heap → Prop} {YP : World → Heap → Prop} {d : DefRec} {CX : CXT} {x : Str} (hn : l.most = some n) (hn2 : n ≤ sizeLine) (hdf : d.params.defaults = []) (hr : Room k callerA)
    (F : ∀ (w : World) (mg : Str → Option Value) (fa : Addr) (h : Heap), YP w h → h.Ns mainGlobals mg → mg d.name = some (.ref fa) → ∃ (K : PySem.W.Frag) (fd : FuncData) (sp : Sp), K.In h ∧ (∀ (s : Shared) (u : Value), BindsTo s fd ⟨[u], []⟩ [(x, u)]) ∧
      (∀ (H : Hp) (a : Addr) (ns : List Int), ns.length ≤ n → Only H → SqL K H a (ns.map V.int) → sp [.ref a] H (fun v _ => v = .bl true) fun _ _ _ => False) ∧ ∀ base : Heap, K.In base → base.Ns mainGlobals mg → FnG l.prog w K mg base CX k fa fd [x] sp)
    (hCX : ∀ (H : Hp) (s : Shared) (e : Value) (s' : Shared), CX [] H s (fun _ _ _ => False) e s' → False) : PySem.W.WalkO q loose XP YP l.row.toRowW d [] (fun f vs => PySem.call f vs) :=
  Att.attach_call hn hdf fun w s₀ s₁ mg mb fa o pm cd doc a vs ns G Y ho hd hcd hmg hobj hints hlen hg => by
    have ⟨K, fd, sp, KX, hb, hsp, hF⟩ := F w mg fa s₁.heap Y G.T.g hmg
    exact law_g KX G.T.g G.T.b G.T.builtins G.T.nolimit hg hobj hints (Nat.le_trans hlen hn2) hr hF hb (fun H hO hS => hsp H a ns hlen hO hS) fun H e s' => hCX H s₁ e s'
end DL

/-! Rules under the names that the derivations use. -/
namespace DL
open PySem PySem.Spec
open PyProof.Rows L2
section
variable {X : Cx} {a b e : Expr} {es : List Expr} {ta tb te : TE} {p pos : Pos} {x : Str} {t : TA}
theorem cl_len : CallR X (.builtin "len") (rLen X.K) := call_len
theorem cl_tup : CallR X (.type "tuple") (rTupOf X.K) := call_tuple_of
theorem cl_lst : CallR X (.type "list") (rLstOf X.K) := call_list_of
theorem cl_abs : CallR X (.builtin "abs") rAbs := call_abs
theorem cl_int : CallR X (.type "int") rInt1 := call_int1
theorem or_op {g : Value → Value → Sem Value} {r r' : R2} (h : OpR X g r) (h' : OpR X g r') : OpR X g (fun x y H Q => r x y H Q ∨ r' x y H Q) := fun pins s σ H x y v u Q I rx ry z => by
  rcases z with z | z
  · exact h pins s σ H x y v u Q I rx ry z
  · exact h' pins s σ H x y v u Q I rx ry z
theorem op_plus : OpR X (binaryOp .Add) (rPlus X.K) := or_op op_add (or_op op_catA (or_op op_cat op_add_str))
theorem op_isNo : OpR X (compareOp .Is) rIsNo := op_isN
theorem op_notNo : OpR X (compareOp .IsNot) rNotNo := op_notN
theorem xGI {i : Int} (h : ∃ t, X.mg x = some (.int i t)) (hg : Gl X x := by rfl) (hd : (x == ("__debug__" : Str)) = false := by decide) : PE X (.Name x pos) (tC (.int i)) := by
  obtain ⟨t, h⟩ := h
  exact pe_glob hg h ⟨t, rfl⟩ hd
theorem xIx (ha : PE X a ta) (hb : PE X b tb) (hs : PlainIx b := by exact fun _ _ => rfl) : PE X (.Subscript a b pos) (tOp (rIx X.K) ta tb) := pe_ix ix_seq ha hb hs
theorem xTruth (ha : PE X a ta) (he : ∀ whole, isTrue a X.env whole = (do let v ← whole; standAt a.pos; holding [v] (truthy v)) := by intro _; rfl) : PT X a (tTruth X.K ta) := pt_truth ha he
theorem xB (r : List V → Hp → VK → Prop) {id : String} (hc : CallR X (.builtin id) r) (hm : X.mg x = none) (ha : PA X (e :: es) t) (hg : Gl X x := by rfl) (hv : bootBuiltins x = some (.builtin id) := by decide +kernel) (hn : x ≠ "__name__" := by decide) (hdb : (x == ("__debug__" : Str)) = false := by decide) (he : starEach (e :: es) X.env = (false, eval e X.env) :: starEach es X.env := by rfl) (hpl : (backTo pos (starEach es X.env)).any (·.1) = false := by rfl) : PE X (.Call (.Name x p) (e :: es) [] pos) (tCB r t) := pe_callB hc hg hm hv ha hn hdb he hpl
theorem xT (r : List V → Hp → VK → Prop) {T : String} (hc : CallR X (.type T) r) (hm : X.mg x = none) (ha : PA X (e :: es) t) (hg : Gl X x := by rfl) (hv : bootBuiltins x = some (.type T) := by decide +kernel) (hn : x ≠ "__name__" := by decide) (hdb : (x == ("__debug__" : Str)) = false := by decide) (he : starEach (e :: es) X.env = (false, eval e X.env) :: starEach es X.env := by rfl) (hpl : (backTo pos (starEach es X.env)).any (·.1) = false := by rfl) : PE X (.Call (.Name x p) (e :: es) [] pos) (tCB r t) := pe_callTy hc hg hm hv ha hn hdb he hpl
end
/-- a def of the text, as its callers know it -/
structure Ca (P : Program) (w : World) (K : PySem.W.Frag) (mg : Str → Option Value) (base : Heap) (CX : CXT) (k : Nat) (x : Str) (ps : List Str) (sp : Sp) : Prop where
  has : ∃ f fd, FnOk P w K mg base CX k f fd ps sp ∧ mg x = some (.ref f) ∧ PySem.W.keepIn K (.ref f) = true ∧ Binds K fd ps []
structure CaG (P : Program) (w : World) (K : PySem.W.Frag) (mg : Str → Option Value) (base : Heap) (CX : CXT) (k : Nat) (x : Str) (ps : List Str) (sp : Sp) : Prop where
  has : ∃ f fd, FnG P w K mg base CX k f fd ps sp ∧ mg x = some (.ref f) ∧ PySem.W.keepIn K (.ref f) = true ∧ Binds K fd ps []
section
variable {X : Cx} {CX : CXT} {k : Nat} {ps : List Str} {sp : Sp} {E : XK} {e : Expr} {es : List Expr} {p pos : Pos} {x : Str} {t : TA}
theorem xCall (C : Ca X.prog X.w X.K X.mg X.base CX k x ps sp) (hr : Room k X.A) (hx : Passes CX X E) (ha : PA X (e :: es) t) (hg : Gl X x := by rfl) (hdb : (x == ("__debug__" : Str)) = false := by decide) (he : starEach (e :: es) X.env = (false, eval e X.env) :: starEach es X.env := by rfl) (hpl : (backTo pos (starEach es X.env)).any (·.1) = false := by rfl) : PE X (.Call (.Name x p) (e :: es) [] pos) (tCall sp [] E t) := by
  obtain ⟨f, fd, F, hm, hk, hb⟩ := C.has
  exact pe_call F hr hg hm hk hb .nil hx ha hdb he hpl
theorem xCallG (C : CaG X.prog X.w X.K X.mg X.base CX k x ps sp) (hA : X.A.guards = some []) (hr : Room k X.A) (hx : Passes CX X E) (ha : PA X (e :: es) t) (hg : Gl X x := by rfl) (hdb : (x == ("__debug__" : Str)) = false := by decide) (he : starEach (e :: es) X.env = (false, eval e X.env) :: starEach es X.env := by rfl) (hpl : (backTo pos (starEach es X.env)).any (·.1) = false := by rfl) : PE X (.Call (.Name x p) (e :: es) [] pos) (tCall sp [] E t) := by
  obtain ⟨f, fd, F, hm, hk, hb⟩ := C.has
  exact pe_callG F hA hr hg hm hk hb .nil hx ha hdb he hpl
end
end DL

/-! New instances of an own class over built-in ones of which the nearest with a __new__ is B. -/
namespace DL
open PySem PySem.Spec PySem.Calls
/-- what such a class's mro tells of the built-in ones -/
structure Over (bm : List Value) (B : String) : Prop where
  isB : bm.contains (.type B) = true
  notA : bm.contains (.type "AttributeError") = false
  notN : bm.contains (.type "NameError") = false
section
variable {prog : Program} {w : World} {A : Around} {E : Value → Shared → Prop} {R : Result → Shared → Prop} {h : Heap} {g : Array GenState} {d : Drawn} {t : Nat} {os : OsState}
variable {nm q : Str} {C N : Addr} {bs bm tl : List Value} {hd : Bool} {sn : List Str} {sub : List Value} {ab : Bool} {col : Option Bool} {dd : Option Addr} {k0 k1 k2 k3 k5 : Option Value} {B nw ini : String} {us : List Value}
theorem over_has (o : Over bm B) : (Value.ref C :: bm).contains (.type B) = true ∧ (Value.ref C :: bm).contains (.type "AttributeError") = false ∧ (Value.ref C :: bm).contains (.type "NameError") = false := by
  refine ⟨?_, ?_, ?_⟩
  · rw [List.contains_cons, o.isB]; simp
  · rw [List.contains_cons, o.notA]; rfl
  · rw [List.contains_cons, o.notN]; rfl
theorem over_new (F : ExcBaseFacts B nw ini tl) (o : Over bm B) (hC : h.get? C = some (excClassObj nm q C N bs bm hd sn sub ab col dd k0 k1 k2 k3 k5 nw)) (few : us.length ≤ sizeLine)
    (k : R (.ok (.ret (.ref (h.objs.size + 1)))) ⟨(h.push (PySem.W.kdv_tup us)).push (HandSPX.excO C h.objs.size), g, d, t, os⟩) : codeAny (model prog w) A (.builtin nw ⟨.ref C :: us, []⟩) R ⟨h, g, d, t, os⟩ := by
  obtain ⟨c1, c2, c3⟩ := over_has (C := C) o
  have c0 := F.canon
  have e0 := F.ends
  refine codeAny_builtinAt F.entry ?_
  unfold Builtin.«BaseException.__new__»
  refine wpAt_bind ?_
  change wpAt _ _ _ (stack >>= _) _ _ _
  refine wpAt_bind (wpAt_stack fun p below => wpAt_of_wpAny ?_)
  wp_walk
  refine wpAt_of_wpAny ?_
  rw [F.owner]
  repeat (first | with_reducible refine wpAny_madeHere_exc c0 hC ?_ | with_reducible refine wpAny_loadPart_at hC ?_ | (with_reducible refine wpAny_isSubtype_exc hC ?_; first | rw [c1] | rw [c2] | rw [c3]) | wp_step)
  change R _ _
  rw [Heap.size_push]
  exact k
theorem over_type (F : ExcBaseFacts B nw ini tl) (o : Over bm B) (hC : h.get? C = some (excClassObj nm q C N bs bm hd sn sub ab col dd k0 k1 k2 k3 k5 nw)) {fI : Addr} {Q : Fin → Shared → Prop}
    (hi : PySem.W.Looks (model prog w) h (typeLookup (.ref C) "__init__") (some (.ref fI))) (hb : ∀ self, PySem.W.Looks (model prog w) h (bindSpecial (.ref fI) self) (.ref fI, [self])) (few : us.length ≤ sizeLine)
    (k : codeAny (model prog w) A (.call (.ref fI) ⟨.ref (h.objs.size + 1) :: us, []⟩)
      (fun r s' => match r with | .ok (.ret v) => v = .none ∧ Q (.done (.ret (.ref (h.objs.size + 1)))) s' | .ok _ => False | .error e => E e s') ⟨(h.push (PySem.W.kdv_tup us)).push (HandSPX.excO C h.objs.size), g, d, t, os⟩) :
    wpAny (model prog w) A (Builtin.«type.__call__» ⟨.ref C :: us, []⟩) Q E ⟨h, g, d, t, os⟩ := by
  obtain ⟨c1, c2, c3⟩ := over_has (C := C) o
  have on : ∀ b x, h.get? b = some x → ((h.push (PySem.W.kdv_tup us)).push (HandSPX.excO C h.objs.size)).get? b = some x := fun b x e => Heap.get?_push_of_some _ (Heap.get?_push_of_some _ e)
  have new : ((h.push (PySem.W.kdv_tup us)).push (HandSPX.excO C h.objs.size)).get? (h.objs.size + 1) = some (HandSPX.excO C h.objs.size) := by heap_get
  have self_ : (Value.ref C :: bm).contains (.ref C) = true := by simp
  have hC1 := on _ _ hC
  have hi1 := hi.keeps on
  have hb1 := (hb (.ref (h.objs.size + 1))).keeps on
  repeat (first | with_reducible refine wpAny_loadPart_at hC ?_ | with_reducible refine wpAny_madeBy_exc hC ?_ | wp_step)
  refine codeAny_call_builtin_code (Code.quiet_builtin _ F.quiet) ?_
  have st := F.noStar
  simp only [checkBuiltinCall, F.newKind, F.newSplit, F.newRow]
  repeat (first | refine wpAny_loadPart_at hC ?_ | (refine wpAny_isSubtype_exc hC ?_; rw [c1]) | refine wpAny_staticBase_exc hC ?_ | refine wpAny_madeBy_exc hC ?_ | simp only [bne_self_eq_false, Bool.false_eq_true, if_false] | wp_step)
  refine over_new F o hC few ?_
  change wpAny _ _ _ _ _ _
  unfold isInstance
  repeat (first | with_reducible refine wpAny_loadPart_at new ?_ | (with_reducible refine wpAny_isSubtype_exc hC1 ?_; rw [self_]) | wp_step)
  change wpAny _ _ (typeLookup (.ref C) _) _ _ _
  refine hi1.at (wpAny_holding (wpAny_bind (hb1.at (wpAny_bind (wpAny_call (codeAny_mono k fun r s' z => ?_))))))
  match r, z with
  | .error e, z => exact z
  | .ok (.ret v), z =>
    obtain ⟨ev, z⟩ := z
    subst ev
    first
      | exact wpAny_pure (wpAny_pure z)
      | (wp_walk; exact z)
  | .ok .next, z => exact z.elim
  | .ok .brk, z => exact z.elim
  | .ok .cont, z => exact z.elim
/-- C(..) of such a class, C's own __init__ at fI -/
theorem over_call (F : ExcBaseFacts B nw ini tl) (o : Over bm B) (hC : h.get? C = some (excClassObj nm q C N bs bm hd sn sub ab col dd k0 k1 k2 k3 k5 nw)) {fI : Addr}
    (hi : PySem.W.Looks (model prog w) h (typeLookup (.ref C) "__init__") (some (.ref fI))) (hb : ∀ self, PySem.W.Looks (model prog w) h (bindSpecial (.ref fI) self) (.ref fI, [self])) (few : us.length ≤ sizeLine)
    (k : codeAny (model prog w) (A.under (.builtin "type.__call__" ⟨.ref C :: us, []⟩)) (.call (.ref fI) ⟨.ref (h.objs.size + 1) :: us, []⟩) (PySem.W.InitBack (h.objs.size + 1) R) ⟨(h.push (PySem.W.kdv_tup us)).push (HandSPX.excO C h.objs.size), g, d, t, os⟩) :
    codeAny (model prog w) A (.call (.ref C) ⟨us, []⟩) R ⟨h, g, d, t, os⟩ := by
  have f1 := tc_lookup
  have f2 := tc_bind (.ref C)
  have ty : (⟨h, g, d, t, os⟩ : Shared).TypeIs (.ref C) "type" := ⟨_, hC, rfl⟩
  refine codeAny_of_tree ?_
  change wpAny _ _ (callAny (.ref C) _) _ _ _
  repeat (any_goals (first | assumption | with_reducible refine wpAny_loadPart_at hC ?_ | wp_step))
  refine ⟨rfl, codeAny_call_builtin_at (Code.quiet_builtin _ (by decide +kernel)) entry_typeCall (wpAny_check_type_call_sub hC (over_type F o hC hi hb few (codeAny_mono k fun r s' z => ?_)))⟩
  match r, z with
  | .error e, z => exact z
  | .ok (.ret v), z => exact z
  | .ok .next, z => exact z
  | .ok .brk, z => exact z
  | .ok .cont, z => exact z
end
end DL

/-! Error classes of the program, over own ones, over a built-in one (its mro: tl), each with an __init__ that keeps one thing. -/
namespace DL
open PySem PySem.Spec
open PyProof.Rows L2
/-- own classes, at most KeyError, then tl -/
def endsIn (tl : List Value) : List Value → Bool
  | .ref _ :: r => endsIn tl r
  | l => decide (l = tl) || decide (l = .type "KeyError" :: tl)
theorem endsIn_cases {tl : List Value} : ∀ l : List Value, endsIn tl l = true → (l = tl ∨ l = .type "KeyError" :: tl) ∨ ∃ c r, l = .ref c :: r ∧ endsIn tl r = true := fun l e => by
  unfold endsIn at e
  split at e
  · exact .inr ⟨_, _, rfl, e⟩
  · rcases Bool.or_eq_true_iff.mp e with e | e
    · exact .inl (.inl (of_decide_eq_true e))
    · exact .inl (.inr (of_decide_eq_true e))
theorem endsIn_has {tl : List Value} (T : String) (hT : T ≠ "KeyError") (l : List Value) : endsIn tl l = true → l.contains (.type T) = tl.contains (.type T) := by
  have key : (Value.type "KeyError" :: tl).contains (.type T) = tl.contains (.type T) := by
    rw [List.contains_cons]
    have : ((Value.type T) == Value.type "KeyError") = false := beq_eq_false_iff_ne.mpr fun e => hT (Value.type.inj e)
    rw [this, Bool.false_or]
  induction l with
  | nil =>
    intro e
    rcases endsIn_cases _ e with (e | e) | ⟨_, _, e, _⟩
    · rw [e]
    · cases e
    · cases e
  | cons x l ih =>
    intro e
    rcases endsIn_cases _ e with (e | e) | ⟨c, r, e1, e2⟩
    · rw [e]
    · rw [e]; exact key
    · obtain ⟨q1, q2⟩ := List.cons.inj e1
      rw [q1, List.contains_cons, ih (by rw [q2]; exact e2)]
      rfl
/-- an attribute of that name may be stored: nothing built in among tl refuses -/
abbrev Passes2 (tl : List Value) : Prop := ∀ self : Value, refuseLoop self "__setattr__" tl = pure () ∧ refuseLoop self "__setattr__" (.type "KeyError" :: tl) = pure ()
theorem endsIn_pass {tl : List Value} (self : Value) (h : Passes2 tl) (l : List Value) : endsIn tl l = true → refuseLoop self "__setattr__" l = pure () := by
  induction l with
  | nil =>
    intro e
    rcases endsIn_cases _ e with (e | e) | ⟨_, _, e, _⟩
    · rw [e]; exact (h self).1
    · cases e
    · cases e
  | cons x l ih =>
    intro e
    rcases endsIn_cases _ e with (e | e) | ⟨c, r, e1, e2⟩
    · rw [e]; exact (h self).1
    · rw [e]; exact (h self).2
    · obtain ⟨q1, q2⟩ := List.cons.inj e1
      rw [q1, refuseLoop_ref]
      exact ih (by rw [q2]; exact e2)
/-- what is written of such a class: nw its __new__ -/
structure OwnE (K : PySem.W.Frag) (C : Addr) (tl : List Value) (nw : String) : Prop where
  cls : ∃ nm q N bs bm sn sub ab col dd k0 k1 k2 k3 k5, K.lookup C = some (excClassObj nm q C N bs bm true sn sub ab col dd k0 k1 k2 k3 k5 nw) ∧ endsIn tl bm = true
  puts : PySem.W.findIn K (.ref C) "__setattr__" = some (some (.builtin "object.__setattr__"))
  sub : PySem.W.subIn K (.ref C) (.type "BaseException") = some true
  typ : PySem.W.typeIn K (.ref C) = some (.type "type")
  keep : PySem.W.keepIn K (.ref C) = true
/-- what a class tells whose new instances take an attribute of a name into a dict of their own -/
structure TakesIn (K : PySem.W.Frag) (C : Addr) (cl : ClassData) (nm : Str) : Prop where
  is : PySem.W.clsIn K C = some cl
  row : cl.mro.isEmpty = false
  root : cl.mro.contains (.type "object") = true
  pass : ∀ self, refuseLoop self "__setattr__" cl.mro = pure ()
  dct : cl.hasDict = true
  lacks : PySem.W.findIn K (.ref C) nm = some none
section
open PySem.W PySem.Calls HandSPX
open Builtin.ObjectAttr Builtin
variable {P : Program} {w : World} {A : Around} {R : Result → Shared → Prop} {h₀ : Heap} {gs : Array GenState} {dr : Drawn} {n : Nat} {os : OsState} {K : W.Frag} {nm : Str} {tk : Tok} {v : Value} {e C : Addr} {parts : Array Value} {cl : ClassData}
/-- e.nm = v, e an exception that has no dict yet -/
theorem exc_put (c : TakesIn K C cl nm) (X : K.In h₀) (he : h₀.get? e = some { cls := .ref C, data := .fields parts })
    (after : ∀ h' t' dx, (∀ b o, b ≠ e → h₀.get? b = some o → h'.get? b = some o) → h₀.objs.size ≤ dx → dx ≠ e → h'.get? e = some { cls := .ref C, dict := some dx, data := .fields parts } → h'.Ns1 dx (fun y => if y = nm then some v else none) → R (.ok (.ret .none)) ⟨h', gs, dr, t', os⟩) :
    codeAny (model P w) A (.call (.builtin "object.__setattr__") ⟨[.ref e, .str nm tk, v], []⟩) R ⟨h₀, gs, dr, n, os⟩ := by
  obtain ⟨is, row, root, pass, dct, lacks⟩ := c
  have inst : W.InstAt h₀ e { cls := .ref C, data := .fields parts } C none := ⟨he, rfl, rfl, trivial⟩
  have old : e < h₀.objs.size := Heap.lt_size he
  have slot := F.store_object
  refine codeAny_call_builtin slot.slot.plain slot.entry (@W.check_slot (model P w) _ _ ⟨h₀, gs, dr, n, os⟩ "object.__setattr__" "object" "__setattr__" (.ref e) [.str nm tk, v] [] _ slot.kind slot.split (inst.type.andThen (W.looks_mroIn X ?_)) (slot.args (.ref e) (.str nm tk) v) ?_)
  · unfold W.mroIn
    rw [is, Option.bind_some, row, root]
    rfl
  have cls : W.Looks (model P w) h₀ (classData C) cl := W.looks_clsIn X is
  rw [W.osa_eq, refuse_eq]
  refine wpAny_bind (wpAny_bind (inst.type.at (wpAny_bind ((cls.andThen .now : W.Looks (model P w) h₀ (mroOf (.ref C)) cl.mro).at ?_))))
  rw [pass]
  refine wpAny_pure (wpAny_bind (inst.type.at (wpAny_bind ((W.looks_findIn X lacks).at (wpAny_bind ((W.Looks.now : W.Looks (model P w) h₀ (storeTaker? none) none).at ?_))))))
  change wpAny (model P w) _ (storeInOwnDict (.ref e) (.ref C) (.str nm tk) nm v false) _ _ _
  cases cl
  dsimp only at dct
  subst dct
  unfold storeInOwnDict
  unfold ownDictForStores
  repeat (first | with_reducible refine store_in_new ?_ ?_ | with_reducible refine wpAny_loadPart_at he ?_ | with_reducible refine cls.at ?_ | wp_step)
  · exact ⟨_, #[], _, (Heap.get?_update_ne _ _ _ _ (Nat.ne_of_gt old)).trans (Heap.get?_push_at rfl rfl), rfl, fun x hx => absurd hx (by simp), fun _ => rfl⟩
  · intro h' t' told stay
    refine after h' t' h₀.objs.size (fun b o hb ho => (stay.2 b (Nat.ne_of_lt (Heap.lt_size ho))).trans ?_) (Nat.le_refl _) (Nat.ne_of_gt old) ((stay.2 e (Nat.ne_of_lt old)).trans (Heap.get?_update_self _ (Heap.get?_push_of_some _ he) rfl)) told
    exact (Heap.get?_update_ne _ _ _ _ hb).trans (Heap.get?_push_of_some _ ho)
end
section
variable {X : Cx} {pins : List (Addr × Obj)} {σ : L2.St} {H : Hp} {s : Shared} {a C dx : Addr} {f : Str} {y : V} {u : Value} {Q : Unit → Shared → Prop} {E : Value → Shared → Prop} {A : Around} {tl : List Value} {nw : String}
/-- the heap behind it -/
def putH (H : Hp) (a C dx : Addr) (f : Str) (y : V) : Hp := upd (upd H dx (exd dx [(f, y)])) a (exo a C (some dx))
theorem exc_st (T : OwnE X.K C tl nw) (pass : Passes2 tl) (root : tl.contains (.type "object") = true) (I : Inv X pins σ H s) (ea : H a = some (exo a C none)) (lacks : PySem.W.findIn X.K (.ref C) f = some none) (ry : RelV y u)
    (after : ∀ dx s', H dx = none → dx ≠ a → Inv X pins σ (putH H a C dx f y) s' → Q () s') : wpAny (model X.prog X.w) A (setAttr (.ref a) f u) Q E s := by
  obtain ⟨c1, c2, c3, c4, tail, c5, c6, c7, c8, c9, x0, x1, x2, x3, x5, there, ends⟩ := T.cls
  have takes : TakesIn X.K C { name := c1, bases := c4, mro := .ref C :: tail, ns := c3, qualname := c2, hasDict := true, slotNames := c5, subclasses := c6, abstract := c7, collection := c8, hasDel := false } f := by
    refine ⟨by unfold PySem.W.clsIn; rw [there], rfl, ?_, fun self => ?_, rfl, lacks⟩
    · show List.contains (.ref C :: tail) _ = true
      rw [List.contains_cons, endsIn_has "object" (by decide) tail ends, root]
      rfl
    · show refuseLoop self _ (.ref C :: tail) = _
      rw [refuseLoop_ref]
      exact endsIn_pass self pass tail ends
  obtain ⟨tb, held⟩ := exo_at I.hok ea
  obtain ⟨h₀, gs, dr, n, os⟩ := s
  refine PySem.W.set_plain I.kIn (ox := { cls := .ref C, dict := none, data := .fields #[.ref tb, .none, .none, .none, .bool false, .none] }) (od := none) ⟨held, rfl, rfl, trivial⟩ T.puts (exc_put takes I.kIn held fun h' t' dx stay new apart now names => ?_)
  -- dx is new, a was there: all else stays
  have fresh : H dx = none := I.hok.fresh new
  have low : ∀ {b : Addr} {o : Obj}, h₀.get? b = some o → b ≠ dx := fun q => Nat.ne_of_lt (Nat.lt_of_lt_of_le (Heap.lt_size q) new)
  have other : ∀ {b : Addr}, H b = none → b ≠ a := fun n z => by rw [z, ea] at n; cases n
  have same : ∀ {b : Addr} {o : HO}, b ≠ a → b ≠ dx → H b = some o → putH H a C dx f y b = some o := fun za zd q => (upd_ne za).trans ((upd_ne zd).trans q)
  have kept : ∀ {b : Addr} {o : HO}, b ≠ a → H b = some o → putH H a C dx f y b = some o := fun za q => same za (ne_of_none q fresh) q
  refine after dx _ fresh apart (I.un (t' := t') ?_ fun b o q => ?_)
  · exact
      { keep := fun b o q n _ _ => stay b o (other n) q
        slot := fun b o q n _ _ => ⟨o.slots, stay b o (other n) q⟩
        free := fun b o q n _ => (upd_ne (other n)).trans ((upd_ne (low q)).trans n)
        there := fun b o q _ => by
          by_cases z : b = a
          · exact ⟨_, by rw [z]; exact now⟩
          · exact ⟨o, stay b o z q⟩
        tups := fun b xs q => kept (at_ne ea q exo_tup) q
        frzs := fun b o v q => kept (at_ne ea q exo_frz) q
        tbls := fun b ps q => ⟨#[], by rw [kept (at_ne ea q exo_tbl) q]; simp⟩ }
  · by_cases za : b = a
    · subst za
      obtain rfl := Option.some.inj (upd_same.symm.trans q)
      exact exo_ok now
    · by_cases zd : b = dx
      · subst zd
        obtain rfl := Option.some.inj (upd_same.symm.trans ((upd_ne za).symm.trans q))
        exact exd_ok names (relO_put (fs := []) ry fun _ => trivial)
      · have was : H b = some o := (upd_ne zd).symm.trans ((upd_ne za).symm.trans q)
        exact (I.hok b o was).stay (fun b' v' hb' z' => stay b' v' (hb'.elim (fun z => by rw [z]; exact za) fun z => at_ne ea z exo_own) z') (fun b' z' => kept (at_ne ea z' exo_own) z') fun b' xs z' => kept (at_ne ea z' exo_tup) z'
end
/-- self.f = y within such an __init__ -/
def tPut (K : PySem.W.Frag) (tl : List Value) (nw : String) (f : Str) (to te : TE) : TS := fun D σ H => te σ H fun y H1 => to σ H1 fun x H2 => ∃ a C : Addr, x = .ref a ∧ OwnE K C tl nw ∧ PySem.W.findIn K (.ref C) f = some none ∧ H2 a = some (exo a C none) ∧
  ∀ dx, H2 dx = none → dx ≠ a → D.nx σ (upd (upd H2 dx (exd dx [(f, y)])) a (exo a C (some dx)))
section
variable {X : Cx} {o e : Expr} {es : List Expr} {to te : TE} {ta : TA} {f : Str} {p p' pos : Pos} {tl : List Value} {nw : String}
theorem ps_put (hp : Passes2 tl) (ho : tl.contains (.type "object") = true) (hO : PE X o to) (he : PE X e te) (hs : swapsWith e (some (.Attribute o f p')) pos.line X.env = pure false := by rfl) :
    PS X (.Assign [.Attribute o f p'] e pos) (tPut X.K tl nw f to te) := ⟨fun pins s σ H D I h =>
  plainObj_wpAny_Assign_Attribute (thn (he.run pins s σ H _ I h) fun v s1 ⟨y, H1, I1, r1, q1⟩ => thn (hO.run pins s1 σ H1 _ I1 q1) fun u s2 ⟨x, H2, I2, r2, a, C, ex, T, hno, ea, q⟩ => by
    subst ex
    cases (show u = Value.ref a from r2)
    exact exc_st T hp ho I2 ea hno r1 fun dx s' n ne J => ⟨σ, _, J, q dx n ne⟩) hs⟩
/-- C(e), C's own __init__ as it is promised -/
theorem pmk_e {B initId : String} {CX : CXT} {x : Str} {C fI : Addr} {k : Nat} {fd : FuncData} {ps : List Str} {sp : Sp} {ds : List Value} {dvs : List V} (FB : ExcBaseFacts B nw initId tl) (nB : B ≠ "KeyError") (T : OwnE X.K C tl nw) (iC : PySem.W.findIn X.K (.ref C) "__init__" = some (some (.ref fI)))
    (tI : PySem.W.typeIn X.K (.ref fI) = some (.type "function")) (F1 : FnOk X.prog X.w X.K X.mg X.base CX k fI fd ps sp) (hr : Room (k + 1) X.A) (hb : Binds X.K fd ps ds) (hd : Vals dvs ds) (hx : Passes CX X (fun _ _ _ => False)) (hm : X.mg x = some (.ref C)) (ha : PA X (e :: es) ta) (hg : Gl X x := by rfl)
    (hdb : (x == ("__debug__" : Str)) = false := by decide) (he : starEach (e :: es) X.env = (false, eval e X.env) :: starEach es X.env := by rfl) (hpl : (backTo pos (starEach es X.env)).any (·.1) = false := by rfl) : PMk X (.Call (.Name x p) (e :: es) [] pos) (tMkO C sp dvs ta) := by
  intro pins s σ H Q I h
  obtain ⟨c1, c2, c3, c4, tail, c5, c6, c7, c8, c9, x0, x1, x2, x3, x5, there, ends⟩ := T.cls
  refine wpAny_Call_Name_kw (ld_glob I hg hm (PySem.W.callWith_K (h₀ := X.base) I.ok.mod.kin T.keep (thn (ha.run pos pins s σ H _ I h) fun us sh ⟨vs, G, J, rv, few, told⟩ => ⟨J.kIn, ?_⟩) he hpl) hdb)
  change wpAny _ _ (call (.ref C) us) _ _ _
  obtain ⟨h₀, gs, dr, n, os⟩ := sh
  -- its arguments' tuple at n0, the object itself behind it
  let n0 := h₀.objs.size
  have up : n0 ≤ n0 + 1 := Nat.le_succ _
  have told := told (n0 + 1) (J.hok.fresh up)
  have stay : ∀ b o, h₀.get? b = some o → ((h₀.push (PySem.W.kdv_tup us)).push (HandSPX.excO C h₀.objs.size)).get? b = some o := fun b o z => Heap.get?_push_of_some _ (Heap.get?_push_of_some _ z)
  have made : ((h₀.push (PySem.W.kdv_tup us)).push (HandSPX.excO C h₀.objs.size)).get? (h₀.objs.size + 1) = some (HandSPX.excO C h₀.objs.size) := by heap_get
  have J1 := J.laid (t' := n) (a := n0 + 1) (o := exo (n0 + 1) C none) stay up (exo_ok made)
  have all : Vals (V.ref (n0 + 1) :: (vs ++ dvs)) (Value.ref (n0 + 1) :: (us ++ ds)) := .cons rfl (rv.append hd)
  have many : (Value.ref (n0 + 1) :: us ++ ds).length = ps.length := all.length.symm.trans (F1.len _ _ _ _ told)
  have short : us.length ≤ sizeLine := by rw [← Paired.length rv, sizeLine_eq]; omega
  refine wpAny_call (over_call FB ⟨(endsIn_has B nB tail ends).trans FB.hasB, (endsIn_has _ (by decide) tail ends).trans FB.noAttr, (endsIn_has _ (by decide) tail ends).trans FB.noName⟩ (J.kIn _ _ there) (PySem.W.looks_findIn J.kIn iC) (fun self => PySem.W.bind_fn J.kIn self tI) short (codeAny_mono (F1.run _ X.stack _ _ ⟨Value.ref (n0 + 1) :: us, []⟩ _ _ _ (fun _ _ _ => False) (hr.make C us []) (J1.env0.make C us []) (hb _ (Value.ref (n0 + 1) :: us) J1.kIn many) all told) ?_))
  rintro (er | fl) s' out
  · exact hx pins σ _ _ er s' J1 out
  match fl, s', out with
  | .ret u, ⟨h2, g2, d2, t2, o2⟩, ⟨v, H2, eo, gb, un, hok, rel, ev, d, fs, ea, ed, fd1, last⟩ =>
    rw [ev] at rel
    exact ⟨rel, mk_end (raises_own T.sub T.typ) J up stay un hok eo gb ea ed fd1 last⟩
end
end DL

/-! raise and try, as data. -/
namespace DL
open PySem PySem.Spec
open PyProof.Rows L2
theorem PS.imp {X : Cx} {st : Stmt} {t t' : TS} (h : PS X st t) (k : ∀ D σ H, t' D σ H → t D σ H) : PS X st t' := ⟨fun pins s σ H D I q => h.run pins s σ H D I (k D σ H q)⟩
/-- the __init__ of such a class -/
def spIni (K : PySem.W.Frag) (C : Addr) (f : Str) : Sp := fun vs H Q _ => ∃ a v, vs = [.ref a, v] ∧ PySem.W.findIn K (.ref C) f = some none ∧ H a = some (exo a C none) ∧ ∀ dx, H dx = none → dx ≠ a → Q .non (upd (upd H dx (exd dx [(f, v)])) a (exo a C (some dx)))
theorem ini_read {K : PySem.W.Frag} {C : Addr} {f : Str} {tl : List Value} {nw : String} {vs : List V} {H : Hp} {Q : VK} {E : XK} (T : OwnE K C tl nw) (h : spIni K C f vs H Q E) : tPut K tl nw f (tVar 0) (tVar 1) { nx := fun _ H' => Q .non H', rt := Q } (vs.map some) H := by
  obtain ⟨a, v, rfl, hno, e, q⟩ := h
  exact ⟨v, rfl, .ref a, rfl, a, C, rfl, T, hno, e, q⟩
/-- all that is known of an error class with one thing kept -/
structure Er (P : Program) (w : World) (K : PySem.W.Frag) (mg : Str → Option Value) (base : Heap) (x : Str) (C : Addr) (f : Str) : Prop where
  own : ∃ (tl : List Value) (nw B initId : String) (fI : Addr) (fd : FuncData) (ps : List Str), ExcBaseFacts B nw initId tl ∧ B ≠ "KeyError" ∧ OwnE K C tl nw ∧ PySem.W.findIn K (.ref C) "__init__" = some (some (.ref fI)) ∧ PySem.W.typeIn K (.ref fI) = some (.type "function") ∧ FnOk P w K mg base CX0 1 fI fd ps (spIni K C f) ∧ Binds K fd ps []
  at_ : mg x = some (.ref C)
  xf : XfC K C
  no : PySem.W.findIn K (.ref C) f = some none
/-- raise C(e) -/
def tRz (K : PySem.W.Frag) (C : Addr) (f : Str) (te : TE) (W : WX) : TS := fun _ σ H => tMkO C (spIni K C f) [] (tCons te tNil) σ H fun cls d H' => W cls d σ H'
theorem xRaise {X : Cx} {W : WX} {x : Str} {C : Addr} {f : Str} {e : Expr} {te : TE} {p pos pos' : Pos} (R : Er X.prog X.w X.K X.mg X.base x C f) (hc : X.calm = true) (tk : Takes X W) (hr : Room 2 X.A) (he : PE X e te) (hg : Gl X x := by rfl)
    (hdb : (x == ("__debug__" : Str)) = false := by decide) (hs : starEach [e] X.env = (false, eval e X.env) :: starEach [] X.env := by rfl) (hs2 : (backTo pos (starEach [] X.env)).any (·.1) = false := by rfl) : PS X (.Raise (some (.Call (.Name x p) [e] [] pos)) none pos') (tRz X.K C f te W) := by
  obtain ⟨tl, nw, B, initId, fI, fd, ps, FB, nB, T, iC, tI, F1, hb⟩ := R.own
  exact ps_raise hc tk (pmk_e (pos := pos) (p := p) FB nB T iC tI F1 hr hb .nil pass0 R.at_ (pa_cons he pa_nil hs) hg hdb hs hs2)
theorem s_raise {K : PySem.W.Frag} {M : Md} {C : Addr} {f : Str} {te : TE} {W : WX} {D : Ends} {σ : L2.St} {J H : Hp} {P : PyData → Prop} (hno : PySem.W.findIn K (.ref C) f = some none) (w : Wf M J H) (h : EvP K M te σ J H P)
    (q : ∀ v d J1 H1 dx, Wf M J1 H1 → Tr M J H J1 H1 → P d → Da K J1 v d → H1 dx = none → Wf M J1 (upd H1 dx (.xd [(f, v)])) → Tr M J H J1 (upd H1 dx (.xd [(f, v)])) → W (.ref C) (some dx) σ (upd H1 dx (.xd [(f, v)]))) : tRz K C f te W D σ H := by
  refine h J H w w.tr _ fun v d J1 H1 w1 t1 pd a => ⟨by show 1 ≤ 1000; decide, fun e he => ⟨e, v, rfl, hno, upd_same, fun dx hx ne => ⟨rfl, dx, [(f, v)], upd_same, ?_, ?_, ?_⟩⟩⟩
  · rw [upd_ne ne, upd_same]
  · rw [upd_ne ne] at hx; exact hx
  · rw [upd_ne ne] at hx
    have e1 : upd (del (upd (upd (upd H1 e (exo e C none)) dx (exd dx [(f, v)])) e (exo e C (some dx))) e) dx (.xd [(f, v)]) = upd H1 dx (.xd [(f, v)]) := by
      funext b
      by_cases hb : b = dx
      · rw [hb, upd_same, upd_same]
      · rw [upd_ne hb, upd_ne hb]
        by_cases hc : b = e
        · rw [hc, del_same, he]
        · rw [del_ne hc, upd_ne hc, upd_ne hb, upd_ne hc]
    rw [e1]
    have t2 := w1.cell (o := .xd [(f, v)]) hx
    exact q v d J1 H1 dx w1 t1 pd a hx (t2.wf w1) (t1.trans t2)
/-- what a def promises that may raise: cl, fl: the error classes and what each keeps -/
def spX (K : PySem.W.Frag) (cl : Str → Addr) (fl : Str → Str) (pre : List PyData → Prop) (post : List PyData → PyData → Prop) (exc : List PyData → Str → PyData → Prop) : Sp := fun vs H Q E => ∃ J ds, Sub J H ∧ Das K J vs ds ∧ pre ds ∧
  (∀ v d J' H', Tr Md.pure J H J' H' → post ds d → Da K J' v d → Q v H') ∧ ∀ c x dx v J' H', Tr Md.pure J H J' H' → exc ds c x → H' dx = some (.xd [(fl c, v)]) → Da K J' v x → E (.ref (cl c)) (some dx) H'
theorem spX_D {K : PySem.W.Frag} {M : Md} {cl : Str → Addr} {fl : Str → Str} {pre : List PyData → Prop} {post : List PyData → PyData → Prop} {exc : List PyData → Str → PyData → Prop} {ds : List PyData} {E : XK} (h : pre ds) (hn : ∀ c x, ¬ exc ds c x) : SpD K M (spX K cl fl pre post exc) ds (post ds) E := fun vs J H w a Q q =>
  ⟨J, ds, w.jh, a, h, fun v d J' H' t p a' => q v d J' H' ((w.lift t).wf w) (w.lift t) p a', fun c x _ _ _ _ _ z => (hn c x z).elim⟩
/-- a call within a try: it may come back or raise -/
theorem ev_callS {K : PySem.W.Frag} {M : Md} {σ : L2.St} {J H : Hp} {cl : Str → Addr} {fl : Str → Str} {pre : List PyData → Prop} {post : List PyData → PyData → Prop} {exc : List PyData → Str → PyData → Prop} {E : L2.St → XK} {ta : TA} {ds : List PyData} {Q : VK} (w : Wf M J H) (h : EvA K M ta σ J H (· = ds)) (hp : pre ds)
    (q : ∀ v d J1 H1, Wf M J1 H1 → Tr M J H J1 H1 → post ds d → Da K J1 v d → Q v H1)
    (qe : ∀ c x dx v J1 H1, Wf M J1 H1 → Tr M J H J1 H1 → exc ds c x → H1 dx = some (.xd [(fl c, v)]) → Da K J1 v x → E σ (.ref (cl c)) (some dx) H1) : tCallS (spX K cl fl pre post exc) E ta σ H Q :=
  h J H w w.tr _ fun vs ds' J1 H1 w1 t1 e a => by
    subst e
    exact ⟨J1, _, w1.jh, a, hp, fun v d J' H' t p a' => q v d J' H' ((w1.lift t).wf w1) (t1.trans (w1.lift t)) p a', fun c x dx v J' H' t z hx a' => qe c x dx v J' H' ((w1.lift t).wf w1) (t1.trans (w1.lift t)) z hx a'⟩
theorem xCallS {X : Cx} {CX : CXT} {k : Nat} {ps : List Str} {sp : Sp} {E : L2.St → XK} {e : Expr} {es : List Expr} {p pos : Pos} {x : Str} {t : TA} (C : Ca X.prog X.w X.K X.mg X.base CX k x ps sp) (hr : Room k X.A) (hx : ∀ σ, PassesAt CX X σ (E σ)) (ha : PA X (e :: es) t) (hg : Gl X x := by rfl) (hdb : (x == ("__debug__" : Str)) = false := by decide) (he : starEach (e :: es) X.env = (false, eval e X.env) :: starEach es X.env := by rfl) (hpl : (backTo pos (starEach es X.env)).any (·.1) = false := by rfl) : PE X (.Call (.Name x p) (e :: es) [] pos) (tCallS sp E t) := by
  obtain ⟨f, fd, F, hm, hk, hb⟩ := C.has
  exact pe_callS F hr hg hm hk hb hx ha hdb he hpl
end DL

/-! Data of told kinds: numbers, rows of numbers. -/
namespace DL
open PySem PySem.Spec
open PyProof.Rows L2
section
variable {K : PySem.W.Frag} {M : Md} {σ : L2.St} {J H J0 H0 : Hp} {te : TE} {tu tw : TS} {d : PyData} {i j : Int} {D : Ends}
theorem s_asgD {k : Nat} (w : Wf M J H) (h : EvD K M te σ J H d) (q : ∀ v J1 H1, Wf M J1 H1 → Tr M J H J1 H1 → Da K J1 v d → D.nx (σ.set k (some v)) H1) : tAsg te (gName k) D σ H := s_asg w h fun v d' J1 H1 w1 t1 e a => by subst e; exact q v J1 H1 w1 t1 a
theorem s_asgI {k : Nat} (w : Wf M J H) (h : EvD K M te σ J H (.int i)) (q : ∀ J1 H1, Wf M J1 H1 → Tr M J H J1 H1 → D.nx (σ.set k (some (.int i))) H1) : tAsg te (gName k) D σ H := s_asg w h fun v d' J1 H1 w1 t1 e a => by subst e; rw [da_int a]; exact q J1 H1 w1 t1
theorem s_retD (w : Wf M J H) (h : EvD K M te σ J H d) (q : ∀ v J1 H1, Wf M J1 H1 → Tr M J H J1 H1 → Da K J1 v d → D.rt v H1) : tRet te D σ H := s_ret w h fun v d' J1 H1 w1 t1 e a => by subst e; exact q v J1 H1 w1 t1 a
theorem s_ifD {b : Bool} {c : TT} (w : Wf M J H) (h : EvT M c σ J H (· = b)) (q1 : b = true → ∀ J1 H1, Wf M J1 H1 → Tr M J H J1 H1 → tu D σ H1) (q2 : b = false → ∀ J1 H1, Wf M J1 H1 → Tr M J H J1 H1 → tw D σ H1) : tIfS c tu tw D σ H :=
  s_if w h (fun e => q1 e.symm) fun e => q2 e.symm
theorem s_forD {k : Nat} {wi : TI} {tb : TS} (ds : List PyData) (I : Nat → L2.St → Hp → Hp → Prop) (w0 : Wf M J0 H0) (t0 : Tr M J0 H0 J H) (hw : EvW K M wi σ J H (· = ds)) (h0 : ∀ J2 H2, Wf M J2 H2 → Tr M J H J2 H2 → I 0 σ J2 H2)
    (hn : ∀ i σ' J' H' T xs, I i σ' J' H' → H' T = none → I i σ' (upd J' T (.tup xs)) (upd H' T (.tup xs)))
    (hs : ∀ i d x σ' J2 J' H', ds[i]? = some d → Wf M J' H' → Tr M J0 H0 J' H' → Sub J J2 → Sub J2 J' → I i σ' J' H' → Da K J' x d → tb { D with nx := Nxt M J0 H0 J2 (I (i + 1)), ct := Nxt M J0 H0 J2 (I (i + 1)), bk := D.nx } (σ'.set k (some x)) H')
    (hd : ∀ σ' J' H', Wf M J' H' → Tr M J0 H0 J' H' → Sub J J' → I ds.length σ' J' H' → D.nx σ' H') : tFor wi (gName k) tb D σ H :=
  s_for (Pw := (· = ds)) (fun _ => I) w0 t0 hw (fun _ J2 H2 _ => h0 J2 H2) (fun _ => hn) (fun ds' i d x σ' J2 J' H' e hdi => hs i d x σ' J2 J' H' (by rw [← e]; exact hdi)) fun ds' σ' J' H' e w t s h => hd σ' J' H' w t s (by rw [e] at h; exact h)
theorem s_next (q : D.nx σ H) : tNext D σ H := q
end
/-- a row of numbers -/
def oD (xs : List Int) : List PyData := xs.map .int
theorem oD_len (xs : List Int) : (oD xs).length = xs.length := by unfold oD; simp
theorem oD_at {xs : List Int} {n : Nat} {d : PyData} (h : (oD xs)[n]? = some d) : ∃ x, xs[n]? = some x ∧ d = .int x := by
  unfold oD at h
  rw [List.getElem?_map] at h
  cases e : xs[n]? with
  | none => rw [e] at h; cases h
  | some x => rw [e] at h; exact ⟨x, rfl, (Option.some.inj h).symm⟩
theorem oD_app (xs ys : List Int) : oD xs ++ oD ys = oD (xs ++ ys) := by unfold oD; simp
theorem oD_rev (xs : List Int) : (oD xs).reverse = oD xs.reverse := by unfold oD; simp
theorem oD_inj {xs ys : List Int} (h : oD xs = oD ys) : xs = ys := by
  induction xs generalizing ys with
  | nil => cases ys with
    | nil => rfl
    | cons _ _ => cases h
  | cons x xs ih => cases ys with
    | nil => cases h
    | cons y ys =>
      have h' : PyData.int x :: oD xs = PyData.int y :: oD ys := h
      obtain ⟨e1, e2⟩ := List.cons.inj h'
      cases e1
      rw [ih e2]
/-- xs[lo:hi] -/
def cutA {α : Type} (xs : List α) (lo hi : Option Int) : List α := (xs.drop (HT.sIx xs.length 0 lo)).take (HT.sIx xs.length xs.length hi - HT.sIx xs.length 0 lo)
theorem cut_map {α : Type} (f : α → PyData) (xs : List α) (lo hi : Option Int) : cut (xs.map f) lo hi = (cutA xs lo hi).map f := by
  unfold cut cutA
  rw [List.length_map, List.map_take, List.map_drop]
theorem cut_oD (xs : List Int) (lo hi : Option Int) : cut (oD xs) lo hi = oD (cutA xs lo hi) := cut_map _ xs lo hi
theorem cutA_nat {α : Type} (xs : List α) (a b : Nat) : cutA xs (some (a : Int)) (some (b : Int)) = (xs.drop a).take (b - a) := by
  unfold cutA
  rw [HT.sIx_nat, HT.sIx_nat]
  rcases Nat.le_total a xs.length with h | h
  · rw [Nat.min_eq_left h]
    rcases Nat.le_total b xs.length with h2 | h2
    · rw [Nat.min_eq_left h2]
    · rw [Nat.min_eq_right h2, List.take_of_length_le (by rw [List.length_drop]; omega), List.take_of_length_le (by rw [List.length_drop]; omega)]
  · rw [Nat.min_eq_right h, List.drop_of_length_le (Nat.le_refl _), List.drop_of_length_le h]; simp
theorem cutA_to {α : Type} (xs : List α) (b : Nat) : cutA xs none (some (b : Int)) = xs.take b := by
  unfold cutA
  rw [HT.sIx_none, HT.sIx_nat, List.drop_zero, Nat.sub_zero]
  rcases Nat.le_total b xs.length with h | h
  · rw [Nat.min_eq_left h]
  · rw [Nat.min_eq_right h, List.take_of_length_le h, List.take_length]
theorem cutA_from {α : Type} (xs : List α) (a : Nat) : cutA xs (some (a : Int)) none = xs.drop a := by
  unfold cutA
  rw [HT.sIx_nat, HT.sIx_none]
  rcases Nat.le_total a xs.length with h | h
  · rw [Nat.min_eq_left h, List.take_of_length_le (by rw [List.length_drop]; exact Nat.le_refl _)]
  · rw [Nat.min_eq_right h, List.drop_of_length_le (Nat.le_refl _), List.drop_of_length_le h]; simp
theorem ints_shaped : ∀ xs : List Int, PyData.canLayAll0 (oD xs) = true
  | [] => by simp [oD, PyData.canLayAll0]
  | x :: xs => by
    have h := ints_shaped xs
    unfold oD at h ⊢
    simp [PyData.canLayAll0, PyData.canLay0, h]
theorem ints_depth : ∀ xs : List Int, PyData.depthAll (oD xs) = 0
  | [] => by simp [oD, PyData.depthAll]
  | x :: xs => by
    have h := ints_depth xs
    unfold oD at h ⊢
    simp [PyData.depthAll, PyData.depth, h]
theorem sh_int (i : Int) : SeqAt.shaped (.int i) = true := by simp [SeqAt.shaped, PyData.canLay0, PyData.depth]
theorem sh_list (xs : List Int) : SeqAt.shaped (.list (oD xs)) = true := by simp [SeqAt.shaped, PyData.canLay0, PyData.depth, ints_shaped, ints_depth]
theorem sh_tup (xs : List Int) : SeqAt.shaped (.tuple (oD xs)) = true := by simp [SeqAt.shaped, PyData.canLay0, PyData.depth, ints_shaped, ints_depth]
theorem eqv_int (i j : Int) : PyData.eqv (.int i) (.int j) = decide (i = j) := by
  unfold PyData.eqv
  by_cases h : i = j
  · simp [h]
  · simp [h]
theorem eqvAll_ints : ∀ xs ys : List Int, PyData.eqvAll (oD xs) (oD ys) = decide (xs = ys)
  | [], [] => by simp [oD, PyData.eqvAll]
  | [], _ :: _ => by simp [oD, PyData.eqvAll]
  | _ :: _, [] => by simp [oD, PyData.eqvAll]
  | x :: xs, y :: ys => by
    have h := eqvAll_ints xs ys
    unfold oD at h ⊢
    simp only [List.map_cons, PyData.eqvAll, h, eqv_int]
    by_cases h1 : x = y <;> by_cases h2 : xs = ys <;> simp [h1, h2]
theorem eqv_list (xs ys : List Int) : PyData.eqv (.list (oD xs)) (.list (oD ys)) = decide (xs = ys) := by
  unfold PyData.eqv
  exact eqvAll_ints xs ys
theorem eqv_tup (xs ys : List Int) : PyData.eqv (.tuple (oD xs)) (.tuple (oD ys)) = decide (xs = ys) := by
  unfold PyData.eqv
  exact eqvAll_ints xs ys
theorem log2_le {n k : Nat} (h : n < 2 ^ (k + 1)) : n.log2 ≤ k := by
  by_cases z : n = 0
  · subst z; simp
  · exact Nat.le_of_lt_succ ((Nat.log2_lt z).mpr h)
theorem cmul_small {i j : Int} (h1 : i.natAbs < 2 ^ 64) (h2 : j.natAbs < 2 ^ 64) : CMulW i j := by
  have a := log2_le (k := 63) h1
  have b := log2_le (k := 63) h2
  show i.natAbs.log2 + j.natAbs.log2 < 1000000
  omega
theorem cdiv_small {i j : Int} (h1 : 0 < j) (h2 : j < 2 ^ 64) : CDivW i j := ⟨h1, Nat.lt_of_le_of_lt (log2_le (k := 63) (by omega)) (by decide)⟩
end DL

/-! Where a law's draws come from: a list of a list of numbers and a number, which changes with each draw. -/
namespace DL
open PySem PySem.Spec
open PyProof.Rows L2
/-- h: the list; g: the list of great numbers within it -/
def drOk (h g : Addr) (H : Hp) : Prop := ∃ (cs : List Int) (n : Int), H h = some (.lst [.ref g, .int n]) ∧ H g = some (.lst (cs.map V.int)) ∧ (∀ c ∈ cs, 0 ≤ c) ∧ cs.length ≤ 63 ∧ 0 ≤ n ∧ n < 2147483647
structure HasDr (M : Md) (h g : Addr) : Prop where
  ne : h ≠ g
  fh : M.fp h
  fg : M.fp g
  ok : ∀ H, M.inv H → drOk h g H
  put : ∀ H H', M.inv H → (∀ a, M.fp a → a ≠ h → a ≠ g → H' a = H a) → (∀ a o, H a = some o → (∀ ys, o ≠ .lst ys) → H' a = some o) → drOk h g H' → M.inv H'
/-- nothing but these two changes -/
def Md.draw (h g : Addr) : Md := ⟨fun a => a = h ∨ a = g, drOk h g, false, fun H H' e _ ⟨cs, n, h1, h2, h3⟩ => ⟨cs, n, by rw [e h (.inl rfl)]; exact h1, by rw [e g (.inr rfl)]; exact h2, h3⟩, fun H ⟨cs, n, h1, h2, _⟩ a e => by
  rcases e with e | e
  · rw [e]; exact ⟨_, h1, (fun _ _ z => by cases z)⟩
  · rw [e]; exact ⟨_, h2, (fun _ _ z => by cases z)⟩⟩
theorem Md.draw_has {h g : Addr} (ne : h ≠ g) : HasDr (Md.draw h g) h g := ⟨ne, .inl rfl, .inr rfl, fun _ x => x, fun _ _ _ _ _ x => x⟩
/-- what a draw below n promises -/
def spDraw : Sp := fun vs H Q _ => ∃ M h g J n, vs = [.ref h, .int n] ∧ HasDr M h g ∧ Wf M J H ∧ 0 < n ∧ n < 2 ^ 64 ∧ ∀ i H', Wf M J H' → Tr M J H J H' → 0 ≤ i → i < n → Q (.int i) H'
section
variable {K : PySem.W.Frag} {M : Md} {h g : Addr} {J H : Hp}
/-- the two are written: nothing else changes but what is new -/
theorem dr_tr (hd : HasDr M h g) (w : Wf M J H) {H' : Hp} (k : ∀ a o, a ≠ h → a ≠ g → H a = some o → H' a = some o) (x : drOk h g H') : Tr M J H J H' := by
  have nj : ∀ {a o}, J a = some o → a ≠ h ∧ a ≠ g := fun {a o} e => ⟨(fun z => by rw [z, (w.out h hd.fh).1] at e; cases e), (fun z => by rw [z, (w.out g hd.fg).1] at e; cases e)⟩
  obtain ⟨cs0, n0, y1, y2, _⟩ := hd.ok H w.inv
  obtain ⟨cs, n, x1, x2, x3⟩ := x
  have nl : ∀ a o, H a = some o → (∀ ys, o ≠ .lst ys) → H' a = some o := fun a o e ne => k a o (fun z => by rw [z, y1] at e; exact ne _ (Option.some.inj e).symm) (fun z => by rw [z, y2] at e; exact ne _ (Option.some.inj e).symm) e
  refine ⟨.refl _, fun a o e => k a o (nj e).1 (nj e).2 (w.jh a o e), fun a o nf _ e => k a o (fun z => nf (by rw [z]; exact hd.fh)) (fun z => nf (by rw [z]; exact hd.fg)) e, hd.put H H' w.inv (fun a fa n1 n2 => ?_) nl ⟨cs, n, x1, x2, x3⟩, fun _ _ _ _ z => z, fun a o b e => ?_, fun z => z⟩
  · cases q : H a with
    | none => exact absurd q (w.out a fa).2
    | some o => exact k a o n1 n2 q
  · by_cases n1 : a = h
    · rw [n1]; exact ⟨.lst [.ref g, .int n], (fun _ _ z => by cases z), x1⟩
    by_cases n2 : a = g
    · rw [n2]; exact ⟨.lst (cs.map V.int), (fun _ _ z => by cases z), x2⟩
    exact ⟨o, b, k a o n1 n2 e⟩
/-- h and g as they stand -/
structure DrAt (h g : Addr) (cs : List Int) (n : Int) (H : Hp) : Prop where
  hh : H h = some (.lst [.ref g, .int n])
  hg : H g = some (.lst (cs.map V.int))
  pos : ∀ c ∈ cs, 0 ≤ c
  few : cs.length ≤ 63
  n0 : 0 ≤ n
  n1 : n < 2147483647
theorem DrAt.ok {cs : List Int} {n : Int} (x : DrAt h g cs n H) : drOk h g H := ⟨cs, n, x.hh, x.hg, x.pos, x.few, x.n0, x.n1⟩
theorem drAt_of (x : drOk h g H) : ∃ cs n, DrAt h g cs n H := by
  obtain ⟨cs, n, a, b, c, d, e, f⟩ := x
  exact ⟨cs, n, a, b, c, d, e, f⟩
abbrev tH0 (K : PySem.W.Frag) : TE := tOp (rIx K) (tVar 0) (tC (.int 0))
abbrev tH1 (K : PySem.W.Frag) : TE := tOp (rIx K) (tVar 0) (tC (.int 1))
abbrev rMod : R2 := rI (fun _ j => 0 < j) fun i j => .int (i % j)
abbrev rDiv : R2 := rI CDivW fun i j => .int (i / j)
abbrev rMul : R2 := rI CMulW fun i j => .int (i * j)
/-- a draw, as the laws write it (c: what their numbers are mixed with) -/
def tDraw (K : PySem.W.Frag) (c : Int) : TS :=
  tSeq (tWhile (tAnd (tTest (tOp (rNeD K) (tH0 K) (tLst tNil))) (tTest (tOp (rEqD K) (tOp (rIx K) (tH0 K) (tUn (rU fun i => .int (-i)) (tC (.int 1)))) (tC (.int 0))))) (tDrop (tBM0 K "list" rPop (tH0 K))))
  (tSeq (tIfS (tTest (tOp (rNeD K) (tH0 K) (tLst tNil))) (tSeq (tAsg (tCB rInt1 (tCons (tBM0 K "list" rPop (tH0 K)) tNil)) (gName 2)) (tSeq (tDrop (tBM K "list" rAppend (tH0 K) (tCons (tOp rDiv (tVar 2) (tVar 1)) tNil))) (tRet (tOp rMod (tVar 2) (tVar 1))))) tNext)
  (tSeq (tAsg (tOp rMod (tCB rInt1 (tCons (tOp (rPlus K) (tOp rMul (tH1 K) (tC (.int 48271))) (tC (.int c))) tNil)) (tC (.int 2147483647))) (gSub (tVar 0) (tC (.int 1)) rSetL)) (tRet (tOp rMod (tCB rInt1 (tCons (tOp rDiv (tH1 K) (tC (.int 64))) tNil)) (tVar 1)))))
variable {σ : L2.St} {Q : VK} {cs : List Int} {n : Int}
theorem rd_h0 (hs : σ[0]? = some (some (.ref h))) (x : DrAt h g cs n H) (q : Q (.ref g) H) : tH0 K σ H Q := ⟨_, hs, .inl ⟨h, _, 0, _, rfl, rfl, .of x.hh, rfl, q⟩⟩
theorem rd_h1 (hs : σ[0]? = some (some (.ref h))) (x : DrAt h g cs n H) (q : Q (.int n) H) : tH1 K σ H Q := ⟨_, hs, .inl ⟨h, _, 1, _, rfl, rfl, .of x.hh, rfl, q⟩⟩
theorem DrAt.new {p : Addr} {o : HO} (x : DrAt h g cs n H) (hp : H p = none) : DrAt h g cs n (upd H p o) :=
  ⟨(upd_ne (ne_of_none x.hh hp)).trans x.hh, (upd_ne (ne_of_none x.hg hp)).trans x.hg, x.pos, x.few, x.n0, x.n1⟩
theorem dp_ints {p : Addr} (e : H p = some (.lst (cs.map V.int))) : Dp K H (.ref p) (.list (oD cs)) := by
  refine .lst (.of e) ?_
  clear e
  induction cs with
  | nil => exact .nil
  | cons c cs ih => exact .cons (.int c) ih
theorem rd_full {Qb : Bool → Hp → Prop} (hs : σ[0]? = some (some (.ref h))) (x : DrAt h g cs n H) (q : ∀ p, H p = none → Qb (!decide (cs = [])) (upd H p (.lst []))) : tTest (tOp (rNeD K) (tH0 K) (tLst tNil)) σ H Qb := by
  refine rd_h0 hs x ⟨Nat.zero_le _, fun p hp => ?_⟩
  refine ⟨.list (oD cs), .list (oD []), dp_ints (x.new hp).hg, dp_ints (cs := []) upd_same, sh_list _, sh_list _, _, rfl, ?_⟩
  rw [eqv_list]
  exact q p hp
theorem atI_last {xs : List Int} {c : Int} : atI ((xs ++ [c]).map V.int) (-1) = some (.int c) := by
  unfold atI ixN
  rw [List.length_map, List.length_append, List.length_singleton, if_neg (by omega), if_pos (by omega)]
  have e : (-1 + ((xs.length + 1 : Nat) : Int)).toNat = xs.length := by omega
  rw [e]
  simp
theorem rd_draw (hd : HasDr M h g) (w : Wf M J H) (hn : 0 < n) (hn2 : n < 2 ^ 64) {c : Int} (hc : 0 ≤ c ∧ c < 2 ^ 60) (q : ∀ i H', Wf M J H' → Tr M J H J H' → 0 ≤ i → i < n → Q (.int i) H') :
    tDraw K c { nx := fun _ H' => Q .non H', rt := Q } [some (.ref h), some (.int n), none] H := by
  obtain ⟨cs0, m0, x0⟩ := drAt_of (hd.ok H w.inv)
  have go : ∀ {G : Hp} {cs m}, (∀ a o, a ≠ h → a ≠ g → H a = some o → G a = some o) → DrAt h g cs m G → Tr M J H J G := fun k x => dr_tr hd w k x.ok
  refine ⟨fun m σ G => σ = [some (.ref h), some (.int n), none] ∧ (∀ a o, a ≠ h → a ≠ g → H a = some o → G a = some o) ∧ ∃ cs k, DrAt h g cs k G ∧ cs.length = m, ⟨_, rfl, fun _ _ _ _ e => e, cs0, m0, x0, rfl⟩, ?_⟩
  rintro m σ G ⟨rfl, kp, cs, k, x, rfl⟩
  have kn : ∀ {G : Hp} {p : Addr} {o : HO}, (∀ a o, a ≠ h → a ≠ g → H a = some o → G a = some o) → G p = none → ∀ a u, a ≠ h → a ≠ g → H a = some u → upd G p o a = some u := fun {G p o} kp hp a u n1 n2 e => by
    rw [upd_ne (ne_of_none (kp a u n1 n2 e) hp)]; exact kp a u n1 n2 e
  have kg : ∀ {G : Hp} {o : HO}, (∀ a o, a ≠ h → a ≠ g → H a = some o → G a = some o) → ∀ a u, a ≠ h → a ≠ g → H a = some u → upd G g o a = some u := fun {G o} kp a u n1 n2 e => by
    rw [upd_ne n2]; exact kp a u n1 n2 e
  have kh : ∀ {G : Hp} {o : HO}, (∀ a o, a ≠ h → a ≠ g → H a = some o → G a = some o) → ∀ a u, a ≠ h → a ≠ g → H a = some u → upd G h o a = some u := fun {G o} kp a u n1 n2 e => by
    rw [upd_ne n1]; exact kp a u n1 n2 e
  -- behind the while
  have rest : ∀ {G : Hp} {cs : List Int} {k : Int}, (∀ a o, a ≠ h → a ≠ g → H a = some o → G a = some o) → DrAt h g cs k G →
      tSeq (tIfS (tTest (tOp (rNeD K) (tH0 K) (tLst tNil))) (tSeq (tAsg (tCB rInt1 (tCons (tBM0 K "list" rPop (tH0 K)) tNil)) (gName 2)) (tSeq (tDrop (tBM K "list" rAppend (tH0 K) (tCons (tOp rDiv (tVar 2) (tVar 1)) tNil))) (tRet (tOp rMod (tVar 2) (tVar 1))))) tNext)
        (tSeq (tAsg (tOp rMod (tCB rInt1 (tCons (tOp (rPlus K) (tOp rMul (tH1 K) (tC (.int 48271))) (tC (.int c))) tNil)) (tC (.int 2147483647))) (gSub (tVar 0) (tC (.int 1)) rSetL)) (tRet (tOp rMod (tCB rInt1 (tCons (tOp rDiv (tH1 K) (tC (.int 64))) tNil)) (tVar 1))))
        { nx := fun _ H' => Q .non H', rt := Q } [some (.ref h), some (.int n), none] G := by
    intro G cs k kp x
    refine rd_full rfl x fun p hp => ?_
    have x1 := x.new (o := .lst []) hp
    have kp1 := kn (o := .lst []) kp hp
    by_cases hcs : cs = []
    · rw [decide_eq_true hcs]
      refine rd_h1 rfl x1 ⟨k, 48271, rfl, rfl, cmul_small (by have := x1.n0; have := x1.n1; omega) (by decide), ?_⟩
      refine .inl ⟨_, c, rfl, rfl, .inl ⟨_, rfl, _, 2147483647, rfl, rfl, (by show (0 : Int) < 2147483647; decide), .ref h, rfl, ?_⟩⟩
      refine ⟨h, _, 1, 1, rfl, rfl, x1.hh, rfl, ?_⟩
      have x2 : DrAt h g cs ((k * 48271 + c) % 2147483647) (upd (upd G p (.lst [])) h (.lst [.ref g, .int ((k * 48271 + c) % 2147483647)])) :=
        ⟨upd_same, (upd_ne hd.ne.symm).trans x1.hg, x1.pos, x1.few, by omega, by omega⟩
      have t := go (kh kp1) x2
      refine rd_h1 rfl x2 ⟨_, 64, rfl, rfl, cdiv_small (by decide) (by decide), .inl ⟨_, rfl, .int n, rfl, _, n, rfl, rfl, hn, ?_⟩⟩
      exact q _ _ (t.wf w) t (Int.emod_nonneg _ (by omega)) (Int.emod_lt_of_pos _ hn)
    · rw [decide_eq_false hcs]
      obtain ⟨ds, z, rfl⟩ : ∃ ds z, cs = ds ++ [z] := ⟨cs.dropLast, cs.getLast hcs, (List.dropLast_concat_getLast hcs).symm⟩
      refine rd_h0 rfl x1 ⟨.inl ⟨rfl, _, .of x1.hg⟩, g, _, .int z, rfl, rfl, x1.hg, by simp, ?_⟩
      have z0 : 0 ≤ z := x1.pos z (by simp)
      have x2 : DrAt h g ds k (upd (upd G p (.lst [])) g (.lst (ds.map V.int))) :=
        ⟨(upd_ne hd.ne).trans x1.hh, upd_same, fun y hy => x1.pos y (by simp [hy]), by have := x1.few; rw [List.length_append] at this; omega, x1.n0, x1.n1⟩
      have e1 : ((ds ++ [z]).map V.int).dropLast = ds.map V.int := by rw [List.map_append]; simp
      rw [e1]
      refine .inl ⟨z, rfl, ?_⟩
      refine rd_h0 rfl x2 ⟨.inl ⟨rfl, _, .of x2.hg⟩, _, rfl, _, rfl, z, n, rfl, rfl, cdiv_small hn hn2, g, _, .int (z / n), rfl, rfl, x2.hg, ?_, ?_⟩
      · have := x2.few
        rw [List.length_map]
        exact Nat.lt_of_le_of_lt this (by decide)
      · have x3 : DrAt h g (ds ++ [z / n]) k (upd (upd (upd G p (.lst [])) g (.lst (ds.map V.int))) g (.lst (ds.map V.int ++ [.int (z / n)]))) :=
          ⟨(upd_ne hd.ne).trans x2.hh, by rw [upd_same, List.map_append]; rfl, fun y hy => by
            rcases List.mem_append.mp hy with hy | hy
            · exact x2.pos y hy
            · rw [List.mem_singleton.mp hy]; exact Int.ediv_nonneg z0 (by omega), by have := x1.few; rw [List.length_append] at this ⊢; exact this, x1.n0, x1.n1⟩
        have t := go (kg (kg kp1)) x3
        exact ⟨.int z, rfl, .int n, rfl, z, n, rfl, rfl, hn, q _ _ (t.wf w) t (Int.emod_nonneg _ (by omega)) (Int.emod_lt_of_pos _ hn)⟩
  refine rd_full rfl x fun p hp => ?_
  have x1 := x.new (o := .lst []) hp
  have kp1 := kn (o := .lst []) kp hp
  by_cases hcs : cs = []
  · rw [decide_eq_true hcs]
    exact rest kp1 x1
  · rw [decide_eq_false hcs]
    obtain ⟨ds, z, rfl⟩ : ∃ ds z, cs = ds ++ [z] := ⟨cs.dropLast, cs.getLast hcs, (List.dropLast_concat_getLast hcs).symm⟩
    refine rd_h0 rfl x1 ⟨1, rfl, .inl ⟨g, _, -1, .int z, rfl, rfl, .of x1.hg, atI_last, .int z, .int 0, .int z, .int 0, sh_int z, sh_int 0, _, rfl, ?_⟩⟩
    rw [eqv_int]
    by_cases hz : z = 0
    · rw [decide_eq_true hz]
      have x2 : DrAt h g ds k (upd (upd G p (.lst [])) g (.lst (ds.map V.int))) :=
        ⟨(upd_ne hd.ne).trans x1.hh, upd_same, fun y hy => x1.pos y (by simp [hy]), by have := x1.few; rw [List.length_append] at this; omega, x1.n0, x1.n1⟩
      refine ⟨fun σ' G' => σ' = [some (.ref h), some (.int n), none] ∧ (∀ a o, a ≠ h → a ≠ g → H a = some o → G' a = some o) ∧ ∃ k, DrAt h g ds k G', fun σ' G' ⟨e, b, k', b2⟩ => ⟨ds.length, by rw [List.length_append]; exact Nat.lt_succ_self _, e, b, ds, k', b2, rfl⟩, ?_⟩
      refine rd_h0 rfl x1 ⟨.inl ⟨rfl, _, .of x1.hg⟩, g, _, .int z, rfl, rfl, x1.hg, by simp, rfl, ?_⟩
      have e1 : ((ds ++ [z]).map V.int).dropLast = ds.map V.int := by rw [List.map_append]; simp
      rw [e1]
      exact ⟨kg kp1, k, x2⟩
    · rw [decide_eq_false hz]
      exact rest kp1 x1
end
/-! ### how it is made -/
def absI (i : Int) : Int := if i < 0 then -i else i
theorem absI_pos (i : Int) : 0 ≤ absI i := by unfold absI; split <;> omega
def dAbs : PyData → PyData
  | .int i => .int (absI i)
  | d => d
theorem dAbs_map (ns : List Int) : (oD ns).map dAbs = oD (ns.map absI) := by unfold oD; simp [dAbs, Function.comp_def]
def dBig : PyData → Bool
  | .int i => decide ((10 : Int) ^ 18 ≤ i)
  | _ => false
theorem dBig_filter (ns : List Int) : (oD ns).filter dBig = oD (ns.filter fun i => decide ((10 : Int) ^ 18 ≤ i)) := by
  unfold oD
  rw [List.filter_map]
  rfl
theorem Tr.sql {K : PySem.W.Frag} {J H J1 H1 : Hp} (t : Tr Md.pure J H J1 H1) {a : Addr} {xs : List V} (h : SqL K H a xs) : SqL K H1 a xs := by
  rcases h with (h | ⟨o, h⟩) | h
  · exact .inl (.inl (t.keep _ _ (fun z => z) h))
  · exact .inl (.inr ⟨o, t.keep _ _ (fun z => z) h⟩)
  · exact .inr h
theorem das_intsV {K : PySem.W.Frag} {J : Hp} (ns : List Int) : Das K J (ns.map V.int) (oD ns) := das_ints ns
theorem cutV_ints (ns : List Int) (lo hi : Option Int) : cutV (ns.map V.int) lo hi = (cutA ns lo hi).map V.int := by
  unfold cutV cutA
  rw [List.length_map, List.map_take, List.map_drop]
/-- a part of the script -/
theorem ev_script {K : PySem.W.Frag} {J H : Hp} {σ : L2.St} {i : Nat} {a : Addr} {ns : List Int} {tl th : TO} {lo hi : Option Int} (hs : σ[i]? = some (some (.ref a))) (hS : SqL K H a (ns.map V.int)) (h1 : EvO K Md.pure tl σ J H (· = lo)) (h2 : EvO K Md.pure th σ J H (· = hi)) :
    EvD K Md.pure (tSl (rSlL K) (tVar i) tl th) σ J H (.list (oD (cutA ns lo hi))) := fun J1 H1 w t Q q => ⟨.ref a, hs, h1 J1 H1 w t _ fun lo' J2 H2 w2 t2 e => by
  subst e
  refine h2 J2 H2 w2 (t.trans t2) _ fun hi' J3 H3 w3 t3 e => ?_
  subst e
  refine ⟨a, _, rfl, ((t.trans t2).trans t3).sql hS, fun p hp => ?_⟩
  have t4 := w3.new (o := .lst (cutV (ns.map V.int) lo' hi')) hp
  refine q _ _ _ _ (t4.wf w3) ((t2.trans t3).trans t4) rfl (.lst upd_same ?_)
  rw [cutV_ints]
  exact das_intsV _⟩
/-- the list of draws, as the laws make it -/
def tHeap (K : PySem.W.Frag) (p q m c : Int) : TS :=
  tSeq (tAsg (tLc (iList K (tSl (rSlL K) (tVar 0) tNoPart (tPart (tC (.int 63))))) (gName 4) tYes (tCB rAbs (tCons (tCB rInt1 (tCons (tVar 4) tNil)) tNil)) [4]) (gName 2))
  (tSeq (tAsg (tOp (rPlus K) (tC (.int p)) (tOp rMul (tC (.int q)) (tVar 1))) (gName 3))
  (tSeq (tFor (iList K (tVar 2)) (gName 4) (tAsg (tOp rMod (tCB rInt1 (tCons (tOp (rPlus K) (tOp (rPlus K) (tOp rMul (tVar 3) (tC (.int 48271))) (tOp rMod (tVar 4) (tC (.int m)))) (tC (.int c))) tNil)) (tC (.int 2147483647))) (gName 3)))
  (tRet (tLst (tCons (tRevL K (tLc (iList K (tVar 2)) (gName 4) (tTest (tOp (rI0 fun i j => .bl (decide (j ≤ i))) (tVar 4) (tOp (rI CPow fun i j => .int (i ^ j.toNat)) (tC (.int 10)) (tC (.int 18))))) (tVar 4) [4])) (tCons (tVar 3) tNil))))))
/-- what it promises: nothing that stood has changed, the two lists are new -/
def spHeap (K : PySem.W.Frag) : Sp := fun vs H Q _ => ∃ (a : Addr) (ns : List Int) (b : Int), vs = [.ref a, .int b] ∧ SqL K H a (ns.map V.int) ∧ 0 ≤ b ∧ b < 1000 ∧
  ∀ h g H', (∀ a o, H a = some o → H' a = some o) → H h = none → H g = none → h ≠ g → drOk h g H' → Q (.ref h) H'
end DL

namespace DL
open PySem PySem.Spec
open PyProof.Rows L2
local macro_rules | `(tactic| walk_at "rep") => `(tactic| first | assumption | exact Da.int _ | exact Da.bl _ | exact Da.str _ | exact Da.non | exact Sub.da (by assumption) (by assumption) | exact Sub.da (Tr.jj (by assumption)) (by assumption))
local macro_rules | `(tactic| walk_at "arith") => `(tactic| first | assumption | omega | decide | exact cmul_small (by omega) (by omega) | exact cdiv_small (by omega) (by omega))
local macro_rules | `(tactic| walk_at "shp") => `(tactic| first | exact sh_int _ | exact sh_tup _ | exact sh_list _ | assumption)
local macro_rules | `(tactic| walk_at "od") => `(tactic| first
  | with_reducible exact od_plus
  | with_reducible exact od_sub
  | ((with_reducible refine' od_mul ?h1); walk_at "arith")
  | ((with_reducible refine' od_mod ?h1); walk_at "arith")
  | ((with_reducible refine' od_fdiv ?h1); walk_at "arith")
  | ((with_reducible refine' od_pow ?h1); exact ⟨by decide, by decide, by decide⟩)
  | with_reducible exact od_lt | with_reducible exact od_le | with_reducible exact od_gt | with_reducible exact od_ge
  | ((with_reducible refine' od_plusT ?h1); walk_at "arith")
  | ((with_reducible refine' od_plusL ?h1); walk_at "arith")
  | ((with_reducible refine' od_plusS ?h1); walk_at "arith")
  | with_reducible exact od_isN | with_reducible exact od_notN
  | ((with_reducible refine od_eq ?_ ?_) <;> walk_at "shp")
  | ((with_reducible refine od_ne ?_ ?_) <;> walk_at "shp")
  | ((with_reducible refine od_inL ?_ ?_) <;> walk_at "shp")
  | ((with_reducible refine od_ixL ?_); assumption)
  | ((with_reducible refine od_ixT ?_); assumption))
local macro_rules | `(tactic| walk_at "ea") => `(tactic| first | with_reducible exact ea_nil | ((with_reducible refine' ea_consD ?h1 ?h2); (case h1 => walk_at "ev"); (case h2 => walk_at "ea")))
local macro_rules | `(tactic| walk_at "eo") => `(tactic| first | with_reducible exact eo_none | ((with_reducible refine' eo_at ?h1); (case h1 => walk_at "ev")))
local macro_rules | `(tactic| walk_at "cd") => `(tactic| first
  | with_reducible exact cd_lenL | with_reducible exact cd_lenT | with_reducible exact cd_tupL | with_reducible exact cd_tupT | with_reducible exact cd_lstL | with_reducible exact cd_lstT | with_reducible exact cd_abs | with_reducible exact cd_int)
local macro_rules | `(tactic| walk_at "ev") => `(tactic| first
  | with_reducible exact ev_int | with_reducible exact ev_bl | with_reducible exact ev_str | with_reducible exact ev_non
  | ((with_reducible refine' ev_var ?h1 ?h2); (case h1 => exact rfl); (case h2 => walk_at "rep"))
  | ((with_reducible refine' ev_opD ?h1 ?h2 ?h3); (case h1 => walk_at "ev"); (case h2 => walk_at "ev"); (case h3 => walk_at "od"))
  | ((with_reducible refine' ev_tupD ?h1); (case h1 => walk_at "ea"))
  | ((with_reducible refine' ev_lstD ?h1); (case h1 => walk_at "ea"))
  | ((with_reducible refine' ev_revL ?h1); (case h1 => walk_at "ev"))
  | ((with_reducible refine' ev_slD ?h1 ?h2 ?h3 ?h4); (case h1 => walk_at "ev"); (case h2 => walk_at "eo"); (case h3 => walk_at "eo"); (case h4 => first | with_reducible exact sd_tup | with_reducible exact sd_list))
  | ((with_reducible refine' ev_cbD ?h1 ?h2); (case h1 => walk_at "ea"); (case h2 => walk_at "cd"))
  | ((with_reducible refine' ev_notV ?h1); (case h1 => walk_at "ev"))
  | assumption)
local macro_rules | `(tactic| walk_at "et") => `(tactic| first
  | ((with_reducible refine' et_testD ?h1); (case h1 => walk_at "ev"))
  | ((with_reducible refine' et_BD ?h1); (case h1 => walk_at "ev"))
  | ((with_reducible refine' et_notD ?h1); (case h1 => walk_at "et"))
  | ((with_reducible refine' et_andD ?h1 ?h2); (case h1 => walk_at "et"); (case h2 => intro _; walk_at "et"))
  | ((with_reducible refine' et_orD ?h1 ?h2); (case h1 => walk_at "et"); (case h2 => intro _; walk_at "et"))
  | assumption)

theorem rd_heap {K : PySem.W.Frag} {H : Hp} {Q : VK} {a : Addr} {ns : List Int} {b p q m c : Int} (hS : SqL K H a (ns.map V.int)) (hp : 0 ≤ p ∧ p < 1000000) (hq : 0 ≤ q ∧ q < 1000) (hb : 0 ≤ b ∧ b < 1000) (hm : 0 < m ∧ m < 2 ^ 32) (hc : 0 ≤ c ∧ c < 1000)
    (k : ∀ h g H', (∀ a o, H a = some o → H' a = some o) → H h = none → H g = none → h ≠ g → drOk h g H' → Q (.ref h) H') : tHeap K p q m c { nx := fun _ H' => Q .non H', rt := Q } [some (.ref a), some (.int b), none, none, none] H := by
  have w0 : Wf Md.pure (fun _ => none) H := ⟨(fun _ _ e => by cases e), trivial, nofun, nofun⟩
  have l63 : (cutA ns none (some 63)).length ≤ 63 := by
    have e := cutA_to ns 63
    rw [show ((63 : Nat) : Int) = 63 from rfl] at e
    rw [e, List.length_take]
    omega
  refine s_asgD (K := K) (d := .list (oD ((cutA ns none (some 63)).map absI))) w0 ?_ fun v1 J1 H1 w1 t1 a1 => ?_
  · rw [← dAbs_map]
    refine ev_lcMap (ew_listD (ev_script rfl hS (by walk_at "eo") (by walk_at "eo"))) (by rw [oD_len]; exact Nat.lt_of_le_of_lt l63 (by decide)) (fun x => rfl) fun d x J1 H1 hd w t ax => ?_
    obtain ⟨n, hn⟩ := List.getElem?_of_mem hd
    obtain ⟨i, _, rfl⟩ := oD_at hn
    show EvD K Md.pure _ _ _ _ (.int (absI i))
    unfold absI
    walk_at "ev"
  generalize hcs : (cutA ns none (some 63)).map absI = cs at a1
  have cpos : ∀ x ∈ cs, 0 ≤ x := fun x hx => by
    rw [← hcs] at hx
    obtain ⟨y, _, rfl⟩ := List.mem_map.mp hx
    exact absI_pos y
  have clen : cs.length ≤ 63 := by rw [← hcs, List.length_map]; exact l63
  dsimp only
  refine s_asgI (K := K) w1 (i := p + q * b) ?_ fun J2 H2 w2 t2 => ?_
  · walk_at "ev"
  have a2 := t2.jj.da a1
  dsimp only
  have z1 : 0 ≤ q * b := Int.mul_nonneg hq.1 hb.1
  have z2 : q * b ≤ 1000 * 1000 := Int.mul_le_mul (by omega) (by omega) hb.1 (by decide)
  refine s_forD (K := K) (oD cs) (fun i σ' J' H' => ∃ n o, σ' = [some (.ref a), some (.int b), some v1, some (.int n), o] ∧ 0 ≤ n ∧ n < 2147483647) w0 (t1.trans t2) ?_ (fun J2 H2 _ _ => ⟨p + q * b, none, rfl, by omega, by omega⟩) (fun i σ' J' H' T xs h _ => h) ?_ ?_
  · exact ew_listD (by walk_at "ev")
  · rintro i d x σ' J2 J' H' hdi w' t' s1 s2 ⟨n, o, rfl, n0, n1⟩ ax
    obtain ⟨y, hy, rfl⟩ := oD_at hdi
    rw [da_int ax]
    have m0 : 0 ≤ y % m := Int.emod_nonneg _ (by omega)
    have m1 : y % m < m := Int.emod_lt_of_pos _ (by omega)
    refine s_asgI (K := K) w' (i := (n * 48271 + y % m + c) % 2147483647) ?_ fun J1 H1 w1 t1 => ⟨J1, w1, t'.trans t1, s2.trans t1.jj, (n * 48271 + y % m + c) % 2147483647, some (.int y), rfl, by omega, by omega⟩
    walk_at "ev"
  rintro σ' J' H' w' t' s1 ⟨n, o, rfl, n0, n1⟩
  have a3 := s1.da a2
  dsimp only
  refine s_retD (K := K) (d := .list [.list (oD (cs.filter fun i => decide ((10 : Int) ^ 18 ≤ i)).reverse), .int n]) w' ?_ fun v J3 H3 w3 t3 a3 => ?_
  · refine ev_lstD (ea_consD ?_ (by walk_at "ea"))
    rw [← oD_rev, ← dBig_filter]
    refine ev_revL ?_
    have e : (oD cs).filter dBig = ((oD cs).filter dBig).map id := by simp
    rw [e]
    refine ev_lcFilter (ew_listD (by walk_at "ev")) (by rw [oD_len]; exact Nat.lt_of_le_of_lt clen (by decide)) (fun x => rfl) (fun d x J1 H1 hd w t ax => ?_) fun d x J1 H1 hd _ w t ax => ?_
    · obtain ⟨k, hk⟩ := List.getElem?_of_mem hd
      obtain ⟨i, _, rfl⟩ := oD_at hk
      show EvT Md.pure _ _ _ _ (· = decide ((10 : Int) ^ (18 : Int).toNat ≤ i))
      walk_at "et"
    · show EvD K Md.pure _ _ _ _ d
      walk_at "ev"
  have tt := t'.trans t3
  obtain ⟨h, xs, rfl, jh, ha⟩ := da_lst a3
  cases ha with
  | cons b1 b2 =>
    obtain ⟨u, rfl, b3⟩ := das_one b2
    obtain ⟨g, ys, rfl, jg, hb⟩ := da_lst b1
    have eu := da_int b3
    subst eu
    have ey := das_ints_eq (ns := (cs.filter fun i => decide ((10 : Int) ^ 18 ≤ i)).reverse) hb
    subst ey
    have fresh : ∀ {x o}, J3 x = some o → H x = none := fun {x o} e => by
      cases q : H x with
      | none => rfl
      | some u => rw [tt.frp x (by rw [q]; exact nofun) rfl] at e; cases e
    refine k h g H3 (fun a o e => tt.keep a o (fun z => z) e) (fresh jh) (fresh jg) (fun e => ?_) ⟨_, n, tt.jh _ _ jh, tt.jh _ _ jg, fun x hx => ?_, ?_, n0, n1⟩
    · rw [e, jg] at jh
      have z := HO.lst.inj (Option.some.inj jh)
      cases hl : (cs.filter fun i => decide ((10 : Int) ^ 18 ≤ i)).reverse with
      | nil => rw [hl] at z; cases z
      | cons i is => rw [hl] at z; cases z
    · exact cpos x (List.mem_filter.mp (List.mem_reverse.mp hx)).1
    · rw [List.length_reverse]
      exact Nat.le_trans (List.length_filter_le _ _) clen
end DL

namespace DL
open PySem PySem.Spec
open PyProof.Rows L2
local macro_rules | `(tactic| walk_at "rep") => `(tactic| first | assumption | exact Da.int _ | exact Da.bl _ | exact Da.str _ | exact Da.non | exact Sub.da (by assumption) (by assumption) | exact Sub.da (Tr.jj (by assumption)) (by assumption))
local macro_rules | `(tactic| walk_at "arith") => `(tactic| first | assumption | omega | decide | exact cmul_small (by omega) (by omega) | exact cdiv_small (by omega) (by omega))
local macro_rules | `(tactic| walk_at "shp") => `(tactic| first | exact sh_int _ | exact sh_tup _ | exact sh_list _ | assumption)
local macro_rules | `(tactic| walk_at "od") => `(tactic| first
  | with_reducible exact od_plus
  | with_reducible exact od_sub
  | ((with_reducible refine' od_mul ?h1); walk_at "arith")
  | ((with_reducible refine' od_mod ?h1); walk_at "arith")
  | ((with_reducible refine' od_fdiv ?h1); walk_at "arith")
  | ((with_reducible refine' od_pow ?h1); exact ⟨by decide, by decide, by decide⟩)
  | with_reducible exact od_lt | with_reducible exact od_le | with_reducible exact od_gt | with_reducible exact od_ge
  | ((with_reducible refine' od_plusT ?h1); walk_at "arith")
  | ((with_reducible refine' od_plusL ?h1); walk_at "arith")
  | ((with_reducible refine' od_plusS ?h1); walk_at "arith")
  | with_reducible exact od_isN | with_reducible exact od_notN
  | ((with_reducible refine od_eq ?_ ?_) <;> walk_at "shp")
  | ((with_reducible refine od_ne ?_ ?_) <;> walk_at "shp")
  | ((with_reducible refine od_inL ?_ ?_) <;> walk_at "shp")
  | ((with_reducible refine od_ixL ?_); assumption)
  | ((with_reducible refine od_ixT ?_); assumption))
local macro_rules | `(tactic| walk_at "ea") => `(tactic| first | with_reducible exact ea_nil | ((with_reducible refine' ea_consD ?h1 ?h2); (case h1 => walk_at "ev"); (case h2 => walk_at "ea")))
local macro_rules | `(tactic| walk_at "eo") => `(tactic| first | with_reducible exact eo_none | ((with_reducible refine' eo_at ?h1); (case h1 => walk_at "ev")))
local macro_rules | `(tactic| walk_at "cd") => `(tactic| first
  | with_reducible exact cd_lenL | with_reducible exact cd_lenT | with_reducible exact cd_tupL | with_reducible exact cd_tupT | with_reducible exact cd_lstL | with_reducible exact cd_lstT | with_reducible exact cd_abs | with_reducible exact cd_int)
local macro_rules | `(tactic| walk_at "ev") => `(tactic| first
  | with_reducible exact ev_int | with_reducible exact ev_bl | with_reducible exact ev_str | with_reducible exact ev_non
  | ((with_reducible refine' ev_var ?h1 ?h2); (case h1 => exact rfl); (case h2 => walk_at "rep"))
  | ((with_reducible refine' ev_opD ?h1 ?h2 ?h3); (case h1 => walk_at "ev"); (case h2 => walk_at "ev"); (case h3 => walk_at "od"))
  | ((with_reducible refine' ev_tupD ?h1); (case h1 => walk_at "ea"))
  | ((with_reducible refine' ev_lstD ?h1); (case h1 => walk_at "ea"))
  | ((with_reducible refine' ev_revL ?h1); (case h1 => walk_at "ev"))
  | ((with_reducible refine' ev_slD ?h1 ?h2 ?h3 ?h4); (case h1 => walk_at "ev"); (case h2 => walk_at "eo"); (case h3 => walk_at "eo"); (case h4 => first | with_reducible exact sd_tup | with_reducible exact sd_list))
  | ((with_reducible refine' ev_cbD ?h1 ?h2); (case h1 => walk_at "ea"); (case h2 => walk_at "cd"))
  | ((with_reducible refine' ev_notV ?h1); (case h1 => walk_at "ev"))
  | assumption)
local macro_rules | `(tactic| walk_at "et") => `(tactic| first
  | ((with_reducible refine' et_testD ?h1); (case h1 => walk_at "ev"))
  | ((with_reducible refine' et_BD ?h1); (case h1 => walk_at "ev"))
  | ((with_reducible refine' et_notD ?h1); (case h1 => walk_at "et"))
  | ((with_reducible refine' et_andD ?h1 ?h2); (case h1 => walk_at "et"); (case h2 => intro _; walk_at "et"))
  | ((with_reducible refine' et_orD ?h1 ?h2); (case h1 => walk_at "et"); (case h2 => intro _; walk_at "et"))
  | assumption)
/-- what a law's helper promises whose first argument is the list of draws -/
def spH (K : PySem.W.Frag) (pre : List PyData → Prop) (post : List PyData → PyData → Prop) : Sp := fun vs H Q _ => ∃ M h g J us ds, vs = .ref h :: us ∧ HasDr M h g ∧ Wf M J H ∧ Das K J us ds ∧ pre ds ∧
  ∀ v d J' H', Wf M J' H' → Tr M J H J' H' → post ds d → Da K J' v d → Q v H'
theorem ev_callH {K : PySem.W.Frag} {M : Md} {σ : L2.St} {J H : Hp} {h g : Addr} {i : Nat} {ta : TA} {E : XK} {pre : List PyData → Prop} {post : List PyData → PyData → Prop} {Pa : List PyData → Prop} {P : PyData → Prop} (hd : HasDr M h g) (hs : σ[i]? = some (some (.ref h))) (ha : EvA K M ta σ J H Pa)
    (hp : ∀ ds, Pa ds → pre ds ∧ ∀ d, post ds d → P d) : EvP K M (tCall (spH K pre post) [] E (tCons (tVar i) ta)) σ J H P := fun J1 H1 w t Q q =>
  ⟨.ref h, hs, ha J1 H1 w t _ fun vs ds J2 H2 w2 t2 p a => by
    show spH K pre post ((V.ref h :: vs) ++ []) H2 Q E
    rw [List.append_nil]
    exact ⟨M, h, g, J2, vs, ds, rfl, hd, w2, a, (hp ds p).1, fun v d J3 H3 w3 t3 pd ad => q v d J3 H3 w3 (t2.trans t3) ((hp ds p).2 d pd) ad⟩⟩
def preDraw (ds : List PyData) : Prop := ∃ n, ds = [.int n] ∧ 0 < n ∧ n < 2 ^ 64
def postDraw (ds : List PyData) (d : PyData) : Prop := ∀ n, ds = [.int n] → ∃ i, d = .int i ∧ 0 ≤ i ∧ i < n
def spDr (K : PySem.W.Frag) : Sp := spH K preDraw postDraw
theorem rd_drawH {K : PySem.W.Frag} {vs : List V} {H : Hp} {Q : VK} {E : XK} {c : Int} (hc : 0 ≤ c ∧ c < 2 ^ 60) (h : spDr K vs H Q E) : tDraw K c { nx := fun _ H' => Q .non H', rt := Q } (vs.map some ++ [none]) H := by
  obtain ⟨M, h, g, J, us, ds, rfl, hd, w, a, ⟨n, rfl, n0, n1⟩, q⟩ := h
  obtain ⟨v, rfl, av⟩ := das_one a
  rw [da_int av]
  exact rd_draw hd w n0 n1 hc fun i H' w' t i0 i1 => q _ (.int i) J H' w' t (fun m e => by cases e; exact ⟨i, rfl, i0, i1⟩) (.int i)
theorem spH_len {K : PySem.W.Frag} {pre : List PyData → Prop} {post : List PyData → PyData → Prop} {vs : List V} {H : Hp} {Q : VK} {E : XK} (h : spH K pre post vs H Q E) : ∃ ds, pre ds ∧ vs.length = ds.length + 1 := by
  obtain ⟨M, h, g, J, us, ds, rfl, hd, w, a, p, q⟩ := h
  exact ⟨ds, p, by rw [List.length_cons, das_len a]⟩
/-- a draw below a number that is reckoned -/
theorem ev_draw {K : PySem.W.Frag} {M : Md} {σ : L2.St} {J H : Hp} {h g : Addr} {i : Nat} {te : TE} {E : XK} {n : Int} (hd : HasDr M h g) (hs : σ[i]? = some (some (.ref h))) (he : EvD K M te σ J H (.int n)) (n0 : 0 < n ∧ n < 2 ^ 64) :
    EvP K M (tCall (spDr K) [] E (tCons (tVar i) (tCons te tNil))) σ J H fun d => ∃ i, d = .int i ∧ 0 ≤ i ∧ i < n :=
  ev_callH hd hs (ea_consD he ea_nil) fun ds e => by rw [e]; exact ⟨⟨n, rfl, n0⟩, fun d p => p n rfl⟩
theorem atI_mem {ds : List PyData} {i : Int} (h0 : 0 ≤ i) (h1 : i < ds.length) : ∃ d, atI ds i = some d ∧ d ∈ ds := by
  have hk : i.toNat < ds.length := by omega
  refine ⟨ds[i.toNat], ?_, List.getElem_mem hk⟩
  unfold atI ixN
  rw [if_pos h0, if_pos h1]
  exact List.getElem?_eq_getElem hk
/-- one of some things, a list -/
def prePick (ds : List PyData) : Prop := ∃ xs, ds = [.list xs] ∧ xs ≠ [] ∧ xs.length < 2 ^ 62
def postPick (ds : List PyData) (d : PyData) : Prop := ∀ xs, ds = [.list xs] → d ∈ xs
def spPick (K : PySem.W.Frag) : Sp := spH K prePick postPick
def tPick (K : PySem.W.Frag) : TS := tRet (tOp (rIx K) (tVar 1) (tCall (spDr K) [] E0 (tCons (tVar 0) (tCons (tCB (rLen K) (tCons (tVar 1) tNil)) tNil))))
theorem rd_pick {K : PySem.W.Frag} {vs : List V} {H : Hp} {Q : VK} {E : XK} (h : spPick K vs H Q E) : tPick K { nx := fun _ H' => Q .non H', rt := Q } (vs.map some) H := by
  obtain ⟨M, h, g, J, us, ds, rfl, hd, w, a, ⟨xs, rfl, x0, x1⟩, q⟩ := h
  obtain ⟨v, rfl, av⟩ := das_one a
  have l0 : 0 < xs.length := List.length_pos_iff.mpr x0
  refine s_ret (K := K) (P := (· ∈ xs)) w ?_ fun v d J1 H1 w1 t1 p ad => q v d J1 H1 w1 t1 (fun ys e => by cases e; exact p) ad
  refine ev_op (Px := (· = .list xs)) (Py := fun d => ∃ i, d = .int i ∧ 0 ≤ i ∧ i < (xs.length : Int)) (by walk_at "ev") (ev_draw hd rfl (by walk_at "ev") (by omega)) ?_
  rintro dx dy rfl ⟨i, rfl, i0, i1⟩
  obtain ⟨d, e, m⟩ := atI_mem i0 i1
  intro x y J H w ax ay Q q
  exact od_ixL e x y J H w ax ay Q fun v d' J2 H2 w2 t2 e' a => q v d' J2 H2 w2 t2 (by rw [e']; exact m) a
theorem ev_pick {K : PySem.W.Frag} {M : Md} {σ : L2.St} {J H : Hp} {h g : Addr} {i : Nat} {te : TE} {E : XK} {Pa : PyData → Prop} {P : PyData → Prop} (hd : HasDr M h g) (hs : σ[i]? = some (some (.ref h))) (he : EvP K M te σ J H Pa) (hp : ∀ d, Pa d → ∃ xs, d = .list xs ∧ xs ≠ [] ∧ xs.length < 2 ^ 62 ∧ ∀ x ∈ xs, P x) :
    EvP K M (tCall (spPick K) [] E (tCons (tVar i) (tCons te tNil))) σ J H P :=
  ev_callH hd hs (ea_cons he ea_nil) fun ds ⟨d, r, e, pd, pr⟩ => by
    obtain ⟨xs, rfl, x0, x1, x2⟩ := hp d pd
    rw [e, pr]
    exact ⟨⟨xs, rfl, x0, x1⟩, fun d p => x2 d (p xs rfl)⟩
end DL

/-! What k06 and k07 wanted besides, for every law. -/
namespace DL
open PySem PySem.Spec
open PyProof.Rows
open L2
theorem cutI {xs : List Int} {i j : Int} {a b : Nat} (h1 : i = a) (h2 : j = b) : cutA xs (some i) (some j) = (xs.drop a).take (b - a) := by rw [h1, h2]; exact cutA_nat xs a b
theorem ev_eq {K : PySem.W.Frag} {M : Md} {te : TE} {σ : L2.St} {J H : Hp} {d d' : PyData} (h : EvD K M te σ J H d) (e : d = d') : EvD K M te σ J H d' := by rw [← e]; exact h
theorem et_eq {M : Md} {tt : TT} {σ : L2.St} {J H : Hp} {b b' : Bool} (h : EvT M tt σ J H (· = b)) (e : b = b') : EvT M tt σ J H (· = b') := by rw [← e]; exact h

theorem ev_xf {K : PySem.W.Frag} {M : Md} {σ : L2.St} {J H : Hp} {a dx C : Addr} {i : Nat} {f : Str} {v : V} {d : PyData} (hs : σ[i]? = some (some (.ref a))) (hx : H dx = some (.xd [(f, v)])) (nf : ¬ M.fp dx) (h : Da K J v d) :
    EvD K M (tXf a (.ref C) (some dx) C f (tVar i)) σ J H d := fun J1 H1 w t Q q => ⟨.ref a, hs, rfl, rfl, dx, _, v, rfl, t.keep dx _ nf hx, by simp [List.lookup], q v d J1 H1 w w.tr rfl (t.jj.da h)⟩

/-! ### calls with keywords that stand in the sequence of the parameters -/
theorem fun_kbN {K : PySem.W.Frag} {x qual : Str} {params : Arguments} {body : List Stmt} {scope : Scope} {f : Addr} {fd : FuncData} {ps : List Str} (F : FunD K x qual params body scope [] [] f fd) (n : Nat) (ks : List Str)
    (h : ∀ (kV doc pm : Value) (an : Option Addr) (cdv ct : Value) (us ws : List Value), us.length = n → ws.length = ks.length → bindArgs (PySem.W.fnOf x qual params body scope .none kV doc pm an cdv ct) ⟨us, ks.zip ws⟩ = pure (ps.zip (us ++ ws))) :
    KBn K fd ps n ks (fun us ws => us ++ ws) (fun vs zs => vs ++ zs) := by
  obtain ⟨_, _, _, k1, d1, m1, a1, c1, t1, _, e, _, _, dfl, _⟩ := F.ex
  subst e
  match dfl with
  | .inl ⟨_, none_⟩ => subst none_; exact ⟨fun s us ws _ l1 l2 => .of_eq (h k1 d1 m1 a1 c1 t1 us ws l1 l2), fun r1 r2 => r1.append r2⟩
  | .inr ⟨some_, _⟩ => exact absurd rfl some_
structure CaK (P : Program) (w : World) (K : PySem.W.Frag) (mg : Str → Option Value) (base : Heap) (CX : CXT) (k : Nat) (x : Str) (ps : List Str) (n : Nat) (ks : List Str) (sp : Sp) : Prop where
  has : ∃ f fd, FnOk P w K mg base CX k f fd ps sp ∧ mg x = some (.ref f) ∧ PySem.W.keepIn K (.ref f) = true ∧ KBn K fd ps n ks (fun us ws => us ++ ws) (fun vs zs => vs ++ zs)
theorem xCallK0 {X : Cx} {CX : CXT} {k : Nat} {ps ks : List Str} {sp : Sp} {E : XK} {kws : List Keyword} {p pos : Pos} {x : Str} {tk : TA} (C : CaK X.prog X.w X.K X.mg X.base CX k x ps 0 ks sp) (hr : Room k X.A) (hx : Passes CX X E) (hkw : PK X kws tk) (hg : Gl X x := by rfl) (hdb : (x == ("__debug__" : Str)) = false := by decide)
    (hall : (backToKw pos (keywordEach kws X.env)).all (·.1.isSome) = true := by rfl) (hks : (backToKw pos (keywordEach kws X.env)).filterMap (·.1) = ks := by rfl) (hpl : ((backTo pos (starEach [] X.env)).any (·.1) || (backToKw pos (keywordEach kws X.env)).any (·.1.isNone)) = false := by rfl) :
    PE X (.Call (.Name x p) [] kws pos) (fun σ H Q => tk σ H fun zs H2 => zs.length = ks.length ∧ sp zs H2 Q E) := by
  obtain ⟨f, fd, F, hm, hk, hb⟩ := C.has
  refine ⟨fun pins s σ H Q I h => wpAny_Call_Name_kw (ld_glob I hg hm ?_ hdb)⟩
  refine PySem.W.callWith_KW0 (h₀ := X.base) I.ok.mod.kin hk hall (thn (hkw.run pos pins s σ H _ I h) fun ws s2 ⟨zs, H2, I2, rz, l1, q2⟩ => ⟨I2.kIn, ?_⟩) hpl
  rw [hks]
  exact run_fnN (us := []) (vs := []) F hr hb hx I2 .nil rz rfl l1 q2
theorem ev_callK0 {K : PySem.W.Frag} {M : Md} {σ : L2.St} {J H : Hp} {sp : Sp} {E : XK} {m : Nat} {ta : TA} {ds : List PyData} {P : PyData → Prop} (h : EvA K M ta σ J H (· = ds)) (hm : ds.length = m) (ho : SpD K M sp ds P E) : EvP K M (fun σ H Q => ta σ H fun zs H2 => zs.length = m ∧ sp zs H2 Q E) σ J H P := fun J1 H1 w t Q q =>
  h J1 H1 w t _ fun vs ds' J2 H2 w2 t2 e a => by
    subst e
    exact ⟨by rw [das_len a]; exact hm, ho vs J2 H2 w2 a Q fun v d J3 H3 w3 t3 p a3 => q v d J3 H3 w3 (t2.trans t3) p a3⟩
theorem ev_neg {K : PySem.W.Frag} {M : Md} {σ : L2.St} {J H : Hp} {te : TE} {i : Int} (h : EvD K M te σ J H (.int i)) : EvD K M (tUn (rU fun i => .int (-i)) te) σ J H (.int (-i)) :=
  ev_un h fun dx e x J H w a Q q => by
    subst e
    exact ⟨i, da_int a, q _ _ J H w w.tr rfl (.int _)⟩
theorem ev_ixC {K : PySem.W.Frag} {M : Md} {σ : L2.St} {J H : Hp} {te : TE} {k : Nat} {p : Addr} {ys : List V} {i : Int} {v : V} {d : PyData} (hs : σ[k]? = some (some (.ref p))) (hH : H p = some (.lst ys)) (nf : ¬ M.fp p) (he : EvD K M te σ J H (.int i)) (hv : atI ys i = some v) (ha : ∀ J, Da K J v d) :
    EvD K M (tOp (rIx K) (tVar k) te) σ J H d := fun J1 H1 w t Q q => ⟨.ref p, hs, he J1 H1 w t _ fun x d' J2 H2 w2 t2 e a => by
      subst e
      exact .inl ⟨p, ys, i, v, rfl, da_int a, .of ((t.trans t2).keep p _ nf hH), hv, q v d J2 H2 w2 t2 rfl (ha _)⟩⟩
theorem od_neS {K : PySem.W.Frag} {M : Md} {x y : Str} : OpD K M rNe (.str x) (.str y) (· = .bool (!decide (x = y))) := fun a b J H w ax ay Q q => by
  rw [da_str ax, da_str ay]
  have e : decide (V.str x = V.str y) = decide (x = y) := decide_eq_decide.mpr ⟨fun e => V.str.inj e, fun e => by rw [e]⟩
  refine ⟨rfl, ?_⟩
  rw [e]
  exact q _ _ J H w w.tr rfl (.bl _)
theorem od_eqS {K : PySem.W.Frag} {M : Md} {x y : Str} : OpD K M rEq (.str x) (.str y) (· = .bool (decide (x = y))) := fun a b J H w ax ay Q q => by
  rw [da_str ax, da_str ay]
  have e : decide (V.str x = V.str y) = decide (x = y) := decide_eq_decide.mpr ⟨fun e => V.str.inj e, fun e => by rw [e]⟩
  refine ⟨rfl, ?_⟩
  rw [e]
  exact q _ _ J H w w.tr rfl (.bl _)

theorem any_ints (xs : List Int) (c : Int) : ((oD xs).any fun z => PyData.eqv z (.int c)) = decide (c ∈ xs) := by
  induction xs with
  | nil => rfl
  | cons x xs ih =>
    show (PyData.eqv (.int x) (.int c) || (oD xs).any fun z => PyData.eqv z (.int c)) = _
    rw [ih, eqv_int, Bool.eq_iff_iff]
    simp only [Bool.or_eq_true, decide_eq_true_eq, List.mem_cons]
    exact ⟨fun h => h.imp Eq.symm id, fun h => h.imp Eq.symm id⟩
theorem atI_nat {α : Type} {xs : List α} {k : Nat} {x : α} (h : xs[k]? = some x) : atI xs (k : Int) = some x := by
  obtain ⟨hk, _⟩ := List.getElem?_eq_some_iff.mp h
  unfold atI ixN
  rw [if_pos (by omega), if_pos (by omega)]
  show xs[((k : Nat) : Int).toNat]? = some x
  rw [Int.toNat_natCast]
  exact h
theorem atI_m1 {α : Type} {xs : List α} {k : Nat} {x : α} (h : xs[k]? = some x) (hl : xs.length = k + 1) : atI xs (-1) = some x := by
  unfold atI ixN
  rw [if_neg (by omega), if_pos (by omega), hl, show (-1 + ((k + 1 : Nat) : Int)).toNat = k by omega]
  exact h
theorem oD_get {xs : List Int} {k : Nat} {x : Int} (h : xs[k]? = some x) : (oD xs)[k]? = some (.int x) := by unfold oD; rw [List.getElem?_map, h]; rfl

theorem take_snoc {α : Type} {xs : List α} {i : Nat} {x : α} (h : xs[i]? = some x) : xs.take (i + 1) = xs.take i ++ [x] := by rw [List.take_add_one, h]; rfl

/-! ### rules: enumerate, a list many times, a changed row, what is read of what is drawn -/
def enumD (ds : List PyData) : List PyData := (List.range ds.length).map fun i => .tuple [.int (i : Nat), ds.getD i .none]
theorem enumD_len (ds : List PyData) : (enumD ds).length = ds.length := by unfold enumD; simp
theorem enumD_at {ds : List PyData} {i : Nat} {d : PyData} (h : (enumD ds)[i]? = some d) : ∃ x, ds[i]? = some x ∧ d = .tuple [.int (i : Nat), x] := by
  unfold enumD at h
  rw [List.getElem?_map] at h
  by_cases hi : i < ds.length
  · rw [List.getElem?_range hi] at h
    refine ⟨ds[i], List.getElem?_eq_getElem hi, ?_⟩
    rw [← Option.some.inj h]
    show PyData.tuple [PyData.int (i : Nat), ds.getD i PyData.none] = _
    rw [List.getD_eq_getElem?_getD, List.getElem?_eq_getElem hi]
    rfl
  · rw [List.getElem?_eq_none (by simp; omega)] at h
    cases h
section
variable {K : PySem.W.Frag} {M : Md} {σ : L2.St} {J H : Hp} {ta tb tc te : TE} {E : XK} {ds : List PyData}
theorem ew_enum (h : EvD K M te σ J H (.list ds)) : EvW K M (iEnum K (tCons te tNil)) σ J H (· = enumD ds) := fun J1 H1 w t R q =>
  h J1 H1 w t _ fun v d J2 H2 w2 t2 e a => by
    subst e
    obtain ⟨p, xs, rfl, hl, hd⟩ := da_lst a
    refine ⟨p, xs, rfl, .of (w2.jh _ _ hl), q _ _ J2 H2 w2 t2 rfl ⟨fun i G hi s => ?_, fun G s => ⟨xs, .of (s _ _ hl), by rw [das_len hd, enumD_len]; exact Nat.le_refl _⟩, fun i G x G' d hd' s y => ?_⟩⟩
    · rw [enumD_len] at hi
      have hi2 : i < xs.length := by rw [das_len hd]; exact hi
      exact ⟨xs, xs[i], .of (s _ _ hl), List.getElem?_eq_getElem hi2⟩
    · obtain ⟨T, z, ev, hT, eG, y⟩ := y
      obtain ⟨d2, e2, a2⟩ := das_at hd (y xs (.of (s _ _ hl)))
      obtain ⟨d3, e3, rfl⟩ := enumD_at hd'
      rw [e2] at e3
      cases e3
      exact .inr ⟨T, _, _, ev, hT, eG, rfl, .cons (.int _) (.cons a2 .nil)⟩
theorem od_rep {n : Nat} (h1 : n < 2 ^ 60) (h2 : ds.length * n ≤ sizeLine) : OpD K M rRep (.list ds) (.int (n : Int)) (· = .list (List.replicate n ds).flatten) := fun x y J H w ax ay Q q => by
  obtain ⟨a, xs, rfl, hl, hd⟩ := da_lst ax
  have en : ((n : Nat) : Int).toNat = n := Int.toNat_natCast n
  refine ⟨a, n, xs, rfl, da_int ay, w.jh _ _ hl, by omega, by omega, by rw [en, das_len hd]; exact h2, fun p hp => ?_⟩
  rw [en]
  have t := w.new (o := .lst (List.replicate n xs).flatten) hp
  refine q _ _ _ _ (t.wf w) t rfl (.lst upd_same (t.jj.das ?_))
  have key : ∀ m : Nat, Das K J (List.replicate m xs).flatten (List.replicate m ds).flatten := by
    intro m
    induction m with
    | zero => exact .nil
    | succ m ih => rw [List.replicate_succ, List.replicate_succ, List.flatten_cons, List.flatten_cons]; exact das_app hd ih
  exact key n

end

theorem OpD.mono {K : PySem.W.Frag} {M : Md} {r : R2} {dx dy : PyData} {P P' : PyData → Prop} (h : OpD K M r dx dy P) (k : ∀ d, P d → P' d) : OpD K M r dx dy P' := fun x y J H w ax ay Q q => h x y J H w ax ay Q fun v d J2 H2 w2 t2 p a => q v d J2 H2 w2 t2 (k d p) a
abbrev exTl : List Value := [.type "Exception", .type "BaseException", .type "object"]
theorem exTl_pass : Passes2 exTl := fun self => ⟨by rfl, by rfl⟩
/-- an own class over own ones over Exception, off the heap: its parts, put together again -/
def ownB (K : PySem.W.Frag) (C : Addr) (tl : List Value) (nw : String) : Bool := match K.lookup C with
  | some ⟨.type ty, _, .cls ⟨_, _, .ref C' :: tail, _, _, dct, _, _, _, _, gone⟩, ⟨[_, _, _, _, some (.builtin made), _]⟩⟩ => decide (ty = "type") && (decide (C' = C) && (decide (made = nw) && (dct && (!gone && endsIn tl tail))))
  | _ => false
theorem ownB_ok {K : PySem.W.Frag} {C : Addr} {tl : List Value} {nw : String} (told : ownB K C tl nw = true) : ∃ nm q N bs bm sn sub ab col dd k0 k1 k2 k3 k5, K.lookup C = some (excClassObj nm q C N bs bm true sn sub ab col dd k0 k1 k2 k3 k5 nw) ∧ endsIn tl bm = true := by
  unfold ownB at told
  split at told
  · rename_i at_
    obtain ⟨p1, r1⟩ := He.ba told
    obtain ⟨p2, r2⟩ := He.ba r1
    obtain ⟨p3, r3⟩ := He.ba r2
    obtain ⟨p4, r4⟩ := He.ba r3
    obtain ⟨p5, r5⟩ := He.ba r4
    have e1 := of_decide_eq_true p1
    have e2 := of_decide_eq_true p2
    have e3 := of_decide_eq_true p3
    have e5 : _ = false := Bool.not_eq_eq_eq_not.mp p5
    subst e1 e2 e3 p4 e5
    exact ⟨_, _, _, _, _, _, _, _, _, _, _, _, _, _, _, at_, r5⟩
  · exact nomatch told
/-- over LookupError, KeyError among them or not -/
abbrev lkTl : List Value := [.type "LookupError", .type "Exception", .type "BaseException", .type "object"]
theorem lkTl_pass : Passes2 lkTl := fun self => ⟨by rfl, by rfl⟩
/-- all that Er wants of the class x that keeps f: tl its built-in ones, nw its __new__ -/
def erG (K : PySem.W.Frag) (tl : List Value) (nw : String) (x f : Str) : Bool :=
  ownB K (He.ga K x) tl nw && (He.eqO (PySem.W.findIn K (.ref (He.ga K x)) "__setattr__") (some (some (.builtin "object.__setattr__"))) && (decide (PySem.W.subIn K (.ref (He.ga K x)) (.type "BaseException") = some true) &&
  (decide (PySem.W.typeIn K (.ref (He.ga K x)) = some (.type "type")) && (PySem.W.keepIn K (.ref (He.ga K x)) && (He.eqO (PySem.W.findIn K (.ref (He.ga K x)) "__init__") (some (some (.ref (He.ma K (He.ga K x) "__init__")))) &&
  (decide (PySem.W.typeIn K (.ref (He.ma K (He.ga K x) "__init__")) = some (.type "function")) && (xfB K (He.ga K x) && (He.eqO (PySem.W.findIn K (.ref (He.ga K x)) f) (some none) && He.eqO (PySem.W.nsIn K mainGlobals x) (some (some (.ref (He.ga K x))))))))))))
abbrev erB (K : PySem.W.Frag) (x f : Str) : Bool := erG K exTl "Exception.__new__" x f
abbrev erK (K : PySem.W.Frag) (x f : Str) : Bool := erG K lkTl "LookupError.__new__" x f
theorem erG_own {K : PySem.W.Frag} {tl : List Value} {nw : String} {x f : Str} (h : erG K tl nw x f = true) : OwnE K (He.ga K x) tl nw := by
  obtain ⟨h1, h⟩ := He.ba h
  obtain ⟨h2, h⟩ := He.ba h
  obtain ⟨h3, h⟩ := He.ba h
  obtain ⟨h4, h⟩ := He.ba h
  obtain ⟨h5, h⟩ := He.ba h
  exact ⟨ownB_ok h1, He.eqO_ok h2, of_decide_eq_true h3, of_decide_eq_true h4, h5⟩
theorem erB_own {K : PySem.W.Frag} {x f : Str} (h : erB K x f = true) : OwnE K (He.ga K x) exTl "Exception.__new__" := erG_own h
theorem erK_own {K : PySem.W.Frag} {x f : Str} (h : erK K x f = true) : OwnE K (He.ga K x) lkTl "LookupError.__new__" := erG_own h
section
variable {P : Program} {w : World} {K : PySem.W.Frag} {mg : Str → Option Value} {base h : Heap} {x f : Str} {fd : FuncData} {ps : List Str}
theorem erG_of {tl : List Value} {nw B ini : String} (FB : ExcBaseFacts B nw ini tl) (nB : B ≠ "KeyError") (c : erG K tl nw x f = true) (X : K.In h) (G : h.Ns mainGlobals mg) (F : FnOk P w K mg base CX0 1 (He.ma K (He.ga K x) "__init__") fd ps (spIni K (He.ga K x) f)) (hb : Binds K fd ps []) : Er P w K mg base x (He.ga K x) f := by
  have T := erG_own c
  obtain ⟨h1, c⟩ := He.ba c
  obtain ⟨h2, c⟩ := He.ba c
  obtain ⟨h3, c⟩ := He.ba c
  obtain ⟨h4, c⟩ := He.ba c
  obtain ⟨h5, c⟩ := He.ba c
  obtain ⟨h6, c⟩ := He.ba c
  obtain ⟨h7, c⟩ := He.ba c
  obtain ⟨h8, c⟩ := He.ba c
  obtain ⟨h9, c⟩ := He.ba c
  exact ⟨⟨tl, nw, B, ini, _, fd, ps, FB, nB, T, He.eqO_ok h6, of_decide_eq_true h7, F, hb⟩, PySem.W.mg_of X G (He.eqO_ok c), xfB_ok h8, He.eqO_ok h9⟩
theorem er_of (c : erB K x f = true) (X : K.In h) (G : h.Ns mainGlobals mg) (F : FnOk P w K mg base CX0 1 (He.ma K (He.ga K x) "__init__") fd ps (spIni K (He.ga K x) f)) (hb : Binds K fd ps []) : Er P w K mg base x (He.ga K x) f := erG_of PySem.F.excBase_Exception (by decide) c X G F hb
theorem erK_of (c : erK K x f = true) (X : K.In h) (G : h.Ns mainGlobals mg) (F : FnOk P w K mg base CX0 1 (He.ma K (He.ga K x) "__init__") fd ps (spIni K (He.ga K x) f)) (hb : Binds K fd ps []) : Er P w K mg base x (He.ga K x) f := erG_of PySem.F.excBase_LookupError (by decide) c X G F hb
end
end DL

/-! zip of a tuple and a list: the pairs that it makes, as data. -/
namespace DL
open PySem PySem.Spec
open PyProof.Rows L2
theorem neN {x y : Nat} (h : x < y ∨ y < x) : (show Addr from x) ≠ (show Addr from y) := fun e => by
  have e' : x = y := e
  omega
theorem no2 {x y z : Nat} (h : x < y ∨ y < x) (g : x < z ∨ z < x) : (show Addr from x) ∉ [(show Addr from y), (show Addr from z)] := fun m => by
  rcases List.mem_cons.mp m with e | m
  · exact neN h e
  · exact neN g (List.mem_singleton.mp m)
theorem in5 {n c : Addr} (h : c ∈ [n + 4, n + 2, n + 3, n, n + 1]) : c = n + 4 ∨ c = n + 2 ∨ c = n + 3 ∨ c = n ∨ c = n + 1 := by simpa using h
/-- the cells of such a zip, told by the place of the first one -/
theorem apart5 (n a b : Nat) (ha : a < n) (hb : b < n) : ZipSep2 (n + 4) (n + 2) (n + 3) n (n + 1) [n, a] [n + 1, b] where
  TIz := neN (by omega)
  TOz := neN (by omega)
  TITO := neN (by omega)
  TIi1 := neN (by omega)
  mem1 := List.mem_cons_self
  zf1 := no2 (by omega) (by omega)
  Tf1 := no2 (by omega) (by omega)
  TIi2 := neN (by omega)
  mem2 := List.mem_cons_self
  zf2 := no2 (by omega) (by omega)
  Tf2 := no2 (by omega) (by omega)
  sep1_2 := no2 (by omega) (by omega)
  sep2_1 := no2 (by omega) (by omega)
/-- five objects behind the heap, as zip lays them -/
def zq1 (h : Heap) (a : Addr) : Heap := h.push ⟨.type "tuple_iterator", none, .fields #[.ref a, .int 0 0], #[]⟩
def zq2 (h : Heap) (a b : Addr) : Heap := (zq1 h a).push ⟨.type "list_iterator", none, .fields #[.ref b, .int 0 0], #[]⟩
def zq3 (h : Heap) (a b : Addr) : Heap := (zq2 h a b).push ⟨.type "tuple", none, .seq #[.ref h.objs.size, .ref (zq1 h a).objs.size], #[]⟩
def zq4 (h : Heap) (a b : Addr) : Heap := (zq3 h a b).push ⟨.type "tuple", none, .seq #[.none, .none], #[]⟩
def zq5 (h : Heap) (a b : Addr) : Heap := (zq4 h a b).push ⟨.type "zip", none, .fields #[.none, .bool false, .bool false, .ref (zq2 h a b).objs.size, .ref (zq3 h a b).objs.size], #[]⟩
theorem zq_new (a b : Addr) (us ws : Array Value) : Meets (Builtin.«zip.__new__» ⟨[.type "zip", .ref a, .ref b], []⟩) (fun _ R s =>
    s.heap.IsTuple a us ∧ s.heap.IsList b ws ∧ R (.ok (.ret (.ref (zq4 s.heap a b).objs.size))) { s with heap := zq5 s.heap a b }) :=
  .of_wp fun prog w A R s told => by
    obtain ⟨hp, gs, dr, tk, os⟩ := s
    obtain ⟨ta, lb, r⟩ := told
    have hsub := sub_zip
    have e1 : Heap.IsTuple (Shared.heap ⟨hp, gs, dr, tk, os⟩) a us := ta
    have e2 : Heap.IsList (Shared.heap ⟨hp.push { cls := .type "tuple_iterator", data := .fields #[.ref a, .int 0 0] }, gs, dr, tk, os⟩) b ws := Heap.IsList.push lb _
    wp_walk using wpAny_pyIter_tuple e1, wpAny_pyIter_list e2
    exact ⟨_, rfl, r⟩
theorem call_zq {prog : Program} {w : World} {A : Around} {E : Value → Shared → Prop} {s : Shared} {a b : Addr} {us ws : Array Value} {Q : Value → Shared → Prop} (ta : s.heap.IsTuple a us) (lb : s.heap.IsList b ws)
    (q : ∀ g n, n = s.heap.objs.size → IsZip g (n + 4) (n + 2) (n + 3) .none → IsTupOf2 g (n + 2) (.ref n) (.ref (n + 1)) → IsTupOf2 g (n + 3) .none .none → g.IsTupleIter n a 0 → g.IsListIter (n + 1) b 0 →
      (∀ c o, s.heap.get? c = some o → g.get? c = some o) → Q (.ref (n + 4)) { s with heap := g }) : wpAny (model prog w) A (call (.type "zip") [.ref a, .ref b]) Q E s := by
  refine callType_new F.called_zip (by decide) (F.typeCall_zip_2 _ _) (F.newCall_zip_2 _ _) (fun o => F.args_object_init_3 o _ _) F.entry_zip_new (zq_new a b us ws) ⟨ta, lb, ?_⟩
  generalize hn : s.heap.objs.size = n at q
  have n1 : (zq1 s.heap a).objs.size = n + 1 := by rw [← hn]; exact Heap.size_push ..
  have n2 : (zq2 s.heap a b).objs.size = n + 2 := by unfold zq2; rw [Heap.size_push, n1]
  have n3 : (zq3 s.heap a b).objs.size = n + 3 := by unfold zq3; rw [Heap.size_push, n2]
  have n4 : (zq4 s.heap a b).objs.size = n + 4 := by unfold zq4; rw [Heap.size_push, n3]
  have k0 : ∀ c o, s.heap.get? c = some o → (zq1 s.heap a).get? c = some o := fun c o e => Heap.get?_push_of_some _ e
  have k1 : ∀ c o, (zq1 s.heap a).get? c = some o → (zq2 s.heap a b).get? c = some o := fun c o e => Heap.get?_push_of_some _ e
  have k2 : ∀ c o, (zq2 s.heap a b).get? c = some o → (zq3 s.heap a b).get? c = some o := fun c o e => Heap.get?_push_of_some _ e
  have k3 : ∀ c o, (zq3 s.heap a b).get? c = some o → (zq4 s.heap a b).get? c = some o := fun c o e => Heap.get?_push_of_some _ e
  have k4 : ∀ c o, (zq4 s.heap a b).get? c = some o → (zq5 s.heap a b).get? c = some o := fun c o e => Heap.get?_push_of_some _ e
  have o0 : (zq1 s.heap a).get? n = some ⟨.type "tuple_iterator", none, .fields #[.ref a, .int 0 0], #[]⟩ := by rw [← hn]; exact Heap.get?_push_size _ rfl
  have o1 : (zq2 s.heap a b).get? (n + 1) = some ⟨.type "list_iterator", none, .fields #[.ref b, .int 0 0], #[]⟩ := by rw [← n1]; exact Heap.get?_push_size _ rfl
  have o2 : (zq3 s.heap a b).get? (n + 2) = some ⟨.type "tuple", none, .seq #[.ref n, .ref (n + 1)], #[]⟩ := by
    have e := Heap.get?_push_size (zq2 s.heap a b) (o := ⟨.type "tuple", none, .seq #[.ref s.heap.objs.size, .ref (zq1 s.heap a).objs.size], #[]⟩) rfl
    rw [n2, n1, hn] at e
    unfold zq3
    rw [n1, hn]
    exact e
  have o3 : (zq4 s.heap a b).get? (n + 3) = some ⟨.type "tuple", none, .seq #[.none, .none], #[]⟩ := by rw [← n3]; exact Heap.get?_push_size _ rfl
  have o4 : (zq5 s.heap a b).get? (n + 4) = some ⟨.type "zip", none, .fields #[.none, .bool false, .bool false, .ref (n + 2), .ref (n + 3)], #[]⟩ := by
    have e := Heap.get?_push_size (zq4 s.heap a b) (o := ⟨.type "zip", none, .fields #[.none, .bool false, .bool false, .ref (zq2 s.heap a b).objs.size, .ref (zq3 s.heap a b).objs.size], #[]⟩) rfl
    rw [n4, n2, n3] at e
    unfold zq5
    rw [n2, n3]
    exact e
  show _ ∧ _
  rw [n4]
  exact ⟨⟨_, o4, rfl⟩, q _ n rfl o4 (k4 _ _ (k3 _ _ o2)) (k4 _ _ o3) ⟨_, k4 _ _ (k3 _ _ (k2 _ _ (k1 _ _ o0))), rfl, rfl⟩ ⟨_, k4 _ _ (k3 _ _ (k2 _ _ o1)), rfl, rfl⟩ fun c o e => k4 _ _ (k3 _ _ (k2 _ _ (k1 _ _ (k0 _ _ e))))⟩
/-- the pairs of a tuple's and a list's things -/
def Itm (K : PySem.W.Frag) (a b : Addr) : L2.It where
  go := fun i H => ∃ xs ys x y, (SqT K H a xs ∧ xs[i]? = some x) ∧ (SqL K H b ys ∧ ys[i]? = some y)
  yld := fun i H v H' => ∃ T x y, (v = V.ref T ∧ H T = none ∧ H' = upd H T (.tup [x, y])) ∧ (∀ xs, SqT K H a xs → xs[i]? = some x) ∧ (∀ ys, SqL K H b ys → ys[i]? = some y)
  stop := fun i H => ∃ xs ys : List V, (SqT K H a xs ∧ SqL K H b ys) ∧ i ≤ xs.length ∧ i ≤ ys.length ∧ (i = xs.length ∨ i = ys.length)
theorem turn_m {P : Program} {w : World} {K : PySem.W.Frag} {els : List Expr} {kk : Nat} {tp : Pos} {a b n : Nat} (ha : a < n) (hb : b < n) :
    Turn P w K (.Tuple els kk tp) (Itm K a b) [n + 4, n + 2, n + 3, n, n + 1] (n + 4) (fun i h => (IsZip h (n + 4) (n + 2) (n + 3) .none ∧ IsTupOf2 h (n + 2) (.ref n) (.ref (n + 1))) ∧ (∃ x y, IsTupOf2 h (n + 3) x y) ∧ h.IsTupleIter n a i ∧ h.IsListIter (n + 1) b i) where
  mem := List.mem_cons_self
  obj := fun i h ⟨⟨z, t⟩, ⟨x, y, u⟩, ⟨o1, e1, _, d1⟩, ⟨o2, e2, _, d2⟩⟩ c hc => by
    rcases in5 hc with rfl | rfl | rfl | rfl | rfl
    · exact ⟨_, z, nofun⟩
    · exact ⟨_, t, nofun⟩
    · exact ⟨_, u, nofun⟩
    · exact ⟨o1, e1, fun v e => by rw [d1] at e; cases e⟩
    · exact ⟨o2, e2, fun v e => by rw [d2] at e; cases e⟩
  keep := fun i h g ⟨⟨z, t⟩, ⟨x, y, u⟩, i1, i2⟩ k => ⟨⟨k _ (by simp) _ z, k _ (by simp) _ t⟩, ⟨x, y, k _ (by simp) _ u⟩, i1.at fun o e => k n (by simp) o e, i2.at fun o e => k (n + 1) (by simp) o e⟩
  item := by
    rintro X rfl rfl rfl calm i pins s σ H E I free ⟨⟨z, t⟩, ⟨x0, y0, u⟩, i1, i2⟩ ⟨xs, ys, x, y, ⟨qx, ex⟩, qy, ey⟩
    obtain ⟨us, ru, pu, _⟩ := I.tuple qx
    obtain ⟨ws, rw_, pw, _⟩ := I.list qy
    obtain ⟨v1, g1, r1⟩ := ru.get ex
    obtain ⟨v2, g2, r2⟩ := rw_.get ey
    have hd := I.ok.hd calm
    have lz : n + 4 < s.heap.objs.size := Heap.lt_size z
    have S := apart5 n a b ha hb
    refine wpAny_pyNext_zipD2_item S (Draws.tuple (A := X.A.in1) hd n a (neN (by omega)) us.toArray) (Draws.list (A := X.A.in1) hd (n + 1) b (neN (by omega)) ws.toArray) z t u ⟨i1, pu⟩ ⟨i2, pw.isList⟩
      (by obtain ⟨l, _⟩ := List.getElem?_eq_some_iff.mp g1; simpa using l) (by obtain ⟨l, _⟩ := List.getElem?_eq_some_iff.mp g2; simpa using l) fun w1 w2 g tk p1 p2 z' u' s1 s2 nt _ kp => ?_
    have q1 : w1 = v1 := by have e : us[i]? = some w1 := by simpa using p1
                            rw [g1] at e; exact (Option.some.inj e).symm
    have q2 : w2 = v2 := by have e : ws[i]? = some w2 := by simpa using p2
                            rw [g2] at e; exact (Option.some.inj e).symm
    subst q1 q2
    refine ⟨_, rfl, wpAny_letOwnedTupleGo_zip (s := { s with heap := g, toks := tk }) z' fun g2' z2 sb => ?_⟩
    have far : ∀ {c}, c ∉ [n + 4, n + 2, n + 3, n, n + 1] → c ≠ n + 4 ∧ c ≠ n + 3 ∧ c ≠ n ∧ c ≠ n + 1 := fun {c} h => ⟨fun e => h (by simp [e]), fun e => h (by simp [e]), fun e => h (by simp [e]), fun e => h (by simp [e])⟩
    have all : ∀ c o, c ∉ [n + 4, n + 2, n + 3, n, n + 1] → s.heap.get? c = some o → g2'.get? c = some o := fun c o h e => by
      obtain ⟨f1, f2, f3, f4⟩ := far h
      exact (sb.2 c f1).trans (kp c o f1 f2 f3 f4 e)
    have at_ : g2'.get? s.heap.objs.size = some { cls := .type "tuple", data := .seq #[w1, w2] } := (sb.2 _ (Nat.ne_of_gt lz)).trans nt
    have ob : ObjOk X.prog X.w (upd H s.heap.objs.size (.tup [x, y])) g2' s.heap.objs.size (.tup [x, y]) := ⟨(by decide : 2 ≤ sizeLine), [w1, w2], .cons r1 (.cons r2 .nil), _, at_, rfl, _, rfl⟩
    refine ⟨.ref s.heap.objs.size, _, I.turnedNew (t' := tk) (ch := [n + 4, n + 2, n + 3, n, n + 1]) all free (Nat.le_refl _) ob, rfl, ⟨_, x, y, ⟨rfl, I.hok.fresh (Nat.le_refl _), rfl⟩, fun l hl => by rw [I.tuple_inj hl qx]; exact ex, fun l hl => by rw [I.list_inj hl qy]; exact ey⟩,
      ⟨⟨z2, (sb.2 _ (neN (by omega))).trans (kp _ _ (neN (by omega)) (neN (by omega)) (neN (by omega)) (neN (by omega)) t)⟩, ⟨w1, w2, (sb.2 _ (neN (by omega))).trans u'⟩, s1.1.at fun o e => (sb.2 n (neN (by omega))).trans e, s2.1.at fun o e => (sb.2 (n + 1) (neN (by omega))).trans e⟩, fun c hc => ?_⟩
    have lc : c < s.heap.objs.size := by
      refine Nat.lt_of_le_of_lt ?_ lz
      rcases in5 hc with e | e | e | e | e
      · rw [e]; exact Nat.le_refl _
      · rw [e]; exact Nat.add_le_add_left (by decide) n
      · rw [e]; exact Nat.add_le_add_left (by decide) n
      · rw [e]; exact Nat.le_add_right n 4
      · rw [e]; exact Nat.add_le_add_left (by decide) n
    rw [upd_ne (Nat.ne_of_lt lc)]
    exact (free c hc).1
  done := by
    rintro X rfl rfl rfl calm i pins s σ H E I free ⟨⟨z, t⟩, ⟨x0, y0, u⟩, i1, i2⟩ ⟨xs, ys, ⟨qx, qy⟩, last⟩
    obtain ⟨us, ru, pu, _⟩ := I.tuple qx
    obtain ⟨ws, rw_, pw, _⟩ := I.list qy
    have hd := I.ok.hd calm
    have l1 := ru.length
    have l2 := rw_.length
    exact wpAny_pyNext_zipD2_end (apart5 n a b ha hb) (Draws.tuple (A := X.A.in1) hd n a (neN (by omega)) us.toArray) (Draws.list (A := X.A.in1) hd (n + 1) b (neN (by omega)) ws.toArray) z t u ⟨i1, pu⟩ ⟨i2, pw.isList⟩
      (by rw [List.size_toArray, ← l1]; exact last.1) (by rw [List.size_toArray, ← l2]; exact last.2.1) (by rw [List.size_toArray, List.size_toArray, ← l1, ← l2]; exact last.2.2)
      fun g tk kp => ⟨rfl, I.turnedL (t' := tk) (ch := [n + 4, n + 2, n + 3, n, n + 1]) (fun c o h e => kp c o (fun e => h (by simp [e])) (fun e => h (by simp [e])) (fun e => h (by simp [e])) (fun e => h (by simp [e])) e) free⟩
  self := fun A i s Q E st q => wpAny_pyIter_zip st.1.1 q
def iZm (K : PySem.W.Frag) (ta : TA) : TI := fun σ H R => ta σ H fun vs G => ∃ a b xs ys, (vs = [V.ref a, V.ref b] ∧ SqT K G a xs) ∧ SqL K G b ys ∧ R (Itm K a b) G
/-- zip of a tuple and a list is walked -/
theorem pi_zm {X : Cx} {x y : Expr} {ta : TA} {p pos tp : Pos} {els : List Expr} {kk : Nat} (hg : Gl X "zip") (hm : X.mg "zip" = none) (ha : PA X [x, y] ta) (hs : starEach [x, y] X.env = (false, eval x X.env) :: starEach [y] X.env := by rfl)
    (hp : (backTo pos (starEach [y] X.env)).any (·.1) = false := by rfl) : PI X (.Tuple els kk tp) (.Call (.Name "zip" p) [x, y] [] pos) (iZm X.K ta) := by
  refine ⟨fun pins s σ H R I h => ?_⟩
  have hr := ha.run pos pins s σ H _ I h
  refine Call_ (ld_blt I hg hm PyProof.Rows.boot_zip (PyProof.Rows.callWith_type1 (thn hr fun us s1 ⟨vs, G, I1, r1, told⟩ => ?_) hs hp))
  obtain ⟨a, b, xs, ys, ⟨e, qx⟩, qy, r⟩ := told
  subst e
  cases r1 with
  | cons ra rs =>
    cases rs with
    | cons rb rs =>
    cases rs
    cases ra
    cases rb
    obtain ⟨ts, _, pt, _⟩ := I1.tuple qx
    obtain ⟨ls, _, pl, _⟩ := I1.list qy
    obtain ⟨o1, e1, _⟩ := id pt
    refine call_zq (show s1.heap.IsTuple a ts.toArray from pt) pl.isList fun g n hn z t u i1 i2 kp => wpAny_pyIter_zip z ?_
    have J : Inv X pins σ G { s1 with heap := g } := I1.kept (t' := s1.toks) kp
    refine ⟨n + 4, [n + 4, n + 2, n + 3, n, n + 1], _, _, G, rfl, J, turn_m (by rw [hn]; exact Heap.lt_size e1) (by rw [hn]; exact pl.lt), ⟨⟨z, t⟩, ⟨_, _, u⟩, i1, i2⟩, fun c hc => ?_, r⟩
    have le : s1.heap.objs.size ≤ c := by
      rw [← hn]
      rcases in5 hc with e | e | e | e | e
      · rw [e]; exact Nat.le_add_right n 4
      · rw [e]; exact Nat.le_add_right n 2
      · rw [e]; exact Nat.le_add_right n 3
      · rw [e]; exact Nat.le_refl _
      · rw [e]; exact Nat.le_add_right n 1
    exact I1.fpOk le (I1.hok.fresh le)
/-- as data -/
def zipD (ds es : List PyData) : List PyData := (ds.zip es).map fun p => .tuple [p.1, p.2]
theorem zipD_at {ds es : List PyData} {i : Nat} {d : PyData} (h : (zipD ds es)[i]? = some d) : ∃ x y, ds[i]? = some x ∧ es[i]? = some y ∧ d = .tuple [x, y] := by
  unfold zipD at h
  rw [List.getElem?_map] at h
  cases e : (ds.zip es)[i]? with
  | none => rw [e] at h; cases h
  | some p =>
    rw [e] at h
    obtain ⟨h1, h2⟩ := List.getElem?_zip_eq_some.mp e
    exact ⟨p.1, p.2, h1, h2, (Option.some.inj h).symm⟩
theorem zipD_len {ds es : List PyData} (h : ds.length ≤ es.length) : (zipD ds es).length = ds.length := by unfold zipD; simp; omega
section
variable {K : PySem.W.Frag} {M : Md} {σ : L2.St} {J H : Hp} {ta tb : TE} {ds es : List PyData}
theorem ew_zm (h : EvD K M ta σ J H (.tuple ds)) (g : EvD K M tb σ J H (.list es)) (hl : ds.length ≤ es.length) : EvW K M (iZm K (tCons ta (tCons tb tNil))) σ J H (· = zipD ds es) := fun J1 H1 w t R q =>
  h J1 H1 w t _ fun v d J2 H2 w2 t2 e a => g J2 H2 w2 (t.trans t2) _ fun v' d' J3 H3 w3 t3 e' a' => by
    subst e
    subst e'
    obtain ⟨x, xs, rfl, lx, dx⟩ := da_tup (t3.jj.da a)
    obtain ⟨y, ys, rfl, ly, dy⟩ := da_lst a'
    have hx := das_len dx
    have hy := das_len dy
    refine ⟨x, y, xs, ys, ⟨rfl, w3.jh.t lx⟩, .of (w3.jh _ _ ly), q _ _ J3 H3 w3 (t2.trans t3) rfl ⟨fun i G hi s => ?_, fun G s => ?_, fun i G z G' d hd s yl => ?_⟩⟩
    · rw [zipD_len hl] at hi
      have i1 : i < xs.length := by omega
      have i2 : i < ys.length := by omega
      exact ⟨xs, ys, xs[i], ys[i], ⟨s.t lx, List.getElem?_eq_getElem i1⟩, .of (s _ _ ly), List.getElem?_eq_getElem i2⟩
    · rw [zipD_len hl]
      exact ⟨xs, ys, ⟨s.t lx, .of (s _ _ ly)⟩, by omega, by omega, by omega⟩
    · obtain ⟨T, u, u', ⟨rfl, hT, rfl⟩, y1, y2⟩ := yl
      obtain ⟨p, p', e1, e2, rfl⟩ := zipD_at hd
      obtain ⟨c, g1, a1⟩ := das_at dx (y1 xs (s.t lx))
      obtain ⟨c', g2, a2⟩ := das_at dy (y2 ys (.of (s _ _ ly)))
      rw [e1] at g1
      rw [e2] at g2
      cases g1
      cases g2
      exact .inr ⟨T, _, _, rfl, hT, rfl, rfl, .cons a1 (.cons a2 .nil)⟩
theorem ew_zt (h : EvD K M ta σ J H (.tuple ds)) (g : EvD K M tb σ J H (.tuple es)) (hl : ds.length ≤ es.length) : EvW K M (RZ.iZipA K (tCons ta (tCons tb tNil))) σ J H (· = zipD ds es) := fun J1 H1 w t R q =>
  h J1 H1 w t _ fun v d J2 H2 w2 t2 e a => g J2 H2 w2 (t.trans t2) _ fun v' d' J3 H3 w3 t3 e' a' => by
    subst e
    subst e'
    obtain ⟨x, xs, rfl, lx, dx⟩ := da_tup (t3.jj.da a)
    obtain ⟨y, ys, rfl, ly, dy⟩ := da_tup a'
    have hx := das_len dx
    have hy := das_len dy
    refine ⟨x, y, xs, ys, rfl, .inr ⟨w3.jh.t lx, w3.jh.t ly, q _ _ J3 H3 w3 (t2.trans t3) rfl ⟨fun i G hi s => ?_, fun G s => ?_, fun i G z G' d hd s yl => ?_⟩⟩⟩
    · rw [zipD_len hl] at hi
      have i1 : i < xs.length := by omega
      have i2 : i < ys.length := by omega
      exact ⟨xs, ys, xs[i], ys[i], s.t lx, s.t ly, List.getElem?_eq_getElem i1, List.getElem?_eq_getElem i2⟩
    · rw [zipD_len hl]
      exact ⟨xs, ys, s.t lx, s.t ly, by omega⟩
    · obtain ⟨T, u, u', rfl, hT, rfl, y1, y2⟩ := yl
      obtain ⟨p, p', e1, e2, rfl⟩ := zipD_at hd
      obtain ⟨c, g1, a1⟩ := das_at dx (y1 xs (s.t lx))
      obtain ⟨c', g2, a2⟩ := das_at dy (y2 ys (s.t ly))
      rw [e1] at g1
      rw [e2] at g2
      cases g1
      cases g2
      exact .inr ⟨T, _, _, rfl, hT, rfl, rfl, .cons a1 (.cons a2 .nil)⟩
end
end DL

/-! The draws of other laws: int() stands elsewhere, and a part of the script is taken. -/
namespace DL
open PySem PySem.Spec
open PyProof.Rows L2
local macro_rules | `(tactic| walk_at "rep") => `(tactic| first | assumption | exact Da.int _ | exact Da.bl _ | exact Da.str _ | exact Da.non | exact Sub.da (by assumption) (by assumption) | exact Sub.da (Tr.jj (by assumption)) (by assumption))
local macro_rules | `(tactic| walk_at "arith") => `(tactic| first | assumption | omega | decide | exact cmul_small (by omega) (by omega) | exact cdiv_small (by omega) (by omega))
local macro_rules | `(tactic| walk_at "shp") => `(tactic| first | exact sh_int _ | exact sh_tup _ | exact sh_list _ | assumption)
local macro_rules | `(tactic| walk_at "od") => `(tactic| first
  | with_reducible exact od_plus
  | with_reducible exact od_sub
  | ((with_reducible refine' od_mul ?h1); walk_at "arith")
  | ((with_reducible refine' od_mod ?h1); walk_at "arith")
  | ((with_reducible refine' od_fdiv ?h1); walk_at "arith")
  | ((with_reducible refine' od_pow ?h1); exact ⟨by decide, by decide, by decide⟩)
  | with_reducible exact od_lt | with_reducible exact od_le | with_reducible exact od_gt | with_reducible exact od_ge
  | ((with_reducible refine' od_plusT ?h1); walk_at "arith")
  | ((with_reducible refine' od_plusL ?h1); walk_at "arith")
  | ((with_reducible refine' od_plusS ?h1); walk_at "arith")
  | with_reducible exact od_isN | with_reducible exact od_notN
  | ((with_reducible refine od_eq ?_ ?_) <;> walk_at "shp")
  | ((with_reducible refine od_ne ?_ ?_) <;> walk_at "shp")
  | ((with_reducible refine od_inL ?_ ?_) <;> walk_at "shp")
  | ((with_reducible refine od_ixL ?_); assumption)
  | ((with_reducible refine od_ixT ?_); assumption))
local macro_rules | `(tactic| walk_at "ea") => `(tactic| first | with_reducible exact ea_nil | ((with_reducible refine' ea_consD ?h1 ?h2); (case h1 => walk_at "ev"); (case h2 => walk_at "ea")))
local macro_rules | `(tactic| walk_at "eo") => `(tactic| first | with_reducible exact eo_none | ((with_reducible refine' eo_at ?h1); (case h1 => walk_at "ev")))
local macro_rules | `(tactic| walk_at "cd") => `(tactic| first
  | with_reducible exact cd_lenL | with_reducible exact cd_lenT | with_reducible exact cd_tupL | with_reducible exact cd_tupT | with_reducible exact cd_lstL | with_reducible exact cd_lstT | with_reducible exact cd_abs | with_reducible exact cd_int)
local macro_rules | `(tactic| walk_at "ev") => `(tactic| first
  | with_reducible exact ev_int | with_reducible exact ev_bl | with_reducible exact ev_str | with_reducible exact ev_non
  | ((with_reducible refine' ev_var ?h1 ?h2); (case h1 => exact rfl); (case h2 => walk_at "rep"))
  | ((with_reducible refine' ev_opD ?h1 ?h2 ?h3); (case h1 => walk_at "ev"); (case h2 => walk_at "ev"); (case h3 => walk_at "od"))
  | ((with_reducible refine' ev_tupD ?h1); (case h1 => walk_at "ea"))
  | ((with_reducible refine' ev_lstD ?h1); (case h1 => walk_at "ea"))
  | ((with_reducible refine' ev_revL ?h1); (case h1 => walk_at "ev"))
  | ((with_reducible refine' ev_slD ?h1 ?h2 ?h3 ?h4); (case h1 => walk_at "ev"); (case h2 => walk_at "eo"); (case h3 => walk_at "eo"); (case h4 => first | with_reducible exact sd_tup | with_reducible exact sd_list))
  | ((with_reducible refine' ev_cbD ?h1 ?h2); (case h1 => walk_at "ea"); (case h2 => walk_at "cd"))
  | ((with_reducible refine' ev_notV ?h1); (case h1 => walk_at "ev"))
  | assumption)
local macro_rules | `(tactic| walk_at "et") => `(tactic| first
  | ((with_reducible refine' et_testD ?h1); (case h1 => walk_at "ev"))
  | ((with_reducible refine' et_BD ?h1); (case h1 => walk_at "ev"))
  | ((with_reducible refine' et_notD ?h1); (case h1 => walk_at "et"))
  | ((with_reducible refine' et_andD ?h1 ?h2); (case h1 => walk_at "et"); (case h2 => intro _; walk_at "et"))
  | ((with_reducible refine' et_orD ?h1 ?h2); (case h1 => walk_at "et"); (case h2 => intro _; walk_at "et"))
  | assumption)
section
variable {K : PySem.W.Frag} {M : Md} {h g : Addr} {J H : Hp}
/-- a draw, as other laws write it: the number is made one behind the pop (c: what their numbers are mixed with) -/
def tDraw2 (K : PySem.W.Frag) (c : Int) : TS :=
  tSeq (tWhile (tAnd (tTest (tOp (rNeD K) (tH0 K) (tLst tNil))) (tTest (tOp (rEqD K) (tOp (rIx K) (tH0 K) (tUn (rU fun i => .int (-i)) (tC (.int 1)))) (tC (.int 0))))) (tDrop (tBM0 K "list" rPop (tH0 K))))
  (tSeq (tIfS (tTest (tOp (rNeD K) (tH0 K) (tLst tNil))) (tSeq (tAsg (tBM0 K "list" rPop (tH0 K)) (gName 2)) (tSeq (tDrop (tBM K "list" rAppend (tH0 K) (tCons (tOp rDiv (tVar 2) (tVar 1)) tNil))) (tRet (tOp rMod (tCB rInt1 (tCons (tVar 2) tNil)) (tVar 1))))) tNext)
  (tSeq (tAsg (tOp rMod (tCB rInt1 (tCons (tOp (rPlus K) (tOp rMul (tH1 K) (tC (.int 48271))) (tC (.int c))) tNil)) (tC (.int 2147483647))) (gSub (tVar 0) (tC (.int 1)) rSetL)) (tRet (tOp rMod (tCB rInt1 (tCons (tOp rDiv (tH1 K) (tC (.int 64))) tNil)) (tVar 1)))))
variable {σ : L2.St} {Q : VK} {cs : List Int} {n : Int}
theorem rd_draw2 (hd : HasDr M h g) (w : Wf M J H) (hn : 0 < n) (hn2 : n < 2 ^ 64) {c : Int} (hc : 0 ≤ c ∧ c < 2 ^ 60) (q : ∀ i H', Wf M J H' → Tr M J H J H' → 0 ≤ i → i < n → Q (.int i) H') :
    tDraw2 K c { nx := fun _ H' => Q .non H', rt := Q } [some (.ref h), some (.int n), none] H := by
  obtain ⟨cs0, m0, x0⟩ := drAt_of (hd.ok H w.inv)
  have go : ∀ {G : Hp} {cs m}, (∀ a o, a ≠ h → a ≠ g → H a = some o → G a = some o) → DrAt h g cs m G → Tr M J H J G := fun k x => dr_tr hd w k x.ok
  refine ⟨fun m σ G => σ = [some (.ref h), some (.int n), none] ∧ (∀ a o, a ≠ h → a ≠ g → H a = some o → G a = some o) ∧ ∃ cs k, DrAt h g cs k G ∧ cs.length = m, ⟨_, rfl, fun _ _ _ _ e => e, cs0, m0, x0, rfl⟩, ?_⟩
  rintro m σ G ⟨rfl, kp, cs, k, x, rfl⟩
  have kn : ∀ {G : Hp} {p : Addr} {o : HO}, (∀ a o, a ≠ h → a ≠ g → H a = some o → G a = some o) → G p = none → ∀ a u, a ≠ h → a ≠ g → H a = some u → upd G p o a = some u := fun {G p o} kp hp a u n1 n2 e => by
    rw [upd_ne (ne_of_none (kp a u n1 n2 e) hp)]; exact kp a u n1 n2 e
  have kg : ∀ {G : Hp} {o : HO}, (∀ a o, a ≠ h → a ≠ g → H a = some o → G a = some o) → ∀ a u, a ≠ h → a ≠ g → H a = some u → upd G g o a = some u := fun {G o} kp a u n1 n2 e => by
    rw [upd_ne n2]; exact kp a u n1 n2 e
  have kh : ∀ {G : Hp} {o : HO}, (∀ a o, a ≠ h → a ≠ g → H a = some o → G a = some o) → ∀ a u, a ≠ h → a ≠ g → H a = some u → upd G h o a = some u := fun {G o} kp a u n1 n2 e => by
    rw [upd_ne n1]; exact kp a u n1 n2 e
  -- behind the while
  have rest : ∀ {G : Hp} {cs : List Int} {k : Int}, (∀ a o, a ≠ h → a ≠ g → H a = some o → G a = some o) → DrAt h g cs k G →
      tSeq (tIfS (tTest (tOp (rNeD K) (tH0 K) (tLst tNil))) (tSeq (tAsg (tBM0 K "list" rPop (tH0 K)) (gName 2)) (tSeq (tDrop (tBM K "list" rAppend (tH0 K) (tCons (tOp rDiv (tVar 2) (tVar 1)) tNil))) (tRet (tOp rMod (tCB rInt1 (tCons (tVar 2) tNil)) (tVar 1))))) tNext)
        (tSeq (tAsg (tOp rMod (tCB rInt1 (tCons (tOp (rPlus K) (tOp rMul (tH1 K) (tC (.int 48271))) (tC (.int c))) tNil)) (tC (.int 2147483647))) (gSub (tVar 0) (tC (.int 1)) rSetL)) (tRet (tOp rMod (tCB rInt1 (tCons (tOp rDiv (tH1 K) (tC (.int 64))) tNil)) (tVar 1))))
        { nx := fun _ H' => Q .non H', rt := Q } [some (.ref h), some (.int n), none] G := by
    intro G cs k kp x
    refine rd_full rfl x fun p hp => ?_
    have x1 := x.new (o := .lst []) hp
    have kp1 := kn (o := .lst []) kp hp
    by_cases hcs : cs = []
    · rw [decide_eq_true hcs]
      refine rd_h1 rfl x1 ⟨k, 48271, rfl, rfl, cmul_small (by have := x1.n0; have := x1.n1; omega) (by decide), ?_⟩
      refine .inl ⟨_, c, rfl, rfl, .inl ⟨_, rfl, _, 2147483647, rfl, rfl, (by show (0 : Int) < 2147483647; decide), .ref h, rfl, ?_⟩⟩
      refine ⟨h, _, 1, 1, rfl, rfl, x1.hh, rfl, ?_⟩
      have x2 : DrAt h g cs ((k * 48271 + c) % 2147483647) (upd (upd G p (.lst [])) h (.lst [.ref g, .int ((k * 48271 + c) % 2147483647)])) :=
        ⟨upd_same, (upd_ne hd.ne.symm).trans x1.hg, x1.pos, x1.few, by omega, by omega⟩
      have t := go (kh kp1) x2
      refine rd_h1 rfl x2 ⟨_, 64, rfl, rfl, cdiv_small (by decide) (by decide), .inl ⟨_, rfl, .int n, rfl, _, n, rfl, rfl, hn, ?_⟩⟩
      exact q _ _ (t.wf w) t (Int.emod_nonneg _ (by omega)) (Int.emod_lt_of_pos _ hn)
    · rw [decide_eq_false hcs]
      obtain ⟨ds, z, rfl⟩ : ∃ ds z, cs = ds ++ [z] := ⟨cs.dropLast, cs.getLast hcs, (List.dropLast_concat_getLast hcs).symm⟩
      refine rd_h0 rfl x1 ⟨.inl ⟨rfl, _, .of x1.hg⟩, g, _, .int z, rfl, rfl, x1.hg, by simp, ?_⟩
      have z0 : 0 ≤ z := x1.pos z (by simp)
      have x2 : DrAt h g ds k (upd (upd G p (.lst [])) g (.lst (ds.map V.int))) :=
        ⟨(upd_ne hd.ne).trans x1.hh, upd_same, fun y hy => x1.pos y (by simp [hy]), by have := x1.few; rw [List.length_append] at this; omega, x1.n0, x1.n1⟩
      have e1 : ((ds ++ [z]).map V.int).dropLast = ds.map V.int := by rw [List.map_append]; simp
      rw [e1]
      refine rd_h0 rfl x2 ⟨.inl ⟨rfl, _, .of x2.hg⟩, _, rfl, _, rfl, z, n, rfl, rfl, cdiv_small hn hn2, g, _, .int (z / n), rfl, rfl, x2.hg, ?_, ?_⟩
      · have := x2.few
        rw [List.length_map]
        exact Nat.lt_of_le_of_lt this (by decide)
      · have x3 : DrAt h g (ds ++ [z / n]) k (upd (upd (upd G p (.lst [])) g (.lst (ds.map V.int))) g (.lst (ds.map V.int ++ [.int (z / n)]))) :=
          ⟨(upd_ne hd.ne).trans x2.hh, by rw [upd_same, List.map_append]; rfl, fun y hy => by
            rcases List.mem_append.mp hy with hy | hy
            · exact x2.pos y hy
            · rw [List.mem_singleton.mp hy]; exact Int.ediv_nonneg z0 (by omega), by have := x1.few; rw [List.length_append] at this ⊢; exact this, x1.n0, x1.n1⟩
        have t := go (kg (kg kp1)) x3
        exact ⟨.int z, rfl, .inl ⟨z, rfl, .int n, rfl, z, n, rfl, rfl, hn, q _ _ (t.wf w) t (Int.emod_nonneg _ (by omega)) (Int.emod_lt_of_pos _ hn)⟩⟩
  refine rd_full rfl x fun p hp => ?_
  have x1 := x.new (o := .lst []) hp
  have kp1 := kn (o := .lst []) kp hp
  by_cases hcs : cs = []
  · rw [decide_eq_true hcs]
    exact rest kp1 x1
  · rw [decide_eq_false hcs]
    obtain ⟨ds, z, rfl⟩ : ∃ ds z, cs = ds ++ [z] := ⟨cs.dropLast, cs.getLast hcs, (List.dropLast_concat_getLast hcs).symm⟩
    refine rd_h0 rfl x1 ⟨1, rfl, .inl ⟨g, _, -1, .int z, rfl, rfl, .of x1.hg, atI_last, .int z, .int 0, .int z, .int 0, sh_int z, sh_int 0, _, rfl, ?_⟩⟩
    rw [eqv_int]
    by_cases hz : z = 0
    · rw [decide_eq_true hz]
      have x2 : DrAt h g ds k (upd (upd G p (.lst [])) g (.lst (ds.map V.int))) :=
        ⟨(upd_ne hd.ne).trans x1.hh, upd_same, fun y hy => x1.pos y (by simp [hy]), by have := x1.few; rw [List.length_append] at this; omega, x1.n0, x1.n1⟩
      refine ⟨fun σ' G' => σ' = [some (.ref h), some (.int n), none] ∧ (∀ a o, a ≠ h → a ≠ g → H a = some o → G' a = some o) ∧ ∃ k, DrAt h g ds k G', fun σ' G' ⟨e, b, k', b2⟩ => ⟨ds.length, by rw [List.length_append]; exact Nat.lt_succ_self _, e, b, ds, k', b2, rfl⟩, ?_⟩
      refine rd_h0 rfl x1 ⟨.inl ⟨rfl, _, .of x1.hg⟩, g, _, .int z, rfl, rfl, x1.hg, by simp, rfl, ?_⟩
      have e1 : ((ds ++ [z]).map V.int).dropLast = ds.map V.int := by rw [List.map_append]; simp
      rw [e1]
      exact ⟨kg kp1, k, x2⟩
    · rw [decide_eq_false hz]
      exact rest kp1 x1
end
/-- the list of draws, as the laws make it -/
def tHeap2 (K : PySem.W.Frag) (p q m c : Int) : TS :=
  tSeq (tAsg (tLc (iList K (tSl (rSlL K) (tVar 0) (tPart (tVar 1)) (tPart (tOp (rPlus K) (tVar 1) (tC (.int 50)))))) (gName 4) tYes (tCB rAbs (tCons (tVar 4) tNil)) [4]) (gName 2))
  (tSeq (tAsg (tOp (rPlus K) (tC (.int p)) (tOp rMul (tC (.int q)) (tVar 1))) (gName 3))
  (tSeq (tFor (iList K (tVar 2)) (gName 4) (tAsg (tOp rMod (tCB rInt1 (tCons (tOp (rPlus K) (tOp (rPlus K) (tOp rMul (tVar 3) (tC (.int 48271))) (tOp rMod (tCB rInt1 (tCons (tVar 4) tNil)) (tC (.int m)))) (tC (.int c))) tNil)) (tC (.int 2147483647))) (gName 3)))
  (tRet (tLst (tCons (tRevL K (tLc (iList K (tVar 2)) (gName 4) (tTest (tOp (rI0 fun i j => .bl (decide (j ≤ i))) (tVar 4) (tOp (rI CPow fun i j => .int (i ^ j.toNat)) (tC (.int 10)) (tC (.int 18))))) (tVar 4) [4])) (tCons (tVar 3) tNil))))))
theorem rd_heap2 {K : PySem.W.Frag} {H : Hp} {Q : VK} {a : Addr} {ns : List Int} {b p q m c : Int} (hS : SqL K H a (ns.map V.int)) (hp : 0 ≤ p ∧ p < 1000000000) (hq : 0 ≤ q ∧ q < 1000) (hb : 0 ≤ b ∧ b < 1000) (hm : 0 < m ∧ m < 2 ^ 32) (hc : 0 ≤ c ∧ c < 1000)
    (k : ∀ h g H', (∀ a o, H a = some o → H' a = some o) → H h = none → H g = none → h ≠ g → drOk h g H' → Q (.ref h) H') : tHeap2 K p q m c { nx := fun _ H' => Q .non H', rt := Q } [some (.ref a), some (.int b), none, none, none] H := by
  have w0 : Wf Md.pure (fun _ => none) H := ⟨(fun _ _ e => by cases e), trivial, nofun, nofun⟩
  have l63 : (cutA ns (some b) (some (b + 50))).length ≤ 63 := by
    obtain ⟨m, rfl⟩ : ∃ m : Nat, b = m := ⟨b.toNat, by omega⟩
    have e := cutA_nat ns m (m + 50)
    rw [show ((m + 50 : Nat) : Int) = (m : Int) + 50 by omega] at e
    rw [e, List.length_take]
    omega
  refine s_asgD (K := K) (d := .list (oD ((cutA ns (some b) (some (b + 50))).map absI))) w0 ?_ fun v1 J1 H1 w1 t1 a1 => ?_
  · rw [← dAbs_map]
    refine ev_lcMap (ew_listD (ev_script rfl hS (by walk_at "eo") (by walk_at "eo"))) (by rw [oD_len]; exact Nat.lt_of_le_of_lt l63 (by decide)) (fun x => rfl) fun d x J1 H1 hd w t ax => ?_
    obtain ⟨n, hn⟩ := List.getElem?_of_mem hd
    obtain ⟨i, _, rfl⟩ := oD_at hn
    show EvD K Md.pure _ _ _ _ (.int (absI i))
    unfold absI
    walk_at "ev"
  generalize hcs : (cutA ns (some b) (some (b + 50))).map absI = cs at a1
  have cpos : ∀ x ∈ cs, 0 ≤ x := fun x hx => by
    rw [← hcs] at hx
    obtain ⟨y, _, rfl⟩ := List.mem_map.mp hx
    exact absI_pos y
  have clen : cs.length ≤ 63 := by rw [← hcs, List.length_map]; exact l63
  dsimp only
  refine s_asgI (K := K) w1 (i := p + q * b) ?_ fun J2 H2 w2 t2 => ?_
  · walk_at "ev"
  have a2 := t2.jj.da a1
  dsimp only
  have z1 : 0 ≤ q * b := Int.mul_nonneg hq.1 hb.1
  have z2 : q * b ≤ 1000 * 1000 := Int.mul_le_mul (by omega) (by omega) hb.1 (by decide)
  refine s_forD (K := K) (oD cs) (fun i σ' J' H' => ∃ n o, σ' = [some (.ref a), some (.int b), some v1, some (.int n), o] ∧ 0 ≤ n ∧ n < 2147483647) w0 (t1.trans t2) ?_ (fun J2 H2 _ _ => ⟨p + q * b, none, rfl, by omega, by omega⟩) (fun i σ' J' H' T xs h _ => h) ?_ ?_
  · exact ew_listD (by walk_at "ev")
  · rintro i d x σ' J2 J' H' hdi w' t' s1 s2 ⟨n, o, rfl, n0, n1⟩ ax
    obtain ⟨y, hy, rfl⟩ := oD_at hdi
    rw [da_int ax]
    have m0 : 0 ≤ y % m := Int.emod_nonneg _ (by omega)
    have m1 : y % m < m := Int.emod_lt_of_pos _ (by omega)
    refine s_asgI (K := K) w' (i := (n * 48271 + y % m + c) % 2147483647) ?_ fun J1 H1 w1 t1 => ⟨J1, w1, t'.trans t1, s2.trans t1.jj, (n * 48271 + y % m + c) % 2147483647, some (.int y), rfl, by omega, by omega⟩
    walk_at "ev"
  rintro σ' J' H' w' t' s1 ⟨n, o, rfl, n0, n1⟩
  have a3 := s1.da a2
  dsimp only
  refine s_retD (K := K) (d := .list [.list (oD (cs.filter fun i => decide ((10 : Int) ^ 18 ≤ i)).reverse), .int n]) w' ?_ fun v J3 H3 w3 t3 a3 => ?_
  · refine ev_lstD (ea_consD ?_ (by walk_at "ea"))
    rw [← oD_rev, ← dBig_filter]
    refine ev_revL ?_
    have e : (oD cs).filter dBig = ((oD cs).filter dBig).map id := by simp
    rw [e]
    refine ev_lcFilter (ew_listD (by walk_at "ev")) (by rw [oD_len]; exact Nat.lt_of_le_of_lt clen (by decide)) (fun x => rfl) (fun d x J1 H1 hd w t ax => ?_) fun d x J1 H1 hd _ w t ax => ?_
    · obtain ⟨k, hk⟩ := List.getElem?_of_mem hd
      obtain ⟨i, _, rfl⟩ := oD_at hk
      show EvT Md.pure _ _ _ _ (· = decide ((10 : Int) ^ (18 : Int).toNat ≤ i))
      walk_at "et"
    · show EvD K Md.pure _ _ _ _ d
      walk_at "ev"
  have tt := t'.trans t3
  obtain ⟨h, xs, rfl, jh, ha⟩ := da_lst a3
  cases ha with
  | cons b1 b2 =>
    obtain ⟨u, rfl, b3⟩ := das_one b2
    obtain ⟨g, ys, rfl, jg, hb⟩ := da_lst b1
    have eu := da_int b3
    subst eu
    have ey := das_ints_eq (ns := (cs.filter fun i => decide ((10 : Int) ^ 18 ≤ i)).reverse) hb
    subst ey
    have fresh : ∀ {x o}, J3 x = some o → H x = none := fun {x o} e => by
      cases q : H x with
      | none => rfl
      | some u => rw [tt.frp x (by rw [q]; exact nofun) rfl] at e; cases e
    refine k h g H3 (fun a o e => tt.keep a o (fun z => z) e) (fresh jh) (fresh jg) (fun e => ?_) ⟨_, n, tt.jh _ _ jh, tt.jh _ _ jg, fun x hx => ?_, ?_, n0, n1⟩
    · rw [e, jg] at jh
      have z := HO.lst.inj (Option.some.inj jh)
      cases hl : (cs.filter fun i => decide ((10 : Int) ^ 18 ≤ i)).reverse with
      | nil => rw [hl] at z; cases z
      | cons i is => rw [hl] at z; cases z
    · exact cpos x (List.mem_filter.mp (List.mem_reverse.mp hx)).1
    · rw [List.length_reverse]
      exact Nat.le_trans (List.length_filter_le _ _) clen
end DL

/-! More rules over data: comprehensions over pairs, any, sorted, isinstance, dicts that are only read, lists of one's own looked at while they grow. -/
namespace DL
open PySem PySem.Spec
open PyProof.Rows L2
local macro_rules | `(tactic| walk_at "rep") => `(tactic| first | assumption | exact Da.int _ | exact Da.bl _ | exact Da.str _ | exact Da.non | exact Sub.da (by assumption) (by assumption) | exact Sub.da (Tr.jj (by assumption)) (by assumption))
local macro_rules | `(tactic| walk_at "arith") => `(tactic| first | assumption | omega | decide | exact cmul_small (by omega) (by omega) | exact cdiv_small (by omega) (by omega))
local macro_rules | `(tactic| walk_at "shp") => `(tactic| first | exact sh_int _ | exact sh_tup _ | exact sh_list _ | assumption)
local macro_rules | `(tactic| walk_at "od") => `(tactic| first
  | with_reducible exact od_plus
  | with_reducible exact od_sub
  | ((with_reducible refine' od_mul ?h1); walk_at "arith")
  | ((with_reducible refine' od_mod ?h1); walk_at "arith")
  | ((with_reducible refine' od_fdiv ?h1); walk_at "arith")
  | ((with_reducible refine' od_pow ?h1); exact ⟨by decide, by decide, by decide⟩)
  | with_reducible exact od_lt | with_reducible exact od_le | with_reducible exact od_gt | with_reducible exact od_ge
  | ((with_reducible refine' od_plusT ?h1); walk_at "arith")
  | ((with_reducible refine' od_plusL ?h1); walk_at "arith")
  | ((with_reducible refine' od_plusS ?h1); walk_at "arith")
  | with_reducible exact od_isN | with_reducible exact od_notN
  | ((with_reducible refine od_eq ?_ ?_) <;> walk_at "shp")
  | ((with_reducible refine od_ne ?_ ?_) <;> walk_at "shp")
  | ((with_reducible refine od_inL ?_ ?_) <;> walk_at "shp")
  | ((with_reducible refine od_ixL ?_); assumption)
  | ((with_reducible refine od_ixT ?_); assumption))
local macro_rules | `(tactic| walk_at "ea") => `(tactic| first | with_reducible exact ea_nil | ((with_reducible refine' ea_consD ?h1 ?h2); (case h1 => walk_at "ev"); (case h2 => walk_at "ea")))
local macro_rules | `(tactic| walk_at "eo") => `(tactic| first | with_reducible exact eo_none | ((with_reducible refine' eo_at ?h1); (case h1 => walk_at "ev")))
local macro_rules | `(tactic| walk_at "cd") => `(tactic| first
  | with_reducible exact cd_lenL | with_reducible exact cd_lenT | with_reducible exact cd_tupL | with_reducible exact cd_tupT | with_reducible exact cd_lstL | with_reducible exact cd_lstT | with_reducible exact cd_abs | with_reducible exact cd_int)
local macro_rules | `(tactic| walk_at "ev") => `(tactic| first
  | with_reducible exact ev_int | with_reducible exact ev_bl | with_reducible exact ev_str | with_reducible exact ev_non
  | ((with_reducible refine' ev_var ?h1 ?h2); (case h1 => exact rfl); (case h2 => walk_at "rep"))
  | ((with_reducible refine' ev_opD ?h1 ?h2 ?h3); (case h1 => walk_at "ev"); (case h2 => walk_at "ev"); (case h3 => walk_at "od"))
  | ((with_reducible refine' ev_tupD ?h1); (case h1 => walk_at "ea"))
  | ((with_reducible refine' ev_lstD ?h1); (case h1 => walk_at "ea"))
  | ((with_reducible refine' ev_revL ?h1); (case h1 => walk_at "ev"))
  | ((with_reducible refine' ev_slD ?h1 ?h2 ?h3 ?h4); (case h1 => walk_at "ev"); (case h2 => walk_at "eo"); (case h3 => walk_at "eo"); (case h4 => first | with_reducible exact sd_tup | with_reducible exact sd_list))
  | ((with_reducible refine' ev_cbD ?h1 ?h2); (case h1 => walk_at "ea"); (case h2 => walk_at "cd"))
  | ((with_reducible refine' ev_notV ?h1); (case h1 => walk_at "ev"))
  | assumption)
local macro_rules | `(tactic| walk_at "et") => `(tactic| first
  | ((with_reducible refine' et_testD ?h1); (case h1 => walk_at "ev"))
  | ((with_reducible refine' et_BD ?h1); (case h1 => walk_at "ev"))
  | ((with_reducible refine' et_notD ?h1); (case h1 => walk_at "et"))
  | ((with_reducible refine' et_andD ?h1 ?h2); (case h1 => walk_at "et"); (case h2 => intro _; walk_at "et"))
  | ((with_reducible refine' et_orD ?h1 ?h2); (case h1 => walk_at "et"); (case h2 => intro _; walk_at "et"))
  | assumption)
section
variable {K : PySem.W.Frag} {M : Md} {σ : L2.St} {J H J' H' J0 H0 J1 H1 : Hp} {ta tb te tc : TE} {P P' Px : PyData → Prop} {d dx dy : PyData} {v : V} {i j : Int}
/-- a comprehension over pairs -/
theorem ev_lc2 {k l : Nat} {wi : TI} {tt : TT} {vs : List Nat} {Pw : List PyData → Prop} (I : List PyData → Nat → List PyData → Prop) (hw : EvW K M wi σ J H Pw) (hz : ∀ ds, Pw ds → ds.length < sizeLine) (hp : ∀ ds, Pw ds → ∀ d ∈ ds, ∃ x y, d = .tuple [x, y]) (h0 : ∀ ds, Pw ds → I ds 0 [])
    (hv : ∀ x y, wipe (((wipe σ vs).set k (some x)).set l (some y)) vs = wipe σ vs)
    (hs : ∀ ds i d e acc x y J1 H1, Pw ds → ds[i]? = some (.tuple [d, e]) → I ds i acc → Wf M J1 H1 → Tr M J H J1 H1 → Da K J1 x d → Da K J1 y e → ∃ Pb : Bool → Prop, EvT M tt (((wipe σ vs).set k (some x)).set l (some y)) J1 H1 Pb ∧
      (Pb false → I ds (i + 1) acc) ∧ (Pb true → EvP K M te (((wipe σ vs).set k (some x)).set l (some y)) J1 H1 fun e => I ds (i + 1) (acc ++ [e])))
    (hd : ∀ ds acc, Pw ds → I ds ds.length acc → P (.list acc)) : EvP K M (tLc wi (gTup K 2 (gCons (gName k) (gCons (gName l) gNil))) tt te vs) σ J H P := fun Ja Ha wa ta' Q q =>
  hw Ja Ha wa ta' _ fun A ds J2 H2 w2 t2 pw wd D hD => by
    have nfD : ¬ M.fp D := w2.nofp hD
    refine ⟨fun i m G => m = ds.length - i ∧ i ≤ ds.length ∧ ∃ J' acc ys, (Wf M J' G ∧ Tr M J2 H2 J' G) ∧ (G D = some (.lst ys) ∧ J' D = none) ∧ Das K J' ys acc ∧ ys.length ≤ i ∧ I ds i acc,
      ⟨ds.length, rfl, Nat.zero_le _, J2, [], [], ⟨(w2.cell hD).wf w2, w2.cell hD⟩, ⟨upd_same, w2.jh.back hD⟩, .nil, Nat.le_refl _, h0 ds pw⟩, ?_⟩
    rintro i m G ⟨rfl, hi, J', acc, ys, ⟨w', t'⟩, ⟨hG, jD⟩, ha, hl, hI⟩
    by_cases hlt : i < ds.length
    · refine .inr ⟨wd.go i G hlt (t'.jj.trans t'.jh), fun G' => ∃ J' acc ys, (Wf M J' G' ∧ Tr M J2 H2 J' G') ∧ (G' D = some (.lst ys) ∧ J' D = none) ∧ Das K J' ys acc ∧ ys.length ≤ i + 1 ∧ I ds (i + 1) acc,
        fun G' h' => ⟨_, by omega, rfl, hlt, h'⟩, fun z G' yl => ?_⟩
      have hdi : ds[i]? = some ds[i] := List.getElem?_eq_getElem hlt
      obtain ⟨d, e, ede⟩ := hp ds pw _ (List.getElem_mem hlt)
      rw [ede] at hdi
      -- the pair's things are known: the turn
      have turn : ∀ J3 G3, Wf M J3 G3 → Tr M J2 H2 J3 G3 → G3 D = some (.lst ys) → J3 D = none → Das K J3 ys acc → Da K J3 z (.tuple [d, e]) →
          gTup K 2 (gCons (gName k) (gCons (gName l) gNil)) z (wipe σ vs) G3 fun σ2 H2' => wipe σ2 vs = wipe σ vs ∧ tt σ2 H2' fun b H3 => if b = true then te σ2 H3 fun y H4 => ∃ acc, H4 D = some (.lst acc) ∧ acc.length < sizeLine ∧
            (∃ J' acc' ys, (Wf M J' (upd H4 D (.lst (acc ++ [y]))) ∧ Tr M J2 H2 J' (upd H4 D (.lst (acc ++ [y])))) ∧ ((upd H4 D (.lst (acc ++ [y]))) D = some (.lst ys) ∧ J' D = none) ∧ Das K J' ys acc' ∧ ys.length ≤ i + 1 ∧ I ds (i + 1) acc')
            else ∃ J' acc ys, (Wf M J' H3 ∧ Tr M J2 H2 J' H3) ∧ (H3 D = some (.lst ys) ∧ J' D = none) ∧ Das K J' ys acc ∧ ys.length ≤ i + 1 ∧ I ds (i + 1) acc := by
        intro J3 G3 w3 t3 hG3 jD3 ha3 ax
        obtain ⟨c, us, rfl, ht, hdd⟩ := da_tup ax
        cases hdd with
        | cons a1 rest =>
        obtain ⟨u, rfl, a2⟩ := das_one rest
        refine ⟨c, _, rfl, w3.jh.t ht, rfl, _, _, rfl, _, _, rfl, rfl, hv _ _, ?_⟩
        obtain ⟨Pb, hb, hf, ht2⟩ := hs ds i d e acc _ _ J3 G3 pw hdi hI w3 ((ta'.trans t2).trans t3) a1 a2
        refine hb J3 G3 w3 w3.tr _ fun b J4 G4 w4 t4 pb => ?_
        cases b with
        | false => exact ⟨J4, acc, ys, ⟨w4, t3.trans t4⟩, ⟨t4.keep D _ nfD hG3, t4.cellj hG3 jD3⟩, t4.jj.das ha3, by omega, hf pb⟩
        | true =>
          refine ht2 pb J4 G4 w4 t4 _ fun y e J5 G5 w5 t5 pe ae => ?_
          have t35 := t4.trans t5
          have jD5 := t35.cellj hG3 jD3
          have zz := hz ds pw
          have tp := (t3.trans t35).put (zs := ys ++ [y]) w2 (t35.keep D _ nfD hG3) hD jD5
          refine ⟨ys, t35.keep D _ nfD hG3, by omega, J5, acc ++ [e], ys ++ [y], ⟨tp.wf w2, tp⟩, ⟨upd_same, jD5⟩, das_app (t35.jj.das ha3) (.cons ae .nil), ?_, pe⟩
          rw [List.length_append]; simp only [List.length_cons, List.length_nil]; omega
      rcases wd.yld i G z G' _ hdi (t'.jj.trans t'.jh) yl with ⟨rfl, ax⟩ | ⟨T, xs, es, rfl, hT, rfl, ed, hes⟩
      · exact turn J' G' w' t' hG jD ha (t'.jj.da ax)
      · have tn := w'.new (o := .tup xs) hT
        refine turn _ _ (tn.wf w') (t'.trans tn) (tn.keep D _ nfD hG) (tn.cellj hG jD) (tn.jj.das ha) ?_
        rw [ed]
        exact .tup (.of upd_same) (tn.jj.das (t'.jj.das hes))
    · have e : i = ds.length := by omega
      subst e
      have ti := t'.ice hD jD hG
      exact .inl ⟨wd.stop G (t'.jj.trans t'.jh), q _ _ _ G (ti.wf w2) (t2.trans ti) (hd ds acc pw hI) (.lst upd_same ((Sub.new jD).das ha))⟩
/-- any of a list of bools; sorted numbers -/
theorem das_bls {J : Hp} : ∀ {vs : List V} {bs : List Bool}, Das K J vs (bs.map PyData.bool) → vs = bs.map V.bl
  | [], [], _ => rfl
  | [], _ :: _, h => by cases h
  | _ :: _, [], h => by cases h
  | _ :: _, _ :: _, h => by
    cases h with
    | cons a b => rw [da_bl a, das_bls b]; rfl
theorem cd_any {bs : List Bool} : CbD K M (rAny K) [.list (bs.map PyData.bool)] (· = .bool (bs.any id)) := fun vs J H w a Q q => by
  obtain ⟨v, rfl, av⟩ := das_one a
  obtain ⟨p, xs, rfl, hl, hd⟩ := da_lst av
  have e := das_bls hd
  subst e
  exact ⟨p, bs, rfl, .of (w.jh _ _ hl), q _ _ J H w w.tr rfl (.bl _)⟩
theorem cd_sorted {ns : List Int} : CbD K M (rSortedI K) [.list (oD ns)] (fun d => ∃ ms, d = .list (oD ms) ∧ ms.Perm ns ∧ ms.Pairwise (· ≤ ·)) := fun vs J H w a Q q => by
  obtain ⟨v, rfl, av⟩ := das_one a
  obtain ⟨p, xs, rfl, hl, hd⟩ := da_lst av
  have e := das_ints_eq hd
  subst e
  refine ⟨p, ns, rfl, .of (w.jh _ _ hl), fun ms l h1 h2 hn => ?_⟩
  have t := w.new (o := .lst (ms.map V.int)) hn
  exact q _ _ _ _ (t.wf w) t ⟨ms, rfl, h1, h2⟩ (.lst upd_same (das_intsV ms))
/-- range(n) as a value, made a list -/
theorem ty_tup {ds : List PyData} (h : Da K J v (.tuple ds)) (s : Sub J H) : TyX K H v (.type "tuple") := by
  obtain ⟨a, xs, rfl, ht, _⟩ := da_tup h
  rcases s.t ht with (h | ⟨o, h⟩) | ⟨o, its, n, h, c, _⟩
  · exact .base (.tup h)
  · exact .fTuple h
  · exact .kTuple h c
theorem kit_self (t : Value) : PySem.W.kitOne K t t = some true := by
  unfold PySem.W.kitOne
  rw [if_pos (beq_self_eq_true t)]
/-- a list or a tuple, walked -/
def iSeq (K : PySem.W.Frag) (tl : TE) : TI := fun σ H R => tl σ H fun x G => ∃ a xs, x = .ref a ∧ ((SqL K G a xs ∧ R (Itl K a) G) ∨ (SqT K G a xs ∧ R (Itt K a) G))
theorem pi_seq {X : Cx} {tg l : Expr} {tl : TE} (hl : PE X l tl) : PI X tg l (iSeq X.K tl) := ⟨fun pins s σ H R I h =>
  thn (hl.run pins s σ H _ I h) fun v s1 ⟨x, G, I1, r1, a, xs, e, told⟩ => by
    subst e
    cases r1
    have one : ∀ {o : Obj} {b : Addr}, b ∈ [s1.heap.objs.size] → FpOk X pins G b := fun {o b} hb => by
      rw [List.mem_singleton.mp hb]
      exact I1.fpOk (Nat.le_refl _) (I1.hok.fresh (Nat.le_refl _))
    rcases told with ⟨hq, r⟩ | ⟨hq, r⟩
    · obtain ⟨its, _, p, _⟩ := I1.list hq
      exact wpAny_pyIter_list p.isList ⟨s1.heap.objs.size, [s1.heap.objs.size], _, _, G, rfl, I1.kept (t' := s1.toks) fun b o e => Heap.get?_push_of_some _ e, turn_list a _, ⟨_, Heap.get?_push_size _ rfl, rfl, rfl⟩, fun b hb => one (o := ⟨.none, none, .plain, #[]⟩) hb, r⟩
    · obtain ⟨its, _, p, _⟩ := I1.tuple hq
      exact wpAny_pyIter_tuple (show s1.heap.IsTuple a its.toArray from p) ⟨s1.heap.objs.size, [s1.heap.objs.size], _, _, G, rfl, I1.kept (t' := s1.toks) fun b o e => Heap.get?_push_of_some _ e, turn_tuple a _, ⟨_, Heap.get?_push_size _ rfl, rfl, rfl⟩, fun b hb => one (o := ⟨.none, none, .plain, #[]⟩) hb, r⟩⟩
theorem ew_seq {ds : List PyData} (h : EvP K M te σ J H fun d => d = .list ds ∨ d = .tuple ds) : EvW K M (iSeq K te) σ J H (· = ds) := fun J1 H1 w t R q =>
  h J1 H1 w t _ fun v d J2 H2 w2 t2 e a => by
    rcases e with e | e
    · subst e
      obtain ⟨p, xs, rfl, hl, hd⟩ := da_lst a
      refine ⟨p, xs, rfl, .inl ⟨.of (w2.jh _ _ hl), q _ ds J2 H2 w2 t2 rfl ⟨fun i G hi s => ?_, fun G s => ⟨xs, .of (s _ _ hl), by rw [das_len hd]; exact Nat.le_refl _⟩, fun i G x G' d hd' s y => ?_⟩⟩⟩
      · have hi2 : i < xs.length := by rw [das_len hd]; exact hi
        exact ⟨xs, xs[i], .of (s _ _ hl), List.getElem?_eq_getElem hi2⟩
      · obtain ⟨e, y⟩ := y
        obtain ⟨d2, e2, a2⟩ := das_at hd (y xs (.of (s _ _ hl)))
        rw [hd'] at e2
        cases e2
        exact .inl ⟨e, a2⟩
    · subst e
      obtain ⟨p, xs, rfl, hl, hd⟩ := da_tup a
      refine ⟨p, xs, rfl, .inr ⟨w2.jh.t hl, q _ ds J2 H2 w2 t2 rfl ⟨fun i G hi s => ?_, fun G s => ⟨xs, s.t hl, by rw [das_len hd]; exact Nat.le_refl _⟩, fun i G x G' d hd' s y => ?_⟩⟩⟩
      · have hi2 : i < xs.length := by rw [das_len hd]; exact hi
        exact ⟨xs, xs[i], s.t hl, List.getElem?_eq_getElem hi2⟩
      · obtain ⟨e, y⟩ := y
        obtain ⟨d2, e2, a2⟩ := das_at hd (y xs (s.t hl))
        rw [hd'] at e2
        cases e2
        exact .inl ⟨e, a2⟩
/-! ### a list of one's own that still grows: is it empty -/
theorem et_full {k : Nat} {p : Addr} {ys : List V} (hs : σ[k]? = some (some (.ref p))) (hH : H p = some (.lst ys)) (nf : ¬ M.fp p) : EvT M (tTruth K (tVar k)) σ J H (· = !ys.isEmpty) := fun J1 H1 w t Q q =>
  ⟨.ref p, hs, _, .inl ⟨ys, .of (t.keep p _ nf hH), rfl⟩, q _ J1 H1 w w.tr rfl⟩
theorem dp_cell {p : Addr} {ys : List V} {ds : List PyData} (hH : H p = some (.lst ys)) (a : Das K J ys ds) (s : Sub J H) : Dp K H (.ref p) (.list ds) := .lst (.of hH) (a.dp s)
/-- x != [] of such a list -/
theorem ev_neNil {k : Nat} {p : Addr} {ys : List V} {ds : List PyData} (hs : σ[k]? = some (some (.ref p))) (hH : H p = some (.lst ys)) (nf : ¬ M.fp p) (a : Das K J ys ds) (hsh : SeqAt.shaped (.list ds) = true) : EvD K M (tOp (rNeD K) (tVar k) (tLst tNil)) σ J H (.bool (!PyData.eqv (.list ds) (.list []))) := fun J1 H1 w t Q q =>
  ⟨.ref p, hs, Nat.zero_le _, fun l hl => by
    have t2 := w.new (o := .lst []) hl
    have w2 := t2.wf w
    have tt := t.trans t2
    exact ⟨.list ds, .list [], dp_cell (tt.keep p _ nf hH) (tt.jj.das a) w2.jh, .lst (.of (w2.jh _ _ upd_same)) .nil, hsh, by decide, q _ _ _ _ w2 t2 rfl (.bl _)⟩⟩
/-! ### dicts with numbers as keys, only read -/
def rDictP (K : PySem.W.Frag) : List V → Hp → VK → Prop := fun xs H Q => ∃ (a : Addr) (ps : List Addr) (kvs : List (Key × V)), xs = [.ref a] ∧ SqL K H a (ps.map V.ref) ∧ Paired (fun p kv => SqT K H p [kV kv.1, kv.2]) ps kvs ∧ ∀ p, H p = none → Q (.ref p) (upd H p (.dK (mergeK [] kvs)))
theorem cl_dictP {X : Cx} (hc : X.calm = true) : CallR X (.type "dict") (rDictP X.K) := call_dictP hc
abbrev kI (i : Int) : Key := .inl i
theorem merge_val {f : Int → PyData} : ∀ (more acc : List (Key × V)), (∀ kv ∈ more, ∃ i, kv.1 = .inl i ∧ Da K J kv.2 (f i)) → (∀ k v, valV acc k = some v → ∃ i, k = .inl i ∧ Da K J v (f i)) →
    ∀ i, (kI i ∈ more.map (·.1) ∨ (valV acc (.inl i)).isSome = true) → ∃ v, valV (mergeK acc more) (.inl i) = some v ∧ Da K J v (f i)
  | [], acc, _, h, i, hi => by
    rcases hi with hi | hi
    · cases hi
    · obtain ⟨v, e⟩ := Option.isSome_iff_exists.mp hi
      obtain ⟨j, ej, a⟩ := h _ v e
      cases ej
      exact ⟨v, e, a⟩
  | (k, v) :: more, acc, g, h, i, hi => by
    obtain ⟨j, ej, a⟩ := g (k, v) List.mem_cons_self
    have ej : k = .inl j := ej
    subst ej
    refine merge_val more (putK acc (.inl j) v) (fun kv hkv => g kv (List.mem_cons_of_mem _ hkv)) (fun k' v' e => ?_) i ?_
    · rw [L2.valV_put] at e
      by_cases hk : k' = kI j
      · rw [if_pos hk] at e
        cases e
        exact ⟨j, hk, a⟩
      · rw [if_neg hk] at e
        exact h k' v' e
    · rw [L2.valV_put]
      by_cases hk : kI i = .inl j
      · exact .inr (by rw [if_pos hk]; rfl)
      · rw [if_neg hk]
        rcases hi with hi | hi
        · rcases List.mem_cons.mp hi with e | e
          · exact (hk e).elim
          · exact .inl e
        · exact .inr hi
/-- a list of pairs (number, datum), as dict wants it -/
theorem das_pairs {f : Int → PyData} {G : Hp} (s : Sub J G) : ∀ {is : List Int} {vs : List V}, Das K J vs (is.map fun i => .tuple [.int i, f i]) → ∃ (ps : List Addr) (kvs : List (Key × V)), vs = ps.map V.ref ∧ Paired (fun p kv => SqT K G p [kV kv.1, kv.2]) ps kvs ∧ kvs.map (·.1) = is.map kI ∧ ∀ kv ∈ kvs, ∃ i, kv.1 = .inl i ∧ Da K J kv.2 (f i)
  | [], _, h => by cases h; exact ⟨[], [], rfl, .nil, rfl, nofun⟩
  | i :: is, _, h => by
    cases h with
    | cons a b =>
    obtain ⟨ps, kvs, e1, e2, e3, e4⟩ := das_pairs s b
    obtain ⟨p, us, rfl, ht, hd⟩ := da_tup a
    cases hd with
    | cons a1 a2 =>
    obtain ⟨u, rfl, a3⟩ := das_one a2
    rw [da_int a1] at ht
    refine ⟨p :: ps, (.inl i, u) :: kvs, by rw [e1]; rfl, .cons (s.t ht) e2, by rw [List.map_cons, List.map_cons, e3], fun kv hkv => ?_⟩
    rcases List.mem_cons.mp hkv with e | e
    · rw [e]; exact ⟨i, rfl, a3⟩
    · exact e4 kv e
/-- xs = dict(pairs) -/
theorem s_dict {k : Nat} {f : Int → PyData} {is : List Int} {D : Ends} (w : Wf M J H) (h : EvD K M te σ J H (.list (is.map fun i => .tuple [.int i, f i])))
    (q : ∀ p kvs J1 H1, Wf M J1 H1 → Tr M J H J1 H1 → J1 p = some (.dK kvs) → (∀ i ∈ is, ∃ v, valV kvs (.inl i) = some v ∧ Da K J1 v (f i)) → D.nx (σ.set k (some (.ref p))) H1) : tAsg (tCB (rDictP K) (tCons te tNil)) (gName k) D σ H :=
  h J H w w.tr _ fun v d J1 H1 w1 t1 e a => by
    subst e
    obtain ⟨p, xs, rfl, hl, hd⟩ := da_lst a
    obtain ⟨ps, kvs, e1, e2, e3, e4⟩ := das_pairs w1.jh hd
    subst e1
    refine ⟨p, ps, kvs, rfl, .of (w1.jh _ _ hl), e2, fun l hn => ?_⟩
    have t2 := w1.new (o := .dK (mergeK [] kvs)) hn
    refine q l (mergeK [] kvs) _ _ (t2.wf w1) (t1.trans t2) upd_same fun i hi => ?_
    obtain ⟨v, h1, h2⟩ := merge_val kvs [] e4 (fun k v e => by cases e) i (.inl (by rw [e3]; exact List.mem_map.mpr ⟨i, hi, rfl⟩))
    exact ⟨v, h1, t2.jj.da h2⟩
theorem ev_dget {k : Nat} {p : Addr} {kvs : List (Key × V)} (hs : σ[k]? = some (some (.ref p))) (hJ : J p = some (.dK kvs)) (hi : EvD K M te σ J H (.int i)) (hv : valV kvs (.inl i) = some v) (ha : Da K J v d) : EvD K M (tDGet (tVar k) te) σ J H d := fun J1 H1 w t Q q =>
  ⟨.ref p, hs, hi J1 H1 w t _ fun x d' J2 H2 w2 t2 e a => by
    subst e
    rw [da_int a]
    exact ⟨p, v, rfl, .inl ⟨kvs, .inl i, .of (w2.jh _ _ ((t.trans t2).jj _ _ hJ)), rfl, hv.symm⟩, q v d J2 H2 w2 t2 rfl ((t.trans t2).jj.da ha)⟩⟩
end
end DL

/-! in, not in of a tuple of data; list(range(n)); keywords the other way round. -/
namespace DL
open PySem PySem.Spec
open PyProof.Rows L2
local macro_rules | `(tactic| walk_at "rep") => `(tactic| first | assumption | exact Da.int _ | exact Da.bl _ | exact Da.str _ | exact Da.non | exact Sub.da (by assumption) (by assumption) | exact Sub.da (Tr.jj (by assumption)) (by assumption))
local macro_rules | `(tactic| walk_at "arith") => `(tactic| first | assumption | omega | decide | exact cmul_small (by omega) (by omega) | exact cdiv_small (by omega) (by omega))
local macro_rules | `(tactic| walk_at "shp") => `(tactic| first | exact sh_int _ | exact sh_tup _ | exact sh_list _ | assumption)
local macro_rules | `(tactic| walk_at "od") => `(tactic| first
  | with_reducible exact od_plus
  | with_reducible exact od_sub
  | ((with_reducible refine' od_mul ?h1); walk_at "arith")
  | ((with_reducible refine' od_mod ?h1); walk_at "arith")
  | ((with_reducible refine' od_fdiv ?h1); walk_at "arith")
  | ((with_reducible refine' od_pow ?h1); exact ⟨by decide, by decide, by decide⟩)
  | with_reducible exact od_lt | with_reducible exact od_le | with_reducible exact od_gt | with_reducible exact od_ge
  | ((with_reducible refine' od_plusT ?h1); walk_at "arith")
  | ((with_reducible refine' od_plusL ?h1); walk_at "arith")
  | ((with_reducible refine' od_plusS ?h1); walk_at "arith")
  | with_reducible exact od_isN | with_reducible exact od_notN
  | ((with_reducible refine od_eq ?_ ?_) <;> walk_at "shp")
  | ((with_reducible refine od_ne ?_ ?_) <;> walk_at "shp")
  | ((with_reducible refine od_inL ?_ ?_) <;> walk_at "shp")
  | ((with_reducible refine od_ixL ?_); assumption)
  | ((with_reducible refine od_ixT ?_); assumption))
local macro_rules | `(tactic| walk_at "ea") => `(tactic| first | with_reducible exact ea_nil | ((with_reducible refine' ea_consD ?h1 ?h2); (case h1 => walk_at "ev"); (case h2 => walk_at "ea")))
local macro_rules | `(tactic| walk_at "eo") => `(tactic| first | with_reducible exact eo_none | ((with_reducible refine' eo_at ?h1); (case h1 => walk_at "ev")))
local macro_rules | `(tactic| walk_at "cd") => `(tactic| first
  | with_reducible exact cd_lenL | with_reducible exact cd_lenT | with_reducible exact cd_tupL | with_reducible exact cd_tupT | with_reducible exact cd_lstL | with_reducible exact cd_lstT | with_reducible exact cd_abs | with_reducible exact cd_int)
local macro_rules | `(tactic| walk_at "ev") => `(tactic| first
  | with_reducible exact ev_int | with_reducible exact ev_bl | with_reducible exact ev_str | with_reducible exact ev_non
  | ((with_reducible refine' ev_var ?h1 ?h2); (case h1 => exact rfl); (case h2 => walk_at "rep"))
  | ((with_reducible refine' ev_opD ?h1 ?h2 ?h3); (case h1 => walk_at "ev"); (case h2 => walk_at "ev"); (case h3 => walk_at "od"))
  | ((with_reducible refine' ev_tupD ?h1); (case h1 => walk_at "ea"))
  | ((with_reducible refine' ev_lstD ?h1); (case h1 => walk_at "ea"))
  | ((with_reducible refine' ev_revL ?h1); (case h1 => walk_at "ev"))
  | ((with_reducible refine' ev_slD ?h1 ?h2 ?h3 ?h4); (case h1 => walk_at "ev"); (case h2 => walk_at "eo"); (case h3 => walk_at "eo"); (case h4 => first | with_reducible exact sd_tup | with_reducible exact sd_list))
  | ((with_reducible refine' ev_cbD ?h1 ?h2); (case h1 => walk_at "ea"); (case h2 => walk_at "cd"))
  | ((with_reducible refine' ev_notV ?h1); (case h1 => walk_at "ev"))
  | assumption)
local macro_rules | `(tactic| walk_at "et") => `(tactic| first
  | ((with_reducible refine' et_testD ?h1); (case h1 => walk_at "ev"))
  | ((with_reducible refine' et_BD ?h1); (case h1 => walk_at "ev"))
  | ((with_reducible refine' et_notD ?h1); (case h1 => walk_at "et"))
  | ((with_reducible refine' et_andD ?h1 ?h2); (case h1 => walk_at "et"); (case h2 => intro _; walk_at "et"))
  | ((with_reducible refine' et_orD ?h1 ?h2); (case h1 => walk_at "et"); (case h2 => intro _; walk_at "et"))
  | assumption)
def rInDT (K : PySem.W.Frag) (neg : Bool) : R2 := fun x y H Q => ∃ d ds, (Dp K H x d ∧ SeqAt.shaped d = true) ∧ (Dp K H y (.tuple ds) ∧ SeqAt.shaped (.tuple ds) = true) ∧ Q (.bl (if neg then !(ds.any fun z => PyData.eqv z d) else ds.any fun z => PyData.eqv z d)) H
theorem op_notInDT {X : Cx} (hu : X.A.units + 65 < cLine) : OpR X (compareOp .NotIn) (rInDT X.K true) := fun pins s σ H x y v u Q I rx ry ⟨d, ds, ⟨hd, sd⟩, ⟨he, se⟩, q⟩ => by
  obtain ⟨as, r1⟩ := Dp.reads I d x v hd rx
  obtain ⟨bs, r2⟩ := Dp.reads I (.tuple ds) y u he ry
  exact SeqAt.notIn_tuple_reads r2 r1 (SeqAt.canLay_of_shaped se) (SeqAt.canLay_of_shaped sd) (room_in_shaped sd hu) ⟨.bl _, H, I, rfl, q⟩
theorem op_inDT {X : Cx} (hu : X.A.units + 65 < cLine) : OpR X (compareOp .In) (rInDT X.K false) := fun pins s σ H x y v u Q I rx ry ⟨d, ds, ⟨hd, sd⟩, ⟨he, se⟩, q⟩ => by
  obtain ⟨as, r1⟩ := Dp.reads I d x v hd rx
  obtain ⟨bs, r2⟩ := Dp.reads I (.tuple ds) y u he ry
  exact SeqAt.in_tuple_reads r2 r1 (SeqAt.canLay_of_shaped se) (SeqAt.canLay_of_shaped sd) (room_in_shaped sd hu) ⟨.bl _, H, I, rfl, q⟩
section
variable {K : PySem.W.Frag} {M : Md} {σ : L2.St} {J H : Hp} {ta te : TE} {dx : PyData} {ds : List PyData}
theorem od_niT (sx : SeqAt.shaped dx = true) (sy : SeqAt.shaped (.tuple ds) = true) : OpD K M (rInDT K true) dx (.tuple ds) (· = .bool (!ds.any fun z => PyData.eqv z dx)) :=
  od_flat (v := .bl _) (fun x y J H s ax ay Q q => ⟨dx, ds, ⟨ax.dp s, sx⟩, ⟨ay.dp s, sy⟩, q⟩) fun _ => .bl _
theorem od_inT (sx : SeqAt.shaped dx = true) (sy : SeqAt.shaped (.tuple ds) = true) : OpD K M (rInDT K false) dx (.tuple ds) (· = .bool (ds.any fun z => PyData.eqv z dx)) :=
  od_flat (v := .bl _) (fun x y J H s ax ay Q q => ⟨dx, ds, ⟨ax.dp s, sx⟩, ⟨ay.dp s, sy⟩, q⟩) fun _ => .bl _
/-- 0, 1, .. below n, as numbers -/
def rg (n : Nat) : List Int := (List.range n).map fun i : Nat => (i : Int)
theorem rg_mem {n : Nat} {x : Int} (h : x ∈ rg n) : 0 ≤ x ∧ x < n := by
  obtain ⟨i, hi, rfl⟩ := List.mem_map.mp h
  have := List.mem_range.mp hi
  omega
theorem rg_len (n : Nat) : (rg n).length = n := by unfold rg; simp
theorem ev_listRg {n : Nat} (h : EvD K M te σ J H (.int (n : Int))) (hn : n ≤ 2 ^ 20) : EvD K M (tLstRg (tRg1 te)) σ J H (.list (oD (rg n))) := fun J1 H1 w t Q q =>
  h J1 H1 w t _ fun v d J2 H2 w2 t2 e a => by
    subst e
    refine ⟨(n : Int), da_int a, RgOk.of_le (by decide) (by omega) (by decide) (by omega), fun p hp => ?_⟩
    have e1 : rgV 0 (n : Int) = (rg n).map V.int := by
      unfold rgV rg
      rw [List.map_map, show ((n : Int) - 0).toNat = n by omega]
      refine List.map_congr_left fun i _ => ?_
      show V.int (0 + (i : Int)) = V.int (i : Int)
      rw [Int.zero_add]
    rw [e1]
    have t3 := w2.new (o := .lst ((rg n).map V.int)) hp
    exact q _ _ _ _ (t3.wf w2) (t2.trans t3) rfl (.lst upd_same (t3.jj.das (das_intsV _)))
end
/-! ### f(b=.., a=..): the keywords the other way round -/
theorem fun_kbR {K : PySem.W.Frag} {x qual : Str} {params : Arguments} {body : List Stmt} {scope : Scope} {f : Addr} {fd : FuncData} {ps : List Str} (F : FunD K x qual params body scope [] [] f fd) (ks : List Str)
    (h : ∀ (kV doc pm : Value) (an : Option Addr) (cdv ct : Value) (ws : List Value), ws.length = ks.length → bindArgs (PySem.W.fnOf x qual params body scope .none kV doc pm an cdv ct) ⟨[], ks.zip ws⟩ = pure (ps.zip ws.reverse)) :
    KBn K fd ps 0 ks (fun _ ws => ws.reverse) (fun _ zs => zs.reverse) := by
  obtain ⟨_, _, _, k1, d1, m1, a1, c1, t1, _, e, _, _, dfl, _⟩ := F.ex
  subst e
  have rv : ∀ {zs : List V} {ws : List Value}, Vals zs ws → Vals zs.reverse ws.reverse := by
    intro zs ws r
    induction r with
    | nil => exact .nil
    | cons a b ih => rw [List.reverse_cons, List.reverse_cons]; exact ih.append (.cons a .nil)
  match dfl with
  | .inl ⟨_, none_⟩ =>
    subst none_
    refine ⟨fun s us ws _ l1 l2 => ?_, fun _ r2 => rv r2⟩
    have e : us = [] := List.eq_nil_of_length_eq_zero l1
    subst e
    exact .of_eq (h k1 d1 m1 a1 c1 t1 ws l2)
  | .inr ⟨some_, _⟩ => exact absurd rfl some_
structure CaR (P : Program) (w : World) (K : PySem.W.Frag) (mg : Str → Option Value) (base : Heap) (CX : CXT) (k : Nat) (x : Str) (ps : List Str) (ks : List Str) (sp : Sp) : Prop where
  has : ∃ f fd, FnOk P w K mg base CX k f fd ps sp ∧ mg x = some (.ref f) ∧ PySem.W.keepIn K (.ref f) = true ∧ KBn K fd ps 0 ks (fun _ ws => ws.reverse) (fun _ zs => zs.reverse)
theorem xCallKr {X : Cx} {CX : CXT} {k : Nat} {ps ks : List Str} {sp : Sp} {E : XK} {kws : List Keyword} {p pos : Pos} {x : Str} {tk : TA} (C : CaR X.prog X.w X.K X.mg X.base CX k x ps ks sp) (hr : Room k X.A) (hx : Passes CX X E) (hkw : PK X kws tk) (hg : Gl X x := by rfl) (hdb : (x == ("__debug__" : Str)) = false := by decide)
    (hall : (backToKw pos (keywordEach kws X.env)).all (·.1.isSome) = true := by rfl) (hks : (backToKw pos (keywordEach kws X.env)).filterMap (·.1) = ks := by rfl) (hpl : ((backTo pos (starEach [] X.env)).any (·.1) || (backToKw pos (keywordEach kws X.env)).any (·.1.isNone)) = false := by rfl) :
    PE X (.Call (.Name x p) [] kws pos) (fun σ H Q => tk σ H fun zs H2 => zs.length = ks.length ∧ sp zs.reverse H2 Q E) := by
  obtain ⟨f, fd, F, hm, hk, hb⟩ := C.has
  refine ⟨fun pins s σ H Q I h => wpAny_Call_Name_kw (ld_glob I hg hm ?_ hdb)⟩
  refine PySem.W.callWith_KW0 (h₀ := X.base) I.ok.mod.kin hk hall (thn (hkw.run pos pins s σ H _ I h) fun ws s2 ⟨zs, H2, I2, rz, l1, q2⟩ => ⟨I2.kIn, ?_⟩) hpl
  rw [hks]
  exact run_fnN (us := []) (vs := []) F hr hb hx I2 .nil rz rfl l1 q2
theorem das_revV {K : PySem.W.Frag} {J : Hp} {vs : List V} {ds : List PyData} (h : Das K J vs ds) : Das K J vs.reverse ds.reverse := das_rev h
theorem ev_callKr {K : PySem.W.Frag} {M : Md} {σ : L2.St} {J H : Hp} {sp : Sp} {E : XK} {m : Nat} {ta : TA} {ds : List PyData} {P : PyData → Prop} (h : EvA K M ta σ J H (· = ds)) (hm : ds.length = m) (ho : SpD K M sp ds.reverse P E) : EvP K M (fun σ H Q => ta σ H fun zs H2 => zs.length = m ∧ sp zs.reverse H2 Q E) σ J H P := fun J1 H1 w t Q q =>
  h J1 H1 w t _ fun vs ds' J2 H2 w2 t2 e a => by
    subst e
    exact ⟨by rw [das_len a]; exact hm, ho vs.reverse J2 H2 w2 (das_revV a) Q fun v d J3 H3 w3 t3 p a3 => q v d J3 H3 w3 (t2.trans t3) p a3⟩
end DL

/-! Rules within a comprehension: what is known of the text is named. -/
namespace DL
open PySem PySem.Spec
open PyProof.Rows L2
local macro_rules | `(tactic| walk_at "rep") => `(tactic| first | assumption | exact Da.int _ | exact Da.bl _ | exact Da.str _ | exact Da.non | exact Sub.da (by assumption) (by assumption) | exact Sub.da (Tr.jj (by assumption)) (by assumption))
local macro_rules | `(tactic| walk_at "arith") => `(tactic| first | assumption | omega | decide | exact cmul_small (by omega) (by omega) | exact cdiv_small (by omega) (by omega))
local macro_rules | `(tactic| walk_at "shp") => `(tactic| first | exact sh_int _ | exact sh_tup _ | exact sh_list _ | assumption)
local macro_rules | `(tactic| walk_at "od") => `(tactic| first
  | with_reducible exact od_plus
  | with_reducible exact od_sub
  | ((with_reducible refine' od_mul ?h1); walk_at "arith")
  | ((with_reducible refine' od_mod ?h1); walk_at "arith")
  | ((with_reducible refine' od_fdiv ?h1); walk_at "arith")
  | ((with_reducible refine' od_pow ?h1); exact ⟨by decide, by decide, by decide⟩)
  | with_reducible exact od_lt | with_reducible exact od_le | with_reducible exact od_gt | with_reducible exact od_ge
  | ((with_reducible refine' od_plusT ?h1); walk_at "arith")
  | ((with_reducible refine' od_plusL ?h1); walk_at "arith")
  | ((with_reducible refine' od_plusS ?h1); walk_at "arith")
  | with_reducible exact od_isN | with_reducible exact od_notN
  | ((with_reducible refine od_eq ?_ ?_) <;> walk_at "shp")
  | ((with_reducible refine od_ne ?_ ?_) <;> walk_at "shp")
  | ((with_reducible refine od_inL ?_ ?_) <;> walk_at "shp")
  | ((with_reducible refine od_ixL ?_); assumption)
  | ((with_reducible refine od_ixT ?_); assumption))
local macro_rules | `(tactic| walk_at "ea") => `(tactic| first | with_reducible exact ea_nil | ((with_reducible refine' ea_consD ?h1 ?h2); (case h1 => walk_at "ev"); (case h2 => walk_at "ea")))
local macro_rules | `(tactic| walk_at "eo") => `(tactic| first | with_reducible exact eo_none | ((with_reducible refine' eo_at ?h1); (case h1 => walk_at "ev")))
local macro_rules | `(tactic| walk_at "cd") => `(tactic| first
  | with_reducible exact cd_lenL | with_reducible exact cd_lenT | with_reducible exact cd_tupL | with_reducible exact cd_tupT | with_reducible exact cd_lstL | with_reducible exact cd_lstT | with_reducible exact cd_abs | with_reducible exact cd_int)
local macro_rules | `(tactic| walk_at "ev") => `(tactic| first
  | with_reducible exact ev_int | with_reducible exact ev_bl | with_reducible exact ev_str | with_reducible exact ev_non
  | ((with_reducible refine' ev_var ?h1 ?h2); (case h1 => exact rfl); (case h2 => walk_at "rep"))
  | ((with_reducible refine' ev_opD ?h1 ?h2 ?h3); (case h1 => walk_at "ev"); (case h2 => walk_at "ev"); (case h3 => walk_at "od"))
  | ((with_reducible refine' ev_tupD ?h1); (case h1 => walk_at "ea"))
  | ((with_reducible refine' ev_lstD ?h1); (case h1 => walk_at "ea"))
  | ((with_reducible refine' ev_revL ?h1); (case h1 => walk_at "ev"))
  | ((with_reducible refine' ev_slD ?h1 ?h2 ?h3 ?h4); (case h1 => walk_at "ev"); (case h2 => walk_at "eo"); (case h3 => walk_at "eo"); (case h4 => first | with_reducible exact sd_tup | with_reducible exact sd_list))
  | ((with_reducible refine' ev_cbD ?h1 ?h2); (case h1 => walk_at "ea"); (case h2 => walk_at "cd"))
  | ((with_reducible refine' ev_notV ?h1); (case h1 => walk_at "ev"))
  | assumption)
local macro_rules | `(tactic| walk_at "et") => `(tactic| first
  | ((with_reducible refine' et_testD ?h1); (case h1 => walk_at "ev"))
  | ((with_reducible refine' et_BD ?h1); (case h1 => walk_at "ev"))
  | ((with_reducible refine' et_notD ?h1); (case h1 => walk_at "et"))
  | ((with_reducible refine' et_andD ?h1 ?h2); (case h1 => walk_at "et"); (case h2 => intro _; walk_at "et"))
  | ((with_reducible refine' et_orD ?h1 ?h2); (case h1 => walk_at "et"); (case h2 => intro _; walk_at "et"))
  | assumption)
section
variable {X : Cx} {a b e : Expr} {es : List Expr} {ta tb te : TE} {p pos : Pos} {x : Str} {t : TA}
theorem xIxK (K' : PySem.W.Frag) (hK : X.K = K') (ha : PE X a ta) (hb : PE X b tb) (hs : PlainIx b := by exact fun _ _ => rfl) : PE X (.Subscript a b pos) (tOp (rIx K') ta tb) := by
  subst hK
  exact xIx ha hb hs
theorem xTruthK (K' : PySem.W.Frag) (hK : X.K = K') (ha : PE X a ta) (he : ∀ whole, isTrue a X.env whole = (do let v ← whole; standAt a.pos; holding [v] (truthy v)) := by intro _; rfl) : PT X a (tTruth K' ta) := by
  subst hK
  exact xTruth ha he
theorem op_plusK (K' : PySem.W.Frag) (hK : X.K = K') : OpR X (binaryOp .Add) (rPlus K') := by subst hK; exact op_plus
theorem op_eqK (K' : PySem.W.Frag) (hK : X.K = K') (hu : X.A.units + 64 < cLine) : OpR X (compareOp .Eq) (rEqD K') := by subst hK; exact op_eqD hu
theorem op_neK (K' : PySem.W.Frag) (hK : X.K = K') (hu : X.A.units + 64 < cLine) : OpR X (compareOp .NotEq) (rNeD K') := by subst hK; exact op_neD hu
theorem op_inK (K' : PySem.W.Frag) (hK : X.K = K') (hu : X.A.units + 65 < cLine) : OpR X (compareOp .In) (rInD K') := by subst hK; exact op_inD hu
theorem op_niK (K' : PySem.W.Frag) (hK : X.K = K') (hu : X.A.units + 65 < cLine) : OpR X (compareOp .NotIn) (rNotInD K') := by subst hK; exact op_notInD hu
theorem op_inTK (K' : PySem.W.Frag) (hK : X.K = K') (hu : X.A.units + 65 < cLine) : OpR X (compareOp .In) (rInDT K' false) := by subst hK; exact op_inDT hu
theorem op_niTK (K' : PySem.W.Frag) (hK : X.K = K') (hu : X.A.units + 65 < cLine) : OpR X (compareOp .NotIn) (rInDT K' true) := by subst hK; exact op_notInDT hu
theorem cl_reprK (K' : PySem.W.Frag) (hK : X.K = K') (hA : X.A.guards = some []) (hu : X.A.units + 64 < cLine) : CallR X (.builtin "repr") (rRepr K') := by subst hK; exact cl_repr hA hu
theorem cl_lenK (K' : PySem.W.Frag) (hK : X.K = K') : CallR X (.builtin "len") (rLen K') := by subst hK; exact cl_len
theorem cl_tupK (K' : PySem.W.Frag) (hK : X.K = K') : CallR X (.type "tuple") (rTupOf K') := by subst hK; exact cl_tup
theorem cl_lstK (K' : PySem.W.Frag) (hK : X.K = K') : CallR X (.type "list") (rLstOf K') := by subst hK; exact cl_lst
theorem cr_anyK (K' : PySem.W.Frag) (hK : X.K = K') (hc : X.calm = true) : CallR X (.builtin "any") (rAny K') := by subst hK; exact cr_any hc
end
end DL

/-! Several except clauses that name what they caught; isinstance of what was caught, where it is one. -/
namespace DL
open PySem PySem.Spec
open PyProof.Rows L2
local macro_rules | `(tactic| walk_at "rep") => `(tactic| first | assumption | exact Da.int _ | exact Da.bl _ | exact Da.str _ | exact Da.non | exact Sub.da (by assumption) (by assumption) | exact Sub.da (Tr.jj (by assumption)) (by assumption))
local macro_rules | `(tactic| walk_at "arith") => `(tactic| first | assumption | omega | decide | exact cmul_small (by omega) (by omega) | exact cdiv_small (by omega) (by omega))
local macro_rules | `(tactic| walk_at "shp") => `(tactic| first | exact sh_int _ | exact sh_tup _ | exact sh_list _ | assumption)
local macro_rules | `(tactic| walk_at "od") => `(tactic| first
  | with_reducible exact od_plus
  | with_reducible exact od_sub
  | ((with_reducible refine' od_mul ?h1); walk_at "arith")
  | ((with_reducible refine' od_mod ?h1); walk_at "arith")
  | ((with_reducible refine' od_fdiv ?h1); walk_at "arith")
  | ((with_reducible refine' od_pow ?h1); exact ⟨by decide, by decide, by decide⟩)
  | with_reducible exact od_lt | with_reducible exact od_le | with_reducible exact od_gt | with_reducible exact od_ge
  | ((with_reducible refine' od_plusT ?h1); walk_at "arith")
  | ((with_reducible refine' od_plusL ?h1); walk_at "arith")
  | ((with_reducible refine' od_plusS ?h1); walk_at "arith")
  | with_reducible exact od_isN | with_reducible exact od_notN
  | ((with_reducible refine od_eq ?_ ?_) <;> walk_at "shp")
  | ((with_reducible refine od_ne ?_ ?_) <;> walk_at "shp")
  | ((with_reducible refine od_inL ?_ ?_) <;> walk_at "shp")
  | ((with_reducible refine od_ixL ?_); assumption)
  | ((with_reducible refine od_ixT ?_); assumption))
local macro_rules | `(tactic| walk_at "ea") => `(tactic| first | with_reducible exact ea_nil | ((with_reducible refine' ea_consD ?h1 ?h2); (case h1 => walk_at "ev"); (case h2 => walk_at "ea")))
local macro_rules | `(tactic| walk_at "eo") => `(tactic| first | with_reducible exact eo_none | ((with_reducible refine' eo_at ?h1); (case h1 => walk_at "ev")))
local macro_rules | `(tactic| walk_at "cd") => `(tactic| first
  | with_reducible exact cd_lenL | with_reducible exact cd_lenT | with_reducible exact cd_tupL | with_reducible exact cd_tupT | with_reducible exact cd_lstL | with_reducible exact cd_lstT | with_reducible exact cd_abs | with_reducible exact cd_int)
local macro_rules | `(tactic| walk_at "ev") => `(tactic| first
  | with_reducible exact ev_int | with_reducible exact ev_bl | with_reducible exact ev_str | with_reducible exact ev_non
  | ((with_reducible refine' ev_var ?h1 ?h2); (case h1 => exact rfl); (case h2 => walk_at "rep"))
  | ((with_reducible refine' ev_opD ?h1 ?h2 ?h3); (case h1 => walk_at "ev"); (case h2 => walk_at "ev"); (case h3 => walk_at "od"))
  | ((with_reducible refine' ev_tupD ?h1); (case h1 => walk_at "ea"))
  | ((with_reducible refine' ev_lstD ?h1); (case h1 => walk_at "ea"))
  | ((with_reducible refine' ev_revL ?h1); (case h1 => walk_at "ev"))
  | ((with_reducible refine' ev_slD ?h1 ?h2 ?h3 ?h4); (case h1 => walk_at "ev"); (case h2 => walk_at "eo"); (case h3 => walk_at "eo"); (case h4 => first | with_reducible exact sd_tup | with_reducible exact sd_list))
  | ((with_reducible refine' ev_cbD ?h1 ?h2); (case h1 => walk_at "ea"); (case h2 => walk_at "cd"))
  | ((with_reducible refine' ev_notV ?h1); (case h1 => walk_at "ev"))
  | assumption)
local macro_rules | `(tactic| walk_at "et") => `(tactic| first
  | ((with_reducible refine' et_testD ?h1); (case h1 => walk_at "ev"))
  | ((with_reducible refine' et_BD ?h1); (case h1 => walk_at "ev"))
  | ((with_reducible refine' et_notD ?h1); (case h1 => walk_at "et"))
  | ((with_reducible refine' et_andD ?h1 ?h2); (case h1 => walk_at "et"); (case h2 => intro _; walk_at "et"))
  | ((with_reducible refine' et_orD ?h1 ?h2); (case h1 => walk_at "et"); (case h2 => intro _; walk_at "et"))
  | assumption)
/-- how a clause with a name ends: its slot is empty again -/
def offE (D : Ends) (i : Nat) : Ends := { nx := fun σ H => D.nx (σ.set i none) H, rt := D.rt, bk := fun σ H => D.bk (σ.set i none) H, ct := fun σ H => D.ct (σ.set i none) H }
/-- clauses: the class, the name's slot, the suite -/
abbrev Cls3 : Type := Value × Nat × (Addr → Value → Option Addr → TS)
def wNamed (K : PySem.W.Frag) (Wo : WX) (D : Ends) : List Cls3 → WX
  | [] => Wo
  | (c, i, ts) :: more => fun cls d σ H => ∃ yes, PySem.W.exmOne K cls c = some yes ∧ (yes = true → ∀ a, H a = none → ts a cls d (offE D i) (σ.set i (some (.ref a))) H) ∧ (yes = false → wNamed K Wo D more cls d σ H)
inductive HdsN (X : Cx) : List ExceptHandler → List Cls3 → Prop
  | nil : HdsN X [] []
  | cons {x n : Str} {c : Value} {i : Nat} {ts : Addr → Value → Option Addr → TS} {b : Stmt} {bs : List Stmt} {p p' : Pos} {hds : List ExceptHandler} {l : List Cls3} (hc : Names X x c) (hi : X.N[i]? = some n) (hl : X.env.kindOf n = some .local)
      (hs : ∀ (a : Addr) (oe : Obj) (cls : Value) (d : Option Addr) (pn : List (Addr × Obj)), Zc cls d oe → (∃ vs, oe.data = .fields vs) → PSs (X.suite a ((a, oe) :: pn)) (b :: bs) (ts a cls d)) (more : HdsN X hds l) :
      HdsN X (.ExceptHandler (some (.Name x p)) (some n) (b :: bs) p' :: hds) ((c, i, ts) :: l)
section
variable {X : Cx} {body : List Stmt} {h₀ : ExceptHandler} {hds : List ExceptHandler} {l : List Cls3} {pos : Pos} {tb : WX → TS} {Wo : WX}
theorem ps_try_named (hs : X.stack = X.env :: X.outer) (hf : X.env.frame = some X.env.locals) (nd : X.N.Nodup) (tk : Takes X Wo) (hb : ∀ (W : WX) (pn : List (Addr × Obj)) (xe : Value → Shared → Prop), Takes (X.tr pn xe) W → PassesOwn (model X.prog X.w) X.A X.env xe → PSs (X.tr pn xe) body (tb W))
    (hh : HdsN X (h₀ :: hds) l) : PS X (.Try body (h₀ :: hds) [] [] pos) (fun D σ H => tb (wNamed X.K Wo D l) D σ H) := by
  constructor
  intro pins s σ H D I told
  have ok := I.ok
  have fr : X.A.frames = some (X.env :: X.outer) := ok.frames.trans (by rw [hs])
  let catch_ : Value → Shared → Prop := fun e t => wpAny (model X.prog X.w) X.A (noteFrame e X.env) (fun _ t => wpAny (model X.prog X.w) X.A (setFlight e none) (fun _ t => wpAny (model X.prog X.w) X.A (handleBy e X.env (h₀ :: hds)) (SP X pins D) X.xe t) X.xe t) X.xe t
  have runs := hb (wNamed X.K Wo D l) (X.pn ++ pins) catch_ (fun u t came => ?caught) PassesOwn.looking
  case caught =>
    obtain ⟨a, B, sI, pins', σ', H', cls, d, rfl, J', nb, up, sky, na, os, ag, wish⟩ := came
    have J : Inv X pins σ' H' sI := J'.ofTry ok
    refine Sky.land Zc.steady fr hf (by rw [← hs]; exact sky) fun g fly up1 => ?_
    obtain ⟨oe, fs, at_, hz, dat⟩ := fly.there
    have J1 : Inv X pins σ' H' { t with heap := g } := J.landed nb fly.1 (up.trans up1) os ag
    have off : a ∉ frs (X.env :: X.outer) := fun m => by
      obtain ⟨_, o', e', nf⟩ := fly.2.2.1.mem m
      rw [at_] at e'
      cases e'
      exact nf _ dat
    have nL : a ≠ X.env.locals := fun z => off (List.mem_filterMap.mpr ⟨X.env, List.mem_cons_self, by rw [hf, z]⟩)
    have nF : a ∉ X.fs := fun m => by
      obtain ⟨v, hv, q⟩ := List.mem_filterMap.mp m
      exact off (List.mem_filterMap.mpr ⟨v, List.mem_cons_of_mem _ hv, q⟩)
    have T := J1.suite at_ dat na nL nF
    have ty : PySem.W.Looks (model X.prog X.w) g (typeOf (.ref a)) cls := fun A Q E s k q => wpAny_typeOf_ref (k _ _ at_) (by rw [hz.1]; exact q)
    have each : ∀ {hs' : List ExceptHandler} {l' : List Cls3}, HdsN X hs' l' → wNamed X.K Wo D l' cls d σ' H' → wpAny (model X.prog X.w) X.A (handleBy (.ref a) X.env hs') (SP X pins D) X.xe { t with heap := g } := by
      intro hs' l' ck
      induction ck with
      | nil =>
        intro wo
        obtain ⟨_, _, _, oe', fs', _, _, _, at', _, dat', f1, _⟩ := id fly
        refine wpAny_handleBy_nil ?_
        have up_ : wpAny (model X.prog X.w) X.A (setFlight (.ref a) X.env.frame) (fun _ t => wpAny (model X.prog X.w) X.A (throw (.ref a) : Sem Flow) (SP X pins D) X.xe t) X.xe { t with heap := g } := by
          rw [hf]
          exact HandSPX.setFlight_upZ fly fun g2 hold up2 => wpAny_throw (tk _ _ ⟨a, B, sI, pins, σ', H', cls, d, rfl, J, nb, (up.trans up1).trans up2, .inr (.inr (by rw [hs]; exact hold)), na, os, ag, wo⟩)
        unfold PySem.passOn
        refine wpAny_bind (wpAny_field at' dat' f1 ?_)
        rw [if_neg (by simp : ¬ ((Value.ref _ == Value.none) = true))]
        first
          | exact wpAny_bind (wpAny_pure (wpAny_bind up_))
          | exact wpAny_bind up_
      | @cons x n c i ts b bs p p' hds2 l2 hc hi hl hsu more ih =>
        rintro ⟨yes, hm, w1, w2⟩
        refine wpAny_handleBy_cons (codeAny_handlers_test ?_) (by intro q; cases q)
        have is_ := PySem.W.exm_one (M := model X.prog X.w) J1.kIn ty hm
        have read : ∀ {Q E : Value → Shared → Prop}, Q c { t with heap := g } → wpAny (model X.prog X.w) (X.A.mark (some (.ref a))) (eval (.Name x p) X.env) Q E { t with heap := g } := fun {Q E} q => by
          obtain ⟨hg, hd, hm' | ⟨hm', hv, hn⟩⟩ := hc
          · exact ld_glob (X := X.suite a ((a, oe) :: (X.pn ++ pins))) T hg hm' q hd
          · exact ld_blt (X := X.suite a ((a, oe) :: (X.pn ++ pins))) T hg hm' hv q hn hd
        refine read (is_.here ?_)
        match yes, w1, w2 with
        | false, _, w2 =>
          show wpAny _ X.A (handleBy (.ref a) X.env hds2) _ _ _
          exact ih (w2 rfl)
        | true, w1, _ =>
          refine codeAny_handlers_suite_as (HandSPX.lands_againZ fly fun g2 fly2 up2 => ?_)
          obtain ⟨oe2, fs2, at2, hz2, dat2⟩ := fly2.there
          have J2 : Inv X pins σ' H' { t with heap := g2 } := J.landed nb fly2.1 ((up.trans up1).trans up2) os ag
          have T2 := J2.suite at2 dat2 na nL nF
          refine store_ok (X := X.suite a ((a, oe2) :: (X.pn ++ pins))) (v := .ref a) T2 nd hi (.inl hl) rfl (fun s5 T5 => ?_) (.inr hl)
          refine wpAny_mono ((hsu a oe2 cls d (X.pn ++ pins) hz2 ⟨_, dat2⟩).run [] s5 _ H' _ T5 (w1 rfl a na)) (fun fl s6 out => ?_) fun _ _ z => False.elim z
          have fin : ∀ {σ6 : L2.St} {H6 : Hp} {Q : Shared → Prop}, Inv (X.suite a ((a, oe2) :: (X.pn ++ pins))) [] σ6 H6 s6 → (∀ s7, Inv X pins (σ6.set i none) H6 s7 → Q s7) →
              wpAny (model X.prog X.w) X.A (do bindName X.env n .none; unbindBehindTheSuite X.env n p') (fun _ s7 => Q s7) X.xe s6 := fun {σ6 H6 Q} T6 q => gone_ok (T6.unsuite ok) nd hi hl q
          match fl, out with
          | .next, ⟨σ6, H6, T6, q6⟩ => exact fin T6 fun s7 J7 => ⟨_, _, J7, q6⟩
          | .brk, ⟨σ6, H6, T6, q6⟩ => exact fin T6 fun s7 J7 => ⟨_, _, J7, q6⟩
          | .cont, ⟨σ6, H6, T6, q6⟩ => exact fin T6 fun s7 J7 => ⟨_, _, J7, q6⟩
          | .ret u, ⟨v6, σ6, H6, T6, r6, q6⟩ => exact fin T6 fun s7 J7 => ⟨_, _, _, J7, r6, q6⟩
    exact each hh wish
  refine wpAny_Try_except (wpAny_mono (runs.run [] s σ H D (I.toTry _) told) (fun fl t out => ?_) fun _ _ he => he)
  match fl, out with
  | .next, ⟨σ', H', J, q⟩ => exact wpAny_execs_nil ⟨σ', H', J.ofTry ok, q⟩
  | .brk, ⟨σ', H', J, q⟩ => exact ⟨σ', H', J.ofTry ok, q⟩
  | .cont, ⟨σ', H', J, q⟩ => exact ⟨σ', H', J.ofTry ok, q⟩
  | .ret u, ⟨v, σ', H', J, r, q⟩ => exact ⟨v, σ', H', J.ofTry ok, r, q⟩
end
/-! ### isinstance of what was caught: yes -/
theorem ans_yes {K : PySem.W.Frag} {x t c : Value} {P : Heap → Prop} (ty : ∀ (M : Model) (h : Heap), K.In h → P h → PySem.W.Looks M h (typeOf x) t) (ne : (t == c) = false) (e : PySem.W.kitCls K t c = some true) : PySem.Answers (fun s => K.In s.heap ∧ P s.heap) x c true := by
  intro dep tk prog w A R s told
  obtain ⟨h0, g, d, tt, os⟩ := s
  obtain ⟨⟨X, p⟩, q⟩ := told
  obtain ⟨k1, k2, k3⟩ := PySem.W.kit_cls (M := model prog w) X e
  unfold Builtin.«isinstance.nested»
  refine wpAny_bind ((ty (model prog w) h0 X p).at ?_)
  rw [if_neg (by rw [ne]; exact Bool.false_ne_true)]
  refine wpAny_bind (k1.at ?_)
  rw [if_pos (by decide)]
  k_delta "plainIsInstance"
  refine wpAny_bind (wpAny_bind (k2.at ?_))
  simp only [Bool.not_true, Bool.false_eq_true, if_false]
  refine wpAny_bind (((ty (model prog w) h0 X p).andThen k3).at ?_)
  first
    | exact wpAny_pure (wpAny_pure (q tt))
    | (simp only [if_true]; first | exact wpAny_pure (wpAny_pure (q tt)) | exact wpAny_pure (q tt) | exact wpAny_bind (wpAny_pure (wpAny_pure (q tt))))
/-- isinstance(e, C), where e, the one that the suite holds, is one -/
def rIsY (K : PySem.W.Frag) (D : Value) (a : Addr) : List V → Hp → VK → Prop := fun xs H Q => ∃ C : Addr, xs = [.ref a, .ref C] ∧ ((D == .ref C) = false ∧ PySem.W.kitCls K D (.ref C) = some true) ∧ Q (.bl true) H
theorem call_isY {X : Cx} {a : Addr} {D : Value} {d : Option Addr} {oe : Obj} {pn : List (Addr × Obj)} (hz : Zc D d oe) : CallR (X.suite a ((a, oe) :: pn)) (.builtin "isinstance") (rIsY X.K D a) := by
  rintro pins s σ H xs us Q I r ⟨C, rfl, ⟨ne, e⟩, q⟩
  obtain ⟨u1, u2, rfl, r1, r2⟩ := vals2 r
  cases (show u1 = Value.ref a from r1)
  cases (show u2 = Value.ref C from r2)
  obtain ⟨at_, _⟩ := I.pin (a, oe) (List.mem_append.mpr (.inl List.mem_cons_self))
  exact PySem.call_isinstance (S := fun _ R s => (X.K.In s.heap ∧ s.heap.get? a = some oe) ∧ ∀ tk, R (.ok (.ret (.bool true))) { s with toks := tk })
    (fun prog w A R s told => PySem.isinstance_outer (ans_yes (P := fun h => h.get? a = some oe) (fun M h X' p A Q E s k z => wpAny_typeOf_ref (k _ _ p) (by rw [hz.1]; exact z)) ne e 0 _ prog w A R s told) (fun z => nomatch z)) ⟨⟨I.kIn, at_⟩, fun tk => ⟨.bl true, H, I.tok tk, rfl, q⟩⟩
end DL

/-! A tuple so many times, any number of times. -/
namespace DL
open PySem PySem.Spec
open PyProof.Rows L2
local macro_rules | `(tactic| walk_at "rep") => `(tactic| first | assumption | exact Da.int _ | exact Da.bl _ | exact Da.str _ | exact Da.non | exact Sub.da (by assumption) (by assumption) | exact Sub.da (Tr.jj (by assumption)) (by assumption))
local macro_rules | `(tactic| walk_at "arith") => `(tactic| first | assumption | omega | decide | exact cmul_small (by omega) (by omega) | exact cdiv_small (by omega) (by omega))
local macro_rules | `(tactic| walk_at "shp") => `(tactic| first | exact sh_int _ | exact sh_tup _ | exact sh_list _ | assumption)
local macro_rules | `(tactic| walk_at "od") => `(tactic| first
  | with_reducible exact od_plus
  | with_reducible exact od_sub
  | ((with_reducible refine' od_mul ?h1); walk_at "arith")
  | ((with_reducible refine' od_mod ?h1); walk_at "arith")
  | ((with_reducible refine' od_fdiv ?h1); walk_at "arith")
  | ((with_reducible refine' od_pow ?h1); exact ⟨by decide, by decide, by decide⟩)
  | with_reducible exact od_lt | with_reducible exact od_le | with_reducible exact od_gt | with_reducible exact od_ge
  | ((with_reducible refine' od_plusT ?h1); walk_at "arith")
  | ((with_reducible refine' od_plusL ?h1); walk_at "arith")
  | ((with_reducible refine' od_plusS ?h1); walk_at "arith")
  | with_reducible exact od_isN | with_reducible exact od_notN
  | ((with_reducible refine od_eq ?_ ?_) <;> walk_at "shp")
  | ((with_reducible refine od_ne ?_ ?_) <;> walk_at "shp")
  | ((with_reducible refine od_inL ?_ ?_) <;> walk_at "shp")
  | ((with_reducible refine od_ixL ?_); assumption)
  | ((with_reducible refine od_ixT ?_); assumption))
local macro_rules | `(tactic| walk_at "ea") => `(tactic| first | with_reducible exact ea_nil | ((with_reducible refine' ea_consD ?h1 ?h2); (case h1 => walk_at "ev"); (case h2 => walk_at "ea")))
local macro_rules | `(tactic| walk_at "eo") => `(tactic| first | with_reducible exact eo_none | ((with_reducible refine' eo_at ?h1); (case h1 => walk_at "ev")))
local macro_rules | `(tactic| walk_at "cd") => `(tactic| first
  | with_reducible exact cd_lenL | with_reducible exact cd_lenT | with_reducible exact cd_tupL | with_reducible exact cd_tupT | with_reducible exact cd_lstL | with_reducible exact cd_lstT | with_reducible exact cd_abs | with_reducible exact cd_int)
local macro_rules | `(tactic| walk_at "ev") => `(tactic| first
  | with_reducible exact ev_int | with_reducible exact ev_bl | with_reducible exact ev_str | with_reducible exact ev_non
  | ((with_reducible refine' ev_var ?h1 ?h2); (case h1 => exact rfl); (case h2 => walk_at "rep"))
  | ((with_reducible refine' ev_opD ?h1 ?h2 ?h3); (case h1 => walk_at "ev"); (case h2 => walk_at "ev"); (case h3 => walk_at "od"))
  | ((with_reducible refine' ev_tupD ?h1); (case h1 => walk_at "ea"))
  | ((with_reducible refine' ev_lstD ?h1); (case h1 => walk_at "ea"))
  | ((with_reducible refine' ev_revL ?h1); (case h1 => walk_at "ev"))
  | ((with_reducible refine' ev_slD ?h1 ?h2 ?h3 ?h4); (case h1 => walk_at "ev"); (case h2 => walk_at "eo"); (case h3 => walk_at "eo"); (case h4 => first | with_reducible exact sd_tup | with_reducible exact sd_list))
  | ((with_reducible refine' ev_cbD ?h1 ?h2); (case h1 => walk_at "ea"); (case h2 => walk_at "cd"))
  | ((with_reducible refine' ev_notV ?h1); (case h1 => walk_at "ev"))
  | assumption)
local macro_rules | `(tactic| walk_at "et") => `(tactic| first
  | ((with_reducible refine' et_testD ?h1); (case h1 => walk_at "ev"))
  | ((with_reducible refine' et_BD ?h1); (case h1 => walk_at "ev"))
  | ((with_reducible refine' et_notD ?h1); (case h1 => walk_at "et"))
  | ((with_reducible refine' et_andD ?h1 ?h2); (case h1 => walk_at "et"); (case h2 => intro _; walk_at "et"))
  | ((with_reducible refine' et_orD ?h1 ?h2); (case h1 => walk_at "et"); (case h2 => intro _; walk_at "et"))
  | assumption)
theorem tmul_one (l : Addr) (items : Array Value) (n : Nat) (dd : Option Addr) (sl : Array (Option Value)) (u : Tok) :
    Meets (Builtin.«tuple.__mul__» ⟨[.ref l, .int 1 u], []⟩) (fun _ R s => s.heap.get? l = some { cls := .type "tuple", dict := dd, data := .seq items n, slots := sl } ∧ R (.ok (.ret (.ref l))) s) :=
  .of_wp fun prog w A R s h => by
    obtain ⟨hp, g, d, tk, os⟩ := s
    obtain ⟨hl, h⟩ := h
    have f1 := AutoSeq1.idx_int
    have c1 : (items.isEmpty || (1 : Int) == 1) = true := by simp
    wp_walk using wpAny_loadPart' hl
    repeat (first
      | (refine wpAny_ite_false (decide_eq_false (by decide)) ?_; wp_walk using wpAny_loadPart' hl)
      | (refine wpAny_ite_true (decide_eq_true c1) ?_; wp_walk using wpAny_loadPart' hl))
    exact ⟨_, rfl, h⟩
theorem tmul_none (l : Addr) (items : Array Value) (n : Nat) (dd : Option Addr) (sl : Array (Option Value)) (x : Int) (u : Tok) (c0 : (decide (x < -(2 ^ 63)) || decide (x ≥ 2 ^ 63)) = false) (c1 : (items.isEmpty || x == 1) = false) (c2 : (decide (x ≤ 0) || items.isEmpty) = true) :
    Meets (Builtin.«tuple.__mul__» ⟨[.ref l, .int x u], []⟩) (fun _ R s => s.heap.get? l = some { cls := .type "tuple", dict := dd, data := .seq items n, slots := sl } ∧
      R (.ok (.ret (Value.ref s.heap.objs.size))) { s with heap := s.heap.push { cls := Value.type "tuple", data := Data.seq #[] }, toks := s.toks }) :=
  .of_wp fun prog w A R s h => by
    obtain ⟨hp, g, d, tk, os⟩ := s
    obtain ⟨hl, h⟩ := h
    have f1 := AutoSeq1.idx_int
    wp_walk using wpAny_loadPart' hl
    repeat (first
      | (refine wpAny_ite_false (decide_eq_false (by rw [c0]; exact Bool.false_ne_true)) ?_; wp_walk using wpAny_loadPart' hl)
      | (refine wpAny_ite_false (decide_eq_false (by rw [c1]; exact Bool.false_ne_true)) ?_; wp_walk using wpAny_loadPart' hl)
      | (refine wpAny_ite_true (decide_eq_true c2) ?_; wp_walk using wpAny_loadPart' hl))
    exact ⟨_, rfl, h⟩
/-- a tuple that is not empty, k times -/
def rRepW (K : PySem.W.Frag) : R2 := fun x y H Q => ∃ l k xs, x = .ref l ∧ y = .int k ∧ SqT K H l xs ∧ xs ≠ [] ∧ -(2 ^ 60) < k ∧ k < 2 ^ 60 ∧ xs.length * k.toNat ≤ 100000 ∧ (k = 1 → Q (.ref l) H) ∧
  (k ≠ 1 → ∀ p, H p = none → Q (.ref p) (upd H p (.tup (List.replicate k.toNat xs).flatten)))
section
variable {X : Cx}
theorem op_repW : OpR X (binaryOp .Mult) (rRepW X.K) := by
  intro pins s σ H x y v u Q I rx ry h
  obtain ⟨l, k, xs, rfl, rfl, hT, hne, h1, h2, hz, q1, q⟩ := h
  cases rx
  obtain ⟨t, rfl⟩ := ry
  obtain ⟨its, r, ⟨⟨cls, dd, data, sl⟩, ho, hc, n, hd⟩, hs⟩ := I.tuple hT
  simp only at hc hd
  subst hc hd
  have hle : its.length = xs.length := r.length.symm
  have hn : its ≠ [] := fun e => hne (by
    rw [e] at hle
    exact List.eq_nil_of_length_eq_zero hle.symm)
  have hi : its.toArray.isEmpty = false := by
    cases its with
    | nil => exact absurd rfl hn
    | cons a b => rfl
  have hsz0 : its.toArray.size = xs.length := by rw [List.size_toArray, hle]
  have len0 : 0 < xs.length := List.length_pos_iff.mpr hne
  have c0 : (decide (k < -(2 ^ 63)) || decide (k ≥ 2 ^ 63)) = false := by
    rw [decide_eq_false (by omega), decide_eq_false (by omega)] <;> rfl
  have flen : (List.replicate k.toNat its).flatten.length ≤ sizeLine := by
    rw [PyProof.Rows.lm_len_rep_flat, hle, Nat.mul_comm]
    exact Nat.le_trans hz (by decide)
  have lay : k ≠ 1 → ∀ h', (∀ b ob, s.heap.get? b = some ob → h'.get? b = some ob) → IsTup h' s.heap.objs.size (List.replicate k.toNat its).flatten.toArray →
      EP X pins σ Q (.ref s.heap.objs.size) { s with heap := h' } := fun hk h' kp ob => by
    refine ⟨.ref s.heap.objs.size, _, I.laid (t' := s.toks) (o := .tup (List.replicate k.toNat xs).flatten) kp (Nat.le_refl _) ?_, rfl, q hk _ (I.hok.fresh (Nat.le_refl _))⟩
    exact ⟨by rw [PyProof.Rows.lm_len_rep_flat, Nat.mul_comm]; exact Nat.le_trans hz (by decide), _, r.rep k.toNat, ob⟩
  refine wpAny_binaryOp_repeat_ref (T := "tuple") (U := "int") (by decide) ⟨_, ho, rfl⟩ (fun s' => typeIs_int s' k t) noFill_tuple_mul F.fills_int_mul F.slot_int_rmul repeat_tuple F.slot_int_index.lookup
    (call_meets F.slot_int_rmul (typeIs_int s k t) F.entry_int_rmul (F.args_int_rmul_2 _ _) (int_rmul_tuple k t l its.toArray n dd sl) ⟨ho, rfl, ⟨_, ho, rfl⟩, ?_⟩)
  by_cases e1 : k = 1
  · subst e1
    exact call_meets F.slot_tuple_mul ⟨_, ho, rfl⟩ F.entry_tuple_mul (F.args_tuple_mul_2 _ _) (tmul_one l its.toArray n dd sl t) ⟨ho, ⟨.ref l, H, I, rfl, q1 rfl⟩⟩
  have c1 : (its.toArray.isEmpty || k == 1) = false := by
    rw [hi, Bool.false_or]
    exact beq_eq_false_iff_ne.mpr e1
  by_cases e2 : k ≤ 0
  · have z0 : k.toNat = 0 := by omega
    refine call_meets F.slot_tuple_mul ⟨_, ho, rfl⟩ F.entry_tuple_mul (F.args_tuple_mul_2 _ _) (tmul_none l its.toArray n dd sl k t c0 c1 (by rw [decide_eq_true e2]; rfl)) ⟨ho, ?_⟩
    refine lay e1 _ (fun b ob q => Heap.get?_push_of_some _ q) ?_
    rw [z0]
    exact IsTup.new _ _
  · have hm : ((its.toArray.size : Nat) : Int) * k ≤ 100000 := by
      rw [hsz0]
      have e3 : ((xs.length : Nat) : Int) * k = ((xs.length * k.toNat : Nat) : Int) := by
        rw [Int.natCast_mul, Int.toNat_of_nonneg (by omega)]
      rw [e3]
      exact Int.ofNat_le.mpr hz
    have c2 : (decide (k ≤ 0) || its.toArray.isEmpty) = false := by
      rw [hi, Bool.or_false]
      exact decide_eq_false e2
    have c4 : Builtin.Tuple.tupleTooMany (((its.toArray.size : Nat) : Int) * k) = false := by
      unfold Builtin.Tuple.tupleTooMany
      refine decide_eq_false ?_
      have : (100000 : Int) ≤ (sizeLine : Int) := by decide
      omega
    refine call_meets F.slot_tuple_mul ⟨_, ho, rfl⟩ F.entry_tuple_mul (F.args_tuple_mul_2 _ _) (tuple_mulW l its.toArray n dd sl k t c0 c1 c2 (by omega) c4 (by rw [size_rep, List.size_toArray]; exact flen)) ⟨ho, ?_⟩
    rw [size_rep]
    exact lay e1 _ (fun b ob q => Heap.get?_push_of_some _ q) (IsTup.new _ _)
end
theorem od_repW {K : PySem.W.Frag} {M : Md} {ds : List PyData} {k : Int} (hne : ds ≠ []) (h1 : -(2 ^ 60) < k) (h2 : k < 2 ^ 60) (hl : ds.length * k.toNat ≤ 100000) : OpD K M (rRepW K) (.tuple ds) (.int k) (· = .tuple (List.replicate k.toNat ds).flatten) := fun x y J H w ax ay Q q => by
  obtain ⟨a, xs, rfl, ht, hd⟩ := da_tup ax
  have rep : ∀ (m : Nat) {J : Hp}, Das K J xs ds → Das K J (List.replicate m xs).flatten (List.replicate m ds).flatten := fun m => by
    intro J hd
    induction m with
    | zero => exact .nil
    | succ m ih => rw [List.replicate_succ, List.replicate_succ, List.flatten_cons, List.flatten_cons]; exact das_app hd ih
  refine ⟨a, k, xs, rfl, da_int ay, w.jh.t ht, fun e => hne ?_, h1, h2, by rw [das_len hd]; exact hl, fun e => ?_, fun _ p hp => ?_⟩
  · rw [e] at hd
    cases hd
    rfl
  · refine q _ _ J H w w.tr rfl ?_
    rw [e]
    have e1 : (List.replicate (Int.toNat 1) ds).flatten = ds := by simp
    rw [e1]
    exact ax
  · have t := w.new (o := .tup (List.replicate k.toNat xs).flatten) hp
    exact q _ _ _ _ (t.wf w) t rfl (.tup (.of upd_same) (t.jj.das (rep _ hd)))
end DL

/-! A lambda handed to a def that hears what it raises; the mode in which tables of code objects grow; a law's end with tables. -/
namespace DL
open PySem PySem.Spec
open PyProof.Rows L2
local macro_rules | `(tactic| walk_at "rep") => `(tactic| first | assumption | exact Da.int _ | exact Da.bl _ | exact Da.str _ | exact Da.non | exact Sub.da (by assumption) (by assumption) | exact Sub.da (Tr.jj (by assumption)) (by assumption))
local macro_rules | `(tactic| walk_at "arith") => `(tactic| first | assumption | omega | decide | exact cmul_small (by omega) (by omega) | exact cdiv_small (by omega) (by omega))
local macro_rules | `(tactic| walk_at "shp") => `(tactic| first | exact sh_int _ | exact sh_tup _ | exact sh_list _ | assumption)
local macro_rules | `(tactic| walk_at "od") => `(tactic| first
  | with_reducible exact od_plus
  | with_reducible exact od_sub
  | ((with_reducible refine' od_mul ?h1); walk_at "arith")
  | ((with_reducible refine' od_mod ?h1); walk_at "arith")
  | ((with_reducible refine' od_fdiv ?h1); walk_at "arith")
  | ((with_reducible refine' od_pow ?h1); exact ⟨by decide, by decide, by decide⟩)
  | with_reducible exact od_lt | with_reducible exact od_le | with_reducible exact od_gt | with_reducible exact od_ge
  | ((with_reducible refine' od_plusT ?h1); walk_at "arith")
  | ((with_reducible refine' od_plusL ?h1); walk_at "arith")
  | ((with_reducible refine' od_plusS ?h1); walk_at "arith")
  | with_reducible exact od_isN | with_reducible exact od_notN
  | ((with_reducible refine od_eq ?_ ?_) <;> walk_at "shp")
  | ((with_reducible refine od_ne ?_ ?_) <;> walk_at "shp")
  | ((with_reducible refine od_inL ?_ ?_) <;> walk_at "shp")
  | ((with_reducible refine od_ixL ?_); assumption)
  | ((with_reducible refine od_ixT ?_); assumption))
local macro_rules | `(tactic| walk_at "ea") => `(tactic| first | with_reducible exact ea_nil | ((with_reducible refine' ea_consD ?h1 ?h2); (case h1 => walk_at "ev"); (case h2 => walk_at "ea")))
local macro_rules | `(tactic| walk_at "eo") => `(tactic| first | with_reducible exact eo_none | ((with_reducible refine' eo_at ?h1); (case h1 => walk_at "ev")))
local macro_rules | `(tactic| walk_at "cd") => `(tactic| first
  | with_reducible exact cd_lenL | with_reducible exact cd_lenT | with_reducible exact cd_tupL | with_reducible exact cd_tupT | with_reducible exact cd_lstL | with_reducible exact cd_lstT | with_reducible exact cd_abs | with_reducible exact cd_int)
local macro_rules | `(tactic| walk_at "ev") => `(tactic| first
  | with_reducible exact ev_int | with_reducible exact ev_bl | with_reducible exact ev_str | with_reducible exact ev_non
  | ((with_reducible refine' ev_var ?h1 ?h2); (case h1 => exact rfl); (case h2 => walk_at "rep"))
  | ((with_reducible refine' ev_opD ?h1 ?h2 ?h3); (case h1 => walk_at "ev"); (case h2 => walk_at "ev"); (case h3 => walk_at "od"))
  | ((with_reducible refine' ev_tupD ?h1); (case h1 => walk_at "ea"))
  | ((with_reducible refine' ev_lstD ?h1); (case h1 => walk_at "ea"))
  | ((with_reducible refine' ev_revL ?h1); (case h1 => walk_at "ev"))
  | ((with_reducible refine' ev_slD ?h1 ?h2 ?h3 ?h4); (case h1 => walk_at "ev"); (case h2 => walk_at "eo"); (case h3 => walk_at "eo"); (case h4 => first | with_reducible exact sd_tup | with_reducible exact sd_list))
  | ((with_reducible refine' ev_cbD ?h1 ?h2); (case h1 => walk_at "ea"); (case h2 => walk_at "cd"))
  | ((with_reducible refine' ev_notV ?h1); (case h1 => walk_at "ev"))
  | assumption)
local macro_rules | `(tactic| walk_at "et") => `(tactic| first
  | ((with_reducible refine' et_testD ?h1); (case h1 => walk_at "ev"))
  | ((with_reducible refine' et_BD ?h1); (case h1 => walk_at "ev"))
  | ((with_reducible refine' et_notD ?h1); (case h1 => walk_at "et"))
  | ((with_reducible refine' et_andD ?h1 ?h2); (case h1 => walk_at "et"); (case h2 => intro _; walk_at "et"))
  | ((with_reducible refine' et_orD ?h1 ?h2); (case h1 => walk_at "et"); (case h2 => intro _; walk_at "et"))
  | assumption)
theorem tabs_stay {T : List (Addr × Str)} {H H' : Hp} (k : ∀ a o, H a = some o → (∀ ys, o ≠ .lst ys) → H' a = some o) (t : LamX.Tabs T H) : LamX.Tabs T H' := fun p hp => by
  obtain ⟨ps, h1, h2, h3⟩ := t p hp
  refine ⟨ps, k _ _ h1 nofun, h2, fun pos cv hc => ?_⟩
  obtain ⟨c, e1, e2⟩ := h3 pos cv hc
  exact ⟨c, e1, k _ _ e2 (fun ys z => by unfold LamX.CodeO at z; cases z)⟩
/-- the draws' two lists, the tables of code objects -/
def Md.law (h g : Addr) (T : List (Addr × Str)) : Md where
  fp := fun a => a = h ∨ a = g
  inv := fun H => drOk h g H ∧ LamX.Tabs T H
  tb := true
  loc := fun H H' e k ⟨d, t⟩ => ⟨(Md.draw h g).loc H H' e k d, tabs_stay k t⟩
  there := fun H ⟨⟨cs, n, h1, h2, _⟩, _⟩ a e => by
    rcases e with e | e
    · rw [e]; exact ⟨_, h1, (fun _ _ z => by cases z)⟩
    · rw [e]; exact ⟨_, h2, (fun _ _ z => by cases z)⟩
theorem Md.law_has {h g : Addr} {T : List (Addr × Str)} (ne : h ≠ g) : HasDr (Md.law h g T) h g :=
  ⟨ne, .inl rfl, .inr rfl, fun _ x => x.1, fun _ _ x _ k d => ⟨d, tabs_stay k x.2⟩⟩
/-- a mode in which the tables T may grow -/
structure HasTb (M : Md) (T : List (Addr × Str)) : Prop where
  tb : M.tb = true
  tabs : ∀ H, M.inv H → LamX.Tabs T H
  ext : ∀ H H', M.inv H → LamX.ExtN H H' → LamX.Tabs T H' → M.inv H'
theorem Md.law_tb {h g : Addr} {T : List (Addr × Str)} : HasTb (Md.law h g T) T :=
  ⟨rfl, fun _ x => x.2, fun H H' ⟨⟨cs, n, h1, h2, h3⟩, _⟩ e t => ⟨⟨cs, n, e _ _ h1 nofun, e _ _ h2 nofun, h3⟩, t⟩⟩
section
variable {K : PySem.W.Frag} {M : Md} {T : List (Addr × Str)} {σ : L2.St} {J H H1 : Hp} {P : PyData → Prop}
theorem tr_ext (hb : HasTb M T) (w : Wf M J H) (e : LamX.ExtN H H1) (t : LamX.Tabs T H1) : Tr M J H J H1 :=
  ⟨.refl _, fun a o h => e a o (w.jh a o h) fun ps z => w.nt hb.tb a ps (by rw [← z]; exact h), fun a o _ b h => e a o h (b hb.tb), hb.ext _ _ w.inv e t, fun _ _ _ _ n => n, fun a o b h => ⟨o, b, e a o h (b hb.tb)⟩, fun z => z⟩
/-- what a def makes of a lambda that it calls in a try: rows: the classes caught, what is told of each; "told" stands ahead of what comes back -/
def THeard (rows : List (Addr × Str)) : (XK → Hp → VK → Prop) → Hp → VK → Prop := fun tl H Q => ∃ Ech : XK,
  (∀ cls d H', Ech cls d H' → ∃ C s, (C, s) ∈ rows ∧ cls = .ref C ∧ ∃ dx v, d = some dx ∧ H' dx = some (.xd [("word", v)]) ∧ ∀ l, H' l = none → Q (.ref l) (upd H' l (.lst [.str s, v, .bl true]))) ∧
  tl Ech H fun v H' => ([.str "told", v] : List V).length ≤ sizeLine ∧ ∀ l, H' l = none → Q (.ref l) (upd H' l (.lst [.str "told", v]))
/-- such a call, where the lambda raises -/
theorem ev_heard {rows : List (Addr × Str)} {t : XK → TE} {Pe : Addr → Str → PyData → Prop} (hb : HasTb M T)
    (h : ∀ J1 H1, Wf M J1 H1 → Tr M J H J1 H1 → ∀ (E : XK) (Q : VK), (∀ C s dx v x J2 H2, Wf M J2 H2 → Tr M J1 H1 J2 H2 → (C, s) ∈ rows → Pe C s x → H2 dx = some (.xd [("word", v)]) → Da K J2 v x → E (.ref C) (some dx) H2) → t E σ H1 Q)
    (hP : ∀ C s x, Pe C s x → P (.list [.str s, x, .bool true])) : EvP K M (LamX.tLam T (THeard rows) t) σ J H P := fun J1 H1 w tr Q q => by
  refine ⟨hb.tabs _ w.inv, fun H2 e t2 => ?_⟩
  have tx := tr_ext hb w e t2
  have w2 := tx.wf w
  let Ech : XK := fun cls d H' => ∃ C s, (C, s) ∈ rows ∧ cls = .ref C ∧ ∃ dx v, d = some dx ∧ H' dx = some (.xd [("word", v)]) ∧ ∀ l, H' l = none → Q (.ref l) (upd H' l (.lst [.str s, v, .bl true]))
  refine ⟨Ech, fun _ _ _ z => z, h J1 H2 w2 (tr.trans tx) Ech _ fun C s dx v x J3 H3 w3 t3 hm hp hx a => ?_⟩
  refine ⟨C, s, hm, rfl, dx, v, rfl, hx, fun l hl => ?_⟩
  have t4 := w3.new (o := .lst [.str s, v, .bl true]) hl
  exact q _ _ _ _ (t4.wf w3) (tx.trans (t3.trans t4)) (hP C s x hp) (.lst upd_same (.cons (.str _) (.cons (t4.jj.da a) (.cons (.bl _) .nil))))
/-- a call that raises -/
theorem rd_callE {cl : Str → Addr} {fl : Str → Str} {pre : List PyData → Prop} {post : List PyData → PyData → Prop} {exc : List PyData → Str → PyData → Prop} {E : XK} {ta : TA} {ds : List PyData} {Q : VK} (w : Wf M J H) (h : EvA K M ta σ J H (· = ds)) (hp : pre ds) (hn : ∀ d, ¬ post ds d)
    (qe : ∀ c x dx v J1 H1, Wf M J1 H1 → Tr M J H J1 H1 → exc ds c x → H1 dx = some (.xd [(fl c, v)]) → Da K J1 v x → E (.ref (cl c)) (some dx) H1) : tCall (spX K cl fl pre post exc) [] E ta σ H Q :=
  h J H w w.tr _ fun vs ds' J1 H1 w1 t1 e a => by
    subst e
    show spX K cl fl pre post exc (vs ++ []) H1 Q E
    rw [List.append_nil]
    exact ⟨J1, _, w1.jh, a, hp, fun v d J' H' t p a' => (hn d p).elim, fun c x dx v J' H' t z hx a' => qe c x dx v J' H' ((w1.lift t).wf w1) (t1.trans (w1.lift t)) z hx a'⟩
end
/-! ### the def that hears -/
theorem passLam {X : Cx} {A : Around} {outer : List Env} {s : Shared} {H : Hp} {E : XK} {scope : Scope} {f c' : Addr} : Passes (L2.CX X.prog X.w) (LamX.lamCx X A outer s H E scope f c') E :=
  passes_call (takes_of rfl rfl rfl rfl) fun _ _ _ _ h => h
/-- all that a call of such a def with a lambda wants of it -/
structure Hears (X : Cx) (T : List (Addr × Str)) (k : Nat) (x a : Str) (TT : (XK → Hp → VK → Prop) → Hp → VK → Prop) : Prop where
  has : ∃ (g c P : Addr) (pg : Arguments) (bg : List Stmt) (sg : Scope) (dV kV doc pm cdv ct oc : Value) (an od : Option Addr) (osl : Array (Option Value)) (Ng : List Str), X.mg x = some (.ref g) ∧ PySem.W.keepIn X.K (.ref g) = true ∧
    X.K.lookup g = some ⟨oc, od, .func (PySem.W.fnOf x x pg bg sg dV kV doc pm an cdv ct), osl⟩ ∧ PySem.W.codeIn X.K cdv x = true ∧ L2.Binds X.K (PySem.W.fnOf x x pg bg sg dV kV doc pm an cdv ct) [a] [] ∧ FnScope Ng [a] sg ∧ Ng[0]? = some a ∧ Vis sg a ∧
    LamX.GivesTo X Ng x sg g cdv bg a (X.env.qual ++ "<lambda>") TT ∧ LamX.TabB X.base X.mg c P ∧ X.env.code = .ref c ∧ (P, X.env.qual ++ "<lambda>") ∈ T ∧ ∀ p ∈ T, p.1 = P → p.2 = X.env.qual ++ "<lambda>"
theorem xHears {X : Cx} {T : List (Addr × Str)} {k : Nat} {x a : Str} {TT : (XK → Hp → VK → Prop) → Hp → VK → Prop} {params : Arguments} {body : Expr} {scope : Scope} {t : XK → TE} {p lpos pos : Pos} (C : Hears X T k x a TT) (hr : Room (k + 2) X.A)
    (hbody : ∀ (A : Around) (outer : List Env) (s : Shared) (H : Hp) (E : XK) (f c' : Addr), Room k (A.deeper (LamX.lamEnv X scope s.heap.objs.size f c')) → PE (LamX.lamCx X A outer s H E scope f c') body (t E))
    (hg : Gl X x := by rfl) (L : LamX.lamSB X.env.scope scope = true := by decide +kernel) (hdef : defaultsOf params X.env = ([], []) := by rfl)
    (hbind : ∀ (q : Str) (cl : List (Str × Addr)) (pm cv ctv : Value), bindArgs (PySem.W.kla_fn "<lambda>" q params body scope cl pm cv ctv) ⟨[], []⟩ = pure [] := by intros; rfl)
    (hdb : (x == ("__debug__" : Str)) = false := by decide) (hd : (a == ("__debug__" : Str)) = false := by decide) (hcd : (a == ("__classdict__" : Str)) = false := by decide) : PE X (.Call (.Name x p) [.Lambda params body scope lpos] [] pos) (LamX.tLam T TT t) := by
  obtain ⟨g, c, P, pg, bg, sg, dV, kV, doc, pm, cdv, ct, oc, an, od, osl, Ng, hm, hk, lk, hcg, hb, Sg, hNg, hva, hG, TB, hcode, hmT, hu⟩ := C.has
  exact LamX.pe_lamcall hg hm hk lk hcg hb Sg hNg hva hG TB hcode hmT hu hr (LamX.lamS_by L) hdef hbind hbody hdb hd hcd
end DL

/-! A law's end where tables of code objects may grow; a def whose code object is known. -/
namespace DL
open PySem PySem.Spec
open PyProof.Rows L2
local macro_rules | `(tactic| walk_at "rep") => `(tactic| first | assumption | exact Da.int _ | exact Da.bl _ | exact Da.str _ | exact Da.non | exact Sub.da (by assumption) (by assumption) | exact Sub.da (Tr.jj (by assumption)) (by assumption))
local macro_rules | `(tactic| walk_at "arith") => `(tactic| first | assumption | omega | decide | exact cmul_small (by omega) (by omega) | exact cdiv_small (by omega) (by omega))
local macro_rules | `(tactic| walk_at "shp") => `(tactic| first | exact sh_int _ | exact sh_tup _ | exact sh_list _ | assumption)
local macro_rules | `(tactic| walk_at "od") => `(tactic| first
  | with_reducible exact od_plus
  | with_reducible exact od_sub
  | ((with_reducible refine' od_mul ?h1); walk_at "arith")
  | ((with_reducible refine' od_mod ?h1); walk_at "arith")
  | ((with_reducible refine' od_fdiv ?h1); walk_at "arith")
  | ((with_reducible refine' od_pow ?h1); exact ⟨by decide, by decide, by decide⟩)
  | with_reducible exact od_lt | with_reducible exact od_le | with_reducible exact od_gt | with_reducible exact od_ge
  | ((with_reducible refine' od_plusT ?h1); walk_at "arith")
  | ((with_reducible refine' od_plusL ?h1); walk_at "arith")
  | ((with_reducible refine' od_plusS ?h1); walk_at "arith")
  | with_reducible exact od_isN | with_reducible exact od_notN
  | ((with_reducible refine od_eq ?_ ?_) <;> walk_at "shp")
  | ((with_reducible refine od_ne ?_ ?_) <;> walk_at "shp")
  | ((with_reducible refine od_inL ?_ ?_) <;> walk_at "shp")
  | ((with_reducible refine od_ixL ?_); assumption)
  | ((with_reducible refine od_ixT ?_); assumption))
local macro_rules | `(tactic| walk_at "ea") => `(tactic| first | with_reducible exact ea_nil | ((with_reducible refine' ea_consD ?h1 ?h2); (case h1 => walk_at "ev"); (case h2 => walk_at "ea")))
local macro_rules | `(tactic| walk_at "eo") => `(tactic| first | with_reducible exact eo_none | ((with_reducible refine' eo_at ?h1); (case h1 => walk_at "ev")))
local macro_rules | `(tactic| walk_at "cd") => `(tactic| first
  | with_reducible exact cd_lenL | with_reducible exact cd_lenT | with_reducible exact cd_tupL | with_reducible exact cd_tupT | with_reducible exact cd_lstL | with_reducible exact cd_lstT | with_reducible exact cd_abs | with_reducible exact cd_int)
local macro_rules | `(tactic| walk_at "ev") => `(tactic| first
  | with_reducible exact ev_int | with_reducible exact ev_bl | with_reducible exact ev_str | with_reducible exact ev_non
  | ((with_reducible refine' ev_var ?h1 ?h2); (case h1 => exact rfl); (case h2 => walk_at "rep"))
  | ((with_reducible refine' ev_opD ?h1 ?h2 ?h3); (case h1 => walk_at "ev"); (case h2 => walk_at "ev"); (case h3 => walk_at "od"))
  | ((with_reducible refine' ev_tupD ?h1); (case h1 => walk_at "ea"))
  | ((with_reducible refine' ev_lstD ?h1); (case h1 => walk_at "ea"))
  | ((with_reducible refine' ev_revL ?h1); (case h1 => walk_at "ev"))
  | ((with_reducible refine' ev_slD ?h1 ?h2 ?h3 ?h4); (case h1 => walk_at "ev"); (case h2 => walk_at "eo"); (case h3 => walk_at "eo"); (case h4 => first | with_reducible exact sd_tup | with_reducible exact sd_list))
  | ((with_reducible refine' ev_cbD ?h1 ?h2); (case h1 => walk_at "ea"); (case h2 => walk_at "cd"))
  | ((with_reducible refine' ev_notV ?h1); (case h1 => walk_at "ev"))
  | assumption)
local macro_rules | `(tactic| walk_at "et") => `(tactic| first
  | ((with_reducible refine' et_testD ?h1); (case h1 => walk_at "ev"))
  | ((with_reducible refine' et_BD ?h1); (case h1 => walk_at "ev"))
  | ((with_reducible refine' et_notD ?h1); (case h1 => walk_at "et"))
  | ((with_reducible refine' et_andD ?h1 ?h2); (case h1 => walk_at "et"); (case h2 => intro _; walk_at "et"))
  | ((with_reducible refine' et_orD ?h1 ?h2); (case h1 => walk_at "et"); (case h2 => intro _; walk_at "et"))
  | assumption)
/-- what is known of a heap at the law's start: the script and empty tables -/
def OnlyT (tb : List Addr) (H : Hp) : Prop := (∀ P ∈ tb, H P = some (.tbl #[])) ∧ ∀ b, b ∉ tb → H b = none ∨ ∃ o xs, H b = some (.frz o (.lst xs))
section
variable {P : Program} {w : World} {K : PySem.W.Frag} {mg mb : Str → Option Value} {CX : CXT} {k : Nat} {fa a : Addr} {fd : FuncData} {x : Str} {sp : Sp} {s₀ : Shared} {vs : List Value} {ns : List Int} {cs : List (Addr × Addr)}
theorem law_onT {H : Hp} (KX : K.In s₀.heap) (hns : s₀.heap.Ns mainGlobals mg) (hb : s₀.heap.Ns builtinsNs mb) (hbb : ∀ y : Str, y ≠ "__name__" → mb y = bootBuiltins y) (hlim : s₀.heap.NoLimit) (hg : s₀.gens = #[])
    (hbm : ∃ (bm : Addr) (ob : Obj), mg "__builtins__" = some (.ref bm) ∧ bm ≠ builtinsNs ∧ s₀.heap.get? bm = some ob ∧ ob.cls = .type "module" ∧ ob.dict = some builtinsNs ∧ ob.data = .plain)
    (hT : ∀ p ∈ cs, s₀.heap.get? p.2 = some { cls := .none, data := .fields #[] }) (nT : ∀ p ∈ cs, K.lookup p.2 = none) (hC : ∀ p ∈ cs, PySem.W.codeHdIn K p.1 p.2 = true)
    (ha : s₀.heap.get? a = some { cls := .type "list", data := .seq vs.toArray }) (hr : Room k callerA)
    (F : ∀ base : Heap, K.In base → base.Ns mainGlobals mg → (∀ p ∈ cs, LamX.TabB base mg p.1 p.2) → FnG P w K mg base CX k fa fd [x] sp) (hbind : ∀ (s : Shared) (u : Value), BindsTo s fd ⟨[u], []⟩ [(x, u)]) (hsp : sp [.ref a] H (fun v _ => v = .bl true) fun _ _ _ => False) (hCX : ∀ e s', CX [] H s₀ (fun _ _ _ => False) e s' → False)
    (hO : OnlyT (cs.map (·.2)) H) (hok : HOk P w H s₀.heap) (alone : ∀ b, b ∉ cs.map (·.2) → b ≠ a ∨ K.lookup a ≠ none → H b = none) : codeAny (model P w) callerA (.call (.ref fa) ⟨[.ref a], []⟩) (Well s₀) s₀ := by
  have isT : ∀ b, b ∈ cs.map (·.2) → s₀.heap.get? b = some { cls := .none, data := .fields #[] } ∧ K.lookup b = none := fun b hb => by
    obtain ⟨p, hp, e⟩ := List.mem_map.mp hb
    exact ⟨by rw [← e]; exact hT p hp, by rw [← e]; exact nT p hp⟩
  have kn : ∀ {b : Addr} {o : Obj}, K.lookup b = some o → H b = none := fun {b o} e => by
    refine alone b (fun hb => ?_) ?_
    · rw [(isT b hb).2] at e; cases e
    · by_cases z : b = a
      · exact .inr (by rw [← z, e]; exact nofun)
      · exact .inl z
  -- what is neither a list nor a table is hidden from nobody
  have off : ∀ {b : Addr} {o : Obj}, s₀.heap.get? b = some o → (∀ u n, o.data ≠ .seq u n) → o.data ≠ .fields #[] → H b = none := fun {b o} e n1 n2 => by
    refine alone b (fun hb => ?_) (.inl fun z => ?_)
    · rw [(isT b hb).1] at e; cases e; exact n2 rfl
    · rw [z, ha] at e; cases e; exact n1 _ _ rfl
  have ns : ∀ {b : Addr} {m : Str → Option Value}, s₀.heap.Ns b m → (hidT s₀.heap H).Ns b m := by
    rintro b m ⟨o, es, ep, e, d, r⟩
    exact ⟨o, es, ep, hidT_get e (off e (fun u n z => by rw [d] at z; cases z) fun z => by rw [d] at z; cases z), d, r⟩
  have KB : K.In (hidT s₀.heap H) := fun b o e => hidT_get (KX b o e) (kn e)
  have TB : ∀ p ∈ cs, LamX.TabB (hidT s₀.heap H) mg p.1 p.2 := fun p hp => by
    have gm : ∀ {b : Addr}, s₀.heap.Ns b mg → b ≠ p.2 := fun {b} ⟨o, es, ep, e, d, _⟩ z => by
      rw [z, hT p hp] at e; cases e; cases d
    obtain ⟨bm, ob, b1, b2, b3, b4, b5, b6⟩ := hbm
    refine ⟨PySem.W.codeHd_of_K KB (hC p hp), ⟨bm, ob, b1, b2, fun z => ?_, fun z => ?_, hidT_get b3 (off b3 (fun u n z => by rw [b6] at z; cases z) fun z => by rw [b6] at z; cases z), b4, b5, b6⟩, gm hns⟩
    · obtain ⟨o, es, ep, e, d, _⟩ := hns
      rw [z, e] at b3; cases b3; rw [d] at b6; cases b6
    · rw [z, hT p hp] at b3; cases b3; cases b6
  have lim : (hidT s₀.heap H).NoLimit := hlim.elim fun mc z => ⟨mc, ns z.1, z.2⟩
  have env : Env0 P w K mg (hidT s₀.heap H) callerA [] s₀ H := ⟨rfl, ⟨KB, ns hns, ⟨mb, ns hb, hbb⟩, lim⟩, fun _ _ => of_hidT, Nat.le_of_eq (hidT_size _ _), trivial, nofun, hok, .of_eq hg⟩
  refine codeAny_mono ((F _ KB (ns hns) TB).go callerA [] s₀ H ⟨[.ref a], []⟩ [.ref a] [.ref a] _ _ rfl hr env (hbind s₀ (.ref a)) (.cons rfl .nil) hsp) ?_
  rintro (er | fl) s' told
  · exact (hCX er s' told).elim
  match fl, told with
  | .ret u, ⟨v, H', eo, gb, un, hok', rv, (ev : v = .bl true)⟩ =>
    subst ev
    obtain rfl : u = Value.bool true := rv
    have tabs : ∀ p ∈ cs, ∃ more : Array Value, s'.heap.get? p.2 = some { cls := .none, data := .fields more } := fun p hp => by
      obtain ⟨more, z⟩ := un.tbls p.2 #[] (hO.1 p.2 (List.mem_map.mpr ⟨p, hp, rfl⟩))
      exact ⟨_, hok' p.2 _ z⟩
    have rest : ∀ b o, b ∉ cs.map (·.2) → s₀.heap.get? b = some o → s'.heap.get? b = some o := fun b o nb e =>
      match hO.2 b nb with
      | .inl n => un.keep b o e n nofun nofun
      | .inr ⟨ob, xs, q⟩ => by
        obtain rfl : o = ob := Option.some.inj (e.symm.trans (hok b _ q).1)
        exact (hok' b _ (un.frzs b o _ q)).1
    refine ⟨rfl, ⟨fun b o e => ?_, fun b o e => ?_⟩, eo, gb⟩
    · by_cases hb : b ∈ cs.map (·.2)
      · obtain ⟨p, hp, ep⟩ := List.mem_map.mp hb
        obtain ⟨more, hm⟩ := tabs p hp
        rw [← ep] at e ⊢
        rw [hT p hp] at e
        cases e
        exact .inr (.inl ⟨((PySem.W.codeHd_of_K KX (hC p hp)).tab (hT p hp)).isCodeTable, rfl, #[], more, rfl, by rw [Array.empty_append]; exact hm⟩)
      · exact .inl (rest b o hb e)
    · by_cases hb : b ∈ cs.map (·.2)
      · obtain ⟨p, hp, ep⟩ := List.mem_map.mp hb
        obtain ⟨more, hm⟩ := tabs p hp
        rw [← ep]
        exact ⟨_, hm⟩
      · exact ⟨o, rest b o hb e⟩
/-- tables, and the script where it isn't known else -/
def loneT (tb : List Addr) (a : Addr) (r : Option HO) : Hp := fun b => if b ∈ tb then some (.tbl #[]) else if b = a then r else none
theorem law_gT (KX : K.In s₀.heap) (hns : s₀.heap.Ns mainGlobals mg) (hb : s₀.heap.Ns builtinsNs mb) (hbb : ∀ y : Str, y ≠ "__name__" → mb y = bootBuiltins y) (hlim : s₀.heap.NoLimit) (hg : s₀.gens = #[])
    (hbm : ∃ (bm : Addr) (ob : Obj), mg "__builtins__" = some (.ref bm) ∧ bm ≠ builtinsNs ∧ s₀.heap.get? bm = some ob ∧ ob.cls = .type "module" ∧ ob.dict = some builtinsNs ∧ ob.data = .plain)
    (hT : ∀ p ∈ cs, s₀.heap.get? p.2 = some { cls := .none, data := .fields #[] }) (nT : ∀ p ∈ cs, K.lookup p.2 = none) (hC : ∀ p ∈ cs, PySem.W.codeHdIn K p.1 p.2 = true)
    (ha : s₀.heap.get? a = some { cls := .type "list", data := .seq vs.toArray })
    (hi : IntsAre vs ns) (hl : ns.length ≤ sizeLine) (hr : Room k callerA) (F : ∀ base : Heap, K.In base → base.Ns mainGlobals mg → (∀ p ∈ cs, LamX.TabB base mg p.1 p.2) → FnG P w K mg base CX k fa fd [x] sp) (hbind : ∀ (s : Shared) (u : Value), BindsTo s fd ⟨[u], []⟩ [(x, u)])
    (hsp : ∀ H : Hp, OnlyT (cs.map (·.2)) H → SqL K H a (ns.map V.int) → sp [.ref a] H (fun v _ => v = .bl true) fun _ _ _ => False) (hCX : ∀ H e s', CX [] H s₀ (fun _ _ _ => False) e s' → False) : codeAny (model P w) callerA (.call (.ref fa) ⟨[.ref a], []⟩) (Well s₀) s₀ := by
  have rel := vals_ints hi
  have aT : a ∉ cs.map (·.2) := fun z => by
    obtain ⟨p, hp, e⟩ := List.mem_map.mp z
    have q := hT p hp
    have e' : p.2 = a := e
    rw [e', ha] at q
    cases q
  have inT : ∀ {r : Option HO} {b : Addr}, b ∈ cs.map (·.2) → loneT (cs.map (·.2)) a r b = some (.tbl #[]) := fun h => if_pos h
  have outT : ∀ {r : Option HO} {b : Addr}, b ∉ cs.map (·.2) → b ≠ a → loneT (cs.map (·.2)) a r b = none := fun h h2 => (if_neg h).trans (if_neg h2)
  have atA : ∀ {r : Option HO}, loneT (cs.map (·.2)) a r a = r := (if_neg aT).trans (if_pos rfl)
  have okT : ∀ {r : Option HO}, (∀ u, r = some u → ObjOk P w (loneT (cs.map (·.2)) a r) s₀.heap a u) → HOk P w (loneT (cs.map (·.2)) a r) s₀.heap := fun {r} hr b u z => by
    by_cases hb : b ∈ cs.map (·.2)
    · obtain rfl := Option.some.inj ((inT hb).symm.trans z)
      obtain ⟨p, hp, e⟩ := List.mem_map.mp hb
      rw [← e]
      exact hT p hp
    · by_cases e : b = a
      · subst e
        exact hr u (atA.symm.trans z)
      · exact nomatch (outT hb e).symm.trans z
  cases inK : K.lookup a with
  | some o =>
    obtain rfl : o = { cls := .type "list", data := .seq vs.toArray } := Option.some.inj ((KX a o inK).symm.trans ha)
    have O : OnlyT (cs.map (·.2)) (loneT (cs.map (·.2)) a none) := ⟨fun b hb => inT hb, fun b hb => by
      by_cases e : b = a
      · rw [e]; exact .inl atA
      · exact .inl (outT hb e)⟩
    refine law_onT KX hns hb hbb hlim hg hbm hT nT hC ha hr F hbind (hsp _ O (.inr ⟨_, vs.toArray, _, inK, rfl, rfl, rfl, by rw [List.size_toArray, hi.length]; exact hl, by simpa using rel⟩)) (hCX _) O (okT nofun) fun b hb _ => ?_
    by_cases e : b = a
    · rw [e]; exact atA
    · exact outT hb e
  | none =>
    have O : OnlyT (cs.map (·.2)) (loneT (cs.map (·.2)) a (some (.frz { cls := .type "list", data := .seq vs.toArray } (.lst (ns.map V.int))))) := ⟨fun b hb => inT hb, fun b hb => by
      by_cases e : b = a
      · rw [e]; exact .inr ⟨_, _, atA⟩
      · exact .inl (outT hb e)⟩
    refine law_onT KX hns hb hbb hlim hg hbm hT nT hC ha hr F hbind (hsp _ O (.inl (.inr ⟨_, atA⟩))) (hCX _) O (okT fun u z => ?_) fun b hb z => z.elim (outT hb) fun y => (y inK).elim
    obtain rfl := Option.some.inj z
    exact ⟨ha, Nat.le_trans (Nat.le_of_eq (List.length_map V.int)) hl, vs, _, rel, ha⟩
end
theorem walk_gT {l : PySem.W.OpenLaw} {n k : Nat} {q : Program} {loose : List Str} {XP : (Str → Option Value) → Heap → Prop} {YP : World → Heap → Prop} {d : DefRec} {CX : CXT} {x : Str} (hn : l.most = some n) (hn2 : n ≤ sizeLine) (hdf : d.params.defaults = []) (hr : Room k callerA)
    (F : ∀ (w : World) (mg : Str → Option Value) (fa : Addr) (h : Heap), YP w h → h.Ns mainGlobals mg → mg d.name = some (.ref fa) → ∃ (K : PySem.W.Frag) (fd : FuncData) (sp : Sp) (cs : List (Addr × Addr)), K.In h ∧ (∀ p ∈ cs, h.get? p.2 = some { cls := .none, data := .fields #[] }) ∧ (∀ p ∈ cs, K.lookup p.2 = none) ∧
      (∀ p ∈ cs, PySem.W.codeHdIn K p.1 p.2 = true) ∧ (∀ (s : Shared) (u : Value), BindsTo s fd ⟨[u], []⟩ [(x, u)]) ∧
      (∀ (H : Hp) (a : Addr) (ns : List Int), ns.length ≤ n → OnlyT (cs.map (·.2)) H → SqL K H a (ns.map V.int) → sp [.ref a] H (fun v _ => v = .bl true) fun _ _ _ => False) ∧ ∀ base : Heap, K.In base → base.Ns mainGlobals mg → (∀ p ∈ cs, LamX.TabB base mg p.1 p.2) → FnG l.prog w K mg base CX k fa fd [x] sp)
    (hCX : ∀ (H : Hp) (s : Shared) (e : Value) (s' : Shared), CX [] H s (fun _ _ _ => False) e s' → False) : PySem.W.WalkO q loose XP YP l.row.toRowW d [] (fun f vs => PySem.call f vs) :=
  Att.attach_call hn hdf fun w s₀ s₁ mg mb fa o pm cd doc a vs ns G Y ho hd hcd hmg hobj hints hlen hg => by
    have ⟨K, fd, sp, cs, KX, hT, nT, hC, hb, hsp, hF⟩ := F w mg fa s₁.heap Y G.T.g hmg
    exact law_gT KX G.T.g G.T.b G.T.builtins G.T.nolimit hg G.T.bmain hT nT hC hobj hints (Nat.le_trans hlen hn2) hr hF hb (fun H hO hS => hsp H a ns hlen hO hS) fun H e s' => hCX H s₁ e s'
/-- a def whose code object is known -/
theorem fn_gc {P : Program} {w : World} {K : PySem.W.Frag} {mg : Str → Option Value} {base : Heap} {CX : CXT} {k : Nat} {p : He.Defn} {fd : FuncData} {ps : List Str} {sp : Sp} {x qual : Str} {params : Arguments} {body : List Stmt} {scope : Scope} {dvs : List V} {kws : List (Str × V)} {N : List Str}
    (F : FunD K x qual params body scope dvs kws (He.fAd K p) fd) (S : FnScope N ps scope) (len : ∀ vs H Q E, sp vs H Q E → vs.length = ps.length)
    (hb : ∀ (A : Around) (out : List Env) (s : Shared) (H : Hp) (vs : List V) (Q : VK) (E : XK), A.guards = some [] → Room k (A.deeper (envOfC qual scope s.heap.objs.size (He.fAd K p) (.ref (He.codeOf K p)))) → sp vs H Q E →
      ∃ t, PSs (cxOf CX P w K mg base N qual scope (He.fAd K p) (.ref (He.codeOf K p)) A out s H E) body t ∧ t { nx := fun _ H' => Q .non H', rt := Q } (start N vs) H) : FnG P w K mg base CX (k + 1) (He.fAd K p) fd ps sp := by
  obtain ⟨oc, od, dV, kV, doc, pm, an, cdv, ct, osl, e, lk, hcd, _, _⟩ := F.ex
  subst e
  obtain ⟨c, rfl⟩ := He.codeIn_ref hcd
  have ec := He.codeOf_eq lk rfl
  subst ec
  refine ⟨len, fun A out s H ar us vs Q E g hr e0 bd r hsp => ?_⟩
  have KX : K.In s.heap := e0.mod.kin.keeps fun b o q => (e0.bs b o q).1
  have nl : s.heap.NoLimit := e0.mod.nolimit.keeps fun b o q => (e0.bs b o q).1
  have nk : ∀ y ∈ ps.zip us, scope.names.lookup y.1 = some .local ∨ (scope.names.lookup y.1 = some .cell ∧ ((cellsFrom (s.heap.objs.size + 1) scope.names []).lookup y.1).isSome = true) := by
    rintro ⟨n, v⟩ hy
    exact (S.par n (List.of_mem_zip hy).1).imp id fun q => ⟨q, PySem.W.cellsFrom_some _ _ _ (.inl q)⟩
  refine codeAny_call_function hr.depth (KX _ _ lk) rfl S.co S.gen rfl (PySem.W.codeRec_of KX hcd) (bd _ _ _ _ (wpAny_newFunctionEnv_cells S.kind nk fun env he s1 x => ?_))
  cases he
  refine ⟨nl.keeps x.toInCall.keep, codeAny_func ?_⟩
  obtain ⟨t, ht, hq⟩ := hb A out s H vs Q E g (hr.deeper _) hsp
  refine wpAny_mono (ht.run [] s1 (start N vs) H _ (inv_start S hr.hd e0 (len _ _ _ _ hsp) r x) hq) (fun fl s' hs => ?_) fun _ _ z => z
  cases fl with
  | ret u => obtain ⟨v, σ', H', I, rv, q⟩ := hs; exact ⟨v, H', I.os, I.bare, I.base, I.hok, rv, q⟩
  | next => obtain ⟨σ', H', I, q⟩ := hs; exact ⟨V.non, H', I.os, I.bare, I.base, I.hok, rfl, q⟩
  | brk => exact hs.elim fun _ h => h.elim fun _ h => h.2.elim
  | cont => exact hs.elim fun _ h => h.elim fun _ h => h.2.elim
theorem hears_of {X : Cx} {T : List (Addr × Str)} {k : Nat} {x a : Str} {TT : (XK → Hp → VK → Prop) → Hp → VK → Prop} {g c P : Addr} {pg : Arguments} {bg : List Stmt} {sg : Scope} {fd : FuncData} {Ng : List Str} (F : FunD X.K x x pg bg sg [] [] g fd) (hm : X.mg x = some (.ref g)) (hb : L2.Binds X.K fd [a] [])
    (Sg : FnScope Ng [a] sg) (hNg : Ng[0]? = some a) (hva : Vis sg a) (hG : ∀ cdg : Value, LamX.GivesTo X Ng x sg g cdg bg a (X.env.qual ++ "<lambda>") TT) (TB : LamX.TabB X.base X.mg c P) (hcode : X.env.code = .ref c) (hmT : (P, X.env.qual ++ "<lambda>") ∈ T)
    (hu : ∀ p ∈ T, p.1 = P → p.2 = X.env.qual ++ "<lambda>") : Hears X T k x a TT := by
  obtain ⟨oc, od, dV, kV, doc, pm, an, cdv, ct, osl, e, lk, hcd, _, _⟩ := F.ex
  subst e
  exact ⟨g, c, P, pg, bg, sg, dV, kV, doc, pm, cdv, ct, oc, an, od, osl, Ng, hm, F.kp, lk, hcd, hb, Sg, hNg, hva, hG cdv, TB, hcode, hmT, hu⟩
end DL

/-! isinstance of what was caught, yes or no. -/
namespace DL
open PySem PySem.Spec
open PyProof.Rows L2
local macro_rules | `(tactic| walk_at "rep") => `(tactic| first | assumption | exact Da.int _ | exact Da.bl _ | exact Da.str _ | exact Da.non | exact Sub.da (by assumption) (by assumption) | exact Sub.da (Tr.jj (by assumption)) (by assumption))
local macro_rules | `(tactic| walk_at "arith") => `(tactic| first | assumption | omega | decide | exact cmul_small (by omega) (by omega) | exact cdiv_small (by omega) (by omega))
local macro_rules | `(tactic| walk_at "shp") => `(tactic| first | exact sh_int _ | exact sh_tup _ | exact sh_list _ | assumption)
local macro_rules | `(tactic| walk_at "od") => `(tactic| first
  | with_reducible exact od_plus
  | with_reducible exact od_sub
  | ((with_reducible refine' od_mul ?h1); walk_at "arith")
  | ((with_reducible refine' od_mod ?h1); walk_at "arith")
  | ((with_reducible refine' od_fdiv ?h1); walk_at "arith")
  | ((with_reducible refine' od_pow ?h1); exact ⟨by decide, by decide, by decide⟩)
  | with_reducible exact od_lt | with_reducible exact od_le | with_reducible exact od_gt | with_reducible exact od_ge
  | ((with_reducible refine' od_plusT ?h1); walk_at "arith")
  | ((with_reducible refine' od_plusL ?h1); walk_at "arith")
  | ((with_reducible refine' od_plusS ?h1); walk_at "arith")
  | with_reducible exact od_isN | with_reducible exact od_notN
  | ((with_reducible refine od_eq ?_ ?_) <;> walk_at "shp")
  | ((with_reducible refine od_ne ?_ ?_) <;> walk_at "shp")
  | ((with_reducible refine od_inL ?_ ?_) <;> walk_at "shp")
  | ((with_reducible refine od_ixL ?_); assumption)
  | ((with_reducible refine od_ixT ?_); assumption))
local macro_rules | `(tactic| walk_at "ea") => `(tactic| first | with_reducible exact ea_nil | ((with_reducible refine' ea_consD ?h1 ?h2); (case h1 => walk_at "ev"); (case h2 => walk_at "ea")))
local macro_rules | `(tactic| walk_at "eo") => `(tactic| first | with_reducible exact eo_none | ((with_reducible refine' eo_at ?h1); (case h1 => walk_at "ev")))
local macro_rules | `(tactic| walk_at "cd") => `(tactic| first
  | with_reducible exact cd_lenL | with_reducible exact cd_lenT | with_reducible exact cd_tupL | with_reducible exact cd_tupT | with_reducible exact cd_lstL | with_reducible exact cd_lstT | with_reducible exact cd_abs | with_reducible exact cd_int)
local macro_rules | `(tactic| walk_at "ev") => `(tactic| first
  | with_reducible exact ev_int | with_reducible exact ev_bl | with_reducible exact ev_str | with_reducible exact ev_non
  | ((with_reducible refine' ev_var ?h1 ?h2); (case h1 => exact rfl); (case h2 => walk_at "rep"))
  | ((with_reducible refine' ev_opD ?h1 ?h2 ?h3); (case h1 => walk_at "ev"); (case h2 => walk_at "ev"); (case h3 => walk_at "od"))
  | ((with_reducible refine' ev_tupD ?h1); (case h1 => walk_at "ea"))
  | ((with_reducible refine' ev_lstD ?h1); (case h1 => walk_at "ea"))
  | ((with_reducible refine' ev_revL ?h1); (case h1 => walk_at "ev"))
  | ((with_reducible refine' ev_slD ?h1 ?h2 ?h3 ?h4); (case h1 => walk_at "ev"); (case h2 => walk_at "eo"); (case h3 => walk_at "eo"); (case h4 => first | with_reducible exact sd_tup | with_reducible exact sd_list))
  | ((with_reducible refine' ev_cbD ?h1 ?h2); (case h1 => walk_at "ea"); (case h2 => walk_at "cd"))
  | ((with_reducible refine' ev_notV ?h1); (case h1 => walk_at "ev"))
  | assumption)
local macro_rules | `(tactic| walk_at "et") => `(tactic| first
  | ((with_reducible refine' et_testD ?h1); (case h1 => walk_at "ev"))
  | ((with_reducible refine' et_BD ?h1); (case h1 => walk_at "ev"))
  | ((with_reducible refine' et_notD ?h1); (case h1 => walk_at "et"))
  | ((with_reducible refine' et_andD ?h1 ?h2); (case h1 => walk_at "et"); (case h2 => intro _; walk_at "et"))
  | ((with_reducible refine' et_orD ?h1 ?h2); (case h1 => walk_at "et"); (case h2 => intro _; walk_at "et"))
  | assumption)
/-- isinstance(e, c), e what the suite holds: its class D keeps a dict -/
def rIsA (K : PySem.W.Frag) (cls : Value) (d : Option Addr) (a : Addr) : List V → Hp → VK → Prop := fun xs H Q => ∃ (D dx : Addr) (fs : List (Str × V)) (c : V) (cv : Value) (b : Bool), cls = .ref D ∧ d = some dx ∧ H dx = some (.xd fs) ∧ L2.ExcC K D ∧ xs = [.ref a, c] ∧ (∀ u, RelV c u → u = cv) ∧ PySem.W.kitOne K (.ref D) cv = some b ∧ Q (.bl b) H
theorem call_isA {X : Cx} {a : Addr} {cls : Value} {d : Option Addr} {oe : Obj} {pn : List (Addr × Obj)} (hz : Zc cls d oe) (hf : ∃ vs, oe.data = .fields vs) : CallR (X.suite a ((a, oe) :: pn)) (.builtin "isinstance") (rIsA X.K cls d a) := by
  rintro pins s σ H xs us Q I r ⟨D, dx, fs, c, cv, b, rfl, rfl, hx, C, rfl, hcv, e, q⟩
  obtain ⟨u1, u2, rfl, r1, r2⟩ := vals2 r
  cases (show u1 = Value.ref a from r1)
  obtain rfl := hcv _ r2
  obtain ⟨at_, _⟩ := I.pin (a, oe) (List.mem_append.mpr (.inl List.mem_cons_self))
  obtain ⟨vs, hv⟩ := hf
  obtain ⟨mA, ⟨od, es, ep, eo, _⟩, _⟩ := (I.hok dx _ hx : ∃ mA, s.heap.Ns1 dx mA ∧ ∀ f, RelO (fs.lookup f) (mA f))
  have J : PySem.W.InstAt s.heap a oe D (some od) := by
    obtain ⟨oc, odi, oda, osl⟩ := oe
    obtain ⟨h1, h2⟩ := hz
    dsimp only at h1 h2 hv
    subst h1 h2 hv
    exact ⟨at_, rfl, rfl, eo⟩
  have hcl : (PySem.W.clsIn X.K D).isSome = true := by
    obtain ⟨cd, hc, _⟩ := PySem.W.any_some C.hd
    rw [hc]; rfl
  exact PySem.W.kia_one (PySem.W.kitx_exc hcl C.hg C.hk C.hs C.ha C.hn C.ht C.hm) I.kIn J e (fun z => nomatch z) fun tk => ⟨.bl b, H, I.kept (t' := tk) fun _ _ z => z, rfl, q⟩
end DL

/-! A dict of defs that stands in the module: what it holds at a text; a call of a local name that holds one of several defs. -/
namespace DL
open PySem PySem.Spec
open PyProof.Rows L2
local macro_rules | `(tactic| walk_at "rep") => `(tactic| first | assumption | exact Da.int _ | exact Da.bl _ | exact Da.str _ | exact Da.non | exact Sub.da (by assumption) (by assumption) | exact Sub.da (Tr.jj (by assumption)) (by assumption))
local macro_rules | `(tactic| walk_at "arith") => `(tactic| first | assumption | omega | decide | exact cmul_small (by omega) (by omega) | exact cdiv_small (by omega) (by omega))
local macro_rules | `(tactic| walk_at "shp") => `(tactic| first | exact sh_int _ | exact sh_tup _ | exact sh_list _ | assumption)
local macro_rules | `(tactic| walk_at "od") => `(tactic| first
  | with_reducible exact od_plus
  | with_reducible exact od_sub
  | ((with_reducible refine' od_mul ?h1); walk_at "arith")
  | ((with_reducible refine' od_mod ?h1); walk_at "arith")
  | ((with_reducible refine' od_fdiv ?h1); walk_at "arith")
  | ((with_reducible refine' od_pow ?h1); exact ⟨by decide, by decide, by decide⟩)
  | with_reducible exact od_lt | with_reducible exact od_le | with_reducible exact od_gt | with_reducible exact od_ge
  | ((with_reducible refine' od_plusT ?h1); walk_at "arith")
  | ((with_reducible refine' od_plusL ?h1); walk_at "arith")
  | ((with_reducible refine' od_plusS ?h1); walk_at "arith")
  | with_reducible exact od_isN | with_reducible exact od_notN
  | ((with_reducible refine od_eq ?_ ?_) <;> walk_at "shp")
  | ((with_reducible refine od_ne ?_ ?_) <;> walk_at "shp")
  | ((with_reducible refine od_inL ?_ ?_) <;> walk_at "shp")
  | ((with_reducible refine od_ixL ?_); assumption)
  | ((with_reducible refine od_ixT ?_); assumption))
local macro_rules | `(tactic| walk_at "ea") => `(tactic| first | with_reducible exact ea_nil | ((with_reducible refine' ea_consD ?h1 ?h2); (case h1 => walk_at "ev"); (case h2 => walk_at "ea")))
local macro_rules | `(tactic| walk_at "eo") => `(tactic| first | with_reducible exact eo_none | ((with_reducible refine' eo_at ?h1); (case h1 => walk_at "ev")))
local macro_rules | `(tactic| walk_at "cd") => `(tactic| first
  | with_reducible exact cd_lenL | with_reducible exact cd_lenT | with_reducible exact cd_tupL | with_reducible exact cd_tupT | with_reducible exact cd_lstL | with_reducible exact cd_lstT | with_reducible exact cd_abs | with_reducible exact cd_int)
local macro_rules | `(tactic| walk_at "ev") => `(tactic| first
  | with_reducible exact ev_int | with_reducible exact ev_bl | with_reducible exact ev_str | with_reducible exact ev_non
  | ((with_reducible refine' ev_var ?h1 ?h2); (case h1 => exact rfl); (case h2 => walk_at "rep"))
  | ((with_reducible refine' ev_opD ?h1 ?h2 ?h3); (case h1 => walk_at "ev"); (case h2 => walk_at "ev"); (case h3 => walk_at "od"))
  | ((with_reducible refine' ev_tupD ?h1); (case h1 => walk_at "ea"))
  | ((with_reducible refine' ev_lstD ?h1); (case h1 => walk_at "ea"))
  | ((with_reducible refine' ev_revL ?h1); (case h1 => walk_at "ev"))
  | ((with_reducible refine' ev_slD ?h1 ?h2 ?h3 ?h4); (case h1 => walk_at "ev"); (case h2 => walk_at "eo"); (case h3 => walk_at "eo"); (case h4 => first | with_reducible exact sd_tup | with_reducible exact sd_list))
  | ((with_reducible refine' ev_cbD ?h1 ?h2); (case h1 => walk_at "ea"); (case h2 => walk_at "cd"))
  | ((with_reducible refine' ev_notV ?h1); (case h1 => walk_at "ev"))
  | assumption)
local macro_rules | `(tactic| walk_at "et") => `(tactic| first
  | ((with_reducible refine' et_testD ?h1); (case h1 => walk_at "ev"))
  | ((with_reducible refine' et_BD ?h1); (case h1 => walk_at "ev"))
  | ((with_reducible refine' et_notD ?h1); (case h1 => walk_at "et"))
  | ((with_reducible refine' et_andD ?h1 ?h2); (case h1 => walk_at "et"); (case h2 => intro _; walk_at "et"))
  | ((with_reducible refine' et_orD ?h1 ?h2); (case h1 => walk_at "et"); (case h2 => intro _; walk_at "et"))
  | assumption)
section
variable {X : Cx} {d : Addr} {es : Array DictEntry} {n : Nat}
def rIxD (K : PySem.W.Frag) (d : Addr) : R2 := fun x y H Q => ∃ (z : Str) (u0 : Value) (v0 : V), x = .ref d ∧ y = .str z ∧ PySem.W.nsIn K d z = some (some u0) ∧ RelV v0 u0 ∧ Q v0 H
theorem ix_kd (D : KDict X.K X.w d es n) : IxR X (rIxD X.K d) := by
  intro value slice pins s σ H x y v u Q I rx ry h hs
  obtain ⟨z, u0, v0, rfl, rfl, e, r, q⟩ := h
  cases rx
  obtain ⟨t, rfl⟩ := ry
  exact tail_any (kd_type D I) PySem.F.slot_dict_getitem.lookup (wpAny_getItem_of (PySem.strKind_is X.prog X.w z t) (PySem.W.mapOf_K (prog := X.prog) I.kIn D.at_ D.lit) (PySem.W.find_K D.at_ e) ⟨v0, H, I.tok _, r, q⟩) hs
end
/-- a call of the def that the i-th slot holds, one of those that S knows -/
def tCallV (i : Nat) (S : Addr → Sp → Prop) (E : XK) (t : TA) : TE := fun σ H Q => ∃ f sp, σ[i]? = some (some (.ref f)) ∧ S f sp ∧ t σ H fun vs H1 => sp vs H1 Q E
theorem xCallV {X : Cx} {CX : CXT} {k i : Nat} {S : Addr → Sp → Prop} {E : XK} {x : Str} {p pos : Pos} {e : Expr} {es : List Expr} {t : TA} (A : ∀ f sp, S f sp → ∃ (fd : FuncData) (ps : List Str), FnOk X.prog X.w X.K X.mg X.base CX k f fd ps sp ∧ PySem.W.keepIn X.K (.ref f) = true ∧ Binds X.K fd ps []) (hr : Room k X.A) (hx : Passes CX X E)
    (hN : X.N[i]? = some x) (hv : Vis X.env.scope x) (ha : PA X (e :: es) t) (hdb : (x == ("__debug__" : Str)) = false := by decide) (hcd : (x == ("__classdict__" : Str)) = false := by decide)
    (he : starEach (e :: es) X.env = (false, eval e X.env) :: starEach es X.env := by rfl) (hpl : (backTo pos (starEach es X.env)).any (·.1) = false := by rfl) : PE X (.Call (.Name x p) (e :: es) [] pos) (tCallV i S E t) := by
  refine ⟨fun pins s σ H Q I h => ?_⟩
  obtain ⟨f, sp, hs, hS, ht⟩ := h
  obtain ⟨fd, ps, F, hk, hb⟩ := A f sp hS
  refine (pe_callL (dvs := []) (ds := []) F hr hN hv hk hb .nil hx ha hdb hcd he hpl).run pins s σ H Q I ⟨hs, ?_⟩
  have e0 : (fun (vs : List V) (H1 : Hp) => sp (vs ++ []) H1 Q E) = fun vs H1 => sp vs H1 Q E := by
    funext vs H1
    rw [List.append_nil]
  show t σ H (fun vs H1 => sp (vs ++ []) H1 Q E)
  rw [e0]
  exact ht
end DL

namespace K02
open PySem PySem.Spec
open PyProof.Rows L2 DL
local macro_rules | `(tactic| walk_at "rep") => `(tactic| first | assumption | exact Da.int _ | exact Da.bl _ | exact Da.str _ | exact Da.non | exact Sub.da (by assumption) (by assumption) | exact Sub.da (Tr.jj (by assumption)) (by assumption))
local macro_rules | `(tactic| walk_at "arith") => `(tactic| first | assumption | omega | decide | exact cmul_small (by omega) (by omega) | exact cdiv_small (by omega) (by omega))
local macro_rules | `(tactic| walk_at "shp") => `(tactic| first | exact sh_int _ | exact sh_tup _ | exact sh_list _ | assumption)
local macro_rules | `(tactic| walk_at "od") => `(tactic| first
  | with_reducible exact od_plus
  | with_reducible exact od_sub
  | ((with_reducible refine' od_mul ?h1); walk_at "arith")
  | ((with_reducible refine' od_mod ?h1); walk_at "arith")
  | ((with_reducible refine' od_fdiv ?h1); walk_at "arith")
  | ((with_reducible refine' od_pow ?h1); exact ⟨by decide, by decide, by decide⟩)
  | with_reducible exact od_lt | with_reducible exact od_le | with_reducible exact od_gt | with_reducible exact od_ge
  | ((with_reducible refine' od_plusT ?h1); walk_at "arith")
  | ((with_reducible refine' od_plusL ?h1); walk_at "arith")
  | ((with_reducible refine' od_plusS ?h1); walk_at "arith")
  | with_reducible exact od_isN | with_reducible exact od_notN
  | ((with_reducible refine od_eq ?_ ?_) <;> walk_at "shp")
  | ((with_reducible refine od_ne ?_ ?_) <;> walk_at "shp")
  | ((with_reducible refine od_inL ?_ ?_) <;> walk_at "shp")
  | ((with_reducible refine od_ixL ?_); assumption)
  | ((with_reducible refine od_ixT ?_); assumption))
local macro_rules | `(tactic| walk_at "ea") => `(tactic| first | with_reducible exact ea_nil | ((with_reducible refine' ea_consD ?h1 ?h2); (case h1 => walk_at "ev"); (case h2 => walk_at "ea")))
local macro_rules | `(tactic| walk_at "eo") => `(tactic| first | with_reducible exact eo_none | ((with_reducible refine' eo_at ?h1); (case h1 => walk_at "ev")))
local macro_rules | `(tactic| walk_at "cd") => `(tactic| first
  | with_reducible exact cd_lenL | with_reducible exact cd_lenT | with_reducible exact cd_tupL | with_reducible exact cd_tupT | with_reducible exact cd_lstL | with_reducible exact cd_lstT | with_reducible exact cd_abs | with_reducible exact cd_int)
local macro_rules | `(tactic| walk_at "ev") => `(tactic| first
  | with_reducible exact ev_int | with_reducible exact ev_bl | with_reducible exact ev_str | with_reducible exact ev_non
  | ((with_reducible refine' ev_var ?h1 ?h2); (case h1 => exact rfl); (case h2 => walk_at "rep"))
  | ((with_reducible refine' ev_opD ?h1 ?h2 ?h3); (case h1 => walk_at "ev"); (case h2 => walk_at "ev"); (case h3 => walk_at "od"))
  | ((with_reducible refine' ev_tupD ?h1); (case h1 => walk_at "ea"))
  | ((with_reducible refine' ev_lstD ?h1); (case h1 => walk_at "ea"))
  | ((with_reducible refine' ev_revL ?h1); (case h1 => walk_at "ev"))
  | ((with_reducible refine' ev_slD ?h1 ?h2 ?h3 ?h4); (case h1 => walk_at "ev"); (case h2 => walk_at "eo"); (case h3 => walk_at "eo"); (case h4 => first | with_reducible exact sd_tup | with_reducible exact sd_list))
  | ((with_reducible refine' ev_cbD ?h1 ?h2); (case h1 => walk_at "ea"); (case h2 => walk_at "cd"))
  | ((with_reducible refine' ev_notV ?h1); (case h1 => walk_at "ev"))
  | assumption)
local macro_rules | `(tactic| walk_at "et") => `(tactic| first
  | ((with_reducible refine' et_testD ?h1); (case h1 => walk_at "ev"))
  | ((with_reducible refine' et_BD ?h1); (case h1 => walk_at "ev"))
  | ((with_reducible refine' et_notD ?h1); (case h1 => walk_at "et"))
  | ((with_reducible refine' et_andD ?h1 ?h2); (case h1 => walk_at "et"); (case h2 => intro _; walk_at "et"))
  | ((with_reducible refine' et_orD ?h1 ?h2); (case h1 => walk_at "et"); (case h2 => intro _; walk_at "et"))
  | assumption)
/-! ### the mathematics of numbers as octets -/
def Oct (xs : List Int) : Prop := ∀ x ∈ xs, 0 ≤ x ∧ x < 256
def figsF : Nat → Nat → List Int
  | 0, n => [(n : Int)]
  | k + 1, n => if n < 128 then [(n : Int)] else (((n % 128 : Nat) : Int) + 128) :: figsF k (n / 128)
def figsN (n : Nat) : List Int := figsF 8 n
theorem figsF_oct : ∀ (k n : Nat), n < 128 ^ (k + 1) → Oct (figsF k n)
  | 0, n, h, x, hx => by
    rw [List.mem_singleton.mp hx]
    omega
  | k + 1, n, h, x, hx => by
    unfold figsF at hx
    split at hx
    · rw [List.mem_singleton.mp hx]; omega
    · rcases List.mem_cons.mp hx with hx | hx
      · rw [hx]; omega
      · exact figsF_oct k (n / 128) (by rw [Nat.pow_succ] at h; omega) x hx
theorem figsF_len : ∀ (k n : Nat), (figsF k n).length ≤ k + 1
  | 0, n => Nat.le_refl _
  | k + 1, n => by
    unfold figsF
    split
    · simp
    · rw [List.length_cons]; have := figsF_len k (n / 128); omega
/-- the number at a place: its turns left, the place, what is found, the worth -/
def goN (xs : List Int) (a : Nat) : Nat → Nat → Int → Int → Option (Int × Nat)
  | 0, _, _, _ => none
  | k + 1, p, tot, w => match xs[p]? with
    | none => none
    | some o => if o = 0 ∧ a < p then none else if o < 128 then some (tot + o % 128 * w, p + 1) else goN xs a k (p + 1) (tot + o % 128 * w) (w * 128)
def getN (xs : List Int) (a : Nat) : Option (Int × Nat) := goN xs a 9 a 0 1
theorem split_mul (n : Nat) (w : Int) : ((n % 128 : Nat) : Int) * w + ((n / 128 : Nat) : Int) * (w * 128) = (n : Int) * w := by
  have e : (n : Int) = ((n % 128 : Nat) : Int) + ((n / 128 : Nat) : Int) * 128 := by omega
  rw [e, Int.add_mul, Int.mul_assoc, Int.mul_comm w 128]
theorem go_figs : ∀ (k n : Nat) (A B : List Int) (a : Nat) (tot w : Int), n < 128 ^ (k + 1) → (n = 0 → A.length ≤ a) → goN (A ++ (figsF k n ++ B)) a (k + 1) A.length tot w = some (tot + n * w, A.length + (figsF k n).length)
  | k, n, A, B, a, tot, w, h, hz => by
    have small : n < 128 → figsF k n = [(n : Int)] := fun hlt => by
      cases k with
      | zero => rfl
      | succ k => unfold figsF; rw [if_pos hlt]
    by_cases h8 : n < 128
    · rw [small h8]
      unfold goN
      rw [List.getElem?_append_right (Nat.le_refl _), Nat.sub_self]
      show (if (n : Int) = 0 ∧ a < A.length then none else if (n : Int) < 128 then some (tot + (n : Int) % 128 * w, A.length + 1) else _) = _
      rw [if_neg (by omega), if_pos (by omega)]
      have e : (n : Int) % 128 = n := by omega
      rw [e]
      rfl
    · cases k with
      | zero => omega
      | succ k =>
        have ef : figsF (k + 1) n = (((n % 128 : Nat) : Int) + 128) :: figsF k (n / 128) := by
          conv => lhs; unfold figsF
          rw [if_neg h8]
        have ih := go_figs k (n / 128) (A ++ [((n % 128 : Nat) : Int) + 128]) B a (tot + ((n % 128 : Nat) : Int) * w) (w * 128) (by rw [Nat.pow_succ] at h; omega) (by omega)
        rw [ef]
        unfold goN
        rw [List.getElem?_append_right (Nat.le_refl _), Nat.sub_self]
        show (if ((n % 128 : Nat) : Int) + 128 = 0 ∧ a < A.length then none else if ((n % 128 : Nat) : Int) + 128 < 128 then _ else goN _ a (k + 1) (A.length + 1) (tot + (((n % 128 : Nat) : Int) + 128) % 128 * w) (w * 128)) = _
        rw [if_neg (by omega), if_neg (by omega)]
        have e1 : (((n % 128 : Nat) : Int) + 128) % 128 = ((n % 128 : Nat) : Int) := by omega
        have e2 : A ++ ((((n % 128 : Nat) : Int) + 128) :: figsF k (n / 128) ++ B) = (A ++ [((n % 128 : Nat) : Int) + 128]) ++ (figsF k (n / 128) ++ B) := by simp
        have e3 : (A ++ [((n % 128 : Nat) : Int) + 128]).length = A.length + 1 := by simp
        rw [e3] at ih
        rw [e1, e2, ih, Int.add_assoc, split_mul, List.length_cons]
        congr 2
        omega
theorem getN_figs {n : Nat} (A B : List Int) (h : n < 128 ^ 9) : getN (A ++ (figsN n ++ B)) A.length = some ((n : Int), A.length + (figsN n).length) := by
  have := go_figs 8 n A B A.length 0 1 h (fun _ => Nat.le_refl _)
  rw [Int.zero_add, Int.mul_one] at this
  exact this
theorem go_some : ∀ (k p a : Nat) (xs : List Int) (tot w v : Int) (q : Nat), Oct xs → a ≤ p → goN xs a (k + 1) p tot w = some (v, q) →
    ∃ m : Nat, v = tot + m * w ∧ p < q ∧ q ≤ xs.length ∧ (xs.drop p).take (q - p) = figsF k m ∧ m < 128 ^ (k + 1) ∧ (a < p → 0 < m)
  | k, p, a, xs, tot, w, v, q, ho, ha, h => by
    unfold goN at h
    cases e : xs[p]? with
    | none => rw [e] at h; cases h
    | some o =>
      rw [e] at h
      obtain ⟨hp, ep⟩ := List.getElem?_eq_some_iff.mp e
      have oo := ho o (List.mem_of_getElem? e)
      have ed : xs.drop p = o :: xs.drop (p + 1) := by rw [List.drop_eq_getElem_cons hp, ep]
      have h : (if o = 0 ∧ a < p then none else if o < 128 then some (tot + o % 128 * w, p + 1) else goN xs a k (p + 1) (tot + o % 128 * w) (w * 128)) = some (v, q) := h
      by_cases c1 : o = 0 ∧ a < p
      · rw [if_pos c1] at h; cases h
      rw [if_neg c1] at h
      by_cases c2 : o < 128
      · rw [if_pos c2] at h
        obtain ⟨rfl, rfl⟩ := Prod.mk.inj (Option.some.inj h)
        have eo : ((o.toNat : Nat) : Int) = o := Int.toNat_of_nonneg oo.1
        have pw : 128 ≤ 128 ^ (k + 1) := by rw [Nat.pow_succ]; exact Nat.le_mul_of_pos_left _ (Nat.pow_pos (by decide))
        refine ⟨o.toNat, ?_, Nat.lt_succ_self _, hp, ?_, by omega, fun h => by omega⟩
        · rw [eo]
          have : o % 128 = o := by omega
          rw [this]
        · rw [ed, Nat.add_sub_cancel_left]
          have : figsF k o.toNat = [o] := by
            cases k with
            | zero => unfold figsF; rw [eo]
            | succ k => unfold figsF; rw [if_pos (by omega), eo]
          rw [this]
          rfl
      · rw [if_neg c2] at h
        cases k with
        | zero => unfold goN at h; cases h
        | succ k =>
          obtain ⟨m, e1, e2, e3, e4, e5, e6⟩ := go_some k (p + 1) a xs _ _ v q ho (by omega) h
          have m0 := e6 (by omega)
          have eo : ((o.toNat : Nat) : Int) = o := Int.toNat_of_nonneg oo.1
          have em : ((o.toNat - 128) + 128 * m) % 128 = o.toNat - 128 := by omega
          have ed2 : ((o.toNat - 128) + 128 * m) / 128 = m := by omega
          refine ⟨(o.toNat - 128) + 128 * m, ?_, by omega, e3, ?_, ?_, fun _ => by omega⟩
          · have sm := split_mul ((o.toNat - 128) + 128 * m) w
            rw [em, ed2] at sm
            have e7 : ((o.toNat - 128 : Nat) : Int) = o % 128 := by omega
            rw [e7] at sm
            rw [e1, ← sm, Int.add_assoc]
          · have ef : figsF (k + 1) ((o.toNat - 128) + 128 * m) = o :: figsF k m := by
              conv => lhs; unfold figsF
              rw [if_neg (by omega), em, ed2]
              congr 1
              omega
            have el : q - p = (q - (p + 1)) + 1 := by omega
            rw [ef, ed, el, List.take_succ_cons, e4]
          · have : 128 ^ (k + 1 + 1) = 128 ^ (k + 1) * 128 := Nat.pow_succ ..
            omega
theorem getN_some {xs : List Int} {a q : Nat} {v : Int} (ho : Oct xs) (h : getN xs a = some (v, q)) : ∃ m : Nat, v = m ∧ a < q ∧ q ≤ xs.length ∧ (xs.drop a).take (q - a) = figsN m ∧ m < 128 ^ 9 := by
  obtain ⟨m, e1, e2, e3, e4, e5, _⟩ := go_some 8 a a xs 0 1 v q ho (Nat.le_refl _) h
  exact ⟨m, by rw [e1, Int.zero_add, Int.mul_one], e2, e3, e4, e5⟩
end K02

namespace K02
open PySem PySem.Spec
open PyProof.Rows L2 DL
local macro_rules | `(tactic| walk_at "rep") => `(tactic| first | assumption | exact Da.int _ | exact Da.bl _ | exact Da.str _ | exact Da.non | exact Sub.da (by assumption) (by assumption) | exact Sub.da (Tr.jj (by assumption)) (by assumption))
local macro_rules | `(tactic| walk_at "arith") => `(tactic| first | assumption | omega | decide | exact cmul_small (by omega) (by omega) | exact cdiv_small (by omega) (by omega))
local macro_rules | `(tactic| walk_at "shp") => `(tactic| first | exact sh_int _ | exact sh_tup _ | exact sh_list _ | assumption)
local macro_rules | `(tactic| walk_at "od") => `(tactic| first
  | with_reducible exact od_plus
  | with_reducible exact od_sub
  | ((with_reducible refine' od_mul ?h1); walk_at "arith")
  | ((with_reducible refine' od_mod ?h1); walk_at "arith")
  | ((with_reducible refine' od_fdiv ?h1); walk_at "arith")
  | ((with_reducible refine' od_pow ?h1); exact ⟨by decide, by decide, by decide⟩)
  | with_reducible exact od_lt | with_reducible exact od_le | with_reducible exact od_gt | with_reducible exact od_ge
  | ((with_reducible refine' od_plusT ?h1); walk_at "arith")
  | ((with_reducible refine' od_plusL ?h1); walk_at "arith")
  | ((with_reducible refine' od_plusS ?h1); walk_at "arith")
  | with_reducible exact od_isN | with_reducible exact od_notN
  | ((with_reducible refine od_eq ?_ ?_) <;> walk_at "shp")
  | ((with_reducible refine od_ne ?_ ?_) <;> walk_at "shp")
  | ((with_reducible refine od_inL ?_ ?_) <;> walk_at "shp")
  | ((with_reducible refine od_ixL ?_); assumption)
  | ((with_reducible refine od_ixT ?_); assumption))
local macro_rules | `(tactic| walk_at "ea") => `(tactic| first | with_reducible exact ea_nil | ((with_reducible refine' ea_consD ?h1 ?h2); (case h1 => walk_at "ev"); (case h2 => walk_at "ea")))
local macro_rules | `(tactic| walk_at "eo") => `(tactic| first | with_reducible exact eo_none | ((with_reducible refine' eo_at ?h1); (case h1 => walk_at "ev")))
local macro_rules | `(tactic| walk_at "cd") => `(tactic| first
  | with_reducible exact cd_lenL | with_reducible exact cd_lenT | with_reducible exact cd_tupL | with_reducible exact cd_tupT | with_reducible exact cd_lstL | with_reducible exact cd_lstT | with_reducible exact cd_abs | with_reducible exact cd_int)
local macro_rules | `(tactic| walk_at "ev") => `(tactic| first
  | with_reducible exact ev_int | with_reducible exact ev_bl | with_reducible exact ev_str | with_reducible exact ev_non
  | ((with_reducible refine' ev_var ?h1 ?h2); (case h1 => exact rfl); (case h2 => walk_at "rep"))
  | ((with_reducible refine' ev_opD ?h1 ?h2 ?h3); (case h1 => walk_at "ev"); (case h2 => walk_at "ev"); (case h3 => walk_at "od"))
  | ((with_reducible refine' ev_tupD ?h1); (case h1 => walk_at "ea"))
  | ((with_reducible refine' ev_lstD ?h1); (case h1 => walk_at "ea"))
  | ((with_reducible refine' ev_revL ?h1); (case h1 => walk_at "ev"))
  | ((with_reducible refine' ev_slD ?h1 ?h2 ?h3 ?h4); (case h1 => walk_at "ev"); (case h2 => walk_at "eo"); (case h3 => walk_at "eo"); (case h4 => first | with_reducible exact sd_tup | with_reducible exact sd_list))
  | ((with_reducible refine' ev_cbD ?h1 ?h2); (case h1 => walk_at "ea"); (case h2 => walk_at "cd"))
  | ((with_reducible refine' ev_notV ?h1); (case h1 => walk_at "ev"))
  | assumption)
local macro_rules | `(tactic| walk_at "et") => `(tactic| first
  | ((with_reducible refine' et_testD ?h1); (case h1 => walk_at "ev"))
  | ((with_reducible refine' et_BD ?h1); (case h1 => walk_at "ev"))
  | ((with_reducible refine' et_notD ?h1); (case h1 => walk_at "et"))
  | ((with_reducible refine' et_andD ?h1 ?h2); (case h1 => walk_at "et"); (case h2 => intro _; walk_at "et"))
  | ((with_reducible refine' et_orD ?h1 ?h2); (case h1 => walk_at "et"); (case h2 => intro _; walk_at "et"))
  | assumption)
def top (i : Nat) : Stmt := PySem.Challenge.pw_spelledways_k02_whole_numbers_as_octets.main.body.getD i (.Pass ⟨0, 0, 0, 0⟩)
abbrev FnP (K : PySem.W.Frag) (x : Str) (st : Stmt) (f : Addr) (fd : FuncData) : Prop := FunD K x x (defArgs st) (defBody st) (defScope st) [] [] f fd
structure Fx (mg : Str → Option Value) : Prop where
  c_MOST_NUMBER_OCTETS : ∃ t, mg "MOST_NUMBER_OCTETS" = some (.int 9 t)
  b_len : mg "len" = none
  b_tuple : mg "tuple" = none
  b_range : mg "range" = none
  b_int : mg "int" = none
  b_abs : mg "abs" = none
  b_repr : mg "repr" = none
  b_min : mg "min" = none
  b_max : mg "max" = none
  b_isinstance : mg "isinstance" = none
/-! ### min and max of two; a range with a start -/
def rMin2 : List V → Hp → VK → Prop := fun xs H Q => ∃ i j : Int, xs = [.int i, .int j] ∧ Q (.int (if j < i then j else i)) H
def rMax2 : List V → Hp → VK → Prop := fun xs H Q => ∃ i j : Int, xs = [.int i, .int j] ∧ Q (.int (if j > i then j else i)) H
section
variable {K : PySem.W.Frag} {M : Md} {σ : L2.St} {J H : Hp} {ta tb : TE} {i j : Int}
theorem cd_min2 : CbD K M rMin2 [.int i, .int j] (· = .int (if j < i then j else i)) := fun vs J H w a Q q => by
  cases a with
  | cons a b =>
    obtain ⟨u, rfl, b2⟩ := das_one b
    exact ⟨i, j, by rw [da_int a, da_int b2], q _ _ J H w w.tr rfl (.int _)⟩
theorem cd_max2 : CbD K M rMax2 [.int i, .int j] (· = .int (if j > i then j else i)) := fun vs J H w a Q q => by
  cases a with
  | cons a b =>
    obtain ⟨u, rfl, b2⟩ := das_one b
    exact ⟨i, j, by rw [da_int a, da_int b2], q _ _ J H w w.tr rfl (.int _)⟩
/-- a, a + 1, .. -/
def fromTo (a : Int) (n : Nat) : List PyData := (List.range n).map fun k => .int (a + (k : Nat))
theorem fromTo_at {a : Int} {n k : Nat} {d : PyData} (h : (fromTo a n)[k]? = some d) : d = .int (a + k) ∧ k < n := by
  unfold fromTo at h
  rw [List.getElem?_map] at h
  by_cases hk : k < n
  · rw [List.getElem?_range hk] at h
    exact ⟨(Option.some.inj h).symm, hk⟩
  · rw [List.getElem?_eq_none (by simp; omega)] at h
    cases h
theorem fromTo_len {a : Int} {n : Nat} : (fromTo a n).length = n := by unfold fromTo; simp
theorem ew_range2 (h : EvD K M ta σ J H (.int i)) (h2 : EvD K M tb σ J H (.int j)) (hi : -(2 ^ 62) ≤ i ∧ i < 2 ^ 62) (hj : -(2 ^ 62) ≤ j ∧ j < 2 ^ 62) : EvW K M (iRng2 (tCons ta (tCons tb tNil))) σ J H (· = fromTo i (j - i).toNat) := fun J1 H1 w t R q =>
  (ea_consD h (ea_consD h2 ea_nil)) J1 H1 w t _ fun vs ds J2 H2 w2 t2 e a => by
    subst e
    cases a with
    | cons a b =>
    obtain ⟨u, rfl, b2⟩ := das_one b
    rw [da_int a, da_int b2]
    refine ⟨i, j, rfl, ⟨hi.1, hi.2, hj.1, hj.2⟩, q _ _ J2 H2 w2 t2 rfl ⟨fun k G hk s => ?_, fun G s => ?_, fun k G x G' d hd' s y => ?_⟩⟩
    · rw [fromTo_len] at hk
      exact hk
    · rw [fromTo_len]
      exact Nat.le_refl _
    · obtain ⟨e1, e2⟩ := y
      obtain ⟨e3, _⟩ := fromTo_at hd'
      rw [e3, e2]
      exact .inl ⟨e1, .int _⟩
end
abbrev s_put_number : Stmt := top 12
abbrev N_put_number : List Str := ["number", "figures"]
theorem sc_put_number : FnScope N_put_number ["number"] (defScope s_put_number) := ⟨rfl, rfl, rfl, by decide +kernel, rfl, by decide +kernel, by decide +kernel⟩
def spPutN (K : PySem.W.Frag) : Sp := spF K (fun ds => ∃ n : Nat, ds = [.int n] ∧ n < 128 ^ 9) (fun ds d => ∀ n : Nat, ds = [.int n] → d = .tuple (oD (figsN n)))
theorem ev_putN {K : PySem.W.Frag} {M : Md} {σ : L2.St} {J H : Hp} {ta : TE} {E : XK} {n : Nat} (h : EvD K M ta σ J H (.int n)) (hn : n < 128 ^ 9) : EvD K M (tCall (spPutN K) [] E (tCons ta tNil)) σ J H (.tuple (oD (figsN n))) :=
  (ev_callD (ea_consD h ea_nil) (spF_D ⟨n, rfl, hn⟩)).mono fun d e => e n rfl
section
variable {P : Program} {w : World} {K : PySem.W.Frag} {mg : Str → Option Value} {base : Heap} {f : Addr} {fd : FuncData}
theorem ok_put_number (F : FnP K "put_number" s_put_number f fd) (T : Fx mg) : FnOk P w K mg base CX0 1 f fd ["number"] (spPutN K) := by
  have nd := sc_put_number.nd
  refine F.ok sc_put_number (fun vs H Q E h => ?_) (fun cdv A outer s H vs Q E hr h => ?_)
  · obtain ⟨J, ds, _, a, ⟨n, rfl, _⟩, _⟩ := h
    exact das_len a
  refine ⟨_, PSs.nox (pss_cons (ps_set (i := 1) nd rfl (Or.inl rfl) (pe_lst pa_nil))
 (pss_cons (ps_while PassesOwn.never (pt_cmpR op_ge (pv 0) pe_int (nomark _))
 (pss_cons (ps_expr (pe_bm PySem.F.plainAttrs_list PySem.F.slot_list_append PySem.F.type_list_append mt_append (pv 1) (pa_cons (pe_op op_plus (pe_op op_mod (pv 0) pe_int) pe_int) pa_nil)))
 (pss_one (ps_set (i := 0) nd rfl (Or.inl rfl) (pe_op op_fdivW (pv 0) pe_int)))))
 (pss_cons (ps_expr (pe_bm PySem.F.plainAttrs_list PySem.F.slot_list_append PySem.F.type_list_append mt_append (pv 1) (pa_cons (pv 0) pa_nil)))
 (pss_one (ps_ret (xT (rTupOf _) cl_tup T.b_tuple (pa_cons (pv 1) pa_nil))))))), ?_⟩
  dsimp only [cxOf]
  obtain ⟨J, ds, s0, a, ⟨n, rfl, hn⟩, q⟩ := h
  obtain ⟨v, rfl, av⟩ := das_one a
  rw [da_int av]
  have w0 : Wf Md.pure J H := ⟨s0, trivial, nofun, nofun⟩
  refine s_cell w0 fun p hp w1 t1 => ?_
  have jp : J p = none := s0.back hp
  have nf : ¬ (Md.pure).fp p := w0.nofp hp
  dsimp only
  refine s_while (fun c σ' J' H' => ∃ (k m : Nat) (acc : List Int), σ' = [some (.int (m : Int)), some (.ref p)] ∧ c = m ∧ J' p = none ∧ H' p = some (.lst (acc.map V.int)) ∧ acc.length + k = 8 ∧ acc ++ figsF k m = figsN n ∧ m < 128 ^ (k + 1)) w0 t1
    ⟨n, 8, n, [], rfl, rfl, jp, upd_same, rfl, rfl, hn⟩ ?_
  rintro m σ' J' H' w' t' s' ⟨k, _, acc, rfl, rfl, j1, h1, hk, he, hm⟩
  refine ⟨(· = decide ((128 : Int) ≤ m)), et_testD (K := K) (ev_opD (ev_var rfl (.int _)) ev_int od_ge), fun hc J1 H1 w1' t1' => ?_, fun hc J1 H1 w1' t1' => ?_⟩
  · have h8 : 128 ≤ m := by have := of_decide_eq_true hc.symm; omega
    cases k with
    | zero => omega
    | succ k =>
      have ef : figsF (k + 1) m = (((m % 128 : Nat) : Int) + 128) :: figsF k (m / 128) := by
        conv => lhs; unfold figsF
        rw [if_neg (by omega)]
      have hp1 := t1'.keep p _ nf h1
      have jp1 := t1'.cellj h1 j1
      dsimp only
      refine s_app (K := K) (P := (· = .int (((m % 128 : Nat) : Int) + 128))) w0 (t'.trans t1') hp jp1 rfl hp1 ?_ ?_ ?_
      · rw [List.length_map]; exact Nat.lt_of_le_of_lt (show _ ≤ 8 by omega) (by decide)
      · exact ev_opD (ev_eq (ev_opD (ev_var rfl (.int _)) ev_int (od_mod (by decide))) (by congr 1)) ev_int od_plus
      · rintro v3 d3 J3 H3 w3 t3 s3 j3 h3 _ _ rfl a3
        rw [da_int a3] at h3
        dsimp only
        refine s_asgI (K := K) (i := ((m / 128 : Nat) : Int)) w3 (ev_eq (ev_opD (ev_var rfl (.int _)) ev_int (od_fdiv (cdiv_small (by decide) (by decide)))) (by congr 1)) fun J4 H4 w4 t4 => ?_
        refine ⟨J4, w4, t3.trans t4, (s'.trans t1'.jj).trans (s3.trans t4.jj), _, by omega, k, m / 128, acc ++ [((m % 128 : Nat) : Int) + 128], rfl, rfl, t4.cellj h3 j3, ?_, ?_, ?_, ?_⟩
        · have := t4.keep p _ nf h3
          rw [this, List.map_append]
          rfl
        · rw [List.length_append, List.length_singleton]; omega
        · rw [List.append_assoc]
          rw [ef] at he
          exact he
        · rw [Nat.pow_succ] at hm; omega
  · have h8 : m < 128 := by have := of_decide_eq_false hc.symm; omega
    have ef : figsF k m = [(m : Int)] := by
      cases k with
      | zero => rfl
      | succ k => unfold figsF; rw [if_pos h8]
    have hp1 := t1'.keep p _ nf h1
    have jp1 := t1'.cellj h1 j1
    dsimp only
    refine s_app (K := K) (P := (· = .int (m : Int))) w0 (t'.trans t1') hp jp1 rfl hp1 ?_ (ev_var rfl (.int _)) ?_
    · rw [List.length_map]; exact Nat.lt_of_le_of_lt (show _ ≤ 8 by omega) (by decide)
    · rintro v3 d3 J3 H3 w3 t3 s3 j3 h3 _ _ rfl a3
      rw [da_int a3] at h3
      have t4 := t3.ice hp j3 h3
      have w4 := t4.wf w0
      have al : Da K (upd J3 p (.lst (acc.map V.int ++ [.int (m : Int)]))) (.ref p) (.list (oD (figsN n))) := by
        refine .lst upd_same ?_
        rw [← he, ef]
        have e : acc.map V.int ++ [V.int (m : Int)] = (acc ++ [(m : Int)]).map V.int := by rw [List.map_append]; rfl
        rw [e]
        exact das_intsV _
      dsimp only
      refine s_retD (K := K) (d := .tuple (oD (figsN n))) w4 (ev_cbD (ea_consD (ev_var rfl al) ea_nil) cd_tupL) fun v5 J5 H5 w5 t5 a5 => q v5 _ J5 H5 (t4.trans t5) (fun n' e => ?_) a5
      have e1 := PyData.int.inj (List.cons.inj e).1
      have : n = n' := by omega
      rw [this]
end
end K02

namespace K02
open PySem PySem.Spec
open PyProof.Rows L2 DL
local macro_rules | `(tactic| walk_at "rep") => `(tactic| first | assumption | exact Da.int _ | exact Da.bl _ | exact Da.str _ | exact Da.non | exact Sub.da (by assumption) (by assumption) | exact Sub.da (Tr.jj (by assumption)) (by assumption))
local macro_rules | `(tactic| walk_at "arith") => `(tactic| first | assumption | omega | decide | exact cmul_small (by omega) (by omega) | exact cdiv_small (by omega) (by omega))
local macro_rules | `(tactic| walk_at "shp") => `(tactic| first | exact sh_int _ | exact sh_tup _ | exact sh_list _ | assumption)
local macro_rules | `(tactic| walk_at "od") => `(tactic| first
  | with_reducible exact od_plus
  | with_reducible exact od_sub
  | ((with_reducible refine' od_mul ?h1); walk_at "arith")
  | ((with_reducible refine' od_mod ?h1); walk_at "arith")
  | ((with_reducible refine' od_fdiv ?h1); walk_at "arith")
  | ((with_reducible refine' od_pow ?h1); exact ⟨by decide, by decide, by decide⟩)
  | with_reducible exact od_lt | with_reducible exact od_le | with_reducible exact od_gt | with_reducible exact od_ge
  | ((with_reducible refine' od_plusT ?h1); walk_at "arith")
  | ((with_reducible refine' od_plusL ?h1); walk_at "arith")
  | ((with_reducible refine' od_plusS ?h1); walk_at "arith")
  | with_reducible exact od_isN | with_reducible exact od_notN
  | ((with_reducible refine od_eq ?_ ?_) <;> walk_at "shp")
  | ((with_reducible refine od_ne ?_ ?_) <;> walk_at "shp")
  | ((with_reducible refine od_inL ?_ ?_) <;> walk_at "shp")
  | ((with_reducible refine od_ixL ?_); assumption)
  | ((with_reducible refine od_ixT ?_); assumption))
local macro_rules | `(tactic| walk_at "ea") => `(tactic| first | with_reducible exact ea_nil | ((with_reducible refine' ea_consD ?h1 ?h2); (case h1 => walk_at "ev"); (case h2 => walk_at "ea")))
local macro_rules | `(tactic| walk_at "eo") => `(tactic| first | with_reducible exact eo_none | ((with_reducible refine' eo_at ?h1); (case h1 => walk_at "ev")))
local macro_rules | `(tactic| walk_at "cd") => `(tactic| first
  | with_reducible exact cd_lenL | with_reducible exact cd_lenT | with_reducible exact cd_tupL | with_reducible exact cd_tupT | with_reducible exact cd_lstL | with_reducible exact cd_lstT | with_reducible exact cd_abs | with_reducible exact cd_int)
local macro_rules | `(tactic| walk_at "ev") => `(tactic| first
  | with_reducible exact ev_int | with_reducible exact ev_bl | with_reducible exact ev_str | with_reducible exact ev_non
  | ((with_reducible refine' ev_var ?h1 ?h2); (case h1 => exact rfl); (case h2 => walk_at "rep"))
  | ((with_reducible refine' ev_opD ?h1 ?h2 ?h3); (case h1 => walk_at "ev"); (case h2 => walk_at "ev"); (case h3 => walk_at "od"))
  | ((with_reducible refine' ev_tupD ?h1); (case h1 => walk_at "ea"))
  | ((with_reducible refine' ev_lstD ?h1); (case h1 => walk_at "ea"))
  | ((with_reducible refine' ev_revL ?h1); (case h1 => walk_at "ev"))
  | ((with_reducible refine' ev_slD ?h1 ?h2 ?h3 ?h4); (case h1 => walk_at "ev"); (case h2 => walk_at "eo"); (case h3 => walk_at "eo"); (case h4 => first | with_reducible exact sd_tup | with_reducible exact sd_list))
  | ((with_reducible refine' ev_cbD ?h1 ?h2); (case h1 => walk_at "ea"); (case h2 => walk_at "cd"))
  | ((with_reducible refine' ev_notV ?h1); (case h1 => walk_at "ev"))
  | assumption)
local macro_rules | `(tactic| walk_at "et") => `(tactic| first
  | ((with_reducible refine' et_testD ?h1); (case h1 => walk_at "ev"))
  | ((with_reducible refine' et_BD ?h1); (case h1 => walk_at "ev"))
  | ((with_reducible refine' et_notD ?h1); (case h1 => walk_at "et"))
  | ((with_reducible refine' et_andD ?h1 ?h2); (case h1 => walk_at "et"); (case h2 => intro _; walk_at "et"))
  | ((with_reducible refine' et_orD ?h1 ?h2); (case h1 => walk_at "et"); (case h2 => intro _; walk_at "et"))
  | assumption)
/-- the error classes -/
structure Errs where
  io : Addr
  nn : Addr
def Errs.cl (e : Errs) (x : Str) : Addr := if x = "InvalidOctets" then e.io else e.nn
def fldOf (x : Str) : Str := if x = "InvalidOctets" then "at" else "name"
abbrev s_get_number : Stmt := top 13
abbrev N_get_number : List Str := ["octets", "at", "number", "worth", "here", "octet"]
theorem sc_get_number : FnScope N_get_number ["octets", "at"] (defScope s_get_number) := ⟨rfl, rfl, rfl, by decide +kernel, rfl, by decide +kernel, by decide +kernel⟩
theorem atI_nat {α : Type} {xs : List α} {k : Nat} {x : α} (h : xs[k]? = some x) : atI xs (k : Int) = some x := by
  obtain ⟨hk, _⟩ := List.getElem?_eq_some_iff.mp h
  unfold atI ixN
  rw [if_pos (by omega), if_pos (by omega)]
  have e : ((k : Nat) : Int).toNat = k := by omega
  rw [e]
  exact h
theorem oD_get {xs : List Int} {k : Nat} {x : Int} (h : xs[k]? = some x) : (oD xs)[k]? = some (.int x) := by unfold oD; rw [List.getElem?_map, h]; rfl
def preG (ds : List PyData) : Prop := ∃ (xs : List Int) (a : Nat), ds = [.tuple (oD xs), .int a] ∧ Oct xs ∧ a ≤ xs.length ∧ xs.length < 2 ^ 20
def pairD (v : Int) (q : Nat) : PyData := .tuple [.int v, .int q]
def spGetN (K : PySem.W.Frag) (e : Errs) : Sp := spX K e.cl fldOf preG (fun ds d => ∀ (xs : List Int) (a : Nat), ds = [.tuple (oD xs), .int a] → ∃ v q, getN xs a = some (v, q) ∧ d = pairD v q)
  (fun ds c x => ∃ (xs : List Int) (a : Nat), ds = [.tuple (oD xs), .int a] ∧ getN xs a = none ∧ c = "InvalidOctets" ∧ x = .int a)
theorem args_eq {xs ys : List Int} {a b : Nat} (h : [PyData.tuple (oD xs), PyData.int a] = [.tuple (oD ys), .int b]) : xs = ys ∧ a = b := by
  obtain ⟨e1, e2⟩ := List.cons.inj h
  have e3 := PyData.int.inj (List.cons.inj e2).1
  exact ⟨oD_inj (PyData.tuple.inj e1), by omega⟩
section
variable {P : Program} {w : World} {K : PySem.W.Frag} {mg : Str → Option Value} {base : Heap} {f : Addr} {fd : FuncData} {er : Errs}
theorem ok_get_number (F : FnP K "get_number" s_get_number f fd) (T : Fx mg) (R_InvalidOctets : Er P w K mg base "InvalidOctets" er.io "at") : FnOk P w K mg base (L2.CX P w) 3 f fd ["octets", "at"] (spGetN K er) := by
  have nd := sc_get_number.nd
  refine F.ok sc_get_number (fun vs H Q E h => ?_) (fun cdv A outer s H vs Q E hr h => ?_)
  · obtain ⟨J, ds, _, a, ⟨xs, n, rfl, _⟩, _⟩ := h
    exact das_len a
  have hu : A.units + 3 + 64 < cLine := hr.units
  refine ⟨_, (pss_cons (ps_set (i := 2) nd rfl (Or.inl rfl) pe_int)
 (pss_cons (ps_set (i := 3) nd rfl (Or.inl rfl) pe_int)
 (pss_cons (ps_for (passes_of rfl) rfl (pi_range2 rfl T.b_range (pa_cons (pv 1) (pa_cons (xB (rMin2) (call_min2 rfl) T.b_min (pa_cons (pe_op op_plus (pv 1) (xGI T.c_MOST_NUMBER_OCTETS)) (pa_cons (xB (rLen _) cl_len T.b_len (pa_cons (pv 0) pa_nil)) pa_nil))) pa_nil))) (pg_name (i := 4) nd rfl (Or.inl rfl))
 (pss_cons (ps_set (i := 5) nd rfl (Or.inl rfl) (xIx (pv 0) (pv 4)))
 (pss_cons (ps_set (i := 2) nd rfl (Or.inl rfl) (pe_op op_plus (pv 2) (pe_op op_mulW (pe_op op_mod (pv 5) pe_int) (pv 3))))
 (pss_cons (ps_set (i := 3) nd rfl (Or.inl rfl) (pe_op op_mulW (pv 3) pe_int))
 (pss_cons (ps_if (PW.pt (pw_and (pt_cmpR (op_eqD hu) (pv 5) pe_int (nomark _)) (pw_and1 (pt_cmpR op_gt (pv 4) (pv 1) (nomark _))))) (pss_one (xRaise R_InvalidOctets rfl (takes_of rfl rfl rfl rfl) (hr.mono (by decide)) (pv 1)))
 pss_nil)
 (pss_one (ps_if (pt_cmpR op_lt (pv 5) pe_int (nomark _)) (pss_one (ps_ret (pe_tup (pa_cons (pv 2) (pa_cons (pe_op op_plus (pv 4) pe_int) pa_nil)))))
 pss_nil)))))))
 (pss_one (xRaise R_InvalidOctets rfl (takes_of rfl rfl rfl rfl) (hr.mono (by decide)) (pv 1)))))), ?_⟩
  dsimp only [cxOf]
  obtain ⟨J, ds, s0, a, ⟨xs, n, rfl, ho, hn, hl⟩, q, qe⟩ := h
  obtain ⟨v, b, rfl, av, b1⟩ : ∃ v b, vs = [v, b] ∧ Da K J v (.tuple (oD xs)) ∧ Da K J b (.int (n : Int)) := by
    cases a with
    | cons a b =>
      obtain ⟨u, rfl, b2⟩ := das_one b
      exact ⟨_, _, rfl, a, b2⟩
  rw [da_int b1]
  have w0 : Wf Md.pure J H := ⟨s0, trivial, nofun, nofun⟩
  have hl20 : xs.length < 1048576 := hl
  refine s_asgI (K := K) w0 ev_int fun J1 H1 w1 t1 => ?_
  dsimp only
  refine s_asgI (K := K) w1 ev_int fun J2 H2 w2 t2 => ?_
  have t02 := t1.trans t2
  dsimp only
  have av2 := t02.jj.da av
  have fin : getN xs n = none → ∀ {J3 : Hp} {H3 : Hp} {σ : L2.St} {D : Ends}, Wf Md.pure J3 H3 → Tr Md.pure J H J3 H3 → σ[1]? = some (some (.int (n : Int))) → tRz K er.io "at" (tVar 1) (fun cls d _ H => E cls d H) D σ H3 := fun hg {J3 H3 σ D} w3 t3 hs => by
    refine s_raise (K := K) (P := (· = .int (n : Int))) R_InvalidOctets.no w3 (ev_var hs (.int _)) fun v5 d5 J5 H5 dx w5 t5 e5 a5 hx w6 t6 => ?_
    subst e5
    exact qe "InvalidOctets" _ dx v5 J5 _ (t3.trans t6) ⟨xs, n, rfl, hg, rfl, rfl⟩ upd_same a5
  refine s_forD (K := K) (fromTo (n : Int) ((if ((xs.length : Nat) : Int) < (n : Int) + 9 then ((xs.length : Nat) : Int) else (n : Int) + 9) - (n : Int)).toNat)
    (fun i σ' J' H' => ∃ (tot wt : Int) (o4 o5 : Option V), σ' = [some v, some (.int (n : Int)), some (.int tot), some (.int wt), o4, o5] ∧ wt = ((128 ^ i : Nat) : Int) ∧ 0 ≤ tot ∧ tot < wt ∧ i ≤ 9 ∧ getN xs n = goN xs n (9 - i) (n + i) tot wt) w0 t02
    (ew_range2 (ev_var rfl (.int _)) (ev_cbD (ea_consD (ev_opD (ev_var rfl (.int _)) ev_int od_plus) (ea_consD (ev_eq (ev_cbD (ea_consD (ev_var rfl av2) ea_nil) cd_lenT) (d' := .int (xs.length : Nat)) (by rw [oD_len])) ea_nil)) cd_min2) (by omega) (by split <;> omega))
    (fun _ _ _ _ => ⟨0, 1, none, none, rfl, rfl, by decide, by decide, by decide, rfl⟩) (fun i σ' J' H' T xs h _ => h) ?_ ?_
  · rintro i d x σ' J3 J' H' hdi w' t' s1 s2 ⟨tot, wt, o4, o5, rfl, ew, tot0, tot1, hi9, hgo⟩ ax
    obtain ⟨rfl, hi⟩ := fromTo_at hdi
    rw [da_int ax]
    have hin : i < 9 ∧ n + i < xs.length := by split at hi <;> omega
    have wt8 : 0 < wt ∧ wt ≤ 72057594037927936 := by
      rw [ew]
      have h1 : 0 < 128 ^ i := Nat.pow_pos (by decide)
      have h2 : 128 ^ i ≤ 128 ^ 8 := Nat.pow_le_pow_right (by decide) (by omega)
      have h3 : (128 : Nat) ^ 8 = 72057594037927936 := by decide
      omega
    obtain ⟨o, hx⟩ : ∃ o, xs[n + i]? = some o := ⟨_, List.getElem?_eq_getElem hin.2⟩
    have oo := ho o (List.mem_of_getElem? hx)
    have eI : (n : Int) + ((i : Nat) : Int) = ((n + i : Nat) : Int) := by omega
    have av' := (t02.jj.trans (Sub.refl _)).da av
    have av3 := t'.jj.da av
    have e9 : 9 - i = (8 - i) + 1 := by omega
    have step : getN xs n = if o = 0 ∧ n < n + i then none else if o < 128 then some (tot + o % 128 * wt, n + i + 1) else goN xs n (8 - i) (n + i + 1) (tot + o % 128 * wt) (wt * 128) := by
      rw [hgo, e9]
      conv => lhs; unfold goN
      rw [hx]
    have o128 : 0 ≤ o % 128 ∧ o % 128 < 128 := by omega
    have mb : 0 ≤ o % 128 * wt := Int.mul_nonneg o128.1 (by omega)
    have mb2 : o % 128 * wt ≤ 127 * wt := Int.mul_le_mul_of_nonneg_right (by omega) (by omega)
    rw [eI]
    dsimp only
    refine s_asgI (K := K) (i := o) w' (ev_opD (ev_var rfl av3) (ev_var rfl (.int _)) (od_ixT (atI_nat (oD_get hx)))) fun J4 H4 w4 t4 => ?_
    dsimp only
    refine s_asgI (K := K) (i := tot + o % 128 * wt) w4 (ev_opD (ev_var rfl (.int _)) (ev_opD (ev_opD (ev_var rfl (.int _)) ev_int (od_mod (by decide))) (ev_var rfl (.int _)) (od_mul (cmul_small (by omega) (by omega)))) od_plus) fun J5 H5 w5 t5 => ?_
    dsimp only
    refine s_asgI (K := K) (i := wt * 128) w5 (ev_opD (ev_var rfl (.int _)) ev_int (od_mul (cmul_small (by omega) (by decide)))) fun J6 H6 w6 t6 => ?_
    have t46 := t4.trans (t5.trans t6)
    dsimp only
    refine s_ifD (b := decide (o = 0) && decide ((n : Int) < ((n + i : Nat) : Int))) w6 (et_andD (et_testD (K := K) (ev_eq (ev_opD (ev_var rfl (.int _)) ev_int (od_eq (sh_int _) (sh_int _))) (by rw [eqv_int]))) fun _ => et_testD (K := K) (ev_opD (ev_var rfl (.int _)) (ev_var rfl (.int _)) od_gt)) (fun hb J7 H7 w7 t7 => ?_) (fun hb J7 H7 w7 t7 => s_next ?_)
    · obtain ⟨c1, c2⟩ := Bool.and_eq_true_iff.mp hb
      have c1 := of_decide_eq_true c1
      have c2 := of_decide_eq_true c2
      refine fin ?_ w7 (t'.trans (t46.trans t7)) rfl
      rw [step, if_pos ⟨c1, by omega⟩]
    · have nc : ¬ (o = 0 ∧ n < n + i) := fun ⟨z1, z2⟩ => by
        rw [decide_eq_true z1, decide_eq_true (by omega)] at hb
        cases hb
      rw [if_neg nc] at step
      dsimp only
      refine s_ifD (b := decide (o < 128)) w7 (et_testD (K := K) (ev_opD (ev_var rfl (.int _)) ev_int od_lt)) (fun hb J8 H8 w8 t8 => ?_) (fun hb J8 H8 w8 t8 => s_next ?_)
      · have hlt := of_decide_eq_true hb
        rw [if_pos hlt] at step
        refine s_retD (K := K) (d := pairD (tot + o % 128 * wt) (n + i + 1)) w8 (ev_eq (ev_tupD (ea_consD (ev_var rfl (.int _)) (ea_consD (ev_opD (ev_var rfl (.int _)) ev_int od_plus) ea_nil))) rfl) fun v9 J9 H9 w9 t9 a9 => q v9 _ J9 H9 (t'.trans (t46.trans (t7.trans (t8.trans t9)))) (fun ys b e => ?_) a9
        obtain ⟨e1, e2⟩ := args_eq e
        rw [← e1, ← e2]
        exact ⟨_, _, step, rfl⟩
      · have hlt := of_decide_eq_false hb
        rw [if_neg hlt] at step
        have t48 := t46.trans (t7.trans t8)
        refine ⟨J8, w8, t'.trans t48, s2.trans t48.jj, _, _, _, _, rfl, ?_, by omega, by omega, by omega, ?_⟩
        · rw [ew, Nat.pow_succ]; omega
        · have e8 : 9 - (i + 1) = 8 - i := by omega
          rw [e8]
          exact step
  · rintro σ' J' H' w' t' s1 ⟨tot, wt, o4, o5, rfl, ew, _, _, hi9, hgo⟩
    rw [fromTo_len] at hi9 hgo
    dsimp only
    refine fin ?_ w' t' rfl
    rw [hgo]
    by_cases hc : ((xs.length : Nat) : Int) < (n : Int) + 9
    · rw [if_pos hc]
      have e1 : (((xs.length : Nat) : Int) - (n : Int)).toNat = xs.length - n := by omega
      rw [e1]
      have e2 : 9 - (xs.length - n) = (8 - (xs.length - n)) + 1 := by omega
      rw [e2]
      unfold goN
      rw [List.getElem?_eq_none (by omega)]
    · rw [if_neg hc]
      have e1 : (((n : Int) + 9) - (n : Int)).toNat = 9 := by omega
      rw [e1]
      rfl
end
end K02

namespace K02
open PySem PySem.Spec
open PyProof.Rows L2 DL
local macro_rules | `(tactic| walk_at "rep") => `(tactic| first | assumption | exact Da.int _ | exact Da.bl _ | exact Da.str _ | exact Da.non | exact Sub.da (by assumption) (by assumption) | exact Sub.da (Tr.jj (by assumption)) (by assumption))
local macro_rules | `(tactic| walk_at "arith") => `(tactic| first | assumption | omega | decide | exact cmul_small (by omega) (by omega) | exact cdiv_small (by omega) (by omega))
local macro_rules | `(tactic| walk_at "shp") => `(tactic| first | exact sh_int _ | exact sh_tup _ | exact sh_list _ | assumption)
local macro_rules | `(tactic| walk_at "od") => `(tactic| first
  | with_reducible exact od_plus
  | with_reducible exact od_sub
  | ((with_reducible refine' od_mul ?h1); walk_at "arith")
  | ((with_reducible refine' od_mod ?h1); walk_at "arith")
  | ((with_reducible refine' od_fdiv ?h1); walk_at "arith")
  | ((with_reducible refine' od_pow ?h1); exact ⟨by decide, by decide, by decide⟩)
  | with_reducible exact od_lt | with_reducible exact od_le | with_reducible exact od_gt | with_reducible exact od_ge
  | ((with_reducible refine' od_plusT ?h1); walk_at "arith")
  | ((with_reducible refine' od_plusL ?h1); walk_at "arith")
  | ((with_reducible refine' od_plusS ?h1); walk_at "arith")
  | with_reducible exact od_isN | with_reducible exact od_notN
  | ((with_reducible refine od_eq ?_ ?_) <;> walk_at "shp")
  | ((with_reducible refine od_ne ?_ ?_) <;> walk_at "shp")
  | ((with_reducible refine od_inL ?_ ?_) <;> walk_at "shp")
  | ((with_reducible refine od_ixL ?_); assumption)
  | ((with_reducible refine od_ixT ?_); assumption))
local macro_rules | `(tactic| walk_at "ea") => `(tactic| first | with_reducible exact ea_nil | ((with_reducible refine' ea_consD ?h1 ?h2); (case h1 => walk_at "ev"); (case h2 => walk_at "ea")))
local macro_rules | `(tactic| walk_at "eo") => `(tactic| first | with_reducible exact eo_none | ((with_reducible refine' eo_at ?h1); (case h1 => walk_at "ev")))
local macro_rules | `(tactic| walk_at "cd") => `(tactic| first
  | with_reducible exact cd_lenL | with_reducible exact cd_lenT | with_reducible exact cd_tupL | with_reducible exact cd_tupT | with_reducible exact cd_lstL | with_reducible exact cd_lstT | with_reducible exact cd_abs | with_reducible exact cd_int)
local macro_rules | `(tactic| walk_at "ev") => `(tactic| first
  | with_reducible exact ev_int | with_reducible exact ev_bl | with_reducible exact ev_str | with_reducible exact ev_non
  | ((with_reducible refine' ev_var ?h1 ?h2); (case h1 => exact rfl); (case h2 => walk_at "rep"))
  | ((with_reducible refine' ev_opD ?h1 ?h2 ?h3); (case h1 => walk_at "ev"); (case h2 => walk_at "ev"); (case h3 => walk_at "od"))
  | ((with_reducible refine' ev_tupD ?h1); (case h1 => walk_at "ea"))
  | ((with_reducible refine' ev_lstD ?h1); (case h1 => walk_at "ea"))
  | ((with_reducible refine' ev_revL ?h1); (case h1 => walk_at "ev"))
  | ((with_reducible refine' ev_slD ?h1 ?h2 ?h3 ?h4); (case h1 => walk_at "ev"); (case h2 => walk_at "eo"); (case h3 => walk_at "eo"); (case h4 => first | with_reducible exact sd_tup | with_reducible exact sd_list))
  | ((with_reducible refine' ev_cbD ?h1 ?h2); (case h1 => walk_at "ea"); (case h2 => walk_at "cd"))
  | ((with_reducible refine' ev_notV ?h1); (case h1 => walk_at "ev"))
  | assumption)
local macro_rules | `(tactic| walk_at "et") => `(tactic| first
  | ((with_reducible refine' et_testD ?h1); (case h1 => walk_at "ev"))
  | ((with_reducible refine' et_BD ?h1); (case h1 => walk_at "ev"))
  | ((with_reducible refine' et_notD ?h1); (case h1 => walk_at "et"))
  | ((with_reducible refine' et_andD ?h1 ?h2); (case h1 => walk_at "et"); (case h2 => intro _; walk_at "et"))
  | ((with_reducible refine' et_orD ?h1 ?h2); (case h1 => walk_at "et"); (case h2 => intro _; walk_at "et"))
  | assumption)
/-- a call whose errors are let out -/
theorem rd_callX {K : PySem.W.Frag} {M : Md} {σ : L2.St} {J H : Hp} {cl : Str → Addr} {fl : Str → Str} {pre : List PyData → Prop} {post : List PyData → PyData → Prop} {exc : List PyData → Str → PyData → Prop} {E : XK} {ta : TA} {ds : List PyData} {Q : VK} (w : Wf M J H) (h : EvA K M ta σ J H (· = ds)) (hp : pre ds)
    (q : ∀ v d J1 H1, Wf M J1 H1 → Tr M J H J1 H1 → post ds d → Da K J1 v d → Q v H1)
    (qe : ∀ c x dx v J1 H1, Wf M J1 H1 → Tr M J H J1 H1 → exc ds c x → H1 dx = some (.xd [(fl c, v)]) → Da K J1 v x → E (.ref (cl c)) (some dx) H1) : tCall (spX K cl fl pre post exc) [] E ta σ H Q :=
  h J H w w.tr _ fun vs ds' J1 H1 w1 t1 e a => by
    subst e
    show spX K cl fl pre post exc (vs ++ []) H1 Q E
    rw [List.append_nil]
    exact ⟨J1, _, w1.jh, a, hp, fun v d J' H' t p a' => q v d J' H' ((w1.lift t).wf w1) (t1.trans (w1.lift t)) p a', fun c x dx v J' H' t z hx a' => qe c x dx v J' H' ((w1.lift t).wf w1) (t1.trans (w1.lift t)) z hx a'⟩
/-- whole numbers as numbers, and back -/
def zz (i : Int) : Nat := (if 0 ≤ i then 2 * i else -2 * i - 1).toNat
def unI (v : Int) : Int := if v % 2 = 0 then v / 2 else -(v + 1) / 2
theorem zz_un (v : Int) (h : 0 ≤ v) : zz (unI v) = v.toNat := by
  unfold unI zz
  split <;> split <;> omega
theorem un_zz (i : Int) : unI (zz i) = i := by
  unfold unI zz
  split <;> split <;> omega
abbrev s_put_integer : Stmt := top 14
abbrev N_put_integer : List Str := ["integer"]
theorem sc_put_integer : FnScope N_put_integer ["integer"] (defScope s_put_integer) := ⟨rfl, rfl, rfl, by decide +kernel, rfl, by decide +kernel, by decide +kernel⟩
def spPutI (K : PySem.W.Frag) : Sp := spF K (fun ds => ∃ i : Int, ds = [.int i] ∧ zz i < 128 ^ 9) (fun ds d => ∀ i : Int, ds = [.int i] → d = .tuple (oD (figsN (zz i))))
abbrev s_get_integer : Stmt := top 15
abbrev N_get_integer : List Str := ["octets", "at", "number", "behind"]
theorem sc_get_integer : FnScope N_get_integer ["octets", "at"] (defScope s_get_integer) := ⟨rfl, rfl, rfl, by decide +kernel, rfl, by decide +kernel, by decide +kernel⟩
def spGetI (K : PySem.W.Frag) (e : Errs) : Sp := spX K e.cl fldOf preG (fun ds d => ∀ (xs : List Int) (a : Nat), ds = [.tuple (oD xs), .int a] → ∃ v q, getN xs a = some (v, q) ∧ d = pairD (unI v) q)
  (fun ds c x => ∃ (xs : List Int) (a : Nat), ds = [.tuple (oD xs), .int a] ∧ getN xs a = none ∧ c = "InvalidOctets" ∧ x = .int a)
section
variable {P : Program} {w : World} {K : PySem.W.Frag} {mg : Str → Option Value} {base : Heap} {f : Addr} {fd : FuncData} {er : Errs}
theorem ok_put_integer (F : FnP K "put_integer" s_put_integer f fd) (C_put_number : Ca P w K mg base CX0 1 "put_number" ["number"] (spPutN K)) : FnOk P w K mg base CX0 2 f fd ["integer"] (spPutI K) := by
  have nd := sc_put_integer.nd
  refine F.ok sc_put_integer (fun vs H Q E h => ?_) (fun cdv A outer s H vs Q E hr h => ?_)
  · obtain ⟨J, ds, _, a, ⟨n, rfl, _⟩, _⟩ := h
    exact das_len a
  refine ⟨_, PSs.nox (pss_one (ps_ret (xCall C_put_number (hr.mono (by decide)) pass0 (pa_cons (pe_ifExp (pt_cmpR op_ge (pv 0) pe_int (nomark _)) (pe_op op_mulW pe_int (pv 0)) (pe_op op_sub (pe_op op_mulW (pe_un un_neg pe_int) (pv 0)) pe_int)) pa_nil)))), ?_⟩
  obtain ⟨J, ds, s0, a, ⟨i, rfl, hi⟩, q⟩ := h
  obtain ⟨v, rfl, av⟩ := das_one a
  rw [da_int av]
  have w0 : Wf Md.pure J H := ⟨s0, trivial, nofun, nofun⟩
  have big : (128 : Nat) ^ 9 = 9223372036854775808 := by decide
  have hi2 : -4611686018427387904 ≤ i ∧ i < 4611686018427387904 := by unfold zz at hi; split at hi <;> omega
  refine s_retD (K := K) (d := .tuple (oD (figsN (zz i)))) w0 (ev_putN ?_ hi) fun v1 J1 H1 w1 t1 a1 => q v1 _ J1 H1 t1 (fun i' e => ?_) a1
  · refine ev_if (Pb := (· = decide ((0 : Int) ≤ i))) (et_testD (K := K) (ev_opD (ev_var rfl (.int _)) ev_int od_ge)) (fun hz => ?_) (fun hz => ?_)
    · have hz := of_decide_eq_true hz.symm
      refine ev_eq (ev_opD ev_int (ev_var rfl (.int _)) (od_mul (cmul_small (by decide) (by omega)))) ?_
      unfold zz
      rw [if_pos hz]
      congr 1
      omega
    · have hz := of_decide_eq_false hz.symm
      refine ev_eq (ev_opD (ev_opD (ev_neg ev_int) (ev_var rfl (.int _)) (od_mul (cmul_small (by decide) (by omega)))) ev_int od_sub) ?_
      unfold zz
      rw [if_neg hz]
      congr 1
      omega
  · rw [PyData.int.inj (List.cons.inj e).1]
theorem ok_get_integer (F : FnP K "get_integer" s_get_integer f fd) (C_get_number : Ca P w K mg base (L2.CX P w) 3 "get_number" ["octets", "at"] (spGetN K er)) : FnOk P w K mg base (L2.CX P w) 4 f fd ["octets", "at"] (spGetI K er) := by
  have nd := sc_get_integer.nd
  refine F.ok sc_get_integer (fun vs H Q E h => ?_) (fun cdv A outer s H vs Q E hr h => ?_)
  · obtain ⟨J, ds, _, a, ⟨xs, n, rfl, _⟩, _⟩ := h
    exact das_len a
  have hu : A.units + 3 + 64 < cLine := hr.units
  refine ⟨_, (pss_cons (ps_asg (xCall C_get_number (hr.mono (by decide)) (passes_call (takes_of rfl rfl rfl rfl) (fun _ _ _ _ h => h)) (pa_cons (pv 0) (pa_cons (pv 1) pa_nil))) (pg_tup rfl (pgs_cons (pg_name (i := 2) nd rfl (Or.inl rfl)) (pgs_cons (pg_name (i := 3) nd rfl (Or.inl rfl)) pgs_nil))))
 (pss_cons (ps_if (pt_cmpR (op_eqD hu) (pe_op op_mod (pv 2) pe_int) pe_int (nomark _)) (pss_one (ps_ret (pe_tup (pa_cons (pe_op op_fdivW (pv 2) pe_int) (pa_cons (pv 3) pa_nil)))))
 pss_nil)
 (pss_one (ps_ret (pe_tup (pa_cons (pe_op op_fdivW (pe_un un_neg (pe_op op_plus (pv 2) pe_int)) pe_int) (pa_cons (pv 3) pa_nil))))))), ?_⟩
  dsimp only [cxOf]
  obtain ⟨J, ds, s0, a, ⟨xs, n, rfl, ho, hn, hl⟩, q, qe⟩ := h
  obtain ⟨v, b, rfl, av, b1⟩ : ∃ v b, vs = [v, b] ∧ Da K J v (.tuple (oD xs)) ∧ Da K J b (.int (n : Int)) := by
    cases a with
    | cons a b =>
      obtain ⟨u, rfl, b2⟩ := das_one b
      exact ⟨_, _, rfl, a, b2⟩
  have w0 : Wf Md.pure J H := ⟨s0, trivial, nofun, nofun⟩
  refine rd_callX (K := K) (ds := [.tuple (oD xs), .int n]) w0 (ea_consD (ev_var rfl av) (ea_consD (ev_var rfl b1) ea_nil)) ⟨xs, n, rfl, ho, hn, hl⟩ (fun v3 d3 J3 H3 w3 t3 p3 a3 => ?_) (fun c x dx v3 J3 H3 w3 t3 p3 hx a3 => qe c x dx v3 J3 H3 t3 p3 hx a3)
  obtain ⟨v', p, hg, rfl⟩ := p3 xs n rfl
  obtain ⟨c, zs, rfl, ht, hd⟩ := da_tup a3
  cases hd with
  | cons a4 b4 =>
  obtain ⟨u, rfl, b5⟩ := das_one b4
  have e4 := da_int a4
  have e5 := da_int b5
  subst e4 e5
  refine ⟨c, _, rfl, w3.jh.t ht, rfl, _, _, rfl, _, _, rfl, rfl, ?_⟩
  have ret : ∀ {J5 : Hp} {H5 : Hp} {σ : L2.St} {D : Ends} {te : TE}, D.rt = Q → Wf Md.pure J5 H5 → Tr Md.pure J H J5 H5 → EvD K Md.pure te σ J5 H5 (pairD (unI v') p) → tRet te D σ H5 := fun {J5 H5 σ D te} hD w5 t5 he =>
    s_retD (K := K) w5 he fun v6 J6 H6 w6 t6 a6 => by
      rw [hD]
      refine q v6 _ J6 H6 (t5.trans t6) (fun ys b e => ?_) a6
      obtain ⟨e1, e2⟩ := args_eq e
      rw [← e1, ← e2]
      exact ⟨_, _, hg, rfl⟩
  refine s_ifD (b := decide (v' % 2 = 0)) w3 (et_testD (K := K) (ev_eq (ev_opD (ev_opD (ev_var rfl (.int _)) ev_int (od_mod (by decide))) ev_int (od_eq (sh_int _) (sh_int _))) (by rw [eqv_int]))) (fun hb J5 H5 w5 t5 => ?_) (fun hb J5 H5 w5 t5 => s_next ?_)
  · have hb := of_decide_eq_true hb
    refine ret rfl w5 (t3.trans t5) (ev_eq (ev_tupD (ea_consD (ev_opD (ev_var rfl (.int _)) ev_int (od_fdiv (cdiv_small (by decide) (by decide)))) (ea_consD (ev_var rfl (.int _)) ea_nil))) ?_)
    unfold unI
    rw [if_pos hb]
    rfl
  · have hb := of_decide_eq_false hb
    refine ret rfl w5 (t3.trans t5) (ev_eq (ev_tupD (ea_consD (ev_opD (ev_neg (ev_opD (ev_var rfl (.int _)) ev_int od_plus)) ev_int (od_fdiv (cdiv_small (by decide) (by decide)))) (ea_consD (ev_var rfl (.int _)) ea_nil))) ?_)
    unfold unI
    rw [if_neg hb]
    rfl
end
end K02

namespace K02
open PySem PySem.Spec
open PyProof.Rows L2 DL
local macro_rules | `(tactic| walk_at "rep") => `(tactic| first | assumption | exact Da.int _ | exact Da.bl _ | exact Da.str _ | exact Da.non | exact Sub.da (by assumption) (by assumption) | exact Sub.da (Tr.jj (by assumption)) (by assumption))
local macro_rules | `(tactic| walk_at "arith") => `(tactic| first | assumption | omega | decide | exact cmul_small (by omega) (by omega) | exact cdiv_small (by omega) (by omega))
local macro_rules | `(tactic| walk_at "shp") => `(tactic| first | exact sh_int _ | exact sh_tup _ | exact sh_list _ | assumption)
local macro_rules | `(tactic| walk_at "od") => `(tactic| first
  | with_reducible exact od_plus
  | with_reducible exact od_sub
  | ((with_reducible refine' od_mul ?h1); walk_at "arith")
  | ((with_reducible refine' od_mod ?h1); walk_at "arith")
  | ((with_reducible refine' od_fdiv ?h1); walk_at "arith")
  | ((with_reducible refine' od_pow ?h1); exact ⟨by decide, by decide, by decide⟩)
  | with_reducible exact od_lt | with_reducible exact od_le | with_reducible exact od_gt | with_reducible exact od_ge
  | ((with_reducible refine' od_plusT ?h1); walk_at "arith")
  | ((with_reducible refine' od_plusL ?h1); walk_at "arith")
  | ((with_reducible refine' od_plusS ?h1); walk_at "arith")
  | with_reducible exact od_isN | with_reducible exact od_notN
  | ((with_reducible refine od_eq ?_ ?_) <;> walk_at "shp")
  | ((with_reducible refine od_ne ?_ ?_) <;> walk_at "shp")
  | ((with_reducible refine od_inL ?_ ?_) <;> walk_at "shp")
  | ((with_reducible refine od_ixL ?_); assumption)
  | ((with_reducible refine od_ixT ?_); assumption))
local macro_rules | `(tactic| walk_at "ea") => `(tactic| first | with_reducible exact ea_nil | ((with_reducible refine' ea_consD ?h1 ?h2); (case h1 => walk_at "ev"); (case h2 => walk_at "ea")))
local macro_rules | `(tactic| walk_at "eo") => `(tactic| first | with_reducible exact eo_none | ((with_reducible refine' eo_at ?h1); (case h1 => walk_at "ev")))
local macro_rules | `(tactic| walk_at "cd") => `(tactic| first
  | with_reducible exact cd_lenL | with_reducible exact cd_lenT | with_reducible exact cd_tupL | with_reducible exact cd_tupT | with_reducible exact cd_lstL | with_reducible exact cd_lstT | with_reducible exact cd_abs | with_reducible exact cd_int)
local macro_rules | `(tactic| walk_at "ev") => `(tactic| first
  | with_reducible exact ev_int | with_reducible exact ev_bl | with_reducible exact ev_str | with_reducible exact ev_non
  | ((with_reducible refine' ev_var ?h1 ?h2); (case h1 => exact rfl); (case h2 => walk_at "rep"))
  | ((with_reducible refine' ev_opD ?h1 ?h2 ?h3); (case h1 => walk_at "ev"); (case h2 => walk_at "ev"); (case h3 => walk_at "od"))
  | ((with_reducible refine' ev_tupD ?h1); (case h1 => walk_at "ea"))
  | ((with_reducible refine' ev_lstD ?h1); (case h1 => walk_at "ea"))
  | ((with_reducible refine' ev_revL ?h1); (case h1 => walk_at "ev"))
  | ((with_reducible refine' ev_slD ?h1 ?h2 ?h3 ?h4); (case h1 => walk_at "ev"); (case h2 => walk_at "eo"); (case h3 => walk_at "eo"); (case h4 => first | with_reducible exact sd_tup | with_reducible exact sd_list))
  | ((with_reducible refine' ev_cbD ?h1 ?h2); (case h1 => walk_at "ea"); (case h2 => walk_at "cd"))
  | ((with_reducible refine' ev_notV ?h1); (case h1 => walk_at "ev"))
  | assumption)
local macro_rules | `(tactic| walk_at "et") => `(tactic| first
  | ((with_reducible refine' et_testD ?h1); (case h1 => walk_at "ev"))
  | ((with_reducible refine' et_BD ?h1); (case h1 => walk_at "ev"))
  | ((with_reducible refine' et_notD ?h1); (case h1 => walk_at "et"))
  | ((with_reducible refine' et_andD ?h1 ?h2); (case h1 => walk_at "et"); (case h2 => intro _; walk_at "et"))
  | ((with_reducible refine' et_orD ?h1 ?h2); (case h1 => walk_at "et"); (case h2 => intro _; walk_at "et"))
  | assumption)
/-! ### isinstance of a datum with a built-in class -/
def tyN : PyData → String
  | .none => "NoneType"
  | .bool _ => "bool"
  | .int _ => "int"
  | .str _ => "str"
  | .list _ => "list"
  | .tuple _ => "tuple"
  | .dict _ => "dict"
theorem ty_da {K : PySem.W.Frag} {J H : Hp} {v : V} {d : PyData} (h : Da K J v d) (s : Sub J H) : TyX K H v (.type (tyN d)) := by
  cases h with
  | non => exact .base .non
  | bl b => exact .base (.bl b)
  | int i => exact .base (.int i)
  | str x => exact .base (.str x)
  | lst a b => exact .base (.lst (s _ _ a))
  | tup a b => exact ty_tup (.tup a b) s
theorem ev_isi {K : PySem.W.Frag} {M : Md} {σ : L2.St} {J H : Hp} {te : TE} {d : PyData} {n : String} {b : Bool} (h : EvD K M te σ J H d) (e : PySem.W.kitOne K (.type (tyN d)) (.type n) = some b) : EvD K M (tCB (rIsi K) (tCons te (tCons (tC (.ty n)) tNil))) σ J H (.bool b) := fun J1 H1 w t Q q =>
  h J1 H1 w t _ fun v d' J2 H2 w2 t2 ed a => by
    subst ed
    exact ⟨v, .ty n, .type (tyN d'), .type n, b, rfl, .ty _, ty_da a w2.jh, e, q _ _ J2 H2 w2 t2 rfl (.bl b)⟩
theorem isi_str {K : PySem.W.Frag} (d : PyData) : PySem.W.kitOne K (.type (tyN d)) (.type "str") = some (match d with | .str _ => true | _ => false) := by
  cases d with
  | none => rfl
  | bool _ => rfl
  | int _ => rfl
  | str _ => exact kit_self _
  | list _ => rfl
  | tuple _ => rfl
  | dict _ => rfl
end K02

namespace K02
open PySem PySem.Spec
open PyProof.Rows L2 DL
local macro_rules | `(tactic| walk_at "rep") => `(tactic| first | assumption | exact Da.int _ | exact Da.bl _ | exact Da.str _ | exact Da.non | exact Sub.da (by assumption) (by assumption) | exact Sub.da (Tr.jj (by assumption)) (by assumption))
local macro_rules | `(tactic| walk_at "arith") => `(tactic| first | assumption | omega | decide | exact cmul_small (by omega) (by omega) | exact cdiv_small (by omega) (by omega))
local macro_rules | `(tactic| walk_at "shp") => `(tactic| first | exact sh_int _ | exact sh_tup _ | exact sh_list _ | assumption)
local macro_rules | `(tactic| walk_at "od") => `(tactic| first
  | with_reducible exact od_plus
  | with_reducible exact od_sub
  | ((with_reducible refine' od_mul ?h1); walk_at "arith")
  | ((with_reducible refine' od_mod ?h1); walk_at "arith")
  | ((with_reducible refine' od_fdiv ?h1); walk_at "arith")
  | ((with_reducible refine' od_pow ?h1); exact ⟨by decide, by decide, by decide⟩)
  | with_reducible exact od_lt | with_reducible exact od_le | with_reducible exact od_gt | with_reducible exact od_ge
  | ((with_reducible refine' od_plusT ?h1); walk_at "arith")
  | ((with_reducible refine' od_plusL ?h1); walk_at "arith")
  | ((with_reducible refine' od_plusS ?h1); walk_at "arith")
  | with_reducible exact od_isN | with_reducible exact od_notN
  | ((with_reducible refine od_eq ?_ ?_) <;> walk_at "shp")
  | ((with_reducible refine od_ne ?_ ?_) <;> walk_at "shp")
  | ((with_reducible refine od_inL ?_ ?_) <;> walk_at "shp")
  | ((with_reducible refine od_ixL ?_); assumption)
  | ((with_reducible refine od_ixT ?_); assumption))
local macro_rules | `(tactic| walk_at "ea") => `(tactic| first | with_reducible exact ea_nil | ((with_reducible refine' ea_consD ?h1 ?h2); (case h1 => walk_at "ev"); (case h2 => walk_at "ea")))
local macro_rules | `(tactic| walk_at "eo") => `(tactic| first | with_reducible exact eo_none | ((with_reducible refine' eo_at ?h1); (case h1 => walk_at "ev")))
local macro_rules | `(tactic| walk_at "cd") => `(tactic| first
  | with_reducible exact cd_lenL | with_reducible exact cd_lenT | with_reducible exact cd_tupL | with_reducible exact cd_tupT | with_reducible exact cd_lstL | with_reducible exact cd_lstT | with_reducible exact cd_abs | with_reducible exact cd_int)
local macro_rules | `(tactic| walk_at "ev") => `(tactic| first
  | with_reducible exact ev_int | with_reducible exact ev_bl | with_reducible exact ev_str | with_reducible exact ev_non
  | ((with_reducible refine' ev_var ?h1 ?h2); (case h1 => exact rfl); (case h2 => walk_at "rep"))
  | ((with_reducible refine' ev_opD ?h1 ?h2 ?h3); (case h1 => walk_at "ev"); (case h2 => walk_at "ev"); (case h3 => walk_at "od"))
  | ((with_reducible refine' ev_tupD ?h1); (case h1 => walk_at "ea"))
  | ((with_reducible refine' ev_lstD ?h1); (case h1 => walk_at "ea"))
  | ((with_reducible refine' ev_revL ?h1); (case h1 => walk_at "ev"))
  | ((with_reducible refine' ev_slD ?h1 ?h2 ?h3 ?h4); (case h1 => walk_at "ev"); (case h2 => walk_at "eo"); (case h3 => walk_at "eo"); (case h4 => first | with_reducible exact sd_tup | with_reducible exact sd_list))
  | ((with_reducible refine' ev_cbD ?h1 ?h2); (case h1 => walk_at "ea"); (case h2 => walk_at "cd"))
  | ((with_reducible refine' ev_notV ?h1); (case h1 => walk_at "ev"))
  | assumption)
local macro_rules | `(tactic| walk_at "et") => `(tactic| first
  | ((with_reducible refine' et_testD ?h1); (case h1 => walk_at "ev"))
  | ((with_reducible refine' et_BD ?h1); (case h1 => walk_at "ev"))
  | ((with_reducible refine' et_notD ?h1); (case h1 => walk_at "et"))
  | ((with_reducible refine' et_andD ?h1 ?h2); (case h1 => walk_at "et"); (case h2 => intro _; walk_at "et"))
  | ((with_reducible refine' et_orD ?h1 ?h2); (case h1 => walk_at "et"); (case h2 => intro _; walk_at "et"))
  | assumption)
abbrev s_read_whole : Stmt := top 26
abbrev N_read_whole : List Str := ["word", "octets", "reader", "thing", "behind"]
theorem sc_read_whole : FnScope N_read_whole ["word", "octets"] (defScope s_read_whole) := ⟨rfl, rfl, rfl, by decide +kernel, rfl, by decide +kernel, by decide +kernel⟩
def isStr : PyData → Bool
  | .str _ => true
  | _ => false
/-- texts that are no readers' names, as the law has them -/
def ssS : List Str := ["numbr", "", "Number", "number ", "frame"]
def Strange (d : PyData) : Prop := (∃ z ∈ ssS, d = .str z) ∨ isStr d = false
def preW (ds : List PyData) : Prop := ∃ (wd : PyData) (xs : List Int), ds = [wd, .tuple (oD xs)] ∧ Oct xs ∧ xs.length < 2 ^ 20 ∧ (wd = .str "number" ∨ wd = .str "integer" ∨ Strange wd)
def spWhole (K : PySem.W.Frag) (e : Errs) : Sp := spX K e.cl fldOf preW
  (fun ds d => ∀ (wd : PyData) (xs : List Int), ds = [wd, .tuple (oD xs)] → ∃ v, getN xs 0 = some (v, xs.length) ∧ ((wd = .str "number" ∧ d = .int v) ∨ (wd = .str "integer" ∧ d = .int (unI v))))
  (fun ds c x => ∃ (wd : PyData) (xs : List Int), ds = [wd, .tuple (oD xs)] ∧ ((Strange wd ∧ c = "NoName" ∧ x = wd) ∨ ((wd = .str "number" ∨ wd = .str "integer") ∧ c = "InvalidOctets" ∧ ((getN xs 0 = none ∧ x = .int (0 : Nat)) ∨ ∃ v q, getN xs 0 = some (v, q) ∧ q < xs.length ∧ x = .int (q : Nat)))))
def rNotKD (K : PySem.W.Frag) (d : Addr) : R2 := fun x y H Q => ∃ (z : Str) (r : Option Value), x = .str z ∧ y = .ref d ∧ PySem.W.nsIn K d z = some r ∧ Q (.bl (!r.isSome)) H
theorem ev_notKD {K : PySem.W.Frag} {M : Md} {σ : L2.St} {J H : Hp} {te : TE} {z : Str} {r : Option Value} {d : Addr} (h : EvD K M te σ J H (.str z)) (e : PySem.W.nsIn K d z = some r) : EvD K M (tOp (rNotKD K d) te (tC (.ref d))) σ J H (.bool !r.isSome) := fun J1 H1 w t Q q =>
  h J1 H1 w t _ fun v d' J2 H2 w2 t2 ed a => by
    subst ed
    exact ⟨z, r, da_str a, rfl, e, q _ _ J2 H2 w2 t2 rfl (.bl _)⟩
theorem wargs {wd wd' : PyData} {xs ys : List Int} (h : [wd, PyData.tuple (oD xs)] = [wd', .tuple (oD ys)]) : wd = wd' ∧ xs = ys := by
  obtain ⟨e1, e2⟩ := List.cons.inj h
  exact ⟨e1, oD_inj (PyData.tuple.inj (List.cons.inj e2).1)⟩
section
variable {P : Program} {w : World} {K : PySem.W.Frag} {mg : Str → Option Value} {base : Heap} {f RD fN fI : Addr} {fd : FuncData} {er : Errs} {es : Array DictEntry} {n : Nat}
/-- the readers that a word may name -/
def Rdrs (K : PySem.W.Frag) (er : Errs) (fN fI : Addr) (f : Addr) (sp : Sp) : Prop := (f = fN ∧ sp = spGetN K er) ∨ (f = fI ∧ sp = spGetI K er)
theorem ok_read_whole (F : FnP K "read_whole" s_read_whole f fd) (T : Fx mg) (bS : mg "str" = none) (gR : mg "READERS" = some (.ref RD)) (D : KDict K w RD es n) (nN : PySem.W.nsIn K RD "number" = some (some (.ref fN))) (nI : PySem.W.nsIn K RD "integer" = some (some (.ref fI))) (nS : ∀ z ∈ ssS, PySem.W.nsIn K RD z = some none)
    (AV : ∀ f sp, Rdrs K er fN fI f sp → ∃ (fd : FuncData) (ps : List Str), FnOk P w K mg base (L2.CX P w) 4 f fd ps sp ∧ PySem.W.keepIn K (.ref f) = true ∧ Binds K fd ps [])
    (R_InvalidOctets : Er P w K mg base "InvalidOctets" er.io "at") (R_NoName : Er P w K mg base "NoName" er.nn "name") : FnOk P w K mg base (L2.CX P w) 5 f fd ["word", "octets"] (spWhole K er) := by
  have nd := sc_read_whole.nd
  refine F.ok sc_read_whole (fun vs H Q E h => ?_) (fun cdv A outer s H vs Q E hr h => ?_)
  · obtain ⟨J, ds, _, a, ⟨wd, xs, rfl, _⟩, _⟩ := h
    exact das_len a
  refine ⟨_, (pss_cons (ps_if (PW.pt (pw_or (pt_not (pt_val (xB (rIsi _) call_isi T.b_isinstance (pa_cons (pv 0) (pa_cons (pe_bltn (v := .ty "str") rfl bS rfl rfl) pa_nil))))) (pw_or1 (pt_cmpR (r := rNotKD K RD) (op_notIn_kd D) (pv 0) (pe_glob (v := .ref RD) rfl gR rfl) rfl)))) (pss_one (xRaise R_NoName rfl (takes_of rfl rfl rfl rfl) (hr.mono (by decide)) (pv 0)))
 pss_nil)
 (pss_cons (ps_set (i := 2) nd rfl (Or.inl rfl) (pe_ix (ix_kd D) (pe_glob (v := .ref RD) rfl gR rfl) (pv 0) (fun _ _ => rfl)))
 (pss_cons (ps_asg (xCallV (i := 2) (S := Rdrs K er fN fI) AV (hr.mono (by decide)) (passes_call (takes_of rfl rfl rfl rfl) (fun _ _ _ _ h => h)) rfl (Or.inl rfl) (pa_cons (pv 1) (pa_cons pe_int pa_nil))) (pg_tup rfl (pgs_cons (pg_name (i := 3) nd rfl (Or.inl rfl)) (pgs_cons (pg_name (i := 4) nd rfl (Or.inl rfl)) pgs_nil))))
 (pss_cons (ps_if (pt_cmpR op_lt (pv 4) (xB (rLen _) cl_len T.b_len (pa_cons (pv 1) pa_nil)) (nomark _)) (pss_one (xRaise R_InvalidOctets rfl (takes_of rfl rfl rfl rfl) (hr.mono (by decide)) (pv 4)))
 pss_nil)
 (pss_one (ps_ret (pv 3))))))), ?_⟩
  dsimp only [cxOf]
  obtain ⟨J, ds, s0, a, ⟨wd, xs, rfl, ho, hl, hw⟩, q, qe⟩ := h
  obtain ⟨v, b, rfl, av, b1⟩ : ∃ v b, vs = [v, b] ∧ Da K J v wd ∧ Da K J b (.tuple (oD xs)) := by
    cases a with
    | cons a b =>
      obtain ⟨u, rfl, b2⟩ := das_one b
      exact ⟨_, _, rfl, a, b2⟩
  have w0 : Wf Md.pure J H := ⟨s0, trivial, nofun, nofun⟩
  -- a word that names no reader
  have bad : ∀ {J3 H3 σ D}, Strange wd → Wf Md.pure J3 H3 → Tr Md.pure J H J3 H3 → σ[0]? = some (some v) → tRz K er.nn "name" (tVar 0) (fun cls d _ H => E cls d H) D σ H3 := fun {J3 H3 σ D} hs w3 t3 h0 => by
    refine s_raise (K := K) (P := (· = wd)) R_NoName.no w3 (ev_var h0 (t3.jj.da av)) fun v5 d5 J5 H5 dx w5 t5 e5 a5 hx w6 t6 => ?_
    subst e5
    exact qe "NoName" _ dx v5 J5 _ (t3.trans t6) ⟨_, xs, rfl, .inl ⟨hs, rfl, rfl⟩⟩ upd_same a5
  have strange : Strange wd → ∀ {tu tw : TS} {D : Ends} {σ : L2.St}, σ[0]? = some (some v) → (∀ J1 H1, Wf Md.pure J1 H1 → Tr Md.pure J H J1 H1 → tu D σ H1) → tIfS (tOr (tNot (tB (tCB (rIsi K) (tCons (tVar 0) (tCons (tC (.ty "str")) tNil))))) (tTest (tOp (rNotKD K RD) (tVar 0) (tC (.ref RD))))) tu tw D σ H := fun hs {tu tw D σ} h0 q1 => by
    rcases hs with ⟨z, hz, rfl⟩ | hs
    · exact s_ifD (b := true) w0 (et_eq (et_orD (a := false) (b := true) (et_eq (et_notD (et_BD (K := K) (ev_isi (ev_var h0 av) (isi_str _)))) rfl) fun _ => et_testD (K := K) (ev_eq (ev_notKD (ev_var h0 av) (nS z hz)) rfl)) rfl) (fun _ => q1) nofun
    · exact s_ifD (b := true) w0 (et_eq (et_orD (a := true) (b := true) (et_eq (et_notD (et_BD (K := K) (ev_isi (b := false) (ev_var h0 av) (by have e := isi_str (K := K) wd; cases wd <;> first | exact e | cases hs)))) rfl) nofun) rfl) (fun _ => q1) nofun
  -- one that does: g what it makes of the number
  have good : ∀ (z : Str) (fR : Addr) (g : Int → Int) (sp : Sp), wd = .str z → (z = "number" ∨ z = "integer") → PySem.W.nsIn K RD z = some (some (.ref fR)) → Rdrs K er fN fI fR sp → (∀ v, (z = "number" ∧ g v = v) ∨ (z = "integer" ∧ g v = unI v)) →
      sp = spX K er.cl fldOf preG (fun ds d => ∀ (xs : List Int) (a : Nat), ds = [.tuple (oD xs), .int a] → ∃ v q, getN xs a = some (v, q) ∧ d = pairD (g v) q) (fun ds c x => ∃ (xs : List Int) (a : Nat), ds = [.tuple (oD xs), .int a] ∧ getN xs a = none ∧ c = "InvalidOctets" ∧ x = .int a) →
      (tSeq (tIfS (tOr (tNot (tB (tCB (rIsi K) (tCons (tVar 0) (tCons (tC (.ty "str")) tNil))))) (tTest (tOp (rNotKD K RD) (tVar 0) (tC (.ref RD))))) (tRz K er.nn "name" (tVar 0) fun cls d _ H => E cls d H) tNext)
        (tSeq (tAsg (tOp (rIxD K RD) (tC (.ref RD)) (tVar 0)) (gName 2)) (tSeq (tAsg (tCallV 2 (Rdrs K er fN fI) E (tCons (tVar 1) (tCons (tC (.int 0)) tNil))) (gTup K 2 (gCons (gName 3) (gCons (gName 4) gNil))))
          (tSeq (tIfS (tTest (tOp (rI0 fun i j => .bl (decide (i < j))) (tVar 4) (tCB (rLen K) (tCons (tVar 1) tNil)))) (tRz K er.io "at" (tVar 4) fun cls d _ H => E cls d H) tNext) (tRet (tVar 3))))))
        { nx := fun _ H' => Q .non H', rt := Q } [some v, some b, none, none, none] H := by
    intro z fR g sp ez hz hns hS hg esp
    subst ez
    have hw' : PyData.str z = .str "number" ∨ PyData.str z = .str "integer" := hz.imp (congrArg _) (congrArg _)
    refine s_ifD (b := false) w0 (et_eq (et_orD (a := false) (b := false) (et_eq (et_notD (et_BD (K := K) (ev_isi (ev_var rfl av) (isi_str _)))) rfl) fun _ => et_testD (K := K) (ev_eq (ev_notKD (ev_var rfl av) hns) rfl)) rfl) nofun (fun _ J1 H1 w1 t1 => s_next ?_)
    have b2 := t1.jj.da b1
    have ev0 := da_str av
    subst ev0
    refine ⟨.str z, rfl, z, .ref fR, .ref fR, rfl, rfl, hns, rfl, ?_⟩
    refine ⟨fR, sp, rfl, hS, ?_⟩
    refine (ea_consD (ev_var rfl b2) (ea_consD (ev_int (i := 0)) ea_nil)) J1 H1 w1 w1.tr _ fun vs2 ds2 J2 H2 w2 t2 e2 a2 => ?_
    subst e2 esp
    refine ⟨J2, _, w2.jh, a2, ⟨xs, 0, rfl, ho, Nat.zero_le _, hl⟩, fun v3 d3 J3 H3 t3 p3 a3 => ?_, fun c x dx v3 J3 H3 t3 p3 hx a3 => ?_⟩
    · have w3 := t3.wf w2
      have t03 := t1.trans (t2.trans t3)
      obtain ⟨v', p, hgt, rfl⟩ := p3 xs 0 rfl
      obtain ⟨c, zs, rfl, ht, hd⟩ := da_tup a3
      cases hd with
      | cons a4 b4 =>
      obtain ⟨u, rfl, b5⟩ := das_one b4
      have e4 := da_int a4
      have e5 := da_int b5
      subst e4 e5
      refine ⟨c, _, rfl, w3.jh.t ht, rfl, _, _, rfl, _, _, rfl, rfl, ?_⟩
      have b3 := (t2.trans t3).jj.da b2
      refine s_ifD (b := decide ((p : Int) < (xs.length : Nat))) w3 (et_testD (K := K) (ev_opD (ev_var rfl (.int _)) (ev_eq (ev_cbD (ea_consD (ev_var rfl b3) ea_nil) cd_lenT) (by rw [oD_len])) od_lt)) (fun hb J5 H5 w5 t5 => ?_) (fun hb J5 H5 w5 t5 => s_next ?_)
      · have hb := of_decide_eq_true hb
        refine s_raise (K := K) (P := (· = .int (p : Int))) R_InvalidOctets.no w5 (ev_var rfl (.int _)) fun v5 d5 J6 H6 dx w6 t6 e5 a5 hx w7 t7 => ?_
        subst e5
        exact qe "InvalidOctets" _ dx v5 J6 _ ((t03.trans t5).trans t7) ⟨_, xs, rfl, .inr ⟨hw', rfl, .inr ⟨_, p, hgt, by omega, rfl⟩⟩⟩ upd_same a5
      · have hb := of_decide_eq_false hb
        have hpl : p = xs.length := by
          obtain ⟨m, _, _, hq, _⟩ := getN_some ho hgt
          omega
        subst hpl
        refine s_retD (K := K) (d := .int (g v')) w5 (ev_var rfl (.int _)) fun v6 J6 H6 w6 t6 a6 => q v6 _ J6 H6 ((t03.trans t5).trans t6) (fun wd' ys e => ?_) a6
        obtain ⟨e1, e2⟩ := wargs e
        rw [← e1, ← e2]
        refine ⟨v', hgt, ?_⟩
        rcases hg v' with ⟨h1, h2⟩ | ⟨h1, h2⟩
        · exact .inl ⟨by rw [h1], by rw [h2]⟩
        · exact .inr ⟨by rw [h1], by rw [h2]⟩
    · obtain ⟨ys, a', e, hgt, rfl, rfl⟩ := p3
      obtain ⟨e1, e2⟩ := args_eq (a := 0) e
      rw [← e1, ← e2] at hgt
      rw [← e2] at a3
      exact qe "InvalidOctets" _ dx v3 J3 H3 (t1.trans (t2.trans t3)) ⟨_, xs, rfl, .inr ⟨hw', rfl, .inl ⟨hgt, rfl⟩⟩⟩ hx a3
  rcases hw with hw | hw | hw
  · exact good "number" fN (fun v => v) _ hw (.inl rfl) nN (.inl ⟨rfl, rfl⟩) (fun v => .inl ⟨rfl, rfl⟩) rfl
  · exact good "integer" fI unI _ hw (.inr rfl) nI (.inr ⟨rfl, rfl⟩) (fun v => .inr ⟨rfl, rfl⟩) rfl
  · exact strange hw rfl fun J1 H1 w1 t1 => bad hw w1 t1 rfl
end
end K02

namespace K02
open PySem PySem.Spec
open PyProof.Rows L2 DL
local macro_rules | `(tactic| walk_at "rep") => `(tactic| first | assumption | exact Da.int _ | exact Da.bl _ | exact Da.str _ | exact Da.non | exact Sub.da (by assumption) (by assumption) | exact Sub.da (Tr.jj (by assumption)) (by assumption))
local macro_rules | `(tactic| walk_at "arith") => `(tactic| first | assumption | omega | decide | exact cmul_small (by omega) (by omega) | exact cdiv_small (by omega) (by omega))
local macro_rules | `(tactic| walk_at "shp") => `(tactic| first | exact sh_int _ | exact sh_tup _ | exact sh_list _ | assumption)
local macro_rules | `(tactic| walk_at "od") => `(tactic| first
  | with_reducible exact od_plus
  | with_reducible exact od_sub
  | ((with_reducible refine' od_mul ?h1); walk_at "arith")
  | ((with_reducible refine' od_mod ?h1); walk_at "arith")
  | ((with_reducible refine' od_fdiv ?h1); walk_at "arith")
  | ((with_reducible refine' od_pow ?h1); exact ⟨by decide, by decide, by decide⟩)
  | with_reducible exact od_lt | with_reducible exact od_le | with_reducible exact od_gt | with_reducible exact od_ge
  | ((with_reducible refine' od_plusT ?h1); walk_at "arith")
  | ((with_reducible refine' od_plusL ?h1); walk_at "arith")
  | ((with_reducible refine' od_plusS ?h1); walk_at "arith")
  | with_reducible exact od_isN | with_reducible exact od_notN
  | ((with_reducible refine od_eq ?_ ?_) <;> walk_at "shp")
  | ((with_reducible refine od_ne ?_ ?_) <;> walk_at "shp")
  | ((with_reducible refine od_inL ?_ ?_) <;> walk_at "shp")
  | ((with_reducible refine od_ixL ?_); assumption)
  | ((with_reducible refine od_ixT ?_); assumption))
local macro_rules | `(tactic| walk_at "ea") => `(tactic| first | with_reducible exact ea_nil | ((with_reducible refine' ea_consD ?h1 ?h2); (case h1 => walk_at "ev"); (case h2 => walk_at "ea")))
local macro_rules | `(tactic| walk_at "eo") => `(tactic| first | with_reducible exact eo_none | ((with_reducible refine' eo_at ?h1); (case h1 => walk_at "ev")))
local macro_rules | `(tactic| walk_at "cd") => `(tactic| first
  | with_reducible exact cd_lenL | with_reducible exact cd_lenT | with_reducible exact cd_tupL | with_reducible exact cd_tupT | with_reducible exact cd_lstL | with_reducible exact cd_lstT | with_reducible exact cd_abs | with_reducible exact cd_int)
local macro_rules | `(tactic| walk_at "ev") => `(tactic| first
  | with_reducible exact ev_int | with_reducible exact ev_bl | with_reducible exact ev_str | with_reducible exact ev_non
  | ((with_reducible refine' ev_var ?h1 ?h2); (case h1 => exact rfl); (case h2 => walk_at "rep"))
  | ((with_reducible refine' ev_opD ?h1 ?h2 ?h3); (case h1 => walk_at "ev"); (case h2 => walk_at "ev"); (case h3 => walk_at "od"))
  | ((with_reducible refine' ev_tupD ?h1); (case h1 => walk_at "ea"))
  | ((with_reducible refine' ev_lstD ?h1); (case h1 => walk_at "ea"))
  | ((with_reducible refine' ev_revL ?h1); (case h1 => walk_at "ev"))
  | ((with_reducible refine' ev_slD ?h1 ?h2 ?h3 ?h4); (case h1 => walk_at "ev"); (case h2 => walk_at "eo"); (case h3 => walk_at "eo"); (case h4 => first | with_reducible exact sd_tup | with_reducible exact sd_list))
  | ((with_reducible refine' ev_cbD ?h1 ?h2); (case h1 => walk_at "ea"); (case h2 => walk_at "cd"))
  | ((with_reducible refine' ev_notV ?h1); (case h1 => walk_at "ev"))
  | assumption)
local macro_rules | `(tactic| walk_at "et") => `(tactic| first
  | ((with_reducible refine' et_testD ?h1); (case h1 => walk_at "ev"))
  | ((with_reducible refine' et_BD ?h1); (case h1 => walk_at "ev"))
  | ((with_reducible refine' et_notD ?h1); (case h1 => walk_at "et"))
  | ((with_reducible refine' et_andD ?h1 ?h2); (case h1 => walk_at "et"); (case h2 => intro _; walk_at "et"))
  | ((with_reducible refine' et_orD ?h1 ?h2); (case h1 => walk_at "et"); (case h2 => intro _; walk_at "et"))
  | assumption)
abbrev s__law_heap : Stmt := top 28
abbrev N__law_heap : List Str := ["_law_script", "_law_base", "_law_cells", "_law_stir", "_law_cell"]
theorem sc__law_heap : FnScope N__law_heap ["_law_script", "_law_base"] (defScope s__law_heap) := ⟨rfl, rfl, rfl, by decide +kernel, rfl, by decide +kernel, by decide +kernel⟩
abbrev s__law_draw : Stmt := top 29
abbrev N__law_draw : List Str := ["_law_heap_here", "_law_many", "_law_rest"]
theorem sc__law_draw : FnScope N__law_draw ["_law_heap_here", "_law_many"] (defScope s__law_draw) := ⟨rfl, rfl, rfl, by decide +kernel, rfl, by decide +kernel, by decide +kernel⟩
abbrev s__law_pick : Stmt := top 30
abbrev N__law_pick : List Str := ["_law_heap_here", "_law_some"]
theorem sc__law_pick : FnScope N__law_pick ["_law_heap_here", "_law_some"] (defScope s__law_pick) := ⟨rfl, rfl, rfl, by decide +kernel, rfl, by decide +kernel, by decide +kernel⟩
abbrev s__law_number_at : Stmt := top 31
abbrev N__law_number_at : List Str := ["_law_octets_here", "_law_at", "_law_total", "_law_place", "_law_size", "_law_turn", "_law_octet"]
theorem sc__law_number_at : FnScope N__law_number_at ["_law_octets_here", "_law_at"] (defScope s__law_number_at) := ⟨rfl, rfl, rfl, by decide +kernel, rfl, by decide +kernel, by decide +kernel⟩
abbrev s__law_octets : Stmt := top 33
abbrev N__law_octets : List Str := ["_law_heap_here", "_law_many", "_law_turn"]
theorem sc__law_octets : FnScope N__law_octets ["_law_heap_here", "_law_many"] (defScope s__law_octets) := ⟨rfl, rfl, rfl, by decide +kernel, rfl, by decide +kernel, by decide +kernel⟩
abbrev s__law_figures : Stmt := top 34
abbrev N__law_figures : List Str := ["_law_number", "_law_found"]
theorem sc__law_figures : FnScope N__law_figures ["_law_number"] (defScope s__law_figures) := ⟨rfl, rfl, rfl, by decide +kernel, rfl, by decide +kernel, by decide +kernel⟩
/-- what the law's own reader tells -/
def ansN (xs : List Int) (a : Nat) : PyData := match getN xs a with
  | some (v, q) => pairD v q
  | none => .tuple [.none, .int a]
def spNat (K : PySem.W.Frag) : Sp := spF K preG (fun ds d => ∀ (xs : List Int) (a : Nat), ds = [.tuple (oD xs), .int a] → d = ansN xs a)
def isOcts (m : Int) (d : PyData) : Prop := ∃ xs, d = .tuple (oD xs) ∧ Oct xs ∧ (xs.length : Int) ≤ m
def spOcts (K : PySem.W.Frag) : Sp := spH K (fun ds => ∃ m : Int, ds = [.int m] ∧ 0 ≤ m ∧ m < 1000) (fun ds d => ∀ m : Int, ds = [.int m] → isOcts m d)
def spFigL (K : PySem.W.Frag) : Sp := spF K (fun ds => ∃ n : Nat, ds = [.int n] ∧ n < 128 ^ 9) (fun ds d => ∀ n : Nat, ds = [.int n] → d = .tuple (oD (figsN n)))
section
variable {P : Program} {w : World} {K : PySem.W.Frag} {mg : Str → Option Value} {base : Heap} {f : Addr} {fd : FuncData}
theorem ok__law_heap (F : FnP K "_law_heap" s__law_heap f fd) (T : Fx mg) : FnOk P w K mg base CX0 1 f fd ["_law_script", "_law_base"] (spHeap K) := by
  have nd := sc__law_heap.nd
  refine F.ok sc__law_heap (fun vs H Q E h => ?_) (fun cdv A outer s H vs Q E hr h => ?_)
  · obtain ⟨a, ns, b, rfl, _⟩ := h
    rfl
  refine ⟨_, PSs.nox (pss_cons (ps_setLc (i := 2) (own := [("_law_cell", 4)]) (g := gName 4) rfl nd rfl rfl (sw_true rfl rfl rfl (by decide +kernel)) (pi_list (pe_slice sl_list (pv 0) po_none (po_some pe_int))) (blkOk_by (own := [("_law_cell", 4)]) (N := N__law_heap) (sc := defScope s__law_heap) (by decide +kernel)) (fun _ _ _ _ _ => (pg_name (i := 4) nd rfl (Or.inl rfl))) (fun _ _ _ _ _ => pts_nil) (fun _ _ _ _ _ => (xB (rAbs) cl_abs T.b_abs (pa_cons (xT (rInt1) cl_int T.b_int (pa_cons (pv 4) pa_nil)) pa_nil))))
 (pss_cons (ps_set (i := 3) nd rfl (Or.inl rfl) (pe_op op_plus pe_int (pe_op op_mulW pe_int (pv 1))))
 (pss_cons (ps_for PassesOwn.never rfl (pi_list (pv 2)) (pg_name (i := 4) nd rfl (Or.inl rfl))
 (pss_one (ps_set (i := 3) nd rfl (Or.inl rfl) (pe_op op_mod (xT (rInt1) cl_int T.b_int (pa_cons (pe_op op_plus (pe_op op_plus (pe_op op_mulW (pv 3) pe_int) (pe_op op_mod (pv 4) pe_int)) pe_int) pa_nil)) pe_int))))
 (pss_one (ps_ret (pe_lst (pa_cons (pe_revL (pe_lc (own := [("_law_cell", 4)]) (g := gName 4) rfl nd (pi_list (pv 2)) (blkOk_by (own := [("_law_cell", 4)]) (N := N__law_heap) (sc := defScope s__law_heap) (by decide +kernel)) (fun _ _ _ _ _ => (pg_name (i := 4) nd rfl (Or.inl rfl))) (fun _ _ _ _ _ => pts_one (pt_cmpR op_ge (pv 4) (pe_op op_pow pe_int pe_int) (nomark _))) (fun _ _ _ _ _ => (pv 4)))) (pa_cons (pv 3) pa_nil)))))))), ?_⟩
  obtain ⟨a, ns, b, rfl, hS, b0, b1, q⟩ := h
  exact rd_heap hS (by omega) (by omega) ⟨b0, b1⟩ (by omega) (by omega) q
theorem ok__law_draw (F : FnP K "_law_draw" s__law_draw f fd) (T : Fx mg) : FnOk P w K mg base CX0 1 f fd ["_law_heap_here", "_law_many"] (spDr K) := by
  have nd := sc__law_draw.nd
  refine F.ok sc__law_draw (fun vs H Q E h => ?_) (fun cdv A outer s H vs Q E hr h => ?_)
  · obtain ⟨ds, ⟨n, rfl, _⟩, e⟩ := spH_len h
    exact e
  have hu := hr.units
  refine ⟨_, PSs.nox (pss_cons (ps_while PassesOwn.never (PW.pt (pw_and (pt_cmpR (op_neD hu) (xIx (pv 0) pe_int) (pe_lst pa_nil) (nomark _)) (pw_and1 (pt_cmpR (op_eqD hu) (xIx (xIx (pv 0) pe_int) (pe_un un_neg pe_int)) pe_int (nomark _)))))
 (pss_one (ps_expr (pe_bm0 PySem.F.plainAttrs_list PySem.F.slot_list_pop PySem.F.type_list_pop mt_pop (xIx (pv 0) pe_int)))))
 (pss_cons (ps_if (pt_cmpR (op_neD hu) (xIx (pv 0) pe_int) (pe_lst pa_nil) (nomark _)) (pss_cons (ps_set (i := 2) nd rfl (Or.inl rfl) (xT (rInt1) cl_int T.b_int (pa_cons (pe_bm0 PySem.F.plainAttrs_list PySem.F.slot_list_pop PySem.F.type_list_pop mt_pop (xIx (pv 0) pe_int)) pa_nil)))
 (pss_cons (ps_expr (pe_bm PySem.F.plainAttrs_list PySem.F.slot_list_append PySem.F.type_list_append mt_append (xIx (pv 0) pe_int) (pa_cons (pe_op op_fdivW (pv 2) (pv 1)) pa_nil)))
 (pss_one (ps_ret (pe_op op_mod (pv 2) (pv 1))))))
 pss_nil)
 (pss_cons (ps_asg (pe_op op_mod (xT (rInt1) cl_int T.b_int (pa_cons (pe_op op_plus (pe_op op_mulW (xIx (pv 0) pe_int) pe_int) pe_int) pa_nil)) pe_int) (pg_sub (pv 0) pe_int set_list))
 (pss_one (ps_ret (pe_op op_mod (xT (rInt1) cl_int T.b_int (pa_cons (pe_op op_fdivW (xIx (pv 0) pe_int) pe_int) pa_nil)) (pv 1))))))), ?_⟩
  have hs : start N__law_draw vs = vs.map some ++ [none] := by
    obtain ⟨ds, ⟨n, rfl, _⟩, e⟩ := spH_len h
    match vs, e with
    | [_, _], _ => rfl
  rw [hs]
  exact rd_drawH (by omega) h
theorem ok__law_pick (F : FnP K "_law_pick" s__law_pick f fd) (T : Fx mg) (C__law_draw : Ca P w K mg base CX0 1 "_law_draw" ["_law_heap_here", "_law_many"] (spDr K)) : FnOk P w K mg base CX0 2 f fd ["_law_heap_here", "_law_some"] (spPick K) := by
  have nd := sc__law_pick.nd
  refine F.ok sc__law_pick (fun vs H Q E h => ?_) (fun cdv A outer s H vs Q E hr h => ?_)
  · obtain ⟨ds, ⟨n, rfl, _⟩, e⟩ := spH_len h
    exact e
  refine ⟨_, PSs.nox (pss_one (ps_ret (xIx (pv 1) (xCall C__law_draw (hr.mono (by decide)) pass0 (pa_cons (pv 0) (pa_cons (xB (rLen _) cl_len T.b_len (pa_cons (pv 1) pa_nil)) pa_nil)))))), ?_⟩
  have hs : start N__law_pick vs = vs.map some := by
    obtain ⟨ds, ⟨n, rfl, _⟩, e⟩ := spH_len h
    match vs, e with
    | [_, _], _ => rfl
  rw [hs]
  exact rd_pick h
theorem ok__law_octets (F : FnP K "_law_octets" s__law_octets f fd) (T : Fx mg) (C__law_draw : Ca P w K mg base CX0 1 "_law_draw" ["_law_heap_here", "_law_many"] (spDr K)) (C__law_pick : Ca P w K mg base CX0 2 "_law_pick" ["_law_heap_here", "_law_some"] (spPick K)) : FnOk P w K mg base CX0 3 f fd ["_law_heap_here", "_law_many"] (spOcts K) := by
  have nd := sc__law_octets.nd
  refine F.ok sc__law_octets (fun vs H Q E h => ?_) (fun cdv A outer s H vs Q E hr h => ?_)
  · obtain ⟨ds, ⟨n, rfl, _⟩, e⟩ := spH_len h
    exact e
  refine ⟨_, PSs.nox (pss_one (ps_ret (xT (rTupOf _) cl_tup T.b_tuple (pa_cons (pe_lc (own := [("_law_turn", 2)]) (g := gName 2) rfl nd (pi_range1 rfl T.b_range (pa_cons (pv 1) pa_nil)) (blkOk_by (own := [("_law_turn", 2)]) (N := N__law_octets) (sc := defScope s__law_octets) (by decide +kernel)) (fun _ _ _ _ _ => (pg_name (i := 2) nd rfl (Or.inl rfl))) (fun _ _ _ _ _ => pts_nil) (fun _ _ _ _ _ => (xCall C__law_pick (hr.mono (by decide)) pass0 (pa_cons (pv 0) (pa_cons (pe_lst (pa_cons pe_int (pa_cons pe_int (pa_cons pe_int (pa_cons pe_int (pa_cons pe_int (pa_cons pe_int (pa_cons (xCall C__law_draw (hr.mono (by decide)) pass0 (pa_cons (pv 0) (pa_cons pe_int pa_nil))) pa_nil)))))))) pa_nil))))) pa_nil)))), ?_⟩
  dsimp only [cxOf]
  obtain ⟨M, h, g, J, us, ds, rfl, hd, w0, a, ⟨m, rfl, m0, m1⟩, q⟩ := h
  obtain ⟨v, rfl, av⟩ := das_one a
  rw [da_int av]
  obtain ⟨n, rfl⟩ := Int.eq_ofNat_of_zero_le m0
  refine s_ret (K := K) (P := isOcts n) w0 ?_ fun v3 d3 J3 H3 w3 t3 p3 a3 => q v3 d3 J3 H3 w3 t3 (fun m' e => by cases e; exact p3) a3
  refine ev_cb (Pa := fun ds => ∃ b, ds = [.list (oD b)] ∧ Oct b ∧ (b.length : Int) ≤ n) ?_ ?_
  · refine (ea_cons (Px := fun d => ∃ b, d = .list (oD b) ∧ Oct b ∧ (b.length : Int) ≤ n) (ev_lc (fun ds k acc => ∃ b, acc = oD b ∧ Oct b ∧ b.length ≤ k) (ew_rangeD (n := n) (ev_var rfl (.int _)) (by omega)) ?_ (fun _ _ => ⟨[], rfl, nofun, Nat.le_refl _⟩) (fun x => rfl) ?_ ?_) ea_nil).mono ?_
    · rintro ds rfl
      rw [upTo_len]
      exact Nat.lt_of_lt_of_le (show n < 1000 by omega) (by decide)
    · rintro ds k d acc x J3 H3 rfl hk ⟨b, rfl, hb, hl⟩ w3 t3 ax
      refine ⟨(· = true), et_yes, nofun, fun _ => ?_⟩
      refine (ev_pick (P := fun d => ∃ i, d = .int i ∧ 0 ≤ i ∧ i < 256) hd rfl (Pa := fun d => ∃ xs, d = .list xs ∧ xs ≠ [] ∧ xs.length < 2 ^ 62 ∧ ∀ x ∈ xs, ∃ i, x = .int i ∧ 0 ≤ i ∧ i < 256) ?_ fun _ h => h).mono ?_
      · refine (ev_lst (Pa := fun xs => xs.length = 7 ∧ ∀ x ∈ xs, ∃ i, x = .int i ∧ 0 ≤ i ∧ i < 256) ?_ ?_).mono ?_
        · refine (ea_cons ev_int (ea_cons ev_int (ea_cons ev_int (ea_cons ev_int (ea_cons ev_int (ea_cons ev_int (ea_cons (ev_draw (n := 256) hd rfl ev_int (by omega)) ea_nil))))))).mono ?_
          rintro ds ⟨_, _, rfl, rfl, _, _, rfl, rfl, _, _, rfl, rfl, _, _, rfl, rfl, _, _, rfl, rfl, _, _, rfl, rfl, _, _, rfl, ⟨i, rfl, h1⟩, rfl⟩
          refine ⟨rfl, fun x hx => ?_⟩
          simp only [List.mem_cons, List.not_mem_nil, or_false] at hx
          rcases hx with rfl | rfl | rfl | rfl | rfl | rfl | rfl
          · exact ⟨_, rfl, by omega⟩
          · exact ⟨_, rfl, by omega⟩
          · exact ⟨_, rfl, by omega⟩
          · exact ⟨_, rfl, by omega⟩
          · exact ⟨_, rfl, by omega⟩
          · exact ⟨_, rfl, by omega⟩
          · exact ⟨_, rfl, h1⟩
        · rintro ds ⟨h, _⟩
          rw [h]; decide
        · rintro d ⟨ds, rfl, h5, h⟩
          exact ⟨ds, rfl, (by intro e; rw [e] at h5; cases h5), (by rw [h5]; decide), h⟩
      · rintro d ⟨i, rfl, h1⟩
        refine ⟨b ++ [i], ?_, ?_, ?_⟩
        · rw [← oD_app]; rfl
        · intro x hx
          rcases List.mem_append.mp hx with hx | hx
          · exact hb x hx
          · rw [List.mem_singleton.mp hx]; exact h1
        · rw [List.length_append]; simp only [List.length_cons, List.length_nil]; omega
    · rintro ds acc rfl ⟨b, rfl, hb, hl⟩
      rw [upTo_len] at hl
      exact ⟨b, rfl, hb, by omega⟩
    · rintro ds ⟨d, r, rfl, ⟨b, rfl, hb, hl⟩, rfl⟩
      exact ⟨b, rfl, hb, hl⟩
  · rintro ds ⟨b, rfl, hb, hl⟩ vs J H w a Q q
    exact cd_tupL vs J H w a Q fun v d J2 H2 w2 t2 e a => q v d J2 H2 w2 t2 ⟨b, e, hb, hl⟩ a
theorem ok__law_figures (F : FnP K "_law_figures" s__law_figures f fd) (T : Fx mg) : FnOk P w K mg base CX0 1 f fd ["_law_number"] (spFigL K) := by
  have nd := sc__law_figures.nd
  refine F.ok sc__law_figures (fun vs H Q E h => ?_) (fun cdv A outer s H vs Q E hr h => ?_)
  · obtain ⟨J, ds, _, a, ⟨n, rfl, _⟩, _⟩ := h
    exact das_len a
  refine ⟨_, PSs.nox (pss_cons (ps_set (i := 1) nd rfl (Or.inl rfl) (pe_lst pa_nil))
 (pss_cons (ps_while PassesOwn.never (pt_cmpR op_gt (pv 0) pe_int (nomark _))
 (pss_cons (ps_expr (pe_bm PySem.F.plainAttrs_list PySem.F.slot_list_append PySem.F.type_list_append mt_append (pv 1) (pa_cons (pe_op op_plus pe_int (pe_op op_mod (xT (rInt1) cl_int T.b_int (pa_cons (pv 0) pa_nil)) pe_int)) pa_nil)))
 (pss_one (ps_set (i := 0) nd rfl (Or.inl rfl) (pe_op op_fdivW (pv 0) pe_int)))))
 (pss_one (ps_ret (xT (rTupOf _) cl_tup T.b_tuple (pa_cons (pe_op op_plus (pv 1) (pe_lst (pa_cons (pv 0) pa_nil))) pa_nil)))))), ?_⟩
  dsimp only [cxOf]
  obtain ⟨J, ds, s0, a, ⟨n, rfl, hn⟩, q⟩ := h
  obtain ⟨v, rfl, av⟩ := das_one a
  rw [da_int av]
  have w0 : Wf Md.pure J H := ⟨s0, trivial, nofun, nofun⟩
  refine s_cell w0 fun p hp w1 t1 => ?_
  have jp : J p = none := s0.back hp
  have nf : ¬ (Md.pure).fp p := w0.nofp hp
  dsimp only
  refine s_while (fun c σ' J' H' => ∃ (k m : Nat) (acc : List Int), σ' = [some (.int (m : Int)), some (.ref p)] ∧ c = m ∧ J' p = none ∧ H' p = some (.lst (acc.map V.int)) ∧ acc.length + k = 8 ∧ acc ++ figsF k m = figsN n ∧ m < 128 ^ (k + 1)) w0 t1
    ⟨n, 8, n, [], rfl, rfl, jp, upd_same, rfl, rfl, hn⟩ ?_
  rintro m σ' J' H' w' t' s' ⟨k, _, acc, rfl, rfl, j1, h1, hk, he, hm⟩
  refine ⟨(· = decide ((127 : Int) < m)), et_testD (K := K) (ev_opD (ev_var rfl (.int _)) ev_int od_gt), fun hc J1 H1 w1' t1' => ?_, fun hc J1 H1 w1' t1' => ?_⟩
  · have h8 : 128 ≤ m := by have := of_decide_eq_true hc.symm; omega
    cases k with
    | zero => omega
    | succ k =>
      have ef : figsF (k + 1) m = (((m % 128 : Nat) : Int) + 128) :: figsF k (m / 128) := by
        conv => lhs; unfold figsF
        rw [if_neg (by omega)]
      have hp1 := t1'.keep p _ nf h1
      have jp1 := t1'.cellj h1 j1
      dsimp only
      refine s_app (K := K) (P := (· = .int (((m % 128 : Nat) : Int) + 128))) w0 (t'.trans t1') hp jp1 rfl hp1 ?_ ?_ ?_
      · rw [List.length_map]; exact Nat.lt_of_le_of_lt (show _ ≤ 8 by omega) (by decide)
      · exact ev_eq (ev_opD ev_int (ev_opD (ev_cbD (ea_consD (ev_var rfl (.int _)) ea_nil) cd_int) ev_int (od_mod (by decide))) od_plus) (by congr 1; omega)
      · rintro v3 d3 J3 H3 w3 t3 s3 j3 h3 _ _ rfl a3
        rw [da_int a3] at h3
        dsimp only
        refine s_asgI (K := K) (i := ((m / 128 : Nat) : Int)) w3 (ev_eq (ev_opD (ev_var rfl (.int _)) ev_int (od_fdiv (cdiv_small (by decide) (by decide)))) (by congr 1)) fun J4 H4 w4 t4 => ?_
        refine ⟨J4, w4, t3.trans t4, (s'.trans t1'.jj).trans (s3.trans t4.jj), _, by omega, k, m / 128, acc ++ [((m % 128 : Nat) : Int) + 128], rfl, rfl, t4.cellj h3 j3, ?_, ?_, ?_, ?_⟩
        · have := t4.keep p _ nf h3
          rw [this, List.map_append]
          rfl
        · rw [List.length_append, List.length_singleton]; omega
        · rw [List.append_assoc]
          rw [ef] at he
          exact he
        · rw [Nat.pow_succ] at hm; omega
  · have h8 : m < 128 := by have := of_decide_eq_false hc.symm; omega
    have ef : figsF k m = [(m : Int)] := by
      cases k with
      | zero => rfl
      | succ k => unfold figsF; rw [if_pos h8]
    have hp1 := t1'.keep p _ nf h1
    have jp1 := t1'.cellj h1 j1
    have t4 := (t'.trans t1').ice hp jp1 hp1
    have w4 := t4.wf w0
    have al : Da K (upd J1 p (.lst (acc.map V.int))) (.ref p) (.list (oD acc)) := .lst upd_same (das_intsV _)
    dsimp only
    refine s_retD (K := K) (d := .tuple (oD (figsN n))) w4 (ev_eq (ev_cbD (ea_consD (ev_opD (dy := .list (oD [(m : Int)])) (ev_var rfl al) (ev_lstD (ea_consD (ev_var rfl (.int _)) ea_nil) (by show 1 ≤ 100000; decide)) (od_plusL ?_)) ea_nil) cd_tupL) ?_) fun v5 J5 H5 w5 t5 a5 => q v5 _ J5 H5 (t4.trans t5) (fun n' e => ?_) a5
    · rw [oD_len, oD_len]; exact Nat.le_trans (show _ ≤ 100 by simp only [List.length_cons, List.length_nil]; omega) (by decide)
    · rw [oD_app, ← he, ef]
    · have e1 := PyData.int.inj (List.cons.inj e).1
      have : n = n' := by omega
      rw [this]
end
end K02

namespace K02
open PySem PySem.Spec
open PyProof.Rows L2 DL
local macro_rules | `(tactic| walk_at "rep") => `(tactic| first | assumption | exact Da.int _ | exact Da.bl _ | exact Da.str _ | exact Da.non | exact Sub.da (by assumption) (by assumption) | exact Sub.da (Tr.jj (by assumption)) (by assumption))
local macro_rules | `(tactic| walk_at "arith") => `(tactic| first | assumption | omega | decide | exact cmul_small (by omega) (by omega) | exact cdiv_small (by omega) (by omega))
local macro_rules | `(tactic| walk_at "shp") => `(tactic| first | exact sh_int _ | exact sh_tup _ | exact sh_list _ | assumption)
local macro_rules | `(tactic| walk_at "od") => `(tactic| first
  | with_reducible exact od_plus
  | with_reducible exact od_sub
  | ((with_reducible refine' od_mul ?h1); walk_at "arith")
  | ((with_reducible refine' od_mod ?h1); walk_at "arith")
  | ((with_reducible refine' od_fdiv ?h1); walk_at "arith")
  | ((with_reducible refine' od_pow ?h1); exact ⟨by decide, by decide, by decide⟩)
  | with_reducible exact od_lt | with_reducible exact od_le | with_reducible exact od_gt | with_reducible exact od_ge
  | ((with_reducible refine' od_plusT ?h1); walk_at "arith")
  | ((with_reducible refine' od_plusL ?h1); walk_at "arith")
  | ((with_reducible refine' od_plusS ?h1); walk_at "arith")
  | with_reducible exact od_isN | with_reducible exact od_notN
  | ((with_reducible refine od_eq ?_ ?_) <;> walk_at "shp")
  | ((with_reducible refine od_ne ?_ ?_) <;> walk_at "shp")
  | ((with_reducible refine od_inL ?_ ?_) <;> walk_at "shp")
  | ((with_reducible refine od_ixL ?_); assumption)
  | ((with_reducible refine od_ixT ?_); assumption))
local macro_rules | `(tactic| walk_at "ea") => `(tactic| first | with_reducible exact ea_nil | ((with_reducible refine' ea_consD ?h1 ?h2); (case h1 => walk_at "ev"); (case h2 => walk_at "ea")))
local macro_rules | `(tactic| walk_at "eo") => `(tactic| first | with_reducible exact eo_none | ((with_reducible refine' eo_at ?h1); (case h1 => walk_at "ev")))
local macro_rules | `(tactic| walk_at "cd") => `(tactic| first
  | with_reducible exact cd_lenL | with_reducible exact cd_lenT | with_reducible exact cd_tupL | with_reducible exact cd_tupT | with_reducible exact cd_lstL | with_reducible exact cd_lstT | with_reducible exact cd_abs | with_reducible exact cd_int)
local macro_rules | `(tactic| walk_at "ev") => `(tactic| first
  | with_reducible exact ev_int | with_reducible exact ev_bl | with_reducible exact ev_str | with_reducible exact ev_non
  | ((with_reducible refine' ev_var ?h1 ?h2); (case h1 => exact rfl); (case h2 => walk_at "rep"))
  | ((with_reducible refine' ev_opD ?h1 ?h2 ?h3); (case h1 => walk_at "ev"); (case h2 => walk_at "ev"); (case h3 => walk_at "od"))
  | ((with_reducible refine' ev_tupD ?h1); (case h1 => walk_at "ea"))
  | ((with_reducible refine' ev_lstD ?h1); (case h1 => walk_at "ea"))
  | ((with_reducible refine' ev_revL ?h1); (case h1 => walk_at "ev"))
  | ((with_reducible refine' ev_slD ?h1 ?h2 ?h3 ?h4); (case h1 => walk_at "ev"); (case h2 => walk_at "eo"); (case h3 => walk_at "eo"); (case h4 => first | with_reducible exact sd_tup | with_reducible exact sd_list))
  | ((with_reducible refine' ev_cbD ?h1 ?h2); (case h1 => walk_at "ea"); (case h2 => walk_at "cd"))
  | ((with_reducible refine' ev_notV ?h1); (case h1 => walk_at "ev"))
  | assumption)
local macro_rules | `(tactic| walk_at "et") => `(tactic| first
  | ((with_reducible refine' et_testD ?h1); (case h1 => walk_at "ev"))
  | ((with_reducible refine' et_BD ?h1); (case h1 => walk_at "ev"))
  | ((with_reducible refine' et_notD ?h1); (case h1 => walk_at "et"))
  | ((with_reducible refine' et_andD ?h1 ?h2); (case h1 => walk_at "et"); (case h2 => intro _; walk_at "et"))
  | ((with_reducible refine' et_orD ?h1 ?h2); (case h1 => walk_at "et"); (case h2 => intro _; walk_at "et"))
  | assumption)
theorem s_par3 {K : PySem.W.Frag} {M : Md} {σ : L2.St} {J H : Hp} {D : Ends} {i j l : Nat} {ta : TA} {d e g : PyData} (w : Wf M J H) (h : EvA K M ta σ J H (· = [d, e, g])) (q : ∀ v u t J1 H1, Wf M J1 H1 → Tr M J H J1 H1 → Da K J1 v d → Da K J1 u e → Da K J1 t g → D.nx (((σ.set i (some v)).set j (some u)).set l (some t)) H1) : tPar3 i j l ta D σ H :=
  h J H w w.tr _ fun vs ds J1 H1 w1 t1 ed a => by
    subst ed
    cases a with
    | cons a b =>
      cases b with
      | cons b c =>
        obtain ⟨u, rfl, c2⟩ := das_one c
        exact ⟨_, _, _, rfl, q _ _ _ J1 H1 w1 t1 a b c2⟩
section
variable {P : Program} {w : World} {K : PySem.W.Frag} {mg : Str → Option Value} {base : Heap} {f : Addr} {fd : FuncData}
theorem ok__law_number_at (F : FnP K "_law_number_at" s__law_number_at f fd) (T : Fx mg) : FnOk P w K mg base CX0 1 f fd ["_law_octets_here", "_law_at"] (spNat K) := by
  have nd := sc__law_number_at.nd
  refine F.ok sc__law_number_at (fun vs H Q E h => ?_) (fun cdv A outer s H vs Q E hr h => ?_)
  · obtain ⟨J, ds, _, a, ⟨xs, n, rfl, _⟩, _⟩ := h
    exact das_len a
  have hu : A.units + 3 + 64 < cLine := hr.units
  refine ⟨_, PSs.nox (pss_cons (ps_par3 (i := 2) (j := 3) (l := 4) (by rfl) nd rfl rfl rfl (by decide) (by decide) (by decide) rfl rfl rfl (pa_cons pe_int (pa_cons (pv 1) (pa_cons pe_int pa_nil))) (by rfl))
 (pss_cons (ps_for PassesOwn.never rfl (pi_range1 rfl T.b_range (pa_cons pe_int pa_nil)) (pg_name (i := 5) nd rfl (Or.inl rfl))
 (pss_cons (ps_if (pt_cmpR op_ge (pv 3) (xB (rLen _) cl_len T.b_len (pa_cons (pv 0) pa_nil)) (nomark _)) (pss_one (ps_ret (pe_tup (pa_cons pe_non (pa_cons (pv 1) pa_nil)))))
 pss_nil)
 (pss_cons (ps_set (i := 6) nd rfl (Or.inl rfl) (xIx (pv 0) (pv 3)))
 (pss_cons (ps_par (i := 2) (j := 3) (by rfl) nd rfl rfl (by decide) rfl rfl (pa_cons (pe_op op_plus (pv 2) (pe_op op_mulW (pv 4) (pe_ifExp (pt_cmpR op_gt (pv 6) pe_int (nomark _)) (pe_op op_sub (pv 6) pe_int) (pv 6)))) (pa_cons (pe_op op_plus (pv 3) pe_int) pa_nil)) (by rfl))
 (pss_cons (ps_if (pt_cmpR op_lt (pv 6) pe_int (nomark _)) (pss_one (ps_ret (pe_ifExp (PW.pt (pw_and (pt_cmpR (op_eqD hu) (pv 6) pe_int (nomark _)) (pw_and1 (pt_cmpR op_gt (pv 5) pe_int (nomark _))))) (pe_tup (pa_cons pe_non (pa_cons (pv 1) pa_nil))) (pe_tup (pa_cons (pv 2) (pa_cons (pv 3) pa_nil))))))
 pss_nil)
 (pss_one (ps_set (i := 4) nd rfl (Or.inl rfl) (pe_op op_mulW pe_int (pv 4)))))))))
 (pss_one (ps_ret (pe_tup (pa_cons pe_non (pa_cons (pv 1) pa_nil))))))), ?_⟩
  dsimp only [cxOf]
  obtain ⟨J, ds, s0, a, ⟨xs, n, rfl, ho, hn, hl⟩, q⟩ := h
  obtain ⟨v, b, rfl, av, b1⟩ : ∃ v b, vs = [v, b] ∧ Da K J v (.tuple (oD xs)) ∧ Da K J b (.int (n : Int)) := by
    cases a with
    | cons a b =>
      obtain ⟨u, rfl, b2⟩ := das_one b
      exact ⟨_, _, rfl, a, b2⟩
  rw [da_int b1]
  have w0 : Wf Md.pure J H := ⟨s0, trivial, nofun, nofun⟩
  have hl20 : xs.length < 1048576 := hl
  have none_ : getN xs n = none → ∀ {J5 : Hp} {H5 : Hp} {σ : L2.St} {D : Ends} {te : TE}, D.rt = Q → Wf Md.pure J5 H5 → Tr Md.pure J H J5 H5 → EvD K Md.pure te σ J5 H5 (.tuple [.none, .int (n : Int)]) → tRet te D σ H5 := fun hg {J5 H5 σ D te} hD w5 t5 he =>
    s_retD (K := K) w5 he fun v6 J6 H6 w6 t6 a6 => by
      rw [hD]
      refine q v6 _ J6 H6 (t5.trans t6) (fun ys b e => ?_) a6
      obtain ⟨e1, e2⟩ := args_eq e
      rw [← e1, ← e2]
      unfold ansN
      rw [hg]
  have some_ : ∀ {v' : Int} {p : Nat}, getN xs n = some (v', p) → ∀ {J5 : Hp} {H5 : Hp} {σ : L2.St} {D : Ends} {te : TE}, D.rt = Q → Wf Md.pure J5 H5 → Tr Md.pure J H J5 H5 → EvD K Md.pure te σ J5 H5 (pairD v' p) → tRet te D σ H5 := fun {v' p} hg {J5 H5 σ D te} hD w5 t5 he =>
    s_retD (K := K) w5 he fun v6 J6 H6 w6 t6 a6 => by
      rw [hD]
      refine q v6 _ J6 H6 (t5.trans t6) (fun ys b e => ?_) a6
      obtain ⟨e1, e2⟩ := args_eq e
      rw [← e1, ← e2]
      unfold ansN
      rw [hg]
  refine s_par3 (K := K) w0 (ea_consD ev_int (ea_consD (ev_var rfl (.int (n : Int))) (ea_consD ev_int ea_nil))) fun x1 x2 x3 J1 H1 w1 t1 y1 y2 y3 => ?_
  rw [da_int y1, da_int y2, da_int y3]
  dsimp only
  refine s_forD (K := K) (upTo 9) (fun i σ' J' H' => ∃ (tot wt : Int) (o5 o6 : Option V), σ' = [some v, some (.int (n : Int)), some (.int tot), some (.int ((n + i : Nat) : Int)), some (.int wt), o5, o6] ∧ wt = ((128 ^ i : Nat) : Int) ∧ 0 ≤ tot ∧ tot < wt ∧ i ≤ 9 ∧ getN xs n = goN xs n (9 - i) (n + i) tot wt) w0 t1
    (ew_rangeD (n := 9) ev_int (by decide)) (fun _ _ _ _ => ⟨0, 1, none, none, rfl, rfl, by decide, by decide, by decide, rfl⟩) (fun i σ' J' H' T xs h _ => h) ?_ ?_
  · rintro i d x σ' J3 J' H' hdi w' t' s1 s2 ⟨tot, wt, o5, o6, rfl, ew, tot0, tot1, hi9, hgo⟩ ax
    obtain ⟨rfl, hi⟩ := upTo_at hdi
    rw [da_int ax]
    have av3 := t'.jj.da av
    have e9 : 9 - i = (8 - i) + 1 := by omega
    dsimp only
    refine s_ifD (b := decide (((xs.length : Nat) : Int) ≤ ((n + i : Nat) : Int))) w' (et_testD (K := K) (ev_opD (ev_var rfl (.int _)) (ev_eq (ev_cbD (ea_consD (ev_var rfl av3) ea_nil) cd_lenT) (by rw [oD_len])) od_ge)) (fun hb J4 H4 w4 t4 => ?_) (fun hb J4 H4 w4 t4 => s_next ?_)
    · have hb := of_decide_eq_true hb
      refine none_ ?_ rfl w4 (t'.trans t4) (ev_tupD (ea_consD ev_non (ea_consD (ev_var rfl (.int _)) ea_nil)))
      rw [hgo, e9]
      unfold goN
      rw [List.getElem?_eq_none (by omega)]
    have hin : n + i < xs.length := by have := of_decide_eq_false hb; omega
    have wt8 : 0 < wt ∧ wt ≤ 72057594037927936 := by
      rw [ew]
      have h1 : 0 < 128 ^ i := Nat.pow_pos (by decide)
      have h2 : 128 ^ i ≤ 128 ^ 8 := Nat.pow_le_pow_right (by decide) (by omega)
      have h3 : (128 : Nat) ^ 8 = 72057594037927936 := by decide
      omega
    obtain ⟨o, hx⟩ : ∃ o, xs[n + i]? = some o := ⟨_, List.getElem?_eq_getElem hin⟩
    have oo := ho o (List.mem_of_getElem? hx)
    have step : getN xs n = if o = 0 ∧ n < n + i then none else if o < 128 then some (tot + o % 128 * wt, n + i + 1) else goN xs n (8 - i) (n + i + 1) (tot + o % 128 * wt) (wt * 128) := by
      rw [hgo, e9]
      conv => lhs; unfold goN
      rw [hx]
    have o128 : 0 ≤ o % 128 ∧ o % 128 < 128 := by omega
    have mb : 0 ≤ o % 128 * wt := Int.mul_nonneg o128.1 (by omega)
    have mb2 : o % 128 * wt ≤ 127 * wt := Int.mul_le_mul_of_nonneg_right (by omega) (by omega)
    have av4 := t4.jj.da av3
    dsimp only
    refine s_asgI (K := K) (i := o) w4 (ev_opD (ev_var rfl av4) (ev_var rfl (.int _)) (od_ixT (atI_nat (oD_get hx)))) fun J5 H5 w5 t5 => ?_
    dsimp only
    refine s_par (K := K) (Pa := (· = [.int (tot + o % 128 * wt), .int ((n + i + 1 : Nat) : Int)])) w5 (ea_consD (ev_eq (ev_opD (dy := .int (wt * (o % 128))) (ev_var rfl (.int _)) (ev_opD (ev_var rfl (.int _)) ?_ (od_mul (cmul_small (by omega) (by omega)))) od_plus) (by rw [Int.mul_comm])) (ea_consD (ev_eq (ev_opD (ev_var rfl (.int _)) ev_int od_plus) (by congr 1)) ea_nil)) fun ds e => ⟨_, _, e, fun v6 v7 J6 H6 w6 t6 a6 a7 => ?_⟩
    · refine ev_if (Pb := (· = decide ((127 : Int) < o))) (et_testD (K := K) (ev_opD (ev_var rfl (.int _)) ev_int od_gt)) (fun hz => ?_) (fun hz => ?_)
      · have hz := of_decide_eq_true hz.symm
        exact ev_eq (ev_opD (ev_var rfl (.int _)) ev_int od_sub) (by congr 1; omega)
      · have hz := of_decide_eq_false hz.symm
        exact ev_eq (ev_var rfl (.int o)) (by congr 1; omega)
    rw [da_int a6, da_int a7]
    have t46 := t4.trans (t5.trans t6)
    dsimp only
    refine s_ifD (b := decide (o < 128)) w6 (et_testD (K := K) (ev_opD (ev_var rfl (.int _)) ev_int od_lt)) (fun hb J8 H8 w8 t8 => ?_) (fun hb J8 H8 w8 t8 => s_next ?_)
    · have hlt := of_decide_eq_true hb
      by_cases nc : o = 0 ∧ n < n + i
      · rw [if_pos nc] at step
        refine none_ step rfl w8 (t'.trans (t46.trans t8)) (ev_if (Pb := (· = true)) ?_ (fun _ => ev_tupD (ea_consD ev_non (ea_consD (ev_var rfl (.int _)) ea_nil))) nofun)
        exact et_eq (et_andD (a := true) (b := true) (et_testD (K := K) (ev_eq (ev_opD (ev_var rfl (.int _)) ev_int (od_eq (sh_int _) (sh_int _))) (by rw [eqv_int, decide_eq_true nc.1]))) fun _ => et_testD (K := K) (ev_eq (ev_opD (ev_var rfl (.int _)) ev_int od_gt) (by rw [decide_eq_true (by omega)]))) rfl
      · rw [if_neg nc, if_pos hlt] at step
        refine some_ step rfl w8 (t'.trans (t46.trans t8)) (ev_if (Pb := (· = false)) ?_ nofun (fun _ => ev_tupD (ea_consD (ev_var rfl (.int _)) (ea_consD (ev_var rfl (.int _)) ea_nil))))
        refine et_eq (et_andD (a := decide (o = 0)) (b := false) (et_testD (K := K) (ev_eq (ev_opD (ev_var rfl (.int _)) ev_int (od_eq (sh_int _) (sh_int _))) (by rw [eqv_int]))) fun hz => et_testD (K := K) (ev_eq (ev_opD (ev_var rfl (.int _)) ev_int od_gt) ?_)) (Bool.and_false _)
        have hz := of_decide_eq_true hz
        rw [decide_eq_false (by omega)]
    · have hlt := of_decide_eq_false hb
      have nc : ¬ (o = 0 ∧ n < n + i) := fun ⟨z, _⟩ => by omega
      rw [if_neg nc, if_neg hlt] at step
      dsimp only
      refine s_asgI (K := K) (i := wt * 128) w8 (ev_eq (ev_opD ev_int (ev_var rfl (.int _)) (od_mul (cmul_small (by decide) (by omega)))) (by rw [Int.mul_comm])) fun J9 H9 w9 t9 => ?_
      have t49 := t46.trans (t8.trans t9)
      refine ⟨J9, w9, t'.trans t49, s2.trans t49.jj, _, _, _, _, rfl, ?_, by omega, by omega, by omega, ?_⟩
      · rw [ew, Nat.pow_succ]; omega
      · have e8 : 9 - (i + 1) = 8 - i := by omega
        rw [e8]
        exact step
  · rintro σ' J' H' w' t' s1 ⟨tot, wt, o5, o6, rfl, ew, _, _, hi9, hgo⟩
    rw [upTo_len] at hgo
    dsimp only
    exact none_ hgo rfl w' t' (ev_tupD (ea_consD ev_non (ea_consD (ev_var rfl (.int _)) ea_nil)))
end
end K02

namespace K02
open PySem PySem.Spec
open PyProof.Rows L2 DL
local macro_rules | `(tactic| walk_at "rep") => `(tactic| first | assumption | exact Da.int _ | exact Da.bl _ | exact Da.str _ | exact Da.non | exact Sub.da (by assumption) (by assumption) | exact Sub.da (Tr.jj (by assumption)) (by assumption))
local macro_rules | `(tactic| walk_at "arith") => `(tactic| first | assumption | omega | decide | exact cmul_small (by omega) (by omega) | exact cdiv_small (by omega) (by omega))
local macro_rules | `(tactic| walk_at "shp") => `(tactic| first | exact sh_int _ | exact sh_tup _ | exact sh_list _ | assumption)
local macro_rules | `(tactic| walk_at "od") => `(tactic| first
  | with_reducible exact od_plus
  | with_reducible exact od_sub
  | ((with_reducible refine' od_mul ?h1); walk_at "arith")
  | ((with_reducible refine' od_mod ?h1); walk_at "arith")
  | ((with_reducible refine' od_fdiv ?h1); walk_at "arith")
  | ((with_reducible refine' od_pow ?h1); exact ⟨by decide, by decide, by decide⟩)
  | with_reducible exact od_lt | with_reducible exact od_le | with_reducible exact od_gt | with_reducible exact od_ge
  | ((with_reducible refine' od_plusT ?h1); walk_at "arith")
  | ((with_reducible refine' od_plusL ?h1); walk_at "arith")
  | ((with_reducible refine' od_plusS ?h1); walk_at "arith")
  | with_reducible exact od_isN | with_reducible exact od_notN
  | ((with_reducible refine od_eq ?_ ?_) <;> walk_at "shp")
  | ((with_reducible refine od_ne ?_ ?_) <;> walk_at "shp")
  | ((with_reducible refine od_inL ?_ ?_) <;> walk_at "shp")
  | ((with_reducible refine od_ixL ?_); assumption)
  | ((with_reducible refine od_ixT ?_); assumption))
local macro_rules | `(tactic| walk_at "ea") => `(tactic| first | with_reducible exact ea_nil | ((with_reducible refine' ea_consD ?h1 ?h2); (case h1 => walk_at "ev"); (case h2 => walk_at "ea")))
local macro_rules | `(tactic| walk_at "eo") => `(tactic| first | with_reducible exact eo_none | ((with_reducible refine' eo_at ?h1); (case h1 => walk_at "ev")))
local macro_rules | `(tactic| walk_at "cd") => `(tactic| first
  | with_reducible exact cd_lenL | with_reducible exact cd_lenT | with_reducible exact cd_tupL | with_reducible exact cd_tupT | with_reducible exact cd_lstL | with_reducible exact cd_lstT | with_reducible exact cd_abs | with_reducible exact cd_int)
local macro_rules | `(tactic| walk_at "ev") => `(tactic| first
  | with_reducible exact ev_int | with_reducible exact ev_bl | with_reducible exact ev_str | with_reducible exact ev_non
  | ((with_reducible refine' ev_var ?h1 ?h2); (case h1 => exact rfl); (case h2 => walk_at "rep"))
  | ((with_reducible refine' ev_opD ?h1 ?h2 ?h3); (case h1 => walk_at "ev"); (case h2 => walk_at "ev"); (case h3 => walk_at "od"))
  | ((with_reducible refine' ev_tupD ?h1); (case h1 => walk_at "ea"))
  | ((with_reducible refine' ev_lstD ?h1); (case h1 => walk_at "ea"))
  | ((with_reducible refine' ev_revL ?h1); (case h1 => walk_at "ev"))
  | ((with_reducible refine' ev_slD ?h1 ?h2 ?h3 ?h4); (case h1 => walk_at "ev"); (case h2 => walk_at "eo"); (case h3 => walk_at "eo"); (case h4 => first | with_reducible exact sd_tup | with_reducible exact sd_list))
  | ((with_reducible refine' ev_cbD ?h1 ?h2); (case h1 => walk_at "ea"); (case h2 => walk_at "cd"))
  | ((with_reducible refine' ev_notV ?h1); (case h1 => walk_at "ev"))
  | assumption)
local macro_rules | `(tactic| walk_at "et") => `(tactic| first
  | ((with_reducible refine' et_testD ?h1); (case h1 => walk_at "ev"))
  | ((with_reducible refine' et_BD ?h1); (case h1 => walk_at "ev"))
  | ((with_reducible refine' et_notD ?h1); (case h1 => walk_at "et"))
  | ((with_reducible refine' et_andD ?h1 ?h2); (case h1 => walk_at "et"); (case h2 => intro _; walk_at "et"))
  | ((with_reducible refine' et_orD ?h1 ?h2); (case h1 => walk_at "et"); (case h2 => intro _; walk_at "et"))
  | assumption)
/-- what a def makes of a lambda that it calls in a try: rows: the class caught, the text told, the field told -/
def THear (rows : List (Addr × Str × Str)) : (XK → Hp → VK → Prop) → Hp → VK → Prop := fun tl H Q => ∃ Ech : XK,
  (∀ cls d H', Ech cls d H' → ∃ C s f, (C, s, f) ∈ rows ∧ cls = .ref C ∧ ∃ dx v, d = some dx ∧ H' dx = some (.xd [(f, v)]) ∧ ∀ l, H' l = none → Q (.ref l) (upd H' l (.lst [.str s, v, .bl true]))) ∧
  tl Ech H fun v H' => ([.str "told", v] : List V).length ≤ sizeLine ∧ ∀ l, H' l = none → Q (.ref l) (upd H' l (.lst [.str "told", v]))
section
variable {K : PySem.W.Frag} {M : Md} {T : List (Addr × Str)} {σ : L2.St} {J H H1 : Hp} {P : PyData → Prop}
theorem ev_hear {rows : List (Addr × Str × Str)} {t : XK → TE} {Pe : Addr → Str → PyData → Prop} {Pv : PyData → Prop} (hb : HasTb M T)
    (h : ∀ J1 H1, Wf M J1 H1 → Tr M J H J1 H1 → ∀ (E : XK) (Q : VK), (∀ v d J2 H2, Wf M J2 H2 → Tr M J1 H1 J2 H2 → Pv d → Da K J2 v d → Q v H2) →
      (∀ C s f dx v x J2 H2, Wf M J2 H2 → Tr M J1 H1 J2 H2 → (C, s, f) ∈ rows → Pe C s x → H2 dx = some (.xd [(f, v)]) → Da K J2 v x → E (.ref C) (some dx) H2) → t E σ H1 Q)
    (hv : ∀ d, Pv d → P (.list [.str "told", d])) (hP : ∀ C s x, Pe C s x → P (.list [.str s, x, .bool true])) : EvP K M (LamX.tLam T (THear rows) t) σ J H P := fun J1 H1 w tr Q q => by
  refine ⟨hb.tabs _ w.inv, fun H2 e t2 => ?_⟩
  have tx := tr_ext hb w e t2
  have w2 := tx.wf w
  let Ech : XK := fun cls d H' => ∃ C s f, (C, s, f) ∈ rows ∧ cls = .ref C ∧ ∃ dx v, d = some dx ∧ H' dx = some (.xd [(f, v)]) ∧ ∀ l, H' l = none → Q (.ref l) (upd H' l (.lst [.str s, v, .bl true]))
  refine ⟨Ech, fun _ _ _ z => z, h J1 H2 w2 (tr.trans tx) Ech _ (fun v d J3 H3 w3 t3 pv a => ⟨by show 2 ≤ sizeLine; decide, fun l hl => ?_⟩) fun C s f dx v x J3 H3 w3 t3 hm hp hx a => ⟨C, s, f, hm, rfl, dx, v, rfl, hx, fun l hl => ?_⟩⟩
  · have t4 := w3.new (o := .lst [.str "told", v]) hl
    exact q _ _ _ _ (t4.wf w3) (tx.trans (t3.trans t4)) (hv d pv) (.lst upd_same (.cons (.str _) (.cons (t4.jj.da a) .nil)))
  · have t4 := w3.new (o := .lst [.str s, v, .bl true]) hl
    exact q _ _ _ _ (t4.wf w3) (tx.trans (t3.trans t4)) (hP C s x hp) (.lst upd_same (.cons (.str _) (.cons (t4.jj.da a) (.cons (.bl _) .nil))))
end
abbrev s__law_heard : Stmt := top 32
abbrev N__law_heard : List Str := ["_law_work", "wrong"]
theorem sc__law_heard : FnScope N__law_heard ["_law_work"] (defScope s__law_heard) := ⟨rfl, rfl, rfl, by decide +kernel, rfl, by decide +kernel, by decide +kernel⟩
abbrev rowsH (er : Errs) : List (Addr × Str × Str) := [(er.io, "bytes", "at"), (er.nn, "name", "name")]
/-- what is known of the two classes beside StoreError and KeyError -/
structure Kin (K : PySem.W.Frag) (er : Errs) (SE : Addr) : Prop where
  ii : PySem.W.exmOne K (.ref er.io) (.ref er.io) = some true
  ni : PySem.W.exmOne K (.ref er.nn) (.ref er.io) = some false
  nn : PySem.W.exmOne K (.ref er.nn) (.ref er.nn) = some true
  ci : L2.ExcC K er.io
  cn : L2.ExcC K er.nn
  si : PySem.W.kitOne K (.ref er.io) (.ref SE) = some true
  kn : PySem.W.kitOne K (.ref er.nn) (.type "KeyError") = some true
  sn : PySem.W.kitOne K (.ref er.nn) (.ref SE) = some false
def tBytes (K : PySem.W.Frag) (SE C : Addr) (a : Addr) (cls : Value) (d : Option Addr) : TS :=
  tRet (tLst (tCons (tC (.str "bytes")) (tCons (tXf a cls d C "at" (tVar 1)) (tCons (tCB (rIsA K cls d a) (tCons (tVar 1) (tCons (tC (.ref SE)) tNil))) tNil))))
def tName (K : PySem.W.Frag) (SE C : Addr) (a : Addr) (cls : Value) (d : Option Addr) : TS :=
  tRet (tLst (tCons (tC (.str "name")) (tCons (tXf a cls d C "name" (tVar 1)) (tCons (tAndV (tCB (rIsA K cls d a) (tCons (tVar 1) (tCons (tC (.ty "KeyError")) tNil))) (tNotV (tCB (rIsA K cls d a) (tCons (tVar 1) (tCons (tC (.ref SE)) tNil))))) tNil))))
theorem heard_gives {X : Cx} {q : Str} {g SE : Addr} {cdg : Value} {er : Errs} (RI : Er X.prog X.w X.K X.mg X.base "InvalidOctets" er.io "at") (RN : Er X.prog X.w X.K X.mg X.base "NoName" er.nn "name") (hS : X.mg "StoreError" = some (.ref SE)) (bI : X.mg "isinstance" = none) (bK : X.mg "KeyError" = none) (k : Kin X.K er SE) :
    LamX.GivesTo X N__law_heard "_law_heard" (defScope s__law_heard) g cdg (defBody s__law_heard) "_law_work" q (THear (rowsH er)) := by
  intro f c' s H Q tl act hc h
  have nd := sc__law_heard.nd
  refine ⟨_, pss_one (ps_try_named (X := (cxOf C8.CX0 X.prog X.w X.K X.mg X.base N__law_heard "_law_heard" (defScope s__law_heard) g cdg X.A X.stack s H C8.E0).nox) (Wo := fun _ _ _ _ => False)
    (l := [(.ref er.io, 1, tBytes X.K SE er.io), (.ref er.nn, 1, tName X.K SE er.nn)])
    (tb := fun W D σ H => ∃ Ech : XK, (∀ cls d σ' H', σ'.length = 2 → Ech cls d H' → W cls d σ' H') ∧ tRet (tLst (tCons (tC (.str "told")) (tCons (fun σZ HZ Q => σZ[0]? = some (some (.ref f)) ∧ HZ c' = some (LamX.CodeO c' q) ∧ tl Ech HZ Q) tNil))) D σ H)
    rfl rfl nd takes0 (fun W pn xe tk _ => ?_) (HdsN.cons ⟨rfl, by decide, .inl RI.at_⟩ rfl rfl (fun a oe cls d pn hz hf => ?_) (HdsN.cons ⟨rfl, by decide, .inl RN.at_⟩ rfl rfl (fun a oe cls d pn hz hf => ?_) .nil))), ?_⟩
  · refine ⟨fun pins s' σ H' D I h' => ?_⟩
    obtain ⟨Ech, hW, h1⟩ := h'
    have tk2 : Takes ((cxOf C8.CX0 X.prog X.w X.K X.mg X.base N__law_heard "_law_heard" (defScope s__law_heard) g cdg X.A X.stack s H C8.E0).tr pn xe) (fun cls d σ H => σ.length = 2 → W cls d σ H) :=
      fun u s' ⟨a, B, sI, pins, σ, H, cls, d, e, I, nb, up, sky, na, os, ag, w⟩ => tk u s' ⟨a, B, sI, pins, σ, H, cls, d, e, I, nb, up, sky, na, os, ag, w I.len⟩
    have hp := fun p1 p2 => act (fun cls d σ H => σ.length = 2 → W cls d σ H) pn xe Ech p1 p2 tk2 (fun cls d σ' H' e l => hW cls d σ' H' l e)
    exact (pss_one (ps_ret (pe_lst (pa_cons pe_str (pa_cons (hp _ _) pa_nil))))).run pins s' σ H' D I h1
  · exact pss_one (ps_ret (pe_lst (pa_cons pe_str (pa_cons (pe_xf RI.xf RI.no hz hf (pv 1)) (pa_cons (xB (rIsA _ _ _ _) (call_isA hz hf) bI (pa_cons (pv 1) (pa_cons (pe_glob (v := .ref SE) rfl hS rfl) pa_nil))) pa_nil)))))
  · exact pss_one (ps_ret (pe_lst (pa_cons pe_str (pa_cons (pe_xf RN.xf RN.no hz hf (pv 1)) (pa_cons (pe_and (xB (rIsA _ _ _ _) (call_isA hz hf) bI (pa_cons (pv 1) (pa_cons (pe_bltn (v := .ty "KeyError") rfl bK rfl rfl) pa_nil))) (pe_one (pe_not (xB (rIsA _ _ _ _) (call_isA hz hf) bI (pa_cons (pv 1) (pa_cons (pe_glob (v := .ref SE) rfl hS rfl) pa_nil)))))) pa_nil)))))
  · obtain ⟨Ech, hE, ht⟩ := h
    refine ⟨Ech, fun cls d σ' H' l2 e => ?_, rfl, hc, ht⟩
    have hl : ∀ a : Addr, (σ'.set 1 (some (.ref a)))[1]? = some (some (.ref a)) := fun a => by
      rw [List.getElem?_set_self (by omega)]
    obtain ⟨C, z, fl, hm, rfl, dx, v, rfl, hx, q⟩ := hE cls d H' e
    have n3 : 3 ≤ sizeLine := by decide
    have isR : ∀ {C : Addr} {u : Value}, (∀ u', RelV (V.ref C) u' → u' = .ref C) := fun {C u} u' r => r
    simp only [List.mem_cons, List.not_mem_nil, or_false, Prod.mk.injEq] at hm
    rcases hm with ⟨rfl, rfl, rfl⟩ | ⟨rfl, rfl, rfl⟩
    · refine ⟨true, k.ii, fun _ a na => ?_, nofun⟩
      exact ⟨.ref a, hl a, rfl, rfl, dx, _, v, rfl, hx, by simp [List.lookup], .ref a, hl a, _, dx, _, .ref SE, .ref SE, true, rfl, rfl, hx, k.ci, rfl, fun u r => r, k.si, n3, q⟩
    · refine ⟨false, k.ni, nofun, fun _ => ⟨true, k.nn, fun _ a na => ?_, nofun⟩⟩
      refine ⟨.ref a, hl a, rfl, rfl, dx, _, v, rfl, hx, by simp [List.lookup], .ref a, hl a, _, dx, _, .ty "KeyError", .type "KeyError", true, rfl, rfl, hx, k.cn, rfl, fun u r => r, k.kn, ?_⟩
      exact ⟨true, rfl, .ref a, hl a, _, dx, _, .ref SE, .ref SE, false, rfl, rfl, hx, k.cn, rfl, fun u r => r, k.sn, false, rfl, n3, q⟩
end K02

namespace K02
open PySem PySem.Spec
open PyProof.Rows L2 DL
local macro_rules | `(tactic| walk_at "rep") => `(tactic| first | assumption | exact Da.int _ | exact Da.bl _ | exact Da.str _ | exact Da.non | exact Sub.da (by assumption) (by assumption) | exact Sub.da (Tr.jj (by assumption)) (by assumption))
local macro_rules | `(tactic| walk_at "arith") => `(tactic| first | assumption | omega | decide | exact cmul_small (by omega) (by omega) | exact cdiv_small (by omega) (by omega))
local macro_rules | `(tactic| walk_at "shp") => `(tactic| first | exact sh_int _ | exact sh_tup _ | exact sh_list _ | assumption)
local macro_rules | `(tactic| walk_at "od") => `(tactic| first
  | with_reducible exact od_plus
  | with_reducible exact od_sub
  | ((with_reducible refine' od_mul ?h1); walk_at "arith")
  | ((with_reducible refine' od_mod ?h1); walk_at "arith")
  | ((with_reducible refine' od_fdiv ?h1); walk_at "arith")
  | ((with_reducible refine' od_pow ?h1); exact ⟨by decide, by decide, by decide⟩)
  | with_reducible exact od_lt | with_reducible exact od_le | with_reducible exact od_gt | with_reducible exact od_ge
  | ((with_reducible refine' od_plusT ?h1); walk_at "arith")
  | ((with_reducible refine' od_plusL ?h1); walk_at "arith")
  | ((with_reducible refine' od_plusS ?h1); walk_at "arith")
  | with_reducible exact od_isN | with_reducible exact od_notN
  | ((with_reducible refine od_eq ?_ ?_) <;> walk_at "shp")
  | ((with_reducible refine od_ne ?_ ?_) <;> walk_at "shp")
  | ((with_reducible refine od_inL ?_ ?_) <;> walk_at "shp")
  | ((with_reducible refine od_ixL ?_); assumption)
  | ((with_reducible refine od_ixT ?_); assumption))
local macro_rules | `(tactic| walk_at "ea") => `(tactic| first | with_reducible exact ea_nil | ((with_reducible refine' ea_consD ?h1 ?h2); (case h1 => walk_at "ev"); (case h2 => walk_at "ea")))
local macro_rules | `(tactic| walk_at "eo") => `(tactic| first | with_reducible exact eo_none | ((with_reducible refine' eo_at ?h1); (case h1 => walk_at "ev")))
local macro_rules | `(tactic| walk_at "cd") => `(tactic| first
  | with_reducible exact cd_lenL | with_reducible exact cd_lenT | with_reducible exact cd_tupL | with_reducible exact cd_tupT | with_reducible exact cd_lstL | with_reducible exact cd_lstT | with_reducible exact cd_abs | with_reducible exact cd_int)
local macro_rules | `(tactic| walk_at "ev") => `(tactic| first
  | with_reducible exact ev_int | with_reducible exact ev_bl | with_reducible exact ev_str | with_reducible exact ev_non
  | ((with_reducible refine' ev_var ?h1 ?h2); (case h1 => exact rfl); (case h2 => walk_at "rep"))
  | ((with_reducible refine' ev_opD ?h1 ?h2 ?h3); (case h1 => walk_at "ev"); (case h2 => walk_at "ev"); (case h3 => walk_at "od"))
  | ((with_reducible refine' ev_tupD ?h1); (case h1 => walk_at "ea"))
  | ((with_reducible refine' ev_lstD ?h1); (case h1 => walk_at "ea"))
  | ((with_reducible refine' ev_revL ?h1); (case h1 => walk_at "ev"))
  | ((with_reducible refine' ev_slD ?h1 ?h2 ?h3 ?h4); (case h1 => walk_at "ev"); (case h2 => walk_at "eo"); (case h3 => walk_at "eo"); (case h4 => first | with_reducible exact sd_tup | with_reducible exact sd_list))
  | ((with_reducible refine' ev_cbD ?h1 ?h2); (case h1 => walk_at "ea"); (case h2 => walk_at "cd"))
  | ((with_reducible refine' ev_notV ?h1); (case h1 => walk_at "ev"))
  | assumption)
local macro_rules | `(tactic| walk_at "et") => `(tactic| first
  | ((with_reducible refine' et_testD ?h1); (case h1 => walk_at "ev"))
  | ((with_reducible refine' et_BD ?h1); (case h1 => walk_at "ev"))
  | ((with_reducible refine' et_notD ?h1); (case h1 => walk_at "et"))
  | ((with_reducible refine' et_andD ?h1 ?h2); (case h1 => walk_at "et"); (case h2 => intro _; walk_at "et"))
  | ((with_reducible refine' et_orD ?h1 ?h2); (case h1 => walk_at "et"); (case h2 => intro _; walk_at "et"))
  | assumption)
abbrev s__law_there_and_back : Stmt := top 35
abbrev N__law_there_and_back : List Str := ["_law_heap_here", "_law_size", "_law_turn", "_law_great", "_law_number", "_law_ahead", "_law_behind", "_law_due", "_law_integer", "_law_told"]
theorem sc__law_there_and_back : FnScope N__law_there_and_back ["_law_heap_here"] (defScope s__law_there_and_back) := ⟨rfl, rfl, rfl, by decide +kernel, rfl, by decide +kernel, by decide +kernel⟩
theorem sh_big {i : Int} (h : i.natAbs < 10 ^ 19) : (PyData.shown (.int i)).length ≤ 20 := by
  have e := int_text_length_le10 (k := 19) (by decide) h
  show (Str.ofString (toString i)).length ≤ 20
  rw [PySem.ofString_length]
  exact e
theorem sh_fit {d : PyData} (h : d.leavesShort 20 = true) (hw : d.weight ≤ 4000) : d.shown.length ≤ sizeLine :=
  Nat.le_trans (PyData.shown_le 20 (by decide) d h) (Nat.le_trans (show _ ≤ 88020 by omega) (by decide))
theorem sh_i {i : Int} (h : i.natAbs < 10 ^ 19) : (PyData.int i).showable = true ∧ (PyData.int i).shown.length ≤ sizeLine ∧ (PyData.int i).depth ≤ 60 := by
  have l : i.natAbs.log2 ≤ 63 := log2_le (k := 63) (Nat.lt_trans h (by decide))
  exact ⟨decide_eq_true (by omega), Nat.le_trans (sh_big h) (by decide), Nat.zero_le _⟩
theorem sh_t : ∀ {b : List Int}, Oct b → PyData.showableAll (oD b) = true ∧ PyData.leavesShortAll 20 (oD b) = true ∧ PyData.weightAll (oD b) ≤ 9 * b.length
  | [], _ => ⟨rfl, rfl, Nat.le_refl _⟩
  | x :: b, h => by
    obtain ⟨h1, h2, h3⟩ := sh_t (b := b) fun y hy => h y (List.mem_cons_of_mem _ hy)
    have hx := h x (List.mem_cons_self ..)
    have l : x.natAbs.log2 ≤ 7 := log2_le (by omega)
    refine ⟨?_, ?_, ?_⟩
    · show (decide (x.natAbs.log2 < 1920) && PyData.showableAll (oD b)) = true
      rw [h1, decide_eq_true (by omega)]; rfl
    · show (decide ((PyData.shown (.int x)).length ≤ 20) && PyData.leavesShortAll 20 (oD b)) = true
      rw [h2, decide_eq_true (sh_big (by omega))]; rfl
    · show (if x == 0 then 0 else x.natAbs.log2 + 1) + 1 + PyData.weightAll (oD b) ≤ 9 * (b.length + 1)
      have : (if x == 0 then 0 else x.natAbs.log2 + 1) ≤ 8 := by split <;> omega
      omega
theorem sh_tup_ {xs : List Int} (ho : Oct xs) (hl : xs.length ≤ 400) : (PyData.tuple (oD xs)).showable = true ∧ (PyData.tuple (oD xs)).shown.length ≤ sizeLine ∧ (PyData.tuple (oD xs)).depth ≤ 60 := by
  obtain ⟨g1, g2, g3⟩ := sh_t ho
  refine ⟨g1, sh_fit g2 ?_, ?_⟩
  · show PyData.weightAll (oD xs) ≤ 4000
    omega
  · show PyData.depthAll (oD xs) + 1 ≤ 60
    rw [ints_depth]; decide
theorem sh_p {v : Int} {e : Nat} (hv : v.natAbs < 10 ^ 19) (he : e < 1000) : (pairD v e).showable = true ∧ (pairD v e).shown.length ≤ sizeLine ∧ (pairD v e).depth ≤ 60 := by
  have l : (e : Int).natAbs.log2 ≤ 9 := log2_le (by omega)
  have l2 : v.natAbs.log2 ≤ 63 := log2_le (k := 63) (Nat.lt_trans hv (by decide))
  refine ⟨?_, sh_fit ?_ ?_, ?_⟩
  · show (decide (v.natAbs.log2 < 1920) && (decide ((e : Int).natAbs.log2 < 1920) && true)) = true
    rw [decide_eq_true (by omega), decide_eq_true (by omega)]; rfl
  · show (decide ((PyData.shown (.int v)).length ≤ 20) && (decide ((PyData.shown (.int e)).length ≤ 20) && true)) = true
    rw [decide_eq_true (sh_big hv), decide_eq_true (sh_big (by omega))]; rfl
  · show (if v == 0 then 0 else v.natAbs.log2 + 1) + 1 + ((if (e : Int) == 0 then 0 else (e : Int).natAbs.log2 + 1) + 1 + 0) ≤ 4000
    have h5 : (if (e : Int) == 0 then 0 else (e : Int).natAbs.log2 + 1) ≤ 10 := by split <;> omega
    have h6 : (if v == 0 then 0 else v.natAbs.log2 + 1) ≤ 64 := by split <;> omega
    omega
  · show max 0 (max 0 0) + 1 ≤ 60
    decide
section
variable {K : PySem.W.Frag} {M : Md} {er : Errs} {σ : L2.St} {J H : Hp} {ta tb : TE} {E : XK} {xs : List Int} {a n q : Nat} {v : Int} {h g : Addr}
theorem ev_putK (h : EvD K M ta σ J H (.int n)) (hn : n < 128 ^ 9) : EvD K M (fun σ H Q => (tCons ta tNil) σ H fun zs H2 => zs.length = 1 ∧ spPutN K zs H2 Q E) σ J H (.tuple (oD (figsN n))) :=
  (ev_callK0 (ea_consD h ea_nil) rfl (spF_D ⟨n, rfl, hn⟩)).mono fun d e => e n rfl
theorem ev_putI (h : EvD K M ta σ J H (.int v)) (hv : zz v < 128 ^ 9) : EvD K M (tCall (spPutI K) [] E (tCons ta tNil)) σ J H (.tuple (oD (figsN (zz v)))) :=
  (ev_callD (ea_consD h ea_nil) (spF_D ⟨v, rfl, hv⟩)).mono fun d e => e v rfl
theorem ev_putIK (h : EvD K M ta σ J H (.int v)) (hv : zz v < 128 ^ 9) : EvD K M (fun σ H Q => (tCons ta tNil) σ H fun zs H2 => zs.length = 1 ∧ spPutI K zs H2 Q E) σ J H (.tuple (oD (figsN (zz v)))) :=
  (ev_callK0 (ea_consD h ea_nil) rfl (spF_D ⟨v, rfl, hv⟩)).mono fun d e => e v rfl
theorem ev_figL (h : EvD K M ta σ J H (.int n)) (hn : n < 128 ^ 9) : EvD K M (tCall (spFigL K) [] E (tCons ta tNil)) σ J H (.tuple (oD (figsN n))) :=
  (ev_callD (ea_consD h ea_nil) (spF_D ⟨n, rfl, hn⟩)).mono fun d e => e n rfl
theorem ev_getN (h : EvD K M ta σ J H (.tuple (oD xs))) (h2 : EvD K M tb σ J H (.int a)) (ho : Oct xs) (ha : a ≤ xs.length) (hl : xs.length < 2 ^ 20) (hg : getN xs a = some (v, q)) : EvD K M (tCall (spGetN K er) [] E (tCons ta (tCons tb tNil))) σ J H (pairD v q) :=
  (ev_callD (ea_consD h (ea_consD h2 ea_nil)) (spX_D ⟨xs, a, rfl, ho, ha, hl⟩ fun c x ⟨ys, a', e, g, _⟩ => by
    obtain ⟨e1, e2⟩ := args_eq e
    rw [← e1, ← e2, hg] at g
    cases g)).mono fun d e => by
      obtain ⟨v', q', g, e⟩ := e xs a rfl
      rw [hg] at g
      cases g
      exact e
theorem ev_getIR (h : EvD K M ta σ J H (.int a)) (h2 : EvD K M tb σ J H (.tuple (oD xs))) (ho : Oct xs) (ha : a ≤ xs.length) (hl : xs.length < 2 ^ 20) (hg : getN xs a = some (v, q)) : EvD K M (fun σ H Q => (tCons ta (tCons tb tNil)) σ H fun zs H2 => zs.length = 2 ∧ spGetI K er zs.reverse H2 Q E) σ J H (pairD (unI v) q) :=
  (ev_callKr (ea_consD h (ea_consD h2 ea_nil)) rfl (spX_D ⟨xs, a, rfl, ho, ha, hl⟩ fun c x ⟨ys, a', e, g, _⟩ => by
    obtain ⟨e1, e2⟩ := args_eq e
    rw [← e1, ← e2, hg] at g
    cases g)).mono fun d e => by
      obtain ⟨v', q', g, e⟩ := e xs a rfl
      rw [hg] at g
      cases g
      exact e
/-- read_whole of octets that are just one number: wd its word, g what is made of it -/
theorem whole_D {wd : PyData} {g : Int → Int} (hw : (wd = .str "number" ∧ ∀ v, g v = v) ∨ (wd = .str "integer" ∧ ∀ v, g v = unI v)) (ho : Oct xs) (hl : xs.length < 2 ^ 20) (hg : getN xs 0 = some (v, xs.length)) : SpD K M (spWhole K er) [wd, .tuple (oD xs)] (· = .int (g v)) E := by
  have no : ∀ (c : Str) (x : PyData), ¬ ∃ (wd' : PyData) (ys : List Int), [wd, PyData.tuple (oD xs)] = [wd', .tuple (oD ys)] ∧ ((Strange wd' ∧ c = "NoName" ∧ x = wd') ∨ ((wd' = .str "number" ∨ wd' = .str "integer") ∧ c = "InvalidOctets" ∧ ((getN ys 0 = none ∧ x = .int (0 : Nat)) ∨ ∃ v q, getN ys 0 = some (v, q) ∧ q < ys.length ∧ x = .int (q : Nat)))) := by
    rintro c x ⟨wd', ys, e, h⟩
    obtain ⟨e1, e2⟩ := wargs e
    subst e1 e2
    rcases h with ⟨hs, _⟩ | ⟨_, _, ⟨h, _⟩ | ⟨v', q', h, h2, _⟩⟩
    · rcases hs with ⟨z, hz, e⟩ | hs
      · rcases hw with ⟨e3, _⟩ | ⟨e3, _⟩ <;> rw [e3] at e <;> rw [← PyData.str.inj e] at hz <;> revert hz <;> decide +kernel
      · rcases hw with ⟨e3, _⟩ | ⟨e3, _⟩ <;> rw [e3] at hs <;> cases hs
    · rw [hg] at h; cases h
    · rw [hg] at h; cases h; omega
  intro vs J H w a Q q
  refine spX_D ⟨wd, xs, rfl, ho, hl, hw.elim (fun h => .inl h.1) fun h => .inr (.inl h.1)⟩ no vs J H w a Q fun v1 d1 J1 H1 w1 t1 p1 a1 => q v1 d1 J1 H1 w1 t1 ?_ a1
  obtain ⟨v', hg', h⟩ := p1 wd xs rfl
  rw [hg] at hg'
  cases hg'
  rcases h with ⟨e1, e2⟩ | ⟨e1, e2⟩ <;> rcases hw with ⟨e3, e4⟩ | ⟨e3, e4⟩
  · rw [e2, e4]
  · exact absurd (PyData.str.inj (e1.symm.trans e3)) (by decide +kernel)
  · exact absurd (PyData.str.inj (e1.symm.trans e3)) (by decide +kernel)
  · rw [e2, e4]
theorem ev_octs {m : Int} {i : Nat} {te : TE} (hd : HasDr M h g) (hs : σ[i]? = some (some (.ref h))) (he : EvP K M te σ J H fun d => ∃ i, d = .int i ∧ 0 ≤ i ∧ i ≤ m) (hm : m < 1000) : EvP K M (tCall (spOcts K) [] E0 (tCons (tVar i) (tCons te tNil))) σ J H (isOcts m) :=
  ev_callH hd hs (ea_cons he ea_nil) fun ds ⟨d, r, e, ⟨i, ei, i0, i1⟩, er⟩ => by
    rw [e, ei, er]
    refine ⟨⟨i, rfl, i0, by omega⟩, fun d p => ?_⟩
    obtain ⟨xs, e, ho, hl⟩ := p i rfl
    exact ⟨xs, e, ho, by omega⟩
end
end K02

namespace K02
open PySem PySem.Spec
open PyProof.Rows L2 DL
local macro_rules | `(tactic| walk_at "rep") => `(tactic| first | assumption | exact Da.int _ | exact Da.bl _ | exact Da.str _ | exact Da.non | exact Sub.da (by assumption) (by assumption) | exact Sub.da (Tr.jj (by assumption)) (by assumption))
local macro_rules | `(tactic| walk_at "arith") => `(tactic| first | assumption | omega | decide | exact cmul_small (by omega) (by omega) | exact cdiv_small (by omega) (by omega))
local macro_rules | `(tactic| walk_at "shp") => `(tactic| first | exact sh_int _ | exact sh_tup _ | exact sh_list _ | assumption)
local macro_rules | `(tactic| walk_at "od") => `(tactic| first
  | with_reducible exact od_plus
  | with_reducible exact od_sub
  | ((with_reducible refine' od_mul ?h1); walk_at "arith")
  | ((with_reducible refine' od_mod ?h1); walk_at "arith")
  | ((with_reducible refine' od_fdiv ?h1); walk_at "arith")
  | ((with_reducible refine' od_pow ?h1); exact ⟨by decide, by decide, by decide⟩)
  | with_reducible exact od_lt | with_reducible exact od_le | with_reducible exact od_gt | with_reducible exact od_ge
  | ((with_reducible refine' od_plusT ?h1); walk_at "arith")
  | ((with_reducible refine' od_plusL ?h1); walk_at "arith")
  | ((with_reducible refine' od_plusS ?h1); walk_at "arith")
  | with_reducible exact od_isN | with_reducible exact od_notN
  | ((with_reducible refine od_eq ?_ ?_) <;> walk_at "shp")
  | ((with_reducible refine od_ne ?_ ?_) <;> walk_at "shp")
  | ((with_reducible refine od_inL ?_ ?_) <;> walk_at "shp")
  | ((with_reducible refine od_ixL ?_); assumption)
  | ((with_reducible refine od_ixT ?_); assumption))
local macro_rules | `(tactic| walk_at "ea") => `(tactic| first | with_reducible exact ea_nil | ((with_reducible refine' ea_consD ?h1 ?h2); (case h1 => walk_at "ev"); (case h2 => walk_at "ea")))
local macro_rules | `(tactic| walk_at "eo") => `(tactic| first | with_reducible exact eo_none | ((with_reducible refine' eo_at ?h1); (case h1 => walk_at "ev")))
local macro_rules | `(tactic| walk_at "cd") => `(tactic| first
  | with_reducible exact cd_lenL | with_reducible exact cd_lenT | with_reducible exact cd_tupL | with_reducible exact cd_tupT | with_reducible exact cd_lstL | with_reducible exact cd_lstT | with_reducible exact cd_abs | with_reducible exact cd_int)
local macro_rules | `(tactic| walk_at "ev") => `(tactic| first
  | with_reducible exact ev_int | with_reducible exact ev_bl | with_reducible exact ev_str | with_reducible exact ev_non
  | ((with_reducible refine' ev_var ?h1 ?h2); (case h1 => exact rfl); (case h2 => walk_at "rep"))
  | ((with_reducible refine' ev_opD ?h1 ?h2 ?h3); (case h1 => walk_at "ev"); (case h2 => walk_at "ev"); (case h3 => walk_at "od"))
  | ((with_reducible refine' ev_tupD ?h1); (case h1 => walk_at "ea"))
  | ((with_reducible refine' ev_lstD ?h1); (case h1 => walk_at "ea"))
  | ((with_reducible refine' ev_revL ?h1); (case h1 => walk_at "ev"))
  | ((with_reducible refine' ev_slD ?h1 ?h2 ?h3 ?h4); (case h1 => walk_at "ev"); (case h2 => walk_at "eo"); (case h3 => walk_at "eo"); (case h4 => first | with_reducible exact sd_tup | with_reducible exact sd_list))
  | ((with_reducible refine' ev_cbD ?h1 ?h2); (case h1 => walk_at "ea"); (case h2 => walk_at "cd"))
  | ((with_reducible refine' ev_notV ?h1); (case h1 => walk_at "ev"))
  | assumption)
local macro_rules | `(tactic| walk_at "et") => `(tactic| first
  | ((with_reducible refine' et_testD ?h1); (case h1 => walk_at "ev"))
  | ((with_reducible refine' et_BD ?h1); (case h1 => walk_at "ev"))
  | ((with_reducible refine' et_notD ?h1); (case h1 => walk_at "et"))
  | ((with_reducible refine' et_andD ?h1 ?h2); (case h1 => walk_at "et"); (case h2 => intro _; walk_at "et"))
  | ((with_reducible refine' et_orD ?h1 ?h2); (case h1 => walk_at "et"); (case h2 => intro _; walk_at "et"))
  | assumption)
/-- a law's helper that draws and says yes -/
def spYes (K : PySem.W.Frag) : Sp := spH K (· = []) (fun _ d => d = .bool true)
section
variable {P : Program} {w : World} {K : PySem.W.Frag} {mg : Str → Option Value} {base : Heap} {f : Addr} {fd : FuncData} {er : Errs}
theorem ok_there (F : FnP K "_law_there_and_back" s__law_there_and_back f fd) (T : Fx mg) (C__law_draw : Ca P w K mg base CX0 1 "_law_draw" ["_law_heap_here", "_law_many"] (spDr K)) (C__law_pick : Ca P w K mg base CX0 2 "_law_pick" ["_law_heap_here", "_law_some"] (spPick K))
    (C__law_octets : Ca P w K mg base CX0 3 "_law_octets" ["_law_heap_here", "_law_many"] (spOcts K)) (C__law_figures : Ca P w K mg base CX0 1 "_law_figures" ["_law_number"] (spFigL K))
    (C_put_number : Ca P w K mg base CX0 1 "put_number" ["number"] (spPutN K)) (C_put_number_Knumber : CaK P w K mg base CX0 1 "put_number" ["number"] 0 ["number"] (spPutN K))
    (C_put_integer : Ca P w K mg base CX0 2 "put_integer" ["integer"] (spPutI K)) (C_put_integer_Kinteger : CaK P w K mg base CX0 2 "put_integer" ["integer"] 0 ["integer"] (spPutI K))
    (C_get_number : Ca P w K mg base (L2.CX P w) 3 "get_number" ["octets", "at"] (spGetN K er)) (C_get_integer_Kat_octets : CaR P w K mg base (L2.CX P w) 4 "get_integer" ["octets", "at"] ["at", "octets"] (spGetI K er))
    (C_read_whole : Ca P w K mg base (L2.CX P w) 5 "read_whole" ["word", "octets"] (spWhole K er)) (C_read_whole_Koctets_word : CaR P w K mg base (L2.CX P w) 5 "read_whole" ["word", "octets"] ["octets", "word"] (spWhole K er)) :
    FnG P w K mg base CX0 7 f fd ["_law_heap_here"] (spYes K) := by
  have nd := sc__law_there_and_back.nd
  refine fn_g F sc__law_there_and_back (fun vs H Q E h => ?_) (fun cdv A outer s H vs Q E hG hr h => ?_)
  · obtain ⟨ds, rfl, e⟩ := spH_len h
    exact e
  have hu := hr.units
  refine ⟨_, PSs.nox (pss_cons (ps_set (i := 1) nd rfl (Or.inl rfl) pe_int)
 (pss_cons (ps_for PassesOwn.never rfl (pi_range1 rfl T.b_range (pa_cons (xCall C__law_draw (hr.mono (by decide)) pass0 (pa_cons (pv 0) (pa_cons pe_int pa_nil))) pa_nil)) (pg_name (i := 2) nd rfl (Or.inl rfl))
 (pss_one (ps_set (i := 1) nd rfl (Or.inl rfl) (pe_op op_mulW pe_int (pv 1)))))
 (pss_cons (ps_set (i := 3) nd rfl (Or.inl rfl) pe_int)
 (pss_cons (ps_set (i := 4) nd rfl (Or.inl rfl) (xB (rMin2) (call_min2 rfl) T.b_min (pa_cons (pv 3) (pa_cons (xCall C__law_pick (hr.mono (by decide)) pass0 (pa_cons (pv 0) (pa_cons (pe_lst (pa_cons (xCall C__law_draw (hr.mono (by decide)) pass0 (pa_cons (pv 0) (pa_cons pe_int pa_nil))) (pa_cons (xB (rMax2) (call_max2 rfl) T.b_max (pa_cons pe_int (pa_cons (pe_op op_sub (pv 1) pe_int) pa_nil))) (pa_cons (pv 1) (pa_cons (pe_op op_plus (pv 1) pe_int) (pa_cons (pv 3) (pa_cons (xCall C__law_draw (hr.mono (by decide)) pass0 (pa_cons (pv 0) (pa_cons (pv 3) pa_nil))) pa_nil))))))) pa_nil))) pa_nil))))
 (pss_cons (ps_par (i := 5) (j := 6) (by rfl) nd rfl rfl (by decide) rfl rfl (pa_cons (xCall C__law_octets (hr.mono (by decide)) pass0 (pa_cons (pv 0) (pa_cons (xCall C__law_draw (hr.mono (by decide)) pass0 (pa_cons (pv 0) (pa_cons pe_int pa_nil))) pa_nil))) (pa_cons (xCall C__law_octets (hr.mono (by decide)) pass0 (pa_cons (pv 0) (pa_cons (xCall C__law_draw (hr.mono (by decide)) pass0 (pa_cons (pv 0) (pa_cons pe_int pa_nil))) pa_nil))) pa_nil)) (by rfl))
 (pss_cons (ps_set (i := 7) nd rfl (Or.inl rfl) (xCall C__law_figures (hr.mono (by decide)) pass0 (pa_cons (pv 4) pa_nil)))
 (pss_cons (ps_if (PW.pt (pw_or (pt_cmpR op_ne (xB (rRepr _) (cl_repr hG hu) T.b_repr (pa_cons (xCall C_put_number (hr.mono (by decide)) pass0 (pa_cons (pv 4) pa_nil)) pa_nil)) (xB (rRepr _) (cl_repr hG hu) T.b_repr (pa_cons (pv 7) pa_nil)) (nomark _)) (pw_or1 (pt_cmpR (op_neD hu) (xCallK0 C_put_number_Knumber (hr.mono (by decide)) pass0 (pk_cons (pv 4) <| pk_nil)) (pv 7) (nomark _))))) (pss_one (ps_ret pe_bl))
 pss_nil)
 (pss_cons (ps_if (pt_cmpR op_ne (xB (rRepr _) (cl_repr hG hu) T.b_repr (pa_cons (xCall C_get_number (hr.mono (by decide)) passL (pa_cons (pe_op op_plus (pe_op op_plus (pv 5) (pv 7)) (pv 6)) (pa_cons (xB (rLen _) cl_len T.b_len (pa_cons (pv 5) pa_nil)) pa_nil))) pa_nil)) (xB (rRepr _) (cl_repr hG hu) T.b_repr (pa_cons (pe_tup (pa_cons (pv 4) (pa_cons (pe_op op_plus (xB (rLen _) cl_len T.b_len (pa_cons (pv 5) pa_nil)) (xB (rLen _) cl_len T.b_len (pa_cons (pv 7) pa_nil))) pa_nil))) pa_nil)) (nomark _)) (pss_one (ps_ret pe_bl))
 pss_nil)
 (pss_cons (ps_if (PW.pt (pw_or (pt_cmpR op_ne (xB (rRepr _) (cl_repr hG hu) T.b_repr (pa_cons (xCall C_read_whole (hr.mono (by decide)) passL (pa_cons pe_str (pa_cons (pv 7) pa_nil))) pa_nil)) (xB (rRepr _) (cl_repr hG hu) T.b_repr (pa_cons (pv 4) pa_nil)) (nomark _)) (pw_or1 (pt_cmpR (op_neD hu) (xCallKr C_read_whole_Koctets_word (hr.mono (by decide)) passL (pk_cons (pv 7) <| pk_cons pe_str <| pk_nil)) (pv 4) (nomark _))))) (pss_one (ps_ret pe_bl))
 pss_nil)
 (pss_cons (ps_set (i := 8) nd rfl (Or.inl rfl) (pe_ifExp (pt_cmpR (op_eqD hu) (pe_op op_mod (xT (rInt1) cl_int T.b_int (pa_cons (pv 4) pa_nil)) pe_int) pe_int (nomark _)) (pe_op op_fdivW (pv 4) pe_int) (pe_op op_sub (pe_op op_sub pe_int (pe_op op_fdivW (pv 4) pe_int)) pe_int)))
 (pss_cons (ps_if (PW.pt (pw_or (pt_cmpR op_ne (xB (rRepr _) (cl_repr hG hu) T.b_repr (pa_cons (xCall C_put_integer (hr.mono (by decide)) pass0 (pa_cons (pv 8) pa_nil)) pa_nil)) (xB (rRepr _) (cl_repr hG hu) T.b_repr (pa_cons (pv 7) pa_nil)) (nomark _)) (pw_or1 (pt_cmpR (op_neD hu) (xCallK0 C_put_integer_Kinteger (hr.mono (by decide)) pass0 (pk_cons (pv 8) <| pk_nil)) (pv 7) (nomark _))))) (pss_one (ps_ret pe_bl))
 pss_nil)
 (pss_cons (ps_set (i := 9) nd rfl (Or.inl rfl) (xCallKr C_get_integer_Kat_octets (hr.mono (by decide)) passL (pk_cons (xB (rLen _) cl_len T.b_len (pa_cons (pv 5) pa_nil)) <| pk_cons (pe_op op_plus (pe_op op_plus (pv 5) (pv 7)) (pv 6)) <| pk_nil)))
 (pss_one (ps_ret (pe_and (pe_cmpR op_eq (xB (rRepr _) (cl_repr hG hu) T.b_repr (pa_cons (pv 9) pa_nil)) (xB (rRepr _) (cl_repr hG hu) T.b_repr (pa_cons (pe_tup (pa_cons (pv 8) (pa_cons (pe_op op_plus (xB (rLen _) cl_len T.b_len (pa_cons (pv 5) pa_nil)) (xB (rLen _) cl_len T.b_len (pa_cons (pv 7) pa_nil))) pa_nil))) pa_nil)) (nomark _)) (pe_one (pe_cmpR (op_eqD hu) (xCall C_read_whole (hr.mono (by decide)) passL (pa_cons pe_str (pa_cons (pv 7) pa_nil))) (pv 8) (nomark _)))))))))))))))))), ?_⟩
  dsimp only [cxOf]
  obtain ⟨M, h, g, J, us, ds, rfl, hd, w0, a, rfl, q⟩ := h
  cases a
  have big : (128 : Nat) ^ 9 = 9223372036854775808 := by decide
  have lim : ∀ {n : Nat}, n ≤ 1000 → n ≤ sizeLine := fun h => Nat.le_trans h (by decide)
  refine s_asgI (K := K) w0 ev_int fun J1 H1 w1 t1 => ?_
  dsimp only
  refine s_for (K := K) (Pw := fun ds => ∃ n, ds = DL.upTo n ∧ n < 10) (fun _ i σ' J' H' => ∃ o, σ' = [some (.ref h), some (.int ((128 ^ i : Nat) : Int)), o, none, none, none, none, none, none, none]) w0 t1
    (ew_range ((ev_draw (n := 10) hd rfl ev_int (by omega)).mono fun d ⟨i, e, i0, i1⟩ => ⟨i.toNat, by rw [e, Int.toNat_of_nonneg i0], by omega, by omega⟩)) (fun ds J2 H2 _ _ _ => ⟨none, rfl⟩) (fun ds i σ' J' H' T xs h _ => h) ?_ ?_
  · rintro ds i d x σ' J2 J' H' ⟨n, rfl, hn⟩ hdi w' t' s1 s2 ⟨o, rfl⟩ ax
    obtain ⟨rfl, hi⟩ := upTo_at hdi
    have h2 : 128 ^ i ≤ 128 ^ 8 := Nat.pow_le_pow_right (by decide) (by omega)
    have h4 : (((128 ^ i : Nat) : Int)).natAbs < 2 ^ 64 := by rw [Int.natAbs_natCast]; exact Nat.lt_of_le_of_lt h2 (by decide)
    have h5 : (128 : Int) * ((128 ^ i : Nat) : Int) = ((128 ^ (i + 1) : Nat) : Int) := by rw [Nat.pow_succ, Int.natCast_mul, Int.mul_comm]; rfl
    dsimp only
    refine s_asgI (K := K) (i := ((128 ^ (i + 1) : Nat) : Int)) w' (ev_eq (ev_opD ev_int (ev_var rfl (.int _)) (od_mul (cmul_small (by decide) h4))) (by rw [h5])) fun J3 H3 w3 t3 => ⟨J3, w3, t'.trans t3, s2.trans t3.jj, _, rfl⟩
  rintro ds σ' J' H' ⟨n, rfl, hn⟩ w' t' s1 ⟨o, rfl⟩
  rw [upTo_len]
  have h2 : 128 ^ n ≤ 128 ^ 9 := Nat.pow_le_pow_right (by decide) (by omega)
  have h1 : 0 < 128 ^ n := Nat.pow_pos (by decide)
  generalize hS : 128 ^ n = S at *
  dsimp only
  refine s_asgI (K := K) w' ev_int fun J2 H2 w2 t2 => ?_
  dsimp only
  refine s_asg (K := K) (P := fun d => ∃ n : Nat, d = .int n ∧ n < 128 ^ 9) w2 ?_ fun v4 d4 J4 H4 w4 t4 ⟨N, e4, hN⟩ a4 => ?_
  · refine ev_cb (Pa := fun ds => ∃ x : Int, ds = [.int 9223372036854775807, .int x] ∧ 0 ≤ x) ?_ ?_
    · refine (ea_cons (ev_var rfl (.int 9223372036854775807)) (ea_cons (Px := fun d => ∃ x : Int, d = .int x ∧ 0 ≤ x) (ev_pick (P := fun d => ∃ x : Int, d = .int x ∧ 0 ≤ x) hd rfl (Pa := fun d => ∃ xs, d = .list xs ∧ xs ≠ [] ∧ xs.length < 2 ^ 62 ∧ ∀ x ∈ xs, ∃ i : Int, x = .int i ∧ 0 ≤ i) ?_ fun _ h => h) ea_nil)).mono ?_
      · refine (ev_lst (Pa := fun xs => xs.length = 6 ∧ ∀ x ∈ xs, ∃ i : Int, x = .int i ∧ 0 ≤ i) ?_ ?_).mono ?_
        · refine (ea_cons (ev_draw (n := 200) hd rfl ev_int (by omega)) (ea_cons (ev_cbD (ea_consD ev_int (ea_consD (ev_opD (ev_var rfl (.int (S : Int))) ev_int od_sub) ea_nil)) cd_max2) (ea_cons (ev_var rfl (.int (S : Int))) (ea_cons (ev_opD (ev_var rfl (.int (S : Int))) ev_int od_plus) (ea_cons (ev_var rfl (.int 9223372036854775807)) (ea_cons (ev_draw (n := 9223372036854775807) hd rfl (ev_var rfl (.int _)) (by omega)) ea_nil)))))).mono ?_
          rintro ds ⟨_, _, rfl, ⟨i, rfl, p1⟩, _, _, rfl, rfl, _, _, rfl, rfl, _, _, rfl, rfl, _, _, rfl, rfl, _, _, rfl, ⟨j, rfl, p2⟩, rfl⟩
          refine ⟨rfl, fun x hx => ?_⟩
          simp only [List.mem_cons, List.not_mem_nil, or_false] at hx
          rcases hx with rfl | rfl | rfl | rfl | rfl | rfl
          · exact ⟨_, rfl, p1.1⟩
          · exact ⟨_, rfl, by split <;> omega⟩
          · exact ⟨_, rfl, by omega⟩
          · exact ⟨_, rfl, by omega⟩
          · exact ⟨_, rfl, by omega⟩
          · exact ⟨_, rfl, p2.1⟩
        · rintro ds ⟨h, _⟩
          rw [h]; decide
        · rintro d ⟨ds, rfl, h5, h⟩
          exact ⟨ds, rfl, (by intro e; rw [e] at h5; cases h5), (by rw [h5]; decide), h⟩
      · rintro ds ⟨d, r, rfl, rfl, _, _, rfl, ⟨x, rfl, hx⟩, rfl⟩
        exact ⟨x, rfl, hx⟩
    · rintro ds ⟨x, rfl, hx⟩ vs J H w a Q q
      refine cd_min2 vs J H w a Q fun v d J2 H2 w2 t2 e a => q v d J2 H2 w2 t2 ⟨(if x < 9223372036854775807 then x else 9223372036854775807).toNat, ?_, ?_⟩ a
      · rw [e]; congr 1; split <;> omega
      · split <;> omega
  subst e4
  rw [da_int a4]
  dsimp only
  refine s_par (K := K) (Pa := fun ds => ∃ x y, ds = [x, y] ∧ isOcts 3 x ∧ isOcts 3 y) w4 ?_ fun ds ⟨x5, x6, e5, ⟨A', eA, oA, lA⟩, ⟨B', eB, oB, lB⟩⟩ => ⟨_, _, e5, fun v5 v6 J5 H5 w5 t5 a5 a6 => ?_⟩
  · refine (ea_cons (ev_octs (m := 3) hd rfl ((ev_draw (n := 4) hd rfl ev_int (by omega)).mono fun d ⟨i, e, i0, i1⟩ => ⟨i, e, i0, by omega⟩) (by decide)) (ea_cons (ev_octs (m := 3) hd rfl ((ev_draw (n := 4) hd rfl ev_int (by omega)).mono fun d ⟨i, e, i0, i1⟩ => ⟨i, e, i0, by omega⟩) (by decide)) ea_nil)).mono ?_
    rintro ds ⟨x, _, rfl, p1, y, _, rfl, p2, rfl⟩
    exact ⟨x, y, rfl, p1, p2⟩
  subst eA eB
  have lF := figsF_len 8 N
  have oF : Oct (figsN N) := figsF_oct 8 N hN
  have lF9 : (figsN N).length ≤ 9 := lF
  have app : ∀ {x y : List Int}, Oct x → Oct y → Oct (x ++ y) := fun hx hy z hz => (List.mem_append.mp hz).elim (hx z) (hy z)
  have lA3 : A'.length ≤ 3 := by omega
  have lB3 : B'.length ≤ 3 := by omega
  dsimp only
  refine s_asgD (K := K) (d := .tuple (oD (figsN N))) w5 (ev_figL (ev_var rfl (.int _)) hN) fun v7 J7 H7 w7 t7 a7 => ?_
  have b5 := t7.jj.da a5
  have b6 := t7.jj.da a6
  have hsF := sh_tup_ oF (by omega)
  dsimp only
  refine s_ifD (b := false) w7 (et_eq (et_orD (a := false) (b := false) (et_testD (K := K) (ev_eq (ev_opD (ev_cbD (ea_consD (ev_putN (ev_var rfl (.int _)) hN) ea_nil) (cd_repr hsF.1 hsF.2.1 hsF.2.2)) (ev_cbD (ea_consD (ev_var rfl a7) ea_nil) (cd_repr hsF.1 hsF.2.1 hsF.2.2)) od_neS) (by simp)))
    fun _ => et_testD (K := K) (ev_eq (ev_opD (ev_putK (ev_var rfl (.int _)) hN) (ev_var rfl a7) (od_ne (sh_tup _) (sh_tup _))) (by rw [eqv_tup]; simp))) rfl) nofun (fun _ J8 H8 w8 t8 => s_next ?_)
  have c5 := t8.jj.da b5
  have c6 := t8.jj.da b6
  have c7 := t8.jj.da a7
  have hg := getN_figs A' B' hN
  have oW : Oct (A' ++ (figsN N ++ B')) := app oA (app oF oB)
  have lW : (A' ++ (figsN N ++ B')).length ≤ 15 := by rw [List.length_append, List.length_append]; omega
  have lW2 : (A' ++ (figsN N ++ B')).length < 2 ^ 20 := Nat.lt_of_le_of_lt lW (by decide)
  have lW3 : A'.length ≤ (A' ++ (figsN N ++ B')).length := by rw [List.length_append]; omega
  have hsP := sh_p (v := (N : Int)) (e := A'.length + (figsN N).length) (by omega) (by omega)
  have whole : ∀ {σ : L2.St} {J H : Hp}, σ[5]? = some (some v5) → σ[6]? = some (some v6) → σ[7]? = some (some v7) → Da K J v5 (.tuple (oD A')) → Da K J v6 (.tuple (oD B')) → Da K J v7 (.tuple (oD (figsN N))) → EvD K M (tOp (rPlus K) (tOp (rPlus K) (tVar 5) (tVar 7)) (tVar 6)) σ J H (.tuple (oD (A' ++ (figsN N ++ B')))) := fun h5 h6 h7 a5 a6 a7 => by
    refine ev_eq (ev_opD (ev_opD (ev_var h5 a5) (ev_var h7 a7) (od_plusT ?_)) (ev_var h6 a6) (od_plusT ?_)) ?_
    · rw [oD_len, oD_len]; exact lim (by omega)
    · rw [List.length_append, oD_len, oD_len, oD_len]; exact lim (by omega)
    · rw [oD_app, oD_app, List.append_assoc]
  have ends : ∀ {σ : L2.St} {J H : Hp}, σ[5]? = some (some v5) → σ[7]? = some (some v7) → Da K J v5 (.tuple (oD A')) → Da K J v7 (.tuple (oD (figsN N))) → EvD K M (tOp (rPlus K) (tCB (rLen K) (tCons (tVar 5) tNil)) (tCB (rLen K) (tCons (tVar 7) tNil))) σ J H (.int (A'.length + (figsN N).length : Nat)) := fun h5 h7 a5 a7 =>
    ev_eq (ev_opD (ev_cbD (ea_consD (ev_var h5 a5) ea_nil) cd_lenT) (ev_cbD (ea_consD (ev_var h7 a7) ea_nil) cd_lenT) od_plus) (by rw [oD_len, oD_len]; rfl)
  have lenA : ∀ {σ : L2.St} {J H : Hp}, σ[5]? = some (some v5) → Da K J v5 (.tuple (oD A')) → EvD K M (tCB (rLen K) (tCons (tVar 5) tNil)) σ J H (.int (A'.length : Nat)) := fun h5 a5 => ev_eq (ev_cbD (ea_consD (ev_var h5 a5) ea_nil) cd_lenT) (by rw [oD_len])
  dsimp only
  refine s_ifD (b := false) w8 (et_testD (K := K) (ev_eq (ev_opD (ev_cbD (ea_consD (ev_getN (whole rfl rfl rfl c5 c6 c7) (lenA rfl c5) oW lW3 lW2 hg) ea_nil) (cd_repr hsP.1 hsP.2.1 hsP.2.2)) (ev_cbD (ea_consD (ev_tupD (ea_consD (ev_var rfl (.int (N : Int))) (ea_consD (ends rfl rfl c5 c7) ea_nil))) ea_nil) (cd_repr hsP.1 hsP.2.1 hsP.2.2)) od_neS) (by unfold pairD; simp))) nofun (fun _ J9 H9 w9 t9 => s_next ?_)
  have d5 := t9.jj.da c5
  have d6 := t9.jj.da c6
  have d7 := t9.jj.da c7
  have hg0 := getN_figs [] [] hN
  rw [List.nil_append, List.append_nil, List.length_nil, Nat.zero_add] at hg0
  have lF20 : (figsN N).length < 2 ^ 20 := Nat.lt_of_le_of_lt lF9 (by decide)
  have hsN := sh_i (i := (N : Int)) (by omega)
  dsimp only
  refine s_ifD (b := false) w9 (et_eq (et_orD (a := false) (b := false) (et_testD (K := K) (ev_eq (ev_opD (ev_cbD (ea_consD (ev_callD (ea_consD ev_str (ea_consD (ev_var rfl d7) ea_nil)) (whole_D (g := fun v => v) (.inl ⟨rfl, fun _ => rfl⟩) oF lF20 hg0)) ea_nil) (cd_repr hsN.1 hsN.2.1 hsN.2.2)) (ev_cbD (ea_consD (ev_var rfl (.int (N : Int))) ea_nil) (cd_repr hsN.1 hsN.2.1 hsN.2.2)) od_neS) (by simp)))
    fun _ => et_testD (K := K) (ev_eq (ev_opD (ev_callKr (ds := [.tuple (oD (figsN N)), .str "number"]) (ea_consD (ev_var rfl d7) (ea_consD ev_str ea_nil)) rfl (whole_D (g := fun v => v) (.inl ⟨rfl, fun _ => rfl⟩) oF lF20 hg0)) (ev_var rfl (.int (N : Int))) (od_ne (sh_int _) (sh_int _))) (by rw [eqv_int]; simp))) rfl) nofun (fun _ J10 H10 w10 t10 => s_next ?_)
  have e5 := t10.jj.da d5
  have e6 := t10.jj.da d6
  have e7 := t10.jj.da d7
  have zN : zz (unI (N : Int)) = N := by rw [zz_un _ (by omega)]; rfl
  dsimp only
  refine s_asgI (K := K) (i := unI (N : Int)) w10 (ev_if (Pb := (· = decide ((N : Int) % 2 = 0))) (et_testD (K := K) (ev_eq (ev_opD (ev_opD (ev_cbD (ea_consD (ev_var rfl (.int (N : Int))) ea_nil) cd_int) ev_int (od_mod (by decide))) ev_int (od_eq (sh_int _) (sh_int _))) (by rw [eqv_int]))) (fun hz => ?_) (fun hz => ?_)) fun J11 H11 w11 t11 => ?_
  · have hz := of_decide_eq_true hz.symm
    refine ev_eq (ev_opD (ev_var rfl (.int (N : Int))) ev_int (od_fdiv (cdiv_small (by decide) (by decide)))) ?_
    unfold unI
    rw [if_pos hz]
  · have hz := of_decide_eq_false hz.symm
    refine ev_eq (ev_opD (ev_opD ev_int (ev_opD (ev_var rfl (.int (N : Int))) ev_int (od_fdiv (cdiv_small (by decide) (by decide)))) od_sub) ev_int od_sub) ?_
    unfold unI
    rw [if_neg hz]
    congr 1
    omega
  have f5 := t11.jj.da e5
  have f6 := t11.jj.da e6
  have f7 := t11.jj.da e7
  have hzN : zz (unI (N : Int)) < 128 ^ 9 := by rw [zN]; exact hN
  have eqF : PyData.tuple (oD (figsN (zz (unI (N : Int))))) = .tuple (oD (figsN N)) := by rw [zN]
  dsimp only
  refine s_ifD (b := false) w11 (et_eq (et_orD (a := false) (b := false) (et_testD (K := K) (ev_eq (ev_opD (ev_cbD (ea_consD (ev_eq (ev_putI (ev_var rfl (.int _)) hzN) eqF) ea_nil) (cd_repr hsF.1 hsF.2.1 hsF.2.2)) (ev_cbD (ea_consD (ev_var rfl f7) ea_nil) (cd_repr hsF.1 hsF.2.1 hsF.2.2)) od_neS) (by simp)))
    fun _ => et_testD (K := K) (ev_eq (ev_opD (ev_eq (ev_putIK (ev_var rfl (.int _)) hzN) eqF) (ev_var rfl f7) (od_ne (sh_tup _) (sh_tup _))) (by rw [eqv_tup]; simp))) rfl) nofun (fun _ J12 H12 w12 t12 => s_next ?_)
  have g5 := t12.jj.da f5
  have g6 := t12.jj.da f6
  have g7 := t12.jj.da f7
  dsimp only
  refine s_asgD (K := K) (d := pairD (unI (N : Int)) (A'.length + (figsN N).length)) w12 (ev_getIR (lenA rfl g5) (whole rfl rfl rfl g5 g6 g7) oW lW3 lW2 hg) fun v9 J13 H13 w13 t13 a9 => ?_
  have k5 := t13.jj.da g5
  have k7 := t13.jj.da g7
  have uN : (unI (N : Int)).natAbs < 10 ^ 19 := by unfold unI; split <;> omega
  have hsQ := sh_p (v := unI (N : Int)) (e := A'.length + (figsN N).length) uN (by omega)
  refine s_retD (K := K) (d := .bool true) w13 (ev_eq (ev_andV (a := true) (b := .bool true) (ev_eq (ev_opD (ev_cbD (ea_consD (ev_var rfl a9) ea_nil) (cd_repr hsQ.1 hsQ.2.1 hsQ.2.2)) (ev_cbD (ea_consD (ev_tupD (ea_consD (ev_var rfl (.int (unI (N : Int)))) (ea_consD (ends rfl rfl k5 k7) ea_nil))) ea_nil) (cd_repr hsQ.1 hsQ.2.1 hsQ.2.2)) od_eqS) (by unfold pairD; simp)) fun _ => ev_eq (ev_opD (ev_callD (ea_consD ev_str (ea_consD (ev_var rfl k7) ea_nil)) (whole_D (g := unI) (.inr ⟨rfl, fun _ => rfl⟩) oF lF20 hg0)) (ev_var rfl (.int (unI (N : Int)))) (od_eq (sh_int _) (sh_int _))) (by rw [eqv_int]; simp)) rfl) fun v14 J14 H14 w14 t14 a14 => q v14 _ J14 H14 w14 ((t'.trans (t2.trans (t4.trans (t5.trans (t7.trans (t8.trans t9)))))).trans ((t10.trans (t11.trans (t12.trans t13))).trans t14)) rfl a14
end
end K02

namespace K02
open PySem PySem.Spec
open PyProof.Rows L2 DL
local macro_rules | `(tactic| walk_at "rep") => `(tactic| first | assumption | exact Da.int _ | exact Da.bl _ | exact Da.str _ | exact Da.non | exact Sub.da (by assumption) (by assumption) | exact Sub.da (Tr.jj (by assumption)) (by assumption))
local macro_rules | `(tactic| walk_at "arith") => `(tactic| first | assumption | omega | decide | exact cmul_small (by omega) (by omega) | exact cdiv_small (by omega) (by omega))
local macro_rules | `(tactic| walk_at "shp") => `(tactic| first | exact sh_int _ | exact sh_tup _ | exact sh_list _ | assumption)
local macro_rules | `(tactic| walk_at "od") => `(tactic| first
  | with_reducible exact od_plus
  | with_reducible exact od_sub
  | ((with_reducible refine' od_mul ?h1); walk_at "arith")
  | ((with_reducible refine' od_mod ?h1); walk_at "arith")
  | ((with_reducible refine' od_fdiv ?h1); walk_at "arith")
  | ((with_reducible refine' od_pow ?h1); exact ⟨by decide, by decide, by decide⟩)
  | with_reducible exact od_lt | with_reducible exact od_le | with_reducible exact od_gt | with_reducible exact od_ge
  | ((with_reducible refine' od_plusT ?h1); walk_at "arith")
  | ((with_reducible refine' od_plusL ?h1); walk_at "arith")
  | ((with_reducible refine' od_plusS ?h1); walk_at "arith")
  | with_reducible exact od_isN | with_reducible exact od_notN
  | ((with_reducible refine od_eq ?_ ?_) <;> walk_at "shp")
  | ((with_reducible refine od_ne ?_ ?_) <;> walk_at "shp")
  | ((with_reducible refine od_inL ?_ ?_) <;> walk_at "shp")
  | ((with_reducible refine od_ixL ?_); assumption)
  | ((with_reducible refine od_ixT ?_); assumption))
local macro_rules | `(tactic| walk_at "ea") => `(tactic| first | with_reducible exact ea_nil | ((with_reducible refine' ea_consD ?h1 ?h2); (case h1 => walk_at "ev"); (case h2 => walk_at "ea")))
local macro_rules | `(tactic| walk_at "eo") => `(tactic| first | with_reducible exact eo_none | ((with_reducible refine' eo_at ?h1); (case h1 => walk_at "ev")))
local macro_rules | `(tactic| walk_at "cd") => `(tactic| first
  | with_reducible exact cd_lenL | with_reducible exact cd_lenT | with_reducible exact cd_tupL | with_reducible exact cd_tupT | with_reducible exact cd_lstL | with_reducible exact cd_lstT | with_reducible exact cd_abs | with_reducible exact cd_int)
local macro_rules | `(tactic| walk_at "ev") => `(tactic| first
  | with_reducible exact ev_int | with_reducible exact ev_bl | with_reducible exact ev_str | with_reducible exact ev_non
  | ((with_reducible refine' ev_var ?h1 ?h2); (case h1 => exact rfl); (case h2 => walk_at "rep"))
  | ((with_reducible refine' ev_opD ?h1 ?h2 ?h3); (case h1 => walk_at "ev"); (case h2 => walk_at "ev"); (case h3 => walk_at "od"))
  | ((with_reducible refine' ev_tupD ?h1); (case h1 => walk_at "ea"))
  | ((with_reducible refine' ev_lstD ?h1); (case h1 => walk_at "ea"))
  | ((with_reducible refine' ev_revL ?h1); (case h1 => walk_at "ev"))
  | ((with_reducible refine' ev_slD ?h1 ?h2 ?h3 ?h4); (case h1 => walk_at "ev"); (case h2 => walk_at "eo"); (case h3 => walk_at "eo"); (case h4 => first | with_reducible exact sd_tup | with_reducible exact sd_list))
  | ((with_reducible refine' ev_cbD ?h1 ?h2); (case h1 => walk_at "ea"); (case h2 => walk_at "cd"))
  | ((with_reducible refine' ev_notV ?h1); (case h1 => walk_at "ev"))
  | assumption)
local macro_rules | `(tactic| walk_at "et") => `(tactic| first
  | ((with_reducible refine' et_testD ?h1); (case h1 => walk_at "ev"))
  | ((with_reducible refine' et_BD ?h1); (case h1 => walk_at "ev"))
  | ((with_reducible refine' et_notD ?h1); (case h1 => walk_at "et"))
  | ((with_reducible refine' et_andD ?h1 ?h2); (case h1 => walk_at "et"); (case h2 => intro _; walk_at "et"))
  | ((with_reducible refine' et_orD ?h1 ?h2); (case h1 => walk_at "et"); (case h2 => intro _; walk_at "et"))
  | assumption)
abbrev s__law_any_octets : Stmt := top 36
abbrev N__law_any_octets : List Str := ["_law_heap_here", "_law_octets_here", "_law_at", "_law_number", "_law_place", "_law_due", "_law_octet"]
theorem sc__law_any_octets : FnScope N__law_any_octets ["_law_heap_here"] (defScope s__law_any_octets) := ⟨rfl, rfl, rfl, by decide +kernel, rfl, by decide +kernel, by decide +kernel⟩
abbrev qLam (x : Str) : Str := x ++ ".<locals>." ++ "<lambda>"
/-- as spYes, where tables may grow -/
def spYesT (K : PySem.W.Frag) (T : List (Addr × Str)) : Sp := fun vs H Q _ => ∃ M h g J, vs = [.ref h] ∧ HasDr M h g ∧ HasTb M T ∧ Wf M J H ∧ ∀ v J' H', Wf M J' H' → Tr M J H J' H' → Da K J' v (.bool true) → Q v H'
theorem s_fork {c : TT} {tu R : TS} {D : Ends} {σ : L2.St} {H : Hp} (G : L2.St → Hp → Prop) (hR : ∀ σ' H', G σ' H' → R D σ' H') (h : (∀ σ' H', G σ' H' → R D σ' H') → tSeq (tIfS c tu tNext) R D σ H) : tSeq (tIfS c tu tNext) R D σ H := h hR
/-! ### what is due -/
def numD (xs : List Int) (a : Nat) : PyData := match getN xs a with
  | some (v, _) => .int v
  | none => .none
def plD (xs : List Int) (a : Nat) : Nat := match getN xs a with
  | some (_, q) => q
  | none => a
theorem ansN_eq (xs : List Int) (a : Nat) : ansN xs a = .tuple [numD xs a, .int (plD xs a)] := by
  unfold ansN numD plD
  cases getN xs a with
  | none => rfl
  | some p => rfl
def dueG (g : Int → Int) (xs : List Int) (a : Nat) : PyData := match getN xs a with
  | some (v, q) => .list [.str "told", pairD (g v) q]
  | none => .list [.str "bytes", .int a, .bool true]
def dueW (xs : List Int) : PyData := match getN xs 0 with
  | some (v, q) => if q = xs.length then .list [.str "told", .int v] else .list [.str "bytes", .int q, .bool true]
  | none => .list [.str "bytes", .int (0 : Nat), .bool true]
theorem lay_eq {d : PyData} (h : d.canLay0 = true) (h2 : d.depth ≤ 60) : SeqAt.shaped d = true ∧ PyData.eqv d d = true := by
  refine ⟨?_, SeqAt.eqv_refl _ h⟩
  unfold SeqAt.shaped
  rw [h, decide_eq_true (by omega)]
  rfl
theorem lay_told (v : Int) (q : Nat) : (PyData.list [.str "told", pairD v q]).canLay0 = true := by simp [pairD, PyData.canLay0, PyData.canLayAll0]; decide +kernel
theorem lay_told1 (v : Int) : (PyData.list [.str "told", .int v]).canLay0 = true := by simp [PyData.canLay0, PyData.canLayAll0]; decide +kernel
theorem lay_bytes (v : Int) : (PyData.list [.str "bytes", .int v, .bool true]).canLay0 = true := by simp [PyData.canLay0, PyData.canLayAll0]; decide +kernel
theorem dueG_ok (g : Int → Int) (xs : List Int) (a : Nat) : SeqAt.shaped (dueG g xs a) = true ∧ PyData.eqv (dueG g xs a) (dueG g xs a) = true := by
  unfold dueG
  cases getN xs a with
  | none => exact lay_eq (lay_bytes _) (by simp [PyData.depth, PyData.depthAll])
  | some p => exact lay_eq (lay_told _ _) (by simp [PyData.depth, PyData.depthAll, pairD])
theorem dueW_ok (xs : List Int) : SeqAt.shaped (dueW xs) = true ∧ PyData.eqv (dueW xs) (dueW xs) = true := by
  unfold dueW
  cases getN xs 0 with
  | none => exact lay_eq (lay_bytes _) (by simp [PyData.depth, PyData.depthAll])
  | some p =>
    show SeqAt.shaped (if p.2 = xs.length then _ else _) = true ∧ PyData.eqv (if p.2 = xs.length then _ else _) (if p.2 = xs.length then _ else _) = true
    split
    · exact lay_eq (lay_told1 _) (by simp [PyData.depth, PyData.depthAll])
    · exact lay_eq (lay_bytes _) (by simp [PyData.depth, PyData.depthAll])
section
variable {K : PySem.W.Frag} {M : Md} {T : List (Addr × Str)} {er : Errs} {σ : L2.St} {J H : Hp} {ta tb : TE} {xs : List Int} {a : Nat}
theorem hear_N (hb : HasTb M T) (h : EvD K M ta σ J H (.tuple (oD xs))) (h2 : EvD K M tb σ J H (.int a)) (ho : Oct xs) (ha : a ≤ xs.length) (hl : xs.length < 2 ^ 20) : EvD K M (LamX.tLam T (THear (rowsH er)) fun E => tCall (spGetN K er) [] E (tCons ta (tCons tb tNil))) σ J H (dueG (fun v => v) xs a) :=
  ev_hear (Pv := fun d => ∃ v q, getN xs a = some (v, q) ∧ d = pairD v q) (Pe := fun C s x => getN xs a = none ∧ s = "bytes" ∧ x = .int a) hb (fun J1 H1 w1 t1 E Q qv qe => rd_callX (K := K) w1 ((ea_consD h (ea_consD h2 ea_nil)).later t1) ⟨xs, a, rfl, ho, ha, hl⟩ (fun v d J2 H2 w2 t2 p a2 => qv v d J2 H2 w2 t2 (p xs a rfl) a2) fun c x dx v J2 H2 w2 t2 ⟨ys, a', e, g, ec, ex⟩ hx av => by
    obtain ⟨e1, e2⟩ := args_eq e
    rw [← e1, ← e2] at g
    subst ec
    exact qe er.io "bytes" "at" dx v x J2 H2 w2 t2 (by simp) ⟨g, rfl, by rw [ex, ← e2]⟩ hx av) (fun d ⟨v, q, g, e⟩ => by unfold dueG; rw [g, e]) fun C s x ⟨g, e1, e2⟩ => by unfold dueG; rw [g, e1, e2]
theorem hear_NR (hb : HasTb M T) (h : EvD K M ta σ J H (.tuple (oD xs))) (h2 : EvD K M tb σ J H (.int a)) (ho : Oct xs) (ha : a ≤ xs.length) (hl : xs.length < 2 ^ 20) : EvD K M (LamX.tLam T (THear (rowsH er)) fun E => (fun σ H Q => (tCons tb (tCons ta tNil)) σ H fun zs H2 => zs.length = (["at", "octets"] : List Str).length ∧ spGetN K er zs.reverse H2 Q E)) σ J H (dueG (fun v => v) xs a) :=
  ev_hear (Pv := fun d => ∃ v q, getN xs a = some (v, q) ∧ d = pairD v q) (Pe := fun C s x => getN xs a = none ∧ s = "bytes" ∧ x = .int a) hb (fun J1 H1 w1 t1 E Q qv qe => ((ea_consD h2 (ea_consD h ea_nil)).later t1) J1 H1 w1 w1.tr _ fun vs ds J2 H2 w2 t2 ed av => by
    subst ed
    refine ⟨by rw [das_len av]; rfl, J2, _, w2.jh, das_revV av, ⟨xs, a, rfl, ho, ha, hl⟩, fun v d J' H' t p a' => qv v d J' H' ((w2.lift t).wf w2) (t2.trans (w2.lift t)) (p xs a rfl) a', fun c x dx v J' H' t z hx a' => ?_⟩
    obtain ⟨ys, a2, e, g, ec, ex⟩ := z
    obtain ⟨e1, e2⟩ := args_eq (xs := xs) (a := a) e
    rw [← e1, ← e2] at g
    subst ec
    exact qe er.io "bytes" "at" dx v x J' H' ((w2.lift t).wf w2) (t2.trans (w2.lift t)) (by simp) ⟨g, rfl, by rw [ex, ← e2]⟩ hx a') (fun d ⟨v, q, g, e⟩ => by unfold dueG; rw [g, e]) fun C s x ⟨g, e1, e2⟩ => by unfold dueG; rw [g, e1, e2]
theorem hear_I (hb : HasTb M T) (h : EvD K M ta σ J H (.tuple (oD xs))) (h2 : EvD K M tb σ J H (.int a)) (ho : Oct xs) (ha : a ≤ xs.length) (hl : xs.length < 2 ^ 20) : EvD K M (LamX.tLam T (THear (rowsH er)) fun E => tCall (spGetI K er) [] E (tCons ta (tCons tb tNil))) σ J H (dueG unI xs a) :=
  ev_hear (Pv := fun d => ∃ v q, getN xs a = some (v, q) ∧ d = pairD (unI v) q) (Pe := fun C s x => getN xs a = none ∧ s = "bytes" ∧ x = .int a) hb (fun J1 H1 w1 t1 E Q qv qe => rd_callX (K := K) w1 ((ea_consD h (ea_consD h2 ea_nil)).later t1) ⟨xs, a, rfl, ho, ha, hl⟩ (fun v d J2 H2 w2 t2 p a2 => qv v d J2 H2 w2 t2 (p xs a rfl) a2) fun c x dx v J2 H2 w2 t2 ⟨ys, a', e, g, ec, ex⟩ hx av => by
    obtain ⟨e1, e2⟩ := args_eq e
    rw [← e1, ← e2] at g
    subst ec
    exact qe er.io "bytes" "at" dx v x J2 H2 w2 t2 (by simp) ⟨g, rfl, by rw [ex, ← e2]⟩ hx av) (fun d ⟨v, q, g, e⟩ => by unfold dueG; rw [g, e]) fun C s x ⟨g, e1, e2⟩ => by unfold dueG; rw [g, e1, e2]
theorem hear_W (hb : HasTb M T) (h : EvD K M ta σ J H (.tuple (oD xs))) (ho : Oct xs) (hl : xs.length < 2 ^ 20) : EvD K M (LamX.tLam T (THear (rowsH er)) fun E => tCall (spWhole K er) [] E (tCons (tC (.str "number")) (tCons ta tNil))) σ J H (dueW xs) :=
  ev_hear (Pv := fun d => ∃ v, getN xs 0 = some (v, xs.length) ∧ d = .int v) (Pe := fun C s x => s = "bytes" ∧ ((getN xs 0 = none ∧ x = .int (0 : Nat)) ∨ ∃ v q, getN xs 0 = some (v, q) ∧ q < xs.length ∧ x = .int (q : Nat))) hb (fun J1 H1 w1 t1 E Q qv qe => rd_callX (K := K) (ds := [.str "number", .tuple (oD xs)]) w1 ((ea_consD ev_str (ea_consD h ea_nil)).later t1) ⟨_, xs, rfl, ho, hl, .inl rfl⟩ (fun v d J2 H2 w2 t2 p a2 => qv v d J2 H2 w2 t2 (by
      obtain ⟨v', g, h1 | h1⟩ := p _ xs rfl
      · exact ⟨v', g, h1.2⟩
      · exact absurd (PyData.str.inj h1.1) (by decide +kernel)) a2) fun c x dx v J2 H2 w2 t2 ⟨wd, ys, e, hh⟩ hx av => by
    obtain ⟨e1, e2⟩ := wargs e
    subst e1 e2
    rcases hh with ⟨hs, _⟩ | ⟨_, rfl, hh⟩
    · rcases hs with ⟨z, hz, e⟩ | hs
      · rw [← PyData.str.inj e] at hz
        exact absurd hz (by decide +kernel)
      · cases hs
    · exact qe er.io "bytes" "at" dx v x J2 H2 w2 t2 (by simp) ⟨rfl, hh⟩ hx av) (fun d ⟨v, g, e⟩ => by unfold dueW; rw [g, e]; show _ = if xs.length = xs.length then _ else _; rw [if_pos rfl]) fun C s x ⟨e1, h2⟩ => by
      unfold dueW
      rcases h2 with ⟨g, e2⟩ | ⟨v, q, g, hq, e2⟩
      · rw [g, e1, e2]
      · rw [g, e1, e2]; show _ = if q = xs.length then _ else _; rw [if_neg (by omega)]
/-- a strange word -/
theorem hear_S {wd : PyData} (hb : HasTb M T) (h : EvD K M tb σ J H wd) (h2 : EvD K M ta σ J H (.tuple (oD xs))) (ho : Oct xs) (hl : xs.length < 2 ^ 20) (hs : Strange wd) : EvD K M (LamX.tLam T (THear (rowsH er)) fun E => tCall (spWhole K er) [] E (tCons tb (tCons ta tNil))) σ J H (.list [.str "name", wd, .bool true]) := by
  have no : wd ≠ .str "number" ∧ wd ≠ .str "integer" := by
    rcases hs with ⟨z, hz, rfl⟩ | hs
    · exact ⟨fun e => by rw [PyData.str.inj e] at hz; exact absurd hz (by decide +kernel), fun e => by rw [PyData.str.inj e] at hz; exact absurd hz (by decide +kernel)⟩
    · constructor
      · intro e; rw [e] at hs; cases hs
      · intro e; rw [e] at hs; cases hs
  exact ev_hear (Pv := fun d => False) (Pe := fun C s x => s = "name" ∧ x = wd) hb (fun J1 H1 w1 t1 E Q qv qe => rd_callX (K := K) (ds := [wd, .tuple (oD xs)]) w1 ((ea_consD h (ea_consD h2 ea_nil)).later t1) ⟨_, xs, rfl, ho, hl, .inr (.inr hs)⟩ (fun v d J2 H2 w2 t2 p a2 => by
      obtain ⟨v', g, h1 | h1⟩ := p _ xs rfl
      · exact (no.1 h1.1).elim
      · exact (no.2 h1.1).elim) fun c x dx v J2 H2 w2 t2 ⟨wd', ys, e, hh⟩ hx av => by
    obtain ⟨e1, e2⟩ := wargs e
    subst e1 e2
    rcases hh with ⟨_, rfl, rfl⟩ | ⟨h1 | h1, _⟩
    · exact qe er.nn "name" "name" dx v _ J2 H2 w2 t2 (by simp) ⟨rfl, rfl⟩ hx av
    · exact (no.1 h1).elim
    · exact (no.2 h1).elim) nofun fun C s x ⟨e1, e2⟩ => by rw [e1, e2]
end
end K02

namespace K02
open PySem PySem.Spec
open PyProof.Rows L2 DL
local macro_rules | `(tactic| walk_at "rep") => `(tactic| first | assumption | exact Da.int _ | exact Da.bl _ | exact Da.str _ | exact Da.non | exact Sub.da (by assumption) (by assumption) | exact Sub.da (Tr.jj (by assumption)) (by assumption))
local macro_rules | `(tactic| walk_at "arith") => `(tactic| first | assumption | omega | decide | exact cmul_small (by omega) (by omega) | exact cdiv_small (by omega) (by omega))
local macro_rules | `(tactic| walk_at "shp") => `(tactic| first | exact sh_int _ | exact sh_tup _ | exact sh_list _ | assumption)
local macro_rules | `(tactic| walk_at "od") => `(tactic| first
  | with_reducible exact od_plus
  | with_reducible exact od_sub
  | ((with_reducible refine' od_mul ?h1); walk_at "arith")
  | ((with_reducible refine' od_mod ?h1); walk_at "arith")
  | ((with_reducible refine' od_fdiv ?h1); walk_at "arith")
  | ((with_reducible refine' od_pow ?h1); exact ⟨by decide, by decide, by decide⟩)
  | with_reducible exact od_lt | with_reducible exact od_le | with_reducible exact od_gt | with_reducible exact od_ge
  | ((with_reducible refine' od_plusT ?h1); walk_at "arith")
  | ((with_reducible refine' od_plusL ?h1); walk_at "arith")
  | ((with_reducible refine' od_plusS ?h1); walk_at "arith")
  | with_reducible exact od_isN | with_reducible exact od_notN
  | ((with_reducible refine od_eq ?_ ?_) <;> walk_at "shp")
  | ((with_reducible refine od_ne ?_ ?_) <;> walk_at "shp")
  | ((with_reducible refine od_inL ?_ ?_) <;> walk_at "shp")
  | ((with_reducible refine od_ixL ?_); assumption)
  | ((with_reducible refine od_ixT ?_); assumption))
local macro_rules | `(tactic| walk_at "ea") => `(tactic| first | with_reducible exact ea_nil | ((with_reducible refine' ea_consD ?h1 ?h2); (case h1 => walk_at "ev"); (case h2 => walk_at "ea")))
local macro_rules | `(tactic| walk_at "eo") => `(tactic| first | with_reducible exact eo_none | ((with_reducible refine' eo_at ?h1); (case h1 => walk_at "ev")))
local macro_rules | `(tactic| walk_at "cd") => `(tactic| first
  | with_reducible exact cd_lenL | with_reducible exact cd_lenT | with_reducible exact cd_tupL | with_reducible exact cd_tupT | with_reducible exact cd_lstL | with_reducible exact cd_lstT | with_reducible exact cd_abs | with_reducible exact cd_int)
local macro_rules | `(tactic| walk_at "ev") => `(tactic| first
  | with_reducible exact ev_int | with_reducible exact ev_bl | with_reducible exact ev_str | with_reducible exact ev_non
  | ((with_reducible refine' ev_var ?h1 ?h2); (case h1 => exact rfl); (case h2 => walk_at "rep"))
  | ((with_reducible refine' ev_opD ?h1 ?h2 ?h3); (case h1 => walk_at "ev"); (case h2 => walk_at "ev"); (case h3 => walk_at "od"))
  | ((with_reducible refine' ev_tupD ?h1); (case h1 => walk_at "ea"))
  | ((with_reducible refine' ev_lstD ?h1); (case h1 => walk_at "ea"))
  | ((with_reducible refine' ev_revL ?h1); (case h1 => walk_at "ev"))
  | ((with_reducible refine' ev_slD ?h1 ?h2 ?h3 ?h4); (case h1 => walk_at "ev"); (case h2 => walk_at "eo"); (case h3 => walk_at "eo"); (case h4 => first | with_reducible exact sd_tup | with_reducible exact sd_list))
  | ((with_reducible refine' ev_cbD ?h1 ?h2); (case h1 => walk_at "ea"); (case h2 => walk_at "cd"))
  | ((with_reducible refine' ev_notV ?h1); (case h1 => walk_at "ev"))
  | assumption)
local macro_rules | `(tactic| walk_at "et") => `(tactic| first
  | ((with_reducible refine' et_testD ?h1); (case h1 => walk_at "ev"))
  | ((with_reducible refine' et_BD ?h1); (case h1 => walk_at "ev"))
  | ((with_reducible refine' et_notD ?h1); (case h1 => walk_at "et"))
  | ((with_reducible refine' et_andD ?h1 ?h2); (case h1 => walk_at "et"); (case h2 => intro _; walk_at "et"))
  | ((with_reducible refine' et_orD ?h1 ?h2); (case h1 => walk_at "et"); (case h2 => intro _; walk_at "et"))
  | assumption)
section
variable {P : Program} {w : World} {K : PySem.W.Frag} {mg : Str → Option Value} {base : Heap} {f gh SE : Addr} {fd fdh : FuncData} {er : Errs} {TT : List (Addr × Str)}
theorem ok_any (F : FnP K "_law_any_octets" s__law_any_octets (He.fAd K ("_law_any_octets", none)) fd) (T : Fx mg) (C__law_draw : Ca P w K mg base CX0 1 "_law_draw" ["_law_heap_here", "_law_many"] (spDr K)) (C__law_pick : Ca P w K mg base CX0 2 "_law_pick" ["_law_heap_here", "_law_some"] (spPick K))
    (C__law_octets : Ca P w K mg base CX0 3 "_law_octets" ["_law_heap_here", "_law_many"] (spOcts K)) (C__law_number_at : Ca P w K mg base CX0 1 "_law_number_at" ["_law_octets_here", "_law_at"] (spNat K)) (C_put_number : Ca P w K mg base CX0 1 "put_number" ["number"] (spPutN K))
    (C_get_number : Ca P w K mg base (L2.CX P w) 3 "get_number" ["octets", "at"] (spGetN K er)) (C_get_number_Kat_octets : CaR P w K mg base (L2.CX P w) 3 "get_number" ["octets", "at"] ["at", "octets"] (spGetN K er)) (C_get_integer : Ca P w K mg base (L2.CX P w) 4 "get_integer" ["octets", "at"] (spGetI K er)) (C_read_whole : Ca P w K mg base (L2.CX P w) 5 "read_whole" ["word", "octets"] (spWhole K er))
    (Fh : FnP K "_law_heard" s__law_heard gh fdh) (mh : mg "_law_heard" = some (.ref gh)) (bh : Binds K fdh ["_law_work"] []) (RI : Er P w K mg base "InvalidOctets" er.io "at") (RN : Er P w K mg base "NoName" er.nn "name") (mS : mg "StoreError" = some (.ref SE)) (bK : mg "KeyError" = none) (kin : Kin K er SE)
    (TB : LamX.TabB base mg (He.cT K ("_law_any_octets", none)).1 (He.cT K ("_law_any_octets", none)).2) (mT : ((He.cT K ("_law_any_octets", none)).2, qLam "_law_any_octets") ∈ TT) (uT : ∀ p ∈ TT, p.1 = (He.cT K ("_law_any_octets", none)).2 → p.2 = qLam "_law_any_octets") :
    FnG P w K mg base CX0 8 (He.fAd K ("_law_any_octets", none)) fd ["_law_heap_here"] (spYesT K TT) := by
  have nd := sc__law_any_octets.nd
  refine fn_gc F sc__law_any_octets (fun vs H Q E h => ?_) (fun A outer s H vs Q E hG hr h => ?_)
  · obtain ⟨M, h, g, J, rfl, _⟩ := h
    rfl
  have hu := hr.units
  have C__law_heard : Hears (cxOf CX0 P w K mg base N__law_any_octets "_law_any_octets" (defScope s__law_any_octets) (He.fAd K ("_law_any_octets", none)) (.ref (He.codeOf K ("_law_any_octets", none))) A outer s H E).nox TT 5 "_law_heard" "_law_work" (THear (rowsH er)) :=
    hears_of (X := (cxOf CX0 P w K mg base N__law_any_octets "_law_any_octets" (defScope s__law_any_octets) (He.fAd K ("_law_any_octets", none)) (.ref (He.codeOf K ("_law_any_octets", none))) A outer s H E).nox) Fh mh bh sc__law_heard rfl (Or.inl rfl) (fun cdg => heard_gives (X := (cxOf CX0 P w K mg base N__law_any_octets "_law_any_octets" (defScope s__law_any_octets) (He.fAd K ("_law_any_octets", none)) (.ref (He.codeOf K ("_law_any_octets", none))) A outer s H E).nox) RI RN mS T.b_isinstance bK kin) TB rfl mT uT
  refine ⟨_, PSs.nox (pss_cons (ps_set (i := 1) nd rfl (Or.inr rfl) (xCall C__law_octets (hr.mono (by decide)) pass0 (pa_cons (pv 0) (pa_cons (xCall C__law_pick (hr.mono (by decide)) pass0 (pa_cons (pv 0) (pa_cons (pe_lst (pa_cons pe_int (pa_cons pe_int (pa_cons pe_int (pa_cons pe_int (pa_cons pe_int (pa_cons pe_int (pa_cons pe_int pa_nil)))))))) pa_nil))) pa_nil))))
 (pss_cons (ps_if (pt_cmpR (op_eqD hu) (xCall C__law_draw (hr.mono (by decide)) pass0 (pa_cons (pv 0) (pa_cons pe_int pa_nil))) pe_int (nomark _)) (pss_one (ps_set (i := 1) nd rfl (Or.inr rfl) (pe_op op_plus (xT (rTupOf _) cl_tup T.b_tuple (pa_cons (pe_lc (own := [("_law_octet", 6)]) (g := gName 6) rfl nd (pi_tup (pv 1)) (blkOk_by (own := [("_law_octet", 6)]) (N := N__law_any_octets) (sc := defScope s__law_any_octets) (by decide +kernel)) (fun _ _ _ _ _ => (pg_name (i := 6) nd rfl (Or.inl rfl))) (fun _ _ _ _ _ => pts_nil) (fun _ _ _ _ _ => (pe_op (op_plusK K rfl) pe_int (pe_op op_mod (xT (rInt1) cl_int T.b_int (pa_cons (pv 6) pa_nil)) pe_int)))) pa_nil)) (xCall C__law_octets (hr.mono (by decide)) pass0 (pa_cons (pv 0) (pa_cons pe_int pa_nil))))))
 pss_nil)
 (pss_cons (ps_set (i := 2) nd rfl (Or.inr rfl) (xCall C__law_draw (hr.mono (by decide)) pass0 (pa_cons (pv 0) (pa_cons (pe_op op_plus (xB (rLen _) cl_len T.b_len (pa_cons (pv 1) pa_nil)) pe_int) pa_nil))))
 (pss_cons (ps_asg (xCall C__law_number_at (hr.mono (by decide)) pass0 (pa_cons (pv 1) (pa_cons (pv 2) pa_nil))) (pg_tup rfl (pgs_cons (pg_name (i := 3) nd rfl (Or.inl rfl)) (pgs_cons (pg_name (i := 4) nd rfl (Or.inl rfl)) pgs_nil))))
 (pss_cons (ps_set (i := 5) nd rfl (Or.inl rfl) (pe_ifExp (pt_cmpR op_isNo (pv 3) pe_non (nomark _)) (pe_lst (pa_cons pe_str (pa_cons (pv 2) (pa_cons pe_bl pa_nil)))) (pe_lst (pa_cons pe_str (pa_cons (pe_tup (pa_cons (pv 3) (pa_cons (pv 4) pa_nil))) pa_nil)))))
 (pss_cons (ps_if (pt_cmpR (op_neD hu) (xHears (t := fun E => (tCall (spGetN K er) [] E (tCons (tVar 1) (tCons (tVar 2) tNil)))) C__law_heard (hr.mono (by decide)) (fun _ _ _ _ _ _ _ hr2 => (xCall C_get_number (hr2.mono (by decide)) passLam (pa_cons (pv 1) (pa_cons (pv 2) pa_nil)))) (L := (by show LamX.lamSB (defScope s__law_any_octets) _ = true; decide +kernel))) (pv 5) (nomark _)) (pss_one (ps_ret pe_bl))
 pss_nil)
 (pss_cons (ps_if (pt_cmpR (op_neD hu) (xHears (t := fun E => (fun σ H Q => (tCons (tVar 2) (tCons (tVar 1) tNil)) σ H fun zs H2 => zs.length = (["at", "octets"] : List Str).length ∧ spGetN K er zs.reverse H2 Q E)) C__law_heard (hr.mono (by decide)) (fun _ _ _ _ _ _ _ hr2 => (xCallKr C_get_number_Kat_octets (hr2.mono (by decide)) passLam (pk_cons (pv 2) <| pk_cons (pv 1) <| pk_nil))) (L := (by show LamX.lamSB (defScope s__law_any_octets) _ = true; decide +kernel))) (pv 5) (nomark _)) (pss_one (ps_ret pe_bl))
 pss_nil)
 (pss_cons (ps_if (PW.pt (pw_and (pt_cmpR op_notNo (pv 3) pe_non (nomark _)) (pw_and1 (pt_cmpR (op_neD hu) (xCall C_put_number (hr.mono (by decide)) pass0 (pa_cons (pv 3) pa_nil)) (pe_slice sl_tupA (pv 1) (po_some (pv 2)) (po_some (pv 4))) (nomark _))))) (pss_one (ps_ret pe_bl))
 pss_nil)
 (pss_cons (ps_if (pt_cmpR op_notNo (pv 3) pe_non (nomark _)) (pss_one (ps_set (i := 5) nd rfl (Or.inl rfl) (pe_lst (pa_cons pe_str (pa_cons (pe_tup (pa_cons (pe_ifExp (pt_cmpR (op_eqD hu) (pe_op op_mod (xT (rInt1) cl_int T.b_int (pa_cons (pv 3) pa_nil)) pe_int) pe_int (nomark _)) (pe_op op_fdivW (pv 3) pe_int) (pe_op op_sub pe_int (pe_op op_fdivW (pe_op op_plus (pv 3) pe_int) pe_int))) (pa_cons (pv 4) pa_nil))) pa_nil)))))
 pss_nil)
 (pss_cons (ps_if (pt_cmpR (op_neD hu) (xHears (t := fun E => (tCall (spGetI K er) [] E (tCons (tVar 1) (tCons (tVar 2) tNil)))) C__law_heard (hr.mono (by decide)) (fun _ _ _ _ _ _ _ hr2 => (xCall C_get_integer (hr2.mono (by decide)) passLam (pa_cons (pv 1) (pa_cons (pv 2) pa_nil)))) (L := (by show LamX.lamSB (defScope s__law_any_octets) _ = true; decide +kernel))) (pv 5) (nomark _)) (pss_one (ps_ret pe_bl))
 pss_nil)
 (pss_cons (ps_asg (xCall C__law_number_at (hr.mono (by decide)) pass0 (pa_cons (pv 1) (pa_cons pe_int pa_nil))) (pg_tup rfl (pgs_cons (pg_name (i := 3) nd rfl (Or.inl rfl)) (pgs_cons (pg_name (i := 4) nd rfl (Or.inl rfl)) pgs_nil))))
 (pss_cons (ps_set (i := 5) nd rfl (Or.inl rfl) (pe_ifExp (PW.pt (pw_and (pt_cmpR op_notNo (pv 3) pe_non (nomark _)) (pw_and1 (pt_cmpR (op_eqD hu) (pv 4) (xB (rLen _) cl_len T.b_len (pa_cons (pv 1) pa_nil)) (nomark _))))) (pe_lst (pa_cons pe_str (pa_cons (pv 3) pa_nil))) (pe_lst (pa_cons pe_str (pa_cons (pv 4) (pa_cons pe_bl pa_nil))))))
 (pss_one (ps_ret (pe_cmpR (op_eqD hu) (xHears (t := fun E => (tCall (spWhole K er) [] E (tCons (tC (.str "number")) (tCons (tVar 1) tNil)))) C__law_heard (hr.mono (by decide)) (fun _ _ _ _ _ _ _ hr2 => (xCall C_read_whole (hr2.mono (by decide)) passLam (pa_cons pe_str (pa_cons (pv 1) pa_nil)))) (L := (by show LamX.lamSB (defScope s__law_any_octets) _ = true; decide +kernel))) (pv 5) (nomark _)))))))))))))))), ?_⟩
  dsimp only [cxOf]
  obtain ⟨M, h, g, J, rfl, hd, hb, w0, q⟩ := h
  have lim : ∀ {n : Nat}, n ≤ 1000 → n ≤ sizeLine := fun h => Nat.le_trans h (by decide)
  have app : ∀ {x y : List Int}, Oct x → Oct y → Oct (x ++ y) := fun hx hy z hz => (List.mem_append.mp hz).elim (hx z) (hy z)
  refine s_asg (K := K) (P := isOcts 12) w0 (ev_octs (m := 12) hd rfl (ev_pick (P := fun d => ∃ i : Int, d = .int i ∧ 0 ≤ i ∧ i ≤ 12) hd rfl (Pa := (· = .list [.int 0, .int 1, .int 2, .int 3, .int 9, .int 10, .int 12])) (ev_lstD (ea_consD ev_int (ea_consD ev_int (ea_consD ev_int (ea_consD ev_int (ea_consD ev_int (ea_consD ev_int (ea_consD ev_int ea_nil)))))))) ?_) (by decide)) fun v1 d1 J1 H1 w1 t1 ⟨ys, e1, oy, ly⟩ a1 => ?_
  · rintro d rfl
    refine ⟨_, rfl, by simp, by decide, fun x hx => ?_⟩
    simp only [List.mem_cons, List.not_mem_nil, or_false] at hx
    rcases hx with rfl | rfl | rfl | rfl | rfl | rfl | rfl <;> exact ⟨_, rfl, by omega⟩
  subst e1
  try dsimp only
  refine s_fork (fun σ' H' => ∃ (v1 : V) (xs : List Int) (J' : Hp) (o6 : Option V), σ' = [some (.ref h), some v1, none, none, none, none, o6] ∧ Wf M J' H' ∧ Tr M J H J' H' ∧ Da K J' v1 (.tuple (oD xs)) ∧ Oct xs ∧ xs.length ≤ 13) ?_ fun hR => ?_
  case refine_2 =>
    refine s_if (Pb := fun _ => True) w1 (et_test (K := K) ((ev_op (Px := fun d => ∃ i, d = .int i ∧ 0 ≤ i ∧ i < 4) (Py := (· = .int 0)) (ev_draw (n := 4) hd rfl ev_int (by omega)) ev_int ?_))) (fun _ J2 H2 w2 t2 => ?_) (fun _ J2 H2 w2 t2 => ?_)
    · rintro dx dy ⟨i, rfl, _⟩ rfl
      exact OpD.mono (od_eq (sh_int _) (sh_int _)) fun d e => ⟨_, e, trivial⟩
    · have b1 := t2.jj.da a1
      try dsimp only
      refine s_asg (K := K) (P := isOcts 13) w2 ?_ fun v3 d3 J3 H3 w3 t3 ⟨zs, e3, oz, lz⟩ a3 => ?_
      · refine ev_op (Px := isOcts 12) (Py := isOcts 1) ?_ (ev_octs (m := 1) hd rfl (ev_int.mono fun d e => ⟨1, e, by decide, by decide⟩) (by decide)) ?_
        · refine ev_cb (Pa := fun ds => ∃ b, ds = [.list (oD b)] ∧ Oct b ∧ b.length = ys.length) ?_ ?_
          · refine (ea_cons (Px := fun d => ∃ b, d = .list (oD b) ∧ Oct b ∧ b.length = ys.length) (ev_lc (fun ds k acc => ∃ b, acc = oD b ∧ Oct b ∧ b.length = k) (ew_tupD (ev_var rfl b1)) ?_ (fun _ _ => ⟨[], rfl, nofun, rfl⟩) (fun x => rfl) ?_ ?_) ea_nil).mono ?_
            · rintro ds rfl
              rw [oD_len]
              exact Nat.lt_of_lt_of_le (show ys.length < 1000 by omega) (by decide)
            · rintro ds k d acc x J3 H3 rfl hk ⟨b, rfl, hb, hl⟩ w3 t3 ax
              obtain ⟨o, ho, rfl⟩ := oD_at hk
              have oo := oy o (List.mem_of_getElem? ho)
              rw [da_int ax]
              refine ⟨(· = true), et_yes, nofun, fun _ => ?_⟩
              refine EvP.mono (P := (· = .int (128 + o % 128))) (ev_opD ev_int (ev_opD (ev_cbD (ea_consD (ev_var rfl (.int _)) ea_nil) cd_int) ev_int (od_mod (by decide))) od_plus) ?_
              rintro d rfl
              refine ⟨b ++ [128 + o % 128], by rw [← oD_app]; rfl, app hb (fun x hx => by rw [List.mem_singleton.mp hx]; omega), by rw [List.length_append, hl]; rfl⟩
            · rintro ds acc rfl ⟨b, rfl, hb, hl⟩
              exact ⟨b, rfl, hb, by rw [hl, oD_len]⟩
            · rintro ds ⟨d, r, rfl, ⟨b, rfl, hb, hl⟩, rfl⟩
              exact ⟨b, rfl, hb, hl⟩
          · rintro ds ⟨b, rfl, hb, hl⟩ vs J H w a Q q
            exact cd_tupL vs J H w a Q fun v d J2 H2 w2 t2 e a => q v d J2 H2 w2 t2 ⟨b, e, hb, by omega⟩ a
        · rintro dx dy ⟨x, rfl, hx, lx⟩ ⟨y, rfl, hy, ly⟩
          refine OpD.mono (od_plusT (by rw [oD_len, oD_len]; exact lim (by omega))) fun d e => ⟨x ++ y, by rw [e, oD_app], app hx hy, by rw [List.length_append]; omega⟩
      · subst e3
        exact hR _ _ ⟨v3, zs, J3, _, rfl, w3, t1.trans (t2.trans t3), a3, oz, by omega⟩
    · exact hR _ _ ⟨v1, ys, J2, _, rfl, w2, t1.trans t2, t2.jj.da a1, oy, by omega⟩
  rintro σ' H' ⟨v1, xs, J', o6, rfl, w', t', a1, ho, hl⟩
  have hl20 : xs.length < 2 ^ 20 := Nat.lt_of_le_of_lt hl (by decide)
  try dsimp only
  refine s_asg (K := K) (P := fun d => ∃ i, d = .int i ∧ 0 ≤ i ∧ i < (xs.length : Int) + 1) w' (ev_draw hd rfl (ev_eq (ev_opD (ev_cbD (ea_consD (ev_var rfl a1) ea_nil) cd_lenT) ev_int od_plus) (by rw [oD_len])) (by omega)) fun v2 d2 J2 H2 w2 t2 ⟨i, e2, i0, i1⟩ a2 => ?_
  subst e2
  rw [da_int a2]
  obtain ⟨n, rfl⟩ := Int.eq_ofNat_of_zero_le i0
  have hn : n ≤ xs.length := by omega
  have b1 := t2.jj.da a1
  try dsimp only
  refine s_tup2 (K := K) (ds := []) (P := (· = numD xs n)) (P' := (· = .int (plD xs n))) w2 ((ev_callD (ea_consD (ev_var rfl b1) (ea_consD (ev_var rfl (.int (n : Int))) ea_nil)) (spF_D ⟨xs, n, rfl, ho, hn, hl20⟩)).mono fun d e => ⟨_, _, (e xs n rfl).trans (ansN_eq xs n), rfl, rfl⟩) fun v3 v4 d3 d4 J3 H3 w3 t3 e3 e4 a3 a4 => ?_
  subst e3 e4
  rw [da_int a4]
  have c1 := t3.jj.da b1
  have isNum : isNo (numD xs n) = (getN xs n).isNone := by unfold numD; cases getN xs n <;> rfl
  try dsimp only
  refine s_asgD (K := K) (d := dueG (fun v => v) xs n) w3 (ev_if (Pb := (· = (getN xs n).isNone)) (et_testD (K := K) (ev_eq (ev_opD (ev_var rfl a3) ev_non od_isN) (by rw [isNum]))) (fun hz => ?_) (fun hz => ?_)) fun v5 J5 H5 w5 t5 a5 => ?_
  · have hg : getN xs n = none := by cases e : getN xs n <;> rw [e] at hz <;> first | rfl | cases hz
    exact ev_eq (ev_lstD (ea_consD ev_str (ea_consD (ev_var rfl (.int (n : Int))) (ea_consD ev_bl ea_nil)))) (by unfold dueG; rw [hg])
  · obtain ⟨p, hg⟩ : ∃ p, getN xs n = some p := by cases e : getN xs n with
      | none => rw [e] at hz; cases hz
      | some p => exact ⟨p, rfl⟩
    exact ev_eq (ev_lstD (ea_consD ev_str (ea_consD (ev_tupD (ea_consD (ev_var rfl a3) (ea_consD (ev_var rfl (.int (plD xs n : Nat))) ea_nil))) ea_nil))) (by unfold dueG numD plD pairD; rw [hg])
  have hD := dueG_ok (fun v => v) xs n
  have d1 := t5.jj.da c1
  try dsimp only
  refine s_ifD (b := false) w5 (et_testD (K := K) (ev_eq (ev_opD (hear_N (er := er) hb (ev_var rfl d1) (ev_var rfl (.int (n : Int))) ho hn hl20) (ev_var rfl a5) (od_ne hD.1 hD.1)) (by rw [hD.2]; rfl))) nofun (fun _ J6 H6 w6 t6 => s_next ?_)
  have e1 := t6.jj.da d1
  have e5 := t6.jj.da a5
  try dsimp only
  refine s_ifD (b := false) w6 (et_testD (K := K) (ev_eq (ev_opD (hear_NR (er := er) hb (ev_var rfl e1) (ev_var rfl (.int (n : Int))) ho hn hl20) (ev_var rfl e5) (od_ne hD.1 hD.1)) (by rw [hD.2]; rfl))) nofun (fun _ J7 H7 w7 t7 => s_next ?_)
  have f1 := t7.jj.da e1
  have f3 := (t5.trans (t6.trans t7)).jj.da a3
  have f5 := t7.jj.da e5
  try dsimp only
  refine s_ifD (b := false) w7 (et_eq (et_andD (a := !isNo (numD xs n)) (b := false) (et_testD (K := K) (ev_opD (ev_var rfl f3) ev_non od_notN)) fun hz => ?_) (Bool.and_false _)) nofun (fun _ J8 H8 w8 t8 => s_next ?_)
  · obtain ⟨v', p, hg⟩ : ∃ v' p, getN xs n = some (v', p) := by
      rw [isNum] at hz
      cases e : getN xs n with
      | none => rw [e] at hz; cases hz
      | some p => exact ⟨p.1, p.2, rfl⟩
    obtain ⟨m, rfl, h1, h2, h3, h4⟩ := getN_some ho hg
    have en : numD xs n = .int (m : Int) := by unfold numD; rw [hg]
    have ep : plD xs n = p := by unfold plD; rw [hg]
    rw [en] at f3
    refine et_testD (K := K) (ev_eq (ev_opD (dx := .tuple (oD (figsN m))) (dy := .tuple (oD (figsN m))) (ev_putN (ev_var rfl f3) h4) (ev_eq (ev_slD (ev_var rfl f1) (eo_at (ev_var rfl (.int (n : Int)))) (eo_at (ev_var rfl (.int (plD xs n : Nat)))) sd_tup) ?_) (od_ne (sh_tup _) (sh_tup _))) (by rw [eqv_tup]; simp))
    rw [cut_oD, ep, cutA_nat, h3]
  have g1 := t8.jj.da f1
  have g3 := t8.jj.da f3
  have g5 := t8.jj.da f5
  have t08 := t'.trans (t2.trans (t3.trans (t5.trans (t6.trans (t7.trans t8)))))
  try dsimp only
  refine s_fork (fun σ' H' => ∃ (v5 : V) (J' : Hp), σ' = [some (.ref h), some v1, some (.int (n : Int)), some v3, some (.int (plD xs n : Nat)), some v5, o6] ∧ Wf M J' H' ∧ Tr M J H J' H' ∧ Da K J' v1 (.tuple (oD xs)) ∧ Da K J' v5 (dueG unI xs n)) ?_ fun hR => ?_
  case refine_2 =>
    refine s_ifD (b := !isNo (numD xs n)) w8 (et_testD (K := K) (ev_opD (ev_var rfl g3) ev_non od_notN)) (fun hz J9 H9 w9 t9 => ?_) (fun hz J9 H9 w9 t9 => ?_)
    · obtain ⟨v', p, hg⟩ : ∃ v' p, getN xs n = some (v', p) := by
        rw [isNum] at hz
        cases e : getN xs n with
        | none => rw [e] at hz; cases hz
        | some p => exact ⟨p.1, p.2, rfl⟩
      have en : numD xs n = .int v' := by unfold numD; rw [hg]
      have ep : plD xs n = p := by unfold plD; rw [hg]
      have k3 := t9.jj.da g3
      rw [en] at k3
      have vi : ∀ {J' : Hp}, Da K J' v3 (.int v') → v3 = .int v' := fun h => da_int h
      have ev3 := vi k3
      subst ev3
      try dsimp only
      refine s_asgD (K := K) (d := dueG unI xs n) w9 (ev_eq (ev_lstD (ea_consD ev_str (ea_consD (ev_tupD (ea_consD (d := .int (unI v')) (ev_if (Pb := (· = decide (v' % 2 = 0))) (et_testD (K := K) (ev_eq (ev_opD (ev_opD (ev_cbD (ea_consD (ev_var rfl (.int v')) ea_nil) cd_int) ev_int (od_mod (by decide))) ev_int (od_eq (sh_int _) (sh_int _))) (by rw [eqv_int]))) (fun hz => ?_) (fun hz => ?_)) (ea_consD (ev_var rfl (.int (plD xs n : Nat))) ea_nil))) ea_nil))) (by unfold dueG pairD; rw [hg, ep])) fun v6 J10 H10 w10 t10 a6 => hR _ _ ⟨v6, J10, rfl, w10, t08.trans (t9.trans t10), (t9.trans t10).jj.da g1, a6⟩
      · have hz := of_decide_eq_true hz.symm
        refine ev_eq (ev_opD (ev_var rfl (.int v')) ev_int (od_fdiv (cdiv_small (by decide) (by decide)))) ?_
        unfold unI
        rw [if_pos hz]
      · have hz := of_decide_eq_false hz.symm
        refine ev_eq (ev_opD ev_int (ev_opD (ev_opD (ev_var rfl (.int v')) ev_int od_plus) ev_int (od_fdiv (cdiv_small (by decide) (by decide)))) od_sub) ?_
        unfold unI
        rw [if_neg hz]
        congr 1
        omega
    · have hg : getN xs n = none := by
        rw [isNum] at hz
        cases e : getN xs n with
        | none => rfl
        | some p => rw [e] at hz; cases hz
      have ed : dueG (fun v => v) xs n = dueG unI xs n := by unfold dueG; rw [hg]
      rw [ed] at g5
      exact hR _ _ ⟨v5, J9, rfl, w9, t08.trans t9, t9.jj.da g1, t9.jj.da g5⟩
  rintro σ' H' ⟨v5, J9, rfl, w9, t09, k1, k5⟩
  have hI := dueG_ok unI xs n
  try dsimp only
  refine s_ifD (b := false) w9 (et_testD (K := K) (ev_eq (ev_opD (hear_I (er := er) hb (ev_var rfl k1) (ev_var rfl (.int (n : Int))) ho hn hl20) (ev_var rfl k5) (od_ne hI.1 hI.1)) (by rw [hI.2]; rfl))) nofun (fun _ J10 H10 w10 t10 => s_next ?_)
  have l1 := t10.jj.da k1
  try dsimp only
  refine s_tup2 (K := K) (ds := []) (P := (· = numD xs 0)) (P' := (· = .int (plD xs 0))) w10 ((ev_callD (ea_consD (ev_var rfl l1) (ea_consD (ev_int (i := ((0 : Nat) : Int))) ea_nil)) (spF_D ⟨xs, 0, rfl, ho, Nat.zero_le _, hl20⟩)).mono fun d e => ⟨_, _, (e xs 0 rfl).trans (ansN_eq xs 0), rfl, rfl⟩) fun v7 v8 d7 d8 J11 H11 w11 t11 e7 e8 a7 a8 => ?_
  subst e7 e8
  rw [da_int a8]
  have m1 := t11.jj.da l1
  have hW := dueW_ok xs
  try dsimp only
  refine s_asgD (K := K) (d := dueW xs) w11 (ev_if (Pb := (· = (!isNo (numD xs 0) && decide (plD xs 0 = xs.length)))) (et_andD (et_testD (K := K) (ev_opD (ev_var rfl a7) ev_non od_notN)) fun _ => et_testD (K := K) (ev_eq (ev_opD (ev_var rfl (.int (plD xs 0 : Nat))) (ev_eq (ev_cbD (ea_consD (ev_var rfl m1) ea_nil) cd_lenT) (d' := .int (xs.length : Nat)) (by rw [oD_len])) (od_eq (sh_int _) (sh_int _))) (by rw [eqv_int]; congr 1; exact decide_eq_decide.mpr (by omega)))) (fun hz => ?_) (fun hz => ?_)) fun v9 J12 H12 w12 t12 a9 => ?_
  · refine ev_eq (ev_lstD (ea_consD ev_str (ea_consD (ev_var rfl a7) ea_nil))) ?_
    unfold numD plD at hz
    unfold dueW numD
    cases e : getN xs 0 with
    | none => rw [e] at hz; cases hz
    | some p =>
      rw [e] at hz
      have hz : p.2 = xs.length := of_decide_eq_true hz.symm
      show _ = if p.2 = xs.length then _ else _
      rw [if_pos hz]
  · refine ev_eq (ev_lstD (ea_consD ev_str (ea_consD (ev_var rfl (.int (plD xs 0 : Nat))) (ea_consD ev_bl ea_nil)))) ?_
    unfold numD plD at hz
    unfold dueW plD
    cases e : getN xs 0 with
    | none => rfl
    | some p =>
      rw [e] at hz
      have hz : ¬ p.2 = xs.length := of_decide_eq_false hz.symm
      show _ = if p.2 = xs.length then _ else _
      rw [if_neg hz]
  have n1 := t12.jj.da m1
  try dsimp only
  exact s_retD (K := K) (d := .bool true) w12 (ev_eq (ev_opD (hear_W (er := er) hb (ev_var rfl n1) ho hl20) (ev_var rfl a9) (od_eq hW.1 hW.1)) (by rw [hW.2])) fun v14 J14 H14 w14 t14 a14 => q v14 J14 H14 w14 (t09.trans (t10.trans (t11.trans (t12.trans t14)))) a14
end
end K02

namespace K02
open PySem PySem.Spec
open PyProof.Rows L2 DL
local macro_rules | `(tactic| walk_at "rep") => `(tactic| first | assumption | exact Da.int _ | exact Da.bl _ | exact Da.str _ | exact Da.non | exact Sub.da (by assumption) (by assumption) | exact Sub.da (Tr.jj (by assumption)) (by assumption))
local macro_rules | `(tactic| walk_at "arith") => `(tactic| first | assumption | omega | decide | exact cmul_small (by omega) (by omega) | exact cdiv_small (by omega) (by omega))
local macro_rules | `(tactic| walk_at "shp") => `(tactic| first | exact sh_int _ | exact sh_tup _ | exact sh_list _ | assumption)
local macro_rules | `(tactic| walk_at "od") => `(tactic| first
  | with_reducible exact od_plus
  | with_reducible exact od_sub
  | ((with_reducible refine' od_mul ?h1); walk_at "arith")
  | ((with_reducible refine' od_mod ?h1); walk_at "arith")
  | ((with_reducible refine' od_fdiv ?h1); walk_at "arith")
  | ((with_reducible refine' od_pow ?h1); exact ⟨by decide, by decide, by decide⟩)
  | with_reducible exact od_lt | with_reducible exact od_le | with_reducible exact od_gt | with_reducible exact od_ge
  | ((with_reducible refine' od_plusT ?h1); walk_at "arith")
  | ((with_reducible refine' od_plusL ?h1); walk_at "arith")
  | ((with_reducible refine' od_plusS ?h1); walk_at "arith")
  | with_reducible exact od_isN | with_reducible exact od_notN
  | ((with_reducible refine od_eq ?_ ?_) <;> walk_at "shp")
  | ((with_reducible refine od_ne ?_ ?_) <;> walk_at "shp")
  | ((with_reducible refine od_inL ?_ ?_) <;> walk_at "shp")
  | ((with_reducible refine od_ixL ?_); assumption)
  | ((with_reducible refine od_ixT ?_); assumption))
local macro_rules | `(tactic| walk_at "ea") => `(tactic| first | with_reducible exact ea_nil | ((with_reducible refine' ea_consD ?h1 ?h2); (case h1 => walk_at "ev"); (case h2 => walk_at "ea")))
local macro_rules | `(tactic| walk_at "eo") => `(tactic| first | with_reducible exact eo_none | ((with_reducible refine' eo_at ?h1); (case h1 => walk_at "ev")))
local macro_rules | `(tactic| walk_at "cd") => `(tactic| first
  | with_reducible exact cd_lenL | with_reducible exact cd_lenT | with_reducible exact cd_tupL | with_reducible exact cd_tupT | with_reducible exact cd_lstL | with_reducible exact cd_lstT | with_reducible exact cd_abs | with_reducible exact cd_int)
local macro_rules | `(tactic| walk_at "ev") => `(tactic| first
  | with_reducible exact ev_int | with_reducible exact ev_bl | with_reducible exact ev_str | with_reducible exact ev_non
  | ((with_reducible refine' ev_var ?h1 ?h2); (case h1 => exact rfl); (case h2 => walk_at "rep"))
  | ((with_reducible refine' ev_opD ?h1 ?h2 ?h3); (case h1 => walk_at "ev"); (case h2 => walk_at "ev"); (case h3 => walk_at "od"))
  | ((with_reducible refine' ev_tupD ?h1); (case h1 => walk_at "ea"))
  | ((with_reducible refine' ev_lstD ?h1); (case h1 => walk_at "ea"))
  | ((with_reducible refine' ev_revL ?h1); (case h1 => walk_at "ev"))
  | ((with_reducible refine' ev_slD ?h1 ?h2 ?h3 ?h4); (case h1 => walk_at "ev"); (case h2 => walk_at "eo"); (case h3 => walk_at "eo"); (case h4 => first | with_reducible exact sd_tup | with_reducible exact sd_list))
  | ((with_reducible refine' ev_cbD ?h1 ?h2); (case h1 => walk_at "ea"); (case h2 => walk_at "cd"))
  | ((with_reducible refine' ev_notV ?h1); (case h1 => walk_at "ev"))
  | assumption)
local macro_rules | `(tactic| walk_at "et") => `(tactic| first
  | ((with_reducible refine' et_testD ?h1); (case h1 => walk_at "ev"))
  | ((with_reducible refine' et_BD ?h1); (case h1 => walk_at "ev"))
  | ((with_reducible refine' et_notD ?h1); (case h1 => walk_at "et"))
  | ((with_reducible refine' et_andD ?h1 ?h2); (case h1 => walk_at "et"); (case h2 => intro _; walk_at "et"))
  | ((with_reducible refine' et_orD ?h1 ?h2); (case h1 => walk_at "et"); (case h2 => intro _; walk_at "et"))
  | assumption)
abbrev s_law : Stmt := top 37
abbrev N_law : List Str := ["_law_script", "_law_heap_here", "_law_turn", "_law_word"]
theorem sc_law : FnScope N_law ["_law_script"] (defScope s_law) := ⟨rfl, rfl, rfl, by decide +kernel, rfl, by decide +kernel, by decide +kernel⟩
abbrev tabsL (K : PySem.W.Frag) : List (Addr × Str) := [((He.cT K ("_law_any_octets", none)).2, qLam "_law_any_octets"), ((He.cT K ("law", none)).2, qLam "law")]
def spLaw (K : PySem.W.Frag) : Sp := fun vs H Q _ => ∃ (a : Addr) (ns : List Int), vs = [.ref a] ∧ SqL K H a (ns.map V.int) ∧ (∀ p ∈ tabsL K, H p.1 = some (.tbl #[])) ∧ ∀ H', Q (.bl true) H'
abbrev nmD (d : PyData) : PyData := .list [.str "name", d, .bool true]
def okWord (d : PyData) : Prop := Strange d ∧ SeqAt.shaped (nmD d) = true ∧ PyData.eqv (nmD d) (nmD d) = true
theorem okWord_of {d : PyData} (h : Strange d) (h2 : (nmD d).canLay0 = true) (h3 : (nmD d).depth ≤ 60) : okWord d := ⟨h, lay_eq h2 h3⟩
section
variable {P : Program} {w : World} {K : PySem.W.Frag} {mg : Str → Option Value} {base : Heap} {f gh SE : Addr} {fd fdh : FuncData} {er : Errs} {M : Md} {h g : Addr} {σ : L2.St} {J H : Hp} {TT : List (Addr × Str)}
theorem ev_yes (hd : HasDr M h g) (hs : σ[1]? = some (some (.ref h))) : EvD K M (tCall (spYes K) [] E0 (tCons (tVar 1) tNil)) σ J H (.bool true) :=
  ev_callH hd hs ea_nil fun ds e => ⟨e, fun d p => p⟩
theorem ev_yesT (hd : HasDr M h g) (hb : HasTb M TT) (hs : σ[1]? = some (some (.ref h))) : EvD K M (tCall (spYesT K TT) [] E0 (tCons (tVar 1) tNil)) σ J H (.bool true) := fun J1 H1 w t Q q =>
  ⟨.ref h, hs, M, h, g, J1, rfl, hd, hb, w, fun v J2 H2 w2 t2 a => q v _ J2 H2 w2 t2 rfl a⟩
theorem ok_law (F : FnP K "law" s_law (He.fAd K ("law", none)) fd) (T : Fx mg) (C__law_heap : Ca P w K mg base CX0 1 "_law_heap" ["_law_script", "_law_base"] (spHeap K)) (C__law_pick : Ca P w K mg base CX0 2 "_law_pick" ["_law_heap_here", "_law_some"] (spPick K)) (C_read_whole : Ca P w K mg base (L2.CX P w) 5 "read_whole" ["word", "octets"] (spWhole K er))
    (C__law_there_and_back : CaG P w K mg base CX0 7 "_law_there_and_back" ["_law_heap_here"] (spYes K)) (C__law_any_octets : CaG P w K mg base CX0 8 "_law_any_octets" ["_law_heap_here"] (spYesT K (tabsL K)))
    (Fh : FnP K "_law_heard" s__law_heard gh fdh) (mh : mg "_law_heard" = some (.ref gh)) (bh : Binds K fdh ["_law_work"] []) (RI : Er P w K mg base "InvalidOctets" er.io "at") (RN : Er P w K mg base "NoName" er.nn "name") (mS : mg "StoreError" = some (.ref SE)) (bK : mg "KeyError" = none) (kin : Kin K er SE)
    (TB : LamX.TabB base mg (He.cT K ("law", none)).1 (He.cT K ("law", none)).2) (uT : ∀ p ∈ tabsL K, p.1 = (He.cT K ("law", none)).2 → p.2 = qLam "law") : FnG P w K mg base CX0 9 (He.fAd K ("law", none)) fd ["_law_script"] (spLaw K) := by
  have nd := sc_law.nd
  refine fn_gc F sc_law (fun vs H Q E h => ?_) (fun A outer s H vs Q E hG hr h => ?_)
  · obtain ⟨a, ns, rfl, _⟩ := h
    rfl
  have hu := hr.units
  have C__law_heard : Hears (cxOf CX0 P w K mg base N_law "law" (defScope s_law) (He.fAd K ("law", none)) (.ref (He.codeOf K ("law", none))) A outer s H E).nox (tabsL K) 5 "_law_heard" "_law_work" (THear (rowsH er)) :=
    hears_of (X := (cxOf CX0 P w K mg base N_law "law" (defScope s_law) (He.fAd K ("law", none)) (.ref (He.codeOf K ("law", none))) A outer s H E).nox) Fh mh bh sc__law_heard rfl (Or.inl rfl) (fun cdg => heard_gives (X := (cxOf CX0 P w K mg base N_law "law" (defScope s_law) (He.fAd K ("law", none)) (.ref (He.codeOf K ("law", none))) A outer s H E).nox) RI RN mS T.b_isinstance bK kin) TB rfl (List.mem_cons_of_mem _ (List.mem_singleton.mpr rfl)) uT
  refine ⟨_, PSs.nox (pss_cons (ps_set (i := 1) nd rfl (Or.inl rfl) (xCall C__law_heap (hr.mono (by decide)) pass0 (pa_cons (pv 0) (pa_cons pe_int pa_nil))))
 (pss_cons (ps_for PassesOwn.never rfl (pi_range1 rfl T.b_range (pa_cons pe_int pa_nil)) (pg_name (i := 2) nd rfl (Or.inl rfl))
 (pss_one (ps_if (PW.pt (pw_or (pt_not (pt_val (xCallG C__law_there_and_back hG (hr.mono (by decide)) pass0 (pa_cons (pv 1) pa_nil)))) (pw_or (pt_not (pt_val (xCallG C__law_any_octets hG (hr.mono (by decide)) pass0 (pa_cons (pv 1) pa_nil)))) (pw_or1 (pt_not (pt_val (xCallG C__law_any_octets hG (hr.mono (by decide)) pass0 (pa_cons (pv 1) pa_nil)))))))) (pss_one (ps_ret pe_bl))
 pss_nil)))
 (pss_cons (ps_set (i := 3) nd rfl (Or.inr rfl) (xCall C__law_pick (hr.mono (by decide)) pass0 (pa_cons (pv 1) (pa_cons (pe_lst (pa_cons pe_str (pa_cons pe_str (pa_cons pe_non (pa_cons pe_int (pa_cons pe_str (pa_cons (pe_tup (pa_cons pe_str pa_nil)) (pa_cons (pe_lst (pa_cons pe_str pa_nil)) (pa_cons pe_bl (pa_cons pe_str (pa_cons pe_str pa_nil))))))))))) pa_nil))))
 (pss_one (ps_ret (pe_cmpR (op_eqD hu) (xHears (t := fun E => (tCall (spWhole K er) [] E (tCons (tVar 3) (tCons (tTup (tCons (tC (.int 0)) tNil)) tNil)))) C__law_heard (hr.mono (by decide)) (fun _ _ _ _ _ _ _ hr2 => (xCall C_read_whole (hr2.mono (by decide)) passLam (pa_cons (pv 3) (pa_cons (pe_tup (pa_cons pe_int pa_nil)) pa_nil)))) (L := (by show LamX.lamSB (defScope s_law) _ = true; decide +kernel))) (pe_lst (pa_cons pe_str (pa_cons (pv 3) (pa_cons pe_bl pa_nil)))) (nomark _))))))), ?_⟩
  dsimp only [cxOf]
  obtain ⟨a, ns, rfl, hS, hT, q⟩ := h
  refine ⟨.ref a, rfl, a, ns, 2, rfl, hS, by decide, by decide, fun h g H0 keep hh hg0 ne ok => ?_⟩
  try dsimp only
  have hd : HasDr (Md.law h g (tabsL K)) h g := Md.law_has ne
  have hb : HasTb (Md.law h g (tabsL K)) (tabsL K) := Md.law_tb
  have w0 : Wf (Md.law h g (tabsL K)) (fun _ => none) H0 := ⟨(fun _ _ e => nomatch e), ⟨ok, fun p hp => LamX.TabS.nil (keep _ _ (hT p hp))⟩, fun _ _ => rfl, fun _ _ _ => nofun⟩
  refine s_forD (K := K) (DL.upTo 8) (fun k σ' J' H' => ∃ o, σ' = [some (.ref a), some (.ref h), o, none]) w0 w0.tr (ew_rangeD (n := 8) ev_int (by decide)) (fun J2 H2 _ _ => ⟨none, rfl⟩) (fun i σ' J' H' T xs h _ => h) ?_ ?_
  · rintro k d x σ' J2 J' H' hdk w' t' s1 s2 ⟨o, rfl⟩ ax
    refine s_ifD (b := false) w' (et_eq (et_orD (a := false) (b := false) (et_eq (et_notD (et_BD (K := K) (ev_yes hd rfl))) rfl) fun _ => et_eq (et_orD (a := false) (b := false) (et_eq (et_notD (et_BD (K := K) (ev_yesT hd hb rfl))) rfl) fun _ => et_eq (et_notD (et_BD (K := K) (ev_yesT hd hb rfl))) rfl) rfl) rfl) nofun (fun _ J3 H3 w3 t3 => s_next ⟨J3, w3, t'.trans t3, s2.trans t3.jj, _, rfl⟩)
  rintro σ' J' H' w' t' s1 ⟨o, rfl⟩
  try dsimp only
  refine s_asg (K := K) (P := okWord) w' (ev_pick (P := okWord) hd rfl (Pa := (· = .list [.str "numbr", .str "", .none, .int 0, .str "Number", .tuple [.str "number"], .list [.str "number"], .bool true, .str "number ", .str "frame"])) (ev_lstD (ea_consD ev_str (ea_consD ev_str (ea_consD ev_non (ea_consD ev_int (ea_consD ev_str (ea_consD (ev_tupD (ea_consD ev_str ea_nil)) (ea_consD (ev_lstD (ea_consD ev_str ea_nil)) (ea_consD ev_bl (ea_consD ev_str (ea_consD ev_str ea_nil))))))))))) ?_) fun v3 d3 J3 H3 w3 t3 ⟨hst, hs1, hs2⟩ a3 => ?_
  · rintro d rfl
    refine ⟨_, rfl, by simp, by decide, fun x hx => ?_⟩
    simp only [List.mem_cons, List.not_mem_nil, or_false] at hx
    rcases hx with rfl | rfl | rfl | rfl | rfl | rfl | rfl | rfl | rfl | rfl
    · exact okWord_of (.inl ⟨"numbr", by decide +kernel, rfl⟩) (by decide +kernel) (by decide +kernel)
    · exact okWord_of (.inl ⟨"", by decide +kernel, rfl⟩) (by decide +kernel) (by decide +kernel)
    · exact okWord_of (.inr rfl) (by decide +kernel) (by decide +kernel)
    · exact okWord_of (.inr rfl) (by decide +kernel) (by decide +kernel)
    · exact okWord_of (.inl ⟨"Number", by decide +kernel, rfl⟩) (by decide +kernel) (by decide +kernel)
    · exact okWord_of (.inr rfl) (by decide +kernel) (by decide +kernel)
    · exact okWord_of (.inr rfl) (by decide +kernel) (by decide +kernel)
    · exact okWord_of (.inr rfl) (by decide +kernel) (by decide +kernel)
    · exact okWord_of (.inl ⟨"number ", by decide +kernel, rfl⟩) (by decide +kernel) (by decide +kernel)
    · exact okWord_of (.inl ⟨"frame", by decide +kernel, rfl⟩) (by decide +kernel) (by decide +kernel)
  try dsimp only
  refine s_retD (K := K) (d := .bool true) w3 (ev_eq (ev_opD (dx := nmD d3) (dy := nmD d3) (hear_S (er := er) (xs := [0]) hb (ev_var rfl a3) (ev_tupD (ds := oD [0]) (ea_consD ev_int ea_nil) (by show 1 ≤ 100000; decide)) (fun x hx => by rw [List.mem_singleton.mp hx]; decide) (by decide) hst) (ev_lstD (ea_consD ev_str (ea_consD (ev_var rfl a3) (ea_consD ev_bl ea_nil)))) (od_eq hs1 hs1)) (by rw [hs2])) fun v11 J11 H11 w11 t11 a11 => by rw [da_bl a11]; exact q H11
end
end K02

namespace K02
open PySem PySem.Spec
open PyProof.Rows L2 DL
def bodyC : Stmt → List Stmt
  | .ClassDef _ _ _ b _ _ _ _ _ _ _ => b
  | _ => []
abbrev ini (i : Nat) : Stmt := (bodyC (top i)).getD 0 (.Pass ⟨0, 0, 0, 0⟩)
theorem sc_ok_ini2 : FnScope ["self", "at"] ["self", "at"] (defScope (ini 2)) := ⟨rfl, rfl, rfl, by decide +kernel, rfl, by decide +kernel, by decide +kernel⟩
theorem sc_ok_ini3 : FnScope ["self", "name"] ["self", "name"] (defScope (ini 3)) := ⟨rfl, rfl, rfl, by decide +kernel, rfl, by decide +kernel, by decide +kernel⟩
section
variable {P : Program} {w : World} {K : PySem.W.Frag} {mg : Str → Option Value} {base : Heap} {f C : Addr} {fd : FuncData}
theorem ok_ini2 (F : FunD K "__init__" "InvalidOctets.__init__" (defArgs (ini 2)) (defBody (ini 2)) (defScope (ini 2)) [] [] f fd) (T : OwnE K C exTl "Exception.__new__") : FnOk P w K mg base CX0 1 f fd ["self", "at"] (spIni K C "at") := by
  refine F.ok sc_ok_ini2 (fun vs H Q E h => ?_) (fun cdv A outer s H vs Q E hr h => ?_)
  · obtain ⟨b, v, rfl, _⟩ := h
    rfl
  refine ⟨_, PSs.nox (pss_one (ps_put (nw := "Exception.__new__") exTl_pass rfl (pv 0) (pv 1))), ?_⟩
  have e : start ["self", "at"] vs = vs.map some := by
    obtain ⟨b, v, rfl, _⟩ := h
    rfl
  rw [e]
  exact ini_read T h
theorem ok_ini3 (F : FunD K "__init__" "NoName.__init__" (defArgs (ini 3)) (defBody (ini 3)) (defScope (ini 3)) [] [] f fd) (T : OwnE K C lkTl "LookupError.__new__") : FnOk P w K mg base CX0 1 f fd ["self", "name"] (spIni K C "name") := by
  refine F.ok sc_ok_ini3 (fun vs H Q E h => ?_) (fun cdv A outer s H vs Q E hr h => ?_)
  · obtain ⟨b, v, rfl, _⟩ := h
    rfl
  refine ⟨_, PSs.nox (pss_one (ps_put (nw := "LookupError.__new__") lkTl_pass rfl (pv 0) (pv 1))), ?_⟩
  have e : start ["self", "name"] vs = vs.map some := by
    obtain ⟨b, v, rfl, _⟩ := h
    rfl
  rw [e]
  exact ini_read T h
end
/-! ### the head -/
def dd (x : Str) (i : Nat) : He.DefD := ⟨(x, none), x, x, defArgs (top i), defBody (top i), defScope (top i), [], []⟩
def fn : List He.DefD := [⟨("InvalidOctets", some "__init__"), "__init__", "InvalidOctets.__init__", defArgs (ini 2), defBody (ini 2), defScope (ini 2), [], []⟩, ⟨("NoName", some "__init__"), "__init__", "NoName.__init__", defArgs (ini 3), defBody (ini 3), defScope (ini 3), [], []⟩,
  dd "put_number" 12, dd "get_number" 13, dd "put_integer" 14, dd "get_integer" 15, dd "read_whole" 26, dd "_law_heap" 28, dd "_law_draw" 29, dd "_law_pick" 30, dd "_law_number_at" 31, dd "_law_heard" 32, dd "_law_octets" 33, dd "_law_figures" 34, dd "_law_there_and_back" 35, dd "_law_any_octets" 36, dd "law" 37]
def fa : List He.Fa := [.int "MOST_NUMBER_OCTETS" 9, .free "len", .free "tuple", .free "range", .free "int", .free "abs", .free "repr", .free "min", .free "max", .free "isinstance", .free "str", .free "KeyError",
  .glo "put_number", .glo "get_number", .glo "put_integer", .glo "get_integer", .glo "read_whole", .glo "_law_heap", .glo "_law_draw", .glo "_law_pick", .glo "_law_number_at", .glo "_law_heard", .glo "_law_octets", .glo "_law_figures", .glo "_law_there_and_back", .glo "_law_any_octets", .glo "law", .glo "StoreError", .glo "READERS",
  .exm "InvalidOctets" "InvalidOctets" true, .exm "NoName" "InvalidOctets" false, .exm "NoName" "NoName" true]
def tf : List He.Defn := [("_law_any_octets", none), ("law", none)]
def ts : List He.Tab := [(fun K => He.ga K "READERS", ["number", "integer", "numbers", "key", "text", "value", "writes", "entries", "range"])]
def errs (K : PySem.W.Frag) : Errs := ⟨He.ga K "InvalidOctets", He.ga K "NoName"⟩
def excB (K : PySem.W.Frag) (D : Addr) : Bool := He.eqO (PySem.W.findIn K (.ref D) "__getattribute__") (some (some (.builtin "BaseException.__getattribute__"))) && (He.eqO (PySem.W.findIn K (.ref D) "__getattr__") (some none) && (decide (PySem.W.subIn K (.ref D) (.type "BaseException") = some true) && (PySem.W.hasDictIn K D && (He.eqO (PySem.W.findIn K (.ref D) "__class__") (some (some (.builtin "object.__class__"))) &&
  (He.eqO (PySem.W.specialIn K (.builtin "object.__class__") "__get__") (some (some (.builtin "getset_descriptor.__get__"))) && (decide (PySem.W.takesIn K (.builtin "object.__class__") = some true) && decide (PySem.W.mroIn K D (.type "object") = some true)))))))
theorem excB_ok {K : PySem.W.Frag} {D : Addr} (c : excB K D = true) : L2.ExcC K D := by
  obtain ⟨h1, c⟩ := He.ba c
  obtain ⟨h2, c⟩ := He.ba c
  obtain ⟨h3, c⟩ := He.ba c
  obtain ⟨h4, c⟩ := He.ba c
  obtain ⟨h5, c⟩ := He.ba c
  obtain ⟨h6, c⟩ := He.ba c
  obtain ⟨h7, h8⟩ := He.ba c
  exact ⟨He.eqO_ok h1, He.eqO_ok h2, of_decide_eq_true h3, h4, He.eqO_ok h5, He.eqO_ok h6, of_decide_eq_true h7, of_decide_eq_true h8⟩
def kinB (K : PySem.W.Frag) : Bool := excB K (He.ga K "InvalidOctets") && (excB K (He.ga K "NoName") && (decide (PySem.W.kitOne K (.ref (He.ga K "InvalidOctets")) (.ref (He.ga K "StoreError")) = some true) && (decide (PySem.W.kitOne K (.ref (He.ga K "NoName")) (.type "KeyError") = some true) && decide (PySem.W.kitOne K (.ref (He.ga K "NoName")) (.ref (He.ga K "StoreError")) = some false))))
def rdB (K : PySem.W.Frag) : Bool := He.eqO (PySem.W.nsIn K (He.ga K "READERS") "number") (some (some (.ref (He.ga K "get_number")))) && (He.eqO (PySem.W.nsIn K (He.ga K "READERS") "integer") (some (some (.ref (He.ga K "get_integer")))) && ssS.all fun z => He.eqO (PySem.W.nsIn K (He.ga K "READERS") z) (some none))
def apartB (K : PySem.W.Frag) : Bool := !decide ((He.cT K ("_law_any_octets", none)).2 = (He.cT K ("law", none)).2)
def ex (K : PySem.W.Frag) : Bool := erB K "InvalidOctets" "at" && (erK K "NoName" "name" && (kinB K && (rdB K && apartB K)))
abbrev R : PySem.W.OpenRow := PySem.W.OpenLaw.row PySem.Challenge.rw_spelledways_k02_whole_numbers_as_octets
abbrev hk : PySem.W.Hook := He.hookX 6 fa fn ts tf ex
def ob (s : PySem.W.SharedT) : He.AlX := He.obsX 6 fa fn ts tf ex (HandSHeadRun.getT s)
theorem ob_eq (s : PySem.W.SharedT) : ob s = hk.obs s.abs := He.obsX_eq (HandSHeadRun.getT_eq s)
def looseA : List Str := ["StoreError", "InvalidOctets", "NoName", "KEY_SIGNS", "TEXT_SIGNS", "MOST_KEY_SIGNS", "MOST_TEXT_SIGNS", "GREATEST_VALUE", "MOST_NUMBER_OCTETS", "sign_at", "put_number", "get_number", "put_integer", "get_integer", "get_numbers", "get_key", "get_text"]
def looseB : List Str := ["get_value", "get_pairs", "get_writes", "get_entries", "get_end", "get_range", "READERS", "read_whole", "_law_heap", "_law_draw", "_law_pick", "_law_number_at", "_law_heard", "_law_octets", "_law_figures", "_law_there_and_back", "_law_any_octets"]
def loose : List Str := looseA ++ looseB
/-- a world, one of its answers told apart -/
def setW (w : World) (b : Bool) : World := { w with params := { w.params with followText := fun row => bif row == "special-get-raises" then b else w.params.followText row } }
theorem setW_eq (w : World) : w = setW w (w.params.followText "special-get-raises") := by
  unfold setW
  have e : (fun row => bif row == "special-get-raises" then w.params.followText "special-get-raises" else w.params.followText row) = w.params.followText := by
    funext row
    cases h : (row == "special-get-raises") with
    | true => rw [eq_of_beq h]; rfl
    | false => rfl
  rw [e]
theorem runB (w : World) (b : Bool) : HandSHeadRun.RunEq R (PySem.W.view R.prog [37]) hk ob 8000 loose (setW w b) := by
  intro os
  cases b <;> kernel_rfl
theorem run (w : World) : HandSHeadRun.RunEq R (PySem.W.view R.prog [37]) hk ob 8000 loose w := by
  rw [setW_eq w]
  exact runB w _
section
variable {P : Program} {w : World} {K : PySem.W.Frag} {h base : Heap} {mg : Str → Option Value}
theorem bd {x q : Str} {params : Arguments} {body : List Stmt} {scope : Scope} {f : Addr} {fd : FuncData} {ps : List Str} (F : FunD K x q params body scope [] [] f fd)
    (hh : ∀ (kV doc pm : Value) (an : Option Addr) (cdv ct : Value) (us : List Value), us.length = ps.length → bindArgs (PySem.W.fnOf x q params body scope .none kV doc pm an cdv ct) ⟨us, []⟩ = pure (ps.zip us)) : Binds K fd ps [] := F.bindsN hh
theorem facts {f : Addr} (X : K.In h) (G : h.Ns mainGlobals mg) (hfa : mg ("law" : Str) = some (.ref f)) (c : He.SaysD fa fn K) (kd : ∃ es n, KDict K w (He.ga K "READERS") es n) (ce : ex K = true) :
    ∃ fd : FuncData, (∀ (s : Shared) (v : Value), BindsTo s fd ⟨[v], []⟩ [("_law_script", v)]) ∧ ∀ base : Heap, K.In base → base.Ns mainGlobals mg → (∀ p ∈ tf.map (He.cT K), LamX.TabB base mg p.1 p.2) → FnG P w K mg base CX0 9 f fd ["_law_script"] (spLaw K) := by
  obtain ⟨es, en, KD⟩ := kd
  obtain ⟨ce1, ce⟩ := He.ba ce
  obtain ⟨ce2, ce⟩ := He.ba ce
  obtain ⟨ce3, ce⟩ := He.ba ce
  obtain ⟨ce4, ce5⟩ := He.ba ce
  have ap : (He.cT K ("_law_any_octets", none)).2 ≠ (He.cT K ("law", none)).2 := by
    have z : (!decide ((He.cT K ("_law_any_octets", none)).2 = (He.cT K ("law", none)).2)) = true := ce5
    simpa using z
  obtain ⟨r1, r⟩ := He.ba ce4
  obtain ⟨r2, r3⟩ := He.ba r
  have gl : ∀ (i : Nat) (x : Str), fa[i]? = some (.glo x) → mg x = some (.ref (He.ga K x)) := fun i x e => He.glo_ok X G (c.fact i e)
  have fr : ∀ (i : Nat) (x : Str), fa[i]? = some (.free x) → mg x = none := fun i x e => He.free_ok X G (c.fact i e)
  have T : Fx mg := ⟨He.int_ok X G (c.fact 0 (f := .int "MOST_NUMBER_OCTETS" 9) rfl), fr 1 _ rfl, fr 2 _ rfl, fr 3 _ rfl, fr 4 _ rfl, fr 5 _ rfl, fr 6 _ rfl, fr 7 _ rfl, fr 8 _ rfl, fr 9 _ rfl⟩
  obtain ⟨fd0, F0⟩ := c.def_ 0 rfl
  obtain ⟨fd1, F1⟩ := c.def_ 1 rfl
  obtain ⟨fd2, F2⟩ := c.def_ 2 rfl
  obtain ⟨fd3, F3⟩ := c.def_ 3 rfl
  obtain ⟨fd4, F4⟩ := c.def_ 4 rfl
  obtain ⟨fd5, F5⟩ := c.def_ 5 rfl
  obtain ⟨fd6, F6⟩ := c.def_ 6 rfl
  obtain ⟨fd7, F7⟩ := c.def_ 7 rfl
  obtain ⟨fd8, F8⟩ := c.def_ 8 rfl
  obtain ⟨fd9, F9⟩ := c.def_ 9 rfl
  obtain ⟨fd10, F10⟩ := c.def_ 10 rfl
  obtain ⟨fd11, F11⟩ := c.def_ 11 rfl
  obtain ⟨fd12, F12⟩ := c.def_ 12 rfl
  obtain ⟨fd13, F13⟩ := c.def_ 13 rfl
  obtain ⟨fd14, F14⟩ := c.def_ 14 rfl
  obtain ⟨fd15, F15⟩ := c.def_ 15 rfl
  obtain ⟨fd16, F16⟩ := c.def_ 16 rfl
  have e := hfa.symm.trans (gl 26 "law" rfl)
  cases e
  have b := FunD.bindsA (ps := ["_law_script"]) F16 fun _ _ _ _ _ _ us hl => match us, hl with | [_], _ => rfl
  refine ⟨fd16, fun s v => b s [v] rfl, fun base XB GB TB => ?_⟩
  have b0 : Binds K fd0 ["self", "at"] [] := bd F0 fun _ _ _ _ _ _ us hl => match us, hl with | [_, _], _ => rfl
  have b1 : Binds K fd1 ["self", "name"] [] := bd F1 fun _ _ _ _ _ _ us hl => match us, hl with | [_, _], _ => rfl
  have R0 : Er P w K mg base "InvalidOctets" (errs K).io "at" := er_of ce1 X G (ok_ini2 F0 (erB_own ce1)) b0
  have R1 : Er P w K mg base "NoName" (errs K).nn "name" := erK_of ce2 X G (ok_ini3 F1 (erK_own ce2)) b1
  obtain ⟨k1, k⟩ := He.ba ce3
  obtain ⟨k2, k⟩ := He.ba k
  obtain ⟨k3, k⟩ := He.ba k
  obtain ⟨k4, k5⟩ := He.ba k
  have kn : Kin K (errs K) (He.ga K "StoreError") := ⟨He.exm_ok (c.fact 29 (f := .exm "InvalidOctets" "InvalidOctets" true) rfl), He.exm_ok (c.fact 30 (f := .exm "NoName" "InvalidOctets" false) rfl), He.exm_ok (c.fact 31 (f := .exm "NoName" "NoName" true) rfl), excB_ok k1, excB_ok k2, of_decide_eq_true k3, of_decide_eq_true k4, of_decide_eq_true k5⟩
  have O2 := ok_put_number (P := P) (w := w) (mg := mg) (base := base) F2 T
  have B2 : Binds K fd2 ["number"] [] := bd F2 fun _ _ _ _ _ _ us hl => match us, hl with | [_], _ => rfl
  have C2 : Ca P w K mg base CX0 1 "put_number" ["number"] (spPutN K) := ⟨_, fd2, O2, gl 12 _ rfl, F2.kp, B2⟩
  have O3 := ok_get_number (P := P) (w := w) (mg := mg) (base := base) F3 T R0
  have B3 : Binds K fd3 ["octets", "at"] [] := bd F3 fun _ _ _ _ _ _ us hl => match us, hl with | [_, _], _ => rfl
  have C3 : Ca P w K mg base (L2.CX P w) 3 "get_number" ["octets", "at"] (spGetN K (errs K)) := ⟨_, fd3, O3, gl 13 _ rfl, F3.kp, B3⟩
  have O4 := ok_put_integer (P := P) (w := w) (mg := mg) (base := base) F4 C2
  have B4 : Binds K fd4 ["integer"] [] := bd F4 fun _ _ _ _ _ _ us hl => match us, hl with | [_], _ => rfl
  have C4 : Ca P w K mg base CX0 2 "put_integer" ["integer"] (spPutI K) := ⟨_, fd4, O4, gl 14 _ rfl, F4.kp, B4⟩
  have O5 := ok_get_integer (P := P) (w := w) (mg := mg) (base := base) F5 C3
  have B5 : Binds K fd5 ["octets", "at"] [] := bd F5 fun _ _ _ _ _ _ us hl => match us, hl with | [_, _], _ => rfl
  have C5 : Ca P w K mg base (L2.CX P w) 4 "get_integer" ["octets", "at"] (spGetI K (errs K)) := ⟨_, fd5, O5, gl 15 _ rfl, F5.kp, B5⟩
  have AV : ∀ f sp, Rdrs K (errs K) (He.ga K "get_number") (He.ga K "get_integer") f sp → ∃ (fd : FuncData) (ps : List Str), FnOk P w K mg base (L2.CX P w) 4 f fd ps sp ∧ PySem.W.keepIn K (.ref f) = true ∧ Binds K fd ps [] := by
    rintro f sp (⟨rfl, rfl⟩ | ⟨rfl, rfl⟩)
    · exact ⟨fd3, _, O3.mono (by decide), F3.kp, B3⟩
    · exact ⟨fd5, _, O5, F5.kp, B5⟩
  have O6 := ok_read_whole (P := P) (w := w) (mg := mg) (base := base) F6 T (fr 10 _ rfl) (gl 28 _ rfl) KD (He.eqO_ok r1) (He.eqO_ok r2) (fun z hz => He.eqO_ok (List.all_eq_true.mp r3 z hz)) AV R0 R1
  have B6 : Binds K fd6 ["word", "octets"] [] := bd F6 fun _ _ _ _ _ _ us hl => match us, hl with | [_, _], _ => rfl
  have C6 : Ca P w K mg base (L2.CX P w) 5 "read_whole" ["word", "octets"] (spWhole K (errs K)) := ⟨_, fd6, O6, gl 16 _ rfl, F6.kp, B6⟩
  have O7 := ok__law_heap (P := P) (w := w) (mg := mg) (base := base) F7 T
  have B7 : Binds K fd7 ["_law_script", "_law_base"] [] := bd F7 fun _ _ _ _ _ _ us hl => match us, hl with | [_, _], _ => rfl
  have C7 : Ca P w K mg base CX0 1 "_law_heap" ["_law_script", "_law_base"] (spHeap K) := ⟨_, fd7, O7, gl 17 _ rfl, F7.kp, B7⟩
  have O8 := ok__law_draw (P := P) (w := w) (mg := mg) (base := base) F8 T
  have B8 : Binds K fd8 ["_law_heap_here", "_law_many"] [] := bd F8 fun _ _ _ _ _ _ us hl => match us, hl with | [_, _], _ => rfl
  have C8 : Ca P w K mg base CX0 1 "_law_draw" ["_law_heap_here", "_law_many"] (spDr K) := ⟨_, fd8, O8, gl 18 _ rfl, F8.kp, B8⟩
  have O9 := ok__law_pick (P := P) (w := w) (mg := mg) (base := base) F9 T C8
  have B9 : Binds K fd9 ["_law_heap_here", "_law_some"] [] := bd F9 fun _ _ _ _ _ _ us hl => match us, hl with | [_, _], _ => rfl
  have C9 : Ca P w K mg base CX0 2 "_law_pick" ["_law_heap_here", "_law_some"] (spPick K) := ⟨_, fd9, O9, gl 19 _ rfl, F9.kp, B9⟩
  have O10 := ok__law_number_at (P := P) (w := w) (mg := mg) (base := base) F10 T
  have B10 : Binds K fd10 ["_law_octets_here", "_law_at"] [] := bd F10 fun _ _ _ _ _ _ us hl => match us, hl with | [_, _], _ => rfl
  have C10 : Ca P w K mg base CX0 1 "_law_number_at" ["_law_octets_here", "_law_at"] (spNat K) := ⟨_, fd10, O10, gl 20 _ rfl, F10.kp, B10⟩
  have O12 := ok__law_octets (P := P) (w := w) (mg := mg) (base := base) F12 T C8 C9
  have B12 : Binds K fd12 ["_law_heap_here", "_law_many"] [] := bd F12 fun _ _ _ _ _ _ us hl => match us, hl with | [_, _], _ => rfl
  have C12 : Ca P w K mg base CX0 3 "_law_octets" ["_law_heap_here", "_law_many"] (spOcts K) := ⟨_, fd12, O12, gl 22 _ rfl, F12.kp, B12⟩
  have O13 := ok__law_figures (P := P) (w := w) (mg := mg) (base := base) F13 T
  have B13 : Binds K fd13 ["_law_number"] [] := bd F13 fun _ _ _ _ _ _ us hl => match us, hl with | [_], _ => rfl
  have C13 : Ca P w K mg base CX0 1 "_law_figures" ["_law_number"] (spFigL K) := ⟨_, fd13, O13, gl 23 _ rfl, F13.kp, B13⟩
  have D2 : CaK P w K mg base CX0 1 "put_number" ["number"] 0 ["number"] (spPutN K) := ⟨_, fd2, O2, gl 12 _ rfl, F2.kp, fun_kbN F2 0 ["number"] fun _ _ _ _ _ _ us ws h1 h2 => match us, ws, h1, h2 with | [], [_], _, _ => rfl⟩
  have D4 : CaK P w K mg base CX0 2 "put_integer" ["integer"] 0 ["integer"] (spPutI K) := ⟨_, fd4, O4, gl 14 _ rfl, F4.kp, fun_kbN F4 0 ["integer"] fun _ _ _ _ _ _ us ws h1 h2 => match us, ws, h1, h2 with | [], [_], _, _ => rfl⟩
  have D3 : CaR P w K mg base (L2.CX P w) 3 "get_number" ["octets", "at"] ["at", "octets"] (spGetN K (errs K)) := ⟨_, fd3, O3, gl 13 _ rfl, F3.kp, fun_kbR F3 ["at", "octets"] fun _ _ _ _ _ _ ws h2 => match ws, h2 with | [_, _], _ => rfl⟩
  have D5 : CaR P w K mg base (L2.CX P w) 4 "get_integer" ["octets", "at"] ["at", "octets"] (spGetI K (errs K)) := ⟨_, fd5, O5, gl 15 _ rfl, F5.kp, fun_kbR F5 ["at", "octets"] fun _ _ _ _ _ _ ws h2 => match ws, h2 with | [_, _], _ => rfl⟩
  have D6 : CaR P w K mg base (L2.CX P w) 5 "read_whole" ["word", "octets"] ["octets", "word"] (spWhole K (errs K)) := ⟨_, fd6, O6, gl 16 _ rfl, F6.kp, fun_kbR F6 ["octets", "word"] fun _ _ _ _ _ _ ws h2 => match ws, h2 with | [_, _], _ => rfl⟩
  have b11 : Binds K fd11 ["_law_work"] [] := bd F11 fun _ _ _ _ _ _ us hl => match us, hl with | [_], _ => rfl
  have mh := gl 21 "_law_heard" rfl
  have mS := gl 27 "StoreError" rfl
  have bK := fr 11 "KeyError" rfl
  have O14 := ok_there (P := P) (w := w) (mg := mg) (base := base) F14 T C8 C9 C12 C13 C2 D2 C4 D4 C3 D5 C6 D6
  have C14 : CaG P w K mg base CX0 7 "_law_there_and_back" ["_law_heap_here"] (spYes K) := ⟨_, fd14, O14, gl 24 _ rfl, F14.kp, bd F14 fun _ _ _ _ _ _ us hl => match us, hl with | [_], _ => rfl⟩
  have m1 : He.cT K ("_law_any_octets", none) ∈ tf.map (He.cT K) := List.mem_cons_self ..
  have m2 : He.cT K ("law", none) ∈ tf.map (He.cT K) := List.mem_cons_of_mem _ (List.mem_cons_self ..)
  have u1 : ∀ p ∈ tabsL K, p.1 = (He.cT K ("_law_any_octets", none)).2 → p.2 = qLam "_law_any_octets" := fun p hp e => by
    simp only [tabsL, List.mem_cons, List.not_mem_nil, or_false] at hp
    rcases hp with rfl | rfl
    · rfl
    · exact absurd e.symm ap
  have u2 : ∀ p ∈ tabsL K, p.1 = (He.cT K ("law", none)).2 → p.2 = qLam "law" := fun p hp e => by
    simp only [tabsL, List.mem_cons, List.not_mem_nil, or_false] at hp
    rcases hp with rfl | rfl
    · exact absurd e ap
    · rfl
  have O15 := ok_any (P := P) (w := w) (mg := mg) (base := base) (TT := tabsL K) F15 T C8 C9 C12 C10 C2 C3 D3 C5 C6 F11 mh b11 R0 R1 mS bK kn (TB _ m1) (List.mem_cons_self ..) u1
  have C15 : CaG P w K mg base CX0 8 "_law_any_octets" ["_law_heap_here"] (spYesT K (tabsL K)) := ⟨_, fd15, O15, gl 25 _ rfl, F15.kp, bd F15 fun _ _ _ _ _ _ us hl => match us, hl with | [_], _ => rfl⟩
  exact ok_law F16 T C7 C9 C6 C14 C15 F11 mh b11 R0 R1 mS bK kn (TB _ m2) u2
end
end K02
open PySem PySem.W PySem.Calls PyProof.Rows
theorem PySem.Challenge.cw_spelledways_k02_whole_numbers_as_octets_holds : PySem.Challenge.rw_spelledways_k02_whole_numbers_as_octets.Holds := by
  w_on; o_law
  refine HandSHeadRun.head_any (r := OpenLaw.row PySem.Challenge.rw_spelledways_k02_whole_numbers_as_octets) (q := view (OpenLaw.row PySem.Challenge.rw_spelledways_k02_whole_numbers_as_octets).prog [37]) (H := K02.hk) (ob := K02.ob) (M := 8000) (loose := K02.loose) (d := HandSHeadRun.topDef (OpenLaw.row PySem.Challenge.rw_spelledways_k02_whole_numbers_as_octets).prog 37) (kwd := []) K02.ob_eq
    (by kernel_rfl) (fun s => by kernel_rfl) K02.run (by kernel_rfl) (by kernel_rfl) (by kernel_rfl) (by rfl) (by first | assumption | decide +kernel) (by decide +kernel) ⟨rfl, rfl, rfl, rfl, rfl, by decide +kernel⟩ ?hw ?hc
  case hw => w_witness2
  case hc =>
    refine DL.walk_gT (l := PySem.Challenge.rw_spelledways_k02_whole_numbers_as_octets) (n := 63) (k := 9) (x := "_law_script") (CX := L2.CX0) rfl (by decide) (by kernel_rfl) ⟨rfl, by decide, by decide⟩ ?F (fun _ _ _ _ z => z)
    intro w mg fa h Y G hmg0
    obtain ⟨K, KX, c⟩ := Y
    have hmg : mg ("law" : PySem.Str) = some (.ref fa) := by
      have e : (HandSHeadRun.topDef (OpenLaw.row PySem.Challenge.rw_spelledways_k02_whole_numbers_as_octets).prog 37).name = ("law" : PySem.Str) := by kernel_rfl
      rw [← e]
      exact hmg0
    obtain ⟨fd, hb, hF⟩ := K02.facts (P := (PySem.Challenge.rw_spelledways_k02_whole_numbers_as_octets).prog) (w := w) KX G hmg c.t.d (c.t.tab 0) c.more
    have each : ∀ {Q : Addr × Addr → Prop}, (∀ p ∈ K02.tf, Q (He.cT K p)) → ∀ p ∈ K02.tf.map (He.cT K), Q p := fun {Q} hQ p hp => by
      obtain ⟨d, hd, e⟩ := List.mem_map.mp hp
      rw [← e]
      exact hQ d hd
    refine ⟨K, fd, K02.spLaw K, K02.tf.map (He.cT K), KX, each c.empty, each c.out, each c.hd, hb, fun H a ns hl hO hS => ⟨a, ns, rfl, hS, fun p hp => ?_, fun _ => rfl⟩, hF⟩
    simp only [K02.tabsL, List.mem_cons, List.not_mem_nil, or_false] at hp
    rcases hp with rfl | rfl
    · exact hO.1 _ (List.mem_map.mpr ⟨_, List.mem_cons_self .., rfl⟩)
    · exact hO.1 _ (List.mem_map.mpr ⟨_, List.mem_cons_of_mem _ (List.mem_cons_self ..), rfl⟩)

